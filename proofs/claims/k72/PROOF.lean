import PyProof.Rows.All
import Wide.All
import OpenK.AllK
import Wide.FinOn
import HandS.ForMost
import HandS.ForExc
import HandS.TryMany
import HandS.TryElse
import HandS.ExcOwn
import HandS.IsInst
import HandS.Defaults
import HandS.Conv
import HandS.Codes
import HandS.Deep
import HandS.Flow
import HandS.DictTup
import HandS.Wide
import KE.GoesMore
import HandS.TupAny
import HandS.Style
import PySem.Challenge.RW_nobodymeets_k72_whole_letters_that_stay
set_option Elab.async false
set_option linter.all false
set_option maxRecDepth 100000
set_option maxHeartbeats 2000000
/-! Own exception classes over a base that is itself a bare class over Exception; __init__ stores its one argument. -/
namespace PySem
namespace TErr
open PySem.W PySem.Calls PyProof.Rows PySem.HandSPX
open Builtin Builtin.ObjectAttr
/-- the built-in end of the chain of bases -/
abbrev endE : List Value := [.type "Exception", .type "BaseException", .type "object"]
def ownE : List Value → Bool
  | .ref _ :: r => ownE r
  | l => l == endE
theorem ownE_cases : ∀ l : List Value, ownE l = true → (∃ c r, l = .ref c :: r ∧ ownE r = true) ∨ l = endE := by
  intro l e
  cases l with
  | nil => exact .inr (beq_iff_eq.mp e)
  | cons a r =>
    cases a <;> first | exact .inl ⟨_, _, rfl, e⟩ | exact .inr (beq_iff_eq.mp e)
theorem ownE_pass (self : Value) : ∀ l : List Value, ownE l = true → refuseLoop self "__setattr__" l = pure () := by
  intro l
  induction l with
  | nil => intro e; exact absurd e (by decide)
  | cons a r ih =>
    intro e
    rcases ownE_cases (a :: r) e with ⟨c, r', q, h⟩ | q
    · injection q with q1 q2
      subst q1 q2
      rw [refuseLoop_ref]; exact ih h
    · rw [q]; exact F.store_Exception.passes self
theorem ownE_has (X : String) : ∀ l : List Value, ownE l = true → l.contains (.type X) = endE.contains (.type X) := by
  intro l
  induction l with
  | nil => intro e; exact absurd e (by decide)
  | cons a r ih =>
    intro e
    rcases ownE_cases (a :: r) e with ⟨c, r', q, h⟩ | q
    · injection q with q1 q2
      subst q1 q2
      rw [List.contains_cons, ih h]; rfl
    · rw [q]
theorem ownE_ne {l : List Value} (e : ownE l = true) : l.isEmpty = false := by
  cases l with
  | nil => exact absurd e (by decide)
  | cons _ _ => rfl

section
variable {prog : Program} {w : World} {A : Around} {E : Value → Shared → Prop} {R : Result → Shared → Prop} {hp : Heap} {g : Array GenState} {d : Drawn} {t : Nat} {os : OsState}
/-- the first store of an attribute on such an exception -/
theorem storeE {K : W.Frag} {name : Str} {tk : Tok} {v : Value} {x C : Addr} {fv : Array Value} {cd : ClassData}
    (X : K.In hp) (hx : hp.get? x = some { cls := .ref C, data := .fields fv }) (hcd : W.clsIn K C = some cd) (hm : ownE cd.mro = true) (hh : cd.hasDict = true) (ha : W.findIn K (.ref C) name = some none)
    (hq : ∀ h' tk' dx, (∀ b o, b ≠ x → hp.get? b = some o → h'.get? b = some o) → hp.objs.size ≤ dx → dx ≠ x → h'.get? x = some { cls := .ref C, dict := some dx, data := .fields fv } →
      h'.Ns1 dx (fun y => if y = name then some v else none) → R (.ok (.ret .none)) ⟨h', g, d, tk', os⟩) :
    codeAny (model prog w) A (.call (.builtin "object.__setattr__") ⟨[.ref x, .str name tk, v], []⟩) R ⟨hp, g, d, t, os⟩ := by
  have I : W.InstAt hp x { cls := .ref C, data := .fields fv } C none := ⟨hx, rfl, rfl, trivial⟩
  have SF := F.store_object
  have ne := ownE_ne hm
  have hob : cd.mro.contains (.type "object") = true := (ownE_has "object" _ hm).trans (by decide +kernel)
  have hxs : x ≠ hp.objs.size := Nat.ne_of_lt (Heap.lt_size hx)
  have sub : W.Looks (model prog w) hp (isInstance (.ref x) (.type "object")) true := I.type.andThen (W.looks_mroIn X (by unfold W.mroIn; rw [hcd, Option.bind_some, if_neg (by rw [ne]; decide), hob]))
  refine codeAny_call_builtin SF.slot.plain SF.entry (@W.check_slot (model prog w) _ _ ⟨hp, g, d, t, os⟩ "object.__setattr__" "object" "__setattr__" (.ref x) [.str name tk, v] [] _ SF.kind SF.split sub (SF.args (.ref x) (.str name tk) v) ?_)
  have hmr : W.Looks (model prog w) hp (mroOf (.ref C)) cd.mro := (W.looks_clsIn X hcd).andThen .now
  have L3 : W.Looks (model prog w) hp (storeTaker? none) none := .now
  have hcls : W.Looks (model prog w) hp (classData C) cd := W.looks_clsIn X hcd
  rw [W.osa_eq, refuse_eq]
  refine wpAny_bind (wpAny_bind (I.type.at (wpAny_bind (hmr.at ?_))))
  rw [ownE_pass _ _ hm]
  refine wpAny_pure (wpAny_bind (I.type.at (wpAny_bind ((W.looks_findIn X ha).at (wpAny_bind (L3.at ?_))))))
  show wpAny _ _ (storeInOwnDict (.ref x) (.ref C) (.str name tk) name v false) _ _ _
  obtain ⟨nm, bs, mro, ns, qn, hd, sn, sb, ab, col, del⟩ := cd
  dsimp only at hh
  subst hh
  unfold storeInOwnDict ownDictForStores
  repeat (first | with_reducible refine HandSPX.store_in_new ?_ ?_ | with_reducible refine wpAny_loadPart_at hx ?_ | with_reducible refine hcls.at ?_ | wp_step)
  · exact ⟨_, #[], _, (Heap.get?_update_ne _ _ _ _ hxs.symm).trans (Heap.get?_push_at rfl rfl), rfl, fun e he => absurd he (by simp), fun _ => rfl⟩
  · intro h' tk' hn' hs
    have hx₁ : (hp.push { cls := .type "dict", data := .dict #[] }).get? x = some { cls := .ref C, data := .fields fv } := Heap.get?_push_of_some _ hx
    refine hq h' tk' hp.objs.size (fun b o hb ho => ?_) (Nat.le_refl _) hxs.symm ?_ hn'
    · exact (hs.2 b (Nat.ne_of_lt (Heap.lt_size ho))).trans ((Heap.get?_update_ne _ _ _ _ hb).trans (Heap.get?_push_of_some _ ho))
    · exact (hs.2 x hxs).trans (Heap.get?_update_self _ hx₁ rfl)
end

/-! ### the text of __init__ (self.f = f), f one of three names -/
def iA (f : String) (p1 p2 : Pos) : Arguments := { posonlyargs := [], args := [{ arg := "self", annotation := none, pos := p1 }, { arg := PySem.Str.ofString f, annotation := none, pos := p2 }], vararg := none, kwonlyargs := [], kw_defaults := [], kwarg := none, defaults := [] }
def iB (f : String) (q1 q2 q3 q4 : Pos) : List Stmt := [.Assign [.Attribute (.Name "self" q1) (PySem.Str.ofString f) q2] (.Name (PySem.Str.ofString f) q3) q4]
def iS (f : String) : Scope := { kind := .function, names := [(PySem.Str.ofString "self", .local), (PySem.Str.ofString f, .local)], isGenerator := false, isCoroutine := false, more := [] }
def Fld (f : String) : Prop := f = "at" ∨ f = "word" ∨ f = "robot"
/-- what the written part says of such a class, at C, its __init__ at fI -/
structure ETxt (K : Frag) (mg : Str → Option Value) (nm f : String) (C fI : Addr) : Prop where
  fld : Fld f
  gC : mg (PySem.Str.ofString nm) = some (.ref C)
  cls : ∃ nm q N bs bm sn sub ab col dd k0 k1 k2 k3 k5, K.lookup C = some (excClassObj nm q C N bs bm true sn sub ab col dd k0 k1 k2 k3 k5 "Exception.__new__") ∧ ownE bm = true
  sa : findIn K (.ref C) "__setattr__" = some (some (.builtin "object.__setattr__"))
  ga : findIn K (.ref C) "__getattribute__" = some (some (.builtin "BaseException.__getattribute__"))
  gg : findIn K (.ref C) "__getattr__" = some none
  noN : findIn K (.ref C) (PySem.Str.ofString f) = some none
  iC : findIn K (.ref C) "__init__" = some (some (.ref fI))
  tC : typeIn K (.ref fI) = some (.type "function")
  kC : keepIn K (.ref C) = true
  exC : subIn K (.ref C) (.type "BaseException") = some true
  tyC : typeIn K (.ref C) = some (.type "type")
  hdC : hasDictIn K C = true
  fn : ∃ (qn : Str) (oc : Value) (od : Option Addr) (doc pm : Value) (an : Option Addr) (cdv ct : Value) (osl : Array (Option Value)) (p1 p2 q1 q2 q3 q4 : Pos),
    K.lookup fI = some ⟨oc, od, .func (fnOf "__init__" qn (iA f p1 p2) (iB f q1 q2 q3 q4) (iS f) .none .none doc pm an cdv ct), osl⟩ ∧ codeIn K cdv qn = true
theorem one_le (v : Value) : [v].length ≤ sizeLine := by
  rw [sizeLine_eq]
  exact (by decide : 1 ≤ 16777216)
theorem ldE {M : Model} {s : Shared} {name : Str} {scope : Scope} {L a : Addr} {cd : Value} {m : Str → Option Value} {x : Str} {pos : Pos} {v : Value} {Q : Value → Shared → Prop} {A : Around} {E : Value → Shared → Prop} (hn : s.heap.Ns L m) (hv : m x = some v) (h : Q v s)
    (hk : scope.kind = .function := by rfl) (hl : (envOfC name scope L a cd).kindOf x = some .local := by rfl) (hd : (x == ("__debug__" : Str)) = false := by decide) :
    wpAny M A (eval (.Name x pos) (envOfC name scope L a cd)) Q E s := wpAny_Name (wpAny_loadName_local hk hl hn hv h) hd
/-- behind __init__ of a fresh exception at x -/
structure InitE (f : String) (h h' : Heap) (x C dx t1 : Addr) (v : Value) : Prop where
  keep : ∀ b o, b ≠ x → h.get? b = some o → h'.get? b = some o
  obj : h'.get? x = some { cls := .ref C, dict := some dx, data := .fields #[.ref t1, .none, .none, .none, .bool false, .none] }
  dbig : h.objs.size ≤ dx
  dne : dx ≠ x
  ns : h'.Ns1 dx (fun y => if y = PySem.Str.ofString f then some v else none)
/-- a made one -/
structure MadeE (f : String) (h h' : Heap) (e C d : Addr) (v : Value) : Prop where
  keep : ∀ b o, h.get? b = some o → h'.get? b = some o
  new : h.objs.size ≤ e
  obj : ∃ oe vs, h'.get? e = some oe ∧ oe.cls = .ref C ∧ oe.dict = some d ∧ oe.data = .fields vs ∧ vs[1]? = some .none
  dbig : h.objs.size ≤ d
  dne : d ≠ e
  ns : h'.Ns1 d (fun y => if y = PySem.Str.ofString f then some v else none)
section
variable {prog : Program} {w : World} {A : Around} {E : Value → Shared → Prop} {R : Result → Shared → Prop} {s : Shared} {K : Frag} {mg : Str → Option Value} {C fI : Addr} {nm f : String}
theorem initE (T : ETxt K mg nm f C fI) {x t0 : Addr} {v : Value} (X : K.In s.heap) (hlim : s.heap.NoLimit) (hx : s.heap.get? x = some (excO C t0)) (hnx : K.lookup x = none) (hroom : A.depth < recursionLimit)
    (hq : ∀ h' tk dx, InitE f s.heap h' x C dx t0 v → R (.ok (.ret .none)) { s with heap := h', toks := tk }) :
    codeAny (model prog w) A (.call (.ref fI) ⟨[.ref x, v], []⟩) R s := by
  obtain ⟨qn, oc, od, doc, pm, an, cdv, ct, osl, p1, p2, q1, q2, q3, q4, ho, hcd⟩ := T.fn
  obtain ⟨nm', q, N, bs, bm, sn, sub, ab, col, dd, k0, k1, k2, k3, k5, hC, hbm⟩ := T.cls
  have hcl : clsIn K C = some { name := nm', bases := bs, mro := .ref C :: bm, ns := N, qualname := q, hasDict := true, slotNames := sn, subclasses := sub, abstract := ab, collection := col, hasDel := false } := by unfold clsIn; rw [hC] <;> rfl
  have sa := T.sa
  have noN := T.noN
  rcases T.fld with rfl | rfl | rfl
  all_goals
    refine Att.call_fn (binds := [("self", .ref x), (_, v)]) X hlim ho hcd hroom (BindsTo.of_eq (by first | rfl | with_unfolding_all rfl)) (by first | rfl | decide | with_unfolding_all rfl) (fun s₁ IC => ?_) rfl rfl rfl
    obtain ⟨h₁, tk₁, rfl⟩ := IC.toInCall.same
    have k : ∀ b o, s.heap.get? b = some o → h₁.get? b = some o := IC.toInCall.keep
    have hn := IC.toInCall.ns
    have X₁ : K.In h₁ := X.keeps k
    have hx₁ := k _ _ hx
    show wpAny _ _ (execs _ _) _ _ _
    refine wpAny_execs_cons (plainObj_wpAny_Assign_Attribute ?_)
    refine ldE (v := v) hn (by first | rfl | with_unfolding_all rfl | kernel_rfl) (ldE (v := .ref x) hn (by first | rfl | with_unfolding_all rfl | kernel_rfl) ?_)
    refine set_plain X₁ (ox := excO C t0) (od := none) ⟨hx₁, rfl, rfl, trivial⟩ sa ?_
    refine storeE X₁ hx₁ hcl (show ownE (.ref C :: bm) = true from hbm) rfl noN (fun h₃ tk₃ dx k₃ dn dne hx₃ hn₃ => ?_)
    show wpAny _ _ (execs _ _) _ _ _
    have z : s.heap.objs.size < h₁.objs.size := hn.lt
    exact wpAny_execs_nil (hq h₃ tk₃ dx ⟨fun b o hb e => k₃ b o hb (k b o e), hx₃, Nat.le_of_lt (Nat.lt_of_lt_of_le z dn), dne, hn₃⟩)
theorem madeE (T : ETxt K mg nm f C fI) {v : Value} (X : K.In s.heap) (hlim : s.heap.NoLimit) (hroom : A.depth + 1 < recursionLimit)
    (hq : ∀ h' tk e d, MadeE f s.heap h' e C d v → R (.ok (.ret (.ref e))) { s with heap := h', toks := tk }) :
    codeAny (model prog w) A (.call (.ref C) ⟨[v], []⟩) R s := by
  obtain ⟨nm', q, N, bs, bm, sn, sub, ab, col, dd, k0, k1, k2, k3, k5, hC, hbm⟩ := T.cls
  obtain ⟨hp, g, dr, tk, os⟩ := s
  have k : ∀ b o, hp.get? b = some o → ((hp.push (kdv_tup [v])).push (excO C hp.objs.size)).get? b = some o := fun b o e => Heap.get?_push_of_some _ (Heap.get?_push_of_some _ e)
  have hget : ((hp.push (kdv_tup [v])).push (excO C hp.objs.size)).get? (hp.objs.size + 1) = some (excO C hp.objs.size) := by heap_get
  have hnx : K.lookup (hp.objs.size + 1) = none := by
    cases e : K.lookup (hp.objs.size + 1) with
    | none => rfl
    | some o =>
      have z : hp.get? (hp.objs.size + 1) = some o := X _ _ e
      exact absurd (Nat.lt_of_succ_lt (Heap.lt_size z)) (Nat.lt_irrefl _)
  refine call_own F.excBase_Exception (fun Y => (ownE_has Y bm hbm)) (X _ _ hC) (looks_findIn X T.iC) (fun self => bind_fn X self T.tC) (one_le v) ?_
  refine initE (s := ⟨(hp.push (kdv_tup [v])).push (excO C hp.objs.size), g, dr, tk, os⟩) T (X.keeps k) (hlim.keeps k) hget hnx ?_ fun h' tk' dx ⟨k', hx, dn, dne, hns⟩ => ?_
  · show A.depth + 1 < recursionLimit
    exact hroom
  · have old : ∀ b o, hp.get? b = some o → h'.get? b = some o := fun b o e => k' b o (Nat.ne_of_lt (Nat.lt_succ_of_lt (Heap.lt_size e))) (k b o e)
    have z : hp.objs.size + 1 + 1 ≤ dx := by
      first
        | (simpa only [Heap.size_push] using dn)
        | exact dn
        | (have q := dn; rw [Heap.size_push, Heap.size_push] at q; exact q)
    exact ⟨rfl, hq h' tk' (hp.objs.size + 1) dx ⟨old, Nat.le_succ _, ⟨_, _, hx, rfl, rfl, rfl, rfl⟩, Nat.le_trans (Nat.le_trans (Nat.le_succ _) (Nat.le_succ _)) z, dne, hns⟩⟩
end
end TErr
end PySem

set_option Elab.async false
set_option linter.all false
set_option maxRecDepth 100000
set_option maxHeartbeats 2000000
namespace L2
open PySem PySem.Spec PyProof.Rows
open PySem.TErr (ETxt Fld madeE MadeE)
theorem relO_one {v : V} {v' : Value} (f : Str) (r : RelV v v') (y : Str) : RelO (List.lookup y [(f, v)]) (if y = f then some v' else none) := by
  by_cases hw : y = f
  · subst hw
    rw [if_pos rfl]
    have q : List.lookup y [(y, v)] = some v := by simp [List.lookup]
    rw [q]
    exact r
  · rw [if_neg hw]
    have qw : (y == f) = false := by simpa using hw
    have q2 : List.lookup y [(f, v)] = none := by simp [List.lookup, qw]
    rw [q2]
    trivial
section
variable {X : Cx} {C fI : Addr} {nm f : String}
/-- C(e) -/
def tMkE (f : String) (C : Addr) (ta : TA) : St → Hp → XK → Prop := fun σ H Q => ta σ H fun vs H1 => ∃ v, vs = [v] ∧ ∀ d, H1 d = none → Q (.ref C) (some d) (upd H1 d (.xd [(PySem.Str.ofString f, v)]))
theorem pmk_E {a : Expr} {ta : TA} {p pos : Pos} {k : Nat} {x : Str} (T : ETxt X.K X.mg nm f C fI) (hr : Room k X.A) (ha : PA X [a] ta) (hx : x = PySem.Str.ofString nm := by rfl) (hg : Gl X x := by rfl)
    (hdb : (x == ("__debug__" : Str)) = false := by decide)
    (he : starEach (a :: []) X.env = (false, eval a X.env) :: starEach [] X.env := by rfl) (hpl : (backTo pos (starEach [] X.env)).any (·.1) = false := by rfl) :
    PMk X (.Call (.Name x p) [a] [] pos) (tMkE f C ta) := by
  intro pins s σ H Q I h
  subst hx
  refine wpAny_Call_Name_kw (ld_glob I hg T.gC ?_ hdb)
  refine PySem.W.callWith_K (h₀ := X.base) I.ok.mod.kin T.kC (thn (ha.run pos pins s σ H _ I h) fun us s1 hh => ?_) he hpl
  obtain ⟨vs, H1, I1, r1, v, ev, q1⟩ := hh
  subst ev
  refine ⟨I1.kIn, ?_⟩
  cases r1 with
  | cons rv rn =>
    rename_i v' us'
    cases rn
    show wpAny _ _ (call (.ref C) [v']) _ _ _
    have hlim := I1.nolimit
    obtain ⟨hp, g, dr, tk, os⟩ := s1
    refine wpAny_call (madeE T I1.kIn hlim (by have := hr.dp; omega) fun h' tk' e d M => ?_)
    show MkP X pins σ Q (.ref e) ⟨h', g, dr, tk', os⟩
    obtain ⟨oe, fv, hoe, hc, hd, hdat, h1⟩ := M.obj
    have hns := M.ns
    obtain ⟨G', g1, g2⟩ := restrict h' fun b => decide (b ≠ e)
    have gk : ∀ b, b ≠ e → G'.get? b = h'.get? b := fun b hb => g1 b (decide_eq_true hb)
    have ge : G'.get? e = none := g2 e (by simp)
    have old : ∀ b o, hp.get? b = some o → G'.get? b = some o := fun b o q => (gk b (Nat.ne_of_lt (Nat.lt_of_lt_of_le (Heap.lt_size q) M.new))).trans (M.keep b o q)
    have ob : ObjOk X.prog X.w (upd H1 d (.xd [(PySem.Str.ofString f, v)])) G' d (.xd [(PySem.Str.ofString f, v)]) :=
      ⟨_, hns.at (fun o q => (gk d M.dne).trans q), fun y => relO_one _ rv y⟩
    have J : Inv X pins σ (upd H1 d (.xd [(PySem.Str.ofString f, v)])) ⟨G', g, dr, tk', os⟩ := I1.laid (t' := tk') old M.dbig ob
    refine ⟨e, oe, fv, ⟨G', g, dr, tk', os⟩, _, .ref C, some d, rfl, J, fun b o q => ?_, ge, hoe, ⟨hc, hd⟩, hdat, h1, ?_, rfl, I1.bare, raises_own T.exC T.tyC, q1 d (I1.hok.fresh M.dbig)⟩
    · by_cases hb : b = e
      · have q' : G'.get? b = some o := q
        rw [hb, ge] at q'; cases q'
      · exact (gk b hb).symm.trans q
    · rw [upd_ne (Ne.symm M.dne)]
      exact I1.hok.fresh M.new
/-- raise C(e) -/
def tRaiseE (f : String) (C : Addr) (W : WX) (ta : TA) : TS := fun _ σ H => tMkE f C ta σ H fun cls d H' => W cls d σ H'
theorem ps_raiseE {a : Expr} {ta : TA} {W : WX} {p pos pos2 : Pos} {k : Nat} {x : Str} (hc : X.calm = true) (T : ETxt X.K X.mg nm f C fI) (hr : Room k X.A) (tk : Takes X W) (ha : PA X [a] ta) (hx : x = PySem.Str.ofString nm := by rfl) (hg : Gl X x := by rfl)
    (hdb : (x == ("__debug__" : Str)) = false := by decide)
    (he : starEach (a :: []) X.env = (false, eval a X.env) :: starEach [] X.env := by rfl) (hpl : (backTo pos (starEach [] X.env)).any (·.1) = false := by rfl) :
    PS X (.Raise (some (.Call (.Name x p) [a] [] pos)) none pos2) (tRaiseE f C W ta) := ps_raise hc tk (pmk_E T hr ha hx hg hdb he hpl)
/-- e.f, e the exception that the suite holds (at a; its class cls, its dict d) -/
def tGetE (f : String) (a : Addr) (cls : Value) (d : Option Addr) (te : TE) : TE := fun σ H Q => te σ H fun x H1 => x = .ref a ∧ ∃ (C dd : Addr) (v : V), cls = .ref C ∧ d = some dd ∧ H1 dd = some (.xd [(PySem.Str.ofString f, v)]) ∧ Q v H1
theorem pe_getE {a : Addr} {oe : Obj} {cls : Value} {d : Option Addr} {pn : List (Addr × Obj)} {e : Expr} {te : TE} {pos : Pos} {x : Str}
    (hT : ∀ C, cls = .ref C → ∃ nm fI, ETxt X.K X.mg nm f C fI) (hz : Zc cls d oe) (hf : ∃ vs, oe.data = .fields vs) (he : PE (X.suite a ((a, oe) :: pn)) e te) (hx : x = PySem.Str.ofString f := by rfl)
    (hb : attributeBase e x X.env (eval e X.env) = eval e X.env := by rfl) :
    PE (X.suite a ((a, oe) :: pn)) (.Attribute e x pos) (tGetE f a cls d te) := by
  refine ⟨fun pins s σ H Q I h => ?_⟩
  subst hx
  refine attr_of hb (thn (he.run pins s σ H _ I h) fun u s1 hh => ?_)
  obtain ⟨y, H1, I1, rx, ex, C, dd, v, ec, ed, ea, q⟩ := hh
  subst ex
  obtain rfl : u = Value.ref a := rx
  subst ec
  subst ed
  obtain ⟨nm, fI, T⟩ := hT C rfl
  obtain ⟨ha, _⟩ := I1.pin (a, oe) (List.mem_append_left _ List.mem_cons_self)
  obtain ⟨vs, hd⟩ := hf
  have hx : ObjOk X.prog X.w H1 s1.heap dd (.xd [(PySem.Str.ofString f, v)]) := I1.hok dd _ ea
  obtain ⟨mA, hns, hr⟩ := hx
  obtain ⟨od, ho, hl⟩ := lookIn_ns hns
  have l : List.lookup (PySem.Str.ofString f) [(PySem.Str.ofString f, v)] = some v := by simp [List.lookup]
  obtain ⟨u, hu, ru⟩ := RelO.some_of (v := v) (o := mA (PySem.Str.ofString f)) (by rw [← l]; exact hr _)
  have J : PySem.W.InstAt s1.heap a oe C (some od) := ⟨ha, hz.1, by unfold PySem.W.notCls; rw [hd] <;> rfl, by rw [hz.2]; exact ho⟩
  exact HandSPX.exc_get I1.kIn J T.ga T.gg T.exC (PySem.W.findObj_own T.hdC T.noN rfl (by rw [hl, hu])) (handed_of ru) ⟨v, H1, I1.tok _, ru, q⟩
end

/-! ### several clauses, with names or without -/
/-- a clause: the class, the slot of its name (none: no name), the suite -/
structure Cl where
  c : Value
  i : Option Nat
  ts : Addr → Value → Option Addr → TS
def clEnds (i : Option Nat) (D : Ends) : Ends := match i with
  | none => D
  | some i => { nx := fun σ' H' => D.nx (σ'.set i none) H', rt := D.rt, bk := fun σ' H' => D.bk (σ'.set i none) H', ct := fun σ' H' => D.ct (σ'.set i none) H' }
def clSt (i : Option Nat) (a : Addr) (σ : St) : St := match i with
  | none => σ
  | some i => σ.set i (some (.ref a))
def wCl (K : PySem.W.Frag) (Wout : WX) (D : Ends) : List Cl → WX
  | [] => Wout
  | l :: r => fun cls d σ H => ∃ b, PySem.W.exmOne K cls l.c = some b ∧ (b = true → ∀ a, H a = none → l.ts a cls d (clEnds l.i D) (clSt l.i a σ) H) ∧ (b = false → wCl K Wout D r cls d σ H)
def ClName (X : Cx) : Option Str → Option Nat → Prop
  | none, none => True
  | some n, some i => X.N[i]? = some n ∧ X.env.kindOf n = some .local
  | _, _ => False
inductive ClsOk (X : Cx) : List ExceptHandler → List Cl → Prop
  | nil : ClsOk X [] []
  | cons {x : Str} {n : Option Str} {l : Cl} {b₀ : Stmt} {suite : List Stmt} {np pos' : Pos} {hds : List ExceptHandler} {ls : List Cl} (hc : Names X x l.c) (hn : ClName X n l.i)
      (hsu : ∀ (a : Addr) (oe : Obj) (cls : Value) (d : Option Addr) (pn : List (Addr × Obj)), Zc cls d oe → (∃ vs, oe.data = .fields vs) → PSs (X.suite a ((a, oe) :: pn)) (b₀ :: suite) (l.ts a cls d)) (r : ClsOk X hds ls) :
      ClsOk X (.ExceptHandler (some (.Name x np)) n (b₀ :: suite) pos' :: hds) (l :: ls)
section
variable {X : Cx} {body : List Stmt} {h₀ : ExceptHandler} {hds : List ExceptHandler} {l : List Cl} {pos : Pos} {tb : WX → TS} {Wout : WX}
theorem ps_try_cls (hs : X.stack = X.env :: X.outer) (hf : X.env.frame = some X.env.locals) (hN : X.N.Nodup) (tk : Takes X Wout)
    (hb : ∀ (W : WX) (pn : List (Addr × Obj)) (xe : Value → Shared → Prop), Takes (X.tr pn xe) W → PassesOwn (model X.prog X.w) X.A X.env xe → PSs (X.tr pn xe) body (tb W))
    (hh : ClsOk X (h₀ :: hds) l) : PS X (.Try body (h₀ :: hds) [] [] pos) (fun D σ H => tb (wCl X.K Wout D l) D σ H) := by
  refine ⟨fun pins s σ H D I h => ?_⟩
  have ok := I.ok
  have hfr : X.A.frames = some (X.env :: X.outer) := by rw [ok.frames, hs]
  refine wpAny_Try_except ?_
  refine wpAny_mono ((hb (wCl X.K Wout D l) (X.pn ++ pins) (fun e s₁ => wpAny (model X.prog X.w) X.A (noteFrame e X.env) (fun _ s₂ => wpAny (model X.prog X.w) X.A (setFlight e none) (fun _ s₃ =>
    wpAny (model X.prog X.w) X.A (handleBy e X.env (h₀ :: hds)) (SP X pins D) X.xe s₃) X.xe s₂) X.xe s₁) (fun u s' xx => ?_) PassesOwn.looking).run [] s σ H D (I.toTry _) h) (fun f s1 hsp => ?_) (fun e s1 he => he)
  · obtain ⟨a, B, sI, pins', σ', H', cls, d, rfl, J', nb, up, sky, na, os, ag, w⟩ := xx
    have J : Inv X pins σ' H' sI := J'.ofTry ok
    have sky' : Sky B (X.env :: X.outer) a (Zc cls d) X.env.locals s'.heap := by rw [← hs]; exact sky
    show wpAny (model X.prog X.w) X.A (noteFrame (.ref a) X.env) _ _ _
    refine Sky.land Zc.steady hfr hf sky' fun h3 fl3 up3 => ?_
    have J3 : Inv X pins σ' H' { s' with heap := h3 } := J.landed nb fl3.1 (up.trans up3) os ag
    obtain ⟨oe3, vs3, he3, hz3, hd3⟩ := fl3.there
    have notFr : ∀ {h : Heap} {o : Obj} {vs : Array Value}, h.FunFrames B (X.env :: X.outer) → h.get? a = some o → o.data = .fields vs → a ∉ frs (X.env :: X.outer) := fun {h o vs} ff e dd hm => by
      obtain ⟨_, o', e', hnf⟩ := ff.mem hm
      rw [e] at e'; cases e'
      exact hnf _ dd
    have nfr := notFr fl3.2.2.1 he3 hd3
    have nL : a ≠ X.env.locals := fun z => nfr (List.mem_filterMap.mpr ⟨X.env, List.mem_cons_self, by rw [hf, z]⟩)
    have nF : a ∉ X.fs := fun hm => by
      obtain ⟨e, he, q⟩ := List.mem_filterMap.mp hm
      exact nfr (List.mem_filterMap.mpr ⟨e, List.mem_cons_of_mem _ he, q⟩)
    have S3 := J3.suite he3 hd3 na nL nF
    have go : ∀ {hds' : List ExceptHandler} {l' : List Cl}, ClsOk X hds' l' → wCl X.K Wout D l' cls d σ' H' →
        wpAny (model X.prog X.w) X.A (handleBy (.ref a) X.env hds') (SP X pins D) X.xe { s' with heap := h3 } := by
      intro hds' l' hk
      induction hk with
      | nil =>
        intro w
        refine wpAny_handleBy_nil ?_
        obtain ⟨k1, k2, k3, oe, vs, T, oT, ts', he, hz, hd, h1, hr⟩ := id fl3
        unfold PySem.passOn
        refine wpAny_bind (wpAny_field he hd h1 ?_)
        rw [if_neg (show ¬ ((Value.ref T == Value.none) = true) from by simp)]
        have fin : wpAny (model X.prog X.w) X.A (setFlight (.ref a) X.env.frame) (fun _ s4 => wpAny (model X.prog X.w) X.A (throw (.ref a) : Sem Flow) (SP X pins D) X.xe s4) X.xe { s' with heap := h3 } := by
          rw [hf]
          refine HandSPX.setFlight_upZ fl3 fun h4 hh4 up4 => wpAny_throw (tk _ _ ?_)
          exact ⟨a, B, sI, pins, σ', H', cls, d, rfl, J, nb, (up.trans up3).trans up4, .inr (.inr (by rw [hs]; exact hh4)), na, os, ag, w⟩
        first
          | exact wpAny_bind (wpAny_pure (wpAny_bind fin))
          | exact wpAny_bind fin
      | @cons x n lc b₀ suite np pos' hds2 l2 hc hn hsu r ih =>
        intro w
        obtain ⟨b, hb1, hyes, hno⟩ := w
        refine wpAny_handleBy_cons (codeAny_handlers_test ?_) (by intro q; cases q)
        have LT : PySem.W.Looks (model X.prog X.w) h3 (typeOf (.ref a)) cls := fun A Q E s k q => wpAny_typeOf_ref (k _ _ he3) (by rw [hz3.1]; exact q)
        have LM := PySem.W.exm_one (M := model X.prog X.w) (J3.kIn) LT hb1
        have test : ∀ {Q : Value → Shared → Prop} {E : Value → Shared → Prop}, Q lc.c { s' with heap := h3 } → wpAny (model X.prog X.w) (X.A.mark (some (.ref a))) (eval (.Name x np) X.env) Q E { s' with heap := h3 } := fun {Q E} q => by
          obtain ⟨hg, hdbg, hm | ⟨hm, hv, hnn⟩⟩ := hc
          · exact ld_glob (X := X.suite a ((a, oe3) :: (X.pn ++ pins))) S3 hg hm q hdbg
          · exact ld_blt (X := X.suite a ((a, oe3) :: (X.pn ++ pins))) S3 hg hm hv q hnn hdbg
        refine test (LM.here ?_)
        cases b with
        | true =>
          have hy := hyes rfl a na
          obtain ⟨lcc, lci, lts⟩ := lc
          cases n with
          | none =>
            cases lci with
            | some i => exact (show False from hn).elim
            | none =>
              refine codeAny_handlers_suite ?_
              refine HandSPX.lands_againZ fl3 fun h4 fl4 up4 => ?_
              have J4 : Inv X pins σ' H' { s' with heap := h4 } := J.landed nb fl4.1 ((up.trans up3).trans up4) os ag
              obtain ⟨oe4, vs4, he4, hz4, hd4⟩ := fl4.there
              have S4 := J4.suite he4 hd4 na nL nF
              refine wpAny_mono ((hsu a oe4 cls d (X.pn ++ pins) hz4 ⟨_, hd4⟩).run [] _ _ H' _ S4 hy) (fun f s6 hsp => ?_) (fun _ _ z => False.elim z)
              cases f with
              | next =>
                obtain ⟨σ6, H6, S6, q6⟩ := hsp
                exact ⟨_, _, S6.unsuite ok, q6⟩
              | brk =>
                obtain ⟨σ6, H6, S6, q6⟩ := hsp
                exact ⟨_, _, S6.unsuite ok, q6⟩
              | cont =>
                obtain ⟨σ6, H6, S6, q6⟩ := hsp
                exact ⟨_, _, S6.unsuite ok, q6⟩
              | ret u =>
                obtain ⟨v6, σ6, H6, S6, r6, q6⟩ := hsp
                exact ⟨_, _, _, S6.unsuite ok, r6, q6⟩
          | some nn =>
            cases lci with
            | none => exact (show False from hn).elim
            | some i =>
              obtain ⟨hi, hln⟩ := hn
              have hloc : Loc X.env.scope nn := .inl hln
              refine codeAny_handlers_suite_as ?_
              refine HandSPX.lands_againZ fl3 fun h4 fl4 up4 => ?_
              have J4 : Inv X pins σ' H' { s' with heap := h4 } := J.landed nb fl4.1 ((up.trans up3).trans up4) os ag
              obtain ⟨oe4, vs4, he4, hz4, hd4⟩ := fl4.there
              have S4 := J4.suite he4 hd4 na nL nF
              refine store_ok (X := X.suite a ((a, oe4) :: (X.pn ++ pins))) (v := .ref a) S4 hN hi hloc rfl (fun s5 S5 => ?_) (.inr hln)
              refine wpAny_mono ((hsu a oe4 cls d (X.pn ++ pins) hz4 ⟨_, hd4⟩).run [] s5 _ H' _ S5 hy) (fun f s6 hsp => ?_) (fun _ _ z => False.elim z)
              have end_ : ∀ {σ6 : St} {H6 : Hp} {Q : Shared → Prop}, Inv (X.suite a ((a, oe4) :: (X.pn ++ pins))) [] σ6 H6 s6 → (∀ s7, Inv X pins (σ6.set i none) H6 s7 → Q s7) →
                  wpAny (model X.prog X.w) X.A (do bindName X.env nn .none; unbindBehindTheSuite X.env nn pos') (fun _ s7 => Q s7) X.xe s6 := fun {σ6 H6 Q} S6 hq => gone_ok (S6.unsuite ok) hN hi hln hq
              cases f with
              | next =>
                obtain ⟨σ6, H6, S6, q6⟩ := hsp
                exact end_ S6 fun s7 J7 => ⟨_, _, J7, q6⟩
              | brk =>
                obtain ⟨σ6, H6, S6, q6⟩ := hsp
                exact end_ S6 fun s7 J7 => ⟨_, _, J7, q6⟩
              | cont =>
                obtain ⟨σ6, H6, S6, q6⟩ := hsp
                exact end_ S6 fun s7 J7 => ⟨_, _, J7, q6⟩
              | ret u =>
                obtain ⟨v6, σ6, H6, S6, r6, q6⟩ := hsp
                exact end_ S6 fun s7 J7 => ⟨_, _, _, J7, r6, q6⟩
        | false =>
          show wpAny _ X.A (handleBy (.ref a) X.env hds2) _ _ _
          exact ih (hno rfl)
    exact go hh w
  · cases f with
    | next =>
      obtain ⟨σ', H', J', q⟩ := hsp
      exact wpAny_execs_nil ⟨σ', H', J'.ofTry ok, q⟩
    | brk =>
      obtain ⟨σ', H', J', q⟩ := hsp
      exact ⟨σ', H', J'.ofTry ok, q⟩
    | cont =>
      obtain ⟨σ', H', J', q⟩ := hsp
      exact ⟨σ', H', J'.ofTry ok, q⟩
    | ret u =>
      obtain ⟨v, σ', H', J', r, q⟩ := hsp
      exact ⟨v, σ', H', J'.ofTry ok, r, q⟩
end
end L2

set_option Elab.async false
set_option linter.all false
set_option maxRecDepth 100000
set_option maxHeartbeats 2000000
/-! A layer over HandS: plain data D, computations N that may raise or draw, objects known by what holds of them (Ty), the readings by data. -/
namespace M
open PySem L2

/-- plain data -/
inductive D where
  | non | bl (b : Bool) | int (i : Int) | str (s : Str) | tup (xs : List D) | ktup (xs : List D) | lst (xs : List D)
  | obj (c : Nat) (fs : List D)
  | dl (k : Nat)

/-- a computation by its weakest preconditions: k wants of the value, e of the error (its class's number, what it keeps) -/
structure N (α : Type) where
  wp : (α → Prop) → (Nat → D → Prop) → Prop
  mono : ∀ {k k' : α → Prop} {e e' : Nat → D → Prop}, (∀ a, k a → k' a) → (∀ c x, e c x → e' c x) → wp k e → wp k' e'
namespace N
def ok {α : Type} (a : α) : N α := ⟨fun k _ => k a, fun h _ q => h a q⟩
def err {α : Type} (c : Nat) (x : D) : N α := ⟨fun _ e => e c x, fun _ h q => h c x q⟩
def stuck {α : Type} : N α := ⟨fun _ _ => False, fun _ _ q => q⟩
def any {α : Type} (P : α → Prop) : N α := ⟨fun k _ => ∀ a, P a → k a, fun h _ q a p => h a (q a p)⟩
def bind {α β : Type} (n : N α) (f : α → N β) : N β := ⟨fun k e => n.wp (fun a => (f a).wp k e) e, fun h1 h2 q => n.mono (fun a z => (f a).mono h1 h2 z) h2 q⟩
def asrt (p : Prop) : N Unit := ⟨fun k _ => p ∧ k (), fun h _ q => ⟨q.1, h _ q.2⟩⟩
/-- what is raised is handed to h -/
def tryC {α : Type} (n : N α) (h : Nat → D → N α) : N α := ⟨fun k e => n.wp k (fun c x => (h c x).wp k e), fun h1 h2 q => n.mono h1 (fun c x z => (h c x).mono h1 h2 z) q⟩
@[simp] theorem ok_bind {α β : Type} (a : α) (f : α → N β) : (ok a).bind f = f a := rfl
@[simp] theorem err_bind {α β : Type} (c : Nat) (x : D) (f : α → N β) : (err c x : N α).bind f = err c x := rfl
theorem stuck_bind {α β : Type} (f : α → N β) : (stuck : N α).bind f = stuck := rfl
theorem bind_assoc {α β γ : Type} (n : N α) (f : α → N β) (g : β → N γ) : (n.bind f).bind g = n.bind fun a => (f a).bind g := rfl
theorem bind_ok {α : Type} (n : N α) : n.bind ok = n := rfl
def fail : N D → Prop := fun _ => True
end N

abbrev Ty := Addr → Option (HO → Prop)
/-- just this object -/
def is (o : HO) : HO → Prop := fun o' => o' = o
def updT (F : Ty) (a : Addr) (p : HO → Prop) : Ty := fun b => if b = a then some p else F b
theorem updT_same {F : Ty} {a : Addr} {p : HO → Prop} : updT F a p a = some p := by unfold updT; rw [if_pos rfl]
theorem updT_ne {F : Ty} {a b : Addr} {p : HO → Prop} (h : b ≠ a) : updT F a p b = F b := by unfold updT; rw [if_neg h]
def Ex (F F' : Ty) : Prop := ∀ a p, F a = some p → F' a = some p
theorem Ex.refl (F : Ty) : Ex F F := fun _ _ h => h
theorem Ex.trans {F F1 F2 : Ty} (a : Ex F F1) (b : Ex F1 F2) : Ex F F2 := fun x p h => b x p (a x p h)
/-- the heap keeps to what is known -/
def Okk (F : Ty) (H : Hp) : Prop := ∀ a p, F a = some p → ∃ o, H a = some o ∧ p o ∧ ((∃ xs, o = .tup xs) → p = is o)
structure Ext (F : Ty) (H : Hp) (F' : Ty) (H' : Hp) : Prop where
  ex : Ex F F'
  ok : Okk F' H'
  kp : ∀ a o, H a = some o → F a = none → H' a = some o ∧ (F' a = none ∨ (F' a = some (is o) ∧ ∃ xs, o = .tup xs))
theorem Ext.refl {F : Ty} {H : Hp} (h : Okk F H) : Ext F H F H := ⟨Ex.refl F, h, fun _ _ a b => ⟨a, .inl b⟩⟩
theorem Ext.trans {F F1 F2 : Ty} {H H1 H2 : Hp} (a : Ext F H F1 H1) (b : Ext F1 H1 F2 H2) : Ext F H F2 H2 :=
  ⟨a.ex.trans b.ex, b.ok, fun x o h n => by
    obtain ⟨h1, n1⟩ := a.kp x o h n
    rcases n1 with n1 | ⟨n1, t⟩
    · exact b.kp x o h1 n1
    · have k := b.ex _ _ n1
      obtain ⟨o', h2, e, _⟩ := b.ok _ _ k
      rw [show o' = o from e] at h2
      exact ⟨h2, .inr ⟨k, t⟩⟩⟩
theorem Okk.none {F : Ty} {H : Hp} (k : Okk F H) {a : Addr} (h : H a = none) : F a = none := by
  cases e : F a with
  | none => rfl
  | some p => obtain ⟨o, q, _⟩ := k a p e; rw [h] at q; cases q
/-- a new object is known -/
theorem Ext.new {F : Ty} {H : Hp} (k : Okk F H) {a : Addr} {o : HO} {p : HO → Prop} (h : H a = none) (hp : p o) (ht : (∃ xs, o = .tup xs) → p = is o := by exact fun _ => rfl) : Ext F H (updT F a p) (upd H a o) := by
  have n := k.none h
  refine ⟨fun b q e => ?_, fun b q e => ?_, fun b u e nb => ?_⟩
  · by_cases z : b = a
    · subst z; rw [n] at e; cases e
    · rw [updT_ne z]; exact e
  · by_cases z : b = a
    · subst z; rw [updT_same] at e; cases e; exact ⟨o, upd_same, hp, ht⟩
    · rw [updT_ne z] at e; rw [upd_ne z]; exact k b q e
  · have z : b ≠ a := fun z => by subst z; rw [h] at e; cases e
    rw [updT_ne z, upd_ne z]; exact ⟨e, .inl nb⟩
/-- a new object that stays unknown -/
theorem Ext.own {F : Ty} {H : Hp} (k : Okk F H) {a : Addr} {o : HO} (h : H a = none) : Ext F H F (upd H a o) := by
  have n := k.none h
  refine ⟨Ex.refl F, fun b q e => ?_, fun b u e nb => ?_⟩
  · have z : b ≠ a := fun z => by subst z; rw [n] at e; cases e
    rw [upd_ne z]; exact k b q e
  · have z : b ≠ a := fun z => by subst z; rw [h] at e; cases e
    rw [upd_ne z]; exact ⟨e, .inl nb⟩

/-- the text's facts that the relation of data needs -/
structure Zt where
  K : PySem.W.Frag
  cs : Nat → Addr
  fs : Nat → String
  at_ : Nat → List Str
  dl : Nat → Ty → Addr → Prop
  dlm : ∀ k F F' a, Ex F F' → dl k F a → dl k F' a

/-- known as u, or locked as u -/
def RdF (F : Ty) (a : Addr) (u : HO) : Prop := F a = some (is u) ∨ ∃ ob, F a = some (is (.frz ob u))
theorem RdF.ex {F F' : Ty} {a : Addr} {u : HO} (e : Ex F F') (r : RdF F a u) : RdF F' a u := by
  rcases r with r | ⟨ob, r⟩
  · exact .inl (e _ _ r)
  · exact .inr ⟨ob, e _ _ r⟩
theorem RdF.rd {F : Ty} {H : Hp} {a : Addr} {u : HO} (k : Okk F H) (r : RdF F a u) : Rd H a u := by
  rcases r with r | ⟨ob, r⟩
  · obtain ⟨o, h, q, _⟩ := k _ _ r
    rw [show o = u from q] at h
    exact .inl h
  · obtain ⟨o, h, q, _⟩ := k _ _ r
    rw [show o = .frz ob u from q] at h
    exact .inr ⟨ob, h⟩
def KT (K : PySem.W.Frag) (a : Addr) (xs : List V) : Prop := ∃ (o : Obj) (its : Array Value) (n : Nat), K.lookup a = some o ∧ o.cls = .type "tuple" ∧ o.data = .seq its n ∧ its.size ≤ sizeLine ∧ Vals xs its.toList
def KL (K : PySem.W.Frag) (a : Addr) (xs : List V) : Prop := ∃ (o : Obj) (its : Array Value) (n : Nat), K.lookup a = some o ∧ o.cls = .type "list" ∧ o.dict = none ∧ o.data = .seq its n ∧ its.size ≤ sizeLine ∧ Vals xs its.toList
def RL (K : PySem.W.Frag) (F : Ty) (a : Addr) (xs : List V) : Prop := RdF F a (.lst xs) ∨ KL K a xs
theorem RL.ex {K : PySem.W.Frag} {F F' : Ty} {a : Addr} {xs : List V} (e : Ex F F') (r : RL K F a xs) : RL K F' a xs := r.imp (RdF.ex e) id
theorem sqT_of {K : PySem.W.Frag} {F : Ty} {H : Hp} {a : Addr} {xs : List V} (k : Okk F H) (r : F a = some (is (.tup xs))) : SqT K H a xs := .inl (RdF.rd k (.inl r))
theorem tup_of {F : Ty} {H : Hp} {a : Addr} {o : HO} (k : Okk F H) (r : F a = some (is o)) : H a = some o := by
  obtain ⟨o', h, e, _⟩ := k _ _ r
  rw [show o' = o from e] at h
  exact h
theorem RL.sq {K : PySem.W.Frag} {F : Ty} {H : Hp} {a : Addr} {xs : List V} (k : Okk F H) (r : RL K F a xs) : SqL K H a xs := r.imp (RdF.rd k) id

mutual
/-- v, by what is known, is the datum d -/
inductive Rp (Z : Zt) (F : Ty) : V → D → Prop
  | non : Rp Z F .non .non
  | bl (b : Bool) : Rp Z F (.bl b) (.bl b)
  | int (i : Int) : Rp Z F (.int i) (.int i)
  | str (x : Str) : Rp Z F (.str x) (.str x)
  | tup {a : Addr} {xs : List V} {ds : List D} : F a = some (is (.tup xs)) → RpL Z F xs ds → Rp Z F (.ref a) (.tup ds)
  | ktup {a : Addr} {xs : List V} {ds : List D} : KT Z.K a xs → RpL Z F xs ds → Rp Z F (.ref a) (.ktup ds)
  | lst {a : Addr} {xs : List V} {ds : List D} : RL Z.K F a xs → RpL Z F xs ds → Rp Z F (.ref a) (.lst ds)
  | obj {a dx : Addr} {c : Nat} {xs : List V} {ds : List D} : F a = some (is (.ins (Z.cs c) dx ((Z.at_ c).zip xs))) → xs.length = (Z.at_ c).length → RpL Z F xs ds → Rp Z F (.ref a) (.obj c ds)
  | dl {a : Addr} {k : Nat} : Z.dl k F a → Rp Z F (.ref a) (.dl k)
inductive RpL (Z : Zt) (F : Ty) : List V → List D → Prop
  | nil : RpL Z F [] []
  | cons {v : V} {vs : List V} {d : D} {ds : List D} : Rp Z F v d → RpL Z F vs ds → RpL Z F (v :: vs) (d :: ds)
end
section
variable {Z : Zt} {F F' : Ty}
mutual
theorem Rp.ex (e : Ex F F') : ∀ {v : V} {d : D}, Rp Z F v d → Rp Z F' v d
  | _, _, .non => .non
  | _, _, .bl b => .bl b
  | _, _, .int i => .int i
  | _, _, .str x => .str x
  | _, _, .tup r l => .tup (e _ _ r) (RpL.ex e l)
  | _, _, .ktup r l => .ktup r (RpL.ex e l)
  | _, _, .lst r l => .lst (r.ex e) (RpL.ex e l)
  | _, _, .obj r n l => .obj (e _ _ r) n (RpL.ex e l)
  | _, _, .dl r => .dl (Z.dlm _ _ _ _ e r)
theorem RpL.ex (e : Ex F F') : ∀ {vs : List V} {ds : List D}, RpL Z F vs ds → RpL Z F' vs ds
  | _, _, .nil => .nil
  | _, _, .cons r l => .cons (Rp.ex e r) (RpL.ex e l)
end
theorem RpL.length : ∀ {vs : List V} {ds : List D}, RpL Z F vs ds → vs.length = ds.length
  | _, _, .nil => rfl
  | _, _, .cons _ l => by rw [List.length_cons, List.length_cons, RpL.length l]
theorem RpL.get : ∀ {vs : List V} {ds : List D} {i : Nat} {d : D}, RpL Z F vs ds → ds[i]? = some d → ∃ v, vs[i]? = some v ∧ Rp Z F v d
  | _, _, 0, _, .cons r _, e => by simp at e; subst e; exact ⟨_, rfl, r⟩
  | _, _, i + 1, _, .cons _ l, e => by
    obtain ⟨v, h1, h2⟩ := RpL.get (i := i) l (by simpa using e)
    exact ⟨v, by simpa using h1, h2⟩
theorem RpL.getV : ∀ {vs : List V} {ds : List D} {i : Nat} {v : V}, RpL Z F vs ds → vs[i]? = some v → ∃ d, ds[i]? = some d ∧ Rp Z F v d
  | _, _, 0, _, .cons r _, e => by simp at e; subst e; exact ⟨_, rfl, r⟩
  | _, _, i + 1, _, .cons _ l, e => by
    obtain ⟨v, h1, h2⟩ := RpL.getV (i := i) l (by simpa using e)
    exact ⟨v, by simpa using h1, h2⟩
theorem RpL.append : ∀ {vs ws : List V} {ds es : List D}, RpL Z F vs ds → RpL Z F ws es → RpL Z F (vs ++ ws) (ds ++ es)
  | _, _, _, _, .nil, q => q
  | _, _, _, _, .cons r l, q => .cons r (RpL.append l q)
theorem RpL.take : ∀ {vs : List V} {ds : List D} (n : Nat), RpL Z F vs ds → RpL Z F (vs.take n) (ds.take n)
  | _, _, 0, _ => .nil
  | _, _, _ + 1, .nil => .nil
  | _, _, n + 1, .cons r l => .cons r (RpL.take n l)
theorem RpL.drop : ∀ {vs : List V} {ds : List D} (n : Nat), RpL Z F vs ds → RpL Z F (vs.drop n) (ds.drop n)
  | _, _, 0, q => q
  | _, _, _ + 1, .nil => .nil
  | _, _, n + 1, .cons _ l => RpL.drop n l
theorem RpL.reverse : ∀ {vs : List V} {ds : List D}, RpL Z F vs ds → RpL Z F vs.reverse ds.reverse
  | _, _, .nil => .nil
  | _, _, .cons r l => by rw [List.reverse_cons, List.reverse_cons]; exact RpL.append (RpL.reverse l) (.cons r .nil)
theorem RpL.set : ∀ {vs : List V} {ds : List D} (n : Nat) {v : V} {d : D}, RpL Z F vs ds → Rp Z F v d → RpL Z F (vs.set n v) (ds.set n d)
  | _, _, _, _, _, .nil, _ => .nil
  | _, _, 0, _, _, .cons _ l, q => .cons q l
  | _, _, n + 1, _, _, .cons r l, q => .cons r (RpL.set n l q)
end

/-- an error in the air: its class's number, what it keeps -/
def ErrIs (Z : Zt) (F : Ty) (c : Nat) (x : D) (cls : Value) (dd : Option Addr) : Prop := cls = .ref (Z.cs c) ∧ ∃ d v, dd = some d ∧ F d = some (is (.xd [(PySem.Str.ofString (Z.fs c), v)])) ∧ Rp Z F v x

/-- what a local holds that is changed in place -/
inductive Ce where
  | lst (ds : List D)
  | dK (kvs : List (Key × D))
  | dT (kvs : List (List Key × D))
def RpKV {κ : Type} (Z : Zt) (F : Ty) (vs : List (κ × V)) (ds : List (κ × D)) : Prop := vs.map (·.1) = ds.map (·.1) ∧ RpL Z F (vs.map (·.2)) (ds.map (·.2))
def Cell (Z : Zt) (F : Ty) : Ce → HO → Prop
  | .lst ds, o => ∃ vs, o = .lst vs ∧ RpL Z F vs ds
  | .dK kvs, o => ∃ vs, o = .dK vs ∧ RpKV Z F vs kvs
  | .dT kvs, o => ∃ vs, o = .dT vs ∧ RpKV Z F vs kvs
theorem Cell.ex {Z : Zt} {F F' : Ty} (e : Ex F F') {c : Ce} {o : HO} (h : Cell Z F c o) : Cell Z F' c o := by
  cases c with
  | lst ds => obtain ⟨vs, q, r⟩ := h; exact ⟨vs, q, r.ex e⟩
  | dK ds => obtain ⟨vs, q, n, r⟩ := h; exact ⟨vs, q, n, r.ex e⟩
  | dT ds => obtain ⟨vs, q, n, r⟩ := h; exact ⟨vs, q, n, r.ex e⟩
theorem Cell.notTup {Z : Zt} {F : Ty} {c : Ce} {xs : List V} (h : Cell Z F c (.tup xs)) : False := by
  cases c with
  | lst ds => obtain ⟨vs, q, r⟩ := h; cases q
  | dK ds => obtain ⟨vs, q, n, r⟩ := h; cases q
  | dT ds => obtain ⟨vs, q, n, r⟩ := h; cases q
/-- what is said of a slot -/
inductive Sl where
  | un
  | dat (d : D)
  | own (c : Ce)
  | exc (a : Addr) (d : Option Addr) (f : String) (x : D)
structure Bs where
  F : Ty
  H : Hp
  Fe : Ty
def SlOk (Z : Zt) (B : Bs) (F : Ty) (H : Hp) : Sl → Option (Option V) → Prop
  | .un, _ => True
  | .dat d, o => ∃ v, o = some (some v) ∧ Rp Z F v d
  | .exc a d f x, o => o = some (some (.ref a)) ∧ ∃ dd v, d = some dd ∧ F dd = some (is (.xd [(PySem.Str.ofString f, v)])) ∧ Rp Z F v x
  | .own c, o => ∃ l u, o = some (some (.ref l)) ∧ H l = some u ∧ F l = none ∧ B.H l = none ∧ Cell Z F c u
structure At (Z : Zt) (B : Bs) (S : List Sl) (F : Ty) (σ : St) (H : Hp) : Prop where
  ext : Ext B.F B.H F H
  fe : Ex B.Fe F
  len : σ.length = S.length
  sl : ∀ (i : Nat) (s : Sl), S[i]? = some s → SlOk Z B F H s σ[i]?
  dis : ∀ (i j : Nat) (l : Addr) (c c' : Ce), S[i]? = some (.own c) → S[j]? = some (.own c') → σ[i]? = some (some (.ref l)) → σ[j]? = some (some (.ref l)) → i = j
section
variable {Z : Zt} {B : Bs} {S : List Sl} {F F' : Ty} {σ : St} {H H' : Hp}
theorem At.ok (h : At Z B S F σ H) : Okk F H := h.ext.ok
theorem SlOk.ext (e : Ext F H F' H') {s : Sl} {o : Option (Option V)} (h : SlOk Z B F H s o) : SlOk Z B F' H' s o := by
  cases s with
  | un => trivial
  | dat d => obtain ⟨v, q, r⟩ := h; exact ⟨v, q, r.ex e.ex⟩
  | exc a d f x => obtain ⟨q, dd, v, h1, h2, r⟩ := h; exact ⟨q, dd, v, h1, e.ex _ _ h2, r.ex e.ex⟩
  | own c =>
    obtain ⟨l, u, q, h1, n, b, r⟩ := h
    obtain ⟨h2, n2⟩ := e.kp l u h1 n
    rcases n2 with n2 | ⟨_, xs, hx⟩
    · exact ⟨l, u, q, h2, n2, b, r.ex e.ex⟩
    · subst hx
      exact (Cell.notTup r).elim
theorem At.go (h : At Z B S F σ H) (e : Ext F H F' H') : At Z B S F' σ H' := ⟨h.ext.trans e, h.fe.trans e.ex, h.len, fun i s q => (h.sl i s q).ext e, h.dis⟩
theorem At.dat (h : At Z B S F σ H) {i : Nat} {d : D} (hi : S[i]? = some (.dat d)) : ∃ v, σ[i]? = some (some v) ∧ Rp Z F v d := h.sl i _ hi
theorem At.lt (h : At Z B S F σ H) {i : Nat} {s : Sl} (hi : S[i]? = some s) : i < σ.length := by
  rw [h.len]; exact (List.getElem?_eq_some_iff.mp hi).1
/-- a slot is filled with data -/
theorem At.set (h : At Z B S F σ H) {i : Nat} {v : V} {d : D} (r : Rp Z F v d) : At Z B (S.set i (.dat d)) F (σ.set i (some v)) H := by
  refine ⟨h.ext, h.fe, by rw [List.length_set, List.length_set]; exact h.len, fun j s q => ?_, fun j k l c c' q1 q2 e1 e2 => ?_⟩
  · by_cases z : i = j
    · subst z
      have hj : i < S.length := by
        have := (List.getElem?_eq_some_iff.mp q).1
        rwa [List.length_set] at this
      rw [List.getElem?_set_self hj] at q
      cases q
      refine ⟨v, ?_, r⟩
      rw [List.getElem?_set_self (by rw [h.len]; exact hj)]
    · rw [List.getElem?_set_ne z] at q
      rw [List.getElem?_set_ne z]
      exact h.sl j s q
  · have nj : i ≠ j := fun z => by
      subst z
      have hj : i < S.length := by
        have := (List.getElem?_eq_some_iff.mp q1).1
        rwa [List.length_set] at this
      rw [List.getElem?_set_self hj] at q1; cases q1
    have nk : i ≠ k := fun z => by
      subst z
      have hj : i < S.length := by
        have := (List.getElem?_eq_some_iff.mp q2).1
        rwa [List.length_set] at this
      rw [List.getElem?_set_self hj] at q2; cases q2
    rw [List.getElem?_set_ne nj] at q1 e1
    rw [List.getElem?_set_ne nk] at q2 e2
    exact h.dis j k l c c' q1 q2 e1 e2
theorem Ext.live {F F' : Ty} {H H' : Hp} (e : Ext F H F' H') {a : Addr} {o : HO} (h : H a = some o) : ∃ o', H' a = some o' := by
  cases q : F a with
  | none => exact ⟨o, (e.kp a o h q).1⟩
  | some p =>
    obtain ⟨o', h2, _⟩ := e.ok _ _ (e.ex _ _ q)
    exact ⟨o', h2⟩
theorem At.fresh (h : At Z B S F σ H) {p : Addr} (n : H p = none) : B.H p = none := by
  cases q : B.H p with
  | none => rfl
  | some o =>
    obtain ⟨o', h2⟩ := h.ext.live q
    rw [n] at h2; cases h2
/-- a slot gets a new thing that is to be changed in place -/
theorem At.newOwn (h : At Z B S F σ H) {i : Nat} {p : Addr} {c : Ce} {u : HO} (n : H p = none) (hc : Cell Z F c u) : At Z B (S.set i (.own c)) F (σ.set i (some (.ref p))) (upd H p u) := by
  have e1 : Ext F H F (upd H p u) := Ext.own h.ok n
  have hg := h.go e1
  have bn := h.fresh n
  refine ⟨hg.ext, hg.fe, by rw [List.length_set, List.length_set]; exact h.len, fun j s q => ?_, fun j k l c c' q1 q2 e1 e2 => ?_⟩
  · by_cases z : i = j
    · subst z
      have hj : i < S.length := by
        have := (List.getElem?_eq_some_iff.mp q).1
        rwa [List.length_set] at this
      rw [List.getElem?_set_self hj] at q
      cases q
      rw [List.getElem?_set_self (by rw [h.len]; exact hj)]
      exact ⟨p, u, rfl, upd_same, h.ok.none n, bn, hc⟩
    · rw [List.getElem?_set_ne z] at q
      rw [List.getElem?_set_ne z]
      exact hg.sl j s q
  · have old : ∀ (m : Nat) (c : Ce), i ≠ m → S[m]? = some (.own c) → σ[m]? = some (some (.ref p)) → False := fun m c hm q1 q2 => by
      obtain ⟨l', u', e, hu, _⟩ := h.sl m _ q1
      rw [q2] at e
      cases e
      rw [n] at hu; cases hu
    by_cases zj : i = j
    · by_cases zk : i = k
      · exact zj.symm.trans zk
      · exfalso
        subst zj
        have hj : i < S.length := by
          have := (List.getElem?_eq_some_iff.mp q1).1
          rwa [List.length_set] at this
        rw [List.getElem?_set_self (by rw [h.len]; exact hj)] at e1
        cases e1
        rw [List.getElem?_set_ne zk] at q2 e2
        exact old k _ zk q2 e2
    · by_cases zk : i = k
      · exfalso
        subst zk
        have hj : i < S.length := by
          have := (List.getElem?_eq_some_iff.mp q2).1
          rwa [List.length_set] at this
        rw [List.getElem?_set_self (by rw [h.len]; exact hj)] at e2
        cases e2
        rw [List.getElem?_set_ne zj] at q1 e1
        exact old j _ zj q1 e1
      · rw [List.getElem?_set_ne zj] at q1 e1
        rw [List.getElem?_set_ne zk] at q2 e2
        exact h.dis j k l c c' q1 q2 e1 e2
/-- it is changed -/
theorem At.put (h : At Z B S F σ H) {i : Nat} {l : Addr} {c c' : Ce} {u : HO} (hi : S[i]? = some (.own c)) (hl : σ[i]? = some (some (.ref l))) (hc : Cell Z F c' u) : At Z B (S.set i (.own c')) F σ (upd H l u) := by
  obtain ⟨l', u', e, hu, nF, nB, _⟩ := h.sl i _ hi
  rw [hl] at e
  cases e
  have hil := (List.getElem?_eq_some_iff.mp hi).1
  refine ⟨⟨h.ext.ex, fun a p q => ?_, fun a o q n => ?_⟩, h.fe, by rw [List.length_set]; exact h.len, fun j s q => ?_, fun j k m c1 c2 q1 q2 e1 e2 => ?_⟩
  · have z : a ≠ l := fun z => by subst z; rw [nF] at q; cases q
    rw [upd_ne z]; exact h.ok a p q
  · have z : a ≠ l := fun z => by subst z; rw [nB] at q; cases q
    rw [upd_ne z]; exact h.ext.kp a o q n
  · by_cases z : i = j
    · subst z
      rw [List.getElem?_set_self hil] at q
      cases q
      exact ⟨l, u, hl, upd_same, nF, nB, hc⟩
    · rw [List.getElem?_set_ne z] at q
      have := h.sl j s q
      cases s with
      | un => trivial
      | dat d => exact this
      | exc a d f x => exact this
      | own c =>
        obtain ⟨m, w, e, hw, n1, n2, hcm⟩ := this
        have nm : m ≠ l := fun y => by
          subst y
          exact z (h.dis i j m _ _ hi q hl e)
        exact ⟨m, w, e, by rw [upd_ne nm]; exact hw, n1, n2, hcm⟩
  · have g1 : ∃ c, S[j]? = some (.own c) := by
      by_cases z : i = j
      · subst z; exact ⟨_, hi⟩
      · rw [List.getElem?_set_ne z] at q1; exact ⟨_, q1⟩
    have g2 : ∃ c, S[k]? = some (.own c) := by
      by_cases z : i = k
      · subst z; exact ⟨_, hi⟩
      · rw [List.getElem?_set_ne z] at q2; exact ⟨_, q2⟩
    obtain ⟨_, g1⟩ := g1
    obtain ⟨_, g2⟩ := g2
    exact h.dis j k m _ _ g1 g2 e1 e2
/-- a list that is no more changed becomes data -/
theorem At.freeze (h : At Z B S F σ H) {i : Nat} {ds : List D} (hi : S[i]? = some (.own (.lst ds))) : ∃ F', Ex F F' ∧ At Z B (S.set i (.dat (.lst ds))) F' σ H := by
  obtain ⟨l, u, e, hu, nF, nB, vs, eu, r⟩ := h.sl i _ hi
  subst eu
  have hil := (List.getElem?_eq_some_iff.mp hi).1
  have ex' : Ex F (updT F l (is (.lst vs))) := fun b p z => by
    by_cases hb : b = l
    · subst hb; rw [nF] at z; cases z
    · rw [updT_ne hb]; exact z
  refine ⟨updT F l (is (.lst vs)), ex', ⟨h.ext.ex.trans ex', fun a p q => ?_, fun a o q n => ?_⟩, h.fe.trans ex', by rw [List.length_set]; exact h.len, fun j s q => ?_, fun j k m c1 c2 q1 q2 e1 e2 => ?_⟩
  · by_cases z : a = l
    · subst z; rw [updT_same] at q; cases q; exact ⟨_, hu, rfl, fun _ => rfl⟩
    · rw [updT_ne z] at q; exact h.ok a p q
  · have z : a ≠ l := fun z => by subst z; rw [nB] at q; cases q
    rw [updT_ne z]; exact h.ext.kp a o q n
  · by_cases z : i = j
    · subst z
      rw [List.getElem?_set_self hil] at q
      cases q
      exact ⟨.ref l, e, .lst (.inl (.inl updT_same)) (r.ex ex')⟩
    · rw [List.getElem?_set_ne z] at q
      have := h.sl j s q
      cases s with
      | un => trivial
      | dat d => obtain ⟨v, h1, h2⟩ := this; exact ⟨v, h1, h2.ex ex'⟩
      | exc a d f x => obtain ⟨q, dd, v, h1, h2, r⟩ := this; exact ⟨q, dd, v, h1, ex' _ _ h2, r.ex ex'⟩
      | own c =>
        obtain ⟨m, w, em, hw, n1, n2, hcm⟩ := this
        have nm : m ≠ l := fun y => by
          subst y
          exact z (h.dis i j m _ _ hi q e em)
        exact ⟨m, w, em, hw, by rw [updT_ne nm]; exact n1, n2, hcm.ex ex'⟩
  · have g : ∀ (k : Nat) (c : Ce), (S.set i (.dat (.lst ds)))[k]? = some (Sl.own c) → S[k]? = some (Sl.own c) := fun k c q => by
      by_cases z : i = k
      · subst z; rw [List.getElem?_set_self hil] at q; cases q
      · rw [List.getElem?_set_ne z] at q; exact q
    exact h.dis j k m _ _ (g _ _ q1) (g _ _ q2) e1 e2
/-- less is said -/
inductive Wk : List Sl → List Sl → Prop
  | nil : Wk [] []
  | un {s : Sl} {S S' : List Sl} : Wk S S' → Wk (s :: S) (.un :: S')
  | same {s : Sl} {S S' : List Sl} : Wk S S' → Wk (s :: S) (s :: S')
theorem Wk.refl : ∀ S : List Sl, Wk S S
  | [] => .nil
  | _ :: S => .same (Wk.refl S)
theorem Wk.len : ∀ {S S' : List Sl}, Wk S S' → S.length = S'.length
  | _, _, .nil => rfl
  | _, _, .un w => by rw [List.length_cons, List.length_cons, Wk.len w]
  | _, _, .same w => by rw [List.length_cons, List.length_cons, Wk.len w]
theorem Wk.get : ∀ {S S' : List Sl} {i : Nat} {s : Sl}, Wk S S' → S'[i]? = some s → s = .un ∨ S[i]? = some s
  | _, _, 0, _, .un _, e => by simp at e; exact .inl e.symm
  | _, _, 0, _, .same _, e => by simp at e; subst e; exact .inr rfl
  | _, _, i + 1, _, .un w, e => by
    rcases Wk.get (i := i) w (by simpa using e) with h | h
    · exact .inl h
    · exact .inr (by simpa using h)
  | _, _, i + 1, _, .same w, e => by
    rcases Wk.get (i := i) w (by simpa using e) with h | h
    · exact .inl h
    · exact .inr (by simpa using h)
theorem At.weak {S' : List Sl} (h : At Z B S F σ H) (w : Wk S S') : At Z B S' F σ H := by
  refine ⟨h.ext, h.fe, h.len.trans w.len, fun i s q => ?_, fun i j l c c' q1 q2 => ?_⟩
  · rcases w.get q with e | e
    · subst e; trivial
    · exact h.sl i s e
  · rcases w.get q1 with e | e
    · cases e
    · rcases w.get q2 with e2 | e2
      · cases e2
      · exact h.dis i j l c c' e e2
end

/-- where a body stands: the text's facts, the entry, what is wished of errors, and of the slots then -/
structure Gx where
  Z : Zt
  B : Bs
  W : WX
  Se : List Sl
def Gx.Er (G : Gx) (c : Nat) (x : D) : Prop := ∀ cls dd F σ H, At G.Z G.B G.Se F σ H → ErrIs G.Z F c x cls dd → G.W cls dd σ H
section
variable (G : Gx) (S : List Sl)
def eV (n : N D) : TE := fun σ H Q => ∃ F, At G.Z G.B S F σ H ∧ n.wp (fun d => ∀ v F' H', Ext F H F' H' → Rp G.Z F' v d → Q v H') G.Er
def tV (n : N Bool) : TT := fun σ H Q => ∃ F, At G.Z G.B S F σ H ∧ n.wp (fun b => ∀ F' H', Ext F H F' H' → Q b H') G.Er
def aV (n : N (List D)) : TA := fun σ H Q => ∃ F, At G.Z G.B S F σ H ∧ n.wp (fun ds => ∀ vs F' H', Ext F H F' H' → RpL G.Z F' vs ds → Q vs H') G.Er
end
/-- how a block ends: on, handing back, out of the loop, on with the loop -/
inductive Fl (τ β : Type) where
  | nx (t : τ) | rt (d : D) | bk (b : β) | ct (b : β)
section
variable (G : Gx) (S : List Sl)
def flP {τ β : Type} (F0 : Ty) (sl : τ → List Sl) (sb : β → List Sl) (E : Ends) : Fl τ β → Prop
  | .nx t => ∀ F σ H, Ex F0 F → At G.Z G.B (sl t) F σ H → E.nx σ H
  | .bk t => ∀ F σ H, Ex F0 F → At G.Z G.B (sb t) F σ H → E.bk σ H
  | .ct t => ∀ F σ H, Ex F0 F → At G.Z G.B (sb t) F σ H → E.ct σ H
  | .rt d => ∀ v F H, Ext G.B.F G.B.H F H → Rp G.Z F v d → E.rt v H
def sV {τ β : Type} (sl : τ → List Sl) (sb : β → List Sl) (n : N (Fl τ β)) : TS := fun E σ H => ∃ F, At G.Z G.B S F σ H ∧ n.wp (flP G F sl sb E) G.Er
theorem flP.ex {τ β : Type} {F0 F1 : Ty} {sl : τ → List Sl} {sb : β → List Sl} {E : Ends} (e : Ex F0 F1) {f : Fl τ β} (h : flP G F0 sl sb E f) : flP G F1 sl sb E f := by
  cases f with
  | nx t => exact fun F σ H e1 A => h F σ H (e.trans e1) A
  | bk t => exact fun F σ H e1 A => h F σ H (e.trans e1) A
  | ct t => exact fun F σ H e1 A => h F σ H (e.trans e1) A
  | rt d => exact h
end

theorem PE.imp {X : Cx} {e : Expr} {t t' : TE} (h : PE X e t) (i : ∀ σ H Q, t' σ H Q → t σ H Q) : PE X e t' := ⟨fun pins s σ H Q I q => h.run pins s σ H Q I (i σ H Q q)⟩
theorem PT.imp {X : Cx} {e : Expr} {t t' : TT} (h : PT X e t) (i : ∀ σ H Q, t' σ H Q → t σ H Q) : PT X e t' := ⟨fun pins s σ H Q I q => h.run pins s σ H Q I (i σ H Q q)⟩
theorem PW.imp {X : Cx} {e : Expr} {t t' : TT} (h : PW X e t) (i : ∀ σ H Q, t' σ H Q → t σ H Q) : PW X e t' := ⟨fun w pins s σ H Q I q => h.run w pins s σ H Q I (i σ H Q q)⟩
theorem PA.imp {X : Cx} {e : List Expr} {t t' : TA} (h : PA X e t) (i : ∀ σ H Q, t' σ H Q → t σ H Q) : PA X e t' := ⟨fun pos pins s σ H Q I q => h.run pos pins s σ H Q I (i σ H Q q)⟩
theorem PK.imp {X : Cx} {e : List Keyword} {t t' : TA} (h : PK X e t) (i : ∀ σ H Q, t' σ H Q → t σ H Q) : PK X e t' := ⟨fun pos pins s σ H Q I q => h.run pos pins s σ H Q I (i σ H Q q)⟩
theorem PS.imp {X : Cx} {e : Stmt} {t t' : TS} (h : PS X e t) (i : ∀ E σ H, t' E σ H → t E σ H) : PS X e t' := ⟨fun pins s σ H E I q => h.run pins s σ H E I (i E σ H q)⟩
theorem PSs.imp {X : Cx} {e : List Stmt} {t t' : TS} (h : PSs X e t) (i : ∀ E σ H, t' E σ H → t E σ H) : PSs X e t' := ⟨fun pins s σ H E I q => h.run pins s σ H E I (i E σ H q)⟩

/-! ### expressions -/
section
variable {X : Cx} {G : Gx} {S : List Sl} {a b c : Expr} {na nb nc : N D} {pos : Pos}

theorem de_var {i : Nat} {x : Str} {d : D} (hi : S[i]? = some (.dat d) := by rfl) (hN : X.N[i]? = some x := by rfl) (hv : Vis X.env.scope x := by first | exact Or.inl rfl | exact Or.inr (Or.inl rfl) | exact Or.inr (Or.inr rfl))
    (hd : (x == ("__debug__" : Str)) = false := by decide) (hcd : (x == ("__classdict__" : Str)) = false := by decide) : PE X (.Name x pos) (eV G S (.ok d)) :=
  PE.imp (pe_var (i := i) hN hv hd hcd) fun σ H Q ⟨F, A, q⟩ => by
    obtain ⟨v, h, r⟩ := A.dat hi
    exact ⟨v, h, q v F H (Ext.refl A.ok) r⟩
theorem de_c {e : Expr} {v : V} {d : D} (h : PE X e (tC v)) (r : ∀ F, Rp G.Z F v d) : PE X e (eV G S (.ok d)) := PE.imp h fun σ H Q ⟨F, A, q⟩ => q v F H (Ext.refl A.ok) (r F)
theorem de_int {i j} : PE X (.Constant (.int i) j pos) (eV G S (.ok (.int i))) := de_c pe_int fun _ => .int _
theorem de_bl {i j} : PE X (.Constant (.bool i) j pos) (eV G S (.ok (.bl i))) := de_c pe_bl fun _ => .bl _
theorem de_str {i j} : PE X (.Constant (.str i) j pos) (eV G S (.ok (.str i))) := de_c pe_str fun _ => .str _
theorem de_non {j} : PE X (.Constant .none j pos) (eV G S (.ok .non)) := de_c pe_non fun _ => .non

/-- what a two-place operation on values does by data -/
def R2D (G : Gx) (r : R2) (op : D → D → N D) : Prop := ∀ (F : Ty) (H : Hp) (x y : D) (v u : V) (Q : VK), Okk F H → Rp G.Z F v x → Rp G.Z F u y →
  (op x y).wp (fun d => ∀ w F' H', Ext F H F' H' → Rp G.Z F' w d → Q w H') (fun _ _ => False) → r v u H Q
def R1D (G : Gx) (r : V → Hp → VK → Prop) (op : D → N D) : Prop := ∀ (F : Ty) (H : Hp) (x : D) (v : V) (Q : VK), Okk F H → Rp G.Z F v x →
  (op x).wp (fun d => ∀ w F' H', Ext F H F' H' → Rp G.Z F' w d → Q w H') (fun _ _ => False) → r v H Q
def RCD (G : Gx) (r : List V → Hp → VK → Prop) (op : List D → N D) : Prop := ∀ (F : Ty) (H : Hp) (xs : List D) (vs : List V) (Q : VK), Okk F H → RpL G.Z F vs xs →
  (op xs).wp (fun d => ∀ w F' H', Ext F H F' H' → Rp G.Z F' w d → Q w H') (fun _ _ => False) → r vs H Q
/-- no error of its own -/
def Tot {α : Type} (n : N α) : Prop := ∀ (k : α → Prop) (e : Nat → D → Prop), n.wp k e → n.wp k (fun _ _ => False)

theorem op_run {G : Gx} {S : List Sl} {ta tb : TE} {r : R2} {op : D → D → N D} (hr : R2D G r op) (ht : ∀ x y, Tot (op x y)) {σ : St} {H : Hp} {Q : VK}
    (h : eV G S (na.bind fun x => nb.bind fun y => op x y) σ H Q) : eV G S na σ H fun v H1 => eV G S nb σ H1 fun u H2 => r v u H2 Q := by
  obtain ⟨F, A, q⟩ := h
  refine ⟨F, A, na.mono (fun x q1 v F1 H1 e1 r1 => ?_) (fun _ _ z => z) q⟩
  have A1 := A.go e1
  refine ⟨F1, A1, nb.mono (fun y q2 u F2 H2 e2 r2 => ?_) (fun _ _ z => z) q1⟩
  refine hr F2 H2 x y v u Q (A1.go e2).ok (r1.ex e2.ex) r2 ((op x y).mono (fun d q3 w F3 H3 e3 r3 => q3 w F3 H3 ((e1.trans e2).trans e3) r3) (fun _ _ z => z) (ht x y _ _ q2))
theorem de_op {op : Operator} {r : R2} {o : D → D → N D} (ho : OpR X (binaryOp op) r) (hr : R2D G r o) (ht : ∀ x y, Tot (o x y)) (ha : PE X a (eV G S na)) (hb : PE X b (eV G S nb)) :
    PE X (.BinOp a op b pos) (eV G S (na.bind fun x => nb.bind fun y => o x y)) := PE.imp (pe_op ho ha hb) fun _ _ _ h => op_run (ta := eV G S na) (tb := eV G S nb) hr ht h
theorem de_cmp {op : CmpOp} {r : R2} {o : D → D → N D} (ho : OpR X (compareOp op) r) (hr : R2D G r o) (ht : ∀ x y, Tot (o x y)) (ha : PE X a (eV G S na)) (hb : PE X b (eV G S nb)) (hm : behindInMarks op b = false) :
    PE X (.Compare a [op] [b] pos) (eV G S (na.bind fun x => nb.bind fun y => o x y)) := PE.imp (pe_cmpR ho ha hb hm) fun _ _ _ h => op_run (ta := eV G S na) (tb := eV G S nb) hr ht h
theorem de_ix {r : R2} {o : D → D → N D} (ho : IxR X r) (hr : R2D G r o) (ht : ∀ x y, Tot (o x y)) (ha : PE X a (eV G S na)) (hb : PE X b (eV G S nb)) (hs : PlainIx b := by exact fun _ _ => rfl) :
    PE X (.Subscript a b pos) (eV G S (na.bind fun x => nb.bind fun y => o x y)) := PE.imp (pe_ix ho ha hb hs) fun _ _ _ h => op_run (ta := eV G S na) (tb := eV G S nb) hr ht h
theorem de_un {op : UnaryOp} {r : V → Hp → VK → Prop} {o : D → N D} (ho : UnR X (unaryOp op) r) (hr : R1D G r o) (ht : ∀ x, Tot (o x)) (ha : PE X a (eV G S na)) : PE X (.UnaryOp op a pos) (eV G S (na.bind o)) :=
  PE.imp (pe_un ho ha) fun σ H Q ⟨F, A, q⟩ => ⟨F, A, na.mono (fun x q1 v F1 H1 e1 r1 => hr F1 H1 x v Q (A.go e1).ok r1 ((o x).mono (fun d q2 w F2 H2 e2 r2 => q2 w F2 H2 (e1.trans e2) r2) (fun _ _ z => z) (ht x _ _ q1))) (fun _ _ z => z) q⟩

/-! arguments -/
theorem da_nil : PA X [] (aV G S (.ok [])) := PA.imp pa_nil fun σ H Q ⟨F, A, q⟩ => q [] F H (Ext.refl A.ok) .nil
theorem cons_run {na : N D} {nr : N (List D)} {σ : St} {H : Hp} {Q : List V → Hp → Prop} (h : aV G S (na.bind fun x => nr.bind fun xs => .ok (x :: xs)) σ H Q) :
    tCons (eV G S na) (aV G S nr) σ H Q := by
  obtain ⟨F, A, q⟩ := h
  refine ⟨F, A, na.mono (fun x q1 v F1 H1 e1 r1 => ?_) (fun _ _ z => z) q⟩
  refine ⟨F1, A.go e1, nr.mono (fun xs q2 vs F2 H2 e2 r2 => ?_) (fun _ _ z => z) q1⟩
  exact q2 (v :: vs) F2 H2 (e1.trans e2) (.cons (r1.ex e2.ex) r2)
theorem da_cons {es : List Expr} {nr : N (List D)} (ha : PE X a (eV G S na)) (hr : PA X es (aV G S nr)) (hs : starEach (a :: es) X.env = (false, eval a X.env) :: starEach es X.env := by rfl) :
    PA X (a :: es) (aV G S (na.bind fun x => nr.bind fun xs => .ok (x :: xs))) := PA.imp (pa_cons ha hr hs) fun _ _ _ h => cons_run h
theorem dk_nil : PK X [] (aV G S (.ok [])) := PK.imp pk_nil fun σ H Q ⟨F, A, q⟩ => q [] F H (Ext.refl A.ok) .nil
theorem dk_cons {es : List Keyword} {nr : N (List D)} {nm : Option Str} {kpos : Pos} (ha : PE X a (eV G S na)) (hr : PK X es (aV G S nr)) :
    PK X (⟨nm, a, kpos⟩ :: es) (aV G S (na.bind fun x => nr.bind fun xs => .ok (x :: xs))) := PK.imp (pk_cons ha hr) fun _ _ _ h => cons_run h
def N.le1 {α : Type} (xs : List α) : N Unit := N.asrt (xs.length ≤ sizeLine)
theorem de_tup {es : List Expr} {n : N (List D)} {x1} (h : PA X es (aV G S n)) : PE X (.Tuple es x1 pos) (eV G S (n.bind fun xs => (N.le1 xs).bind fun _ => .ok (.tup xs))) :=
  PE.imp (pe_tup h) fun σ H Q ⟨F, A, q⟩ => ⟨F, A, n.mono (fun xs q1 vs F1 H1 e1 r1 => by
    obtain ⟨hl, q2⟩ := q1
    refine ⟨by rw [r1.length]; exact hl, fun p hp => ?_⟩
    have ok1 := (A.go e1).ok
    have e2 : Ext F1 H1 (updT F1 p (is (.tup vs))) (upd H1 p (.tup vs)) := Ext.new ok1 hp rfl
    exact q2 _ _ _ (e1.trans e2) (.tup updT_same (r1.ex e2.ex))) (fun _ _ z => z) q⟩
theorem de_lst {es : List Expr} {n : N (List D)} (h : PA X es (aV G S n)) : PE X (.List es pos) (eV G S (n.bind fun xs => (N.le1 xs).bind fun _ => .ok (.lst xs))) :=
  PE.imp (pe_lst h) fun σ H Q ⟨F, A, q⟩ => ⟨F, A, n.mono (fun xs q1 vs F1 H1 e1 r1 => by
    obtain ⟨hl, q2⟩ := q1
    refine ⟨by rw [r1.length]; exact hl, fun p hp => ?_⟩
    have ok1 := (A.go e1).ok
    have e2 : Ext F1 H1 (updT F1 p (is (.lst vs))) (upd H1 p (.lst vs)) := Ext.new ok1 hp rfl
    exact q2 _ _ _ (e1.trans e2) (.lst (.inl (.inl updT_same)) (r1.ex e2.ex))) (fun _ _ z => z) q⟩

/-! tests -/
def N.tst (d : D) : N Bool := match d with
  | .bl b => .ok b
  | _ => .stuck
theorem rp_bl {Z : Zt} {F : Ty} {v : V} {b : Bool} (r : Rp Z F v (.bl b)) : v = .bl b := by cases r; rfl
theorem rp_int {Z : Zt} {F : Ty} {v : V} {b : Int} (r : Rp Z F v (.int b)) : v = .int b := by cases r; rfl
theorem rp_str {Z : Zt} {F : Ty} {v : V} {b : Str} (r : Rp Z F v (.str b)) : v = .str b := by cases r; rfl
theorem rp_non {Z : Zt} {F : Ty} {v : V} (r : Rp Z F v .non) : v = .non := by cases r; rfl
theorem tst_run {na : N D} {σ : St} {H : Hp} {Q : Bool → Hp → Prop} (h : tV G S (na.bind N.tst) σ H Q) : eV G S na σ H fun x H1 => ∃ c, x = .bl c ∧ Q c H1 := by
  obtain ⟨F, A, q⟩ := h
  refine ⟨F, A, na.mono (fun x q1 v F1 H1 e1 r1 => ?_) (fun _ _ z => z) q⟩
  cases x with
  | bl b => exact ⟨b, rp_bl r1, q1 F1 H1 e1⟩
  | _ => exact (show False from q1).elim
/-- an expression that gives True or False, as a test -/
theorem dt_val (ha : PE X a (eV G S na)) (he : ∀ whole, isTrue a X.env whole = (do let v ← whole; standAt a.pos; holding [v] (truthy v)) := by intro _; rfl) : PT X a (tV G S (na.bind N.tst)) :=
  PT.imp (pt_val ha he) fun _ _ _ h => tst_run h
theorem dt_cmp {op : CmpOp} {r : R2} {o : D → D → N D} (ho : OpR X (compareOp op) r) (hr : R2D G r o) (ht : ∀ x y, Tot (o x y)) (ha : PE X a (eV G S na)) (hb : PE X b (eV G S nb)) (hm : behindInMarks op b = false) :
    PT X (.Compare a [op] [b] pos) (tV G S ((na.bind fun x => nb.bind fun y => o x y).bind N.tst)) := PT.imp (pt_cmpR ho ha hb hm) fun _ _ _ h => op_run (ta := eV G S na) (tb := eV G S nb) hr ht (tst_run (na := na.bind fun x => nb.bind fun y => o x y) h)
theorem dt_not {n : N Bool} (h : PT X a (tV G S n)) : PT X (.UnaryOp .Not a pos) (tV G S (n.bind fun b => .ok (!b))) :=
  PT.imp (pt_not h) fun _ _ _ ⟨F, A, q⟩ => ⟨F, A, q⟩
theorem and_run {n m : N Bool} {σ : St} {H : Hp} {Q : Bool → Hp → Prop} (h : tV G S (n.bind fun b => if b = true then m else .ok false) σ H Q) : tAnd (tV G S n) (tV G S m) σ H Q := by
  obtain ⟨F, A, q⟩ := h
  refine ⟨F, A, n.mono (fun b q1 F1 H1 e1 => ?_) (fun _ _ z => z) q⟩
  cases b with
  | true => exact ⟨F1, A.go e1, m.mono (fun c q2 F2 H2 e2 => q2 F2 H2 (e1.trans e2)) (fun _ _ z => z) q1⟩
  | false => exact q1 F1 H1 e1
theorem or_run {n m : N Bool} {σ : St} {H : Hp} {Q : Bool → Hp → Prop} (h : tV G S (n.bind fun b => if b = true then .ok true else m) σ H Q) : tOr (tV G S n) (tV G S m) σ H Q := by
  obtain ⟨F, A, q⟩ := h
  refine ⟨F, A, n.mono (fun b q1 F1 H1 e1 => ?_) (fun _ _ z => z) q⟩
  cases b with
  | false => exact ⟨F1, A.go e1, m.mono (fun c q2 F2 H2 e2 => q2 F2 H2 (e1.trans e2)) (fun _ _ z => z) q1⟩
  | true => exact q1 F1 H1 e1
theorem dw_and1 {n : N Bool} (h : PT X a (tV G S n)) : PW X (.BoolOp .And [a] pos) (tV G S n) := pw_and1 h
theorem dw_or1 {n : N Bool} (h : PT X a (tV G S n)) : PW X (.BoolOp .Or [a] pos) (tV G S n) := pw_or1 h
theorem dw_and {rest : List Expr} {n m : N Bool} (ha : PT X a (tV G S n)) (hb : PW X (.BoolOp .And (b :: rest) pos) (tV G S m)) : PW X (.BoolOp .And (a :: b :: rest) pos) (tV G S (n.bind fun x => if x = true then m else .ok false)) :=
  PW.imp (pw_and ha hb) fun _ _ _ h => and_run h
theorem dw_or {rest : List Expr} {n m : N Bool} (ha : PT X a (tV G S n)) (hb : PW X (.BoolOp .Or (b :: rest) pos) (tV G S m)) : PW X (.BoolOp .Or (a :: b :: rest) pos) (tV G S (n.bind fun x => if x = true then .ok true else m)) :=
  PW.imp (pw_or ha hb) fun _ _ _ h => or_run h
/-- the same as values -/
def N.boo (d : D) : N Bool := N.tst d
theorem de_one {op} {n : N D} (h : PE X a (eV G S n)) : PE X (.BoolOp op [a] pos) (eV G S n) := pe_one h
theorem de_and {rest : List Expr} (ha : PE X a (eV G S na)) (hb : PE X (.BoolOp .And (b :: rest) pos) (eV G S nb)) : PE X (.BoolOp .And (a :: b :: rest) pos) (eV G S (na.bind fun x => (N.tst x).bind fun c => if c = true then nb else .ok (.bl false))) :=
  PE.imp (pe_and ha hb) fun σ H Q ⟨F, A, q⟩ => ⟨F, A, na.mono (fun x q1 v F1 H1 e1 r1 => by
    cases x with
    | bl c =>
      refine ⟨c, rp_bl r1, ?_⟩
      cases c with
      | true => exact ⟨F1, A.go e1, nb.mono (fun d q2 w F2 H2 e2 r2 => q2 w F2 H2 (e1.trans e2) r2) (fun _ _ z => z) q1⟩
      | false => exact q1 _ F1 H1 e1 (.bl false)
    | _ => exact (show False from q1).elim) (fun _ _ z => z) q⟩
theorem de_or {rest : List Expr} (ha : PE X a (eV G S na)) (hb : PE X (.BoolOp .Or (b :: rest) pos) (eV G S nb)) : PE X (.BoolOp .Or (a :: b :: rest) pos) (eV G S (na.bind fun x => (N.tst x).bind fun c => if c = true then .ok (.bl true) else nb)) :=
  PE.imp (pe_or ha hb) fun σ H Q ⟨F, A, q⟩ => ⟨F, A, na.mono (fun x q1 v F1 H1 e1 r1 => by
    cases x with
    | bl c =>
      refine ⟨c, rp_bl r1, ?_⟩
      cases c with
      | false => exact ⟨F1, A.go e1, nb.mono (fun d q2 w F2 H2 e2 r2 => q2 w F2 H2 (e1.trans e2) r2) (fun _ _ z => z) q1⟩
      | true => exact q1 _ F1 H1 e1 (.bl true)
    | _ => exact (show False from q1).elim) (fun _ _ z => z) q⟩
theorem de_not (ha : PE X a (eV G S na)) : PE X (.UnaryOp .Not a pos) (eV G S (na.bind fun x => (N.tst x).bind fun c => .ok (.bl (!c)))) :=
  PE.imp (pe_not ha) fun σ H Q ⟨F, A, q⟩ => ⟨F, A, na.mono (fun x q1 v F1 H1 e1 r1 => by
    cases x with
    | bl c => exact ⟨c, rp_bl r1, q1 _ F1 H1 e1 (.bl _)⟩
    | _ => exact (show False from q1).elim) (fun _ _ z => z) q⟩
theorem de_if {n : N Bool} (hc : PT X c (tV G S n)) (ha : PE X a (eV G S na)) (hb : PE X b (eV G S nb)) : PE X (.IfExp c a b pos) (eV G S (n.bind fun x => if x = true then na else nb)) :=
  PE.imp (pe_ifExp hc ha hb) fun σ H Q ⟨F, A, q⟩ => ⟨F, A, n.mono (fun x q1 F1 H1 e1 => by
    cases x with
    | true => exact ⟨F1, A.go e1, na.mono (fun d q2 w F2 H2 e2 r2 => q2 w F2 H2 (e1.trans e2) r2) (fun _ _ z => z) q1⟩
    | false => exact ⟨F1, A.go e1, nb.mono (fun d q2 w F2 H2 e2 r2 => q2 w F2 H2 (e1.trans e2) r2) (fun _ _ z => z) q1⟩) (fun _ _ z => z) q⟩

/-! calls -/
/-- a def's promise by its mirror -/
def spN (Z : Zt) (n : Nat) (m : List D → N D) : Sp := fun vs H Q E => vs.length = n ∧ ∃ F ds, Okk F H ∧ RpL Z F vs ds ∧
  (m ds).wp (fun d => ∀ v F' H', Ext F H F' H' → Rp Z F' v d → Q v H') (fun c x => ∀ cls dd F' H', Ext F H F' H' → ErrIs Z F' c x cls dd → E cls dd H')
theorem spN.len {Z : Zt} {n : Nat} {m : List D → N D} (vs : List V) (H : Hp) (Q : VK) (E : XK) (h : spN Z n m vs H Q E) : vs.length = n := h.1
def Arity (n : Nat) (m : List D → N D) : Prop := ∀ ds k e, (m ds).wp k e → ds.length = n
def app0 (m : N D) : List D → N D | [] => m | _ => .stuck
def app1 (m : D → N D) : List D → N D | [a] => m a | _ => .stuck
def app2 (m : D → D → N D) : List D → N D | [a, b] => m a b | _ => .stuck
def app3 (m : D → D → D → N D) : List D → N D | [a, b, c] => m a b c | _ => .stuck
def app4 (m : D → D → D → D → N D) : List D → N D | [a, b, c, d] => m a b c d | _ => .stuck
def app5 (m : D → D → D → D → D → N D) : List D → N D | [a, b, c, d, e] => m a b c d e | _ => .stuck
theorem ar0 (m) : Arity 0 (app0 m) := fun ds k e h => match ds, h with | [], _ => rfl
theorem ar1 (m) : Arity 1 (app1 m) := fun ds k e h => match ds, h with | [_], _ => rfl
theorem ar2 (m) : Arity 2 (app2 m) := fun ds k e h => match ds, h with | [_, _], _ => rfl
theorem ar3 (m) : Arity 3 (app3 m) := fun ds k e h => match ds, h with | [_, _, _], _ => rfl
theorem ar4 (m) : Arity 4 (app4 m) := fun ds k e h => match ds, h with | [_, _, _, _], _ => rfl
theorem ar5 (m) : Arity 5 (app5 m) := fun ds k e h => match ds, h with | [_, _, _, _, _], _ => rfl
theorem call_post {n : Nat} {vs : List V} {F1 : Ty} {F : Ty} {H H1 : Hp} {σ : St} {ds : List D} {m : List D → N D} {Q : VK} (hz : Arity n m) (hw : Wk S G.Se) (A : At G.Z G.B S F σ H) (e1 : Ext F H F1 H1) (r1 : RpL G.Z F1 vs ds)
    (q : (m ds).wp (fun d => ∀ v F' H', Ext F H F' H' → Rp G.Z F' v d → Q v H') G.Er) : spN G.Z n m vs H1 Q (WE G.W σ) :=
  ⟨r1.length.trans (hz ds _ _ q), F1, ds, (A.go e1).ok, r1, (m ds).mono (fun d q2 v F2 H2 e2 r2 => q2 v F2 H2 (e1.trans e2) r2) (fun c x z cls dd F2 H2 e2 er => z cls dd F2 σ H2 (((A.go e1).go e2).weak hw) er) q⟩
/-- what a call of a def wants, once: it stands at f, keeps its mirror's promise, is in reach -/
structure Cal (X : Cx) (G : Gx) (x : Str) (n : Nat) (m : List D → N D) : Prop where
  ex : ∃ (k : Nat) (f : Addr) (fd : FuncData) (ps : List Str), FnOk X.prog X.w X.K X.mg X.base (L2.CX X.prog X.w) k f fd ps (spN G.Z n m) ∧ Room k X.A ∧ X.mg x = some (.ref f) ∧ PySem.W.keepIn X.K (.ref f) = true ∧ Binds X.K fd ps []
  ar : Arity n m
theorem de_callL {n : Nat} {m : List D → N D} {x : Str} {p : Pos} {e : Expr} {es : List Expr} {na : N (List D)} (C : Cal X G x n m) (tk : Takes X G.W) (hw : Wk S G.Se)
    (ha : PA X (e :: es) (aV G S na)) (hg : Gl X x := by rfl) (hdb : (x == ("__debug__" : Str)) = false := by decide) (he : starEach (e :: es) X.env = (false, eval e X.env) :: starEach es X.env := by rfl) (hpl : (backTo pos (starEach es X.env)).any (·.1) = false := by rfl) :
    PE X (.Call (.Name x p) (e :: es) [] pos) (eV G S (na.bind m)) := by
  obtain ⟨k, f, fd, ps, Fn, hr, hm, hk, hb⟩ := C.ex
  refine PE.imp (pe_callS Fn hr hg hm hk hb (fun σ => passAt tk σ) ha hdb he hpl) fun σ H Q ⟨F, A, q⟩ => ?_
  exact ⟨F, A, na.mono (fun ds q1 vs F1 H1 e1 r1 => call_post C.ar hw A e1 r1 q1) (fun _ _ z => z) q⟩
theorem de_call1 {m : D → N D} {x : Str} {p : Pos} (C : Cal X G x 1 (app1 m)) (tk : Takes X G.W) (hw : Wk S G.Se) (ha : PE X a (eV G S na)) (hg : Gl X x := by rfl) (hdb : (x == ("__debug__" : Str)) = false := by decide)
    (h1 : starEach [a] X.env = (false, eval a X.env) :: starEach [] X.env := by rfl) : PE X (.Call (.Name x p) [a] [] pos) (eV G S (na.bind m)) :=
  de_callL C tk hw (da_cons ha da_nil h1) hg hdb h1 rfl
theorem de_call2 {m : D → D → N D} {x : Str} {p : Pos} (C : Cal X G x 2 (app2 m)) (tk : Takes X G.W) (hw : Wk S G.Se) (ha : PE X a (eV G S na)) (hb : PE X b (eV G S nb)) (hg : Gl X x := by rfl) (hdb : (x == ("__debug__" : Str)) = false := by decide)
    (h1 : starEach [a, b] X.env = (false, eval a X.env) :: starEach [b] X.env := by rfl) (h2 : starEach [b] X.env = (false, eval b X.env) :: starEach [] X.env := by rfl) (hpl : (backTo pos (starEach [b] X.env)).any (·.1) = false := by rfl) :
    PE X (.Call (.Name x p) [a, b] [] pos) (eV G S (na.bind fun x => nb.bind fun y => m x y)) :=
  de_callL C tk hw (da_cons ha (da_cons hb da_nil h2) h1) hg hdb h1 hpl
theorem de_call3 {m : D → D → D → N D} {x : Str} {p : Pos} (C : Cal X G x 3 (app3 m)) (tk : Takes X G.W) (hw : Wk S G.Se) (ha : PE X a (eV G S na)) (hb : PE X b (eV G S nb)) (hc : PE X c (eV G S nc)) (hg : Gl X x := by rfl) (hdb : (x == ("__debug__" : Str)) = false := by decide)
    (h1 : starEach [a, b, c] X.env = (false, eval a X.env) :: starEach [b, c] X.env := by rfl) (h2 : starEach [b, c] X.env = (false, eval b X.env) :: starEach [c] X.env := by rfl) (h3 : starEach [c] X.env = (false, eval c X.env) :: starEach [] X.env := by rfl)
    (hpl : (backTo pos (starEach [b, c] X.env)).any (·.1) = false := by rfl) :
    PE X (.Call (.Name x p) [a, b, c] [] pos) (eV G S (na.bind fun x => nb.bind fun y => nc.bind fun z => m x y z)) :=
  de_callL C tk hw (da_cons ha (da_cons hb (da_cons hc da_nil h3) h2) h1) hg hdb h1 hpl
end
end M

set_option Elab.async false
set_option linter.all false
set_option maxRecDepth 100000
set_option maxHeartbeats 2000000
namespace M
open PySem L2
/-! ### statements -/
section
variable {X : Cx} {G : Gx} {S : List Sl} {τ τ1 β : Type} {sl : τ → List Sl} {sl1 : τ1 → List Sl} {sb : β → List Sl} {a b c e : Expr} {na nb : N D} {pos : Pos} {st : Stmt} {rest body : List Stmt}
theorem PSs.ex {ι : Type} {u : ι → TS} (h : ∀ t, PSs X rest (u t)) : PSs X rest (fun E σ H => ∃ t, u t E σ H) := ⟨fun pins s σ H E I ⟨t, q⟩ => (h t).run pins s σ H E I q⟩
def N.seq (n : N (Fl τ1 β)) (m : τ1 → N (Fl τ β)) : N (Fl τ β) := n.bind fun f => match f with
  | .nx t => m t
  | .rt d => .ok (.rt d)
  | .bk t => .ok (.bk t)
  | .ct t => .ok (.ct t)
theorem ds_cons {n : N (Fl τ1 β)} {m : τ1 → N (Fl τ β)} (h1 : PS X st (sV G S sl1 sb n)) (h2 : ∀ t, PSs X rest (sV G (sl1 t) sl sb (m t))) : PSs X (st :: rest) (sV G S sl sb (n.seq m)) :=
  PSs.imp (pss_cons h1 (PSs.ex h2)) fun E σ H ⟨F0, A, q⟩ => ⟨F0, A, n.mono (fun f q1 => by
    cases f with
    | nx t => exact fun F σ H e A => ⟨t, F, A, (m t).mono (fun f q2 => flP.ex G e q2) (fun _ _ z => z) q1⟩
    | rt d => exact q1
    | bk t => exact q1
    | ct t => exact q1) (fun _ _ z => z) q⟩
theorem ds_one {n : N (Fl τ β)} (h1 : PS X st (sV G S sl sb n)) : PSs X [st] (sV G S sl sb n) := pss_one h1
theorem ds_nil (t : τ) (h : sl t = S := by rfl) : PSs X [] (sV G S sl sb (.ok (.nx t))) := PSs.imp pss_nil fun E σ H ⟨F, A, q⟩ => q F σ H (Ex.refl F) (by rw [h]; exact A)
/-- weakened behind -/
theorem ds_nilW (t : τ) (h : Wk S (sl t)) : PSs X [] (sV G S sl sb (.ok (.nx t))) := PSs.imp pss_nil fun E σ H ⟨F, A, q⟩ => q F σ H (Ex.refl F) (A.weak h)
theorem ds_pass : PS X (.Pass pos) (sV G S (fun _ : Unit => S) sb (.ok (.nx ()))) := PS.imp ps_pass fun E σ H ⟨F, A, q⟩ => q F σ H (Ex.refl F) A
theorem ds_brk (t : β) (h : sb t = S := by rfl) : PS X (.Break pos) (sV G S sl sb (.ok (.bk t))) := PS.imp ps_break fun E σ H ⟨F, A, q⟩ => q F σ H (Ex.refl F) (by rw [h]; exact A)
theorem ds_cont (t : β) (h : sb t = S := by rfl) : PS X (.Continue pos) (sV G S sl sb (.ok (.ct t))) := PS.imp ps_continue fun E σ H ⟨F, A, q⟩ => q F σ H (Ex.refl F) (by rw [h]; exact A)
theorem ds_contW (t : β) (h : Wk S (sb t)) : PS X (.Continue pos) (sV G S sl sb (.ok (.ct t))) := PS.imp ps_continue fun E σ H ⟨F, A, q⟩ => q F σ H (Ex.refl F) (A.weak h)
theorem ds_ret (ha : PE X e (eV G S na)) : PS X (.Return (some e) pos) (sV G S sl sb (na.bind fun d => .ok (.rt d))) :=
  PS.imp (ps_ret ha) fun E σ H ⟨F, A, q⟩ => ⟨F, A, na.mono (fun d q1 v F1 H1 e1 r1 => q1 v F1 H1 (A.ext.trans e1) r1) (fun _ _ z => z) q⟩
theorem ds_retN : PS X (.Return none pos) (sV G S sl sb (.ok (.rt .non))) := PS.imp ps_retN fun E σ H ⟨F, A, q⟩ => q .non F H A.ext .non
theorem ds_expr (ha : PE X e (eV G S na)) (hs : swapsWith e none pos.line X.env = pure false := by rfl) : PS X (.Expr e pos) (sV G S (fun _ : Unit => S) sb (na.bind fun _ => .ok (.nx ()))) :=
  PS.imp (ps_expr ha hs) fun E σ H ⟨F, A, q⟩ => ⟨F, A, na.mono (fun d q1 v F1 H1 e1 r1 => q1 F1 σ H1 e1.ex (A.go e1)) (fun _ _ z => z) q⟩
theorem ds_set {i : Nat} {x : Str} {pos' : Pos} (hN : X.N.Nodup) (ha : PE X e (eV G S na)) (hi : X.N[i]? = some x := by rfl) (hx : Loc X.env.scope x := by first | exact Or.inl rfl | exact Or.inr rfl) (hs : swapsWith e (some (.Name x pos')) pos.line X.env = pure false := by rfl)
    (hf : X.fn x = true ∨ X.env.scope.names.lookup x = some .local := by first | exact .inl rfl | exact .inr rfl) :
    PS X (.Assign [.Name x pos'] e pos) (sV G S (fun d => S.set i (.dat d)) sb (na.bind fun d => .ok (.nx d))) :=
  PS.imp (ps_set (i := i) hN hi hx ha hs hf) fun E σ H ⟨F, A, q⟩ => ⟨F, A, na.mono (fun d q1 v F1 H1 e1 r1 => q1 F1 _ H1 e1.ex ((A.go e1).set r1)) (fun _ _ z => z) q⟩
theorem ds_if {n : N Bool} {n1 n2 : N (Fl τ β)} {s1 s2 : List Stmt} (hc : PT X c (tV G S n)) (h1 : PSs X s1 (sV G S sl sb n1)) (h2 : PSs X s2 (sV G S sl sb n2)) :
    PS X (.If c s1 s2 pos) (sV G S sl sb (n.bind fun x => if x = true then n1 else n2)) :=
  PS.imp (ps_if hc h1 h2) fun E σ H ⟨F, A, q⟩ => ⟨F, A, n.mono (fun x q1 F1 H1 e1 => by
    cases x with
    | true => exact ⟨F1, A.go e1, n1.mono (fun f q2 => flP.ex G e1.ex q2) (fun _ _ z => z) q1⟩
    | false => exact ⟨F1, A.go e1, n2.mono (fun f q2 => flP.ex G e1.ex q2) (fun _ _ z => z) q1⟩) (fun _ _ z => z) q⟩
/-- raise C(e) -/
theorem ds_raise {ci : Nat} {nm : String} {fI : Addr} {p pos2 : Pos} {k : Nat} {x : Str} (hc : X.calm = true) (T : PySem.TErr.ETxt X.K X.mg nm (G.Z.fs ci) (G.Z.cs ci) fI) (hr : Room k X.A) (tk : Takes X G.W) (hw : Wk S G.Se) (ha : PE X a (eV G S na))
    (hx : x = PySem.Str.ofString nm := by rfl) (hg : Gl X x := by rfl) (hdb : (x == ("__debug__" : Str)) = false := by decide) (he : starEach (a :: []) X.env = (false, eval a X.env) :: starEach [] X.env := by rfl) (hpl : (backTo pos (starEach [] X.env)).any (·.1) = false := by rfl) :
    PS X (.Raise (some (.Call (.Name x p) [a] [] pos)) none pos2) (sV G S sl sb (na.bind fun d => .err ci d)) :=
  PS.imp (ps_raiseE hc T hr tk (pa_cons ha pa_nil he) hx hg hdb he hpl) fun E σ H ⟨F, A, q⟩ => ⟨F, A, na.mono (fun d q1 v F1 H1 e1 r1 => ⟨v, rfl, fun p hp => by
    have A1 := A.go e1
    have e2 : Ext F1 H1 (updT F1 p (is (.xd [(PySem.Str.ofString (G.Z.fs ci), v)]))) (upd H1 p (.xd [(PySem.Str.ofString (G.Z.fs ci), v)])) := Ext.new A1.ok hp rfl
    exact q1 _ _ _ σ _ ((A1.go e2).weak hw) ⟨rfl, p, v, rfl, updT_same, r1.ex e2.ex⟩⟩) (fun _ _ z => z) q⟩
end

/-! ### a def's body -/
def N.fin {τ β : Type} (n : N (Fl τ β)) : N D := n.bind fun f => match f with
  | .nx _ => .ok .non
  | .rt d => .ok d
  | _ => .stuck
def sls (ds : List D) (k : Nat) : List Sl := ds.map Sl.dat ++ List.replicate k .un
theorem at_start {Z : Zt} {F : Ty} {H : Hp} {vs : List V} {ds : List D} {Nn : List Str} (ok : Okk F H) (r : RpL Z F vs ds) : At Z ⟨F, H, F⟩ (sls ds (Nn.length - vs.length)) F (L2.start Nn vs) H := by
  refine ⟨Ext.refl ok, Ex.refl F, ?_, fun i s q => ?_, fun i j l c c' q1 => ?_⟩
  · unfold L2.start sls
    rw [List.length_append, List.length_append, List.length_map, List.length_map, List.length_replicate, List.length_replicate, r.length]
  · unfold sls at q
    unfold L2.start
    by_cases hi : i < ds.length
    · rw [List.getElem?_append_left (by rw [List.length_map]; exact hi), List.getElem?_map] at q
      cases e : ds[i]? with
      | none => rw [e] at q; cases q
      | some d =>
        rw [e] at q
        cases q
        obtain ⟨v, hv, rv⟩ := r.get e
        refine ⟨v, ?_, rv⟩
        rw [List.getElem?_append_left (by rw [List.length_map, r.length]; exact hi), List.getElem?_map, hv]
        rfl
    · rw [List.getElem?_append_right (by rw [List.length_map]; omega), List.getElem?_replicate] at q
      split at q
      · cases q; trivial
      · cases q
  · exfalso
    unfold sls at q1
    by_cases hi : i < ds.length
    · rw [List.getElem?_append_left (by rw [List.length_map]; exact hi), List.getElem?_map] at q1
      cases e : ds[i]? with
      | none => rw [e] at q1; cases q1
      | some d => rw [e] at q1; cases q1
    · rw [List.getElem?_append_right (by rw [List.length_map]; omega), List.getElem?_replicate] at q1
      split at q1
      · cases q1
      · cases q1
theorem wk_un : ∀ (S : List Sl), Wk S (List.replicate S.length .un)
  | [] => .nil
  | _ :: S => .un (wk_un S)
section
variable {P : Program} {w : World} {K : PySem.W.Frag} {mg : Str → Option Value} {base : Heap}
/-- what stands around a def's body -/
structure Body (Z : Zt) (k : Nat) (X : Cx) (G : Gx) (n : Nat) : Prop where
  z : G.Z = Z
  tk : Takes X G.W
  hr : Room k X.A
  se : G.Se = List.replicate n .un
/-- a def, by its body's derivation -/
theorem fn_ok {Z : Zt} {x qual : Str} {st : Stmt} {f : Addr} {fd : FuncData} {Nn ps : List Str} {k : Nat} {m : List D → N D} (F : Fun K x qual st f fd) (S : FnScope Nn ps (defScope st)) (ar : Arity ps.length m)
    (hbody : ∀ (X : Cx) (G : Gx) (ds : List D), X.prog = P → X.w = w → X.K = K → X.mg = mg → X.base = base → X.N = Nn → X.env.scope = defScope st → X.fn = (fun _ => true) → X.calm = true → X.stack = X.env :: X.outer → X.env.frame = some X.env.locals →
      G.Z = Z → G.Se = List.replicate Nn.length .un → Takes X G.W → Room k X.A → ds.length = ps.length →
      ∃ (τ β : Type) (sl : τ → List Sl) (sb : β → List Sl) (nn : N (Fl τ β)), PSs X (defBody st) (sV G (sls ds (Nn.length - ps.length)) sl sb nn) ∧ ∀ k e, (m ds).wp k e → nn.fin.wp k e) :
    FnOk P w K mg base (L2.CX P w) (k + 1) f fd ps (spN Z ps.length m) := by
  refine F.okX S (fun vs H Q E h => h.1) (fun cdv A outer s H vs Q E hr h => ?_)
  obtain ⟨hl, F0, ds, ok0, r0, q0⟩ := h
  have hd : ds.length = ps.length := ar ds _ _ q0
  obtain ⟨τ, β, sl, sb, nn, hps, hq⟩ := hbody (cxOf (L2.CX P w) P w K mg base Nn qual (defScope st) f cdv A outer s H E) ⟨Z, ⟨F0, H, F0⟩, fun cls d _ H => E cls d H, List.replicate Nn.length .un⟩ ds rfl rfl rfl rfl rfl rfl rfl rfl rfl rfl rfl rfl rfl
    (takes_of rfl rfl rfl rfl) hr hd
  refine ⟨_, hps, ⟨F0, ?_, ?_⟩⟩
  · have := at_start (Z := Z) (Nn := Nn) ok0 r0
    rw [hl] at this
    exact this
  · have q1 := hq _ _ q0
    refine nn.mono (fun f q2 => ?_) (fun c x q2 => ?_) q1
    · cases f with
      | nx t => exact fun F σ H1 _ A => q2 .non F H1 A.ext .non
      | rt d => exact fun v F H1 e1 r1 => q2 v F H1 e1 r1
      | bk t => exact (show False from q2).elim
      | ct t => exact (show False from q2).elim
    · intro cls dd F σ H1 A er
      exact q2 cls dd F H1 A.ext er
end
end M

set_option Elab.async false
set_option linter.all false
set_option maxRecDepth 100000
set_option maxHeartbeats 2000000
namespace M
open PySem L2
/-! ### operations by data -/
def iOp (f : Int → Int → D) : D → D → N D
  | .int i, .int j => .ok (f i j)
  | _, _ => .stuck
def iOpC (C : Int → Int → Prop) (f : Int → Int → D) : D → D → N D
  | .int i, .int j => (N.asrt (C i j)).bind fun _ => .ok (f i j)
  | _, _ => .stuck
theorem Tot.ok {α : Type} (a : α) : Tot (N.ok a) := fun _ _ h => h
theorem Tot.stuck {α : Type} : Tot (N.stuck : N α) := fun _ _ h => h
theorem Tot.bind {α β : Type} {n : N α} {f : α → N β} (h : Tot n) (hf : ∀ a, Tot (f a)) : Tot (n.bind f) := fun k e q => n.mono (fun a z => hf a _ _ z) (fun _ _ z => z) (h _ _ q)
theorem Tot.asrt (p : Prop) : Tot (N.asrt p) := fun _ _ h => h
theorem iOp_tot (f) (x y : D) : Tot (iOp f x y) := by
  unfold iOp
  split
  · exact Tot.ok _
  · exact Tot.stuck
theorem iOpC_tot (C) (f) (x y : D) : Tot (iOpC C f x y) := by
  unfold iOpC
  split
  · exact (Tot.asrt _).bind fun _ => Tot.ok _
  · exact Tot.stuck
section
variable {G : Gx}
theorem r2_I0 {g : Int → Int → V} {f : Int → Int → D} (h : ∀ F i j, Rp G.Z F (g i j) (f i j)) : R2D G (rI0 g) (iOp f) := by
  intro F H x y v u Q ok rx ry q
  unfold iOp at q
  split at q
  · exact ⟨_, _, rp_int rx, rp_int ry, q _ F H (Ext.refl ok) (h F _ _)⟩
  · exact q.elim
theorem r2_I {C : Int → Int → Prop} {g : Int → Int → V} {f : Int → Int → D} (h : ∀ F i j, Rp G.Z F (g i j) (f i j)) : R2D G (rI C g) (iOpC C f) := by
  intro F H x y v u Q ok rx ry q
  unfold iOpC at q
  split at q
  · exact ⟨_, _, rp_int rx, rp_int ry, q.1, q.2 _ F H (Ext.refl ok) (h F _ _)⟩
  · exact q.elim
abbrev dAdd := iOp fun i j => .int (i + j)
abbrev dSub := iOp fun i j => .int (i - j)
abbrev dMul := iOpC CMul fun i j => .int (i * j)
abbrev dDiv := iOpC CDiv fun i j => .int (i / j)
abbrev dMod := iOpC (fun _ j => 0 < j) fun i j => .int (i % j)
abbrev dModN := iOpC (fun _ j => j ≠ 0) fun i j => .int (i.fmod j)
abbrev dPow := iOpC CPow fun i j => .int (i ^ j.toNat)
abbrev dLt := iOp fun i j => .bl (decide (i < j))
abbrev dLe := iOp fun i j => .bl (decide (i ≤ j))
abbrev dGt := iOp fun i j => .bl (decide (j < i))
abbrev dGe := iOp fun i j => .bl (decide (j ≤ i))
variable {X : Cx} {S : List Sl} {a b c : Expr} {na nb nc : N D} {pos : Pos}
theorem de_add (ha : PE X a (eV G S na)) (hb : PE X b (eV G S nb)) : PE X (.BinOp a .Add b pos) (eV G S (na.bind fun x => nb.bind fun y => dAdd x y)) := de_op op_add (r2_I0 fun _ _ _ => .int _) (iOp_tot _) ha hb
theorem de_sub (ha : PE X a (eV G S na)) (hb : PE X b (eV G S nb)) : PE X (.BinOp a .Sub b pos) (eV G S (na.bind fun x => nb.bind fun y => dSub x y)) := de_op op_sub (r2_I0 fun _ _ _ => .int _) (iOp_tot _) ha hb
theorem de_mul (ha : PE X a (eV G S na)) (hb : PE X b (eV G S nb)) : PE X (.BinOp a .Mult b pos) (eV G S (na.bind fun x => nb.bind fun y => dMul x y)) := de_op op_mul (r2_I fun _ _ _ => .int _) (iOpC_tot _ _) ha hb
theorem de_fdiv (ha : PE X a (eV G S na)) (hb : PE X b (eV G S nb)) : PE X (.BinOp a .FloorDiv b pos) (eV G S (na.bind fun x => nb.bind fun y => dDiv x y)) := de_op op_fdiv (r2_I fun _ _ _ => .int _) (iOpC_tot _ _) ha hb
theorem de_mod (ha : PE X a (eV G S na)) (hb : PE X b (eV G S nb)) : PE X (.BinOp a .Mod b pos) (eV G S (na.bind fun x => nb.bind fun y => dMod x y)) := de_op op_mod (r2_I fun _ _ _ => .int _) (iOpC_tot _ _) ha hb
theorem de_pow (ha : PE X a (eV G S na)) (hb : PE X b (eV G S nb)) : PE X (.BinOp a .Pow b pos) (eV G S (na.bind fun x => nb.bind fun y => dPow x y)) := de_op op_pow (r2_I fun _ _ _ => .int _) (iOpC_tot _ _) ha hb
theorem de_lt (ha : PE X a (eV G S na)) (hb : PE X b (eV G S nb)) : PE X (.Compare a [.Lt] [b] pos) (eV G S (na.bind fun x => nb.bind fun y => dLt x y)) := de_cmp op_lt (r2_I0 fun _ _ _ => .bl _) (iOp_tot _) ha hb (nomark _)
theorem de_le (ha : PE X a (eV G S na)) (hb : PE X b (eV G S nb)) : PE X (.Compare a [.LtE] [b] pos) (eV G S (na.bind fun x => nb.bind fun y => dLe x y)) := de_cmp op_le (r2_I0 fun _ _ _ => .bl _) (iOp_tot _) ha hb (nomark _)
theorem de_gt (ha : PE X a (eV G S na)) (hb : PE X b (eV G S nb)) : PE X (.Compare a [.Gt] [b] pos) (eV G S (na.bind fun x => nb.bind fun y => dGt x y)) := de_cmp op_gt (r2_I0 fun _ _ _ => .bl _) (iOp_tot _) ha hb (nomark _)
theorem de_ge (ha : PE X a (eV G S na)) (hb : PE X b (eV G S nb)) : PE X (.Compare a [.GtE] [b] pos) (eV G S (na.bind fun x => nb.bind fun y => dGe x y)) := de_cmp op_ge (r2_I0 fun _ _ _ => .bl _) (iOp_tot _) ha hb (nomark _)
/-- a test by an expression's True or False: the derivation of the expression, taken as a test -/
theorem dt_of (ha : PE X a (eV G S na)) (he : ∀ whole, isTrue a X.env whole = (do let v ← whole; standAt a.pos; holding [v] (truthy v)) := by intro _; rfl) : PT X a (tV G S (na.bind N.tst)) := dt_val ha he
/-- a <= b < c and its like, of ints -/
def dChain (o o' : D → D → N D) (na nb nc : N D) : N D := na.bind fun x => nb.bind fun y => (o x y).bind fun z => (N.tst z).bind fun k => if k = true then nc.bind fun w => o' y w else .ok (.bl false)
theorem de_chain {op op' : CmpOp} {r r' : R2} {o o' : D → D → N D} (ho : OpR X (compareOp op) r) (ho' : OpR X (compareOp op') r') (hr : R2D G r o) (ht : ∀ x y, Tot (o x y)) (hr' : R2D G r' o') (ht' : ∀ x y, Tot (o' x y))
    (ha : PE X a (eV G S na)) (hb : PE X b (eV G S nb)) (hc : PE X c (eV G S nc)) (h1 : lastMarks [op, op'] [b, c] = false := by rfl) :
    PE X (.Compare a [op, op'] [b, c] pos) (eV G S (dChain o o' na nb nc)) :=
  PE.imp (pe_chain ho ho' ha hb hc h1) fun σ H Q ⟨F, A, q⟩ => by
    refine ⟨F, A, na.mono (fun x q1 v F1 H1 e1 r1 => ⟨F1, A.go e1, nb.mono (fun y q2 u F2 H2 e2 r2 => ?_) (fun _ _ z => z) q1⟩) (fun _ _ z => z) q⟩
    refine hr F2 H2 x y v u _ ((A.go e1).go e2).ok (r1.ex e2.ex) r2 ((o x y).mono (fun z q3 w F3 H3 e3 r3 => ?_) (fun _ _ z => z) (ht x y _ _ q2))
    cases z with
    | bl k =>
      refine ⟨k, rp_bl r3, ?_⟩
      cases k with
      | true =>
        refine ⟨F3, ((A.go e1).go e2).go e3, nc.mono (fun w q4 u2 F4 H4 e4 r4 => ?_) (fun _ _ z => z) q3⟩
        exact hr' F4 H4 y w u u2 Q ((((A.go e1).go e2).go e3).go e4).ok (r2.ex (e3.ex.trans e4.ex)) r4 ((o' y w).mono (fun d q5 w5 F5 H5 e5 r5 => q5 w5 F5 H5 ((((e1.trans e2).trans e3).trans e4).trans e5) r5) (fun _ _ z => z) (ht' y w _ _ q4))
      | false => exact q3 _ F3 H3 ((e1.trans e2).trans e3) (.bl false)
    | _ => exact (show False from q3).elim

/-- == of two flat things of one kind -/
def sEq : D → D → N Bool
  | .int i, .int j => .ok (decide (i = j))
  | .str i, .str j => .ok (decide (i = j))
  | .bl i, .bl j => .ok (decide (i = j))
  | _, _ => .stuck
def dEqS (x y : D) : N D := (sEq x y).bind fun b => .ok (.bl b)
def dNeS (x y : D) : N D := (sEq x y).bind fun b => .ok (.bl (!b))
theorem sEq_tot (x y : D) : Tot (sEq x y) := by
  unfold sEq
  split <;> first | exact Tot.ok _ | exact Tot.stuck
theorem r2_EqS : R2D G rEq dEqS := by
  intro F H x y v u Q ok rx ry q
  unfold dEqS sEq at q
  split at q
  · rename_i i j
    rw [rp_int rx, rp_int ry]
    refine ⟨rfl, ?_⟩
    have e : decide (V.int i = V.int j) = decide (i = j) := by simp only [V.int.injEq]
    rw [e]; exact q _ F H (Ext.refl ok) (.bl _)
  · rename_i i j
    rw [rp_str rx, rp_str ry]
    refine ⟨rfl, ?_⟩
    have e : decide (V.str i = V.str j) = decide (i = j) := by simp only [V.str.injEq]
    rw [e]; exact q _ F H (Ext.refl ok) (.bl _)
  · rename_i i j
    rw [rp_bl rx, rp_bl ry]
    refine ⟨rfl, ?_⟩
    have e : decide (V.bl i = V.bl j) = decide (i = j) := by simp only [V.bl.injEq]
    rw [e]; exact q _ F H (Ext.refl ok) (.bl _)
  · exact q.elim
theorem r2_NeS : R2D G rNe dNeS := by
  intro F H x y v u Q ok rx ry q
  unfold dNeS sEq at q
  split at q
  · rename_i i j
    rw [rp_int rx, rp_int ry]
    refine ⟨rfl, ?_⟩
    have e : decide (V.int i = V.int j) = decide (i = j) := by simp only [V.int.injEq]
    rw [e]; exact q _ F H (Ext.refl ok) (.bl _)
  · rename_i i j
    rw [rp_str rx, rp_str ry]
    refine ⟨rfl, ?_⟩
    have e : decide (V.str i = V.str j) = decide (i = j) := by simp only [V.str.injEq]
    rw [e]; exact q _ F H (Ext.refl ok) (.bl _)
  · rename_i i j
    rw [rp_bl rx, rp_bl ry]
    refine ⟨rfl, ?_⟩
    have e : decide (V.bl i = V.bl j) = decide (i = j) := by simp only [V.bl.injEq]
    rw [e]; exact q _ F H (Ext.refl ok) (.bl _)
  · exact q.elim
theorem dEqS_tot (x y : D) : Tot (dEqS x y) := (sEq_tot x y).bind fun _ => Tot.ok _
theorem dNeS_tot (x y : D) : Tot (dNeS x y) := (sEq_tot x y).bind fun _ => Tot.ok _
theorem de_eqS (ha : PE X a (eV G S na)) (hb : PE X b (eV G S nb)) : PE X (.Compare a [.Eq] [b] pos) (eV G S (na.bind fun x => nb.bind fun y => dEqS x y)) := de_cmp op_eq r2_EqS dEqS_tot ha hb (nomark _)
theorem de_neS (ha : PE X a (eV G S na)) (hb : PE X b (eV G S nb)) : PE X (.Compare a [.NotEq] [b] pos) (eV G S (na.bind fun x => nb.bind fun y => dNeS x y)) := de_cmp op_ne r2_NeS dNeS_tot ha hb (nomark _)

/-! data as the library's data, for == at any depth -/
mutual
def toPy : D → Option PyData
  | .non => some .none
  | .bl b => some (.bool b)
  | .int i => some (.int i)
  | .str s => some (.str s)
  | .tup xs => (toPys xs).map .tuple
  | .ktup xs => (toPys xs).map .tuple
  | .lst xs => (toPys xs).map .list
  | .obj _ _ => none
  | .dl _ => none
def toPys : List D → Option (List PyData)
  | [] => some []
  | x :: xs => match toPy x, toPys xs with
    | some p, some ps => some (p :: ps)
    | _, _ => none
end
mutual
theorem dp_of {F : Ty} {H : Hp} (ok : Okk F H) : ∀ {v : V} {d : D} {p : PyData}, Rp G.Z F v d → toPy d = some p → Dp G.Z.K H v p
  | _, _, _, .non, e => by unfold toPy at e; cases e; exact .non
  | _, _, _, .bl b, e => by unfold toPy at e; cases e; exact .bl b
  | _, _, _, .int i, e => by unfold toPy at e; cases e; exact .int i
  | _, _, _, .str i, e => by unfold toPy at e; cases e; exact .str i
  | _, _, _, .tup r l, e => by
    unfold toPy at e
    obtain ⟨ps, h1, h2⟩ := Option.map_eq_some_iff.mp e
    subst h2
    exact .tup (sqT_of ok r) (dps_of ok l h1)
  | _, _, _, .ktup r l, e => by
    unfold toPy at e
    obtain ⟨ps, h1, h2⟩ := Option.map_eq_some_iff.mp e
    subst h2
    exact .tup (.inr r) (dps_of ok l h1)
  | _, _, _, .lst r l, e => by
    unfold toPy at e
    obtain ⟨ps, h1, h2⟩ := Option.map_eq_some_iff.mp e
    subst h2
    exact .lst (RL.sq ok r) (dps_of ok l h1)
  | _, _, _, .obj _ _ _, e => by unfold toPy at e; cases e
  | _, _, _, .dl _, e => by unfold toPy at e; cases e
theorem dps_of {F : Ty} {H : Hp} (ok : Okk F H) : ∀ {vs : List V} {ds : List D} {ps : List PyData}, RpL G.Z F vs ds → toPys ds = some ps → DpAll G.Z.K H vs ps
  | _, _, _, .nil, e => by unfold toPys at e; cases e; exact .nil
  | _, _, _, .cons (d := d) (ds := ds) r l, e => by
    unfold toPys at e
    cases h1 : toPy d with
    | none => rw [h1] at e; simp at e
    | some p =>
      cases h2 : toPys ds with
      | none => rw [h1, h2] at e; simp at e
      | some ps =>
        rw [h1, h2] at e
        simp at e
        subst e
        exact .cons (dp_of ok r h1) (dps_of ok l h2)
end
/-- == of data at any depth -/
def pEq (x y : D) : N Bool := match toPy x, toPy y with
  | some p, some q => (N.asrt (SeqAt.shaped p = true ∧ SeqAt.shaped q = true)).bind fun _ => .ok (PyData.eqv p q)
  | _, _ => .stuck
def dEqD (x y : D) : N D := (pEq x y).bind fun b => .ok (.bl b)
def dNeD (x y : D) : N D := (pEq x y).bind fun b => .ok (.bl (!b))
theorem pEq_tot (x y : D) : Tot (pEq x y) := by
  unfold pEq
  split
  · exact (Tot.asrt _).bind fun _ => Tot.ok _
  · exact Tot.stuck
theorem dEqD_tot (x y : D) : Tot (dEqD x y) := (pEq_tot x y).bind fun _ => Tot.ok _
theorem dNeD_tot (x y : D) : Tot (dNeD x y) := (pEq_tot x y).bind fun _ => Tot.ok _
theorem r2_EqD : R2D G (rEqD G.Z.K) dEqD := by
  intro F H x y v u Q ok rx ry q
  unfold dEqD pEq at q
  split at q
  · rename_i p q' hp hq
    exact ⟨p, q', dp_of ok rx hp, dp_of ok ry hq, q.1.1, q.1.2, q.2 _ F H (Ext.refl ok) (.bl _)⟩
  · exact q.elim
theorem r2_NeD : R2D G (rNeD G.Z.K) dNeD := by
  intro F H x y v u Q ok rx ry q
  unfold dNeD pEq at q
  split at q
  · rename_i p q' hp hq
    exact ⟨p, q', dp_of ok rx hp, dp_of ok ry hq, q.1.1, q.1.2, q.2 _ F H (Ext.refl ok) (.bl _)⟩
  · exact q.elim
theorem de_eqD {k : Nat} (hr : Room k X.A) (hK : G.Z.K = X.K) (ha : PE X a (eV G S na)) (hb : PE X b (eV G S nb)) : PE X (.Compare a [.Eq] [b] pos) (eV G S (na.bind fun x => nb.bind fun y => dEqD x y)) :=
  de_cmp (op_eqD hr.units) (by rw [← hK]; exact r2_EqD) dEqD_tot ha hb (nomark _)
theorem de_neD {k : Nat} (hr : Room k X.A) (hK : G.Z.K = X.K) (ha : PE X a (eV G S na)) (hb : PE X b (eV G S nb)) : PE X (.Compare a [.NotEq] [b] pos) (eV G S (na.bind fun x => nb.bind fun y => dNeD x y)) :=
  de_cmp (op_neD hr.units) (by rw [← hK]; exact r2_NeD) dNeD_tot ha hb (nomark _)

/-! subscripts -/
def items : D → Option (List D)
  | .tup xs => some xs
  | .ktup xs => some xs
  | .lst xs => some xs
  | _ => none
def dIx : D → D → N D
  | x, .int i => match items x with
    | some xs => match atI xs i with
      | some d => .ok d
      | none => .stuck
    | none => .stuck
  | _, _ => .stuck
theorem dIx_tot (x y : D) : Tot (dIx x y) := by
  unfold dIx
  split
  · split
    · split
      · exact Tot.ok _
      · exact Tot.stuck
    · exact Tot.stuck
  · exact Tot.stuck
theorem RpL.atI {Z : Zt} {F : Ty} {vs : List V} {ds : List D} {i : Int} {d : D} (l : RpL Z F vs ds) (h : atI ds i = some d) : ∃ v, atI vs i = some v ∧ Rp Z F v d := by
  unfold L2.atI at h ⊢
  obtain ⟨j, h1, h2⟩ := Option.bind_eq_some_iff.mp h
  obtain ⟨v, h3, r⟩ := l.get h2
  exact ⟨v, by rw [l.length, h1]; exact h3, r⟩
theorem r2_Ix : R2D G (rIx G.Z.K) dIx := by
  intro F H x y v u Q ok rx ry q
  unfold dIx at q
  split at q
  · rename_i i
    have eu := rp_int ry
    subst eu
    cases rx with
    | tup r l =>
      simp only [items] at q
      split at q
      · rename_i d hd
        obtain ⟨w, hw, rw'⟩ := l.atI hd
        exact .inr (.inl ⟨_, _, _, w, rfl, rfl, sqT_of ok r, hw, q w F H (Ext.refl ok) rw'⟩)
      · exact q.elim
    | ktup r l =>
      simp only [items] at q
      split at q
      · rename_i d hd
        obtain ⟨w, hw, rw'⟩ := l.atI hd
        exact .inr (.inl ⟨_, _, _, w, rfl, rfl, .inr r, hw, q w F H (Ext.refl ok) rw'⟩)
      · exact q.elim
    | lst r l =>
      simp only [items] at q
      split at q
      · rename_i d hd
        obtain ⟨w, hw, rw'⟩ := l.atI hd
        exact .inl ⟨_, _, _, w, rfl, rfl, RL.sq ok r, hw, q w F H (Ext.refl ok) rw'⟩
      · exact q.elim
    | _ => exact q.elim
  · exact q.elim
theorem de_ixD (hK : G.Z.K = X.K) (ha : PE X a (eV G S na)) (hb : PE X b (eV G S nb)) (hs : PlainIx b := by exact fun _ _ => rfl) : PE X (.Subscript a b pos) (eV G S (na.bind fun x => nb.bind fun y => dIx x y)) :=
  de_ix ix_seq (by rw [← hK]; exact r2_Ix) dIx_tot ha hb hs

/-! tuple + tuple -/
def dCat : D → D → N D
  | .tup xs, .tup ys => (N.asrt (xs.length + ys.length ≤ sizeLine)).bind fun _ => .ok (.tup (xs ++ ys))
  | _, _ => .stuck
theorem dCat_tot (x y : D) : Tot (dCat x y) := by
  unfold dCat
  split
  · exact (Tot.asrt _).bind fun _ => Tot.ok _
  · exact Tot.stuck
end
end M

set_option Elab.async false
set_option linter.all false
set_option maxRecDepth 100000
set_option maxHeartbeats 2000000
namespace M
open PySem L2
section
variable {G : Gx} {X : Cx} {S : List Sl} {a b c : Expr} {na nb nc : N D} {pos : Pos}
theorem new_tup {Z : Zt} {F : Ty} {H : Hp} {vs : List V} {ds : List D} {p : Addr} (ok : Okk F H) (hp : H p = none) (l : RpL Z F vs ds) : Ext F H (updT F p (is (.tup vs))) (upd H p (.tup vs)) ∧ Rp Z (updT F p (is (.tup vs))) (.ref p) (.tup ds) := by
  have e2 := Ext.new (o := .tup vs) (p := is (.tup vs)) ok hp rfl
  exact ⟨e2, .tup updT_same (l.ex e2.ex)⟩
theorem new_lst {Z : Zt} {F : Ty} {H : Hp} {vs : List V} {ds : List D} {p : Addr} (ok : Okk F H) (hp : H p = none) (l : RpL Z F vs ds) : Ext F H (updT F p (is (.lst vs))) (upd H p (.lst vs)) ∧ Rp Z (updT F p (is (.lst vs))) (.ref p) (.lst ds) := by
  have e2 := Ext.new (o := .lst vs) (p := is (.lst vs)) ok hp rfl
  exact ⟨e2, .lst (.inl (.inl updT_same)) (l.ex e2.ex)⟩
theorem r2_Cat : R2D G (rCatA G.Z.K) dCat := by
  intro F H x y v u Q ok rx ry q
  unfold dCat at q
  split at q
  · cases rx with
    | tup r1 l1 =>
      cases ry with
      | tup r2 l2 =>
        rename_i xs ys a vs b us
        refine ⟨_, _, _, _, rfl, rfl, sqT_of ok r1, sqT_of ok r2, by rw [l1.length, l2.length]; exact q.1, fun e => ?_, fun n e => ?_, fun n n2 p hp => ?_⟩
        · subst e
          cases l1
          exact q.2 _ F H (Ext.refl ok) (.tup r2 l2)
        · subst e
          cases l2
          have := q.2 (.ref a) F H (Ext.refl ok)
          rw [List.append_nil] at this
          exact this (.tup r1 l1)
        · have e2 := Ext.new (o := .tup (vs ++ us)) (p := is (.tup (vs ++ us))) ok hp rfl
          exact q.2 _ _ _ e2 (.tup updT_same ((l1.append l2).ex e2.ex))
  · exact q.elim
theorem de_cat (hK : G.Z.K = X.K) (ha : PE X a (eV G S na)) (hb : PE X b (eV G S nb)) : PE X (.BinOp a .Add b pos) (eV G S (na.bind fun x => nb.bind fun y => dCat x y)) :=
  de_op op_catA (by rw [← hK]; exact r2_Cat) dCat_tot ha hb

/-! t[lo:hi] of a tuple -/
def cutD (xs : List D) (lo hi : Option Int) : List D := (xs.drop (HT.sIx xs.length 0 lo)).take (HT.sIx xs.length xs.length hi - HT.sIx xs.length 0 lo)
def oV (n : N (Option Int)) : TO := fun σ H Q => ∃ F, At G.Z G.B S F σ H ∧ n.wp (fun d => ∀ F' H', Ext F H F' H' → Q d H') G.Er
def toI : D → N Int
  | .int i => .ok i
  | _ => .stuck
theorem do_none : PO X none (oV (G := G) (S := S) (.ok none)) := ⟨fun pins s σ H Q I ⟨F, A, q⟩ => po_none.run pins s σ H Q I (q F H (Ext.refl A.ok))⟩
theorem do_some (ha : PE X a (eV G S na)) : PO X (some a) (oV (G := G) (S := S) (na.bind fun d => (toI d).bind fun i => .ok (some i))) := ⟨fun pins s σ H Q I ⟨F, A, q⟩ => (po_some ha).run pins s σ H Q I ⟨F, A, na.mono (fun d q1 v F1 H1 e1 r1 => by
  cases d with
  | int i => exact ⟨i, rp_int r1, q1 F1 H1 e1⟩
  | _ => exact (show False from q1).elim) (fun _ _ z => z) q⟩⟩
def dSlT (d : D) (lo hi : Option Int) : N D := match d with
  | .tup xs => .ok (.tup (cutD xs lo hi))
  | _ => .stuck
theorem cutD_whole {Z : Zt} {F : Ty} {vs : List V} {xs : List D} {lo hi : Option Int} (l : RpL Z F vs xs) (h : HT.sIx vs.length 0 lo = 0 ∧ HT.sIx vs.length vs.length hi = vs.length) : cutD xs lo hi = xs := by
  unfold cutD
  rw [← l.length, h.1, h.2, List.drop_zero, Nat.sub_zero, l.length, List.take_length]
theorem de_slT (hK : G.Z.K = X.K) {lo hi : Option Expr} {nl nh : N (Option Int)} {p2 : Pos} (ha : PE X a (eV G S na)) (hl : PO X lo (oV (G := G) (S := S) nl)) (hh : PO X hi (oV (G := G) (S := S) nh)) :
    PE X (.Subscript a (.Slice lo hi none p2) pos) (eV G S (na.bind fun d => nl.bind fun l => nh.bind fun h => dSlT d l h)) :=
  PE.imp (pe_slice sl_tupA ha hl hh) fun σ H Q ⟨F, A, q⟩ => ⟨F, A, na.mono (fun d q1 v F1 H1 e1 r1 => ⟨F1, A.go e1, nl.mono (fun lo q2 F2 H2 e2 => ⟨F2, (A.go e1).go e2, nh.mono (fun hi q3 F3 H3 e3 => by
    unfold dSlT at q3
    have ok3 := (((A.go e1).go e2).go e3).ok
    cases r1 with
    | tup r l =>
      rename_i a vs xs
      have r3 := (e2.ex.trans e3.ex) _ _ r
      have l3 := l.ex (e2.ex.trans e3.ex)
      refine ⟨_, _, rfl, by rw [← hK]; exact sqT_of ok3 r3, fun h => ?_, fun h p hp => ?_⟩
      · have e := cutD_whole l3 h
        have := q3 (.ref a) F3 H3 ((e1.trans e2).trans e3)
        rw [e] at this
        exact this (.tup r3 l3)
      · have e4 := Ext.new (o := .tup (cutV vs lo hi)) (p := is (.tup (cutV vs lo hi))) ok3 hp rfl
        refine q3 _ _ _ (((e1.trans e2).trans e3).trans e4) (.tup updT_same ?_)
        unfold cutV cutD
        rw [← l3.length]
        exact ((l3.drop _).take _).ex e4.ex
    | _ => exact (show False from q3).elim) (fun _ _ z => z) q2⟩) (fun _ _ z => z) q1⟩) (fun _ _ z => z) q⟩

/-! x in t, flat things -/
def flat : D → Bool
  | .non => true
  | .bl _ => true
  | .int _ => true
  | .str _ => true
  | _ => false
def eqF : D → D → Bool
  | .non, .non => true
  | .bl a, .bl b => a == b
  | .bl a, .int b => (if a then 1 else 0) == b
  | .int a, .bl b => a == (if b then 1 else 0)
  | .int a, .int b => a == b
  | .str a, .str b => a == b
  | _, _ => false
def dIn (neg : Bool) (x y : D) : N D := match items y with
  | some xs => (N.asrt (flat x = true ∧ xs.all flat = true)).bind fun _ => .ok (.bl (if neg then !xs.any (fun z => eqF z x) else xs.any fun z => eqF z x))
  | none => .stuck
theorem dIn_tot (neg : Bool) (x y : D) : Tot (dIn neg x y) := by
  unfold dIn
  split
  · exact (Tot.asrt _).bind fun _ => Tot.ok _
  · exact Tot.stuck
theorem flat_of {F : Ty} {v : V} {d : D} (r : Rp G.Z F v d) (h : flat d = true) : flatV v = true := by
  cases r <;> first | rfl | cases h
theorem flats_of {F : Ty} : ∀ {vs : List V} {ds : List D}, RpL G.Z F vs ds → ds.all flat = true → vs.all flatV = true
  | _, _, .nil, _ => rfl
  | _, _, .cons r l, h => by
    rw [List.all_cons, Bool.and_eq_true] at h ⊢
    exact ⟨flat_of r h.1, flats_of l h.2⟩
theorem eqF_of {F : Ty} {v u : V} {d e : D} (r : Rp G.Z F v d) (q : Rp G.Z F u e) (h : flat d = true) (h2 : flat e = true) : eqV v u = eqF d e := by
  cases r <;> first | (cases q <;> first | rfl | cases h2) | cases h
theorem anyF_of {F : Ty} {u : V} {e : D} (q : Rp G.Z F u e) (h2 : flat e = true) : ∀ {vs : List V} {ds : List D}, RpL G.Z F vs ds → ds.all flat = true → inV u vs = ds.any fun z => eqF z e
  | _, _, .nil, _ => rfl
  | _, _, .cons r l, h => by
    rw [List.all_cons, Bool.and_eq_true] at h
    unfold inV
    rw [List.any_cons, List.any_cons, eqF_of r q h.1 h2]
    congr 1
    exact anyF_of q h2 l h.2
theorem r2_In (neg : Bool) : R2D G (rIn G.Z.K neg) (dIn neg) := by
  intro F H x y v u Q ok rx ry q
  unfold dIn at q
  cases ry with
  | tup r l =>
    obtain ⟨⟨h1, h2⟩, q⟩ := q
    refine ⟨_, _, rfl, .inr (sqT_of ok r), flat_of rx h1, flats_of l h2, ?_⟩
    rw [anyF_of rx h1 l h2]
    exact q _ F H (Ext.refl ok) (.bl _)
  | ktup r l =>
    obtain ⟨⟨h1, h2⟩, q⟩ := q
    refine ⟨_, _, rfl, .inr (.inr r), flat_of rx h1, flats_of l h2, ?_⟩
    rw [anyF_of rx h1 l h2]
    exact q _ F H (Ext.refl ok) (.bl _)
  | lst r l =>
    obtain ⟨⟨h1, h2⟩, q⟩ := q
    refine ⟨_, _, rfl, .inl (RL.sq ok r), flat_of rx h1, flats_of l h2, ?_⟩
    rw [anyF_of rx h1 l h2]
    exact q _ F H (Ext.refl ok) (.bl _)
  | _ => exact q.elim
theorem de_inF (hK : G.Z.K = X.K) (ha : PE X a (eV G S na)) (hb : PE X b (eV G S nb)) (hm : behindInMarks .In b = false := by rfl) : PE X (.Compare a [.In] [b] pos) (eV G S (na.bind fun x => nb.bind fun y => dIn false x y)) :=
  de_cmp op_in_seq (by rw [← hK]; exact r2_In false) (dIn_tot false) ha hb hm
theorem de_notInF (hK : G.Z.K = X.K) (ha : PE X a (eV G S na)) (hb : PE X b (eV G S nb)) (hm : behindInMarks .NotIn b = false := by rfl) : PE X (.Compare a [.NotIn] [b] pos) (eV G S (na.bind fun x => nb.bind fun y => dIn true x y)) :=
  de_cmp op_notIn_seq (by rw [← hK]; exact r2_In true) (dIn_tot true) ha hb hm
/-- a constant of the module that is a tuple of flat things -/
theorem de_kt {x : Str} {p : Addr} {vs : List V} {ds : List D} (hm : X.mg x = some (.ref p)) (hk : KT G.Z.K p vs) (hr : ∀ F, RpL G.Z F vs ds) (hg : Gl X x := by rfl) (hd : (x == ("__debug__" : Str)) = false := by decide) : PE X (.Name x pos) (eV G S (.ok (.ktup ds))) :=
  de_c (v := .ref p) (pe_glob hg hm rfl hd) fun F => .ktup hk (hr F)

/-! built-in functions -/
theorem de_b1 {x : Str} {p : Pos} {id : String} {r : List V → Hp → VK → Prop} {o : D → N D} (hc : CallR X (.builtin id) r) (hr : RCD G r (app1 o)) (ht : ∀ x, Tot (o x)) (hm : X.mg x = none) (hv : bootBuiltins x = some (.builtin id)) (ha : PE X a (eV G S na))
    (hg : Gl X x := by rfl) (hn : x ≠ "__name__" := by decide) (hdb : (x == ("__debug__" : Str)) = false := by decide) (he : starEach (a :: []) X.env = (false, eval a X.env) :: starEach [] X.env := by rfl) (hpl : (backTo pos (starEach [] X.env)).any (·.1) = false := by rfl) :
    PE X (.Call (.Name x p) [a] [] pos) (eV G S (na.bind o)) :=
  PE.imp (pe_callB hc hg hm hv (da_cons ha da_nil he) hn hdb he hpl) fun σ H Q ⟨F, A, q⟩ => ⟨F, A, na.mono (fun d q1 vs F1 H1 e1 r1 => hr F1 H1 [d] vs Q (A.go e1).ok r1 ((o d).mono (fun z q2 w F2 H2 e2 r2 => q2 w F2 H2 (e1.trans e2) r2) (fun _ _ z => z) (ht d _ _ q1))) (fun _ _ z => z) q⟩
theorem de_t1 {x : Str} {p : Pos} {T : String} {r : List V → Hp → VK → Prop} {o : D → N D} (hc : CallR X (.type T) r) (hr : RCD G r (app1 o)) (ht : ∀ x, Tot (o x)) (hm : X.mg x = none) (hv : bootBuiltins x = some (.type T)) (ha : PE X a (eV G S na))
    (hg : Gl X x := by rfl) (hn : x ≠ "__name__" := by decide) (hdb : (x == ("__debug__" : Str)) = false := by decide) (he : starEach (a :: []) X.env = (false, eval a X.env) :: starEach [] X.env := by rfl) (hpl : (backTo pos (starEach [] X.env)).any (·.1) = false := by rfl) :
    PE X (.Call (.Name x p) [a] [] pos) (eV G S (na.bind o)) :=
  PE.imp (pe_callTy hc hg hm hv (da_cons ha da_nil he) hn hdb he hpl) fun σ H Q ⟨F, A, q⟩ => ⟨F, A, na.mono (fun d q1 vs F1 H1 e1 r1 => hr F1 H1 [d] vs Q (A.go e1).ok r1 ((o d).mono (fun z q2 w F2 H2 e2 r2 => q2 w F2 H2 (e1.trans e2) r2) (fun _ _ z => z) (ht d _ _ q1))) (fun _ _ z => z) q⟩
def dLen (d : D) : N D := match items d with
  | some xs => .ok (.int xs.length)
  | none => .stuck
theorem dLen_tot (x : D) : Tot (dLen x) := by
  unfold dLen
  split
  · exact Tot.ok _
  · exact Tot.stuck
theorem rc_len : RCD G (fun xs H Q => ∃ p ys, xs = [V.ref p] ∧ (SqL G.Z.K H p ys ∨ SqT G.Z.K H p ys) ∧ Q (.int ys.length) H) (app1 dLen) := by
  intro F H xs vs Q ok l q
  cases l with
  | nil => exact q.elim
  | cons r l2 =>
    cases l2 with
    | cons _ _ => exact q.elim
    | nil =>
      unfold app1 dLen at q
      cases r with
      | tup r l => exact ⟨_, _, rfl, .inr (sqT_of ok r), by rw [l.length]; exact q _ F H (Ext.refl ok) (.int _)⟩
      | ktup r l => exact ⟨_, _, rfl, .inr (.inr r), by rw [l.length]; exact q _ F H (Ext.refl ok) (.int _)⟩
      | lst r l => exact ⟨_, _, rfl, .inl (RL.sq ok r), by rw [l.length]; exact q _ F H (Ext.refl ok) (.int _)⟩
      | _ => exact q.elim
theorem de_len (hK : G.Z.K = X.K) {p : Pos} (hm : X.mg "len" = none) (ha : PE X a (eV G S na)) (hg : Gl X "len" := by rfl) (he : starEach (a :: []) X.env = (false, eval a X.env) :: starEach [] X.env := by rfl) (hpl : (backTo pos (starEach [] X.env)).any (·.1) = false := by rfl) :
    PE X (.Call (.Name "len" p) [a] [] pos) (eV G S (na.bind dLen)) := de_b1 call_len_seq (by rw [← hK]; exact rc_len) dLen_tot hm PySem.boot_len ha hg (by decide) (by decide) he hpl
def dTuple : D → N D
  | .tup xs => .ok (.tup xs)
  | .ktup xs => .ok (.ktup xs)
  | .lst xs => .ok (.tup xs)
  | _ => .stuck
theorem dTuple_tot (x : D) : Tot (dTuple x) := by
  unfold dTuple
  split <;> first | exact Tot.ok _ | exact Tot.stuck
theorem rc_tuple : RCD G (fun xs H Q => ∃ p ys, xs = [V.ref p] ∧ ((SqL G.Z.K H p ys ∧ ∀ l, H l = none → Q (.ref l) (upd H l (.tup ys))) ∨ (SqT G.Z.K H p ys ∧ Q (.ref p) H))) (app1 dTuple) := by
  intro F H xs vs Q ok l q
  cases l with
  | nil => exact q.elim
  | cons r l2 =>
    cases l2 with
    | cons _ _ => exact q.elim
    | nil =>
      unfold app1 dTuple at q
      cases r with
      | tup r l => exact ⟨_, _, rfl, .inr ⟨sqT_of ok r, q _ F H (Ext.refl ok) (.tup r l)⟩⟩
      | ktup r l => exact ⟨_, _, rfl, .inr ⟨.inr r, q _ F H (Ext.refl ok) (.ktup r l)⟩⟩
      | lst r l => exact ⟨_, _, rfl, .inl ⟨RL.sq ok r, fun p hp => by
          obtain ⟨e2, r2⟩ := new_tup ok hp l
          exact q _ _ _ e2 r2⟩⟩
      | _ => exact q.elim
theorem de_tuple (hK : G.Z.K = X.K) {p : Pos} (hm : X.mg "tuple" = none) (ha : PE X a (eV G S na)) (hg : Gl X "tuple" := by rfl) (he : starEach (a :: []) X.env = (false, eval a X.env) :: starEach [] X.env := by rfl) (hpl : (backTo pos (starEach [] X.env)).any (·.1) = false := by rfl) :
    PE X (.Call (.Name "tuple" p) [a] [] pos) (eV G S (na.bind dTuple)) := de_t1 call_tuple_of (by rw [← hK]; exact rc_tuple) dTuple_tot hm (by decide +kernel) ha hg (by decide) (by decide) he hpl
def dList (d : D) : N D := match items d with
  | some xs => .ok (.lst xs)
  | none => .stuck
theorem dList_tot (x : D) : Tot (dList x) := by
  unfold dList
  split <;> first | exact Tot.ok _ | exact Tot.stuck
theorem rc_list : RCD G (fun xs H Q => ∃ p ys, xs = [V.ref p] ∧ (SqL G.Z.K H p ys ∨ SqT G.Z.K H p ys) ∧ ∀ l, H l = none → Q (.ref l) (upd H l (.lst ys))) (app1 dList) := by
  intro F H xs vs Q ok l q
  cases l with
  | nil => exact q.elim
  | cons r l2 =>
    cases l2 with
    | cons _ _ => exact q.elim
    | nil =>
      unfold app1 dList at q
      cases r with
      | tup r l => exact ⟨_, _, rfl, .inr (sqT_of ok r), fun p hp => by
          obtain ⟨e2, r2⟩ := new_lst ok hp l
          exact q _ _ _ e2 r2⟩
      | ktup r l => exact ⟨_, _, rfl, .inr (.inr r), fun p hp => by
          obtain ⟨e2, r2⟩ := new_lst ok hp l
          exact q _ _ _ e2 r2⟩
      | lst r l => exact ⟨_, _, rfl, .inl (RL.sq ok r), fun p hp => by
          obtain ⟨e2, r2⟩ := new_lst ok hp l
          exact q _ _ _ e2 r2⟩
      | _ => exact q.elim
theorem de_list (hK : G.Z.K = X.K) {p : Pos} (hm : X.mg "list" = none) (ha : PE X a (eV G S na)) (hg : Gl X "list" := by rfl) (he : starEach (a :: []) X.env = (false, eval a X.env) :: starEach [] X.env := by rfl) (hpl : (backTo pos (starEach [] X.env)).any (·.1) = false := by rfl) :
    PE X (.Call (.Name "list" p) [a] [] pos) (eV G S (na.bind dList)) := de_t1 call_list_of (by rw [← hK]; exact rc_list) dList_tot hm (by decide +kernel) ha hg (by decide) (by decide) he hpl

/-! isinstance -/
/-- the built-in type's name of a datum (own objects: none) -/
def tyN : D → Option String
  | .non => some "NoneType"
  | .bl _ => some "bool"
  | .int _ => some "int"
  | .str _ => some "str"
  | .tup _ => some "tuple"
  | .ktup _ => some "tuple"
  | .lst _ => some "list"
  | _ => none
def dIsi (T : String) (d : D) : N D := match tyN d with
  | some t => match kitB t T with
    | some b => .ok (.bl b)
    | none => .stuck
  | none => .stuck
theorem tyX_of {F : Ty} {H : Hp} {v : V} {d : D} {t : String} (ok : Okk F H) (r : Rp G.Z F v d) (h : tyN d = some t) : TyX G.Z.K H v (.type t) := by
  cases r with
  | non => cases h; exact .base .non
  | bl b => cases h; exact .base (.bl b)
  | int b => cases h; exact .base (.int b)
  | str b => cases h; exact .base (.str b)
  | tup r l => cases h; exact .base (.tup (tup_of ok r))
  | ktup r l =>
    cases h
    obtain ⟨o, its, n, h1, h2, _⟩ := r
    exact .kTuple h1 h2
  | lst r l =>
    cases h
    rcases r with (r | ⟨ob, r⟩) | ⟨o, its, n, h1, h2, _⟩
    · exact .base (.lst (tup_of ok r))
    · exact .base (.frz (tup_of ok r))
    · exact .kList h1 h2
  | obj _ _ _ => cases h
  | dl _ => cases h
theorem de_isi (hK : G.Z.K = X.K) {T : Str} {Ts : String} {p pT : Pos} (hm : X.mg "isinstance" = none) (hmT : X.mg T = none) (hvT : bootBuiltins T = some (.type Ts)) (ha : PE X a (eV G S na)) (hg : Gl X "isinstance" := by rfl) (hgT : Gl X T := by rfl) (hnT : T ≠ "__name__" := by decide) (hdT : (T == ("__debug__" : Str)) = false := by decide)
    (he : starEach (a :: .Name T pT :: []) X.env = (false, eval a X.env) :: starEach [.Name T pT] X.env := by rfl) (he2 : starEach (.Name T pT :: []) X.env = (false, eval (.Name T pT) X.env) :: starEach [] X.env := by rfl) (hpl : (backTo pos (starEach [.Name T pT] X.env)).any (·.1) = false := by rfl) :
    PE X (.Call (.Name "isinstance" p) [a, .Name T pT] [] pos) (eV G S (na.bind (dIsi Ts))) :=
  PE.imp (pe_callB call_isi hg hm (by decide +kernel) (pa_cons ha (pa_cons (pe_bltn (v := .ty Ts) hgT hmT hvT rfl hnT hdT) pa_nil he2) he) (by decide) (by decide) he hpl) fun σ H Q ⟨F, A, q⟩ => ⟨F, A, na.mono (fun d q1 v F1 H1 e1 r1 => by
    unfold dIsi at q1
    cases ht : tyN d with
    | none => rw [ht] at q1; exact (show False from q1).elim
    | some t =>
      rw [ht] at q1
      cases hb : kitB t Ts with
      | none => simp only [hb] at q1; exact (show False from q1).elim
      | some b =>
        simp only [hb] at q1
        exact ⟨v, .ty Ts, .type t, .type Ts, b, rfl, .ty Ts, by rw [← hK]; exact tyX_of (A.go e1).ok r1 ht, kit_ty hb, q1 _ F1 H1 e1 (.bl b)⟩) (fun _ _ z => z) q⟩
/-- isinstance(x, (T, U)) -/
def dIsi2 (T U : String) (d : D) : N D := match tyN d with
  | some t => match kitB t T, kitB t U with
    | some b, some c => .ok (.bl (b || c))
    | _, _ => .stuck
  | none => .stuck
theorem de_isi2 (hK : G.Z.K = X.K) {T U : Str} {Ts Us : String} {p pT pU pt : Pos} {x1} (hm : X.mg "isinstance" = none) (hmT : X.mg T = none) (hvT : bootBuiltins T = some (.type Ts)) (hmU : X.mg U = none) (hvU : bootBuiltins U = some (.type Us)) (ha : PE X a (eV G S na))
    (hg : Gl X "isinstance" := by rfl) (hgT : Gl X T := by rfl) (hnT : T ≠ "__name__" := by decide) (hdT : (T == ("__debug__" : Str)) = false := by decide) (hgU : Gl X U := by rfl) (hnU : U ≠ "__name__" := by decide) (hdU : (U == ("__debug__" : Str)) = false := by decide)
    (he : starEach (a :: .Tuple [.Name T pT, .Name U pU] x1 pt :: []) X.env = (false, eval a X.env) :: starEach [.Tuple [.Name T pT, .Name U pU] x1 pt] X.env := by rfl)
    (he2 : starEach (.Tuple [.Name T pT, .Name U pU] x1 pt :: []) X.env = (false, eval (.Tuple [.Name T pT, .Name U pU] x1 pt) X.env) :: starEach [] X.env := by rfl) (hpl : (backTo pos (starEach [.Tuple [.Name T pT, .Name U pU] x1 pt] X.env)).any (·.1) = false := by rfl)
    (he3 : starEach (.Name T pT :: .Name U pU :: []) X.env = (false, eval (.Name T pT) X.env) :: starEach [.Name U pU] X.env := by rfl) (he4 : starEach (.Name U pU :: []) X.env = (false, eval (.Name U pU) X.env) :: starEach [] X.env := by rfl) :
    PE X (.Call (.Name "isinstance" p) [a, .Tuple [.Name T pT, .Name U pU] x1 pt] [] pos) (eV G S (na.bind (dIsi2 Ts Us))) :=
  PE.imp (pe_callB call_isiT hg hm (by decide +kernel) (pa_cons ha (pa_cons (pe_tup (pa_cons (pe_bltn (v := .ty Ts) hgT hmT hvT rfl hnT hdT) (pa_cons (pe_bltn (v := .ty Us) hgU hmU hvU rfl hnU hdU) pa_nil he4) he3)) pa_nil he2) he) (by decide) (by decide) he hpl) fun σ H Q ⟨F, A, q⟩ => ⟨F, A, na.mono (fun d q1 v F1 H1 e1 r1 => by
    unfold dIsi2 at q1
    cases ht : tyN d with
    | none => rw [ht] at q1; exact (show False from q1).elim
    | some t =>
      rw [ht] at q1
      cases hb : kitB t Ts with
      | none => simp only [hb] at q1; exact (show False from q1).elim
      | some b =>
        cases hc : kitB t Us with
        | none => simp only [hb, hc] at q1; exact (show False from q1).elim
        | some c =>
          simp only [hb, hc] at q1
          refine ⟨by show 2 ≤ sizeLine; decide, fun p hp => ?_⟩
          have ok1 := (A.go e1).ok
          have e2 := Ext.own (o := .tup [.ty Ts, .ty Us]) ok1 hp
          refine ⟨v, p, [.ty Ts, .ty Us], .type t, [.type Ts, .type Us], b || c, rfl, upd_same, .cons (.ty Ts) (.cons (.ty Us) .nil), by rw [← hK]; exact tyX_of e2.ok (r1.ex e2.ex) ht, ?_, q1 _ F1 _ (e1.trans e2) (.bl _)⟩
          cases b with
          | true => exact kitAny_cons (b := true) (kit_ty hb) (fun h => by cases h) (fun _ => rfl)
          | false =>
            refine kitAny_cons (b := false) (kit_ty hb) (fun _ => ?_) (fun h => by cases h)
            cases c with
            | true => exact kitAny_cons (b := true) (kit_ty hc) (fun h => by cases h) (fun _ => rfl)
            | false => exact kitAny_cons (b := false) (kit_ty hc) (fun _ => kitAny_nil) (fun h => by cases h)) (fun _ _ z => z) q⟩
end
end M

set_option Elab.async false
set_option linter.all false
set_option maxRecDepth 100000
set_option maxHeartbeats 2000000
namespace M
open PySem L2
/-! ### loops -/
def N.loop {α τ β : Type} (body : α → τ → N (Fl τ τ)) : List α → τ → N (Fl τ β)
  | [], t => .ok (.nx t)
  | x :: xs, t => (body x t).bind fun f => match f with
    | .nx t' => N.loop body xs t'
    | .ct t' => N.loop body xs t'
    | .bk t' => .ok (.nx t')
    | .rt d => .ok (.rt d)
def seqOf (d : D) : N (List D) := match items d with
  | some xs => .ok xs
  | none => .stuck
section
variable {X : Cx} {tg : Expr}
/-- a list or a tuple, walked -/
def iSeq (K : PySem.W.Frag) (tl : TE) : TI := fun σ H R => tl σ H fun x H1 => ∃ a, x = .ref a ∧ (((∃ xs, SqL K H1 a xs) ∧ R (Itl K a) H1) ∨ ((∃ xs, SqT K H1 a xs) ∧ R (Itt K a) H1))
theorem pi_seq {l : Expr} {tl : TE} (hl : PE X l tl) : PI X tg l (iSeq X.K tl) := by
  refine ⟨fun pins s σ H R I h => ?_⟩
  refine thn (hl.run pins s σ H _ I h) fun v s1 ⟨x, H1, I1, r1, q1⟩ => ?_
  obtain ⟨a, e, q⟩ := q1
  subst e
  cases r1
  have fpn : ∀ b ∈ [s1.heap.objs.size], FpOk X pins H1 b := fun b hb => by
    have e : b = s1.heap.objs.size := by simpa using hb
    subst e
    exact I1.fpOk (Nat.le_refl _) (I1.hok.fresh (Nat.le_refl _))
  rcases q with ⟨⟨xs, hq⟩, q⟩ | ⟨⟨xs, hq⟩, q⟩
  · obtain ⟨its, rv, p, hz⟩ := I1.list hq
    refine wpAny_pyIter_list p.isList ?_
    exact ⟨s1.heap.objs.size, [s1.heap.objs.size], _, _, H1, rfl, I1.kept (t' := s1.toks) fun b o e => Heap.get?_push_of_some _ e, turn_list a _, ⟨_, Heap.get?_push_size _ rfl, rfl, rfl⟩, fpn, q⟩
  · obtain ⟨its, rv, p, hz⟩ := I1.tuple hq
    refine wpAny_pyIter_tuple (show s1.heap.IsTuple a its.toArray from p) ?_
    exact ⟨s1.heap.objs.size, [s1.heap.objs.size], _, _, H1, rfl, I1.kept (t' := s1.toks) fun b o e => Heap.get?_push_of_some _ e, turn_tuple a _, ⟨_, Heap.get?_push_size _ rfl, rfl, rfl⟩, fpn, q⟩
end
section
variable {X : Cx} {G : Gx} {S : List Sl} {τ β : Type} {sl : τ → List Sl} {sb : β → List Sl} {a b c e : Expr} {na nb : N D} {pos : Pos} {body : List Stmt}
/-- the word of a loop over items: what is left of the loop, run on from here, leads to what is wanted -/
def LW {α : Type} (G : Gx) (F0 : Ty) (sl : τ → List Sl) (sb : β → List Sl) (E : Ends) (bn : α → τ → N (Fl τ τ)) (xs : List α) : St → Hp → Prop :=
  fun σ H => ∃ t F, Ex F0 F ∧ At G.Z G.B (sl t) F σ H ∧ (N.loop (β := β) bn xs t).wp (flP G F0 sl sb E) G.Er
/-- one turn: the body's derivation, from the slots with the item in them -/
theorem loop_turn {α : Type} {F0 : Ty} {E : Ends} {bn : α → τ → N (Fl τ τ)} {x : α} {xs : List α} {t : τ} {F : Ty} {σ : St} {H : Hp} {S' : List Sl} (e0 : Ex F0 F) (A : At G.Z G.B S' F σ H)
    (q : (N.loop (β := β) bn (x :: xs) t).wp (flP G F0 sl sb E) G.Er) : sV G S' sl sl (bn x t) { nx := LW G F0 sl sb E bn xs, ct := LW G F0 sl sb E bn xs, bk := E.nx, rt := E.rt } σ H := by
  refine ⟨F, A, (bn x t).mono (fun f q1 => ?_) (fun _ _ z => z) q⟩
  cases f with
  | nx t' => exact fun F' σ' H' e A' => ⟨t', F', e0.trans e, A', q1⟩
  | ct t' => exact fun F' σ' H' e A' => ⟨t', F', e0.trans e, A', q1⟩
  | bk t' => exact fun F' σ' H' e A' => q1 F' σ' H' (e0.trans e) A'
  | rt d => exact q1
/-- for x in e (a list or a tuple); j the slot of x -/
theorem ds_for {j : Nat} {x : Str} {px : Pos} (t0 : τ) {bn : D → τ → N (Fl τ τ)} (hp : PassesOwn (model X.prog X.w) X.A X.env X.xe) (hc : X.calm = true) (hK : G.Z.K = X.K) (hN : X.N.Nodup) (ha : PE X a (eV G S na)) (h0 : Wk S (sl t0))
    (hb : ∀ y t, PSs X body (sV G ((sl t).set j (.dat y)) sl sl (bn y t))) (hi : X.N[j]? = some x := by rfl) (hx : Loc X.env.scope x := by first | exact Or.inl rfl | exact Or.inr rfl)
    (hf : X.fn x = true ∨ X.env.scope.names.lookup x = some .local := by first | exact .inl rfl | exact .inr rfl) (hs : ∀ v, foldedSetIterable a X.env v = pure v := by intro _; rfl) :
    PS X (.For (.Name x px) a body [] pos) (sV G S sl sb (na.bind fun d => (seqOf d).bind fun xs => N.loop bn xs t0)) := by
  refine PS.imp (ps_for hp hc (pi_seq ha) (pg_name (i := j) hN hi hx hf) (PSs.ex fun p : D × τ => hb p.1 p.2) hs) fun E σ H ⟨F, A, q⟩ => ?_
  refine ⟨F, A, na.mono (fun d q1 v F1 H1 e1 r1 => ?_) (fun _ _ z => z) q⟩
  have A1 := A.go e1
  have start : ∀ (xs : List D), (N.loop (β := β) bn xs t0).wp (flP G F sl sb E) G.Er → LW G F1 sl sb E bn xs σ H1 := fun xs h => ⟨t0, F1, Ex.refl F1, A1.weak h0, (N.loop bn xs t0).mono (fun f z => flP.ex G e1.ex z) (fun _ _ z => z) h⟩
  have turn : ∀ (xs : List D) (vs : List V), RpL G.Z F1 vs xs → ∀ (i : Nat) (y : V) (σ' : St) (H' : Hp), vs[i]? = some y → LW G F1 sl sb E bn (xs.drop i) σ' H' →
      gName j y σ' H' fun σ2 H2 => (∃ p : D × τ, sV G ((sl p.2).set j (.dat p.1)) sl sl (bn p.1 p.2) { nx := LW G F1 sl sb E bn (xs.drop (i + 1)), ct := LW G F1 sl sb E bn (xs.drop (i + 1)), bk := E.nx, rt := E.rt } σ2 H2) := fun xs vs l i y σ' H' hy ⟨t, F', e', A', q'⟩ => by
    obtain ⟨d, hd, r⟩ := l.getV hy
    have hdr : xs.drop i = d :: xs.drop (i + 1) := by
      obtain ⟨hlt, he⟩ := List.getElem?_eq_some_iff.mp hd
      rw [List.drop_eq_getElem_cons hlt, he]
    rw [hdr] at q'
    exact ⟨(d, t), loop_turn e' (A'.set (r.ex e')) q'⟩
  have fin : ∀ (xs : List D) (vs : List V), RpL G.Z F1 vs xs → ∀ σ' H', LW G F1 sl sb E bn (xs.drop vs.length) σ' H' → E.nx σ' H' := fun xs vs l σ' H' ⟨t, F', e', A', q'⟩ => by
    rw [l.length, List.drop_length] at q'
    exact q' F' σ' H' e' A'
  cases r1 with
  | tup r l =>
    rename_i a vs xs
    refine ⟨a, rfl, .inr ⟨⟨vs, by rw [← hK]; exact sqT_of A1.ok r⟩, ?_⟩⟩
    rw [← hK]
    exact for_tup (K := G.Z.K) (xs := vs) (g := gName j) (tb := fun E σ H => ∃ p : D × τ, sV G ((sl p.2).set j (.dat p.1)) sl sl (bn p.1 p.2) E σ H) (fun i => LW G F1 sl sb E bn (xs.drop i)) (start _ q1) (fun i σ' H' _ ⟨t, F', e', A', _⟩ => sqT_of A'.ok (e' _ _ r)) (turn xs vs l) (fin xs vs l)
  | ktup r l =>
    rename_i a vs xs
    refine ⟨a, rfl, .inr ⟨⟨vs, by rw [← hK]; exact .inr r⟩, ?_⟩⟩
    rw [← hK]
    exact for_tup (K := G.Z.K) (xs := vs) (g := gName j) (tb := fun E σ H => ∃ p : D × τ, sV G ((sl p.2).set j (.dat p.1)) sl sl (bn p.1 p.2) E σ H) (fun i => LW G F1 sl sb E bn (xs.drop i)) (start _ q1) (fun i σ' H' _ _ => .inr r) (turn xs vs l) (fin xs vs l)
  | lst r l =>
    rename_i a vs xs
    refine ⟨a, rfl, .inl ⟨⟨vs, by rw [← hK]; exact RL.sq A1.ok r⟩, ?_⟩⟩
    rw [← hK]
    exact for_list (K := G.Z.K) (xs := vs) (g := gName j) (tb := fun E σ H => ∃ p : D × τ, sV G ((sl p.2).set j (.dat p.1)) sl sl (bn p.1 p.2) E σ H) (fun i => LW G F1 sl sb E bn (xs.drop i)) (start _ q1) (fun i σ' H' _ ⟨t, F', e', A', _⟩ => RL.sq A'.ok (r.ex e')) (turn xs vs l) (fin xs vs l)
  | _ => exact (show False from q1).elim
/-- for i in range(n) -/
def N.upTo (d : D) : N (List Int) := match d with
  | .int n => (N.asrt (n < 2 ^ 62 ∧ -(2 ^ 62) ≤ n)).bind fun _ => .ok ((List.range n.toNat).map fun i => ((i : Nat) : Int))
  | _ => .stuck
theorem ds_forR {j : Nat} {x : Str} {px pr pc : Pos} (t0 : τ) {bn : Int → τ → N (Fl τ τ)} (hp : PassesOwn (model X.prog X.w) X.A X.env X.xe) (hc : X.calm = true) (hm : X.mg "range" = none) (hN : X.N.Nodup) (ha : PE X a (eV G S na)) (h0 : Wk S (sl t0))
    (hb : ∀ y t, PSs X body (sV G ((sl t).set j (.dat (.int y))) sl sl (bn y t))) (hg : Gl X "range" := by rfl) (hi : X.N[j]? = some x := by rfl) (hx : Loc X.env.scope x := by first | exact Or.inl rfl | exact Or.inr rfl)
    (hf : X.fn x = true ∨ X.env.scope.names.lookup x = some .local := by first | exact .inl rfl | exact .inr rfl) (hs : ∀ v, foldedSetIterable (.Call (.Name "range" pr) [a] [] pc) X.env v = pure v := by intro _; rfl)
    (he : starEach [a] X.env = [(false, eval a X.env)] := by rfl) :
    PS X (.For (.Name x px) (.Call (.Name "range" pr) [a] [] pc) body [] pos) (sV G S sl sb (na.bind fun d => (N.upTo d).bind fun xs => N.loop bn xs t0)) := by
  refine PS.imp (ps_for hp hc (pi_range1 hg hm (da_cons ha da_nil he) he) (pg_name (i := j) hN hi hx hf) (PSs.ex fun p : Int × τ => hb p.1 p.2) hs) fun E σ H ⟨F, A, q⟩ => ?_
  refine ⟨F, A, na.mono (fun d q1 vs F1 H1 e1 r1 => ?_) (fun _ _ z => z) q⟩
  have A1 := A.go e1
  cases d with
  | int n =>
    obtain ⟨⟨h1, h2⟩, q1⟩ := q1
    cases r1 with
    | cons r rl =>
      cases rl
      rw [rp_int r]
      refine ⟨n, rfl, by omega, by omega, for_range (lo := 0) (n := n.toNat) (g := gName j) (D := E) (tb := fun E σ H => ∃ p : Int × τ, sV G ((sl p.2).set j (.dat (.int p.1))) sl sl (bn p.1 p.2) E σ H) (fun i => LW G F1 sl sb E bn (((List.range n.toNat).map fun i => ((i : Nat) : Int)).drop i)) ⟨t0, F1, Ex.refl F1, A1.weak h0, (N.loop bn _ t0).mono (fun f z => flP.ex G e1.ex z) (fun _ _ z => z) q1⟩ ?_ ?_⟩
      · rintro i σ' H' hlt ⟨t, F', e', A', q'⟩
        have hdr : ((List.range n.toNat).map fun i => ((i : Nat) : Int)).drop i = (i : Int) :: ((List.range n.toNat).map fun i => ((i : Nat) : Int)).drop (i + 1) := by
          rw [List.drop_eq_getElem_cons (by rw [List.length_map, List.length_range]; exact hlt)]
          simp
        rw [hdr] at q'
        have e0 : (0 : Int) + (i : Int) = (i : Int) := Int.zero_add _
        rw [e0]
        exact ⟨((i : Int), t), loop_turn e' (A'.set (.int _)) q'⟩
      · rintro σ' H' ⟨t, F', e', A', q'⟩
        have hdr : ((List.range n.toNat).map fun i => ((i : Nat) : Int)).drop n.toNat = [] := by
          apply List.drop_eq_nil_of_le
          rw [List.length_map, List.length_range]
          exact Nat.le_refl _
        rw [hdr] at q'
        exact q' F' σ' H' e' A'
  | _ => exact (show False from q1).elim
end

/-! ### comprehensions -/
/-- without errors -/
def N.ne {α : Type} (n : N α) : N α := ⟨fun k _ => n.wp k (fun _ _ => False), fun h _ q => n.mono h (fun _ _ z => z) q⟩
def N.comp {α : Type} (t : α → N Bool) (f : α → N D) : List α → N (List D)
  | [] => .ok []
  | x :: xs => (N.ne (t x)).bind fun b => if b = true then (N.ne (f x)).bind fun y => (N.comp t f xs).bind fun ys => .ok (y :: ys) else N.comp t f xs
theorem PE.ex {X : Cx} {e : Expr} {ι : Type} {u : ι → TE} (h : ∀ t, PE X e (u t)) : PE X e (fun σ H Q => ∃ t, u t σ H Q) := ⟨fun pins s σ H Q I ⟨t, q⟩ => (h t).run pins s σ H Q I q⟩
theorem PTs.ex {X : Cx} {e : List Expr} {ι : Type} {u : ι → TT} (h : ∀ t, PTs X e (u t)) : PTs X e (fun σ H Q => ∃ t, u t σ H Q) := ⟨fun pins s σ H Q I ⟨t, q⟩ => (h t).run pins s σ H Q I q⟩
/-- within a comprehension: no error is let out -/
def Gx.in (G : Gx) (n : Nat) : Gx := { G with W := fun _ _ _ _ => False, Se := List.replicate n .un }
def wipeS (S : List Sl) : List Nat → List Sl
  | [] => S
  | v :: vs => (wipeS S vs).set v .un
theorem At.unset {Z : Zt} {B : Bs} {S : List Sl} {F : Ty} {σ : St} {H : Hp} {i : Nat} {o : Option V} (h : At Z B S F σ H) : At Z B (S.set i .un) F (σ.set i o) H := by
  refine ⟨h.ext, h.fe, by rw [List.length_set, List.length_set]; exact h.len, fun j s q => ?_, fun j k l c c' q1 q2 e1 e2 => ?_⟩
  · by_cases z : i = j
    · subst z
      have hj : i < S.length := by
        have := (List.getElem?_eq_some_iff.mp q).1
        rwa [List.length_set] at this
      rw [List.getElem?_set_self hj] at q
      cases q
      trivial
    · rw [List.getElem?_set_ne z] at q
      rw [List.getElem?_set_ne z]
      exact h.sl j s q
  · have nj : i ≠ j := fun z => by
      subst z
      have hj : i < S.length := by
        have := (List.getElem?_eq_some_iff.mp q1).1
        rwa [List.length_set] at this
      rw [List.getElem?_set_self hj] at q1; cases q1
    have nk : i ≠ k := fun z => by
      subst z
      have hj : i < S.length := by
        have := (List.getElem?_eq_some_iff.mp q2).1
        rwa [List.length_set] at this
      rw [List.getElem?_set_self hj] at q2; cases q2
    rw [List.getElem?_set_ne nj] at q1 e1
    rw [List.getElem?_set_ne nk] at q2 e2
    exact h.dis j k l c c' q1 q2 e1 e2
theorem At.wipe {Z : Zt} {B : Bs} {S : List Sl} {F : Ty} {σ : St} {H : Hp} (h : At Z B S F σ H) : ∀ vs : List Nat, At Z B (wipeS S vs) F (L2.wipe σ vs) H
  | [] => h
  | v :: vs => (At.wipe h vs).unset
theorem Gx.in_er {G : Gx} {n : Nat} (c : Nat) (x : D) : False → (G.in n).Er c x := fun h => h.elim
def KQ (G : Gx) (F : Ty) (H : Hp) (Q : VK) : List D → Prop := fun ds => ∀ v F' H', Ext F H F' H' → Rp G.Z F' v (.lst ds) → Q v H'
def TT1 (G : Gx) (n : Nat) (S : List Sl) (j : Nat) (tn : D → N Bool) : TT := fun σ H Q => ∃ y : D, tV (G.in n) ((S.set j .un).set j (.dat y)) (tn y) σ H Q
def TE1 (G : Gx) (n : Nat) (S : List Sl) (j : Nat) (fn : D → N D) : TE := fun σ H Q => ∃ y : D, eV (G.in n) ((S.set j .un).set j (.dat y)) (fn y) σ H Q
/-- the word of a comprehension's loop: what is made so far, and what is left leads to what is wanted -/
def CW {α : Type} (G : Gx) (F1 : Ty) (H1 : Hp) (Dl : Addr) (tn : α → N Bool) (fn : α → N D) (K : List D → Prop) (Er : Nat → D → Prop) (len : Nat) (i : Nat) (xs : List α) : Hp → Prop := fun H => ∃ F av ad, Ext F1 H1 F H ∧ F Dl = none ∧ H Dl = some (.lst av) ∧ RpL G.Z F av ad ∧
  ad.length ≤ i ∧ (N.comp tn fn xs).wp (fun ys => K (ad ++ ys)) Er
section
variable {X : Cx} {G : Gx} {S : List Sl} {a : Expr} {na : N D} {pos : Pos} {elt tg : Expr} {ifs : List Expr} {scope : Scope} {own : List (Str × Nat)}
theorem ext_put {F1 F : Ty} {H1 H : Hp} {Dl : Addr} {o : HO} (e : Ext F1 H1 F H) (n : H1 Dl = none) (hF : F Dl = none) : Ext F1 H1 F (upd H Dl o) := by
  refine ⟨e.ex, fun b p q => ?_, fun b u q nb => ?_⟩
  · have z : b ≠ Dl := fun z => by subst z; rw [hF] at q; cases q
    rw [upd_ne z]; exact e.ok b p q
  · have z : b ≠ Dl := fun z => by subst z; rw [n] at q; cases q
    rw [upd_ne z]; exact e.kp b u q nb
theorem ext_lst {F F2 : Ty} {H H2 : Hp} {Dl : Addr} {av : List V} (e : Ext F H F2 H2) (hF : F Dl = none) (hA : H Dl = some (.lst av)) : F2 Dl = none ∧ H2 Dl = some (.lst av) := by
  obtain ⟨h, n⟩ := e.kp _ _ hA hF
  rcases n with n | ⟨_, xs, z⟩
  · exact ⟨n, h⟩
  · cases z
/-- one turn -/
theorem comp_turn {α : Type} {tn : α → N Bool} {fn : α → N D} {n len i : Nat} {S' : List Sl} {F1 F : Ty} {H1 H : Hp} {Dl : Addr} {av : List V} {ad : List D} {x : α} {xs : List α} {σ2 : St} {K : List D → Prop} {Er : Nat → D → Prop} {tt : TT} {te : TE}
    (hn : H1 Dl = none) (e1 : Ext F1 H1 F H) (hF : F Dl = none) (hA : H Dl = some (.lst av)) (r : RpL G.Z F av ad) (hl : ad.length ≤ i) (hi : i < len) (hz : len ≤ sizeLine) (A : At G.Z G.B S' F σ2 H)
    (q : (N.comp tn fn (x :: xs)).wp (fun ys => K (ad ++ ys)) Er) (ht : ∀ H Q, tV (G.in n) S' (tn x) σ2 H Q → tt σ2 H Q) (he : ∀ H Q, eV (G.in n) S' (fn x) σ2 H Q → te σ2 H Q) :
    tt σ2 H fun b H3 => if b = true then te σ2 H3 fun y H4 => ∃ acc, H4 Dl = some (.lst acc) ∧ acc.length < sizeLine ∧ CW G F1 H1 Dl tn fn K Er len (i + 1) xs (upd H4 Dl (.lst (acc ++ [y]))) else CW G F1 H1 Dl tn fn K Er len (i + 1) xs H3 := by
  refine ht H _ ⟨F, A, (tn x).mono (fun b q1 F3 H3 e3 => ?_) (fun _ _ z => z.elim) q⟩
  obtain ⟨hF3, hA3⟩ := ext_lst e3 hF hA
  cases b with
  | false =>
    show CW G F1 H1 Dl tn fn K Er len (i + 1) xs H3
    exact ⟨F3, av, ad, e1.trans e3, hF3, hA3, r.ex e3.ex, by omega, q1⟩
  | true =>
    show te σ2 H3 _
    refine he H3 _ ⟨F3, A.go e3, (fn x).mono (fun d q2 y F4 H4 e4 r4 => ?_) (fun _ _ z => z.elim) q1⟩
    obtain ⟨hF4, hA4⟩ := ext_lst e4 hF3 hA3
    refine ⟨av, hA4, by rw [r.length]; omega, F4, av ++ [y], ad ++ [d], ext_put ((e1.trans e3).trans e4) hn hF4, hF4, upd_same, (r.ex (e3.ex.trans e4.ex)).append (.cons r4 .nil), by rw [List.length_append, List.length_singleton]; omega, ?_⟩
    exact (N.comp tn fn xs).mono (fun ys z => by rw [List.append_assoc]; exact z) (fun _ _ z => z) q2
theorem comp_end {α : Type} {tn : α → N Bool} {fn : α → N D} {len i : Nat} {F1 : Ty} {H1 H : Hp} {Dl : Addr} {Er : Nat → D → Prop} {Q : VK} {F0 : Ty} {H0 : Hp} (e0 : Ext F0 H0 F1 H1) (hn : H1 Dl = none)
    (h : CW G F1 H1 Dl tn fn (KQ G F0 H0 Q) Er len i [] H) : Q (.ref Dl) H := by
  obtain ⟨F, av, ad, e1, hF, hA, r, hl, q⟩ := h
  have q' : ∀ v F' H', Ext F0 H0 F' H' → Rp G.Z F' v (.lst (ad ++ [])) → Q v H' := q
  rw [List.append_nil] at q'
  have ex' : Ex F (updT F Dl (is (.lst av))) := fun b p z => by
    by_cases hb : b = Dl
    · subst hb; rw [hF] at z; cases z
    · rw [updT_ne hb]; exact z
  have e2 : Ext F1 H1 (updT F Dl (is (.lst av))) H := by
    refine ⟨e1.ex.trans ex', fun b p z => ?_, fun b u z nb => ?_⟩
    · by_cases hb : b = Dl
      · subst hb
        rw [updT_same] at z
        cases z
        exact ⟨_, hA, rfl, fun _ => rfl⟩
      · rw [updT_ne hb] at z; exact e1.ok b p z
    · have hb : b ≠ Dl := fun y => by subst y; rw [hn] at z; cases z
      rw [updT_ne hb]; exact e1.kp b u z nb
  exact q' _ _ _ (e0.trans e2) (.lst (.inl (.inl updT_same)) (r.ex ex'))
theorem wipe1 (σ : St) (j : Nat) (v : V) : L2.wipe ((L2.wipe σ [j]).set j (some v)) [j] = L2.wipe σ [j] := by
  show ((σ.set j none).set j (some v)).set j none = σ.set j none
  rw [List.set_set, List.set_set]
def N.fits {α : Type} (xs : List α) : N Unit := N.asrt (xs.length ≤ sizeLine)
theorem lc_run {K : PySem.W.Frag} {j : Nat} {tn : D → N Bool} {fn : D → N D} {n : Nat} (hK : G.Z.K = K) {σ : St} {H : Hp} {Q : VK} (h : eV G S (na.bind fun d => (seqOf d).bind fun xs => (N.fits xs).bind fun _ => (N.comp tn fn xs).bind fun ys => .ok (.lst ys)) σ H Q) :
    tLc (iSeq K (eV G S na)) (gName j) (TT1 G n S j tn) (TE1 G n S j fn) [j] σ H Q := by
  obtain ⟨F, A, q⟩ := h
  refine ⟨F, A, na.mono (fun d q1 v F1 H1 e1 r1 => ?_) (fun _ _ z => z) q⟩
  have A1 := A.go e1
  have start : ∀ (xs : List D), (N.comp tn fn xs).wp (KQ G F H Q) G.Er → ∀ Dl, H1 Dl = none → CW G F1 H1 Dl tn fn (KQ G F H Q) G.Er xs.length 0 (xs.drop 0) (upd H1 Dl (.lst [])) := fun xs h Dl hD =>
    ⟨F1, [], [], Ext.own A1.ok hD, A1.ok.none hD, upd_same, .nil, Nat.zero_le _, h⟩
  have turn : ∀ (xs : List D) (vs : List V), RpL G.Z F1 vs xs → xs.length ≤ sizeLine → ∀ Dl, H1 Dl = none → ∀ (i : Nat) (y : V) (H' : Hp), vs[i]? = some y → CW G F1 H1 Dl tn fn (KQ G F H Q) G.Er xs.length i (xs.drop i) H' →
      gName j y (L2.wipe σ [j]) H' fun σ2 H2 => L2.wipe σ2 [j] = L2.wipe σ [j] ∧ TT1 G n S j tn σ2 H2 fun b H3 => if b = true then TE1 G n S j fn σ2 H3 fun y H4 => ∃ acc, H4 Dl = some (.lst acc) ∧ acc.length < sizeLine ∧ CW G F1 H1 Dl tn fn (KQ G F H Q) G.Er xs.length (i + 1) (xs.drop (i + 1)) (upd H4 Dl (.lst (acc ++ [y]))) else CW G F1 H1 Dl tn fn (KQ G F H Q) G.Er xs.length (i + 1) (xs.drop (i + 1)) H3 := fun xs vs l hz Dl hD i y H' hy ⟨F', av, ad, e', hF', hA', r', hl', q'⟩ => by
    obtain ⟨d, hd, r⟩ := l.getV hy
    obtain ⟨hlt, hde⟩ := List.getElem?_eq_some_iff.mp hd
    have hdr : xs.drop i = d :: xs.drop (i + 1) := by rw [List.drop_eq_getElem_cons hlt, hde]
    rw [hdr] at q'
    refine ⟨wipe1 σ j y, ?_⟩
    exact comp_turn (n := n) (K := KQ G F H Q) (tt := TT1 G n S j tn) (te := TE1 G n S j fn) (S' := (S.set j .un).set j (.dat d)) hD e' hF' hA' r' hl' hlt hz (((A1.go e').wipe [j]).set (r.ex e'.ex)) q' (fun H Q z => ⟨d, z⟩) (fun H Q z => ⟨d, z⟩)
  have fin : ∀ (xs : List D) (vs : List V), RpL G.Z F1 vs xs → ∀ Dl, H1 Dl = none → ∀ H', CW G F1 H1 Dl tn fn (KQ G F H Q) G.Er xs.length vs.length (xs.drop vs.length) H' → Q (.ref Dl) H' := fun xs vs l Dl hD H' h => by
    rw [l.length, List.drop_length] at h
    exact comp_end e1 hD h
  cases r1 with
  | tup r l =>
    rename_i a vs xs
    obtain ⟨hz, q1⟩ := q1
    refine ⟨a, rfl, .inr ⟨⟨vs, by rw [← hK]; exact sqT_of A1.ok r⟩, fun Dl hD => ?_⟩⟩
    rw [← hK]
    exact lc_tup (K := G.Z.K) (xs := vs) (g := gName j) (tt := TT1 G n S j tn) (te := TE1 G n S j fn) (fun i => CW G F1 H1 Dl tn fn (KQ G F H Q) G.Er xs.length i (xs.drop i)) (start xs q1 Dl hD) (fun i H' _ ⟨F', _, _, e', _⟩ => sqT_of e'.ok (e'.ex _ _ r)) (turn xs vs l hz Dl hD) (fin xs vs l Dl hD)
  | ktup r l =>
    rename_i a vs xs
    obtain ⟨hz, q1⟩ := q1
    refine ⟨a, rfl, .inr ⟨⟨vs, by rw [← hK]; exact .inr r⟩, fun Dl hD => ?_⟩⟩
    rw [← hK]
    exact lc_tup (K := G.Z.K) (xs := vs) (g := gName j) (tt := TT1 G n S j tn) (te := TE1 G n S j fn) (fun i => CW G F1 H1 Dl tn fn (KQ G F H Q) G.Er xs.length i (xs.drop i)) (start xs q1 Dl hD) (fun i H' _ _ => .inr r) (turn xs vs l hz Dl hD) (fin xs vs l Dl hD)
  | lst r l =>
    rename_i a vs xs
    obtain ⟨hz, q1⟩ := q1
    refine ⟨a, rfl, .inl ⟨⟨vs, by rw [← hK]; exact RL.sq A1.ok r⟩, fun Dl hD => ?_⟩⟩
    rw [← hK]
    exact lc_list (K := G.Z.K) (xs := vs) (g := gName j) (tt := TT1 G n S j tn) (te := TE1 G n S j fn) (fun i => CW G F1 H1 Dl tn fn (KQ G F H Q) G.Er xs.length i (xs.drop i)) (start xs q1 Dl hD) (fun i H' _ ⟨F', _, _, e', _⟩ => RL.sq e'.ok (r.ex e'.ex)) (turn xs vs l hz Dl hD) (fin xs vs l Dl hD)
  | _ => exact (show False from q1).elim
/-- [elt for x in e if ..], e a list or a tuple; j the slot of x -/
theorem de_lc {j : Nat} {x : Str} {px : Pos} {tn : D → N Bool} {fn : D → N D} {n : Nat} (hc : X.calm = true) (hK : G.Z.K = X.K) (hN : X.N.Nodup) (ha : PE X a (eV G S na)) (ok : BlkOk X.N X.env.scope scope [(x, j)])
    (hg : ∀ (s : Shared) (H : Hp) (C : Addr) (cl : List (Str × Addr)) (fp : List Addr), PG (X.blk s H scope (compEnvC scope cl C X.env) fp) (.Name x px) (gName j))
    (ht : ∀ (s : Shared) (H : Hp) (C : Addr) (cl : List (Str × Addr)) (fp : List Addr) (y : D), PTs (X.blk s H scope (compEnvC scope cl C X.env) fp) ifs (tV (G.in n) ((S.set j .un).set j (.dat y)) (tn y)))
    (he : ∀ (s : Shared) (H : Hp) (C : Addr) (cl : List (Str × Addr)) (fp : List Addr) (y : D), PE (X.blk s H scope (compEnvC scope cl C X.env) fp) elt (eV (G.in n) ((S.set j .un).set j (.dat y)) (fn y)))
    (hs : ∀ x, foldedSetIterable a X.env x = pure x := by intro _; rfl) :
    PE X (.ListComp elt [⟨.Name x px, a, ifs, 0⟩] scope pos) (eV G S (na.bind fun d => (seqOf d).bind fun xs => (N.fits xs).bind fun _ => (N.comp tn fn xs).bind fun ys => .ok (.lst ys))) := by
  exact PE.imp (pe_lc (own := [(x, j)]) (g := gName j) hc hN (pi_seq ha) ok hg (tt := TT1 G n S j tn) (te := TE1 G n S j fn) (fun s H C cl fp => PTs.ex fun y : D => ht s H C cl fp y) (fun s H C cl fp => PE.ex fun y : D => he s H C cl fp y) hs) fun σ H Q h => lc_run hK h
theorem dts_nil {y : α} : PTs X [] (tV G S (.ok true)) := ⟨fun pins s σ H Q I ⟨F, A, q⟩ => pts_nil.run pins s σ H Q I (q F H (Ext.refl A.ok))⟩
theorem dts_one {c : Expr} {n : N Bool} (h : PT X c (tV G S n)) : PTs X [c] (tV G S n) := pts_one h
end
end M

set_option Elab.async false
set_option linter.all false
set_option maxRecDepth 100000
set_option maxHeartbeats 2000000
namespace PySem
namespace TEnum
open Sem (wp)
open AutoSeq1 (wpAny_loadPart')
theorem meets_enumT (l : Addr) (items : Array Value) (n : Nat) (dct : Option Addr) (sl : Array (Option Value)) :
    Meets (Builtin.«enumerate.__new__» ⟨[.type "enumerate", .ref l], []⟩) (fun _ R s => s.heap.get? l = some { cls := .type "tuple", dict := dct, data := .seq items n, slots := sl } ∧
      R (.ok (.ret (.ref (s.heap.push { cls := .type "tuple_iterator", data := .fields #[.ref l, .int 0 0] }).objs.size)))
        { s with heap := (s.heap.push { cls := .type "tuple_iterator", data := .fields #[.ref l, .int 0 0] }).push { cls := .type "enumerate", data := .fields #[.none, .bool false, .ref s.heap.objs.size, rawInt 0, .none, .none] } }) :=
  .of_wp fun prog w A R s h => by
    obtain ⟨hp, g, d, tk, os⟩ := s; obtain ⟨hl, h⟩ := h
    have hsub := sub_enumerate
    have hL : Heap.IsTuple (Shared.heap ⟨hp, g, d, tk, os⟩) l items := ⟨_, hl, rfl, n, rfl⟩
    wp_walk using wpAny_loadPart' hl
    refine wpAny_stack_any fun st => wpAny_pure ?_
    split
    · rename_i c _ _ _ _ _
      cases (c == Value.type "enumerate")
      · wp_walk using wpAny_loadPart' hl, wpAny_pyIter_tuple hL
        exact ⟨_, rfl, h⟩
      · wp_walk using wpAny_loadPart' hl, wpAny_pyIter_tuple hL
        exact ⟨_, rfl, h⟩
    · wp_walk using wpAny_loadPart' hl, wpAny_pyIter_tuple hL
      exact ⟨_, rfl, h⟩
section
variable {prog : Program} {w : World} {A : Around} {E : Value → Shared → Prop} {s : Shared}
theorem call_enumT {l : Addr} {items : Array Value} {Q : Value → Shared → Prop} (hL : s.heap.IsTuple l items)
    (h : ∀ h', IsEnum h' (s.heap.objs.size + 1) s.heap.objs.size 0 .none → h'.IsTupleIter s.heap.objs.size l 0 → h'.objs.size = s.heap.objs.size + 2 →
      (∀ b o, s.heap.get? b = some o → h'.get? b = some o) → Q (.ref (s.heap.objs.size + 1)) { s with heap := h' }) :
    wpAny (model prog w) A (call (.type "enumerate") [.ref l]) Q E s := by
  obtain ⟨⟨c, dct, dt, sl⟩, hl, hc, n, hd⟩ := hL
  replace hc : c = .type "tuple" := hc
  replace hd : dt = .seq items n := hd
  subst hc hd
  refine callType_new F.called_enumerate (by decide) (F.typeCall_enumerate_1 _) (F.newCall_enumerate_1 _) (fun obj => F.args_object_init_2 obj _) F.entry_enumerate_new
    (meets_enumT l items n dct sl) ⟨hl, ?_⟩
  have hz : (s.heap.push { cls := .type "tuple_iterator", data := .fields #[.ref l, .int 0 0] }).objs.size = s.heap.objs.size + 1 := Heap.size_push ..
  show _ ∧ _
  rw [hz]
  have he : IsEnum ((s.heap.push { cls := .type "tuple_iterator", data := .fields #[.ref l, .int 0 0] }).push
      { cls := .type "enumerate", data := .fields #[.none, .bool false, .ref s.heap.objs.size, rawInt 0, .none, .none] }) (s.heap.objs.size + 1) s.heap.objs.size 0 .none := by
    have := Heap.get?_push_size (s.heap.push { cls := .type "tuple_iterator", data := .fields #[.ref l, .int 0 0] })
      (o := { cls := .type "enumerate", data := .fields #[.none, .bool false, .ref s.heap.objs.size, rawInt 0, .none, .none] }) rfl
    rw [hz] at this; exact this
  refine ⟨⟨_, he, rfl⟩, h _ he ⟨_, Heap.get?_push_of_some _ (Heap.get?_push_size _ rfl), rfl, rfl⟩ (by rw [Heap.size_push, hz]) fun b o x => Heap.get?_push_of_some _ (Heap.get?_push_of_some _ x)⟩
end
end TEnum
end PySem
namespace M
open PySem PyProof.Rows L2
/-- the tuple at a, each item in a new pair -/
def Itet (K : PySem.W.Frag) (a : Addr) : It :=
  ⟨fun i H => ∃ (xs : List V) (x : V), SqT K H a xs ∧ xs[i]? = some x, fun i H v H' => ∃ T x, v = .ref T ∧ H T = none ∧ H' = upd H T (.tup [.int (i : Nat), x]) ∧ ∀ xs, SqT K H a xs → xs[i]? = some x, fun i H => ∃ xs : List V, SqT K H a xs ∧ xs.length ≤ i⟩
theorem turn_enumT {P : Program} {w : World} {K : PySem.W.Frag} {elts : List Expr} {kk : Nat} {tpos : Pos} (a e it : Addr) (hae : a ≠ e) (hai : a ≠ it) :
    Turn P w K (.Tuple elts kk tpos) (Itet K a) [e, it] e (fun i h => (∃ old, IsEnum h e it ((i : Nat) : Int) old) ∧ h.IsTupleIter it a i ∧ e ≠ it) where
  mem := by simp
  obj := fun i h st b hb => by
    obtain ⟨⟨old, he⟩, ⟨o, ho, hc, hd⟩, _⟩ := st
    have e' : b = e ∨ b = it := by simpa using hb
    rcases e' with z | z
    · rw [z]; exact ⟨_, he, fun v q => nomatch q⟩
    · rw [z]; exact ⟨o, ho, fun v q => by rw [hd] at q; cases q⟩
  keep := fun i h h' st k => let ⟨⟨old, he⟩, hi, hne⟩ := st; ⟨⟨old, k e (by simp) _ he⟩, hi.at fun o q => k it (by simp) o q, hne⟩
  item := by
    intro X hP hw hK hc i pins s σ H E I hf st hg
    subst hP hw hK
    obtain ⟨⟨old, he⟩, hit, hne⟩ := st
    obtain ⟨xs, x, hq, hx⟩ := hg
    obtain ⟨its, rv, p, hz⟩ := I.tuple hq
    obtain ⟨u, hu, ru⟩ := rv.get hx
    have hel : e < s.heap.objs.size := Heap.lt_size he
    have hil : it < s.heap.objs.size := by obtain ⟨_, q, _⟩ := hit; exact Heap.lt_size q
    have hlt : i < its.toArray.size := by
      have := (List.getElem?_eq_some_iff.mp hu).1
      simpa using this
    have Dr := PySem.Draws.tuple (prog := X.prog) (w := X.w) (A := X.A.in1) (show X.A.in1.handled = none from I.ok.hd hc) it a hai its.toArray
    refine wpAny_pyNext_enum_itemD Dr he ⟨hit, show s.heap.IsTuple a its.toArray from p⟩ hlt hne (by simp [hne, Ne.symm hae]) fun x' h' tk hx' ho hst hT hsz hk => ?_
    have eu : x' = u := by
      have h1 : its.toArray[i]? = some x' := hx'
      have h2 : its.toArray[i]? = some u := by simpa using hu
      rw [h1] at h2
      exact Option.some.inj h2
    subst eu
    refine ⟨_, rfl, wpAny_letOwnedTupleGo_enum (s := { s with heap := h', toks := tk + 1 }) ho fun h'' he' sb => ?_⟩
    have hT2 : h''.get? s.heap.objs.size = some { cls := .type "tuple", data := .seq #[.int i tk, x'] } := (sb.2 _ (Nat.ne_of_gt hel)).trans hT
    have new : ObjOk X.prog X.w (upd H s.heap.objs.size (.tup [.int (i : Nat), x])) h'' s.heap.objs.size (.tup [.int (i : Nat), x]) :=
      ⟨by show 2 ≤ sizeLine; decide, [.int i tk, x'], .cons ⟨_, rfl⟩ (.cons ru .nil), ⟨_, hT2, rfl, _, rfl⟩⟩
    have I1 : Inv X pins σ (upd H s.heap.objs.size (.tup [.int (i : Nat), x])) { s with heap := h'', toks := tk + 1 } :=
      I.turnedNew (ch := [e, it]) (fun b ob hb q => (sb.2 b (fun z => hb (by simp [z]))).trans (hk b ob (fun z => hb (by simp [z])) (fun z => hb (by simp [z])) q)) hf (Nat.le_refl _) new
    refine ⟨.ref s.heap.objs.size, _, I1, rfl, ⟨_, x, rfl, I.hok.fresh (Nat.le_refl _), rfl, fun ys hy => by rw [I.tuple_inj hy hq]; exact hx⟩, ⟨⟨x', ?_⟩, hst.1.at fun o q => (sb.2 it (Ne.symm hne)).trans q, hne⟩, fun b hb => ?_⟩
    · have e1 : ((i + 1 : Nat) : Int) = (i : Int) + 1 := by omega
      rw [e1]; exact he'
    · have hb' : b < s.heap.objs.size := by
        have e' : b = e ∨ b = it := by simpa using hb
        rcases e' with z | z
        · rw [z]; exact hel
        · rw [z]; exact hil
      rw [upd_ne (Nat.ne_of_lt hb')]
      exact (hf b hb).1
  done := by
    intro X hP hw hK hc i pins s σ H E I hf st hg
    subst hP hw hK
    obtain ⟨⟨old, he⟩, hit, hne⟩ := st
    obtain ⟨xs, hq, hx⟩ := hg
    obtain ⟨its, rv, p, hz⟩ := I.tuple hq
    obtain ⟨f0, f1, f2, f3, f4, f5⟩ := hf it (by simp)
    have hl := rv.length
    have hT : s.TypeIs (.ref e) "enumerate" := ⟨_, he, rfl⟩
    unfold pyNext
    refine wpAny_bind (wpAny_attempt (wpAny_callSpecial?_slot (name := PySem.Str.ofString "__next__") hT PySem.F.slot_enumerate_next
      (wpAny_call_entry PySem.F.slot_enumerate_next hT PySem.F.entry_enumerate_next ?_ (PySem.F.args_enumerate_next_1 _))))
    show wpAny _ _ (field (.ref e) 2 >>= _) _ _ _
    refine wpAny_bind (wpAny_field he rfl (x := .ref it) rfl ?_)
    refine wpAny_bind (PySem.wpAny_nextOf_tuple_end (show X.A.in1.in1.handled = none from I.ok.hd hc) hit (show s.heap.IsTuple a its.toArray from p) (by simp; omega) fun h' x he' hx' => ?_)
    obtain ⟨o, ho, hcc⟩ := hx'
    refine wpAny_bind (wpAny_isInstance (T := "StopIteration") (b := true) ⟨o, ho, hcc⟩ isSubtype_stop ?_)
    exact wpAny_pure ⟨rfl, I.turned (t' := s.toks) (fun b o hb q => he' b o hb q) f0 f1 f3 f4 f5⟩
  self := fun A i s Q E st h => let ⟨⟨_, he⟩, _⟩ := st; wpAny_pyIter_enum he h
end M

set_option Elab.async false
set_option linter.all false
set_option maxRecDepth 100000
set_option maxHeartbeats 2000000
namespace M
open PySem L2
/-! ### for a, b in enumerate(e) -/
section
variable {X : Cx} {tg : Expr}
def iEn (K : PySem.W.Frag) (ta : TA) : TI := fun σ H R => ta σ H fun vs H1 => ∃ a, vs = [.ref a] ∧ (((∃ xs, SqL K H1 a xs) ∧ R (Ite K a) H1) ∨ ((∃ xs, H1 a = some (.tup xs)) ∧ R (Itet K a) H1))
open PySem.Spec PyProof.Rows in
theorem pi_en {e : Expr} {ta : TA} {p pos tpos : Pos} {elts : List Expr} {kk : Nat} (hg : Gl X "enumerate") (hm : X.mg "enumerate" = none) (ha : PA X [e] ta) (hs : starEach [e] X.env = [(false, eval e X.env)] := by rfl) :
    PI X (.Tuple elts kk tpos) (.Call (.Name "enumerate" p) [e] [] pos) (iEn X.K ta) := by
  refine ⟨fun pins s σ H R I h => ?_⟩
  refine Call_ (ld_blt I hg hm boot_enumerate (PyProof.Rows.callWith_type1 (thn (ha.run pos pins s σ H _ I h) fun us s1 ⟨vs, H1, I1, r1, q1⟩ => ?_) hs rfl))
  obtain ⟨a, ex, q⟩ := q1
  subst ex
  cases r1 with
  | cons r rr =>
    cases rr
    cases r
    have fpn : ∀ b ∈ [s1.heap.objs.size + 1, s1.heap.objs.size], FpOk X pins H1 b := fun b hb => by
      have e' : b = s1.heap.objs.size + 1 ∨ b = s1.heap.objs.size := by simpa using hb
      have hle : s1.heap.objs.size ≤ b := by
        rcases e' with z | z
        · rw [z]; exact Nat.le_add_right _ _
        · rw [z]; exact Nat.le_refl _
      exact I1.fpOk hle (I1.hok.fresh hle)
    rcases q with ⟨⟨xs, hq⟩, q⟩ | ⟨⟨xs, hq⟩, q⟩
    · obtain ⟨its, rv, p', hz⟩ := I1.list hq
      refine call_enumerate_list p'.isList fun h' he hit hsz hk => wpAny_pyIter_enum he ?_
      have I2 : Inv X pins σ H1 { s1 with heap := h' } := I1.kept (t' := s1.toks) hk
      exact ⟨s1.heap.objs.size + 1, [s1.heap.objs.size + 1, s1.heap.objs.size], _, _, H1, rfl, I2, turn_enum a (s1.heap.objs.size + 1) s1.heap.objs.size, ⟨⟨.none, he⟩, hit, Nat.succ_ne_self _⟩, fpn, q⟩
    · obtain ⟨its, rv, p', hz⟩ := I1.tuple (SqT.of hq)
      have hlt : a < s1.heap.objs.size := by obtain ⟨_, q, _⟩ := p'; exact Heap.lt_size q
      refine PySem.TEnum.call_enumT (show s1.heap.IsTuple a its.toArray from p') fun h' he hit hsz hk => wpAny_pyIter_enum he ?_
      have I2 : Inv X pins σ H1 { s1 with heap := h' } := I1.kept (t' := s1.toks) hk
      exact ⟨s1.heap.objs.size + 1, [s1.heap.objs.size + 1, s1.heap.objs.size], _, _, H1, rfl, I2, turn_enumT a (s1.heap.objs.size + 1) s1.heap.objs.size (Nat.ne_of_lt (Nat.lt_succ_of_lt hlt)) (Nat.ne_of_lt hlt), ⟨⟨.none, he⟩, hit, Nat.succ_ne_self _⟩, fpn, q⟩
end
section
variable {X : Cx} {G : Gx} {S : List Sl} {τ β : Type} {sl : τ → List Sl} {sb : β → List Sl} {a b c e : Expr} {na nb : N D} {pos : Pos} {body : List Stmt}
def numbered (xs : List D) : List (Int × D) := xs.zipIdx.map fun p => ((p.2 : Int), p.1)
theorem numbered_drop (xs : List D) (i : Nat) (d : D) (h : xs[i]? = some d) : (numbered xs).drop i = ((i : Int), d) :: (numbered xs).drop (i + 1) := by
  have h2 : (numbered xs)[i]? = some ((i : Int), d) := by
    unfold numbered
    rw [List.getElem?_map, List.getElem?_zipIdx, h]
    simp
  obtain ⟨hl, he⟩ := List.getElem?_eq_some_iff.mp h2
  rw [List.drop_eq_getElem_cons hl, he]
theorem numbered_end (xs : List D) : (numbered xs).drop xs.length = [] := by
  apply List.drop_eq_nil_of_le
  unfold numbered
  rw [List.length_map, List.length_zipIdx]
  exact Nat.le_refl _
/-- what enumerate takes here: a list, or a tuple that is no constant of the module -/
def enOf (d : D) : N (List D) := match d with
  | .tup xs => .ok xs
  | .lst xs => .ok xs
  | _ => .stuck
theorem ds_forE {i j : Nat} {x y : Str} {px py pt pr pc : Pos} {kk : Nat} (t0 : τ) {bn : Int × D → τ → N (Fl τ τ)} (hp : PassesOwn (model X.prog X.w) X.A X.env X.xe) (hc : X.calm = true) (hK : G.Z.K = X.K) (hm : X.mg "enumerate" = none) (hN : X.N.Nodup) (ha : PE X a (eV G S na)) (h0 : Wk S (sl t0))
    (hb : ∀ k d t, PSs X body (sV G (((sl t).set i (.dat (.int k))).set j (.dat d)) sl sl (bn (k, d) t))) (hg : Gl X "enumerate" := by rfl) (hi : X.N[i]? = some x := by rfl) (hx : Loc X.env.scope x := by first | exact Or.inl rfl | exact Or.inr rfl)
    (hf : X.fn x = true ∨ X.env.scope.names.lookup x = some .local := by first | exact .inl rfl | exact .inr rfl) (hj : X.N[j]? = some y := by rfl) (hy : Loc X.env.scope y := by first | exact Or.inl rfl | exact Or.inr rfl)
    (hfy : X.fn y = true ∨ X.env.scope.names.lookup y = some .local := by first | exact .inl rfl | exact .inr rfl) (hs : ∀ v, foldedSetIterable (.Call (.Name "enumerate" pr) [a] [] pc) X.env v = pure v := by intro _; rfl)
    (he : starEach [a] X.env = [(false, eval a X.env)] := by rfl) (hn : (assignEach [.Name x px, .Name y py] X.env).length = 2 := by rfl) (hst : (assignEach [.Name x px, .Name y py] X.env).findIdx? (·.1) = none := by rfl) :
    PS X (.For (.Tuple [.Name x px, .Name y py] kk pt) (.Call (.Name "enumerate" pr) [a] [] pc) body [] pos) (sV G S sl sb (na.bind fun d => (enOf d).bind fun xs => N.loop bn (numbered xs) t0)) := by
  refine PS.imp (ps_for (g := gTup X.K 2 (gCons (gName i) (gCons (gName j) gNil))) (tb := fun E σ H => ∃ p : (Int × D) × τ, sV G (((sl p.2).set i (.dat (.int p.1.1))).set j (.dat p.1.2)) sl sl (bn p.1 p.2) E σ H) hp hc (pi_en hg hm (da_cons ha da_nil he) he)
    (pg_tup hc (pgs_cons (pg_name (i := i) hN hi hx hf) (pgs_cons (pg_name (i := j) hN hj hy hfy) pgs_nil)) hn hst) (PSs.ex fun p : (Int × D) × τ => hb p.1.1 p.1.2 p.2) hs) fun E σ H ⟨F, A, q⟩ => ?_
  refine ⟨F, A, na.mono (fun d q1 vs F1 H1 e1 r1 => ?_) (fun _ _ z => z) q⟩
  have A1 := A.go e1
  cases r1 with
  | cons r rl =>
    cases rl
    -- one turn, whatever the source
    have turn : ∀ (xs : List D) (vs : List V), RpL G.Z F1 vs xs → ∀ (k : Nat) (v : V) (T : Addr) (σ' : St) (H' : Hp), vs[k]? = some v → H' T = none → LW G F1 sl sb E bn ((numbered xs).drop k) σ' H' →
        gTup X.K 2 (gCons (gName i) (gCons (gName j) gNil)) (.ref T) σ' (upd H' T (.tup [.int (k : Nat), v])) fun σ2 H2 => (∃ p : (Int × D) × τ, sV G (((sl p.2).set i (.dat (.int p.1.1))).set j (.dat p.1.2)) sl sl (bn p.1 p.2) { nx := LW G F1 sl sb E bn ((numbered xs).drop (k + 1)), ct := LW G F1 sl sb E bn ((numbered xs).drop (k + 1)), bk := E.nx, rt := E.rt } σ2 H2) := fun xs vs l k v T σ' H' hv hT ⟨t, F', e', A', q'⟩ => by
      obtain ⟨d, hd, r⟩ := l.getV hv
      rw [numbered_drop xs k d hd] at q'
      have e2 : Ext F' H' (updT F' T (is (.tup [.int (k : Nat), v]))) (upd H' T (.tup [.int (k : Nat), v])) := Ext.new A'.ok hT rfl
      have A2 := A'.go e2
      refine ⟨T, [.int (k : Nat), v], rfl, SqT.of upd_same, rfl, _, _, rfl, _, _, rfl, rfl, (((k : Int), d), t), ?_⟩
      exact loop_turn (e'.trans e2.ex) ((A2.set (.int _)).set (r.ex (e'.trans e2.ex))) q'
    have fin : ∀ (xs : List D) (vs : List V), RpL G.Z F1 vs xs → ∀ σ' H', LW G F1 sl sb E bn ((numbered xs).drop vs.length) σ' H' → E.nx σ' H' := fun xs vs l σ' H' ⟨t, F', e', A', q'⟩ => by
      rw [l.length, numbered_end] at q'
      exact q' F' σ' H' e' A'
    have start : ∀ (xs : List D), (N.loop (β := β) bn (numbered xs) t0).wp (flP G F sl sb E) G.Er → LW G F1 sl sb E bn ((numbered xs).drop 0) σ H1 := fun xs h => ⟨t0, F1, Ex.refl F1, A1.weak h0, (N.loop bn _ t0).mono (fun f z => flP.ex G e1.ex z) (fun _ _ z => z) h⟩
    cases r with
    | tup r l =>
      rename_i a vs xs
      refine ⟨a, rfl, .inr ⟨⟨vs, tup_of A1.ok r⟩, ?_⟩⟩
      refine ⟨fun k m σ H => m = vs.length - k ∧ k ≤ vs.length ∧ LW G F1 sl sb E bn ((numbered xs).drop k) σ H, ⟨vs.length, by simp, Nat.zero_le _, start xs q1⟩, ?_⟩
      rintro k m σ' H' ⟨rfl, hk, w⟩
      have hsq : SqT X.K H' a vs := by
        obtain ⟨t, F', e', A', _⟩ := id w
        exact sqT_of A'.ok (e' _ _ r)
      by_cases hlt : k < vs.length
      · refine .inr ⟨⟨vs, vs[k], hsq, by simp [hlt]⟩, LW G F1 sl sb E bn ((numbered xs).drop (k + 1)), fun σ2 H2 w2 => ⟨vs.length - (k + 1), by omega, rfl, hlt, w2⟩, fun v H2 hy => ?_⟩
        obtain ⟨T, u, rfl, hT, rfl, hu⟩ := hy
        exact turn xs vs l k u T σ' H' (hu vs hsq) hT w
      · have ek : k = vs.length := by omega
        subst ek
        exact .inl ⟨⟨vs, hsq, Nat.le_refl _⟩, fin xs vs l σ' H' w⟩
    | lst r l =>
      rename_i a vs xs
      refine ⟨a, rfl, .inl ⟨⟨vs, by rw [← hK]; exact RL.sq A1.ok r⟩, ?_⟩⟩
      refine ⟨fun k m σ H => m = vs.length - k ∧ k ≤ vs.length ∧ LW G F1 sl sb E bn ((numbered xs).drop k) σ H, ⟨vs.length, by simp, Nat.zero_le _, start xs q1⟩, ?_⟩
      rintro k m σ' H' ⟨rfl, hk, w⟩
      have hsq : SqL X.K H' a vs := by
        obtain ⟨t, F', e', A', _⟩ := id w
        rw [← hK]
        exact RL.sq A'.ok (r.ex e')
      by_cases hlt : k < vs.length
      · refine .inr ⟨⟨vs, vs[k], hsq, by simp [hlt]⟩, LW G F1 sl sb E bn ((numbered xs).drop (k + 1)), fun σ2 H2 w2 => ⟨vs.length - (k + 1), by omega, rfl, hlt, w2⟩, fun v H2 hy => ?_⟩
        obtain ⟨T, u, rfl, hT, rfl, hu⟩ := hy
        exact turn xs vs l k u T σ' H' (hu vs hsq) hT w
      · have ek : k = vs.length := by omega
        subst ek
        exact .inl ⟨⟨vs, hsq, Nat.le_refl _⟩, fin xs vs l σ' H' w⟩
    | _ => exact (show False from q1).elim

/-! ### things that a def changes in place -/
theorem ds_freeze {rest : List Stmt} {sl2 : τ → List Sl} {i : Nat} {ds : List D} {n : N (Fl τ β)} (hi : S[i]? = some (.own (.lst ds)) := by rfl) (h : PSs X rest (sV G (S.set i (.dat (.lst ds))) sl2 sb n)) : PSs X rest (sV G S sl2 sb n) :=
  PSs.imp h fun E σ H ⟨F, A, q⟩ => by
    obtain ⟨F', e, A'⟩ := A.freeze hi
    exact ⟨F', A', n.mono (fun f z => flP.ex G e z) (fun _ _ z => z) q⟩
/-- x = [] , to be filled -/
theorem ds_newL {i : Nat} {x : Str} {pos' pl : Pos} (hN : X.N.Nodup) (hi : X.N[i]? = some x := by rfl) (hx : Loc X.env.scope x := by first | exact Or.inl rfl | exact Or.inr rfl) (hs : swapsWith (.List [] pl) (some (.Name x pos')) pos.line X.env = pure false := by rfl)
    (hf : X.fn x = true ∨ X.env.scope.names.lookup x = some .local := by first | exact .inl rfl | exact .inr rfl) :
    PS X (.Assign [.Name x pos'] (.List [] pl) pos) (sV G S (fun _ : Unit => S.set i (.own (.lst []))) sb (.ok (.nx ()))) :=
  PS.imp (ps_set (i := i) hN hi hx (pe_lst pa_nil) hs hf) fun E σ H ⟨F, A, q⟩ => ⟨Nat.zero_le _, fun p hp => q F _ _ (Ex.refl F) (A.newOwn hp ⟨[], rfl, .nil⟩)⟩
/-- x.append(e) -/
theorem ds_app {i : Nat} {x : Str} {px pa pc : Pos} {ds : List D} (hi : S[i]? = some (.own (.lst ds))) (hN : X.N[i]? = some x) (ha : PE X a (eV G S na)) (hv : Vis X.env.scope x := by first | exact Or.inl rfl | exact Or.inr (Or.inl rfl) | exact Or.inr (Or.inr rfl))
    (hd : (x == ("__debug__" : Str)) = false := by decide) (he : starEach (a :: []) X.env = (false, eval a X.env) :: starEach [] X.env := by rfl) (hw : swapsWith (.Call (.Attribute (.Name x px) "append" pa) [a] [] pc) none pos.line X.env = pure false := by rfl)
    (hb : PE X (.Call (.Attribute (.Name x px) "append" pa) [a] [] pc) (tBM X.K "list" rAppend (tVar i) (tCons (eV G S na) tNil)) := by exact pe_bm PySem.F.plainAttrs_list PySem.F.slot_list_append PySem.F.type_list_append mt_append (pv _) (pa_cons (by assumption) pa_nil)) :
    PS X (.Expr (.Call (.Attribute (.Name x px) "append" pa) [a] [] pc) pos) (sV G S (fun d => S.set i (.own (.lst (ds ++ [d])))) sb (na.bind fun d => (N.asrt (ds.length < sizeLine)).bind fun _ => .ok (.nx d))) :=
  PS.imp (ps_expr hb hw) fun E σ H ⟨F, A, q⟩ => by
    obtain ⟨l, u, e, hu, nF, nB, vs, eu, r⟩ := A.sl i _ hi
    subst eu
    refine ⟨.ref l, e, .inl ⟨rfl, vs, SqL.of hu⟩, F, A, na.mono (fun d q1 v F1 H1 e1 r1 => ?_) (fun _ _ z => z) q⟩
    have A1 := A.go e1
    obtain ⟨hF1, hu1⟩ := ext_lst e1 nF hu
    obtain ⟨hz, q1⟩ := q1
    exact ⟨l, vs, v, rfl, rfl, hu1, by rw [r.length]; exact hz, q1 F1 σ _ e1.ex (A1.put hi e ⟨vs ++ [v], rfl, (r.ex e1.ex).append (.cons r1 .nil)⟩)⟩

/-! dicts with tuples of ints and texts as keys -/
def keyOf : D → Option Key
  | .int i => some (.inl i)
  | .str s => some (.inr s)
  | _ => none
def keysOf : List D → Option (List Key)
  | [] => some []
  | x :: xs => match keyOf x, keysOf xs with
    | some k, some ks => some (k :: ks)
    | _, _ => none
def keyD : Key → D
  | .inl i => .int i
  | .inr s => .str s
theorem keysOf_rp {Z : Zt} {F : Ty} : ∀ {vs : List V} {xs : List D} {ks : List Key}, RpL Z F vs xs → keysOf xs = some ks → vs = ks.map kV
  | _, _, _, .nil, h => by unfold keysOf at h; cases h; rfl
  | _, _, _, .cons (d := d) (ds := ds) r l, h => by
    unfold keysOf at h
    cases h1 : keyOf d with
    | none => rw [h1] at h; simp at h
    | some k =>
      cases h2 : keysOf ds with
      | none => rw [h1, h2] at h; simp at h
      | some ks =>
        rw [h1, h2] at h
        simp at h
        subst h
        rw [List.map_cons, ← keysOf_rp l h2]
        congr 1
        cases r <;> first | (simp [keyOf] at h1; done) | (simp [keyOf] at h1; subst h1; rfl)
theorem keyD_rp {Z : Zt} {F : Ty} : ∀ ks : List Key, RpL Z F (ks.map kV) (ks.map keyD)
  | [] => .nil
  | .inl i :: ks => .cons (.int i) (keyD_rp ks)
  | .inr s :: ks => .cons (.str s) (keyD_rp ks)
def dget {κ : Type} [DecidableEq κ] (kvs : List (κ × D)) (k : κ) : Option D := (kvs.find? fun kv => decide (kv.1 = k)).map (·.2)
def dput {κ : Type} [DecidableEq κ] (kvs : List (κ × D)) (k : κ) (v : D) : List (κ × D) :=
  if (kvs.any fun kv => decide (kv.1 = k)) = true then kvs.map (fun kv => if kv.1 = k then (kv.1, v) else kv) else kvs ++ [(k, v)]
section
variable {κ : Type} [DecidableEq κ] {Z : Zt} {F : Ty}
theorem rpkv_cons {p : κ × V} {q : κ × D} {vs : List (κ × V)} {ds : List (κ × D)} (h : RpKV Z F (p :: vs) (q :: ds)) : p.1 = q.1 ∧ Rp Z F p.2 q.2 ∧ RpKV Z F vs ds := by
  obtain ⟨h1, h2⟩ := h
  rw [List.map_cons, List.map_cons] at h1 h2
  cases h2 with
  | cons r l =>
    injection h1 with e1 e2
    exact ⟨e1, r, e2, l⟩
theorem rpkv_mk {p : κ × V} {q : κ × D} {vs : List (κ × V)} {ds : List (κ × D)} (e : p.1 = q.1) (r : Rp Z F p.2 q.2) (h : RpKV Z F vs ds) : RpKV Z F (p :: vs) (q :: ds) := by
  refine ⟨?_, .cons r h.2⟩
  rw [List.map_cons, List.map_cons, e, h.1]
theorem rpkv_nil : RpKV (κ := κ) Z F [] [] := ⟨rfl, .nil⟩
theorem rpkv_len {vs : List (κ × V)} {ds : List (κ × D)} (h : RpKV Z F vs ds) : vs.length = ds.length := by
  have := congrArg List.length h.1
  rwa [List.length_map, List.length_map] at this
theorem rpkv_get : ∀ {vs : List (κ × V)} {ds : List (κ × D)} (k : κ), RpKV Z F vs ds → (valV vs k = none ∧ dget ds k = none) ∨ ∃ v d, valV vs k = some v ∧ dget ds k = some d ∧ Rp Z F v d
  | [], [], k, _ => .inl ⟨rfl, rfl⟩
  | [], _ :: _, k, h => by have := rpkv_len h; simp at this
  | _ :: _, [], k, h => by have := rpkv_len h; simp at this
  | p :: vs, q :: ds, k, h => by
    obtain ⟨e, r, h'⟩ := rpkv_cons h
    by_cases hk : q.1 = k
    · refine .inr ⟨p.2, q.2, valV_pos (e.trans hk), ?_, r⟩
      unfold dget
      rw [List.find?_cons, decide_eq_true hk]
      rfl
    · have hd : dget (q :: ds) k = dget ds k := by
        unfold dget
        rw [List.find?_cons, decide_eq_false hk]
      rw [valV_neg (by rw [e]; exact hk), hd]
      exact rpkv_get k h'
theorem rpkv_any : ∀ {vs : List (κ × V)} {ds : List (κ × D)} (k : κ), RpKV Z F vs ds → (vs.any fun kv => decide (kv.1 = k)) = ds.any fun kv => decide (kv.1 = k)
  | [], [], k, _ => rfl
  | [], _ :: _, k, h => by have := rpkv_len h; simp at this
  | _ :: _, [], k, h => by have := rpkv_len h; simp at this
  | p :: vs, q :: ds, k, h => by
    obtain ⟨e, r, h'⟩ := rpkv_cons h
    rw [List.any_cons, List.any_cons, e, rpkv_any k h']
theorem rpkv_map {v : V} {d : D} (rv : Rp Z F v d) : ∀ {vs : List (κ × V)} {ds : List (κ × D)} (k : κ), RpKV Z F vs ds → RpKV Z F (vs.map fun kv => if kv.1 = k then (kv.1, v) else kv) (ds.map fun kv => if kv.1 = k then (kv.1, d) else kv)
  | [], [], k, _ => rpkv_nil
  | [], _ :: _, k, h => by have := rpkv_len h; simp at this
  | _ :: _, [], k, h => by have := rpkv_len h; simp at this
  | p :: vs, q :: ds, k, h => by
    obtain ⟨e, r, h'⟩ := rpkv_cons h
    rw [List.map_cons, List.map_cons]
    by_cases hk : q.1 = k
    · rw [if_pos hk, if_pos (e.trans hk)]
      exact rpkv_mk e rv (rpkv_map rv k h')
    · rw [if_neg hk, if_neg (by rw [e]; exact hk)]
      exact rpkv_mk e r (rpkv_map rv k h')
theorem rpkv_snoc {v : V} {d : D} {k : κ} (rv : Rp Z F v d) {vs : List (κ × V)} {ds : List (κ × D)} (h : RpKV Z F vs ds) : RpKV Z F (vs ++ [(k, v)]) (ds ++ [(k, d)]) := by
  refine ⟨?_, ?_⟩
  · rw [List.map_append, List.map_append, h.1]; rfl
  · rw [List.map_append, List.map_append]; exact h.2.append (.cons rv .nil)
theorem rpkv_put {v : V} {d : D} (k : κ) (rv : Rp Z F v d) {vs : List (κ × V)} {ds : List (κ × D)} (h : RpKV Z F vs ds) : RpKV Z F (putK vs k v) (dput ds k d) := by
  unfold putK dput
  rw [rpkv_any k h]
  split
  · exact rpkv_map rv k h
  · exact rpkv_snoc rv h
theorem rpkv_ex {F' : Ty} (e : Ex F F') {vs : List (κ × V)} {ds : List (κ × D)} (h : RpKV Z F vs ds) : RpKV Z F' vs ds := ⟨h.1, h.2.ex e⟩
end
/-- x = {}, its keys to be tuples -/
theorem ds_newT {i : Nat} {x : Str} {pos' pl : Pos} (hN : X.N.Nodup) (hi : X.N[i]? = some x := by rfl) (hx : Loc X.env.scope x := by first | exact Or.inl rfl | exact Or.inr rfl) (hs : swapsWith (.Dict [] [] pl) (some (.Name x pos')) pos.line X.env = pure false := by rfl)
    (hf : X.fn x = true ∨ X.env.scope.names.lookup x = some .local := by first | exact .inl rfl | exact .inr rfl) :
    PS X (.Assign [.Name x pos'] (.Dict [] [] pl) pos) (sV G S (fun _ : Unit => S.set i (.own (.dT []))) sb (.ok (.nx ()))) :=
  PS.imp (ps_set (i := i) hN hi hx pe_dnewT hs hf) fun E σ H ⟨F, A, q⟩ => fun p hp => q F _ _ (Ex.refl F) (A.newOwn hp ⟨[], rfl, rpkv_nil⟩)
/-- a datum as a tuple key -/
def tkey : D → N (List Key)
  | .tup xs => match keysOf xs with
    | some ks => .ok ks
    | none => .stuck
  | _ => .stuck
theorem ext_dT {F F2 : Ty} {H H2 : Hp} {l : Addr} {kvs : List (List Key × V)} (e : Ext F H F2 H2) (hF : F l = none) (hA : H l = some (.dT kvs)) : F2 l = none ∧ H2 l = some (.dT kvs) := by
  obtain ⟨h, n⟩ := e.kp _ _ hA hF
  rcases n with n | ⟨_, xs, z⟩
  · exact ⟨n, h⟩
  · cases z
theorem ext_dK {F F2 : Ty} {H H2 : Hp} {l : Addr} {kvs : List (Key × V)} (e : Ext F H F2 H2) (hF : F l = none) (hA : H l = some (.dK kvs)) : F2 l = none ∧ H2 l = some (.dK kvs) := by
  obtain ⟨h, n⟩ := e.kp _ _ hA hF
  rcases n with n | ⟨_, xs, z⟩
  · exact ⟨n, h⟩
  · cases z
/-- e in d -/
theorem dt_inT {i : Nat} {x : Str} {px : Pos} {kvs : List (List Key × D)} {k : Nat} (hr : Room k X.A) (hi : S[i]? = some (.own (.dT kvs))) (hN : X.N[i]? = some x) (ha : PE X a (eV G S na)) (hv : Vis X.env.scope x := by first | exact Or.inl rfl | exact Or.inr (Or.inl rfl) | exact Or.inr (Or.inr rfl))
    (hd : (x == ("__debug__" : Str)) = false := by decide) (hcd : (x == ("__classdict__" : Str)) = false := by decide) (hm : behindInMarks .In (.Name x px) = false := by rfl) : PT X (.Compare a [.In] [.Name x px] pos) (tV G S (na.bind fun d => (tkey d).bind fun ks => .ok (dget kvs ks).isSome)) :=
  PT.imp (pt_cmp (pc_din (hu_of hr) ha (pe_var (i := i) hN hv hd hcd)) hm) fun σ H Q ⟨F, A, q⟩ => ⟨F, A, na.mono (fun d q1 v F1 H1 e1 r1 => by
    obtain ⟨l, u, e, hu, nF, nB, vs, eu, r⟩ := A.sl i _ hi
    subst eu
    obtain ⟨_, hu1⟩ := ext_dT e1 nF hu
    refine ⟨.ref l, e, ?_⟩
    cases r1 with
    | tup rt lt =>
      rename_i b us xs
      unfold tkey at q1
      cases hk : keysOf xs with
      | none => simp only [hk] at q1; exact (show False from q1).elim
      | some ks =>
        simp only [hk] at q1
        have hb : H1 b = some (.tup (ks.map kV)) := by
          rw [← keysOf_rp lt hk]
          exact tup_of (A.go e1).ok rt
        refine ⟨l, valV vs ks, rfl, DGet.t hu1 hb, _, rfl, ?_⟩
        rcases rpkv_get ks r with ⟨h1, h2⟩ | ⟨v', d', h1, h2, _⟩
        · rw [h1]
          have := q1 F1 H1 e1
          rw [h2] at this
          exact this
        · rw [h1]
          have := q1 F1 H1 e1
          rw [h2] at this
          exact this
    | _ => exact (show False from q1).elim) (fun _ _ z => z) q⟩
/-- d[k] = e -/
theorem ds_putT {i : Nat} {x : Str} {px ps : Pos} {kvs : List (List Key × D)} {k : Nat} (hr : Room k X.A) (hi : S[i]? = some (.own (.dT kvs))) (hN : X.N[i]? = some x) (ha : PE X a (eV G S na)) (hb : PE X b (eV G S nb)) (hv : Vis X.env.scope x := by first | exact Or.inl rfl | exact Or.inr (Or.inl rfl) | exact Or.inr (Or.inr rfl))
    (hd : (x == ("__debug__" : Str)) = false := by decide) (hcd : (x == ("__classdict__" : Str)) = false := by decide) (hs : swapsWith b (some (.Subscript (.Name x px) a ps)) pos.line X.env = pure false := by rfl) :
    PS X (.Assign [.Subscript (.Name x px) a ps] b pos) (sV G S (fun t => S.set i (.own (.dT t))) sb (nb.bind fun v => na.bind fun d => (tkey d).bind fun ks => (N.asrt (kvs.length < sizeLine)).bind fun _ => .ok (.nx (dput kvs ks v)))) :=
  PS.imp (ps_dput (hu_of hr) (pe_var (i := i) hN hv hd hcd) ha hb hs) fun E σ H ⟨F, A, q⟩ => ⟨F, A, nb.mono (fun dv q1 v F1 H1 e1 r1 => by
    obtain ⟨l, u, e, hu, nF, nB, vs, eu, r⟩ := A.sl i _ hi
    subst eu
    have A1 := A.go e1
    refine ⟨.ref l, e, F1, A1, na.mono (fun dk q2 w F2 H2 e2 r2 => ?_) (fun _ _ z => z) q1⟩
    have A2 := A1.go e2
    obtain ⟨_, hu2⟩ := ext_dT (e1.trans e2) nF hu
    cases r2 with
    | tup rt lt =>
      rename_i b us xs
      unfold tkey at q2
      cases hk : keysOf xs with
      | none => simp only [hk] at q2; exact (show False from q2).elim
      | some ks =>
        simp only [hk] at q2
        obtain ⟨hz, q2⟩ := q2
        have hb : H2 b = some (.tup (ks.map kV)) := by
          rw [← keysOf_rp lt hk]
          exact tup_of A2.ok rt
        exact ⟨l, _, rfl, DPut.t hu2 hb (by rw [rpkv_len r]; exact hz), q2 F2 σ _ (e1.ex.trans e2.ex) (A2.put hi e ⟨_, rfl, rpkv_put ks (r1.ex e2.ex) (rpkv_ex (e1.ex.trans e2.ex) r)⟩)⟩
    | _ => exact (show False from q2).elim) (fun _ _ z => z) q⟩
/-- tuples that stand in the heap become known -/
theorem learn {Z : Zt} {H : Hp} : ∀ {kvs : List (List Key × V)} {bs : List Addr} {F : Ty}, Okk F H → IsKeys H kvs bs → ∃ F', Ext F H F' H ∧ RpL Z F' (bs.map V.ref) (kvs.map fun kv => .tup (kv.1.map keyD))
  | _, _, F, ok, .nil => ⟨F, Ext.refl ok, .nil⟩
  | _, _, F, ok, .cons (a := kv) (b := b) h t => by
    obtain ⟨F1, e1, l1⟩ := learn ok t
    cases q : F1 b with
    | some p =>
      obtain ⟨o, ho, po, ht⟩ := e1.ok _ _ q
      rw [h] at ho
      cases ho
      rw [ht ⟨_, rfl⟩] at q
      exact ⟨F1, e1, .cons (.tup q (keyD_rp _)) l1⟩
    | none =>
      have ex' : Ex F1 (updT F1 b (is (.tup (kv.1.map kV)))) := fun c p z => by
        by_cases hb : c = b
        · subst hb; rw [q] at z; cases z
        · rw [updT_ne hb]; exact z
      have e2 : Ext F1 H (updT F1 b (is (.tup (kv.1.map kV)))) H := by
        refine ⟨ex', fun c p z => ?_, fun c u z nb => ?_⟩
        · by_cases hb : c = b
          · subst hb; rw [updT_same] at z; cases z; exact ⟨_, h, rfl, fun _ => rfl⟩
          · rw [updT_ne hb] at z; exact e1.ok c p z
        · by_cases hb : c = b
          · subst hb
            rw [h] at z
            cases z
            exact ⟨h, .inr ⟨updT_same, _, rfl⟩⟩
          · rw [updT_ne hb]; exact ⟨z, .inl nb⟩
      exact ⟨_, e1.trans e2, .cons (.tup updT_same (keyD_rp _)) (l1.ex ex')⟩
/-- list(d) of such a dict -/
theorem de_listT {i : Nat} {x : Str} {px p : Pos} {kvs : List (List Key × D)} (hc : X.calm = true) (hm : X.mg "list" = none) (hi : S[i]? = some (.own (.dT kvs))) (hN : X.N[i]? = some x) (hg : Gl X "list" := by rfl) (hv : Vis X.env.scope x := by first | exact Or.inl rfl | exact Or.inr (Or.inl rfl) | exact Or.inr (Or.inr rfl))
    (hd : (x == ("__debug__" : Str)) = false := by decide) (hcd : (x == ("__classdict__" : Str)) = false := by decide) (he : starEach (.Name x px :: []) X.env = (false, eval (.Name x px) X.env) :: starEach [] X.env := by rfl) (hpl : (backTo pos (starEach [] X.env)).any (·.1) = false := by rfl) :
    PE X (.Call (.Name "list" p) [.Name x px] [] pos) (eV G S (.ok (.lst (kvs.map fun kv => .tup (kv.1.map keyD))))) :=
  PE.imp (pe_callTy (call_list_dT hc) hg hm (by decide +kernel) (pa_cons (pe_var (i := i) hN hv hd hcd) pa_nil he) (by decide) (by decide) he hpl) fun σ H Q ⟨F, A, q⟩ => by
    obtain ⟨l, u, e, hu, nF, nB, vs, eu, r⟩ := A.sl i _ hi
    subst eu
    refine ⟨.ref l, e, l, vs, rfl, .inl hu, fun p bs hp hk => ?_⟩
    obtain ⟨F', e1, l1⟩ := learn (Z := G.Z) A.ok hk
    have e2 : (vs.map fun kv => D.tup (kv.1.map keyD)) = kvs.map fun kv => D.tup (kv.1.map keyD) := by
      have h1 : (vs.map fun kv => D.tup (kv.1.map keyD)) = (vs.map (·.1)).map fun k => D.tup (k.map keyD) := by rw [List.map_map]; rfl
      have h2 : (kvs.map fun kv => D.tup (kv.1.map keyD)) = (kvs.map (·.1)).map fun k => D.tup (k.map keyD) := by rw [List.map_map]; rfl
      rw [h1, h2, r.1]
    rw [e2] at l1
    obtain ⟨e3, r3⟩ := new_lst e1.ok hp l1
    exact q _ _ _ (e1.trans e3) r3
end
end M

set_option Elab.async false
set_option linter.all false
set_option maxRecDepth 100000
set_option maxHeartbeats 2000000
namespace M
open PySem L2
/-! ### calls with defaults and keywords -/
section
variable {X : Cx} {G : Gx} {S : List Sl} {a b c e : Expr} {na nb : N D} {pos : Pos}
/-- a call's way to a def: np positional arguments, keywords ks; gD puts their data in the parameters' order, defaults among them -/
structure CalG (X : Cx) (G : Gx) (x : Str) (np : Nat) (ks : List Str) (gD : List D → List D → List D) (n : Nat) (m : List D → N D) : Prop where
  ex : ∃ (k : Nat) (f : Addr) (fd : FuncData) (ps : List Str) (g : List Value → List Value → List Value) (gV : List V → List V → List V), FnOk X.prog X.w X.K X.mg X.base (L2.CX X.prog X.w) k f fd ps (spN G.Z n m) ∧ Room k X.A ∧ X.mg x = some (.ref f) ∧ PySem.W.keepIn X.K (.ref f) = true ∧
    KBn X.K fd ps np ks g gV ∧ ∀ F vs ds zs es, RpL G.Z F vs ds → RpL G.Z F zs es → vs.length = np → zs.length = ks.length → RpL G.Z F (gV vs zs) (gD ds es)
  ar : Arity n m
theorem runG {np n : Nat} {ks : List Str} {m : List D → N D} {k : Nat} {f : Addr} {fd : FuncData} {ps : List Str} {g : List Value → List Value → List Value} {gV : List V → List V → List V}
    {pins : List (Addr × Obj)} {σ : St} {H : Hp} {s : Shared} {Q : VK} {us ws : List Value} {vs zs : List V} (F : FnOk X.prog X.w X.K X.mg X.base (L2.CX X.prog X.w) k f fd ps (spN G.Z n m)) (hr : Room k X.A) (hb : KBn X.K fd ps np ks g gV) (tk : Takes X G.W)
    (I : Inv X pins σ H s) (r : Vals vs us) (rz : Vals zs ws) (l1 : vs.length = np) (l2 : zs.length = ks.length) (h : spN G.Z n m (gV vs zs) H Q (WE G.W σ)) : wpAny (model X.prog X.w) X.A (call (.ref f) us (ks.zip ws)) (EP X pins σ Q) X.xe s := by
  have r2 := hb.rel r rz
  refine wpAny_call (codeAny_mono (F.run X.A X.stack s H ⟨us, ks.zip ws⟩ (g us ws) (gV vs zs) Q (WE G.W σ) hr I.env0 (hb.to s us ws I.kIn (r.length.symm.trans l1) (rz.length.symm.trans l2)) r2 h) fun r s' hq => ?_)
  cases r with
  | error e => exact passAt tk σ pins H s e s' I hq
  | ok fl =>
    cases fl with
    | ret u => exact I.after hq
    | next => exact False.elim hq
    | brk => exact False.elim hq
    | cont => exact False.elim hq
def N.lens (ds es : List D) (n m : Nat) : N Unit := N.asrt (ds.length = n ∧ es.length = m)
/-- f(e, ..), the rest by defaults -/
theorem de_callDf {x : Str} {np n : Nat} {gD : List D → List D → List D} {m : List D → N D} {p : Pos} {es : List Expr} {na : N (List D)} (C : CalG X G x np [] gD n m) (tk : Takes X G.W) (hw : Wk S G.Se)
    (ha : PA X (e :: es) (aV G S na)) (hg : Gl X x := by rfl) (hdb : (x == ("__debug__" : Str)) = false := by decide) (he : starEach (e :: es) X.env = (false, eval e X.env) :: starEach es X.env := by rfl) (hpl : (backTo pos (starEach es X.env)).any (·.1) = false := by rfl) :
    PE X (.Call (.Name x p) (e :: es) [] pos) (eV G S (na.bind fun ds => (N.asrt (ds.length = np)).bind fun _ => m (gD ds []))) := by
  obtain ⟨k, f, fd, ps, g, gV, Fn, hr, hm, hk, hb, hd⟩ := C.ex
  refine ⟨fun pins s σ H Q I ⟨F, A, q⟩ => ?_⟩
  refine wpAny_Call_Name_kw (ld_glob I hg hm ?_ hdb)
  refine PySem.W.callWith_K (h₀ := X.base) I.ok.mod.kin hk (thn (ha.run pos pins s σ H (fun vs H1 => vs.length = np ∧ spN G.Z n m (gV vs []) H1 Q (WE G.W σ)) I ⟨F, A, na.mono (fun ds q1 vs F1 H1 e1 r1 => ?_) (fun _ _ z => z) q⟩) fun us s1 ⟨vs, H1, I1, r, l1, q1⟩ => ⟨I1.kIn, ?_⟩) he hpl
  · exact ⟨r1.length.trans q1.1, call_post C.ar hw A e1 (hd F1 vs ds [] [] r1 .nil (r1.length.trans q1.1) rfl) q1.2⟩
  · exact runG (ws := []) (zs := []) Fn hr hb tk I1 r .nil l1 rfl q1
/-- f(k = e, ..) -/
theorem de_callKw0 {x : Str} {n : Nat} {ks : List Str} {gD : List D → List D → List D} {m : List D → N D} {p : Pos} {kws : List Keyword} {nk : N (List D)} (C : CalG X G x 0 ks gD n m) (tk : Takes X G.W) (hw : Wk S G.Se)
    (hkw : PK X kws (aV G S nk)) (hg : Gl X x := by rfl) (hdb : (x == ("__debug__" : Str)) = false := by decide) (hall : (backToKw pos (keywordEach kws X.env)).all (·.1.isSome) = true := by rfl) (hks : (backToKw pos (keywordEach kws X.env)).filterMap (·.1) = ks := by rfl)
    (hpl : ((backTo pos (starEach [] X.env)).any (·.1) || (backToKw pos (keywordEach kws X.env)).any (·.1.isNone)) = false := by rfl) :
    PE X (.Call (.Name x p) [] kws pos) (eV G S (nk.bind fun es => (N.asrt (es.length = ks.length)).bind fun _ => m (gD [] es))) := by
  obtain ⟨k, f, fd, ps, g, gV, Fn, hr, hm, hk, hb, hd⟩ := C.ex
  refine ⟨fun pins s σ H Q I ⟨F, A, q⟩ => ?_⟩
  refine wpAny_Call_Name_kw (ld_glob I hg hm ?_ hdb)
  refine PySem.W.callWith_KW0 (h₀ := X.base) I.ok.mod.kin hk hall (thn (hkw.run pos pins s σ H (fun zs H1 => zs.length = ks.length ∧ spN G.Z n m (gV [] zs) H1 Q (WE G.W σ)) I ⟨F, A, nk.mono (fun es q1 vs F1 H1 e1 r1 => ?_) (fun _ _ z => z) q⟩) fun ws s1 ⟨zs, H1, I1, r, l1, q1⟩ => ⟨I1.kIn, ?_⟩) hpl
  · exact ⟨r1.length.trans q1.1, call_post C.ar hw A e1 (hd F1 [] [] vs es .nil r1 rfl (r1.length.trans q1.1)) q1.2⟩
  · rw [hks]
    exact runG (us := []) (vs := []) Fn hr hb tk I1 .nil r rfl l1 q1
end

/-! ### try -/
section
variable {X : Cx} {G : Gx} {S : List Sl} {τ β : Type} {sl : τ → List Sl} {sb : β → List Sl} {na nb : N D} {pos : Pos} {body : List Stmt}
/-- a clause by data: the class's number, the slot of its name, what the suite does with what the error keeps -/
structure Hd (τ β : Type) where
  ci : Nat
  i : Option Nat
  m : D → N (Fl τ β)
/-- which classes' errors a clause of a class takes (by numbers) -/
def handle {τ β : Type} (ex : Nat → Nat → Bool) (nE : Nat) (c : Nat) (x : D) : List (Hd τ β) → N (Fl τ β)
  | [] => (N.asrt (c < nE)).bind fun _ => .err c x
  | h :: hs => (N.asrt (c < nE)).bind fun _ => if ex c h.ci = true then N.ne (h.m x) else handle ex nE c x hs
/-- within a suite -/
def Gx.suite (G : Gx) (n : Nat) : Gx := { G with W := fun _ _ _ _ => False, Se := List.replicate n .un }
def clS (i : Option Nat) (a : Addr) (d : Option Addr) (f : String) (x : D) (S : List Sl) : List Sl := match i with
  | none => S
  | some i => S.set i (.exc a d f x)
theorem At.setExc {Z : Zt} {B : Bs} {F : Ty} {σ : St} {H : Hp} (h : At Z B S F σ H) {i : Nat} {a : Addr} {d : Option Addr} {f : String} {x : D} (he : ∃ dd v, d = some dd ∧ F dd = some (is (.xd [(PySem.Str.ofString f, v)])) ∧ Rp Z F v x) (hi : i < S.length) : At Z B (S.set i (.exc a d f x)) F (σ.set i (some (.ref a))) H := by
  have h1 := h.unset (i := i) (o := some (V.ref a))
  refine ⟨h1.ext, h1.fe, by rw [List.length_set, List.length_set]; exact h.len, fun j s q => ?_, fun j k l c c' q1 q2 => ?_⟩
  · by_cases z : i = j
    · subst z
      rw [List.getElem?_set_self hi] at q
      cases q
      rw [List.getElem?_set_self (by rw [h.len]; exact hi)]
      exact ⟨rfl, he⟩
    · rw [List.getElem?_set_ne z] at q
      exact h1.sl j s (by rw [List.getElem?_set_ne z]; exact q)
  · have nj : i ≠ j := fun z => by subst z; rw [List.getElem?_set_self hi] at q1; cases q1
    have nk : i ≠ k := fun z => by subst z; rw [List.getElem?_set_self hi] at q2; cases q2
    rw [List.getElem?_set_ne nj] at q1
    rw [List.getElem?_set_ne nk] at q2
    exact h1.dis j k l c c' (by rw [List.getElem?_set_ne nj]; exact q1) (by rw [List.getElem?_set_ne nk]; exact q2)
/-- e.f in a suite -/
theorem de_exc {Gs : Gx} {a : Addr} {oe : Obj} {cls : Value} {d : Option Addr} {pn : List (Addr × Obj)} {f : String} {i : Nat} {y x : Str} {p : Pos} {dt : D} (hi : S[i]? = some (.exc a d f dt))
    (hT : ∀ C, cls = .ref C → ∃ nm fI, PySem.TErr.ETxt X.K X.mg nm f C fI) (hc : ∃ C, cls = .ref C) (hz : Zc cls d oe) (hf : ∃ vs, oe.data = .fields vs) (hN : (X.suite a ((a, oe) :: pn)).N[i]? = some y) (hx : x = PySem.Str.ofString f := by rfl)
    (hv : Vis (X.suite a ((a, oe) :: pn)).env.scope y := by first | exact Or.inl rfl | exact Or.inr (Or.inl rfl) | exact Or.inr (Or.inr rfl)) (hd : (y == ("__debug__" : Str)) = false := by decide) (hcd : (y == ("__classdict__" : Str)) = false := by decide)
    (hb : attributeBase (.Name y p) x X.env (eval (.Name y p) X.env) = eval (.Name y p) X.env := by rfl) : PE (X.suite a ((a, oe) :: pn)) (.Attribute (.Name y p) x pos) (eV Gs S (.ok dt)) :=
  PE.imp (pe_getE hT hz hf (pe_var (i := i) hN hv hd hcd) hx hb) fun σ H Q ⟨F, A, q⟩ => by
    obtain ⟨e, dd, v, h1, h2, r⟩ := A.sl i _ hi
    obtain ⟨C, hC⟩ := hc
    exact ⟨.ref a, e, rfl, C, dd, v, hC, h1, tup_of A.ok h2, q v F H (Ext.refl A.ok) r⟩
/-- the suites of a try's clauses -/
inductive Cls (X : Cx) (G : Gx) (ex : Nat → Nat → Bool) (nE : Nat) (Sh : List Sl) (sl : τ → List Sl) (sb : β → List Sl) : List ExceptHandler → List (Hd τ β) → List Cl → Prop
  | nil : Cls X G ex nE Sh sl sb [] [] []
  | cons {x : Str} {n : Option Str} {h : Hd τ β} {b₀ : Stmt} {suite : List Stmt} {np pos' : Pos} {hds : List ExceptHandler} {hs : List (Hd τ β)} {cs : List Cl} (hc : Names X x (.ref (G.Z.cs h.ci))) (hn : ClName X n h.i) (hi : ∀ i, h.i = some i → i < Sh.length)
      (hx : ∀ c, c < nE → PySem.W.exmOne X.K (.ref (G.Z.cs c)) (.ref (G.Z.cs h.ci)) = some (ex c h.ci))
      (hsu : ∀ (a : Addr) (oe : Obj) (c : Nat) (d : Option Addr) (pn : List (Addr × Obj)) (dt : D), c < nE → ex c h.ci = true → Zc (.ref (G.Z.cs c)) d oe → (∃ vs, oe.data = .fields vs) → PSs (X.suite a ((a, oe) :: pn)) (b₀ :: suite) (sV (G.suite Sh.length) (clS h.i a d (G.Z.fs c) dt Sh) sl sb (h.m dt)))
      (hw : ∀ i t, h.i = some i → (sl t).set i .un = sl t) (hwb : ∀ i t, h.i = some i → (sb t).set i .un = sb t)
      (r : Cls X G ex nE Sh sl sb hds hs cs) :
      Cls X G ex nE Sh sl sb (.ExceptHandler (some (.Name x np)) n (b₀ :: suite) pos' :: hds) (h :: hs)
        ({ c := .ref (G.Z.cs h.ci), i := h.i, ts := fun a cls d E σ H => ∃ (c : Nat) (dt : D), c < nE ∧ ex c h.ci = true ∧ cls = .ref (G.Z.cs c) ∧ sV (G.suite Sh.length) (clS h.i a d (G.Z.fs c) dt Sh) sl sb (h.m dt) E σ H } :: cs)
theorem Cls.ok {ex : Nat → Nat → Bool} {nE : Nat} {Sh : List Sl} {hds : List ExceptHandler} {hs : List (Hd τ β)} {cs : List Cl} (h : Cls X G ex nE Sh sl sb hds hs cs) : ClsOk X hds cs := by
  induction h with
  | nil => exact .nil
  | cons hc hn hi hx hsu hw hwb r ih =>
    refine .cons hc hn (fun a oe cls d pn hz hf => ?_) ih
    refine ⟨fun pins s σ H E I ⟨c, dt, hc1, hc2, hcls, q⟩ => ?_⟩
    subst hcls
    exact (hsu a oe c d pn dt hc1 hc2 hz hf).run pins s σ H E I q
/-- the wish of the body's errors, from what the clauses do by data -/
theorem Cls.wish {ex : Nat → Nat → Bool} {nE : Nat} {Sh : List Sl} {hds : List ExceptHandler} {hs : List (Hd τ β)} {cs : List Cl} (h : Cls X G ex nE Sh sl sb hds hs cs) (hK : G.Z.K = X.K) (hsw : Wk Sh G.Se) {F0 : Ty} {E : Ends} {c : Nat} {dt : D} {cls : Value} {dd : Option Addr} {F : Ty} {σ : St} {H : Hp}
    (e0 : Ex F0 F) (A : At G.Z G.B Sh F σ H) (er : ErrIs G.Z F c dt cls dd) (q : (handle ex nE c dt hs).wp (flP G F0 sl sb E) G.Er) : wCl X.K G.W E cs cls dd σ H := by
  induction h with
  | nil => exact q.2 cls dd F σ H (A.weak hsw) er
  | @cons x n h b₀ suite np pos' hds hs cs hc hn hi hx hsu hw hwb r ih =>
    obtain ⟨hlt, q⟩ := q
    obtain ⟨hcls, d, v, hdd, hF, rv⟩ := er
    subst hcls
    refine ⟨ex c h.ci, hx c hlt, fun hy a ha => ?_, fun hno => ?_⟩
    · rw [if_pos hy] at q
      refine ⟨c, dt, hlt, hy, rfl, F, ?_, ?_⟩
      · cases hi' : h.i with
        | none => exact A
        | some i =>
          show At G.Z G.B (Sh.set i (.exc a dd (G.Z.fs c) dt)) F (σ.set i (some (.ref a))) H
          exact A.setExc ⟨d, v, hdd, hF, rv⟩ (hi i hi')
      · refine (h.m dt).mono (fun f z => ?_) (fun c' x' z => ?_) q
        · have z := flP.ex G e0 z
          cases hi' : h.i with
          | none => exact z
          | some i =>
            cases f with
            | nx t => exact fun F' σ' H' e' A' => z F' _ H' e' (by have := A'.unset (i := i) (o := none); rw [hw i t hi'] at this; exact this)
            | bk t => exact fun F' σ' H' e' A' => z F' _ H' e' (by have := A'.unset (i := i) (o := none); rw [hwb i t hi'] at this; exact this)
            | ct t => exact fun F' σ' H' e' A' => z F' _ H' e' (by have := A'.unset (i := i) (o := none); rw [hwb i t hi'] at this; exact this)
            | rt d => exact z
        · exact z.elim
    · rw [if_neg (by rw [hno]; decide)] at q
      exact ih q
theorem At.base {Z : Zt} {B : Bs} {F F0 : Ty} {σ : St} {H : Hp} (h : At Z B S F σ H) (e : Ex F0 F) : At Z { B with Fe := F0 } S F σ H := ⟨h.ext, e, h.len, h.sl, h.dis⟩
theorem At.unbase {Z : Zt} {B : Bs} {F F0 : Ty} {σ : St} {H : Hp} (h : At Z { B with Fe := F0 } S F σ H) (e : Ex B.Fe F0) : At Z B S F σ H := ⟨h.ext, e.trans h.fe, h.len, h.sl, h.dis⟩
/-- within a try's body: what is wished of errors is W's, the slots then are Sh -/
def Gx.tr (G : Gx) (W : WX) (Sh : List Sl) (F0 : Ty) : Gx := { G with W := W, Se := Sh, B := { G.B with Fe := F0 } }
theorem ds_try {ex : Nat → Nat → Bool} {nE : Nat} {Sh : List Sl} {h₀ : ExceptHandler} {hds : List ExceptHandler} {hs : List (Hd τ β)} {cs : List Cl} {n : N (Fl τ β)} (hst : X.stack = X.env :: X.outer) (hf : X.env.frame = some X.env.locals) (hN : X.N.Nodup) (tk : Takes X G.W) (hK : G.Z.K = X.K)
    (hsw : Wk Sh G.Se) (hh : Cls X G ex nE Sh sl sb (h₀ :: hds) hs cs)
    (hb : ∀ (F0 : Ty) (W : WX) (pn : List (Addr × Obj)) (xe : Value → Shared → Prop), Takes (X.tr pn xe) W → PassesOwn (model X.prog X.w) X.A X.env xe → PSs (X.tr pn xe) body (sV (G.tr W Sh F0) S sl sb n)) :
    PS X (.Try body (h₀ :: hds) [] [] pos) (sV G S sl sb (n.tryC fun c x => handle ex nE c x hs)) := by
  refine PS.imp (ps_try_cls (tb := fun W E σ H => ∃ F0, sV (G.tr W Sh F0) S sl sb n E σ H) hst hf hN tk (fun W pn xe t p => PSs.ex fun F0 => hb F0 W pn xe t p) hh.ok) fun E σ H ⟨F, A, q⟩ => ?_
  refine ⟨F, F, A.base (Ex.refl F), n.mono (fun f z => ?_) (fun c x z => ?_) q⟩
  · cases f with
    | nx t => exact fun F' σ' H' e A' => z F' σ' H' e (A'.unbase A.fe)
    | bk t => exact fun F' σ' H' e A' => z F' σ' H' e (A'.unbase A.fe)
    | ct t => exact fun F' σ' H' e A' => z F' σ' H' e (A'.unbase A.fe)
    | rt d => exact z
  · intro cls dd F' σ' H' A' er
    exact hh.wish hK hsw A'.fe (A'.unbase A.fe) er z
end
end M

set_option Elab.async false
set_option linter.all false
set_option maxRecDepth 100000
set_option maxHeartbeats 2000000
namespace M
open PySem L2
section
variable {X : Cx} {G : Gx} {S : List Sl} {τ β : Type} {sl : τ → List Sl} {sb : β → List Sl} {a b c e : Expr} {na nb nc : N D} {pos : Pos}
def dNeg : D → N D
  | .int i => .ok (.int (-i))
  | _ => .stuck
theorem dNeg_tot (x : D) : Tot (dNeg x) := by
  unfold dNeg
  split <;> first | exact Tot.ok _ | exact Tot.stuck
theorem de_neg (ha : PE X a (eV G S na)) : PE X (.UnaryOp .USub a pos) (eV G S (na.bind dNeg)) := de_un un_neg (fun F H x v Q ok r q => by
  cases x with
  | int i => exact ⟨i, rp_int r, q _ F H (Ext.refl ok) (.int _)⟩
  | _ => exact (show False from q).elim) dNeg_tot ha
/-- x in t, at any depth -/
def pIn (x y : D) : N Bool := match toPy x, items y with
  | some p, some ys => match toPys ys with
    | some ps => (N.asrt (SeqAt.shaped p = true ∧ SeqAt.shaped (.list ps) = true)).bind fun _ => .ok (ps.any fun z => PyData.eqv z p)
    | none => .stuck
  | _, _ => .stuck
theorem pIn_tot (x y : D) : Tot (pIn x y) := by
  unfold pIn
  split
  · split
    · exact (Tot.asrt _).bind fun _ => Tot.ok _
    · exact Tot.stuck
  · exact Tot.stuck
def dInD (x y : D) : N D := (pIn x y).bind fun b => .ok (.bl b)
def dNotInD (x y : D) : N D := (pIn x y).bind fun b => .ok (.bl (!b))
theorem dInD_tot (x y : D) : Tot (dInD x y) := (pIn_tot x y).bind fun _ => Tot.ok _
theorem dNotInD_tot (x y : D) : Tot (dNotInD x y) := (pIn_tot x y).bind fun _ => Tot.ok _
def rInDD (K : PySem.W.Frag) (neg : Bool) : R2 := fun x y H Q => ∃ d ds, Dp K H x d ∧ (Dp K H y (.list ds) ∨ Dp K H y (.tuple ds)) ∧ SeqAt.shaped d = true ∧ SeqAt.shaped (.list ds) = true ∧ Q (.bl (if neg then !ds.any fun z => PyData.eqv z d else ds.any fun z => PyData.eqv z d)) H
theorem shaped_tuple {ds : List PyData} (h : SeqAt.shaped (.list ds) = true) : PyData.canLayAll0 ds = true := SeqAt.canLay_of_shaped h
theorem op_inDD {k : Nat} (hr : Room k X.A) (hu : X.A.units + 65 < cLine) : OpR X (compareOp .In) (rInDD X.K false) := by
  intro pins s σ H x y v u Q I rx ry h
  obtain ⟨d, ds, hd, he, sd, se, q⟩ := h
  obtain ⟨as, r1⟩ := Dp.reads I d x v hd rx
  rcases he with he | he
  · obtain ⟨bs, r2⟩ := Dp.reads I (.list ds) y u he ry
    exact SeqAt.in_list_reads r2 r1 (SeqAt.canLay_of_shaped se) (SeqAt.canLay_of_shaped sd) (PyProof.Rows.room_in_shaped sd hu) ⟨.bl _, H, I, rfl, q⟩
  · obtain ⟨bs, r2⟩ := Dp.reads I (.tuple ds) y u he ry
    exact SeqAt.in_tuple_reads r2 r1 (shaped_tuple se) (SeqAt.canLay_of_shaped sd) (PyProof.Rows.room_in_shaped sd hu) ⟨.bl _, H, I, rfl, q⟩
theorem op_notInDD {k : Nat} (hr : Room k X.A) (hu : X.A.units + 65 < cLine) : OpR X (compareOp .NotIn) (rInDD X.K true) := by
  intro pins s σ H x y v u Q I rx ry h
  obtain ⟨d, ds, hd, he, sd, se, q⟩ := h
  obtain ⟨as, r1⟩ := Dp.reads I d x v hd rx
  rcases he with he | he
  · obtain ⟨bs, r2⟩ := Dp.reads I (.list ds) y u he ry
    exact SeqAt.notIn_list_reads r2 r1 (SeqAt.canLay_of_shaped se) (SeqAt.canLay_of_shaped sd) (PyProof.Rows.room_in_shaped sd hu) ⟨.bl _, H, I, rfl, q⟩
  · obtain ⟨bs, r2⟩ := Dp.reads I (.tuple ds) y u he ry
    exact SeqAt.notIn_tuple_reads r2 r1 (shaped_tuple se) (SeqAt.canLay_of_shaped sd) (PyProof.Rows.room_in_shaped sd hu) ⟨.bl _, H, I, rfl, q⟩
theorem in_data {F : Ty} {H : Hp} {v u : V} {x y : D} {Q : VK} {neg : Bool} (ok : Okk F H) (rx : Rp G.Z F v x) (ry : Rp G.Z F u y) (q : (pIn x y).wp (fun b => Q (.bl (if neg then !b else b)) H) (fun _ _ => False)) : rInDD G.Z.K neg v u H Q := by
  unfold pIn at q
  cases hx : toPy x with
  | none => simp only [hx] at q; exact q.elim
  | some p =>
    cases ry with
    | tup r l =>
      rename_i a vs ys
      cases hy : toPys ys with
      | none => simp only [hx, items, hy] at q; exact q.elim
      | some ps =>
        simp only [hx, items, hy] at q
        exact ⟨p, ps, dp_of ok rx hx, .inr (.tup (sqT_of ok r) (dps_of ok l hy)), q.1.1, q.1.2, by cases neg <;> exact q.2⟩
    | ktup r l =>
      rename_i a vs ys
      cases hy : toPys ys with
      | none => simp only [hx, items, hy] at q; exact q.elim
      | some ps =>
        simp only [hx, items, hy] at q
        exact ⟨p, ps, dp_of ok rx hx, .inr (.tup (.inr r) (dps_of ok l hy)), q.1.1, q.1.2, by cases neg <;> exact q.2⟩
    | lst r l =>
      rename_i a vs ys
      cases hy : toPys ys with
      | none => simp only [hx, items, hy] at q; exact q.elim
      | some ps =>
        simp only [hx, items, hy] at q
        exact ⟨p, ps, dp_of ok rx hx, .inl (.lst (RL.sq ok r) (dps_of ok l hy)), q.1.1, q.1.2, by cases neg <;> exact q.2⟩
    | _ => simp only [hx, items] at q; exact q.elim
theorem r2_InD : R2D G (rInDD G.Z.K false) dInD := fun F H x y v u Q ok rx ry q => in_data ok rx ry ((pIn x y).mono (fun b z => z _ F H (Ext.refl ok) (.bl _)) (fun _ _ z => z) q)
theorem r2_NotInD : R2D G (rInDD G.Z.K true) dNotInD := fun F H x y v u Q ok rx ry q => in_data ok rx ry ((pIn x y).mono (fun b z => z _ F H (Ext.refl ok) (.bl _)) (fun _ _ z => z) q)
theorem room65 {k : Nat} {A : Around} (h : Room k A) : A.units + 65 < cLine := by
  have := h.un
  omega
theorem de_inD {k : Nat} (hr : Room k X.A) (hK : G.Z.K = X.K) (ha : PE X a (eV G S na)) (hb : PE X b (eV G S nb)) (hm : behindInMarks .In b = false := by rfl) : PE X (.Compare a [.In] [b] pos) (eV G S (na.bind fun x => nb.bind fun y => dInD x y)) :=
  de_cmp (op_inDD hr (room65 hr)) (by rw [← hK]; exact r2_InD) dInD_tot ha hb hm
theorem de_notInD {k : Nat} (hr : Room k X.A) (hK : G.Z.K = X.K) (ha : PE X a (eV G S na)) (hb : PE X b (eV G S nb)) (hm : behindInMarks .NotIn b = false := by rfl) : PE X (.Compare a [.NotIn] [b] pos) (eV G S (na.bind fun x => nb.bind fun y => dNotInD x y)) :=
  de_cmp (op_notInDD hr (room65 hr)) (by rw [← hK]; exact r2_NotInD) dNotInD_tot ha hb hm

/-! a list that is still changed, read -/
theorem own_at {i : Nat} {ds : List D} {F : Ty} {σ : St} {H : Hp} (hi : S[i]? = some (.own (.lst ds))) (A : At G.Z G.B S F σ H) : ∃ l vs, σ[i]? = some (some (.ref l)) ∧ H l = some (.lst vs) ∧ F l = none ∧ RpL G.Z F vs ds := by
  obtain ⟨l, u, e, hu, nF, nB, vs, eu, r⟩ := A.sl i _ hi
  subst eu
  exact ⟨l, vs, e, hu, nF, r⟩
/-- e not in x -/
theorem de_notInO {i : Nat} {x : Str} {px : Pos} {ds : List D} {k : Nat} (hr : Room k X.A) (hK : G.Z.K = X.K) (hi : S[i]? = some (.own (.lst ds))) (hN : X.N[i]? = some x) (ha : PE X a (eV G S na)) (hv : Vis X.env.scope x := by first | exact Or.inl rfl | exact Or.inr (Or.inl rfl) | exact Or.inr (Or.inr rfl))
    (hd : (x == ("__debug__" : Str)) = false := by decide) (hcd : (x == ("__classdict__" : Str)) = false := by decide) (hm : behindInMarks .NotIn (.Name x px) = false := by rfl) : PE X (.Compare a [.NotIn] [.Name x px] pos) (eV G S (na.bind fun d => dNotInD d (.lst ds))) :=
  PE.imp (pe_cmpR (op_notInDD hr (room65 hr)) ha (pe_var (i := i) hN hv hd hcd) hm) fun σ H Q ⟨F, A, q⟩ => ⟨F, A, na.mono (fun d q1 v F1 H1 e1 r1 => by
    obtain ⟨l, vs, e, hu, nF, r⟩ := own_at hi A
    obtain ⟨hF1, hu1⟩ := ext_lst e1 nF hu
    refine ⟨.ref l, e, ?_⟩
    have q1 : (pIn d (.lst ds)).wp (fun b => ∀ v F' H', Ext F H F' H' → Rp G.Z F' v (.bl (!b)) → Q v H') G.Er := q1
    rw [← hK]
    unfold pIn at q1
    cases hx : toPy d with
    | none => simp only [hx] at q1; exact q1.elim
    | some p =>
      cases hy : toPys ds with
      | none => simp only [hx, items, hy] at q1; exact q1.elim
      | some ps =>
        simp only [hx, items, hy] at q1
        exact ⟨p, ps, dp_of (A.go e1).ok r1 hx, .inl (.lst (SqL.of hu1) (dps_of (A.go e1).ok (r.ex e1.ex) hy)), q1.1.1, q1.1.2, q1.2 _ F1 H1 e1 (.bl _)⟩) (fun _ _ z => z) q⟩
/-- tuple(x) -/
theorem de_tupleO {i : Nat} {x : Str} {px p : Pos} {ds : List D} (hm : X.mg "tuple" = none) (hi : S[i]? = some (.own (.lst ds))) (hN : X.N[i]? = some x) (hg : Gl X "tuple" := by rfl) (hv : Vis X.env.scope x := by first | exact Or.inl rfl | exact Or.inr (Or.inl rfl) | exact Or.inr (Or.inr rfl))
    (hd : (x == ("__debug__" : Str)) = false := by decide) (hcd : (x == ("__classdict__" : Str)) = false := by decide) (he : starEach (.Name x px :: []) X.env = (false, eval (.Name x px) X.env) :: starEach [] X.env := by rfl) (hpl : (backTo pos (starEach [] X.env)).any (·.1) = false := by rfl) :
    PE X (.Call (.Name "tuple" p) [.Name x px] [] pos) (eV G S (.ok (.tup ds))) :=
  PE.imp (pe_callTy call_tuple_of hg hm (by decide +kernel) (pa_cons (pe_var (i := i) hN hv hd hcd) pa_nil he) (by decide) (by decide) he hpl) fun σ H Q ⟨F, A, q⟩ => by
    obtain ⟨l, vs, e, hu, nF, r⟩ := own_at hi A
    refine ⟨.ref l, e, l, vs, rfl, .inl ⟨SqL.of hu, fun p hp => ?_⟩⟩
    obtain ⟨e2, r2⟩ := new_tup A.ok hp r
    exact q _ _ _ e2 r2
/-- x[e] -/
theorem de_ixO {i : Nat} {x : Str} {px : Pos} {ds : List D} (hi : S[i]? = some (.own (.lst ds))) (hN : X.N[i]? = some x) (hb : PE X b (eV G S nb)) (hs : PlainIx b := by exact fun _ _ => rfl) (hv : Vis X.env.scope x := by first | exact Or.inl rfl | exact Or.inr (Or.inl rfl) | exact Or.inr (Or.inr rfl))
    (hd : (x == ("__debug__" : Str)) = false := by decide) (hcd : (x == ("__classdict__" : Str)) = false := by decide) : PE X (.Subscript (.Name x px) b pos) (eV G S (nb.bind fun y => dIx (.lst ds) y)) :=
  PE.imp (pe_ix ix_list (pe_var (i := i) hN hv hd hcd) hb hs) fun σ H Q ⟨F, A, q⟩ => by
    obtain ⟨l, vs, e, hu, nF, r⟩ := own_at hi A
    refine ⟨.ref l, e, F, A, nb.mono (fun y q1 u F1 H1 e1 r1 => ?_) (fun _ _ z => z) q⟩
    obtain ⟨hF1, hu1⟩ := ext_lst e1 nF hu
    cases y with
    | int j =>
      have eu := rp_int r1
      subst eu
      unfold dIx at q1
      simp only [items] at q1
      cases hd : L2.atI ds j with
      | none => simp only [hd] at q1; exact (show False from q1).elim
      | some d =>
        simp only [hd] at q1
        obtain ⟨w, hw, rw'⟩ := (r.ex e1.ex).atI hd
        exact ⟨l, vs, j, w, rfl, rfl, SqL.of hu1, hw, q1 w F1 H1 e1 rw'⟩
    | _ => exact (show False from q1).elim

/-! several names at once -/
/-- a, b = e, [] : the second one a list to be filled -/
theorem ds_parL {i j : Nat} {x y : Str} {px py pt pl : Pos} {kt k2 pt2} (hc : X.calm = true) (hN : X.N.Nodup) (ha : PE X a (eV G S na)) (hi : X.N[i]? = some x) (hj : X.N[j]? = some y) (hij : i ≠ j)
    (hx : X.env.scope.names.lookup x = some .local) (hy : X.env.scope.names.lookup y = some .local) (hw : swappedStores [.Tuple [.Name x px, .Name y py] kt pt] (.Tuple [a, .List [] pl] k2 pt2) X.env = pure (some [x, y]))
    (hs : swapsWithSole [.Tuple [.Name x px, .Name y py] kt pt] (.Tuple [a, .List [] pl] k2 pt2) pos.line X.env = pure false := by rfl) (he : starEach (a :: .List [] pl :: []) X.env = (false, eval a X.env) :: starEach [.List [] pl] X.env := by rfl)
    (he2 : starEach (.List [] pl :: []) X.env = (false, eval (.List [] pl) X.env) :: starEach [] X.env := by rfl) :
    PS X (.Assign [.Tuple [.Name x px, .Name y py] kt pt] (.Tuple [a, .List [] pl] k2 pt2) pos) (sV G S (fun d => (S.set i (.dat d)).set j (.own (.lst []))) sb (na.bind fun d => .ok (.nx d))) :=
  PS.imp (ps_par hc hN hi hj hij hx hy (pa_cons ha (pa_cons (pe_lst pa_nil) pa_nil he2) he) hw hs) fun E σ H ⟨F, A, q⟩ => ⟨F, A, na.mono (fun d q1 v F1 H1 e1 r1 => ⟨Nat.zero_le _, fun p hp => ⟨v, .ref p, rfl, by
    have A1 := ((A.go e1).set (i := i) r1).newOwn (i := j) (c := .lst []) hp ⟨[], rfl, .nil⟩
    exact q1 F1 _ _ e1.ex A1⟩⟩) (fun _ _ z => z) q⟩
/-- a, b, c = e, e a tuple of three -/
def three (d : D) : N (D × D × D) := match d with
  | .tup [x, y, z] => .ok (x, y, z)
  | _ => .stuck
theorem ds_unp3 {i j l : Nat} {x y z : Str} {px py pz pt : Pos} {kt} (hc : X.calm = true) (hK : G.Z.K = X.K) (hN : X.N.Nodup) (ha : PE X a (eV G S na)) (hi : X.N[i]? = some x) (hj : X.N[j]? = some y) (hl : X.N[l]? = some z)
    (hx : Loc X.env.scope x) (hy : Loc X.env.scope y) (hz : Loc X.env.scope z) (hfx : X.fn x = true ∨ X.env.scope.names.lookup x = some .local := by first | exact .inl rfl | exact .inr rfl) (hfy : X.fn y = true ∨ X.env.scope.names.lookup y = some .local := by first | exact .inl rfl | exact .inr rfl) (hfz : X.fn z = true ∨ X.env.scope.names.lookup z = some .local := by first | exact .inl rfl | exact .inr rfl)
    (hs : swapsWithSole [.Tuple [.Name x px, .Name y py, .Name z pz] kt pt] a pos.line X.env = pure false := by rfl) (hw : swappedStores [.Tuple [.Name x px, .Name y py, .Name z pz] kt pt] a X.env = pure none := by rfl)
    (hn : (assignEach [.Name x px, .Name y py, .Name z pz] X.env).length = 3 := by rfl) (hst : (assignEach [.Name x px, .Name y py, .Name z pz] X.env).findIdx? (·.1) = none := by rfl) :
    PS X (.Assign [.Tuple [.Name x px, .Name y py, .Name z pz] kt pt] a pos) (sV G S (fun t : D × D × D => ((S.set i (.dat t.1)).set j (.dat t.2.1)).set l (.dat t.2.2)) sb (na.bind fun d => (three d).bind fun t => .ok (.nx t))) :=
  PS.imp (ps_asg ha (pg_tup (n := 3) hc (pgs_cons (pg_name (i := i) hN hi hx hfx) (pgs_cons (pg_name (i := j) hN hj hy hfy) (pgs_cons (pg_name (i := l) hN hl hz hfz) pgs_nil))) hn hst) hs hw) fun E σ H ⟨F, A, q⟩ => ⟨F, A, na.mono (fun d q1 v F1 H1 e1 r1 => by
    have q1 : (three d).wp (fun t => flP G F (fun t : D × D × D => ((S.set i (.dat t.1)).set j (.dat t.2.1)).set l (.dat t.2.2)) sb E (.nx t)) G.Er := q1
    unfold three at q1
    split at q1
    · rename_i d1 d2 d3
      cases r1 with
      | tup r l =>
        rename_i a vs
        have A1 := A.go e1
        cases l with
        | cons r1 l =>
          cases l with
          | cons r2 l =>
            cases l with
            | cons r3 l =>
              cases l
              exact ⟨a, _, rfl, by rw [← hK]; exact sqT_of A1.ok r, rfl, _, _, rfl, _, _, rfl, _, _, rfl, rfl, (show ∀ F' σ' H', Ex F F' → _ → _ from q1) F1 _ H1 e1.ex (((A1.set r1).set r2).set r3)⟩
    · exact (show False from q1).elim) (fun _ _ z => z) q⟩

/-! [e for x in range(a, b) if ..] -/
def N.span (d e : D) : N (List Int) := match d, e with
  | .int a, .int b => (N.asrt ((-(2 ^ 62) ≤ a ∧ a < 2 ^ 62 ∧ -(2 ^ 62) ≤ b ∧ b < 2 ^ 62) ∧ (b - a).toNat ≤ sizeLine)).bind fun _ => .ok ((List.range (b - a).toNat).map fun i => a + ((i : Nat) : Int))
  | _, _ => .stuck
def TT2 (G : Gx) (n : Nat) (S : List Sl) (j : Nat) (tn : Int → N Bool) : TT := fun σ H Q => ∃ y : Int, tV (G.in n) ((S.set j .un).set j (.dat (.int y))) (tn y) σ H Q
def TE2 (G : Gx) (n : Nat) (S : List Sl) (j : Nat) (fn : Int → N D) : TE := fun σ H Q => ∃ y : Int, eV (G.in n) ((S.set j .un).set j (.dat (.int y))) (fn y) σ H Q
section
variable {elt : Expr} {ifs : List Expr} {scope : Scope}
theorem lcR_run {j : Nat} {tn : Int → N Bool} {fn : Int → N D} {n : Nat} {σ : St} {H : Hp} {Q : VK} (q : eV G S (na.bind fun d => nb.bind fun e => (N.span d e).bind fun xs => (N.comp tn fn xs).bind fun ys => .ok (.lst ys)) σ H Q) :
    tLc (iRng2 (aV G S (na.bind fun d => nb.bind fun e => .ok [d, e]))) (gName j) (TT2 G n S j tn) (TE2 G n S j fn) [j] σ H Q := by
  obtain ⟨F, A, q⟩ := q
  refine ⟨F, A, na.mono (fun d q1 => nb.mono (fun e q2 vs F1 H1 e1 r1 => ?_) (fun _ _ z => z) q1) (fun _ _ z => z) q⟩
  have A1 := A.go e1
  replace q2 : (N.span d e).wp (fun xs => (N.comp tn fn xs).wp (KQ G F H Q) G.Er) G.Er := q2
  clear q1 q
  unfold N.span at q2
  split at q2
  · rename_i lo hi
    obtain ⟨⟨hb, hz⟩, q2⟩ := q2
    cases r1 with
    | cons ra l =>
      cases l with
      | cons rb l =>
        cases l
        rw [rp_int ra, rp_int rb]
        refine ⟨lo, hi, rfl, hb, fun Dl hD => ?_⟩
        have hlen : ((List.range (hi - lo).toNat).map fun i => lo + ((i : Nat) : Int)).length = (hi - lo).toNat := by rw [List.length_map, List.length_range]
        refine lc_range (lo := lo) (n := (hi - lo).toNat) (g := gName j) (tt := TT2 G n S j tn) (te := TE2 G n S j fn) (fun i => CW G F1 H1 Dl tn fn (KQ G F H Q) G.Er (hi - lo).toNat i (((List.range (hi - lo).toNat).map fun i => lo + ((i : Nat) : Int)).drop i)) ⟨F1, [], [], Ext.own A1.ok hD, A1.ok.none hD, upd_same, .nil, Nat.zero_le _, q2⟩ ?_ ?_
        · rintro i H' hlt ⟨F', av, ad, e', hF', hA', r', hl', q'⟩
          have hdr : ((List.range (hi - lo).toNat).map fun i => lo + ((i : Nat) : Int)).drop i = (lo + (i : Int)) :: ((List.range (hi - lo).toNat).map fun i => lo + ((i : Nat) : Int)).drop (i + 1) := by
            rw [List.drop_eq_getElem_cons (by rw [hlen]; exact hlt)]
            simp
          rw [hdr] at q'
          refine ⟨wipe1 σ j _, ?_⟩
          exact comp_turn (n := n) (K := KQ G F H Q) (tt := TT2 G n S j tn) (te := TE2 G n S j fn) (S' := (S.set j .un).set j (.dat (.int (lo + (i : Int))))) hD e' hF' hA' r' hl' hlt hz (((A1.go e').wipe [j]).set (.int _)) q' (fun H Q z => ⟨_, z⟩) (fun H Q z => ⟨_, z⟩)
        · intro H' h
          have hdr : ((List.range (hi - lo).toNat).map fun i => lo + ((i : Nat) : Int)).drop (hi - lo).toNat = [] := by
            apply List.drop_eq_nil_of_le
            rw [hlen]
            exact Nat.le_refl _
          rw [hdr] at h
          exact comp_end e1 hD h
  · exact (show False from q2).elim
/-- y = [elt for x in range(a, b) if ..] -/
theorem ds_lcR {i j : Nat} {x y : Str} {px py pr pc pos' : Pos} {tn : Int → N Bool} {fn : Int → N D} {n : Nat} (hc : X.calm = true) (hN : X.N.Nodup) (hm : X.mg "range" = none) (ha : PE X a (eV G S na)) (hb : PE X b (eV G S nb)) (hy : X.N[i]? = some y) (hyl : X.env.scope.names.lookup y = some .local) (hkind : X.env.scope.kind = .function) (hl : (py.line == pos'.line) = true)
    (hany : (scope.names.any fun (n, k) => n == y && (k == .local || k == .cell)) = false) (ok : BlkOk X.N X.env.scope scope [(x, j)])
    (hg : ∀ (s : Shared) (H : Hp) (C : Addr) (cl : List (Str × Addr)) (fp : List Addr), PG (X.blk s H scope (compEnvC scope cl C X.env) fp) (.Name x px) (gName j))
    (ht : ∀ (s : Shared) (H : Hp) (C : Addr) (cl : List (Str × Addr)) (fp : List Addr) (v : Int), PTs (X.blk s H scope (compEnvC scope cl C X.env) fp) ifs (tV (G.in n) ((S.set j .un).set j (.dat (.int v))) (tn v)))
    (he : ∀ (s : Shared) (H : Hp) (C : Addr) (cl : List (Str × Addr)) (fp : List Addr) (v : Int), PE (X.blk s H scope (compEnvC scope cl C X.env) fp) elt (eV (G.in n) ((S.set j .un).set j (.dat (.int v))) (fn v)))
    (hgr : Gl X "range" := by rfl) (hs : ∀ v, foldedSetIterable (.Call (.Name "range" pr) [a, b] [] pc) X.env v = pure v := by intro _; rfl) (h1 : starEach [a, b] X.env = [(false, eval a X.env), (false, eval b X.env)] := by rfl) (h2 : starEach [b] X.env = [(false, eval b X.env)] := by rfl) :
    PS X (.Assign [.Name y py] (.ListComp elt [⟨.Name x px, .Call (.Name "range" pr) [a, b] [] pc, ifs, 0⟩] scope pos') pos) (sV G S (fun d => S.set i (.dat d)) sb ((na.bind fun d => nb.bind fun e => (N.span d e).bind fun xs => (N.comp tn fn xs).bind fun ys => .ok (.lst ys)).bind fun d => .ok (.nx d))) :=
  PS.imp (ps_setLc (own := [(x, j)]) (g := gName j) (tt := TT2 G n S j tn) (te := TE2 G n S j fn) hc hN hy hyl (sw_true hkind hyl hl hany)
    (pi_range2 hgr hm (da_cons ha (da_cons hb da_nil h2) (by rw [h1, h2])) h1 h2) ok hg (fun s H C cl fp => PTs.ex fun v : Int => ht s H C cl fp v) (fun s H C cl fp => PE.ex fun v : Int => he s H C cl fp v) hs) fun E σ H ⟨F, A, q⟩ =>
      lcR_run (na := na) (nb := nb) (Q := fun v H' => E.nx (σ.set i (some v)) H') ⟨F, A, N.mono (na.bind fun d => nb.bind fun e => (N.span d e).bind fun xs => (N.comp tn fn xs).bind fun ys => .ok (D.lst ys))
        (k := fun d => flP G F (fun d => S.set i (.dat d)) sb E (.nx d)) (fun d z v F' H' e' r' => z F' _ H' e'.ex ((A.go e').set r')) (fun _ _ z => z) q⟩
end
end
end M

set_option Elab.async false
set_option linter.all false
set_option maxRecDepth 100000
set_option maxHeartbeats 2000000
namespace M
open PySem L2
section
variable {X : Cx} {G : Gx} {S : List Sl} {τ β : Type} {sl : τ → List Sl} {sb : β → List Sl} {a b c e : Expr} {na nb nc : N D} {pos : Pos}
def dAbs : D → N D
  | .int i => .ok (.int (if i < 0 then -i else i))
  | _ => .stuck
def dInt : D → N D
  | .int i => .ok (.int i)
  | .bl k => .ok (.int (if k then 1 else 0))
  | _ => .stuck
theorem dAbs_tot (x : D) : Tot (dAbs x) := by
  unfold dAbs
  split <;> first | exact Tot.ok _ | exact Tot.stuck
theorem dInt_tot (x : D) : Tot (dInt x) := by
  unfold dInt
  split <;> first | exact Tot.ok _ | exact Tot.stuck
theorem one_of {F : Ty} {vs : List V} {xs : List D} {o : D → N D} {Q : D → Prop} (l : RpL G.Z F vs xs) (q : (app1 o xs).wp Q (fun _ _ => False)) : ∃ v d, vs = [v] ∧ xs = [d] ∧ Rp G.Z F v d ∧ (o d).wp Q (fun _ _ => False) := by
  cases l with
  | nil => exact q.elim
  | cons r l2 =>
    cases l2 with
    | cons _ _ => exact q.elim
    | nil => exact ⟨_, _, rfl, rfl, r, q⟩
theorem de_abs {p : Pos} (hm : X.mg "abs" = none) (ha : PE X a (eV G S na)) (hg : Gl X "abs" := by rfl) (he : starEach (a :: []) X.env = (false, eval a X.env) :: starEach [] X.env := by rfl) (hpl : (backTo pos (starEach [] X.env)).any (·.1) = false := by rfl) :
    PE X (.Call (.Name "abs" p) [a] [] pos) (eV G S (na.bind dAbs)) := de_b1 call_abs (fun F H xs vs Q ok l q => by
  obtain ⟨v, d, rfl, rfl, r, q⟩ := one_of l q
  cases d with
  | int i => exact ⟨i, by rw [rp_int r], q _ F H (Ext.refl ok) (.int _)⟩
  | _ => exact (show False from q).elim) dAbs_tot hm (by decide +kernel) ha hg (by decide) (by decide) he hpl
theorem de_intC {p : Pos} (hm : X.mg "int" = none) (ha : PE X a (eV G S na)) (hg : Gl X "int" := by rfl) (he : starEach (a :: []) X.env = (false, eval a X.env) :: starEach [] X.env := by rfl) (hpl : (backTo pos (starEach [] X.env)).any (·.1) = false := by rfl) :
    PE X (.Call (.Name "int" p) [a] [] pos) (eV G S (na.bind dInt)) := de_t1 call_int1 (fun F H xs vs Q ok l q => by
  obtain ⟨v, d, rfl, rfl, r, q⟩ := one_of l q
  cases d with
  | int i => exact .inl ⟨i, by rw [rp_int r], q _ F H (Ext.refl ok) (.int _)⟩
  | bl i => exact .inr ⟨i, by rw [rp_bl r], q _ F H (Ext.refl ok) (.int _)⟩
  | _ => exact (show False from q).elim) dInt_tot hm (by decide +kernel) ha hg (by decide) (by decide) he hpl
/-- xs[lo:hi] of a list -/
def dSlL (d : D) (lo hi : Option Int) : N D := match d with
  | .lst xs => .ok (.lst (cutD xs lo hi))
  | _ => .stuck
theorem de_slL (hK : G.Z.K = X.K) {lo hi : Option Expr} {nl nh : N (Option Int)} {p2 : Pos} (ha : PE X a (eV G S na)) (hl : PO X lo (oV (G := G) (S := S) nl)) (hh : PO X hi (oV (G := G) (S := S) nh)) :
    PE X (.Subscript a (.Slice lo hi none p2) pos) (eV G S (na.bind fun d => nl.bind fun l => nh.bind fun h => dSlL d l h)) :=
  PE.imp (pe_slice sl_list ha hl hh) fun σ H Q ⟨F, A, q⟩ => ⟨F, A, na.mono (fun d q1 v F1 H1 e1 r1 => ⟨F1, A.go e1, nl.mono (fun lo q2 F2 H2 e2 => ⟨F2, (A.go e1).go e2, nh.mono (fun hi q3 F3 H3 e3 => by
    unfold dSlL at q3
    have ok3 := (((A.go e1).go e2).go e3).ok
    cases r1 with
    | lst r l =>
      rename_i a vs xs
      have l3 := l.ex (e2.ex.trans e3.ex)
      refine ⟨_, _, rfl, by rw [← hK]; exact RL.sq ok3 (r.ex (e2.ex.trans e3.ex)), fun p hp => ?_⟩
      have hcut : RpL G.Z F3 (cutV vs lo hi) (cutD xs lo hi) := by
        unfold cutV cutD
        rw [← l3.length]
        exact (l3.drop _).take _
      obtain ⟨e4, r4⟩ := new_lst ok3 hp hcut
      exact q3 _ _ _ (((e1.trans e2).trans e3).trans e4) r4
    | _ => exact (show False from q3).elim) (fun _ _ z => z) q2⟩) (fun _ _ z => z) q1⟩) (fun _ _ z => z) q⟩
theorem dt_chain {op op' : CmpOp} {r r' : R2} {o o' : D → D → N D} (ho : OpR X (compareOp op) r) (ho' : OpR X (compareOp op') r') (hr : R2D G r o) (ht : ∀ x y, Tot (o x y)) (hr' : R2D G r' o') (ht' : ∀ x y, Tot (o' x y))
    (ha : PE X a (eV G S na)) (hb : PE X b (eV G S nb)) (hc : PE X c (eV G S nc)) (h1 : lastMarks [op, op'] [b, c] = false := by rfl) :
    PT X (.Compare a [op, op'] [b, c] pos) (tV G S ((dChain o o' na nb nc).bind N.tst)) :=
  PT.imp (pt_chain ho ho' ha hb hc h1) fun σ H Q h => by
    have h := tst_run (na := dChain o o' na nb nc) h
    obtain ⟨F, A, q⟩ := h
    refine ⟨F, A, na.mono (fun x q1 v F1 H1 e1 r1 => ⟨F1, A.go e1, nb.mono (fun y q2 u F2 H2 e2 r2 => ?_) (fun _ _ z => z) q1⟩) (fun _ _ z => z) q⟩
    refine hr F2 H2 x y v u _ ((A.go e1).go e2).ok (r1.ex e2.ex) r2 ((o x y).mono (fun z q3 w F3 H3 e3 r3 => ?_) (fun _ _ z => z) (ht x y _ _ q2))
    cases z with
    | bl k =>
      refine ⟨k, rp_bl r3, ?_⟩
      cases k with
      | true =>
        refine ⟨F3, ((A.go e1).go e2).go e3, nc.mono (fun w q4 u2 F4 H4 e4 r4 => ?_) (fun _ _ z => z) q3⟩
        exact hr' F4 H4 y w u u2 _ ((((A.go e1).go e2).go e3).go e4).ok (r2.ex (e3.ex.trans e4.ex)) r4 ((o' y w).mono (fun d q5 w5 F5 H5 e5 r5 => q5 w5 F5 H5 ((((e1.trans e2).trans e3).trans e4).trans e5) r5) (fun _ _ z => z) (ht' y w _ _ q4))
      | false => exact q3 _ F3 H3 ((e1.trans e2).trans e3) (.bl false)
    | _ => exact (show False from q3).elim
/-- y = [elt for x in e if ..] -/
theorem ds_lcS {elt : Expr} {ifs : List Expr} {scope : Scope} {i j : Nat} {x y : Str} {px py pos' : Pos} {tn : D → N Bool} {fn : D → N D} {n : Nat} (hc : X.calm = true) (hK : G.Z.K = X.K) (hN : X.N.Nodup) (ha : PE X a (eV G S na)) (hy : X.N[i]? = some y) (hyl : X.env.scope.names.lookup y = some .local) (hkind : X.env.scope.kind = .function) (hl : (py.line == pos'.line) = true)
    (hany : (scope.names.any fun (n, k) => n == y && (k == .local || k == .cell)) = false) (ok : BlkOk X.N X.env.scope scope [(x, j)])
    (hg : ∀ (s : Shared) (H : Hp) (C : Addr) (cl : List (Str × Addr)) (fp : List Addr), PG (X.blk s H scope (compEnvC scope cl C X.env) fp) (.Name x px) (gName j))
    (ht : ∀ (s : Shared) (H : Hp) (C : Addr) (cl : List (Str × Addr)) (fp : List Addr) (v : D), PTs (X.blk s H scope (compEnvC scope cl C X.env) fp) ifs (tV (G.in n) ((S.set j .un).set j (.dat v)) (tn v)))
    (he : ∀ (s : Shared) (H : Hp) (C : Addr) (cl : List (Str × Addr)) (fp : List Addr) (v : D), PE (X.blk s H scope (compEnvC scope cl C X.env) fp) elt (eV (G.in n) ((S.set j .un).set j (.dat v)) (fn v)))
    (hs : ∀ v, foldedSetIterable a X.env v = pure v := by intro _; rfl) :
    PS X (.Assign [.Name y py] (.ListComp elt [⟨.Name x px, a, ifs, 0⟩] scope pos') pos) (sV G S (fun d => S.set i (.dat d)) sb ((na.bind fun d => (seqOf d).bind fun xs => (N.fits xs).bind fun _ => (N.comp tn fn xs).bind fun ys => .ok (.lst ys)).bind fun d => .ok (.nx d))) := by
  exact PS.imp (ps_setLc (own := [(x, j)]) (g := gName j) (tt := TT1 G n S j tn) (te := TE1 G n S j fn) hc hN hy hyl (sw_true hkind hyl hl hany) (pi_seq ha) ok hg (fun s H C cl fp => PTs.ex fun v : D => ht s H C cl fp v) (fun s H C cl fp => PE.ex fun v : D => he s H C cl fp v) hs) fun E σ H ⟨F, A, q⟩ =>
    lc_run (na := na) hK (Q := fun v H' => E.nx (σ.set i (some v)) H') ⟨F, A, N.mono (na.bind fun d => (seqOf d).bind fun xs => (N.fits xs).bind fun _ => (N.comp tn fn xs).bind fun ys => .ok (D.lst ys))
      (k := fun d => flP G F (fun d => S.set i (.dat d)) sb E (.nx d)) (fun d z v F' H' e' r' => z F' _ H' e'.ex ((A.go e').set r')) (fun _ _ z => z) q⟩
end
end M

set_option Elab.async false
set_option linter.all false
set_option maxRecDepth 100000
set_option maxHeartbeats 2000000
namespace M
open PySem L2
open PyProof.Rows (envOfC)
/-- a def in reach: it stands at some place, keeps its mirror's promise -/
structure Df (P : Program) (w : World) (Z : Zt) (mg : Str → Option Value) (base : Heap) (x : Str) (k n : Nat) (m : List D → N D) : Prop where
  ex : ∃ (f : Addr) (fd : FuncData) (ps : List Str), FnOk P w Z.K mg base (L2.CX P w) k f fd ps (spN Z n m) ∧ mg x = some (.ref f) ∧ PySem.W.keepIn Z.K (.ref f) = true ∧ Binds Z.K fd ps []
  ar : Arity n m
theorem Df.cal {X : Cx} {G : Gx} {P : Program} {w : World} {Z : Zt} {mg : Str → Option Value} {base : Heap} {x : Str} {k n : Nat} {m : List D → N D} (d : Df P w Z mg base x k n m) (hr : Room k X.A)
    (h1 : X.prog = P := by rfl) (h2 : X.w = w := by rfl) (h3 : X.K = Z.K := by rfl) (h4 : X.mg = mg := by rfl) (h5 : X.base = base := by rfl) (h6 : G.Z = Z := by rfl) : Cal X G x n m := by
  subst h1 h2 h4 h5 h6
  obtain ⟨f, fd, ps, h, hm, hk, hb⟩ := d.ex
  exact ⟨⟨k, f, fd, ps, by rw [h3]; exact h, hr, hm, by rw [h3]; exact hk, by rw [h3]; exact hb⟩, d.ar⟩
/-- the same, called with keywords or by defaults -/
structure DfG (P : Program) (w : World) (Z : Zt) (mg : Str → Option Value) (base : Heap) (x : Str) (k np : Nat) (ks : List Str) (gD : List D → List D → List D) (n : Nat) (m : List D → N D) : Prop where
  ex : ∃ (f : Addr) (fd : FuncData) (ps : List Str) (g : List Value → List Value → List Value) (gV : List V → List V → List V), FnOk P w Z.K mg base (L2.CX P w) k f fd ps (spN Z n m) ∧ mg x = some (.ref f) ∧ PySem.W.keepIn Z.K (.ref f) = true ∧
    KBn Z.K fd ps np ks g gV ∧ ∀ F vs ds zs es, RpL Z F vs ds → RpL Z F zs es → vs.length = np → zs.length = ks.length → RpL Z F (gV vs zs) (gD ds es)
  ar : Arity n m
theorem DfG.cal {X : Cx} {G : Gx} {P : Program} {w : World} {Z : Zt} {mg : Str → Option Value} {base : Heap} {x : Str} {k np n : Nat} {ks : List Str} {gD : List D → List D → List D} {m : List D → N D} (d : DfG P w Z mg base x k np ks gD n m) (hr : Room k X.A)
    (h1 : X.prog = P := by rfl) (h2 : X.w = w := by rfl) (h3 : X.K = Z.K := by rfl) (h4 : X.mg = mg := by rfl) (h5 : X.base = base := by rfl) (h6 : G.Z = Z := by rfl) : CalG X G x np ks gD n m := by
  subst h1 h2 h4 h5 h6
  obtain ⟨f, fd, ps, g, gV, h, hm, hk, hb, hd⟩ := d.ex
  exact ⟨⟨k, f, fd, ps, g, gV, by rw [h3]; exact h, hr, hm, by rw [h3]; exact hk, by rw [h3]; exact hb, hd⟩, d.ar⟩
section
variable {P : Program} {w : World} {mg : Str → Option Value} {base : Heap}
/-- a def by its body's derivation; its defaults are dvs -/
theorem fn_okD {Z : Zt} {x qual : Str} {st : Stmt} {f : Addr} {fd : FuncData} {Nn ps : List Str} {k : Nat} {m : List D → N D} {dvs : List V} (F : FunD Z.K x qual (defArgs st) (defBody st) (defScope st) dvs [] f fd) (S : FnScope Nn ps (defScope st)) (ar : Arity ps.length m)
    (hbody : ∀ (cdv : Value) (A : Around) (outer : List Env) (s : Shared) (H : Hp) (E : XK) (F0 : Ty) (ds : List D), Room k (A.deeper (envOfC qual (defScope st) s.heap.objs.size f cdv)) → Takes (cxOf (L2.CX P w) P w Z.K mg base Nn qual (defScope st) f cdv A outer s H E) (fun cls d _ H => E cls d H) → ds.length = ps.length →
      ∃ (τ β : Type) (sl : τ → List Sl) (sb : β → List Sl) (nn : N (Fl τ β)), PSs (cxOf (L2.CX P w) P w Z.K mg base Nn qual (defScope st) f cdv A outer s H E) (defBody st) (sV ⟨Z, ⟨F0, H, F0⟩, fun cls d _ H => E cls d H, List.replicate Nn.length .un⟩ (sls ds (Nn.length - ps.length)) sl sb nn) ∧ ∀ k e, (m ds).wp k e → nn.fin.wp k e) :
    FnOk P w Z.K mg base (L2.CX P w) (k + 1) f fd ps (spN Z ps.length m) := by
  refine F.ok S (fun vs H Q E h => h.1) (fun cdv A outer s H vs Q E hr h => ?_)
  obtain ⟨hl, F0, ds, ok0, r0, q0⟩ := h
  have hd : ds.length = ps.length := ar ds _ _ q0
  obtain ⟨τ, β, sl, sb, nn, hps, hq⟩ := hbody cdv A outer s H E F0 ds hr (takes_of rfl rfl rfl rfl) hd
  refine ⟨_, hps, ⟨F0, ?_, ?_⟩⟩
  · have := at_start (Z := Z) (Nn := Nn) ok0 r0
    rw [hl] at this
    exact this
  · have q1 := hq _ _ q0
    refine nn.mono (fun f q2 => ?_) (fun c x q2 => ?_) q1
    · cases f with
      | nx t => exact fun F σ H1 _ A => q2 .non F H1 A.ext .non
      | rt d => exact fun v F H1 e1 r1 => q2 v F H1 e1 r1
      | bk t => exact (show False from q2).elim
      | ct t => exact (show False from q2).elim
    · intro cls dd F σ H1 A er
      exact q2 cls dd F H1 A.ext er
/-- an exception leaves only where it is taken: bodies of defs pass what they own -/
theorem po_cx {K : PySem.W.Frag} {Nn : List Str} {qual : Str} {scope : Scope} {f : Addr} {cdv : Value} {A : Around} {outer : List Env} {s : Shared} {H : Hp} {E : XK} :
    PassesOwn (model P w) (cxOf (L2.CX P w) P w K mg base Nn qual scope f cdv A outer s H E).A (cxOf (L2.CX P w) P w K mg base Nn qual scope f cdv A outer s H E).env (cxOf (L2.CX P w) P w K mg base Nn qual scope f cdv A outer s H E).xe := PassesOwn.leaving
end
/-- a def without defaults, as it stands -/
theorem fund_mk {K : PySem.W.Frag} {x qual : Str} {st : Stmt} {f : Addr} {oc : Value} {od an : Option Addr} {osl : Array (Option Value)} {kV doc pm cdv ct : Value} (l : K.lookup f = some ⟨oc, od, .func (PySem.W.fnOf x qual (defArgs st) (defBody st) (defScope st) .none kV doc pm an cdv ct), osl⟩)
    (c : PySem.W.codeIn K cdv qual = true) (k : PySem.W.keepIn K (.ref f) = true) : FunD K x qual (defArgs st) (defBody st) (defScope st) [] [] f (PySem.W.fnOf x qual (defArgs st) (defBody st) (defScope st) .none kV doc pm an cdv ct) :=
  ⟨⟨oc, od, .none, kV, doc, pm, an, cdv, ct, osl, rfl, l, c, .inl ⟨rfl, rfl⟩, .inl rfl⟩, k⟩
/-- with one default -/
theorem fund_mk1 {K : PySem.W.Frag} {x qual : Str} {st : Stmt} {f T : Addr} {oc : Value} {od an : Option Addr} {osl : Array (Option Value)} {kV doc pm cdv ct u : Value} {o : Obj} {n : Nat} {d : V} (l : K.lookup f = some ⟨oc, od, .func (PySem.W.fnOf x qual (defArgs st) (defBody st) (defScope st) (.ref T) kV doc pm an cdv ct), osl⟩)
    (c : PySem.W.codeIn K cdv qual = true) (k : PySem.W.keepIn K (.ref f) = true) (lT : K.lookup T = some o) (hT : o.data = .seq #[u] n) (r : RelV d u) : FunD K x qual (defArgs st) (defBody st) (defScope st) [d] [] f (PySem.W.fnOf x qual (defArgs st) (defBody st) (defScope st) (.ref T) kV doc pm an cdv ct) :=
  ⟨⟨oc, od, .ref T, kV, doc, pm, an, cdv, ct, osl, rfl, l, c, .inr ⟨by simp, T, o, [u], n, rfl, lT, by rw [hT], .cons r .nil⟩, .inl rfl⟩, k⟩
theorem Wk.un' {S : List Sl} {n : Nat} (h : S.length = n) : Wk S (List.replicate n .un) := by subst h; exact wk_un S
end M

set_option Elab.async false
set_option linter.all false
set_option maxRecDepth 100000
set_option maxHeartbeats 2000000
namespace M
open PySem L2
/-! ### the box that is drawn from: cells, a number -/
def pCel (o : HO) : Prop := ∃ ks : List Int, o = .lst (ks.map V.int) ∧ ks.length ≤ sizeLine
def pBox (c : Addr) (o : HO) : Prop := ∃ x : Int, o = .lst [.ref c, .int x]
def DL (k : Nat) (F : Ty) (a : Addr) : Prop := match k with
  | 0 => ∃ c, c ≠ a ∧ F a = some (pBox c) ∧ F c = some pCel
  | 1 => F a = some pCel
  | _ => False
theorem DLm (k : Nat) (F F' : Ty) (a : Addr) (e : Ex F F') (h : DL k F a) : DL k F' a := by
  unfold DL at h ⊢
  match k, h with
  | 0, ⟨c, n, h1, h2⟩ => exact ⟨c, n, e _ _ h1, e _ _ h2⟩
  | 1, h => exact e _ _ h
section
variable {X : Cx} {G : Gx} {S : List Sl} {a b c e : Expr} {na nb nc : N D} {pos : Pos}
def intsD : List D → Option (List Int)
  | [] => some []
  | .int i :: xs => (intsD xs).map (i :: ·)
  | _ :: _ => none
theorem intsD_rp {Z : Zt} {F : Ty} : ∀ {vs : List V} {xs : List D} {ks : List Int}, RpL Z F vs xs → intsD xs = some ks → vs = ks.map V.int
  | _, _, _, .nil, h => by unfold intsD at h; cases h; rfl
  | _, _, _, .cons (d := d) (ds := ds) r l, h => by
    cases d with
    | int i =>
      unfold intsD at h
      cases q : intsD ds with
      | none => rw [q] at h; cases h
      | some ks =>
        rw [q] at h
        cases h
        rw [rp_int r, intsD_rp l q]
        rfl
    | _ => unfold intsD at h; cases h
def mkCells : D → N D
  | .lst xs => (N.asrt (xs.length ≤ sizeLine ∧ ∃ ks, intsD xs = some ks)).bind fun _ => .ok (.dl 1)
  | _ => .stuck
def mkDeal : D → D → N D
  | .dl 1, .int _ => .ok (.dl 0)
  | _, _ => .stuck
theorem de_cells {k : Nat} {p1 p2 p3 : Pos} (hz : G.Z.dl = DL) (hK : G.Z.K = X.K) (ha : PE X a (eV G S na)) : PE X (.Subscript a (.Slice none none (some (.UnaryOp .USub (.Constant (.int 1) k p1) p2)) p3) pos) (eV G S (na.bind mkCells)) :=
  PE.imp (pe_revL ha) fun σ H Q ⟨F, A, q⟩ => ⟨F, A, na.mono (fun d q1 v F1 H1 e1 r1 => by
    cases r1 with
    | lst r l =>
      rename_i a vs xs
      obtain ⟨⟨hl, ks, hk⟩, q1⟩ := q1
      have ok1 := (A.go e1).ok
      refine ⟨a, vs, rfl, by rw [← hK]; exact RL.sq ok1 r, fun p hp => ?_⟩
      have hv := intsD_rp l hk
      have e2 : Ext F1 H1 (updT F1 p pCel) (upd H1 p (.lst vs.reverse)) := Ext.new ok1 hp ⟨ks.reverse, by rw [hv, List.map_reverse], by
        rw [List.length_reverse]
        have := l.length
        rw [hv, List.length_map] at this
        omega⟩ (fun ⟨_, z⟩ => by cases z)
      refine q1 _ _ _ (e1.trans e2) (.dl ?_)
      rw [hz]
      exact updT_same
    | _ => exact (show False from q1).elim) (fun _ _ z => z) q⟩
theorem de_deal (hz : G.Z.dl = DL) (ha : PE X a (eV G S na)) (hb : PE X b (eV G S nb)) (h1 : starEach [a, b] X.env = (false, eval a X.env) :: starEach [b] X.env := by rfl) (h2 : starEach [b] X.env = (false, eval b X.env) :: starEach [] X.env := by rfl) :
    PE X (.List [a, b] pos) (eV G S (na.bind fun x => nb.bind fun y => mkDeal x y)) :=
  PE.imp (pe_lst (pa_cons ha (pa_cons hb pa_nil h2) h1)) fun σ H Q ⟨F, A, q⟩ => ⟨F, A, na.mono (fun x q1 v F1 H1 e1 r1 => ⟨F1, A.go e1, nb.mono (fun y q2 u F2 H2 e2 r2 => by
    have r1 := r1.ex e2.ex
    have ok2 := ((A.go e1).go e2).ok
    cases r1 with
    | dl hd =>
      rename_i c k
      match k, y, q2 with
      | 1, .int z, q2 =>
        cases r2
        rw [hz] at hd
        have hd : F2 c = some pCel := hd
        refine ⟨by show 2 ≤ sizeLine; decide, fun p hp => ?_⟩
        have e3 : Ext F2 H2 (updT F2 p (pBox c)) (upd H2 p (.lst [.ref c, .int z])) := Ext.new ok2 hp ⟨z, rfl⟩ (fun ⟨_, z⟩ => by cases z)
        refine q2 _ _ _ ((e1.trans e2).trans e3) (.dl ?_)
        rw [hz]
        have hn : c ≠ p := fun z => by
          rw [z, ok2.none hp] at hd
          cases hd
        exact ⟨c, hn, updT_same, e3.ex _ _ hd⟩
    | _ => exact (show False from q2).elim) (fun _ _ z => z) q1⟩) (fun _ _ z => z) q⟩
end
/-- a number that is drawn -/
def m_law_any (d : D) (b : D) : N D := match d, b with
  | .dl 0, .int n => (N.asrt (0 < n ∧ n < 1073741824)).bind fun _ => (N.any fun r : Int => 0 ≤ r ∧ r < n).bind fun r => .ok (.int r)
  | _, _ => .stuck
theorem Ext.put {F : Ty} {H H' : Hp} (h : Ext F H F H') {a : Addr} {p : HO → Prop} {o : HO} (hF : F a = some p) (hp : p o) (ht : (∃ xs, o = .tup xs) → p = is o) : Ext F H F (upd H' a o) := by
  refine ⟨Ex.refl F, fun b q e => ?_, fun b u e nb => ?_⟩
  · by_cases z : b = a
    · subst z; rw [hF] at e; cases e; exact ⟨o, upd_same, hp, ht⟩
    · rw [upd_ne z]; exact h.ok b q e
  · have z : b ≠ a := fun z => by subst z; rw [hF] at nb; cases nb
    rw [upd_ne z]; exact h.kp b u e nb
theorem dp_ints {K : PySem.W.Frag} {H : Hp} : ∀ ks : List Int, DpAll K H (ks.map V.int) (ks.map PyData.int)
  | [] => .nil
  | k :: ks => .cons (.int k) (dp_ints ks)
end M

set_option Elab.async false
set_option linter.all false
set_option maxRecDepth 100000
set_option maxHeartbeats 2000000
namespace M
open PySem L2
section
variable {X : Cx} {G : Gx} {S : List Sl} {a b c e : Expr} {na nb nc : N D} {pos : Pos}
theorem notInO_run {i : Nat} {ds : List D} (hK : G.Z.K = X.K) (hi : S[i]? = some (.own (.lst ds))) {σ : St} {H : Hp} {Q : VK} (h : eV G S (na.bind fun d => dNotInD d (.lst ds)) σ H Q) : tOp (rInDD X.K true) (eV G S na) (tVar i) σ H Q := by
  obtain ⟨F, A, q⟩ := h
  refine ⟨F, A, na.mono (fun d q1 v F1 H1 e1 r1 => ?_) (fun _ _ z => z) q⟩
  obtain ⟨l, vs, e, hu, nF, r⟩ := own_at hi A
  obtain ⟨hF1, hu1⟩ := ext_lst e1 nF hu
  refine ⟨.ref l, e, ?_⟩
  have q1 : (pIn d (.lst ds)).wp (fun b => ∀ v F' H', Ext F H F' H' → Rp G.Z F' v (.bl (!b)) → Q v H') G.Er := q1
  rw [← hK]
  unfold pIn at q1
  cases hx : toPy d with
  | none => simp only [hx] at q1; exact q1.elim
  | some p =>
    cases hy : toPys ds with
    | none => simp only [hx, items, hy] at q1; exact q1.elim
    | some ps =>
      simp only [hx, items, hy] at q1
      exact ⟨p, ps, dp_of (A.go e1).ok r1 hx, .inl (.lst (SqL.of hu1) (dps_of (A.go e1).ok (r.ex e1.ex) hy)), q1.1.1, q1.1.2, q1.2 _ F1 H1 e1 (.bl _)⟩
/-- e not in x, as a test -/
theorem dt_notInO {i : Nat} {x : Str} {px : Pos} {ds : List D} {k : Nat} (hr : Room k X.A) (hK : G.Z.K = X.K) (hi : S[i]? = some (.own (.lst ds))) (hN : X.N[i]? = some x) (ha : PE X a (eV G S na)) (hv : Vis X.env.scope x := by first | exact Or.inl rfl | exact Or.inr (Or.inl rfl) | exact Or.inr (Or.inr rfl))
    (hd : (x == ("__debug__" : Str)) = false := by decide) (hcd : (x == ("__classdict__" : Str)) = false := by decide) (hm : behindInMarks .NotIn (.Name x px) = false := by rfl) : PT X (.Compare a [.NotIn] [.Name x px] pos) (tV G S ((na.bind fun d => dNotInD d (.lst ds)).bind N.tst)) :=
  PT.imp (pt_cmpR (op_notInDD hr (room65 hr)) ha (pe_var (i := i) hN hv hd hcd) hm) fun σ H Q h => notInO_run hK hi (tst_run (na := na.bind fun d => dNotInD d (.lst ds)) h)
variable {τ β : Type} {sl : τ → List Sl} {sb : β → List Sl}
/-- x.append(e) -/
theorem ds_appX {i : Nat} {x : Str} {px pa pc : Pos} {ds : List D} (hi : S[i]? = some (.own (.lst ds))) (hN : X.N[i]? = some x) (ha : PE X a (eV G S na))
    (hw : swapsWith (.Call (.Attribute (.Name x px) "append" pa) [a] [] pc) none pos.line X.env = pure false := by rfl)
    (hb : ∀ t : TE, PE X a t → PE X (.Call (.Attribute (.Name x px) "append" pa) [a] [] pc) (tBM X.K "list" rAppend (tVar i) (tCons t tNil)) := by exact fun t h => pe_bm PySem.F.plainAttrs_list PySem.F.slot_list_append PySem.F.type_list_append mt_append (pv _) (pa_cons h pa_nil)) :
    PS X (.Expr (.Call (.Attribute (.Name x px) "append" pa) [a] [] pc) pos) (sV G S (fun d => S.set i (.own (.lst (ds ++ [d])))) sb (na.bind fun d => (N.asrt (ds.length < sizeLine)).bind fun _ => .ok (.nx d))) :=
  PS.imp (ps_expr (hb _ ha) hw) fun E σ H ⟨F, A, q⟩ => by
    obtain ⟨l, u, e, hu, nF, nB, vs, eu, r⟩ := A.sl i _ hi
    subst eu
    refine ⟨.ref l, e, .inl ⟨rfl, vs, SqL.of hu⟩, F, A, na.mono (fun d q1 v F1 H1 e1 r1 => ?_) (fun _ _ z => z) q⟩
    have A1 := A.go e1
    obtain ⟨hF1, hu1⟩ := ext_lst e1 nF hu
    obtain ⟨hz, q1⟩ := q1
    exact ⟨l, vs, v, rfl, rfl, hu1, by rw [r.length]; exact hz, q1 F1 σ _ e1.ex (A1.put hi e ⟨vs ++ [v], rfl, (r.ex e1.ex).append (.cons r1 .nil)⟩)⟩
end
end M

set_option Elab.async false
set_option linter.all false
set_option maxRecDepth 100000
set_option maxHeartbeats 2000000
namespace M
open PySem L2
section
variable {K : PySem.W.Frag} {x qual : Str} {params : Arguments} {body : List Stmt} {scope : Scope} {dvs : List V} {f : Addr} {fd : FuncData} {ps : List Str}
theorem bind_all (F : FunD K x qual params body scope [] [] f fd)
    (h : ∀ (kV doc pm : Value) (an : Option Addr) (cdv ct : Value) (us : List Value), us.length = ps.length → bindArgs (PySem.W.fnOf x qual params body scope .none kV doc pm an cdv ct) ⟨us, []⟩ = pure (ps.zip us)) : Binds K fd ps [] := F.bindsN h
/-- all is written though there are defaults -/
theorem bind_allD (F : FunD K x qual params body scope dvs [] f fd) (hd : dvs ≠ [])
    (h : ∀ (T : Addr) (kV doc pm : Value) (an : Option Addr) (cdv ct : Value) (us its : List Value), us.length = ps.length → its.length = dvs.length →
      ∃ k, bindArgs (PySem.W.fnOf x qual params body scope (.ref T) kV doc pm an cdv ct) ⟨us, []⟩ = seqItems? (.ref T) >>= k ∧ k (some its.toArray) = pure (ps.zip us)) : Binds K fd ps [] := by
  obtain ⟨ds, r, b⟩ := F.binds1 (ps := ps) ps.length dvs.length hd (by omega) (fun T kV doc pm an cdv ct us its h1 h2 => by
    obtain ⟨k, e1, e2⟩ := h T kV doc pm an cdv ct us its h1 h2
    refine ⟨k, e1, ?_⟩
    rw [e2, ← h2, List.drop_length, List.append_nil])
  rw [List.drop_length] at r
  cases r
  exact b
theorem kb_all (F : FunD K x qual params body scope [] [] f fd) (n : Nat) (ks : List Str)
    (h : ∀ (kV doc pm : Value) (an : Option Addr) (cdv ct : Value) (us ws : List Value), us.length = n → ws.length = ks.length → bindArgs (PySem.W.fnOf x qual params body scope .none kV doc pm an cdv ct) ⟨us, ks.zip ws⟩ = pure (ps.zip (us ++ ws))) :
    KBn K fd ps n ks (fun us ws => us ++ ws) (fun vs zs => vs ++ zs) := by
  obtain ⟨oc, od, dV, kV, doc, pm, an, cdv, ct, osl, rfl, lk, hcd, hD, hK⟩ := F.ex
  rcases hD with ⟨_, rfl⟩ | ⟨e, _⟩
  · exact ⟨fun s us ws _ l1 l2 => .of_eq (h kV doc pm an cdv ct us ws l1 l2), fun r1 r2 => r1.append r2⟩
  · exact absurd rfl e
/-- the defaults behind the first j fill up -/
theorem kb_def (F : FunD K x qual params body scope dvs [] f fd) (hd : dvs ≠ []) (n j : Nat) (ks : List Str)
    (h : ∀ (T : Addr) (kV doc pm : Value) (an : Option Addr) (cdv ct : Value) (us its ws : List Value), us.length = n → its.length = dvs.length → ws.length = ks.length →
      ∃ k, bindArgs (PySem.W.fnOf x qual params body scope (.ref T) kV doc pm an cdv ct) ⟨us, ks.zip ws⟩ = seqItems? (.ref T) >>= k ∧ k (some its.toArray) = pure (ps.zip (us ++ ws ++ its.drop j))) :
    ∃ its : List Value, KBn K fd ps n ks (fun us ws => us ++ ws ++ its.drop j) (fun vs zs => vs ++ zs ++ dvs.drop j) := by
  obtain ⟨oc, od, dV, kV, doc, pm, an, cdv, ct, osl, rfl, lk, hcd, hD, hK⟩ := F.ex
  rcases hD with ⟨e, _⟩ | ⟨_, T, o, its, m, rfl, lT, oT, rT⟩
  · exact absurd e hd
  · refine ⟨its, ⟨fun s us ws X l1 l2 => ?_, fun r1 r2 => (r1.append r2).append (rT.drop j)⟩⟩
    obtain ⟨k, e1, e2⟩ := h T kV doc pm an cdv ct us its ws l1 rT.length.symm l2
    refine BindsTo.of_looks fun M => ?_
    rw [e1]
    exact looks_items X lT oT (.of_pure e2)
theorem fund_mkN {st : Stmt} {oc : Value} {od an : Option Addr} {osl : Array (Option Value)} {kV doc pm cdv ct : Value} (l : K.lookup f = some ⟨oc, od, .func (PySem.W.fnOf x qual (defArgs st) (defBody st) (defScope st) .none kV doc pm an cdv ct), osl⟩)
    (c : PySem.W.codeIn K cdv qual = true) (k : PySem.W.keepIn K (.ref f) = true) : FunD K x qual (defArgs st) (defBody st) (defScope st) [] [] f (PySem.W.fnOf x qual (defArgs st) (defBody st) (defScope st) .none kV doc pm an cdv ct) := fund_mk l c k
theorem fund_mkR {st : Stmt} {T : Addr} {oc : Value} {od an : Option Addr} {osl : Array (Option Value)} {kV doc pm cdv ct u : Value} {o : Obj} {n : Nat} {d : V} (l : K.lookup f = some ⟨oc, od, .func (PySem.W.fnOf x qual (defArgs st) (defBody st) (defScope st) (.ref T) kV doc pm an cdv ct), osl⟩)
    (c : PySem.W.codeIn K cdv qual = true) (k : PySem.W.keepIn K (.ref f) = true) (lT : K.lookup T = some o) (hT : o.data = .seq #[u] n) (r : RelV d u) : FunD K x qual (defArgs st) (defBody st) (defScope st) [d] [] f (PySem.W.fnOf x qual (defArgs st) (defBody st) (defScope st) (.ref T) kV doc pm an cdv ct) := fund_mk1 l c k lT hT r
end
end M

set_option Elab.async false
set_option linter.all false
set_option maxRecDepth 100000
set_option maxHeartbeats 4000000
namespace M
open PySem L2
open PyProof.Rows (envOfC)
def topS (i : Nat) : Stmt := PySem.Challenge.pw_nobodymeets_k72_whole_letters_that_stay.main.body.getD i (.Pass ⟨0, 0, 0, 0⟩)
section
variable {P : Program} {w : World} {Z : Zt} {mg : Str → Option Value} {base : Heap} {cW iE : Addr}
abbrev s_law_any : Stmt := topS 19
abbrev N_law_any : List Str := ["_law_deal", "_law_bound", "_law_rest"]
theorem sc_law_any : FnScope N_law_any ["_law_deal", "_law_bound"] (defScope s_law_any) := ⟨rfl, rfl, rfl, by decide +kernel, rfl, by decide +kernel, by decide +kernel⟩
/-- where the box stands behind what was done -/
structure BoxAt (F : Ty) (H : Hp) (a c : Addr) (n : Int) (σ : St) (H' : Hp) : Prop where
  ext : Ext F H F H'
  s0 : σ[0]? = some (some (.ref a))
  s1 : σ[1]? = some (some (.int n))
  lt2 : 2 < σ.length
  bx : ∃ x, H' a = some (.lst [.ref c, .int x])
  cl : ∃ ks : List Int, H' c = some (.lst (ks.map V.int)) ∧ ks.length ≤ sizeLine
theorem BoxAt.of {F : Ty} {H H' : Hp} {a c : Addr} {n : Int} {σ : St} (e : Ext F H F H') (hA : F a = some (pBox c)) (hC : F c = some pCel) (s0 : σ[0]? = some (some (.ref a))) (s1 : σ[1]? = some (some (.int n))) (h2 : 2 < σ.length) : BoxAt F H a c n σ H' := by
  refine ⟨e, s0, s1, h2, ?_, ?_⟩
  · obtain ⟨o, h, ⟨x, rfl⟩, _⟩ := e.ok _ _ hA
    exact ⟨x, h⟩
  · obtain ⟨o, h, ⟨ks, rfl, hl⟩, _⟩ := e.ok _ _ hC
    exact ⟨ks, h, hl⟩
theorem run0 {K : PySem.W.Frag} {F : Ty} {H H' : Hp} {a c : Addr} {n : Int} {σ : St} {Q : VK} (B : BoxAt F H a c n σ H') (q : Q (.ref c) H') : tOp (rIx K) (tVar 0) (tC (.int 0)) σ H' Q := by
  obtain ⟨x, hx⟩ := B.bx
  exact ⟨_, B.s0, .inl ⟨a, _, 0, .ref c, rfl, rfl, SqL.of hx, rfl, q⟩⟩
/-- the cells that are left -/
def lnc (c : Addr) (H : Hp) : Nat := match H c with
  | some (.lst xs) => xs.length
  | _ => 0
theorem eqv_nil (ks : List Int) : PyData.eqv (.list (ks.map PyData.int)) (.list []) = decide (ks = []) := by
  cases ks with
  | nil => rfl
  | cons k ks => rfl
theorem canLay_ints : ∀ ks : List Int, PyData.canLayAll0 (ks.map PyData.int) = true
  | [] => rfl
  | k :: ks => by
    show (PyData.canLay0 (.int k) && PyData.canLayAll0 (ks.map PyData.int)) = true
    rw [canLay_ints ks]
    rfl
theorem depth_ints : ∀ ks : List Int, PyData.depthAll (ks.map PyData.int) = 0
  | [] => rfl
  | k :: ks => by
    show max (PyData.depth (.int k)) (PyData.depthAll (ks.map PyData.int)) = 0
    rw [depth_ints ks]
    rfl
theorem shaped_ints (ks : List Int) : SeqAt.shaped (.list (ks.map PyData.int)) = true := by
  show (PyData.canLayAll0 (ks.map PyData.int) && decide (PyData.depthAll (ks.map PyData.int) + 1 ≤ 64)) = true
  rw [canLay_ints, depth_ints]
  rfl
theorem atI_back {ks : List Int} (h : ks ≠ []) : atI (ks.map V.int) (-1) = some (.int (ks.getLast h)) := by
  have e : ks.map V.int = ks.dropLast.map V.int ++ [V.int (ks.getLast h)] := by
    rw [← List.map_singleton, ← List.map_append, List.dropLast_concat_getLast]
  rw [e]
  exact atI_last _ _
theorem test0 {K : PySem.W.Frag} {F : Ty} {H H' : Hp} {a c : Addr} {n : Int} {σ : St} {Q : Bool → Hp → Prop} (B : BoxAt F H a c n σ H') (ks : List Int) (hk : H' c = some (.lst (ks.map V.int)))
    (q : ∀ H'', Ext F H F H'' → H'' a = H' a → H'' c = H' c → Q (!decide (ks = [])) H'') : tTest (tOp (rNeD K) (tOp (rIx K) (tVar 0) (tC (.int 0))) (tLst tNil)) σ H' Q := by
  refine run0 B ⟨Nat.zero_le _, fun p hp => ?_⟩
  have e2 : Ext F H F (upd H' p (.lst [])) := B.ext.trans (Ext.own B.ext.ok hp)
  have hcp : c ≠ p := fun z => by rw [z, hp] at hk; cases hk
  have hap : a ≠ p := fun z => by
    obtain ⟨x, hx⟩ := B.bx
    rw [z, hp] at hx; cases hx
  refine ⟨.list (ks.map .int), .list [], .lst (SqL.of (by rw [upd_ne hcp]; exact hk)) (dp_ints ks), .lst (SqL.of upd_same) .nil, shaped_ints ks, rfl, ?_⟩
  rw [eqv_nil]
  exact ⟨_, rfl, q _ e2 (upd_ne hap) (upd_ne hcp)⟩
theorem ok_law_any {f : Addr} {fd : FuncData} (F : FunD Z.K "_law_any" "_law_any" (defArgs s_law_any) (defBody s_law_any) (defScope s_law_any) [] [] f fd) (hz : Z.dl = DL) (b_int : mg "int" = none) : FnOk P w Z.K mg base (L2.CX P w) 1 f fd ["_law_deal", "_law_bound"] (spN Z 2 (app2 m_law_any)) := by
  refine F.ok sc_law_any (fun vs H Q E h => h.1) (fun cdv A outer s H vs Q E hr h => ?_)
  obtain ⟨hl, F0, ds, ok0, r0, q0⟩ := h
  have hd : ds.length = 2 := ar2 _ _ _ _ q0
  match ds, hd with
  | [d, b], _ =>
  cases r0 with
  | cons r1 r0 =>
  cases r0 with
  | cons r2 r0 =>
  cases r0
  have q1 : (m_law_any d b).wp (fun d => ∀ v F' H', Ext F0 H F' H' → Rp Z F' v d → Q v H') (fun c x => ∀ cls dd F' H', Ext F0 H F' H' → ErrIs Z F' c x cls dd → E cls dd H') := q0
  match d, b with
  | .dl 0, .int n =>
  obtain ⟨⟨hn0, hn1⟩, q⟩ := q1
  have q : ∀ r : Int, 0 ≤ r ∧ r < n → ∀ v F' H', Ext F0 H F' H' → Rp Z F' v (.int r) → Q v H' := q
  cases r2
  cases r1 with
  | dl hb =>
  rename_i a
  rw [hz] at hb
  obtain ⟨c, hca, hA, hC⟩ := hb
  have hb : ∀ {σ : St} {H' : Hp}, Ext F0 H F0 H' → σ[0]? = some (some (.ref a)) → σ[1]? = some (some (.int n)) → 2 < σ.length → BoxAt F0 H a c n σ H' := fun e s0 s1 h2 => .of e hA hC s0 s1 h2
  refine ⟨_, pss_cons (ps_while po_cx (PW.pt (pw_and (pt_cmpR (op_neD hr.units) (pe_ix ix_seq (pv 0) pe_int fun _ _ => rfl) (pe_lst pa_nil) (nomark _)) (pw_and1 (pt_cmpR op_eq (pe_ix ix_seq (pe_ix ix_seq (pv 0) pe_int fun _ _ => rfl) (pe_un un_neg pe_int) fun _ _ => rfl) pe_int (nomark _)))))
      (pss_one (ps_expr (pe_bm0 PySem.F.plainAttrs_list PySem.F.slot_list_pop PySem.F.type_list_pop mt_pop (pe_ix ix_seq (pv 0) pe_int fun _ _ => rfl)))))
    (PSs.imp (t' := fun D σ H' => BoxAt F0 H a c n σ H' ∧ ∀ r : Int, 0 ≤ r ∧ r < n → ∀ H'', Ext F0 H F0 H'' → D.rt (.int r) H'') (pss_cons (ps_if (pt_cmpR (op_neD hr.units) (pe_ix ix_seq (pv 0) pe_int fun _ _ => rfl) (pe_lst pa_nil) (nomark _))
      (pss_cons (ps_set (i := 2) sc_law_any.nd rfl (.inl rfl) (pe_callTy call_int1 rfl b_int (by decide +kernel) (pa_cons (pe_bm0 PySem.F.plainAttrs_list PySem.F.slot_list_pop PySem.F.type_list_pop mt_pop (pe_ix ix_seq (pv 0) pe_int fun _ _ => rfl)) pa_nil)))
        (pss_cons (ps_expr (pe_bm PySem.F.plainAttrs_list PySem.F.slot_list_append PySem.F.type_list_append mt_append (pe_ix ix_seq (pv 0) pe_int fun _ _ => rfl) (pa_cons (pe_op op_fdiv (pv 2) (pv 1)) pa_nil)))
          (pss_one (ps_ret (pe_op op_mod (pv 2) (pv 1))))))
      pss_nil)
    (pss_cons (ps_asg (pe_op op_mod (pe_callTy call_int1 rfl b_int (by decide +kernel) (pa_cons (pe_op op_add (pe_op op_mul (pe_ix ix_seq (pv 0) pe_int fun _ _ => rfl) pe_int) pe_int) pa_nil)) pe_int) (pg_sub (pv 0) pe_int set_list))
      (pss_one (ps_ret (pe_op op_mod (pe_callTy call_int1 rfl b_int (by decide +kernel) (pa_cons (pe_op op_fdiv (pe_ix ix_seq (pv 0) pe_int fun _ _ => rfl) pe_int) pa_nil)) (pv 1)))))) ?_), ?_⟩
  · rintro D σ H1 ⟨B, k⟩
    obtain ⟨ks, hk, hkl⟩ := B.cl
    have s0 := B.s0
    have s1 := B.s1
    refine test0 B ks hk (fun H2 e2 ha2 hc2 => ?_)
    rw [hk] at hc2
    by_cases hks : ks = []
    · show if (!decide (ks = [])) = true then _ else _
      rw [if_neg (by rw [hks]; exact Bool.false_ne_true)]
      obtain ⟨x, hx⟩ := (hb e2 s0 s1 B.lt2).bx
      refine ⟨_, s0, .inl ⟨a, _, 1, .int x, rfl, rfl, SqL.of hx, rfl, ⟨x, 40693, rfl, rfl, .inr ⟨by decide, by decide⟩, ⟨_, 71, rfl, rfl, .inl ⟨_, rfl, ⟨_, 2147483647, rfl, rfl, (by decide : (0 : Int) < 2147483647), ?_⟩⟩⟩⟩⟩⟩
      refine ⟨_, s0, ⟨a, _, 1, 1, rfl, rfl, hx, rfl, ?_⟩⟩
      have e3 : Ext F0 H F0 (upd H2 a (.lst ([V.ref c, V.int x].set 1 (V.int ((x * 40693 + 71) % 2147483647))))) := e2.put hA ⟨_, rfl⟩ (fun ⟨_, z⟩ => by cases z)
      refine ⟨_, s0, .inl ⟨a, _, 1, .int _, rfl, rfl, SqL.of upd_same, rfl, ⟨_, 64, rfl, rfl, ⟨by decide, by decide⟩, .inl ⟨_, rfl, ⟨_, s1, ⟨_, n, rfl, rfl, hn0, ?_⟩⟩⟩⟩⟩⟩
      exact k _ ⟨Int.emod_nonneg _ (by omega), Int.emod_lt_of_pos _ hn0⟩ _ e3
    · show if (!decide (ks = [])) = true then _ else _
      rw [if_pos (by rw [decide_eq_false hks]; rfl)]
      have B2 := hb e2 s0 s1 B.lt2
      have h2lt : 2 < σ.length := B.lt2
      have hlast : (ks.map V.int)[(ks.map V.int).length - 1]? = some (.int (ks.getLast hks)) := by
        rw [List.length_map, List.getElem?_map, ← List.getLast?_eq_getElem?, List.getLast?_eq_some_getLast hks]
        rfl
      refine run0 B2 ⟨.inl ⟨rfl, _, SqL.of hc2⟩, c, _, _, rfl, rfl, hc2, hlast, .inl ⟨_, rfl, ?_⟩⟩
      have hdl : (ks.map V.int).dropLast = ks.dropLast.map V.int := List.map_dropLast.symm
      have hlen : ks.dropLast.length < sizeLine := by
        have := List.length_pos_iff.mpr hks
        rw [List.length_dropLast]
        omega
      rw [hdl]
      have e3 : Ext F0 H F0 (upd H2 c (.lst (ks.dropLast.map V.int))) := e2.put hC ⟨_, rfl, Nat.le_of_lt hlen⟩ (fun ⟨_, z⟩ => by cases z)
      have t0 : (σ.set 2 (some (V.int (ks.getLast hks))))[0]? = some (some (.ref a)) := by rw [List.getElem?_set_ne (by decide)]; exact s0
      have t1 : (σ.set 2 (some (V.int (ks.getLast hks))))[1]? = some (some (.int n)) := by rw [List.getElem?_set_ne (by decide)]; exact s1
      have t2 : (σ.set 2 (some (V.int (ks.getLast hks))))[2]? = some (some (.int (ks.getLast hks))) := List.getElem?_set_self h2lt
      have B3 := hb e3 t0 t1 (by rw [List.length_set]; exact B.lt2)
      refine run0 B3 ⟨.inl ⟨rfl, _, SqL.of upd_same⟩, _, t2, _, t1, _, _, rfl, rfl, ⟨hn0, hn1⟩, c, _, _, rfl, rfl, upd_same, by rw [List.length_map]; exact hlen, ?_⟩
      have e4 : Ext F0 H F0 (upd (upd H2 c (.lst (ks.dropLast.map V.int))) c (.lst (ks.dropLast.map V.int ++ [V.int (ks.getLast hks / n)]))) := e3.put hC ⟨ks.dropLast ++ [ks.getLast hks / n], by rw [List.map_append]; rfl, by rw [List.length_append]; exact hlen⟩ (fun ⟨_, z⟩ => by cases z)
      exact ⟨_, t2, _, t1, _, _, rfl, rfl, hn0, k _ ⟨Int.emod_nonneg _ (by omega), Int.emod_lt_of_pos _ hn0⟩ _ e4⟩
  · refine ⟨fun m σ H' => m = lnc c H' ∧ Ext F0 H F0 H' ∧ σ[0]? = some (some (.ref a)) ∧ σ[1]? = some (some (.int n)) ∧ 2 < σ.length, ⟨_, rfl, Ext.refl ok0, rfl, rfl, Nat.lt_succ_self 2⟩, ?_⟩
    rintro m σ H1 ⟨rfl, e1, s0, s1, h2⟩
    have B := hb e1 s0 s1 h2
    obtain ⟨ks, hk, hkl⟩ := B.cl
    refine test0 B ks hk (fun H2 e2 ha2 hc2 => ?_)
    rw [hk] at hc2
    have k : ∀ r : Int, 0 ≤ r ∧ r < n → ∀ H'', Ext F0 H F0 H'' → Q (.int r) H'' := fun r hr H'' e => q r hr _ F0 H'' e (.int r)
    by_cases hks : ks = []
    · show if (!decide (ks = [])) = true then _ else _
      rw [if_neg (by rw [hks]; exact Bool.false_ne_true)]
      exact ⟨hb e2 s0 s1 h2, k⟩
    · show if (!decide (ks = [])) = true then _ else _
      rw [if_pos (by rw [decide_eq_false hks]; rfl)]
      have B2 := hb e2 s0 s1 h2
      refine run0 B2 ⟨_, rfl, .inl ⟨c, _, -1, _, rfl, rfl, SqL.of hc2, atI_back hks, rfl, ?_⟩⟩
      refine ⟨_, rfl, ?_⟩
      by_cases hz0 : ks.getLast hks = 0
      · rw [hz0]
        show if (true = true) then _ else _
        rw [if_pos rfl]
        have hlast : (ks.map V.int)[(ks.map V.int).length - 1]? = some (.int (ks.getLast hks)) := by
          rw [List.length_map, List.getElem?_map, ← List.getLast?_eq_getElem?, List.getLast?_eq_some_getLast hks]
          rfl
        have hdl : (ks.map V.int).dropLast = ks.dropLast.map V.int := List.map_dropLast.symm
        have hlen : ks.dropLast.length < ks.length := by
          have := List.length_pos_iff.mpr hks
          rw [List.length_dropLast]
          omega
        have e3 : Ext F0 H F0 (upd H2 c (.lst (ks.dropLast.map V.int))) := e2.put hC ⟨_, rfl, Nat.le_trans (Nat.le_of_lt hlen) hkl⟩ (fun ⟨_, z⟩ => by cases z)
        refine ⟨fun σ' H' => lnc c H' < lnc c H1 ∧ Ext F0 H F0 H' ∧ σ'[0]? = some (some (.ref a)) ∧ σ'[1]? = some (some (.int n)) ∧ 2 < σ'.length, fun σ' H' ⟨h1, h2⟩ => ⟨_, h1, rfl, h2⟩, ?_⟩
        refine run0 B2 ⟨.inl ⟨rfl, _, SqL.of hc2⟩, c, _, _, rfl, rfl, hc2, hlast, ?_⟩
        rw [hdl]
        refine ⟨?_, e3, s0, s1, h2⟩
        unfold lnc
        rw [upd_same, hk]
        show (ks.dropLast.map V.int).length < (ks.map V.int).length
        rw [List.length_map, List.length_map]
        exact hlen
      · have hne : decide (V.int (ks.getLast hks) = V.int 0) = false := decide_eq_false (fun z => hz0 (V.int.inj z))
        rw [hne]
        show if (false = true) then _ else _
        rw [if_neg Bool.false_ne_true]
        exact ⟨B2, k⟩
end
end M

set_option Elab.async false
set_option linter.all false
set_option maxRecDepth 100000
set_option maxHeartbeats 4000000
namespace M
open PySem L2
open PyProof.Rows (envOfC)
def gD_law_anchor_0 (ds es : List D) : List D := ds ++ es
def gD_letter_at_0_bag_number (ds es : List D) : List D := ds ++ es
def gD_need_bag_0_value (ds es : List D) : List D := ds ++ es
def gD_need_letter_0_value_at (ds es : List D) : List D := ds ++ es ++ []
def gD_need_letter_1 (ds es : List D) : List D := ds ++ es ++ [.int (-1)]
def gD_next_like_0_told_least_modulus (ds es : List D) : List D := ds ++ es
def gD_put_letter_0_bag_letter (ds es : List D) : List D := ds ++ es
def gD_told_visit_0_visit_modulus (ds es : List D) : List D := ds ++ es
def exT (c d : Nat) : Bool := decide (c = d)
structure Txt (Z : Zt) (mg : Str → Option Value) (cW iE : Addr) : Prop where
  b_isinstance : mg "isinstance" = none
  b_int : mg "int" = none
  b_bool : mg "bool" = none
  b_str : mg "str" = none
  b_list : mg "list" = none
  b_tuple : mg "tuple" = none
  b_len : mg "len" = none
  b_range : mg "range" = none
  b_enumerate : mg "enumerate" = none
  b_abs : mg "abs" = none
  g_WORDS : mg "WORDS" = some (.ref cW)
  k_WORDS : KT Z.K cW [.str "left", .str "hold"]
  e_InvalidLetter : PySem.TErr.ETxt Z.K mg "InvalidLetter" (Z.fs 0) (Z.cs 0) iE
  ex : ∀ c d, c < 1 → d < 1 → PySem.W.exmOne Z.K (.ref (Z.cs c)) (.ref (Z.cs d)) = some (exT c d)
  eT : ∀ c, c < 1 → ∃ nm fI, PySem.TErr.ETxt Z.K mg nm (Z.fs c) (Z.cs c) fI
  dl : Z.dl = DL
  hx_InvalidLetter_at : ∀ c, exT c 0 = true → ("at" : Str) = PySem.Str.ofString (Z.fs c)
section
variable {P : Program} {w : World} {Z : Zt} {mg : Str → Option Value} {base : Heap} {cW iE : Addr}
abbrev s_is_integer : Stmt := topS 1
abbrev N_is_integer : List Str := ["value"]
theorem sc_is_integer : FnScope N_is_integer ["value"] (defScope s_is_integer) := ⟨rfl, rfl, rfl, by decide +kernel, rfl, by decide +kernel, by decide +kernel⟩
def m_is_integer (a_value : D) : N D := ((((.ok a_value : N D).bind (dIsi "int") : N D).bind fun x => (N.tst x).bind fun c => if c = true then (((.ok a_value : N D).bind (dIsi "bool") : N D).bind fun x => (N.tst x).bind fun c => .ok (.bl (!c))) else .ok (.bl false) : N D).bind fun d => .ok (.rt d) : N (Fl Unit Unit)).fin
theorem ok_is_integer {f : Addr} {fd : FuncData} (F : FunD Z.K "is_integer" "is_integer" (defArgs s_is_integer) (defBody s_is_integer) (defScope s_is_integer) [] [] f fd) (T : Txt Z mg cW iE) : FnOk P w Z.K mg base (L2.CX P w) 1 f fd ["value"] (spN Z 1 (app1 m_is_integer)) := by
  refine fn_okD (ps := ["value"]) F sc_is_integer (ar1 _) (fun cdv A outer s H E F0 ds hr tk hl => ?_)
  match ds, hl with
  | [a_value], _ =>
    refine ⟨Unit, Unit, fun _ => [.dat (a_value)], fun _ => [.dat (a_value)], _, ?_, fun _ _ h => h⟩
    exact ((ds_one (ds_ret (de_and (de_isi rfl T.b_isinstance T.b_int (by decide +kernel) (de_var (i := 0) (d := a_value))) (de_one (de_not (de_isi rfl T.b_isinstance T.b_bool (by decide +kernel) (de_var (i := 0) (d := a_value)))))))))

abbrev s_is_number : Stmt := topS 2
abbrev N_is_number : List Str := ["value"]
theorem sc_is_number : FnScope N_is_number ["value"] (defScope s_is_number) := ⟨rfl, rfl, rfl, by decide +kernel, rfl, by decide +kernel, by decide +kernel⟩
def m_is_number (a_value : D) : N D := ((((.ok a_value : N D).bind fun x => m_is_integer x : N D).bind fun x => (N.tst x).bind fun c => if c = true then ((.ok a_value : N D).bind fun x => (.ok (.int 0) : N D).bind fun y => dGe x y) else .ok (.bl false) : N D).bind fun d => .ok (.rt d) : N (Fl Unit Unit)).fin
theorem ok_is_number {f : Addr} {fd : FuncData} (F : FunD Z.K "is_number" "is_number" (defArgs s_is_number) (defBody s_is_number) (defScope s_is_number) [] [] f fd) (T : Txt Z mg cW iE) (C_is_integer : Df P w Z mg base "is_integer" 1 1 (app1 m_is_integer)) : FnOk P w Z.K mg base (L2.CX P w) 2 f fd ["value"] (spN Z 1 (app1 m_is_number)) := by
  refine fn_okD (ps := ["value"]) F sc_is_number (ar1 _) (fun cdv A outer s H E F0 ds hr tk hl => ?_)
  match ds, hl with
  | [a_value], _ =>
    refine ⟨Unit, Unit, fun _ => [.dat (a_value)], fun _ => [.dat (a_value)], _, ?_, fun _ _ h => h⟩
    exact ((ds_one (ds_ret (de_and (de_call1 (Df.cal C_is_integer (hr.mono (by decide))) tk (Wk.un' rfl) (de_var (i := 0) (d := a_value))) (de_one (de_cmp op_ge (r2_I0 fun _ _ _ => .bl _) (iOp_tot _) (de_var (i := 0) (d := a_value)) de_int (nomark _)))))))

abbrev s_is_index : Stmt := topS 3
abbrev N_is_index : List Str := ["value", "many"]
theorem sc_is_index : FnScope N_is_index ["value", "many"] (defScope s_is_index) := ⟨rfl, rfl, rfl, by decide +kernel, rfl, by decide +kernel, by decide +kernel⟩
def m_is_index (a_value : D) (a_many : D) : N D := ((((.ok a_value : N D).bind fun x => m_is_integer x : N D).bind fun x => (N.tst x).bind fun c => if c = true then (dChain dLe dLt (.ok (.int 0)) (.ok a_value) (.ok a_many)) else .ok (.bl false) : N D).bind fun d => .ok (.rt d) : N (Fl Unit Unit)).fin
theorem ok_is_index {f : Addr} {fd : FuncData} (F : FunD Z.K "is_index" "is_index" (defArgs s_is_index) (defBody s_is_index) (defScope s_is_index) [] [] f fd) (T : Txt Z mg cW iE) (C_is_integer : Df P w Z mg base "is_integer" 1 1 (app1 m_is_integer)) : FnOk P w Z.K mg base (L2.CX P w) 2 f fd ["value", "many"] (spN Z 2 (app2 m_is_index)) := by
  refine fn_okD (ps := ["value", "many"]) F sc_is_index (ar2 _) (fun cdv A outer s H E F0 ds hr tk hl => ?_)
  match ds, hl with
  | [a_value, a_many], _ =>
    refine ⟨Unit, Unit, fun _ => [.dat (a_value), .dat (a_many)], fun _ => [.dat (a_value), .dat (a_many)], _, ?_, fun _ _ h => h⟩
    exact ((ds_one (ds_ret (de_and (de_call1 (Df.cal C_is_integer (hr.mono (by decide))) tk (Wk.un' rfl) (de_var (i := 0) (d := a_value))) (de_one (de_chain op_le op_lt (r2_I0 fun _ _ _ => .bl _) (iOp_tot _) (r2_I0 fun _ _ _ => .bl _) (iOp_tot _) de_int (de_var (i := 0) (d := a_value)) (de_var (i := 1) (d := a_many))))))))

abbrev s_is_sequence : Stmt := topS 4
abbrev N_is_sequence : List Str := ["value"]
theorem sc_is_sequence : FnScope N_is_sequence ["value"] (defScope s_is_sequence) := ⟨rfl, rfl, rfl, by decide +kernel, rfl, by decide +kernel, by decide +kernel⟩
def m_is_sequence (a_value : D) : N D := (((.ok a_value : N D).bind (dIsi2 "list" "tuple") : N D).bind fun d => .ok (.rt d) : N (Fl Unit Unit)).fin
theorem ok_is_sequence {f : Addr} {fd : FuncData} (F : FunD Z.K "is_sequence" "is_sequence" (defArgs s_is_sequence) (defBody s_is_sequence) (defScope s_is_sequence) [] [] f fd) (T : Txt Z mg cW iE) : FnOk P w Z.K mg base (L2.CX P w) 1 f fd ["value"] (spN Z 1 (app1 m_is_sequence)) := by
  refine fn_okD (ps := ["value"]) F sc_is_sequence (ar1 _) (fun cdv A outer s H E F0 ds hr tk hl => ?_)
  match ds, hl with
  | [a_value], _ =>
    refine ⟨Unit, Unit, fun _ => [.dat (a_value)], fun _ => [.dat (a_value)], _, ?_, fun _ _ h => h⟩
    exact ((ds_one (ds_ret (de_isi2 rfl T.b_isinstance T.b_list (by decide +kernel) T.b_tuple (by decide +kernel) (de_var (i := 0) (d := a_value))))))

abbrev s_is_letter : Stmt := topS 11
abbrev N_is_letter : List Str := ["value"]
theorem sc_is_letter : FnScope N_is_letter ["value"] (defScope s_is_letter) := ⟨rfl, rfl, rfl, by decide +kernel, rfl, by decide +kernel, by decide +kernel⟩
def m_is_letter (a_value : D) : N D := (N.seq ((((((.ok a_value : N D).bind fun x => m_is_sequence x : N D).bind N.tst : N Bool).bind fun b => .ok (!b) : N Bool).bind fun x => if x = true then .ok true else (((((.ok a_value : N D).bind dLen : N D).bind fun x => (.ok (.int 3) : N D).bind fun y => dNeS x y : N D).bind N.tst : N Bool).bind fun x => if x = true then .ok true else (((((.ok a_value : N D).bind fun x => (.ok (.int 0) : N D).bind fun y => dIx x y : N D).bind (dIsi "str") : N D).bind N.tst : N Bool).bind fun b => .ok (!b))) : N Bool).bind fun x => if x = true then ((.ok (.bl false) : N D).bind fun d => .ok (.rt d)) else (.ok (.nx ()))) fun (_ : Unit) => ((((.ok a_value : N D).bind fun x => (.ok (.int 0) : N D).bind fun y => dIx x y : N D).bind fun x => (.ok (.ktup [.str "left", .str "hold"]) : N D).bind fun y => (dIn false) x y : N D).bind fun x => (N.tst x).bind fun c => if c = true then ((((.ok a_value : N D).bind fun x => (.ok (.int 1) : N D).bind fun y => dIx x y : N D).bind fun x => m_is_number x : N D).bind fun x => (N.tst x).bind fun c => if c = true then (((.ok a_value : N D).bind fun x => (.ok (.int 2) : N D).bind fun y => dIx x y : N D).bind fun x => m_is_number x) else .ok (.bl false)) else .ok (.bl false) : N D).bind fun d => .ok (.rt d) : N (Fl Unit Unit)).fin
theorem ok_is_letter {f : Addr} {fd : FuncData} (F : FunD Z.K "is_letter" "is_letter" (defArgs s_is_letter) (defBody s_is_letter) (defScope s_is_letter) [] [] f fd) (T : Txt Z mg cW iE) (C_is_sequence : Df P w Z mg base "is_sequence" 1 1 (app1 m_is_sequence)) (C_is_number : Df P w Z mg base "is_number" 2 1 (app1 m_is_number)) : FnOk P w Z.K mg base (L2.CX P w) 3 f fd ["value"] (spN Z 1 (app1 m_is_letter)) := by
  refine fn_okD (ps := ["value"]) F sc_is_letter (ar1 _) (fun cdv A outer s H E F0 ds hr tk hl => ?_)
  match ds, hl with
  | [a_value], _ =>
    refine ⟨Unit, Unit, fun _ => [.dat (a_value)], fun _ => [.dat (a_value)], _, ?_, fun _ _ h => h⟩
    exact ((ds_cons (ds_if (sl := fun _ : Unit => [.dat (a_value)]) (PW.pt (dw_or (dt_not (dt_val (de_call1 (Df.cal C_is_sequence (hr.mono (by decide))) tk (Wk.un' rfl) (de_var (i := 0) (d := a_value))))) (dw_or (dt_cmp op_ne r2_NeS dNeS_tot (de_len rfl T.b_len (de_var (i := 0) (d := a_value))) de_int (nomark _)) (dw_or1 (dt_not (dt_val (de_isi rfl T.b_isinstance T.b_str (by decide +kernel) (de_ixD rfl (de_var (i := 0) (d := a_value)) de_int)))))))) (ds_one (ds_ret de_bl)) (ds_nil ())) (fun (_ : Unit) => (ds_one (ds_ret (de_and (de_cmp op_in_seq (r2_In false) (dIn_tot false) (de_ixD rfl (de_var (i := 0) (d := a_value)) de_int) (de_kt T.g_WORDS T.k_WORDS (fun _ => .cons (.str _) (.cons (.str _) .nil))) rfl) (de_and (de_call1 (Df.cal C_is_number (hr.mono (by decide))) tk (Wk.un' rfl) (de_ixD rfl (de_var (i := 0) (d := a_value)) de_int)) (de_one (de_call1 (Df.cal C_is_number (hr.mono (by decide))) tk (Wk.un' rfl) (de_ixD rfl (de_var (i := 0) (d := a_value)) de_int))))))))))

abbrev s_need_letter : Stmt := topS 10
abbrev N_need_letter : List Str := ["value", "at"]
theorem sc_need_letter : FnScope N_need_letter ["value", "at"] (defScope s_need_letter) := ⟨rfl, rfl, rfl, by decide +kernel, rfl, by decide +kernel, by decide +kernel⟩
def m_need_letter (a_value : D) (a_at : D) : N D := (N.seq (((((.ok a_value : N D).bind fun x => m_is_letter x : N D).bind N.tst : N Bool).bind fun b => .ok (!b) : N Bool).bind fun x => if x = true then ((.ok a_at : N D).bind fun d => .err 0 d) else (.ok (.nx ()))) fun (_ : Unit) => ((.ok a_value : N D).bind dTuple : N D).bind fun d => .ok (.rt d) : N (Fl Unit Unit)).fin
theorem ok_need_letter {f : Addr} {fd : FuncData} (F : FunD Z.K "need_letter" "need_letter" (defArgs s_need_letter) (defBody s_need_letter) (defScope s_need_letter) [.int (-1)] [] f fd) (T : Txt Z mg cW iE) (C_is_letter : Df P w Z mg base "is_letter" 3 1 (app1 m_is_letter)) : FnOk P w Z.K mg base (L2.CX P w) 4 f fd ["value", "at"] (spN Z 2 (app2 m_need_letter)) := by
  refine fn_okD (ps := ["value", "at"]) F sc_need_letter (ar2 _) (fun cdv A outer s H E F0 ds hr tk hl => ?_)
  match ds, hl with
  | [a_value, a_at], _ =>
    refine ⟨Unit, Unit, fun _ => [.dat (a_value), .dat (a_at)], fun _ => [.dat (a_value), .dat (a_at)], _, ?_, fun _ _ h => h⟩
    exact ((ds_cons (ds_if (sl := fun _ : Unit => [.dat (a_value), .dat (a_at)]) (dt_not (dt_val (de_call1 (Df.cal C_is_letter (hr.mono (by decide))) tk (Wk.un' rfl) (de_var (i := 0) (d := a_value))))) (ds_one (ds_raise (ci := 0) rfl T.e_InvalidLetter (hr.mono (by decide) : Room 0 _) tk (Wk.un' rfl) (de_var (i := 1) (d := a_at)))) (ds_nil ())) (fun (_ : Unit) => (ds_one (ds_ret (de_tuple rfl T.b_tuple (de_var (i := 0) (d := a_value))))))))

abbrev s_need_bag : Stmt := topS 12
abbrev N_need_bag : List Str := ["value", "found", "at", "item", "letter"]
theorem sc_need_bag : FnScope N_need_bag ["value"] (defScope s_need_bag) := ⟨rfl, rfl, rfl, by decide +kernel, rfl, by decide +kernel, by decide +kernel⟩
def m_need_bag (a_value : D) : N D := (N.seq (((((.ok a_value : N D).bind fun x => m_is_sequence x : N D).bind N.tst : N Bool).bind fun b => .ok (!b) : N Bool).bind fun x => if x = true then (((.ok (.int 1) : N D).bind dNeg : N D).bind fun d => .err 0 d) else (.ok (.nx ()))) fun (_ : Unit) => N.seq (.ok (.nx ())) fun (_ : Unit) => N.seq ((.ok a_value : N D).bind fun d => (enOf d).bind fun xs => N.loop (fun (ky : Int × D) (s1 : (List (List Key × D))) => match ky with | (k3, y2) => N.seq (((.ok y2 : N D).bind fun x => (.ok (.int k3) : N D).bind fun y => m_need_letter x y : N D).bind fun d => .ok (.nx d)) fun (letter_4 : D) => N.seq (((.ok letter_4 : N D).bind fun d => (tkey d).bind fun ks => .ok (dget s1 ks).isSome : N Bool).bind fun x => if x = true then ((.ok (.int k3) : N D).bind fun d => .err 0 d) else (.ok (.nx ()))) fun (_ : Unit) => N.seq ((.ok (.bl true) : N D).bind fun v => (.ok letter_4 : N D).bind fun d => (tkey d).bind fun ks => (N.asrt ((s1).length < sizeLine)).bind fun _ => .ok (.nx (dput (s1) ks v))) fun (t5 : List (List Key × D)) => .ok (.nx (t5))) (numbered xs) ([])) fun (s1 : (List (List Key × D))) => ((.ok (.lst (s1.map fun kv => .tup (kv.1.map keyD))) : N D).bind dTuple : N D).bind fun d => .ok (.rt d) : N (Fl Unit Unit)).fin
theorem ok_need_bag {f : Addr} {fd : FuncData} (F : FunD Z.K "need_bag" "need_bag" (defArgs s_need_bag) (defBody s_need_bag) (defScope s_need_bag) [] [] f fd) (T : Txt Z mg cW iE) (C_is_sequence : Df P w Z mg base "is_sequence" 1 1 (app1 m_is_sequence)) (C_need_letter : Df P w Z mg base "need_letter" 4 2 (app2 m_need_letter)) : FnOk P w Z.K mg base (L2.CX P w) 5 f fd ["value"] (spN Z 1 (app1 m_need_bag)) := by
  refine fn_okD (ps := ["value"]) F sc_need_bag (ar1 _) (fun cdv A outer s H E F0 ds hr tk hl => ?_)
  match ds, hl with
  | [a_value], _ =>
    refine ⟨Unit, Unit, fun _ => [.dat (a_value), .un, .un, .un, .un], fun _ => [.dat (a_value), .un, .un, .un, .un], _, ?_, fun _ _ h => h⟩
    exact ((ds_cons (ds_if (sl := fun _ : Unit => [.dat (a_value), .un, .un, .un, .un]) (dt_not (dt_val (de_call1 (Df.cal C_is_sequence (hr.mono (by decide))) tk (Wk.un' rfl) (de_var (i := 0) (d := a_value))))) (ds_one (ds_raise (ci := 0) rfl T.e_InvalidLetter (hr.mono (by decide) : Room 0 _) tk (Wk.un' rfl) (de_neg de_int))) (ds_nil ())) (fun (_ : Unit) => (ds_cons (ds_newT (i := 1) sc_need_bag.nd) (fun (_ : Unit) => (ds_cons (ds_forE (sl := fun (s1 : (List (List Key × D))) => [.dat (a_value), .own (.dT (s1)), .un, .un, .un]) (i := 2) (j := 3) (bn := fun (ky : Int × D) (s1 : (List (List Key × D))) => match ky with | (k3, y2) => N.seq (((.ok y2 : N D).bind fun x => (.ok (.int k3) : N D).bind fun y => m_need_letter x y : N D).bind fun d => .ok (.nx d)) fun (letter_4 : D) => N.seq (((.ok letter_4 : N D).bind fun d => (tkey d).bind fun ks => .ok (dget s1 ks).isSome : N Bool).bind fun x => if x = true then ((.ok (.int k3) : N D).bind fun d => .err 0 d) else (.ok (.nx ()))) fun (_ : Unit) => N.seq ((.ok (.bl true) : N D).bind fun v => (.ok letter_4 : N D).bind fun d => (tkey d).bind fun ks => (N.asrt ((s1).length < sizeLine)).bind fun _ => .ok (.nx (dput (s1) ks v))) fun (t5 : List (List Key × D)) => .ok (.nx (t5))) ([]) po_cx rfl rfl T.b_enumerate sc_need_bag.nd (de_var (i := 0) (d := a_value)) (by repeat (first | exact Wk.nil | exact Wk.same (Wk.refl _) | apply Wk.same | apply Wk.un)) (fun k3 y2 s1 => (ds_cons (ds_set (i := 4) sc_need_bag.nd (de_call2 (Df.cal C_need_letter (hr.mono (by decide))) tk (Wk.un' rfl) (de_var (i := 3) (d := y2)) (de_var (i := 2) (d := (.int k3))))) (fun (letter_4 : D) => (ds_cons (ds_if (sl := fun _ : Unit => [.dat (a_value), .own (.dT (s1)), .dat ((.int k3)), .dat (y2), .dat (letter_4)]) (dt_inT (i := 1) (kvs := s1) hr rfl rfl (de_var (i := 4) (d := letter_4))) (ds_one (ds_raise (ci := 0) rfl T.e_InvalidLetter (hr.mono (by decide) : Room 0 _) tk (Wk.un' rfl) (de_var (i := 2) (d := (.int k3))))) (ds_nil ())) (fun (_ : Unit) => (ds_cons (ds_putT (i := 1) (kvs := s1) hr rfl rfl (de_var (i := 4) (d := letter_4)) de_bl) (fun (t5 : List (List Key × D)) => (ds_nilW (t5) (by repeat (first | exact Wk.nil | exact Wk.same (Wk.refl _) | apply Wk.same | apply Wk.un))))))))))) (fun (s1 : (List (List Key × D))) => (ds_one (ds_ret (de_tuple rfl T.b_tuple (de_listT (i := 1) (kvs := s1) rfl T.b_list rfl rfl)))))))))))

abbrev s_put_letter : Stmt := topS 13
abbrev N_put_letter : List Str := ["bag", "letter", "letters", "more"]
theorem sc_put_letter : FnScope N_put_letter ["bag", "letter"] (defScope s_put_letter) := ⟨rfl, rfl, rfl, by decide +kernel, rfl, by decide +kernel, by decide +kernel⟩
def m_put_letter (a_bag : D) (a_letter : D) : N D := (N.seq (((.ok a_bag : N D).bind fun x => m_need_bag x : N D).bind fun d => .ok (.nx d)) fun (letters_1 : D) => N.seq ((((.ok a_letter : N D).bind fun x => (.ok [] : N (List D)).bind fun xs => .ok (x :: xs) : N (List D)).bind fun ds => (N.asrt (ds.length = 1)).bind fun _ => app2 m_need_letter (gD_need_letter_1 ds []) : N D).bind fun d => .ok (.nx d)) fun (more_2 : D) => ((((.ok more_2 : N D).bind fun x => (.ok letters_1 : N D).bind fun y => dInD x y : N D).bind N.tst : N Bool).bind fun x => if x = true then (.ok letters_1) else ((.ok letters_1 : N D).bind fun x => (((.ok more_2 : N D).bind fun x => (.ok [] : N (List D)).bind fun xs => .ok (x :: xs) : N (List D)).bind fun xs => (N.le1 xs).bind fun _ => .ok (.tup xs) : N D).bind fun y => dCat x y) : N D).bind fun d => .ok (.rt d) : N (Fl Unit Unit)).fin
theorem ok_put_letter {f : Addr} {fd : FuncData} (F : FunD Z.K "put_letter" "put_letter" (defArgs s_put_letter) (defBody s_put_letter) (defScope s_put_letter) [] [] f fd) (T : Txt Z mg cW iE) (C_need_bag : Df P w Z mg base "need_bag" 5 1 (app1 m_need_bag)) (G_need_letter_1 : DfG P w Z mg base "need_letter" 4 1 [] gD_need_letter_1 2 (app2 m_need_letter)) : FnOk P w Z.K mg base (L2.CX P w) 6 f fd ["bag", "letter"] (spN Z 2 (app2 m_put_letter)) := by
  refine fn_okD (ps := ["bag", "letter"]) F sc_put_letter (ar2 _) (fun cdv A outer s H E F0 ds hr tk hl => ?_)
  match ds, hl with
  | [a_bag, a_letter], _ =>
    refine ⟨Unit, Unit, fun _ => [.dat (a_bag), .dat (a_letter), .un, .un], fun _ => [.dat (a_bag), .dat (a_letter), .un, .un], _, ?_, fun _ _ h => h⟩
    exact ((ds_cons (ds_set (i := 2) sc_put_letter.nd (de_call1 (Df.cal C_need_bag (hr.mono (by decide))) tk (Wk.un' rfl) (de_var (i := 0) (d := a_bag)))) (fun (letters_1 : D) => (ds_cons (ds_set (i := 3) sc_put_letter.nd (de_callDf (DfG.cal G_need_letter_1 (hr.mono (by decide))) tk (Wk.un' rfl) (da_cons (de_var (i := 1) (d := a_letter)) da_nil))) (fun (more_2 : D) => (ds_one (ds_ret (de_if (dt_cmp (op_inDD hr (room65 hr)) r2_InD dInD_tot (de_var (i := 3) (d := more_2)) (de_var (i := 2) (d := letters_1)) rfl) (de_var (i := 2) (d := letters_1)) (de_cat rfl (de_var (i := 2) (d := letters_1)) (de_tup (da_cons (de_var (i := 3) (d := more_2)) da_nil)))))))))))

abbrev s_letter_at : Stmt := topS 14
abbrev N_letter_at : List Str := ["bag", "number", "letters"]
theorem sc_letter_at : FnScope N_letter_at ["bag", "number"] (defScope s_letter_at) := ⟨rfl, rfl, rfl, by decide +kernel, rfl, by decide +kernel, by decide +kernel⟩
def m_letter_at (a_bag : D) (a_number : D) : N D := (N.seq (((.ok a_bag : N D).bind fun x => m_need_bag x : N D).bind fun d => .ok (.nx d)) fun (letters_1 : D) => N.seq (((((.ok a_number : N D).bind fun x => ((.ok letters_1 : N D).bind dLen : N D).bind fun y => m_is_index x y : N D).bind N.tst : N Bool).bind fun b => .ok (!b) : N Bool).bind fun x => if x = true then (((.ok (.int 1) : N D).bind dNeg : N D).bind fun d => .err 0 d) else (.ok (.nx ()))) fun (_ : Unit) => ((.ok letters_1 : N D).bind fun x => (.ok a_number : N D).bind fun y => dIx x y : N D).bind fun d => .ok (.rt d) : N (Fl Unit Unit)).fin
theorem ok_letter_at {f : Addr} {fd : FuncData} (F : FunD Z.K "letter_at" "letter_at" (defArgs s_letter_at) (defBody s_letter_at) (defScope s_letter_at) [] [] f fd) (T : Txt Z mg cW iE) (C_need_bag : Df P w Z mg base "need_bag" 5 1 (app1 m_need_bag)) (C_is_index : Df P w Z mg base "is_index" 2 2 (app2 m_is_index)) : FnOk P w Z.K mg base (L2.CX P w) 6 f fd ["bag", "number"] (spN Z 2 (app2 m_letter_at)) := by
  refine fn_okD (ps := ["bag", "number"]) F sc_letter_at (ar2 _) (fun cdv A outer s H E F0 ds hr tk hl => ?_)
  match ds, hl with
  | [a_bag, a_number], _ =>
    refine ⟨Unit, Unit, fun _ => [.dat (a_bag), .dat (a_number), .un], fun _ => [.dat (a_bag), .dat (a_number), .un], _, ?_, fun _ _ h => h⟩
    exact ((ds_cons (ds_set (i := 2) sc_letter_at.nd (de_call1 (Df.cal C_need_bag (hr.mono (by decide))) tk (Wk.un' rfl) (de_var (i := 0) (d := a_bag)))) (fun (letters_1 : D) => (ds_cons (ds_if (sl := fun _ : Unit => [.dat (a_bag), .dat (a_number), .dat (letters_1)]) (dt_not (dt_val (de_call2 (Df.cal C_is_index (hr.mono (by decide))) tk (Wk.un' rfl) (de_var (i := 1) (d := a_number)) (de_len rfl T.b_len (de_var (i := 2) (d := letters_1)))))) (ds_one (ds_raise (ci := 0) rfl T.e_InvalidLetter (hr.mono (by decide) : Room 0 _) tk (Wk.un' rfl) (de_neg de_int))) (ds_nil ())) (fun (_ : Unit) => (ds_one (ds_ret (de_ixD rfl (de_var (i := 2) (d := letters_1)) (de_var (i := 1) (d := a_number))))))))))

abbrev s_told_visit : Stmt := topS 15
abbrev N_told_visit : List Str := ["visit", "modulus"]
theorem sc_told_visit : FnScope N_told_visit ["visit", "modulus"] (defScope s_told_visit) := ⟨rfl, rfl, rfl, by decide +kernel, rfl, by decide +kernel, by decide +kernel⟩
def m_told_visit (a_visit : D) (a_modulus : D) : N D := (((((.ok a_modulus : N D).bind fun x => (.ok (.int 0) : N D).bind fun y => dEqS x y : N D).bind N.tst : N Bool).bind fun x => if x = true then (.ok a_visit) else ((.ok a_visit : N D).bind fun x => (.ok a_modulus : N D).bind fun y => dMod x y) : N D).bind fun d => .ok (.rt d) : N (Fl Unit Unit)).fin
theorem ok_told_visit {f : Addr} {fd : FuncData} (F : FunD Z.K "told_visit" "told_visit" (defArgs s_told_visit) (defBody s_told_visit) (defScope s_told_visit) [] [] f fd) (T : Txt Z mg cW iE) : FnOk P w Z.K mg base (L2.CX P w) 1 f fd ["visit", "modulus"] (spN Z 2 (app2 m_told_visit)) := by
  refine fn_okD (ps := ["visit", "modulus"]) F sc_told_visit (ar2 _) (fun cdv A outer s H E F0 ds hr tk hl => ?_)
  match ds, hl with
  | [a_visit, a_modulus], _ =>
    refine ⟨Unit, Unit, fun _ => [.dat (a_visit), .dat (a_modulus)], fun _ => [.dat (a_visit), .dat (a_modulus)], _, ?_, fun _ _ h => h⟩
    exact ((ds_one (ds_ret (de_if (dt_cmp op_eq r2_EqS dEqS_tot (de_var (i := 1) (d := a_modulus)) de_int (nomark _)) (de_var (i := 0) (d := a_visit)) (de_mod (de_var (i := 0) (d := a_visit)) (de_var (i := 1) (d := a_modulus)))))))

abbrev s_next_like : Stmt := topS 16
abbrev N_next_like : List Str := ["told", "least", "modulus"]
theorem sc_next_like : FnScope N_next_like ["told", "least", "modulus"] (defScope s_next_like) := ⟨rfl, rfl, rfl, by decide +kernel, rfl, by decide +kernel, by decide +kernel⟩
def m_next_like (a_told : D) (a_least : D) (a_modulus : D) : N D := (((((.ok a_modulus : N D).bind fun x => (.ok (.int 0) : N D).bind fun y => dEqS x y : N D).bind N.tst : N Bool).bind fun x => if x = true then (.ok a_told) else ((.ok a_least : N D).bind fun x => (((.ok a_told : N D).bind fun x => (.ok a_least : N D).bind fun y => dSub x y : N D).bind fun x => (.ok a_modulus : N D).bind fun y => dMod x y : N D).bind fun y => dAdd x y) : N D).bind fun d => .ok (.rt d) : N (Fl Unit Unit)).fin
theorem ok_next_like {f : Addr} {fd : FuncData} (F : FunD Z.K "next_like" "next_like" (defArgs s_next_like) (defBody s_next_like) (defScope s_next_like) [] [] f fd) (T : Txt Z mg cW iE) : FnOk P w Z.K mg base (L2.CX P w) 1 f fd ["told", "least", "modulus"] (spN Z 3 (app3 m_next_like)) := by
  refine fn_okD (ps := ["told", "least", "modulus"]) F sc_next_like (ar3 _) (fun cdv A outer s H E F0 ds hr tk hl => ?_)
  match ds, hl with
  | [a_told, a_least, a_modulus], _ =>
    refine ⟨Unit, Unit, fun _ => [.dat (a_told), .dat (a_least), .dat (a_modulus)], fun _ => [.dat (a_told), .dat (a_least), .dat (a_modulus)], _, ?_, fun _ _ h => h⟩
    exact ((ds_one (ds_ret (de_if (dt_cmp op_eq r2_EqS dEqS_tot (de_var (i := 2) (d := a_modulus)) de_int (nomark _)) (de_var (i := 0) (d := a_told)) (de_add (de_var (i := 1) (d := a_least)) (de_mod (de_sub (de_var (i := 0) (d := a_told)) (de_var (i := 1) (d := a_least))) (de_var (i := 2) (d := a_modulus))))))))

abbrev s_law_draw : Stmt := topS 18
abbrev N_law_draw : List Str := ["_law_script", "_law_salt", "_law_cells", "_law_blend", "_law_cell"]
theorem sc_law_draw : FnScope N_law_draw ["_law_script", "_law_salt"] (defScope s_law_draw) := ⟨rfl, rfl, rfl, by decide +kernel, rfl, by decide +kernel, by decide +kernel⟩
def m_law_draw (a_law_script : D) (a_law_salt : D) : N D := (N.seq ((((.ok a_law_script : N D).bind fun d => (.ok none : N (Option Int)).bind fun l => ((.ok (.int 48) : N D).bind fun d => (toI d).bind fun i => .ok (some i) : N (Option Int)).bind fun h => dSlL d l h : N D).bind fun d => (seqOf d).bind fun xs => (N.fits xs).bind fun _ => (N.comp (fun c2 => (.ok true : N Bool)) (fun c2 => (((.ok c2 : N D).bind dInt : N D).bind dAbs : N D)) xs).bind fun ys => .ok (D.lst ys)).bind fun d => .ok (.nx d)) fun (cells_1 : D) => N.seq (((.ok (.int 7919) : N D).bind fun x => ((.ok (.int 104729) : N D).bind fun x => (.ok a_law_salt : N D).bind fun y => dMul x y : N D).bind fun y => dAdd x y : N D).bind fun d => .ok (.nx d)) fun (blend_3 : D) => N.seq ((.ok cells_1 : N D).bind fun d => (seqOf d).bind fun xs => N.loop (fun (y5 : D) (s4 : D) => N.seq (((((((.ok s4 : N D).bind fun x => (.ok (.int 48271) : N D).bind fun y => dMul x y : N D).bind fun x => ((.ok y5 : N D).bind fun x => (.ok (.int 2147483549) : N D).bind fun y => dMod x y : N D).bind fun y => dAdd x y : N D).bind fun x => (.ok (.int 11) : N D).bind fun y => dAdd x y : N D).bind dInt : N D).bind fun x => (.ok (.int 2147483647) : N D).bind fun y => dMod x y : N D).bind fun d => .ok (.nx d)) fun (blend_6 : D) => .ok (.nx (blend_6))) xs (blend_3)) fun (s4 : D) => ((((.ok cells_1 : N D).bind fun d => (seqOf d).bind fun xs => (N.fits xs).bind fun _ => (N.comp (fun c7 => (((.ok c7 : N D).bind fun x => ((.ok (.int 10) : N D).bind fun x => (.ok (.int 18) : N D).bind fun y => dPow x y : N D).bind fun y => dGe x y : N D).bind N.tst : N Bool)) (fun c7 => (.ok c7 : N D)) xs).bind fun ys => .ok (.lst ys) : N D).bind mkCells : N D).bind fun x => (.ok s4 : N D).bind fun y => mkDeal x y : N D).bind fun d => .ok (.rt d) : N (Fl Unit Unit)).fin
theorem ok_law_draw {f : Addr} {fd : FuncData} (F : FunD Z.K "_law_draw" "_law_draw" (defArgs s_law_draw) (defBody s_law_draw) (defScope s_law_draw) [] [] f fd) (T : Txt Z mg cW iE) : FnOk P w Z.K mg base (L2.CX P w) 1 f fd ["_law_script", "_law_salt"] (spN Z 2 (app2 m_law_draw)) := by
  refine fn_okD (ps := ["_law_script", "_law_salt"]) F sc_law_draw (ar2 _) (fun cdv A outer s H E F0 ds hr tk hl => ?_)
  match ds, hl with
  | [a_law_script, a_law_salt], _ =>
    refine ⟨Unit, Unit, fun _ => [.dat (a_law_script), .dat (a_law_salt), .un, .un, .un], fun _ => [.dat (a_law_script), .dat (a_law_salt), .un, .un, .un], _, ?_, fun _ _ h => h⟩
    exact ((ds_cons (ds_lcS (i := 2) (j := 4) (n := 5) (tn := fun c2 => .ok true) (fn := fun c2 => ((.ok c2 : N D).bind dInt : N D).bind dAbs) rfl rfl sc_law_draw.nd (de_slL rfl (de_var (i := 0) (d := a_law_script)) do_none (do_some de_int)) rfl rfl rfl rfl (by decide +kernel) (blkOk_by (own := [("_law_cell", 4)]) (N := N_law_draw) (sc := defScope s_law_draw) (by decide +kernel)) (fun _ _ _ _ _ => pg_name (i := 4) sc_law_draw.nd rfl (Or.inl rfl)) (fun _ _ _ _ _ c2 => dts_nil (y := ())) (fun _ _ _ _ _ c2 => (de_abs T.b_abs (de_intC T.b_int (de_var (i := 4) (d := c2)))))) (fun (cells_1 : D) => (ds_cons (ds_set (i := 3) sc_law_draw.nd (de_add de_int (de_mul de_int (de_var (i := 1) (d := a_law_salt))))) (fun (blend_3 : D) => (ds_cons (ds_for (sl := fun (s4 : D) => [.dat (a_law_script), .dat (a_law_salt), .dat (cells_1), .dat (s4), .un]) (j := 4) (bn := fun (y5 : D) (s4 : D) => N.seq (((((((.ok s4 : N D).bind fun x => (.ok (.int 48271) : N D).bind fun y => dMul x y : N D).bind fun x => ((.ok y5 : N D).bind fun x => (.ok (.int 2147483549) : N D).bind fun y => dMod x y : N D).bind fun y => dAdd x y : N D).bind fun x => (.ok (.int 11) : N D).bind fun y => dAdd x y : N D).bind dInt : N D).bind fun x => (.ok (.int 2147483647) : N D).bind fun y => dMod x y : N D).bind fun d => .ok (.nx d)) fun (blend_6 : D) => .ok (.nx (blend_6))) (blend_3) po_cx rfl rfl sc_law_draw.nd (de_var (i := 2) (d := cells_1)) (by repeat (first | exact Wk.nil | exact Wk.same (Wk.refl _) | apply Wk.same | apply Wk.un)) (fun y5 s4 => (ds_cons (ds_set (i := 3) sc_law_draw.nd (de_mod (de_intC T.b_int (de_add (de_add (de_mul (de_var (i := 3) (d := s4)) de_int) (de_mod (de_var (i := 4) (d := y5)) de_int)) de_int)) de_int)) (fun (blend_6 : D) => (ds_nilW (blend_6) (by repeat (first | exact Wk.nil | exact Wk.same (Wk.refl _) | apply Wk.same | apply Wk.un))))))) (fun (s4 : D) => (ds_one (ds_ret (de_deal T.dl (de_cells T.dl rfl (de_lc (j := 4) (n := 5) (tn := fun c7 => ((.ok c7 : N D).bind fun x => ((.ok (.int 10) : N D).bind fun x => (.ok (.int 18) : N D).bind fun y => dPow x y : N D).bind fun y => dGe x y : N D).bind N.tst) (fn := fun c7 => .ok c7) rfl rfl sc_law_draw.nd (de_var (i := 2) (d := cells_1)) (blkOk_by (own := [("_law_cell", 4)]) (N := N_law_draw) (sc := defScope s_law_draw) (by decide +kernel)) (fun _ _ _ _ _ => pg_name (i := 4) sc_law_draw.nd rfl (Or.inl rfl)) (fun _ _ _ _ _ c7 => (dts_one (dt_cmp op_ge (r2_I0 fun _ _ _ => .bl _) (iOp_tot _) (de_var (i := 4) (d := c7)) (de_pow de_int de_int) (nomark _)))) (fun _ _ _ _ _ c7 => (de_var (i := 4) (d := c7))))) (de_var (i := 3) (d := s4))))))))))))

abbrev s_law_of : Stmt := topS 20
abbrev N_law_of : List Str := ["_law_deal", "_law_some"]
theorem sc_law_of : FnScope N_law_of ["_law_deal", "_law_some"] (defScope s_law_of) := ⟨rfl, rfl, rfl, by decide +kernel, rfl, by decide +kernel, by decide +kernel⟩
def m_law_of (a_law_deal : D) (a_law_some : D) : N D := (((.ok a_law_some : N D).bind fun x => ((.ok a_law_deal : N D).bind fun x => ((.ok a_law_some : N D).bind dLen : N D).bind fun y => m_law_any x y : N D).bind fun y => dIx x y : N D).bind fun d => .ok (.rt d) : N (Fl Unit Unit)).fin
theorem ok_law_of {f : Addr} {fd : FuncData} (F : FunD Z.K "_law_of" "_law_of" (defArgs s_law_of) (defBody s_law_of) (defScope s_law_of) [] [] f fd) (T : Txt Z mg cW iE) (C_law_any : Df P w Z mg base "_law_any" 1 2 (app2 m_law_any)) : FnOk P w Z.K mg base (L2.CX P w) 2 f fd ["_law_deal", "_law_some"] (spN Z 2 (app2 m_law_of)) := by
  refine fn_okD (ps := ["_law_deal", "_law_some"]) F sc_law_of (ar2 _) (fun cdv A outer s H E F0 ds hr tk hl => ?_)
  match ds, hl with
  | [a_law_deal, a_law_some], _ =>
    refine ⟨Unit, Unit, fun _ => [.dat (a_law_deal), .dat (a_law_some)], fun _ => [.dat (a_law_deal), .dat (a_law_some)], _, ?_, fun _ _ h => h⟩
    exact ((ds_one (ds_ret (de_ixD rfl (de_var (i := 1) (d := a_law_some)) (de_call2 (Df.cal C_law_any (hr.mono (by decide))) tk (Wk.un' rfl) (de_var (i := 0) (d := a_law_deal)) (de_len rfl T.b_len (de_var (i := 1) (d := a_law_some))))))))

abbrev s_law_tried : Stmt := topS 21
abbrev N_law_tried : List Str := ["_law_word", "_law_values", "e"]
theorem sc_law_tried : FnScope N_law_tried ["_law_word", "_law_values"] (defScope s_law_tried) := ⟨rfl, rfl, rfl, by decide +kernel, rfl, by decide +kernel, by decide +kernel⟩
def m_law_tried (a_law_word : D) (a_law_values : D) : N D := (N.seq ((N.seq ((((.ok a_law_word : N D).bind fun x => (.ok (.str "letter") : N D).bind fun y => dEqS x y : N D).bind N.tst : N Bool).bind fun x => if x = true then (N.seq (((((.ok a_law_values : N D).bind fun x => (.ok (.int 0) : N D).bind fun y => dIx x y : N D).bind fun x => (((.ok a_law_values : N D).bind fun x => (.ok (.int 1) : N D).bind fun y => dIx x y : N D).bind fun x => (.ok [] : N (List D)).bind fun xs => .ok (x :: xs) : N (List D)).bind fun xs => .ok (x :: xs) : N (List D)).bind fun es => (N.asrt (es.length = 2)).bind fun _ => app2 m_need_letter (gD_need_letter_0_value_at [] es) : N D).bind fun _ => .ok (.nx ())) fun (_ : Unit) => .ok (.nx ())) else (N.seq ((((.ok a_law_word : N D).bind fun x => (.ok (.str "bag") : N D).bind fun y => dEqS x y : N D).bind N.tst : N Bool).bind fun x => if x = true then (N.seq (((((.ok a_law_values : N D).bind fun x => (.ok (.int 0) : N D).bind fun y => dIx x y : N D).bind fun x => (.ok [] : N (List D)).bind fun xs => .ok (x :: xs) : N (List D)).bind fun es => (N.asrt (es.length = 1)).bind fun _ => app1 m_need_bag (gD_need_bag_0_value [] es) : N D).bind fun _ => .ok (.nx ())) fun (_ : Unit) => .ok (.nx ())) else (N.seq ((((.ok a_law_word : N D).bind fun x => (.ok (.str "put") : N D).bind fun y => dEqS x y : N D).bind N.tst : N Bool).bind fun x => if x = true then (N.seq ((((.ok a_law_values : N D).bind fun x => (.ok (.int 0) : N D).bind fun y => dIx x y : N D).bind fun x => ((.ok a_law_values : N D).bind fun x => (.ok (.int 1) : N D).bind fun y => dIx x y : N D).bind fun y => m_put_letter x y : N D).bind fun _ => .ok (.nx ())) fun (_ : Unit) => .ok (.nx ())) else (N.seq ((((.ok a_law_values : N D).bind fun x => (.ok (.int 0) : N D).bind fun y => dIx x y : N D).bind fun x => ((.ok a_law_values : N D).bind fun x => (.ok (.int 1) : N D).bind fun y => dIx x y : N D).bind fun y => m_letter_at x y : N D).bind fun _ => .ok (.nx ())) fun (_ : Unit) => .ok (.nx ()))) fun (_ : Unit) => .ok (.nx ()))) fun (_ : Unit) => .ok (.nx ()))) fun (_ : Unit) => .ok (.nx ()) : N (Fl Unit Unit)).tryC fun c x => handle exT 1 c x [⟨0, some 2, fun x1 => (.ok x1 : N D).bind fun d => .ok (.rt d)⟩]) fun (_ : Unit) => (.ok .non : N D).bind fun d => .ok (.rt d) : N (Fl Unit Unit)).fin
theorem ok_law_tried {f : Addr} {fd : FuncData} (F : FunD Z.K "_law_tried" "_law_tried" (defArgs s_law_tried) (defBody s_law_tried) (defScope s_law_tried) [] [] f fd) (T : Txt Z mg cW iE) (C_put_letter : Df P w Z mg base "put_letter" 6 2 (app2 m_put_letter)) (C_letter_at : Df P w Z mg base "letter_at" 6 2 (app2 m_letter_at)) (G_need_letter_0_value_at : DfG P w Z mg base "need_letter" 4 0 ["value", "at"] gD_need_letter_0_value_at 2 (app2 m_need_letter)) (G_need_bag_0_value : DfG P w Z mg base "need_bag" 5 0 ["value"] gD_need_bag_0_value 1 (app1 m_need_bag)) : FnOk P w Z.K mg base (L2.CX P w) 7 f fd ["_law_word", "_law_values"] (spN Z 2 (app2 m_law_tried)) := by
  refine fn_okD (ps := ["_law_word", "_law_values"]) F sc_law_tried (ar2 _) (fun cdv A outer s H E F0 ds hr tk hl => ?_)
  match ds, hl with
  | [a_law_word, a_law_values], _ =>
    refine ⟨Unit, Unit, fun _ => [.dat (a_law_word), .dat (a_law_values), .un], fun _ => [.dat (a_law_word), .dat (a_law_values), .un], _, ?_, fun _ _ h => h⟩
    exact ((ds_cons (ds_try (sl := fun _ : Unit => [.dat (a_law_word), .dat (a_law_values), .un]) (sb := fun _ : Unit => [.dat (a_law_word), .dat (a_law_values), .un]) (Sh := [.dat (a_law_word), .dat (a_law_values), .un]) rfl rfl sc_law_tried.nd tk rfl (Wk.un' rfl) (.cons ⟨rfl, by decide, .inl T.e_InvalidLetter.gC⟩ ⟨rfl, rfl⟩ (fun i hi => by cases hi; exact Nat.le_of_ble_eq_true rfl) (fun c hc => T.ex c _ hc (by decide)) (fun a oe c d pn x1 hc he hz hf => (ds_one (ds_ret (de_exc (i := 2) rfl (fun C hC => by cases hC; exact T.eT c hc) ⟨_, rfl⟩ hz hf rfl (T.hx_InvalidLetter_at c he))))) (fun i t hi => by cases hi; rfl) (fun i t hi => by cases hi; rfl) .nil) (fun F0 W pn xe tk po => (ds_cons (ds_if (sl := fun _ : Unit => [.dat (a_law_word), .dat (a_law_values), .un]) (dt_cmp op_eq r2_EqS dEqS_tot (de_var (i := 0) (d := a_law_word)) de_str (nomark _)) (ds_cons (ds_expr (de_callKw0 (DfG.cal G_need_letter_0_value_at (hr.mono (by decide))) tk (by repeat (first | exact Wk.nil | exact Wk.same (Wk.refl _) | apply Wk.same | apply Wk.un)) (dk_cons (de_ixD rfl (de_var (i := 1) (d := a_law_values)) de_int) (dk_cons (de_ixD rfl (de_var (i := 1) (d := a_law_values)) de_int) dk_nil)))) (fun (_ : Unit) => (ds_nil ()))) (ds_cons (ds_if (sl := fun _ : Unit => [.dat (a_law_word), .dat (a_law_values), .un]) (dt_cmp op_eq r2_EqS dEqS_tot (de_var (i := 0) (d := a_law_word)) de_str (nomark _)) (ds_cons (ds_expr (de_callKw0 (DfG.cal G_need_bag_0_value (hr.mono (by decide))) tk (by repeat (first | exact Wk.nil | exact Wk.same (Wk.refl _) | apply Wk.same | apply Wk.un)) (dk_cons (de_ixD rfl (de_var (i := 1) (d := a_law_values)) de_int) dk_nil))) (fun (_ : Unit) => (ds_nil ()))) (ds_cons (ds_if (sl := fun _ : Unit => [.dat (a_law_word), .dat (a_law_values), .un]) (dt_cmp op_eq r2_EqS dEqS_tot (de_var (i := 0) (d := a_law_word)) de_str (nomark _)) (ds_cons (ds_expr (de_call2 (Df.cal C_put_letter (hr.mono (by decide))) tk (by repeat (first | exact Wk.nil | exact Wk.same (Wk.refl _) | apply Wk.same | apply Wk.un)) (de_ixD rfl (de_var (i := 1) (d := a_law_values)) de_int) (de_ixD rfl (de_var (i := 1) (d := a_law_values)) de_int))) (fun (_ : Unit) => (ds_nil ()))) (ds_cons (ds_expr (de_call2 (Df.cal C_letter_at (hr.mono (by decide))) tk (by repeat (first | exact Wk.nil | exact Wk.same (Wk.refl _) | apply Wk.same | apply Wk.un)) (de_ixD rfl (de_var (i := 1) (d := a_law_values)) de_int) (de_ixD rfl (de_var (i := 1) (d := a_law_values)) de_int))) (fun (_ : Unit) => (ds_nil ())))) (fun (_ : Unit) => (ds_nil ())))) (fun (_ : Unit) => (ds_nil ())))) (fun (_ : Unit) => (ds_nil ()))))) (fun (_ : Unit) => (ds_one (ds_ret de_non)))))

abbrev s_law_refusals : Stmt := topS 22
abbrev N_law_refusals : List Str := ["_law_deal", "_law_bag", "_law_odd", "_law_at"]
theorem sc_law_refusals : FnScope N_law_refusals ["_law_deal", "_law_bag"] (defScope s_law_refusals) := ⟨rfl, rfl, rfl, by decide +kernel, rfl, by decide +kernel, by decide +kernel⟩
def m_law_refusals (a_law_deal : D) (a_law_bag : D) : N D := (N.seq (((.ok a_law_deal : N D).bind fun x => (((.ok .non : N D).bind fun x => ((.ok (.int 3) : N D).bind fun x => ((.ok (.str "left") : N D).bind fun x => ((((.ok (.str "left") : N D).bind fun x => ((.ok (.int 0) : N D).bind fun x => (.ok [] : N (List D)).bind fun xs => .ok (x :: xs) : N (List D)).bind fun xs => .ok (x :: xs) : N (List D)).bind fun xs => (N.le1 xs).bind fun _ => .ok (.tup xs) : N D).bind fun x => ((((.ok (.str "lost") : N D).bind fun x => ((.ok (.int 0) : N D).bind fun x => ((.ok (.int 0) : N D).bind fun x => (.ok [] : N (List D)).bind fun xs => .ok (x :: xs) : N (List D)).bind fun xs => .ok (x :: xs) : N (List D)).bind fun xs => .ok (x :: xs) : N (List D)).bind fun xs => (N.le1 xs).bind fun _ => .ok (.tup xs) : N D).bind fun x => ((((.ok (.str "left") : N D).bind fun x => (((.ok (.int 1) : N D).bind dNeg : N D).bind fun x => ((.ok (.int 0) : N D).bind fun x => (.ok [] : N (List D)).bind fun xs => .ok (x :: xs) : N (List D)).bind fun xs => .ok (x :: xs) : N (List D)).bind fun xs => .ok (x :: xs) : N (List D)).bind fun xs => (N.le1 xs).bind fun _ => .ok (.tup xs) : N D).bind fun x => ((((.ok (.str "hold") : N D).bind fun x => ((.ok (.int 0) : N D).bind fun x => ((.ok (.bl true) : N D).bind fun x => (.ok [] : N (List D)).bind fun xs => .ok (x :: xs) : N (List D)).bind fun xs => .ok (x :: xs) : N (List D)).bind fun xs => .ok (x :: xs) : N (List D)).bind fun xs => (N.le1 xs).bind fun _ => .ok (.tup xs) : N D).bind fun x => ((((.ok (.str "hold") : N D).bind fun x => ((.ok (.str "0") : N D).bind fun x => ((.ok (.int 1) : N D).bind fun x => (.ok [] : N (List D)).bind fun xs => .ok (x :: xs) : N (List D)).bind fun xs => .ok (x :: xs) : N (List D)).bind fun xs => .ok (x :: xs) : N (List D)).bind fun xs => (N.le1 xs).bind fun _ => .ok (.tup xs) : N D).bind fun x => ((((.ok (.int 5) : N D).bind fun x => ((.ok (.int 0) : N D).bind fun x => ((.ok (.int 0) : N D).bind fun x => (.ok [] : N (List D)).bind fun xs => .ok (x :: xs) : N (List D)).bind fun xs => .ok (x :: xs) : N (List D)).bind fun xs => .ok (x :: xs) : N (List D)).bind fun xs => (N.le1 xs).bind fun _ => .ok (.tup xs) : N D).bind fun x => ((((.ok (.str "left") : N D).bind fun x => ((.ok (.int 0) : N D).bind fun x => ((.ok (.int 0) : N D).bind fun x => ((.ok (.int 0) : N D).bind fun x => (.ok [] : N (List D)).bind fun xs => .ok (x :: xs) : N (List D)).bind fun xs => .ok (x :: xs) : N (List D)).bind fun xs => .ok (x :: xs) : N (List D)).bind fun xs => .ok (x :: xs) : N (List D)).bind fun xs => (N.le1 xs).bind fun _ => .ok (.tup xs) : N D).bind fun x => ((((.ok (.str "left") : N D).bind fun x => ((.ok .non : N D).bind fun x => ((.ok (.int 0) : N D).bind fun x => (.ok [] : N (List D)).bind fun xs => .ok (x :: xs) : N (List D)).bind fun xs => .ok (x :: xs) : N (List D)).bind fun xs => .ok (x :: xs) : N (List D)).bind fun xs => (N.le1 xs).bind fun _ => .ok (.lst xs) : N D).bind fun x => (.ok [] : N (List D)).bind fun xs => .ok (x :: xs) : N (List D)).bind fun xs => .ok (x :: xs) : N (List D)).bind fun xs => .ok (x :: xs) : N (List D)).bind fun xs => .ok (x :: xs) : N (List D)).bind fun xs => .ok (x :: xs) : N (List D)).bind fun xs => .ok (x :: xs) : N (List D)).bind fun xs => .ok (x :: xs) : N (List D)).bind fun xs => .ok (x :: xs) : N (List D)).bind fun xs => .ok (x :: xs) : N (List D)).bind fun xs => .ok (x :: xs) : N (List D)).bind fun xs => .ok (x :: xs) : N (List D)).bind fun xs => (N.le1 xs).bind fun _ => .ok (.lst xs) : N D).bind fun y => m_law_of x y : N D).bind fun d => .ok (.nx d)) fun (odd_1 : D) => N.seq (((.ok a_law_deal : N D).bind fun x => (((.ok a_law_bag : N D).bind dLen : N D).bind fun x => (.ok (.int 1) : N D).bind fun y => dAdd x y : N D).bind fun y => m_law_any x y : N D).bind fun d => .ok (.nx d)) fun (at_2 : D) => N.seq ((((((.ok (.str "letter") : N D).bind fun x => (((.ok odd_1 : N D).bind fun x => ((.ok at_2 : N D).bind fun x => (.ok [] : N (List D)).bind fun xs => .ok (x :: xs) : N (List D)).bind fun xs => .ok (x :: xs) : N (List D)).bind fun xs => (N.le1 xs).bind fun _ => .ok (.tup xs) : N D).bind fun y => m_law_tried x y : N D).bind fun x => (.ok at_2 : N D).bind fun y => dNeD x y : N D).bind N.tst : N Bool).bind fun x => if x = true then .ok true else ((((.ok (.str "bag") : N D).bind fun x => ((((((.ok a_law_bag : N D).bind fun d => (.ok none : N (Option Int)).bind fun l => ((.ok at_2 : N D).bind fun d => (toI d).bind fun i => .ok (some i) : N (Option Int)).bind fun h => dSlT d l h : N D).bind fun x => (((.ok odd_1 : N D).bind fun x => (.ok [] : N (List D)).bind fun xs => .ok (x :: xs) : N (List D)).bind fun xs => (N.le1 xs).bind fun _ => .ok (.tup xs) : N D).bind fun y => dCat x y : N D).bind fun x => ((.ok a_law_bag : N D).bind fun d => ((.ok at_2 : N D).bind fun d => (toI d).bind fun i => .ok (some i) : N (Option Int)).bind fun l => (.ok none : N (Option Int)).bind fun h => dSlT d l h : N D).bind fun y => dCat x y : N D).bind fun x => (.ok [] : N (List D)).bind fun xs => .ok (x :: xs) : N (List D)).bind fun xs => (N.le1 xs).bind fun _ => .ok (.tup xs) : N D).bind fun y => m_law_tried x y : N D).bind fun x => (.ok at_2 : N D).bind fun y => dNeD x y : N D).bind N.tst) : N Bool).bind fun x => if x = true then ((.ok (.bl false) : N D).bind fun d => .ok (.rt d)) else (.ok (.nx ()))) fun (_ : Unit) => N.seq (((((.ok a_law_bag : N D).bind fun x => ((.ok [] : N (List D)).bind fun xs => (N.le1 xs).bind fun _ => .ok (.tup xs) : N D).bind fun y => dNeD x y : N D).bind N.tst : N Bool).bind fun x => if x = true then ((((.ok (.str "bag") : N D).bind fun x => ((((.ok a_law_bag : N D).bind fun x => ((.ok a_law_bag : N D).bind fun d => (.ok none : N (Option Int)).bind fun l => ((.ok (.int 1) : N D).bind fun d => (toI d).bind fun i => .ok (some i) : N (Option Int)).bind fun h => dSlT d l h : N D).bind fun y => dCat x y : N D).bind fun x => (.ok [] : N (List D)).bind fun xs => .ok (x :: xs) : N (List D)).bind fun xs => (N.le1 xs).bind fun _ => .ok (.tup xs) : N D).bind fun y => m_law_tried x y : N D).bind fun x => ((.ok a_law_bag : N D).bind dLen : N D).bind fun y => dNeD x y : N D).bind N.tst) else .ok false : N Bool).bind fun x => if x = true then ((.ok (.bl false) : N D).bind fun d => .ok (.rt d)) else (.ok (.nx ()))) fun (_ : Unit) => N.seq ((((((.ok (.str "put") : N D).bind fun x => ((((.ok a_law_bag : N D).bind fun x => (((.ok odd_1 : N D).bind fun x => (.ok [] : N (List D)).bind fun xs => .ok (x :: xs) : N (List D)).bind fun xs => (N.le1 xs).bind fun _ => .ok (.tup xs) : N D).bind fun y => dCat x y : N D).bind fun x => ((.ok odd_1 : N D).bind fun x => (.ok [] : N (List D)).bind fun xs => .ok (x :: xs) : N (List D)).bind fun xs => .ok (x :: xs) : N (List D)).bind fun xs => (N.le1 xs).bind fun _ => .ok (.tup xs) : N D).bind fun y => m_law_tried x y : N D).bind fun x => ((.ok a_law_bag : N D).bind dLen : N D).bind fun y => dNeD x y : N D).bind N.tst : N Bool).bind fun x => if x = true then .ok true else ((((.ok (.str "put") : N D).bind fun x => (((.ok a_law_bag : N D).bind fun x => ((.ok odd_1 : N D).bind fun x => (.ok [] : N (List D)).bind fun xs => .ok (x :: xs) : N (List D)).bind fun xs => .ok (x :: xs) : N (List D)).bind fun xs => (N.le1 xs).bind fun _ => .ok (.tup xs) : N D).bind fun y => m_law_tried x y : N D).bind fun x => ((.ok (.int 1) : N D).bind dNeg : N D).bind fun y => dNeD x y : N D).bind N.tst) : N Bool).bind fun x => if x = true then ((.ok (.bl false) : N D).bind fun d => .ok (.rt d)) else (.ok (.nx ()))) fun (_ : Unit) => N.seq (((((.ok (.str "bag") : N D).bind fun x => ((((.ok a_law_deal : N D).bind fun x => (((.ok .non : N D).bind fun x => ((.ok (.int 3) : N D).bind fun x => ((.ok (.str "left") : N D).bind fun x => (.ok [] : N (List D)).bind fun xs => .ok (x :: xs) : N (List D)).bind fun xs => .ok (x :: xs) : N (List D)).bind fun xs => .ok (x :: xs) : N (List D)).bind fun xs => (N.le1 xs).bind fun _ => .ok (.lst xs) : N D).bind fun y => m_law_of x y : N D).bind fun x => (.ok [] : N (List D)).bind fun xs => .ok (x :: xs) : N (List D)).bind fun xs => (N.le1 xs).bind fun _ => .ok (.tup xs) : N D).bind fun y => m_law_tried x y : N D).bind fun x => ((.ok (.int 1) : N D).bind dNeg : N D).bind fun y => dNeD x y : N D).bind N.tst : N Bool).bind fun x => if x = true then ((.ok (.bl false) : N D).bind fun d => .ok (.rt d)) else (.ok (.nx ()))) fun (_ : Unit) => (((.ok (.str "at") : N D).bind fun x => (((.ok a_law_bag : N D).bind fun x => (((.ok a_law_deal : N D).bind fun x => ((((.ok (.int 1) : N D).bind dNeg : N D).bind fun x => (((.ok a_law_bag : N D).bind dLen : N D).bind fun x => ((.ok .non : N D).bind fun x => ((.ok (.str "0") : N D).bind fun x => ((.ok (.bl true) : N D).bind fun x => (.ok [] : N (List D)).bind fun xs => .ok (x :: xs) : N (List D)).bind fun xs => .ok (x :: xs) : N (List D)).bind fun xs => .ok (x :: xs) : N (List D)).bind fun xs => .ok (x :: xs) : N (List D)).bind fun xs => .ok (x :: xs) : N (List D)).bind fun xs => (N.le1 xs).bind fun _ => .ok (.lst xs) : N D).bind fun y => m_law_of x y : N D).bind fun x => (.ok [] : N (List D)).bind fun xs => .ok (x :: xs) : N (List D)).bind fun xs => .ok (x :: xs) : N (List D)).bind fun xs => (N.le1 xs).bind fun _ => .ok (.tup xs) : N D).bind fun y => m_law_tried x y : N D).bind fun x => ((.ok (.int 1) : N D).bind dNeg : N D).bind fun y => dEqD x y : N D).bind fun d => .ok (.rt d) : N (Fl Unit Unit)).fin
theorem ok_law_refusals {f : Addr} {fd : FuncData} (F : FunD Z.K "_law_refusals" "_law_refusals" (defArgs s_law_refusals) (defBody s_law_refusals) (defScope s_law_refusals) [] [] f fd) (T : Txt Z mg cW iE) (C_law_of : Df P w Z mg base "_law_of" 2 2 (app2 m_law_of)) (C_law_any : Df P w Z mg base "_law_any" 1 2 (app2 m_law_any)) (C_law_tried : Df P w Z mg base "_law_tried" 7 2 (app2 m_law_tried)) : FnOk P w Z.K mg base (L2.CX P w) 8 f fd ["_law_deal", "_law_bag"] (spN Z 2 (app2 m_law_refusals)) := by
  refine fn_okD (ps := ["_law_deal", "_law_bag"]) F sc_law_refusals (ar2 _) (fun cdv A outer s H E F0 ds hr tk hl => ?_)
  match ds, hl with
  | [a_law_deal, a_law_bag], _ =>
    refine ⟨Unit, Unit, fun _ => [.dat (a_law_deal), .dat (a_law_bag), .un, .un], fun _ => [.dat (a_law_deal), .dat (a_law_bag), .un, .un], _, ?_, fun _ _ h => h⟩
    exact ((ds_cons (ds_set (i := 2) sc_law_refusals.nd (de_call2 (Df.cal C_law_of (hr.mono (by decide))) tk (Wk.un' rfl) (de_var (i := 0) (d := a_law_deal)) (de_lst (da_cons de_non (da_cons de_int (da_cons de_str (da_cons (de_tup (da_cons de_str (da_cons de_int da_nil))) (da_cons (de_tup (da_cons de_str (da_cons de_int (da_cons de_int da_nil)))) (da_cons (de_tup (da_cons de_str (da_cons (de_neg de_int) (da_cons de_int da_nil)))) (da_cons (de_tup (da_cons de_str (da_cons de_int (da_cons de_bl da_nil)))) (da_cons (de_tup (da_cons de_str (da_cons de_str (da_cons de_int da_nil)))) (da_cons (de_tup (da_cons de_int (da_cons de_int (da_cons de_int da_nil)))) (da_cons (de_tup (da_cons de_str (da_cons de_int (da_cons de_int (da_cons de_int da_nil))))) (da_cons (de_lst (da_cons de_str (da_cons de_non (da_cons de_int da_nil)))) da_nil)))))))))))))) (fun (odd_1 : D) => (ds_cons (ds_set (i := 3) sc_law_refusals.nd (de_call2 (Df.cal C_law_any (hr.mono (by decide))) tk (Wk.un' rfl) (de_var (i := 0) (d := a_law_deal)) (de_add (de_len rfl T.b_len (de_var (i := 1) (d := a_law_bag))) de_int))) (fun (at_2 : D) => (ds_cons (ds_if (sl := fun _ : Unit => [.dat (a_law_deal), .dat (a_law_bag), .dat (odd_1), .dat (at_2)]) (PW.pt (dw_or (dt_cmp (op_neD hr.units) r2_NeD dNeD_tot (de_call2 (Df.cal C_law_tried (hr.mono (by decide))) tk (Wk.un' rfl) de_str (de_tup (da_cons (de_var (i := 2) (d := odd_1)) (da_cons (de_var (i := 3) (d := at_2)) da_nil)))) (de_var (i := 3) (d := at_2)) (nomark _)) (dw_or1 (dt_cmp (op_neD hr.units) r2_NeD dNeD_tot (de_call2 (Df.cal C_law_tried (hr.mono (by decide))) tk (Wk.un' rfl) de_str (de_tup (da_cons (de_cat rfl (de_cat rfl (de_slT rfl (de_var (i := 1) (d := a_law_bag)) do_none (do_some (de_var (i := 3) (d := at_2)))) (de_tup (da_cons (de_var (i := 2) (d := odd_1)) da_nil))) (de_slT rfl (de_var (i := 1) (d := a_law_bag)) (do_some (de_var (i := 3) (d := at_2))) do_none)) da_nil))) (de_var (i := 3) (d := at_2)) (nomark _))))) (ds_one (ds_ret de_bl)) (ds_nil ())) (fun (_ : Unit) => (ds_cons (ds_if (sl := fun _ : Unit => [.dat (a_law_deal), .dat (a_law_bag), .dat (odd_1), .dat (at_2)]) (PW.pt (dw_and (dt_cmp (op_neD hr.units) r2_NeD dNeD_tot (de_var (i := 1) (d := a_law_bag)) (de_tup da_nil) (nomark _)) (dw_and1 (dt_cmp (op_neD hr.units) r2_NeD dNeD_tot (de_call2 (Df.cal C_law_tried (hr.mono (by decide))) tk (Wk.un' rfl) de_str (de_tup (da_cons (de_cat rfl (de_var (i := 1) (d := a_law_bag)) (de_slT rfl (de_var (i := 1) (d := a_law_bag)) do_none (do_some de_int))) da_nil))) (de_len rfl T.b_len (de_var (i := 1) (d := a_law_bag))) (nomark _))))) (ds_one (ds_ret de_bl)) (ds_nil ())) (fun (_ : Unit) => (ds_cons (ds_if (sl := fun _ : Unit => [.dat (a_law_deal), .dat (a_law_bag), .dat (odd_1), .dat (at_2)]) (PW.pt (dw_or (dt_cmp (op_neD hr.units) r2_NeD dNeD_tot (de_call2 (Df.cal C_law_tried (hr.mono (by decide))) tk (Wk.un' rfl) de_str (de_tup (da_cons (de_cat rfl (de_var (i := 1) (d := a_law_bag)) (de_tup (da_cons (de_var (i := 2) (d := odd_1)) da_nil))) (da_cons (de_var (i := 2) (d := odd_1)) da_nil)))) (de_len rfl T.b_len (de_var (i := 1) (d := a_law_bag))) (nomark _)) (dw_or1 (dt_cmp (op_neD hr.units) r2_NeD dNeD_tot (de_call2 (Df.cal C_law_tried (hr.mono (by decide))) tk (Wk.un' rfl) de_str (de_tup (da_cons (de_var (i := 1) (d := a_law_bag)) (da_cons (de_var (i := 2) (d := odd_1)) da_nil)))) (de_neg de_int) (nomark _))))) (ds_one (ds_ret de_bl)) (ds_nil ())) (fun (_ : Unit) => (ds_cons (ds_if (sl := fun _ : Unit => [.dat (a_law_deal), .dat (a_law_bag), .dat (odd_1), .dat (at_2)]) (dt_cmp (op_neD hr.units) r2_NeD dNeD_tot (de_call2 (Df.cal C_law_tried (hr.mono (by decide))) tk (Wk.un' rfl) de_str (de_tup (da_cons (de_call2 (Df.cal C_law_of (hr.mono (by decide))) tk (Wk.un' rfl) (de_var (i := 0) (d := a_law_deal)) (de_lst (da_cons de_non (da_cons de_int (da_cons de_str da_nil))))) da_nil))) (de_neg de_int) (nomark _)) (ds_one (ds_ret de_bl)) (ds_nil ())) (fun (_ : Unit) => (ds_one (ds_ret (de_cmp (op_eqD hr.units) r2_EqD dEqD_tot (de_call2 (Df.cal C_law_tried (hr.mono (by decide))) tk (Wk.un' rfl) de_str (de_tup (da_cons (de_var (i := 1) (d := a_law_bag)) (da_cons (de_call2 (Df.cal C_law_of (hr.mono (by decide))) tk (Wk.un' rfl) (de_var (i := 0) (d := a_law_deal)) (de_lst (da_cons (de_neg de_int) (da_cons (de_len rfl T.b_len (de_var (i := 1) (d := a_law_bag))) (da_cons de_non (da_cons de_str (da_cons de_bl da_nil))))))) da_nil)))) (de_neg de_int) (nomark _)))))))))))))))))

abbrev s_law_moduli : Stmt := topS 23
abbrev N_law_moduli : List Str := ["_law_deal", "_law_turn", "_law_told", "_law_meant", "_law_like", "_law_visit", "_law_least", "_law_modulus", "_law_one"]
theorem sc_law_moduli : FnScope N_law_moduli ["_law_deal"] (defScope s_law_moduli) := ⟨rfl, rfl, rfl, by decide +kernel, rfl, by decide +kernel, by decide +kernel⟩
def m_law_moduli (a_law_deal : D) : N D := (N.seq ((.ok (.int 6) : N D).bind fun d => (N.upTo d).bind fun xs => N.loop (fun (y2 : Int) (s1 : Unit) => N.seq (((((.ok a_law_deal : N D).bind fun x => (.ok (.int 20) : N D).bind fun y => m_law_any x y : N D).bind fun x => (((.ok a_law_deal : N D).bind fun x => (.ok (.int 20) : N D).bind fun y => m_law_any x y : N D).bind fun x => (((.ok (.int 2) : N D).bind fun x => ((.ok a_law_deal : N D).bind fun x => (.ok (.int 6) : N D).bind fun y => m_law_any x y : N D).bind fun y => dAdd x y : N D).bind fun x => (.ok [] : N (List D)).bind fun xs => .ok (x :: xs) : N (List D)).bind fun xs => .ok (x :: xs) : N (List D)).bind fun xs => .ok (x :: xs) : N (List D)).bind fun xs => (N.le1 xs).bind fun _ => .ok (.tup xs) : N D).bind fun d => (three d).bind fun t => .ok (.nx t)) fun (p3 : D × D × D) => N.seq (((((((.ok p3.1 : N D).bind fun x => ((.ok (.int 0) : N D).bind fun x => (.ok [] : N (List D)).bind fun xs => .ok (x :: xs) : N (List D)).bind fun xs => .ok (x :: xs) : N (List D)).bind fun es => (N.asrt (es.length = 2)).bind fun _ => app2 m_told_visit (gD_told_visit_0_visit_modulus [] es) : N D).bind fun x => (.ok p3.1 : N D).bind fun y => dNeD x y : N D).bind N.tst : N Bool).bind fun x => if x = true then .ok true else (((((.ok p3.1 : N D).bind fun x => ((.ok p3.2.1 : N D).bind fun x => ((.ok (.int 0) : N D).bind fun x => (.ok [] : N (List D)).bind fun xs => .ok (x :: xs) : N (List D)).bind fun xs => .ok (x :: xs) : N (List D)).bind fun xs => .ok (x :: xs) : N (List D)).bind fun es => (N.asrt (es.length = 3)).bind fun _ => app3 m_next_like (gD_next_like_0_told_least_modulus [] es) : N D).bind fun x => (.ok p3.1 : N D).bind fun y => dNeD x y : N D).bind N.tst) : N Bool).bind fun x => if x = true then ((.ok (.bl false) : N D).bind fun d => .ok (.rt d)) else (.ok (.nx ()))) fun (_ : Unit) => N.seq (((.ok p3.1 : N D).bind fun x => (.ok p3.2.2 : N D).bind fun y => m_told_visit x y : N D).bind fun d => .ok (.nx d)) fun (told_4 : D) => N.seq (((.ok told_4 : N D).bind fun x => (.ok p3.2.1 : N D).bind fun y => (.ok p3.2.2 : N D).bind fun z => m_next_like x y z : N D).bind fun d => .ok (.nx d)) fun (meant_5 : D) => N.seq (((.ok p3.2.1 : N D).bind fun d => ((.ok p3.2.1 : N D).bind fun x => (.ok p3.2.2 : N D).bind fun y => dAdd x y : N D).bind fun e => (N.span d e).bind fun xs => (N.comp (fun c7 => (((((.ok (.int c7) : N D).bind fun x => (.ok p3.1 : N D).bind fun y => dSub x y : N D).bind fun x => (.ok p3.2.2 : N D).bind fun y => dMod x y : N D).bind fun x => (.ok (.int 0) : N D).bind fun y => dEqS x y : N D).bind N.tst : N Bool)) (fun c7 => (.ok (.int c7) : N D)) xs).bind fun ys => .ok (D.lst ys)).bind fun d => .ok (.nx d)) fun (like_6 : D) => N.seq (((((.ok told_4 : N D).bind fun x => ((.ok p3.1 : N D).bind fun x => ((.ok p3.2.2 : N D).bind fun x => ((.ok p3.1 : N D).bind fun x => (.ok p3.2.2 : N D).bind fun y => dDiv x y : N D).bind fun y => dMul x y : N D).bind fun y => dSub x y : N D).bind fun y => dNeS x y : N D).bind N.tst : N Bool).bind fun x => if x = true then .ok true else (((.ok meant_5 : N D).bind fun x => ((.ok like_6 : N D).bind fun x => (.ok (.int 0) : N D).bind fun y => dIx x y : N D).bind fun y => dNeD x y : N D).bind N.tst) : N Bool).bind fun x => if x = true then ((.ok (.bl false) : N D).bind fun d => .ok (.rt d)) else (.ok (.nx ()))) fun (_ : Unit) => N.seq ((((dChain dLe dLt (.ok p3.2.1) (.ok p3.1) ((.ok p3.2.1 : N D).bind fun x => (.ok p3.2.2 : N D).bind fun y => dAdd x y)).bind N.tst : N Bool).bind fun x => if x = true then (((.ok meant_5 : N D).bind fun x => (.ok p3.1 : N D).bind fun y => dNeS x y : N D).bind N.tst) else .ok false : N Bool).bind fun x => if x = true then ((.ok (.bl false) : N D).bind fun d => .ok (.rt d)) else (.ok (.nx ()))) fun (_ : Unit) => .ok (.nx (()))) xs (())) fun (s1 : Unit) => (.ok (.bl true) : N D).bind fun d => .ok (.rt d) : N (Fl Unit Unit)).fin
theorem ok_law_moduli {f : Addr} {fd : FuncData} (F : FunD Z.K "_law_moduli" "_law_moduli" (defArgs s_law_moduli) (defBody s_law_moduli) (defScope s_law_moduli) [] [] f fd) (T : Txt Z mg cW iE) (C_law_any : Df P w Z mg base "_law_any" 1 2 (app2 m_law_any)) (C_told_visit : Df P w Z mg base "told_visit" 1 2 (app2 m_told_visit)) (C_next_like : Df P w Z mg base "next_like" 1 3 (app3 m_next_like)) (G_told_visit_0_visit_modulus : DfG P w Z mg base "told_visit" 1 0 ["visit", "modulus"] gD_told_visit_0_visit_modulus 2 (app2 m_told_visit)) (G_next_like_0_told_least_modulus : DfG P w Z mg base "next_like" 1 0 ["told", "least", "modulus"] gD_next_like_0_told_least_modulus 3 (app3 m_next_like)) : FnOk P w Z.K mg base (L2.CX P w) 2 f fd ["_law_deal"] (spN Z 1 (app1 m_law_moduli)) := by
  refine fn_okD (ps := ["_law_deal"]) F sc_law_moduli (ar1 _) (fun cdv A outer s H E F0 ds hr tk hl => ?_)
  match ds, hl with
  | [a_law_deal], _ =>
    refine ⟨Unit, Unit, fun _ => [.dat (a_law_deal), .un, .un, .un, .un, .un, .un, .un, .un], fun _ => [.dat (a_law_deal), .un, .un, .un, .un, .un, .un, .un, .un], _, ?_, fun _ _ h => h⟩
    exact ((ds_cons (ds_forR (sl := fun (s1 : Unit) => [.dat (a_law_deal), .un, .un, .un, .un, .un, .un, .un, .un]) (j := 1) (bn := fun (y2 : Int) (s1 : Unit) => N.seq (((((.ok a_law_deal : N D).bind fun x => (.ok (.int 20) : N D).bind fun y => m_law_any x y : N D).bind fun x => (((.ok a_law_deal : N D).bind fun x => (.ok (.int 20) : N D).bind fun y => m_law_any x y : N D).bind fun x => (((.ok (.int 2) : N D).bind fun x => ((.ok a_law_deal : N D).bind fun x => (.ok (.int 6) : N D).bind fun y => m_law_any x y : N D).bind fun y => dAdd x y : N D).bind fun x => (.ok [] : N (List D)).bind fun xs => .ok (x :: xs) : N (List D)).bind fun xs => .ok (x :: xs) : N (List D)).bind fun xs => .ok (x :: xs) : N (List D)).bind fun xs => (N.le1 xs).bind fun _ => .ok (.tup xs) : N D).bind fun d => (three d).bind fun t => .ok (.nx t)) fun (p3 : D × D × D) => N.seq (((((((.ok p3.1 : N D).bind fun x => ((.ok (.int 0) : N D).bind fun x => (.ok [] : N (List D)).bind fun xs => .ok (x :: xs) : N (List D)).bind fun xs => .ok (x :: xs) : N (List D)).bind fun es => (N.asrt (es.length = 2)).bind fun _ => app2 m_told_visit (gD_told_visit_0_visit_modulus [] es) : N D).bind fun x => (.ok p3.1 : N D).bind fun y => dNeD x y : N D).bind N.tst : N Bool).bind fun x => if x = true then .ok true else (((((.ok p3.1 : N D).bind fun x => ((.ok p3.2.1 : N D).bind fun x => ((.ok (.int 0) : N D).bind fun x => (.ok [] : N (List D)).bind fun xs => .ok (x :: xs) : N (List D)).bind fun xs => .ok (x :: xs) : N (List D)).bind fun xs => .ok (x :: xs) : N (List D)).bind fun es => (N.asrt (es.length = 3)).bind fun _ => app3 m_next_like (gD_next_like_0_told_least_modulus [] es) : N D).bind fun x => (.ok p3.1 : N D).bind fun y => dNeD x y : N D).bind N.tst) : N Bool).bind fun x => if x = true then ((.ok (.bl false) : N D).bind fun d => .ok (.rt d)) else (.ok (.nx ()))) fun (_ : Unit) => N.seq (((.ok p3.1 : N D).bind fun x => (.ok p3.2.2 : N D).bind fun y => m_told_visit x y : N D).bind fun d => .ok (.nx d)) fun (told_4 : D) => N.seq (((.ok told_4 : N D).bind fun x => (.ok p3.2.1 : N D).bind fun y => (.ok p3.2.2 : N D).bind fun z => m_next_like x y z : N D).bind fun d => .ok (.nx d)) fun (meant_5 : D) => N.seq (((.ok p3.2.1 : N D).bind fun d => ((.ok p3.2.1 : N D).bind fun x => (.ok p3.2.2 : N D).bind fun y => dAdd x y : N D).bind fun e => (N.span d e).bind fun xs => (N.comp (fun c7 => (((((.ok (.int c7) : N D).bind fun x => (.ok p3.1 : N D).bind fun y => dSub x y : N D).bind fun x => (.ok p3.2.2 : N D).bind fun y => dMod x y : N D).bind fun x => (.ok (.int 0) : N D).bind fun y => dEqS x y : N D).bind N.tst : N Bool)) (fun c7 => (.ok (.int c7) : N D)) xs).bind fun ys => .ok (D.lst ys)).bind fun d => .ok (.nx d)) fun (like_6 : D) => N.seq (((((.ok told_4 : N D).bind fun x => ((.ok p3.1 : N D).bind fun x => ((.ok p3.2.2 : N D).bind fun x => ((.ok p3.1 : N D).bind fun x => (.ok p3.2.2 : N D).bind fun y => dDiv x y : N D).bind fun y => dMul x y : N D).bind fun y => dSub x y : N D).bind fun y => dNeS x y : N D).bind N.tst : N Bool).bind fun x => if x = true then .ok true else (((.ok meant_5 : N D).bind fun x => ((.ok like_6 : N D).bind fun x => (.ok (.int 0) : N D).bind fun y => dIx x y : N D).bind fun y => dNeD x y : N D).bind N.tst) : N Bool).bind fun x => if x = true then ((.ok (.bl false) : N D).bind fun d => .ok (.rt d)) else (.ok (.nx ()))) fun (_ : Unit) => N.seq ((((dChain dLe dLt (.ok p3.2.1) (.ok p3.1) ((.ok p3.2.1 : N D).bind fun x => (.ok p3.2.2 : N D).bind fun y => dAdd x y)).bind N.tst : N Bool).bind fun x => if x = true then (((.ok meant_5 : N D).bind fun x => (.ok p3.1 : N D).bind fun y => dNeS x y : N D).bind N.tst) else .ok false : N Bool).bind fun x => if x = true then ((.ok (.bl false) : N D).bind fun d => .ok (.rt d)) else (.ok (.nx ()))) fun (_ : Unit) => .ok (.nx (()))) (()) po_cx rfl T.b_range sc_law_moduli.nd de_int (by repeat (first | exact Wk.nil | exact Wk.same (Wk.refl _) | apply Wk.same | apply Wk.un)) (fun y2 s1 => (ds_cons (ds_unp3 (i := 5) (j := 6) (l := 7) rfl rfl sc_law_moduli.nd (de_tup (da_cons (de_call2 (Df.cal C_law_any (hr.mono (by decide))) tk (Wk.un' rfl) (de_var (i := 0) (d := a_law_deal)) de_int) (da_cons (de_call2 (Df.cal C_law_any (hr.mono (by decide))) tk (Wk.un' rfl) (de_var (i := 0) (d := a_law_deal)) de_int) (da_cons (de_add de_int (de_call2 (Df.cal C_law_any (hr.mono (by decide))) tk (Wk.un' rfl) (de_var (i := 0) (d := a_law_deal)) de_int)) da_nil)))) rfl rfl rfl (by first | exact Or.inl rfl | exact Or.inr rfl) (by first | exact Or.inl rfl | exact Or.inr rfl) (by first | exact Or.inl rfl | exact Or.inr rfl)) (fun (p3 : D × D × D) => (ds_cons (ds_if (sl := fun _ : Unit => [.dat (a_law_deal), .dat ((.int y2)), .un, .un, .un, .dat (p3.1), .dat (p3.2.1), .dat (p3.2.2), .un]) (PW.pt (dw_or (dt_cmp (op_neD hr.units) r2_NeD dNeD_tot (de_callKw0 (DfG.cal G_told_visit_0_visit_modulus (hr.mono (by decide))) tk (Wk.un' rfl) (dk_cons (de_var (i := 5) (d := p3.1)) (dk_cons de_int dk_nil))) (de_var (i := 5) (d := p3.1)) (nomark _)) (dw_or1 (dt_cmp (op_neD hr.units) r2_NeD dNeD_tot (de_callKw0 (DfG.cal G_next_like_0_told_least_modulus (hr.mono (by decide))) tk (Wk.un' rfl) (dk_cons (de_var (i := 5) (d := p3.1)) (dk_cons (de_var (i := 6) (d := p3.2.1)) (dk_cons de_int dk_nil)))) (de_var (i := 5) (d := p3.1)) (nomark _))))) (ds_one (ds_ret de_bl)) (ds_nil ())) (fun (_ : Unit) => (ds_cons (ds_set (i := 2) sc_law_moduli.nd (de_call2 (Df.cal C_told_visit (hr.mono (by decide))) tk (Wk.un' rfl) (de_var (i := 5) (d := p3.1)) (de_var (i := 7) (d := p3.2.2)))) (fun (told_4 : D) => (ds_cons (ds_set (i := 3) sc_law_moduli.nd (de_call3 (Df.cal C_next_like (hr.mono (by decide))) tk (Wk.un' rfl) (de_var (i := 2) (d := told_4)) (de_var (i := 6) (d := p3.2.1)) (de_var (i := 7) (d := p3.2.2)))) (fun (meant_5 : D) => (ds_cons (ds_lcR (i := 4) (j := 8) (n := 9) (tn := fun c7 => ((((.ok (.int c7) : N D).bind fun x => (.ok p3.1 : N D).bind fun y => dSub x y : N D).bind fun x => (.ok p3.2.2 : N D).bind fun y => dMod x y : N D).bind fun x => (.ok (.int 0) : N D).bind fun y => dEqS x y : N D).bind N.tst) (fn := fun c7 => .ok (.int c7)) rfl sc_law_moduli.nd T.b_range (de_var (i := 6) (d := p3.2.1)) (de_add (de_var (i := 6) (d := p3.2.1)) (de_var (i := 7) (d := p3.2.2))) rfl rfl rfl rfl (by decide +kernel) (blkOk_by (own := [("_law_one", 8)]) (N := N_law_moduli) (sc := defScope s_law_moduli) (by decide +kernel)) (fun _ _ _ _ _ => pg_name (i := 8) sc_law_moduli.nd rfl (Or.inl rfl)) (fun _ _ _ _ _ c7 => (dts_one (dt_cmp op_eq r2_EqS dEqS_tot (de_mod (de_sub (de_var (i := 8) (d := (.int c7))) (de_var (i := 5) (d := p3.1))) (de_var (i := 7) (d := p3.2.2))) de_int (nomark _)))) (fun _ _ _ _ _ c7 => (de_var (i := 8) (d := (.int c7))))) (fun (like_6 : D) => (ds_cons (ds_if (sl := fun _ : Unit => [.dat (a_law_deal), .dat ((.int y2)), .dat (told_4), .dat (meant_5), .dat (like_6), .dat (p3.1), .dat (p3.2.1), .dat (p3.2.2), .un]) (PW.pt (dw_or (dt_cmp op_ne r2_NeS dNeS_tot (de_var (i := 2) (d := told_4)) (de_sub (de_var (i := 5) (d := p3.1)) (de_mul (de_var (i := 7) (d := p3.2.2)) (de_fdiv (de_var (i := 5) (d := p3.1)) (de_var (i := 7) (d := p3.2.2))))) (nomark _)) (dw_or1 (dt_cmp (op_neD hr.units) r2_NeD dNeD_tot (de_var (i := 3) (d := meant_5)) (de_ixD rfl (de_var (i := 4) (d := like_6)) de_int) (nomark _))))) (ds_one (ds_ret de_bl)) (ds_nil ())) (fun (_ : Unit) => (ds_cons (ds_if (sl := fun _ : Unit => [.dat (a_law_deal), .dat ((.int y2)), .dat (told_4), .dat (meant_5), .dat (like_6), .dat (p3.1), .dat (p3.2.1), .dat (p3.2.2), .un]) (PW.pt (dw_and (dt_chain op_le op_lt (r2_I0 fun _ _ _ => .bl _) (iOp_tot _) (r2_I0 fun _ _ _ => .bl _) (iOp_tot _) (de_var (i := 6) (d := p3.2.1)) (de_var (i := 5) (d := p3.1)) (de_add (de_var (i := 6) (d := p3.2.1)) (de_var (i := 7) (d := p3.2.2)))) (dw_and1 (dt_cmp op_ne r2_NeS dNeS_tot (de_var (i := 3) (d := meant_5)) (de_var (i := 5) (d := p3.1)) (nomark _))))) (ds_one (ds_ret de_bl)) (ds_nil ())) (fun (_ : Unit) => (ds_nilW (()) (by repeat (first | exact Wk.nil | exact Wk.same (Wk.refl _) | apply Wk.same | apply Wk.un))))))))))))))))))) (fun (s1 : Unit) => (ds_one (ds_ret de_bl)))))

abbrev s_law_anchor : Stmt := topS 24
abbrev N_law_anchor : List Str := ["_law_bag"]
theorem sc_law_anchor : FnScope N_law_anchor [] (defScope s_law_anchor) := ⟨rfl, rfl, rfl, by decide +kernel, rfl, by decide +kernel, by decide +kernel⟩
def m_law_anchor : N D := (N.seq (((((.ok [] : N (List D)).bind fun xs => (N.le1 xs).bind fun _ => .ok (.tup xs) : N D).bind fun x => ((((.ok (.str "left") : N D).bind fun x => ((.ok (.int 0) : N D).bind fun x => ((.ok (.int 2) : N D).bind fun x => (.ok [] : N (List D)).bind fun xs => .ok (x :: xs) : N (List D)).bind fun xs => .ok (x :: xs) : N (List D)).bind fun xs => .ok (x :: xs) : N (List D)).bind fun xs => (N.le1 xs).bind fun _ => .ok (.lst xs) : N D).bind fun x => (.ok [] : N (List D)).bind fun xs => .ok (x :: xs) : N (List D)).bind fun xs => .ok (x :: xs) : N (List D)).bind fun es => (N.asrt (es.length = 2)).bind fun _ => app2 m_put_letter (gD_put_letter_0_bag_letter [] es) : N D).bind fun d => .ok (.nx d)) fun (bag_1 : D) => N.seq (((((.ok bag_1 : N D).bind fun x => (((((.ok (.str "left") : N D).bind fun x => ((.ok (.int 0) : N D).bind fun x => ((.ok (.int 2) : N D).bind fun x => (.ok [] : N (List D)).bind fun xs => .ok (x :: xs) : N (List D)).bind fun xs => .ok (x :: xs) : N (List D)).bind fun xs => .ok (x :: xs) : N (List D)).bind fun xs => (N.le1 xs).bind fun _ => .ok (.tup xs) : N D).bind fun x => (.ok [] : N (List D)).bind fun xs => .ok (x :: xs) : N (List D)).bind fun xs => (N.le1 xs).bind fun _ => .ok (.tup xs) : N D).bind fun y => dNeD x y : N D).bind N.tst : N Bool).bind fun x => if x = true then .ok true else ((((.ok bag_1 : N D).bind fun x => (((.ok (.str "left") : N D).bind fun x => ((.ok (.int 0) : N D).bind fun x => ((.ok (.int 2) : N D).bind fun x => (.ok [] : N (List D)).bind fun xs => .ok (x :: xs) : N (List D)).bind fun xs => .ok (x :: xs) : N (List D)).bind fun xs => .ok (x :: xs) : N (List D)).bind fun xs => (N.le1 xs).bind fun _ => .ok (.tup xs) : N D).bind fun y => m_put_letter x y : N D).bind fun x => (.ok bag_1 : N D).bind fun y => dNeD x y : N D).bind N.tst) : N Bool).bind fun x => if x = true then ((.ok (.bl false) : N D).bind fun d => .ok (.rt d)) else (.ok (.nx ()))) fun (_ : Unit) => N.seq (((((((.ok bag_1 : N D).bind fun x => ((.ok (.int 0) : N D).bind fun x => (.ok [] : N (List D)).bind fun xs => .ok (x :: xs) : N (List D)).bind fun xs => .ok (x :: xs) : N (List D)).bind fun es => (N.asrt (es.length = 2)).bind fun _ => app2 m_letter_at (gD_letter_at_0_bag_number [] es) : N D).bind fun x => (((.ok (.str "left") : N D).bind fun x => ((.ok (.int 0) : N D).bind fun x => ((.ok (.int 2) : N D).bind fun x => (.ok [] : N (List D)).bind fun xs => .ok (x :: xs) : N (List D)).bind fun xs => .ok (x :: xs) : N (List D)).bind fun xs => .ok (x :: xs) : N (List D)).bind fun xs => (N.le1 xs).bind fun _ => .ok (.tup xs) : N D).bind fun y => dNeD x y : N D).bind N.tst : N Bool).bind fun x => if x = true then .ok true else (((((.ok (.int 1) : N D).bind fun x => (.ok (.int 4) : N D).bind fun y => (.ok (.int 3) : N D).bind fun z => m_next_like x y z : N D).bind fun x => (.ok (.int 4) : N D).bind fun y => dNeD x y : N D).bind N.tst : N Bool).bind fun x => if x = true then .ok true else (((((.ok [] : N (List D)).bind fun xs => (N.le1 xs).bind fun _ => .ok (.lst xs) : N D).bind fun x => m_need_bag x : N D).bind fun x => ((.ok [] : N (List D)).bind fun xs => (N.le1 xs).bind fun _ => .ok (.tup xs) : N D).bind fun y => dNeD x y : N D).bind N.tst)) : N Bool).bind fun x => if x = true then ((.ok (.bl false) : N D).bind fun d => .ok (.rt d)) else (.ok (.nx ()))) fun (_ : Unit) => (((.ok bag_1 : N D).bind fun x => (((.ok (.str "hold") : N D).bind fun x => ((.ok (.int 0) : N D).bind fun x => ((.ok (.int 2) : N D).bind fun x => (.ok [] : N (List D)).bind fun xs => .ok (x :: xs) : N (List D)).bind fun xs => .ok (x :: xs) : N (List D)).bind fun xs => .ok (x :: xs) : N (List D)).bind fun xs => (N.le1 xs).bind fun _ => .ok (.tup xs) : N D).bind fun y => m_put_letter x y : N D).bind fun x => (((((.ok (.str "left") : N D).bind fun x => ((.ok (.int 0) : N D).bind fun x => ((.ok (.int 2) : N D).bind fun x => (.ok [] : N (List D)).bind fun xs => .ok (x :: xs) : N (List D)).bind fun xs => .ok (x :: xs) : N (List D)).bind fun xs => .ok (x :: xs) : N (List D)).bind fun xs => (N.le1 xs).bind fun _ => .ok (.tup xs) : N D).bind fun x => ((((.ok (.str "hold") : N D).bind fun x => ((.ok (.int 0) : N D).bind fun x => ((.ok (.int 2) : N D).bind fun x => (.ok [] : N (List D)).bind fun xs => .ok (x :: xs) : N (List D)).bind fun xs => .ok (x :: xs) : N (List D)).bind fun xs => .ok (x :: xs) : N (List D)).bind fun xs => (N.le1 xs).bind fun _ => .ok (.tup xs) : N D).bind fun x => (.ok [] : N (List D)).bind fun xs => .ok (x :: xs) : N (List D)).bind fun xs => .ok (x :: xs) : N (List D)).bind fun xs => (N.le1 xs).bind fun _ => .ok (.tup xs) : N D).bind fun y => dEqD x y : N D).bind fun d => .ok (.rt d) : N (Fl Unit Unit)).fin
theorem ok_law_anchor {f : Addr} {fd : FuncData} (F : FunD Z.K "_law_anchor" "_law_anchor" (defArgs s_law_anchor) (defBody s_law_anchor) (defScope s_law_anchor) [] [] f fd) (T : Txt Z mg cW iE) (C_put_letter : Df P w Z mg base "put_letter" 6 2 (app2 m_put_letter)) (C_next_like : Df P w Z mg base "next_like" 1 3 (app3 m_next_like)) (C_need_bag : Df P w Z mg base "need_bag" 5 1 (app1 m_need_bag)) (G_put_letter_0_bag_letter : DfG P w Z mg base "put_letter" 6 0 ["bag", "letter"] gD_put_letter_0_bag_letter 2 (app2 m_put_letter)) (G_letter_at_0_bag_number : DfG P w Z mg base "letter_at" 6 0 ["bag", "number"] gD_letter_at_0_bag_number 2 (app2 m_letter_at)) : FnOk P w Z.K mg base (L2.CX P w) 7 f fd [] (spN Z 0 (app0 m_law_anchor)) := by
  refine fn_okD (ps := []) F sc_law_anchor (ar0 _) (fun cdv A outer s H E F0 ds hr tk hl => ?_)
  match ds, hl with
  | [], _ =>
    refine ⟨Unit, Unit, fun _ => [.un], fun _ => [.un], _, ?_, fun _ _ h => h⟩
    exact ((ds_cons (ds_set (i := 0) sc_law_anchor.nd (de_callKw0 (DfG.cal G_put_letter_0_bag_letter (hr.mono (by decide))) tk (Wk.un' rfl) (dk_cons (de_tup da_nil) (dk_cons (de_lst (da_cons de_str (da_cons de_int (da_cons de_int da_nil)))) dk_nil)))) (fun (bag_1 : D) => (ds_cons (ds_if (sl := fun _ : Unit => [.dat (bag_1)]) (PW.pt (dw_or (dt_cmp (op_neD hr.units) r2_NeD dNeD_tot (de_var (i := 0) (d := bag_1)) (de_tup (da_cons (de_tup (da_cons de_str (da_cons de_int (da_cons de_int da_nil)))) da_nil)) (nomark _)) (dw_or1 (dt_cmp (op_neD hr.units) r2_NeD dNeD_tot (de_call2 (Df.cal C_put_letter (hr.mono (by decide))) tk (Wk.un' rfl) (de_var (i := 0) (d := bag_1)) (de_tup (da_cons de_str (da_cons de_int (da_cons de_int da_nil))))) (de_var (i := 0) (d := bag_1)) (nomark _))))) (ds_one (ds_ret de_bl)) (ds_nil ())) (fun (_ : Unit) => (ds_cons (ds_if (sl := fun _ : Unit => [.dat (bag_1)]) (PW.pt (dw_or (dt_cmp (op_neD hr.units) r2_NeD dNeD_tot (de_callKw0 (DfG.cal G_letter_at_0_bag_number (hr.mono (by decide))) tk (Wk.un' rfl) (dk_cons (de_var (i := 0) (d := bag_1)) (dk_cons de_int dk_nil))) (de_tup (da_cons de_str (da_cons de_int (da_cons de_int da_nil)))) (nomark _)) (dw_or (dt_cmp (op_neD hr.units) r2_NeD dNeD_tot (de_call3 (Df.cal C_next_like (hr.mono (by decide))) tk (Wk.un' rfl) de_int de_int de_int) de_int (nomark _)) (dw_or1 (dt_cmp (op_neD hr.units) r2_NeD dNeD_tot (de_call1 (Df.cal C_need_bag (hr.mono (by decide))) tk (Wk.un' rfl) (de_lst da_nil)) (de_tup da_nil) (nomark _)))))) (ds_one (ds_ret de_bl)) (ds_nil ())) (fun (_ : Unit) => (ds_one (ds_ret (de_cmp (op_eqD hr.units) r2_EqD dEqD_tot (de_call2 (Df.cal C_put_letter (hr.mono (by decide))) tk (Wk.un' rfl) (de_var (i := 0) (d := bag_1)) (de_tup (da_cons de_str (da_cons de_int (da_cons de_int da_nil))))) (de_tup (da_cons (de_tup (da_cons de_str (da_cons de_int (da_cons de_int da_nil)))) (da_cons (de_tup (da_cons de_str (da_cons de_int (da_cons de_int da_nil)))) da_nil))) (nomark _)))))))))))

abbrev s_law : Stmt := topS 25
abbrev N_law : List Str := ["_law_script", "_law_deal", "_law_turn", "_law_bag", "_law_due", "_law_letter", "_law_given", "_law_number", "_law_one"]
theorem sc_law : FnScope N_law ["_law_script"] (defScope s_law) := ⟨rfl, rfl, rfl, by decide +kernel, rfl, by decide +kernel, by decide +kernel⟩
def m_law (a_law_script : D) : N D := (N.seq (((.ok a_law_script : N D).bind fun x => (.ok (.int 72) : N D).bind fun y => m_law_draw x y : N D).bind fun d => .ok (.nx d)) fun (deal_1 : D) => N.seq (((((.ok [] : N (List D)).bind fun es => (N.asrt (es.length = 0)).bind fun _ => app0 m_law_anchor (gD_law_anchor_0 [] es) : N D).bind N.tst : N Bool).bind fun b => .ok (!b) : N Bool).bind fun x => if x = true then ((.ok (.bl false) : N D).bind fun d => .ok (.rt d)) else (.ok (.nx ()))) fun (_ : Unit) => N.seq (((.ok [] : N (List D)).bind fun xs => (N.le1 xs).bind fun _ => .ok (.tup xs) : N D).bind fun d => .ok (.nx d)) fun (b2 : D) => N.seq (((.ok deal_1 : N D).bind fun x => (.ok (.int 15) : N D).bind fun y => m_law_any x y : N D).bind fun d => (N.upTo d).bind fun xs => N.loop (fun (y4 : Int) (s3 : (List D) × D) => N.seq (((((.ok deal_1 : N D).bind fun x => (((.ok (.str "left") : N D).bind fun x => ((.ok (.str "hold") : N D).bind fun x => (.ok [] : N (List D)).bind fun xs => .ok (x :: xs) : N (List D)).bind fun xs => .ok (x :: xs) : N (List D)).bind fun xs => (N.le1 xs).bind fun _ => .ok (.lst xs) : N D).bind fun y => m_law_of x y : N D).bind fun x => (((.ok deal_1 : N D).bind fun x => (.ok (.int 3) : N D).bind fun y => m_law_any x y : N D).bind fun x => (((.ok deal_1 : N D).bind fun x => (.ok (.int 4) : N D).bind fun y => m_law_any x y : N D).bind fun x => (.ok [] : N (List D)).bind fun xs => .ok (x :: xs) : N (List D)).bind fun xs => .ok (x :: xs) : N (List D)).bind fun xs => .ok (x :: xs) : N (List D)).bind fun xs => (N.le1 xs).bind fun _ => .ok (.tup xs) : N D).bind fun d => .ok (.nx d)) fun (letter_5 : D) => N.seq ((((.ok letter_5 : N D).bind fun d => dNotInD d (.lst s3.1) : N D).bind N.tst : N Bool).bind fun x => if x = true then (N.seq ((.ok letter_5 : N D).bind fun d => (N.asrt ((s3.1 : List D).length < sizeLine)).bind fun _ => .ok (.nx d)) fun (a7 : D) => .ok (.nx ((s3.1 ++ [a7])))) else (.ok (.nx (s3.1)))) fun (j6 : (List D)) => N.seq (((.ok deal_1 : N D).bind fun x => (((.ok s3.2 : N D).bind fun x => (((.ok s3.2 : N D).bind fun d => (seqOf d).bind fun xs => (N.fits xs).bind fun _ => (N.comp (fun c9 => (.ok true : N Bool)) (fun c9 => ((.ok c9 : N D).bind dList : N D)) xs).bind fun ys => .ok (.lst ys) : N D).bind fun x => (.ok [] : N (List D)).bind fun xs => .ok (x :: xs) : N (List D)).bind fun xs => .ok (x :: xs) : N (List D)).bind fun xs => (N.le1 xs).bind fun _ => .ok (.lst xs) : N D).bind fun y => m_law_of x y : N D).bind fun d => .ok (.nx d)) fun (given_8 : D) => N.seq (((.ok given_8 : N D).bind fun x => ((.ok deal_1 : N D).bind fun x => (((.ok letter_5 : N D).bind fun x => (((.ok letter_5 : N D).bind dList : N D).bind fun x => (.ok [] : N (List D)).bind fun xs => .ok (x :: xs) : N (List D)).bind fun xs => .ok (x :: xs) : N (List D)).bind fun xs => (N.le1 xs).bind fun _ => .ok (.lst xs) : N D).bind fun y => m_law_of x y : N D).bind fun y => m_put_letter x y : N D).bind fun d => .ok (.nx d)) fun (bag_10 : D) => N.seq (((((.ok bag_10 : N D).bind fun x => (.ok (.tup j6) : N D).bind fun y => dNeD x y : N D).bind N.tst : N Bool).bind fun x => if x = true then .ok true else ((((((.ok bag_10 : N D).bind fun d => (seqOf d).bind fun xs => (N.fits xs).bind fun _ => (N.comp (fun c11 => (.ok true : N Bool)) (fun c11 => ((.ok c11 : N D).bind dList : N D)) xs).bind fun ys => .ok (.lst ys) : N D).bind fun x => m_need_bag x : N D).bind fun x => (.ok bag_10 : N D).bind fun y => dNeD x y : N D).bind N.tst : N Bool).bind fun x => if x = true then .ok true else ((((((.ok letter_5 : N D).bind dList : N D).bind fun x => (.ok [] : N (List D)).bind fun xs => .ok (x :: xs) : N (List D)).bind fun ds => (N.asrt (ds.length = 1)).bind fun _ => app2 m_need_letter (gD_need_letter_1 ds []) : N D).bind fun x => (.ok letter_5 : N D).bind fun y => dNeD x y : N D).bind N.tst)) : N Bool).bind fun x => if x = true then ((.ok (.bl false) : N D).bind fun d => .ok (.rt d)) else (.ok (.nx ()))) fun (_ : Unit) => N.seq (((.ok deal_1 : N D).bind fun x => ((.ok bag_10 : N D).bind dLen : N D).bind fun y => m_law_any x y : N D).bind fun d => .ok (.nx d)) fun (number_12 : D) => N.seq ((((((.ok bag_10 : N D).bind fun x => (.ok number_12 : N D).bind fun y => m_letter_at x y : N D).bind fun x => ((.ok number_12 : N D).bind fun y => dIx (.lst j6) y : N D).bind fun y => dNeD x y : N D).bind N.tst : N Bool).bind fun x => if x = true then .ok true else ((((.ok bag_10 : N D).bind fun x => (.ok number_12 : N D).bind fun y => m_letter_at x y : N D).bind fun x => ((.ok number_12 : N D).bind fun y => dIx (.lst j6) y : N D).bind fun y => dNeD x y : N D).bind N.tst) : N Bool).bind fun x => if x = true then ((.ok (.bl false) : N D).bind fun d => .ok (.rt d)) else (.ok (.nx ()))) fun (_ : Unit) => .ok (.nx ((j6, bag_10)))) xs (([], b2))) fun (s3 : (List D) × D) => (((.ok deal_1 : N D).bind fun x => m_law_moduli x : N D).bind fun x => (N.tst x).bind fun c => if c = true then ((.ok deal_1 : N D).bind fun x => (.ok s3.2 : N D).bind fun y => m_law_refusals x y) else .ok (.bl false) : N D).bind fun d => .ok (.rt d) : N (Fl Unit Unit)).fin
theorem ok_law {f : Addr} {fd : FuncData} (F : FunD Z.K "law" "law" (defArgs s_law) (defBody s_law) (defScope s_law) [] [] f fd) (T : Txt Z mg cW iE) (C_law_draw : Df P w Z mg base "_law_draw" 1 2 (app2 m_law_draw)) (C_law_any : Df P w Z mg base "_law_any" 1 2 (app2 m_law_any)) (C_law_of : Df P w Z mg base "_law_of" 2 2 (app2 m_law_of)) (C_put_letter : Df P w Z mg base "put_letter" 6 2 (app2 m_put_letter)) (C_need_bag : Df P w Z mg base "need_bag" 5 1 (app1 m_need_bag)) (C_letter_at : Df P w Z mg base "letter_at" 6 2 (app2 m_letter_at)) (C_law_moduli : Df P w Z mg base "_law_moduli" 2 1 (app1 m_law_moduli)) (C_law_refusals : Df P w Z mg base "_law_refusals" 8 2 (app2 m_law_refusals)) (G_law_anchor_0 : DfG P w Z mg base "_law_anchor" 7 0 [] gD_law_anchor_0 0 (app0 m_law_anchor)) (G_need_letter_1 : DfG P w Z mg base "need_letter" 4 1 [] gD_need_letter_1 2 (app2 m_need_letter)) : FnOk P w Z.K mg base (L2.CX P w) 9 f fd ["_law_script"] (spN Z 1 (app1 m_law)) := by
  refine fn_okD (ps := ["_law_script"]) F sc_law (ar1 _) (fun cdv A outer s H E F0 ds hr tk hl => ?_)
  match ds, hl with
  | [a_law_script], _ =>
    refine ⟨Unit, Unit, fun _ => [.dat (a_law_script), .un, .un, .un, .un, .un, .un, .un, .un], fun _ => [.dat (a_law_script), .un, .un, .un, .un, .un, .un, .un, .un], _, ?_, fun _ _ h => h⟩
    exact ((ds_cons (ds_set (i := 1) sc_law.nd (de_call2 (Df.cal C_law_draw (hr.mono (by decide))) tk (Wk.un' rfl) (de_var (i := 0) (d := a_law_script)) de_int)) (fun (deal_1 : D) => (ds_cons (ds_if (sl := fun _ : Unit => [.dat (a_law_script), .dat (deal_1), .un, .un, .un, .un, .un, .un, .un]) (dt_not (dt_val (de_callKw0 (DfG.cal G_law_anchor_0 (hr.mono (by decide))) tk (Wk.un' rfl) dk_nil))) (ds_one (ds_ret de_bl)) (ds_nil ())) (fun (_ : Unit) => (ds_cons (ds_parL (i := 3) (j := 4) rfl sc_law.nd (de_tup da_nil) rfl rfl (by decide) rfl rfl rfl) (fun (b2 : D) => (ds_cons (ds_forR (sl := fun (s3 : (List D) × D) => [.dat (a_law_script), .dat (deal_1), .un, .dat (s3.2), .own (.lst (s3.1)), .un, .un, .un, .un]) (j := 2) (bn := fun (y4 : Int) (s3 : (List D) × D) => N.seq (((((.ok deal_1 : N D).bind fun x => (((.ok (.str "left") : N D).bind fun x => ((.ok (.str "hold") : N D).bind fun x => (.ok [] : N (List D)).bind fun xs => .ok (x :: xs) : N (List D)).bind fun xs => .ok (x :: xs) : N (List D)).bind fun xs => (N.le1 xs).bind fun _ => .ok (.lst xs) : N D).bind fun y => m_law_of x y : N D).bind fun x => (((.ok deal_1 : N D).bind fun x => (.ok (.int 3) : N D).bind fun y => m_law_any x y : N D).bind fun x => (((.ok deal_1 : N D).bind fun x => (.ok (.int 4) : N D).bind fun y => m_law_any x y : N D).bind fun x => (.ok [] : N (List D)).bind fun xs => .ok (x :: xs) : N (List D)).bind fun xs => .ok (x :: xs) : N (List D)).bind fun xs => .ok (x :: xs) : N (List D)).bind fun xs => (N.le1 xs).bind fun _ => .ok (.tup xs) : N D).bind fun d => .ok (.nx d)) fun (letter_5 : D) => N.seq ((((.ok letter_5 : N D).bind fun d => dNotInD d (.lst s3.1) : N D).bind N.tst : N Bool).bind fun x => if x = true then (N.seq ((.ok letter_5 : N D).bind fun d => (N.asrt ((s3.1 : List D).length < sizeLine)).bind fun _ => .ok (.nx d)) fun (a7 : D) => .ok (.nx ((s3.1 ++ [a7])))) else (.ok (.nx (s3.1)))) fun (j6 : (List D)) => N.seq (((.ok deal_1 : N D).bind fun x => (((.ok s3.2 : N D).bind fun x => (((.ok s3.2 : N D).bind fun d => (seqOf d).bind fun xs => (N.fits xs).bind fun _ => (N.comp (fun c9 => (.ok true : N Bool)) (fun c9 => ((.ok c9 : N D).bind dList : N D)) xs).bind fun ys => .ok (.lst ys) : N D).bind fun x => (.ok [] : N (List D)).bind fun xs => .ok (x :: xs) : N (List D)).bind fun xs => .ok (x :: xs) : N (List D)).bind fun xs => (N.le1 xs).bind fun _ => .ok (.lst xs) : N D).bind fun y => m_law_of x y : N D).bind fun d => .ok (.nx d)) fun (given_8 : D) => N.seq (((.ok given_8 : N D).bind fun x => ((.ok deal_1 : N D).bind fun x => (((.ok letter_5 : N D).bind fun x => (((.ok letter_5 : N D).bind dList : N D).bind fun x => (.ok [] : N (List D)).bind fun xs => .ok (x :: xs) : N (List D)).bind fun xs => .ok (x :: xs) : N (List D)).bind fun xs => (N.le1 xs).bind fun _ => .ok (.lst xs) : N D).bind fun y => m_law_of x y : N D).bind fun y => m_put_letter x y : N D).bind fun d => .ok (.nx d)) fun (bag_10 : D) => N.seq (((((.ok bag_10 : N D).bind fun x => (.ok (.tup j6) : N D).bind fun y => dNeD x y : N D).bind N.tst : N Bool).bind fun x => if x = true then .ok true else ((((((.ok bag_10 : N D).bind fun d => (seqOf d).bind fun xs => (N.fits xs).bind fun _ => (N.comp (fun c11 => (.ok true : N Bool)) (fun c11 => ((.ok c11 : N D).bind dList : N D)) xs).bind fun ys => .ok (.lst ys) : N D).bind fun x => m_need_bag x : N D).bind fun x => (.ok bag_10 : N D).bind fun y => dNeD x y : N D).bind N.tst : N Bool).bind fun x => if x = true then .ok true else ((((((.ok letter_5 : N D).bind dList : N D).bind fun x => (.ok [] : N (List D)).bind fun xs => .ok (x :: xs) : N (List D)).bind fun ds => (N.asrt (ds.length = 1)).bind fun _ => app2 m_need_letter (gD_need_letter_1 ds []) : N D).bind fun x => (.ok letter_5 : N D).bind fun y => dNeD x y : N D).bind N.tst)) : N Bool).bind fun x => if x = true then ((.ok (.bl false) : N D).bind fun d => .ok (.rt d)) else (.ok (.nx ()))) fun (_ : Unit) => N.seq (((.ok deal_1 : N D).bind fun x => ((.ok bag_10 : N D).bind dLen : N D).bind fun y => m_law_any x y : N D).bind fun d => .ok (.nx d)) fun (number_12 : D) => N.seq ((((((.ok bag_10 : N D).bind fun x => (.ok number_12 : N D).bind fun y => m_letter_at x y : N D).bind fun x => ((.ok number_12 : N D).bind fun y => dIx (.lst j6) y : N D).bind fun y => dNeD x y : N D).bind N.tst : N Bool).bind fun x => if x = true then .ok true else ((((.ok bag_10 : N D).bind fun x => (.ok number_12 : N D).bind fun y => m_letter_at x y : N D).bind fun x => ((.ok number_12 : N D).bind fun y => dIx (.lst j6) y : N D).bind fun y => dNeD x y : N D).bind N.tst) : N Bool).bind fun x => if x = true then ((.ok (.bl false) : N D).bind fun d => .ok (.rt d)) else (.ok (.nx ()))) fun (_ : Unit) => .ok (.nx ((j6, bag_10)))) (([], b2)) po_cx rfl T.b_range sc_law.nd (de_call2 (Df.cal C_law_any (hr.mono (by decide))) tk (Wk.un' rfl) (de_var (i := 1) (d := deal_1)) de_int) (by repeat (first | exact Wk.nil | exact Wk.same (Wk.refl _) | apply Wk.same | apply Wk.un)) (fun y4 s3 => (ds_cons (ds_set (i := 5) sc_law.nd (de_tup (da_cons (de_call2 (Df.cal C_law_of (hr.mono (by decide))) tk (Wk.un' rfl) (de_var (i := 1) (d := deal_1)) (de_lst (da_cons de_str (da_cons de_str da_nil)))) (da_cons (de_call2 (Df.cal C_law_any (hr.mono (by decide))) tk (Wk.un' rfl) (de_var (i := 1) (d := deal_1)) de_int) (da_cons (de_call2 (Df.cal C_law_any (hr.mono (by decide))) tk (Wk.un' rfl) (de_var (i := 1) (d := deal_1)) de_int) da_nil))))) (fun (letter_5 : D) => (ds_cons (ds_if (sl := fun (j6 : (List D)) => [.dat (a_law_script), .dat (deal_1), .dat ((.int y4)), .dat (s3.2), .own (.lst (j6)), .dat (letter_5), .un, .un, .un]) (dt_notInO (i := 4) (ds := s3.1) hr rfl rfl rfl (de_var (i := 5) (d := letter_5))) (ds_cons (ds_appX (i := 4) (ds := s3.1) rfl rfl (de_var (i := 5) (d := letter_5))) (fun (a7 : D) => (ds_nil ((s3.1 ++ [a7]))))) (ds_nil (s3.1))) (fun (j6 : (List D)) => (ds_cons (ds_set (i := 6) sc_law.nd (de_call2 (Df.cal C_law_of (hr.mono (by decide))) tk (Wk.un' rfl) (de_var (i := 1) (d := deal_1)) (de_lst (da_cons (de_var (i := 3) (d := s3.2)) (da_cons (de_lc (j := 8) (n := 9) (tn := fun c9 => .ok true) (fn := fun c9 => (.ok c9 : N D).bind dList) rfl rfl sc_law.nd (de_var (i := 3) (d := s3.2)) (blkOk_by (own := [("_law_one", 8)]) (N := N_law) (sc := defScope s_law) (by decide +kernel)) (fun _ _ _ _ _ => pg_name (i := 8) sc_law.nd rfl (Or.inl rfl)) (fun _ _ _ _ _ c9 => dts_nil (y := ())) (fun _ _ _ _ _ c9 => (de_list rfl T.b_list (de_var (i := 8) (d := c9))))) da_nil))))) (fun (given_8 : D) => (ds_cons (ds_set (i := 3) sc_law.nd (de_call2 (Df.cal C_put_letter (hr.mono (by decide))) tk (Wk.un' rfl) (de_var (i := 6) (d := given_8)) (de_call2 (Df.cal C_law_of (hr.mono (by decide))) tk (Wk.un' rfl) (de_var (i := 1) (d := deal_1)) (de_lst (da_cons (de_var (i := 5) (d := letter_5)) (da_cons (de_list rfl T.b_list (de_var (i := 5) (d := letter_5))) da_nil)))))) (fun (bag_10 : D) => (ds_cons (ds_if (sl := fun _ : Unit => [.dat (a_law_script), .dat (deal_1), .dat ((.int y4)), .dat (bag_10), .own (.lst (j6)), .dat (letter_5), .dat (given_8), .un, .un]) (PW.pt (dw_or (dt_cmp (op_neD hr.units) r2_NeD dNeD_tot (de_var (i := 3) (d := bag_10)) (de_tupleO (i := 4) (ds := j6) T.b_tuple rfl rfl) (nomark _)) (dw_or (dt_cmp (op_neD hr.units) r2_NeD dNeD_tot (de_call1 (Df.cal C_need_bag (hr.mono (by decide))) tk (Wk.un' rfl) (de_lc (j := 8) (n := 9) (tn := fun c11 => .ok true) (fn := fun c11 => (.ok c11 : N D).bind dList) rfl rfl sc_law.nd (de_var (i := 3) (d := bag_10)) (blkOk_by (own := [("_law_one", 8)]) (N := N_law) (sc := defScope s_law) (by decide +kernel)) (fun _ _ _ _ _ => pg_name (i := 8) sc_law.nd rfl (Or.inl rfl)) (fun _ _ _ _ _ c11 => dts_nil (y := ())) (fun _ _ _ _ _ c11 => (de_list rfl T.b_list (de_var (i := 8) (d := c11)))))) (de_var (i := 3) (d := bag_10)) (nomark _)) (dw_or1 (dt_cmp (op_neD hr.units) r2_NeD dNeD_tot (de_callDf (DfG.cal G_need_letter_1 (hr.mono (by decide))) tk (Wk.un' rfl) (da_cons (de_list rfl T.b_list (de_var (i := 5) (d := letter_5))) da_nil)) (de_var (i := 5) (d := letter_5)) (nomark _)))))) (ds_one (ds_ret de_bl)) (ds_nil ())) (fun (_ : Unit) => (ds_cons (ds_set (i := 7) sc_law.nd (de_call2 (Df.cal C_law_any (hr.mono (by decide))) tk (Wk.un' rfl) (de_var (i := 1) (d := deal_1)) (de_len rfl T.b_len (de_var (i := 3) (d := bag_10))))) (fun (number_12 : D) => (ds_cons (ds_if (sl := fun _ : Unit => [.dat (a_law_script), .dat (deal_1), .dat ((.int y4)), .dat (bag_10), .own (.lst (j6)), .dat (letter_5), .dat (given_8), .dat (number_12), .un]) (PW.pt (dw_or (dt_cmp (op_neD hr.units) r2_NeD dNeD_tot (de_call2 (Df.cal C_letter_at (hr.mono (by decide))) tk (Wk.un' rfl) (de_var (i := 3) (d := bag_10)) (de_var (i := 7) (d := number_12))) (de_ixO (i := 4) (ds := j6) rfl rfl (de_var (i := 7) (d := number_12))) (nomark _)) (dw_or1 (dt_cmp (op_neD hr.units) r2_NeD dNeD_tot (de_call2 (Df.cal C_letter_at (hr.mono (by decide))) tk (Wk.un' rfl) (de_var (i := 3) (d := bag_10)) (de_var (i := 7) (d := number_12))) (de_ixO (i := 4) (ds := j6) rfl rfl (de_var (i := 7) (d := number_12))) (nomark _))))) (ds_one (ds_ret de_bl)) (ds_nil ())) (fun (_ : Unit) => (ds_nilW ((j6, bag_10)) (by repeat (first | exact Wk.nil | exact Wk.same (Wk.refl _) | apply Wk.same | apply Wk.un))))))))))))))))))) (fun (s3 : (List D) × D) => (ds_one (ds_ret (de_and (de_call1 (Df.cal C_law_moduli (hr.mono (by decide))) tk (Wk.un' rfl) (de_var (i := 1) (d := deal_1))) (de_one (de_call2 (Df.cal C_law_refusals (hr.mono (by decide))) tk (Wk.un' rfl) (de_var (i := 1) (d := deal_1)) (de_var (i := 3) (d := s3.2))))))))))))))))

end
end M

set_option Elab.async false
set_option linter.all false
set_option maxRecDepth 100000
set_option maxHeartbeats 2000000
namespace M
open PySem L2
/-! ### reckoning with mirrors -/
theorem N.eq_of {α : Type} {a b : N α} (h : ∀ k e, a.wp k e ↔ b.wp k e) : a = b := by
  cases a with
  | mk wa ma =>
    cases b with
    | mk wb mb =>
      have e : wa = wb := funext fun k => funext fun x => propext (h k x)
      subst e
      rfl
theorem N.asrt_of {p : Prop} (h : p) : N.asrt p = N.ok () := N.eq_of fun k e => ⟨fun q => q.2, fun q => ⟨h, q⟩⟩
section
variable {α β γ τ τ1 : Type}
@[simp] theorem N.ok_seq (t : τ1) (m : τ1 → N (Fl τ β)) : N.seq (.ok (.nx t)) m = m t := rfl
@[simp] theorem N.rt_seq (d : D) (m : τ1 → N (Fl τ β)) : N.seq (.ok (.rt d)) m = .ok (.rt d) := rfl
@[simp] theorem N.err_seq (c : Nat) (x : D) (m : τ1 → N (Fl τ β)) : N.seq (.err c x) m = .err c x := rfl
@[simp] theorem N.bind_seq (n : N α) (f : α → N (Fl τ1 β)) (m : τ1 → N (Fl τ β)) : N.seq (n.bind f) m = n.bind fun x => N.seq (f x) m := rfl
theorem N.seq_seq {τ2 : Type} (n : N (Fl τ2 β)) (f : τ2 → N (Fl τ1 β)) (m : τ1 → N (Fl τ β)) : N.seq (N.seq n f) m = n.seq fun x => N.seq (f x) m := N.eq_of fun k e => by
  show n.wp _ e ↔ n.wp _ e
  constructor
  · exact n.mono (fun a z => by cases a <;> exact z) (fun _ _ z => z)
  · exact n.mono (fun a z => by cases a <;> exact z) (fun _ _ z => z)
@[simp] theorem N.rt_fin (d : D) : (N.ok (Fl.rt d) : N (Fl τ β)).fin = .ok d := rfl
@[simp] theorem N.nx_fin (t : τ) : (N.ok (Fl.nx t) : N (Fl τ β)).fin = .ok .non := rfl
@[simp] theorem N.err_fin (c : Nat) (x : D) : (N.err c x : N (Fl τ β)).fin = .err c x := rfl
@[simp] theorem N.bind_fin (n : N α) (f : α → N (Fl τ β)) : (n.bind f).fin = n.bind fun x => (f x).fin := rfl
@[simp] theorem N.tst_bl (b : Bool) : N.tst (.bl b) = .ok b := rfl
theorem N.ite_t {a b : α} : (if true = true then a else b) = a := if_pos rfl
theorem N.ite_f {a b : α} : (if false = true then a else b) = b := if_neg Bool.false_ne_true
theorem N.wp_ok (a : α) (k e) : (N.ok a).wp k e = k a := rfl
theorem N.wp_err (c : Nat) (x : D) (k : α → Prop) (e) : (N.err c x).wp k e = e c x := rfl
theorem N.wp_bind (n : N α) (f : α → N β) (k e) : (n.bind f).wp k e = n.wp (fun a => (f a).wp k e) e := rfl
theorem N.try_ok (a : α) (h : Nat → D → N α) : (N.ok a).tryC h = .ok a := rfl
theorem N.try_err (c : Nat) (x : D) (h : Nat → D → N α) : (N.err c x).tryC h = h c x := rfl
theorem N.ne_ok (a : α) : N.ne (N.ok a) = .ok a := rfl
theorem N.le1_of {xs : List α} (h : xs.length ≤ sizeLine) : N.le1 xs = .ok () := N.asrt_of h
theorem N.fits_of {xs : List α} (h : xs.length ≤ sizeLine) : N.fits xs = .ok () := N.asrt_of h
theorem size64 : 64 ≤ sizeLine := by rw [sizeLine_eq]; decide
/-- a loop by an invariant that counts what is left -/
theorem N.loop_wp {body : α → τ → N (Fl τ τ)} (I : Nat → τ → Prop) {k : Fl τ β → Prop} {e : Nat → D → Prop}
    (hb : ∀ x t n, I (n + 1) t → (body x t).wp (fun f => match f with | .nx t' => I n t' | .ct t' => I n t' | .bk t' => k (.nx t') | .rt d => k (.rt d)) e) (h0 : ∀ t, I 0 t → k (.nx t)) :
    ∀ (xs : List α) (t : τ), I xs.length t → (N.loop (β := β) body xs t).wp k e
  | [], t, h => h0 t h
  | x :: xs, t, h => (body x t).mono (fun f z => by
      cases f with
      | nx t' => exact N.loop_wp I hb h0 xs t' z
      | ct t' => exact N.loop_wp I hb h0 xs t' z
      | bk t' => exact z
      | rt d => exact z) (fun _ _ z => z) (hb x t xs.length h)
theorem N.loop_then {τ2 : Type} {body : α → τ → N (Fl τ τ)} {m : τ → N (Fl τ2 β)} (I : Nat → τ → Prop) {k : D → Prop} {e : Nat → D → Prop}
    (hb : ∀ x t n, I (n + 1) t → (body x t).wp (fun f => match f with | .nx t' => I n t' | .ct t' => I n t' | .bk t' => (m t').fin.wp k e | .rt d => k d) e) (h0 : ∀ t, I 0 t → (m t).fin.wp k e)
    (xs : List α) (t : τ) (h : I xs.length t) : (N.fin (N.seq (N.loop body xs t) m)).wp k e :=
  (N.loop (β := β) body xs t).mono (fun f z => by cases f <;> exact z) (fun _ _ z => z) (N.loop_wp (β := β) (k := fun f => match f with | .nx t => (m t).fin.wp k e | .rt d => k d | .bk b => False | .ct b => False) I hb h0 xs t h)
/-- a loop of which each turn goes on, as a fold -/
theorem N.loop_ok {body : α → τ → N (Fl τ τ)} {step : α → τ → τ} : ∀ (xs : List α) (t : τ), (∀ x ∈ xs, ∀ t, body x t = .ok (.nx (step x t))) → (N.loop (β := β) body xs t) = .ok (.nx (xs.foldl (fun t x => step x t) t))
  | [], t, _ => rfl
  | x :: xs, t, h => by
    show (body x t).bind _ = _
    rw [h x (List.mem_cons_self) t]
    exact N.loop_ok xs (step x t) fun y hy => h y (List.mem_cons_of_mem _ hy)
/-- the same where something is known of the items -/
theorem N.loop_wpM {body : α → τ → N (Fl τ τ)} (R : α → Prop) (I : Nat → τ → Prop) {k : Fl τ β → Prop} {e : Nat → D → Prop}
    (hb : ∀ x t n, R x → I (n + 1) t → (body x t).wp (fun f => match f with | .nx t' => I n t' | .ct t' => I n t' | .bk t' => k (.nx t') | .rt d => k (.rt d)) e) (h0 : ∀ t, I 0 t → k (.nx t)) :
    ∀ (xs : List α) (t : τ), (∀ x ∈ xs, R x) → I xs.length t → (N.loop (β := β) body xs t).wp k e
  | [], t, _, h => h0 t h
  | x :: xs, t, hr, h => (body x t).mono (fun f z => by
      cases f with
      | nx t' => exact N.loop_wpM R I hb h0 xs t' (fun y hy => hr y (List.mem_cons_of_mem _ hy)) z
      | ct t' => exact N.loop_wpM R I hb h0 xs t' (fun y hy => hr y (List.mem_cons_of_mem _ hy)) z
      | bk t' => exact z
      | rt d => exact z) (fun _ _ z => z) (hb x t xs.length (hr x List.mem_cons_self) h)
theorem N.loop_thenM {τ2 : Type} {body : α → τ → N (Fl τ τ)} {m : τ → N (Fl τ2 β)} (R : α → Prop) (I : Nat → τ → Prop) {k : D → Prop} {e : Nat → D → Prop}
    (hb : ∀ x t n, R x → I (n + 1) t → (body x t).wp (fun f => match f with | .nx t' => I n t' | .ct t' => I n t' | .bk t' => (m t').fin.wp k e | .rt d => k d) e) (h0 : ∀ t, I 0 t → (m t).fin.wp k e)
    (xs : List α) (t : τ) (hr : ∀ x ∈ xs, R x) (h : I xs.length t) : (N.fin (N.seq (N.loop body xs t) m)).wp k e :=
  (N.loop (β := β) body xs t).mono (fun f z => by cases f <;> exact z) (fun _ _ z => z) (N.loop_wpM (β := β) (k := fun f => match f with | .nx t => (m t).fin.wp k e | .rt d => k d | .bk b => False | .ct b => False) R I hb h0 xs t hr h)
theorem N.loop_nil {body : α → τ → N (Fl τ τ)} (t : τ) : (N.loop (β := β) body [] t) = .ok (.nx t) := rfl
theorem N.loop_go {body : α → τ → N (Fl τ τ)} {x : α} {xs : List α} {t t' : τ} (h : body x t = .ok (.nx t')) : (N.loop (β := β) body (x :: xs) t) = N.loop body xs t' := by
  show (body x t).bind _ = _
  rw [h]
  rfl
theorem N.loop_err {body : α → τ → N (Fl τ τ)} {x : α} {xs : List α} {t : τ} {c : Nat} {d : D} (h : body x t = .err c d) : (N.loop (β := β) body (x :: xs) t) = .err c d := by
  show (body x t).bind _ = _
  rw [h]
  rfl
/-- a comprehension whose tests and elements are known -/
theorem N.comp_ok {t : α → N Bool} {f : α → N D} {p : α → Bool} {g : α → D} : ∀ xs : List α, (∀ x ∈ xs, t x = .ok (p x)) → (∀ x ∈ xs, f x = .ok (g x)) → N.comp t f xs = .ok ((xs.filter p).map g)
  | [], _, _ => rfl
  | x :: xs, ht, hf => by
    show (N.ne (t x)).bind _ = _
    rw [ht x List.mem_cons_self, hf x List.mem_cons_self, N.comp_ok xs (fun y h => ht y (List.mem_cons_of_mem _ h)) (fun y h => hf y (List.mem_cons_of_mem _ h))]
    show (if p x = true then _ else _) = _
    cases h : p x with
    | true => rw [if_pos rfl, List.filter_cons_of_pos h]; rfl
    | false => rw [if_neg Bool.false_ne_true, List.filter_cons_of_neg (by rw [h]; exact Bool.false_ne_true)]
theorem N.comp_all {f : α → N D} {g : α → D} (xs : List α) (hf : ∀ x ∈ xs, f x = .ok (g x)) : N.comp (fun _ => .ok true) f xs = .ok (xs.map g) := by
  rw [N.comp_ok (p := fun _ => true) xs (fun _ _ => rfl) hf, List.filter_eq_self.mpr (fun _ _ => rfl)]
theorem handle_is {hs : List (Hd τ β)} {m : D → N (Fl τ β)} {i : Option Nat} {c : Nat} {ex : Nat → Nat → Bool} {nE : Nat} {x : D} (hc : c < nE) (he : ex c c = true) : handle ex nE c x (⟨c, i, m⟩ :: hs) = N.ne (m x) := by
  show (N.asrt (c < nE)).bind (fun _ => if ex c c = true then N.ne (m x) else handle ex nE c x hs) = _
  rw [N.asrt_of hc]
  show (if ex c c = true then N.ne (m x) else handle ex nE c x hs) = _
  rw [if_pos he]
end
theorem any_wp {n : Int} {k : D → Prop} {e : Nat → D → Prop} (h0 : 0 < n) (h1 : n < 1073741824) (h : ∀ r : Int, 0 ≤ r → r < n → k (.int r)) : (m_law_any (.dl 0) (.int n)).wp k e := ⟨⟨h0, h1⟩, fun r hr => h r hr.1 hr.2⟩
theorem any_bind {β : Type} {n : Int} {f : D → N β} {k : β → Prop} {e : Nat → D → Prop} (h0 : 0 < n) (h1 : n < 1073741824) (h : ∀ r : Int, 0 ≤ r → r < n → (f (.int r)).wp k e) : ((m_law_any (.dl 0) (.int n)).bind f).wp k e := any_wp h0 h1 h
theorem upTo_ok {n : Int} (h0 : 0 ≤ n) (h1 : n < 2 ^ 62) : N.upTo (.int n) = .ok ((List.range n.toNat).map fun i => ((i : Nat) : Int)) := by
  unfold N.upTo
  simp only []
  rw [N.asrt_of ⟨h1, by omega⟩]
  rfl
theorem iOpC_ok {C : Int → Int → Prop} {f : Int → Int → D} {i j : Int} (h : C i j) : iOpC C f (.int i) (.int j) = .ok (f i j) := by
  show (N.asrt (C i j)).bind (fun _ => .ok (f i j)) = _
  rw [N.asrt_of h]
  rfl
theorem iOp_ok {f : Int → Int → D} {i j : Int} : iOp f (.int i) (.int j) = .ok (f i j) := rfl
@[simp] theorem kit_self (a : String) : kitB a a = some true := by
  unfold kitB
  rw [if_pos (by simp)]
@[simp] theorem kit_ni : kitB "NoneType" "int" = some false := by decide +kernel
@[simp] theorem kit_bi : kitB "bool" "int" = some true := by decide +kernel
@[simp] theorem kit_si : kitB "str" "int" = some false := by decide +kernel
@[simp] theorem kit_ti : kitB "tuple" "int" = some false := by decide +kernel
@[simp] theorem kit_li : kitB "list" "int" = some false := by decide +kernel
@[simp] theorem kit_nb : kitB "NoneType" "bool" = some false := by decide +kernel
@[simp] theorem kit_ib : kitB "int" "bool" = some false := by decide +kernel
@[simp] theorem kit_sb : kitB "str" "bool" = some false := by decide +kernel
@[simp] theorem kit_tb : kitB "tuple" "bool" = some false := by decide +kernel
@[simp] theorem kit_lb : kitB "list" "bool" = some false := by decide +kernel
@[simp] theorem kit_ns : kitB "NoneType" "str" = some false := by decide +kernel
@[simp] theorem kit_bs : kitB "bool" "str" = some false := by decide +kernel
@[simp] theorem kit_is : kitB "int" "str" = some false := by decide +kernel
@[simp] theorem kit_ts : kitB "tuple" "str" = some false := by decide +kernel
@[simp] theorem kit_ls : kitB "list" "str" = some false := by decide +kernel
@[simp] theorem kit_nl : kitB "NoneType" "list" = some false := by decide +kernel
@[simp] theorem kit_bl : kitB "bool" "list" = some false := by decide +kernel
@[simp] theorem kit_il : kitB "int" "list" = some false := by decide +kernel
@[simp] theorem kit_sl : kitB "str" "list" = some false := by decide +kernel
@[simp] theorem kit_tl : kitB "tuple" "list" = some false := by decide +kernel
@[simp] theorem kit_nt : kitB "NoneType" "tuple" = some false := by decide +kernel
@[simp] theorem kit_bt : kitB "bool" "tuple" = some false := by decide +kernel
@[simp] theorem kit_it : kitB "int" "tuple" = some false := by decide +kernel
@[simp] theorem kit_st : kitB "str" "tuple" = some false := by decide +kernel
@[simp] theorem kit_lt : kitB "list" "tuple" = some false := by decide +kernel
end M

set_option Elab.async false
set_option linter.all false
set_option maxRecDepth 100000
set_option maxHeartbeats 4000000
namespace M
open PySem L2
/-! ### letters -/
structure Le where
  w : Str
  a : Int
  b : Int
deriving DecidableEq
def Le.Good (l : Le) : Prop := (l.w = "left" ∨ l.w = "hold") ∧ 0 ≤ l.a ∧ 0 ≤ l.b
def Le.ds (l : Le) : List D := [.str l.w, .int l.a, .int l.b]
def Le.d (l : Le) : D := .tup l.ds
def Le.key (l : Le) : List Key := [.inr l.w, .inl l.a, .inl l.b]
/-- y is the letter l, as a tuple or a list -/
def IsLe (y : D) (l : Le) : Prop := y = .tup l.ds ∨ y = .lst l.ds
theorem isInt_int (i : Int) : m_is_integer (.int i) = .ok (.bl true) := by
  unfold m_is_integer
  simp [dIsi, tyN]
theorem isNum_int (i : Int) (h : 0 ≤ i) : m_is_number (.int i) = .ok (.bl true) := by
  unfold m_is_number
  simp [isInt_int, dGe, iOp, h]
theorem words_in {w : Str} (h : w = "left" ∨ w = "hold") : dIn false (.str w) (.ktup [.str "left", .str "hold"]) = .ok (.bl true) := by
  unfold dIn
  simp only [items]
  rw [N.asrt_of ⟨rfl, rfl⟩]
  rcases h with rfl | rfl
  · rfl
  · rfl
theorem is_letter_ok {y : D} {l : Le} (h : IsLe y l) (g : l.Good) : m_is_letter y = .ok (.bl true) := by
  rcases h with rfl | rfl
  · unfold m_is_letter m_is_sequence
    simp [dIsi, dIsi2, tyN, dLen, items, Le.ds, dNeS, sEq, dIx, atI, ixN, words_in g.1, isNum_int _ g.2.1, isNum_int _ g.2.2]
  · unfold m_is_letter m_is_sequence
    simp [dIsi, dIsi2, tyN, dLen, items, Le.ds, dNeS, sEq, dIx, atI, ixN, words_in g.1, isNum_int _ g.2.1, isNum_int _ g.2.2]
theorem need_letter_ok {y k : D} {l : Le} (h : IsLe y l) (g : l.Good) : m_need_letter y k = .ok l.d := by
  unfold m_need_letter
  simp [is_letter_ok h g]
  rcases h with rfl | rfl <;> rfl
/-- what is no letter -/
def Odd (y : D) : Prop := m_is_letter y = .ok (.bl false)
theorem need_letter_odd {y k : D} (h : Odd y) : m_need_letter y k = .err 0 k := by
  unfold m_need_letter
  unfold Odd at h
  simp [h]
def odds : List D := [.non, .int 3, .str "left", .tup [.str "left", .int 0], .tup [.str "lost", .int 0, .int 0], .tup [.str "left", .int (-1), .int 0], .tup [.str "hold", .int 0, .bl true], .tup [.str "hold", .str "0", .int 1],
  .tup [.int 5, .int 0, .int 0], .tup [.str "left", .int 0, .int 0, .int 0], .lst [.str "left", .non, .int 0]]
theorem words_lost : dIn false (.str "lost") (.ktup [.str "left", .str "hold"]) = .ok (.bl false) := by
  unfold dIn
  simp only [items]
  rw [N.asrt_of ⟨rfl, rfl⟩]
  rfl
theorem isNum_neg : m_is_number (.int (-1)) = .ok (.bl false) := by
  unfold m_is_number
  simp [isInt_int, dGe, iOp]
theorem isInt_bl (b : Bool) : m_is_integer (.bl b) = .ok (.bl false) := by
  unfold m_is_integer
  simp [dIsi, tyN]
theorem isInt_str (b : Str) : m_is_integer (.str b) = .ok (.bl false) := by
  unfold m_is_integer
  simp [dIsi, tyN]
theorem isInt_non : m_is_integer .non = .ok (.bl false) := by
  unfold m_is_integer
  simp [dIsi, tyN]
theorem isNum_bl (b : Bool) : m_is_number (.bl b) = .ok (.bl false) := by
  unfold m_is_number
  simp [isInt_bl]
theorem isNum_str (b : Str) : m_is_number (.str b) = .ok (.bl false) := by
  unfold m_is_number
  simp [isInt_str]
theorem isNum_non : m_is_number .non = .ok (.bl false) := by
  unfold m_is_number
  simp [isInt_non]
theorem isNum0 : m_is_number (.int 0) = .ok (.bl true) := isNum_int 0 (by decide)
theorem isNum1 : m_is_number (.int 1) = .ok (.bl true) := isNum_int 1 (by decide)
theorem words_left : dIn false (.str "left") (.ktup [.str "left", .str "hold"]) = .ok (.bl true) := words_in (.inl rfl)
theorem words_hold : dIn false (.str "hold") (.ktup [.str "left", .str "hold"]) = .ok (.bl true) := words_in (.inr rfl)
theorem odd_all : ∀ y ∈ odds, Odd y := by
  intro y hy
  unfold odds at hy
  simp only [List.mem_cons, List.not_mem_nil, or_false] at hy
  unfold Odd m_is_letter m_is_sequence
  rcases hy with rfl | rfl | rfl | rfl | rfl | rfl | rfl | rfl | rfl | rfl | rfl <;>
    simp [dIsi, dIsi2, tyN, dLen, items, dNeS, sEq, dIx, atI, ixN, words_lost, words_left, words_hold, isNum0, isNum1, isNum_neg, isNum_bl, isNum_str, isNum_non]
/-! ### bags -/
def num (i : Nat) (ys : List D) : List (Int × D) := (ys.zipIdx i).map fun p => ((p.2 : Int), p.1)
theorem num_app (i : Nat) (xs ys : List D) : num i (xs ++ ys) = num i xs ++ num (i + xs.length) ys := by
  unfold num
  rw [List.zipIdx_append, List.map_append]
theorem num_cons (i : Nat) (x : D) (ys : List D) : num i (x :: ys) = ((i : Int), x) :: num (i + 1) ys := rfl
def bagS (ls : List Le) : List (List Key × D) := ls.map fun l => (l.key, D.bl true)
theorem key_inj {l m : Le} (h : l.key = m.key) : l = m := by
  cases l; cases m
  unfold Le.key at h
  simp at h
  obtain ⟨h1, h2, h3⟩ := h
  subst h1 h2 h3
  rfl
theorem dget_bag (ls : List Le) (l : Le) : (dget (bagS ls) l.key).isSome = decide (l ∈ ls) := by
  induction ls with
  | nil => rfl
  | cons m ls ih =>
    unfold dget bagS at ih ⊢
    rw [List.map_cons, List.find?_cons]
    by_cases h : m = l
    · subst h; simp
    · have hk : ¬ m.key = l.key := fun z => h (key_inj z)
      simp only [hk, decide_false]
      rw [ih]
      simp [Ne.symm h, List.mem_cons]
theorem dput_bag {ls : List Le} {l : Le} (h : l ∉ ls) : dput (bagS ls) l.key (.bl true) = bagS (ls ++ [l]) := by
  unfold dput
  rw [if_neg]
  · unfold bagS; rw [List.map_append]; rfl
  · intro z
    rw [List.any_eq_true] at z
    obtain ⟨kv, h1, h2⟩ := z
    unfold bagS at h1
    rw [List.mem_map] at h1
    obtain ⟨m, hm, rfl⟩ := h1
    exact h ((key_inj (of_decide_eq_true h2)) ▸ hm)
/-- the items are these letters -/
inductive Are : List D → List Le → Prop
  | nil : Are [] []
  | cons {y : D} {l : Le} {ys : List D} {ls : List Le} : IsLe y l → Are ys ls → Are (y :: ys) (l :: ls)
theorem Are.len {ys : List D} {ls : List Le} (h : Are ys ls) : ys.length = ls.length := by
  induction h with
  | nil => rfl
  | cons _ _ ih => rw [List.length_cons, List.length_cons, ih]
theorem Are.tup (ls : List Le) : Are (ls.map Le.d) ls := by
  induction ls with
  | nil => exact .nil
  | cons l ls ih => exact .cons (.inl rfl) ih
theorem Are.lst (ls : List Le) : Are (ls.map fun l => .lst l.ds) ls := by
  induction ls with
  | nil => exact .nil
  | cons l ls ih => exact .cons (.inr rfl) ih
theorem bag_go {β : Type} {body : Int × D → List (List Key × D) → N (Fl (List (List Key × D)) (List (List Key × D)))}
    (hb : ∀ (k : Int) (y : D) (ls : List Le) (l : Le), IsLe y l → l.Good → ls.length < 64 → l ∉ ls → body (k, y) (bagS ls) = .ok (.nx (bagS (ls ++ [l])))) {rest : List (Int × D)} :
    ∀ (ys : List D) (ls ls0 : List Le) (i : Nat), Are ys ls → (∀ l ∈ ls, l.Good) → (ls0 ++ ls).Nodup → (ls0 ++ ls).length ≤ 64 → (N.loop (β := β) body (num i ys ++ rest) (bagS ls0)) = N.loop body rest (bagS (ls0 ++ ls))
  | _, _, ls0, i, .nil, _, _, _ => by rw [List.append_nil]; rfl
  | _, _, ls0, i, .cons (y := y) (l := l) (ys := ys) (ls := ls) h a, g, n, z => by
    rw [num_cons, List.cons_append]
    have hn : l ∉ ls0 := fun q => by
      rw [List.nodup_append] at n
      exact n.2.2 l q l (List.mem_cons_self) rfl
    rw [N.loop_go (hb i y ls0 l h (g l List.mem_cons_self) (by simp at z; omega) hn)]
    have e : ls0 ++ l :: ls = (ls0 ++ [l]) ++ ls := by simp
    rw [bag_go hb ys ls (ls0 ++ [l]) (i + 1) a (fun m hm => g m (List.mem_cons_of_mem _ hm)) (by rw [← e]; exact n) (by rw [← e]; exact z), ← e]
theorem key_ds (l : Le) : tkey l.d = .ok l.key := rfl
theorem key_back (l : Le) : (l.key.map keyD) = l.ds := rfl
theorem bag_list (ls : List Le) : ((bagS ls).map fun kv => D.tup (kv.1.map keyD)) = ls.map Le.d := by
  unfold bagS
  rw [List.map_map]
  rfl
theorem seq_tup (xs : List D) : m_is_sequence (.tup xs) = .ok (.bl true) := by
  unfold m_is_sequence
  simp [dIsi2, tyN]
theorem seq_lst (xs : List D) : m_is_sequence (.lst xs) = .ok (.bl true) := by
  unfold m_is_sequence
  simp [dIsi2, tyN]
/-- b is a bag of these items -/
def IsBag (b : D) (ys : List D) : Prop := b = .tup ys ∨ b = .lst ys
structure Okb (ls : List Le) : Prop where
  good : ∀ l ∈ ls, l.Good
  nod : ls.Nodup
theorem need_bag_of {b : D} {ys : List D} (hb : IsBag b ys) {P : N D → Prop}
    (h : ∀ body : Int × D → List (List Key × D) → N (Fl (List (List Key × D)) (List (List Key × D))),
      (∀ (k : Int) (y : D) (ls : List Le) (l : Le), IsLe y l → l.Good → ls.length < 64 → l ∉ ls → body (k, y) (bagS ls) = .ok (.nx (bagS (ls ++ [l])))) →
      (∀ (k : Int) (y : D) (ls : List Le) (l : Le), IsLe y l → l.Good → l ∈ ls → body (k, y) (bagS ls) = .err 0 (.int k)) →
      (∀ (k : Int) (y : D) (s : List (List Key × D)), Odd y → body (k, y) s = .err 0 (.int k)) →
      P (N.fin (N.seq (N.loop body (num 0 ys) []) fun (s1 : List (List Key × D)) => (.ok (.rt (.tup (s1.map fun kv => .tup (kv.1.map keyD)))) : N (Fl Unit Unit))))) : P (m_need_bag b) := by
  unfold m_need_bag
  have hs : m_is_sequence b = .ok (.bl true) := by rcases hb with rfl | rfl; exact seq_tup ys; exact seq_lst ys
  have he : enOf b = .ok ys := by rcases hb with rfl | rfl <;> rfl
  simp only [hs, he, N.ok_bind, N.tst_bl, N.ok_seq, Bool.not_true, N.ite_f]
  refine h _ (fun k y ls l h1 h2 h3 h4 => ?_) (fun k y ls l h1 h2 h4 => ?_) (fun k y s h1 => ?_)
  · simp only [need_letter_ok h1 h2, N.ok_bind, N.ok_seq, key_ds, dget_bag, decide_eq_false h4, N.ite_f]
    rw [N.asrt_of (by unfold bagS; rw [List.length_map]; have := size64; omega)]
    simp only [N.ok_bind, N.ok_seq, dput_bag h4]
  · simp only [need_letter_ok h1 h2, N.ok_bind, N.ok_seq, key_ds, dget_bag, decide_eq_true h4, N.ite_t, if_true, N.err_seq, N.err_fin]
  · simp only [need_letter_odd h1, N.ok_bind, N.err_bind, N.err_seq]
theorem need_bag_ok {b : D} {ys : List D} {ls : List Le} (hb : IsBag b ys) (a : Are ys ls) (o : Okb ls) (z : ls.length ≤ 64) : m_need_bag b = .ok (.tup (ls.map Le.d)) := by
  refine need_bag_of (P := fun n => n = _) hb (fun body h1 h2 h3 => ?_)
  have e := bag_go (β := Unit) (rest := []) h1 ys ls [] 0 a o.good (by simpa using o.nod) (by simpa using z)
  rw [List.append_nil] at e
  show N.fin (N.seq (N.loop body (num 0 ys) (bagS [])) _) = _
  rw [e, N.loop_nil, N.ok_seq, N.rt_fin, List.nil_append, bag_list]
theorem need_bag_odd {b : D} {ys zs : List D} {y : D} {ls : List Le} (hb : IsBag b (ys ++ y :: zs)) (a : Are ys ls) (o : Okb ls) (z : ls.length ≤ 64) (h : Odd y) : m_need_bag b = .err 0 (.int ls.length) := by
  refine need_bag_of (P := fun n => n = _) hb (fun body h1 h2 h3 => ?_)
  have e := bag_go (β := Unit) (rest := num (0 + ys.length) (y :: zs)) h1 ys ls [] 0 a o.good (by simpa using o.nod) (by simpa using z)
  show N.fin (N.seq (N.loop body (num 0 (ys ++ y :: zs)) (bagS [])) _) = _
  rw [num_app, e, num_cons, N.loop_err (h3 _ _ _ h), N.err_seq, N.err_fin, Nat.zero_add, a.len]
theorem need_bag_dup {b : D} {ys zs : List D} {y : D} {ls : List Le} {l : Le} (hb : IsBag b (ys ++ y :: zs)) (a : Are ys ls) (o : Okb ls) (z : ls.length ≤ 64) (h : IsLe y l) (hl : l ∈ ls) : m_need_bag b = .err 0 (.int ls.length) := by
  refine need_bag_of (P := fun n => n = _) hb (fun body h1 h2 h3 => ?_)
  have e := bag_go (β := Unit) (rest := num (0 + ys.length) (y :: zs)) h1 ys ls [] 0 a o.good (by simpa using o.nod) (by simpa using z)
  show N.fin (N.seq (N.loop body (num 0 (ys ++ y :: zs)) (bagS [])) _) = _
  rw [num_app, e, num_cons, List.nil_append, N.loop_err (h2 _ _ _ _ h (o.good l hl) hl), N.err_seq, N.err_fin, Nat.zero_add, a.len]
theorem need_bag_none {b : D} (h : m_is_sequence b = .ok (.bl false)) : m_need_bag b = .err 0 (.int (-1)) := by
  unfold m_need_bag
  simp [h, dNeg]
/-! ### equality of data -/
theorem dNe_self {x : D} {p : PyData} (h : toPy x = some p) (s : SeqAt.shaped p = true) : dNeD x x = .ok (.bl false) := by
  unfold dNeD pEq
  simp only [h]
  rw [N.asrt_of ⟨s, s⟩]
  simp [SeqAt.eqv_refl p (SeqAt.canLay_of_shaped s)]
theorem dEq_self {x : D} {p : PyData} (h : toPy x = some p) (s : SeqAt.shaped p = true) : dEqD x x = .ok (.bl true) := by
  unfold dEqD pEq
  simp only [h]
  rw [N.asrt_of ⟨s, s⟩]
  simp [SeqAt.eqv_refl p (SeqAt.canLay_of_shaped s)]
theorem dNe_int (i : Int) : dNeD (.int i) (.int i) = .ok (.bl false) := dNe_self (p := .int i) rfl rfl
def pyL (l : Le) : PyData := .tuple [.str l.w, .int l.a, .int l.b]
theorem py_le (l : Le) : toPy l.d = some (pyL l) := rfl
theorem pys_le : ∀ ls : List Le, toPys (ls.map Le.d) = some (ls.map pyL)
  | [] => rfl
  | l :: ls => by
    show (match toPy l.d, toPys (ls.map Le.d) with | some p, some ps => some (p :: ps) | _, _ => none) = _
    rw [pys_le ls, py_le]
    rfl
theorem eqv_le (l m : Le) : PyData.eqv (pyL l) (pyL m) = decide (l = m) := by
  obtain ⟨w, a, b⟩ := l
  obtain ⟨w', a', b'⟩ := m
  show ((w == w') && ((a == a') && ((b == b') && true))) = _
  rw [Bool.eq_iff_iff]
  simp only [Bool.and_eq_true, beq_iff_eq, Bool.and_true, decide_eq_true_eq, Le.mk.injEq]
theorem lay_le {l : Le} (g : l.Good) : PyData.canLay0 (pyL l) = true := by
  show (PyData.canLay0 (.str l.w) && true) = true
  rcases g.1 with h | h
  · rw [h]; decide +kernel
  · rw [h]; decide +kernel
theorem lay_les : ∀ ls : List Le, (∀ l ∈ ls, l.Good) → PyData.canLayAll0 (ls.map pyL) = true
  | [], _ => rfl
  | l :: ls, g => by
    show (PyData.canLay0 (pyL l) && PyData.canLayAll0 (ls.map pyL)) = true
    rw [lay_le (g l List.mem_cons_self), lay_les ls fun m h => g m (List.mem_cons_of_mem _ h)]
    rfl
theorem depth_le (l : Le) : PyData.depth (pyL l) = 1 := rfl
theorem depth_les : ∀ ls : List Le, PyData.depthAll (ls.map pyL) ≤ 1
  | [] => Nat.zero_le _
  | l :: ls => by
    show max (PyData.depth (pyL l)) (PyData.depthAll (ls.map pyL)) ≤ 1
    rw [depth_le]
    have := depth_les ls
    omega
theorem shaped_le {l : Le} (g : l.Good) : SeqAt.shaped (pyL l) = true := by
  show (PyData.canLay0 (pyL l) && decide (PyData.depth (pyL l) ≤ 64)) = true
  rw [lay_le g, depth_le]
  rfl
theorem shaped_les {ls : List Le} (g : ∀ l ∈ ls, l.Good) : SeqAt.shaped (.list (ls.map pyL)) = true := by
  show (PyData.canLayAll0 (ls.map pyL) && decide (PyData.depthAll (ls.map pyL) + 1 ≤ 64)) = true
  rw [lay_les ls g, decide_eq_true (by have := depth_les ls; omega)]
  rfl
theorem shaped_let {ls : List Le} (g : ∀ l ∈ ls, l.Good) : SeqAt.shaped (.tuple (ls.map pyL)) = true := shaped_les g
theorem py_bag (ls : List Le) : toPy (.tup (ls.map Le.d)) = some (.tuple (ls.map pyL)) := by
  show (toPys (ls.map Le.d)).map PyData.tuple = _
  rw [pys_le]
  rfl
theorem any_le (ls : List Le) (l : Le) : ((ls.map pyL).any fun z => PyData.eqv z (pyL l)) = decide (l ∈ ls) := by
  induction ls with
  | nil => rfl
  | cons m ls ih =>
    rw [List.map_cons, List.any_cons, ih, eqv_le]
    by_cases h : m = l
    · subst h; simp
    · simp [h, Ne.symm h, List.mem_cons, eq_comm]
theorem pIn_le {l : Le} {ls : List Le} {y : D} (hy : items y = some (ls.map Le.d)) (g : l.Good) (gs : ∀ l ∈ ls, l.Good) : pIn l.d y = .ok (decide (l ∈ ls)) := by
  unfold pIn
  simp only [py_le, hy, pys_le]
  rw [N.asrt_of ⟨shaped_le g, shaped_les gs⟩, any_le]
  rfl
theorem need_def_ok {y : D} {l : Le} (h : IsLe y l) (g : l.Good) : app2 m_need_letter (gD_need_letter_1 [y] []) = .ok l.d := need_letter_ok h g
theorem need_def_odd {y : D} (h : Odd y) : app2 m_need_letter (gD_need_letter_1 [y] []) = .err 0 (.int (-1)) := need_letter_odd h
/-- the bag behind a putting -/
def putL (ls : List Le) (l : Le) : List Le := if l ∈ ls then ls else ls ++ [l]
theorem put_ok {b y : D} {ys : List D} {ls : List Le} {l : Le} (hb : IsBag b ys) (a : Are ys ls) (o : Okb ls) (z : ls.length < 64) (h : IsLe y l) (g : l.Good) : m_put_letter b y = .ok (.tup ((putL ls l).map Le.d)) := by
  unfold m_put_letter
  have hl : ([y] : List D).length = 1 := rfl
  simp only [N.ok_bind, need_bag_ok hb a o (Nat.le_of_lt z), N.ok_seq, N.asrt_of hl, need_def_ok h g]
  unfold dInD putL
  rw [pIn_le rfl g o.good]
  simp only [N.ok_bind, N.tst_bl]
  by_cases q : l ∈ ls
  · simp [q]
  · have h2 : ([l.d] : List D).length ≤ sizeLine := by have := size64; simp; omega
    simp only [q, decide_false, N.ite_f, N.le1_of h2, N.ok_bind, if_false]
    unfold dCat
    simp only []
    rw [N.asrt_of (by have := size64; simp; omega)]
    simp
theorem put_odd {b y : D} {ys : List D} {ls : List Le} (hb : IsBag b ys) (a : Are ys ls) (o : Okb ls) (z : ls.length ≤ 64) (h : Odd y) : m_put_letter b y = .err 0 (.int (-1)) := by
  unfold m_put_letter
  have hl : ([y] : List D).length = 1 := rfl
  simp only [N.ok_bind, need_bag_ok hb a o z, N.ok_seq, N.asrt_of hl, need_def_odd h, N.err_bind, N.err_seq, N.err_fin]
theorem put_bad {b y x : D} (h : m_need_bag b = .err 0 x) : m_put_letter b y = .err 0 x := by
  unfold m_put_letter
  simp only [N.ok_bind, h, N.err_bind, N.err_seq, N.err_fin]
theorem isIndex_ok {i n : Int} : m_is_index (.int i) (.int n) = .ok (.bl (decide (0 ≤ i) && decide (i < n))) := by
  unfold m_is_index dChain
  simp only [isInt_int, N.ok_bind, N.tst_bl, N.ite_t, dLe, dLt, iOp_ok]
  by_cases h : 0 ≤ i
  · simp [h, iOp_ok]
  · simp [h]
theorem isIndex_no {x y : D} (h : m_is_integer x = .ok (.bl false)) : m_is_index x y = .ok (.bl false) := by
  unfold m_is_index
  simp [h]
theorem at_ok {b : D} {ys : List D} {ls : List Le} {i : Int} {l : Le} (hb : IsBag b ys) (a : Are ys ls) (o : Okb ls) (z : ls.length ≤ 64) (h0 : 0 ≤ i) (h1 : ls[i.toNat]? = some l) : m_letter_at b (.int i) = .ok l.d := by
  unfold m_letter_at
  have hlt : i.toNat < ls.length := (List.getElem?_eq_some_iff.mp h1).1
  have e1 : dLen (.tup (ls.map Le.d)) = .ok (.int ls.length) := by unfold dLen; simp [items]
  have e2 : dIx (.tup (ls.map Le.d)) (.int i) = .ok l.d := by
    have : atI (ls.map Le.d) i = some l.d := by
      have := atI_nat (xs := ls.map Le.d) (j := i.toNat) (v := l.d) (by rw [List.getElem?_map, h1]; rfl)
      rwa [show ((i.toNat : Nat) : Int) = i by omega] at this
    unfold dIx
    simp only [items, this]
  simp only [need_bag_ok hb a o z, N.ok_bind, N.ok_seq, e1, isIndex_ok, N.tst_bl, decide_eq_true h0, decide_eq_true (show i < (ls.length : Int) by omega), Bool.and_self, Bool.not_true, N.ite_f, e2, N.rt_fin]
theorem at_no {b x : D} {ys : List D} {ls : List Le} (hb : IsBag b ys) (a : Are ys ls) (o : Okb ls) (z : ls.length ≤ 64) (h : m_is_index x (.int ls.length) = .ok (.bl false)) : m_letter_at b x = .err 0 (.int (-1)) := by
  unfold m_letter_at
  have e1 : dLen (.tup (ls.map Le.d)) = .ok (.int ls.length) := by unfold dLen; simp [items]
  simp only [need_bag_ok hb a o z, N.ok_bind, N.ok_seq, e1, h, N.tst_bl, Bool.not_false, N.ite_t, if_true, dNeg, N.err_seq, N.err_fin]
/-! ### what is tried -/
theorem handle1 {m : D → N (Fl Unit Unit)} {i : Option Nat} {x : D} : handle exT 1 0 x [⟨0, i, m⟩] = N.ne (m x) := handle_is (by decide) rfl
theorem tried_letter {y k x : D} (h : m_need_letter y k = .err 0 x) : m_law_tried (.str "letter") (.tup [y, k]) = .ok x := by
  unfold m_law_tried
  have e1 : dIx (.tup [y, k]) (.int 0) = .ok y := rfl
  have e2 : dIx (.tup [y, k]) (.int 1) = .ok k := rfl
  have e3 : dEqS (.str "letter") (.str "letter") = .ok (.bl true) := rfl
  have e4 : app2 m_need_letter (gD_need_letter_0_value_at [] [y, k]) = .err 0 x := h
  have hl : ([y, k] : List D).length = 2 := rfl
  simp only [N.ok_bind, e1, e2, e3, N.tst_bl, N.ite_t, if_true, N.asrt_of hl, e4, N.err_bind, N.err_seq, N.try_err, handle1, N.ne_ok, N.rt_seq, N.rt_fin]
theorem tried_bag {y x : D} (h : m_need_bag y = .err 0 x) : m_law_tried (.str "bag") (.tup [y]) = .ok x := by
  unfold m_law_tried
  have e1 : dIx (.tup [y]) (.int 0) = .ok y := rfl
  have e3 : dEqS (.str "bag") (.str "letter") = .ok (.bl false) := rfl
  have e5 : dEqS (.str "bag") (.str "bag") = .ok (.bl true) := rfl
  have e4 : app1 m_need_bag (gD_need_bag_0_value [] [y]) = .err 0 x := h
  have hl : ([y] : List D).length = 1 := rfl
  simp only [N.ok_bind, e1, e3, e5, N.tst_bl, N.ite_t, if_true, N.ite_f, N.asrt_of hl, e4, N.err_bind, N.err_seq, N.try_err, handle1, N.ne_ok, N.rt_seq, N.rt_fin]
theorem tried_put {y k x : D} (h : m_put_letter y k = .err 0 x) : m_law_tried (.str "put") (.tup [y, k]) = .ok x := by
  unfold m_law_tried
  have e1 : dIx (.tup [y, k]) (.int 0) = .ok y := rfl
  have e2 : dIx (.tup [y, k]) (.int 1) = .ok k := rfl
  have e3 : dEqS (.str "put") (.str "letter") = .ok (.bl false) := rfl
  have e5 : dEqS (.str "put") (.str "bag") = .ok (.bl false) := rfl
  have e6 : dEqS (.str "put") (.str "put") = .ok (.bl true) := rfl
  simp only [N.ok_bind, e1, e2, e3, e5, e6, N.tst_bl, N.ite_t, if_true, N.ite_f, h, N.err_bind, N.err_seq, N.try_err, handle1, N.ne_ok, N.rt_seq, N.rt_fin]
theorem tried_at {y k x : D} (h : m_letter_at y k = .err 0 x) : m_law_tried (.str "at") (.tup [y, k]) = .ok x := by
  unfold m_law_tried
  have e1 : dIx (.tup [y, k]) (.int 0) = .ok y := rfl
  have e2 : dIx (.tup [y, k]) (.int 1) = .ok k := rfl
  have e3 : dEqS (.str "at") (.str "letter") = .ok (.bl false) := rfl
  have e5 : dEqS (.str "at") (.str "bag") = .ok (.bl false) := rfl
  have e6 : dEqS (.str "at") (.str "put") = .ok (.bl false) := rfl
  simp only [N.ok_bind, e1, e2, e3, e5, e6, N.tst_bl, N.ite_t, if_true, N.ite_f, h, N.err_bind, N.err_seq, N.try_err, handle1, N.ne_ok, N.rt_seq, N.rt_fin]
/-! ### some of them -/
theorem of_wp {xs : List D} {k : D → Prop} {e : Nat → D → Prop} (h0 : xs ≠ []) (h1 : xs.length < 1073741824) (h : ∀ x ∈ xs, k x) : (m_law_of (.dl 0) (.lst xs)).wp k e := by
  unfold m_law_of
  have e1 : dLen (.lst xs) = .ok (.int xs.length) := rfl
  simp only [N.ok_bind, e1]
  show ((m_law_any (.dl 0) (.int xs.length)).bind fun y => (dIx (.lst xs) y)).wp k e
  refine any_wp (by have := List.length_pos_iff.mpr h0; omega) (by omega) (fun r r0 r1 => ?_)
  have hlt : r.toNat < xs.length := by omega
  have hg : xs[r.toNat]? = some xs[r.toNat] := List.getElem?_eq_getElem hlt
  have ha : atI xs r = some xs[r.toNat] := by
    have := atI_nat hg
    rwa [show ((r.toNat : Nat) : Int) = r by omega] at this
  show (dIx (.lst xs) (.int r)).wp k e
  unfold dIx
  simp only [items, ha]
  exact h _ (List.getElem_mem hlt)
theorem of_bind {β : Type} {xs : List D} {f : D → N β} {k : β → Prop} {e : Nat → D → Prop} (h0 : xs ≠ []) (h1 : xs.length < 1073741824) (h : ∀ x ∈ xs, (f x).wp k e) : ((m_law_of (.dl 0) (.lst xs)).bind f).wp k e := of_wp h0 h1 h
/-! ### the anchor -/
def la : Le := ⟨"left", 0, 2⟩
def lb : Le := ⟨"hold", 0, 2⟩
theorem ga : la.Good := ⟨.inl rfl, by decide, by decide⟩
theorem gb : lb.Good := ⟨.inr rfl, by decide, by decide⟩
theorem ok0 : Okb [] := ⟨fun _ h => by simp at h, .nil⟩
theorem ok1 : Okb [la] := ⟨fun l h => by rw [List.mem_singleton] at h; rw [h]; exact ga, by simp⟩
theorem anchor_ok : app0 m_law_anchor (gD_law_anchor_0 [] []) = .ok (.bl true) := by
  show m_law_anchor = _
  unfold m_law_anchor
  have l0 : N.le1 ([] : List D) = .ok () := N.le1_of (Nat.zero_le _)
  have l1 : ∀ x : D, N.le1 [x] = .ok () := fun x => N.le1_of (by have := size64; simp; omega)
  have l2 : ∀ x y : D, N.le1 [x, y] = .ok () := fun x y => N.le1_of (by have := size64; simp; omega)
  have l3 : ∀ x y z : D, N.le1 [x, y, z] = .ok () := fun x y z => N.le1_of (by have := size64; simp; omega)
  have c2 : ∀ x y : D, N.asrt (([x, y] : List D).length = 2) = .ok () := fun x y => N.asrt_of rfl
  have p1 : app2 m_put_letter (gD_put_letter_0_bag_letter [] [.tup [], .lst [.str "left", .int 0, .int 2]]) = .ok (.tup [la.d]) := put_ok (ls := []) (l := la) (.inl rfl) .nil ok0 (by decide) (.inr rfl) ga
  have p2 : m_put_letter (.tup [la.d]) (.tup [.str "left", .int 0, .int 2]) = .ok (.tup [la.d]) := put_ok (ls := [la]) (l := la) (.inl rfl) (Are.tup [la]) ok1 (by decide) (.inl rfl) ga
  have p3 : m_put_letter (.tup [la.d]) (.tup [.str "hold", .int 0, .int 2]) = .ok (.tup [la.d, lb.d]) := put_ok (ls := [la]) (l := lb) (.inl rfl) (Are.tup [la]) ok1 (by decide) (.inl rfl) gb
  have p4 : app2 m_letter_at (gD_letter_at_0_bag_number [] [.tup [la.d], .int 0]) = .ok la.d := at_ok (ls := [la]) (.inl rfl) (Are.tup [la]) ok1 (by decide) (by decide) rfl
  have p5 : m_next_like (.int 1) (.int 4) (.int 3) = .ok (.int 4) := by
    unfold m_next_like
    have : dEqS (.int 3) (.int 0) = .ok (.bl false) := rfl
    simp only [N.ok_bind, this, N.tst_bl, N.ite_f, dSub, iOp_ok, dMod]
    rw [iOpC_ok (by decide)]
    rfl
  have p6 : m_need_bag (.lst []) = .ok (.tup []) := need_bag_ok (ls := []) (.inr rfl) .nil ok0 (by decide)
  have n1 : dNeD (.tup [la.d]) (.tup [.tup [.str "left", .int 0, .int 2]]) = .ok (.bl false) := dNe_self (py_bag [la]) (shaped_let ok1.good)
  have n2 : dNeD (.tup [la.d]) (.tup [la.d]) = .ok (.bl false) := n1
  have n3 : dNeD la.d (.tup [.str "left", .int 0, .int 2]) = .ok (.bl false) := dNe_self (py_le la) (shaped_le ga)
  have n4 : dNeD (.tup []) (.tup []) = .ok (.bl false) := dNe_self (py_bag []) (shaped_let ok0.good)
  have n5 : dEqD (.tup [la.d, lb.d]) (.tup [.tup [.str "left", .int 0, .int 2], .tup [.str "hold", .int 0, .int 2]]) = .ok (.bl true) := dEq_self (py_bag [la, lb]) (shaped_let fun l h => by
    simp only [List.mem_cons, List.not_mem_nil, or_false] at h
    rcases h with rfl | rfl
    · exact ga
    · exact gb)
  simp only [N.ok_bind, N.ok_seq, N.tst_bl, N.ite_t, if_true, N.ite_f, l0, l1, l2, l3, c2, p1, p2, p3, p4, p5, p6, n1, n2, n3, n4, n5, dNe_int, N.rt_fin]
/-! ### moduli -/
theorem told0 (v : Int) : app2 m_told_visit (gD_told_visit_0_visit_modulus [] [.int v, .int 0]) = .ok (.int v) := by
  show m_told_visit (.int v) (.int 0) = _
  unfold m_told_visit
  have : dEqS (.int 0) (.int 0) = .ok (.bl true) := rfl
  simp only [N.ok_bind, this, N.tst_bl, N.ite_t, if_true, N.rt_fin]
theorem next0 (v l : Int) : app3 m_next_like (gD_next_like_0_told_least_modulus [] [.int v, .int l, .int 0]) = .ok (.int v) := by
  show m_next_like (.int v) (.int l) (.int 0) = _
  unfold m_next_like
  have : dEqS (.int 0) (.int 0) = .ok (.bl true) := rfl
  simp only [N.ok_bind, this, N.tst_bl, N.ite_t, if_true, N.rt_fin]
theorem eqS0 {m : Int} (h : 0 < m) : dEqS (.int m) (.int 0) = .ok (.bl false) := by
  show (N.ok (D.bl (decide (m = 0))) : N D) = _
  rw [decide_eq_false (by omega)]
theorem told_m {v m : Int} (h : 0 < m) : m_told_visit (.int v) (.int m) = .ok (.int (v % m)) := by
  unfold m_told_visit
  simp only [N.ok_bind, eqS0 h, N.tst_bl, N.ite_f, dMod, iOpC_ok (C := fun _ j => 0 < j) (i := v) h, N.rt_fin]
theorem next_m {t l m : Int} (h : 0 < m) : m_next_like (.int t) (.int l) (.int m) = .ok (.int (l + (t - l) % m)) := by
  unfold m_next_like
  simp only [N.ok_bind, eqS0 h, N.tst_bl, N.ite_f, dSub, dAdd, dMod, iOp_ok, iOpC_ok (C := fun _ j => 0 < j) (i := t - l) h, N.rt_fin]
/-- the first one from l on with v's rest -/
theorem like_first {v l m : Int} (h : 0 < m) (hm : m ≤ 100) : ∃ r, ((((List.range m.toNat).map fun i => l + ((i : Nat) : Int)).filter fun c => decide ((c - v) % m = 0)).map D.int) = .int (l + (v % m - l) % m) :: r := by
  have h0 : 0 ≤ (v % m - l) % m := Int.emod_nonneg _ (by omega)
  have h1 : (v % m - l) % m < m := Int.emod_lt_of_pos _ h
  have key : ∀ i : Int, 0 ≤ i → i < m → ((l + i - v) % m = 0 ↔ i = (v % m - l) % m) := by
    intro i i0 i1
    have e2 : (v % m - l) % m = (v - l) % m := by rw [Int.emod_sub_emod]
    rw [e2]
    constructor
    · intro z
      have : (v - l) % m = i % m := by
        have z2 : m ∣ (l + i - v) := Int.dvd_of_emod_eq_zero z
        apply Int.emod_eq_emod_iff_emod_sub_eq_zero.mpr
        obtain ⟨c, hc⟩ := z2
        have : v - l - i = m * (-c) := by rw [Int.mul_neg, ← hc]; omega
        rw [this]
        exact Int.mul_emod_right _ _
      rw [this, Int.emod_eq_of_lt i0 i1]
    · intro z
      have : (l + i - v) % m = 0 := by
        rw [z]
        have e3 : l + (v - l) % m - v = -(v - l - (v - l) % m) := by omega
        rw [e3]
        apply Int.emod_eq_zero_of_dvd
        exact (Int.dvd_neg).mpr (Int.dvd_self_sub_emod)
      exact this
  have hn : ((v % m - l) % m).toNat < m.toNat := by omega
  obtain ⟨as, bs, e, hlen⟩ : ∃ as bs, List.range m.toNat = as ++ ((v % m - l) % m).toNat :: bs ∧ ∀ x ∈ as, x < ((v % m - l) % m).toNat := by
    refine ⟨List.range ((v % m - l) % m).toNat, ((List.range m.toNat).drop (((v % m - l) % m).toNat + 1)), ?_, fun x hx => List.mem_range.mp hx⟩
    have e1 : (List.range m.toNat).take ((v % m - l) % m).toNat = List.range ((v % m - l) % m).toNat := by rw [List.take_range, Nat.min_eq_left (Nat.le_of_lt hn)]
    have e2 : (List.range m.toNat).drop ((v % m - l) % m).toNat = ((v % m - l) % m).toNat :: (List.range m.toNat).drop (((v % m - l) % m).toNat + 1) := by
      rw [List.drop_eq_getElem_cons (by rw [List.length_range]; exact hn), List.getElem_range]
    calc List.range m.toNat = (List.range m.toNat).take ((v % m - l) % m).toNat ++ (List.range m.toNat).drop ((v % m - l) % m).toNat := (List.take_append_drop _ _).symm
      _ = _ := by rw [e1, e2]
  rw [e, List.map_append, List.filter_append, List.map_cons]
  have hf : ((as.map fun i => l + ((i : Nat) : Int)).filter fun c => decide ((c - v) % m = 0)) = [] := by
    rw [List.filter_eq_nil_iff]
    intro c hc
    rw [List.mem_map] at hc
    obtain ⟨i, hi, rfl⟩ := hc
    have := hlen i hi
    simp only [decide_eq_true_eq]
    intro z
    have := (key (i : Int) (by omega) (by omega)).mp z
    omega
  have ht : decide ((l + (((v % m - l) % m).toNat : Int) - v) % m = 0) = true := decide_eq_true ((key _ (by omega) (by omega)).mpr (by omega))
  rw [hf, List.nil_append, List.filter_cons_of_pos (p := fun c : Int => decide ((c - v) % m = 0)) ht, List.map_cons]
  rw [show (((v % m - l) % m).toNat : Int) = (v % m - l) % m by omega]
  exact ⟨_, rfl⟩
theorem moduli_wp {k : D → Prop} {e : Nat → D → Prop} (h : k (.bl true)) : (m_law_moduli (.dl 0)).wp k e := by
  unfold m_law_moduli
  simp only [N.ok_bind, upTo_ok (n := 6) (by decide) (by decide)]
  refine N.loop_then (fun _ _ => True) (fun x t n _ => ?_) (fun t _ => ?_) _ _ trivial
  rotate_left
  · exact h
  simp only [N.ok_bind, N.bind_assoc, N.bind_seq, N.ok_seq]
  refine any_bind (by decide) (by decide) (fun v v0 v1 => ?_)
  refine any_bind (by decide) (by decide) (fun l l0 l1 => ?_)
  refine any_bind (by decide) (by decide) (fun m' m0 m1 => ?_)
  obtain ⟨m, hm⟩ : ∃ m, m = 2 + m' := ⟨_, rfl⟩
  have hm0 : 0 < m := by omega
  have l3 : ∀ x y z : D, N.le1 [x, y, z] = .ok () := fun x y z => N.le1_of (by have := size64; simp; omega)
  have c2 : ∀ x y : D, N.asrt (([x, y] : List D).length = 2) = .ok () := fun x y => N.asrt_of rfl
  have c3 : ∀ x y z : D, N.asrt (([x, y, z] : List D).length = 3) = .ok () := fun x y z => N.asrt_of rfl
  have th : ∀ x y z : D, three (.tup [x, y, z]) = .ok (x, y, z) := fun _ _ _ => rfl
  have sp : N.span (.int l) (.int (l + m)) = .ok ((List.range m.toNat).map fun i => l + ((i : Nat) : Int)) := by
    unfold N.span
    simp only []
    rw [N.asrt_of ⟨by omega, by have := size64; omega⟩, show l + m - l = m by omega]
    rfl
  have cp : ∀ f g, (∀ c : Int, f c = .ok (decide ((c - v) % m = 0))) → (∀ c : Int, g c = N.ok (D.int c)) → N.comp f g ((List.range m.toNat).map fun i => l + ((i : Nat) : Int)) = .ok ((((List.range m.toNat).map fun i => l + ((i : Nat) : Int)).filter fun c => decide ((c - v) % m = 0)).map D.int) :=
    fun f g hf hg => N.comp_ok _ (fun c _ => hf c) (fun c _ => hg c)
  obtain ⟨r, hr⟩ := like_first (v := v) (l := l) hm0 (by omega)
  have ix : dIx (.lst (D.int (l + (v % m - l) % m) :: r)) (.int 0) = .ok (.int (l + (v % m - l) % m)) := by
    have : atI (D.int (l + (v % m - l) % m) :: r) 0 = some (.int (l + (v % m - l) % m)) := atI_nat (j := 0) rfl
    unfold dIx
    simp only [items, this]
  have ne1 : dNeS (.int (v % m)) (.int (v - m * (v / m))) = .ok (.bl false) := by
    show (N.ok (D.bl (!decide (v % m = v - m * (v / m)))) : N D) = _
    rw [decide_eq_true (Int.emod_def v m)]
    rfl
  have dv : dDiv (.int v) (.int m) = .ok (.int (v / m)) := iOpC_ok ⟨hm0, by omega⟩
  have ml : dMul (.int m) (.int (v / m)) = .ok (.int (m * (v / m))) := iOpC_ok (.inl ⟨by omega, by omega⟩)
  have md : ∀ c : Int, dMod (.int c) (.int m) = .ok (.int (c % m)) := fun c => iOpC_ok (C := fun _ j => 0 < j) hm0
  have eqd : ∀ c : Int, dEqS (.int c) (.int 0) = .ok (.bl (decide (c = 0))) := fun _ => rfl
  have last : l ≤ v → v < l + m → dNeS (.int (l + (v % m - l) % m)) (.int v) = .ok (.bl false) := fun h1 h2 => by
    show (N.ok (D.bl (!decide (l + (v % m - l) % m = v))) : N D) = _
    rw [Int.emod_sub_emod, Int.emod_eq_of_lt (by omega) (by omega), decide_eq_true (by omega)]
    rfl
  have ad : dAdd (.int 2) (.int m') = .ok (.int m) := by rw [hm]; rfl
  have ad2 : dAdd (.int l) (.int m) = .ok (.int (l + m)) := rfl
  simp only [ad, N.ok_bind, l3, th, N.ok_seq, c2, c3, told0, next0, dNe_int, N.tst_bl, N.ite_f, told_m hm0, next_m hm0, ad2, sp]
  rw [cp _ _ (fun c => by simp only [dSub, iOp_ok, N.ok_bind, md, eqd, N.tst_bl]) (fun c => rfl), hr]
  simp only [N.ok_bind, N.ok_seq, dv, ml, dSub, iOp_ok, ne1, N.tst_bl, N.ite_f, ix, dNe_int, dChain, dLe, dLt]
  by_cases h1 : l ≤ v
  · by_cases h2 : v < l + m
    · simp only [decide_eq_true h1, decide_eq_true h2, N.ok_bind, N.tst_bl, N.ite_t, if_true, last h1 h2, N.ite_f, N.ok_seq]
      exact trivial
    · simp only [decide_eq_true h1, decide_eq_false h2, N.ok_bind, N.tst_bl, N.ite_t, if_true, N.ite_f, N.ok_seq]
      exact trivial
  · simp only [decide_eq_false h1, N.ok_bind, N.tst_bl, N.ite_f, N.ok_seq]
    exact trivial
/-! ### the box -/
theorem cut_map (ns : List Int) (lo hi : Option Int) : ∃ ms : List Int, cutD (ns.map D.int) lo hi = ms.map D.int ∧ ms.length ≤ ns.length := by
  refine ⟨(ns.drop (HT.sIx ns.length 0 lo)).take (HT.sIx ns.length ns.length hi - HT.sIx ns.length 0 lo), ?_, ?_⟩
  · unfold cutD
    rw [List.length_map, ← List.map_drop, ← List.map_take]
  · rw [List.length_take, List.length_drop]
    omega
theorem intsD_map : ∀ ms : List Int, intsD (ms.map D.int) = some ms
  | [] => rfl
  | m :: ms => by
    show (intsD (ms.map D.int)).map (m :: ·) = _
    rw [intsD_map ms]
    rfl
theorem mkCells_ok {ms : List Int} (h : ms.length ≤ sizeLine) : mkCells (.lst (ms.map D.int)) = .ok (.dl 1) := by
  unfold mkCells
  simp only []
  rw [N.asrt_of ⟨by rw [List.length_map]; exact h, ms, intsD_map ms⟩]
  rfl
def gAbs : D → D
  | .int i => .int (if i < 0 then -i else i)
  | d => d
theorem draw_wp {ns : List Int} (h : ns.length ≤ 63) (s : Int) (hs : s < 1000) (hs0 : 0 ≤ s) {k : D → Prop} {e : Nat → D → Prop} (hk : k (.dl 0)) : (m_law_draw (.lst (ns.map D.int)) (.int s)).wp k e := by
  unfold m_law_draw
  obtain ⟨ms, e1, hm⟩ := cut_map ns none (some 48)
  have e2 : dSlL (.lst (ns.map D.int)) none (some 48) = .ok (.lst (ms.map D.int)) := by
    unfold dSlL
    simp only [e1]
  have e3 : toI (.int 48) = .ok 48 := rfl
  have e4 : seqOf (.lst (ms.map D.int)) = .ok (ms.map D.int) := rfl
  have z := size64
  obtain ⟨as, ha, hl⟩ : ∃ as : List Int, (ms.map D.int).map gAbs = as.map D.int ∧ as.length = ms.length := ⟨ms.map fun i => if i < 0 then -i else i, by rw [List.map_map, List.map_map]; rfl, List.length_map _⟩
  have e5 : N.comp (fun _ => .ok true) (fun c2 => (dInt c2).bind dAbs) (ms.map D.int) = .ok (as.map D.int) := by
    rw [N.comp_all (g := gAbs) _ (fun x hx => by
      rw [List.mem_map] at hx
      obtain ⟨i, _, rfl⟩ := hx
      rfl), ha]
  have e6 : seqOf (.lst (as.map D.int)) = .ok (as.map D.int) := rfl
  have e7 : dMul (.int 104729) (.int s) = .ok (.int (104729 * s)) := iOpC_ok (.inl ⟨by decide, by decide⟩)
  simp only [N.ok_bind, e3, e2, e4, N.fits_of (show (ms.map D.int).length ≤ sizeLine by rw [List.length_map]; omega), e5, N.ok_seq, e7, dAdd, iOp_ok, e6]
  have ep : dPow (.int 10) (.int 18) = .ok (.int 1000000000000000000) := iOpC_ok (f := fun i j => .int (i ^ j.toNat)) ⟨by decide, by decide, by decide⟩
  have ec : N.comp (fun c7 => (((dPow (.int 10) (.int 18)).bind fun y => dGe c7 y).bind N.tst)) (fun c7 => (.ok c7)) (as.map D.int) = .ok ((as.filter fun i => decide (1000000000000000000 ≤ i)).map D.int) := by
    rw [N.comp_ok (p := fun d => match d with | .int i => decide (1000000000000000000 ≤ i) | _ => false) (g := fun d => d) (as.map D.int) (fun x hx => by
      rw [List.mem_map] at hx
      obtain ⟨i, _, rfl⟩ := hx
      simp only [ep, N.ok_bind, dGe, iOp_ok, N.tst_bl]) (fun _ _ => rfl)]
    rw [List.map_id'' (fun _ => rfl), List.filter_map]
    rfl
  simp only [ep, N.ok_bind] at ec
  refine N.loop_thenM (fun x => ∃ i : Int, x = .int i) (fun _ t => ∃ z : Int, t = .int z) (fun x t n hx ht => ?_) (fun t ht => ?_) _ _ (fun x hx => ?_) ⟨_, rfl⟩
  · obtain ⟨i, rfl⟩ := hx
    obtain ⟨z, rfl⟩ := ht
    have f1 : dMul (.int z) (.int 48271) = .ok (.int (z * 48271)) := iOpC_ok (.inr ⟨by decide, by decide⟩)
    have f2 : dMod (.int i) (.int 2147483549) = .ok (.int (i % 2147483549)) := iOpC_ok (C := fun _ j => 0 < j) (by decide)
    have f3 : dMod (.int (z * 48271 + i % 2147483549 + 11)) (.int 2147483647) = .ok (.int ((z * 48271 + i % 2147483549 + 11) % 2147483647)) := iOpC_ok (C := fun _ j => 0 < j) (by decide)
    simp only [f1, f2, dAdd, iOp_ok, N.ok_bind, dInt, f3, N.ok_seq]
    exact ⟨_, rfl⟩
  · obtain ⟨z, rfl⟩ := ht
    simp only [ep, N.ok_bind, N.fits_of (show (as.map D.int).length ≤ sizeLine by rw [List.length_map]; omega), ec, mkCells_ok (ms := as.filter fun i => decide (1000000000000000000 ≤ i)) (by have := List.length_filter_le (fun i => decide ((1000000000000000000 : Int) ≤ i)) as; omega), mkDeal]
    exact hk
  · rw [List.mem_map] at hx
    obtain ⟨i, _, rfl⟩ := hx
    exact ⟨_, rfl⟩
/-! ### refusals -/
theorem slT_to {xs : List D} {i : Int} (h0 : 0 ≤ i) (h1 : i ≤ xs.length) : dSlT (.tup xs) none (some i) = .ok (.tup (xs.take i.toNat)) := by
  unfold dSlT cutD
  have e1 : HT.sIx xs.length 0 none = 0 := rfl
  have e2 : HT.sIx xs.length xs.length (some i) = i.toNat := by
    have := HT.sIx_nat xs.length xs.length i.toNat
    rw [show ((i.toNat : Nat) : Int) = i by omega] at this
    rw [this, Nat.min_eq_left (by omega)]
  simp only [e1, e2, List.drop_zero, Nat.sub_zero]
theorem slT_from {xs : List D} {i : Int} (h0 : 0 ≤ i) (h1 : i ≤ xs.length) : dSlT (.tup xs) (some i) none = .ok (.tup (xs.drop i.toNat)) := by
  unfold dSlT cutD
  have e1 : HT.sIx xs.length xs.length none = xs.length := rfl
  have e2 : HT.sIx xs.length 0 (some i) = i.toNat := by
    have := HT.sIx_nat xs.length 0 i.toNat
    rw [show ((i.toNat : Nat) : Int) = i by omega] at this
    rw [this, Nat.min_eq_left (by omega)]
  simp only [e1, e2]
  rw [List.take_of_length_le (by rw [List.length_drop]; omega)]
theorem cat_ok {xs ys : List D} (h : xs.length + ys.length ≤ 64) : dCat (.tup xs) (.tup ys) = .ok (.tup (xs ++ ys)) := by
  unfold dCat
  simp only []
  rw [N.asrt_of (by have := size64; omega)]
  rfl
theorem ne_empty {ls : List Le} (g : ∀ l ∈ ls, l.Good) : dNeD (.tup (ls.map Le.d)) (.tup []) = .ok (.bl (!decide (ls = []))) := by
  have e : toPy (.tup ([] : List D)) = some (.tuple []) := rfl
  unfold dNeD pEq
  simp only [py_bag, e]
  rw [N.asrt_of ⟨shaped_let g, rfl⟩]
  cases ls with
  | nil => rfl
  | cons l ls => rfl
theorem Okb.take {ls : List Le} (o : Okb ls) (n : Nat) : Okb (ls.take n) := ⟨fun l h => o.good l (List.mem_of_mem_take h), o.nod.sublist (List.take_sublist n ls)⟩
theorem seq_no {y : D} (h : y = .non ∨ y = .int 3 ∨ y = .str "left") : m_is_sequence y = .ok (.bl false) := by
  unfold m_is_sequence
  rcases h with rfl | rfl | rfl <;> simp [dIsi2, tyN]
theorem refusals_tail {ls : List Le} (o : Okb ls) (z : ls.length ≤ 15) {k : D → Prop} {e : Nat → D → Prop} (h : k (.bl true)) :
    (N.fin ((m_law_of (.dl 0) (.lst [.non, .int 3, .str "left"])).bind fun x => (m_law_tried (.str "bag") (.tup [x])).bind fun x => (dNeD x (.int (-1))).bind fun x => (N.tst x).bind fun x => (if x = true then N.ok (Fl.rt (D.bl false)) else N.ok (Fl.nx ())).seq fun (_ : Unit) =>
      (m_law_of (.dl 0) (.lst [.int (-1), .int ls.length, .non, .str "0", .bl true])).bind fun a => (m_law_tried (.str "at") (.tup [.tup (ls.map Le.d), a])).bind fun a => (dEqD a (.int (-1))).bind fun d => N.ok (Fl.rt d) : N (Fl Unit Unit))).wp k e := by
  simp only [N.bind_fin]
  refine of_bind (by simp) (by decide) (fun x hx => ?_)
  have hx : x = .non ∨ x = .int 3 ∨ x = .str "left" := by simpa using hx
  simp only [tried_bag (need_bag_none (seq_no hx)), N.ok_bind, dNe_int, N.tst_bl, N.ite_f, N.ok_seq, N.bind_fin]
  refine of_bind (by simp) (by simp) (fun x hx => ?_)
  have hx : x = .int (-1) ∨ x = .int ls.length ∨ x = .non ∨ x = .str "0" ∨ x = .bl true := by simpa using hx
  have hi : m_is_index x (.int ls.length) = .ok (.bl false) := by
    rcases hx with rfl | rfl | rfl | rfl | rfl
    · rw [isIndex_ok]; rfl
    · rw [isIndex_ok, decide_eq_false (show ¬ (ls.length : Int) < ls.length by omega), Bool.and_false]
    · exact isIndex_no isInt_non
    · exact isIndex_no (isInt_str _)
    · exact isIndex_no (isInt_bl _)
  have eq1 : dEqD (.int (-1)) (.int (-1)) = .ok (.bl true) := dEq_self (p := .int (-1)) rfl rfl
  simp only [tried_at (at_no (.inl rfl) (Are.tup ls) o (by omega) hi), N.ok_bind, eq1, N.rt_fin]
  exact h
theorem refusals_wp {ls : List Le} (o : Okb ls) (z : ls.length ≤ 15) {k : D → Prop} {e : Nat → D → Prop} (h : k (.bl true)) : (m_law_refusals (.dl 0) (.tup (ls.map Le.d))).wp k e := by
  unfold m_law_refusals
  have l1 : ∀ x : D, N.le1 [x] = .ok () := fun x => N.le1_of (by have := size64; simp; omega)
  have l2 : ∀ x y : D, N.le1 [x, y] = .ok () := fun x y => N.le1_of (by have := size64; simp; omega)
  have l3 : ∀ x y z : D, N.le1 [x, y, z] = .ok () := fun x y z => N.le1_of (by have := size64; simp; omega)
  have l4 : ∀ x y z w : D, N.le1 [x, y, z, w] = .ok () := fun x y z w => N.le1_of (by have := size64; simp; omega)
  have l5 : ∀ x y z w v : D, N.le1 [x, y, z, w, v] = .ok () := fun x y z w v => N.le1_of (by have := size64; simp; omega)
  have l11 : ∀ a b c d e f g h i j k : D, N.le1 [a, b, c, d, e, f, g, h, i, j, k] = .ok () := fun a b c d e f g h i j k => N.le1_of (by have := size64; simp; omega)
  have l0 : N.le1 ([] : List D) = .ok () := N.le1_of (Nat.zero_le _)
  have ng : dNeg (.int 1) = .ok (.int (-1)) := rfl
  have ln : dLen (.tup (ls.map Le.d)) = .ok (.int ls.length) := by unfold dLen; simp [items]
  simp only [N.ok_bind, N.bind_assoc, N.bind_seq, N.ok_seq, N.bind_fin, l1, l2, l3, l4, l5, l11, l0, ng, ln, dAdd, iOp_ok]
  refine of_bind (xs := odds) (by unfold odds; simp) (by unfold odds; decide) (fun y hy => ?_)
  have oy := odd_all y hy
  refine any_bind (by omega) (by omega) (fun i i0 i1 => ?_)
  have ti : ∀ q : Int, toI (.int q) = .ok q := fun _ => rfl
  have lt : ((ls.take i.toNat).length : Int) = i := by rw [List.length_take, Nat.min_eq_left (by omega)]; omega
  have c1 := tried_letter (need_letter_odd (k := .int i) oy)
  have s1 : dSlT (.tup (ls.map Le.d)) none (some i) = .ok (.tup ((ls.take i.toNat).map Le.d)) := by rw [slT_to i0 (by rw [List.length_map]; omega), List.map_take]
  have s2 : dSlT (.tup (ls.map Le.d)) (some i) none = .ok (.tup ((ls.drop i.toNat).map Le.d)) := by rw [slT_from i0 (by rw [List.length_map]; omega), List.map_drop]
  have k1 : dCat (.tup ((ls.take i.toNat).map Le.d)) (.tup [y]) = .ok (.tup ((ls.take i.toNat).map Le.d ++ [y])) := cat_ok (by rw [List.length_map, List.length_take]; simp; omega)
  have k2 : dCat (.tup ((ls.take i.toNat).map Le.d ++ [y])) (.tup ((ls.drop i.toNat).map Le.d)) = .ok (.tup ((ls.take i.toNat).map Le.d ++ [y] ++ (ls.drop i.toNat).map Le.d)) := cat_ok (by simp; omega)
  have c2 : m_law_tried (.str "bag") (.tup [.tup ((ls.take i.toNat).map Le.d ++ [y] ++ (ls.drop i.toNat).map Le.d)]) = .ok (.int i) := by
    have := need_bag_odd (b := .tup ((ls.take i.toNat).map Le.d ++ [y] ++ (ls.drop i.toNat).map Le.d)) (zs := (ls.drop i.toNat).map Le.d) (.inl (by rw [List.append_assoc]; rfl)) (Are.tup (ls.take i.toNat)) (o.take _) (by rw [List.length_take]; omega) oy
    rw [lt] at this
    exact tried_bag this
  have k3 : dCat (.tup (ls.map Le.d)) (.tup [y]) = .ok (.tup (ls.map Le.d ++ [y])) := cat_ok (by simp; omega)
  have c3 : m_law_tried (.str "put") (.tup [.tup (ls.map Le.d ++ [y]), y]) = .ok (.int ls.length) := tried_put (put_bad (need_bag_odd (zs := []) (.inl rfl) (Are.tup ls) o (by omega) oy))
  have c4 : m_law_tried (.str "put") (.tup [.tup (ls.map Le.d), y]) = .ok (.int (-1)) := tried_put (put_odd (.inl rfl) (Are.tup ls) o (by omega) oy)
  have s3 : dSlT (.tup (ls.map Le.d)) none (some 1) = .ok (.tup ((ls.take 1).map Le.d)) := by
    cases ls with
    | nil => rfl
    | cons l ls => rw [slT_to (by decide) (by simp; omega), List.map_take]; rfl
  have k4 : dCat (.tup (ls.map Le.d)) (.tup ((ls.take 1).map Le.d)) = .ok (.tup (ls.map Le.d ++ (ls.take 1).map Le.d)) := cat_ok (by simp; omega)
  have c5 : ls ≠ [] → m_law_tried (.str "bag") (.tup [.tup (ls.map Le.d ++ (ls.take 1).map Le.d)]) = .ok (.int ls.length) := fun hn => by
    match ls, hn with
    | l :: ls', _ => exact tried_bag (need_bag_dup (zs := []) (l := l) (.inl rfl) (Are.tup (l :: ls')) o (by omega) (.inl rfl) List.mem_cons_self)
  simp only [N.ok_bind, c1, dNe_int, N.tst_bl, N.ite_f, ti, s1, s2, k1, k2, c2, N.ok_seq, ne_empty o.good, s3, k3, k4, c3, c4]
  by_cases hn : ls = []
  · simp only [decide_eq_true hn, Bool.not_true, N.ok_bind, N.tst_bl, N.ite_f, N.ok_seq]
    exact refusals_tail o z h
  · simp only [decide_eq_false hn, Bool.not_false, N.ite_t, if_true, c5 hn, N.ok_bind, dNe_int, N.tst_bl, N.ite_f, N.ok_seq]
    exact refusals_tail o z h
/-! ### the law -/
theorem moduli_bind {β : Type} {f : D → N β} {k : β → Prop} {e : Nat → D → Prop} (h : (f (.bl true)).wp k e) : ((m_law_moduli (.dl 0)).bind f).wp k e := moduli_wp h
theorem draw_bind {β : Type} {ns : List Int} (hn : ns.length ≤ 63) {f : D → N β} {k : β → Prop} {e : Nat → D → Prop} (h : (f (.dl 0)).wp k e) : ((m_law_draw (.lst (ns.map D.int)) (.int 72)).bind f).wp k e := draw_wp hn 72 (by decide) (by decide) h
theorem putL_ok {ls : List Le} {l : Le} (o : Okb ls) (g : l.Good) : Okb (putL ls l) := by
  unfold putL
  by_cases q : l ∈ ls
  · rw [if_pos q]; exact o
  · rw [if_neg q]
    refine ⟨fun m hm => ?_, ?_⟩
    · rw [List.mem_append, List.mem_singleton] at hm
      rcases hm with hm | rfl
      · exact o.good m hm
      · exact g
    · rw [List.nodup_append]
      refine ⟨o.nod, by simp, fun x hx y hy => ?_⟩
      rw [List.mem_singleton] at hy
      subst hy
      exact fun z => q (z ▸ hx)
theorem putL_len (ls : List Le) (l : Le) : (putL ls l).length ≤ ls.length + 1 ∧ 0 < (putL ls l).length := by
  unfold putL
  by_cases q : l ∈ ls
  · rw [if_pos q]; exact ⟨Nat.le_succ _, List.length_pos_of_mem q⟩
  · rw [if_neg q, List.length_append]; exact ⟨Nat.le_refl _, Nat.succ_pos _⟩
def gLst : D → D
  | .tup xs => .lst xs
  | d => d
theorem comp_lst (ls : List Le) : N.comp (fun _ => .ok true) (fun c => dList c) (ls.map Le.d) = .ok (ls.map fun l => .lst l.ds) := by
  rw [N.comp_all (g := gLst) _ (fun x hx => by
    rw [List.mem_map] at hx
    obtain ⟨l, _, rfl⟩ := hx
    rfl), List.map_map]
  rfl
theorem law_math : ∀ ns : List Int, ns.length ≤ 63 → (m_law (.lst (ns.map D.int))).wp (fun d => d = .bl true) (fun _ _ => False) := by
  intro ns hn
  unfold m_law
  have l1 : ∀ x : D, N.le1 [x] = .ok () := fun x => N.le1_of (by have := size64; simp; omega)
  have l2 : ∀ x y : D, N.le1 [x, y] = .ok () := fun x y => N.le1_of (by have := size64; simp; omega)
  have l3 : ∀ x y z : D, N.le1 [x, y, z] = .ok () := fun x y z => N.le1_of (by have := size64; simp; omega)
  have l0 : N.le1 ([] : List D) = .ok () := N.le1_of (Nat.zero_le _)
  have a0 : N.asrt (([] : List D).length = 0) = .ok () := N.asrt_of rfl
  have a1 : ∀ x : D, N.asrt (([x] : List D).length = 1) = .ok () := fun x => N.asrt_of rfl
  simp only [N.ok_bind, N.bind_assoc, N.bind_seq, N.ok_seq, N.bind_fin]
  refine draw_bind hn ?_
  simp only [N.ok_bind, a0, anchor_ok, N.tst_bl, Bool.not_true, N.ite_f, N.ok_seq, l0, N.bind_seq, N.bind_fin, N.bind_assoc]
  refine any_bind (by decide) (by decide) (fun n n0 n1 => ?_)
  simp only [upTo_ok n0 (show n < 2 ^ 62 by omega), N.ok_bind]
  refine N.loop_then (fun j (s : List D × D) => ∃ ls, s = (ls.map Le.d, .tup (ls.map Le.d)) ∧ Okb ls ∧ ls.length + j ≤ 14) (fun y s j hI => ?_) (fun s hI => ?_) _ _ ⟨[], rfl, ok0, by rw [List.length_map, List.length_range]; simp; omega⟩
  · obtain ⟨ls, rfl, o, z⟩ := hI
    simp only [l2]
    refine of_bind (by simp) (by decide) (fun w hw => ?_)
    refine any_bind (by decide) (by decide) (fun a x0 x1 => ?_)
    refine any_bind (by decide) (by decide) (fun b y0 y1 => ?_)
    obtain ⟨l, hl, g⟩ : ∃ l : Le, D.tup [w, .int a, .int b] = l.d ∧ l.Good := by
      have hw : w = .str "left" ∨ w = .str "hold" := by simpa using hw
      rcases hw with rfl | rfl
      · exact ⟨⟨"left", a, b⟩, rfl, .inl rfl, x0, y0⟩
      · exact ⟨⟨"hold", a, b⟩, rfl, .inr rfl, x0, y0⟩
    simp only [N.ok_bind, l3, N.ok_seq, hl]
    have e1 : dNotInD l.d (.lst (ls.map Le.d)) = .ok (.bl (!decide (l ∈ ls))) := by
      unfold dNotInD
      rw [pIn_le rfl g o.good]
      rfl
    simp only [e1, N.ok_bind, N.tst_bl]
    have step : (if (!decide (l ∈ ls)) = true then ((N.asrt ((ls.map Le.d).length < sizeLine)).bind fun _ => N.ok (Fl.nx (ls.map Le.d ++ [l.d]))) else N.ok (Fl.nx (ls.map Le.d)) : N (Fl (List D) (List D × D))) = .ok (.nx ((putL ls l).map Le.d)) := by
      unfold putL
      by_cases q : l ∈ ls
      · rw [decide_eq_true q, if_neg (by decide), if_pos q]
      · rw [decide_eq_false q, if_pos (show (!false) = true from rfl), if_neg q, N.asrt_of (by rw [List.length_map]; have := size64; omega), List.map_append]
        rfl
    have oP := putL_ok o g
    have zP := putL_len ls l
    have sq : ∀ ms : List Le, seqOf (.tup (ms.map Le.d)) = .ok (ms.map Le.d) := fun _ => rfl
    have ft : ∀ ms : List Le, ms.length ≤ 15 → N.fits (ms.map Le.d) = .ok () := fun ms h => N.fits_of (by rw [List.length_map]; have := size64; omega)
    rw [step]
    simp only [N.ok_seq, sq, N.ok_bind, ft ls (by omega), comp_lst]
    refine of_bind (by simp) (by simp) (fun given hg => ?_)
    obtain ⟨ys, hb, ha⟩ : ∃ ys, IsBag given ys ∧ Are ys ls := by
      have hg : given = .tup (ls.map Le.d) ∨ given = .lst (ls.map fun l => .lst l.ds) := by simpa using hg
      rcases hg with rfl | rfl
      · exact ⟨_, .inl rfl, Are.tup ls⟩
      · exact ⟨_, .inr rfl, Are.lst ls⟩
    have dl : dList l.d = .ok (.lst l.ds) := rfl
    simp only [dl, N.ok_bind]
    refine of_bind (by simp) (by simp) (fun y' hy => ?_)
    have hy : IsLe y' l := by
      have hy : y' = l.d ∨ y' = .lst l.ds := by simpa using hy
      exact hy
    have n1 : dNeD (.tup ((putL ls l).map Le.d)) (.tup ((putL ls l).map Le.d)) = .ok (.bl false) := dNe_self (py_bag _) (shaped_let oP.good)
    have n2 : dNeD l.d l.d = .ok (.bl false) := dNe_self (py_le l) (shaped_le g)
    have nb : m_need_bag (.lst ((putL ls l).map fun l => .lst l.ds)) = .ok (.tup ((putL ls l).map Le.d)) := need_bag_ok (.inr rfl) (Are.lst _) oP (by omega)
    have nl : app2 m_need_letter (gD_need_letter_1 [.lst l.ds] []) = .ok l.d := need_def_ok (.inr rfl) g
    have ln : dLen (.tup ((putL ls l).map Le.d)) = .ok (.int (putL ls l).length) := by unfold dLen; simp [items]
    simp only [put_ok hb ha o (by omega) hy g, N.ok_bind, n1, N.tst_bl, N.ite_f, sq, ft (putL ls l) (by omega), comp_lst, nb, nl, n2, a1, N.ok_seq, ln]
    refine any_bind (by omega) (by omega) (fun r r0 r1 => ?_)
    have hlt : r.toNat < (putL ls l).length := by omega
    have hg : (putL ls l)[r.toNat]? = some (putL ls l)[r.toNat] := List.getElem?_eq_getElem hlt
    have gm := oP.good _ (List.getElem_mem hlt)
    have at1 : m_letter_at (.tup ((putL ls l).map Le.d)) (.int r) = .ok ((putL ls l)[r.toNat]).d := at_ok (.inl rfl) (Are.tup _) oP (by omega) r0 hg
    have at2 : dIx (.lst ((putL ls l).map Le.d)) (.int r) = .ok ((putL ls l)[r.toNat]).d := by
      have : atI ((putL ls l).map Le.d) r = some ((putL ls l)[r.toNat]).d := by
        have := atI_nat (xs := (putL ls l).map Le.d) (j := r.toNat) (v := ((putL ls l)[r.toNat]).d) (by rw [List.getElem?_map, hg]; rfl)
        rwa [show ((r.toNat : Nat) : Int) = r by omega] at this
      unfold dIx
      simp only [items, this]
    have n3 : dNeD ((putL ls l)[r.toNat]).d ((putL ls l)[r.toNat]).d = .ok (.bl false) := dNe_self (py_le _) (shaped_le gm)
    simp only [at1, at2, N.ok_bind, n3, N.tst_bl, N.ite_f, N.ok_seq]
    exact ⟨putL ls l, rfl, oP, by omega⟩
  · obtain ⟨ls, rfl, o, z⟩ := hI
    simp only [N.bind_fin]
    refine moduli_bind ?_
    simp only [N.ok_bind, N.tst_bl, N.ite_t, if_true, N.rt_fin]
    exact refusals_wp o (by omega) rfl
end M

set_option Elab.async false
set_option linter.all false
set_option maxRecDepth 100000
set_option maxHeartbeats 4000000
namespace M
open PySem L2
/-- what the law promises of a script -/
def spLaw (K : PySem.W.Frag) : Sp := fun vs H Q _ => ∃ (a : Addr) (ns : List Int), vs = [.ref a] ∧ SqL K H a (ns.map V.int) ∧ ns.length ≤ 63 ∧ ∀ H', Q (.bl true) H'
theorem rpl_ints {Z : Zt} {F : Ty} : ∀ ns : List Int, RpL Z F (ns.map V.int) (ns.map D.int)
  | [] => .nil
  | n :: ns => .cons (.int n) (rpl_ints ns)
theorem law_start {Z : Zt} {m : D → N D} (hm : ∀ ns : List Int, ns.length ≤ 63 → (m (.lst (ns.map D.int))).wp (fun d => d = .bl true) (fun _ _ => False)) (vs : List V) (H : Hp) (Q : VK) (E : XK) (h : spLaw Z.K vs H Q E) : spN Z 1 (app1 m) vs H Q E := by
  obtain ⟨a, ns, rfl, hs, hl, q⟩ := h
  refine ⟨rfl, ?_⟩
  have fin : ∀ F, Okk F H → RL Z.K F a (ns.map V.int) → ∃ F ds, Okk F H ∧ RpL Z F [.ref a] ds ∧ (app1 m ds).wp (fun d => ∀ v F' H', Ext F H F' H' → Rp Z F' v d → Q v H') (fun c x => ∀ cls dd F' H', Ext F H F' H' → ErrIs Z F' c x cls dd → E cls dd H') := fun F ok r =>
    ⟨F, [.lst (ns.map D.int)], ok, .cons (.lst r (rpl_ints ns)) .nil, (m _).mono (fun d e v F' H' _ r => by subst e; rw [rp_bl r]; exact q H') (fun _ _ z => z.elim) (hm ns hl)⟩
  rcases hs with (hr | ⟨o, hr⟩) | hk
  · refine fin (updT (fun _ => none) a (is (.lst (ns.map V.int)))) (fun b p e => ?_) (.inl (.inl updT_same))
    by_cases z : b = a
    · subst z; rw [updT_same] at e; cases e; exact ⟨_, hr, rfl, fun _ => rfl⟩
    · rw [updT_ne z] at e; cases e
  · refine fin (updT (fun _ => none) a (is (.frz o (.lst (ns.map V.int))))) (fun b p e => ?_) (.inl (.inr ⟨o, updT_same⟩))
    by_cases z : b = a
    · subst z; rw [updT_same] at e; cases e; exact ⟨_, hr, rfl, fun _ => rfl⟩
    · rw [updT_ne z] at e; cases e
  · exact fin (fun _ => none) (fun _ _ e => by cases e) (.inr hk)
theorem exm_self {K : PySem.W.Frag} {S R : Addr} {b : Bool} (h4 : PySem.W.subIn K (.ref S) (.ref R) = some b) (i1 : PySem.W.subIn K (.ref R) (.type "BaseException") = some true) (i2 : PySem.W.isClsIn K R = true) (i3 : PySem.W.typeIn K (.ref R) = some (.type "type")) :
    PySem.W.exmOne K (.ref S) (.ref R) = some b := by
  have e1 : (PySem.W.subIn K (.ref R) (.type "BaseException") == some true) = true := by rw [i1] <;> rfl
  have e2 : ((PySem.W.clsIn K R).isSome && PySem.W.typeIn K (.ref R) == some (.type "type")) = true := by
    have h2' : (PySem.W.clsIn K R).isSome = true := i2
    rw [h2', i3] <;> rfl
  show (if (PySem.W.subIn K (.ref R) (.type "BaseException") == some true) = true then (if ((PySem.W.clsIn K R).isSome && PySem.W.typeIn K (.ref R) == some (.type "type")) = true then PySem.W.subIn K (.ref S) (.ref R) else none) else none) = some b
  rw [if_pos e1, if_pos e2]
  exact h4
theorem exm_one {K : PySem.W.Frag} {C : Addr} (h : PySem.W.exmOne K (.ref C) (.ref C) = some true) : ∀ c d : Nat, c < 1 → d < 1 → PySem.W.exmOne K (.ref C) (.ref C) = some (exT c d)
  | 0, 0, _, _ => h

theorem all_mk {P : Program} {w : World} {K : PySem.W.Frag} {h : Heap} {mg : Str → Option Value} {fa : Addr} {f0 : Addr} {od0 an0 : Option Addr} {sl0 : Array (Option Value)} {oc0 kV0 dc0 pm0 cd0 ct0 : Value} {f1 : Addr} {od1 an1 : Option Addr} {sl1 : Array (Option Value)} {oc1 kV1 dc1 pm1 cd1 ct1 : Value} {f2 : Addr} {od2 an2 : Option Addr} {sl2 : Array (Option Value)} {oc2 kV2 dc2 pm2 cd2 ct2 : Value} {f3 : Addr} {od3 an3 : Option Addr} {sl3 : Array (Option Value)} {oc3 kV3 dc3 pm3 cd3 ct3 : Value} {f4 : Addr} {od4 an4 : Option Addr} {sl4 : Array (Option Value)} {oc4 kV4 dc4 pm4 cd4 ct4 : Value} {f5 : Addr} {od5 an5 : Option Addr} {sl5 : Array (Option Value)} {oc5 kV5 dc5 pm5 cd5 ct5 : Value} {T5 : Addr} {odT5 : Option Addr} {slT5 : Array (Option Value)} {tT5 : Tok} {nT5 : Nat} {f6 : Addr} {od6 an6 : Option Addr} {sl6 : Array (Option Value)} {oc6 kV6 dc6 pm6 cd6 ct6 : Value} {f7 : Addr} {od7 an7 : Option Addr} {sl7 : Array (Option Value)} {oc7 kV7 dc7 pm7 cd7 ct7 : Value} {f8 : Addr} {od8 an8 : Option Addr} {sl8 : Array (Option Value)} {oc8 kV8 dc8 pm8 cd8 ct8 : Value} {f9 : Addr} {od9 an9 : Option Addr} {sl9 : Array (Option Value)} {oc9 kV9 dc9 pm9 cd9 ct9 : Value} {f10 : Addr} {od10 an10 : Option Addr} {sl10 : Array (Option Value)} {oc10 kV10 dc10 pm10 cd10 ct10 : Value} {f11 : Addr} {od11 an11 : Option Addr} {sl11 : Array (Option Value)} {oc11 kV11 dc11 pm11 cd11 ct11 : Value} {f12 : Addr} {od12 an12 : Option Addr} {sl12 : Array (Option Value)} {oc12 kV12 dc12 pm12 cd12 ct12 : Value} {f13 : Addr} {od13 an13 : Option Addr} {sl13 : Array (Option Value)} {oc13 kV13 dc13 pm13 cd13 ct13 : Value} {f14 : Addr} {od14 an14 : Option Addr} {sl14 : Array (Option Value)} {oc14 kV14 dc14 pm14 cd14 ct14 : Value} {f15 : Addr} {od15 an15 : Option Addr} {sl15 : Array (Option Value)} {oc15 kV15 dc15 pm15 cd15 ct15 : Value} {f16 : Addr} {od16 an16 : Option Addr} {sl16 : Array (Option Value)} {oc16 kV16 dc16 pm16 cd16 ct16 : Value} {f17 : Addr} {od17 an17 : Option Addr} {sl17 : Array (Option Value)} {oc17 kV17 dc17 pm17 cd17 ct17 : Value} {f18 : Addr} {od18 an18 : Option Addr} {sl18 : Array (Option Value)} {oc18 kV18 dc18 pm18 cd18 ct18 : Value} {cK0 : Addr} {odK0 : Option Addr} {slK0 : Array (Option Value)} {nK0 : Nat} {tK0_0 : Tok} {tK0_1 : Tok}  {C0 fI0 N0 : Addr} {nm0 q0 : Str} {bs0 : List Value} {sn0 : List Str} {sub0 : List Value} {ab0 : Bool} {col0 : Option Bool} {dd0 : Option Addr} {m00 m10 m20 m30 m50 : Option Value} {ocI0 dcI0 pmI0 cdI0 ctI0 : Value} {odI0 anI0 : Option Addr} {slI0 : Array (Option Value)} {B0_0 : Addr}  (X : K.In h) (G : h.Ns mainGlobals mg) (hfa : mg "law" = some (.ref fa)) (hm : ∀ ns : List Int, ns.length ≤ 63 → (m_law (.lst (ns.map D.int))).wp (fun d => d = .bl true) (fun _ _ => False))
    (a0 : PySem.W.nsIn K mainGlobals "is_integer" = some (some (.ref f0)))
    (l0 : K.lookup f0 = some ⟨oc0, od0, .func (PySem.W.fnOf "is_integer" "is_integer" (defArgs s_is_integer) (defBody s_is_integer) (defScope s_is_integer) .none kV0 dc0 pm0 an0 cd0 ct0), sl0⟩)
    (c0 : PySem.W.codeIn K cd0 "is_integer" = true)
    (k0 : PySem.W.keepIn K (.ref f0) = true)
    (a1 : PySem.W.nsIn K mainGlobals "is_number" = some (some (.ref f1)))
    (l1 : K.lookup f1 = some ⟨oc1, od1, .func (PySem.W.fnOf "is_number" "is_number" (defArgs s_is_number) (defBody s_is_number) (defScope s_is_number) .none kV1 dc1 pm1 an1 cd1 ct1), sl1⟩)
    (c1 : PySem.W.codeIn K cd1 "is_number" = true)
    (k1 : PySem.W.keepIn K (.ref f1) = true)
    (a2 : PySem.W.nsIn K mainGlobals "is_index" = some (some (.ref f2)))
    (l2 : K.lookup f2 = some ⟨oc2, od2, .func (PySem.W.fnOf "is_index" "is_index" (defArgs s_is_index) (defBody s_is_index) (defScope s_is_index) .none kV2 dc2 pm2 an2 cd2 ct2), sl2⟩)
    (c2 : PySem.W.codeIn K cd2 "is_index" = true)
    (k2 : PySem.W.keepIn K (.ref f2) = true)
    (a3 : PySem.W.nsIn K mainGlobals "is_sequence" = some (some (.ref f3)))
    (l3 : K.lookup f3 = some ⟨oc3, od3, .func (PySem.W.fnOf "is_sequence" "is_sequence" (defArgs s_is_sequence) (defBody s_is_sequence) (defScope s_is_sequence) .none kV3 dc3 pm3 an3 cd3 ct3), sl3⟩)
    (c3 : PySem.W.codeIn K cd3 "is_sequence" = true)
    (k3 : PySem.W.keepIn K (.ref f3) = true)
    (a4 : PySem.W.nsIn K mainGlobals "is_letter" = some (some (.ref f4)))
    (l4 : K.lookup f4 = some ⟨oc4, od4, .func (PySem.W.fnOf "is_letter" "is_letter" (defArgs s_is_letter) (defBody s_is_letter) (defScope s_is_letter) .none kV4 dc4 pm4 an4 cd4 ct4), sl4⟩)
    (c4 : PySem.W.codeIn K cd4 "is_letter" = true)
    (k4 : PySem.W.keepIn K (.ref f4) = true)
    (a5 : PySem.W.nsIn K mainGlobals "need_letter" = some (some (.ref f5)))
    (l5 : K.lookup f5 = some ⟨oc5, od5, .func (PySem.W.fnOf "need_letter" "need_letter" (defArgs s_need_letter) (defBody s_need_letter) (defScope s_need_letter) (.ref T5) kV5 dc5 pm5 an5 cd5 ct5), sl5⟩)
    (c5 : PySem.W.codeIn K cd5 "need_letter" = true)
    (k5 : PySem.W.keepIn K (.ref f5) = true)
    (lT5 : K.lookup T5 = some ⟨.type "tuple", odT5, .seq #[.int (-1) tT5] nT5, slT5⟩)
    (a6 : PySem.W.nsIn K mainGlobals "need_bag" = some (some (.ref f6)))
    (l6 : K.lookup f6 = some ⟨oc6, od6, .func (PySem.W.fnOf "need_bag" "need_bag" (defArgs s_need_bag) (defBody s_need_bag) (defScope s_need_bag) .none kV6 dc6 pm6 an6 cd6 ct6), sl6⟩)
    (c6 : PySem.W.codeIn K cd6 "need_bag" = true)
    (k6 : PySem.W.keepIn K (.ref f6) = true)
    (a7 : PySem.W.nsIn K mainGlobals "put_letter" = some (some (.ref f7)))
    (l7 : K.lookup f7 = some ⟨oc7, od7, .func (PySem.W.fnOf "put_letter" "put_letter" (defArgs s_put_letter) (defBody s_put_letter) (defScope s_put_letter) .none kV7 dc7 pm7 an7 cd7 ct7), sl7⟩)
    (c7 : PySem.W.codeIn K cd7 "put_letter" = true)
    (k7 : PySem.W.keepIn K (.ref f7) = true)
    (a8 : PySem.W.nsIn K mainGlobals "letter_at" = some (some (.ref f8)))
    (l8 : K.lookup f8 = some ⟨oc8, od8, .func (PySem.W.fnOf "letter_at" "letter_at" (defArgs s_letter_at) (defBody s_letter_at) (defScope s_letter_at) .none kV8 dc8 pm8 an8 cd8 ct8), sl8⟩)
    (c8 : PySem.W.codeIn K cd8 "letter_at" = true)
    (k8 : PySem.W.keepIn K (.ref f8) = true)
    (a9 : PySem.W.nsIn K mainGlobals "told_visit" = some (some (.ref f9)))
    (l9 : K.lookup f9 = some ⟨oc9, od9, .func (PySem.W.fnOf "told_visit" "told_visit" (defArgs s_told_visit) (defBody s_told_visit) (defScope s_told_visit) .none kV9 dc9 pm9 an9 cd9 ct9), sl9⟩)
    (c9 : PySem.W.codeIn K cd9 "told_visit" = true)
    (k9 : PySem.W.keepIn K (.ref f9) = true)
    (a10 : PySem.W.nsIn K mainGlobals "next_like" = some (some (.ref f10)))
    (l10 : K.lookup f10 = some ⟨oc10, od10, .func (PySem.W.fnOf "next_like" "next_like" (defArgs s_next_like) (defBody s_next_like) (defScope s_next_like) .none kV10 dc10 pm10 an10 cd10 ct10), sl10⟩)
    (c10 : PySem.W.codeIn K cd10 "next_like" = true)
    (k10 : PySem.W.keepIn K (.ref f10) = true)
    (a11 : PySem.W.nsIn K mainGlobals "_law_draw" = some (some (.ref f11)))
    (l11 : K.lookup f11 = some ⟨oc11, od11, .func (PySem.W.fnOf "_law_draw" "_law_draw" (defArgs s_law_draw) (defBody s_law_draw) (defScope s_law_draw) .none kV11 dc11 pm11 an11 cd11 ct11), sl11⟩)
    (c11 : PySem.W.codeIn K cd11 "_law_draw" = true)
    (k11 : PySem.W.keepIn K (.ref f11) = true)
    (a12 : PySem.W.nsIn K mainGlobals "_law_any" = some (some (.ref f12)))
    (l12 : K.lookup f12 = some ⟨oc12, od12, .func (PySem.W.fnOf "_law_any" "_law_any" (defArgs s_law_any) (defBody s_law_any) (defScope s_law_any) .none kV12 dc12 pm12 an12 cd12 ct12), sl12⟩)
    (c12 : PySem.W.codeIn K cd12 "_law_any" = true)
    (k12 : PySem.W.keepIn K (.ref f12) = true)
    (a13 : PySem.W.nsIn K mainGlobals "_law_of" = some (some (.ref f13)))
    (l13 : K.lookup f13 = some ⟨oc13, od13, .func (PySem.W.fnOf "_law_of" "_law_of" (defArgs s_law_of) (defBody s_law_of) (defScope s_law_of) .none kV13 dc13 pm13 an13 cd13 ct13), sl13⟩)
    (c13 : PySem.W.codeIn K cd13 "_law_of" = true)
    (k13 : PySem.W.keepIn K (.ref f13) = true)
    (a14 : PySem.W.nsIn K mainGlobals "_law_tried" = some (some (.ref f14)))
    (l14 : K.lookup f14 = some ⟨oc14, od14, .func (PySem.W.fnOf "_law_tried" "_law_tried" (defArgs s_law_tried) (defBody s_law_tried) (defScope s_law_tried) .none kV14 dc14 pm14 an14 cd14 ct14), sl14⟩)
    (c14 : PySem.W.codeIn K cd14 "_law_tried" = true)
    (k14 : PySem.W.keepIn K (.ref f14) = true)
    (a15 : PySem.W.nsIn K mainGlobals "_law_refusals" = some (some (.ref f15)))
    (l15 : K.lookup f15 = some ⟨oc15, od15, .func (PySem.W.fnOf "_law_refusals" "_law_refusals" (defArgs s_law_refusals) (defBody s_law_refusals) (defScope s_law_refusals) .none kV15 dc15 pm15 an15 cd15 ct15), sl15⟩)
    (c15 : PySem.W.codeIn K cd15 "_law_refusals" = true)
    (k15 : PySem.W.keepIn K (.ref f15) = true)
    (a16 : PySem.W.nsIn K mainGlobals "_law_moduli" = some (some (.ref f16)))
    (l16 : K.lookup f16 = some ⟨oc16, od16, .func (PySem.W.fnOf "_law_moduli" "_law_moduli" (defArgs s_law_moduli) (defBody s_law_moduli) (defScope s_law_moduli) .none kV16 dc16 pm16 an16 cd16 ct16), sl16⟩)
    (c16 : PySem.W.codeIn K cd16 "_law_moduli" = true)
    (k16 : PySem.W.keepIn K (.ref f16) = true)
    (a17 : PySem.W.nsIn K mainGlobals "_law_anchor" = some (some (.ref f17)))
    (l17 : K.lookup f17 = some ⟨oc17, od17, .func (PySem.W.fnOf "_law_anchor" "_law_anchor" (defArgs s_law_anchor) (defBody s_law_anchor) (defScope s_law_anchor) .none kV17 dc17 pm17 an17 cd17 ct17), sl17⟩)
    (c17 : PySem.W.codeIn K cd17 "_law_anchor" = true)
    (k17 : PySem.W.keepIn K (.ref f17) = true)
    (a18 : PySem.W.nsIn K mainGlobals "law" = some (some (.ref f18)))
    (l18 : K.lookup f18 = some ⟨oc18, od18, .func (PySem.W.fnOf "law" "law" (defArgs s_law) (defBody s_law) (defScope s_law) .none kV18 dc18 pm18 an18 cd18 ct18), sl18⟩)
    (c18 : PySem.W.codeIn K cd18 "law" = true)
    (k18 : PySem.W.keepIn K (.ref f18) = true)
    (aK0 : PySem.W.nsIn K mainGlobals "WORDS" = some (some (.ref cK0)))
    (lK0 : K.lookup cK0 = some ⟨.type "tuple", odK0, .seq #[.str "left" tK0_0, .str "hold" tK0_1] nK0, slK0⟩)
    (aC0 : PySem.W.nsIn K mainGlobals "InvalidLetter" = some (some (.ref C0)))
    (xC0 : K.lookup C0 = some (excClassObj nm0 q0 C0 N0 bs0 [.ref B0_0, .type "Exception", .type "BaseException", .type "object"] true sn0 sub0 ab0 col0 dd0 m00 m10 m20 m30 m50 "Exception.__new__"))
    (sa0 : PySem.W.findIn K (.ref C0) "__setattr__" = some (some (.builtin "object.__setattr__")))
    (ga0 : PySem.W.findIn K (.ref C0) "__getattribute__" = some (some (.builtin "BaseException.__getattribute__")))
    (gg0 : PySem.W.findIn K (.ref C0) "__getattr__" = some none)
    (nf0 : PySem.W.findIn K (.ref C0) "at" = some none)
    (iI0 : PySem.W.findIn K (.ref C0) "__init__" = some (some (.ref fI0)))
    (tI0 : PySem.W.typeIn K (.ref fI0) = some (.type "function"))
    (lI0 : K.lookup fI0 = some ⟨ocI0, odI0, .func (PySem.W.fnOf "__init__" "InvalidLetter.__init__" (PySem.TErr.iA "at" ⟨15, 17, 15, 21⟩ ⟨15, 23, 15, 25⟩) (PySem.TErr.iB "at" ⟨16, 8, 16, 12⟩ ⟨16, 8, 16, 15⟩ ⟨16, 18, 16, 20⟩ ⟨16, 8, 16, 20⟩) (PySem.TErr.iS "at") .none .none dcI0 pmI0 anI0 cdI0 ctI0), slI0⟩)
    (cI0 : PySem.W.codeIn K cdI0 "InvalidLetter.__init__" = true)
    (kC0 : PySem.W.keepIn K (.ref C0) = true)
    (eC0 : PySem.W.subIn K (.ref C0) (.type "BaseException") = some true)
    (tC0 : PySem.W.typeIn K (.ref C0) = some (.type "type"))
    (hC0 : PySem.W.hasDictIn K C0 = true)
    (iC0 : PySem.W.isClsIn K C0 = true)
    (sC0 : PySem.W.subIn K (.ref C0) (.ref C0) = some true)
    (z_isinstance : PySem.W.nsIn K mainGlobals "isinstance" = some none)
    (z_int : PySem.W.nsIn K mainGlobals "int" = some none)
    (z_bool : PySem.W.nsIn K mainGlobals "bool" = some none)
    (z_str : PySem.W.nsIn K mainGlobals "str" = some none)
    (z_list : PySem.W.nsIn K mainGlobals "list" = some none)
    (z_tuple : PySem.W.nsIn K mainGlobals "tuple" = some none)
    (z_len : PySem.W.nsIn K mainGlobals "len" = some none)
    (z_range : PySem.W.nsIn K mainGlobals "range" = some none)
    (z_enumerate : PySem.W.nsIn K mainGlobals "enumerate" = some none)
    (z_abs : PySem.W.nsIn K mainGlobals "abs" = some none) :
    ∃ fd : FuncData, (∀ (s : Shared) (v : Value), BindsTo s fd ⟨[v], []⟩ [("_law_script", v)]) ∧ ∀ base : Heap, K.In base → base.Ns mainGlobals mg → FnOk P w K mg base (L2.CX P w) 9 fa fd ["_law_script"] (spLaw K) := by
  have e := hfa.symm.trans (PySem.W.mg_of X G a18)
  cases e
  have E0 : PySem.TErr.ETxt K mg "InvalidLetter" "at" C0 fI0 := { fld := by unfold PySem.TErr.Fld; simp, gC := PySem.W.mg_of X G aC0, cls := ⟨_, _, _, _, _, _, _, _, _, _, _, _, _, _, _, xC0, by rfl⟩, sa := sa0, ga := ga0, gg := gg0, noN := nf0, iC := iI0, tC := tI0, kC := kC0, exC := eC0, tyC := tC0, hdC := hC0, fn := ⟨_, _, _, _, _, _, _, _, _, _, _, _, _, _, _, lI0, cI0⟩ }
  let Z : Zt := { K := K, cs := fun _ => C0, fs := fun _ => "at", at_ := fun _ => [], dl := DL, dlm := DLm }
  have T : Txt Z mg cK0 fI0 := { b_isinstance := PySem.W.mg_none_of X G z_isinstance, b_int := PySem.W.mg_none_of X G z_int, b_bool := PySem.W.mg_none_of X G z_bool, b_str := PySem.W.mg_none_of X G z_str, b_list := PySem.W.mg_none_of X G z_list, b_tuple := PySem.W.mg_none_of X G z_tuple, b_len := PySem.W.mg_none_of X G z_len, b_range := PySem.W.mg_none_of X G z_range, b_enumerate := PySem.W.mg_none_of X G z_enumerate, b_abs := PySem.W.mg_none_of X G z_abs, g_WORDS := PySem.W.mg_of X G aK0, k_WORDS := ⟨_, _, _, lK0, rfl, rfl, by simp [sizeLine_eq], .cons ⟨_, rfl⟩ (.cons ⟨_, rfl⟩ (.nil))⟩, e_InvalidLetter := E0, ex := exm_one (exm_self sC0 eC0 iC0 tC0), eT := fun _ _ => ⟨_, _, E0⟩, dl := rfl, hx_InvalidLetter_at := fun _ _ => rfl }
  have F0 := fund_mkN (st := s_is_integer) l0 c0 k0
  have F1 := fund_mkN (st := s_is_number) l1 c1 k1
  have F2 := fund_mkN (st := s_is_index) l2 c2 k2
  have F3 := fund_mkN (st := s_is_sequence) l3 c3 k3
  have F4 := fund_mkN (st := s_is_letter) l4 c4 k4
  have F5 := fund_mkR (d := .int (-1)) (st := s_need_letter) l5 c5 k5 lT5 rfl ⟨_, rfl⟩
  have F6 := fund_mkN (st := s_need_bag) l6 c6 k6
  have F7 := fund_mkN (st := s_put_letter) l7 c7 k7
  have F8 := fund_mkN (st := s_letter_at) l8 c8 k8
  have F9 := fund_mkN (st := s_told_visit) l9 c9 k9
  have F10 := fund_mkN (st := s_next_like) l10 c10 k10
  have F11 := fund_mkN (st := s_law_draw) l11 c11 k11
  have F12 := fund_mkN (st := s_law_any) l12 c12 k12
  have F13 := fund_mkN (st := s_law_of) l13 c13 k13
  have F14 := fund_mkN (st := s_law_tried) l14 c14 k14
  have F15 := fund_mkN (st := s_law_refusals) l15 c15 k15
  have F16 := fund_mkN (st := s_law_moduli) l16 c16 k16
  have F17 := fund_mkN (st := s_law_anchor) l17 c17 k17
  have F18 := fund_mkN (st := s_law) l18 c18 k18
  have K0 := fun (base : Heap) => ok_is_integer (Z := Z) (P := P) (w := w) (base := base) F0 T 
  have D_is_integer : ∀ base : Heap, Df P w Z mg base "is_integer" 1 1 (app1 m_is_integer) := fun base => ⟨⟨_, _, _, K0 base, PySem.W.mg_of X G a0, k0, bind_all F0 fun _ _ _ _ _ _ us hl => match us, hl with | [_], _ => rfl⟩, ar1 _⟩
  have K1 := fun (base : Heap) => ok_is_number (Z := Z) (P := P) (w := w) (base := base) F1 T (D_is_integer base)
  have D_is_number : ∀ base : Heap, Df P w Z mg base "is_number" 2 1 (app1 m_is_number) := fun base => ⟨⟨_, _, _, K1 base, PySem.W.mg_of X G a1, k1, bind_all F1 fun _ _ _ _ _ _ us hl => match us, hl with | [_], _ => rfl⟩, ar1 _⟩
  have K2 := fun (base : Heap) => ok_is_index (Z := Z) (P := P) (w := w) (base := base) F2 T (D_is_integer base)
  have D_is_index : ∀ base : Heap, Df P w Z mg base "is_index" 2 2 (app2 m_is_index) := fun base => ⟨⟨_, _, _, K2 base, PySem.W.mg_of X G a2, k2, bind_all F2 fun _ _ _ _ _ _ us hl => match us, hl with | [_, _], _ => rfl⟩, ar2 _⟩
  have K3 := fun (base : Heap) => ok_is_sequence (Z := Z) (P := P) (w := w) (base := base) F3 T 
  have D_is_sequence : ∀ base : Heap, Df P w Z mg base "is_sequence" 1 1 (app1 m_is_sequence) := fun base => ⟨⟨_, _, _, K3 base, PySem.W.mg_of X G a3, k3, bind_all F3 fun _ _ _ _ _ _ us hl => match us, hl with | [_], _ => rfl⟩, ar1 _⟩
  have K4 := fun (base : Heap) => ok_is_letter (Z := Z) (P := P) (w := w) (base := base) F4 T (D_is_sequence base) (D_is_number base)
  have D_is_letter : ∀ base : Heap, Df P w Z mg base "is_letter" 3 1 (app1 m_is_letter) := fun base => ⟨⟨_, _, _, K4 base, PySem.W.mg_of X G a4, k4, bind_all F4 fun _ _ _ _ _ _ us hl => match us, hl with | [_], _ => rfl⟩, ar1 _⟩
  have K5 := fun (base : Heap) => ok_need_letter (Z := Z) (P := P) (w := w) (base := base) F5 T (D_is_letter base)
  have D_need_letter : ∀ base : Heap, Df P w Z mg base "need_letter" 4 2 (app2 m_need_letter) := fun base => ⟨⟨_, _, _, K5 base, PySem.W.mg_of X G a5, k5, bind_allD F5 (by decide) fun T _ _ _ _ _ _ us its h1 h2 => match us, its, h1, h2 with | [_, _], [_], _, _ => ⟨_, rfl, rfl⟩⟩, ar2 _⟩
  obtain ⟨its_need_letter_1, B_need_letter_1⟩ := (kb_def (dvs := [.int (-1)]) F5 (by decide) 1 0 [] (fun T _ _ _ _ _ _ us its ws h1 h2 h3 => match us, ws, its, h1, h3, h2 with | [_], [], [_], _, _, _ => ⟨_, rfl, by first | rfl | with_unfolding_all rfl | kernel_rfl⟩))
  have G_need_letter_1 : ∀ base : Heap, DfG P w Z mg base "need_letter" 4 1 [] gD_need_letter_1 2 (app2 m_need_letter) := fun base => ⟨⟨_, _, _, _, _, K5 base, PySem.W.mg_of X G a5, k5, B_need_letter_1, fun F vs ds zs es r1 r2 _ _ => (r1.append r2).append (.cons (.int _) .nil)⟩, ar2 _⟩
  obtain ⟨its_need_letter_0_value_at, B_need_letter_0_value_at⟩ := (kb_def (dvs := [.int (-1)]) F5 (by decide) 0 1 ["value", "at"] (fun T _ _ _ _ _ _ us its ws h1 h2 h3 => match us, ws, its, h1, h3, h2 with | [], [_, _], [_], _, _, _ => ⟨_, rfl, by first | rfl | with_unfolding_all rfl | kernel_rfl⟩))
  have G_need_letter_0_value_at : ∀ base : Heap, DfG P w Z mg base "need_letter" 4 0 ["value", "at"] gD_need_letter_0_value_at 2 (app2 m_need_letter) := fun base => ⟨⟨_, _, _, _, _, K5 base, PySem.W.mg_of X G a5, k5, B_need_letter_0_value_at, fun F vs ds zs es r1 r2 _ _ => (r1.append r2).append .nil⟩, ar2 _⟩
  have K6 := fun (base : Heap) => ok_need_bag (Z := Z) (P := P) (w := w) (base := base) F6 T (D_is_sequence base) (D_need_letter base)
  have D_need_bag : ∀ base : Heap, Df P w Z mg base "need_bag" 5 1 (app1 m_need_bag) := fun base => ⟨⟨_, _, _, K6 base, PySem.W.mg_of X G a6, k6, bind_all F6 fun _ _ _ _ _ _ us hl => match us, hl with | [_], _ => rfl⟩, ar1 _⟩
  have G_need_bag_0_value : ∀ base : Heap, DfG P w Z mg base "need_bag" 5 0 ["value"] gD_need_bag_0_value 1 (app1 m_need_bag) := fun base => ⟨⟨_, _, _, _, _, K6 base, PySem.W.mg_of X G a6, k6, (kb_all F6 0 ["value"] (fun _ _ _ _ _ _ us ws h1 h2 => match us, ws, h1, h2 with | [], [_], _, _ => rfl)), fun F vs ds zs es r1 r2 _ _ => r1.append r2⟩, ar1 _⟩
  have K7 := fun (base : Heap) => ok_put_letter (Z := Z) (P := P) (w := w) (base := base) F7 T (D_need_bag base) (G_need_letter_1 base)
  have D_put_letter : ∀ base : Heap, Df P w Z mg base "put_letter" 6 2 (app2 m_put_letter) := fun base => ⟨⟨_, _, _, K7 base, PySem.W.mg_of X G a7, k7, bind_all F7 fun _ _ _ _ _ _ us hl => match us, hl with | [_, _], _ => rfl⟩, ar2 _⟩
  have G_put_letter_0_bag_letter : ∀ base : Heap, DfG P w Z mg base "put_letter" 6 0 ["bag", "letter"] gD_put_letter_0_bag_letter 2 (app2 m_put_letter) := fun base => ⟨⟨_, _, _, _, _, K7 base, PySem.W.mg_of X G a7, k7, (kb_all F7 0 ["bag", "letter"] (fun _ _ _ _ _ _ us ws h1 h2 => match us, ws, h1, h2 with | [], [_, _], _, _ => rfl)), fun F vs ds zs es r1 r2 _ _ => r1.append r2⟩, ar2 _⟩
  have K8 := fun (base : Heap) => ok_letter_at (Z := Z) (P := P) (w := w) (base := base) F8 T (D_need_bag base) (D_is_index base)
  have D_letter_at : ∀ base : Heap, Df P w Z mg base "letter_at" 6 2 (app2 m_letter_at) := fun base => ⟨⟨_, _, _, K8 base, PySem.W.mg_of X G a8, k8, bind_all F8 fun _ _ _ _ _ _ us hl => match us, hl with | [_, _], _ => rfl⟩, ar2 _⟩
  have G_letter_at_0_bag_number : ∀ base : Heap, DfG P w Z mg base "letter_at" 6 0 ["bag", "number"] gD_letter_at_0_bag_number 2 (app2 m_letter_at) := fun base => ⟨⟨_, _, _, _, _, K8 base, PySem.W.mg_of X G a8, k8, (kb_all F8 0 ["bag", "number"] (fun _ _ _ _ _ _ us ws h1 h2 => match us, ws, h1, h2 with | [], [_, _], _, _ => rfl)), fun F vs ds zs es r1 r2 _ _ => r1.append r2⟩, ar2 _⟩
  have K9 := fun (base : Heap) => ok_told_visit (Z := Z) (P := P) (w := w) (base := base) F9 T 
  have D_told_visit : ∀ base : Heap, Df P w Z mg base "told_visit" 1 2 (app2 m_told_visit) := fun base => ⟨⟨_, _, _, K9 base, PySem.W.mg_of X G a9, k9, bind_all F9 fun _ _ _ _ _ _ us hl => match us, hl with | [_, _], _ => rfl⟩, ar2 _⟩
  have G_told_visit_0_visit_modulus : ∀ base : Heap, DfG P w Z mg base "told_visit" 1 0 ["visit", "modulus"] gD_told_visit_0_visit_modulus 2 (app2 m_told_visit) := fun base => ⟨⟨_, _, _, _, _, K9 base, PySem.W.mg_of X G a9, k9, (kb_all F9 0 ["visit", "modulus"] (fun _ _ _ _ _ _ us ws h1 h2 => match us, ws, h1, h2 with | [], [_, _], _, _ => rfl)), fun F vs ds zs es r1 r2 _ _ => r1.append r2⟩, ar2 _⟩
  have K10 := fun (base : Heap) => ok_next_like (Z := Z) (P := P) (w := w) (base := base) F10 T 
  have D_next_like : ∀ base : Heap, Df P w Z mg base "next_like" 1 3 (app3 m_next_like) := fun base => ⟨⟨_, _, _, K10 base, PySem.W.mg_of X G a10, k10, bind_all F10 fun _ _ _ _ _ _ us hl => match us, hl with | [_, _, _], _ => rfl⟩, ar3 _⟩
  have G_next_like_0_told_least_modulus : ∀ base : Heap, DfG P w Z mg base "next_like" 1 0 ["told", "least", "modulus"] gD_next_like_0_told_least_modulus 3 (app3 m_next_like) := fun base => ⟨⟨_, _, _, _, _, K10 base, PySem.W.mg_of X G a10, k10, (kb_all F10 0 ["told", "least", "modulus"] (fun _ _ _ _ _ _ us ws h1 h2 => match us, ws, h1, h2 with | [], [_, _, _], _, _ => rfl)), fun F vs ds zs es r1 r2 _ _ => r1.append r2⟩, ar3 _⟩
  have K11 := fun (base : Heap) => ok_law_draw (Z := Z) (P := P) (w := w) (base := base) F11 T 
  have D_law_draw : ∀ base : Heap, Df P w Z mg base "_law_draw" 1 2 (app2 m_law_draw) := fun base => ⟨⟨_, _, _, K11 base, PySem.W.mg_of X G a11, k11, bind_all F11 fun _ _ _ _ _ _ us hl => match us, hl with | [_, _], _ => rfl⟩, ar2 _⟩
  have K12 := fun (base : Heap) => ok_law_any (Z := Z) (P := P) (w := w) (base := base) F12 T.dl T.b_int 
  have D_law_any : ∀ base : Heap, Df P w Z mg base "_law_any" 1 2 (app2 m_law_any) := fun base => ⟨⟨_, _, _, K12 base, PySem.W.mg_of X G a12, k12, bind_all F12 fun _ _ _ _ _ _ us hl => match us, hl with | [_, _], _ => rfl⟩, ar2 _⟩
  have K13 := fun (base : Heap) => ok_law_of (Z := Z) (P := P) (w := w) (base := base) F13 T (D_law_any base)
  have D_law_of : ∀ base : Heap, Df P w Z mg base "_law_of" 2 2 (app2 m_law_of) := fun base => ⟨⟨_, _, _, K13 base, PySem.W.mg_of X G a13, k13, bind_all F13 fun _ _ _ _ _ _ us hl => match us, hl with | [_, _], _ => rfl⟩, ar2 _⟩
  have K14 := fun (base : Heap) => ok_law_tried (Z := Z) (P := P) (w := w) (base := base) F14 T (D_put_letter base) (D_letter_at base) (G_need_letter_0_value_at base) (G_need_bag_0_value base)
  have D_law_tried : ∀ base : Heap, Df P w Z mg base "_law_tried" 7 2 (app2 m_law_tried) := fun base => ⟨⟨_, _, _, K14 base, PySem.W.mg_of X G a14, k14, bind_all F14 fun _ _ _ _ _ _ us hl => match us, hl with | [_, _], _ => rfl⟩, ar2 _⟩
  have K15 := fun (base : Heap) => ok_law_refusals (Z := Z) (P := P) (w := w) (base := base) F15 T (D_law_of base) (D_law_any base) (D_law_tried base)
  have D_law_refusals : ∀ base : Heap, Df P w Z mg base "_law_refusals" 8 2 (app2 m_law_refusals) := fun base => ⟨⟨_, _, _, K15 base, PySem.W.mg_of X G a15, k15, bind_all F15 fun _ _ _ _ _ _ us hl => match us, hl with | [_, _], _ => rfl⟩, ar2 _⟩
  have K16 := fun (base : Heap) => ok_law_moduli (Z := Z) (P := P) (w := w) (base := base) F16 T (D_law_any base) (D_told_visit base) (D_next_like base) (G_told_visit_0_visit_modulus base) (G_next_like_0_told_least_modulus base)
  have D_law_moduli : ∀ base : Heap, Df P w Z mg base "_law_moduli" 2 1 (app1 m_law_moduli) := fun base => ⟨⟨_, _, _, K16 base, PySem.W.mg_of X G a16, k16, bind_all F16 fun _ _ _ _ _ _ us hl => match us, hl with | [_], _ => rfl⟩, ar1 _⟩
  have K17 := fun (base : Heap) => ok_law_anchor (Z := Z) (P := P) (w := w) (base := base) F17 T (D_put_letter base) (D_next_like base) (D_need_bag base) (G_put_letter_0_bag_letter base) (G_letter_at_0_bag_number base)
  have G_law_anchor_0 : ∀ base : Heap, DfG P w Z mg base "_law_anchor" 7 0 [] gD_law_anchor_0 0 (app0 m_law_anchor) := fun base => ⟨⟨_, _, _, _, _, K17 base, PySem.W.mg_of X G a17, k17, (kb_all F17 0 [] (fun _ _ _ _ _ _ us ws h1 h2 => match us, ws, h1, h2 with | [], [], _, _ => rfl)), fun F vs ds zs es r1 r2 _ _ => r1.append r2⟩, ar0 _⟩
  have K18 := fun (base : Heap) => ok_law (Z := Z) (P := P) (w := w) (base := base) F18 T (D_law_draw base) (D_law_any base) (D_law_of base) (D_put_letter base) (D_need_bag base) (D_letter_at base) (D_law_moduli base) (D_law_refusals base) (G_law_anchor_0 base) (G_need_letter_1 base)
  exact ⟨PySem.W.fnOf "law" "law" (defArgs s_law) (defBody s_law) (defScope s_law) .none kV18 dc18 pm18 an18 cd18 ct18, fun s v => .of_eq rfl, fun base _ _ => FnOk.imp (K18 base) (law_start (Z := Z) hm)⟩
theorem walk {l : PySem.W.OpenLaw} {q : Program} {loose : List Str} {XP : (Str → Option Value) → Heap → Prop} {YP : World → Heap → Prop} {d : DefRec} {K : Params → PySem.W.Frag} (hn : l.most = some 63) (hdf : d.params.defaults = [])
    (hY : ∀ (w : World) (h : Heap), YP w h → (K w.params).In h)
    (F : ∀ (w : World) (mg : Str → Option Value) (fa : Addr) (h : Heap), (K w.params).In h → h.Ns mainGlobals mg → mg d.name = some (.ref fa) →
      ∃ fd : FuncData, (∀ (s : Shared) (u : Value), BindsTo s fd ⟨[u], []⟩ [("_law_script", u)]) ∧ ∀ base : Heap, (K w.params).In base → base.Ns mainGlobals mg → FnOk l.prog w (K w.params) mg base (L2.CX l.prog w) 9 fa fd ["_law_script"] (spLaw (K w.params))) :
    PySem.W.WalkO q loose XP YP l.row.toRowW d [] (fun f vs => PySem.call f vs) :=
  L2.walk_of (n := 63) (k := 9) (x := "_law_script") (CX := fun w => L2.CX l.prog w) (sp := fun w => spLaw (K w.params)) hn (by decide) hdf ⟨rfl, by decide, by decide⟩ hY F (fun _ _ a ns hl _ hS => ⟨a, ns, rfl, hS, hl, fun _ => rfl⟩) fun _ _ _ _ _ ⟨_, _, _, _, _, _, _, _, _, _, _, _, z⟩ => z
end M
open PySem PySem.W PyProof.Rows in
set_option maxRecDepth 100000 in
set_option maxHeartbeats 0 in
theorem PySem.Challenge.cw_nobodymeets_k72_whole_letters_that_stay_holds : PySem.Challenge.rw_nobodymeets_k72_whole_letters_that_stay.Holds := by
  w_on; o_law; k_head; (case hw => w_witness2)
  k_fill
  refine M.walk (l := PySem.Challenge.rw_nobodymeets_k72_whole_letters_that_stay) rfl rfl (fun w h Y => PySem.W.kIn_of Y) ?F
  case F =>
    intro w mg fa h KX G hmg
    refine' M.all_mk KX G hmg M.law_math ?a0 ?l0 ?c0 ?k0 ?a1 ?l1 ?c1 ?k1 ?a2 ?l2 ?c2 ?k2 ?a3 ?l3 ?c3 ?k3 ?a4 ?l4 ?c4 ?k4 ?a5 ?l5 ?c5 ?k5 ?lT5 ?a6 ?l6 ?c6 ?k6 ?a7 ?l7 ?c7 ?k7 ?a8 ?l8 ?c8 ?k8 ?a9 ?l9 ?c9 ?k9 ?a10 ?l10 ?c10 ?k10 ?a11 ?l11 ?c11 ?k11 ?a12 ?l12 ?c12 ?k12 ?a13 ?l13 ?c13 ?k13 ?a14 ?l14 ?c14 ?k14 ?a15 ?l15 ?c15 ?k15 ?a16 ?l16 ?c16 ?k16 ?a17 ?l17 ?c17 ?k17 ?a18 ?l18 ?c18 ?k18 ?aK0 ?lK0 ?aC0 ?xC0 ?sa0 ?ga0 ?gg0 ?nf0 ?iI0 ?tI0 ?lI0 ?cI0 ?kC0 ?eC0 ?tC0 ?hC0 ?iC0 ?sC0 ?z_isinstance ?z_int ?z_bool ?z_str ?z_list ?z_tuple ?z_len ?z_range ?z_enumerate ?z_abs
    (case a0 => k_is)
    (case l0 => k_is)
    (case c0 => k_is)
    (case k0 => k_is)
    (case a1 => k_is)
    (case l1 => k_is)
    (case c1 => k_is)
    (case k1 => k_is)
    (case a2 => k_is)
    (case l2 => k_is)
    (case c2 => k_is)
    (case k2 => k_is)
    (case a3 => k_is)
    (case l3 => k_is)
    (case c3 => k_is)
    (case k3 => k_is)
    (case a4 => k_is)
    (case l4 => k_is)
    (case c4 => k_is)
    (case k4 => k_is)
    (case a5 => k_is)
    (case l5 => k_is)
    (case c5 => k_is)
    (case k5 => k_is)
    (case lT5 => k_is)
    (case a6 => k_is)
    (case l6 => k_is)
    (case c6 => k_is)
    (case k6 => k_is)
    (case a7 => k_is)
    (case l7 => k_is)
    (case c7 => k_is)
    (case k7 => k_is)
    (case a8 => k_is)
    (case l8 => k_is)
    (case c8 => k_is)
    (case k8 => k_is)
    (case a9 => k_is)
    (case l9 => k_is)
    (case c9 => k_is)
    (case k9 => k_is)
    (case a10 => k_is)
    (case l10 => k_is)
    (case c10 => k_is)
    (case k10 => k_is)
    (case a11 => k_is)
    (case l11 => k_is)
    (case c11 => k_is)
    (case k11 => k_is)
    (case a12 => k_is)
    (case l12 => k_is)
    (case c12 => k_is)
    (case k12 => k_is)
    (case a13 => k_is)
    (case l13 => k_is)
    (case c13 => k_is)
    (case k13 => k_is)
    (case a14 => k_is)
    (case l14 => k_is)
    (case c14 => k_is)
    (case k14 => k_is)
    (case a15 => k_is)
    (case l15 => k_is)
    (case c15 => k_is)
    (case k15 => k_is)
    (case a16 => k_is)
    (case l16 => k_is)
    (case c16 => k_is)
    (case k16 => k_is)
    (case a17 => k_is)
    (case l17 => k_is)
    (case c17 => k_is)
    (case k17 => k_is)
    (case a18 => k_is)
    (case l18 => k_is)
    (case c18 => k_is)
    (case k18 => k_is)
    (case aK0 => k_is)
    (case lK0 => k_is)
    (case aC0 => k_is)
    (case xC0 => k_is)
    (case sa0 => k_is)
    (case ga0 => k_is)
    (case gg0 => k_is)
    (case nf0 => k_is)
    (case iI0 => k_is)
    (case tI0 => k_is)
    (case lI0 => k_is)
    (case cI0 => k_is)
    (case kC0 => k_is)
    (case eC0 => k_is)
    (case tC0 => k_is)
    (case hC0 => k_is)
    (case iC0 => k_is)
    (case sC0 => k_is)
    (case z_isinstance => k_is)
    (case z_int => k_is)
    (case z_bool => k_is)
    (case z_str => k_is)
    (case z_list => k_is)
    (case z_tuple => k_is)
    (case z_len => k_is)
    (case z_range => k_is)
    (case z_enumerate => k_is)
    (case z_abs => k_is)

