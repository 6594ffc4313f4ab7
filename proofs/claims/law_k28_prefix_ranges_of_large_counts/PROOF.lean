import PyProof.Rows.All
import Wide.All
import OpenK.AllK
import Wide.FinOn
import HandS.Base
import HandS.Call
import HandS.List
import HandS.Comp
import HandS.Ends
import HandS.Text
import HandS.Exc
import HandS.Words
import PyProof.ReprRoads
import HandS.Iter
import HandS.Dict
import HandS.IsInst
import HandS.Conv
import HandS.Codes
import HandS.Wide
import PyProof.ListStr
import PyProof.TupleCall
import PyProof.StrLawsTight
import HandS.Style
import HandS.ForMost
import HandS.TupLe
import PyProof.ReprLen
import KE.GoesMore
import KE.GoesEnum
import HandS.Walk
import PyProof.EnumMake
import HandS.Property
import HandS.ClsMeth
import HandS.More
import HandS.SlotsOwn
import KE.KOpsOwn
import HandS.Flt
import HandS.Gcd
import HandS.Defaults
import Flt.RightSqrt
import PySem.Challenge.RW_paircounts_k28_prefix_ranges_of_large_co
set_option Elab.async false
set_option linter.all false
set_option maxRecDepth 100000
set_option maxHeartbeats 4000000
set_option exponentiation.threshold 10000
namespace Vx
open PySem PySem.Spec PyProof.Rows L2

/-! defs that are entered where no repr is under way -/
structure FnG (P : Program) (w : World) (K : PySem.W.Frag) (mg : Str → Option Value) (base : Heap) (CX : CXT) (k : Nat) (f : Addr) (fd : FuncData) (ps : List Str) (sp : Sp) : Prop where
  len : ∀ vs H Q E, sp vs H Q E → vs.length = ps.length
  run : ∀ (A : Around) (outer : List Env) (s : Shared) (H : Hp) (args : Args) (us : List Value) (vs : List V) (Q : VK) (E : XK), A.guards = some [] → Room k A →
    Env0 P w K mg base A outer s H → BindsTo s fd args (ps.zip us) → Vals vs us → sp vs H Q E → codeAny (model P w) A (.call (.ref f) args) (CR CX outer P w H s Q E) s

section
variable {P : Program} {w : World} {K : PySem.W.Frag} {mg : Str → Option Value} {base : Heap} {CX : CXT} {k : Nat} {f : Addr} {fd : FuncData} {ps : List Str} {sp : Sp}
theorem FnG.of (F : FnOk P w K mg base CX k f fd ps sp) : FnG P w K mg base CX k f fd ps sp := ⟨F.len, fun A outer s H args us vs Q E _ => F.run A outer s H args us vs Q E⟩
theorem FnG.mono {j : Nat} (F : FnG P w K mg base CX j f fd ps sp) (h : j ≤ k) : FnG P w K mg base CX k f fd ps sp :=
  ⟨F.len, fun A outer s H args us vs Q E hg hr => F.run A outer s H args us vs Q E hg (hr.mono h)⟩
end

/-- a def by its body, the guards told -/
theorem fnG_of {CX : CXT} {P : Program} {w : World} {K : PySem.W.Frag} {mg : Str → Option Value} {base : Heap} {k : Nat} {f : Addr} {name qual : Str} {params : Arguments} {body : List Stmt} {scope : Scope} {dV kV doc pm cdv ct oc : Value} {an od : Option Addr}
    {osl : Array (Option Value)} {N ps : List Str} {sp : Sp} (found : K.lookup f = some ⟨oc, od, .func (PySem.W.fnOf name qual params body scope dV kV doc pm an cdv ct), osl⟩) (code : PySem.W.codeIn K cdv qual = true) (S : FnScope N ps scope)
    (len : ∀ vs H Q E, sp vs H Q E → vs.length = ps.length)
    (walk : ∀ (A : Around) (outer : List Env) (s : Shared) (H : Hp) (vs : List V) (Q : VK) (E : XK), A.guards = some [] → Room k (A.deeper (envOfC qual scope s.heap.objs.size f cdv)) → sp vs H Q E →
      ∃ t, PSs (cxOf CX P w K mg base N qual scope f cdv A outer s H E) body t ∧ t { nx := fun _ H' => Q .non H', rt := Q } (start N vs) H) :
    FnG P w K mg base CX (k + 1) f (PySem.W.fnOf name qual params body scope dV kV doc pm an cdv ct) ps sp := by
  constructor
  · exact len
  intro A outer s H args us vs Q E guards room e0 bound r asked
  have many := len vs H Q E asked
  have inK : K.In s.heap := e0.mod.kin.keeps fun b o q => (e0.bs b o q).1
  have unlimited : s.heap.NoLimit := e0.mod.nolimit.keeps fun b o q => (e0.bs b o q).1
  have kinds : ∀ y ∈ ps.zip us, scope.names.lookup y.1 = some .local ∨ (scope.names.lookup y.1 = some .cell ∧ ((cellsFrom (s.heap.objs.size + 1) scope.names []).lookup y.1).isSome = true) := by
    rintro ⟨n, v⟩ within
    rcases S.par n (List.of_mem_zip within).1 with z | z
    · exact Or.inl z
    · exact Or.inr ⟨z, PySem.W.cellsFrom_some _ _ _ (Or.inl z)⟩
  refine codeAny_call_function room.depth (inK _ _ found) rfl S.co S.gen rfl (PySem.W.codeRec_of inK code) (bound _ _ _ _ (wpAny_newFunctionEnv_cells S.kind kinds ?_))
  intro env isEnv s1 entered
  subst isEnv
  refine And.intro (unlimited.keeps entered.toInCall.keep) (codeAny_func ?_)
  obtain ⟨t, derived, reads⟩ := walk A outer s H vs Q E guards (room.deeper _) asked
  have I0 : Inv (cxOf CX P w K mg base N qual scope f cdv A outer s H E) [] (start N vs) H s1 := inv_start S room.hd e0 many r entered
  refine wpAny_mono (derived.run [] s1 (start N vs) H _ I0 reads) ?_ (fun _ _ z => z)
  intro flow s' ended
  cases flow with
  | ret u =>
    obtain ⟨v, σ', H', J, rv, q⟩ := ended
    exact ⟨v, H', J.os, J.bare, J.base, J.hok, rv, q⟩
  | next =>
    obtain ⟨σ', H', J, q⟩ := ended
    exact ⟨V.non, H', J.os, J.bare, J.base, J.hok, rfl, q⟩
  | brk => exact (show False from ended.choose_spec.choose_spec.2).elim
  | cont => exact (show False from ended.choose_spec.choose_spec.2).elim

/-- a def of the text, the guards told; what it raises leaves it -/
theorem okGX {P : Program} {w : World} {K : PySem.W.Frag} {mg : Str → Option Value} {base : Heap} {CX : CXT} {x qual : Str} {st : Stmt} {f : Addr} {fd : FuncData} {N ps : List Str} {k : Nat} {sp : Sp} (F : Fun K x qual st f fd) (S : FnScope N ps (defScope st))
    (len : ∀ vs H Q E, sp vs H Q E → vs.length = ps.length)
    (walk : ∀ (cdv : Value) (A : Around) (outer : List Env) (s : Shared) (H : Hp) (vs : List V) (Q : VK) (E : XK), A.guards = some [] → Room k (A.deeper (envOfC qual (defScope st) s.heap.objs.size f cdv)) → sp vs H Q E →
      ∃ t, PSs (cxOf CX P w K mg base N qual (defScope st) f cdv A outer s H E) (defBody st) t ∧ t { nx := fun _ H' => Q .non H', rt := Q } (start N vs) H) : FnG P w K mg base CX (k + 1) f fd ps sp := by
  obtain ⟨oc, od, kV, doc, pm, an, cdv, ct, osl, rfl, found, code⟩ := F.ex
  exact fnG_of found code S len fun A outer s H vs Q E hg hr asked => walk cdv A outer s H vs Q E hg hr asked
/-- a def of the text, the guards told; nothing is raised -/
theorem okG {P : Program} {w : World} {K : PySem.W.Frag} {mg : Str → Option Value} {base : Heap} {x qual : Str} {st : Stmt} {f : Addr} {fd : FuncData} {N ps : List Str} {k : Nat} {sp : Sp} (F : Fun K x qual st f fd) (S : FnScope N ps (defScope st))
    (len : ∀ vs H Q E, sp vs H Q E → vs.length = ps.length)
    (walk : ∀ (cdv : Value) (A : Around) (outer : List Env) (s : Shared) (H : Hp) (vs : List V) (Q : VK) (E : XK), A.guards = some [] → Room k (A.deeper (envOfC qual (defScope st) s.heap.objs.size f cdv)) → sp vs H Q E →
      ∃ t, PSs (cxOf CX0 P w K mg base N qual (defScope st) f cdv A outer s H E).nox (defBody st) t ∧ t { nx := fun _ H' => Q .non H', rt := Q } (start N vs) H) : FnG P w K mg base CX0 (k + 1) f fd ps sp :=
  okGX F S len fun cdv A outer s H vs Q E hg hr asked => by
    obtain ⟨t, derived, reads⟩ := walk cdv A outer s H vs Q E hg hr asked
    exact ⟨t, derived.nox, reads⟩

section
variable {X : Cx} {CX : CXT} {k : Nat} {f : Addr} {fd : FuncData} {ps : List Str} {sp : Sp} {dvs : List V} {ds : List Value} {E : XK} {x : Str} {p pos : Pos} {e : Expr} {es : List Expr} {t : TA}
theorem goG {pins : List (Addr × Obj)} {σ : L2.St} {H : Hp} {s : Shared} {Q : VK} {us : List Value} {vs : List V} (F : FnG X.prog X.w X.K X.mg X.base CX k f fd ps sp) (hg : X.A.guards = some []) (hr : Room k X.A) (hb : Binds X.K fd ps ds) (hd : Vals dvs ds) (hx : Passes CX X E)
    (I : Inv X pins σ H s) (r : Vals vs us) (h : sp (vs ++ dvs) H Q E) : wpAny (model X.prog X.w) X.A (call (.ref f) us) (EP X pins σ Q) X.xe s := by
  have all : Vals (vs ++ dvs) (us ++ ds) := Vals.append r hd
  have many : (us ++ ds).length = ps.length := (Vals.length all).symm.trans (F.len _ _ _ _ h)
  apply wpAny_call
  refine codeAny_mono (F.run X.A X.stack s H ⟨us, []⟩ (us ++ ds) (vs ++ dvs) Q E hg hr I.env0 (hb s us I.kIn many) all h) ?_
  intro res s' ended
  rcases res with er | fl
  · exact hx pins σ H s er s' I ended
  · cases fl with
    | ret u => exact I.after ended
    | next => exact (show False from ended).elim
    | brk => exact (show False from ended).elim
    | cont => exact (show False from ended).elim
theorem pe_callG (F : FnG X.prog X.w X.K X.mg X.base CX k f fd ps sp) (hgd : X.A.guards = some []) (hr : Room k X.A) (hg : Gl X x) (hm : X.mg x = some (.ref f)) (hk : PySem.W.keepIn X.K (.ref f) = true) (hb : Binds X.K fd ps ds) (hd : Vals dvs ds) (hx : Passes CX X E)
    (ha : PA X (e :: es) t) (hdb : (x == ("__debug__" : Str)) = false := by decide) (he : starEach (e :: es) X.env = (false, eval e X.env) :: starEach es X.env := by rfl) (hpl : (backTo pos (starEach es X.env)).any (·.1) = false := by rfl) :
    PE X (.Call (.Name x p) (e :: es) [] pos) (tCall sp dvs E t) :=
  ⟨fun pins s σ H Q I h => wpAny_Call_Name_kw (ld_glob I hg hm (PySem.W.callWith_K (h₀ := X.base) I.ok.mod.kin hk
    (thn (ha.run pos pins s σ H _ I h) fun us s1 ⟨vs, H1, I1, r, q⟩ => ⟨I1.kIn, goG F hgd hr hb hd hx I1 r q⟩) he hpl) hdb)⟩
end
end Vx
namespace Vx
open PySem PySem.Spec PyProof.Rows L2
abbrev S := SX.S

theorem foldl_app (l : List (List Nat)) : ∀ acc : Array Nat, (l.map List.toArray).foldl (· ++ ·) acc = (acc.toList ++ l.flatten).toArray := by
  induction l with
  | nil => intro acc; simp
  | cons x r ih => intro acc; rw [List.map_cons, List.foldl_cons, ih]; simp
def repN (n : Nat) (a : List Nat) : List Nat := (List.replicate n a).flatten
theorem repN_zero (a : List Nat) : repN 0 a = [] := rfl
theorem repN_succ (n : Nat) (a : List Nat) : repN (n + 1) a = a ++ repN n a := by unfold repN; rw [List.replicate_succ, List.flatten_cons]
theorem repN_length (n : Nat) (a : List Nat) : (repN n a).length = n * a.length := by
  induction n with
  | zero => simp [repN]
  | succ n ih => rw [repN_succ, List.length_append, ih, Nat.succ_mul]; omega
theorem repN_one (a : List Nat) : repN 1 a = a := by rw [repN_succ, repN_zero, List.append_nil]
theorem repN_nil (n : Nat) : repN n [] = [] := by
  induction n with
  | zero => rfl
  | succ n ih => rw [repN_succ, ih]; rfl
theorem mem_repN {n : Nat} {a : List Nat} {c : Nat} (h : c ∈ repN n a) : c ∈ a := by
  induction n with
  | zero => simp [repN] at h
  | succ n ih =>
    rw [repN_succ] at h
    rcases List.mem_append.mp h with h | h
    · exact h
    · exact ih h
theorem mul_S (a : List Nat) (n : Nat) : (⟨(List.replicate n (S a).cps).foldl (· ++ ·) #[]⟩ : Str) = S (repN n a) := by
  have e : (List.replicate n (S a).cps) = (List.replicate n a).map List.toArray := by rw [List.map_replicate]
  rw [e, foldl_app]; rfl

section
variable {X : Cx}
/-- text * n -/
theorem op_rep_str : OpR X (binaryOp .Mult) (fun x y H Q => ∃ (a : List Nat) (i : Int), x = .str (S a) ∧ y = .int i ∧ i < 2 ^ 40 ∧ -(2 ^ 40) < i ∧ i.toNat * a.length ≤ 1000000 ∧ Q (.str (S (repN i.toNat a))) H) := by
  intro pins s σ H x y v u Q I rx ry h
  obtain ⟨a, i, rfl, rfl, h1, h2, h3, q⟩ := h
  obtain ⟨t, rfl⟩ := rx
  obtain ⟨t', rfl⟩ := ry
  have hl : (S a).length = a.length := SX.S_len a
  refine PySem.P.mul_str ?_ ?_ ?_ ?_
  · rw [decide_eq_false (by omega), decide_eq_false (by omega)]; first | done | rfl
  · intro hn _ hc
    have hp : 0 < i := by omega
    have : ((S a).length : Int) * i ≤ 1000000 := by
      rw [hl]
      have e : (i.toNat : Int) = i := Int.toNat_of_nonneg (by omega)
      have : ((i.toNat * a.length : Nat) : Int) ≤ 1000000 := by omega
      rw [Int.natCast_mul, e, Int.mul_comm] at this
      exact this
    have h4 : ((S a).length : Int) ≤ (2 ^ 63 - 1) / i := by
      rw [Int.le_ediv_iff_mul_le hp]
      omega
    omega
  · intro _ _
    unfold Builtin.Str.tooLong
    rw [hl, Nat.mul_comm]
    exact decide_eq_false (by unfold sizeLine; omega)
  · by_cases c1 : i < 1
    · rw [if_pos c1]
      have e : i.toNat = 0 := by omega
      rw [e, repN_zero] at q
      exact ⟨by decide, .str _, H, I.tok _, ⟨_, rfl⟩, q⟩
    · rw [if_neg c1]
      by_cases c2 : (i == 1 || (S a).length == 0) = true
      · rw [if_pos c2]
        have e : repN i.toNat a = a := by
          rcases Bool.or_eq_true _ _ ▸ c2 with c | c
          · have : i = 1 := by simpa using c
            rw [this]; exact repN_one a
          · have : a.length = 0 := by rw [hl] at c; simpa using c
            have : a = [] := List.length_eq_zero_iff.mp this
            rw [this]; exact repN_nil _
        rw [e] at q
        exact ⟨.str _, H, I, ⟨t, rfl⟩, q⟩
      · rw [if_neg c2, mul_S]
        refine ⟨?_, .str _, H, I.tok _, ⟨_, rfl⟩, q⟩
        show (S _).length ≤ sizeLine
        rw [SX.S_len, repN_length]; unfold sizeLine; omega
end

/-- one sign each -/
def sg (a : List Nat) : List V := a.map fun c => V.str (S [c])
theorem sg_length (a : List Nat) : (sg a).length = a.length := List.length_map ..
theorem vals_signs {a : List Nat} {acc : Array Value} (h : ItemsOf (SignAt (S a)) acc (S a).cps.size) : Vals (sg a) acc.toList := by
  refine vals_of_at ?_ fun j x u hx hu => ?_
  · have e : acc.toList.length = acc.size := Array.length_toList ..
    rw [sg_length, e, h.1]; exact (SX.S_len a).symm
  · rw [Array.getElem?_toList] at hu
    obtain ⟨c, t, hc, rfl⟩ := h.2 j u hu
    have hc' : a[j]? = some c := by
      have : (S a).cps[j]? = a[j]? := List.getElem?_toArray ..
      rw [← this]; exact hc
    unfold sg at hx
    rw [List.getElem?_map, hc'] at hx
    cases hx
    exact ⟨t, rfl⟩
section
variable {X : Cx}
/-- text[::-1] -/
def tRevS (te : TE) : TE := fun σ H Q => te σ H fun x H1 => ∃ a : List Nat, x = .str (S a) ∧ a.length ≤ sizeLine ∧ Q (.str (S a.reverse)) H1
theorem pe_revS {e : Expr} {te : TE} {k : Nat} {p1 p2 p3 pos : Pos} (he : PE X e te) : PE X (.Subscript e (.Slice none none (some (.UnaryOp .USub (.Constant (.int 1) k p1) p2)) p3) pos) (tRevS te) := by
  constructor
  intro pins s σ H Q I h
  apply Subscript_
  refine thn (he.run pins s σ H _ I h) ?_
  rintro v s1 ⟨x, H1, I1, r1, a, ex, hz, q⟩
  subst ex
  obtain ⟨t, rfl⟩ := r1
  have minus : PO X (some (.UnaryOp .USub (.Constant (.int 1) k p1) p2)) (tPart (tUn (rU fun i => .int (-i)) (tC (.int 1)))) := po_some (pe_un un_neg pe_int)
  apply wpAny_Slice
  refine thn (po_none.run pins s1 σ H1 (fun o H2 => o = none ∧ H2 = H1) I1 ⟨rfl, rfl⟩) ?_
  rintro vl s2 ⟨l, H2, I2, pl, el, e2⟩
  subst el e2
  refine thn (po_none.run pins s2 σ H2 (fun o H3 => o = none ∧ H3 = H2) I2 ⟨rfl, rfl⟩) ?_
  rintro vu s3 ⟨u, H3, I3, pu, eu, e3⟩
  subst eu e3
  refine thn (minus.run pins s3 σ H3 (fun o H4 => o = some (-1) ∧ H4 = H3) I3 ⟨1, rfl, -1, rfl, rfl, rfl⟩) ?_
  rintro vs s4 ⟨o, H4, I4, ps, eo, e4⟩
  subst eo e4
  have I5 : Inv X pins σ H4 { s4 with heap := s4.heap.push { cls := .type "slice", data := .fields #[vl, vu, vs] } } := I4.kept (t' := s4.toks) fun b ob z => Heap.get?_push_of_some _ z
  refine tail_any (ops := [.str (S a) t, .ref s4.heap.objs.size]) (typeIs_str _ _ _) F.slot_str_getitem.lookup ?_ (by with_unfolding_all rfl)
  obtain ⟨l, rfl, el⟩ := IsPart.raw pl
  obtain ⟨u, rfl, eu⟩ := IsPart.raw pu
  obtain ⟨w', rfl, ew⟩ := IsPart.raw ps
  have hl : l = none := by cases l with | none => rfl | some z => cases el
  have hu : u = none := by cases u with | none => rfl | some z => cases eu
  obtain ⟨tk, rfl⟩ : ∃ tk, w' = some (-1, tk) := by
    cases w' with
    | none => cases ew
    | some z => obtain ⟨z1, z2⟩ := z; cases ew; exact ⟨z2, rfl⟩
  subst hl hu
  refine wpAny_getItem_str_slice (l := none) (u := none) (st := some (-1, tk)) ⟨_, Heap.get?_push_size _ rfl, rfl, rfl⟩ (by rfl) ?_
  have hp : slicePicked (S a) none none (some (-1, tk)) = (List.range a.length).reverse := by
    unfold slicePicked
    rw [SX.S_len, ← PySem.W.krv_range, ← PySem.W.krv_sliceRange]
    rfl
  have hr : ((slicePicked (S a) none none (some (-1, tk))).filterMap ((S a).cps[·]?)).toArray = a.reverse.toArray := by
    rw [hp, List.filterMap_reverse]
    have e := PySem.W.krv_all a.toArray
    rw [List.size_toArray] at e
    have e' : (List.range a.length).filterMap (fun x => (S a).cps[x]?) = a := e
    rw [e']
  unfold sliceMade
  have hne : ((Option.map (fun x : Int × Tok => x.fst) (some (-1, tk))).getD 1 == 1 && (slicePicked (S a) none none (some (-1, tk))).length == (S a).length) = false := by
    rw [show ((Option.map (fun x : Int × Tok => x.fst) (some (-1, tk))).getD 1 == 1) = false from rfl, Bool.false_and]
  rw [if_neg (by rw [hne]; exact Bool.false_ne_true), hr]
  refine ⟨?_, .str _, H4, I5.tok _, ⟨_, rfl⟩, q⟩
  show (S a.reverse).length ≤ sizeLine
  rw [SX.S_len, List.length_reverse]; exact hz

/-- list(text) -/
theorem call_list_tx (hc : X.calm = true) : CallR X (.type "list") (fun xs H Q => ∃ a : List Nat, xs = [.str (S a)] ∧ a.length ≤ 100000 ∧ ∀ l, H l = none → Q (.ref l) (upd H l (.lst (sg a)))) := by
  intro pins s σ H xs us Q I r h
  obtain ⟨a, rfl, hz, q⟩ := h
  obtain ⟨u, rfl, rx⟩ := vals1 r
  obtain ⟨t, rfl⟩ := rx
  have hs : (S a).cps.size = a.length := SX.S_len a
  refine PySem.call_list_str (I.ok.hd hc) (S a) t (fun h' tk acc c' kp e it => ?_) (by rw [hs]; unfold sizeLine; omega)
  refine ⟨.ref s.heap.objs.size, _, I.laid (t' := tk) kp (Nat.le_refl _) (show ObjOk X.prog X.w _ h' _ (.lst (sg a)) from ⟨by rw [sg_length]; unfold sizeLine; omega, acc.toList, c', vals_signs it, ?_⟩), rfl, q _ (I.hok.fresh (Nat.le_refl _))⟩
  rw [Array.toArray_toList]; exact e
end
section
variable {prog : Program} {w : World} {A : Around} {E : Value → Shared → Prop} {s : Shared}
theorem code_tuple_tx {Q₁ : Value → Shared → Prop} (hh : A.handled = none) (x : Str) (t : Tok) (hn : x.cps.size ≤ 100000)
    (h : ∀ (s' : Shared) (acc : Array Value), (∀ b o, s.heap.get? b = some o → s'.heap.get? b = some o) → s'.gens = s.gens → s'.drawn = s.drawn → s'.os = s.os → ItemsOf (SignAt x) acc x.cps.size →
      Q₁ (.ref s'.heap.objs.size) { s' with heap := s'.heap.push { cls := .type "tuple", data := .seq acc } }) :
    codeAny (model prog w) A (.call (.builtin "tuple.__new__") ⟨[.type "tuple", .str x t], []⟩) (wants Q₁ E) s := by
  apply codeAny_of_tree
  show wpAny _ A.in1 (do checkBuiltinCall "tuple.__new__" ⟨[.type "tuple", .str x t], []⟩; again (.builtin "tuple.__new__" ⟨[.type "tuple", .str x t], []⟩)) _ _ s
  refine wpAny_bind (wpAny_of_eq (F.newCall_tuple_1 _) (wpAny_pure ⟨plainId_quiet F.plain_tuple_new _, codeAny_builtin F.entry_tuple_new ?_⟩))
  rw [Around.under_plainId F.plain_tuple_new _]
  have k1 := sub_tuple_self
  have k2 := init_tuple_lookup
  have k3 := madeHere_tuple
  have k4 : s.TypeIs (.str x t) "str" := typeIs_str s x t
  have k5 : A.in1.handled = none := hh
  have k6 : x.cps.size ≤ sizeLine := by unfold sizeLine; omega
  wp_walk using wpAny_typeOf k4, wpAny_collect_str (A := A.in1) k5 x t
  intro s' acc hk hg hd ho hacc
  show wpAny _ _ (Builtin.Tuple.tupleExact acc.toList.toArray >>= fun v => ret v) _ _ _
  unfold Builtin.Tuple.tupleExact
  have ea : acc.toList.toArray = acc := by simp
  rw [ea]
  refine wpAny_bind (wpAny_newObj_type ?_ (by show acc.size ≤ sizeLine; rw [hacc.1]; exact k6))
  exact wpAny_pure (h s' acc hk hg hd ho hacc)
theorem call_tuple_txt {Q : Value → Shared → Prop} (hh : A.handled = none) (x : Str) (t : Tok) (hn : x.cps.size ≤ 100000)
    (hQ : ∀ (s' : Shared) (acc : Array Value), (∀ b o, s.heap.get? b = some o → s'.heap.get? b = some o) → s'.gens = s.gens → s'.drawn = s.drawn → s'.os = s.os → ItemsOf (SignAt x) acc x.cps.size →
      Q (.ref s'.heap.objs.size) { s' with heap := s'.heap.push { cls := .type "tuple", data := .seq acc } }) :
    wpAny (model prog w) A (call (.type "tuple") [.str x t]) Q E s := by
  refine callType_codes (Q₁ := fun obj s₁ => s₁.TypeIs obj "tuple" ∧ Q obj s₁) F.called_tuple (F.typeCall_tuple_1 _) F.entry_object_init
    (code_tuple_tx (A := A.in1) hh x t hn fun s' acc hk hg hd ho hacc => ⟨⟨_, Heap.get?_push_size _ rfl, rfl⟩, hQ s' acc hk hg hd ho hacc⟩) fun obj s₁ h₁ => ?_
  exact ⟨h₁.1, F.args_object_init_2 obj _, object_init_meets F.called_tuple.init.lookup F.called_tuple.made (by decide) prog w A.in1 _ s₁ ⟨h₁.1, rfl, h₁.2⟩⟩
end
section
variable {X : Cx}
theorem call_tuple_tx (hc : X.calm = true) : CallR X (.type "tuple") (fun xs H Q => ∃ a : List Nat, xs = [.str (S a)] ∧ a.length ≤ 100000 ∧ ∀ l, H l = none → Q (.ref l) (upd H l (.tup (sg a)))) := by
  intro pins s σ H xs us Q I r h
  obtain ⟨a, rfl, hz, q⟩ := h
  obtain ⟨u, rfl, rx⟩ := vals1 r
  obtain ⟨t, rfl⟩ := rx
  have hs : (S a).cps.size = a.length := SX.S_len a
  refine call_tuple_txt (I.ok.hd hc) (S a) t (by rw [hs]; exact hz) fun s' acc kp hg hd ho it => ?_
  obtain ⟨h', g', d', t', o'⟩ := s'
  obtain rfl : g' = s.gens := hg
  obtain rfl : d' = s.drawn := hd
  obtain rfl : o' = s.os := ho
  have I2 : Inv X pins σ H { s with heap := h', toks := t' } := I.kept kp
  refine ⟨.ref h'.objs.size, upd H h'.objs.size (.tup (sg a)), I2.laid (t' := t') (fun c o e => Heap.get?_push_of_some _ e) (Nat.le_refl _) (show ObjOk X.prog X.w _ _ _ (.tup (sg a)) from ⟨by rw [sg_length]; unfold sizeLine; omega, acc.toList, vals_signs it, ?_⟩), rfl, q _ (I2.hok.fresh (Nat.le_refl _))⟩
  rw [Array.toArray_toList]; exact IsTup.new _ _
end
end Vx
namespace Vx
open PySem PySem.Spec PyProof.Rows L2
/-! repr of data at any depth, with dicts -/
mutual
inductive Dx (K : PySem.W.Frag) (H : Hp) : V → PyData → Prop
  | non : Dx K H .non .none
  | bl (b : Bool) : Dx K H (.bl b) (.bool b)
  | int (i : Int) : Dx K H (.int i) (.int i)
  | str (x : Str) : Dx K H (.str x) (.str x)
  | lst {a : Addr} {xs : List V} {ds : List PyData} : H a = some (.lst xs) → a ≠ sysModules → DxAll K H xs ds → Dx K H (.ref a) (.list ds)
  | tup {a : Addr} {xs : List V} {ds : List PyData} : SqT K H a xs → DxAll K H xs ds → Dx K H (.ref a) (.tuple ds)
  | dic {a : Addr} {kvs : List (Key × V)} {ds : List (PyData × PyData)} : H a = some (.dK kvs) → DxAll K H (kvs.map fun p => kV p.1) (ds.map (·.1)) → DxAll K H (kvs.map (·.2)) (ds.map (·.2)) → Dx K H (.ref a) (.dict ds)
inductive DxAll (K : PySem.W.Frag) (H : Hp) : List V → List PyData → Prop
  | nil : DxAll K H [] []
  | cons {v : V} {vs : List V} {d : PyData} {ds : List PyData} : Dx K H v d → DxAll K H vs ds → DxAll K H (v :: vs) (d :: ds)
end
theorem pair_keys {P : Program} {w : World} : ∀ {es : List DictEntry} {kvs : List (Key × V)} {vs : List (Key × Value)}, KV kvs vs → Pairs (mixKind P w) es vs → Vals (kvs.map fun p => kV p.1) (es.map (·.key)) ∧ Vals (kvs.map (·.2)) (es.map (·.val))
  | _, _, _, .nil, p => by cases p; exact ⟨.nil, .nil⟩
  | _, _, _, .cons r t, p => by
    cases p with
    | cons h1 h2 h3 =>
      obtain ⟨a, b⟩ := pair_keys t h3
      refine ⟨.cons ?_ a, .cons ?_ b⟩
      · dsimp only; rw [r.1]; exact keyIs_rel h1
      · dsimp only; rw [h2]; exact r.2
section
variable {X : Cx} {pins : List (Addr × Obj)} {σ : L2.St} {H : Hp} {s : Shared}
mutual
theorem Dx.reads (I : Inv X pins σ H s) : ∀ (d : PyData) (v : V) (u : Value), Dx X.K H v d → RelV v u → ∃ as, Reads s.heap u d as ∧ sysModules ∉ as
  | .none, _, _, h, r => by cases h; cases r; exact ⟨_, Reads.none, by simp⟩
  | .bool b, _, _, h, r => by cases h; cases r; exact ⟨_, Reads.bool b, by simp⟩
  | .int i, _, _, h, r => by cases h; obtain ⟨t, rfl⟩ := r; exact ⟨_, Reads.int i t, by simp⟩
  | .str x, _, _, h, r => by cases h; obtain ⟨t, rfl⟩ := r; exact ⟨_, Reads.str x t, by simp⟩
  | .list ds, _, _, h, r => by
    cases h with
    | lst hs hne ha =>
      cases r
      obtain ⟨its, rv, ⟨o, n, ho, hc, _, hd⟩, _⟩ := I.list (SqL.of hs)
      obtain ⟨as, hr, hn⟩ := Dx.readsAll I ds _ its ha rv
      refine ⟨_, Reads.list ho hc hd hr, fun z => ?_⟩
      rcases List.mem_cons.mp z with z | z
      · exact hne z.symm
      · exact hn z
  | .tuple ds, _, _, h, r => by
    cases h with
    | tup hs ha =>
      cases r
      obtain ⟨its, rv, ⟨o, ho, hc, n, hd⟩, _⟩ := I.tuple hs
      obtain ⟨as, hr, hn⟩ := Dx.readsAll I ds _ its ha rv
      exact ⟨_, Reads.tuple ho hc hd hr, hn⟩
  | .dict ds, _, _, h, r => by
    cases h with
    | dic hs ha hb =>
      cases r
      obtain ⟨_, hS, vs, kv, o, es, ep, ho, hx, hd, _, hp, _⟩ := dk_of I.hok hs
      obtain ⟨rk, rvv⟩ := pair_keys kv hp
      obtain ⟨as, hr, hn⟩ := Dx.readsKeys I ds _ _ ha rk
      obtain ⟨bs, hr2, hn2⟩ := Dx.readsVals I ds _ _ hb rvv
      refine ⟨_, Reads.dict ho hx.1 hd hr hr2, fun z => ?_⟩
      rcases List.mem_append.mp z with z | z
      · rcases List.mem_cons.mp z with z | z
        · exact absurd z.symm (by simpa using hS)
        · exact hn z
      · exact hn2 z
theorem Dx.readsAll (I : Inv X pins σ H s) : ∀ (ds : List PyData) (vs : List V) (us : List Value), DxAll X.K H vs ds → Vals vs us → ∃ as, ReadsAll s.heap us ds as ∧ sysModules ∉ as
  | [], _, _, h, r => by cases h; cases r; exact ⟨_, ReadsAll.nil, by simp⟩
  | d :: ds, _, _, h, r => by
    cases h with
    | cons a1 a2 =>
      cases r with
      | cons r1 r2 =>
        obtain ⟨as, q1, n1⟩ := Dx.reads I d _ _ a1 r1
        obtain ⟨bs, q2, n2⟩ := Dx.readsAll I ds _ _ a2 r2
        refine ⟨_, ReadsAll.cons q1 q2, fun z => ?_⟩
        rcases List.mem_append.mp z with z | z
        · exact n1 z
        · exact n2 z
theorem Dx.readsKeys (I : Inv X pins σ H s) : ∀ (ds : List (PyData × PyData)) (vs : List V) (us : List Value), DxAll X.K H vs (ds.map (·.1)) → Vals vs us → ∃ as, ReadsAll s.heap us (ds.map (·.1)) as ∧ sysModules ∉ as
  | [], _, _, h, r => by cases h; cases r; exact ⟨_, ReadsAll.nil, by simp⟩
  | (d, _) :: ds, _, _, h, r => by
    cases h with
    | cons a1 a2 =>
      cases r with
      | cons r1 r2 =>
        obtain ⟨as, q1, n1⟩ := Dx.reads I d _ _ a1 r1
        obtain ⟨bs, q2, n2⟩ := Dx.readsKeys I ds _ _ a2 r2
        refine ⟨_, ReadsAll.cons q1 q2, fun z => ?_⟩
        rcases List.mem_append.mp z with z | z
        · exact n1 z
        · exact n2 z
theorem Dx.readsVals (I : Inv X pins σ H s) : ∀ (ds : List (PyData × PyData)) (vs : List V) (us : List Value), DxAll X.K H vs (ds.map (·.2)) → Vals vs us → ∃ as, ReadsAll s.heap us (ds.map (·.2)) as ∧ sysModules ∉ as
  | [], _, _, h, r => by cases h; cases r; exact ⟨_, ReadsAll.nil, by simp⟩
  | (_, d) :: ds, _, _, h, r => by
    cases h with
    | cons a1 a2 =>
      cases r with
      | cons r1 r2 =>
        obtain ⟨as, q1, n1⟩ := Dx.reads I d _ _ a1 r1
        obtain ⟨bs, q2, n2⟩ := Dx.readsVals I ds _ _ a2 r2
        refine ⟨_, ReadsAll.cons q1 q2, fun z => ?_⟩
        rcases List.mem_append.mp z with z | z
        · exact n1 z
        · exact n2 z
end
end
/-- repr(x) -/
def rRepr (K : PySem.W.Frag) : List V → Hp → VK → Prop := fun xs H Q => ∃ x d, xs = [x] ∧ Dx K H x d ∧ d.showable = true ∧ d.shown.length ≤ sizeLine ∧ d.depth ≤ 50 ∧ Q (.str d.shown) H
theorem call_reprX {X : Cx} (hg : X.A.guards = some []) (hu : X.A.units + 64 < cLine) : CallR X (.builtin "repr") (rRepr X.K) := by
  intro pins s σ H xs us Q I r h
  obtain ⟨x, d, rfl, hd, hs, hz, hp, q⟩ := h
  obtain ⟨u, rfl, rx⟩ := vals1 r
  obtain ⟨as, hr, hn⟩ := Dx.reads I d x u hd rx
  cases hd with
  | non => cases rx; exact PySem.P.repr_of_none ⟨.str _, H, I.tok _, ⟨_, rfl⟩, by simpa only [PyData.shown] using q⟩
  | bl b => cases rx; exact PySem.P.repr_of_bool ⟨.str _, H, I.tok _, ⟨_, rfl⟩, by simpa only [PyData.shown] using q⟩
  | int i => obtain ⟨t, rfl⟩ := rx; exact PySem.P.repr_of_int (by simpa [PyData.showable] using hs) ⟨.str _, H, I.tok _, ⟨_, rfl⟩, by simpa only [PyData.shown] using q⟩
  | str y => obtain ⟨t, rfl⟩ := rx; exact PySem.P.repr_of_str ⟨.str _, H, I.tok _, ⟨_, rfl⟩, by simpa only [PyData.shown] using q⟩ (by simpa only [PyData.shown] using hz)
  | lst _ _ _ => cases rx; exact repr_of_reads' hr hs (fun _ => hn) hg (by omega) (fun _ _ e => e) (fun h' u tk hk => ⟨.str _, H, I.kept (t' := tk) hk, ⟨_, rfl⟩, q⟩) hz
  | tup _ _ => cases rx; exact repr_of_reads' hr hs (fun _ => hn) hg (by omega) (fun _ _ e => e) (fun h' u tk hk => ⟨.str _, H, I.kept (t' := tk) hk, ⟨_, rfl⟩, q⟩) hz
  | dic _ _ _ => cases rx; exact repr_of_reads' hr hs (fun _ => hn) hg (by omega) (fun _ _ e => e) (fun h' u tk hk => ⟨.str _, H, I.kept (t' := tk) hk, ⟨_, rfl⟩, q⟩) hz

section
variable {X : Cx} {es : List Expr} {pos : Pos} {t : TA}
theorem big_ne {pins : List (Addr × Obj)} {σ : L2.St} {H : Hp} {s : Shared} (I : Inv X pins σ H s) : s.heap.objs.size ≠ sysModules := Nat.ne_of_gt I.big
/-- a new list, its place told apart from the module table's -/
def tLst1 (t : TA) : TE := fun σ H Q => t σ H fun xs H1 => xs.length ≤ sizeLine ∧ ∀ p, H1 p = none → p ≠ sysModules → Q (.ref p) (upd H1 p (.lst xs))
theorem pe_lst1 (h : PA X es t) : PE X (.List es pos) (tLst1 t) := by
  constructor
  intro pins s σ H Q I hq
  apply wpAny_List_spliced
  refine thn (h.run pos pins s σ H _ I hq) ?_
  rintro us s1 ⟨xs, H1, I1, r, z, q⟩
  refine ⟨by rw [← r.length]; exact z, ?_⟩
  have fresh : H1 s1.heap.objs.size = none := I1.hok.fresh (Nat.le_refl _)
  exact ⟨.ref s1.heap.objs.size, upd H1 s1.heap.objs.size (.lst xs), I1.laid (t' := s1.toks) (fun b u e => Heap.get?_push_of_some _ e) (Nat.le_refl _) ⟨z, us, 0, r, Heap.get?_push_size _ rfl⟩, rfl, q _ fresh (big_ne I1)⟩
def rCat1 : R2 := fun x y H Q => ∃ l b xs zs, x = .ref l ∧ y = .ref b ∧ H l = some (.lst xs) ∧ H b = some (.lst zs) ∧ xs.length + zs.length ≤ sizeLine ∧ ∀ p, H p = none → p ≠ sysModules → Q (.ref p) (upd H p (.lst (xs ++ zs)))
theorem op_cat1 : OpR X (binaryOp .Add) rCat1 := by
  intro pins s σ H x y v u Q I rx ry h
  obtain ⟨l, b, xs, zs, rfl, rfl, h1, h2, hz, q⟩ := h
  cases rx
  cases ry
  obtain ⟨z1, its1, n1, r1, k1, e1⟩ := I.lstM h1
  obtain ⟨z2, its2, n2, r2, k2, e2⟩ := I.lstM h2
  refine PySem.P.add_list e1 e2 ?_ (by simp only [List.size_toArray]; omega)
  rw [show its1.toArray ++ its2.toArray = (its1 ++ its2).toArray by simp]
  exact ⟨.ref _, _, I.lnew (t' := s.toks) (r1.append r2) (by rw [List.length_append]; exact hz), rfl, q _ I.fresh (big_ne I)⟩
theorem call_list_tx1 (hc : X.calm = true) : CallR X (.type "list") (fun xs H Q => ∃ a : List Nat, xs = [.str (S a)] ∧ a.length ≤ 100000 ∧ ∀ l, H l = none → l ≠ sysModules → Q (.ref l) (upd H l (.lst (sg a)))) := by
  intro pins s σ H xs us Q I r h
  obtain ⟨a, rfl, hz, q⟩ := h
  obtain ⟨u, rfl, rx⟩ := vals1 r
  obtain ⟨t, rfl⟩ := rx
  have hs : (S a).cps.size = a.length := SX.S_len a
  refine PySem.call_list_str (I.ok.hd hc) (S a) t (fun h' tk acc c' kp e it => ?_) (by rw [hs]; unfold sizeLine; omega)
  refine ⟨.ref s.heap.objs.size, _, I.laid (t' := tk) kp (Nat.le_refl _) (show ObjOk X.prog X.w _ h' _ (.lst (sg a)) from ⟨by rw [sg_length]; unfold sizeLine; omega, acc.toList, c', vals_signs it, ?_⟩), rfl, q _ (I.hok.fresh (Nat.le_refl _)) (big_ne I)⟩
  rw [Array.toArray_toList]; exact e
end

/-! the law's call, the guards told -/
theorem lawG {P : Program} {w : World} {K : PySem.W.Frag} {mg mb : Str → Option Value} {CX : CXT} {k : Nat} {fa a : Addr} {fd : FuncData} {x : Str} {sp : Sp} {s₁ : Shared} {vs : List Value} {ns : List Int}
    (inK : K.In s₁.heap) (glob : s₁.heap.Ns mainGlobals mg) (blt : s₁.heap.Ns builtinsNs mb) (boot : ∀ x : Str, x ≠ "__name__" → mb x = bootBuiltins x) (unlim : s₁.heap.NoLimit) (nogen : s₁.gens = #[])
    (stands : s₁.heap.get? a = some { cls := .type "list", data := .seq vs.toArray }) (isInts : IntsAre vs ns) (short : ns.length ≤ sizeLine) (room : Room k callerA)
    (F : ∀ base : Heap, K.In base → base.Ns mainGlobals mg → FnG P w K mg base CX k fa fd [x] sp) (binds : ∀ (s : Shared) (u : Value), BindsTo s fd ⟨[u], []⟩ [(x, u)])
    (asked : ∀ H : Hp, SqL K H a (ns.map V.int) → sp [.ref a] H (fun v _ => v = .bl true) fun _ _ _ => False)
    (calm : ∀ H e s', CX [] H s₁ (fun _ _ _ => False) e s' → False) :
    codeAny (model P w) callerA (.call (.ref fa) ⟨[.ref a], []⟩) (fun r s' => r = .ok (.ret (.bool true)) ∧ OldK s₁.heap s'.heap ∧ s'.os = s₁.os ∧ AllBare s'.gens) s₁ := by
  have rel := vals_ints isInts
  have many := isInts.length
  have main : ∀ H : Hp, (∀ b, H b = none ∨ ∃ o xs, H b = some (.frz o (.lst xs))) → SqL K H a (ns.map V.int) → HOk P w H s₁.heap → (∀ b, H b ≠ none → b = a) → (H a ≠ none → K.lookup a = none) →
      codeAny (model P w) callerA (.call (.ref fa) ⟨[.ref a], []⟩) (fun r s' => r = .ok (.ret (.bool true)) ∧ OldK s₁.heap s'.heap ∧ s'.os = s₁.os ∧ AllBare s'.gens) s₁ := by
    intro H locked seq ok onlyA notK
    have keepD : ∀ {b : Addr} {o : Obj} {es : Array DictEntry} {ep : Nat}, s₁.heap.get? b = some o → o.data = .dict es ep → H b = none := by
      intro b o es ep e d
      by_cases q : H b = none
      · exact q
      · have e' := onlyA b q
        subst e'
        rw [stands] at e
        cases e
        exact nomatch (show Data.seq vs.toArray _ = Data.dict es ep from d)
    have keepN : ∀ {b : Addr} {m : Str → Option Value}, s₁.heap.Ns b m → (hidT s₁.heap H).Ns b m := by
      rintro b m ⟨o, es, ep, e, d, rest⟩
      exact ⟨o, es, ep, hidT_get e (keepD e d), d, rest⟩
    have keepK : K.In (hidT s₁.heap H) := by
      intro b o e
      refine hidT_get (inK b o e) ?_
      by_cases q : H b = none
      · exact q
      · have e' := onlyA b q
        subst e'
        rw [notK q] at e
        cases e
    have modul : Mod K mg (hidT s₁.heap H) := by
      refine ⟨keepK, keepN glob, ⟨mb, keepN blt, boot⟩, ?_⟩
      obtain ⟨mc, h1, h2⟩ := unlim
      exact ⟨mc, keepN h1, h2⟩
    have e0 : Env0 P w K mg (hidT s₁.heap H) callerA [] s₁ H :=
      ⟨rfl, modul, fun b o e => of_hidT e, Nat.le_of_eq (hidT_size _ _), trivial, fun b hb => (nomatch (show b ∈ ([] : List Addr) from hb)), ok, .of_eq nogen⟩
    refine codeAny_mono ((F _ keepK (keepN glob)).run callerA [] s₁ H ⟨[.ref a], []⟩ [.ref a] [.ref a] _ _ rfl room e0 (binds s₁ (.ref a)) (.cons rfl .nil) (asked H seq)) ?_
    intro r s' ended
    rcases r with er | fl
    · exact (calm H er s' ended).elim
    · cases fl with
      | next => exact (show False from ended).elim
      | brk => exact (show False from ended).elim
      | cont => exact (show False from ended).elim
      | ret u =>
        obtain ⟨v, H', os, bare, un, ok', r', q⟩ := ended
        obtain rfl : v = .bl true := q
        obtain rfl : u = Value.bool true := r'
        refine ⟨rfl, OldK.of_keep ?_, os, bare⟩
        intro b o e
        rcases locked b with z | ⟨ob, xs, z⟩
        · exact un.keep b o e z (fun y => nomatch (show b ∈ ([] : List Addr) from y)) (fun y => nomatch y)
        · obtain ⟨e1, _⟩ := ok b _ z
          obtain ⟨e2, _⟩ := ok' b _ (un.frzs b ob _ z)
          rw [e] at e1
          cases e1
          exact e2
  by_cases hk : ∃ o, K.lookup a = some o
  · obtain ⟨o, hk⟩ := hk
    have e := inK a o hk
    rw [stands] at e
    cases e
    exact main (fun _ => none) (fun _ => Or.inl rfl) (Or.inr ⟨_, vs.toArray, _, hk, rfl, rfl, rfl, by rw [List.size_toArray, many]; exact short, by simpa using rel⟩) (fun b u z => nomatch (show (none : Option HO) = some u from z)) (fun b z => absurd rfl z) (fun z => absurd rfl z)
  · have hn : K.lookup a = none := by
      cases q : K.lookup a with
      | none => rfl
      | some o => exact absurd ⟨o, q⟩ hk
    refine main (fun b => if b = a then some (.frz { cls := .type "list", data := .seq vs.toArray } (.lst (ns.map V.int))) else none) (fun b => ?_) (Or.inl (Or.inr ⟨_, if_pos rfl⟩)) (fun b u z => ?_) (fun b z => ?_) (fun _ => hn)
    · by_cases e : b = a
      · exact Or.inr ⟨_, _, if_pos e⟩
      · exact Or.inl (if_neg e)
    · by_cases e : b = a
      · have z' : some _ = some u := (if_pos e).symm.trans z
        cases z'
        subst e
        exact ⟨stands, by rw [List.length_map]; exact short, vs, _, rel, stands⟩
      · exact nomatch (if_neg e).symm.trans z
    · by_cases e : b = a
      · exact e
      · exact absurd (if_neg e) z
theorem walkG {l : PySem.W.OpenLaw} {n k : Nat} {q : Program} {loose : List Str} {XP : (Str → Option Value) → Heap → Prop} {YP : World → Heap → Prop} {d : DefRec} {K : Params → PySem.W.Frag} {CX : World → CXT} {sp : World → Sp} {x : Str}
    (most : l.most = some n) (n2 : n ≤ sizeLine) (plain : d.params.defaults = []) (room : Room k callerA) (hY : ∀ (w : World) (h : Heap), YP w h → (K w.params).In h)
    (F : ∀ (w : World) (mg : Str → Option Value) (fa : Addr) (h : Heap), (K w.params).In h → h.Ns mainGlobals mg → mg d.name = some (.ref fa) →
      ∃ fd : FuncData, (∀ (s : Shared) (u : Value), BindsTo s fd ⟨[u], []⟩ [(x, u)]) ∧ ∀ base : Heap, (K w.params).In base → base.Ns mainGlobals mg → FnG l.prog w (K w.params) mg base (CX w) k fa fd [x] (sp w))
    (asked : ∀ (w : World) (H : Hp) (a : Addr) (ns : List Int), ns.length ≤ n → SqL (K w.params) H a (ns.map V.int) → sp w [.ref a] H (fun v _ => v = .bl true) fun _ _ _ => False)
    (calm : ∀ (w : World) (H : Hp) (s : Shared) (e : Value) (s' : Shared), CX w [] H s (fun _ _ _ => False) e s' → False) :
    PySem.W.WalkO q loose XP YP l.row.toRowW d [] (fun f vs => PySem.call f vs) := by
  apply Att.attach_call most plain
  intro w s₀ s₁ mg mb fa o pm cd doc a vs ns G Y ho hd hcd hmg hobj hints hlen hg
  have inK := hY w _ Y
  obtain ⟨fd, hb, hF⟩ := F w mg fa _ inK G.T.g hmg
  exact lawG inK G.T.g G.T.b G.T.builtins G.T.nolimit hg hobj hints (Nat.le_trans hlen n2) room hF hb (fun H hS => asked w H a ns hlen hS) fun H e s' => calm w H s₁ e s'
end Vx
namespace Vx
open PySem PySem.Spec PyProof.Rows L2
/-! how often a sign stands in a text -/
theorem at_one {a : List Nat} {c i : Nat} : StrLaws.At (S a) (S [c]) (S a).length i ↔ a[i]? = some c := StrLaws.subAt_one (S a) c i
theorem count_gap {a : List Nat} {c : Nat} : ∀ (n i : Nat), (∀ k, i ≤ k → k < i + n → a[k]? ≠ some c) → (a.drop i).count c = (a.drop (i + n)).count c
  | 0, _, _ => rfl
  | n + 1, i, h => by
    have h1 := count_gap n (i + 1) fun k h1 h2 => h k (by omega) (by omega)
    rw [show i + (n + 1) = i + 1 + n by omega, ← h1]
    by_cases hi : i < a.length
    · rw [List.drop_eq_getElem_cons hi, List.count_cons]
      have e := h i (Nat.le_refl _) (by omega)
      rw [List.getElem?_eq_getElem hi] at e
      have : (a[i] == c) = false := by simpa using fun z => e (by rw [z])
      rw [this]; simp
    · rw [List.drop_eq_nil_of_le (by omega), List.drop_eq_nil_of_le (by omega)]
theorem count_hit {a : List Nat} {c i : Nat} (h : a[i]? = some c) : (a.drop i).count c = (a.drop (i + 1)).count c + 1 := by
  obtain ⟨hi, e⟩ := List.getElem?_eq_some_iff.mp h
  rw [List.drop_eq_getElem_cons hi, e, List.count_cons_self]
theorem chain_count {a : List Nat} {c : Nat} : ∀ (cuts : List Nat) (i f : Nat), StrLaws.ChainG (S a) (S [c]) (S a).length i cuts f → (∀ k, f ≤ k → ¬ StrLaws.At (S a) (S [c]) (S a).length k) → cuts.length = (a.drop i).count c
  | [], i, f, h, hn => by
    have e : f = i := h
    subst e
    have h1 := count_gap (a := a) (c := c) a.length f fun k h1 _ z => hn k h1 (at_one.mpr z)
    rw [h1, List.drop_eq_nil_of_le (by omega)]; rfl
  | x :: r, i, f, h, hn => by
    have h1 : i ≤ x := h.1
    have ih := chain_count r (x + 1) f h.2.2.2 hn
    have g := count_gap (a := a) (c := c) (x - i) i fun k a1 a2 z => h.2.2.1 k a1 (by omega) (at_one.mpr z)
    rw [show i + (x - i) = x by omega] at g
    rw [g, count_hit (at_one.mp h.2.1), ← ih]; rfl
theorem count_S (a : List Nat) (c : Nat) : Txt.count (S a) (S [c]) = (a.count c : Int) := by
  obtain ⟨f, h, hn⟩ := StrLaws.occ_tight (S a) (S [c]) (Nat.le_refl 1)
  have e := chain_count _ 0 f h hn
  unfold Txt.count
  rw [e]; rfl
/-- a row of at most 200 letters -/
def abs (a : List Nat) : Bool := a.all fun c => c == 97 || c == 98
def rowB (a : List Nat) : Bool := decide (a.length ≤ 200) && abs a
theorem count_ab (a : List Nat) : a.count 97 + a.count 98 ≤ a.length ∧ (a.count 97 + a.count 98 = a.length ↔ abs a = true) := by
  induction a with
  | nil => exact ⟨Nat.le_refl _, by simp [abs]⟩
  | cons x r ih =>
    unfold abs at ih ⊢
    rw [List.all_cons, List.count_cons, List.count_cons, List.length_cons]
    obtain ⟨h1, h2⟩ := ih
    by_cases hx : x = 97
    · subst hx; simp only [beq_self_eq_true, if_true, Bool.true_or, Bool.true_and, show ((97 : Nat) == 98) = false from rfl]
      constructor
      · simp; omega
      · rw [← h2]; simp; omega
    · by_cases hy : x = 98
      · subst hy; simp only [beq_self_eq_true, if_true, Bool.or_true, Bool.true_and, show ((98 : Nat) == 97) = false from rfl]
        constructor
        · simp; omega
        · rw [← h2]; simp; omega
      · have e1 : (x == 97) = false := by simpa using hx
        have e2 : (x == 98) = false := by simpa using hy
        rw [e1, e2]
        constructor
        · simp; omega
        · simp; omega
theorem ab_sum (a : List Nat) : decide ((a.count 97 : Int) + (a.count 98 : Int) = (a.length : Int)) = abs a := by
  have h := (count_ab a).2
  cases e : abs a
  · refine decide_eq_false fun z => ?_
    have : a.count 97 + a.count 98 = a.length := by omega
    rw [h.mp this] at e; cases e
  · exact decide_eq_true (by have := h.mpr e; omega)
theorem cutS_to (a : List Nat) (n : Nat) : cutS (S a) none (some (n : Int)) = S (a.take n) := by
  unfold cutS
  rw [show HT.sIx (S a).length 0 none = 0 from HT.sIx_none .., show HT.sIx (S a).length (S a).length (some (n : Int)) = min n (S a).length from HT.sIx_nat .., SX.S_len]
  show S ((a.drop 0).take (min n a.length - 0)) = _
  rw [List.drop_zero, Nat.sub_zero]
  congr 1
  by_cases h : n ≤ a.length
  · rw [Nat.min_eq_left h]
  · rw [Nat.min_eq_right (by omega), List.take_of_length_le (Nat.le_refl _), List.take_of_length_le (by omega)]
theorem cutS_from (a : List Nat) (n : Nat) : cutS (S a) (some (n : Int)) none = S (a.drop n) := by
  unfold cutS
  rw [show HT.sIx (S a).length (S a).length none = (S a).length from HT.sIx_none .., show HT.sIx (S a).length 0 (some (n : Int)) = min n (S a).length from HT.sIx_nat .., SX.S_len]
  show S ((a.drop (min n a.length)).take (a.length - min n a.length)) = _
  congr 1
  by_cases h : n ≤ a.length
  · rw [Nat.min_eq_left h, List.take_of_length_le (by rw [List.length_drop]; exact Nat.le_refl _)]
  · rw [Nat.min_eq_right (by omega), Nat.sub_self, List.take_zero, List.drop_eq_nil_of_le (by omega)]
end Vx
namespace Vx
open PySem PySem.Spec PyProof.Rows L2
/-! what stays but one object -/
def Keep (r : Addr) (H H' : Hp) : Prop := ∀ b o, b ≠ r → H b = some o → H' b = some o
theorem Keep.refl {r : Addr} (H : Hp) : Keep r H H := fun _ _ _ h => h
theorem Keep.trans {r : Addr} {H H1 H2 : Hp} (a : Keep r H H1) (b : Keep r H1 H2) : Keep r H H2 := fun c o n h => b c o n (a c o n h)
theorem Keep.of {r : Addr} {H H' : Hp} (a : Same H H') : Keep r H H' := fun c o _ h => a c o h
theorem Keep.new {r p : Addr} {H H1 : Hp} {o : HO} (k : Keep r H H1) (h : H1 p = none) : Keep r H (upd H1 p o) := fun c u n e => by
  have e1 := k c u n e
  rw [upd_ne (ne_of_none e1 h)]; exact e1
theorem Keep.put {r : Addr} {H H1 : Hp} {o : HO} (k : Keep r H H1) : Keep r H (upd H1 r o) := fun c u n e => by
  rw [upd_ne n]; exact k c u n e
theorem same_new {H : Hp} {p : Addr} {o : HO} (h : H p = none) : Same H (upd H p o) := fun b x e => by
  rw [upd_ne (ne_of_none e h)]; exact e
theorem Same.new {H H1 : Hp} {p : Addr} {o : HO} (k : Same H H1) (h : H1 p = none) : Same H (upd H1 p o) := k.trans (same_new h)
/-- an object that H does not know may change -/
theorem Same.mut {H H1 : Hp} {p : Addr} {o : HO} (k : Same H H1) (h : H p = none) : Same H (upd H1 p o) := fun b x e => by
  rw [upd_ne (ne_of_none e h)]; exact k b x e
theorem Keep.seq {K : PySem.W.Frag} {r a : Addr} {H H' : Hp} {xs : List V} (k : Keep r H H') (hr : ∃ ys, H r = some (.lst ys)) (hs : SqL K H a xs) (hf : a ≠ r) : SqL K H' a xs := by
  rcases hs with (h | ⟨o, h⟩) | h
  · exact .inl (.inl (k _ _ hf h))
  · exact .inl (.inr ⟨o, k _ _ hf h⟩)
  · exact .inr h
theorem Keep.none {r p : Addr} {H H' : Hp} (k : Keep r H H') (hn : p ≠ r) (h : H' p = Option.none) : H p = Option.none := by
  cases q : H p with
  | none => rfl
  | some o => rw [k p o hn q] at h; cases h
/-! data of ints and texts -/
theorem dp_ints {K : PySem.W.Frag} {H : Hp} : ∀ ns : List Int, DpAll K H (ns.map V.int) (ns.map PyData.int)
  | [] => .nil
  | n :: r => .cons (.int n) (dp_ints r)
theorem can_ints : ∀ ns : List Int, PyData.canLayAll0 (ns.map PyData.int) = true
  | [] => by simp [PyData.canLayAll0]
  | n :: r => by simp [PyData.canLayAll0, PyData.canLay0, can_ints r]
theorem depth_ints : ∀ ns : List Int, PyData.depthAll (ns.map PyData.int) = 0
  | [] => by simp [PyData.depthAll]
  | n :: r => by simp [PyData.depthAll, PyData.depth, depth_ints r]
theorem shaped_ints (ns : List Int) : SeqAt.shaped (.list (ns.map PyData.int)) = true := by
  simp [SeqAt.shaped, PyData.canLay0, PyData.depth, can_ints, depth_ints]
theorem shaped_nil : SeqAt.shaped (.list []) = true := shaped_ints []
theorem eqv_nil : ∀ ds : List PyData, PyData.eqv (.list ds) (.list []) = ds.isEmpty
  | [] => by simp [PyData.eqv, PyData.eqvAll]
  | d :: r => by simp [PyData.eqv, PyData.eqvAll]
/-! the drawing reel of the laws -/
structure ReelAt (H : Hp) (r g c : Addr) (gs cs : List Int) (n st : Int) : Prop where
  at_r : H r = some (.lst [.ref g, .ref c, .int n, .int st])
  ne_g : g ≠ r
  ne_c : c ≠ r
  at_g : H g = some (.lst (gs.map V.int))
  at_c : H c = some (.lst (cs.map V.int))
  len_g : gs.length ≤ 60
  pos_g : ∀ x ∈ gs, 0 ≤ x
  len_c : 1 ≤ cs.length ∧ cs.length ≤ 60
  lo : 0 ≤ st
  hi : st < 2 ^ 127
def Reel (H : Hp) (r : Addr) : Prop := ∃ g c gs cs n st, ReelAt H r g c gs cs n st
theorem Reel.mono {H H' : Hp} {r : Addr} (R : Reel H r) (s : Same H H') : Reel H' r := by
  obtain ⟨g, c, gs, cs, n, st, R⟩ := R
  exact ⟨g, c, gs, cs, n, st, { R with at_r := s _ _ R.at_r, at_g := s _ _ R.at_g, at_c := s _ _ R.at_c }⟩
theorem Reel.is {H : Hp} {r : Addr} (R : Reel H r) : ∃ xs, H r = some (.lst xs) := by
  obtain ⟨g, c, gs, cs, n, st, R⟩ := R
  exact ⟨_, R.at_r⟩
/-- an object that is none of the reel's -/
def Off (H : Hp) (r D : Addr) : Prop := ∀ g c x y, H r = some (.lst [.ref g, .ref c, x, y]) → D ≠ g ∧ D ≠ c
/-- all that is none of the reel's stays, and stays apart from it -/
structure Step (r : Addr) (H H' : Hp) : Prop where
  keep : Keep r H H'
  sep : ∀ D, (∃ o, H D = some o) → D ≠ r → Off H r D → Off H' r D
theorem Step.refl {r : Addr} (H : Hp) : Step r H H := ⟨.refl H, fun _ _ _ h => h⟩
theorem Step.trans {r : Addr} {H H1 H2 : Hp} (a : Step r H H1) (b : Step r H1 H2) : Step r H H2 :=
  ⟨a.keep.trans b.keep, fun D ⟨o, e⟩ n h => b.sep D ⟨o, a.keep D o n e⟩ n (a.sep D ⟨o, e⟩ n h)⟩
theorem Step.same {r : Addr} {H H' : Hp} (R : Reel H r) (s : Same H H') : Step r H H' := by
  obtain ⟨xs, e⟩ := R.is
  exact ⟨.of s, fun D _ _ h g c x y e2 => h g c x y (by rw [s _ _ e] at e2; rw [e]; exact e2)⟩
/-- an object that was made since may change -/
theorem Step.mut {r p : Addr} {H H1 : Hp} {o : HO} (a : Step r H H1) (h : H p = none) (n : p ≠ r) : Step r H (upd H1 p o) :=
  ⟨fun c u nc e => by rw [upd_ne (ne_of_none e h)]; exact a.keep c u nc e, fun D hD nD hO g c x y e => a.sep D hD nD hO g c x y (by rw [upd_ne n.symm] at e; exact e)⟩
theorem Off.new {H : Hp} {r D : Addr} (R : Reel H r) (n : H D = none) : Off H r D := by
  obtain ⟨g, c, gs, cs, n', st, R⟩ := R
  intro g2 c2 x y e
  rw [R.at_r] at e
  cases e
  exact ⟨(fun z => by rw [z, R.at_g] at n; cases n), (fun z => by rw [z, R.at_c] at n; cases n)⟩
theorem Off.upd {H : Hp} {r D p : Addr} {o : HO} (h : Off H r D) (n : p ≠ r) : Off (L2.upd H p o) r D := fun g c x y e => h g c x y (by rw [upd_ne n.symm] at e; exact e)
theorem Reel.upd {H : Hp} {r D : Addr} {o : HO} (R : Reel H r) (n : D ≠ r) (h : Off H r D) : Reel (L2.upd H D o) r := by
  obtain ⟨g, c, gs, cs, n', st, R⟩ := R
  obtain ⟨h1, h2⟩ := h g c _ _ R.at_r
  exact ⟨g, c, gs, cs, n', st, { R with at_r := by rw [upd_ne n.symm]; exact R.at_r, at_g := by rw [upd_ne h1.symm]; exact R.at_g, at_c := by rw [upd_ne h2.symm]; exact R.at_c }⟩
theorem Reel.ne {H : Hp} {r D : Addr} (R : Reel H r) (n : H D = none) : D ≠ r := by
  obtain ⟨xs, hx⟩ := R.is
  exact (ne_of_none hx n).symm
/-- a draw: an int below the bound; all else stays -/
def spDraw : Sp := fun vs H Q _ => ∃ (r : Addr) (m : Int), vs = [.ref r, .int m] ∧ Reel H r ∧ 1 ≤ m ∧ m.natAbs < 2 ^ 8000 ∧ ∀ (d : Int) (H' : Hp), 0 ≤ d → d < m → Step r H H' → Reel H' r → Q (.int d) H'
/-- a new reel from the script -/
def spReel (K : PySem.W.Frag) : Sp := fun vs H Q _ => ∃ (a : Addr) (ns : List Int), vs = [.ref a] ∧ SqL K H a (ns.map V.int) ∧ ns.length ≤ 63 ∧ ∀ (r : Addr) (H' : Hp), Same H H' → H r = none → Reel H' r → Q (.ref r) H'
/-- a text of a and b with low to high letters -/
def spWord : Sp := fun vs H Q _ => ∃ (r : Addr) (lo hi : Int), vs = [.ref r, .int lo, .int hi] ∧ Reel H r ∧ 0 ≤ lo ∧ lo ≤ hi ∧ hi ≤ 300 ∧
  ∀ (a : List Nat) (H' : Hp), lo ≤ (a.length : Int) → (a.length : Int) ≤ hi → abs a = true → Step r H H' → Reel H' r → Q (.str (S a)) H'
theorem bits127 {x : Int} (h0 : 0 ≤ x) (h : x < 2 ^ 127) : x.natAbs < 2 ^ 127 := by omega

theorem cut_to (xs : List V) (n : Nat) : cutV xs none (some (n : Int)) = xs.take n := by
  unfold cutV
  rw [HT.sIx_none, show HT.sIx xs.length xs.length (some (n : Int)) = min n xs.length from HT.sIx_nat ..]
  show (xs.drop 0).take (min n xs.length - 0) = _
  rw [List.drop_zero, Nat.sub_zero]
  by_cases h : n ≤ xs.length
  · rw [Nat.min_eq_left h]
  · rw [Nat.min_eq_right (by omega), List.take_of_length_le (Nat.le_refl _), List.take_of_length_le (by omega)]
theorem cut_from (xs : List V) (n : Nat) : cutV xs (some (n : Int)) none = xs.drop n := by
  unfold cutV
  rw [HT.sIx_none, show HT.sIx xs.length 0 (some (n : Int)) = min n xs.length from HT.sIx_nat ..]
  by_cases h : n ≤ xs.length
  · rw [Nat.min_eq_left h, List.take_of_length_le (by rw [List.length_drop]; exact Nat.le_refl _)]
  · rw [Nat.min_eq_right (by omega), Nat.sub_self, List.take_zero, List.drop_eq_nil_of_le (by omega)]

theorem bigM_pos : (0 : Int) < 2 ^ (64 : Int).toNat * 2 ^ (63 : Int).toNat - 1 := by decide
theorem bigM_le : (2 ^ (64 : Int).toNat * 2 ^ (63 : Int).toNat - 1 : Int) ≤ 2 ^ 127 := by decide

/-! texts by their codes -/
def cutL (a : List Nat) (lo hi : Option Int) : List Nat := (cutS (S a) lo hi).cps.toList
theorem cutL_to (a : List Nat) (n : Nat) : cutL a none (some (n : Int)) = a.take n := by unfold cutL; rw [cutS_to]
theorem cutL_from (a : List Nat) (n : Nat) : cutL a (some (n : Int)) none = a.drop n := by unfold cutL; rw [cutS_from]
theorem cutL_length (a : List Nat) (lo hi : Option Int) : (cutL a lo hi).length ≤ a.length := by
  have h := cutS_length (S a) lo hi
  rw [SX.S_len] at h
  exact h
section
variable {X : Cx}
def rAddT : R2 := fun x y H Q => ∃ a b : List Nat, x = .str (S a) ∧ y = .str (S b) ∧ a.length + b.length ≤ 1000000 ∧ Q (.str (S (a ++ b))) H
theorem op_add_tx : OpR X (binaryOp .Add) rAddT := by
  intro pins s σ H x y v u Q I rx ry h
  obtain ⟨a, b, rfl, rfl, hz, q⟩ := h
  refine op_add_str pins s σ H _ _ v u Q I rx ry ⟨S a, S b, rfl, rfl, ?_, ?_⟩
  · rw [SX.S_len, SX.S_len]; unfold sizeLine; omega
  · rw [SX.S_cat]; exact q
def rSlT2 : V → Option Int → Option Int → Hp → VK → Prop := fun x lo hi H Q => ∃ a : List Nat, x = .str (S a) ∧ a.length ≤ 1000000 ∧ Q (.str (S (cutL a lo hi))) H
theorem sl_tx : SlR X rSlT2 := by
  intro pins s σ H x v vl vu lo hi sl Q I rx hs pl pu h
  obtain ⟨a, rfl, hz, q⟩ := h
  refine sl_str pins s σ H _ v vl vu lo hi sl Q I rx hs pl pu ⟨S a, rfl, ?_, ?_⟩
  · rw [SX.S_len]; unfold sizeLine; omega
  · have e : S (cutL a lo hi) = cutS (S a) lo hi := SX.S_tl _
    rw [← e]; exact q
theorem call_len_tx : CallR X (.builtin "len") (fun xs H Q => ∃ a : List Nat, xs = [.str (S a)] ∧ a.length ≤ 1000000 ∧ Q (.int a.length) H) := by
  intro pins s σ H xs us Q I r h
  obtain ⟨a, rfl, hz, q⟩ := h
  refine call_len_str pins s σ H _ us Q I r ⟨S a, rfl, ?_, ?_⟩
  · rw [SX.S_len]; unfold sizeLine; omega
  · rw [SX.S_len]; exact q
theorem mt_count_tx : MtR X "str.count" (fun x xs H Q => ∃ (a : List Nat) (c : Nat), x = .str (S a) ∧ xs = [.str (S [c])] ∧ Q (.int (a.count c)) H) := by
  intro pins s σ H x xs v us Q I rx rs h
  obtain ⟨a, c, rfl, rfl, q⟩ := h
  refine mt_count pins s σ H _ _ v us Q I rx rs ⟨S a, S [c], rfl, rfl, ?_⟩
  rw [count_S]; exact q
def rIxT2 : R2 := fun x y H Q => ∃ (a : List Nat) (i : Nat) (c : Nat), x = .str (S a) ∧ y = .int (i : Int) ∧ a.length ≤ 1000000 ∧ a[i]? = some c ∧ Q (.str (S [c])) H
theorem ix_tx : IxR X rIxT2 := by
  intro value slice pins s σ H x y v u Q I rx ry h hs
  obtain ⟨a, i, c, rfl, rfl, hz, hc, q⟩ := h
  exact ix_str value slice pins s σ H _ _ v u Q I rx ry ⟨S a, i, c, rfl, rfl, by rw [SX.S_len]; unfold sizeLine; omega, atI_nat hc, q⟩ hs
end
theorem b8000 {m : Int} (h : m.natAbs < 2 ^ 300) : m.natAbs < 2 ^ 8000 := Nat.lt_of_lt_of_le h (Nat.pow_le_pow_right (by decide) (by decide))
theorem b8k {m : Int} (h0 : 0 ≤ m) (h : m < 2 ^ 250) : m.natAbs < 2 ^ 8000 := Nat.lt_of_lt_of_le (show m.natAbs < 2 ^ 250 by omega) (Nat.pow_le_pow_right (by decide) (by decide))
theorem joinL_nil : ∀ ps : List (List Nat), TL.joinL [] ps = ps.flatten
  | [] => rfl
  | [p] => by simp [TL.joinL]
  | p :: q :: r => by
    have ih := joinL_nil (q :: r)
    rw [TL.joinL, ih]; simp
theorem abs_append (a b : List Nat) : abs (a ++ b) = (abs a && abs b) := by unfold abs; rw [List.all_append]
theorem abs_take {a : List Nat} (h : abs a = true) (n : Nat) : abs (a.take n) = true := by
  unfold abs at *
  exact List.all_eq_true.mpr fun x hx => List.all_eq_true.mp h x (List.mem_of_mem_take hx)
theorem abs_drop {a : List Nat} (h : abs a = true) (n : Nat) : abs (a.drop n) = true := by
  unfold abs at *
  exact List.all_eq_true.mpr fun x hx => List.all_eq_true.mp h x (List.mem_of_mem_drop hx)
theorem abs_rep {a : List Nat} (h : abs a = true) (n : Nat) : abs (repN n a) = true := by
  unfold abs at *
  exact List.all_eq_true.mpr fun x hx => List.all_eq_true.mp h x (mem_repN hx)
theorem abs_reverse (a : List Nat) : abs a.reverse = abs a := by unfold abs; rw [List.all_reverse]
theorem abs_flatten {ps : List (List Nat)} (h : ∀ p ∈ ps, abs p = true) : abs ps.flatten = true := by
  unfold abs at *
  refine List.all_eq_true.mpr fun x hx => ?_
  obtain ⟨p, hp, hx⟩ := List.mem_flatten.mp hx
  exact List.all_eq_true.mp (h p hp) x hx
theorem abs_get {a : List Nat} (h : abs a = true) {i c : Nat} (e : a[i]? = some c) : abs [c] = true := by
  unfold abs at *
  have := List.all_eq_true.mp h c (List.mem_of_getElem? e)
  simp only [List.all_cons, List.all_nil, Bool.and_true]; exact this
theorem len_flatten1 {ps : List (List Nat)} (h : ∀ p ∈ ps, p.length = 1) : ps.flatten.length = ps.length := by
  induction ps with
  | nil => rfl
  | cons p r ih =>
    rw [List.flatten_cons, List.length_append, ih fun q hq => h q (List.mem_cons_of_mem _ hq), h p List.mem_cons_self, List.length_cons]; omega

/-! data that can be shown -/
structure Fine (K : PySem.W.Frag) (H : Hp) (x : V) (d : PyData) : Prop where
  dx : Dx K H x d
  sh : d.showable = true
  lv : d.leavesShort 100 = true
  dp : d.depth ≤ 10
  wt : d.weight ≤ 4100
/-- no text -/
def NoStr (K : PySem.W.Frag) (H : Hp) (x : V) : Prop := ∃ t, TyX K H x t ∧ PySem.W.kitOne K t (.type "str") = some false
theorem noStr_ty {K : PySem.W.Frag} {H : Hp} {x : V} {T : String} (h : TyOf K H x (.type T)) (e : kitB T "str" = some false) : NoStr K H x := ⟨_, .base h, kit_ty e⟩
inductive Fines (K : PySem.W.Frag) (H : Hp) : List V → List PyData → Prop
  | nil : Fines K H [] []
  | cons {x : V} {d : PyData} {xs : List V} {ds : List PyData} : Fine K H x d → Fines K H xs ds → Fines K H (x :: xs) (d :: ds)
theorem Fines.append {K : PySem.W.Frag} {H : Hp} : ∀ {xs ys : List V} {ds es : List PyData}, Fines K H xs ds → Fines K H ys es → Fines K H (xs ++ ys) (ds ++ es)
  | _, _, _, _, .nil, b => b
  | _, _, _, _, .cons x a, b => .cons x (Fines.append a b)
theorem Fines.all {K : PySem.W.Frag} {H : Hp} : ∀ {xs : List V} {ds : List PyData}, Fines K H xs ds →
    DxAll K H xs ds ∧ PyData.showableAll ds = true ∧ PyData.leavesShortAll 100 ds = true ∧ PyData.depthAll ds ≤ 10 ∧ PyData.weightAll ds ≤ 4101 * xs.length
  | _, _, .nil => ⟨.nil, by simp [PyData.showableAll], by simp [PyData.leavesShortAll], by simp [PyData.depthAll], by simp [PyData.weightAll]⟩
  | _, _, .cons (x := x) (d := d) (xs := xs) (ds := ds) f r => by
    obtain ⟨h1, h2, h3, h4, h5⟩ := Fines.all r
    refine ⟨.cons f.dx h1, by simp [PyData.showableAll, f.sh, h2], by simp [PyData.leavesShortAll, f.lv, h3], ?_, ?_⟩
    · have := f.dp; simp only [PyData.depthAll]; omega
    · have := f.wt; simp only [PyData.weightAll, List.length_cons]; omega
mutual
theorem Dx.same {K : PySem.W.Frag} {H H' : Hp} (s : Same H H') : ∀ {d : PyData} {v : V}, Dx K H v d → Dx K H' v d
  | .none, _, h => by cases h; exact .non
  | .bool _, _, h => by cases h; exact .bl _
  | .int _, _, h => by cases h; exact .int _
  | .str _, _, h => by cases h; exact .str _
  | .list ds, _, h => by
    cases h with
    | lst a n r => exact .lst (s _ _ a) n (DxAll.same s r)
  | .tuple ds, _, h => by
    cases h with
    | tup a r => exact .tup (by
        rcases a with (a | ⟨o, a⟩) | a
        · exact .inl (.inl (s _ _ a))
        · exact .inl (.inr ⟨o, s _ _ a⟩)
        · exact .inr a) (DxAll.same s r)
  | .dict ds, _, h => by
    cases h with
    | dic a k v => exact .dic (s _ _ a) (DxKeys.same s k) (DxVals.same s v)
theorem DxAll.same {K : PySem.W.Frag} {H H' : Hp} (s : Same H H') : ∀ {ds : List PyData} {vs : List V}, DxAll K H vs ds → DxAll K H' vs ds
  | [], _, h => by cases h; exact .nil
  | d :: ds, _, h => by
    cases h with
    | cons a r => exact .cons (Dx.same s a) (DxAll.same s r)
theorem DxKeys.same {K : PySem.W.Frag} {H H' : Hp} (s : Same H H') : ∀ {ds : List (PyData × PyData)} {vs : List V}, DxAll K H vs (ds.map (·.1)) → DxAll K H' vs (ds.map (·.1))
  | [], _, h => by cases h; exact .nil
  | (d, _) :: ds, _, h => by
    cases h with
    | cons a r => exact .cons (Dx.same s a) (DxKeys.same s r)
theorem DxVals.same {K : PySem.W.Frag} {H H' : Hp} (s : Same H H') : ∀ {ds : List (PyData × PyData)} {vs : List V}, DxAll K H vs (ds.map (·.2)) → DxAll K H' vs (ds.map (·.2))
  | [], _, h => by cases h; exact .nil
  | (_, d) :: ds, _, h => by
    cases h with
    | cons a r => exact .cons (Dx.same s a) (DxVals.same s r)
end
theorem Fine.same {K : PySem.W.Frag} {H H' : Hp} {x : V} {d : PyData} (s : Same H H') (f : Fine K H x d) : Fine K H' x d := { f with dx := f.dx.same s }
theorem Fines.same {K : PySem.W.Frag} {H H' : Hp} (s : Same H H') : ∀ {xs : List V} {ds : List PyData}, Fines K H xs ds → Fines K H' xs ds
  | _, _, .nil => .nil
  | _, _, .cons f r => .cons (f.same s) (r.same s)
theorem fine_txt {K : PySem.W.Frag} {H : Hp} {a : List Nat} (h : ∀ c ∈ a, c < 1000) (hl : a.length ≤ 4100) : Fine K H (.str (S a)) (.str (S a)) := by
  refine ⟨.str _, by simp [PyData.showable], ?_, by simp [PyData.depth], ?_⟩
  · simp only [PyData.leavesShort, List.all_eq_true, decide_eq_true_eq]
    intro c hc
    have := h c hc
    have e : (16 : Nat) ^ 8 = 4294967296 := by decide
    omega
  · show (S a).cps.size ≤ 4100
    rw [show (S a).cps.size = a.length from SX.S_len a]; exact hl
theorem fine_signs {K : PySem.W.Frag} {H : Hp} : ∀ {a : List Nat}, (∀ c ∈ a, c < 1000) → ∃ ds, DxAll K H (sg a) ds ∧ PyData.showableAll ds = true ∧ PyData.leavesShortAll 100 ds = true ∧ PyData.depthAll ds = 0 ∧ PyData.weightAll ds = 2 * a.length
  | [], _ => ⟨[], .nil, by simp [PyData.showableAll], by simp [PyData.leavesShortAll], by simp [PyData.depthAll], by simp [PyData.weightAll]⟩
  | c :: r, h => by
    obtain ⟨ds, h1, h2, h3, h4, h5⟩ := fine_signs (K := K) (H := H) (a := r) fun x hx => h x (List.mem_cons_of_mem _ hx)
    have f := fine_txt (K := K) (H := H) (a := [c]) (fun x hx => h x (by rw [List.mem_singleton.mp hx]; exact List.mem_cons_self)) (by show 1 ≤ 4100; decide)
    refine ⟨.str (S [c]) :: ds, .cons f.dx h1, by simp [PyData.showableAll, f.sh, h2], by simp [PyData.leavesShortAll, f.lv, h3], by simp [PyData.depthAll, PyData.depth, h4], ?_⟩
    have e : (PyData.str (S [c])).weight = 1 := rfl
    simp only [PyData.weightAll, e, h5, List.length_cons]
    omega
theorem fine_lst {K : PySem.W.Frag} {H : Hp} {p : Addr} {xs : List V} {ds : List PyData} (e : H p = some (.lst xs)) (n : p ≠ sysModules) (h : DxAll K H xs ds) (s : PyData.showableAll ds = true) (l : PyData.leavesShortAll 100 ds = true) (d : PyData.depthAll ds ≤ 9) (w : PyData.weightAll ds ≤ 4099) :
    Fine K H (.ref p) (.list ds) := ⟨.lst e n h, by simpa [PyData.showable] using s, by simpa [PyData.leavesShort] using l, by simp only [PyData.depth]; omega, by simp only [PyData.weight]; omega⟩
theorem fine_tup {K : PySem.W.Frag} {H : Hp} {p : Addr} {xs : List V} {ds : List PyData} (e : H p = some (.tup xs)) (h : DxAll K H xs ds) (s : PyData.showableAll ds = true) (l : PyData.leavesShortAll 100 ds = true) (d : PyData.depthAll ds ≤ 9) (w : PyData.weightAll ds ≤ 4099) :
    Fine K H (.ref p) (.tuple ds) := ⟨.tup (SqT.of e) h, by simpa [PyData.showable] using s, by simpa [PyData.leavesShort] using l, by simp only [PyData.depth]; omega, by simp only [PyData.weight]; omega⟩
/-- what is no row -/
def BadRow (K : PySem.W.Frag) (H : Hp) (x : V) : Prop := (∃ a : List Nat, x = .str (S a) ∧ a.length ≤ 100000 ∧ rowB a = false) ∨ NoStr K H x
/-- a new list of values that are no rows -/
def spNoRows (K : PySem.W.Frag) : Sp := fun vs H Q _ => ∃ (r : Addr) (a : List Nat), vs = [.ref r, .str (S a)] ∧ Reel H r ∧ a.length ≤ 200 ∧ abs a = true ∧
  ∀ (b : Addr) (xs : List V) (ds : List PyData) (H' : Hp), Step r H H' → Reel H' r → H b = none → H' b = some (.lst xs) → b ≠ sysModules → Fines K H' xs ds → (∀ x ∈ xs, BadRow K H' x) → xs.length = 28 → Q (.ref b) H'

theorem abs_lt {a : List Nat} (h : abs a = true) : ∀ c ∈ a, c < 1000 := fun c hc => by
  have := List.all_eq_true.mp h c hc
  simp only [Bool.or_eq_true, beq_iff_eq] at this
  omega
theorem not_abs {a : List Nat} {c : Nat} (hc : c ∈ a) (h1 : c ≠ 97) (h2 : c ≠ 98) : rowB a = false := by
  unfold rowB
  cases e : abs a with
  | false => exact Bool.and_false _
  | true =>
    have := List.all_eq_true.mp e c hc
    simp only [Bool.or_eq_true, beq_iff_eq] at this
    omega
theorem rowB_long {a : List Nat} (h : 200 < a.length) : rowB a = false := by unfold rowB; rw [decide_eq_false (by omega), Bool.false_and]
def mix (a : List Nat) (j c : Nat) : List Nat := a.take j ++ [c] ++ a.drop (j + 1)
theorem mix_len (a : List Nat) (j c : Nat) (h : a.length ≤ 200) : (mix a j c).length ≤ 201 := by
  unfold mix; rw [List.length_append, List.length_append, List.length_take, List.length_drop]; show min j a.length + 1 + _ ≤ _; omega
theorem mix_lt {a : List Nat} (h : abs a = true) (j c : Nat) (hc : c < 1000) : ∀ x ∈ mix a j c, x < 1000 := by
  intro x hx
  unfold mix at hx
  rcases List.mem_append.mp hx with hx | hx
  · rcases List.mem_append.mp hx with hx | hx
    · exact abs_lt h x (List.mem_of_mem_take hx)
    · rw [List.mem_singleton.mp hx]; exact hc
  · exact abs_lt h x (List.mem_of_mem_drop hx)
theorem mix_mem (a : List Nat) (j c : Nat) : c ∈ mix a j c := List.mem_append_left _ (List.mem_append_right _ List.mem_cons_self)
theorem fines_mix {K : PySem.W.Frag} {H : Hp} {a : List Nat} (h : abs a = true) (hl : a.length ≤ 200) (j : Nat) : ∀ {cs : List Nat}, (∀ c ∈ cs, c < 1000) → Fines K H (cs.map fun c => V.str (S (mix a j c))) (cs.map fun c => PyData.str (S (mix a j c)))
  | [], _ => .nil
  | c :: r, hc => .cons (fine_txt (mix_lt h j c (hc c List.mem_cons_self)) (by have := mix_len a j c hl; omega)) (fines_mix h hl j fun x hx => hc x (List.mem_cons_of_mem _ hx))

/-- a comprehension over a text -/
theorem lc_txt {a : List Nat} {g : TG} {tt : TT} {te : TE} {vs : List Nat} {σ : L2.St} {H1 : Hp} {D : Addr} {Qd : Hp → Prop} (Pv : Nat → Hp → Prop) (h0 : Pv 0 (upd H1 D (.lst [])))
    (hs : ∀ i c H, a[i]? = some c → Pv i H → g (.str (S [c])) (wipe σ vs) H fun σ2 H2 => wipe σ2 vs = wipe σ vs ∧ tt σ2 H2 fun b H3 =>
      if b = true then te σ2 H3 fun y H4 => ∃ acc, H4 D = some (.lst acc) ∧ acc.length < sizeLine ∧ Pv (i + 1) (upd H4 D (.lst (acc ++ [y]))) else Pv (i + 1) H3) (hd : ∀ H, Pv a.length H → Qd H) :
    ∃ W : Nat → Nat → Hp → Prop, (∃ m, W 0 m (upd H1 D (.lst []))) ∧ ∀ i m H, W i m H →
      ((Its (S a)).stop i H ∧ Qd H) ∨ ((Its (S a)).go i H ∧ ∃ Nx : Hp → Prop, (∀ H', Nx H' → ∃ m', m' < m ∧ W (i + 1) m' H') ∧ ∀ x H', (Its (S a)).yld i H x H' → g x (wipe σ vs) H' fun σ2 H2 => wipe σ2 vs = wipe σ vs ∧ tt σ2 H2 fun b H3 =>
        if b = true then te σ2 H3 fun y H4 => ∃ acc, H4 D = some (.lst acc) ∧ acc.length < sizeLine ∧ Nx (upd H4 D (.lst (acc ++ [y]))) else Nx H3) := by
  refine ⟨fun i m H => m = a.length - i ∧ i ≤ a.length ∧ Pv i H, ⟨a.length, by omega, Nat.zero_le _, h0⟩, ?_⟩
  rintro i m H ⟨rfl, hi, p⟩
  have sz : (S a).cps.size = a.length := SX.S_len a
  by_cases hlt : i < a.length
  · refine .inr ⟨(show i < (S a).cps.size by omega), Pv (i + 1), fun H' p' => ⟨a.length - (i + 1), by omega, rfl, hlt, p'⟩, fun x H' y => ?_⟩
    obtain ⟨e, c, hc, ex⟩ := y
    subst e ex
    have hc' : a[i]? = some c := by
      have : (S a).cps[i]? = a[i]? := List.getElem?_toArray ..
      rw [← this]; exact hc
    exact hs i c _ hc' p
  · have e : i = a.length := by omega
    subst e
    exact .inl ⟨(show (S a).cps.size ≤ a.length by omega), hd _ p⟩
theorem ne_nil {K : PySem.W.Frag} {H : Hp} {D e : Addr} (h1 : H D = some (.lst [])) (h2 : H e = some (.lst [])) {Q : V → Prop} (q : Q (.bl false)) : ∃ d e', Dp K H (.ref D) d ∧ Dp K H (.ref e) e' ∧ SeqAt.shaped d = true ∧ SeqAt.shaped e' = true ∧ Q (.bl (!PyData.eqv d e')) :=
  ⟨.list [], .list [], .lst (SqL.of h1) .nil, .lst (SqL.of h2) .nil, shaped_nil, shaped_nil, by rw [eqv_nil]; exact q⟩
theorem rep_data {K : PySem.W.Frag} {H : Hp} {p : Addr} {xs : List V} {ds : List PyData} (e : H p = some (.lst xs)) (n : p ≠ sysModules) (f : Fines K H xs ds) (l : xs.length ≤ 60) :
    Dx K H (.ref p) (.list ds) ∧ (PyData.list ds).showable = true ∧ (PyData.list ds).leavesShort 100 = true ∧ (PyData.list ds).depth ≤ 11 ∧ (PyData.list ds).weight ≤ 4101 * xs.length := by
  obtain ⟨h1, h2, h3, h4, h5⟩ := f.all
  exact ⟨.lst e n h1, by simpa [PyData.showable] using h2, by simpa [PyData.leavesShort] using h3, by simp only [PyData.depth]; omega, by simp only [PyData.weight]; omega⟩
theorem rep_two {K : PySem.W.Frag} {H : Hp} {p q r : Addr} {xs ys : List V} {ds es : List PyData} (e : H p = some (.lst xs)) (n : p ≠ sysModules) (f : Fines K H xs ds) (l : xs.length ≤ 6) (e2 : H q = some (.lst ys)) (n2 : q ≠ sysModules) (f2 : Fines K H ys es) (l2 : ys.length ≤ 28)
    (e3 : H r = some (.lst [.ref p, .ref q])) (n3 : r ≠ sysModules) :
    Dx K H (.ref r) (.list [.list ds, .list es]) ∧ (PyData.list [.list ds, .list es]).showable = true ∧ (PyData.list [.list ds, .list es]).shown.length ≤ sizeLine ∧ (PyData.list [.list ds, .list es]).depth ≤ 50 := by
  obtain ⟨a1, a2, a3, a4, a5⟩ := rep_data e n f (by omega)
  obtain ⟨b1, b2, b3, b4, b5⟩ := rep_data e2 n2 f2 (by omega)
  refine ⟨.lst e3 n3 (.cons a1 (.cons b1 .nil)), ?_, ?_, ?_⟩
  · simp only [PyData.showable, PyData.showableAll] at a2 b2 ⊢
    rw [a2, b2]; rfl
  · have h := PyData.shown_le 100 (by decide) (.list [.list ds, .list es]) (by simp only [PyData.leavesShort, PyData.leavesShortAll] at a3 b3 ⊢; rw [a3, b3]; rfl)
    have hw : (PyData.list [.list ds, .list es]).weight = (PyData.list ds).weight + 1 + ((PyData.list es).weight + 1 + 0) := by simp only [PyData.weight, PyData.weightAll]
    rw [hw] at h
    unfold sizeLine
    omega
  · have hd : (PyData.list [.list ds, .list es]).depth = max (PyData.list ds).depth (max (PyData.list es).depth 0) + 1 := by simp only [PyData.depth, PyData.depthAll]
    rw [hd]; omega

theorem fines_txts {K : PySem.W.Frag} {H : Hp} : ∀ {gl : List (List Nat)}, (∀ g ∈ gl, abs g = true ∧ g.length ≤ 200) → Fines K H (gl.map fun g => V.str (S g)) (gl.map fun g => PyData.str (S g))
  | [], _ => .nil
  | g :: r, h => .cons (fine_txt (abs_lt (h g List.mem_cons_self).1) (by have := (h g List.mem_cons_self).2; omega)) (fines_txts fun x hx => h x (List.mem_cons_of_mem _ hx))
theorem rowB_of {g : List Nat} (h : abs g = true ∧ g.length ≤ 200) : rowB g = true := by unfold rowB; rw [decide_eq_true h.2, h.1]; rfl

theorem tyOf_same {K : PySem.W.Frag} {H H' : Hp} (s : Same H H') {x : V} {t : Value} (h : TyOf K H x t) : TyOf K H' x t := by
  cases h with
  | non => exact .non
  | bl x => exact .bl x
  | int i => exact .int i
  | str x => exact .str x
  | flt x => exact .flt x
  | lst e => exact .lst (s _ _ e)
  | frz e => exact .frz (s _ _ e)
  | tup e => exact .tup (s _ _ e)
  | dK e => exact .dK (s _ _ e)
  | dT e => exact .dT (s _ _ e)
  | ins e cl ha hn htk hm => exact .ins (s _ _ e) cl ha hn htk hm
theorem tyX_same {K : PySem.W.Frag} {H H' : Hp} (s : Same H H') {x : V} {t : Value} (h : TyX K H x t) : TyX K H' x t := by
  cases h with
  | base h => exact .base (tyOf_same s h)
  | byt b => exact .byt b
  | set e => exact .set (s _ _ e)
  | kList e c => exact .kList e c
  | kTuple e c => exact .kTuple e c
  | kDict e c => exact .kDict e c
  | fTuple e => exact .fTuple (s _ _ e)
  | fDict e => exact .fDict (s _ _ e)
theorem BadRow.same {K : PySem.W.Frag} {H H' : Hp} (s : Same H H') {x : V} (h : BadRow K H x) : BadRow K H' x := by
  rcases h with h | ⟨t, h1, h2⟩
  · exact .inl h
  · exact .inr ⟨t, tyX_same s h1, h2⟩
end Vx
namespace Vx
open PySem PySem.Spec PyProof.Rows L2
/-! zip of a list and a text -/
def Itlt (K : PySem.W.Frag) (a : Addr) (x : Str) : It :=
  ⟨fun i H => ∃ xs, SqL K H a xs ∧ i < xs.length ∧ i < x.cps.size,
    fun i H v H' => ∃ T y c, v = .ref T ∧ H T = none ∧ H' = upd H T (.tup [y, .str ⟨#[c]⟩]) ∧ (∀ xs, SqL K H a xs → xs[i]? = some y) ∧ x.cps[i]? = some c,
    fun i H => ∃ xs, SqL K H a xs ∧ i ≤ xs.length ∧ i ≤ x.cps.size ∧ (i = xs.length ∨ i = x.cps.size)⟩
theorem turn_zipLT {P : Program} {w : World} {K : PySem.W.Frag} {elts : List Expr} {kk : Nat} {tpos : Pos} {a z TI TO i1 i2 : Addr} {x : Str} {t : Tok} (S : ZipSep2 z TI TO i1 i2 [i1, a] [i2]) (ne : a ≠ i1) :
    Turn P w K (.Tuple elts kk tpos) (Itlt K a x) [z, TI, TO, i1, i2] z (fun i h => IsZip h z TI TO .none ∧ IsTupOf2 h TI (.ref i1) (.ref i2) ∧ (∃ u v, IsTupOf2 h TO u v) ∧ h.IsListIter i1 a i ∧ h.IsStrIter i2 (strIterType x) x t i) where
  mem := by simp
  obj := fun i h st c hc => by
    obtain ⟨hz, hTI, ⟨u, v, hTO⟩, ⟨o1, e1, _, d1⟩, ⟨o2, e2, _, d2⟩⟩ := st
    simp only [List.mem_cons, List.not_mem_nil, or_false] at hc
    rcases hc with rfl | rfl | rfl | rfl | rfl
    · exact ⟨_, hz, fun v q => nomatch q⟩
    · exact ⟨_, hTI, fun v q => nomatch q⟩
    · exact ⟨_, hTO, fun v q => nomatch q⟩
    · exact ⟨o1, e1, fun v q => by rw [d1] at q; cases q⟩
    · exact ⟨o2, e2, fun v q => by rw [d2] at q; cases q⟩
  keep := fun i h h' st k => by
    obtain ⟨hz, hTI, ⟨u, v, hTO⟩, h1, ⟨o2, e2, r2⟩⟩ := st
    exact ⟨k z (by simp) _ hz, k TI (by simp) _ hTI, ⟨u, v, k TO (by simp) _ hTO⟩, h1.at fun o q => k i1 (by simp) o q, ⟨o2, k i2 (by simp) o2 e2, r2⟩⟩
  item := by
    intro X hP hw hK hc i pins s σ H E I hf st hg
    subst hP hw hK
    obtain ⟨hz, hTI, ⟨u0, v0, hTO⟩, h1, h2⟩ := st
    obtain ⟨xs, hq, hi, hi2⟩ := hg
    obtain ⟨its, rv, p, _⟩ := I.list hq
    have many := rv.length
    have hzl : z < s.heap.objs.size := Heap.lt_size hz
    have calm : X.A.in1.handled = none := I.ok.hd hc
    refine wpAny_pyNext_zipD2_item S (Draws.list calm i1 a ne its.toArray) (Draws.text calm i2 x t) hz hTI hTO ⟨h1, p.isList⟩ h2 (by simp only [List.size_toArray]; omega) hi2 ?_
    rintro x1 x2 h' tk hx1 ⟨c, tc, hcx, rfl⟩ z' TO' ⟨h1', _⟩ h2' hT hsz hk
    refine ⟨_, rfl, wpAny_letOwnedTupleGo_zip (s := { s with heap := h', toks := tk }) z' fun h'' z'' sb => ?_⟩
    have gx : xs[i]? = some xs[i] := List.getElem?_eq_getElem hi
    obtain ⟨u, hu, ru⟩ := rv.get gx
    obtain rfl : x1 = u := by
      have e : its[i]? = some x1 := by simpa using hx1
      rw [hu] at e; exact (Option.some.inj e).symm
    have hT2 : h''.get? s.heap.objs.size = some { cls := .type "tuple", data := .seq #[x1, .str ⟨#[c]⟩ tc] } := (sb.2 _ (Nat.ne_of_gt hzl)).trans hT
    have new : ObjOk X.prog X.w (upd H s.heap.objs.size (.tup [xs[i], .str ⟨#[c]⟩])) h'' s.heap.objs.size (.tup [xs[i], .str ⟨#[c]⟩]) :=
      ⟨by show 2 ≤ sizeLine; decide, [x1, .str ⟨#[c]⟩ tc], .cons ru (.cons ⟨tc, rfl⟩ .nil), ⟨_, hT2, rfl, _, rfl⟩⟩
    have I1 : Inv X pins σ (upd H s.heap.objs.size (.tup [xs[i], .str ⟨#[c]⟩])) { s with heap := h'', toks := tk } :=
      I.turnedNew (t' := tk) (ch := [z, TI, TO, i1, i2]) (fun d o hb q => by
        simp only [List.mem_cons, List.not_mem_nil, or_false, not_or] at hb
        obtain ⟨b1, b2, b3, b4, b5⟩ := hb
        exact (sb.2 d b1).trans (hk d o b1 b3 b4 b5 q)) hf (Nat.le_refl _) new
    refine ⟨.ref s.heap.objs.size, _, I1, rfl, ⟨_, xs[i], c, rfl, I.hok.fresh (Nat.le_refl _), rfl, fun l hl => by rw [I.list_inj hl hq]; exact gx, hcx⟩, ⟨z'', ?_, ⟨x1, .str ⟨#[c]⟩ tc, ?_⟩, ?_, ?_⟩, fun d hd => ?_⟩
    · exact (sb.2 _ S.TIz).trans (hk _ _ S.TIz S.TITO S.TIi1 S.TIi2 hTI)
    · exact (sb.2 _ S.TOz).trans TO'
    · exact h1'.at fun o q => (sb.2 _ S.zi1.symm).trans q
    · obtain ⟨o2, e2, r2⟩ := h2'
      exact ⟨o2, (sb.2 _ S.zi2.symm).trans e2, r2⟩
    · have below : d < s.heap.objs.size := by
        simp only [List.mem_cons, List.not_mem_nil, or_false] at hd
        rcases hd with rfl | rfl | rfl | rfl | rfl
        · exact hzl
        · exact Heap.lt_size hTI
        · exact Heap.lt_size hTO
        · obtain ⟨_, e, _⟩ := h1; exact Heap.lt_size e
        · obtain ⟨_, e, _⟩ := h2; exact Heap.lt_size e
      rw [upd_ne (Nat.ne_of_lt below)]
      exact (hf d hd).1
  done := by
    intro X hP hw hK hc i pins s σ H E I hf st hg
    subst hP hw hK
    obtain ⟨hz, hTI, ⟨u0, v0, hTO⟩, h1, h2⟩ := st
    obtain ⟨xs, hq, l1, l2, hend⟩ := hg
    obtain ⟨its, rv, p, _⟩ := I.list hq
    have many := rv.length
    have calm : X.A.in1.handled = none := I.ok.hd hc
    refine wpAny_pyNext_zipD2_end S (Draws.list calm i1 a ne its.toArray) (Draws.text calm i2 x t) hz hTI hTO ⟨h1, p.isList⟩ h2 (by simp only [List.size_toArray]; omega) l2 (by simp only [List.size_toArray]; omega) ?_
    intro h' tk hk
    exact ⟨rfl, I.turnedL (t' := tk) (ch := [z, TI, TO, i1, i2]) (fun d o hb q => by
      simp only [List.mem_cons, List.not_mem_nil, or_false, not_or] at hb
      obtain ⟨b1, b2, b3, b4, b5⟩ := hb
      exact hk d o b1 b3 b4 b5 q) hf⟩
  self := fun A i s Q E st h => wpAny_pyIter_zip st.1 h
def iZipLT (K : PySem.W.Frag) (ta : TA) : TI := fun σ H R => ta σ H fun vs H1 => ∃ a xs x, vs = [.ref a, .str x] ∧ SqL K H1 a xs ∧ R (Itlt K a x) H1
theorem pi_zipLT {X : Cx} {e e2 : Expr} {ta : TA} {p pos tpos : Pos} {elts : List Expr} {kk : Nat} (hg : Gl X "zip") (hm : X.mg "zip" = none) (ha : PA X [e, e2] ta)
    (hs : starEach [e, e2] X.env = (false, eval e X.env) :: starEach [e2] X.env := by rfl) (hpl : (backTo pos (starEach [e2] X.env)).any (·.1) = false := by rfl) :
    PI X (.Tuple elts kk tpos) (.Call (.Name "zip" p) [e, e2] [] pos) (iZipLT X.K ta) := by
  constructor
  intro pins s σ H R I h
  refine Call_ (ld_blt I hg hm PyProof.Rows.boot_zip (PyProof.Rows.callWith_type1 (thn (ha.run pos pins s σ H _ I h) ?_) hs hpl))
  rintro us s1 ⟨vs, H1, I1, r1, a, xs, x, rfl, hq, q⟩
  obtain ⟨u1, u2, rfl, r1, r2⟩ := vals2 r1
  cases r1
  obtain ⟨t, rfl⟩ := r2
  obtain ⟨its, rv, p1, _⟩ := I1.list hq
  have la : a < s1.heap.objs.size := p1.lt
  refine zip_begins2 (begins_list a its.toArray) (begins_text x t) p1.isList trivial fun h' hz hTI hTO g1 g2 hsz hk => wpAny_pyIter_zip hz ?_
  have I2 : Inv X pins σ H1 { s1 with heap := h' } := I1.kept (t' := s1.toks) hk
  have sep := zip_sep2 (N := s1.heap.objs.size) (fp1 := [a]) (fp2 := []) (fun b hb => by rw [List.mem_singleton.mp hb]; exact la) (fun b hb => nomatch hb)
  refine ⟨s1.heap.objs.size + 4, [s1.heap.objs.size + 4, s1.heap.objs.size + 2, s1.heap.objs.size + 3, s1.heap.objs.size, s1.heap.objs.size + 1], _, _, H1, rfl, I2, turn_zipLT (t := t) sep (Nat.ne_of_lt la), ⟨hz, hTI, ⟨_, _, hTO⟩, ⟨_, g1, rfl, rfl⟩, ⟨_, g2, rfl, rfl⟩⟩, fun c hc => ?_, q⟩
  have above : s1.heap.objs.size ≤ c := by
    simp only [List.mem_cons, List.not_mem_nil, or_false] at hc
    rcases hc with z | z | z | z | z
    · rw [z]; exact Nat.le_add_right _ _
    · rw [z]; exact Nat.le_add_right _ _
    · rw [z]; exact Nat.le_add_right _ _
    · rw [z]; exact Nat.le_refl _
    · rw [z]; exact Nat.le_add_right _ _
  exact I1.fpOk above (I1.hok.fresh above)
/-- a comprehension over a zip of a list and a text of one length -/
theorem lc_zipLT {K : PySem.W.Frag} {a : Addr} {xs : List V} {cs : List Nat} {g : TG} {tt : TT} {te : TE} {vs : List Nat} {σ : L2.St} {H1 : Hp} {D : Addr} {Qd : Hp → Prop} (m : Nat) (hm : m ≤ xs.length ∧ m ≤ cs.length ∧ (m = xs.length ∨ m = cs.length)) (Pv : Nat → Hp → Prop) (h0 : Pv 0 (upd H1 D (.lst [])))
    (hl : ∀ i H, i ≤ m → Pv i H → SqL K H a xs)
    (hs : ∀ i y c T H, xs[i]? = some y → cs[i]? = some c → Pv i H → H T = none → g (.ref T) (wipe σ vs) (upd H T (.tup [y, .str (S [c])])) fun σ2 H2 => wipe σ2 vs = wipe σ vs ∧ tt σ2 H2 fun b H3 =>
      if b = true then te σ2 H3 fun y H4 => ∃ acc, H4 D = some (.lst acc) ∧ acc.length < sizeLine ∧ Pv (i + 1) (upd H4 D (.lst (acc ++ [y]))) else Pv (i + 1) H3) (hd : ∀ H, Pv m H → Qd H) :
    ∃ W : Nat → Nat → Hp → Prop, (∃ m, W 0 m (upd H1 D (.lst []))) ∧ ∀ i m H, W i m H →
      ((Itlt K a (S cs)).stop i H ∧ Qd H) ∨ ((Itlt K a (S cs)).go i H ∧ ∃ Nx : Hp → Prop, (∀ H', Nx H' → ∃ m', m' < m ∧ W (i + 1) m' H') ∧ ∀ x H', (Itlt K a (S cs)).yld i H x H' → g x (wipe σ vs) H' fun σ2 H2 => wipe σ2 vs = wipe σ vs ∧ tt σ2 H2 fun b H3 =>
        if b = true then te σ2 H3 fun y H4 => ∃ acc, H4 D = some (.lst acc) ∧ acc.length < sizeLine ∧ Nx (upd H4 D (.lst (acc ++ [y]))) else Nx H3) := by
  have sz : (S cs).cps.size = cs.length := SX.S_len cs
  refine ⟨fun i k H => k = m - i ∧ i ≤ m ∧ Pv i H, ⟨m, by omega, Nat.zero_le _, h0⟩, ?_⟩
  rintro i k H ⟨rfl, hi, p⟩
  have q := hl i H hi p
  by_cases hlt : i < m
  · refine .inr ⟨⟨xs, q, by omega, by omega⟩, Pv (i + 1), fun H' p' => ⟨m - (i + 1), by omega, rfl, hlt, p'⟩, fun x H' y => ?_⟩
    obtain ⟨T, y, c, rfl, nT, rfl, hy, hc⟩ := y
    have hc' : cs[i]? = some c := by
      have : (S cs).cps[i]? = cs[i]? := List.getElem?_toArray ..
      rw [← this]; exact hc
    exact hs i y c T H (hy xs q) hc' p nT
  · have e : i = m := by omega
    subst e
    exact .inl ⟨⟨xs, q, hm.1, by omega, by omega⟩, hd _ p⟩
end Vx
namespace Vx
open PySem PySem.Spec PyProof.Rows L2
/-! enumerate over a text -/
def Itet (x : Str) : It :=
  ⟨fun i H => i < x.cps.size, fun i H v H' => ∃ T c, v = .ref T ∧ H T = none ∧ H' = upd H T (.tup [.int (i : Nat), .str ⟨#[c]⟩]) ∧ x.cps[i]? = some c, fun i H => i = x.cps.size⟩
theorem turn_enumT {P : Program} {w : World} {K : PySem.W.Frag} {elts : List Expr} {kk : Nat} {tpos : Pos} {x : Str} {t : Tok} (e it : Addr) (ne : e ≠ it) :
    Turn P w K (.Tuple elts kk tpos) (Itet x) [e, it] e (fun i h => (∃ old, IsEnum h e it ((i : Nat) : Int) old) ∧ h.IsStrIter it (strIterType x) x t i) where
  mem := by simp
  obj := fun i h st b hb => by
    obtain ⟨⟨old, he⟩, ⟨o, ho, hc, hd⟩⟩ := st
    have e' : b = e ∨ b = it := by simpa using hb
    rcases e' with z | z
    · rw [z]; exact ⟨_, he, fun v q => nomatch q⟩
    · rw [z]; exact ⟨o, ho, fun v q => by rw [hd] at q; cases q⟩
  keep := fun i h h' st k => let ⟨⟨old, he⟩, o, ho, r⟩ := st; ⟨⟨old, k e (by simp) _ he⟩, ⟨o, k it (by simp) o ho, r⟩⟩
  item := by
    intro X hP hw hK hc i pins s σ H E I hf st hg
    subst hP hw hK
    obtain ⟨⟨old, he⟩, hit⟩ := st
    have calm : X.A.in1.handled = none := I.ok.hd hc
    have hel : e < s.heap.objs.size := Heap.lt_size he
    have hil : it < s.heap.objs.size := by obtain ⟨_, q, _⟩ := hit; exact Heap.lt_size q
    refine wpAny_pyNext_enum_itemD (Draws.text calm it x t) he hit hg ne (fun z => ne (List.mem_singleton.mp z)) ?_
    rintro u h' tk ⟨c, tc, hcx, rfl⟩ ho hit' hT hsz hk
    refine ⟨_, rfl, wpAny_letOwnedTupleGo_enum (s := { s with heap := h', toks := tk + 1 }) ho fun h'' he' sb => ?_⟩
    have hT2 : h''.get? s.heap.objs.size = some { cls := .type "tuple", data := .seq #[.int i tk, .str ⟨#[c]⟩ tc] } := (sb.2 _ (Nat.ne_of_gt hel)).trans hT
    have new : ObjOk X.prog X.w (upd H s.heap.objs.size (.tup [.int (i : Nat), .str ⟨#[c]⟩])) h'' s.heap.objs.size (.tup [.int (i : Nat), .str ⟨#[c]⟩]) :=
      ⟨by show 2 ≤ sizeLine; decide, [.int i tk, .str ⟨#[c]⟩ tc], .cons ⟨_, rfl⟩ (.cons ⟨_, rfl⟩ .nil), ⟨_, hT2, rfl, _, rfl⟩⟩
    have I1 : Inv X pins σ (upd H s.heap.objs.size (.tup [.int (i : Nat), .str ⟨#[c]⟩])) { s with heap := h'', toks := tk + 1 } :=
      I.turnedNew (t' := tk + 1) (ch := [e, it]) (fun b ob hb q => (sb.2 b (fun z => hb (by simp [z]))).trans (hk b ob (fun z => hb (by simp [z])) (fun z => hb (by simp [z])) q)) hf (Nat.le_refl _) new
    refine ⟨.ref s.heap.objs.size, _, I1, rfl, ⟨_, c, rfl, I.hok.fresh (Nat.le_refl _), rfl, hcx⟩, ⟨⟨.str ⟨#[c]⟩ tc, ?_⟩, ?_⟩, fun b hb => ?_⟩
    · have e1 : ((i + 1 : Nat) : Int) = (i : Int) + 1 := by omega
      rw [e1]; exact he'
    · obtain ⟨o2, e2, r2⟩ := hit'
      exact ⟨o2, (sb.2 it (Ne.symm ne)).trans e2, r2⟩
    · have hb' : b < s.heap.objs.size := by
        have e' : b = e ∨ b = it := by simpa using hb
        rcases e' with z | z
        · rw [z]; exact hel
        · rw [z]; exact hil
      rw [upd_ne (Nat.ne_of_lt hb')]
      exact (hf b hb).1
  done := by
    intro X hP hw hK hc i pins s σ H E I hf st hg
    subst hP hw hK
    obtain ⟨⟨old, he⟩, hit⟩ := st
    have calm : X.A.in1.handled = none := I.ok.hd hc
    have hg' : i = x.cps.size := hg
    subst hg'
    obtain ⟨f0, f1, f2, f3, f4, f5⟩ := hf it (by simp)
    exact wpAny_pyNext_enum_endD (Draws.text calm it x t) he hit fun h' eb => ⟨rfl, I.turned (t' := s.toks) (fun b o hb q => eb b o hb q) f0 f1 f3 f4 f5⟩
  self := fun A i s Q E st h => let ⟨⟨_, he⟩, _⟩ := st; wpAny_pyIter_enum he h
def iEnumT (ta : TA) : TI := fun σ H R => ta σ H fun vs H1 => ∃ x, vs = [.str x] ∧ R (Itet x) H1
theorem pi_enumT {X : Cx} {e : Expr} {ta : TA} {p pos tpos : Pos} {elts : List Expr} {kk : Nat} (hg : Gl X "enumerate") (hm : X.mg "enumerate" = none) (ha : PA X [e] ta) (hs : starEach [e] X.env = [(false, eval e X.env)] := by rfl) :
    PI X (.Tuple elts kk tpos) (.Call (.Name "enumerate" p) [e] [] pos) (iEnumT ta) := by
  refine ⟨fun pins s σ H R I h => ?_⟩
  refine Call_ (ld_blt I hg hm boot_enumerate (PyProof.Rows.callWith_type1 (thn (ha.run pos pins s σ H _ I h) fun us s1 ⟨vs, H1, I1, r1, q1⟩ => ?_) hs rfl))
  obtain ⟨x, rfl, q⟩ := q1
  obtain ⟨u, rfl, r⟩ := vals1 r1
  obtain ⟨t, rfl⟩ := r
  refine call_enumerate_str fun h' he hit hsz hk => wpAny_pyIter_enum he ?_
  have I2 : Inv X pins σ H1 { s1 with heap := h' } := I1.kept (t' := s1.toks) hk
  refine ⟨s1.heap.objs.size + 1, [s1.heap.objs.size + 1, s1.heap.objs.size], _, _, H1, rfl, I2, turn_enumT (t := t) (s1.heap.objs.size + 1) s1.heap.objs.size (Nat.succ_ne_self _), ⟨⟨.none, he⟩, hit⟩, fun b hb => ?_, q⟩
  have e' : b = s1.heap.objs.size + 1 ∨ b = s1.heap.objs.size := by simpa using hb
  have hle : s1.heap.objs.size ≤ b := by
    rcases e' with z | z
    · rw [z]; exact Nat.le_add_right _ _
    · rw [z]; exact Nat.le_refl _
  exact I1.fpOk hle (I1.hok.fresh hle)
theorem walk_enumT (a : List Nat) : Walk (Itet (S a)) a.length (fun _ => True) (fun i H v H' => ∃ T c, v = .ref T ∧ H T = none ∧ H' = upd H T (.tup [.int (i : Nat), .str (S [c])]) ∧ a[i]? = some c) where
  goes := fun i H hi _ => show i < (S a).cps.size by rw [show (S a).cps.size = a.length from SX.S_len a]; exact hi
  stops := fun H _ => show a.length = (S a).cps.size from (SX.S_len a).symm
  yields := fun i H x H' _ _ y => by
    obtain ⟨T, c, rfl, h, rfl, hc⟩ := y
    exact ⟨T, c, rfl, h, rfl, by rw [← hc]; exact (List.getElem?_toArray ..).symm⟩
theorem walk_txt (a : List Nat) : Walk (Its (S a)) a.length (fun _ => True) (fun i H v H' => H' = H ∧ ∃ c, v = .str (S [c]) ∧ a[i]? = some c) where
  goes := fun i H hi _ => show i < (S a).cps.size by rw [show (S a).cps.size = a.length from SX.S_len a]; exact hi
  stops := fun H _ => show (S a).cps.size ≤ a.length from Nat.le_of_eq (SX.S_len a)
  yields := fun i H x H' _ _ y => by
    obtain ⟨e, c, hc, ex⟩ := y
    subst e ex
    exact ⟨rfl, c, rfl, by rw [← hc]; exact (List.getElem?_toArray ..).symm⟩
/-! rules that name the new heap by an equation -/
section
variable {X : Cx} {es : List Expr} {pos : Pos} {t : TA}
def rAppendQ : V → List V → Hp → VK → Prop := fun x vs H Q => ∃ l xs y, x = .ref l ∧ vs = [y] ∧ H l = some (.lst xs) ∧ xs.length < sizeLine ∧ ∀ H', H' = upd H l (.lst (xs ++ [y])) → Q .non H'
theorem mtq_append : MtM X "list.append" rAppendQ := by
  intro pins s σ H x vs v us Q I rx rv h
  obtain ⟨l, xs, y, h1, h2, h3, h4, q⟩ := h
  exact mt_append pins s σ H x vs v us Q I rx rv ⟨l, xs, y, h1, h2, h3, h4, q _ rfl⟩
def rReverseQ : V → List V → Hp → VK → Prop := fun x vs H Q => ∃ l xs, x = .ref l ∧ vs = [] ∧ H l = some (.lst xs) ∧ ∀ H', H' = upd H l (.lst xs.reverse) → Q .non H'
theorem mtq_reverse : MtM X "list.reverse" rReverseQ := by
  intro pins s σ H x vs v us Q I rx rv h
  obtain ⟨l, xs, h1, h2, h3, q⟩ := h
  exact mt_reverse pins s σ H x vs v us Q I rx rv ⟨l, xs, h1, h2, h3, q _ rfl⟩
def rSetLQ : V → V → V → Hp → (Hp → Prop) → Prop := fun o i v H Q => ∃ p xs k j, o = .ref p ∧ i = .int k ∧ H p = some (.lst xs) ∧ ixN xs.length k = some j ∧ ∀ H', H' = upd H p (.lst (xs.set j v)) → Q H'
theorem setq_list : PSet X rSetLQ := by
  intro pins s σ H o i v ov iv u Q I ro ri rv h
  obtain ⟨p, xs, k, j, h1, h2, h3, h4, q⟩ := h
  exact set_list pins s σ H o i v ov iv u Q I ro ri rv ⟨p, xs, k, j, h1, h2, h3, h4, q _ rfl⟩
def tLstQ (t : TA) : TE := fun σ H Q => t σ H fun xs H1 => xs.length ≤ sizeLine ∧ ∀ p H', H1 p = none → p ≠ sysModules → H' = upd H1 p (.lst xs) → Q (.ref p) H'
theorem peq_lst (h : PA X es t) : PE X (.List es pos) (tLstQ t) := by
  constructor
  intro pins s σ H Q I hq
  apply wpAny_List_spliced
  refine thn (h.run pos pins s σ H _ I hq) ?_
  rintro us s1 ⟨xs, H1, I1, r, z, q⟩
  refine ⟨by rw [← r.length]; exact z, ?_⟩
  have fresh : H1 s1.heap.objs.size = none := I1.hok.fresh (Nat.le_refl _)
  exact ⟨.ref s1.heap.objs.size, upd H1 s1.heap.objs.size (.lst xs), I1.laid (t' := s1.toks) (fun b u e => Heap.get?_push_of_some _ e) (Nat.le_refl _) ⟨z, us, 0, r, Heap.get?_push_size _ rfl⟩, rfl, q _ _ fresh (big_ne I1) rfl⟩
def tTupQ (t : TA) : TE := fun σ H Q => t σ H fun xs H1 => xs.length ≤ sizeLine ∧ ∀ p H', H1 p = none → p ≠ sysModules → H' = upd H1 p (.tup xs) → Q (.ref p) H'
theorem peq_tup {x1} (h : PA X es t) : PE X (.Tuple es x1 pos) (tTupQ t) := by
  refine ⟨fun pins s σ H Q I hq => ?_⟩
  refine wpAny_Tuple_spliced (thn (h.run pos pins s σ H _ I hq) fun us s1 ⟨xs, H1, I1, r, z, q⟩ => ⟨by rw [← r.length]; exact z, ?_⟩)
  have hf : H1 s1.heap.objs.size = none := I1.hok.fresh (Nat.le_refl _)
  refine ⟨.ref s1.heap.objs.size, upd H1 s1.heap.objs.size (.tup xs), I1.laid (t' := s1.toks) (fun b u e => Heap.get?_push_of_some _ e) (Nat.le_refl _) ?_, rfl, q _ _ hf (big_ne I1) rfl⟩
  exact ⟨z, us, r, ⟨_, Heap.get?_push_size _ rfl, rfl, _, rfl⟩⟩
end
end Vx
namespace Vx
open PySem PySem.Spec PyProof.Rows L2
/-! ints as data that can be shown -/
def smallI (i : Int) : Prop := i.natAbs < 10 ^ 95
theorem fine_int {K : PySem.W.Frag} {H : Hp} {i : Int} (h : i.natAbs < 10 ^ 95) : Fine K H (.int i) (.int i) := by
  have hb : i.natAbs < 2 ^ 316 := Nat.lt_of_lt_of_le h (by decide +kernel)
  have hlg : i.natAbs.log2 < 316 := by
    by_cases z : i.natAbs = 0
    · rw [z]; decide
    · exact (Nat.log2_lt z).mpr hb
  refine ⟨.int i, ?_, ?_, by simp [PyData.depth], ?_⟩
  · show decide (i.natAbs.log2 < 1920) = true
    exact decide_eq_true (by omega)
  · have : (PyData.shown (.int i)).length ≤ 96 := by
      have e := int_text_length_le10 (k := 95) (by decide) h
      show (Str.ofString (toString i)).length ≤ 96
      rw [PySem.ofString_length]; exact e
    show decide ((PyData.shown (.int i)).length ≤ 100) = true
    exact decide_eq_true (by omega)
  · show (if i == 0 then 0 else i.natAbs.log2 + 1) ≤ 4100
    split
    · omega
    · omega
theorem int_small {i : Int} (h0 : 0 ≤ i) (h : i ≤ 1000000) : i.natAbs < 10 ^ 95 := Nat.lt_of_le_of_lt (show i.natAbs ≤ 1000000 by omega) (by decide +kernel)
theorem fines_ints {K : PySem.W.Frag} {H : Hp} : ∀ {ns : List Int}, (∀ x ∈ ns, x.natAbs < 10 ^ 95) → Fines K H (ns.map V.int) (ns.map PyData.int)
  | [], _ => .nil
  | n :: r, h => .cons (fine_int (h n List.mem_cons_self)) (fines_ints fun x hx => h x (List.mem_cons_of_mem _ hx))
/-- what repr asks of a value and its data -/
structure Shows (K : PySem.W.Frag) (H : Hp) (x : V) (d : PyData) : Prop where
  dx : Dx K H x d
  sh : d.showable = true
  lv : d.leavesShort 100 = true
  dp : d.depth ≤ 40
  wt : d.weight ≤ 150000
theorem Shows.len {K : PySem.W.Frag} {H : Hp} {x : V} {d : PyData} (f : Shows K H x d) : d.shown.length ≤ sizeLine := by
  have h := PyData.shown_le 100 (by decide) d f.lv
  have := f.wt
  unfold sizeLine; omega
theorem Shows.same {K : PySem.W.Frag} {H H' : Hp} {x : V} {d : PyData} (s : Same H H') (f : Shows K H x d) : Shows K H' x d := { f with dx := f.dx.same s }
theorem Fine.shows {K : PySem.W.Frag} {H : Hp} {x : V} {d : PyData} (f : Fine K H x d) : Shows K H x d := ⟨f.dx, f.sh, f.lv, by have := f.dp; omega, by have := f.wt; omega⟩
inductive ShowAll (K : PySem.W.Frag) (H : Hp) : List V → List PyData → Nat → Nat → Prop
  | nil : ShowAll K H [] [] 0 0
  | cons {x : V} {d : PyData} {xs : List V} {ds : List PyData} {dp wt : Nat} : Dx K H x d → d.showable = true → d.leavesShort 100 = true → ShowAll K H xs ds dp wt → ShowAll K H (x :: xs) (d :: ds) (max d.depth dp) (d.weight + 1 + wt)
theorem ShowAll.all {K : PySem.W.Frag} {H : Hp} : ∀ {xs : List V} {ds : List PyData} {dp wt : Nat}, ShowAll K H xs ds dp wt →
    DxAll K H xs ds ∧ PyData.showableAll ds = true ∧ PyData.leavesShortAll 100 ds = true ∧ PyData.depthAll ds = dp ∧ PyData.weightAll ds = wt
  | _, _, _, _, .nil => ⟨.nil, by simp [PyData.showableAll], by simp [PyData.leavesShortAll], by simp [PyData.depthAll], by simp [PyData.weightAll]⟩
  | _, _, _, _, .cons h1 h2 h3 r => by
    obtain ⟨a1, a2, a3, a4, a5⟩ := ShowAll.all r
    exact ⟨.cons h1 a1, by simp [PyData.showableAll, h2, a2], by simp [PyData.leavesShortAll, h3, a3], by simp only [PyData.depthAll, a4], by simp only [PyData.weightAll, a5]⟩
theorem Shows.lst {K : PySem.W.Frag} {H : Hp} {p : Addr} {xs : List V} {ds : List PyData} {dp wt : Nat} (e : H p = some (.lst xs)) (n : p ≠ sysModules) (f : ShowAll K H xs ds dp wt) (h1 : dp ≤ 39) (h2 : wt ≤ 149999) : Shows K H (.ref p) (.list ds) := by
  obtain ⟨a1, a2, a3, a4, a5⟩ := f.all
  exact ⟨.lst e n a1, by simpa [PyData.showable] using a2, by simpa [PyData.leavesShort] using a3, by simp only [PyData.depth]; omega, by simp only [PyData.weight]; omega⟩
theorem Shows.tup {K : PySem.W.Frag} {H : Hp} {p : Addr} {xs : List V} {ds : List PyData} {dp wt : Nat} (e : H p = some (.tup xs)) (f : ShowAll K H xs ds dp wt) (h1 : dp ≤ 39) (h2 : wt ≤ 149999) : Shows K H (.ref p) (.tuple ds) := by
  obtain ⟨a1, a2, a3, a4, a5⟩ := f.all
  exact ⟨.tup (SqT.of e) a1, by simpa [PyData.showable] using a2, by simpa [PyData.leavesShort] using a3, by simp only [PyData.depth]; omega, by simp only [PyData.weight]; omega⟩
theorem shows_ints {K : PySem.W.Frag} {H : Hp} {p : Addr} {ns : List Int} (e : H p = some (.lst (ns.map V.int))) (n : p ≠ sysModules) (h : ∀ x ∈ ns, x.natAbs < 10 ^ 95) (hl : ns.length ≤ 220) :
    Dx K H (.ref p) (.list (ns.map PyData.int)) ∧ (PyData.list (ns.map PyData.int)).showable = true ∧ (PyData.list (ns.map PyData.int)).leavesShort 100 = true ∧ (PyData.list (ns.map PyData.int)).depth = 1 ∧ (PyData.list (ns.map PyData.int)).weight ≤ 70000 := by
  have hg : PyData.showableAll (ns.map PyData.int) = true ∧ PyData.leavesShortAll 100 (ns.map PyData.int) = true ∧ PyData.weightAll (ns.map PyData.int) ≤ 317 * ns.length ∧ DxAll K H (ns.map V.int) (ns.map PyData.int) := by
    clear e hl
    induction ns with
    | nil => exact ⟨by simp [PyData.showableAll], by simp [PyData.leavesShortAll], by simp [PyData.weightAll], .nil⟩
    | cons x r ih =>
      obtain ⟨a1, a2, a3, a4⟩ := ih fun y hy => h y (List.mem_cons_of_mem _ hy)
      have hx := h x List.mem_cons_self
      have f := fine_int (K := K) (H := H) hx
      have hw : (PyData.int x).weight ≤ 316 := by
        have hb : x.natAbs < 2 ^ 316 := Nat.lt_of_lt_of_le hx (by decide +kernel)
        show (if x == 0 then 0 else x.natAbs.log2 + 1) ≤ 316
        split
        · omega
        · have : x.natAbs ≠ 0 := fun z => by
            rename_i hne
            exact hne (by rw [Int.natAbs_eq_zero.mp z]; rfl)
          have := (Nat.log2_lt this).mpr hb
          omega
      refine ⟨by simp [PyData.showableAll, f.sh, a1], by simp [PyData.leavesShortAll, f.lv, a2], ?_, .cons f.dx a4⟩
      simp only [List.map_cons, PyData.weightAll, List.length_cons]; omega
  obtain ⟨a1, a2, a3, a4⟩ := hg
  exact ⟨.lst e n a4, by simpa [PyData.showable] using a1, by simpa [PyData.leavesShort] using a2, by simp only [PyData.depth]; rw [depth_ints], by simp only [PyData.weight]; omega⟩
end Vx
namespace Vx
open PySem PySem.Spec PyProof.Rows L2
/-! an instance made by a class that a local name holds -/
section
variable {X : Cx} {CX : CXT} {k : Nat} {f C : Addr} {fd : FuncData} {ps : List Str} {sp : Sp} {dvs : List V} {ds : List Value} {E : XK} {x : Str} {p pos : Pos} {e : Expr} {es : List Expr} {t : TA}
def tMakeL (i : Nat) (C : Addr) (sp : Sp) (dvs : List V) (E : XK) (t : TA) : TE := fun σ H Q => σ[i]? = some (some (.ref C)) ∧ tMake C sp dvs E t σ H Q
theorem pe_makeL {i : Nat} (M : Mk X.K C f) (F : FnOk X.prog X.w X.K X.mg X.base CX k f fd ps sp) (hr : Room (k + 1) X.A) (hN : X.N[i]? = some x) (hv : Vis X.env.scope x) (hb : Binds X.K fd ps ds) (hd : Vals dvs ds) (hx : Passes CX X E)
    (ha : PA X (e :: es) t) (hdb : (x == ("__debug__" : Str)) = false := by decide) (hcd : (x == ("__classdict__" : Str)) = false := by decide) (he : starEach (e :: es) X.env = (false, eval e X.env) :: starEach es X.env := by rfl) (hpl : (backTo pos (starEach es X.env)).any (·.1) = false := by rfl) :
    PE X (.Call (.Name x p) (e :: es) [] pos) (tMakeL i C sp dvs E t) := by
  refine ⟨fun pins s σ H Q I h => ?_⟩
  obtain ⟨h1, h2⟩ := h
  refine wpAny_Call_Name_kw (thn ((pe_var (pos := p) hN hv hdb hcd).run pins s σ H (fun v H1 => v = .ref C ∧ H1 = H) I ⟨.ref C, h1, rfl, rfl⟩) fun u s1 ⟨v, H1, I1, r1, q1⟩ => ?_)
  obtain ⟨rfl, rfl⟩ := q1
  cases r1
  refine PySem.W.callWith_K (h₀ := X.base) I1.ok.mod.kin M.kp (thn (ha.run pos pins s1 σ _ _ I1 h2) fun us s2 ⟨vs, H2, I2, r, q⟩ => ⟨I2.kIn, ?_⟩) he hpl
  exact run_make M F hr hb hd hx I2 r q
end
/-! Counts objects -/
theorem nAB : ¬ (("_many_a" : Str) = "_many_b") := by decide +kernel
theorem nAP : ¬ (("_many_a" : Str) = "_pairs") := by decide +kernel
theorem nBP : ¬ (("_many_b" : Str) = "_pairs") := by decide +kernel
theorem putF_len (f : Str) (v : V) : ∀ fs : List (Str × V), (putF f v fs).length ≤ fs.length + 1
  | [] => Nat.le_refl _
  | (g, x) :: r => by
    have ih := putF_len f v r
    unfold putF
    split
    · exact Nat.le_succ _
    · exact Nat.succ_le_succ ih
def flds (a b p : Int) : List (Str × V) := putF "_pairs" (.int p) (putF "_many_b" (.int b) (putF "_many_a" (.int a) []))
theorem flds_a (a b p : Int) : (flds a b p).lookup ("_many_a" : Str) = some (.int a) := by
  unfold flds
  rw [lookup_putF, if_neg nAP, lookup_putF, if_neg nAB, lookup_putF, if_pos rfl]
theorem flds_b (a b p : Int) : (flds a b p).lookup ("_many_b" : Str) = some (.int b) := by
  unfold flds
  rw [lookup_putF, if_neg nBP, lookup_putF, if_pos rfl]
theorem flds_p (a b p : Int) : (flds a b p).lookup ("_pairs" : Str) = some (.int p) := by
  unfold flds
  rw [lookup_putF, if_pos rfl]
theorem flds_no (a b p : Int) {m : Str} (h1 : ¬ m = "_many_a") (h2 : ¬ m = "_many_b") (h3 : ¬ m = "_pairs") : (flds a b p).lookup m = none := by
  unfold flds
  rw [lookup_putF, if_neg h3, lookup_putF, if_neg h2, lookup_putF, if_neg h1]; rfl
def CountsAt (C : Addr) (H : Hp) (x : Addr) (a b p : Int) : Prop := ∃ dx, H x = some (.ins C dx (flds a b p))
theorem CountsAt.same {C : Addr} {H H' : Hp} {x : Addr} {a b p : Int} (s : Same H H') (h : CountsAt C H x a b p) : CountsAt C H' x a b p := let ⟨dx, e⟩ := h; ⟨dx, s _ _ e⟩
theorem CountsAt.keep {C r : Addr} {H H' : Hp} {x : Addr} {a b p : Int} (s : Keep r H H') (n : x ≠ r) (h : CountsAt C H x a b p) : CountsAt C H' x a b p := let ⟨dx, e⟩ := h; ⟨dx, s _ _ n e⟩
/-- three numbers that are counts, of bounded size -/
structure COk (a b p : Int) : Prop where
  a0 : 0 ≤ a
  b0 : 0 ≤ b
  p0 : 0 ≤ p
  pm : p ≤ a * b
  ba : a.natAbs < 2 ^ 3000
  bb : b.natAbs < 2 ^ 3000
/-- what the walk asks of the class as the top has made it -/
structure CT (K : PySem.W.Frag) (mg : Str → Option Value) (C : Addr) : Prop where
  cl : Cls K C
  nA : NoAttr K C "_many_a"
  nB : NoAttr K C "_many_b"
  nP : NoAttr K C "_pairs"
  mg : mg "Counts" = some (.ref C)
def spInit (C : Addr) : Sp := fun vs H Q _ => ∃ (x dx : Addr) (a b p : Int), vs = [.ref x, .int a, .int b, .int p] ∧ H x = some (.ins C dx []) ∧ COk a b p ∧ ∀ H', CountsAt C H' x a b p → Keep x H H' → Q .non H'
theorem made_same {x dx : Addr} {H H' : Hp} {o1 o2 : HO} (nx : H x = none) (ndx : H dx = none) (k : Keep x (upd (upd H dx o1) x o2) H') : Same H H' := fun b o e => by
  have n1 := ne_of_none e nx
  refine k b o n1 ?_
  rw [upd_ne n1, upd_ne (ne_of_none e ndx)]; exact e
theorem mkC {C x dx : Addr} {H : Hp} {a b p : Int} {Q : VK} (nx : H x = none) (ndx : H dx = none) (c : COk a b p) (h : ∀ H', Same H H' → CountsAt C H' x a b p → Q (.ref x) H') :
    spInit C (.ref x :: ([.int a, .int b, .int p] ++ [])) (upd (upd H dx (.own x)) x (.ins C dx [])) (fun v H2 => v = .non ∧ Q (.ref x) H2) E0 :=
  ⟨x, dx, a, b, p, rfl, upd_same, c, fun H' hc k => ⟨rfl, h H' (made_same nx ndx k) hc⟩⟩
/-- is_integer: ints only -/
def spIsInt (K : PySem.W.Frag) : Sp := fun vs H Q _ => ∃ x, vs = [x] ∧ ((∃ i, x = .int i ∧ Q (.bl true) H) ∨ (∃ b, x = .bl b ∧ Q (.bl false) H) ∨ (∃ t, TyX K H x t ∧ PySem.W.kitOne K t (.type "int") = some false ∧ Q (.bl false) H))
def spAre : Sp := fun vs H Q _ => ∃ a b p : Int, vs = [.int a, .int b, .int p] ∧ COk a b p ∧ ∀ H', Same H H' → Q (.bl true) H'
/-! rules that name the class's fragment -/
section
variable {X : Cx}
def rLenK (K : PySem.W.Frag) : List V → Hp → VK → Prop := fun xs H Q => ∃ p ys, xs = [V.ref p] ∧ SqL K H p ys ∧ Q (V.int ys.length) H
theorem call_lenK (K : PySem.W.Frag) (h : X.K = K) : CallR X (.builtin "len") (rLenK K) := by
  subst h
  intro pins s σ H xs us Q I r h
  obtain ⟨p, ys, e, hs, q⟩ := h
  exact call_len_seq pins s σ H xs us Q I r ⟨p, ys, e, .inl hs, q⟩
theorem pi_listK (K : PySem.W.Frag) (h : X.K = K) {tg e : Expr} {te : TE} (he : PE X e te) : PI X tg e (iList K te) := by
  subst h
  exact pi_list he
theorem call_reprK (K : PySem.W.Frag) (h : X.K = K) (hg : X.A.guards = some []) (hu : X.A.units + 64 < cLine) : CallR X (.builtin "repr") (rRepr K) := by
  subst h
  exact call_reprX hg hu
/-- xs * n, the new list by an equation -/
def rRepQ : R2 := fun x y H Q => ∃ l k xs, x = .ref l ∧ y = .int k ∧ H l = some (.lst xs) ∧ -(2 ^ 63) ≤ k ∧ k < 2 ^ 63 ∧ xs.length * k.toNat ≤ sizeLine ∧
  ∀ p H', H p = none → p ≠ sysModules → H' = upd H p (.lst (List.replicate k.toNat xs).flatten) → Q (.ref p) H'
end
end Vx
namespace Vx
open PySem PySem.Spec PyProof.Rows L2
/-! shown data as texts of characters -/
def okS (x : Str) : Prop := x.cps.all (· < 0x110000) = true
theorem okS_of (s : String) : okS (Str.ofString s) := by
  unfold okS
  rw [Str.ofString_eq_toList]
  rw [Array.all_eq_true_iff_forall_mem]
  intro c hc
  have hc' : c ∈ s.toList.map Char.toNat := by simpa using hc
  obtain ⟨d, _, rfl⟩ := List.mem_map.mp hc'
  have := d.valid
  have h2 : d.toNat < 0x110000 := by
    rcases this with h | ⟨_, h⟩
    · exact Nat.lt_trans h (by decide)
    · exact h
  simpa using h2
theorem okS_append {x y : Str} (h1 : okS x) (h2 : okS y) : okS (x ++ y) := by
  unfold okS at *
  show (x.cps ++ y.cps).all _ = true
  rw [Array.all_append, h1, h2]; rfl
theorem okS_textFrom : ∀ (ts : List Str) (k : Nat) (acc : Str), okS acc → (∀ t ∈ ts, okS t) → okS (textFrom k acc ts)
  | [], _, _, h, _ => h
  | t :: r, k, acc, h, ht => okS_textFrom r (k + 1) _ (okS_append (okS_append h (okS_of _)) (ht t List.mem_cons_self)) fun x hx => ht x (List.mem_cons_of_mem _ hx)
theorem okS_listText {ts : List Str} (h : ∀ t ∈ ts, okS t) : okS (listText ts) := okS_append (okS_textFrom ts 0 _ (okS_of "[") h) (okS_of "]")
theorem okS_join : ∀ {ts : List Str}, (∀ t ∈ ts, okS t) → okS (Str.join ", " ts)
  | [], _ => okS_of ""
  | [x], h => h x List.mem_cons_self
  | x :: y :: r, h => okS_append (okS_append (h x List.mem_cons_self) (okS_of ", ")) (okS_join fun z hz => h z (List.mem_cons_of_mem _ hz))
theorem okS_tupleText {ts : List Str} (h : ∀ t ∈ ts, okS t) : okS (tupleText ts) := okS_append (okS_append (okS_of "(") (okS_join h)) (okS_of _)
theorem okS_int (i : Int) : okS (PyData.shown (.int i)) := okS_of (toString i)
theorem okS_ints : ∀ ns : List Int, ∀ t ∈ PyData.shownAll (ns.map PyData.int), okS t
  | [], t, h => by simp [PyData.shownAll] at h
  | n :: r, t, h => by
    have h' : t = PyData.shown (.int n) ∨ t ∈ PyData.shownAll (r.map PyData.int) := by simpa [PyData.shownAll] using h
    rcases h' with rfl | h'
    · exact okS_int n
    · exact okS_ints r t h'
theorem okS_tup (ns : List Int) : okS (PyData.shown (.tuple (ns.map PyData.int))) := okS_tupleText (okS_ints ns)
theorem okS_lst (ns : List Int) : okS (PyData.shown (.list (ns.map PyData.int))) := okS_listText (okS_ints ns)
/-- lists of one text -/
theorem shaped_strs {z : Str} (h : okS z) : ∀ n, SeqAt.shaped (.list (List.replicate n (.str z))) = true := by
  intro n
  have h1 : PyData.canLayAll0 (List.replicate n (PyData.str z)) = true := by
    induction n with
    | zero => simp [PyData.canLayAll0]
    | succ n ih =>
      rw [List.replicate_succ]
      simp only [PyData.canLayAll0, ih, Bool.and_true]
      show PyData.strOk z = true
      exact h
  have h2 : PyData.depthAll (List.replicate n (PyData.str z)) = 0 := by
    clear h1
    induction n with
    | zero => simp [PyData.depthAll]
    | succ n ih => rw [List.replicate_succ]; simp [PyData.depthAll, PyData.depth, ih]
  simp [SeqAt.shaped, PyData.canLay0, PyData.depth, h1, h2]
theorem eqv_strs {z : Str} : ∀ n, PyData.eqv (.list (List.replicate n (.str z))) (.list (List.replicate n (.str z))) = true
  | 0 => by simp [PyData.eqv, PyData.eqvAll]
  | n + 1 => by
    have ih := eqv_strs (z := z) n
    rw [List.replicate_succ]
    simp only [PyData.eqv, PyData.eqvAll] at ih ⊢
    rw [ih]; simp
theorem dp_strs {K : PySem.W.Frag} {H : Hp} {z : Str} : ∀ n, DpAll K H (List.replicate n (V.str z)) (List.replicate n (PyData.str z))
  | 0 => .nil
  | n + 1 => .cons (.str z) (dp_strs n)
/-- a tuple of three ints, to be shown -/
theorem shows_tup3 {K : PySem.W.Frag} {H : Hp} {T : Addr} {a b p : Int} (e : H T = some (.tup [.int a, .int b, .int p])) (ha : a.natAbs < 10 ^ 95) (hb : b.natAbs < 10 ^ 95) (hp : p.natAbs < 10 ^ 95) : Shows K H (.ref T) (.tuple [.int a, .int b, .int p]) := by
  have f1 := fine_int (K := K) (H := H) ha
  have f2 := fine_int (K := K) (H := H) hb
  have f3 := fine_int (K := K) (H := H) hp
  have w1 := f1.wt
  have w2 := f2.wt
  have w3 := f3.wt
  exact .tup e (.cons f1.dx f1.sh f1.lv (.cons f2.dx f2.sh f2.lv (.cons f3.dx f3.sh f3.lv .nil))) (by show max 0 (max 0 (max 0 0)) ≤ 39; decide) (by omega)
end Vx
namespace Vx
open PySem PySem.Spec PyProof.Rows L2
/-! operators of an own class, its objects with a dict -/
structure Dun (K : PySem.W.Frag) (C : Addr) (m : Str) (g : Addr) : Prop where
  at_ : PySem.W.findIn K (.ref C) m = some (some (.ref g))
  fn : PySem.W.isFn K (.ref g) = true
section
variable {X : Cx} {CX : CXT} {n : Nat} {C g : Addr} {sp : Sp} {E : XK}
theorem look_ins {pins : List (Addr × Obj)} {σ : L2.St} {H : Hp} {s : Shared} {a dx : Addr} {fs : List (Str × V)} (I : Inv X pins σ H s) (ea : H a = some (.ins C dx fs)) : ∃ ox od, PySem.W.InstAt s.heap a ox C (some od) := by
  obtain ⟨mA, O, _, _, _, _⟩ := ins_get I.hok ea
  obtain ⟨od, J, _⟩ := O.look
  exact ⟨_, od, J⟩
def rUnOwn (C : Addr) (sp : Sp) (E : XK) : V → Hp → VK → Prop := fun x H Q => ∃ a dx fs, x = .ref a ∧ H a = some (.ins C dx fs) ∧ sp [x] H Q E
theorem un_ownI (d : Dun X.K C "__invert__" g) (F : FnR X.prog X.w X.K X.mg X.base CX n g sp) (hr : Room n X.A) (hx : Passes CX X E) : UnR X (unaryOp .Invert) (rUnOwn C sp E) := by
  intro pins s σ H x v Q I rx h
  obtain ⟨a, dx, fs, rfl, ea, q⟩ := h
  cases (show v = Value.ref a from rx)
  obtain ⟨ox, od, J⟩ := look_ins I ea
  obtain ⟨m, hF⟩ := I.fr
  exact PySem.W.ksp_inv hF I.ok.mod.kin J d.at_ d.fn (wpAny_call (run_fnR (us := [.ref a]) (vs := [.ref a]) F hr hx I (.cons rfl .nil) q))
theorem un_ownN (d : Dun X.K C "__neg__" g) (F : FnR X.prog X.w X.K X.mg X.base CX n g sp) (hr : Room n X.A) (hx : Passes CX X E) : UnR X (unaryOp .USub) (rUnOwn C sp E) := by
  intro pins s σ H x v Q I rx h
  obtain ⟨a, dx, fs, rfl, ea, q⟩ := h
  cases (show v = Value.ref a from rx)
  obtain ⟨ox, od, J⟩ := look_ins I ea
  obtain ⟨m, hF⟩ := I.fr
  exact PySem.W.ksp_neg hF I.ok.mod.kin J d.at_ d.fn (wpAny_call (run_fnR (us := [.ref a]) (vs := [.ref a]) F hr hx I (.cons rfl .nil) q))
/-- x op y, both of the class -/
def rBinOwn (C : Addr) (sp : Sp) (E : XK) : R2 := fun x y H Q => ∃ a dx fs b dy gs, x = .ref a ∧ y = .ref b ∧ H a = some (.ins C dx fs) ∧ H b = some (.ins C dy gs) ∧ sp [x, y] H Q E
theorem op_binOwn {op : Operator} (hc : PySem.W.selfFirst X.K C = true) (d : Dun X.K C (PySem.dunder op.info.2) g) (F : FnR X.prog X.w X.K X.mg X.base CX n g sp) (hr : Room n X.A) (hx : Passes CX X E) : OpR X (binaryOp op) (rBinOwn C sp E) := by
  intro pins s σ H x y v u Q I rx ry h
  obtain ⟨a, dx, fs, b, dy, gs, rfl, rfl, ea, eb, q⟩ := h
  cases (show v = Value.ref a from rx)
  cases (show u = Value.ref b from ry)
  obtain ⟨ox, od, J⟩ := look_ins I ea
  obtain ⟨ox2, od2, J2⟩ := look_ins I eb
  obtain ⟨m, hF⟩ := I.fr
  refine PySem.W.binop_K hF I.ok.mod.kin J J2.type hc d.at_ d.fn ?_
  refine wpAny_mono (wpAny_call (run_fnR (us := [.ref a, .ref b]) (vs := [.ref a, .ref b]) F hr hx I (.cons rfl (.cons rfl .nil)) q)) (fun w s' z => ?_) fun _ _ x => x
  obtain ⟨z', H', I', rz, qz⟩ := z
  exact SlX.cmpback rz ⟨z', H', I', rz, qz⟩
end
end Vx
namespace Vx
open PySem PySem.Spec PyProof.Rows L2
/-! rules that name the class's fragment: for what stands in comprehensions -/
section
variable {X : Cx}
theorem ix_tupK (K : PySem.W.Frag) (h : X.K = K) : IxR X (rIxT K) := by subst h; exact ix_tup
theorem ix_listK (K : PySem.W.Frag) (h : X.K = K) : IxR X (rIxL K) := by subst h; exact ix_list
theorem sl_listK (K : PySem.W.Frag) (h : X.K = K) : SlR X (rSlL K) := by subst h; exact sl_list
theorem op_neDK (K : PySem.W.Frag) (h : X.K = K) (hu : X.A.units + 64 < cLine) : OpR X (compareOp .NotEq) (rNeD K) := by subst h; exact op_neD hu
theorem op_eqDK (K : PySem.W.Frag) (h : X.K = K) (hu : X.A.units + 64 < cLine) : OpR X (compareOp .Eq) (rEqD K) := by subst h; exact op_eqD hu
theorem cr_sumK (K : PySem.W.Frag) (h : X.K = K) (hc : X.calm = true) : CallR X (.builtin "sum") (rSum K) := by subst h; exact cr_sum hc
theorem cr_allK (K : PySem.W.Frag) (h : X.K = K) (hc : X.calm = true) : CallR X (.builtin "all") (rAll K) := by subst h; exact cr_all hc
theorem kit_refl {K : PySem.W.Frag} {C : Addr} : PySem.W.kitOne K (.ref C) (.ref C) = some true := by
  unfold PySem.W.kitOne
  exact if_pos (by simp)
end
end Vx
namespace Vx
open PySem PySem.Spec PyProof.Rows L2
/-! powers of wide bases, isqrt, the least of three ints, own object * int -/
section
variable {X : Cx}
def CPowW (i j : Int) : Prop := 0 ≤ j ∧ j ≤ 1000 ∧ i.natAbs < 2 ^ 1000
theorem op_powW : OpR X (binaryOp .Pow) (rI CPowW fun i j => .int (i ^ j.toNat)) := by
  intro pins s σ H x y v u Q I rx ry h
  obtain ⟨i, j, rfl, rfl, ⟨h0, h1, h2⟩, q⟩ := h
  obtain ⟨t, rfl⟩ := (show ∃ t, v = Value.int i t from rx)
  obtain ⟨t', rfl⟩ := (show ∃ t, u = Value.int j t from ry)
  have hb : Builtin.Int.intBits i ≤ 1000 := by
    unfold Builtin.Int.intBits
    split
    · exact Nat.zero_le _
    · have := PySem.Flt.log2_lt_of (show 0 < 1000 by decide) h2
      omega
  refine pow_int h0 ?_ ⟨.int _, H, I.tok _, ⟨_, rfl⟩, q⟩
  have e1 : (Builtin.Int.intBits i : Int) * j ≤ 1000 * j := Int.mul_le_mul_of_nonneg_right (by omega) h0
  omega
def rIsqrt : List V → Hp → VK → Prop := fun vs H Q => ∃ a : Int, vs = [.int a] ∧ 0 ≤ a ∧ a.natAbs < 2 ^ 12000 ∧ ∀ r : Int, 0 ≤ r → r * r ≤ a → a < (r + 1) * (r + 1) → Q (.int r) H
theorem cr_isqrt : CallR X (.builtin "math.isqrt") rIsqrt := by
  intro pins s σ H vs us Q I r h
  obtain ⟨a, rfl, h0, h1, q⟩ := h
  obtain ⟨u, rfl, t, rfl⟩ := vals1 r
  have hl : a.toNat.log2 < 12000 := PySem.Flt.log2_lt_of (show 0 < 12000 by decide) (show a.toNat < 2 ^ 12000 by omega)
  have sp := PySem.Float64.isqrt_spec a.toNat
  refine PySem.call_function_meets PySem.W.MGF.kind_isqrt PySem.W.MGF.plain_isqrt PySem.W.MGF.entry_isqrt (PySem.W.MGF.args_isqrt _) (PySem.W.mg_run_isqrt a t (by omega) (by omega) (by omega)).meets ⟨.int _, H, I.tok _, ⟨_, rfl⟩, q _ (Int.natCast_nonneg _) ?_ ?_⟩
  · have := sp.1
    have e : ((Float64.isqrt a.toNat : Nat) : Int) * ((Float64.isqrt a.toNat : Nat) : Int) = ((Float64.isqrt a.toNat * Float64.isqrt a.toNat : Nat) : Int) := by rw [Int.natCast_mul]
    rw [e]; omega
  · have := sp.2
    have e : (((Float64.isqrt a.toNat : Nat) : Int) + 1) * (((Float64.isqrt a.toNat : Nat) : Int) + 1) = (((Float64.isqrt a.toNat + 1) * (Float64.isqrt a.toNat + 1) : Nat) : Int) := by rw [Int.natCast_mul]; rfl
    rw [e]; omega
theorem call_min3 (hc : X.calm = true) : CallR X (.builtin "min") (fun xs H Q => ∃ i j l, xs = [.int i, .int j, .int l] ∧ ∀ m : Int, m ≤ i → m ≤ j → m ≤ l → (m = i ∨ m = j ∨ m = l) → Q (.int m) H) := by
  intro pins s σ H xs us Q I r h
  obtain ⟨i, j, l, rfl, q⟩ := h
  have e1 : nuMin2 (.int i) (.int j) = some (.int (if j < i then j else i)) := by
    show some (if decide (j < i) = true then V.int j else V.int i) = _
    by_cases h : j < i
    · rw [if_pos (decide_eq_true h), if_pos h]
    · rw [if_neg fun z => h (of_decide_eq_true z), if_neg h]
  have e2 : ∀ m : Int, nuMin2 (.int m) (.int l) = some (.int (if l < m then l else m)) := fun m => by
    show some (if decide (l < m) = true then V.int l else V.int m) = _
    by_cases h : l < m
    · rw [if_pos (decide_eq_true h), if_pos h]
    · rw [if_neg fun z => h (of_decide_eq_true z), if_neg h]
  refine call_min3Nu hc pins s σ H _ us Q I r ⟨.int i, .int j, .int l, _, rfl, by unfold nuMin3; rw [e1]; exact e2 _, q _ ?_ ?_ ?_ ?_⟩ <;> (repeat' split) <;> omega
end
/-! x * n, x of an own class, n an int -/
structure MulI (K : PySem.W.Frag) (C g : Addr) : Prop where
  sf : PySem.W.selfFirst K C = true
  at_ : PySem.W.findIn K (.ref C) "__mul__" = some (some (.ref g))
  fn : PySem.W.isFn K (.ref g) = true
  ro : PySem.W.findIn K (.ref C) "__rmul__" = some none
  ii : ∃ fo, PySem.W.findIn K (.type "int") "__mul__" = some fo
  ir : ∃ fo, PySem.W.findIn K (.type "int") "__rmul__" = some fo
  sb : PySem.W.subIn K (.type "int") (.ref C) = some false
section
variable {X : Cx} {CX : CXT} {n : Nat} {C g : Addr} {sp : Sp} {E : XK}
def rMulI (C : Addr) (sp : Sp) (E : XK) : R2 := fun x y H Q => ∃ a dx fs i, x = .ref a ∧ y = .int i ∧ H a = some (.ins C dx fs) ∧ sp [x, y] H Q E
theorem op_mulI (d : MulI X.K C g) (F : FnR X.prog X.w X.K X.mg X.base CX n g sp) (hr : Room n X.A) (hx : Passes CX X E) : OpR X (binaryOp .Mult) (rMulI C sp E) := by
  intro pins s σ H x y v u Q I rx ry h
  obtain ⟨a, dx, fs, i, rfl, rfl, ea, q⟩ := h
  cases (show v = Value.ref a from rx)
  obtain ⟨t, rfl⟩ := (show ∃ t, u = Value.int i t from ry)
  obtain ⟨ox, od, J⟩ := look_ins I ea
  obtain ⟨m, hF⟩ := I.fr
  obtain ⟨fo, hfo⟩ := d.ii
  obtain ⟨ro, hro⟩ := d.ir
  refine PySem.W.ksp_binT (op := .Mult) (T := "int") hF I.ok.mod.kin J rfl d.sf d.at_ d.fn d.ro (.inl rfl) hfo hro d.sb ?_
  refine wpAny_mono (wpAny_call (run_fnR (us := [.ref a, .int i t]) (vs := [.ref a, .int i]) F hr hx I (.cons rfl (.cons ⟨t, rfl⟩ .nil)) q)) (fun w s' z => ?_) fun _ _ x => x
  obtain ⟨z', H', I', rz, qz⟩ := z
  exact SlX.cmpback rz ⟨z', H', I', rz, qz⟩
/-- a def that is asked nothing -/
theorem fn_no {P : Program} {w : World} {K : PySem.W.Frag} {mg : Str → Option Value} {base : Heap} {CX : CXT} {k : Nat} {f : Addr} {fd : FuncData} {ps : List Str} : FnOk P w K mg base CX k f fd ps (fun _ _ _ _ => False) :=
  ⟨fun _ _ _ _ h => h.elim, fun _ _ _ _ _ _ _ _ _ _ _ _ _ h => h.elim⟩
end
end Vx
namespace K28
open PySem PySem.Spec PyProof.Rows L2 Vx
def topS (i : Nat) : Stmt := PySem.Challenge.pw_paircounts_k28_prefix_ranges_of_large_co.main.body.getD i (.Pass ⟨0, 0, 0, 0⟩)
abbrev st_is_integer : Stmt := topS 8
abbrev N_is_integer : List Str := ["value"]
theorem sc_is_integer : FnScope N_is_integer ["value"] (defScope st_is_integer) := ⟨rfl, rfl, rfl, by decide +kernel, rfl, by decide +kernel, by decide +kernel⟩
abbrev st_check_number : Stmt := topS 9
abbrev N_check_number : List Str := ["value", "least", "greatest"]
theorem sc_check_number : FnScope N_check_number ["value", "least", "greatest"] (defScope st_check_number) := ⟨rfl, rfl, rfl, by decide +kernel, rfl, by decide +kernel, by decide +kernel⟩
abbrev st_are_counts : Stmt := topS 18
abbrev N_are_counts : List Str := ["many_a", "many_b", "pairs", "value"]
theorem sc_are_counts : FnScope N_are_counts ["many_a", "many_b", "pairs"] (defScope st_are_counts) := ⟨rfl, rfl, rfl, by decide +kernel, rfl, by decide +kernel, by decide +kernel⟩
abbrev st_c_init : Stmt := inClass (topS 19) 0
abbrev N_c_init : List Str := ["self", "many_a", "many_b", "pairs"]
theorem sc_c_init : FnScope N_c_init ["self", "many_a", "many_b", "pairs"] (defScope st_c_init) := ⟨rfl, rfl, rfl, by decide +kernel, rfl, by decide +kernel, by decide +kernel⟩
abbrev st_c_many_a : Stmt := inClass (topS 19) 2
abbrev N_c_many_a : List Str := ["self"]
theorem sc_c_many_a : FnScope N_c_many_a ["self"] (defScope st_c_many_a) := ⟨rfl, rfl, rfl, by decide +kernel, rfl, by decide +kernel, by decide +kernel⟩
abbrev st_c_many_b : Stmt := inClass (topS 19) 3
abbrev N_c_many_b : List Str := ["self"]
theorem sc_c_many_b : FnScope N_c_many_b ["self"] (defScope st_c_many_b) := ⟨rfl, rfl, rfl, by decide +kernel, rfl, by decide +kernel, by decide +kernel⟩
abbrev st_c_pairs : Stmt := inClass (topS 19) 4
abbrev N_c_pairs : List Str := ["self"]
theorem sc_c_pairs : FnScope N_c_pairs ["self"] (defScope st_c_pairs) := ⟨rfl, rfl, rfl, by decide +kernel, rfl, by decide +kernel, by decide +kernel⟩
abbrev st_c_mul : Stmt := inClass (topS 19) 6
abbrev N_c_mul : List Str := ["self", "other", "between"]
theorem sc_c_mul : FnScope N_c_mul ["self", "other"] (defScope st_c_mul) := ⟨rfl, rfl, rfl, by decide +kernel, rfl, by decide +kernel, by decide +kernel⟩
abbrev st_c_invert : Stmt := inClass (topS 19) 7
abbrev N_c_invert : List Str := ["self"]
theorem sc_c_invert : FnScope N_c_invert ["self"] (defScope st_c_invert) := ⟨rfl, rfl, rfl, by decide +kernel, rfl, by decide +kernel, by decide +kernel⟩
abbrev st_c_neg : Stmt := inClass (topS 19) 8
abbrev N_c_neg : List Str := ["self"]
theorem sc_c_neg : FnScope N_c_neg ["self"] (defScope st_c_neg) := ⟨rfl, rfl, rfl, by decide +kernel, rfl, by decide +kernel, by decide +kernel⟩
abbrev st_check_counts : Stmt := topS 20
abbrev N_check_counts : List Str := ["value"]
theorem sc_check_counts : FnScope N_check_counts ["value"] (defScope st_check_counts) := ⟨rfl, rfl, rfl, by decide +kernel, rfl, by decide +kernel, by decide +kernel⟩
abbrev st_letters_in : Stmt := topS 21
abbrev N_letters_in : List Str := ["counts"]
theorem sc_letters_in : FnScope N_letters_in ["counts"] (defScope st_letters_in) := ⟨rfl, rfl, rfl, by decide +kernel, rfl, by decide +kernel, by decide +kernel⟩
abbrev st_greatest_prefix_count : Stmt := topS 23
abbrev N_greatest_prefix_count : List Str := ["counts", "length", "rest", "most"]
theorem sc_greatest_prefix_count : FnScope N_greatest_prefix_count ["counts", "length"] (defScope st_greatest_prefix_count) := ⟨rfl, rfl, rfl, by decide +kernel, rfl, by decide +kernel, by decide +kernel⟩
abbrev st_prefix_range : Stmt := topS 24
abbrev N_prefix_range : List Str := ["counts", "length"]
theorem sc_prefix_range : FnScope N_prefix_range ["counts", "length"] (defScope st_prefix_range) := ⟨rfl, rfl, rfl, by decide +kernel, rfl, by decide +kernel, by decide +kernel⟩
abbrev st_law_spring : Stmt := topS 26
abbrev N_law_spring : List Str := ["script", "digits", "seed", "cell"]
theorem sc_law_spring : FnScope N_law_spring ["script"] (defScope st_law_spring) := ⟨rfl, rfl, rfl, by decide +kernel, rfl, by decide +kernel, by decide +kernel⟩
abbrev st_law_draw : Stmt := topS 27
abbrev N_law_draw : List Str := ["spring", "many", "found", "mixed"]
theorem sc_law_draw : FnScope N_law_draw ["spring", "many"] (defScope st_law_draw) := ⟨rfl, rfl, rfl, by decide +kernel, rfl, by decide +kernel, by decide +kernel⟩
abbrev st_law_counts : Stmt := topS 28
abbrev N_law_counts : List Str := ["spring", "most", "many", "others", "full", "some"]
theorem sc_law_counts : FnScope N_law_counts ["spring", "most"] (defScope st_law_counts) := ⟨rfl, rfl, rfl, by decide +kernel, rfl, by decide +kernel, by decide +kernel⟩
abbrev st_law_far : Stmt := topS 29
abbrev N_law_far : List Str := ["spring", "wide", "many", "others", "full", "near", "pairs"]
theorem sc_law_far : FnScope N_law_far ["spring"] (defScope st_law_far) := ⟨rfl, rfl, rfl, by decide +kernel, rfl, by decide +kernel, by decide +kernel⟩
abbrev st_law_joined : Stmt := topS 30
abbrev N_law_joined : List Str := ["one", "other", "between"]
theorem sc_law_joined : FnScope N_law_joined ["one", "other"] (defScope st_law_joined) := ⟨rfl, rfl, rfl, by decide +kernel, rfl, by decide +kernel, by decide +kernel⟩
abbrev st_law_fits : Stmt := topS 31
abbrev N_law_fits : List Str := ["triple", "length", "many", "others", "rest", "whole"]
theorem sc_law_fits : FnScope N_law_fits ["triple", "length", "many"] (defScope st_law_fits) := ⟨rfl, rfl, rfl, by decide +kernel, rfl, by decide +kernel, by decide +kernel⟩
abbrev st_law_right : Stmt := topS 32
abbrev N_law_right : List Str := ["counts", "triple", "length", "many", "others", "pairs", "low", "high", "later"]
theorem sc_law_right : FnScope N_law_right ["counts", "triple", "length"] (defScope st_law_right) := ⟨rfl, rfl, rfl, by decide +kernel, rfl, by decide +kernel, by decide +kernel⟩
abbrev st_law : Stmt := topS 33
abbrev N_law : List Str := ["script", "spring", "turn", "again", "triple", "counts", "times", "between", "size", "length"]
theorem sc_law : FnScope N_law ["script"] (defScope st_law) := ⟨rfl, rfl, rfl, by decide +kernel, rfl, by decide +kernel, by decide +kernel⟩
end K28
namespace K28
open PySem PySem.Spec PyProof.Rows L2 Vx
section
variable {P : Program} {w : World} {K : PySem.W.Frag} {mg : Str → Option Value} {base : Heap}
def spLaw (K : PySem.W.Frag) : Sp := fun vs H Q _ => ∃ (a : Addr) (ns : List Int), vs = [.ref a] ∧ SqL K H a (ns.map V.int) ∧ ns.length ≤ 63 ∧ ∀ H', Q (.bl true) H'

end
end K28
namespace K28
open PySem PySem.Spec PyProof.Rows L2 Vx
section
variable {P : Program} {w : World} {K : PySem.W.Frag} {mg : Str → Option Value} {base : Heap}
/-- a spring: a list of three ints, of which at most N draws are made from the seed -/
def Spr (H : Hp) (r : Addr) (N : Nat) : Prop := ∃ g sd n : Int, H r = some (.lst [.int g, .int sd, .int n]) ∧ 0 ≤ g ∧ 0 ≤ sd ∧ sd < 2 ^ 62 ∧ 0 ≤ n ∧ n ≤ (N : Int)
theorem Spr.mono {H : Hp} {r : Addr} {N M : Nat} (h : Spr H r N) (l : N ≤ M) : Spr H r M := let ⟨g, sd, n, e, h1, h2, h3, h4, h5⟩ := h; ⟨g, sd, n, e, h1, h2, h3, h4, by omega⟩
theorem Spr.same {H H' : Hp} {r : Addr} {N : Nat} (s : Same H H') (h : Spr H r N) : Spr H' r N := let ⟨g, sd, n, e, h1⟩ := h; ⟨g, sd, n, s _ _ e, h1⟩
theorem Spr.is {H : Hp} {r : Addr} {N : Nat} (h : Spr H r N) : ∃ xs, H r = some (.lst xs) := let ⟨_, _, _, e, _⟩ := h; ⟨_, e⟩
theorem Spr.ne {H : Hp} {r D : Addr} {N : Nat} (h : Spr H r N) (n : H D = none) : D ≠ r := by
  obtain ⟨xs, e⟩ := h.is
  exact (ne_of_none e n).symm
def spSpring (K : PySem.W.Frag) : Sp := fun vs H Q _ => ∃ (a : Addr) (ns : List Int), vs = [.ref a] ∧ SqL K H a (ns.map V.int) ∧ ns.length ≤ 63 ∧ ∀ (r : Addr) (H' : Hp), Same H H' → H r = none → Spr H' r 0 → Q (.ref r) H'
theorem dig_step {dg c M : Int} (h0 : 0 ≤ dg) (h : dg < M) : 0 ≤ dg * 10 ^ 60 + c % 10 ^ 60 ∧ dg * 10 ^ 60 + c % 10 ^ 60 < M * 10 ^ 60 := by
  have p : (0 : Int) < 10 ^ 60 := by decide +kernel
  have h1 := Int.emod_nonneg c (Int.ne_of_gt p)
  have h2 := Int.emod_lt_of_pos c p
  have h3 : (dg + 1) * 10 ^ 60 ≤ M * 10 ^ 60 := Int.mul_le_mul_of_nonneg_right (by omega) (Int.le_of_lt p)
  have h4 : 0 ≤ dg * 10 ^ 60 := Int.mul_nonneg h0 (Int.le_of_lt p)
  rw [Int.add_mul, Int.one_mul] at h3
  generalize c % 10 ^ 60 = u at *
  generalize M * 10 ^ 60 = w at *
  generalize dg * 10 ^ 60 = v at *
  generalize (10 : Int) ^ 60 = x at *
  omega
theorem pow_step (i : Nat) : (2 : Int) ^ (200 * i) * 10 ^ 60 ≤ 2 ^ (200 * (i + 1)) := by
  rw [show 200 * (i + 1) = 200 * i + 200 by omega, Int.pow_add]
  exact Int.mul_le_mul_of_nonneg_left (by decide +kernel) (Int.le_of_lt (Int.pow_pos (by decide)))
theorem nat_of_pow {x : Int} {n : Nat} (h0 : 0 ≤ x) (h : x < 2 ^ n) : x.natAbs < 2 ^ n := by
  have e : ((2 ^ n : Nat) : Int) = 2 ^ n := by simp
  rw [← e] at h
  omega
theorem ok_law_spring {f : Addr} {fd : FuncData} {k : Nat} (F : Fun K "_law_spring" "_law_spring" st_law_spring f fd) (m_abs : mg "abs" = none) : FnOk P w K mg base CX0 (k + 1) f fd ["script"] (spSpring K) := by
  refine F.ok sc_law_spring (fun vs H Q E h => ?_) (fun cdv A outer s H vs Q E hr h => ?_)
  · obtain ⟨a, ns, rfl, _⟩ := h; rfl
  obtain ⟨a, ns, rfl, hS, hlen, q⟩ := h
  refine ⟨_, (pss_cons (ps_asg (peq_tup (pa_cons pe_int (pa_cons pe_int pa_nil))) (pg_tup rfl (pgs_cons (pg_name (i := 1) sc_law_spring.nd rfl (Or.inl rfl)) (pgs_cons (pg_name (i := 2) sc_law_spring.nd rfl (Or.inl rfl)) pgs_nil))))
    (pss_cons (ps_for PassesOwn.never rfl (pi_list (pe_slice sl_list (pv 0) po_none (po_some pe_int))) (pg_name (i := 3) sc_law_spring.nd rfl (Or.inl rfl)) (pss_cons (ps_if (pt_cmpR op_ge (pe_callB call_abs (by rfl) m_abs (by decide +kernel) (pa_cons (pv 3) pa_nil)) (pe_op op_pow pe_int pe_int) (nomark _)) (pss_one (ps_set (i := 1) sc_law_spring.nd rfl (Or.inl rfl) (pe_op op_add (pe_op op_mulW (pv 1) (pe_op op_pow pe_int pe_int)) (pe_op op_mod (pe_callB call_abs (by rfl) m_abs (by decide +kernel) (pa_cons (pv 3) pa_nil)) (pe_op op_pow pe_int pe_int))))) pss_nil)
    (pss_one (ps_set (i := 2) sc_law_spring.nd rfl (Or.inl rfl) (pe_op op_mod (pe_op op_add (pe_op op_add (pe_op op_mulW (pv 2) pe_int) (pe_op op_mod (pv 3) pe_int)) pe_int) pe_int)))))
    (pss_one (ps_ret (peq_lst (pa_cons (pv 1) (pa_cons (pv 2) (pa_cons pe_int pa_nil)))))))), ?_⟩
  refine ⟨(by show 2 ≤ sizeLine; decide), fun T0 H1 n0 _ hH1 => ?_⟩
  have s1 : Same H H1 := by rw [hH1]; exact same_new n0
  have e1 : H1 T0 = some (.tup [.int 0, .int 904121]) := by rw [hH1]; exact upd_same
  clear hH1
  refine ⟨T0, _, rfl, SqT.of e1, rfl, _, _, rfl, _, _, rfl, rfl, ?_⟩
  refine ⟨.ref a, rfl, 63, rfl, a, ns.map V.int, rfl, s1.seq hS, fun p np => ?_⟩
  have ec : cutV (ns.map V.int) none (some 63) = ns.map V.int := by rw [show (63 : Int) = ((63 : Nat) : Int) from rfl, cut_to, List.take_of_length_le (by rw [List.length_map]; exact hlen)]
  rw [ec]
  have s2 : Same H1 (upd H1 p (.lst (ns.map V.int))) := same_new np
  have ep : (upd H1 p (.lst (ns.map V.int))) p = some (.lst (ns.map V.int)) := upd_same
  generalize upd H1 p (.lst (ns.map V.int)) = H2 at s2 ep ⊢
  refine ⟨p, rfl, ⟨_, SqL.of ep⟩, for_list (xs := ns.map V.int) (fun i σ H' => H' = H2 ∧ ∃ (dg sd : Int) (y : Option V), σ = [some (.ref a), some (.int dg), some (.int sd), y] ∧ 0 ≤ dg ∧ dg < 2 ^ (200 * i) ∧ 0 ≤ sd ∧ sd < 2 ^ 62) ⟨rfl, 0, 904121, none, rfl, by decide, by decide, by decide, by decide⟩ (fun i σ H' _ h => by rw [h.1]; exact SqL.of ep) (fun i x σ H' hx h => ?_) (fun σ H' h => ?_)⟩
  · obtain ⟨rfl, dg, sd, y, rfl, d0, d1, e0, e1⟩ := h
    have hi := (List.getElem?_eq_some_iff.mp hx).1
    rw [List.length_map] at hi
    obtain ⟨c, rfl⟩ : ∃ c, x = .int c := by
      rw [List.getElem?_map] at hx
      cases hc : ns[i]? with
      | none => rw [hc] at hx; cases hx
      | some c => rw [hc] at hx; cases hx; exact ⟨c, rfl⟩
    have p18 : (0 : Int) < 2305843009213693951 := by decide
    have nx : ∀ dg', 0 ≤ dg' → dg' < 2 ^ (200 * (i + 1)) → (H' = H' ∧ ∃ (dg2 sd2 : Int) (y2 : Option V), [some (V.ref a), some (.int dg'), some (.int ((sd * 69997 + c % 2305843009213693921 + 17) % 2305843009213693951)), some (.int c)] = [some (.ref a), some (.int dg2), some (.int sd2), y2] ∧ 0 ≤ dg2 ∧ dg2 < 2 ^ (200 * (i + 1)) ∧ 0 ≤ sd2 ∧ sd2 < 2 ^ 62) := fun dg' h0 h1 =>
      ⟨rfl, dg', _, _, rfl, h0, h1, Int.emod_nonneg _ (Int.ne_of_gt p18), Int.lt_of_lt_of_le (Int.emod_lt_of_pos _ p18) (by decide)⟩
    have w1 : sd.natAbs < 2 ^ 62 := by omega
    have w2 : (69997 : Int).natAbs < 2 ^ 20 := by decide
    refine ⟨.int c, rfl, _, rfl, 10, 18, rfl, rfl, ⟨by decide, by decide, by decide⟩, _, _, rfl, rfl, _, rfl, ite2 (fun _ => ?_) (fun _ => ?_)⟩
    · obtain ⟨h1, h2⟩ := dig_step (c := if c < 0 then -c else c) d0 d1
      have h3 := Int.lt_of_lt_of_le h2 (pow_step i)
      refine ⟨.int dg, rfl, 10, 60, rfl, rfl, ⟨by decide, by decide, by decide⟩, _, _, rfl, rfl, wide_mul (a := 200 * i + 1) (b := 200) ?_ (by decide +kernel) (by omega) (by decide) (by omega), .int c, rfl, _, rfl, 10, 60, rfl, rfl, ⟨by decide, by decide, by decide⟩, _, _, rfl, rfl, (by show (0 : Int) < 10 ^ 60; decide +kernel), _, _, rfl, rfl, ?_⟩
      · exact Nat.lt_of_lt_of_le (nat_of_pow d0 d1) (Nat.pow_le_pow_right (by decide) (by omega))
      exact ⟨.int sd, rfl, _, _, rfl, rfl, wide_mul w1 w2 (by decide) (by decide) (by decide), .int c, rfl, _, _, rfl, rfl, (by show (0 : Int) < 2305843009213693921; decide), _, _, rfl, rfl, _, _, rfl, rfl, _, _, rfl, rfl, p18, nx _ h1 h3⟩
    · exact ⟨.int sd, rfl, _, _, rfl, rfl, wide_mul w1 w2 (by decide) (by decide) (by decide), .int c, rfl, _, _, rfl, rfl, (by show (0 : Int) < 2305843009213693921; decide), _, _, rfl, rfl, _, _, rfl, rfl, _, _, rfl, rfl, p18, nx _ d0 (Int.lt_of_lt_of_le d1 (Int.le_trans (by
        have : (0 : Int) < 2 ^ (200 * i) := Int.pow_pos (by decide)
        have h2 : (2 : Int) ^ (200 * i) * 1 ≤ 2 ^ (200 * i) * 10 ^ 60 := Int.mul_le_mul_of_nonneg_left (by decide +kernel) (Int.le_of_lt this)
        rw [Int.mul_one] at h2; exact h2) (pow_step i)))⟩
  · obtain ⟨rfl, dg, sd, y, rfl, d0, d1, e0, e1⟩ := h
    refine ⟨.int dg, rfl, .int sd, rfl, (by show 3 ≤ sizeLine; decide), fun r H3 nr _ hH3 => ?_⟩
    have s3 : Same H' H3 := by rw [hH3]; exact same_new nr
    have nr0 : H r = none := by
      cases e : H r with
      | none => rfl
      | some o => rw [s2 _ _ (s1 _ _ e)] at nr; cases nr
    exact q r H3 (s1.trans (s2.trans s3)) nr0 ⟨dg, sd, 0, by rw [hH3]; exact upd_same, d0, e0, e1, Int.le_refl _, Int.le_refl _⟩
/-- a draw: an integer from 0 to many - 1 -/
def spDrawS (cap ex : Nat) (top : Int) : Sp := fun vs H Q _ => ∃ (r : Addr) (m : Int) (N : Nat), vs = [.ref r, .int m] ∧ Spr H r N ∧ N ≤ cap ∧ 1 ≤ m ∧ m ≤ top ∧ ∀ (d : Int) (H' : Hp), 0 ≤ d → d < m → Keep r H H' → Spr H' r (N + ex) → Q (.int d) H'
theorem cube_lt {x : Int} {b : Nat} (h : x.natAbs < 2 ^ b) : x.natAbs < 2 ^ b := h
theorem law_drawX {f : Addr} {fd : FuncData} {k j : Nat} {sp : Sp} {top : Int} {cap ex : Nat} (hcap : cap ≤ 1000001) (hex : 1 ≤ ex) (ht : top.natAbs < 2 ^ 8000) (F_law_draw : Fun K "_law_draw" "_law_draw" st_law_draw f fd) (G_law_draw : FnOk P w K mg base CX0 j f fd ["spring", "many"] sp) (hj : j ≤ k) (b_law_draw : Binds K fd ["spring", "many"] []) (g_law_draw : mg "_law_draw" = some (.ref f))
    (hrec : top ≤ 10 ^ 20 ∨ (sp = spDrawS 1000001 1 (10 ^ 20) ∧ cap ≤ 1000000 ∧ 2 ≤ ex)) : FnOk P w K mg base CX0 (k + 1) f fd ["spring", "many"] (spDrawS cap ex top) := by
  refine F_law_draw.ok sc_law_draw (fun vs H Q E h => ?_) (fun cdv A outer s H vs Q E hr h => ?_)
  · obtain ⟨r, m, N, rfl, _⟩ := h; rfl
  obtain ⟨r, m, N, rfl, ⟨g, sd, n, e, g0, s0, s1, n0, n1⟩, hN, m1, mt, q⟩ := h
  have m0 : (0 : Int) < m := by omega
  have hmb : m.natAbs < 2 ^ 8000 := Nat.lt_of_le_of_lt (by omega) ht
  refine ⟨_, (pss_cons (ps_if (pt_cmpR op_gt (pe_ix ix_list (pv 0) pe_int (fun _ _ => rfl)) pe_int (nomark _)) (pss_cons (ps_set (i := 2) sc_law_draw.nd rfl (Or.inl rfl) (pe_op op_mod (pe_ix ix_list (pv 0) pe_int (fun _ _ => rfl)) (pv 1)))
    (pss_cons (ps_asg (pe_op op_fdivW (pe_ix ix_list (pv 0) pe_int (fun _ _ => rfl)) (pv 1)) (pg_sub (pv 0) pe_int setq_list))
    (pss_one (ps_ret (pv 2))))) pss_nil)
    (pss_cons (ps_asg (pe_op op_add (pe_ix ix_list (pv 0) pe_int (fun _ _ => rfl)) pe_int) (pg_sub (pv 0) pe_int setq_list))
    (pss_cons (ps_set (i := 3) sc_law_draw.nd rfl (Or.inl rfl) (pe_op op_mod (pe_op op_powW (pe_op op_add (pe_ix ix_list (pv 0) pe_int (fun _ _ => rfl)) (pe_op op_mulW pe_int (pe_ix ix_list (pv 0) pe_int (fun _ _ => rfl)))) pe_int) pe_int))
    (pss_cons (ps_set (i := 3) sc_law_draw.nd rfl (Or.inl rfl) (pe_op op_mod (pe_op op_powW (pe_op op_add (pv 3) (pe_op op_mulW pe_int (pe_ix ix_list (pv 0) pe_int (fun _ _ => rfl)))) pe_int) pe_int))
    (pss_cons (ps_if (pt_cmpR op_gt (pv 1) (pe_op op_pow pe_int pe_int) (nomark _)) (pss_one (ps_ret (pe_op op_mod (pe_op op_fdivW (pe_op op_add (pe_op op_mulW (pv 3) pe_int) (pe_call G_law_draw (hr.mono (by omega)) (by rfl) g_law_draw F_law_draw.kp b_law_draw .nil pass0 (pa_cons (pv 0) (pa_cons (pe_op op_pow pe_int pe_int) pa_nil)))) pe_int) (pv 1)))) pss_nil)
    (pss_one (ps_ret (pe_op op_mod (pe_op op_fdivW (pv 3) pe_int) (pv 1))))))))), ?_⟩
  refine ⟨.ref r, rfl, r, _, 0, .int g, rfl, rfl, SqL.of e, rfl, _, _, rfl, rfl, _, rfl, ite2 (fun h => ?_) (fun h => ?_)⟩
  · refine ⟨.ref r, rfl, r, _, 0, .int g, rfl, rfl, SqL.of e, rfl, .int m, rfl, _, _, rfl, rfl, m0, ?_⟩
    refine ⟨.ref r, rfl, r, _, 0, .int g, rfl, rfl, SqL.of e, rfl, .int m, rfl, g, m, rfl, rfl, wide_div m0 hmb (by decide) (by decide), ?_⟩
    refine ⟨.ref r, rfl, r, _, 0, 0, rfl, rfl, e, rfl, fun H2 hH2 => ?_⟩
    have k2 : Keep r H H2 := by rw [hH2]; exact Keep.put (Keep.refl H)
    have e2 : H2 r = some (.lst [.int (g / m), .int sd, .int n]) := by rw [hH2]; exact upd_same
    clear hH2
    exact ⟨.int (g % m), rfl, q _ _ (Int.emod_nonneg _ (by omega)) (Int.emod_lt_of_pos _ m0) k2 ⟨g / m, sd, n, e2, Int.ediv_nonneg g0 (by omega), s0, s1, n0, by omega⟩⟩
  refine ⟨.ref r, rfl, r, _, 2, .int n, rfl, rfl, SqL.of e, rfl, _, _, rfl, rfl, .ref r, rfl, r, _, 2, 2, rfl, rfl, e, rfl, fun H2 hH2 => ?_⟩
  have k2 : Keep r H H2 := by rw [hH2]; exact Keep.put (Keep.refl H)
  have e2 : H2 r = some (.lst [.int g, .int sd, .int (n + 1)]) := by rw [hH2]; exact upd_same
  clear hH2
  have w1 : (275604541 : Int).natAbs < 2 ^ 30 := by decide
  have w2 : (n + 1).natAbs < 2 ^ 30 := by omega
  have w3 : (49979687 : Int).natAbs < 2 ^ 30 := by decide
  have w4 : (275604541 * (n + 1)).natAbs < 2 ^ 61 := by omega
  have w5 : (49979687 * (n + 1)).natAbs < 2 ^ 61 := by omega
  refine ⟨.ref r, rfl, r, _, 1, .int sd, rfl, rfl, SqL.of e2, rfl, .ref r, rfl, r, _, 2, .int (n + 1), rfl, rfl, SqL.of e2, rfl, _, _, rfl, rfl, wide_mul w1 w2 (by decide) (by decide) (by decide), _, _, rfl, rfl, _, 3, rfl, rfl, ⟨by decide, by decide, ?_⟩, _, _, rfl, rfl, (by show (0 : Int) < 170141183460469231731687303715884105727; decide), ?_⟩
  · exact Nat.lt_of_lt_of_le (show (sd + 275604541 * (n + 1)).natAbs < 2 ^ 63 by omega) (Nat.pow_le_pow_right (by decide) (by decide))
  have a0 := Int.emod_nonneg ((sd + 275604541 * (n + 1)) ^ (3 : Int).toNat) (show (170141183460469231731687303715884105727 : Int) ≠ 0 by decide)
  have a1 := Int.emod_lt_of_pos ((sd + 275604541 * (n + 1)) ^ (3 : Int).toNat) (show (0 : Int) < 170141183460469231731687303715884105727 by decide)
  dsimp only
  generalize (sd + 275604541 * (n + 1)) ^ (3 : Int).toNat % 170141183460469231731687303715884105727 = mixed at a0 a1 ⊢
  refine ⟨.int mixed, rfl, .ref r, rfl, r, _, 2, .int (n + 1), rfl, rfl, SqL.of e2, rfl, _, _, rfl, rfl, wide_mul w3 w2 (by decide) (by decide) (by decide), _, _, rfl, rfl, _, 3, rfl, rfl, ⟨by decide, by decide, ?_⟩, _, _, rfl, rfl, (by show (0 : Int) < 162259276829213363391578010288127; decide), ?_⟩
  · exact Nat.lt_of_lt_of_le (show (mixed + 49979687 * (n + 1)).natAbs < 2 ^ 128 by omega) (Nat.pow_le_pow_right (by decide) (by decide))
  have b0 := Int.emod_nonneg ((mixed + 49979687 * (n + 1)) ^ (3 : Int).toNat) (show (162259276829213363391578010288127 : Int) ≠ 0 by decide)
  have b1 := Int.emod_lt_of_pos ((mixed + 49979687 * (n + 1)) ^ (3 : Int).toNat) (show (0 : Int) < 162259276829213363391578010288127 by decide)
  dsimp only
  generalize (mixed + 49979687 * (n + 1)) ^ (3 : Int).toNat % 162259276829213363391578010288127 = mx at b0 b1 ⊢
  have sp2 : Spr H2 r (N + 1) := ⟨g, sd, n + 1, e2, g0, s0, s1, by omega, by omega⟩
  refine ⟨.int m, rfl, 10, 20, rfl, rfl, ⟨by decide, by decide, by decide⟩, _, _, rfl, rfl, _, rfl, ite2 (fun hm => ?_) (fun hm => ?_)⟩
  · have hm : (10 : Int) ^ 20 < m := of_decide_eq_true hm
    rcases hrec with hle | ⟨rfl, hc0, he2⟩
    · exact absurd hm (Int.not_lt.mpr (Int.le_trans mt hle))
    refine ⟨.int mx, rfl, _, _, rfl, rfl, wide_mul (a := 110) (b := 110) (by omega) (by decide) (by decide) (by decide) (by decide), .ref r, rfl, 10, 20, rfl, rfl, ⟨by decide, by decide, by decide⟩, r, _, N + 1, rfl, sp2, by omega, by decide, Int.le_refl _, fun d H3 l3 u3 k3 R3 => ?_⟩
    exact ⟨_, _, rfl, rfl, _, _, rfl, rfl, wide_div (b := 3) (by decide) (by decide) (by decide) (by decide), .int m, rfl, _, _, rfl, rfl, m0, q _ _ (Int.emod_nonneg _ (by omega)) (Int.emod_lt_of_pos _ m0) (k2.trans k3) (R3.mono (by omega))⟩
  · exact ⟨.int mx, rfl, _, _, rfl, rfl, wide_div (b := 21) (by decide) (by decide) (by decide) (by decide), .int m, rfl, _, _, rfl, rfl, m0, q _ _ (Int.emod_nonneg _ (by omega)) (Int.emod_lt_of_pos _ m0) k2 (sp2.mono (by omega))⟩
theorem ok_law_draw {f : Addr} {fd : FuncData} {k : Nat} (F : Fun K "_law_draw" "_law_draw" st_law_draw f fd) (b_law_draw : Binds K fd ["spring", "many"] []) (g_law_draw : mg "_law_draw" = some (.ref f)) : FnOk P w K mg base CX0 (k + 2) f fd ["spring", "many"] (spDrawS 1000000 2 (2 ^ 7990)) := by
  have G1 : FnOk P w K mg base CX0 1 f fd ["spring", "many"] (spDrawS 1000001 1 (10 ^ 20)) := law_drawX (k := 0) (j := 0) (sp := fun _ _ _ _ => False) (Nat.le_refl _) (Nat.le_refl _) (by decide +kernel) F fn_no (Nat.le_refl _) b_law_draw g_law_draw (.inl (Int.le_refl _))
  exact law_drawX (k := k + 1) (j := 1) (by decide) (by decide) (by
    have e : ((2 : Int) ^ 7990).natAbs = 2 ^ 7990 := by rw [Int.natAbs_pow]; rfl
    rw [e]
    exact Nat.pow_lt_pow_right (by decide) (by decide)) F G1 (by omega) b_law_draw g_law_draw (.inr ⟨rfl, Nat.le_refl _, Nat.le_refl _⟩)

end
end K28
namespace K28
open PySem PySem.Spec PyProof.Rows L2 Vx
section
variable {P : Program} {w : World} {K : PySem.W.Frag} {mg : Str → Option Value} {base : Heap}
theorem ok_is_integer {f : Addr} {fd : FuncData} {k : Nat} (F : Fun K "is_integer" "is_integer" st_is_integer f fd) (m_isinstance : mg "isinstance" = none) (m_int : mg "int" = none) (m_bool : mg "bool" = none) : FnOk P w K mg base CX0 (k + 1) f fd ["value"] (spIsInt K) := by
  refine F.ok sc_is_integer (fun vs H Q E h => ?_) (fun cdv A outer s H vs Q E hr h => ?_)
  · obtain ⟨x, rfl, _⟩ := h; rfl
  obtain ⟨x, rfl, h⟩ := h
  refine ⟨_, (pss_one (ps_ret (pe_and (pe_callB call_isi (by rfl) m_isinstance (by decide +kernel) (pa_cons (pv 0) (pa_cons (pe_bltn (by rfl) m_int (by decide +kernel) (show RelV (.ty "int") (.type "int") from rfl)) pa_nil))) (pe_one (pe_not (pe_callB call_isi (by rfl) m_isinstance (by decide +kernel) (pa_cons (pv 0) (pa_cons (pe_bltn (by rfl) m_bool (by decide +kernel) (show RelV (.ty "bool") (.type "bool") from rfl)) pa_nil)))))))), ?_⟩
  rcases h with ⟨i, rfl, q⟩ | ⟨b, rfl, q⟩ | ⟨t, ty, ht, q⟩
  · exact ⟨_, rfl, _, _, _, _, _, rfl, .ty "int", .base (.int _), kit_ty (b := "int") (r := true) (by decide +kernel), true, rfl, _, rfl, _, _, _, _, _, rfl, .ty "bool", .base (.int _), kit_ty (b := "bool") (r := false) (by decide +kernel), false, rfl, q⟩
  · exact ⟨_, rfl, _, _, _, _, _, rfl, .ty "int", .base (.bl _), kit_ty (b := "int") (r := true) (by decide +kernel), true, rfl, _, rfl, _, _, _, _, _, rfl, .ty "bool", .base (.bl _), kit_ty (b := "bool") (r := true) (by decide +kernel), true, rfl, q⟩
  · exact ⟨_, rfl, _, _, _, _, _, rfl, .ty "int", ty, ht, false, rfl, q⟩

end
end K28
namespace K28
open PySem PySem.Spec PyProof.Rows L2 Vx
section
variable {P : Program} {w : World} {K : PySem.W.Frag} {mg : Str → Option Value} {base : Heap}
theorem ok_are_counts {f f1 : Addr} {fd fd1 : FuncData} {k : Nat} (F : Fun K "are_counts" "are_counts" st_are_counts f fd) (F_is_integer : Fun K "is_integer" "is_integer" st_is_integer f1 fd1) (G_is_integer : FnOk P w K mg base CX0 1 f1 fd1 ["value"] (spIsInt K)) (b_is_integer : Binds K fd1 ["value"] []) (g_is_integer : mg "is_integer" = some (.ref f1)) : FnOk P w K mg base CX0 (k + 2) f fd ["many_a", "many_b", "pairs"] spAre := by
  refine F.ok sc_are_counts (fun vs H Q E h => ?_) (fun cdv A outer s H vs Q E hr h => ?_)
  · obtain ⟨a, b, p, rfl, _⟩ := h; rfl
  obtain ⟨a, b, p, rfl, c, q⟩ := h
  refine ⟨_, (pss_cons (ps_for PassesOwn.never rfl (pi_tup (peq_tup (pa_cons (pv 0) (pa_cons (pv 1) (pa_cons (pv 2) pa_nil))))) (pg_name (i := 3) sc_are_counts.nd rfl (Or.inl rfl)) (pss_one (ps_if (PW.pt (pw_or (pt_not (pt_val (pe_call G_is_integer (hr.mono (by omega)) (by rfl) g_is_integer F_is_integer.kp b_is_integer .nil pass0 (pa_cons (pv 3) pa_nil)))) (pw_or1 (pt_cmpR op_lt (pv 3) pe_int (nomark _))))) (pss_one (ps_ret pe_bl)) pss_nil)))
    (pss_one (ps_ret (pe_cmpR op_le (pv 2) (pe_op op_mulW (pv 0) (pv 1)) (nomark _))))), ?_⟩
  refine ⟨.int a, rfl, .int b, rfl, .int p, rfl, (by show 3 ≤ sizeLine; decide), fun T H1 nT _ hH1 => ?_⟩
  have s1 : Same H H1 := by rw [hH1]; exact same_new nT
  have e1 : H1 T = some (.tup [.int a, .int b, .int p]) := by rw [hH1]; exact upd_same
  clear hH1
  refine ⟨T, rfl, ⟨_, SqT.of e1⟩, for_tup (xs := [.int a, .int b, .int p]) (fun i σ H' => Same H1 H' ∧ ∃ y, σ = [some (.int a), some (.int b), some (.int p), y]) ⟨fun _ _ h => h, none, rfl⟩ (fun i σ H' _ h => SqT.of (h.1 _ _ e1)) (fun i x σ H' hx h => ?_) (fun σ H' h => ?_)⟩
  · obtain ⟨s2, y, rfl⟩ := h
    obtain ⟨z, rfl, z0⟩ : ∃ z : Int, x = .int z ∧ 0 ≤ z := by
      have hm := List.mem_of_getElem? hx
      simp only [List.mem_cons, List.not_mem_nil, or_false] at hm
      rcases hm with rfl | rfl | rfl
      · exact ⟨a, rfl, c.a0⟩
      · exact ⟨b, rfl, c.b0⟩
      · exact ⟨p, rfl, c.p0⟩
    refine ⟨.int z, rfl, .int z, rfl, .inl ⟨z, rfl, true, rfl, .int z, rfl, _, _, rfl, rfl, false, by show V.bl (decide (z < 0)) = V.bl false; rw [decide_eq_false (by omega)], ?_⟩⟩
    exact ⟨s2, _, rfl⟩
  · obtain ⟨s2, y, rfl⟩ := h
    refine ⟨.int p, rfl, .int a, rfl, .int b, rfl, a, b, rfl, rfl, wide_mul c.ba c.bb (by decide) (by decide) (by decide), _, _, rfl, rfl, ?_⟩
    show Q (V.bl (decide (p ≤ a * b))) H'
    rw [decide_eq_true c.pm]
    exact q _ (s1.trans s2)
theorem ok_c_init {C f f1 : Addr} {fd fd1 : FuncData} {k : Nat} (F : Fun K "__init__" "Counts.__init__" st_c_init f fd) (T_c : CT K mg C) (F_are_counts : Fun K "are_counts" "are_counts" st_are_counts f1 fd1) (G_are_counts : FnOk P w K mg base CX0 2 f1 fd1 ["many_a", "many_b", "pairs"] spAre) (b_are_counts : Binds K fd1 ["many_a", "many_b", "pairs"] []) (g_are_counts : mg "are_counts" = some (.ref f1)) : FnOk P w K mg base CX0 (k + 3) f fd ["self", "many_a", "many_b", "pairs"] (spInit C) := by
  refine F.ok sc_c_init (fun vs H Q E h => ?_) (fun cdv A outer s H vs Q E hr h => ?_)
  · obtain ⟨x, dx, a, b, p, rfl, _⟩ := h; rfl
  obtain ⟨x, dx, a, b, p, rfl, hx, c, q⟩ := h
  refine ⟨_, (pss_cons (ps_if (pt_not (pt_val (pe_call G_are_counts (hr.mono (by omega)) (by rfl) g_are_counts F_are_counts.kp b_are_counts .nil pass0 (pa_cons (pv 1) (pa_cons (pv 2) (pa_cons (pv 3) pa_nil)))))) (pss_one ps_never) pss_nil)
    (pss_cons (ps_fld (pv 0) (pv 1) rfl)
    (pss_cons (ps_fld (pv 0) (pv 2) rfl)
    (pss_one (ps_fld (pv 0) (pv 3) rfl))))), ?_⟩
  refine ⟨.int a, rfl, .int b, rfl, .int p, rfl, a, b, p, rfl, c, fun H1 s1 => ?_⟩
  refine ⟨true, rfl, ?_⟩
  have e1 := s1 _ _ hx
  refine ⟨.int a, rfl, .ref x, rfl, x, C, dx, [], rfl, e1, T_c.cl, T_c.nA, (by show 0 < 1000; decide), ?_⟩
  refine ⟨.int b, rfl, .ref x, rfl, x, C, dx, _, rfl, upd_same, T_c.cl, T_c.nB, (by show 1 < 1000; decide), ?_⟩
  refine ⟨.int p, rfl, .ref x, rfl, x, C, dx, _, rfl, upd_same, T_c.cl, T_c.nP, ?_, ?_⟩
  · exact Nat.lt_of_le_of_lt (putF_len _ _ _) (Nat.succ_lt_succ (Nat.lt_of_le_of_lt (putF_len _ _ _) (by show 1 < 999; decide)))
  · exact q _ ⟨dx, upd_same⟩ ((((Keep.of s1).put).put).put)

end
end K28
namespace K28
open PySem PySem.Spec PyProof.Rows L2 Vx
section
variable {P : Program} {w : World} {K : PySem.W.Frag} {mg : Str → Option Value} {base : Heap}
theorem COk.inv {a b p : Int} (c : COk a b p) : COk a b (a * b - p) := ⟨c.a0, c.b0, by have := c.pm; omega, by have := c.p0; omega, c.ba, c.bb⟩
theorem COk.neg {a b p : Int} (c : COk a b p) : COk b a (a * b - p) := ⟨c.b0, c.a0, by have := c.pm; omega, by have := c.p0; rw [Int.mul_comm b a]; omega, c.bb, c.ba⟩
/-- the counts of the row from behind -/
def spInv (C : Addr) : Sp := fun vs H Q _ => ∃ (x : Addr) (a b p : Int), vs = [.ref x] ∧ CountsAt C H x a b p ∧ COk a b p ∧ ∀ (y : Addr) (H' : Hp), Same H H' → CountsAt C H' y a b (a * b - p) → Q (.ref y) H'
theorem ok_c_invert {C f f3 : Addr} {fd fd3 : FuncData} {k : Nat} (F : Fun K "__invert__" "Counts.__invert__" st_c_invert f fd) (T_c : CT K mg C) (M_c : Mk K C f3) (G_c_init : FnOk P w K mg base CX0 3 f3 fd3 ["self", "many_a", "many_b", "pairs"] (spInit C)) (b_c_init : Binds K fd3 ["self", "many_a", "many_b", "pairs"] []) : FnOk P w K mg base CX0 (k + 5) f fd ["self"] (spInv C) := by
  refine F.ok sc_c_invert (fun vs H Q E h => ?_) (fun cdv A outer s H vs Q E hr h => ?_)
  · obtain ⟨x, a, b, p, rfl, _⟩ := h; rfl
  obtain ⟨x, a, b, p, rfl, ⟨dx, e⟩, c, q⟩ := h
  refine ⟨_, (pss_one (ps_ret (pe_make M_c G_c_init (hr.mono (by omega)) (by rfl) T_c.mg b_c_init .nil pass0 (pa_cons (pe_fld (pv 0) rfl) (pa_cons (pe_fld (pv 0) rfl) (pa_cons (pe_op op_sub (pe_op op_mulW (pe_fld (pv 0) rfl) (pe_fld (pv 0) rfl)) (pe_fld (pv 0) rfl)) pa_nil)))))), ?_⟩
  refine ⟨.ref x, rfl, x, C, dx, _, _, rfl, e, T_c.cl, T_c.nA, flds_a _ _ _, .ref x, rfl, x, C, dx, _, _, rfl, e, T_c.cl, T_c.nB, flds_b _ _ _,
    .ref x, rfl, x, C, dx, _, _, rfl, e, T_c.cl, T_c.nA, flds_a _ _ _, .ref x, rfl, x, C, dx, _, _, rfl, e, T_c.cl, T_c.nB, flds_b _ _ _, _, _, rfl, rfl, wide_mul c.ba c.bb (by decide) (by decide) (by decide),
    .ref x, rfl, x, C, dx, _, _, rfl, e, T_c.cl, T_c.nP, flds_p _ _ _, _, _, rfl, rfl, fun y dy ny ndy _ => ?_⟩
  exact mkC ny ndy (COk.inv c) fun H2 s2 hc => q y H2 s2 hc
/-- the counts of the row with all letters exchanged -/
def spNeg (C : Addr) : Sp := fun vs H Q _ => ∃ (x : Addr) (a b p : Int), vs = [.ref x] ∧ CountsAt C H x a b p ∧ COk a b p ∧ ∀ (y : Addr) (H' : Hp), Same H H' → CountsAt C H' y b a (a * b - p) → Q (.ref y) H'
theorem ok_c_neg {C f f3 : Addr} {fd fd3 : FuncData} {k : Nat} (F : Fun K "__neg__" "Counts.__neg__" st_c_neg f fd) (T_c : CT K mg C) (M_c : Mk K C f3) (G_c_init : FnOk P w K mg base CX0 3 f3 fd3 ["self", "many_a", "many_b", "pairs"] (spInit C)) (b_c_init : Binds K fd3 ["self", "many_a", "many_b", "pairs"] []) : FnOk P w K mg base CX0 (k + 5) f fd ["self"] (spNeg C) := by
  refine F.ok sc_c_neg (fun vs H Q E h => ?_) (fun cdv A outer s H vs Q E hr h => ?_)
  · obtain ⟨x, a, b, p, rfl, _⟩ := h; rfl
  obtain ⟨x, a, b, p, rfl, ⟨dx, e⟩, c, q⟩ := h
  refine ⟨_, (pss_one (ps_ret (pe_make M_c G_c_init (hr.mono (by omega)) (by rfl) T_c.mg b_c_init .nil pass0 (pa_cons (pe_fld (pv 0) rfl) (pa_cons (pe_fld (pv 0) rfl) (pa_cons (pe_op op_sub (pe_op op_mulW (pe_fld (pv 0) rfl) (pe_fld (pv 0) rfl)) (pe_fld (pv 0) rfl)) pa_nil)))))), ?_⟩
  refine ⟨.ref x, rfl, x, C, dx, _, _, rfl, e, T_c.cl, T_c.nB, flds_b _ _ _, .ref x, rfl, x, C, dx, _, _, rfl, e, T_c.cl, T_c.nA, flds_a _ _ _,
    .ref x, rfl, x, C, dx, _, _, rfl, e, T_c.cl, T_c.nA, flds_a _ _ _, .ref x, rfl, x, C, dx, _, _, rfl, e, T_c.cl, T_c.nB, flds_b _ _ _, _, _, rfl, rfl, wide_mul c.ba c.bb (by decide) (by decide) (by decide),
    .ref x, rfl, x, C, dx, _, _, rfl, e, T_c.cl, T_c.nP, flds_p _ _ _, _, _, rfl, rfl, fun y dy ny ndy _ => ?_⟩
  exact mkC ny ndy (COk.neg c) fun H2 s2 hc => q y H2 s2 hc
/-- ~x, -x as operands -/
theorem readI {C x : Addr} {H : Hp} {a b p : Int} {Q : VK} (hx : CountsAt C H x a b p) (c : COk a b p) (h : ∀ (y : Addr) (H' : Hp), Same H H' → CountsAt C H' y a b (a * b - p) → Q (.ref y) H') : rUnOwn C (fun vs H Q E => spInv C (vs ++ []) H Q E) E0 (.ref x) H Q := by
  obtain ⟨dx, e⟩ := hx
  exact ⟨x, dx, _, rfl, e, x, a, b, p, rfl, ⟨dx, e⟩, c, h⟩
theorem readN {C x : Addr} {H : Hp} {a b p : Int} {Q : VK} (hx : CountsAt C H x a b p) (c : COk a b p) (h : ∀ (y : Addr) (H' : Hp), Same H H' → CountsAt C H' y b a (a * b - p) → Q (.ref y) H') : rUnOwn C (fun vs H Q E => spNeg C (vs ++ []) H Q E) E0 (.ref x) H Q := by
  obtain ⟨dx, e⟩ := hx
  exact ⟨x, dx, _, rfl, e, x, a, b, p, rfl, ⟨dx, e⟩, c, h⟩

end
end K28
namespace K28
open PySem PySem.Spec PyProof.Rows L2 Vx
section
variable {P : Program} {w : World} {K : PySem.W.Frag} {mg : Str → Option Value} {base : Heap}
/-- so many a can be the letters a among the first l letters, as far as their least pairs go -/
def Am (a b p l g : Int) : Prop := 0 ≤ g ∧ g ≤ a ∧ g ≤ l ∧ g * (b - l + g) ≤ p
def IsMax (a b p l g : Int) : Prop := Am a b p l g ∧ (g = a ∨ g = l ∨ p < (g + 1) * (b - l + (g + 1)))
theorem prod_mono {s t u v : Int} (h0 : 0 ≤ s) (h1 : s ≤ t) (h2 : 0 ≤ u) (h3 : u ≤ v) : s * u ≤ t * v := Int.mul_le_mul h1 h3 h2 (by omega)
theorem pos_of {s u p : Int} (hs : 0 ≤ s) (hp : 0 ≤ p) (h : p < s * u) : 0 < u := by
  refine Int.not_le.mp fun z => ?_
  have := Int.mul_le_mul_of_nonneg_left z hs
  rw [Int.mul_zero] at this
  omega
theorem IsMax.top {a b p l g t : Int} (hp : 0 ≤ p) (h : IsMax a b p l g) (ht : Am a b p l t) : t ≤ g := by
  obtain ⟨⟨g0, ga, gl, gp⟩, hm⟩ := h
  obtain ⟨t0, ta, tl, tp⟩ := ht
  refine Int.not_lt.mp fun z => ?_
  rcases hm with h | h | h
  · omega
  · omega
  · have hpos := pos_of (by omega) hp h
    have := prod_mono (show 0 ≤ g + 1 by omega) (show g + 1 ≤ t by omega) (Int.le_of_lt hpos) (show b - l + (g + 1) ≤ b - l + t by omega)
    omega
theorem IsMax.uniq {a b p l g t : Int} (hp : 0 ≤ p) (h : IsMax a b p l g) (ht : IsMax a b p l t) : g = t := by
  have h1 := IsMax.top hp h ht.1
  have h2 := IsMax.top hp ht h.1
  omega
/-- what is left behind -/
theorem IsMax.room {a b p l g : Int} (hl : l ≤ a + b) (hb : 0 ≤ b) (hp : 0 ≤ p) (h : IsMax a b p l g) : 0 ≤ b - l + g := by
  obtain ⟨⟨g0, ga, gl, gp⟩, hm⟩ := h
  rcases hm with h | h | h
  · omega
  · omega
  · have := pos_of (by omega) hp h
    omega
/-- the whole part of the root gives the greatest number -/
theorem root_max {a b p l r : Int} (ha : 0 ≤ a) (hb : 0 ≤ b) (hl0 : 0 ≤ l) (hp : 0 ≤ p) (r0 : 0 ≤ r) (h1 : r * r ≤ (b - l) * (b - l) + 4 * p) (h2 : (b - l) * (b - l) + 4 * p < (r + 1) * (r + 1)) {g : Int}
    (g1 : g ≤ (r - (b - l)) / 2) (g2 : g ≤ a) (g3 : g ≤ l) (gm : g = (r - (b - l)) / 2 ∨ g = a ∨ g = l) : IsMax a b p l g := by
  unfold IsMax Am
  generalize b - l = c at *
  have sq : ∀ x y : Int, 0 ≤ x → x ≤ y → x * x ≤ y * y := fun x y h0 h => Int.mul_le_mul h h h0 (by omega)
  have e4 : ∀ t : Int, (2 * t + c) * (2 * t + c) = 4 * (t * (c + t)) + c * c := fun t => by
    simp only [Int.mul_add, Int.add_mul]
    have e1 : 2 * t * (2 * t) = 4 * (t * t) := by rw [Int.mul_assoc 2 t (2 * t), Int.mul_left_comm t 2 t]; omega
    have e2 : c * (2 * t) = 2 * (t * c) := by rw [Int.mul_comm c, Int.mul_assoc]
    have e3 : 2 * t * c = 2 * (t * c) := Int.mul_assoc ..
    rw [e1, e2, e3]; omega
  -- r is at least c without its sign
  have rc : c ≤ r ∧ -c ≤ r := by
    constructor
    · refine Int.not_lt.mp fun z => ?_
      have := sq (r + 1) c (by omega) (by omega)
      omega
    · refine Int.not_lt.mp fun z => ?_
      have := sq (r + 1) (-c) (by omega) (by omega)
      rw [Int.neg_mul_neg] at this
      omega
  have g0 : 0 ≤ g := by
    rcases gm with h | h | h
    · rw [h]; omega
    · omega
    · omega
  refine ⟨⟨g0, g2, g3, ?_⟩, ?_⟩
  · by_cases hs : 0 ≤ 2 * g + c
    · have h := sq (2 * g + c) r hs (by omega)
      rw [e4] at h
      omega
    · have hn : c + g ≤ 0 := by omega
      have := Int.mul_le_mul_of_nonneg_left hn g0
      rw [Int.mul_zero] at this
      omega
  · rcases gm with h | h | h
    · right; right
      have hge : r + 1 ≤ 2 * (g + 1) + c := by omega
      have h' := sq (r + 1) (2 * (g + 1) + c) (by omega) hge
      rw [e4] at h'
      omega
    · exact .inl h
    · exact .inr (.inl h)
/-- so many a fit in -/
def Fits (a b p l j : Int) : Prop := 0 ≤ j ∧ j ≤ a ∧ 0 ≤ l - j ∧ l - j ≤ b ∧ j * (b - (l - j)) ≤ p ∧ p ≤ j * (l - j) + (a - j) * (b - (l - j)) + j * (b - (l - j))
theorem ab_split (a b l j : Int) : j * (l - j) + (a - j) * (b - (l - j)) + j * (b - (l - j)) + (l - j) * (a - j) = a * b := by
  obtain ⟨x, rfl⟩ : ∃ x, a = j + x := ⟨a - j, by omega⟩
  obtain ⟨v, rfl⟩ : ∃ v, l = j + v := ⟨l - j, by omega⟩
  obtain ⟨y, rfl⟩ : ∃ y, b = v + y := ⟨b - v, by omega⟩
  rw [show j + v - j = v by omega, show j + x - j = x by omega, show v + y - v = y by omega]
  simp only [Int.mul_add, Int.add_mul]
  rw [Int.mul_comm v x]; omega
theorem IsMax.fits {a b p l g : Int} (hb : 0 ≤ b) (hl : l ≤ a + b) (hp : 0 ≤ p) (hm : p ≤ a * b) (h : IsMax a b p l g) : Fits a b p l g := by
  have hr := h.room hl hb hp
  obtain ⟨⟨g0, ga, gl, gp⟩, ht⟩ := h
  have es := ab_split a b l g
  have e1 : b - (l - g) = b - l + g := by omega
  unfold Fits
  rw [e1] at es ⊢
  refine ⟨g0, ga, by omega, by omega, gp, ?_⟩
  rcases ht with h | h | h
  · rw [show a - g = 0 by omega] at es ⊢
    rw [Int.mul_zero] at es
    omega
  · rw [show l - g = 0 by omega] at es ⊢
    rw [Int.zero_mul] at es
    omega
  · by_cases hx : a - g = 0
    · rw [hx] at es ⊢
      rw [Int.mul_zero] at es
      omega
    by_cases hv : l - g = 0
    · rw [hv] at es ⊢
      rw [Int.zero_mul] at es
      omega
    obtain ⟨y, hy⟩ : ∃ y, y = b - l + g := ⟨_, rfl⟩
    rw [show b - l + (g + 1) = y + 1 by omega] at h
    rw [← hy] at hr ⊢
    have h1 := Int.mul_le_mul_of_nonneg_left (show 1 ≤ l - g by omega) g0
    have h2 := Int.mul_le_mul_of_nonneg_right (show 1 ≤ a - g by omega) hr
    rw [Int.mul_one] at h1
    rw [Int.one_mul] at h2
    rw [Int.add_mul, Int.one_mul, Int.mul_add, Int.mul_one] at h
    omega
theorem IsMax.over {a b p l g : Int} (h : IsMax a b p l g) : ¬ Fits a b p l (g + 1) := by
  obtain ⟨⟨g0, ga, gl, gp⟩, ht⟩ := h
  rintro ⟨f0, f1, f2, f3, f4, f5⟩
  rw [show b - (l - (g + 1)) = b - l + (g + 1) by omega] at f4
  rcases ht with h | h | h <;> omega
/-- the other letters -/
theorem Fits.flip {a b p l j : Int} (h : Fits b a (a * b - p) l j) : Fits a b p l (l - j) := by
  obtain ⟨f0, f1, f2, f3, f4, f5⟩ := h
  have es := ab_split b a l j
  have ec : a * b = b * a := Int.mul_comm ..
  unfold Fits
  rw [show l - (l - j) = j by omega]
  have e1 : j * (b - j) = (b - j) * j := Int.mul_comm ..
  have e2 : (l - j) * (b - j) = (b - j) * (l - j) := Int.mul_comm ..
  have es2 := ab_split a b l (l - j)
  rw [show l - (l - j) = j by omega] at es2
  have e3 : j * (a - (l - j)) = (a - (l - j)) * j := Int.mul_comm ..
  refine ⟨f2, f3, f0, f1, ?_, ?_⟩ <;> omega
theorem flip_not {a b p l j : Int} (h : ¬ Fits b a (a * b - p) l j) : ¬ Fits a b p l (l - j) := fun z => h (by
  have e : a * b = b * a := Int.mul_comm ..
  have := Fits.flip (a := b) (b := a) (p := a * b - p) (l := l) (j := l - j) (by rw [show b * a - (a * b - p) = p by omega]; exact z)
  rw [show l - (l - j) = j by omega] at this
  exact this)
/-- the range: the least number is behind the greatest of the other letters -/
structure Range (a b p l lo hi : Int) : Prop where
  hi : IsMax a b p l hi
  lo : IsMax b a (a * b - p) l (l - lo)
theorem Range.le {a b p l lo hi : Int} (ha : 0 ≤ a) (hb : 0 ≤ b) (hl : l ≤ a + b) (hp : 0 ≤ p) (hm : p ≤ a * b) (h : Range a b p l lo hi) : lo ≤ hi := by
  have f := h.hi.fits hb hl hp hm
  obtain ⟨f0, f1, f2, f3, f4, f5⟩ := f
  have es := ab_split a b l hi
  have : Am b a (a * b - p) l (l - hi) := ⟨f2, f3, by omega, by
    rw [show a - l + (l - hi) = a - hi by omega]
    omega⟩
  have := IsMax.top (by omega) h.lo this
  omega
/-- from behind -/
theorem Range.back {a b p l lo hi : Int} (h : Range a b p l lo hi) (ha : 0 ≤ a) (hb : 0 ≤ b) (hl : l ≤ a + b) (hp : 0 ≤ p) (hm : p ≤ a * b) : Range a b (a * b - p) (a + b - l) (a - hi) (a - lo) := by
  have r1 := h.hi.room hl hb hp
  have r2 := h.lo.room (by omega) ha (by omega)
  obtain ⟨⟨⟨g0, ga, gl, gp⟩, ht⟩, ⟨⟨k0, kb, kl, kp⟩, kt⟩⟩ := h
  refine ⟨⟨⟨by omega, by omega, by omega, ?_⟩, ?_⟩, ⟨⟨by omega, by omega, by omega, ?_⟩, ?_⟩⟩
  · rw [show b - (a + b - l) + (a - lo) = l - lo by omega, Int.mul_comm, show a - lo = a - l + (l - lo) by omega]; exact kp
  · rcases kt with h | h | h
    · right; left; omega
    · left; omega
    · right; right
      rw [show b - (a + b - l) + (a - lo + 1) = l - lo + 1 by omega, Int.mul_comm (a - lo + 1), show a - lo + 1 = a - l + (l - lo + 1) by omega]; exact h
  · rw [show a - (a + b - l) + (a + b - l - (a - hi)) = hi by omega, Int.mul_comm, show a + b - l - (a - hi) = b - l + hi by omega, show a * b - (a * b - p) = p by omega]; exact gp
  · rcases ht with h | h | h
    · right; left; omega
    · left; omega
    · right; right
      rw [show a - (a + b - l) + (a + b - l - (a - hi) + 1) = hi + 1 by omega, Int.mul_comm (a + b - l - (a - hi) + 1), show a + b - l - (a - hi) + 1 = b - l + (hi + 1) by omega, show a * b - (a * b - p) = p by omega]; exact h
theorem Range.swap {a b p l lo hi : Int} (h : Range a b p l lo hi) : Range b a (a * b - p) l (l - hi) (l - lo) := by
  refine ⟨h.lo, ?_⟩
  rw [show l - (l - hi) = hi by omega, show b * a - (a * b - p) = p by rw [Int.mul_comm b a]; omega]
  exact h.hi
theorem Range.uniq {a b p l lo hi lo' hi' : Int} (hp : 0 ≤ p) (hm : p ≤ a * b) (h : Range a b p l lo hi) (h' : Range a b p l lo' hi') : lo = lo' ∧ hi = hi' := by
  have h1 := IsMax.uniq hp h.hi h'.hi
  have h2 := IsMax.uniq (by omega) h.lo h'.lo
  exact ⟨by omega, h1⟩
theorem IsMax.whole {a b p g : Int} (ha : 0 ≤ a) (hb : 0 ≤ b) (hp : 0 ≤ p) (h : IsMax a b p (a + b) g) : g = a := by
  have r := h.room (Int.le_refl _) hb hp
  obtain ⟨⟨g0, ga, gl, gp⟩, _⟩ := h
  omega
theorem IsMax.next {a b p l g g2 : Int} (hb : 0 ≤ b) (hl : l + 1 ≤ a + b) (hp : 0 ≤ p) (h : IsMax a b p l g) (h2 : IsMax a b p (l + 1) g2) : g ≤ g2 ∧ g2 ≤ g + 1 := by
  have r2 := h2.room hl hb hp
  constructor
  · obtain ⟨⟨g0, ga, gl, gp⟩, _⟩ := h
    refine IsMax.top hp h2 ⟨g0, ga, by omega, Int.le_trans ?_ gp⟩
    exact Int.mul_le_mul_of_nonneg_left (by omega) g0
  · obtain ⟨⟨g0, ga, gl, gp⟩, _⟩ := h2
    by_cases z : g2 = 0
    · have := h.1.1; omega
    have : Am a b p l (g2 - 1) := ⟨by omega, by omega, by omega, by
      rw [show b - l + (g2 - 1) = b - (l + 1) + g2 by omega]
      exact Int.le_trans (Int.mul_le_mul_of_nonneg_right (by omega) r2) gp⟩
    have := IsMax.top hp h this
    omega

end
end K28
namespace K28
open PySem PySem.Spec PyProof.Rows L2 Vx
section
variable {P : Program} {w : World} {K : PySem.W.Frag} {mg : Str → Option Value} {base : Heap}
/-- check_number of an integer in the range -/
def spCkN : Sp := fun vs H Q _ => ∃ n lo hi : Int, vs = [.int n, .int lo, .int hi] ∧ lo ≤ n ∧ n ≤ hi ∧ Q .non H
theorem ok_check_number {f f2 : Addr} {fd fd2 : FuncData} {k : Nat} (F : FunD K "check_number" "check_number" (defArgs st_check_number) (defBody st_check_number) (defScope st_check_number) [.non] [] f fd)
    (F_is_integer : Fun K "is_integer" "is_integer" st_is_integer f2 fd2) (G_is_integer : FnOk P w K mg base CX0 1 f2 fd2 ["value"] (spIsInt K)) (b_is_integer : Binds K fd2 ["value"] []) (g_is_integer : mg "is_integer" = some (.ref f2)) : FnOk P w K mg base CX0 (k + 2) f fd ["value", "least", "greatest"] spCkN := by
  refine F.ok sc_check_number (fun vs H Q E h => ?_) (fun cdv A outer s H vs Q E hr h => ?_)
  · obtain ⟨n, lo, hi, rfl, _⟩ := h; rfl
  obtain ⟨n, lo, hi, rfl, h1, h2, q⟩ := h
  refine ⟨_, (pss_one (ps_if (PW.pt (pw_or (pt_not (pt_val (pe_call G_is_integer (hr.mono (by omega)) (by rfl) g_is_integer F_is_integer.kp b_is_integer .nil pass0 (pa_cons (pv 0) pa_nil)))) (pw_or (pt_cmpR op_lt (pv 0) (pv 1) (nomark _)) (pw_or1 (PW.pt (pw_and (pt_cmpR op_notN (pv 2) pe_non (nomark _)) (pw_and1 (pt_cmpR op_gt (pv 0) (pv 2) (nomark _))))))))) (pss_one ps_never) pss_nil)), ?_⟩
  refine ⟨.int n, rfl, .int n, rfl, .inl ⟨n, rfl, true, rfl, ?_⟩⟩
  refine ⟨.int n, rfl, .int lo, rfl, n, lo, rfl, rfl, false, by show V.bl (decide (n < lo)) = V.bl false; rw [decide_eq_false (by omega)], ?_⟩
  refine ⟨.int hi, rfl, rfl, true, rfl, ?_⟩
  exact ⟨.int n, rfl, .int hi, rfl, n, hi, rfl, rfl, false, by show V.bl (decide (hi < n)) = V.bl false; rw [decide_eq_false (by omega)], q⟩
def spCkC (C : Addr) : Sp := fun vs H Q _ => ∃ (x dx : Addr) (fs : List (Str × V)), vs = [.ref x] ∧ H x = some (.ins C dx fs) ∧ Q .non H
theorem ok_check_counts {C f : Addr} {fd : FuncData} {k : Nat} (F : Fun K "check_counts" "check_counts" st_check_counts f fd) (T_c : CT K mg C) (I_c : C8.InsC K C) (m_isinstance : mg "isinstance" = none) : FnOk P w K mg base CX0 (k + 1) f fd ["value"] (spCkC C) := by
  refine F.ok sc_check_counts (fun vs H Q E h => ?_) (fun cdv A outer s H vs Q E hr h => ?_)
  · obtain ⟨x, dx, fs, rfl, _⟩ := h; rfl
  obtain ⟨x, dx, fs, rfl, e, q⟩ := h
  let C_c := C
  refine ⟨_, (pss_one (ps_if (pt_not (pt_val (pe_callB (C8.call_isC I_c) (by rfl) m_isinstance (by decide +kernel) (pa_cons (pv 0) (pa_cons (pe_glob rfl T_c.mg (show RelV (.ref C_c) (.ref C_c) from rfl)) pa_nil))))) (pss_one ps_never) pss_nil)), ?_⟩
  exact ⟨.ref x, rfl, x, dx, fs, rfl, e, true, rfl, q⟩
def spLet (C : Addr) : Sp := fun vs H Q _ => ∃ (x : Addr) (a b p : Int), vs = [.ref x] ∧ CountsAt C H x a b p ∧ Q (.int (a + b)) H
theorem ok_letters_in {C f gA gB pA pB : Addr} {fd fA fB : FuncData} {k : Nat} (F : Fun K "letters_in" "letters_in" st_letters_in f fd) (T_c : CT K mg C)
    (p_c_many_a : PropOf K C "many_a" pA gA) (Gp_c_many_a : FnOk P w K mg base CX0 1 gA fA ["self"] (getSp C "_many_a")) (bp_c_many_a : Binds K fA ["self"] [])
    (p_c_many_b : PropOf K C "many_b" pB gB) (Gp_c_many_b : FnOk P w K mg base CX0 1 gB fB ["self"] (getSp C "_many_b")) (bp_c_many_b : Binds K fB ["self"] []) : FnOk P w K mg base CX0 (k + 3) f fd ["counts"] (spLet C) := by
  refine F.ok sc_letters_in (fun vs H Q E h => ?_) (fun cdv A outer s H vs Q E hr h => ?_)
  · obtain ⟨x, a, b, p, rfl, _⟩ := h; rfl
  obtain ⟨x, a, b, p, rfl, ⟨dx, e⟩, q⟩ := h
  refine ⟨_, (pss_one (ps_ret (pe_op op_add (pe_prop (pv 0) T_c.cl p_c_many_a Gp_c_many_a (hr.mono (by omega)) bp_c_many_a .nil pass0 rfl) (pe_prop (pv 0) T_c.cl p_c_many_b Gp_c_many_b (hr.mono (by omega)) bp_c_many_b .nil pass0 rfl)))), ?_⟩
  exact ⟨.ref x, rfl, x, dx, _, rfl, e, x, dx, _, _, rfl, e, flds_a _ _ _, .ref x, rfl, x, dx, _, rfl, e, x, dx, _, _, rfl, e, flds_b _ _ _, _, _, rfl, rfl, q⟩
theorem cokPw {a b p : Int} (c : COk a b p) : p.natAbs < 2 ^ 6000 := by
  have h := wide_lt c.ba c.bb
  have h1 : (a * b).natAbs < 2 ^ 6000 := h
  have := c.p0
  have := c.pm
  exact Nat.lt_of_le_of_lt (by omega) h1
/-- the counts of so many equal rows -/
def spMul (C : Addr) : Sp := fun vs H Q _ => ∃ (x : Addr) (a b p n : Int), vs = [.ref x, .int n] ∧ CountsAt C H x a b p ∧ COk a b p ∧ 0 ≤ n ∧ n ≤ 10 ^ 30 ∧ COk (a * n) (b * n) (p * n + a * b * (n * (n - 1) / 2)) ∧ ∀ (z : Addr) (H' : Hp), Same H H' → CountsAt C H' z (a * n) (b * n) (p * n + a * b * (n * (n - 1) / 2)) → Q (.ref z) H'
theorem ok_c_mul {C f f1 f3 : Addr} {fd fd1 fd3 : FuncData} {t30 : Tok} {k : Nat} (F : Fun K "__mul__" "Counts.__mul__" st_c_mul f fd) (T_c : CT K mg C)
    (F_check_number : FunD K "check_number" "check_number" (defArgs st_check_number) (defBody st_check_number) (defScope st_check_number) [.non] [] f1 fd1) (G_check_number : FnOk P w K mg base CX0 2 f1 fd1 ["value", "least", "greatest"] spCkN) (b_check_number : Binds K fd1 ["value", "least", "greatest"] []) (g_check_number : mg "check_number" = some (.ref f1))
    (g_MOST_COPIES : mg "MOST_COPIES" = some (.int (10 ^ 30) t30))
    (M_c : Mk K C f3) (G_c_init : FnOk P w K mg base CX0 3 f3 fd3 ["self", "many_a", "many_b", "pairs"] (spInit C)) (b_c_init : Binds K fd3 ["self", "many_a", "many_b", "pairs"] []) : FnOk P w K mg base CX0 (k + 5) f fd ["self", "other"] (spMul C) := by
  refine F.ok sc_c_mul (fun vs H Q E h => ?_) (fun cdv A outer s H vs Q E hr h => ?_)
  · obtain ⟨x, a, b, p, n, rfl, _⟩ := h; rfl
  obtain ⟨x, a, b, p, n, rfl, ⟨dx, e⟩, c, n0, n1, c3, q⟩ := h
  refine ⟨_, (pss_cons (ps_expr (pe_call G_check_number (hr.mono (by omega)) (by rfl) g_check_number F_check_number.kp b_check_number .nil pass0 (pa_cons (pv 1) (pa_cons pe_int (pa_cons (pe_glob rfl g_MOST_COPIES (show RelV (.int (10 ^ 30)) _ from ⟨_, rfl⟩)) pa_nil)))))
    (pss_cons (ps_set (i := 2) sc_c_mul.nd rfl (Or.inl rfl) (pe_op op_mulW (pe_op op_mulW (pe_fld (pv 0) rfl) (pe_fld (pv 0) rfl)) (pe_op op_fdivW (pe_op op_mulW (pv 1) (pe_op op_sub (pv 1) pe_int)) pe_int)))
    (pss_one (ps_ret (pe_make M_c G_c_init (hr.mono (by omega)) (by rfl) T_c.mg b_c_init .nil pass0 (pa_cons (pe_op op_mulW (pe_fld (pv 0) rfl) (pv 1)) (pa_cons (pe_op op_mulW (pe_fld (pv 0) rfl) (pv 1)) (pa_cons (pe_op op_add (pe_op op_mulW (pe_fld (pv 0) rfl) (pv 1)) (pv 2)) pa_nil)))))))), ?_⟩
  have wn : n.natAbs < 2 ^ 110 := by
    have : (10 : Int) ^ 30 < 2 ^ 110 := by decide +kernel
    have : n < 2 ^ 110 := Int.lt_of_le_of_lt n1 this
    omega
  have wm : (n - 1).natAbs < 2 ^ 110 := by
    have : (10 : Int) ^ 30 < 2 ^ 109 := by decide +kernel
    have : n < 2 ^ 109 := Int.lt_of_le_of_lt n1 this
    omega
  have wh : (n * (n - 1) / 2).natAbs < 2 ^ 220 := by
    have := wide_lt wn wm
    have h2 : (n * (n - 1)).natAbs < 2 ^ 220 := this
    omega
  refine ⟨.int n, rfl, n, 0, _, rfl, n0, n1, ?_⟩
  refine ⟨.ref x, rfl, x, C, dx, _, _, rfl, e, T_c.cl, T_c.nA, flds_a _ _ _, .ref x, rfl, x, C, dx, _, _, rfl, e, T_c.cl, T_c.nB, flds_b _ _ _, _, _, rfl, rfl, wide_mul c.ba c.bb (by decide) (by decide) (by decide),
    .int n, rfl, .int n, rfl, _, _, rfl, rfl, _, _, rfl, rfl, wide_mul wn wm (by decide) (by decide) (by decide), _, _, rfl, rfl, wide_div (b := 2) (by decide) (by decide) (by decide) (by decide), _, _, rfl, rfl, wide_mul (wide_lt c.ba c.bb) wh (by decide) (by decide) (by decide), ?_⟩
  refine ⟨.ref x, rfl, x, C, dx, _, _, rfl, e, T_c.cl, T_c.nA, flds_a _ _ _, .int n, rfl, _, _, rfl, rfl, wide_mul c.ba wn (by decide) (by decide) (by decide),
    .ref x, rfl, x, C, dx, _, _, rfl, e, T_c.cl, T_c.nB, flds_b _ _ _, .int n, rfl, _, _, rfl, rfl, wide_mul c.bb wn (by decide) (by decide) (by decide),
    .ref x, rfl, x, C, dx, _, _, rfl, e, T_c.cl, T_c.nP, flds_p _ _ _, .int n, rfl, _, _, rfl, rfl, wide_mul (cokPw c) wn (by decide) (by decide) (by decide), .int _, rfl, _, _, rfl, rfl, fun z dz nz ndz _ => ?_⟩
  exact mkC nz ndz c3 fun H2 s2 hc => q z H2 s2 hc

end
end K28
namespace K28
open PySem PySem.Spec PyProof.Rows L2 Vx
section
variable {P : Program} {w : World} {K : PySem.W.Frag} {mg : Str → Option Value} {base : Heap}
theorem nat_pow_le {x n m : Nat} (h : x < 2 ^ n) (l : n ≤ m) : x < 2 ^ m := Nat.lt_of_lt_of_le h (Nat.pow_le_pow_right (by decide) l)
/-- the greatest number of a among the first l letters -/
def spGreat (C : Addr) : Sp := fun vs H Q _ => ∃ (x : Addr) (a b p l : Int), vs = [.ref x, .int l] ∧ CountsAt C H x a b p ∧ COk a b p ∧ 0 ≤ l ∧ l ≤ a + b ∧ ∀ g : Int, IsMax a b p l g → Q (.int g) H
theorem ok_greatest_prefix_count {C f gA gB gP pA pB pP : Addr} {fd fA fB fP : FuncData} {k : Nat} (F : Fun K "_greatest_prefix_count" "_greatest_prefix_count" st_greatest_prefix_count f fd) (T_c : CT K mg C)
    (p_c_many_a : PropOf K C "many_a" pA gA) (Gp_c_many_a : FnOk P w K mg base CX0 1 gA fA ["self"] (getSp C "_many_a")) (bp_c_many_a : Binds K fA ["self"] [])
    (p_c_many_b : PropOf K C "many_b" pB gB) (Gp_c_many_b : FnOk P w K mg base CX0 1 gB fB ["self"] (getSp C "_many_b")) (bp_c_many_b : Binds K fB ["self"] [])
    (p_c_pairs : PropOf K C "pairs" pP gP) (Gp_c_pairs : FnOk P w K mg base CX0 1 gP fP ["self"] (getSp C "_pairs")) (bp_c_pairs : Binds K fP ["self"] [])
    (g_isqrt : mg "isqrt" = some (.builtin "math.isqrt")) (m_min : mg "min" = none) : FnOk P w K mg base CX0 (k + 3) f fd ["counts", "length"] (spGreat C) := by
  refine F.ok sc_greatest_prefix_count (fun vs H Q E h => ?_) (fun cdv A outer s H vs Q E hr h => ?_)
  · obtain ⟨x, a, b, p, l, rfl, _⟩ := h; rfl
  obtain ⟨x, a, b, p, l, rfl, ⟨dx, e⟩, c, l0, l1, q⟩ := h
  refine ⟨_, (pss_cons (ps_set (i := 2) sc_greatest_prefix_count.nd rfl (Or.inl rfl) (pe_op op_sub (pe_prop (pv 0) T_c.cl p_c_many_b Gp_c_many_b (hr.mono (by omega)) bp_c_many_b .nil pass0 rfl) (pv 1)))
    (pss_cons (ps_set (i := 3) sc_greatest_prefix_count.nd rfl (Or.inl rfl) (pe_op op_fdivW (pe_op op_sub (pe_callBfun cr_isqrt (by rfl) g_isqrt (pa_cons (pe_op op_add (pe_op op_mulW (pv 2) (pv 2)) (pe_op op_mulW pe_int (pe_prop (pv 0) T_c.cl p_c_pairs Gp_c_pairs (hr.mono (by omega)) bp_c_pairs .nil pass0 rfl))) pa_nil)) (pv 2)) pe_int))
    (pss_one (ps_ret (pe_callB (call_min3 rfl) (by rfl) m_min (by decide +kernel) (pa_cons (pv 3) (pa_cons (pe_prop (pv 0) T_c.cl p_c_many_a Gp_c_many_a (hr.mono (by omega)) bp_c_many_a .nil pass0 rfl) (pa_cons (pv 1) pa_nil)))))))), ?_⟩
  have ba := c.ba
  have bb := c.bb
  have pw := cokPw c
  have e1 : (2 : Nat) ^ 3001 = 2 * 2 ^ 3000 := by rw [Nat.pow_succ, Nat.mul_comm]
  have wc : (b - l).natAbs < 2 ^ 3001 := by
    have := c.a0
    have := c.b0
    omega
  have wcc : ((b - l) * (b - l)).natAbs < 2 ^ 6002 := wide_lt wc wc
  have w4 : (4 : Int).natAbs < 2 ^ 3 := by decide
  have w4p : (4 * p).natAbs < 2 ^ 6003 := wide_lt w4 pw
  have cc0 : 0 ≤ (b - l) * (b - l) := by
    by_cases h : 0 ≤ b - l
    · exact Int.mul_nonneg h h
    · rw [← Int.neg_mul_neg]; exact Int.mul_nonneg (by omega) (by omega)
  have p0 := c.p0
  refine ⟨.ref x, rfl, x, dx, _, rfl, e, x, dx, _, _, rfl, e, flds_b _ _ _, .int l, rfl, _, _, rfl, rfl, ?_⟩
  refine ⟨.int (b - l), rfl, .int (b - l), rfl, _, _, rfl, rfl, wide_mul wc wc (by decide) (by decide) (by decide), .ref x, rfl, x, dx, _, rfl, e, x, dx, _, _, rfl, e, flds_p _ _ _, 4, p, rfl, rfl, wide_mul w4 pw (by decide) (by decide) (by decide), _, _, rfl, rfl, _, rfl, by omega, ?_, fun r r0 h1 h2 => ?_⟩
  · have e2 : (2 : Nat) ^ 6003 = 2 * 2 ^ 6002 := by rw [Nat.pow_succ, Nat.mul_comm]
    have e3 : (2 : Nat) ^ 6004 = 2 * 2 ^ 6003 := by rw [Nat.pow_succ, Nat.mul_comm]
    refine nat_pow_le (n := 6004) ?_ (by decide)
    omega
  refine ⟨.int (b - l), rfl, _, _, rfl, rfl, _, _, rfl, rfl, wide_div (b := 2) (by decide) (by decide) (by decide) (by decide), ?_⟩
  refine ⟨.int _, rfl, .ref x, rfl, x, dx, _, rfl, e, x, dx, _, _, rfl, e, flds_a _ _ _, .int l, rfl, _, _, _, rfl, fun g g1 g2 g3 gm => ?_⟩
  exact q g (root_max c.a0 c.b0 l0 c.p0 r0 h1 h2 g1 g2 g3 gm)
/-- the least and the greatest number of a among the first l letters, in a new tuple -/
def spPR (C : Addr) : Sp := fun vs H Q _ => ∃ (x : Addr) (a b p l : Int), vs = [.ref x, .int l] ∧ CountsAt C H x a b p ∧ COk a b p ∧ 0 ≤ l ∧ l ≤ a + b ∧ ∀ (T : Addr) (lo hi : Int) (H' : Hp), Same H H' → H T = none → Range a b p l lo hi → H' T = some (.tup [.int lo, .int hi]) → Q (.ref T) H'
theorem ok_prefix_range {C f f1 f2 f3 f4 gN : Addr} {fd fd1 fd2 fd3 fd4 : FuncData} {k : Nat} (F : Fun K "prefix_range" "prefix_range" st_prefix_range f fd)
    (F_check_counts : Fun K "check_counts" "check_counts" st_check_counts f1 fd1) (G_check_counts : FnOk P w K mg base CX0 1 f1 fd1 ["value"] (spCkC C)) (b_check_counts : Binds K fd1 ["value"] []) (g_check_counts : mg "check_counts" = some (.ref f1))
    (F_check_number : FunD K "check_number" "check_number" (defArgs st_check_number) (defBody st_check_number) (defScope st_check_number) [.non] [] f2 fd2) (G_check_number : FnOk P w K mg base CX0 2 f2 fd2 ["value", "least", "greatest"] spCkN) (b_check_number : Binds K fd2 ["value", "least", "greatest"] []) (g_check_number : mg "check_number" = some (.ref f2))
    (F_letters_in : Fun K "letters_in" "letters_in" st_letters_in f3 fd3) (G_letters_in : FnOk P w K mg base CX0 3 f3 fd3 ["counts"] (spLet C)) (b_letters_in : Binds K fd3 ["counts"] []) (g_letters_in : mg "letters_in" = some (.ref f3))
    (F_greatest_prefix_count : Fun K "_greatest_prefix_count" "_greatest_prefix_count" st_greatest_prefix_count f4 fd4) (G_greatest_prefix_count : FnOk P w K mg base CX0 3 f4 fd4 ["counts", "length"] (spGreat C)) (b_greatest_prefix_count : Binds K fd4 ["counts", "length"] []) (g_greatest_prefix_count : mg "_greatest_prefix_count" = some (.ref f4))
    (d_c_neg : Dun K C "__neg__" gN) (R_c_neg : FnR P w K mg base CX0 5 gN (fun vs H Q E => spNeg C (vs ++ []) H Q E)) : FnOk P w K mg base CX0 (k + 6) f fd ["counts", "length"] (spPR C) := by
  refine F.ok sc_prefix_range (fun vs H Q E h => ?_) (fun cdv A outer s H vs Q E hr h => ?_)
  · obtain ⟨x, a, b, p, l, rfl, _⟩ := h; rfl
  obtain ⟨x, a, b, p, l, rfl, hx, c, l0, l1, q⟩ := h
  refine ⟨_, (pss_cons (ps_expr (pe_call G_check_counts (hr.mono (by omega)) (by rfl) g_check_counts F_check_counts.kp b_check_counts .nil pass0 (pa_cons (pv 0) pa_nil)))
    (pss_cons (ps_expr (pe_call G_check_number (hr.mono (by omega)) (by rfl) g_check_number F_check_number.kp b_check_number .nil pass0 (pa_cons (pv 1) (pa_cons pe_int (pa_cons (pe_call G_letters_in (hr.mono (by omega)) (by rfl) g_letters_in F_letters_in.kp b_letters_in .nil pass0 (pa_cons (pv 0) pa_nil)) pa_nil)))))
    (pss_one (ps_ret (peq_tup (pa_cons (pe_op op_sub (pv 1) (pe_call G_greatest_prefix_count (hr.mono (by omega)) (by rfl) g_greatest_prefix_count F_greatest_prefix_count.kp b_greatest_prefix_count .nil pass0 (pa_cons (pe_un (un_ownN d_c_neg R_c_neg (hr.mono (by omega)) pass0) (pv 0)) (pa_cons (pv 1) pa_nil)))) (pa_cons (pe_call G_greatest_prefix_count (hr.mono (by omega)) (by rfl) g_greatest_prefix_count F_greatest_prefix_count.kp b_greatest_prefix_count .nil pass0 (pa_cons (pv 0) (pa_cons (pv 1) pa_nil))) pa_nil))))))), ?_⟩
  obtain ⟨dx, e⟩ := id hx
  refine ⟨.ref x, rfl, x, dx, _, rfl, e, ?_⟩
  refine ⟨.int l, rfl, .ref x, rfl, x, a, b, p, rfl, hx, l, 0, a + b, rfl, l0, l1, ?_⟩
  refine ⟨.int l, rfl, .ref x, rfl, readN hx c fun y H2 s2 hy => ⟨.int l, rfl, y, b, a, _, l, rfl, hy, COk.neg c, l0, by omega, fun g' hg' => ⟨_, _, rfl, rfl, ?_⟩⟩⟩
  refine ⟨.ref x, rfl, .int l, rfl, x, a, b, p, l, rfl, hx.same s2, c, l0, l1, fun g hg => ?_⟩
  refine ⟨(by show 2 ≤ sizeLine; decide), fun T H3 nT _ hH3 => ?_⟩
  have s3 : Same H2 H3 := by rw [hH3]; exact same_new nT
  have nT0 : H T = none := by
    cases e : H T with
    | none => rfl
    | some o => rw [s2 _ _ e] at nT; cases nT
  exact q T (l - g') g H3 (s2.trans s3) nT0 ⟨hg, by rw [show l - (l - g') = g' by omega]; exact hg'⟩ (by rw [hH3]; exact upd_same)

end
end K28
namespace K28
open PySem PySem.Spec PyProof.Rows L2 Vx
section
variable {P : Program} {w : World} {K : PySem.W.Frag} {mg : Str → Option Value} {base : Heap}
def spJoined (K : PySem.W.Frag) : Sp := fun vs H Q _ => ∃ (T1 T2 : Addr) (a1 b1 c1 d1 a2 b2 c2 d2 : Int), vs = [.ref T1, .ref T2] ∧ SqT K H T1 [.int a1, .int b1, .int c1, .int d1] ∧ SqT K H T2 [.int a2, .int b2, .int c2, .int d2] ∧ a1.natAbs < 2 ^ 4000 ∧ b2.natAbs < 2 ^ 4000 ∧
  ∀ (T : Addr) (H' : Hp), Same H H' → H T = none → H' T = some (.tup [.int (a1 + a2), .int (b1 + b2), .int (c1 + c2 + a1 * b2), .int (d1 + d2 + a1 * b2)]) → Q (.ref T) H'
theorem ok_law_joined {f : Addr} {fd : FuncData} {k : Nat} (F : Fun K "_law_joined" "_law_joined" st_law_joined f fd) : FnOk P w K mg base CX0 (k + 1) f fd ["one", "other"] (spJoined K) := by
  refine F.ok sc_law_joined (fun vs H Q E h => ?_) (fun cdv A outer s H vs Q E hr h => ?_)
  · obtain ⟨T1, T2, a1, b1, c1, d1, a2, b2, c2, d2, rfl, _⟩ := h; rfl
  obtain ⟨T1, T2, a1, b1, c1, d1, a2, b2, c2, d2, rfl, h1, h2, w1, w2, q⟩ := h
  refine ⟨_, (pss_cons (ps_set (i := 2) sc_law_joined.nd rfl (Or.inl rfl) (pe_op op_mulW (pe_ix ix_tup (pv 0) pe_int (fun _ _ => rfl)) (pe_ix ix_tup (pv 1) pe_int (fun _ _ => rfl))))
    (pss_one (ps_ret (peq_tup (pa_cons (pe_op op_add (pe_ix ix_tup (pv 0) pe_int (fun _ _ => rfl)) (pe_ix ix_tup (pv 1) pe_int (fun _ _ => rfl))) (pa_cons (pe_op op_add (pe_ix ix_tup (pv 0) pe_int (fun _ _ => rfl)) (pe_ix ix_tup (pv 1) pe_int (fun _ _ => rfl))) (pa_cons (pe_op op_add (pe_op op_add (pe_ix ix_tup (pv 0) pe_int (fun _ _ => rfl)) (pe_ix ix_tup (pv 1) pe_int (fun _ _ => rfl))) (pv 2)) (pa_cons (pe_op op_add (pe_op op_add (pe_ix ix_tup (pv 0) pe_int (fun _ _ => rfl)) (pe_ix ix_tup (pv 1) pe_int (fun _ _ => rfl))) (pv 2)) pa_nil)))))))), ?_⟩
  refine ⟨.ref T1, rfl, T1, _, 0, .int a1, rfl, rfl, h1, rfl, .ref T2, rfl, T2, _, 1, .int b2, rfl, rfl, h2, rfl, _, _, rfl, rfl, wide_mul w1 w2 (by decide) (by decide) (by decide), ?_⟩
  refine ⟨.ref T1, rfl, T1, _, 0, .int a1, rfl, rfl, h1, rfl, .ref T2, rfl, T2, _, 0, .int a2, rfl, rfl, h2, rfl, _, _, rfl, rfl, ?_⟩
  refine ⟨.ref T1, rfl, T1, _, 1, .int b1, rfl, rfl, h1, rfl, .ref T2, rfl, T2, _, 1, .int b2, rfl, rfl, h2, rfl, _, _, rfl, rfl, ?_⟩
  refine ⟨.ref T1, rfl, T1, _, 2, .int c1, rfl, rfl, h1, rfl, .ref T2, rfl, T2, _, 2, .int c2, rfl, rfl, h2, rfl, _, _, rfl, rfl, .int (a1 * b2), rfl, _, _, rfl, rfl, ?_⟩
  refine ⟨.ref T1, rfl, T1, _, 3, .int d1, rfl, rfl, h1, rfl, .ref T2, rfl, T2, _, 3, .int d2, rfl, rfl, h2, rfl, _, _, rfl, rfl, .int (a1 * b2), rfl, _, _, rfl, rfl, ?_⟩
  refine ⟨(by show 4 ≤ sizeLine; decide), fun T H1 nT _ hH1 => ?_⟩
  exact q T H1 (by rw [hH1]; exact same_new nT) nT (by rw [hH1]; exact upd_same)
theorem sqT_same {H H' : Hp} {a : Addr} {xs : List V} (s : Same H H') (h : SqT K H a xs) : SqT K H' a xs := by
  rcases h with (h | ⟨o, h⟩) | h
  · exact .inl (.inl (s _ _ h))
  · exact .inl (.inr ⟨o, s _ _ h⟩)
  · exact .inr h
def spFits (K : PySem.W.Frag) : Sp := fun vs H Q _ => ∃ (T : Addr) (a b p l j : Int), vs = [.ref T, .int l, .int j] ∧ SqT K H T [.int a, .int b, .int p] ∧ COk a b p ∧ ((Fits a b p l j ∧ ∀ H' : Hp, Same H H' → Q (.bl true) H') ∨ (¬ Fits a b p l j ∧ ∀ H' : Hp, Same H H' → Q (.bl false) H'))
theorem ok_law_fits {f f1 : Addr} {fd fd1 : FuncData} {k : Nat} (F : Fun K "_law_fits" "_law_fits" st_law_fits f fd)
    (F_law_joined : Fun K "_law_joined" "_law_joined" st_law_joined f1 fd1) (G_law_joined : FnOk P w K mg base CX0 1 f1 fd1 ["one", "other"] (spJoined K)) (b_law_joined : Binds K fd1 ["one", "other"] []) (g_law_joined : mg "_law_joined" = some (.ref f1)) : FnOk P w K mg base CX0 (k + 2) f fd ["triple", "length", "many"] (spFits K) := by
  refine F.ok sc_law_fits (fun vs H Q E h => ?_) (fun cdv A outer s H vs Q E hr h => ?_)
  · obtain ⟨T, a, b, p, l, j, rfl, _⟩ := h; rfl
  obtain ⟨T, a, b, p, l, j, rfl, hT, c, h⟩ := h
  refine ⟨_, (pss_cons (ps_set (i := 3) sc_law_fits.nd rfl (Or.inl rfl) (pe_op op_sub (pv 1) (pv 2)))
    (pss_cons (ps_if (PW.pt (pw_or (pt_not (pt_chain op_le op_le pe_int (pv 2) (pe_ix ix_tup (pv 0) pe_int (fun _ _ => rfl)))) (pw_or1 (pt_not (pt_chain op_le op_le pe_int (pv 3) (pe_ix ix_tup (pv 0) pe_int (fun _ _ => rfl))))))) (pss_one (ps_ret pe_bl)) pss_nil)
    (pss_cons (ps_set (i := 4) sc_law_fits.nd rfl (Or.inl rfl) (peq_tup (pa_cons (pe_op op_sub (pe_ix ix_tup (pv 0) pe_int (fun _ _ => rfl)) (pv 2)) (pa_cons (pe_op op_sub (pe_ix ix_tup (pv 0) pe_int (fun _ _ => rfl)) (pv 3)) pa_nil))))
    (pss_cons (ps_set (i := 5) sc_law_fits.nd rfl (Or.inl rfl) (pe_call G_law_joined (hr.mono (by omega)) (by rfl) g_law_joined F_law_joined.kp b_law_joined .nil pass0 (pa_cons (peq_tup (pa_cons (pv 2) (pa_cons (pv 3) (pa_cons pe_int (pa_cons (pe_op op_mulW (pv 2) (pv 3)) pa_nil))))) (pa_cons (peq_tup (pa_cons (pe_ix ix_tup (pv 4) pe_int (fun _ _ => rfl)) (pa_cons (pe_ix ix_tup (pv 4) pe_int (fun _ _ => rfl)) (pa_cons pe_int (pa_cons (pe_op op_mulW (pe_ix ix_tup (pv 4) pe_int (fun _ _ => rfl)) (pe_ix ix_tup (pv 4) pe_int (fun _ _ => rfl))) pa_nil))))) pa_nil))))
    (pss_one (ps_ret (pe_chain op_le op_le (pe_ix ix_tup (pv 5) pe_int (fun _ _ => rfl)) (pe_ix ix_tup (pv 0) pe_int (fun _ _ => rfl)) (pe_ix ix_tup (pv 5) pe_int (fun _ _ => rfl))))))))), ?_⟩
  have no : ¬ Fits a b p l j → Q (.bl false) H := fun z => by
    rcases h with ⟨hf, _⟩ | ⟨_, q⟩
    · exact absurd hf z
    · exact q H fun _ _ h => h
  refine ⟨.int l, rfl, .int j, rfl, l, j, rfl, rfl, ?_⟩
  refine ⟨.int j, rfl, 0, j, rfl, rfl, _, rfl, ite2 (fun h0 => ?_) (fun h0 => ?_)⟩
  · refine ⟨.ref T, rfl, T, _, 0, .int a, rfl, rfl, hT, rfl, j, a, rfl, rfl, _, rfl, ite2 (fun h1 => ?_) (fun h1 => ?_)⟩
    · exact no fun z => absurd (decide_eq_true z.2.1) (by
        intro h2
        rw [h2] at h1
        exact absurd h1 (by decide))
    · have h0 : (0 : Int) ≤ j := of_decide_eq_true h0
      have h1 : j ≤ a := Decidable.byContradiction fun z => h1 (by
        show (!decide (j ≤ a)) = true
        rw [decide_eq_false z]; rfl)
      refine ⟨.int (l - j), rfl, 0, l - j, rfl, rfl, _, rfl, ite2 (fun h2 => ?_) (fun h2 => ?_)⟩
      · refine ⟨.ref T, rfl, T, _, 1, .int b, rfl, rfl, hT, rfl, l - j, b, rfl, rfl, _, rfl, ite2 (fun h3 => ?_) (fun h3 => ?_)⟩
        · exact no fun z => absurd (decide_eq_true z.2.2.2.1) (by
            intro h4
            rw [h4] at h3
            exact absurd h3 (by decide))
        · have h2 : (0 : Int) ≤ l - j := of_decide_eq_true h2
          have h3 : l - j ≤ b := Decidable.byContradiction fun z => h3 (by
            show (!decide (l - j ≤ b)) = true
            rw [decide_eq_false z]; rfl)
          have ba := c.ba
          have bb := c.bb
          have wj : j.natAbs < 2 ^ 3000 := by omega
          have wv : (l - j).natAbs < 2 ^ 3000 := by omega
          have wx : (a - j).natAbs < 2 ^ 3000 := by omega
          have wy : (b - (l - j)).natAbs < 2 ^ 3000 := by omega
          have up : ∀ {x : Int}, x.natAbs < 2 ^ 3000 → x.natAbs < 2 ^ 4000 := fun h => Nat.lt_trans h (Nat.pow_lt_pow_right (by decide) (by decide))
          refine ⟨.ref T, rfl, T, _, 0, .int a, rfl, rfl, hT, rfl, .int j, rfl, _, _, rfl, rfl, .ref T, rfl, T, _, 1, .int b, rfl, rfl, hT, rfl, .int (l - j), rfl, _, _, rfl, rfl, (by show 2 ≤ sizeLine; decide), fun T1 H1 n1 _ hH1 => ?_⟩
          have s1 : Same H H1 := by rw [hH1]; exact same_new n1
          have e1 : SqT K H1 T1 [.int (a - j), .int (b - (l - j))] := by rw [hH1]; exact SqT.of upd_same
          clear hH1
          refine ⟨.int j, rfl, .int (l - j), rfl, .int j, rfl, .int (l - j), rfl, _, _, rfl, rfl, wide_mul wj wv (by decide) (by decide) (by decide), (by show 4 ≤ sizeLine; decide), fun T2 H2 n2 _ hH2 => ?_⟩
          have s2 : Same H1 H2 := by rw [hH2]; exact same_new n2
          have e2 : SqT K H2 T2 [.int j, .int (l - j), .int 0, .int (j * (l - j))] := by rw [hH2]; exact SqT.of upd_same
          clear hH2
          have e1' := sqT_same s2 e1
          refine ⟨.ref T1, rfl, T1, _, 0, .int (a - j), rfl, rfl, e1', rfl, .ref T1, rfl, T1, _, 1, .int (b - (l - j)), rfl, rfl, e1', rfl, .ref T1, rfl, T1, _, 0, .int (a - j), rfl, rfl, e1', rfl, .ref T1, rfl, T1, _, 1, .int (b - (l - j)), rfl, rfl, e1', rfl, _, _, rfl, rfl, wide_mul wx wy (by decide) (by decide) (by decide), (by show 4 ≤ sizeLine; decide), fun T3 H3 n3 _ hH3 => ?_⟩
          have s3 : Same H2 H3 := by rw [hH3]; exact same_new n3
          have e3 : SqT K H3 T3 [.int (a - j), .int (b - (l - j)), .int 0, .int ((a - j) * (b - (l - j)))] := by rw [hH3]; exact SqT.of upd_same
          clear hH3
          refine ⟨T2, T3, _, _, _, _, _, _, _, _, rfl, sqT_same s3 e2, e3, up wj, up wy, fun T4 H4 s4 n4 e4 => ?_⟩
          have s04 : Same H H4 := s1.trans (s2.trans (s3.trans s4))
          have hT4 := sqT_same s04 hT
          refine ⟨.ref T4, rfl, T4, _, 2, .int _, rfl, rfl, SqT.of e4, rfl, .ref T, rfl, T, _, 2, .int p, rfl, rfl, hT4, rfl, _, _, rfl, rfl, _, rfl, ite2 (fun h5 => ?_) (fun h5 => ?_)⟩
          · refine ⟨.ref T4, rfl, T4, _, 3, .int _, rfl, rfl, SqT.of e4, rfl, _, _, rfl, rfl, ?_⟩
            have h5 : 0 + 0 + j * (b - (l - j)) ≤ p := of_decide_eq_true h5
            show Q (V.bl (decide (p ≤ j * (l - j) + (a - j) * (b - (l - j)) + j * (b - (l - j))))) H4
            rcases h with ⟨hf, q⟩ | ⟨hf, q⟩
            · rw [decide_eq_true hf.2.2.2.2.2]; exact q _ s04
            · rw [decide_eq_false fun z => hf ⟨h0, h1, h2, h3, by omega, z⟩]; exact q _ s04
          · have h5 : ¬ 0 + 0 + j * (b - (l - j)) ≤ p := fun z => h5 (decide_eq_true z)
            rcases h with ⟨hf, q⟩ | ⟨hf, q⟩
            · exact absurd hf.2.2.2.2.1 (by omega)
            · exact q _ s04
      · have h2 : ¬ (0 : Int) ≤ l - j := fun z => h2 (decide_eq_true z)
        exact ⟨false, rfl, no fun z => h2 z.2.2.1⟩
  · have h0 : ¬ (0 : Int) ≤ j := fun z => h0 (decide_eq_true z)
    exact ⟨false, rfl, no fun z => h0 z.1⟩

end
end K28
namespace K28
open PySem PySem.Spec PyProof.Rows L2 Vx
section
variable {P : Program} {w : World} {K : PySem.W.Frag} {mg : Str → Option Value} {base : Heap}
/-- two ints in a tuple, or in a list, as data -/
theorem dp_p2 {H : Hp} {T : Addr} {a b : Int} (e : H T = some (.tup [.int a, .int b])) : Dp K H (.ref T) (.tuple [.int a, .int b]) := .tup (SqT.of e) (.cons (.int a) (.cons (.int b) .nil))
theorem shaped_p2 (a b : Int) : SeqAt.shaped (.tuple [.int a, .int b]) = true := by simp [SeqAt.shaped, PyData.canLay0, PyData.canLayAll0, PyData.depth, PyData.depthAll]
theorem eqv_p2 (a b : Int) : PyData.eqv (.tuple [.int a, .int b]) (.tuple [.int a, .int b]) = true := by simp [PyData.eqv, PyData.eqvAll]
theorem dp_l2 {H : Hp} {T : Addr} {a b : Int} (e : H T = some (.lst [.int a, .int b])) : Dp K H (.ref T) (.list [.int a, .int b]) := .lst (SqL.of e) (.cons (.int a) (.cons (.int b) .nil))
theorem shaped_l2 (a b : Int) : SeqAt.shaped (.list [.int a, .int b]) = true := by simp [SeqAt.shaped, PyData.canLay0, PyData.canLayAll0, PyData.depth, PyData.depthAll]
theorem eqv_l2 (a b : Int) : PyData.eqv (.list [.int a, .int b]) (.list [.int a, .int b]) = true := by simp [PyData.eqv, PyData.eqvAll]
def spRight28 (K : PySem.W.Frag) (C : Addr) : Sp := fun vs H Q _ => ∃ (x T : Addr) (a b p l : Int), vs = [.ref x, .ref T, .int l] ∧ CountsAt C H x a b p ∧ COk a b p ∧ SqT K H T [.int a, .int b, .int p] ∧ 0 ≤ l ∧ l ≤ a + b ∧ ∀ H' : Hp, Same H H' → Q (.bl true) H'
theorem ok_law_right {C f f1 f2 gI gN : Addr} {fd fd1 fd2 : FuncData} {k : Nat} (F : Fun K "_law_right" "_law_right" st_law_right f fd)
    (F_prefix_range : Fun K "prefix_range" "prefix_range" st_prefix_range f1 fd1) (G_prefix_range : FnOk P w K mg base CX0 6 f1 fd1 ["counts", "length"] (spPR C)) (b_prefix_range : Binds K fd1 ["counts", "length"] []) (g_prefix_range : mg "prefix_range" = some (.ref f1))
    (F_law_fits : Fun K "_law_fits" "_law_fits" st_law_fits f2 fd2) (G_law_fits : FnOk P w K mg base CX0 2 f2 fd2 ["triple", "length", "many"] (spFits K)) (b_law_fits : Binds K fd2 ["triple", "length", "many"] []) (g_law_fits : mg "_law_fits" = some (.ref f2))
    (d_c_invert : Dun K C "__invert__" gI) (R_c_invert : FnR P w K mg base CX0 5 gI (fun vs H Q E => spInv C (vs ++ []) H Q E)) (d_c_neg : Dun K C "__neg__" gN) (R_c_neg : FnR P w K mg base CX0 5 gN (fun vs H Q E => spNeg C (vs ++ []) H Q E))
    (m_isinstance : mg "isinstance" = none) (m_int : mg "int" = none) : FnOk P w K mg base CX0 (k + 7) f fd ["counts", "triple", "length"] (spRight28 K C) := by
  refine F.ok sc_law_right (fun vs H Q E h => ?_) (fun cdv A outer s H vs Q E hr h => ?_)
  · obtain ⟨x, T, a, b, p, l, rfl, _⟩ := h; rfl
  obtain ⟨x, T, a, b, p, l, rfl, hx, c, hT, l0, l1, q⟩ := h
  have a0 := c.a0
  have b0 := c.b0
  have p0 := c.p0
  have pm := c.pm
  refine ⟨_, (pss_cons (ps_asg (pv 1) (pg_tup rfl (pgs_cons (pg_name (i := 3) sc_law_right.nd rfl (Or.inl rfl)) (pgs_cons (pg_name (i := 4) sc_law_right.nd rfl (Or.inl rfl)) (pgs_cons (pg_name (i := 5) sc_law_right.nd rfl (Or.inl rfl)) pgs_nil)))))
    (pss_cons (ps_asg (pe_call G_prefix_range (hr.mono (by omega)) (by rfl) g_prefix_range F_prefix_range.kp b_prefix_range .nil pass0 (pa_cons (pv 0) (pa_cons (pv 2) pa_nil))) (pg_tup rfl (pgs_cons (pg_name (i := 6) sc_law_right.nd rfl (Or.inl rfl)) (pgs_cons (pg_name (i := 7) sc_law_right.nd rfl (Or.inl rfl)) pgs_nil))))
    (pss_cons (ps_if (PW.pt (pw_or (pt_not (pt_val (pe_call G_law_fits (hr.mono (by omega)) (by rfl) g_law_fits F_law_fits.kp b_law_fits .nil pass0 (pa_cons (pv 1) (pa_cons (pv 2) (pa_cons (pv 6) pa_nil)))))) (pw_or (pt_not (pt_val (pe_call G_law_fits (hr.mono (by omega)) (by rfl) g_law_fits F_law_fits.kp b_law_fits .nil pass0 (pa_cons (pv 1) (pa_cons (pv 2) (pa_cons (pv 7) pa_nil)))))) (pw_or1 (pt_cmpR op_gt (pv 6) (pv 7) (nomark _)))))) (pss_one (ps_ret pe_bl)) pss_nil)
    (pss_cons (ps_if (PW.pt (pw_or (pt_val (pe_call G_law_fits (hr.mono (by omega)) (by rfl) g_law_fits F_law_fits.kp b_law_fits .nil pass0 (pa_cons (pv 1) (pa_cons (pv 2) (pa_cons (pe_op op_sub (pv 6) pe_int) pa_nil))))) (pw_or1 (pt_val (pe_call G_law_fits (hr.mono (by omega)) (by rfl) g_law_fits F_law_fits.kp b_law_fits .nil pass0 (pa_cons (pv 1) (pa_cons (pv 2) (pa_cons (pe_op op_add (pv 7) pe_int) pa_nil)))))))) (pss_one (ps_ret pe_bl)) pss_nil)
    (pss_cons (ps_if (pt_cmpR (op_neD hr.units) (pe_call G_prefix_range (hr.mono (by omega)) (by rfl) g_prefix_range F_prefix_range.kp b_prefix_range .nil pass0 (pa_cons (pe_un (un_ownI d_c_invert R_c_invert (hr.mono (by omega)) pass0) (pv 0)) (pa_cons (pe_op op_sub (pe_op op_add (pv 3) (pv 4)) (pv 2)) pa_nil))) (peq_tup (pa_cons (pe_op op_sub (pv 3) (pv 7)) (pa_cons (pe_op op_sub (pv 3) (pv 6)) pa_nil))) (nomark _)) (pss_one (ps_ret pe_bl)) pss_nil)
    (pss_cons (ps_if (pt_cmpR (op_neD hr.units) (pe_call G_prefix_range (hr.mono (by omega)) (by rfl) g_prefix_range F_prefix_range.kp b_prefix_range .nil pass0 (pa_cons (pe_un (un_ownN d_c_neg R_c_neg (hr.mono (by omega)) pass0) (pv 0)) (pa_cons (pv 2) pa_nil))) (peq_tup (pa_cons (pe_op op_sub (pv 2) (pv 7)) (pa_cons (pe_op op_sub (pv 2) (pv 6)) pa_nil))) (nomark _)) (pss_one (ps_ret pe_bl)) pss_nil)
    (pss_cons (ps_if (pt_cmpR op_eq (pv 2) (pe_op op_add (pv 3) (pv 4)) (nomark _)) (pss_one (ps_ret (pe_cmpR (op_eqD hr.units) (peq_lst (pa_cons (pv 6) (pa_cons (pv 7) pa_nil))) (peq_lst (pa_cons (pv 3) (pa_cons (pv 3) pa_nil))) (nomark _)))) pss_nil)
    (pss_cons (ps_set (i := 8) sc_law_right.nd rfl (Or.inl rfl) (pe_call G_prefix_range (hr.mono (by omega)) (by rfl) g_prefix_range F_prefix_range.kp b_prefix_range .nil pass0 (pa_cons (pv 0) (pa_cons (pe_op op_add (pv 2) pe_int) pa_nil))))
    (pss_one (ps_ret (pe_and (pe_chain op_le op_le (pv 6) (pe_ix ix_tup (pv 8) pe_int (fun _ _ => rfl)) (pe_op op_add (pv 6) pe_int)) (pe_and (pe_chain op_le op_le (pv 7) (pe_ix ix_tup (pv 8) pe_int (fun _ _ => rfl)) (pe_op op_add (pv 7) pe_int)) (pe_one (pe_callB call_isi (by rfl) m_isinstance (by decide +kernel) (pa_cons (pv 6) (pa_cons (pe_bltn (by rfl) m_int (by decide +kernel) (show RelV (.ty "int") (.type "int") from rfl)) pa_nil)))))))))))))))), ?_⟩
  refine ⟨.ref T, rfl, T, _, rfl, hT, rfl, _, _, rfl, _, _, rfl, _, _, rfl, rfl, ?_⟩
  refine ⟨.ref x, rfl, .int l, rfl, x, a, b, p, l, rfl, hx, c, l0, l1, fun T1 lo hi H1 s1 n1 rg e1 => ?_⟩
  refine ⟨T1, _, rfl, SqT.of e1, rfl, _, _, rfl, _, _, rfl, rfl, ?_⟩
  have fh : Fits a b p l hi := rg.hi.fits b0 l1 p0 pm
  have fl : Fits a b p l lo := by
    have := Fits.flip (rg.lo.fits (a := b) (b := a) a0 (by omega) (by omega) (by rw [Int.mul_comm b a]; omega))
    rw [show l - (l - lo) = lo by omega] at this
    exact this
  have nh : ¬ Fits a b p l (hi + 1) := rg.hi.over
  have nl : ¬ Fits a b p l (lo - 1) := by
    have := flip_not rg.lo.over
    rw [show l - (l - lo + 1) = lo - 1 by omega] at this
    exact this
  have hle := rg.le a0 b0 l1 p0 pm
  have hT1 := sqT_same s1 hT
  refine ⟨.ref T, rfl, .int l, rfl, .int lo, rfl, T, a, b, p, l, lo, rfl, hT1, c, .inl ⟨fl, fun H2 s2 => ⟨true, rfl, ?_⟩⟩⟩
  refine ⟨.ref T, rfl, .int l, rfl, .int hi, rfl, T, a, b, p, l, hi, rfl, sqT_same s2 hT1, c, .inl ⟨fh, fun H3 s3 => ⟨true, rfl, ?_⟩⟩⟩
  have s13 : Same H H3 := s1.trans (s2.trans s3)
  refine ⟨.int lo, rfl, .int hi, rfl, lo, hi, rfl, rfl, false, by show V.bl (decide (hi < lo)) = V.bl false; rw [decide_eq_false (by omega)], ?_⟩
  refine ⟨.ref T, rfl, .int l, rfl, .int lo, rfl, lo, 1, rfl, rfl, T, a, b, p, l, lo - 1, rfl, sqT_same s13 hT, c, .inr ⟨nl, fun H4 s4 => ⟨false, rfl, ?_⟩⟩⟩
  refine ⟨.ref T, rfl, .int l, rfl, .int hi, rfl, hi, 1, rfl, rfl, T, a, b, p, l, hi + 1, rfl, sqT_same (s13.trans s4) hT, c, .inr ⟨nh, fun H5 s5 => ⟨false, rfl, ?_⟩⟩⟩
  have s15 : Same H H5 := s13.trans (s4.trans s5)
  -- from behind
  refine ⟨.ref x, rfl, readI (hx.same s15) c fun y H6 s6 hy => ⟨.int a, rfl, .int b, rfl, _, _, rfl, rfl, .int l, rfl, _, _, rfl, rfl, y, a, b, _, a + b - l, rfl, hy, COk.inv c, by omega, by omega, fun T2 lo2 hi2 H7 s7 n2 rg2 e2 => ?_⟩⟩
  obtain ⟨u1, u2⟩ := Range.uniq (by omega) (by omega) rg2 (rg.back a0 b0 l1 p0 pm)
  subst u1
  subst u2
  refine ⟨.int a, rfl, .int hi, rfl, _, _, rfl, rfl, .int a, rfl, .int lo, rfl, _, _, rfl, rfl, (by show 2 ≤ sizeLine; decide), fun T3 H8 n3 _ hH8 => ?_⟩
  have s8 : Same H7 H8 := by rw [hH8]; exact same_new n3
  have e3 : H8 T3 = some (.tup [.int (a - hi), .int (a - lo)]) := by rw [hH8]; exact upd_same
  clear hH8
  refine ⟨_, _, dp_p2 (s8 _ _ e2), dp_p2 e3, shaped_p2 .., shaped_p2 .., false, by rw [eqv_p2]; rfl, ?_⟩
  have s18 : Same H H8 := s15.trans (s6.trans (s7.trans s8))
  -- the other letters
  refine ⟨.ref x, rfl, readN (hx.same s18) c fun y H9 s9 hy => ⟨.int l, rfl, y, b, a, _, l, rfl, hy, COk.neg c, l0, by omega, fun T4 lo2 hi2 H10 s10 n4 rg3 e4 => ?_⟩⟩
  obtain ⟨u1, u2⟩ := Range.uniq (by omega) (by rw [Int.mul_comm b a]; omega) rg3 rg.swap
  subst u1
  subst u2
  refine ⟨.int l, rfl, .int hi, rfl, _, _, rfl, rfl, .int l, rfl, .int lo, rfl, _, _, rfl, rfl, (by show 2 ≤ sizeLine; decide), fun T5 H11 n5 _ hH11 => ?_⟩
  have s11 : Same H10 H11 := by rw [hH11]; exact same_new n5
  have e5 : H11 T5 = some (.tup [.int (l - hi), .int (l - lo)]) := by rw [hH11]; exact upd_same
  clear hH11
  refine ⟨_, _, dp_p2 (s11 _ _ e4), dp_p2 e5, shaped_p2 .., shaped_p2 .., false, by rw [eqv_p2]; rfl, ?_⟩
  have s111 : Same H H11 := s18.trans (s9.trans (s10.trans s11))
  refine ⟨.int l, rfl, .int a, rfl, .int b, rfl, _, _, rfl, rfl, rfl, _, rfl, ite2 (fun h => ?_) (fun h => ?_)⟩
  · have h : l = a + b := V.int.inj (of_decide_eq_true h)
    subst h
    have v1 : hi = a := IsMax.whole a0 b0 p0 rg.hi
    have v2 : a + b - lo = b := IsMax.whole (a := b) (b := a) (p := a * b - p) b0 a0 (by omega) (by rw [Int.add_comm b a]; exact rg.lo)
    obtain rfl : a = hi := v1.symm
    obtain rfl : lo = a := by omega
    refine ⟨.int _, rfl, .int _, rfl, (by show 2 ≤ sizeLine; decide), fun L1 H12 n6 _ hH12 => ?_⟩
    have s12 : Same H11 H12 := by rw [hH12]; exact same_new n6
    have e6 : H12 L1 = some (.lst [.int lo, .int lo]) := by rw [hH12]; exact upd_same
    clear hH12
    refine ⟨.int _, rfl, .int _, rfl, (by show 2 ≤ sizeLine; decide), fun L2 H13 n7 _ hH13 => ?_⟩
    have s13' : Same H12 H13 := by rw [hH13]; exact same_new n7
    have e7 : H13 L2 = some (.lst [.int lo, .int lo]) := by rw [hH13]; exact upd_same
    clear hH13
    refine ⟨_, _, dp_l2 (s13' _ _ e6), dp_l2 e7, shaped_l2 .., shaped_l2 .., ?_⟩
    rw [eqv_l2]
    exact q _ (s111.trans (s12.trans s13'))
  · have hne : ¬ l = a + b := fun z => h (by rw [z]; exact decide_eq_true rfl)
    refine ⟨.ref x, rfl, .int l, rfl, l, 1, rfl, rfl, x, a, b, p, l + 1, rfl, hx.same s111, c, by omega, by omega, fun T6 lo2 hi2 H12 s12 n6 rg4 e6 => ?_⟩
    obtain ⟨v1, v2⟩ := IsMax.next b0 (by omega) p0 rg.hi rg4.hi
    obtain ⟨v3, v4⟩ := IsMax.next (a := b) (b := a) a0 (by omega) (by omega) rg.lo rg4.lo
    refine ⟨.int lo, rfl, .ref T6, rfl, T6, _, 0, .int lo2, rfl, rfl, SqT.of e6, rfl, lo, lo2, rfl, rfl, true, by show V.bl (decide (lo ≤ lo2)) = V.bl true; rw [decide_eq_true (by omega)], .int lo, rfl, lo, 1, rfl, rfl, lo2, lo + 1, rfl, rfl, true, by show V.bl (decide (lo2 ≤ lo + 1)) = V.bl true; rw [decide_eq_true (by omega)], ?_⟩
    refine ⟨.int hi, rfl, .ref T6, rfl, T6, _, 1, .int hi2, rfl, rfl, SqT.of e6, rfl, hi, hi2, rfl, rfl, true, by show V.bl (decide (hi ≤ hi2)) = V.bl true; rw [decide_eq_true (by omega)], .int hi, rfl, hi, 1, rfl, rfl, hi2, hi + 1, rfl, rfl, true, by show V.bl (decide (hi2 ≤ hi + 1)) = V.bl true; rw [decide_eq_true (by omega)], ?_⟩
    exact ⟨.int lo, rfl, _, _, _, _, _, rfl, .ty "int", .base (.int _), kit_ty (b := "int") (r := true) (by decide +kernel), q _ (s111.trans s12)⟩

end
end K28
namespace K28
open PySem PySem.Spec PyProof.Rows L2 Vx
section
variable {P : Program} {w : World} {K : PySem.W.Frag} {mg : Str → Option Value} {base : Heap}
theorem cutG {A : Type} {B : Type} {P G : A → B → Hp → Prop} {T : Prop} (f : (∀ a b H, P a b H → G a b H) → T) (r : ∀ a b H, P a b H → G a b H) : T := f r
/-- drawn counts -/
structure Any28 (a b p : Int) : Prop where
  a0 : 0 ≤ a
  b0 : 0 ≤ b
  p0 : 0 ≤ p
  pm : p ≤ a * b
  a1 : a ≤ 10 ^ 31
  b1 : b ≤ 10 ^ 31
theorem top_ok {m : Int} (h : m ≤ 10 ^ 70) : m ≤ 2 ^ 7990 := by
  refine Int.le_trans h ?_
  have h1 : (10 : Int) ^ 70 ≤ 2 ^ 240 := by decide +kernel
  have h2 : (2 : Int) ^ 240 ≤ 2 ^ 7990 := by
    have e : ((2 ^ 240 : Nat) : Int) ≤ ((2 ^ 7990 : Nat) : Int) := Int.ofNat_le.mpr (Nat.pow_le_pow_right (by decide) (by decide))
    simpa using e
  exact Int.le_trans h1 h2
def spDrawn (most : Int) : Sp := fun vs H Q _ => ∃ (r : Addr) (N : Nat), vs = [.ref r, .int most] ∧ Spr H r N ∧ N ≤ 900000 ∧ ∀ (T : Addr) (a b p : Int) (H' : Hp), Any28 a b p → Keep r H H' → Spr H' r (N + 40) → T ≠ r → H' T = some (.tup [.int a, .int b, .int p]) → Q (.ref T) H'
theorem Keep.at {r p : Addr} {H H' : Hp} {o : HO} (k : Keep r H H') (n : p ≠ r) (e : H p = some o) : H' p = some o := k _ _ n e
theorem sub_lt {x y : Int} (h : x < y) : x ≤ y := by omega
theorem ok_law_counts {f fD : Addr} {fd fdD : FuncData} {k : Nat} (F : Fun K "_law_counts" "_law_counts" st_law_counts f fd) (F_law_draw : Fun K "_law_draw" "_law_draw" st_law_draw fD fdD) (G_law_draw : FnOk P w K mg base CX0 2 fD fdD ["spring", "many"] (spDrawS 1000000 2 (2 ^ 7990)))
    (b_law_draw : Binds K fdD ["spring", "many"] []) (g_law_draw : mg "_law_draw" = some (.ref fD)) (m_min : mg "min" = none) (m_max : mg "max" = none) : FnOk P w K mg base CX0 (k + 3) f fd ["spring", "most"] (spDrawn 200) := by
  refine F.ok sc_law_counts (fun vs H Q E h => ?_) (fun cdv A outer s H vs Q E hr h => ?_)
  · obtain ⟨r, N, rfl, _⟩ := h; rfl
  obtain ⟨r, N, rfl, R, hN, q⟩ := h
  have tp : ∀ {m : Int}, m ≤ 100000 → m ≤ 2 ^ 7990 := fun h => top_ok (Int.le_trans h (by decide +kernel))
  refine ⟨_, (pss_cons (ps_set (i := 2) sc_law_counts.nd rfl (Or.inl rfl) (pe_call G_law_draw (hr.mono (by omega)) (by rfl) g_law_draw F_law_draw.kp b_law_draw .nil pass0 (pa_cons (pv 0) (pa_cons (pe_op op_add (pv 1) pe_int) pa_nil))))
    (pss_cons (ps_set (i := 3) sc_law_counts.nd rfl (Or.inl rfl) (pe_call G_law_draw (hr.mono (by omega)) (by rfl) g_law_draw F_law_draw.kp b_law_draw .nil pass0 (pa_cons (pv 0) (pa_cons (pe_op op_sub (pe_op op_add (pv 1) pe_int) (pv 2)) pa_nil))))
    (pss_cons (ps_if (pt_cmpR op_gt (pe_call G_law_draw (hr.mono (by omega)) (by rfl) g_law_draw F_law_draw.kp b_law_draw .nil pass0 (pa_cons (pv 0) (pa_cons pe_int pa_nil))) pe_int (nomark _)) (pss_one (ps_par (i := 2) (j := 3) (by rfl) sc_law_counts.nd rfl rfl (by decide) rfl rfl (pa_cons (pe_op op_sub (pe_op op_fdivW (pv 1) pe_int) (pe_call G_law_draw (hr.mono (by omega)) (by rfl) g_law_draw F_law_draw.kp b_law_draw .nil pass0 (pa_cons (pv 0) (pa_cons (pe_callB (call_min2 rfl) (by rfl) m_min (by decide +kernel) (pa_cons pe_int (pa_cons (pe_op op_add (pe_op op_fdivW (pv 1) pe_int) pe_int) pa_nil))) pa_nil)))) (pa_cons (pe_op op_fdivW (pv 1) pe_int) pa_nil)) (by rfl))) pss_nil)
    (pss_cons (ps_set (i := 4) sc_law_counts.nd rfl (Or.inl rfl) (pe_op op_mulW (pv 2) (pv 3)))
    (pss_cons (ps_set (i := 5) sc_law_counts.nd rfl (Or.inl rfl) (peq_lst (pa_cons (pe_call G_law_draw (hr.mono (by omega)) (by rfl) g_law_draw F_law_draw.kp b_law_draw .nil pass0 (pa_cons (pv 0) (pa_cons (pe_op op_add (pv 4) pe_int) pa_nil))) (pa_cons (pe_op op_fdivW (pv 4) pe_int) (pa_cons pe_int (pa_cons (pe_callB (call_min2 rfl) (by rfl) m_min (by decide +kernel) (pa_cons pe_int (pa_cons (pv 4) pa_nil))) (pa_cons (pe_callB (call_max2 rfl) (by rfl) m_max (by decide +kernel) (pa_cons pe_int (pa_cons (pe_op op_sub (pv 4) pe_int) pa_nil))) (pa_cons (pv 4) pa_nil))))))))
    (pss_cons (ps_set (i := 5) sc_law_counts.nd rfl (Or.inl rfl) (pe_op op_cat (pv 5) (peq_lst (pa_cons (pe_callB (call_min2 rfl) (by rfl) m_min (by decide +kernel) (pa_cons (pv 4) (pa_cons (pe_call G_law_draw (hr.mono (by omega)) (by rfl) g_law_draw F_law_draw.kp b_law_draw .nil pass0 (pa_cons (pv 0) (pa_cons pe_int pa_nil))) pa_nil))) (pa_cons (pe_op op_sub (pv 4) (pe_callB (call_min2 rfl) (by rfl) m_min (by decide +kernel) (pa_cons (pv 4) (pa_cons (pe_call G_law_draw (hr.mono (by omega)) (by rfl) g_law_draw F_law_draw.kp b_law_draw .nil pass0 (pa_cons (pv 0) (pa_cons pe_int pa_nil))) pa_nil)))) pa_nil)))))
    (pss_one (ps_ret (peq_tup (pa_cons (pv 2) (pa_cons (pv 3) (pa_cons (pe_ix ix_list (pv 5) (pe_call G_law_draw (hr.mono (by omega)) (by rfl) g_law_draw F_law_draw.kp b_law_draw .nil pass0 (pa_cons (pv 0) (pa_cons pe_int pa_nil))) (fun _ _ => rfl)) pa_nil)))))))))))), ?_⟩
  refine ⟨.ref r, rfl, .int 200, rfl, 200, 1, rfl, rfl, r, 200 + 1, N, rfl, R, by omega, by decide, tp (by decide), fun m H1 m0 m1 k1 R1 => ?_⟩
  refine ⟨.ref r, rfl, .int 200, rfl, 200, 1, rfl, rfl, .int m, rfl, _, _, rfl, rfl, r, 200 + 1 - m, _, rfl, R1, by omega, by omega, tp (by omega), fun o H2 o0 o1 k2 R2 => ?_⟩
  refine ⟨.ref r, rfl, r, 3, _, rfl, R2, by omega, by decide, tp (by decide), fun d3 H3 l3 u3 k3 R3 => ?_⟩
  have k13 : Keep r H H3 := (k1.trans k2).trans k3
  refine ⟨_, _, rfl, rfl, _, rfl, ?_⟩
  refine' cutG (A := Int) (B := Int) (P := fun one two H' => 0 ≤ one ∧ 0 ≤ two ∧ one ≤ 200 ∧ two ≤ 200 ∧ Keep r H H' ∧ Spr H' r (N + 8)) (fun rest => ite2 (fun _ => ?f1) (fun _ => ?f2)) ?rest
  case f1 =>
    refine ⟨.int 200, rfl, 200, 2, rfl, rfl, wide_div (b := 2) (by decide) (by decide) (by decide) (by decide), .ref r, rfl, .int 200, rfl, 200, 2, rfl, rfl, wide_div (b := 2) (by decide) (by decide) (by decide) (by decide), _, _, rfl, rfl, _, _, rfl, r, _, _, rfl, R3, by omega, by decide, tp (by decide), fun d4 H4 l4 u4 k4 R4 => ?_⟩
    have u4 : d4 < 5 := Int.lt_of_lt_of_le u4 (by decide)
    obtain ⟨one, h1⟩ : ∃ one, one = 200 / 2 - d4 := ⟨_, rfl⟩
    obtain ⟨two, h2⟩ : ∃ two : Int, two = 200 / 2 := ⟨_, rfl⟩
    refine ⟨_, _, rfl, rfl, .int 200, rfl, 200, 2, rfl, rfl, wide_div (b := 2) (by decide) (by decide) (by decide) (by decide), .int one, .int two, by rw [h1, h2], rest one two H4 ⟨by omega, by omega, by omega, by omega, k13.trans k4, R4⟩⟩
  case f2 => exact rest m o H3 ⟨m0, o0, by omega, by omega, k13, R3.mono (by omega)⟩
  case rest =>
    rintro one two H4 ⟨a0, b0, a1, b1, k4, R4⟩
    have wa : one.natAbs < 2 ^ 10 := by omega
    have wb : two.natAbs < 2 ^ 10 := by omega
    have m0 : 0 ≤ one * two := Int.mul_nonneg a0 b0
    have m1 : one * two ≤ 200 * 200 := Int.mul_le_mul a1 b1 b0 (by decide)
    refine ⟨.int one, rfl, .int two, rfl, one, two, rfl, rfl, wide_mul wa wb (by decide) (by decide) (by decide), ?_⟩
    obtain ⟨full, hf⟩ : ∃ full, full = one * two := ⟨_, rfl⟩
    have hfull : (one * two) = full := hf.symm
    rw [← hf] at m0 m1
    dsimp only
    rw [hfull]
    refine ⟨.ref r, rfl, .int full, rfl, full, 1, rfl, rfl, r, full + 1, _, rfl, R4, by omega, by omega, tp (by omega), fun d5 H5 l5 u5 k5 R5 => ?_⟩
    refine ⟨.int full, rfl, full, 2, rfl, rfl, wide_div (b := 2) (by decide) (by decide) (by decide) (by decide), .int full, rfl, _, _, rfl, .int full, rfl, _, _, rfl, rfl, _, _, rfl, .int full, rfl, (by show 6 ≤ sizeLine; decide), fun p H6 np _ hH6 => ?_⟩
    have s6 : Same H5 H6 := by rw [hH6]; exact same_new np
    have e6 : H6 p = some (.lst [.int d5, .int (full / 2), .int 0, .int (if full < 1 then full else 1), .int (if 0 < full - 1 then full - 1 else 0), .int full]) := by rw [hH6]; exact upd_same
    have R6 := R5.same s6
    have npr := R5.ne np
    clear hH6
    refine ⟨.ref p, rfl, .int full, rfl, .ref r, rfl, r, 9, _, rfl, R6, by omega, by decide, tp (by decide), fun d7 H7 l7 u7 k7 R7 => ⟨_, _, rfl, ?_⟩⟩
    refine ⟨.int full, rfl, .int full, rfl, .ref r, rfl, r, 9, _, rfl, R7, by omega, by decide, tp (by decide), fun d8 H8 l8 u8 k8 R8 => ⟨_, _, rfl, _, _, rfl, rfl, (by show 2 ≤ sizeLine; decide), fun p9 H9 np9 _ hH9 => ?_⟩⟩
    have s9 : Same H8 H9 := by rw [hH9]; exact same_new np9
    have e9 : H9 p9 = some (.lst [.int (if d7 < full then d7 else full), .int (full - (if d8 < full then d8 else full))]) := by rw [hH9]; exact upd_same
    have R9 := R8.same s9
    have np9r := R8.ne np9
    clear hH9
    have e6' := s9 _ _ (k8 _ _ npr (k7 _ _ npr e6))
    refine ⟨p, p9, _, _, rfl, rfl, e6', e9, (by show 6 + 2 ≤ sizeLine; decide), fun u nu => ?_⟩
    have s10 : Same H9 (upd H9 u (.lst ([V.int d5, .int (full / 2), .int 0, .int (if full < 1 then full else 1), .int (if 0 < full - 1 then full - 1 else 0), .int full] ++ [V.int (if d7 < full then d7 else full), .int (full - (if d8 < full then d8 else full))]))) := same_new nu
    have e10 : (upd H9 u (.lst ([V.int d5, .int (full / 2), .int 0, .int (if full < 1 then full else 1), .int (if 0 < full - 1 then full - 1 else 0), .int full] ++ [V.int (if d7 < full then d7 else full), .int (full - (if d8 < full then d8 else full))]))) u = some (.lst [.int d5, .int (full / 2), .int 0, .int (if full < 1 then full else 1), .int (if 0 < full - 1 then full - 1 else 0), .int full, .int (if d7 < full then d7 else full), .int (full - (if d8 < full then d8 else full))]) := upd_same
    have nur := R9.ne nu
    generalize upd H9 u (.lst ([V.int d5, .int (full / 2), .int 0, .int (if full < 1 then full else 1), .int (if 0 < full - 1 then full - 1 else 0), .int full] ++ [V.int (if d7 < full then d7 else full), .int (full - (if d8 < full then d8 else full))])) = H10 at s10 e10 ⊢
    have R10 := R9.same s10
    refine ⟨.int one, rfl, .int two, rfl, .ref u, rfl, .ref r, rfl, r, 8, _, rfl, R10, by omega, by decide, tp (by decide), fun d11 H11 l11 u11 k11 R11 => ?_⟩
    have e11 := k11 _ _ nur e10
    have hz : ∃ z : Int, atI [V.int d5, .int (full / 2), .int 0, .int (if full < 1 then full else 1), .int (if 0 < full - 1 then full - 1 else 0), .int full, .int (if d7 < full then d7 else full), .int (full - (if d8 < full then d8 else full))] d11 = some (.int z) ∧ 0 ≤ z ∧ z ≤ full := by
      have : d11 = 0 ∨ d11 = 1 ∨ d11 = 2 ∨ d11 = 3 ∨ d11 = 4 ∨ d11 = 5 ∨ d11 = 6 ∨ d11 = 7 := by omega
      rcases this with rfl | rfl | rfl | rfl | rfl | rfl | rfl | rfl
      · exact ⟨_, at_of (j := 0) rfl rfl, l5, by omega⟩
      · exact ⟨_, at_of (j := 1) rfl rfl, by omega, by omega⟩
      · exact ⟨_, at_of (j := 2) rfl rfl, by decide, m0⟩
      · refine ⟨_, at_of (j := 3) rfl rfl, ?_, ?_⟩ <;> split <;> omega
      · refine ⟨_, at_of (j := 4) rfl rfl, ?_, ?_⟩ <;> split <;> omega
      · exact ⟨_, at_of (j := 5) rfl rfl, m0, by omega⟩
      · refine ⟨_, at_of (j := 6) rfl rfl, ?_, ?_⟩ <;> split <;> omega
      · refine ⟨_, at_of (j := 7) rfl rfl, ?_, ?_⟩ <;> split <;> omega
    obtain ⟨z, hz, z0, z1⟩ := hz
    refine ⟨u, _, d11, .int z, rfl, rfl, SqL.of e11, hz, (by show 3 ≤ sizeLine; decide), fun T H12 nT _ hH12 => ?_⟩
    have s12 : Same H11 H12 := by rw [hH12]; exact same_new nT
    have kk : Keep r H H12 := (k4.trans (k5.trans ((Keep.of s6).trans (k7.trans (k8.trans ((Keep.of s9).trans ((Keep.of s10).trans k11))))))).trans (Keep.of s12)
    exact q T one two z H12 ⟨a0, b0, z0, by rw [← hf]; exact z1, Int.le_trans a1 (by decide +kernel), Int.le_trans b1 (by decide +kernel)⟩ kk ((R11.same s12).mono (by omega)) (R11.ne nT) (by rw [hH12]; exact upd_same)
def spFar28 : Sp := fun vs H Q _ => ∃ (r : Addr) (N : Nat), vs = [.ref r] ∧ Spr H r N ∧ N ≤ 900000 ∧ ∀ (T : Addr) (a b p : Int) (H' : Hp), Any28 a b p → Keep r H H' → Spr H' r (N + 40) → T ≠ r → H' T = some (.tup [.int a, .int b, .int p]) → Q (.ref T) H'
theorem ok_law_far {f fD : Addr} {fd fdD : FuncData} {k : Nat} (F : Fun K "_law_far" "_law_far" st_law_far f fd) (F_law_draw : Fun K "_law_draw" "_law_draw" st_law_draw fD fdD) (G_law_draw : FnOk P w K mg base CX0 2 fD fdD ["spring", "many"] (spDrawS 1000000 2 (2 ^ 7990)))
    (b_law_draw : Binds K fdD ["spring", "many"] []) (g_law_draw : mg "_law_draw" = some (.ref fD)) (m_min : mg "min" = none) : FnOk P w K mg base CX0 (k + 3) f fd ["spring"] spFar28 := by
  refine F.ok sc_law_far (fun vs H Q E h => ?_) (fun cdv A outer s H vs Q E hr h => ?_)
  · obtain ⟨r, N, rfl, _⟩ := h; rfl
  obtain ⟨r, N, rfl, R, hN, q⟩ := h
  have tp : ∀ {m : Int}, m ≤ 100000 → m ≤ 2 ^ 7990 := fun h => top_ok (Int.le_trans h (by decide +kernel))
  have tq : ∀ {m : Int}, m ≤ 10 ^ 31 → m ≤ 2 ^ 7990 := fun h => top_ok (Int.le_trans h (by decide +kernel))
  refine ⟨_, (pss_cons (ps_set (i := 1) sc_law_far.nd rfl (Or.inl rfl) (pe_ix ix_list (peq_lst (pa_cons pe_int (pa_cons (pe_op op_pow pe_int pe_int) (pa_cons (pe_op op_pow pe_int pe_int) pa_nil)))) (pe_call G_law_draw (hr.mono (by omega)) (by rfl) g_law_draw F_law_draw.kp b_law_draw .nil pass0 (pa_cons (pv 0) (pa_cons pe_int pa_nil))) (fun _ _ => rfl)))
    (pss_cons (ps_par (i := 2) (j := 3) (by rfl) sc_law_far.nd rfl rfl (by decide) rfl rfl (pa_cons (pe_call G_law_draw (hr.mono (by omega)) (by rfl) g_law_draw F_law_draw.kp b_law_draw .nil pass0 (pa_cons (pv 0) (pa_cons (pv 1) pa_nil))) (pa_cons (pe_call G_law_draw (hr.mono (by omega)) (by rfl) g_law_draw F_law_draw.kp b_law_draw .nil pass0 (pa_cons (pv 0) (pa_cons (pe_ix ix_list (peq_lst (pa_cons pe_int (pa_cons (pv 1) pa_nil))) (pe_call G_law_draw (hr.mono (by omega)) (by rfl) g_law_draw F_law_draw.kp b_law_draw .nil pass0 (pa_cons (pv 0) (pa_cons pe_int pa_nil))) (fun _ _ => rfl)) pa_nil))) pa_nil)) (by rfl))
    (pss_cons (ps_if (pt_cmpR op_eq (pe_call G_law_draw (hr.mono (by omega)) (by rfl) g_law_draw F_law_draw.kp b_law_draw .nil pass0 (pa_cons (pv 0) (pa_cons pe_int pa_nil))) pe_int (nomark _)) (pss_one (ps_par (i := 2) (j := 3) (by rfl) sc_law_far.nd rfl rfl (by decide) rfl rfl (pa_cons (pv 3) (pa_cons (pv 2) pa_nil)) (by rfl))) pss_nil)
    (pss_cons (ps_set (i := 4) sc_law_far.nd rfl (Or.inl rfl) (pe_op op_mulW (pv 2) (pv 3)))
    (pss_cons (ps_set (i := 5) sc_law_far.nd rfl (Or.inl rfl) (pe_callB (call_min2 rfl) (by rfl) m_min (by decide +kernel) (pa_cons (pv 4) (pa_cons (pe_call G_law_draw (hr.mono (by omega)) (by rfl) g_law_draw F_law_draw.kp b_law_draw .nil pass0 (pa_cons (pv 0) (pa_cons (pe_op op_add (pe_op op_mulW pe_int (pe_op op_add (pv 2) (pv 3))) pe_int) pa_nil))) pa_nil))))
    (pss_cons (ps_set (i := 6) sc_law_far.nd rfl (Or.inl rfl) (pe_ix ix_list (peq_lst (pa_cons (pe_call G_law_draw (hr.mono (by omega)) (by rfl) g_law_draw F_law_draw.kp b_law_draw .nil pass0 (pa_cons (pv 0) (pa_cons (pe_op op_add (pv 4) pe_int) pa_nil))) (pa_cons (pv 5) (pa_cons (pe_op op_sub (pv 4) (pv 5)) (pa_cons (pe_op op_fdivW (pv 4) pe_int) (pa_cons pe_int (pa_cons (pv 4) (pa_cons (pe_callB (call_min2 rfl) (by rfl) m_min (by decide +kernel) (pa_cons pe_int (pa_cons (pv 4) pa_nil))) pa_nil)))))))) (pe_call G_law_draw (hr.mono (by omega)) (by rfl) g_law_draw F_law_draw.kp b_law_draw .nil pass0 (pa_cons (pv 0) (pa_cons pe_int pa_nil))) (fun _ _ => rfl)))
    (pss_one (ps_ret (peq_tup (pa_cons (pv 2) (pa_cons (pv 3) (pa_cons (pv 6) pa_nil)))))))))))), ?_⟩
  refine ⟨10, 9, rfl, rfl, ⟨by decide, by decide, by decide⟩, 10, 31, rfl, rfl, ⟨by decide, by decide, by decide⟩, (by show 3 ≤ sizeLine; decide), fun p1 H1 np1 _ hH1 => ?_⟩
  have s1 : Same H H1 := by rw [hH1]; exact same_new np1
  have e1 : H1 p1 = some (.lst [.int 200, .int (10 ^ 9), .int (10 ^ 31)]) := by rw [hH1]; exact upd_same
  have n1r := R.ne np1
  have R1 := R.same s1
  clear hH1
  refine ⟨.ref r, rfl, r, 3, N, rfl, R1, by omega, by decide, tp (by decide), fun d2 H2 l2 u2 k2 R2 => ?_⟩
  have e2 := k2 _ _ n1r e1
  have hz : ∃ z : Int, atI [V.int 200, .int (10 ^ 9), .int (10 ^ 31)] d2 = some (.int z) ∧ 4 ≤ z ∧ z ≤ 10 ^ 31 := by
    have : d2 = 0 ∨ d2 = 1 ∨ d2 = 2 := by omega
    rcases this with rfl | rfl | rfl
    · exact ⟨_, at_of (j := 0) rfl rfl, by decide, by decide +kernel⟩
    · exact ⟨_, at_of (j := 1) rfl rfl, by decide, by decide +kernel⟩
    · exact ⟨_, at_of (j := 2) rfl rfl, by decide +kernel, Int.le_refl _⟩
  obtain ⟨wide, hw, w0, w1⟩ := hz
  refine ⟨p1, _, d2, .int wide, rfl, rfl, SqL.of e2, hw, ?_⟩
  refine ⟨.ref r, rfl, .int wide, rfl, r, wide, _, rfl, R2, by omega, by omega, tq w1, fun m H3 m0 m1 k3 R3 => ?_⟩
  refine ⟨.ref r, rfl, .int wide, rfl, (by show 2 ≤ sizeLine; decide), fun p4 H4 np4 _ hH4 => ?_⟩
  have s4 : Same H3 H4 := by rw [hH4]; exact same_new np4
  have e4 : H4 p4 = some (.lst [.int 4, .int wide]) := by rw [hH4]; exact upd_same
  have n4r := R3.ne np4
  have R4 := R3.same s4
  clear hH4
  refine ⟨.ref r, rfl, r, 2, _, rfl, R4, by omega, by decide, tp (by decide), fun d5 H5 l5 u5 k5 R5 => ?_⟩
  have e5 := k5 _ _ n4r e4
  have hz : ∃ z : Int, atI [V.int 4, .int wide] d5 = some (.int z) ∧ 4 ≤ z ∧ z ≤ 10 ^ 31 := by
    have : d5 = 0 ∨ d5 = 1 := by omega
    rcases this with rfl | rfl
    · exact ⟨_, at_of (j := 0) rfl rfl, by decide, by decide +kernel⟩
    · exact ⟨_, at_of (j := 1) rfl rfl, w0, w1⟩
  obtain ⟨w2, hw2, x0, x1⟩ := hz
  refine ⟨p4, _, d5, .int w2, rfl, rfl, SqL.of e5, hw2, r, w2, _, rfl, R5, by omega, by omega, tq x1, fun o H6 o0 o1 k6 R6 => ?_⟩
  refine ⟨.int m, .int o, rfl, ?_⟩
  refine ⟨.ref r, rfl, r, 2, _, rfl, R6, by omega, by decide, tp (by decide), fun d7 H7 l7 u7 k7 R7 => ?_⟩
  have k17 : Keep r H H7 := (Keep.of s1).trans (k2.trans (k3.trans ((Keep.of s4).trans (k5.trans (k6.trans k7)))))
  refine ⟨rfl, _, rfl, ?_⟩
  refine' cutG (A := Int) (B := Int) (P := fun one two H' => 0 ≤ one ∧ 0 ≤ two ∧ one ≤ 10 ^ 31 ∧ two ≤ 10 ^ 31 ∧ Keep r H H' ∧ Spr H' r (N + 14)) (fun rest => ite2 (fun _ => ?f1) (fun _ => ?f2)) ?rest
  case f1 =>
    obtain ⟨X, hX⟩ : ∃ X : Hp, X = H7 := ⟨_, rfl⟩
    obtain ⟨u, hu⟩ : ∃ u : Int, u = o := ⟨_, rfl⟩
    obtain ⟨v, hv⟩ : ∃ v : Int, v = m := ⟨_, rfl⟩
    rw [← hX]
    exact ⟨.int o, rfl, .int m, rfl, .int u, .int v, by rw [hu, hv], rest u v X ⟨by omega, by omega, by rw [hu]; exact Int.le_trans (Int.le_of_lt o1) x1, by rw [hv]; exact Int.le_trans (Int.le_of_lt m1) w1, by rw [hX]; exact k17, by rw [hX]; exact R7.mono (by omega)⟩⟩
  case f2 => exact rest m o H7 ⟨m0, o0, Int.le_trans (Int.le_of_lt m1) w1, Int.le_trans (Int.le_of_lt o1) x1, k17, R7.mono (by omega)⟩
  case rest =>
    rintro one two H8 ⟨a0, b0, a1, b1, k8, R8⟩
    have big : (10 : Int) ^ 31 < 2 ^ 110 := by decide +kernel
    have wa : one.natAbs < 2 ^ 110 := by
      have := Int.lt_of_le_of_lt a1 big
      omega
    have wb : two.natAbs < 2 ^ 110 := by
      have := Int.lt_of_le_of_lt b1 big
      omega
    have f0 : 0 ≤ one * two := Int.mul_nonneg a0 b0
    have f1 : one * two ≤ 10 ^ 31 * 10 ^ 31 := Int.mul_le_mul a1 b1 b0 (by decide)
    have b62 : (10 : Int) ^ 31 * 10 ^ 31 + 1 ≤ 10 ^ 70 := by decide +kernel
    refine ⟨.int one, rfl, .int two, rfl, one, two, rfl, rfl, wide_mul wa wb (by decide) (by decide) (by decide), ?_⟩
    obtain ⟨full, hf⟩ : ∃ full, full = one * two := ⟨_, rfl⟩
    have hfull : (one * two) = full := hf.symm
    rw [← hf] at f0 f1
    dsimp only
    rw [hfull]
    have tf : ∀ {m : Int}, m ≤ full + 1 → m ≤ 2 ^ 7990 := fun h => top_ok (Int.le_trans h (Int.le_trans (by omega) b62))
    have ts : 3 * (one + two) + 2 ≤ 10 ^ 70 := by
      have h1 : (3 : Int) * (10 ^ 31 + 10 ^ 31) + 2 ≤ 10 ^ 70 := by decide +kernel
      refine Int.le_trans ?_ h1
      generalize (10 : Int) ^ 31 = t at *
      omega
    have w3 : (3 : Int).natAbs < 2 ^ 2 := by decide
    have w4 : (one + two).natAbs < 2 ^ 111 := by omega
    refine ⟨.int full, rfl, .ref r, rfl, .int one, rfl, .int two, rfl, _, _, rfl, rfl, 3, one + two, rfl, rfl, wide_mul w3 w4 (by decide) (by decide) (by decide), _, _, rfl, rfl, r, 3 * (one + two) + 2, _, rfl, R8, by omega, by omega, top_ok ts, fun d9 H9 l9 u9 k9 R9 => ⟨_, _, rfl, ?_⟩⟩
    obtain ⟨near, hnear, nr0, nr1⟩ : ∃ near, near = (if d9 < full then d9 else full) ∧ 0 ≤ near ∧ near ≤ full := ⟨_, rfl, by split <;> omega, by split <;> omega⟩
    rw [← hnear]
    refine ⟨.ref r, rfl, .int full, rfl, full, 1, rfl, rfl, r, full + 1, _, rfl, R9, by omega, by omega, tf (Int.le_refl _), fun d10 H10 l10 u10 k10 R10 => ?_⟩
    refine ⟨.int near, rfl, .int full, rfl, .int near, rfl, _, _, rfl, rfl, .int full, rfl, full, 2, rfl, rfl, wide_div (b := 2) (by decide) (by decide) (by decide) (by decide), .int full, rfl, .int full, rfl, _, _, rfl, (by show 7 ≤ sizeLine; decide), fun u H11 nu _ hH11 => ?_⟩
    have s11 : Same H10 H11 := by rw [hH11]; exact same_new nu
    have e11 : H11 u = some (.lst [.int d10, .int near, .int (full - near), .int (full / 2), .int 0, .int full, .int (if full < 1 then full else 1)]) := by rw [hH11]; exact upd_same
    have nur := R10.ne nu
    have R11 := R10.same s11
    clear hH11
    refine ⟨.ref r, rfl, r, 7, _, rfl, R11, by omega, by decide, tp (by decide), fun d12 H12 l12 u12 k12 R12 => ?_⟩
    have e12 := k12 _ _ nur e11
    have hz : ∃ z : Int, atI [V.int d10, .int near, .int (full - near), .int (full / 2), .int 0, .int full, .int (if full < 1 then full else 1)] d12 = some (.int z) ∧ 0 ≤ z ∧ z ≤ full := by
      have : d12 = 0 ∨ d12 = 1 ∨ d12 = 2 ∨ d12 = 3 ∨ d12 = 4 ∨ d12 = 5 ∨ d12 = 6 := by omega
      rcases this with rfl | rfl | rfl | rfl | rfl | rfl | rfl
      · exact ⟨_, at_of (j := 0) rfl rfl, l10, by omega⟩
      · exact ⟨_, at_of (j := 1) rfl rfl, nr0, nr1⟩
      · exact ⟨_, at_of (j := 2) rfl rfl, by omega, by omega⟩
      · exact ⟨_, at_of (j := 3) rfl rfl, by omega, by omega⟩
      · exact ⟨_, at_of (j := 4) rfl rfl, by decide, f0⟩
      · exact ⟨_, at_of (j := 5) rfl rfl, f0, by omega⟩
      · refine ⟨_, at_of (j := 6) rfl rfl, ?_, ?_⟩ <;> split <;> omega
    obtain ⟨z, hz, z0, z1⟩ := hz
    refine ⟨u, _, d12, .int z, rfl, rfl, SqL.of e12, hz, ?_⟩
    refine ⟨.int one, rfl, .int two, rfl, .int z, rfl, (by show 3 ≤ sizeLine; decide), fun T H13 nT _ hH13 => ?_⟩
    have s13 : Same H12 H13 := by rw [hH13]; exact same_new nT
    have kk : Keep r H H13 := (k8.trans (k9.trans (k10.trans ((Keep.of s11).trans k12)))).trans (Keep.of s13)
    exact q T one two z H13 ⟨a0, b0, z0, by rw [← hf]; exact z1, a1, b1⟩ kk ((R12.same s13).mono (by omega)) (R12.ne nT) (by rw [hH13]; exact upd_same)

end
end K28
namespace K28
open PySem PySem.Spec PyProof.Rows L2 Vx
section
variable {P : Program} {w : World} {K : PySem.W.Frag} {mg : Str → Option Value} {base : Heap}
theorem mkC2 {C x dx : Addr} {H : Hp} {a b p : Int} {R : Hp → Prop} (nx : H x = none) (ndx : H dx = none) (c : COk a b p) (h : ∀ H', Same H H' → CountsAt C H' x a b p → R H') :
    spInit C (.ref x :: ([.int a, .int b, .int p] ++ [])) (upd (upd H dx (.own x)) x (.ins C dx [])) (fun v H2 => v = .non ∧ R H2) E0 := mkC (Q := fun _ H2 => R H2) nx ndx c h
theorem cutT {A : Type} {P G : A → Hp → Prop} {T : Prop} (f : (∀ a H, P a H → G a H) → T) (r : ∀ a H, P a H → G a H) : T := f r
theorem cut4 {A B C D : Type} {P G : A → B → C → D → Hp → Prop} {T : Prop} (f : (∀ a b c d H, P a b c d H → G a b c d H) → T) (r : ∀ a b c d H, P a b c d H → G a b c d H) : T := f r
theorem Any28.ok {a b p : Int} (h : Any28 a b p) : COk a b p := by
  have big : (10 : Int) ^ 31 < 2 ^ 110 := by decide +kernel
  have e : (2 : Nat) ^ 110 < 2 ^ 3000 := Nat.pow_lt_pow_right (by decide) (by decide)
  have h1 := Int.lt_of_le_of_lt h.a1 big
  have h2 := Int.lt_of_le_of_lt h.b1 big
  have h3 := h.a0
  have h4 := h.b0
  exact ⟨h.a0, h.b0, h.p0, h.pm, Nat.lt_trans (by omega) e, Nat.lt_trans (by omega) e⟩
theorem half_le (t : Int) (h : 1 ≤ t) : 0 ≤ t * (t - 1) / 2 ∧ t + t * (t - 1) / 2 ≤ t * t := by
  have h1 : t * (t - 1) = t * t - t := by rw [Int.mul_sub, Int.mul_one]
  have h2 : t * 1 ≤ t * t := Int.mul_le_mul_of_nonneg_left h (by omega)
  rw [Int.mul_one] at h2
  rw [h1]
  constructor <;> omega
theorem Any28.times {a b p t : Int} (h : Any28 a b p) (t1 : 1 ≤ t) (t2 : t ≤ 10 ^ 30) : COk (a * t) (b * t) (p * t + a * b * (t * (t - 1) / 2)) ∧ a * t + b * t ≤ 10 ^ 62 := by
  obtain ⟨h1, h2⟩ := half_le t t1
  have ab0 := Int.mul_nonneg h.a0 h.b0
  have a1 : a * t ≤ 10 ^ 31 * 10 ^ 30 := Int.mul_le_mul h.a1 t2 (by omega) (by decide)
  have b1 : b * t ≤ 10 ^ 31 * 10 ^ 30 := Int.mul_le_mul h.b1 t2 (by omega) (by decide)
  have a0 : 0 ≤ a * t := Int.mul_nonneg h.a0 (by omega)
  have b0 : 0 ≤ b * t := Int.mul_nonneg h.b0 (by omega)
  have big : (10 : Int) ^ 31 * 10 ^ 30 < 2 ^ 210 := by decide +kernel
  have e : (2 : Nat) ^ 210 < 2 ^ 3000 := Nat.pow_lt_pow_right (by decide) (by decide)
  have ha := Int.lt_of_le_of_lt a1 big
  have hb := Int.lt_of_le_of_lt b1 big
  refine ⟨⟨a0, b0, ?_, ?_, Nat.lt_trans (by omega) e, Nat.lt_trans (by omega) e⟩, ?_⟩
  · have := Int.mul_nonneg h.p0 (show 0 ≤ t by omega)
    have := Int.mul_nonneg ab0 h1
    omega
  · have g1 : p * t ≤ a * b * t := Int.mul_le_mul_of_nonneg_right h.pm (by omega)
    have g2 : a * b * (t + t * (t - 1) / 2) ≤ a * b * (t * t) := Int.mul_le_mul_of_nonneg_left h2 ab0
    have g3 : a * t * (b * t) = a * b * (t * t) := by rw [Int.mul_assoc, Int.mul_left_comm t b t, ← Int.mul_assoc]
    rw [Int.mul_add] at g2
    rw [g3]
    omega
  · have : (10 : Int) ^ 31 * 10 ^ 30 + 10 ^ 31 * 10 ^ 30 ≤ 10 ^ 62 := by decide +kernel
    exact Int.le_trans (Int.add_le_add a1 b1) this
theorem Spr.neT {H : Hp} {r T : Addr} {N : Nat} {xs : List V} (R : Spr H r N) (e : H T = some (.tup xs)) : T ≠ r := by
  rintro rfl
  obtain ⟨ys, e2⟩ := R.is
  rw [e2] at e; cases e
theorem Spr.neC {C : Addr} {H : Hp} {r x : Addr} {N : Nat} {a b p : Int} (R : Spr H r N) (e : CountsAt C H x a b p) : x ≠ r := by
  rintro rfl
  obtain ⟨ys, e2⟩ := R.is
  obtain ⟨dx, e⟩ := e
  rw [e2] at e; cases e
theorem max233 : Range 2 3 3 2 1 1 := ⟨⟨⟨by decide, by decide, by decide, by decide⟩, .inr (.inr (by decide))⟩, ⟨⟨by decide, by decide, by decide, by decide⟩, .inr (.inr (by decide))⟩⟩
theorem max000 : Range 0 0 0 0 0 0 := ⟨⟨⟨by decide, by decide, by decide, by decide⟩, .inl rfl⟩, ⟨⟨by decide, by decide, by decide, by decide⟩, .inl rfl⟩⟩
theorem ok_law {C f f1 f2 f3 f4 f5 f6 f7 gM : Addr} {fd fd1 fd2 fd3 fd4 fd5 fd6 fd7 : FuncData} (F : Fun K "law" "law" st_law f fd)
    (F_law_spring : Fun K "_law_spring" "_law_spring" st_law_spring f1 fd1) (G_law_spring : FnOk P w K mg base CX0 1 f1 fd1 ["script"] (spSpring K)) (b_law_spring : Binds K fd1 ["script"] []) (g_law_spring : mg "_law_spring" = some (.ref f1))
    (F_law_counts : Fun K "_law_counts" "_law_counts" st_law_counts f2 fd2) (G_law_counts : FnOk P w K mg base CX0 3 f2 fd2 ["spring", "most"] (spDrawn 200)) (b_law_counts : Binds K fd2 ["spring", "most"] []) (g_law_counts : mg "_law_counts" = some (.ref f2))
    (F_law_far : Fun K "_law_far" "_law_far" st_law_far f4 fd4) (G_law_far : FnOk P w K mg base CX0 3 f4 fd4 ["spring"] spFar28) (b_law_far : Binds K fd4 ["spring"] []) (g_law_far : mg "_law_far" = some (.ref f4))
    (F_law_draw : Fun K "_law_draw" "_law_draw" st_law_draw f5 fd5) (G_law_draw : FnOk P w K mg base CX0 2 f5 fd5 ["spring", "many"] (spDrawS 1000000 2 (2 ^ 7990))) (b_law_draw : Binds K fd5 ["spring", "many"] []) (g_law_draw : mg "_law_draw" = some (.ref f5))
    (F_law_right : Fun K "_law_right" "_law_right" st_law_right f6 fd6) (G_law_right : FnOk P w K mg base CX0 7 f6 fd6 ["counts", "triple", "length"] (spRight28 K C)) (b_law_right : Binds K fd6 ["counts", "triple", "length"] []) (g_law_right : mg "_law_right" = some (.ref f6))
    (F_prefix_range : Fun K "prefix_range" "prefix_range" st_prefix_range f7 fd7) (G_prefix_range : FnOk P w K mg base CX0 6 f7 fd7 ["counts", "length"] (spPR C)) (b_prefix_range : Binds K fd7 ["counts", "length"] []) (g_prefix_range : mg "prefix_range" = some (.ref f7))
    (T_c : CT K mg C) (M_c : Mk K C f3) (G_c_init : FnOk P w K mg base CX0 3 f3 fd3 ["self", "many_a", "many_b", "pairs"] (spInit C)) (b_c_init : Binds K fd3 ["self", "many_a", "many_b", "pairs"] [])
    (D_c_mul : MulI K C gM) (R_c_mul : FnR P w K mg base CX0 5 gM (fun vs H Q E => spMul C (vs ++ []) H Q E))
    (m_range : mg "range" = none) (m_min : mg "min" = none) (m_len : mg "len" = none) : FnOk P w K mg base CX0 9 f fd ["script"] (spLaw K) := by
  refine F.ok sc_law (fun vs H Q E h => ?_) (fun cdv A outer s H vs Q E hr h => ?_)
  · obtain ⟨a, ns, rfl, _⟩ := h; rfl
  obtain ⟨a0, ns, rfl, hS, hlen, q⟩ := h
  let C_c := C
  refine ⟨_, (pss_cons (ps_set (i := 1) sc_law.nd rfl (Or.inl rfl) (pe_call G_law_spring (hr.mono (by omega)) (by rfl) g_law_spring F_law_spring.kp b_law_spring .nil pass0 (pa_cons (pv 0) pa_nil)))
    (pss_cons (ps_for PassesOwn.never rfl (pi_range1 rfl m_range (pa_cons (pe_op op_add pe_int (pe_callB (call_min2 rfl) (by rfl) m_min (by decide +kernel) (pa_cons pe_int (pa_cons (pe_callB call_len_seq (by rfl) m_len PySem.boot_len (pa_cons (pv 0) pa_nil)) pa_nil)))) pa_nil)) (pg_name (i := 2) sc_law.nd rfl (Or.inl rfl)) (pss_one (ps_for PassesOwn.never rfl (pi_range1 rfl m_range (pa_cons pe_int pa_nil)) (pg_name (i := 3) sc_law.nd rfl (Or.inl rfl)) (pss_cons (ps_set (i := 4) sc_law.nd rfl (Or.inl rfl) (pe_ifExp (pt_cmpR op_eq (pv 3) pe_int (nomark _)) (pe_call G_law_counts (hr.mono (by omega)) (by rfl) g_law_counts F_law_counts.kp b_law_counts .nil pass0 (pa_cons (pv 1) (pa_cons pe_int pa_nil))) (pe_call G_law_far (hr.mono (by omega)) (by rfl) g_law_far F_law_far.kp b_law_far .nil pass0 (pa_cons (pv 1) pa_nil))))
    (pss_cons (ps_set (i := 5) sc_law.nd rfl (Or.inl rfl) (pe_make M_c G_c_init (hr.mono (by omega)) (by rfl) T_c.mg b_c_init .nil pass0 (pa_cons (pe_ix ix_tup (pv 4) pe_int (fun _ _ => rfl)) (pa_cons (pe_ix ix_tup (pv 4) pe_int (fun _ _ => rfl)) (pa_cons (pe_ix ix_tup (pv 4) pe_int (fun _ _ => rfl)) pa_nil)))))
    (pss_cons (ps_if (pt_cmpR op_eq (pv 3) pe_int (nomark _)) (pss_cons (ps_set (i := 6) sc_law.nd rfl (Or.inl rfl) (pe_op op_sub (pe_op op_pow pe_int pe_int) (pe_call G_law_draw (hr.mono (by omega)) (by rfl) g_law_draw F_law_draw.kp b_law_draw .nil pass0 (pa_cons (pv 1) (pa_cons pe_int pa_nil)))))
    (pss_cons (ps_set (i := 7) sc_law.nd rfl (Or.inl rfl) (pe_op op_mulW (pe_op op_mulW (pe_ix ix_tup (pv 4) pe_int (fun _ _ => rfl)) (pe_ix ix_tup (pv 4) pe_int (fun _ _ => rfl))) (pe_op op_fdivW (pe_op op_mulW (pv 6) (pe_op op_sub (pv 6) pe_int)) pe_int)))
    (pss_cons (ps_set (i := 5) sc_law.nd rfl (Or.inl rfl) (pe_op (op_mulI D_c_mul R_c_mul (hr.mono (by omega)) pass0) (pv 5) (pv 6)))
    (pss_one (ps_set (i := 4) sc_law.nd rfl (Or.inl rfl) (peq_tup (pa_cons (pe_op op_mulW (pe_ix ix_tup (pv 4) pe_int (fun _ _ => rfl)) (pv 6)) (pa_cons (pe_op op_mulW (pe_ix ix_tup (pv 4) pe_int (fun _ _ => rfl)) (pv 6)) (pa_cons (pe_op op_add (pe_op op_mulW (pe_ix ix_tup (pv 4) pe_int (fun _ _ => rfl)) (pv 6)) (pv 7)) pa_nil))))))))) pss_nil)
    (pss_cons (ps_set (i := 8) sc_law.nd rfl (Or.inl rfl) (pe_op op_add (pe_ix ix_tup (pv 4) pe_int (fun _ _ => rfl)) (pe_ix ix_tup (pv 4) pe_int (fun _ _ => rfl))))
    (pss_one (ps_for PassesOwn.never rfl (pi_list (peq_lst (pa_cons pe_int (pa_cons (pv 8) (pa_cons (pe_op op_fdivW (pv 8) pe_int) (pa_cons (pe_call G_law_draw (hr.mono (by omega)) (by rfl) g_law_draw F_law_draw.kp b_law_draw .nil pass0 (pa_cons (pv 1) (pa_cons (pe_op op_add (pv 8) pe_int) pa_nil))) (pa_cons (pe_callB (call_min2 rfl) (by rfl) m_min (by decide +kernel) (pa_cons (pv 8) (pa_cons (pe_ix ix_tup (pv 4) pe_int (fun _ _ => rfl)) pa_nil))) (pa_cons (pe_callB (call_min2 rfl) (by rfl) m_min (by decide +kernel) (pa_cons (pv 8) (pa_cons (pe_ix ix_tup (pv 4) pe_int (fun _ _ => rfl)) pa_nil))) pa_nil)))))))) (pg_name (i := 9) sc_law.nd rfl (Or.inl rfl)) (pss_one (ps_if (pt_not (pt_val (pe_call G_law_right (hr.mono (by omega)) (by rfl) g_law_right F_law_right.kp b_law_right .nil pass0 (pa_cons (pv 5) (pa_cons (pv 4) (pa_cons (pv 9) pa_nil)))))) (pss_one (ps_ret pe_bl)) pss_nil)))))))))))
    (pss_one (ps_ret (pe_and (pe_cmpR (op_eqD hr.units) (pe_call G_prefix_range (hr.mono (by omega)) (by rfl) g_prefix_range F_prefix_range.kp b_prefix_range .nil pass0 (pa_cons (pe_make M_c G_c_init (hr.mono (by omega)) (by rfl) T_c.mg b_c_init .nil pass0 (pa_cons pe_int (pa_cons pe_int (pa_cons pe_int pa_nil)))) (pa_cons pe_int pa_nil))) (peq_tup (pa_cons pe_int (pa_cons pe_int pa_nil))) (nomark _)) (pe_one (pe_cmpR (op_eqD hr.units) (pe_call G_prefix_range (hr.mono (by omega)) (by rfl) g_prefix_range F_prefix_range.kp b_prefix_range .nil pass0 (pa_cons (pe_make M_c G_c_init (hr.mono (by omega)) (by rfl) T_c.mg b_c_init .nil pass0 (pa_cons pe_int (pa_cons pe_int (pa_cons pe_int pa_nil)))) (pa_cons pe_int pa_nil))) (peq_tup (pa_cons pe_int (pa_cons pe_int pa_nil))) (nomark _)))))))), ?_⟩
  refine ⟨.ref a0, rfl, a0, ns, rfl, hS, hlen, fun r H1 s1 nr R1 => ?_⟩
  refine ⟨.ref a0, rfl, a0, ns.map V.int, rfl, .inl (s1.seq hS), _, _, rfl, 3, _, rfl, rfl, ?_⟩
  have hmany : ∃ n : Nat, (3 : Int) + (if ((ns.map V.int).length : Int) < (3 : Int) then ((ns.map V.int).length : Int) else (3 : Int)) = (n : Int) ∧ n ≤ 6 := by
    by_cases h : ((ns.map V.int).length : Int) < (3 : Int)
    · rw [if_pos h]; exact ⟨3 + (ns.map V.int).length, by omega, by omega⟩
    · rw [if_neg h]; exact ⟨6, rfl, by decide⟩
  obtain ⟨many, hm, hm6⟩ := hmany
  refine ⟨(many : Int), by rw [← hm], by omega, by omega, for_range (lo := 0) (n := many) (fun i σ H' => Spr H' r (1000 * i) ∧ ∃ y2 y3 y4 y5 y6 y7 y8 y9, σ = [some (.ref a0), some (.ref r), y2, y3, y4, y5, y6, y7, y8, y9]) ⟨R1, none, none, none, none, none, none, none, none, rfl⟩ (fun i σ H' hi h => ?_) (fun σ H' h => ?_)⟩
  · obtain ⟨RR, y2, y3, y4, y5, y6, y7, y8, y9, rfl⟩ := h
    refine ⟨4, rfl, by decide, by decide, for_range (lo := 0) (n := 4) (fun j σ H' => Spr H' r (1000 * i + 200 * j) ∧ ∃ y3 y4 y5 y6 y7 y8 y9, σ = [some (.ref a0), some (.ref r), some (.int (0 + (i : Int))), y3, y4, y5, y6, y7, y8, y9]) ⟨RR, _, _, _, _, _, _, _, rfl⟩ (fun j σ H' hj h => ?_) (fun σ H' h => ?_)⟩
    · obtain ⟨RR, y3, y4, y5, y6, y7, y8, y9, rfl⟩ := h
      refine ⟨.int (0 + (j : Int)), rfl, rfl, _, rfl, ?_⟩
      refine' cutT (A := Addr) (P := fun T H2 => ∃ a b p, Any28 a b p ∧ Spr H2 r (1000 * i + 200 * j + 40) ∧ H2 T = some (.tup [.int a, .int b, .int p])) (fun rest => ite2 (fun _ => ?f1) (fun _ => ?f2)) ?rest
      case f1 => exact ⟨.ref r, rfl, r, _, rfl, RR, by omega, fun T a b p H2 an k2 R2 nT e2 => rest T H2 ⟨a, b, p, an, R2, e2⟩⟩
      case f2 => exact ⟨.ref r, rfl, r, _, rfl, RR, by omega, fun T a b p H2 an k2 R2 nT e2 => rest T H2 ⟨a, b, p, an, R2, e2⟩⟩
      case rest =>
        rintro T H2 ⟨a, b, p, an, R2, e2⟩
        have c := an.ok
        refine ⟨.ref T, rfl, T, _, 0, .int a, rfl, rfl, SqT.of e2, rfl, .ref T, rfl, T, _, 1, .int b, rfl, rfl, SqT.of e2, rfl, .ref T, rfl, T, _, 2, .int p, rfl, rfl, SqT.of e2, rfl, fun x dx nx ndx _ => mkC2 nx ndx c fun H3 s3 hx => ?_⟩
        have R3 := R2.same s3
        have e3 := s3 _ _ e2
        refine ⟨.int (0 + (j : Int)), rfl, rfl, _, rfl, ?_⟩
        refine' cut4 (A := Addr) (B := Addr) (C := Option V) (D := Option V) (P := fun T x y6 y7 H4 => ∃ a b p, COk a b p ∧ a + b ≤ 10 ^ 62 ∧ Spr H4 r (1000 * i + 200 * j + 50) ∧ H4 T = some (.tup [.int a, .int b, .int p]) ∧ CountsAt C H4 x a b p) (fun rest => ite2 (fun _ => ?g1) (fun _ => ?g2)) ?rest2
        case g1 =>
          refine ⟨10, 30, rfl, rfl, ⟨by decide, by decide, by decide⟩, .ref r, rfl, r, 9, _, rfl, R3, by omega, by decide, top_ok (by decide +kernel), fun d H4 l4 u4 k4 R4 => ⟨_, _, rfl, rfl, ?_⟩⟩
          have e4 := k4 _ _ (R3.neT e3) e3
          have hx4 := hx.keep k4 (R3.neC hx)
          have t1 : 1 ≤ (10 : Int) ^ (30 : Int).toNat - d := by
            have : (10 : Int) ≤ 10 ^ (30 : Int).toNat := by decide +kernel
            omega
          have t2 : (10 : Int) ^ (30 : Int).toNat - d ≤ 10 ^ 30 := by
            show (10 : Int) ^ 30 - d ≤ 10 ^ 30
            omega
          dsimp only
          generalize (10 : Int) ^ (30 : Int).toNat - d = t at t1 t2 ⊢
          obtain ⟨c2, bd⟩ := an.times t1 t2
          have wt : t.natAbs < 2 ^ 110 := by
            have : (10 : Int) ^ 30 < 2 ^ 110 := by decide +kernel
            have : t < 2 ^ 110 := Int.lt_of_le_of_lt t2 this
            omega
          have wt1 : (t - 1).natAbs < 2 ^ 110 := by omega
          have wh : (t * (t - 1) / 2).natAbs < 2 ^ 220 := by
            have := wide_lt wt wt1
            have h2 : (t * (t - 1)).natAbs < 2 ^ 220 := this
            omega
          refine ⟨.ref T, rfl, T, _, 0, .int a, rfl, rfl, SqT.of e4, rfl, .ref T, rfl, T, _, 1, .int b, rfl, rfl, SqT.of e4, rfl, _, _, rfl, rfl, wide_mul c.ba c.bb (by decide) (by decide) (by decide),
            .int t, rfl, .int t, rfl, _, _, rfl, rfl, _, _, rfl, rfl, wide_mul wt wt1 (by decide) (by decide) (by decide), _, _, rfl, rfl, wide_div (b := 2) (by decide) (by decide) (by decide) (by decide), _, _, rfl, rfl, wide_mul (wide_lt c.ba c.bb) wh (by decide) (by decide) (by decide), ?_⟩
          obtain ⟨dx4, ex4⟩ := id hx4
          refine ⟨.ref x, rfl, .int t, rfl, x, dx4, _, t, rfl, rfl, ex4, x, a, b, p, t, rfl, hx4, c, by omega, t2, c2, fun z H5 s5 hz => ?_⟩
          have e5 := s5 _ _ e4
          refine ⟨.ref T, rfl, T, _, 0, .int a, rfl, rfl, SqT.of e5, rfl, .int t, rfl, _, _, rfl, rfl, wide_mul c.ba wt (by decide) (by decide) (by decide),
            .ref T, rfl, T, _, 1, .int b, rfl, rfl, SqT.of e5, rfl, .int t, rfl, _, _, rfl, rfl, wide_mul c.bb wt (by decide) (by decide) (by decide),
            .ref T, rfl, T, _, 2, .int p, rfl, rfl, SqT.of e5, rfl, .int t, rfl, _, _, rfl, rfl, wide_mul (cokPw c) wt (by decide) (by decide) (by decide), .int _, rfl, _, _, rfl, rfl, (by show 3 ≤ sizeLine; decide), fun T2 H6 nT2 _ hH6 => ?_⟩
          have s6 : Same H5 H6 := by rw [hH6]; exact same_new nT2
          have e6 : H6 T2 = some (.tup [.int (a * t), .int (b * t), .int (p * t + a * b * (t * (t - 1) / 2))]) := by rw [hH6]; exact upd_same
          clear hH6
          dsimp only
          obtain ⟨z6, hz6⟩ : ∃ z6, z6 = some (V.int t) := ⟨_, rfl⟩
          obtain ⟨z7, hz7⟩ : ∃ z7, z7 = some (V.int (a * b * (t * (t - 1) / 2))) := ⟨_, rfl⟩
          rw [← hz6, ← hz7]
          exact rest T2 z z6 z7 H6 ⟨_, _, _, c2, bd, (R4.same (s5.trans s6)).mono (by omega), e6, hz.same s6⟩
        case g2 =>
          refine rest T x y6 y7 H3 ⟨a, b, p, c, ?_, R3.mono (by omega), e3, hx⟩
          have : (10 : Int) ^ 31 + 10 ^ 31 ≤ 10 ^ 62 := by decide +kernel
          exact Int.le_trans (Int.add_le_add an.a1 an.b1) this
        case rest2 =>
          rintro T x y6 y7 H4 ⟨a, b, p, c, bd, R4, e4, hx4⟩
          have a0' := c.a0
          have b0' := c.b0
          refine ⟨.ref T, rfl, T, _, 0, .int a, rfl, rfl, SqT.of e4, rfl, .ref T, rfl, T, _, 1, .int b, rfl, rfl, SqT.of e4, rfl, a, b, rfl, rfl, ?_⟩
          obtain ⟨sz, hsz⟩ : ∃ sz, sz = a + b := ⟨_, rfl⟩
          dsimp only
          rw [← hsz]
          have sz0 : 0 ≤ sz := by omega
          have sz1 : sz + 1 ≤ 10 ^ 70 := by
            have : (10 : Int) ^ 62 + 1 ≤ 10 ^ 70 := by decide +kernel
            omega
          refine ⟨.int sz, rfl, .int sz, rfl, sz, 2, rfl, rfl, wide_div (b := 2) (by decide) (by decide) (by decide) (by decide), .ref r, rfl, .int sz, rfl, sz, 1, rfl, rfl, r, sz + 1, _, rfl, R4, by omega, by omega, top_ok sz1, fun d H5 l5 u5 k5 R5 => ?_⟩
          have e5 := k5 _ _ (R4.neT e4) e4
          have hx5 := hx4.keep k5 (R4.neC hx4)
          refine ⟨.int sz, rfl, .ref T, rfl, T, _, 0, .int a, rfl, rfl, SqT.of e5, rfl, _, _, rfl, .int sz, rfl, .ref T, rfl, T, _, 1, .int b, rfl, rfl, SqT.of e5, rfl, _, _, rfl, (by show 6 ≤ sizeLine; decide), fun L H6 nL _ hH6 => ?_⟩
          have s6 : Same H5 H6 := by rw [hH6]; exact same_new nL
          have e6 : H6 L = some (.lst ([0, sz, sz / 2, d, (if a < sz then a else sz), (if b < sz then b else sz)].map V.int)) := by rw [hH6]; exact upd_same
          clear hH6
          refine ⟨L, rfl, ⟨_, SqL.of e6⟩, for_list (xs := [0, sz, sz / 2, d, (if a < sz then a else sz), (if b < sz then b else sz)].map V.int) (fun k σ H' => Same H6 H' ∧ ∃ y9, σ = [some (.ref a0), some (.ref r), some (.int (0 + (i : Int))), some (.int (0 + (j : Int))), some (.ref T), some (.ref x), y6, y7, some (.int sz), y9]) ⟨fun _ _ h => h, _, rfl⟩ (fun i σ H' _ h => SqL.of (h.1 _ _ e6)) (fun k v σ H7 hv h => ?_) (fun σ H7 h => ?_)⟩
          · obtain ⟨s7, y9, rfl⟩ := h
            obtain ⟨l, rfl, l0, l1⟩ : ∃ l : Int, v = .int l ∧ 0 ≤ l ∧ l ≤ sz := by
              obtain ⟨l, hl, rfl⟩ := List.mem_map.mp (List.mem_of_getElem? hv)
              refine ⟨l, rfl, ?_⟩
              simp only [List.mem_cons, List.not_mem_nil, or_false] at hl
              rcases hl with rfl | rfl | rfl | rfl | rfl | rfl
              · omega
              · omega
              · omega
              · omega
              · split <;> omega
              · split <;> omega
            exact ⟨.ref x, rfl, .ref T, rfl, .int l, rfl, x, T, a, b, p, l, rfl, hx5.same (s6.trans s7), c, SqT.of (s7 _ _ (s6 _ _ e5)), l0, by omega, fun H8 s8 => ⟨true, rfl, s7.trans s8, _, rfl⟩⟩
          · obtain ⟨s7, y9, rfl⟩ := h
            exact ⟨(R5.same (s6.trans s7)).mono (by omega), _, _, _, _, _, _, _, rfl⟩
    · obtain ⟨RR, y3, y4, y5, y6, y7, y8, y9, rfl⟩ := h
      exact ⟨RR.mono (by omega), _, _, _, _, _, _, _, _, rfl⟩
  · obtain ⟨RR, y2, y3, y4, y5, y6, y7, y8, y9, rfl⟩ := h
    have cs : ∀ {a b p : Int}, 0 ≤ a → a ≤ 9 → 0 ≤ b → b ≤ 9 → 0 ≤ p → p ≤ a * b → COk a b p := fun h1 h2 h3 h4 h5 h6 =>
      ⟨h1, h3, h5, h6, Nat.lt_of_lt_of_le (show _ < 2 ^ 4 by omega) (Nat.pow_le_pow_right (by decide) (by decide)), Nat.lt_of_lt_of_le (show _ < 2 ^ 4 by omega) (Nat.pow_le_pow_right (by decide) (by decide))⟩
    have c1 : COk 2 3 3 := cs (by decide) (by decide) (by decide) (by decide) (by decide) (by decide)
    have c2 : COk 0 0 0 := cs (by decide) (by decide) (by decide) (by decide) (by decide) (by decide)
    refine fun x dx nx ndx _ => mkC2 nx ndx c1 fun H2 s2 hx => ⟨x, 2, 3, 3, 2, rfl, hx, c1, by decide, by decide, fun T lo hi H3 s3 nT rg e3 => ?_⟩
    obtain ⟨v1, v2⟩ := Range.uniq (by decide) (by decide) rg max233
    subst v1
    subst v2
    refine ⟨(by show 2 ≤ sizeLine; decide), fun T2 H4 nT2 _ hH4 => ?_⟩
    have s4 : Same H3 H4 := by rw [hH4]; exact same_new nT2
    have e4 : H4 T2 = some (.tup [.int 1, .int 1]) := by rw [hH4]; exact upd_same
    clear hH4
    refine ⟨_, _, dp_p2 (s4 _ _ e3), dp_p2 e4, shaped_p2 .., shaped_p2 .., true, by rw [eqv_p2], ?_⟩
    refine fun x2 dx2 nx2 ndx2 _ => mkC2 nx2 ndx2 c2 fun H5 s5 hx5 => ⟨x2, 0, 0, 0, 0, rfl, hx5, c2, by decide, by decide, fun T3 lo hi H6 s6 nT3 rg e6 => ?_⟩
    obtain ⟨v1, v2⟩ := Range.uniq (by decide) (by decide) rg max000
    subst v1
    subst v2
    refine ⟨(by show 2 ≤ sizeLine; decide), fun T4 H7 nT4 _ hH7 => ?_⟩
    have s7 : Same H6 H7 := by rw [hH7]; exact same_new nT4
    have e7 : H7 T4 = some (.tup [.int 0, .int 0]) := by rw [hH7]; exact upd_same
    clear hH7
    refine ⟨_, _, dp_p2 (s7 _ _ e6), dp_p2 e7, shaped_p2 .., shaped_p2 .., ?_⟩
    rw [eqv_p2]
    exact q _

end
end K28
namespace K28
open PySem PySem.Spec PyProof.Rows L2 Vx
theorem binds_full {K : PySem.W.Frag} {x qual : Str} {params : Arguments} {body : List Stmt} {scope : Scope} {d : V} {f : Addr} {fd : FuncData} {ps : List Str} (F : FunD K x qual params body scope [d] [] f fd) (n : Nat) (hn : n = ps.length)
    (h : ∀ (T : Addr) (kV doc pm : Value) (an : Option Addr) (cdv ct : Value) (us its : List Value), us.length = n → its.length = 1 → ∃ k, bindArgs (PySem.W.fnOf x qual params body scope (.ref T) kV doc pm an cdv ct) ⟨us, []⟩ = seqItems? (.ref T) >>= k ∧ k (some its.toArray) = pure (ps.zip (us ++ its.drop 1))) : L2.Binds K fd ps [] := by
  obtain ⟨ds, vd, b⟩ := F.binds1 n 1 (by simp) (by simpa using hn) h
  have vd2 : Vals [] ds := vd
  cases vd2
  exact b
theorem all_mk {l : PySem.W.OpenLaw} {w : World} {K : PySem.W.Frag} {h : Heap} {mg : Str → Option Value} {fa : Addr} (X : K.In h) (G : h.Ns mainGlobals mg) (hfa : mg "law" = some (.ref fa))
    {ais_integer : Addr} {od_is_integer an_is_integer : Option Addr} {sl_is_integer : Array (Option Value)} {oc_is_integer kV_is_integer dc_is_integer pm_is_integer cd_is_integer ct_is_integer : Value}
    (n_is_integer : PySem.W.nsIn K mainGlobals "is_integer" = some (some (.ref ais_integer))) (l_is_integer : K.lookup ais_integer = some ⟨oc_is_integer, od_is_integer, .func (PySem.W.fnOf "is_integer" "is_integer" (defArgs st_is_integer) (defBody st_is_integer) (defScope st_is_integer) .none kV_is_integer dc_is_integer pm_is_integer an_is_integer cd_is_integer ct_is_integer), sl_is_integer⟩) (c_is_integer : PySem.W.codeIn K cd_is_integer "is_integer" = true) (k_is_integer : PySem.W.keepIn K (.ref ais_integer) = true)
    {acheck_number dT_check_number : Addr} {od_check_number an_check_number : Option Addr} {sl_check_number : Array (Option Value)} {oc_check_number kV_check_number dc_check_number pm_check_number cd_check_number ct_check_number : Value} {cT_check_number : Value} {doT_check_number : Option Addr} {slT_check_number : Array (Option Value)} {nT_check_number : Nat}
    (n_check_number : PySem.W.nsIn K mainGlobals "check_number" = some (some (.ref acheck_number))) (l_check_number : K.lookup acheck_number = some ⟨oc_check_number, od_check_number, .func (PySem.W.fnOf "check_number" "check_number" (defArgs st_check_number) (defBody st_check_number) (defScope st_check_number) (.ref dT_check_number) kV_check_number dc_check_number pm_check_number an_check_number cd_check_number ct_check_number), sl_check_number⟩) (c_check_number : PySem.W.codeIn K cd_check_number "check_number" = true) (k_check_number : PySem.W.keepIn K (.ref acheck_number) = true) (e_check_number : K.lookup dT_check_number = some ⟨cT_check_number, doT_check_number, .seq #[Value.none] nT_check_number, slT_check_number⟩)
    {aare_counts : Addr} {od_are_counts an_are_counts : Option Addr} {sl_are_counts : Array (Option Value)} {oc_are_counts kV_are_counts dc_are_counts pm_are_counts cd_are_counts ct_are_counts : Value}
    (n_are_counts : PySem.W.nsIn K mainGlobals "are_counts" = some (some (.ref aare_counts))) (l_are_counts : K.lookup aare_counts = some ⟨oc_are_counts, od_are_counts, .func (PySem.W.fnOf "are_counts" "are_counts" (defArgs st_are_counts) (defBody st_are_counts) (defScope st_are_counts) .none kV_are_counts dc_are_counts pm_are_counts an_are_counts cd_are_counts ct_are_counts), sl_are_counts⟩) (c_are_counts : PySem.W.codeIn K cd_are_counts "are_counts" = true) (k_are_counts : PySem.W.keepIn K (.ref aare_counts) = true)
    {acheck_counts : Addr} {od_check_counts an_check_counts : Option Addr} {sl_check_counts : Array (Option Value)} {oc_check_counts kV_check_counts dc_check_counts pm_check_counts cd_check_counts ct_check_counts : Value}
    (n_check_counts : PySem.W.nsIn K mainGlobals "check_counts" = some (some (.ref acheck_counts))) (l_check_counts : K.lookup acheck_counts = some ⟨oc_check_counts, od_check_counts, .func (PySem.W.fnOf "check_counts" "check_counts" (defArgs st_check_counts) (defBody st_check_counts) (defScope st_check_counts) .none kV_check_counts dc_check_counts pm_check_counts an_check_counts cd_check_counts ct_check_counts), sl_check_counts⟩) (c_check_counts : PySem.W.codeIn K cd_check_counts "check_counts" = true) (k_check_counts : PySem.W.keepIn K (.ref acheck_counts) = true)
    {aletters_in : Addr} {od_letters_in an_letters_in : Option Addr} {sl_letters_in : Array (Option Value)} {oc_letters_in kV_letters_in dc_letters_in pm_letters_in cd_letters_in ct_letters_in : Value}
    (n_letters_in : PySem.W.nsIn K mainGlobals "letters_in" = some (some (.ref aletters_in))) (l_letters_in : K.lookup aletters_in = some ⟨oc_letters_in, od_letters_in, .func (PySem.W.fnOf "letters_in" "letters_in" (defArgs st_letters_in) (defBody st_letters_in) (defScope st_letters_in) .none kV_letters_in dc_letters_in pm_letters_in an_letters_in cd_letters_in ct_letters_in), sl_letters_in⟩) (c_letters_in : PySem.W.codeIn K cd_letters_in "letters_in" = true) (k_letters_in : PySem.W.keepIn K (.ref aletters_in) = true)
    {agreatest_prefix_count : Addr} {od_greatest_prefix_count an_greatest_prefix_count : Option Addr} {sl_greatest_prefix_count : Array (Option Value)} {oc_greatest_prefix_count kV_greatest_prefix_count dc_greatest_prefix_count pm_greatest_prefix_count cd_greatest_prefix_count ct_greatest_prefix_count : Value}
    (n_greatest_prefix_count : PySem.W.nsIn K mainGlobals "_greatest_prefix_count" = some (some (.ref agreatest_prefix_count))) (l_greatest_prefix_count : K.lookup agreatest_prefix_count = some ⟨oc_greatest_prefix_count, od_greatest_prefix_count, .func (PySem.W.fnOf "_greatest_prefix_count" "_greatest_prefix_count" (defArgs st_greatest_prefix_count) (defBody st_greatest_prefix_count) (defScope st_greatest_prefix_count) .none kV_greatest_prefix_count dc_greatest_prefix_count pm_greatest_prefix_count an_greatest_prefix_count cd_greatest_prefix_count ct_greatest_prefix_count), sl_greatest_prefix_count⟩) (c_greatest_prefix_count : PySem.W.codeIn K cd_greatest_prefix_count "_greatest_prefix_count" = true) (k_greatest_prefix_count : PySem.W.keepIn K (.ref agreatest_prefix_count) = true)
    {aprefix_range : Addr} {od_prefix_range an_prefix_range : Option Addr} {sl_prefix_range : Array (Option Value)} {oc_prefix_range kV_prefix_range dc_prefix_range pm_prefix_range cd_prefix_range ct_prefix_range : Value}
    (n_prefix_range : PySem.W.nsIn K mainGlobals "prefix_range" = some (some (.ref aprefix_range))) (l_prefix_range : K.lookup aprefix_range = some ⟨oc_prefix_range, od_prefix_range, .func (PySem.W.fnOf "prefix_range" "prefix_range" (defArgs st_prefix_range) (defBody st_prefix_range) (defScope st_prefix_range) .none kV_prefix_range dc_prefix_range pm_prefix_range an_prefix_range cd_prefix_range ct_prefix_range), sl_prefix_range⟩) (c_prefix_range : PySem.W.codeIn K cd_prefix_range "prefix_range" = true) (k_prefix_range : PySem.W.keepIn K (.ref aprefix_range) = true)
    {alaw_spring : Addr} {od_law_spring an_law_spring : Option Addr} {sl_law_spring : Array (Option Value)} {oc_law_spring kV_law_spring dc_law_spring pm_law_spring cd_law_spring ct_law_spring : Value}
    (n_law_spring : PySem.W.nsIn K mainGlobals "_law_spring" = some (some (.ref alaw_spring))) (l_law_spring : K.lookup alaw_spring = some ⟨oc_law_spring, od_law_spring, .func (PySem.W.fnOf "_law_spring" "_law_spring" (defArgs st_law_spring) (defBody st_law_spring) (defScope st_law_spring) .none kV_law_spring dc_law_spring pm_law_spring an_law_spring cd_law_spring ct_law_spring), sl_law_spring⟩) (c_law_spring : PySem.W.codeIn K cd_law_spring "_law_spring" = true) (k_law_spring : PySem.W.keepIn K (.ref alaw_spring) = true)
    {alaw_draw : Addr} {od_law_draw an_law_draw : Option Addr} {sl_law_draw : Array (Option Value)} {oc_law_draw kV_law_draw dc_law_draw pm_law_draw cd_law_draw ct_law_draw : Value}
    (n_law_draw : PySem.W.nsIn K mainGlobals "_law_draw" = some (some (.ref alaw_draw))) (l_law_draw : K.lookup alaw_draw = some ⟨oc_law_draw, od_law_draw, .func (PySem.W.fnOf "_law_draw" "_law_draw" (defArgs st_law_draw) (defBody st_law_draw) (defScope st_law_draw) .none kV_law_draw dc_law_draw pm_law_draw an_law_draw cd_law_draw ct_law_draw), sl_law_draw⟩) (c_law_draw : PySem.W.codeIn K cd_law_draw "_law_draw" = true) (k_law_draw : PySem.W.keepIn K (.ref alaw_draw) = true)
    {alaw_counts : Addr} {od_law_counts an_law_counts : Option Addr} {sl_law_counts : Array (Option Value)} {oc_law_counts kV_law_counts dc_law_counts pm_law_counts cd_law_counts ct_law_counts : Value}
    (n_law_counts : PySem.W.nsIn K mainGlobals "_law_counts" = some (some (.ref alaw_counts))) (l_law_counts : K.lookup alaw_counts = some ⟨oc_law_counts, od_law_counts, .func (PySem.W.fnOf "_law_counts" "_law_counts" (defArgs st_law_counts) (defBody st_law_counts) (defScope st_law_counts) .none kV_law_counts dc_law_counts pm_law_counts an_law_counts cd_law_counts ct_law_counts), sl_law_counts⟩) (c_law_counts : PySem.W.codeIn K cd_law_counts "_law_counts" = true) (k_law_counts : PySem.W.keepIn K (.ref alaw_counts) = true)
    {alaw_far : Addr} {od_law_far an_law_far : Option Addr} {sl_law_far : Array (Option Value)} {oc_law_far kV_law_far dc_law_far pm_law_far cd_law_far ct_law_far : Value}
    (n_law_far : PySem.W.nsIn K mainGlobals "_law_far" = some (some (.ref alaw_far))) (l_law_far : K.lookup alaw_far = some ⟨oc_law_far, od_law_far, .func (PySem.W.fnOf "_law_far" "_law_far" (defArgs st_law_far) (defBody st_law_far) (defScope st_law_far) .none kV_law_far dc_law_far pm_law_far an_law_far cd_law_far ct_law_far), sl_law_far⟩) (c_law_far : PySem.W.codeIn K cd_law_far "_law_far" = true) (k_law_far : PySem.W.keepIn K (.ref alaw_far) = true)
    {alaw_joined : Addr} {od_law_joined an_law_joined : Option Addr} {sl_law_joined : Array (Option Value)} {oc_law_joined kV_law_joined dc_law_joined pm_law_joined cd_law_joined ct_law_joined : Value}
    (n_law_joined : PySem.W.nsIn K mainGlobals "_law_joined" = some (some (.ref alaw_joined))) (l_law_joined : K.lookup alaw_joined = some ⟨oc_law_joined, od_law_joined, .func (PySem.W.fnOf "_law_joined" "_law_joined" (defArgs st_law_joined) (defBody st_law_joined) (defScope st_law_joined) .none kV_law_joined dc_law_joined pm_law_joined an_law_joined cd_law_joined ct_law_joined), sl_law_joined⟩) (c_law_joined : PySem.W.codeIn K cd_law_joined "_law_joined" = true) (k_law_joined : PySem.W.keepIn K (.ref alaw_joined) = true)
    {alaw_fits : Addr} {od_law_fits an_law_fits : Option Addr} {sl_law_fits : Array (Option Value)} {oc_law_fits kV_law_fits dc_law_fits pm_law_fits cd_law_fits ct_law_fits : Value}
    (n_law_fits : PySem.W.nsIn K mainGlobals "_law_fits" = some (some (.ref alaw_fits))) (l_law_fits : K.lookup alaw_fits = some ⟨oc_law_fits, od_law_fits, .func (PySem.W.fnOf "_law_fits" "_law_fits" (defArgs st_law_fits) (defBody st_law_fits) (defScope st_law_fits) .none kV_law_fits dc_law_fits pm_law_fits an_law_fits cd_law_fits ct_law_fits), sl_law_fits⟩) (c_law_fits : PySem.W.codeIn K cd_law_fits "_law_fits" = true) (k_law_fits : PySem.W.keepIn K (.ref alaw_fits) = true)
    {alaw_right : Addr} {od_law_right an_law_right : Option Addr} {sl_law_right : Array (Option Value)} {oc_law_right kV_law_right dc_law_right pm_law_right cd_law_right ct_law_right : Value}
    (n_law_right : PySem.W.nsIn K mainGlobals "_law_right" = some (some (.ref alaw_right))) (l_law_right : K.lookup alaw_right = some ⟨oc_law_right, od_law_right, .func (PySem.W.fnOf "_law_right" "_law_right" (defArgs st_law_right) (defBody st_law_right) (defScope st_law_right) .none kV_law_right dc_law_right pm_law_right an_law_right cd_law_right ct_law_right), sl_law_right⟩) (c_law_right : PySem.W.codeIn K cd_law_right "_law_right" = true) (k_law_right : PySem.W.keepIn K (.ref alaw_right) = true)
    {alaw : Addr} {od_law an_law : Option Addr} {sl_law : Array (Option Value)} {oc_law kV_law dc_law pm_law cd_law ct_law : Value}
    (n_law : PySem.W.nsIn K mainGlobals "law" = some (some (.ref alaw))) (l_law : K.lookup alaw = some ⟨oc_law, od_law, .func (PySem.W.fnOf "law" "law" (defArgs st_law) (defBody st_law) (defScope st_law) .none kV_law dc_law pm_law an_law cd_law ct_law), sl_law⟩) (c_law : PySem.W.codeIn K cd_law "law" = true) (k_law : PySem.W.keepIn K (.ref alaw) = true)
    {C_c : Addr} (n_c : PySem.W.nsIn K mainGlobals "Counts" = some (some (.ref C_c)))
    (pg_c : PySem.W.plainGet K C_c Str.empty = true)
    (hd_c : PySem.W.hasDictIn K C_c = true)
    (po_c : PySem.W.plainOver K C_c = true)
    (sa_c : PySem.W.findIn K (.ref C_c) "__setattr__" = some (some (.builtin "object.__setattr__")))
    (mk_c : PySem.W.makesIn K C_c = true)
    (kc_c : PySem.W.keepIn K (.ref C_c) = true)
    (sf_c : PySem.W.selfFirst K C_c = true)
    {foi_c fri_c : Option Value}
    (rmu_c : PySem.W.findIn K (.ref C_c) "__rmul__" = some none)
    (imu_c : PySem.W.findIn K (.type "int") "__mul__" = some foi_c)
    (iru_c : PySem.W.findIn K (.type "int") "__rmul__" = some fri_c)
    (sbu_c : PySem.W.subIn K (.type "int") (.ref C_c) = some false)
    (cai_c : PySem.W.findIn K (.ref C_c) "__class__" = some (some (.builtin "object.__class__")))
    (cgi_c : PySem.W.specialIn K (.builtin "object.__class__") "__get__" = some (some (.builtin "getset_descriptor.__get__")))
    (cti_c : PySem.W.takesIn K (.builtin "object.__class__") = some true)
    (moi_c : PySem.W.mroIn K C_c (.type "object") = some true)
    (nA_c : PySem.W.findIn K (.ref C_c) "_many_a" = some none)
    (nB_c : PySem.W.findIn K (.ref C_c) "_many_b" = some none)
    (nP_c : PySem.W.findIn K (.ref C_c) "_pairs" = some none)
    {ac_init : Addr} {od_c_init an_c_init : Option Addr} {sl_c_init : Array (Option Value)} {oc_c_init kV_c_init dc_c_init pm_c_init cd_c_init ct_c_init : Value} (a_c_init : PySem.W.findIn K (.ref C_c) "__init__" = some (some (.ref ac_init))) (i_c_init : PySem.W.isFn K (.ref ac_init) = true) (l_c_init : K.lookup ac_init = some ⟨oc_c_init, od_c_init, .func (PySem.W.fnOf "__init__" "Counts.__init__" (defArgs st_c_init) (defBody st_c_init) (defScope st_c_init) .none kV_c_init dc_c_init pm_c_init an_c_init cd_c_init ct_c_init), sl_c_init⟩) (c_c_init : PySem.W.codeIn K cd_c_init "Counts.__init__" = true) (k_c_init : PySem.W.keepIn K (.ref ac_init) = true)
    {ac_mul : Addr} {od_c_mul an_c_mul : Option Addr} {sl_c_mul : Array (Option Value)} {oc_c_mul kV_c_mul dc_c_mul pm_c_mul cd_c_mul ct_c_mul : Value} (a_c_mul : PySem.W.findIn K (.ref C_c) "__mul__" = some (some (.ref ac_mul))) (i_c_mul : PySem.W.isFn K (.ref ac_mul) = true) (l_c_mul : K.lookup ac_mul = some ⟨oc_c_mul, od_c_mul, .func (PySem.W.fnOf "__mul__" "Counts.__mul__" (defArgs st_c_mul) (defBody st_c_mul) (defScope st_c_mul) .none kV_c_mul dc_c_mul pm_c_mul an_c_mul cd_c_mul ct_c_mul), sl_c_mul⟩) (c_c_mul : PySem.W.codeIn K cd_c_mul "Counts.__mul__" = true) (k_c_mul : PySem.W.keepIn K (.ref ac_mul) = true)
    {ac_invert : Addr} {od_c_invert an_c_invert : Option Addr} {sl_c_invert : Array (Option Value)} {oc_c_invert kV_c_invert dc_c_invert pm_c_invert cd_c_invert ct_c_invert : Value} (a_c_invert : PySem.W.findIn K (.ref C_c) "__invert__" = some (some (.ref ac_invert))) (i_c_invert : PySem.W.isFn K (.ref ac_invert) = true) (l_c_invert : K.lookup ac_invert = some ⟨oc_c_invert, od_c_invert, .func (PySem.W.fnOf "__invert__" "Counts.__invert__" (defArgs st_c_invert) (defBody st_c_invert) (defScope st_c_invert) .none kV_c_invert dc_c_invert pm_c_invert an_c_invert cd_c_invert ct_c_invert), sl_c_invert⟩) (c_c_invert : PySem.W.codeIn K cd_c_invert "Counts.__invert__" = true) (k_c_invert : PySem.W.keepIn K (.ref ac_invert) = true)
    {ac_neg : Addr} {od_c_neg an_c_neg : Option Addr} {sl_c_neg : Array (Option Value)} {oc_c_neg kV_c_neg dc_c_neg pm_c_neg cd_c_neg ct_c_neg : Value} (a_c_neg : PySem.W.findIn K (.ref C_c) "__neg__" = some (some (.ref ac_neg))) (i_c_neg : PySem.W.isFn K (.ref ac_neg) = true) (l_c_neg : K.lookup ac_neg = some ⟨oc_c_neg, od_c_neg, .func (PySem.W.fnOf "__neg__" "Counts.__neg__" (defArgs st_c_neg) (defBody st_c_neg) (defScope st_c_neg) .none kV_c_neg dc_c_neg pm_c_neg an_c_neg cd_c_neg ct_c_neg), sl_c_neg⟩) (c_c_neg : PySem.W.codeIn K cd_c_neg "Counts.__neg__" = true) (k_c_neg : PySem.W.keepIn K (.ref ac_neg) = true)
    {pc_many_a : Addr} {rest_c_many_a : List Value} {ac_many_a : Addr} {od_c_many_a an_c_many_a : Option Addr} {sl_c_many_a : Array (Option Value)} {oc_c_many_a kV_c_many_a dc_c_many_a pm_c_many_a cd_c_many_a ct_c_many_a : Value} (pa_c_many_a : PySem.W.findIn K (.ref C_c) "many_a" = some (some (.ref pc_many_a))) (pg_c_many_a : PySem.W.specialIn K (.ref pc_many_a) "__get__" = some (some (.builtin "property.__get__"))) (pt_c_many_a : PySem.W.takesIn K (.ref pc_many_a) = some true) (pr_c_many_a : PySem.W.recIn K pc_many_a "property" = some (.ref ac_many_a :: rest_c_many_a)) (l_c_many_a : K.lookup ac_many_a = some ⟨oc_c_many_a, od_c_many_a, .func (PySem.W.fnOf "many_a" "Counts.many_a" (defArgs st_c_many_a) (defBody st_c_many_a) (defScope st_c_many_a) .none kV_c_many_a dc_c_many_a pm_c_many_a an_c_many_a cd_c_many_a ct_c_many_a), sl_c_many_a⟩) (c_c_many_a : PySem.W.codeIn K cd_c_many_a "Counts.many_a" = true) (k_c_many_a : PySem.W.keepIn K (.ref ac_many_a) = true)
    {pc_many_b : Addr} {rest_c_many_b : List Value} {ac_many_b : Addr} {od_c_many_b an_c_many_b : Option Addr} {sl_c_many_b : Array (Option Value)} {oc_c_many_b kV_c_many_b dc_c_many_b pm_c_many_b cd_c_many_b ct_c_many_b : Value} (pa_c_many_b : PySem.W.findIn K (.ref C_c) "many_b" = some (some (.ref pc_many_b))) (pg_c_many_b : PySem.W.specialIn K (.ref pc_many_b) "__get__" = some (some (.builtin "property.__get__"))) (pt_c_many_b : PySem.W.takesIn K (.ref pc_many_b) = some true) (pr_c_many_b : PySem.W.recIn K pc_many_b "property" = some (.ref ac_many_b :: rest_c_many_b)) (l_c_many_b : K.lookup ac_many_b = some ⟨oc_c_many_b, od_c_many_b, .func (PySem.W.fnOf "many_b" "Counts.many_b" (defArgs st_c_many_b) (defBody st_c_many_b) (defScope st_c_many_b) .none kV_c_many_b dc_c_many_b pm_c_many_b an_c_many_b cd_c_many_b ct_c_many_b), sl_c_many_b⟩) (c_c_many_b : PySem.W.codeIn K cd_c_many_b "Counts.many_b" = true) (k_c_many_b : PySem.W.keepIn K (.ref ac_many_b) = true)
    {pc_pairs : Addr} {rest_c_pairs : List Value} {ac_pairs : Addr} {od_c_pairs an_c_pairs : Option Addr} {sl_c_pairs : Array (Option Value)} {oc_c_pairs kV_c_pairs dc_c_pairs pm_c_pairs cd_c_pairs ct_c_pairs : Value} (pa_c_pairs : PySem.W.findIn K (.ref C_c) "pairs" = some (some (.ref pc_pairs))) (pg_c_pairs : PySem.W.specialIn K (.ref pc_pairs) "__get__" = some (some (.builtin "property.__get__"))) (pt_c_pairs : PySem.W.takesIn K (.ref pc_pairs) = some true) (pr_c_pairs : PySem.W.recIn K pc_pairs "property" = some (.ref ac_pairs :: rest_c_pairs)) (l_c_pairs : K.lookup ac_pairs = some ⟨oc_c_pairs, od_c_pairs, .func (PySem.W.fnOf "pairs" "Counts.pairs" (defArgs st_c_pairs) (defBody st_c_pairs) (defScope st_c_pairs) .none kV_c_pairs dc_c_pairs pm_c_pairs an_c_pairs cd_c_pairs ct_c_pairs), sl_c_pairs⟩) (c_c_pairs : PySem.W.codeIn K cd_c_pairs "Counts.pairs" = true) (k_c_pairs : PySem.W.keepIn K (.ref ac_pairs) = true)
    (z_abs : PySem.W.nsIn K mainGlobals "abs" = some none)
    (z_bool : PySem.W.nsIn K mainGlobals "bool" = some none)
    (z_int : PySem.W.nsIn K mainGlobals "int" = some none)
    (z_isinstance : PySem.W.nsIn K mainGlobals "isinstance" = some none)
    (z_len : PySem.W.nsIn K mainGlobals "len" = some none)
    (z_max : PySem.W.nsIn K mainGlobals "max" = some none)
    (z_min : PySem.W.nsIn K mainGlobals "min" = some none)
    (z_range : PySem.W.nsIn K mainGlobals "range" = some none)
    {t_MOST_COPIES : Tok} (y_MOST_COPIES : PySem.W.nsIn K mainGlobals "MOST_COPIES" = some (some (.int (10 ^ 30) t_MOST_COPIES)))
    (y_isqrt : PySem.W.nsIn K mainGlobals "isqrt" = some (some (.builtin "math.isqrt")))
    : ∃ fd : FuncData, (∀ (s : Shared) (v : Value), BindsTo s fd ⟨[v], []⟩ [("script", v)]) ∧ ∀ base : Heap, K.In base → base.Ns mainGlobals mg → FnOk l.prog w K mg base CX0 9 fa fd ["script"] (spLaw K) := by
  have e := hfa.symm.trans (PySem.W.mg_of X G n_law)
  cases e
  have F_is_integer := fun_mk (st := st_is_integer) l_is_integer c_is_integer k_is_integer
  have b_is_integer := F_is_integer.binds (ps := ["value"]) fun _ _ _ _ _ _ us hl => match us, hl with | [_], _ => rfl
  have g_is_integer := PySem.W.mg_of X G n_is_integer
  have F_check_number : FunD K "check_number" "check_number" (defArgs st_check_number) (defBody st_check_number) (defScope st_check_number) [.non] [] _ _ := ⟨⟨_, _, _, _, _, _, _, _, _, _, rfl, l_check_number, c_check_number, .inr ⟨by simp, dT_check_number, _, [Value.none], nT_check_number, rfl, e_check_number, rfl, .cons rfl .nil⟩, .inl rfl⟩, k_check_number⟩
  have b_check_number := binds_full F_check_number (ps := ["value", "least", "greatest"]) 3 rfl fun _ _ _ _ _ _ _ us its h1 h2 => match us, h1, its, h2 with | [_, _, _], _, [_], _ => ⟨_, rfl, rfl⟩
  have g_check_number := PySem.W.mg_of X G n_check_number
  have F_are_counts := fun_mk (st := st_are_counts) l_are_counts c_are_counts k_are_counts
  have b_are_counts := F_are_counts.binds (ps := ["many_a", "many_b", "pairs"]) fun _ _ _ _ _ _ us hl => match us, hl with | [_, _, _], _ => rfl
  have g_are_counts := PySem.W.mg_of X G n_are_counts
  have F_check_counts := fun_mk (st := st_check_counts) l_check_counts c_check_counts k_check_counts
  have b_check_counts := F_check_counts.binds (ps := ["value"]) fun _ _ _ _ _ _ us hl => match us, hl with | [_], _ => rfl
  have g_check_counts := PySem.W.mg_of X G n_check_counts
  have F_letters_in := fun_mk (st := st_letters_in) l_letters_in c_letters_in k_letters_in
  have b_letters_in := F_letters_in.binds (ps := ["counts"]) fun _ _ _ _ _ _ us hl => match us, hl with | [_], _ => rfl
  have g_letters_in := PySem.W.mg_of X G n_letters_in
  have F_greatest_prefix_count := fun_mk (st := st_greatest_prefix_count) l_greatest_prefix_count c_greatest_prefix_count k_greatest_prefix_count
  have b_greatest_prefix_count := F_greatest_prefix_count.binds (ps := ["counts", "length"]) fun _ _ _ _ _ _ us hl => match us, hl with | [_, _], _ => rfl
  have g_greatest_prefix_count := PySem.W.mg_of X G n_greatest_prefix_count
  have F_prefix_range := fun_mk (st := st_prefix_range) l_prefix_range c_prefix_range k_prefix_range
  have b_prefix_range := F_prefix_range.binds (ps := ["counts", "length"]) fun _ _ _ _ _ _ us hl => match us, hl with | [_, _], _ => rfl
  have g_prefix_range := PySem.W.mg_of X G n_prefix_range
  have F_law_spring := fun_mk (st := st_law_spring) l_law_spring c_law_spring k_law_spring
  have b_law_spring := F_law_spring.binds (ps := ["script"]) fun _ _ _ _ _ _ us hl => match us, hl with | [_], _ => rfl
  have g_law_spring := PySem.W.mg_of X G n_law_spring
  have F_law_draw := fun_mk (st := st_law_draw) l_law_draw c_law_draw k_law_draw
  have b_law_draw := F_law_draw.binds (ps := ["spring", "many"]) fun _ _ _ _ _ _ us hl => match us, hl with | [_, _], _ => rfl
  have g_law_draw := PySem.W.mg_of X G n_law_draw
  have F_law_counts := fun_mk (st := st_law_counts) l_law_counts c_law_counts k_law_counts
  have b_law_counts := F_law_counts.binds (ps := ["spring", "most"]) fun _ _ _ _ _ _ us hl => match us, hl with | [_, _], _ => rfl
  have g_law_counts := PySem.W.mg_of X G n_law_counts
  have F_law_far := fun_mk (st := st_law_far) l_law_far c_law_far k_law_far
  have b_law_far := F_law_far.binds (ps := ["spring"]) fun _ _ _ _ _ _ us hl => match us, hl with | [_], _ => rfl
  have g_law_far := PySem.W.mg_of X G n_law_far
  have F_law_joined := fun_mk (st := st_law_joined) l_law_joined c_law_joined k_law_joined
  have b_law_joined := F_law_joined.binds (ps := ["one", "other"]) fun _ _ _ _ _ _ us hl => match us, hl with | [_, _], _ => rfl
  have g_law_joined := PySem.W.mg_of X G n_law_joined
  have F_law_fits := fun_mk (st := st_law_fits) l_law_fits c_law_fits k_law_fits
  have b_law_fits := F_law_fits.binds (ps := ["triple", "length", "many"]) fun _ _ _ _ _ _ us hl => match us, hl with | [_, _, _], _ => rfl
  have g_law_fits := PySem.W.mg_of X G n_law_fits
  have F_law_right := fun_mk (st := st_law_right) l_law_right c_law_right k_law_right
  have b_law_right := F_law_right.binds (ps := ["counts", "triple", "length"]) fun _ _ _ _ _ _ us hl => match us, hl with | [_, _, _], _ => rfl
  have g_law_right := PySem.W.mg_of X G n_law_right
  have F_law := fun_mk (st := st_law) l_law c_law k_law
  have T_c : CT K mg C_c := ⟨⟨pg_c, hd_c, po_c, sa_c⟩, nA_c, nB_c, nP_c, PySem.W.mg_of X G n_c⟩
  have I_c : C8.InsC K C_c := ⟨T_c.cl, cai_c, cgi_c, cti_c, moi_c, kit_refl⟩
  have F_c_init := fun_mk (st := st_c_init) l_c_init c_c_init k_c_init
  have b_c_init := F_c_init.binds (ps := ["self", "many_a", "many_b", "pairs"]) fun _ _ _ _ _ _ us hl => match us, hl with | [_, _, _, _], _ => rfl
  have F_c_mul := fun_mk (st := st_c_mul) l_c_mul c_c_mul k_c_mul
  have b_c_mul := F_c_mul.binds (ps := ["self", "other"]) fun _ _ _ _ _ _ us hl => match us, hl with | [_, _], _ => rfl
  have F_c_invert := fun_mk (st := st_c_invert) l_c_invert c_c_invert k_c_invert
  have b_c_invert := F_c_invert.binds (ps := ["self"]) fun _ _ _ _ _ _ us hl => match us, hl with | [_], _ => rfl
  have F_c_neg := fun_mk (st := st_c_neg) l_c_neg c_c_neg k_c_neg
  have b_c_neg := F_c_neg.binds (ps := ["self"]) fun _ _ _ _ _ _ us hl => match us, hl with | [_], _ => rfl
  have M_c : Mk K C_c _ := ⟨mk_c, a_c_init, i_c_init, kc_c⟩
  have D_c_mul : MulI K C_c _ := ⟨sf_c, a_c_mul, i_c_mul, rmu_c, ⟨_, imu_c⟩, ⟨_, iru_c⟩, sbu_c⟩
  have d_c_mul : Dun K C_c "__mul__" _ := ⟨a_c_mul, i_c_mul⟩
  have d_c_invert : Dun K C_c "__invert__" _ := ⟨a_c_invert, i_c_invert⟩
  have d_c_neg : Dun K C_c "__neg__" _ := ⟨a_c_neg, i_c_neg⟩
  have F_c_many_a := fun_mk (st := st_c_many_a) l_c_many_a c_c_many_a k_c_many_a
  have bp_c_many_a := F_c_many_a.binds (ps := ["self"]) fun _ _ _ _ _ _ us hl => match us, hl with | [_], _ => rfl
  have p_c_many_a : PropOf K C_c "many_a" _ _ := ⟨pa_c_many_a, pg_c_many_a, pt_c_many_a, ⟨_, pr_c_many_a⟩⟩
  have F_c_many_b := fun_mk (st := st_c_many_b) l_c_many_b c_c_many_b k_c_many_b
  have bp_c_many_b := F_c_many_b.binds (ps := ["self"]) fun _ _ _ _ _ _ us hl => match us, hl with | [_], _ => rfl
  have p_c_many_b : PropOf K C_c "many_b" _ _ := ⟨pa_c_many_b, pg_c_many_b, pt_c_many_b, ⟨_, pr_c_many_b⟩⟩
  have F_c_pairs := fun_mk (st := st_c_pairs) l_c_pairs c_c_pairs k_c_pairs
  have bp_c_pairs := F_c_pairs.binds (ps := ["self"]) fun _ _ _ _ _ _ us hl => match us, hl with | [_], _ => rfl
  have p_c_pairs : PropOf K C_c "pairs" _ _ := ⟨pa_c_pairs, pg_c_pairs, pt_c_pairs, ⟨_, pr_c_pairs⟩⟩
  have m_abs := PySem.W.mg_none_of X G z_abs
  have m_bool := PySem.W.mg_none_of X G z_bool
  have m_int := PySem.W.mg_none_of X G z_int
  have m_isinstance := PySem.W.mg_none_of X G z_isinstance
  have m_len := PySem.W.mg_none_of X G z_len
  have m_max := PySem.W.mg_none_of X G z_max
  have m_min := PySem.W.mg_none_of X G z_min
  have m_range := PySem.W.mg_none_of X G z_range
  have g_MOST_COPIES := PySem.W.mg_of X G y_MOST_COPIES
  have g_isqrt := PySem.W.mg_of X G y_isqrt
  refine ⟨PySem.W.fnOf "law" "law" (defArgs st_law) (defBody st_law) (defScope st_law) .none kV_law dc_law pm_law an_law cd_law ct_law, fun s v => .of_eq rfl, fun base _ _ => ?_⟩
  have Gp_c_many_a : FnOk l.prog w K mg base CX0 1 _ _ ["self"] (getSp C_c "_many_a") := fn_getter l_c_many_a c_c_many_a sc_c_many_a rfl rfl T_c.cl T_c.nA
  have Gp_c_many_b : FnOk l.prog w K mg base CX0 1 _ _ ["self"] (getSp C_c "_many_b") := fn_getter l_c_many_b c_c_many_b sc_c_many_b rfl rfl T_c.cl T_c.nB
  have Gp_c_pairs : FnOk l.prog w K mg base CX0 1 _ _ ["self"] (getSp C_c "_pairs") := fn_getter l_c_pairs c_c_pairs sc_c_pairs rfl rfl T_c.cl T_c.nP
  have G_is_integer : FnOk l.prog w K mg base CX0 1 _ _ ["value"] ((spIsInt K)) := ok_is_integer F_is_integer m_isinstance m_int m_bool
  have G_check_number : FnOk l.prog w K mg base CX0 2 _ _ ["value", "least", "greatest"] (spCkN) := ok_check_number F_check_number F_is_integer G_is_integer b_is_integer g_is_integer
  have G_are_counts : FnOk l.prog w K mg base CX0 2 _ _ ["many_a", "many_b", "pairs"] (spAre) := ok_are_counts F_are_counts F_is_integer G_is_integer b_is_integer g_is_integer
  have G_c_init : FnOk l.prog w K mg base CX0 3 _ _ ["self", "many_a", "many_b", "pairs"] ((spInit C_c)) := ok_c_init F_c_init T_c F_are_counts G_are_counts b_are_counts g_are_counts
  have G_c_mul : FnOk l.prog w K mg base CX0 5 _ _ ["self", "other"] ((spMul C_c)) := ok_c_mul F_c_mul T_c F_check_number G_check_number b_check_number g_check_number g_MOST_COPIES M_c G_c_init b_c_init
  have R_c_mul := FnOk.raw G_c_mul b_c_mul .nil
  have G_c_invert : FnOk l.prog w K mg base CX0 5 _ _ ["self"] ((spInv C_c)) := ok_c_invert F_c_invert T_c M_c G_c_init b_c_init
  have R_c_invert := FnOk.raw G_c_invert b_c_invert .nil
  have G_c_neg : FnOk l.prog w K mg base CX0 5 _ _ ["self"] ((spNeg C_c)) := ok_c_neg F_c_neg T_c M_c G_c_init b_c_init
  have R_c_neg := FnOk.raw G_c_neg b_c_neg .nil
  have G_check_counts : FnOk l.prog w K mg base CX0 1 _ _ ["value"] ((spCkC C_c)) := ok_check_counts F_check_counts T_c I_c m_isinstance
  have G_letters_in : FnOk l.prog w K mg base CX0 3 _ _ ["counts"] ((spLet C_c)) := ok_letters_in F_letters_in T_c p_c_many_a Gp_c_many_a bp_c_many_a p_c_many_b Gp_c_many_b bp_c_many_b
  have G_greatest_prefix_count : FnOk l.prog w K mg base CX0 3 _ _ ["counts", "length"] ((spGreat C_c)) := ok_greatest_prefix_count F_greatest_prefix_count T_c p_c_many_a Gp_c_many_a bp_c_many_a p_c_many_b Gp_c_many_b bp_c_many_b p_c_pairs Gp_c_pairs bp_c_pairs g_isqrt m_min
  have G_prefix_range : FnOk l.prog w K mg base CX0 6 _ _ ["counts", "length"] ((spPR C_c)) := ok_prefix_range F_prefix_range F_check_counts G_check_counts b_check_counts g_check_counts F_check_number G_check_number b_check_number g_check_number F_letters_in G_letters_in b_letters_in g_letters_in F_greatest_prefix_count G_greatest_prefix_count b_greatest_prefix_count g_greatest_prefix_count d_c_neg R_c_neg
  have G_law_spring : FnOk l.prog w K mg base CX0 1 _ _ ["script"] ((spSpring K)) := ok_law_spring F_law_spring m_abs
  have G_law_draw : FnOk l.prog w K mg base CX0 2 _ _ ["spring", "many"] ((spDrawS 1000000 2 (2 ^ 7990))) := ok_law_draw F_law_draw b_law_draw g_law_draw
  have G_law_counts : FnOk l.prog w K mg base CX0 3 _ _ ["spring", "most"] ((spDrawn 200)) := ok_law_counts F_law_counts F_law_draw G_law_draw b_law_draw g_law_draw m_min m_max
  have G_law_far : FnOk l.prog w K mg base CX0 3 _ _ ["spring"] (spFar28) := ok_law_far F_law_far F_law_draw G_law_draw b_law_draw g_law_draw m_min
  have G_law_joined : FnOk l.prog w K mg base CX0 1 _ _ ["one", "other"] ((spJoined K)) := ok_law_joined F_law_joined
  have G_law_fits : FnOk l.prog w K mg base CX0 2 _ _ ["triple", "length", "many"] ((spFits K)) := ok_law_fits F_law_fits F_law_joined G_law_joined b_law_joined g_law_joined
  have G_law_right : FnOk l.prog w K mg base CX0 7 _ _ ["counts", "triple", "length"] ((spRight28 K C_c)) := ok_law_right F_law_right F_prefix_range G_prefix_range b_prefix_range g_prefix_range F_law_fits G_law_fits b_law_fits g_law_fits d_c_invert R_c_invert d_c_neg R_c_neg m_isinstance m_int
  exact ok_law F_law F_law_spring G_law_spring b_law_spring g_law_spring F_law_counts G_law_counts b_law_counts g_law_counts F_law_far G_law_far b_law_far g_law_far F_law_draw G_law_draw b_law_draw g_law_draw F_law_right G_law_right b_law_right g_law_right F_prefix_range G_prefix_range b_prefix_range g_prefix_range T_c M_c G_c_init b_c_init D_c_mul R_c_mul m_range m_min m_len
end K28
open PySem PySem.W PyProof.Rows
set_option maxHeartbeats 0 in
theorem PySem.Challenge.cw_paircounts_k28_prefix_ranges_of_large_co_holds : PySem.Challenge.rw_paircounts_k28_prefix_ranges_of_large_co.Holds := by
  w_on; o_law; k_head; (case hw => w_witness2)
  k_fill
  refine L2.walk_of (l := PySem.Challenge.rw_paircounts_k28_prefix_ranges_of_large_co) (n := 63) (k := 9) (x := "script") (CX := fun _ => L2.CX0) (sp := fun w => K28.spLaw _) rfl (by decide) rfl ⟨rfl, by decide, by decide⟩ (fun w h Y => PySem.W.kIn_of Y) ?F (fun _ _ a ns hl _ hS => ⟨a, ns, rfl, hS, hl, fun _ => rfl⟩) (fun _ _ _ _ _ h => h)
  case F =>
    intro w mg fa h KX G hmg
    refine' K28.all_mk KX G hmg ?n_is_integer ?l_is_integer ?c_is_integer ?k_is_integer ?n_check_number ?l_check_number ?c_check_number ?k_check_number ?e_check_number ?n_are_counts ?l_are_counts ?c_are_counts ?k_are_counts ?n_check_counts ?l_check_counts ?c_check_counts ?k_check_counts ?n_letters_in ?l_letters_in ?c_letters_in ?k_letters_in ?n_greatest_prefix_count ?l_greatest_prefix_count ?c_greatest_prefix_count ?k_greatest_prefix_count ?n_prefix_range ?l_prefix_range ?c_prefix_range ?k_prefix_range ?n_law_spring ?l_law_spring ?c_law_spring ?k_law_spring ?n_law_draw ?l_law_draw ?c_law_draw ?k_law_draw ?n_law_counts ?l_law_counts ?c_law_counts ?k_law_counts ?n_law_far ?l_law_far ?c_law_far ?k_law_far ?n_law_joined ?l_law_joined ?c_law_joined ?k_law_joined ?n_law_fits ?l_law_fits ?c_law_fits ?k_law_fits ?n_law_right ?l_law_right ?c_law_right ?k_law_right ?n_law ?l_law ?c_law ?k_law ?n_c ?pg_c ?hd_c ?po_c ?sa_c ?mk_c ?kc_c ?sf_c ?rmu_c ?imu_c ?iru_c ?sbu_c ?cai_c ?cgi_c ?cti_c ?moi_c ?nA_c ?nB_c ?nP_c ?a_c_init ?i_c_init ?l_c_init ?c_c_init ?k_c_init ?a_c_mul ?i_c_mul ?l_c_mul ?c_c_mul ?k_c_mul ?a_c_invert ?i_c_invert ?l_c_invert ?c_c_invert ?k_c_invert ?a_c_neg ?i_c_neg ?l_c_neg ?c_c_neg ?k_c_neg ?pa_c_many_a ?pg_c_many_a ?pt_c_many_a ?pr_c_many_a ?l_c_many_a ?c_c_many_a ?k_c_many_a ?pa_c_many_b ?pg_c_many_b ?pt_c_many_b ?pr_c_many_b ?l_c_many_b ?c_c_many_b ?k_c_many_b ?pa_c_pairs ?pg_c_pairs ?pt_c_pairs ?pr_c_pairs ?l_c_pairs ?c_c_pairs ?k_c_pairs ?z_abs ?z_bool ?z_int ?z_isinstance ?z_len ?z_max ?z_min ?z_range ?y_MOST_COPIES ?y_isqrt
    (case n_is_integer => k_is); (case l_is_integer => k_is); (case c_is_integer => k_is); (case k_is_integer => k_is); (case n_check_number => k_is); (case l_check_number => k_is); (case c_check_number => k_is); (case k_check_number => k_is); (case e_check_number => k_is); (case n_are_counts => k_is); (case l_are_counts => k_is); (case c_are_counts => k_is); (case k_are_counts => k_is); (case n_check_counts => k_is); (case l_check_counts => k_is); (case c_check_counts => k_is); (case k_check_counts => k_is); (case n_letters_in => k_is); (case l_letters_in => k_is); (case c_letters_in => k_is); (case k_letters_in => k_is); (case n_greatest_prefix_count => k_is); (case l_greatest_prefix_count => k_is); (case c_greatest_prefix_count => k_is); (case k_greatest_prefix_count => k_is); (case n_prefix_range => k_is); (case l_prefix_range => k_is); (case c_prefix_range => k_is); (case k_prefix_range => k_is); (case n_law_spring => k_is); (case l_law_spring => k_is); (case c_law_spring => k_is); (case k_law_spring => k_is); (case n_law_draw => k_is); (case l_law_draw => k_is); (case c_law_draw => k_is); (case k_law_draw => k_is); (case n_law_counts => k_is); (case l_law_counts => k_is); (case c_law_counts => k_is); (case k_law_counts => k_is); (case n_law_far => k_is); (case l_law_far => k_is); (case c_law_far => k_is); (case k_law_far => k_is); (case n_law_joined => k_is); (case l_law_joined => k_is); (case c_law_joined => k_is); (case k_law_joined => k_is); (case n_law_fits => k_is); (case l_law_fits => k_is); (case c_law_fits => k_is); (case k_law_fits => k_is); (case n_law_right => k_is); (case l_law_right => k_is); (case c_law_right => k_is); (case k_law_right => k_is); (case n_law => k_is); (case l_law => k_is); (case c_law => k_is); (case k_law => k_is); (case n_c => k_is); (case pg_c => k_is); (case hd_c => k_is); (case po_c => k_is); (case sa_c => k_is); (case mk_c => k_is); (case kc_c => k_is); (case sf_c => k_is); (case rmu_c => k_is); (case imu_c => k_is); (case iru_c => k_is); (case sbu_c => k_is); (case cai_c => k_is); (case cgi_c => k_is); (case cti_c => k_is); (case moi_c => k_is); (case nA_c => k_is); (case nB_c => k_is); (case nP_c => k_is); (case a_c_init => k_is); (case i_c_init => k_is); (case l_c_init => k_is); (case c_c_init => k_is); (case k_c_init => k_is); (case a_c_mul => k_is); (case i_c_mul => k_is); (case l_c_mul => k_is); (case c_c_mul => k_is); (case k_c_mul => k_is); (case a_c_invert => k_is); (case i_c_invert => k_is); (case l_c_invert => k_is); (case c_c_invert => k_is); (case k_c_invert => k_is); (case a_c_neg => k_is); (case i_c_neg => k_is); (case l_c_neg => k_is); (case c_c_neg => k_is); (case k_c_neg => k_is); (case pa_c_many_a => k_is); (case pg_c_many_a => k_is); (case pt_c_many_a => k_is); (case pr_c_many_a => k_is); (case l_c_many_a => k_is); (case c_c_many_a => k_is); (case k_c_many_a => k_is); (case pa_c_many_b => k_is); (case pg_c_many_b => k_is); (case pt_c_many_b => k_is); (case pr_c_many_b => k_is); (case l_c_many_b => k_is); (case c_c_many_b => k_is); (case k_c_many_b => k_is); (case pa_c_pairs => k_is); (case pg_c_pairs => k_is); (case pt_c_pairs => k_is); (case pr_c_pairs => k_is); (case l_c_pairs => k_is); (case c_c_pairs => k_is); (case k_c_pairs => k_is); (case z_abs => k_is); (case z_bool => k_is); (case z_int => k_is); (case z_isinstance => k_is); (case z_len => k_is); (case z_max => k_is); (case z_min => k_is); (case z_range => k_is); (case y_MOST_COPIES => k_is); (case y_isqrt => k_is)
