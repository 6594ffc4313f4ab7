import PyProof.Rows.All
import Wide.All
import OpenK.AllK
import Wide.FinOn
import HandS.Base
import HandS.Call
import HandS.List
import HandS.Comp
import HandS.Ends
import HandS.Text
import HandS.Exc
import HandS.Words
import PyProof.ReprRoads
import HandS.Iter
import HandS.Dict
import HandS.IsInst
import HandS.Conv
import HandS.Codes
import HandS.Wide
import PyProof.ListStr
import PyProof.TupleCall
import PyProof.StrLawsTight
import HandS.Style
import HandS.ForMost
import HandS.TupLe
import PyProof.ReprLen
import KE.GoesMore
import KE.GoesEnum
import HandS.Walk
import PyProof.EnumMake
import HandS.Property
import HandS.ClsMeth
import HandS.More
import HandS.SlotsOwn
import KE.KOpsOwn
import HandS.Flt
import HandS.Gcd
import HandS.Defaults
import Flt.RightSqrt
import HandS.Hot
import HandS.HotCalls
import HandS.ExcIs
import HandS.WordsExc
import PySem.Challenge.RW_paircounts_k08_multiples_of_counts
set_option Elab.async false
set_option linter.all false
set_option maxRecDepth 100000
set_option maxHeartbeats 4000000
set_option exponentiation.threshold 10000
namespace Vx
open PySem PySem.Spec PyProof.Rows L2

/-! defs that are entered where no repr is under way -/
structure FnG (P : Program) (w : World) (K : PySem.W.Frag) (mg : Str → Option Value) (base : Heap) (CX : CXT) (k : Nat) (f : Addr) (fd : FuncData) (ps : List Str) (sp : Sp) : Prop where
  len : ∀ vs H Q E, sp vs H Q E → vs.length = ps.length
  run : ∀ (A : Around) (outer : List Env) (s : Shared) (H : Hp) (args : Args) (us : List Value) (vs : List V) (Q : VK) (E : XK), A.guards = some [] → Room k A →
    Env0 P w K mg base A outer s H → BindsTo s fd args (ps.zip us) → Vals vs us → sp vs H Q E → codeAny (model P w) A (.call (.ref f) args) (CR CX outer P w H s Q E) s

section
variable {P : Program} {w : World} {K : PySem.W.Frag} {mg : Str → Option Value} {base : Heap} {CX : CXT} {k : Nat} {f : Addr} {fd : FuncData} {ps : List Str} {sp : Sp}
theorem FnG.of (F : FnOk P w K mg base CX k f fd ps sp) : FnG P w K mg base CX k f fd ps sp := ⟨F.len, fun A outer s H args us vs Q E _ => F.run A outer s H args us vs Q E⟩
theorem FnG.mono {j : Nat} (F : FnG P w K mg base CX j f fd ps sp) (h : j ≤ k) : FnG P w K mg base CX k f fd ps sp :=
  ⟨F.len, fun A outer s H args us vs Q E hg hr => F.run A outer s H args us vs Q E hg (hr.mono h)⟩
end

/-- a def by its body, the guards told -/
theorem fnG_of {CX : CXT} {P : Program} {w : World} {K : PySem.W.Frag} {mg : Str → Option Value} {base : Heap} {k : Nat} {f : Addr} {name qual : Str} {params : Arguments} {body : List Stmt} {scope : Scope} {dV kV doc pm cdv ct oc : Value} {an od : Option Addr}
    {osl : Array (Option Value)} {N ps : List Str} {sp : Sp} (found : K.lookup f = some ⟨oc, od, .func (PySem.W.fnOf name qual params body scope dV kV doc pm an cdv ct), osl⟩) (code : PySem.W.codeIn K cdv qual = true) (S : FnScope N ps scope)
    (len : ∀ vs H Q E, sp vs H Q E → vs.length = ps.length)
    (walk : ∀ (A : Around) (outer : List Env) (s : Shared) (H : Hp) (vs : List V) (Q : VK) (E : XK), A.guards = some [] → Room k (A.deeper (envOfC qual scope s.heap.objs.size f cdv)) → sp vs H Q E →
      ∃ t, PSs (cxOf CX P w K mg base N qual scope f cdv A outer s H E) body t ∧ t { nx := fun _ H' => Q .non H', rt := Q } (start N vs) H) :
    FnG P w K mg base CX (k + 1) f (PySem.W.fnOf name qual params body scope dV kV doc pm an cdv ct) ps sp := by
  constructor
  · exact len
  intro A outer s H args us vs Q E guards room e0 bound r asked
  have many := len vs H Q E asked
  have inK : K.In s.heap := e0.mod.kin.keeps fun b o q => (e0.bs b o q).1
  have unlimited : s.heap.NoLimit := e0.mod.nolimit.keeps fun b o q => (e0.bs b o q).1
  have kinds : ∀ y ∈ ps.zip us, scope.names.lookup y.1 = some .local ∨ (scope.names.lookup y.1 = some .cell ∧ ((cellsFrom (s.heap.objs.size + 1) scope.names []).lookup y.1).isSome = true) := by
    rintro ⟨n, v⟩ within
    rcases S.par n (List.of_mem_zip within).1 with z | z
    · exact Or.inl z
    · exact Or.inr ⟨z, PySem.W.cellsFrom_some _ _ _ (Or.inl z)⟩
  refine codeAny_call_function room.depth (inK _ _ found) rfl S.co S.gen rfl (PySem.W.codeRec_of inK code) (bound _ _ _ _ (wpAny_newFunctionEnv_cells S.kind kinds ?_))
  intro env isEnv s1 entered
  subst isEnv
  refine And.intro (unlimited.keeps entered.toInCall.keep) (codeAny_func ?_)
  obtain ⟨t, derived, reads⟩ := walk A outer s H vs Q E guards (room.deeper _) asked
  have I0 : Inv (cxOf CX P w K mg base N qual scope f cdv A outer s H E) [] (start N vs) H s1 := inv_start S room.hd e0 many r entered
  refine wpAny_mono (derived.run [] s1 (start N vs) H _ I0 reads) ?_ (fun _ _ z => z)
  intro flow s' ended
  cases flow with
  | ret u =>
    obtain ⟨v, σ', H', J, rv, q⟩ := ended
    exact ⟨v, H', J.os, J.bare, J.base, J.hok, rv, q⟩
  | next =>
    obtain ⟨σ', H', J, q⟩ := ended
    exact ⟨V.non, H', J.os, J.bare, J.base, J.hok, rfl, q⟩
  | brk => exact (show False from ended.choose_spec.choose_spec.2).elim
  | cont => exact (show False from ended.choose_spec.choose_spec.2).elim

/-- a def of the text, the guards told; what it raises leaves it -/
theorem okGX {P : Program} {w : World} {K : PySem.W.Frag} {mg : Str → Option Value} {base : Heap} {CX : CXT} {x qual : Str} {st : Stmt} {f : Addr} {fd : FuncData} {N ps : List Str} {k : Nat} {sp : Sp} (F : Fun K x qual st f fd) (S : FnScope N ps (defScope st))
    (len : ∀ vs H Q E, sp vs H Q E → vs.length = ps.length)
    (walk : ∀ (cdv : Value) (A : Around) (outer : List Env) (s : Shared) (H : Hp) (vs : List V) (Q : VK) (E : XK), A.guards = some [] → Room k (A.deeper (envOfC qual (defScope st) s.heap.objs.size f cdv)) → sp vs H Q E →
      ∃ t, PSs (cxOf CX P w K mg base N qual (defScope st) f cdv A outer s H E) (defBody st) t ∧ t { nx := fun _ H' => Q .non H', rt := Q } (start N vs) H) : FnG P w K mg base CX (k + 1) f fd ps sp := by
  obtain ⟨oc, od, kV, doc, pm, an, cdv, ct, osl, rfl, found, code⟩ := F.ex
  exact fnG_of found code S len fun A outer s H vs Q E hg hr asked => walk cdv A outer s H vs Q E hg hr asked
/-- a def of the text, the guards told; nothing is raised -/
theorem okG {P : Program} {w : World} {K : PySem.W.Frag} {mg : Str → Option Value} {base : Heap} {x qual : Str} {st : Stmt} {f : Addr} {fd : FuncData} {N ps : List Str} {k : Nat} {sp : Sp} (F : Fun K x qual st f fd) (S : FnScope N ps (defScope st))
    (len : ∀ vs H Q E, sp vs H Q E → vs.length = ps.length)
    (walk : ∀ (cdv : Value) (A : Around) (outer : List Env) (s : Shared) (H : Hp) (vs : List V) (Q : VK) (E : XK), A.guards = some [] → Room k (A.deeper (envOfC qual (defScope st) s.heap.objs.size f cdv)) → sp vs H Q E →
      ∃ t, PSs (cxOf CX0 P w K mg base N qual (defScope st) f cdv A outer s H E).nox (defBody st) t ∧ t { nx := fun _ H' => Q .non H', rt := Q } (start N vs) H) : FnG P w K mg base CX0 (k + 1) f fd ps sp :=
  okGX F S len fun cdv A outer s H vs Q E hg hr asked => by
    obtain ⟨t, derived, reads⟩ := walk cdv A outer s H vs Q E hg hr asked
    exact ⟨t, derived.nox, reads⟩

section
variable {X : Cx} {CX : CXT} {k : Nat} {f : Addr} {fd : FuncData} {ps : List Str} {sp : Sp} {dvs : List V} {ds : List Value} {E : XK} {x : Str} {p pos : Pos} {e : Expr} {es : List Expr} {t : TA}
theorem goG {pins : List (Addr × Obj)} {σ : L2.St} {H : Hp} {s : Shared} {Q : VK} {us : List Value} {vs : List V} (F : FnG X.prog X.w X.K X.mg X.base CX k f fd ps sp) (hg : X.A.guards = some []) (hr : Room k X.A) (hb : Binds X.K fd ps ds) (hd : Vals dvs ds) (hx : Passes CX X E)
    (I : Inv X pins σ H s) (r : Vals vs us) (h : sp (vs ++ dvs) H Q E) : wpAny (model X.prog X.w) X.A (call (.ref f) us) (EP X pins σ Q) X.xe s := by
  have all : Vals (vs ++ dvs) (us ++ ds) := Vals.append r hd
  have many : (us ++ ds).length = ps.length := (Vals.length all).symm.trans (F.len _ _ _ _ h)
  apply wpAny_call
  refine codeAny_mono (F.run X.A X.stack s H ⟨us, []⟩ (us ++ ds) (vs ++ dvs) Q E hg hr I.env0 (hb s us I.kIn many) all h) ?_
  intro res s' ended
  rcases res with er | fl
  · exact hx pins σ H s er s' I ended
  · cases fl with
    | ret u => exact I.after ended
    | next => exact (show False from ended).elim
    | brk => exact (show False from ended).elim
    | cont => exact (show False from ended).elim
theorem pe_callG (F : FnG X.prog X.w X.K X.mg X.base CX k f fd ps sp) (hgd : X.A.guards = some []) (hr : Room k X.A) (hg : Gl X x) (hm : X.mg x = some (.ref f)) (hk : PySem.W.keepIn X.K (.ref f) = true) (hb : Binds X.K fd ps ds) (hd : Vals dvs ds) (hx : Passes CX X E)
    (ha : PA X (e :: es) t) (hdb : (x == ("__debug__" : Str)) = false := by decide) (he : starEach (e :: es) X.env = (false, eval e X.env) :: starEach es X.env := by rfl) (hpl : (backTo pos (starEach es X.env)).any (·.1) = false := by rfl) :
    PE X (.Call (.Name x p) (e :: es) [] pos) (tCall sp dvs E t) :=
  ⟨fun pins s σ H Q I h => wpAny_Call_Name_kw (ld_glob I hg hm (PySem.W.callWith_K (h₀ := X.base) I.ok.mod.kin hk
    (thn (ha.run pos pins s σ H _ I h) fun us s1 ⟨vs, H1, I1, r, q⟩ => ⟨I1.kIn, goG F hgd hr hb hd hx I1 r q⟩) he hpl) hdb)⟩
end
end Vx
namespace Vx
open PySem PySem.Spec PyProof.Rows L2
abbrev S := SX.S

theorem foldl_app (l : List (List Nat)) : ∀ acc : Array Nat, (l.map List.toArray).foldl (· ++ ·) acc = (acc.toList ++ l.flatten).toArray := by
  induction l with
  | nil => intro acc; simp
  | cons x r ih => intro acc; rw [List.map_cons, List.foldl_cons, ih]; simp
def repN (n : Nat) (a : List Nat) : List Nat := (List.replicate n a).flatten
theorem repN_zero (a : List Nat) : repN 0 a = [] := rfl
theorem repN_succ (n : Nat) (a : List Nat) : repN (n + 1) a = a ++ repN n a := by unfold repN; rw [List.replicate_succ, List.flatten_cons]
theorem repN_length (n : Nat) (a : List Nat) : (repN n a).length = n * a.length := by
  induction n with
  | zero => simp [repN]
  | succ n ih => rw [repN_succ, List.length_append, ih, Nat.succ_mul]; omega
theorem repN_one (a : List Nat) : repN 1 a = a := by rw [repN_succ, repN_zero, List.append_nil]
theorem repN_nil (n : Nat) : repN n [] = [] := by
  induction n with
  | zero => rfl
  | succ n ih => rw [repN_succ, ih]; rfl
theorem mem_repN {n : Nat} {a : List Nat} {c : Nat} (h : c ∈ repN n a) : c ∈ a := by
  induction n with
  | zero => simp [repN] at h
  | succ n ih =>
    rw [repN_succ] at h
    rcases List.mem_append.mp h with h | h
    · exact h
    · exact ih h
theorem mul_S (a : List Nat) (n : Nat) : (⟨(List.replicate n (S a).cps).foldl (· ++ ·) #[]⟩ : Str) = S (repN n a) := by
  have e : (List.replicate n (S a).cps) = (List.replicate n a).map List.toArray := by rw [List.map_replicate]
  rw [e, foldl_app]; rfl

section
variable {X : Cx}
/-- text * n -/
theorem op_rep_str : OpR X (binaryOp .Mult) (fun x y H Q => ∃ (a : List Nat) (i : Int), x = .str (S a) ∧ y = .int i ∧ i < 2 ^ 40 ∧ -(2 ^ 40) < i ∧ i.toNat * a.length ≤ 1000000 ∧ Q (.str (S (repN i.toNat a))) H) := by
  intro pins s σ H x y v u Q I rx ry h
  obtain ⟨a, i, rfl, rfl, h1, h2, h3, q⟩ := h
  obtain ⟨t, rfl⟩ := rx
  obtain ⟨t', rfl⟩ := ry
  have hl : (S a).length = a.length := SX.S_len a
  refine PySem.P.mul_str ?_ ?_ ?_ ?_
  · rw [decide_eq_false (by omega), decide_eq_false (by omega)]; first | done | rfl
  · intro hn _ hc
    have hp : 0 < i := by omega
    have : ((S a).length : Int) * i ≤ 1000000 := by
      rw [hl]
      have e : (i.toNat : Int) = i := Int.toNat_of_nonneg (by omega)
      have : ((i.toNat * a.length : Nat) : Int) ≤ 1000000 := by omega
      rw [Int.natCast_mul, e, Int.mul_comm] at this
      exact this
    have h4 : ((S a).length : Int) ≤ (2 ^ 63 - 1) / i := by
      rw [Int.le_ediv_iff_mul_le hp]
      omega
    omega
  · intro _ _
    unfold Builtin.Str.tooLong
    rw [hl, Nat.mul_comm]
    exact decide_eq_false (by unfold sizeLine; omega)
  · by_cases c1 : i < 1
    · rw [if_pos c1]
      have e : i.toNat = 0 := by omega
      rw [e, repN_zero] at q
      exact ⟨by decide, .str _, H, I.tok _, ⟨_, rfl⟩, q⟩
    · rw [if_neg c1]
      by_cases c2 : (i == 1 || (S a).length == 0) = true
      · rw [if_pos c2]
        have e : repN i.toNat a = a := by
          rcases Bool.or_eq_true _ _ ▸ c2 with c | c
          · have : i = 1 := by simpa using c
            rw [this]; exact repN_one a
          · have : a.length = 0 := by rw [hl] at c; simpa using c
            have : a = [] := List.length_eq_zero_iff.mp this
            rw [this]; exact repN_nil _
        rw [e] at q
        exact ⟨.str _, H, I, ⟨t, rfl⟩, q⟩
      · rw [if_neg c2, mul_S]
        refine ⟨?_, .str _, H, I.tok _, ⟨_, rfl⟩, q⟩
        show (S _).length ≤ sizeLine
        rw [SX.S_len, repN_length]; unfold sizeLine; omega
end

/-- one sign each -/
def sg (a : List Nat) : List V := a.map fun c => V.str (S [c])
theorem sg_length (a : List Nat) : (sg a).length = a.length := List.length_map ..
theorem vals_signs {a : List Nat} {acc : Array Value} (h : ItemsOf (SignAt (S a)) acc (S a).cps.size) : Vals (sg a) acc.toList := by
  refine vals_of_at ?_ fun j x u hx hu => ?_
  · have e : acc.toList.length = acc.size := Array.length_toList ..
    rw [sg_length, e, h.1]; exact (SX.S_len a).symm
  · rw [Array.getElem?_toList] at hu
    obtain ⟨c, t, hc, rfl⟩ := h.2 j u hu
    have hc' : a[j]? = some c := by
      have : (S a).cps[j]? = a[j]? := List.getElem?_toArray ..
      rw [← this]; exact hc
    unfold sg at hx
    rw [List.getElem?_map, hc'] at hx
    cases hx
    exact ⟨t, rfl⟩
section
variable {X : Cx}
/-- text[::-1] -/
def tRevS (te : TE) : TE := fun σ H Q => te σ H fun x H1 => ∃ a : List Nat, x = .str (S a) ∧ a.length ≤ sizeLine ∧ Q (.str (S a.reverse)) H1
theorem pe_revS {e : Expr} {te : TE} {k : Nat} {p1 p2 p3 pos : Pos} (he : PE X e te) : PE X (.Subscript e (.Slice none none (some (.UnaryOp .USub (.Constant (.int 1) k p1) p2)) p3) pos) (tRevS te) := by
  constructor
  intro pins s σ H Q I h
  apply Subscript_
  refine thn (he.run pins s σ H _ I h) ?_
  rintro v s1 ⟨x, H1, I1, r1, a, ex, hz, q⟩
  subst ex
  obtain ⟨t, rfl⟩ := r1
  have minus : PO X (some (.UnaryOp .USub (.Constant (.int 1) k p1) p2)) (tPart (tUn (rU fun i => .int (-i)) (tC (.int 1)))) := po_some (pe_un un_neg pe_int)
  apply wpAny_Slice
  refine thn (po_none.run pins s1 σ H1 (fun o H2 => o = none ∧ H2 = H1) I1 ⟨rfl, rfl⟩) ?_
  rintro vl s2 ⟨l, H2, I2, pl, el, e2⟩
  subst el e2
  refine thn (po_none.run pins s2 σ H2 (fun o H3 => o = none ∧ H3 = H2) I2 ⟨rfl, rfl⟩) ?_
  rintro vu s3 ⟨u, H3, I3, pu, eu, e3⟩
  subst eu e3
  refine thn (minus.run pins s3 σ H3 (fun o H4 => o = some (-1) ∧ H4 = H3) I3 ⟨1, rfl, -1, rfl, rfl, rfl⟩) ?_
  rintro vs s4 ⟨o, H4, I4, ps, eo, e4⟩
  subst eo e4
  have I5 : Inv X pins σ H4 { s4 with heap := s4.heap.push { cls := .type "slice", data := .fields #[vl, vu, vs] } } := I4.kept (t' := s4.toks) fun b ob z => Heap.get?_push_of_some _ z
  refine tail_any (ops := [.str (S a) t, .ref s4.heap.objs.size]) (typeIs_str _ _ _) F.slot_str_getitem.lookup ?_ (by with_unfolding_all rfl)
  obtain ⟨l, rfl, el⟩ := IsPart.raw pl
  obtain ⟨u, rfl, eu⟩ := IsPart.raw pu
  obtain ⟨w', rfl, ew⟩ := IsPart.raw ps
  have hl : l = none := by cases l with | none => rfl | some z => cases el
  have hu : u = none := by cases u with | none => rfl | some z => cases eu
  obtain ⟨tk, rfl⟩ : ∃ tk, w' = some (-1, tk) := by
    cases w' with
    | none => cases ew
    | some z => obtain ⟨z1, z2⟩ := z; cases ew; exact ⟨z2, rfl⟩
  subst hl hu
  refine wpAny_getItem_str_slice (l := none) (u := none) (st := some (-1, tk)) ⟨_, Heap.get?_push_size _ rfl, rfl, rfl⟩ (by rfl) ?_
  have hp : slicePicked (S a) none none (some (-1, tk)) = (List.range a.length).reverse := by
    unfold slicePicked
    rw [SX.S_len, ← PySem.W.krv_range, ← PySem.W.krv_sliceRange]
    rfl
  have hr : ((slicePicked (S a) none none (some (-1, tk))).filterMap ((S a).cps[·]?)).toArray = a.reverse.toArray := by
    rw [hp, List.filterMap_reverse]
    have e := PySem.W.krv_all a.toArray
    rw [List.size_toArray] at e
    have e' : (List.range a.length).filterMap (fun x => (S a).cps[x]?) = a := e
    rw [e']
  unfold sliceMade
  have hne : ((Option.map (fun x : Int × Tok => x.fst) (some (-1, tk))).getD 1 == 1 && (slicePicked (S a) none none (some (-1, tk))).length == (S a).length) = false := by
    rw [show ((Option.map (fun x : Int × Tok => x.fst) (some (-1, tk))).getD 1 == 1) = false from rfl, Bool.false_and]
  rw [if_neg (by rw [hne]; exact Bool.false_ne_true), hr]
  refine ⟨?_, .str _, H4, I5.tok _, ⟨_, rfl⟩, q⟩
  show (S a.reverse).length ≤ sizeLine
  rw [SX.S_len, List.length_reverse]; exact hz

/-- list(text) -/
theorem call_list_tx (hc : X.calm = true) : CallR X (.type "list") (fun xs H Q => ∃ a : List Nat, xs = [.str (S a)] ∧ a.length ≤ 100000 ∧ ∀ l, H l = none → Q (.ref l) (upd H l (.lst (sg a)))) := by
  intro pins s σ H xs us Q I r h
  obtain ⟨a, rfl, hz, q⟩ := h
  obtain ⟨u, rfl, rx⟩ := vals1 r
  obtain ⟨t, rfl⟩ := rx
  have hs : (S a).cps.size = a.length := SX.S_len a
  refine PySem.call_list_str (I.ok.hd hc) (S a) t (fun h' tk acc c' kp e it => ?_) (by rw [hs]; unfold sizeLine; omega)
  refine ⟨.ref s.heap.objs.size, _, I.laid (t' := tk) kp (Nat.le_refl _) (show ObjOk X.prog X.w _ h' _ (.lst (sg a)) from ⟨by rw [sg_length]; unfold sizeLine; omega, acc.toList, c', vals_signs it, ?_⟩), rfl, q _ (I.hok.fresh (Nat.le_refl _))⟩
  rw [Array.toArray_toList]; exact e
end
section
variable {prog : Program} {w : World} {A : Around} {E : Value → Shared → Prop} {s : Shared}
theorem code_tuple_tx {Q₁ : Value → Shared → Prop} (hh : A.handled = none) (x : Str) (t : Tok) (hn : x.cps.size ≤ 100000)
    (h : ∀ (s' : Shared) (acc : Array Value), (∀ b o, s.heap.get? b = some o → s'.heap.get? b = some o) → s'.gens = s.gens → s'.drawn = s.drawn → s'.os = s.os → ItemsOf (SignAt x) acc x.cps.size →
      Q₁ (.ref s'.heap.objs.size) { s' with heap := s'.heap.push { cls := .type "tuple", data := .seq acc } }) :
    codeAny (model prog w) A (.call (.builtin "tuple.__new__") ⟨[.type "tuple", .str x t], []⟩) (wants Q₁ E) s := by
  apply codeAny_of_tree
  show wpAny _ A.in1 (do checkBuiltinCall "tuple.__new__" ⟨[.type "tuple", .str x t], []⟩; again (.builtin "tuple.__new__" ⟨[.type "tuple", .str x t], []⟩)) _ _ s
  refine wpAny_bind (wpAny_of_eq (F.newCall_tuple_1 _) (wpAny_pure ⟨plainId_quiet F.plain_tuple_new _, codeAny_builtin F.entry_tuple_new ?_⟩))
  rw [Around.under_plainId F.plain_tuple_new _]
  have k1 := sub_tuple_self
  have k2 := init_tuple_lookup
  have k3 := madeHere_tuple
  have k4 : s.TypeIs (.str x t) "str" := typeIs_str s x t
  have k5 : A.in1.handled = none := hh
  have k6 : x.cps.size ≤ sizeLine := by unfold sizeLine; omega
  wp_walk using wpAny_typeOf k4, wpAny_collect_str (A := A.in1) k5 x t
  intro s' acc hk hg hd ho hacc
  show wpAny _ _ (Builtin.Tuple.tupleExact acc.toList.toArray >>= fun v => ret v) _ _ _
  unfold Builtin.Tuple.tupleExact
  have ea : acc.toList.toArray = acc := by simp
  rw [ea]
  refine wpAny_bind (wpAny_newObj_type ?_ (by show acc.size ≤ sizeLine; rw [hacc.1]; exact k6))
  exact wpAny_pure (h s' acc hk hg hd ho hacc)
theorem call_tuple_txt {Q : Value → Shared → Prop} (hh : A.handled = none) (x : Str) (t : Tok) (hn : x.cps.size ≤ 100000)
    (hQ : ∀ (s' : Shared) (acc : Array Value), (∀ b o, s.heap.get? b = some o → s'.heap.get? b = some o) → s'.gens = s.gens → s'.drawn = s.drawn → s'.os = s.os → ItemsOf (SignAt x) acc x.cps.size →
      Q (.ref s'.heap.objs.size) { s' with heap := s'.heap.push { cls := .type "tuple", data := .seq acc } }) :
    wpAny (model prog w) A (call (.type "tuple") [.str x t]) Q E s := by
  refine callType_codes (Q₁ := fun obj s₁ => s₁.TypeIs obj "tuple" ∧ Q obj s₁) F.called_tuple (F.typeCall_tuple_1 _) F.entry_object_init
    (code_tuple_tx (A := A.in1) hh x t hn fun s' acc hk hg hd ho hacc => ⟨⟨_, Heap.get?_push_size _ rfl, rfl⟩, hQ s' acc hk hg hd ho hacc⟩) fun obj s₁ h₁ => ?_
  exact ⟨h₁.1, F.args_object_init_2 obj _, object_init_meets F.called_tuple.init.lookup F.called_tuple.made (by decide) prog w A.in1 _ s₁ ⟨h₁.1, rfl, h₁.2⟩⟩
end
section
variable {X : Cx}
theorem call_tuple_tx (hc : X.calm = true) : CallR X (.type "tuple") (fun xs H Q => ∃ a : List Nat, xs = [.str (S a)] ∧ a.length ≤ 100000 ∧ ∀ l, H l = none → Q (.ref l) (upd H l (.tup (sg a)))) := by
  intro pins s σ H xs us Q I r h
  obtain ⟨a, rfl, hz, q⟩ := h
  obtain ⟨u, rfl, rx⟩ := vals1 r
  obtain ⟨t, rfl⟩ := rx
  have hs : (S a).cps.size = a.length := SX.S_len a
  refine call_tuple_txt (I.ok.hd hc) (S a) t (by rw [hs]; exact hz) fun s' acc kp hg hd ho it => ?_
  obtain ⟨h', g', d', t', o'⟩ := s'
  obtain rfl : g' = s.gens := hg
  obtain rfl : d' = s.drawn := hd
  obtain rfl : o' = s.os := ho
  have I2 : Inv X pins σ H { s with heap := h', toks := t' } := I.kept kp
  refine ⟨.ref h'.objs.size, upd H h'.objs.size (.tup (sg a)), I2.laid (t' := t') (fun c o e => Heap.get?_push_of_some _ e) (Nat.le_refl _) (show ObjOk X.prog X.w _ _ _ (.tup (sg a)) from ⟨by rw [sg_length]; unfold sizeLine; omega, acc.toList, vals_signs it, ?_⟩), rfl, q _ (I2.hok.fresh (Nat.le_refl _))⟩
  rw [Array.toArray_toList]; exact IsTup.new _ _
end
end Vx
namespace Vx
open PySem PySem.Spec PyProof.Rows L2
/-! repr of data at any depth, with dicts -/
mutual
inductive Dx (K : PySem.W.Frag) (H : Hp) : V → PyData → Prop
  | non : Dx K H .non .none
  | bl (b : Bool) : Dx K H (.bl b) (.bool b)
  | int (i : Int) : Dx K H (.int i) (.int i)
  | str (x : Str) : Dx K H (.str x) (.str x)
  | lst {a : Addr} {xs : List V} {ds : List PyData} : H a = some (.lst xs) → a ≠ sysModules → DxAll K H xs ds → Dx K H (.ref a) (.list ds)
  | tup {a : Addr} {xs : List V} {ds : List PyData} : SqT K H a xs → DxAll K H xs ds → Dx K H (.ref a) (.tuple ds)
  | dic {a : Addr} {kvs : List (Key × V)} {ds : List (PyData × PyData)} : H a = some (.dK kvs) → DxAll K H (kvs.map fun p => kV p.1) (ds.map (·.1)) → DxAll K H (kvs.map (·.2)) (ds.map (·.2)) → Dx K H (.ref a) (.dict ds)
inductive DxAll (K : PySem.W.Frag) (H : Hp) : List V → List PyData → Prop
  | nil : DxAll K H [] []
  | cons {v : V} {vs : List V} {d : PyData} {ds : List PyData} : Dx K H v d → DxAll K H vs ds → DxAll K H (v :: vs) (d :: ds)
end
theorem pair_keys {P : Program} {w : World} : ∀ {es : List DictEntry} {kvs : List (Key × V)} {vs : List (Key × Value)}, KV kvs vs → Pairs (mixKind P w) es vs → Vals (kvs.map fun p => kV p.1) (es.map (·.key)) ∧ Vals (kvs.map (·.2)) (es.map (·.val))
  | _, _, _, .nil, p => by cases p; exact ⟨.nil, .nil⟩
  | _, _, _, .cons r t, p => by
    cases p with
    | cons h1 h2 h3 =>
      obtain ⟨a, b⟩ := pair_keys t h3
      refine ⟨.cons ?_ a, .cons ?_ b⟩
      · dsimp only; rw [r.1]; exact keyIs_rel h1
      · dsimp only; rw [h2]; exact r.2
section
variable {X : Cx} {pins : List (Addr × Obj)} {σ : L2.St} {H : Hp} {s : Shared}
mutual
theorem Dx.reads (I : Inv X pins σ H s) : ∀ (d : PyData) (v : V) (u : Value), Dx X.K H v d → RelV v u → ∃ as, Reads s.heap u d as ∧ sysModules ∉ as
  | .none, _, _, h, r => by cases h; cases r; exact ⟨_, Reads.none, by simp⟩
  | .bool b, _, _, h, r => by cases h; cases r; exact ⟨_, Reads.bool b, by simp⟩
  | .int i, _, _, h, r => by cases h; obtain ⟨t, rfl⟩ := r; exact ⟨_, Reads.int i t, by simp⟩
  | .str x, _, _, h, r => by cases h; obtain ⟨t, rfl⟩ := r; exact ⟨_, Reads.str x t, by simp⟩
  | .list ds, _, _, h, r => by
    cases h with
    | lst hs hne ha =>
      cases r
      obtain ⟨its, rv, ⟨o, n, ho, hc, _, hd⟩, _⟩ := I.list (SqL.of hs)
      obtain ⟨as, hr, hn⟩ := Dx.readsAll I ds _ its ha rv
      refine ⟨_, Reads.list ho hc hd hr, fun z => ?_⟩
      rcases List.mem_cons.mp z with z | z
      · exact hne z.symm
      · exact hn z
  | .tuple ds, _, _, h, r => by
    cases h with
    | tup hs ha =>
      cases r
      obtain ⟨its, rv, ⟨o, ho, hc, n, hd⟩, _⟩ := I.tuple hs
      obtain ⟨as, hr, hn⟩ := Dx.readsAll I ds _ its ha rv
      exact ⟨_, Reads.tuple ho hc hd hr, hn⟩
  | .dict ds, _, _, h, r => by
    cases h with
    | dic hs ha hb =>
      cases r
      obtain ⟨_, hS, vs, kv, o, es, ep, ho, hx, hd, _, hp, _⟩ := dk_of I.hok hs
      obtain ⟨rk, rvv⟩ := pair_keys kv hp
      obtain ⟨as, hr, hn⟩ := Dx.readsKeys I ds _ _ ha rk
      obtain ⟨bs, hr2, hn2⟩ := Dx.readsVals I ds _ _ hb rvv
      refine ⟨_, Reads.dict ho hx.1 hd hr hr2, fun z => ?_⟩
      rcases List.mem_append.mp z with z | z
      · rcases List.mem_cons.mp z with z | z
        · exact absurd z.symm (by simpa using hS)
        · exact hn z
      · exact hn2 z
theorem Dx.readsAll (I : Inv X pins σ H s) : ∀ (ds : List PyData) (vs : List V) (us : List Value), DxAll X.K H vs ds → Vals vs us → ∃ as, ReadsAll s.heap us ds as ∧ sysModules ∉ as
  | [], _, _, h, r => by cases h; cases r; exact ⟨_, ReadsAll.nil, by simp⟩
  | d :: ds, _, _, h, r => by
    cases h with
    | cons a1 a2 =>
      cases r with
      | cons r1 r2 =>
        obtain ⟨as, q1, n1⟩ := Dx.reads I d _ _ a1 r1
        obtain ⟨bs, q2, n2⟩ := Dx.readsAll I ds _ _ a2 r2
        refine ⟨_, ReadsAll.cons q1 q2, fun z => ?_⟩
        rcases List.mem_append.mp z with z | z
        · exact n1 z
        · exact n2 z
theorem Dx.readsKeys (I : Inv X pins σ H s) : ∀ (ds : List (PyData × PyData)) (vs : List V) (us : List Value), DxAll X.K H vs (ds.map (·.1)) → Vals vs us → ∃ as, ReadsAll s.heap us (ds.map (·.1)) as ∧ sysModules ∉ as
  | [], _, _, h, r => by cases h; cases r; exact ⟨_, ReadsAll.nil, by simp⟩
  | (d, _) :: ds, _, _, h, r => by
    cases h with
    | cons a1 a2 =>
      cases r with
      | cons r1 r2 =>
        obtain ⟨as, q1, n1⟩ := Dx.reads I d _ _ a1 r1
        obtain ⟨bs, q2, n2⟩ := Dx.readsKeys I ds _ _ a2 r2
        refine ⟨_, ReadsAll.cons q1 q2, fun z => ?_⟩
        rcases List.mem_append.mp z with z | z
        · exact n1 z
        · exact n2 z
theorem Dx.readsVals (I : Inv X pins σ H s) : ∀ (ds : List (PyData × PyData)) (vs : List V) (us : List Value), DxAll X.K H vs (ds.map (·.2)) → Vals vs us → ∃ as, ReadsAll s.heap us (ds.map (·.2)) as ∧ sysModules ∉ as
  | [], _, _, h, r => by cases h; cases r; exact ⟨_, ReadsAll.nil, by simp⟩
  | (_, d) :: ds, _, _, h, r => by
    cases h with
    | cons a1 a2 =>
      cases r with
      | cons r1 r2 =>
        obtain ⟨as, q1, n1⟩ := Dx.reads I d _ _ a1 r1
        obtain ⟨bs, q2, n2⟩ := Dx.readsVals I ds _ _ a2 r2
        refine ⟨_, ReadsAll.cons q1 q2, fun z => ?_⟩
        rcases List.mem_append.mp z with z | z
        · exact n1 z
        · exact n2 z
end
end
/-- repr(x) -/
def rRepr (K : PySem.W.Frag) : List V → Hp → VK → Prop := fun xs H Q => ∃ x d, xs = [x] ∧ Dx K H x d ∧ d.showable = true ∧ d.shown.length ≤ sizeLine ∧ d.depth ≤ 50 ∧ Q (.str d.shown) H
theorem call_reprX {X : Cx} (hg : X.A.guards = some []) (hu : X.A.units + 64 < cLine) : CallR X (.builtin "repr") (rRepr X.K) := by
  intro pins s σ H xs us Q I r h
  obtain ⟨x, d, rfl, hd, hs, hz, hp, q⟩ := h
  obtain ⟨u, rfl, rx⟩ := vals1 r
  obtain ⟨as, hr, hn⟩ := Dx.reads I d x u hd rx
  cases hd with
  | non => cases rx; exact PySem.P.repr_of_none ⟨.str _, H, I.tok _, ⟨_, rfl⟩, by simpa only [PyData.shown] using q⟩
  | bl b => cases rx; exact PySem.P.repr_of_bool ⟨.str _, H, I.tok _, ⟨_, rfl⟩, by simpa only [PyData.shown] using q⟩
  | int i => obtain ⟨t, rfl⟩ := rx; exact PySem.P.repr_of_int (by simpa [PyData.showable] using hs) ⟨.str _, H, I.tok _, ⟨_, rfl⟩, by simpa only [PyData.shown] using q⟩
  | str y => obtain ⟨t, rfl⟩ := rx; exact PySem.P.repr_of_str ⟨.str _, H, I.tok _, ⟨_, rfl⟩, by simpa only [PyData.shown] using q⟩ (by simpa only [PyData.shown] using hz)
  | lst _ _ _ => cases rx; exact repr_of_reads' hr hs (fun _ => hn) hg (by omega) (fun _ _ e => e) (fun h' u tk hk => ⟨.str _, H, I.kept (t' := tk) hk, ⟨_, rfl⟩, q⟩) hz
  | tup _ _ => cases rx; exact repr_of_reads' hr hs (fun _ => hn) hg (by omega) (fun _ _ e => e) (fun h' u tk hk => ⟨.str _, H, I.kept (t' := tk) hk, ⟨_, rfl⟩, q⟩) hz
  | dic _ _ _ => cases rx; exact repr_of_reads' hr hs (fun _ => hn) hg (by omega) (fun _ _ e => e) (fun h' u tk hk => ⟨.str _, H, I.kept (t' := tk) hk, ⟨_, rfl⟩, q⟩) hz

section
variable {X : Cx} {es : List Expr} {pos : Pos} {t : TA}
theorem big_ne {pins : List (Addr × Obj)} {σ : L2.St} {H : Hp} {s : Shared} (I : Inv X pins σ H s) : s.heap.objs.size ≠ sysModules := Nat.ne_of_gt I.big
/-- a new list, its place told apart from the module table's -/
def tLst1 (t : TA) : TE := fun σ H Q => t σ H fun xs H1 => xs.length ≤ sizeLine ∧ ∀ p, H1 p = none → p ≠ sysModules → Q (.ref p) (upd H1 p (.lst xs))
theorem pe_lst1 (h : PA X es t) : PE X (.List es pos) (tLst1 t) := by
  constructor
  intro pins s σ H Q I hq
  apply wpAny_List_spliced
  refine thn (h.run pos pins s σ H _ I hq) ?_
  rintro us s1 ⟨xs, H1, I1, r, z, q⟩
  refine ⟨by rw [← r.length]; exact z, ?_⟩
  have fresh : H1 s1.heap.objs.size = none := I1.hok.fresh (Nat.le_refl _)
  exact ⟨.ref s1.heap.objs.size, upd H1 s1.heap.objs.size (.lst xs), I1.laid (t' := s1.toks) (fun b u e => Heap.get?_push_of_some _ e) (Nat.le_refl _) ⟨z, us, 0, r, Heap.get?_push_size _ rfl⟩, rfl, q _ fresh (big_ne I1)⟩
def rCat1 : R2 := fun x y H Q => ∃ l b xs zs, x = .ref l ∧ y = .ref b ∧ H l = some (.lst xs) ∧ H b = some (.lst zs) ∧ xs.length + zs.length ≤ sizeLine ∧ ∀ p, H p = none → p ≠ sysModules → Q (.ref p) (upd H p (.lst (xs ++ zs)))
theorem op_cat1 : OpR X (binaryOp .Add) rCat1 := by
  intro pins s σ H x y v u Q I rx ry h
  obtain ⟨l, b, xs, zs, rfl, rfl, h1, h2, hz, q⟩ := h
  cases rx
  cases ry
  obtain ⟨z1, its1, n1, r1, k1, e1⟩ := I.lstM h1
  obtain ⟨z2, its2, n2, r2, k2, e2⟩ := I.lstM h2
  refine PySem.P.add_list e1 e2 ?_ (by simp only [List.size_toArray]; omega)
  rw [show its1.toArray ++ its2.toArray = (its1 ++ its2).toArray by simp]
  exact ⟨.ref _, _, I.lnew (t' := s.toks) (r1.append r2) (by rw [List.length_append]; exact hz), rfl, q _ I.fresh (big_ne I)⟩
theorem call_list_tx1 (hc : X.calm = true) : CallR X (.type "list") (fun xs H Q => ∃ a : List Nat, xs = [.str (S a)] ∧ a.length ≤ 100000 ∧ ∀ l, H l = none → l ≠ sysModules → Q (.ref l) (upd H l (.lst (sg a)))) := by
  intro pins s σ H xs us Q I r h
  obtain ⟨a, rfl, hz, q⟩ := h
  obtain ⟨u, rfl, rx⟩ := vals1 r
  obtain ⟨t, rfl⟩ := rx
  have hs : (S a).cps.size = a.length := SX.S_len a
  refine PySem.call_list_str (I.ok.hd hc) (S a) t (fun h' tk acc c' kp e it => ?_) (by rw [hs]; unfold sizeLine; omega)
  refine ⟨.ref s.heap.objs.size, _, I.laid (t' := tk) kp (Nat.le_refl _) (show ObjOk X.prog X.w _ h' _ (.lst (sg a)) from ⟨by rw [sg_length]; unfold sizeLine; omega, acc.toList, c', vals_signs it, ?_⟩), rfl, q _ (I.hok.fresh (Nat.le_refl _)) (big_ne I)⟩
  rw [Array.toArray_toList]; exact e
end

/-! the law's call, the guards told -/
theorem lawG {P : Program} {w : World} {K : PySem.W.Frag} {mg mb : Str → Option Value} {CX : CXT} {k : Nat} {fa a : Addr} {fd : FuncData} {x : Str} {sp : Sp} {s₁ : Shared} {vs : List Value} {ns : List Int}
    (inK : K.In s₁.heap) (glob : s₁.heap.Ns mainGlobals mg) (blt : s₁.heap.Ns builtinsNs mb) (boot : ∀ x : Str, x ≠ "__name__" → mb x = bootBuiltins x) (unlim : s₁.heap.NoLimit) (nogen : s₁.gens = #[])
    (stands : s₁.heap.get? a = some { cls := .type "list", data := .seq vs.toArray }) (isInts : IntsAre vs ns) (short : ns.length ≤ sizeLine) (room : Room k callerA)
    (F : ∀ base : Heap, K.In base → base.Ns mainGlobals mg → FnG P w K mg base CX k fa fd [x] sp) (binds : ∀ (s : Shared) (u : Value), BindsTo s fd ⟨[u], []⟩ [(x, u)])
    (asked : ∀ H : Hp, SqL K H a (ns.map V.int) → sp [.ref a] H (fun v _ => v = .bl true) fun _ _ _ => False)
    (calm : ∀ H e s', CX [] H s₁ (fun _ _ _ => False) e s' → False) :
    codeAny (model P w) callerA (.call (.ref fa) ⟨[.ref a], []⟩) (fun r s' => r = .ok (.ret (.bool true)) ∧ OldK s₁.heap s'.heap ∧ s'.os = s₁.os ∧ AllBare s'.gens) s₁ := by
  have rel := vals_ints isInts
  have many := isInts.length
  have main : ∀ H : Hp, (∀ b, H b = none ∨ ∃ o xs, H b = some (.frz o (.lst xs))) → SqL K H a (ns.map V.int) → HOk P w H s₁.heap → (∀ b, H b ≠ none → b = a) → (H a ≠ none → K.lookup a = none) →
      codeAny (model P w) callerA (.call (.ref fa) ⟨[.ref a], []⟩) (fun r s' => r = .ok (.ret (.bool true)) ∧ OldK s₁.heap s'.heap ∧ s'.os = s₁.os ∧ AllBare s'.gens) s₁ := by
    intro H locked seq ok onlyA notK
    have keepD : ∀ {b : Addr} {o : Obj} {es : Array DictEntry} {ep : Nat}, s₁.heap.get? b = some o → o.data = .dict es ep → H b = none := by
      intro b o es ep e d
      by_cases q : H b = none
      · exact q
      · have e' := onlyA b q
        subst e'
        rw [stands] at e
        cases e
        exact nomatch (show Data.seq vs.toArray _ = Data.dict es ep from d)
    have keepN : ∀ {b : Addr} {m : Str → Option Value}, s₁.heap.Ns b m → (hidT s₁.heap H).Ns b m := by
      rintro b m ⟨o, es, ep, e, d, rest⟩
      exact ⟨o, es, ep, hidT_get e (keepD e d), d, rest⟩
    have keepK : K.In (hidT s₁.heap H) := by
      intro b o e
      refine hidT_get (inK b o e) ?_
      by_cases q : H b = none
      · exact q
      · have e' := onlyA b q
        subst e'
        rw [notK q] at e
        cases e
    have modul : Mod K mg (hidT s₁.heap H) := by
      refine ⟨keepK, keepN glob, ⟨mb, keepN blt, boot⟩, ?_⟩
      obtain ⟨mc, h1, h2⟩ := unlim
      exact ⟨mc, keepN h1, h2⟩
    have e0 : Env0 P w K mg (hidT s₁.heap H) callerA [] s₁ H :=
      ⟨rfl, modul, fun b o e => of_hidT e, Nat.le_of_eq (hidT_size _ _), trivial, fun b hb => (nomatch (show b ∈ ([] : List Addr) from hb)), ok, .of_eq nogen⟩
    refine codeAny_mono ((F _ keepK (keepN glob)).run callerA [] s₁ H ⟨[.ref a], []⟩ [.ref a] [.ref a] _ _ rfl room e0 (binds s₁ (.ref a)) (.cons rfl .nil) (asked H seq)) ?_
    intro r s' ended
    rcases r with er | fl
    · exact (calm H er s' ended).elim
    · cases fl with
      | next => exact (show False from ended).elim
      | brk => exact (show False from ended).elim
      | cont => exact (show False from ended).elim
      | ret u =>
        obtain ⟨v, H', os, bare, un, ok', r', q⟩ := ended
        obtain rfl : v = .bl true := q
        obtain rfl : u = Value.bool true := r'
        refine ⟨rfl, OldK.of_keep ?_, os, bare⟩
        intro b o e
        rcases locked b with z | ⟨ob, xs, z⟩
        · exact un.keep b o e z (fun y => nomatch (show b ∈ ([] : List Addr) from y)) (fun y => nomatch y)
        · obtain ⟨e1, _⟩ := ok b _ z
          obtain ⟨e2, _⟩ := ok' b _ (un.frzs b ob _ z)
          rw [e] at e1
          cases e1
          exact e2
  by_cases hk : ∃ o, K.lookup a = some o
  · obtain ⟨o, hk⟩ := hk
    have e := inK a o hk
    rw [stands] at e
    cases e
    exact main (fun _ => none) (fun _ => Or.inl rfl) (Or.inr ⟨_, vs.toArray, _, hk, rfl, rfl, rfl, by rw [List.size_toArray, many]; exact short, by simpa using rel⟩) (fun b u z => nomatch (show (none : Option HO) = some u from z)) (fun b z => absurd rfl z) (fun z => absurd rfl z)
  · have hn : K.lookup a = none := by
      cases q : K.lookup a with
      | none => rfl
      | some o => exact absurd ⟨o, q⟩ hk
    refine main (fun b => if b = a then some (.frz { cls := .type "list", data := .seq vs.toArray } (.lst (ns.map V.int))) else none) (fun b => ?_) (Or.inl (Or.inr ⟨_, if_pos rfl⟩)) (fun b u z => ?_) (fun b z => ?_) (fun _ => hn)
    · by_cases e : b = a
      · exact Or.inr ⟨_, _, if_pos e⟩
      · exact Or.inl (if_neg e)
    · by_cases e : b = a
      · have z' : some _ = some u := (if_pos e).symm.trans z
        cases z'
        subst e
        exact ⟨stands, by rw [List.length_map]; exact short, vs, _, rel, stands⟩
      · exact nomatch (if_neg e).symm.trans z
    · by_cases e : b = a
      · exact e
      · exact absurd (if_neg e) z
theorem walkG {l : PySem.W.OpenLaw} {n k : Nat} {q : Program} {loose : List Str} {XP : (Str → Option Value) → Heap → Prop} {YP : World → Heap → Prop} {d : DefRec} {K : Params → PySem.W.Frag} {CX : World → CXT} {sp : World → Sp} {x : Str}
    (most : l.most = some n) (n2 : n ≤ sizeLine) (plain : d.params.defaults = []) (room : Room k callerA) (hY : ∀ (w : World) (h : Heap), YP w h → (K w.params).In h)
    (F : ∀ (w : World) (mg : Str → Option Value) (fa : Addr) (h : Heap), (K w.params).In h → h.Ns mainGlobals mg → mg d.name = some (.ref fa) →
      ∃ fd : FuncData, (∀ (s : Shared) (u : Value), BindsTo s fd ⟨[u], []⟩ [(x, u)]) ∧ ∀ base : Heap, (K w.params).In base → base.Ns mainGlobals mg → FnG l.prog w (K w.params) mg base (CX w) k fa fd [x] (sp w))
    (asked : ∀ (w : World) (H : Hp) (a : Addr) (ns : List Int), ns.length ≤ n → SqL (K w.params) H a (ns.map V.int) → sp w [.ref a] H (fun v _ => v = .bl true) fun _ _ _ => False)
    (calm : ∀ (w : World) (H : Hp) (s : Shared) (e : Value) (s' : Shared), CX w [] H s (fun _ _ _ => False) e s' → False) :
    PySem.W.WalkO q loose XP YP l.row.toRowW d [] (fun f vs => PySem.call f vs) := by
  apply Att.attach_call most plain
  intro w s₀ s₁ mg mb fa o pm cd doc a vs ns G Y ho hd hcd hmg hobj hints hlen hg
  have inK := hY w _ Y
  obtain ⟨fd, hb, hF⟩ := F w mg fa _ inK G.T.g hmg
  exact lawG inK G.T.g G.T.b G.T.builtins G.T.nolimit hg hobj hints (Nat.le_trans hlen n2) room hF hb (fun H hS => asked w H a ns hlen hS) fun H e s' => calm w H s₁ e s'
end Vx
namespace Vx
open PySem PySem.Spec PyProof.Rows L2
/-! how often a sign stands in a text -/
theorem at_one {a : List Nat} {c i : Nat} : StrLaws.At (S a) (S [c]) (S a).length i ↔ a[i]? = some c := StrLaws.subAt_one (S a) c i
theorem count_gap {a : List Nat} {c : Nat} : ∀ (n i : Nat), (∀ k, i ≤ k → k < i + n → a[k]? ≠ some c) → (a.drop i).count c = (a.drop (i + n)).count c
  | 0, _, _ => rfl
  | n + 1, i, h => by
    have h1 := count_gap n (i + 1) fun k h1 h2 => h k (by omega) (by omega)
    rw [show i + (n + 1) = i + 1 + n by omega, ← h1]
    by_cases hi : i < a.length
    · rw [List.drop_eq_getElem_cons hi, List.count_cons]
      have e := h i (Nat.le_refl _) (by omega)
      rw [List.getElem?_eq_getElem hi] at e
      have : (a[i] == c) = false := by simpa using fun z => e (by rw [z])
      rw [this]; simp
    · rw [List.drop_eq_nil_of_le (by omega), List.drop_eq_nil_of_le (by omega)]
theorem count_hit {a : List Nat} {c i : Nat} (h : a[i]? = some c) : (a.drop i).count c = (a.drop (i + 1)).count c + 1 := by
  obtain ⟨hi, e⟩ := List.getElem?_eq_some_iff.mp h
  rw [List.drop_eq_getElem_cons hi, e, List.count_cons_self]
theorem chain_count {a : List Nat} {c : Nat} : ∀ (cuts : List Nat) (i f : Nat), StrLaws.ChainG (S a) (S [c]) (S a).length i cuts f → (∀ k, f ≤ k → ¬ StrLaws.At (S a) (S [c]) (S a).length k) → cuts.length = (a.drop i).count c
  | [], i, f, h, hn => by
    have e : f = i := h
    subst e
    have h1 := count_gap (a := a) (c := c) a.length f fun k h1 _ z => hn k h1 (at_one.mpr z)
    rw [h1, List.drop_eq_nil_of_le (by omega)]; rfl
  | x :: r, i, f, h, hn => by
    have h1 : i ≤ x := h.1
    have ih := chain_count r (x + 1) f h.2.2.2 hn
    have g := count_gap (a := a) (c := c) (x - i) i fun k a1 a2 z => h.2.2.1 k a1 (by omega) (at_one.mpr z)
    rw [show i + (x - i) = x by omega] at g
    rw [g, count_hit (at_one.mp h.2.1), ← ih]; rfl
theorem count_S (a : List Nat) (c : Nat) : Txt.count (S a) (S [c]) = (a.count c : Int) := by
  obtain ⟨f, h, hn⟩ := StrLaws.occ_tight (S a) (S [c]) (Nat.le_refl 1)
  have e := chain_count _ 0 f h hn
  unfold Txt.count
  rw [e]; rfl
/-- a row of at most 200 letters -/
def abs (a : List Nat) : Bool := a.all fun c => c == 97 || c == 98
def rowB (a : List Nat) : Bool := decide (a.length ≤ 200) && abs a
theorem count_ab (a : List Nat) : a.count 97 + a.count 98 ≤ a.length ∧ (a.count 97 + a.count 98 = a.length ↔ abs a = true) := by
  induction a with
  | nil => exact ⟨Nat.le_refl _, by simp [abs]⟩
  | cons x r ih =>
    unfold abs at ih ⊢
    rw [List.all_cons, List.count_cons, List.count_cons, List.length_cons]
    obtain ⟨h1, h2⟩ := ih
    by_cases hx : x = 97
    · subst hx; simp only [beq_self_eq_true, if_true, Bool.true_or, Bool.true_and, show ((97 : Nat) == 98) = false from rfl]
      constructor
      · simp; omega
      · rw [← h2]; simp; omega
    · by_cases hy : x = 98
      · subst hy; simp only [beq_self_eq_true, if_true, Bool.or_true, Bool.true_and, show ((98 : Nat) == 97) = false from rfl]
        constructor
        · simp; omega
        · rw [← h2]; simp; omega
      · have e1 : (x == 97) = false := by simpa using hx
        have e2 : (x == 98) = false := by simpa using hy
        rw [e1, e2]
        constructor
        · simp; omega
        · simp; omega
theorem ab_sum (a : List Nat) : decide ((a.count 97 : Int) + (a.count 98 : Int) = (a.length : Int)) = abs a := by
  have h := (count_ab a).2
  cases e : abs a
  · refine decide_eq_false fun z => ?_
    have : a.count 97 + a.count 98 = a.length := by omega
    rw [h.mp this] at e; cases e
  · exact decide_eq_true (by have := h.mpr e; omega)
theorem cutS_to (a : List Nat) (n : Nat) : cutS (S a) none (some (n : Int)) = S (a.take n) := by
  unfold cutS
  rw [show HT.sIx (S a).length 0 none = 0 from HT.sIx_none .., show HT.sIx (S a).length (S a).length (some (n : Int)) = min n (S a).length from HT.sIx_nat .., SX.S_len]
  show S ((a.drop 0).take (min n a.length - 0)) = _
  rw [List.drop_zero, Nat.sub_zero]
  congr 1
  by_cases h : n ≤ a.length
  · rw [Nat.min_eq_left h]
  · rw [Nat.min_eq_right (by omega), List.take_of_length_le (Nat.le_refl _), List.take_of_length_le (by omega)]
theorem cutS_from (a : List Nat) (n : Nat) : cutS (S a) (some (n : Int)) none = S (a.drop n) := by
  unfold cutS
  rw [show HT.sIx (S a).length (S a).length none = (S a).length from HT.sIx_none .., show HT.sIx (S a).length 0 (some (n : Int)) = min n (S a).length from HT.sIx_nat .., SX.S_len]
  show S ((a.drop (min n a.length)).take (a.length - min n a.length)) = _
  congr 1
  by_cases h : n ≤ a.length
  · rw [Nat.min_eq_left h, List.take_of_length_le (by rw [List.length_drop]; exact Nat.le_refl _)]
  · rw [Nat.min_eq_right (by omega), Nat.sub_self, List.take_zero, List.drop_eq_nil_of_le (by omega)]
end Vx
namespace Vx
open PySem PySem.Spec PyProof.Rows L2
/-! what stays but one object -/
def Keep (r : Addr) (H H' : Hp) : Prop := ∀ b o, b ≠ r → H b = some o → H' b = some o
theorem Keep.refl {r : Addr} (H : Hp) : Keep r H H := fun _ _ _ h => h
theorem Keep.trans {r : Addr} {H H1 H2 : Hp} (a : Keep r H H1) (b : Keep r H1 H2) : Keep r H H2 := fun c o n h => b c o n (a c o n h)
theorem Keep.of {r : Addr} {H H' : Hp} (a : Same H H') : Keep r H H' := fun c o _ h => a c o h
theorem Keep.new {r p : Addr} {H H1 : Hp} {o : HO} (k : Keep r H H1) (h : H1 p = none) : Keep r H (upd H1 p o) := fun c u n e => by
  have e1 := k c u n e
  rw [upd_ne (ne_of_none e1 h)]; exact e1
theorem Keep.put {r : Addr} {H H1 : Hp} {o : HO} (k : Keep r H H1) : Keep r H (upd H1 r o) := fun c u n e => by
  rw [upd_ne n]; exact k c u n e
theorem same_new {H : Hp} {p : Addr} {o : HO} (h : H p = none) : Same H (upd H p o) := fun b x e => by
  rw [upd_ne (ne_of_none e h)]; exact e
theorem Same.new {H H1 : Hp} {p : Addr} {o : HO} (k : Same H H1) (h : H1 p = none) : Same H (upd H1 p o) := k.trans (same_new h)
/-- an object that H does not know may change -/
theorem Same.mut {H H1 : Hp} {p : Addr} {o : HO} (k : Same H H1) (h : H p = none) : Same H (upd H1 p o) := fun b x e => by
  rw [upd_ne (ne_of_none e h)]; exact k b x e
theorem Keep.seq {K : PySem.W.Frag} {r a : Addr} {H H' : Hp} {xs : List V} (k : Keep r H H') (hr : ∃ ys, H r = some (.lst ys)) (hs : SqL K H a xs) (hf : a ≠ r) : SqL K H' a xs := by
  rcases hs with (h | ⟨o, h⟩) | h
  · exact .inl (.inl (k _ _ hf h))
  · exact .inl (.inr ⟨o, k _ _ hf h⟩)
  · exact .inr h
theorem Keep.none {r p : Addr} {H H' : Hp} (k : Keep r H H') (hn : p ≠ r) (h : H' p = Option.none) : H p = Option.none := by
  cases q : H p with
  | none => rfl
  | some o => rw [k p o hn q] at h; cases h
/-! data of ints and texts -/
theorem dp_ints {K : PySem.W.Frag} {H : Hp} : ∀ ns : List Int, DpAll K H (ns.map V.int) (ns.map PyData.int)
  | [] => .nil
  | n :: r => .cons (.int n) (dp_ints r)
theorem can_ints : ∀ ns : List Int, PyData.canLayAll0 (ns.map PyData.int) = true
  | [] => by simp [PyData.canLayAll0]
  | n :: r => by simp [PyData.canLayAll0, PyData.canLay0, can_ints r]
theorem depth_ints : ∀ ns : List Int, PyData.depthAll (ns.map PyData.int) = 0
  | [] => by simp [PyData.depthAll]
  | n :: r => by simp [PyData.depthAll, PyData.depth, depth_ints r]
theorem shaped_ints (ns : List Int) : SeqAt.shaped (.list (ns.map PyData.int)) = true := by
  simp [SeqAt.shaped, PyData.canLay0, PyData.depth, can_ints, depth_ints]
theorem shaped_nil : SeqAt.shaped (.list []) = true := shaped_ints []
theorem eqv_nil : ∀ ds : List PyData, PyData.eqv (.list ds) (.list []) = ds.isEmpty
  | [] => by simp [PyData.eqv, PyData.eqvAll]
  | d :: r => by simp [PyData.eqv, PyData.eqvAll]
/-! the drawing reel of the laws -/
structure ReelAt (H : Hp) (r g c : Addr) (gs cs : List Int) (n st : Int) : Prop where
  at_r : H r = some (.lst [.ref g, .ref c, .int n, .int st])
  ne_g : g ≠ r
  ne_c : c ≠ r
  at_g : H g = some (.lst (gs.map V.int))
  at_c : H c = some (.lst (cs.map V.int))
  len_g : gs.length ≤ 60
  pos_g : ∀ x ∈ gs, 0 ≤ x
  len_c : 1 ≤ cs.length ∧ cs.length ≤ 60
  lo : 0 ≤ st
  hi : st < 2 ^ 127
def Reel (H : Hp) (r : Addr) : Prop := ∃ g c gs cs n st, ReelAt H r g c gs cs n st
theorem Reel.mono {H H' : Hp} {r : Addr} (R : Reel H r) (s : Same H H') : Reel H' r := by
  obtain ⟨g, c, gs, cs, n, st, R⟩ := R
  exact ⟨g, c, gs, cs, n, st, { R with at_r := s _ _ R.at_r, at_g := s _ _ R.at_g, at_c := s _ _ R.at_c }⟩
theorem Reel.is {H : Hp} {r : Addr} (R : Reel H r) : ∃ xs, H r = some (.lst xs) := by
  obtain ⟨g, c, gs, cs, n, st, R⟩ := R
  exact ⟨_, R.at_r⟩
/-- an object that is none of the reel's -/
def Off (H : Hp) (r D : Addr) : Prop := ∀ g c x y, H r = some (.lst [.ref g, .ref c, x, y]) → D ≠ g ∧ D ≠ c
/-- all that is none of the reel's stays, and stays apart from it -/
structure Step (r : Addr) (H H' : Hp) : Prop where
  keep : Keep r H H'
  sep : ∀ D, (∃ o, H D = some o) → D ≠ r → Off H r D → Off H' r D
theorem Step.refl {r : Addr} (H : Hp) : Step r H H := ⟨.refl H, fun _ _ _ h => h⟩
theorem Step.trans {r : Addr} {H H1 H2 : Hp} (a : Step r H H1) (b : Step r H1 H2) : Step r H H2 :=
  ⟨a.keep.trans b.keep, fun D ⟨o, e⟩ n h => b.sep D ⟨o, a.keep D o n e⟩ n (a.sep D ⟨o, e⟩ n h)⟩
theorem Step.same {r : Addr} {H H' : Hp} (R : Reel H r) (s : Same H H') : Step r H H' := by
  obtain ⟨xs, e⟩ := R.is
  exact ⟨.of s, fun D _ _ h g c x y e2 => h g c x y (by rw [s _ _ e] at e2; rw [e]; exact e2)⟩
/-- an object that was made since may change -/
theorem Step.mut {r p : Addr} {H H1 : Hp} {o : HO} (a : Step r H H1) (h : H p = none) (n : p ≠ r) : Step r H (upd H1 p o) :=
  ⟨fun c u nc e => by rw [upd_ne (ne_of_none e h)]; exact a.keep c u nc e, fun D hD nD hO g c x y e => a.sep D hD nD hO g c x y (by rw [upd_ne n.symm] at e; exact e)⟩
theorem Off.new {H : Hp} {r D : Addr} (R : Reel H r) (n : H D = none) : Off H r D := by
  obtain ⟨g, c, gs, cs, n', st, R⟩ := R
  intro g2 c2 x y e
  rw [R.at_r] at e
  cases e
  exact ⟨(fun z => by rw [z, R.at_g] at n; cases n), (fun z => by rw [z, R.at_c] at n; cases n)⟩
theorem Off.upd {H : Hp} {r D p : Addr} {o : HO} (h : Off H r D) (n : p ≠ r) : Off (L2.upd H p o) r D := fun g c x y e => h g c x y (by rw [upd_ne n.symm] at e; exact e)
theorem Reel.upd {H : Hp} {r D : Addr} {o : HO} (R : Reel H r) (n : D ≠ r) (h : Off H r D) : Reel (L2.upd H D o) r := by
  obtain ⟨g, c, gs, cs, n', st, R⟩ := R
  obtain ⟨h1, h2⟩ := h g c _ _ R.at_r
  exact ⟨g, c, gs, cs, n', st, { R with at_r := by rw [upd_ne n.symm]; exact R.at_r, at_g := by rw [upd_ne h1.symm]; exact R.at_g, at_c := by rw [upd_ne h2.symm]; exact R.at_c }⟩
theorem Reel.ne {H : Hp} {r D : Addr} (R : Reel H r) (n : H D = none) : D ≠ r := by
  obtain ⟨xs, hx⟩ := R.is
  exact (ne_of_none hx n).symm
/-- a draw: an int below the bound; all else stays -/
def spDraw : Sp := fun vs H Q _ => ∃ (r : Addr) (m : Int), vs = [.ref r, .int m] ∧ Reel H r ∧ 1 ≤ m ∧ m.natAbs < 2 ^ 8000 ∧ ∀ (d : Int) (H' : Hp), 0 ≤ d → d < m → Step r H H' → Reel H' r → Q (.int d) H'
/-- a new reel from the script -/
def spReel (K : PySem.W.Frag) : Sp := fun vs H Q _ => ∃ (a : Addr) (ns : List Int), vs = [.ref a] ∧ SqL K H a (ns.map V.int) ∧ ns.length ≤ 63 ∧ ∀ (r : Addr) (H' : Hp), Same H H' → H r = none → Reel H' r → Q (.ref r) H'
/-- a text of a and b with low to high letters -/
def spWord : Sp := fun vs H Q _ => ∃ (r : Addr) (lo hi : Int), vs = [.ref r, .int lo, .int hi] ∧ Reel H r ∧ 0 ≤ lo ∧ lo ≤ hi ∧ hi ≤ 300 ∧
  ∀ (a : List Nat) (H' : Hp), lo ≤ (a.length : Int) → (a.length : Int) ≤ hi → abs a = true → Step r H H' → Reel H' r → Q (.str (S a)) H'
theorem bits127 {x : Int} (h0 : 0 ≤ x) (h : x < 2 ^ 127) : x.natAbs < 2 ^ 127 := by omega

theorem cut_to (xs : List V) (n : Nat) : cutV xs none (some (n : Int)) = xs.take n := by
  unfold cutV
  rw [HT.sIx_none, show HT.sIx xs.length xs.length (some (n : Int)) = min n xs.length from HT.sIx_nat ..]
  show (xs.drop 0).take (min n xs.length - 0) = _
  rw [List.drop_zero, Nat.sub_zero]
  by_cases h : n ≤ xs.length
  · rw [Nat.min_eq_left h]
  · rw [Nat.min_eq_right (by omega), List.take_of_length_le (Nat.le_refl _), List.take_of_length_le (by omega)]
theorem cut_from (xs : List V) (n : Nat) : cutV xs (some (n : Int)) none = xs.drop n := by
  unfold cutV
  rw [HT.sIx_none, show HT.sIx xs.length 0 (some (n : Int)) = min n xs.length from HT.sIx_nat ..]
  by_cases h : n ≤ xs.length
  · rw [Nat.min_eq_left h, List.take_of_length_le (by rw [List.length_drop]; exact Nat.le_refl _)]
  · rw [Nat.min_eq_right (by omega), Nat.sub_self, List.take_zero, List.drop_eq_nil_of_le (by omega)]

theorem bigM_pos : (0 : Int) < 2 ^ (64 : Int).toNat * 2 ^ (63 : Int).toNat - 1 := by decide
theorem bigM_le : (2 ^ (64 : Int).toNat * 2 ^ (63 : Int).toNat - 1 : Int) ≤ 2 ^ 127 := by decide

/-! texts by their codes -/
def cutL (a : List Nat) (lo hi : Option Int) : List Nat := (cutS (S a) lo hi).cps.toList
theorem cutL_to (a : List Nat) (n : Nat) : cutL a none (some (n : Int)) = a.take n := by unfold cutL; rw [cutS_to]
theorem cutL_from (a : List Nat) (n : Nat) : cutL a (some (n : Int)) none = a.drop n := by unfold cutL; rw [cutS_from]
theorem cutL_length (a : List Nat) (lo hi : Option Int) : (cutL a lo hi).length ≤ a.length := by
  have h := cutS_length (S a) lo hi
  rw [SX.S_len] at h
  exact h
section
variable {X : Cx}
def rAddT : R2 := fun x y H Q => ∃ a b : List Nat, x = .str (S a) ∧ y = .str (S b) ∧ a.length + b.length ≤ 1000000 ∧ Q (.str (S (a ++ b))) H
theorem op_add_tx : OpR X (binaryOp .Add) rAddT := by
  intro pins s σ H x y v u Q I rx ry h
  obtain ⟨a, b, rfl, rfl, hz, q⟩ := h
  refine op_add_str pins s σ H _ _ v u Q I rx ry ⟨S a, S b, rfl, rfl, ?_, ?_⟩
  · rw [SX.S_len, SX.S_len]; unfold sizeLine; omega
  · rw [SX.S_cat]; exact q
def rSlT2 : V → Option Int → Option Int → Hp → VK → Prop := fun x lo hi H Q => ∃ a : List Nat, x = .str (S a) ∧ a.length ≤ 1000000 ∧ Q (.str (S (cutL a lo hi))) H
theorem sl_tx : SlR X rSlT2 := by
  intro pins s σ H x v vl vu lo hi sl Q I rx hs pl pu h
  obtain ⟨a, rfl, hz, q⟩ := h
  refine sl_str pins s σ H _ v vl vu lo hi sl Q I rx hs pl pu ⟨S a, rfl, ?_, ?_⟩
  · rw [SX.S_len]; unfold sizeLine; omega
  · have e : S (cutL a lo hi) = cutS (S a) lo hi := SX.S_tl _
    rw [← e]; exact q
theorem call_len_tx : CallR X (.builtin "len") (fun xs H Q => ∃ a : List Nat, xs = [.str (S a)] ∧ a.length ≤ 1000000 ∧ Q (.int a.length) H) := by
  intro pins s σ H xs us Q I r h
  obtain ⟨a, rfl, hz, q⟩ := h
  refine call_len_str pins s σ H _ us Q I r ⟨S a, rfl, ?_, ?_⟩
  · rw [SX.S_len]; unfold sizeLine; omega
  · rw [SX.S_len]; exact q
theorem mt_count_tx : MtR X "str.count" (fun x xs H Q => ∃ (a : List Nat) (c : Nat), x = .str (S a) ∧ xs = [.str (S [c])] ∧ Q (.int (a.count c)) H) := by
  intro pins s σ H x xs v us Q I rx rs h
  obtain ⟨a, c, rfl, rfl, q⟩ := h
  refine mt_count pins s σ H _ _ v us Q I rx rs ⟨S a, S [c], rfl, rfl, ?_⟩
  rw [count_S]; exact q
def rIxT2 : R2 := fun x y H Q => ∃ (a : List Nat) (i : Nat) (c : Nat), x = .str (S a) ∧ y = .int (i : Int) ∧ a.length ≤ 1000000 ∧ a[i]? = some c ∧ Q (.str (S [c])) H
theorem ix_tx : IxR X rIxT2 := by
  intro value slice pins s σ H x y v u Q I rx ry h hs
  obtain ⟨a, i, c, rfl, rfl, hz, hc, q⟩ := h
  exact ix_str value slice pins s σ H _ _ v u Q I rx ry ⟨S a, i, c, rfl, rfl, by rw [SX.S_len]; unfold sizeLine; omega, atI_nat hc, q⟩ hs
end
theorem b8000 {m : Int} (h : m.natAbs < 2 ^ 300) : m.natAbs < 2 ^ 8000 := Nat.lt_of_lt_of_le h (Nat.pow_le_pow_right (by decide) (by decide))
theorem b8k {m : Int} (h0 : 0 ≤ m) (h : m < 2 ^ 250) : m.natAbs < 2 ^ 8000 := Nat.lt_of_lt_of_le (show m.natAbs < 2 ^ 250 by omega) (Nat.pow_le_pow_right (by decide) (by decide))
theorem joinL_nil : ∀ ps : List (List Nat), TL.joinL [] ps = ps.flatten
  | [] => rfl
  | [p] => by simp [TL.joinL]
  | p :: q :: r => by
    have ih := joinL_nil (q :: r)
    rw [TL.joinL, ih]; simp
theorem abs_append (a b : List Nat) : abs (a ++ b) = (abs a && abs b) := by unfold abs; rw [List.all_append]
theorem abs_take {a : List Nat} (h : abs a = true) (n : Nat) : abs (a.take n) = true := by
  unfold abs at *
  exact List.all_eq_true.mpr fun x hx => List.all_eq_true.mp h x (List.mem_of_mem_take hx)
theorem abs_drop {a : List Nat} (h : abs a = true) (n : Nat) : abs (a.drop n) = true := by
  unfold abs at *
  exact List.all_eq_true.mpr fun x hx => List.all_eq_true.mp h x (List.mem_of_mem_drop hx)
theorem abs_rep {a : List Nat} (h : abs a = true) (n : Nat) : abs (repN n a) = true := by
  unfold abs at *
  exact List.all_eq_true.mpr fun x hx => List.all_eq_true.mp h x (mem_repN hx)
theorem abs_reverse (a : List Nat) : abs a.reverse = abs a := by unfold abs; rw [List.all_reverse]
theorem abs_flatten {ps : List (List Nat)} (h : ∀ p ∈ ps, abs p = true) : abs ps.flatten = true := by
  unfold abs at *
  refine List.all_eq_true.mpr fun x hx => ?_
  obtain ⟨p, hp, hx⟩ := List.mem_flatten.mp hx
  exact List.all_eq_true.mp (h p hp) x hx
theorem abs_get {a : List Nat} (h : abs a = true) {i c : Nat} (e : a[i]? = some c) : abs [c] = true := by
  unfold abs at *
  have := List.all_eq_true.mp h c (List.mem_of_getElem? e)
  simp only [List.all_cons, List.all_nil, Bool.and_true]; exact this
theorem len_flatten1 {ps : List (List Nat)} (h : ∀ p ∈ ps, p.length = 1) : ps.flatten.length = ps.length := by
  induction ps with
  | nil => rfl
  | cons p r ih =>
    rw [List.flatten_cons, List.length_append, ih fun q hq => h q (List.mem_cons_of_mem _ hq), h p List.mem_cons_self, List.length_cons]; omega

/-! data that can be shown -/
structure Fine (K : PySem.W.Frag) (H : Hp) (x : V) (d : PyData) : Prop where
  dx : Dx K H x d
  sh : d.showable = true
  lv : d.leavesShort 100 = true
  dp : d.depth ≤ 10
  wt : d.weight ≤ 4100
/-- no text -/
def NoStr (K : PySem.W.Frag) (H : Hp) (x : V) : Prop := ∃ t, TyX K H x t ∧ PySem.W.kitOne K t (.type "str") = some false
theorem noStr_ty {K : PySem.W.Frag} {H : Hp} {x : V} {T : String} (h : TyOf K H x (.type T)) (e : kitB T "str" = some false) : NoStr K H x := ⟨_, .base h, kit_ty e⟩
inductive Fines (K : PySem.W.Frag) (H : Hp) : List V → List PyData → Prop
  | nil : Fines K H [] []
  | cons {x : V} {d : PyData} {xs : List V} {ds : List PyData} : Fine K H x d → Fines K H xs ds → Fines K H (x :: xs) (d :: ds)
theorem Fines.append {K : PySem.W.Frag} {H : Hp} : ∀ {xs ys : List V} {ds es : List PyData}, Fines K H xs ds → Fines K H ys es → Fines K H (xs ++ ys) (ds ++ es)
  | _, _, _, _, .nil, b => b
  | _, _, _, _, .cons x a, b => .cons x (Fines.append a b)
theorem Fines.all {K : PySem.W.Frag} {H : Hp} : ∀ {xs : List V} {ds : List PyData}, Fines K H xs ds →
    DxAll K H xs ds ∧ PyData.showableAll ds = true ∧ PyData.leavesShortAll 100 ds = true ∧ PyData.depthAll ds ≤ 10 ∧ PyData.weightAll ds ≤ 4101 * xs.length
  | _, _, .nil => ⟨.nil, by simp [PyData.showableAll], by simp [PyData.leavesShortAll], by simp [PyData.depthAll], by simp [PyData.weightAll]⟩
  | _, _, .cons (x := x) (d := d) (xs := xs) (ds := ds) f r => by
    obtain ⟨h1, h2, h3, h4, h5⟩ := Fines.all r
    refine ⟨.cons f.dx h1, by simp [PyData.showableAll, f.sh, h2], by simp [PyData.leavesShortAll, f.lv, h3], ?_, ?_⟩
    · have := f.dp; simp only [PyData.depthAll]; omega
    · have := f.wt; simp only [PyData.weightAll, List.length_cons]; omega
mutual
theorem Dx.same {K : PySem.W.Frag} {H H' : Hp} (s : Same H H') : ∀ {d : PyData} {v : V}, Dx K H v d → Dx K H' v d
  | .none, _, h => by cases h; exact .non
  | .bool _, _, h => by cases h; exact .bl _
  | .int _, _, h => by cases h; exact .int _
  | .str _, _, h => by cases h; exact .str _
  | .list ds, _, h => by
    cases h with
    | lst a n r => exact .lst (s _ _ a) n (DxAll.same s r)
  | .tuple ds, _, h => by
    cases h with
    | tup a r => exact .tup (by
        rcases a with (a | ⟨o, a⟩) | a
        · exact .inl (.inl (s _ _ a))
        · exact .inl (.inr ⟨o, s _ _ a⟩)
        · exact .inr a) (DxAll.same s r)
  | .dict ds, _, h => by
    cases h with
    | dic a k v => exact .dic (s _ _ a) (DxKeys.same s k) (DxVals.same s v)
theorem DxAll.same {K : PySem.W.Frag} {H H' : Hp} (s : Same H H') : ∀ {ds : List PyData} {vs : List V}, DxAll K H vs ds → DxAll K H' vs ds
  | [], _, h => by cases h; exact .nil
  | d :: ds, _, h => by
    cases h with
    | cons a r => exact .cons (Dx.same s a) (DxAll.same s r)
theorem DxKeys.same {K : PySem.W.Frag} {H H' : Hp} (s : Same H H') : ∀ {ds : List (PyData × PyData)} {vs : List V}, DxAll K H vs (ds.map (·.1)) → DxAll K H' vs (ds.map (·.1))
  | [], _, h => by cases h; exact .nil
  | (d, _) :: ds, _, h => by
    cases h with
    | cons a r => exact .cons (Dx.same s a) (DxKeys.same s r)
theorem DxVals.same {K : PySem.W.Frag} {H H' : Hp} (s : Same H H') : ∀ {ds : List (PyData × PyData)} {vs : List V}, DxAll K H vs (ds.map (·.2)) → DxAll K H' vs (ds.map (·.2))
  | [], _, h => by cases h; exact .nil
  | (_, d) :: ds, _, h => by
    cases h with
    | cons a r => exact .cons (Dx.same s a) (DxVals.same s r)
end
theorem Fine.same {K : PySem.W.Frag} {H H' : Hp} {x : V} {d : PyData} (s : Same H H') (f : Fine K H x d) : Fine K H' x d := { f with dx := f.dx.same s }
theorem Fines.same {K : PySem.W.Frag} {H H' : Hp} (s : Same H H') : ∀ {xs : List V} {ds : List PyData}, Fines K H xs ds → Fines K H' xs ds
  | _, _, .nil => .nil
  | _, _, .cons f r => .cons (f.same s) (r.same s)
theorem fine_txt {K : PySem.W.Frag} {H : Hp} {a : List Nat} (h : ∀ c ∈ a, c < 1000) (hl : a.length ≤ 4100) : Fine K H (.str (S a)) (.str (S a)) := by
  refine ⟨.str _, by simp [PyData.showable], ?_, by simp [PyData.depth], ?_⟩
  · simp only [PyData.leavesShort, List.all_eq_true, decide_eq_true_eq]
    intro c hc
    have := h c hc
    have e : (16 : Nat) ^ 8 = 4294967296 := by decide
    omega
  · show (S a).cps.size ≤ 4100
    rw [show (S a).cps.size = a.length from SX.S_len a]; exact hl
theorem fine_signs {K : PySem.W.Frag} {H : Hp} : ∀ {a : List Nat}, (∀ c ∈ a, c < 1000) → ∃ ds, DxAll K H (sg a) ds ∧ PyData.showableAll ds = true ∧ PyData.leavesShortAll 100 ds = true ∧ PyData.depthAll ds = 0 ∧ PyData.weightAll ds = 2 * a.length
  | [], _ => ⟨[], .nil, by simp [PyData.showableAll], by simp [PyData.leavesShortAll], by simp [PyData.depthAll], by simp [PyData.weightAll]⟩
  | c :: r, h => by
    obtain ⟨ds, h1, h2, h3, h4, h5⟩ := fine_signs (K := K) (H := H) (a := r) fun x hx => h x (List.mem_cons_of_mem _ hx)
    have f := fine_txt (K := K) (H := H) (a := [c]) (fun x hx => h x (by rw [List.mem_singleton.mp hx]; exact List.mem_cons_self)) (by show 1 ≤ 4100; decide)
    refine ⟨.str (S [c]) :: ds, .cons f.dx h1, by simp [PyData.showableAll, f.sh, h2], by simp [PyData.leavesShortAll, f.lv, h3], by simp [PyData.depthAll, PyData.depth, h4], ?_⟩
    have e : (PyData.str (S [c])).weight = 1 := rfl
    simp only [PyData.weightAll, e, h5, List.length_cons]
    omega
theorem fine_lst {K : PySem.W.Frag} {H : Hp} {p : Addr} {xs : List V} {ds : List PyData} (e : H p = some (.lst xs)) (n : p ≠ sysModules) (h : DxAll K H xs ds) (s : PyData.showableAll ds = true) (l : PyData.leavesShortAll 100 ds = true) (d : PyData.depthAll ds ≤ 9) (w : PyData.weightAll ds ≤ 4099) :
    Fine K H (.ref p) (.list ds) := ⟨.lst e n h, by simpa [PyData.showable] using s, by simpa [PyData.leavesShort] using l, by simp only [PyData.depth]; omega, by simp only [PyData.weight]; omega⟩
theorem fine_tup {K : PySem.W.Frag} {H : Hp} {p : Addr} {xs : List V} {ds : List PyData} (e : H p = some (.tup xs)) (h : DxAll K H xs ds) (s : PyData.showableAll ds = true) (l : PyData.leavesShortAll 100 ds = true) (d : PyData.depthAll ds ≤ 9) (w : PyData.weightAll ds ≤ 4099) :
    Fine K H (.ref p) (.tuple ds) := ⟨.tup (SqT.of e) h, by simpa [PyData.showable] using s, by simpa [PyData.leavesShort] using l, by simp only [PyData.depth]; omega, by simp only [PyData.weight]; omega⟩
/-- what is no row -/
def BadRow (K : PySem.W.Frag) (H : Hp) (x : V) : Prop := (∃ a : List Nat, x = .str (S a) ∧ a.length ≤ 100000 ∧ rowB a = false) ∨ NoStr K H x
/-- a new list of values that are no rows -/
def spNoRows (K : PySem.W.Frag) : Sp := fun vs H Q _ => ∃ (r : Addr) (a : List Nat), vs = [.ref r, .str (S a)] ∧ Reel H r ∧ a.length ≤ 200 ∧ abs a = true ∧
  ∀ (b : Addr) (xs : List V) (ds : List PyData) (H' : Hp), Step r H H' → Reel H' r → H b = none → H' b = some (.lst xs) → b ≠ sysModules → Fines K H' xs ds → (∀ x ∈ xs, BadRow K H' x) → xs.length = 28 → Q (.ref b) H'

theorem abs_lt {a : List Nat} (h : abs a = true) : ∀ c ∈ a, c < 1000 := fun c hc => by
  have := List.all_eq_true.mp h c hc
  simp only [Bool.or_eq_true, beq_iff_eq] at this
  omega
theorem not_abs {a : List Nat} {c : Nat} (hc : c ∈ a) (h1 : c ≠ 97) (h2 : c ≠ 98) : rowB a = false := by
  unfold rowB
  cases e : abs a with
  | false => exact Bool.and_false _
  | true =>
    have := List.all_eq_true.mp e c hc
    simp only [Bool.or_eq_true, beq_iff_eq] at this
    omega
theorem rowB_long {a : List Nat} (h : 200 < a.length) : rowB a = false := by unfold rowB; rw [decide_eq_false (by omega), Bool.false_and]
def mix (a : List Nat) (j c : Nat) : List Nat := a.take j ++ [c] ++ a.drop (j + 1)
theorem mix_len (a : List Nat) (j c : Nat) (h : a.length ≤ 200) : (mix a j c).length ≤ 201 := by
  unfold mix; rw [List.length_append, List.length_append, List.length_take, List.length_drop]; show min j a.length + 1 + _ ≤ _; omega
theorem mix_lt {a : List Nat} (h : abs a = true) (j c : Nat) (hc : c < 1000) : ∀ x ∈ mix a j c, x < 1000 := by
  intro x hx
  unfold mix at hx
  rcases List.mem_append.mp hx with hx | hx
  · rcases List.mem_append.mp hx with hx | hx
    · exact abs_lt h x (List.mem_of_mem_take hx)
    · rw [List.mem_singleton.mp hx]; exact hc
  · exact abs_lt h x (List.mem_of_mem_drop hx)
theorem mix_mem (a : List Nat) (j c : Nat) : c ∈ mix a j c := List.mem_append_left _ (List.mem_append_right _ List.mem_cons_self)
theorem fines_mix {K : PySem.W.Frag} {H : Hp} {a : List Nat} (h : abs a = true) (hl : a.length ≤ 200) (j : Nat) : ∀ {cs : List Nat}, (∀ c ∈ cs, c < 1000) → Fines K H (cs.map fun c => V.str (S (mix a j c))) (cs.map fun c => PyData.str (S (mix a j c)))
  | [], _ => .nil
  | c :: r, hc => .cons (fine_txt (mix_lt h j c (hc c List.mem_cons_self)) (by have := mix_len a j c hl; omega)) (fines_mix h hl j fun x hx => hc x (List.mem_cons_of_mem _ hx))

/-- a comprehension over a text -/
theorem lc_txt {a : List Nat} {g : TG} {tt : TT} {te : TE} {vs : List Nat} {σ : L2.St} {H1 : Hp} {D : Addr} {Qd : Hp → Prop} (Pv : Nat → Hp → Prop) (h0 : Pv 0 (upd H1 D (.lst [])))
    (hs : ∀ i c H, a[i]? = some c → Pv i H → g (.str (S [c])) (wipe σ vs) H fun σ2 H2 => wipe σ2 vs = wipe σ vs ∧ tt σ2 H2 fun b H3 =>
      if b = true then te σ2 H3 fun y H4 => ∃ acc, H4 D = some (.lst acc) ∧ acc.length < sizeLine ∧ Pv (i + 1) (upd H4 D (.lst (acc ++ [y]))) else Pv (i + 1) H3) (hd : ∀ H, Pv a.length H → Qd H) :
    ∃ W : Nat → Nat → Hp → Prop, (∃ m, W 0 m (upd H1 D (.lst []))) ∧ ∀ i m H, W i m H →
      ((Its (S a)).stop i H ∧ Qd H) ∨ ((Its (S a)).go i H ∧ ∃ Nx : Hp → Prop, (∀ H', Nx H' → ∃ m', m' < m ∧ W (i + 1) m' H') ∧ ∀ x H', (Its (S a)).yld i H x H' → g x (wipe σ vs) H' fun σ2 H2 => wipe σ2 vs = wipe σ vs ∧ tt σ2 H2 fun b H3 =>
        if b = true then te σ2 H3 fun y H4 => ∃ acc, H4 D = some (.lst acc) ∧ acc.length < sizeLine ∧ Nx (upd H4 D (.lst (acc ++ [y]))) else Nx H3) := by
  refine ⟨fun i m H => m = a.length - i ∧ i ≤ a.length ∧ Pv i H, ⟨a.length, by omega, Nat.zero_le _, h0⟩, ?_⟩
  rintro i m H ⟨rfl, hi, p⟩
  have sz : (S a).cps.size = a.length := SX.S_len a
  by_cases hlt : i < a.length
  · refine .inr ⟨(show i < (S a).cps.size by omega), Pv (i + 1), fun H' p' => ⟨a.length - (i + 1), by omega, rfl, hlt, p'⟩, fun x H' y => ?_⟩
    obtain ⟨e, c, hc, ex⟩ := y
    subst e ex
    have hc' : a[i]? = some c := by
      have : (S a).cps[i]? = a[i]? := List.getElem?_toArray ..
      rw [← this]; exact hc
    exact hs i c _ hc' p
  · have e : i = a.length := by omega
    subst e
    exact .inl ⟨(show (S a).cps.size ≤ a.length by omega), hd _ p⟩
theorem ne_nil {K : PySem.W.Frag} {H : Hp} {D e : Addr} (h1 : H D = some (.lst [])) (h2 : H e = some (.lst [])) {Q : V → Prop} (q : Q (.bl false)) : ∃ d e', Dp K H (.ref D) d ∧ Dp K H (.ref e) e' ∧ SeqAt.shaped d = true ∧ SeqAt.shaped e' = true ∧ Q (.bl (!PyData.eqv d e')) :=
  ⟨.list [], .list [], .lst (SqL.of h1) .nil, .lst (SqL.of h2) .nil, shaped_nil, shaped_nil, by rw [eqv_nil]; exact q⟩
theorem rep_data {K : PySem.W.Frag} {H : Hp} {p : Addr} {xs : List V} {ds : List PyData} (e : H p = some (.lst xs)) (n : p ≠ sysModules) (f : Fines K H xs ds) (l : xs.length ≤ 60) :
    Dx K H (.ref p) (.list ds) ∧ (PyData.list ds).showable = true ∧ (PyData.list ds).leavesShort 100 = true ∧ (PyData.list ds).depth ≤ 11 ∧ (PyData.list ds).weight ≤ 4101 * xs.length := by
  obtain ⟨h1, h2, h3, h4, h5⟩ := f.all
  exact ⟨.lst e n h1, by simpa [PyData.showable] using h2, by simpa [PyData.leavesShort] using h3, by simp only [PyData.depth]; omega, by simp only [PyData.weight]; omega⟩
theorem rep_two {K : PySem.W.Frag} {H : Hp} {p q r : Addr} {xs ys : List V} {ds es : List PyData} (e : H p = some (.lst xs)) (n : p ≠ sysModules) (f : Fines K H xs ds) (l : xs.length ≤ 6) (e2 : H q = some (.lst ys)) (n2 : q ≠ sysModules) (f2 : Fines K H ys es) (l2 : ys.length ≤ 28)
    (e3 : H r = some (.lst [.ref p, .ref q])) (n3 : r ≠ sysModules) :
    Dx K H (.ref r) (.list [.list ds, .list es]) ∧ (PyData.list [.list ds, .list es]).showable = true ∧ (PyData.list [.list ds, .list es]).shown.length ≤ sizeLine ∧ (PyData.list [.list ds, .list es]).depth ≤ 50 := by
  obtain ⟨a1, a2, a3, a4, a5⟩ := rep_data e n f (by omega)
  obtain ⟨b1, b2, b3, b4, b5⟩ := rep_data e2 n2 f2 (by omega)
  refine ⟨.lst e3 n3 (.cons a1 (.cons b1 .nil)), ?_, ?_, ?_⟩
  · simp only [PyData.showable, PyData.showableAll] at a2 b2 ⊢
    rw [a2, b2]; rfl
  · have h := PyData.shown_le 100 (by decide) (.list [.list ds, .list es]) (by simp only [PyData.leavesShort, PyData.leavesShortAll] at a3 b3 ⊢; rw [a3, b3]; rfl)
    have hw : (PyData.list [.list ds, .list es]).weight = (PyData.list ds).weight + 1 + ((PyData.list es).weight + 1 + 0) := by simp only [PyData.weight, PyData.weightAll]
    rw [hw] at h
    unfold sizeLine
    omega
  · have hd : (PyData.list [.list ds, .list es]).depth = max (PyData.list ds).depth (max (PyData.list es).depth 0) + 1 := by simp only [PyData.depth, PyData.depthAll]
    rw [hd]; omega

theorem fines_txts {K : PySem.W.Frag} {H : Hp} : ∀ {gl : List (List Nat)}, (∀ g ∈ gl, abs g = true ∧ g.length ≤ 200) → Fines K H (gl.map fun g => V.str (S g)) (gl.map fun g => PyData.str (S g))
  | [], _ => .nil
  | g :: r, h => .cons (fine_txt (abs_lt (h g List.mem_cons_self).1) (by have := (h g List.mem_cons_self).2; omega)) (fines_txts fun x hx => h x (List.mem_cons_of_mem _ hx))
theorem rowB_of {g : List Nat} (h : abs g = true ∧ g.length ≤ 200) : rowB g = true := by unfold rowB; rw [decide_eq_true h.2, h.1]; rfl

theorem tyOf_same {K : PySem.W.Frag} {H H' : Hp} (s : Same H H') {x : V} {t : Value} (h : TyOf K H x t) : TyOf K H' x t := by
  cases h with
  | non => exact .non
  | bl x => exact .bl x
  | int i => exact .int i
  | str x => exact .str x
  | flt x => exact .flt x
  | lst e => exact .lst (s _ _ e)
  | frz e => exact .frz (s _ _ e)
  | tup e => exact .tup (s _ _ e)
  | dK e => exact .dK (s _ _ e)
  | dT e => exact .dT (s _ _ e)
  | ins e cl ha hn htk hm => exact .ins (s _ _ e) cl ha hn htk hm
theorem tyX_same {K : PySem.W.Frag} {H H' : Hp} (s : Same H H') {x : V} {t : Value} (h : TyX K H x t) : TyX K H' x t := by
  cases h with
  | base h => exact .base (tyOf_same s h)
  | byt b => exact .byt b
  | set e => exact .set (s _ _ e)
  | kList e c => exact .kList e c
  | kTuple e c => exact .kTuple e c
  | kDict e c => exact .kDict e c
  | fTuple e => exact .fTuple (s _ _ e)
  | fDict e => exact .fDict (s _ _ e)
theorem BadRow.same {K : PySem.W.Frag} {H H' : Hp} (s : Same H H') {x : V} (h : BadRow K H x) : BadRow K H' x := by
  rcases h with h | ⟨t, h1, h2⟩
  · exact .inl h
  · exact .inr ⟨t, tyX_same s h1, h2⟩
end Vx
namespace Vx
open PySem PySem.Spec PyProof.Rows L2
/-! zip of a list and a text -/
def Itlt (K : PySem.W.Frag) (a : Addr) (x : Str) : It :=
  ⟨fun i H => ∃ xs, SqL K H a xs ∧ i < xs.length ∧ i < x.cps.size,
    fun i H v H' => ∃ T y c, v = .ref T ∧ H T = none ∧ H' = upd H T (.tup [y, .str ⟨#[c]⟩]) ∧ (∀ xs, SqL K H a xs → xs[i]? = some y) ∧ x.cps[i]? = some c,
    fun i H => ∃ xs, SqL K H a xs ∧ i ≤ xs.length ∧ i ≤ x.cps.size ∧ (i = xs.length ∨ i = x.cps.size)⟩
theorem turn_zipLT {P : Program} {w : World} {K : PySem.W.Frag} {elts : List Expr} {kk : Nat} {tpos : Pos} {a z TI TO i1 i2 : Addr} {x : Str} {t : Tok} (S : ZipSep2 z TI TO i1 i2 [i1, a] [i2]) (ne : a ≠ i1) :
    Turn P w K (.Tuple elts kk tpos) (Itlt K a x) [z, TI, TO, i1, i2] z (fun i h => IsZip h z TI TO .none ∧ IsTupOf2 h TI (.ref i1) (.ref i2) ∧ (∃ u v, IsTupOf2 h TO u v) ∧ h.IsListIter i1 a i ∧ h.IsStrIter i2 (strIterType x) x t i) where
  mem := by simp
  obj := fun i h st c hc => by
    obtain ⟨hz, hTI, ⟨u, v, hTO⟩, ⟨o1, e1, _, d1⟩, ⟨o2, e2, _, d2⟩⟩ := st
    simp only [List.mem_cons, List.not_mem_nil, or_false] at hc
    rcases hc with rfl | rfl | rfl | rfl | rfl
    · exact ⟨_, hz, fun v q => nomatch q⟩
    · exact ⟨_, hTI, fun v q => nomatch q⟩
    · exact ⟨_, hTO, fun v q => nomatch q⟩
    · exact ⟨o1, e1, fun v q => by rw [d1] at q; cases q⟩
    · exact ⟨o2, e2, fun v q => by rw [d2] at q; cases q⟩
  keep := fun i h h' st k => by
    obtain ⟨hz, hTI, ⟨u, v, hTO⟩, h1, ⟨o2, e2, r2⟩⟩ := st
    exact ⟨k z (by simp) _ hz, k TI (by simp) _ hTI, ⟨u, v, k TO (by simp) _ hTO⟩, h1.at fun o q => k i1 (by simp) o q, ⟨o2, k i2 (by simp) o2 e2, r2⟩⟩
  item := by
    intro X hP hw hK hc i pins s σ H E I hf st hg
    subst hP hw hK
    obtain ⟨hz, hTI, ⟨u0, v0, hTO⟩, h1, h2⟩ := st
    obtain ⟨xs, hq, hi, hi2⟩ := hg
    obtain ⟨its, rv, p, _⟩ := I.list hq
    have many := rv.length
    have hzl : z < s.heap.objs.size := Heap.lt_size hz
    have calm : X.A.in1.handled = none := I.ok.hd hc
    refine wpAny_pyNext_zipD2_item S (Draws.list calm i1 a ne its.toArray) (Draws.text calm i2 x t) hz hTI hTO ⟨h1, p.isList⟩ h2 (by simp only [List.size_toArray]; omega) hi2 ?_
    rintro x1 x2 h' tk hx1 ⟨c, tc, hcx, rfl⟩ z' TO' ⟨h1', _⟩ h2' hT hsz hk
    refine ⟨_, rfl, wpAny_letOwnedTupleGo_zip (s := { s with heap := h', toks := tk }) z' fun h'' z'' sb => ?_⟩
    have gx : xs[i]? = some xs[i] := List.getElem?_eq_getElem hi
    obtain ⟨u, hu, ru⟩ := rv.get gx
    obtain rfl : x1 = u := by
      have e : its[i]? = some x1 := by simpa using hx1
      rw [hu] at e; exact (Option.some.inj e).symm
    have hT2 : h''.get? s.heap.objs.size = some { cls := .type "tuple", data := .seq #[x1, .str ⟨#[c]⟩ tc] } := (sb.2 _ (Nat.ne_of_gt hzl)).trans hT
    have new : ObjOk X.prog X.w (upd H s.heap.objs.size (.tup [xs[i], .str ⟨#[c]⟩])) h'' s.heap.objs.size (.tup [xs[i], .str ⟨#[c]⟩]) :=
      ⟨by show 2 ≤ sizeLine; decide, [x1, .str ⟨#[c]⟩ tc], .cons ru (.cons ⟨tc, rfl⟩ .nil), ⟨_, hT2, rfl, _, rfl⟩⟩
    have I1 : Inv X pins σ (upd H s.heap.objs.size (.tup [xs[i], .str ⟨#[c]⟩])) { s with heap := h'', toks := tk } :=
      I.turnedNew (t' := tk) (ch := [z, TI, TO, i1, i2]) (fun d o hb q => by
        simp only [List.mem_cons, List.not_mem_nil, or_false, not_or] at hb
        obtain ⟨b1, b2, b3, b4, b5⟩ := hb
        exact (sb.2 d b1).trans (hk d o b1 b3 b4 b5 q)) hf (Nat.le_refl _) new
    refine ⟨.ref s.heap.objs.size, _, I1, rfl, ⟨_, xs[i], c, rfl, I.hok.fresh (Nat.le_refl _), rfl, fun l hl => by rw [I.list_inj hl hq]; exact gx, hcx⟩, ⟨z'', ?_, ⟨x1, .str ⟨#[c]⟩ tc, ?_⟩, ?_, ?_⟩, fun d hd => ?_⟩
    · exact (sb.2 _ S.TIz).trans (hk _ _ S.TIz S.TITO S.TIi1 S.TIi2 hTI)
    · exact (sb.2 _ S.TOz).trans TO'
    · exact h1'.at fun o q => (sb.2 _ S.zi1.symm).trans q
    · obtain ⟨o2, e2, r2⟩ := h2'
      exact ⟨o2, (sb.2 _ S.zi2.symm).trans e2, r2⟩
    · have below : d < s.heap.objs.size := by
        simp only [List.mem_cons, List.not_mem_nil, or_false] at hd
        rcases hd with rfl | rfl | rfl | rfl | rfl
        · exact hzl
        · exact Heap.lt_size hTI
        · exact Heap.lt_size hTO
        · obtain ⟨_, e, _⟩ := h1; exact Heap.lt_size e
        · obtain ⟨_, e, _⟩ := h2; exact Heap.lt_size e
      rw [upd_ne (Nat.ne_of_lt below)]
      exact (hf d hd).1
  done := by
    intro X hP hw hK hc i pins s σ H E I hf st hg
    subst hP hw hK
    obtain ⟨hz, hTI, ⟨u0, v0, hTO⟩, h1, h2⟩ := st
    obtain ⟨xs, hq, l1, l2, hend⟩ := hg
    obtain ⟨its, rv, p, _⟩ := I.list hq
    have many := rv.length
    have calm : X.A.in1.handled = none := I.ok.hd hc
    refine wpAny_pyNext_zipD2_end S (Draws.list calm i1 a ne its.toArray) (Draws.text calm i2 x t) hz hTI hTO ⟨h1, p.isList⟩ h2 (by simp only [List.size_toArray]; omega) l2 (by simp only [List.size_toArray]; omega) ?_
    intro h' tk hk
    exact ⟨rfl, I.turnedL (t' := tk) (ch := [z, TI, TO, i1, i2]) (fun d o hb q => by
      simp only [List.mem_cons, List.not_mem_nil, or_false, not_or] at hb
      obtain ⟨b1, b2, b3, b4, b5⟩ := hb
      exact hk d o b1 b3 b4 b5 q) hf⟩
  self := fun A i s Q E st h => wpAny_pyIter_zip st.1 h
def iZipLT (K : PySem.W.Frag) (ta : TA) : TI := fun σ H R => ta σ H fun vs H1 => ∃ a xs x, vs = [.ref a, .str x] ∧ SqL K H1 a xs ∧ R (Itlt K a x) H1
theorem pi_zipLT {X : Cx} {e e2 : Expr} {ta : TA} {p pos tpos : Pos} {elts : List Expr} {kk : Nat} (hg : Gl X "zip") (hm : X.mg "zip" = none) (ha : PA X [e, e2] ta)
    (hs : starEach [e, e2] X.env = (false, eval e X.env) :: starEach [e2] X.env := by rfl) (hpl : (backTo pos (starEach [e2] X.env)).any (·.1) = false := by rfl) :
    PI X (.Tuple elts kk tpos) (.Call (.Name "zip" p) [e, e2] [] pos) (iZipLT X.K ta) := by
  constructor
  intro pins s σ H R I h
  refine Call_ (ld_blt I hg hm PyProof.Rows.boot_zip (PyProof.Rows.callWith_type1 (thn (ha.run pos pins s σ H _ I h) ?_) hs hpl))
  rintro us s1 ⟨vs, H1, I1, r1, a, xs, x, rfl, hq, q⟩
  obtain ⟨u1, u2, rfl, r1, r2⟩ := vals2 r1
  cases r1
  obtain ⟨t, rfl⟩ := r2
  obtain ⟨its, rv, p1, _⟩ := I1.list hq
  have la : a < s1.heap.objs.size := p1.lt
  refine zip_begins2 (begins_list a its.toArray) (begins_text x t) p1.isList trivial fun h' hz hTI hTO g1 g2 hsz hk => wpAny_pyIter_zip hz ?_
  have I2 : Inv X pins σ H1 { s1 with heap := h' } := I1.kept (t' := s1.toks) hk
  have sep := zip_sep2 (N := s1.heap.objs.size) (fp1 := [a]) (fp2 := []) (fun b hb => by rw [List.mem_singleton.mp hb]; exact la) (fun b hb => nomatch hb)
  refine ⟨s1.heap.objs.size + 4, [s1.heap.objs.size + 4, s1.heap.objs.size + 2, s1.heap.objs.size + 3, s1.heap.objs.size, s1.heap.objs.size + 1], _, _, H1, rfl, I2, turn_zipLT (t := t) sep (Nat.ne_of_lt la), ⟨hz, hTI, ⟨_, _, hTO⟩, ⟨_, g1, rfl, rfl⟩, ⟨_, g2, rfl, rfl⟩⟩, fun c hc => ?_, q⟩
  have above : s1.heap.objs.size ≤ c := by
    simp only [List.mem_cons, List.not_mem_nil, or_false] at hc
    rcases hc with z | z | z | z | z
    · rw [z]; exact Nat.le_add_right _ _
    · rw [z]; exact Nat.le_add_right _ _
    · rw [z]; exact Nat.le_add_right _ _
    · rw [z]; exact Nat.le_refl _
    · rw [z]; exact Nat.le_add_right _ _
  exact I1.fpOk above (I1.hok.fresh above)
/-- a comprehension over a zip of a list and a text of one length -/
theorem lc_zipLT {K : PySem.W.Frag} {a : Addr} {xs : List V} {cs : List Nat} {g : TG} {tt : TT} {te : TE} {vs : List Nat} {σ : L2.St} {H1 : Hp} {D : Addr} {Qd : Hp → Prop} (m : Nat) (hm : m ≤ xs.length ∧ m ≤ cs.length ∧ (m = xs.length ∨ m = cs.length)) (Pv : Nat → Hp → Prop) (h0 : Pv 0 (upd H1 D (.lst [])))
    (hl : ∀ i H, i ≤ m → Pv i H → SqL K H a xs)
    (hs : ∀ i y c T H, xs[i]? = some y → cs[i]? = some c → Pv i H → H T = none → g (.ref T) (wipe σ vs) (upd H T (.tup [y, .str (S [c])])) fun σ2 H2 => wipe σ2 vs = wipe σ vs ∧ tt σ2 H2 fun b H3 =>
      if b = true then te σ2 H3 fun y H4 => ∃ acc, H4 D = some (.lst acc) ∧ acc.length < sizeLine ∧ Pv (i + 1) (upd H4 D (.lst (acc ++ [y]))) else Pv (i + 1) H3) (hd : ∀ H, Pv m H → Qd H) :
    ∃ W : Nat → Nat → Hp → Prop, (∃ m, W 0 m (upd H1 D (.lst []))) ∧ ∀ i m H, W i m H →
      ((Itlt K a (S cs)).stop i H ∧ Qd H) ∨ ((Itlt K a (S cs)).go i H ∧ ∃ Nx : Hp → Prop, (∀ H', Nx H' → ∃ m', m' < m ∧ W (i + 1) m' H') ∧ ∀ x H', (Itlt K a (S cs)).yld i H x H' → g x (wipe σ vs) H' fun σ2 H2 => wipe σ2 vs = wipe σ vs ∧ tt σ2 H2 fun b H3 =>
        if b = true then te σ2 H3 fun y H4 => ∃ acc, H4 D = some (.lst acc) ∧ acc.length < sizeLine ∧ Nx (upd H4 D (.lst (acc ++ [y]))) else Nx H3) := by
  have sz : (S cs).cps.size = cs.length := SX.S_len cs
  refine ⟨fun i k H => k = m - i ∧ i ≤ m ∧ Pv i H, ⟨m, by omega, Nat.zero_le _, h0⟩, ?_⟩
  rintro i k H ⟨rfl, hi, p⟩
  have q := hl i H hi p
  by_cases hlt : i < m
  · refine .inr ⟨⟨xs, q, by omega, by omega⟩, Pv (i + 1), fun H' p' => ⟨m - (i + 1), by omega, rfl, hlt, p'⟩, fun x H' y => ?_⟩
    obtain ⟨T, y, c, rfl, nT, rfl, hy, hc⟩ := y
    have hc' : cs[i]? = some c := by
      have : (S cs).cps[i]? = cs[i]? := List.getElem?_toArray ..
      rw [← this]; exact hc
    exact hs i y c T H (hy xs q) hc' p nT
  · have e : i = m := by omega
    subst e
    exact .inl ⟨⟨xs, q, hm.1, by omega, by omega⟩, hd _ p⟩
end Vx
namespace Vx
open PySem PySem.Spec PyProof.Rows L2
/-! enumerate over a text -/
def Itet (x : Str) : It :=
  ⟨fun i H => i < x.cps.size, fun i H v H' => ∃ T c, v = .ref T ∧ H T = none ∧ H' = upd H T (.tup [.int (i : Nat), .str ⟨#[c]⟩]) ∧ x.cps[i]? = some c, fun i H => i = x.cps.size⟩
theorem turn_enumT {P : Program} {w : World} {K : PySem.W.Frag} {elts : List Expr} {kk : Nat} {tpos : Pos} {x : Str} {t : Tok} (e it : Addr) (ne : e ≠ it) :
    Turn P w K (.Tuple elts kk tpos) (Itet x) [e, it] e (fun i h => (∃ old, IsEnum h e it ((i : Nat) : Int) old) ∧ h.IsStrIter it (strIterType x) x t i) where
  mem := by simp
  obj := fun i h st b hb => by
    obtain ⟨⟨old, he⟩, ⟨o, ho, hc, hd⟩⟩ := st
    have e' : b = e ∨ b = it := by simpa using hb
    rcases e' with z | z
    · rw [z]; exact ⟨_, he, fun v q => nomatch q⟩
    · rw [z]; exact ⟨o, ho, fun v q => by rw [hd] at q; cases q⟩
  keep := fun i h h' st k => let ⟨⟨old, he⟩, o, ho, r⟩ := st; ⟨⟨old, k e (by simp) _ he⟩, ⟨o, k it (by simp) o ho, r⟩⟩
  item := by
    intro X hP hw hK hc i pins s σ H E I hf st hg
    subst hP hw hK
    obtain ⟨⟨old, he⟩, hit⟩ := st
    have calm : X.A.in1.handled = none := I.ok.hd hc
    have hel : e < s.heap.objs.size := Heap.lt_size he
    have hil : it < s.heap.objs.size := by obtain ⟨_, q, _⟩ := hit; exact Heap.lt_size q
    refine wpAny_pyNext_enum_itemD (Draws.text calm it x t) he hit hg ne (fun z => ne (List.mem_singleton.mp z)) ?_
    rintro u h' tk ⟨c, tc, hcx, rfl⟩ ho hit' hT hsz hk
    refine ⟨_, rfl, wpAny_letOwnedTupleGo_enum (s := { s with heap := h', toks := tk + 1 }) ho fun h'' he' sb => ?_⟩
    have hT2 : h''.get? s.heap.objs.size = some { cls := .type "tuple", data := .seq #[.int i tk, .str ⟨#[c]⟩ tc] } := (sb.2 _ (Nat.ne_of_gt hel)).trans hT
    have new : ObjOk X.prog X.w (upd H s.heap.objs.size (.tup [.int (i : Nat), .str ⟨#[c]⟩])) h'' s.heap.objs.size (.tup [.int (i : Nat), .str ⟨#[c]⟩]) :=
      ⟨by show 2 ≤ sizeLine; decide, [.int i tk, .str ⟨#[c]⟩ tc], .cons ⟨_, rfl⟩ (.cons ⟨_, rfl⟩ .nil), ⟨_, hT2, rfl, _, rfl⟩⟩
    have I1 : Inv X pins σ (upd H s.heap.objs.size (.tup [.int (i : Nat), .str ⟨#[c]⟩])) { s with heap := h'', toks := tk + 1 } :=
      I.turnedNew (t' := tk + 1) (ch := [e, it]) (fun b ob hb q => (sb.2 b (fun z => hb (by simp [z]))).trans (hk b ob (fun z => hb (by simp [z])) (fun z => hb (by simp [z])) q)) hf (Nat.le_refl _) new
    refine ⟨.ref s.heap.objs.size, _, I1, rfl, ⟨_, c, rfl, I.hok.fresh (Nat.le_refl _), rfl, hcx⟩, ⟨⟨.str ⟨#[c]⟩ tc, ?_⟩, ?_⟩, fun b hb => ?_⟩
    · have e1 : ((i + 1 : Nat) : Int) = (i : Int) + 1 := by omega
      rw [e1]; exact he'
    · obtain ⟨o2, e2, r2⟩ := hit'
      exact ⟨o2, (sb.2 it (Ne.symm ne)).trans e2, r2⟩
    · have hb' : b < s.heap.objs.size := by
        have e' : b = e ∨ b = it := by simpa using hb
        rcases e' with z | z
        · rw [z]; exact hel
        · rw [z]; exact hil
      rw [upd_ne (Nat.ne_of_lt hb')]
      exact (hf b hb).1
  done := by
    intro X hP hw hK hc i pins s σ H E I hf st hg
    subst hP hw hK
    obtain ⟨⟨old, he⟩, hit⟩ := st
    have calm : X.A.in1.handled = none := I.ok.hd hc
    have hg' : i = x.cps.size := hg
    subst hg'
    obtain ⟨f0, f1, f2, f3, f4, f5⟩ := hf it (by simp)
    exact wpAny_pyNext_enum_endD (Draws.text calm it x t) he hit fun h' eb => ⟨rfl, I.turned (t' := s.toks) (fun b o hb q => eb b o hb q) f0 f1 f3 f4 f5⟩
  self := fun A i s Q E st h => let ⟨⟨_, he⟩, _⟩ := st; wpAny_pyIter_enum he h
def iEnumT (ta : TA) : TI := fun σ H R => ta σ H fun vs H1 => ∃ x, vs = [.str x] ∧ R (Itet x) H1
theorem pi_enumT {X : Cx} {e : Expr} {ta : TA} {p pos tpos : Pos} {elts : List Expr} {kk : Nat} (hg : Gl X "enumerate") (hm : X.mg "enumerate" = none) (ha : PA X [e] ta) (hs : starEach [e] X.env = [(false, eval e X.env)] := by rfl) :
    PI X (.Tuple elts kk tpos) (.Call (.Name "enumerate" p) [e] [] pos) (iEnumT ta) := by
  refine ⟨fun pins s σ H R I h => ?_⟩
  refine Call_ (ld_blt I hg hm boot_enumerate (PyProof.Rows.callWith_type1 (thn (ha.run pos pins s σ H _ I h) fun us s1 ⟨vs, H1, I1, r1, q1⟩ => ?_) hs rfl))
  obtain ⟨x, rfl, q⟩ := q1
  obtain ⟨u, rfl, r⟩ := vals1 r1
  obtain ⟨t, rfl⟩ := r
  refine call_enumerate_str fun h' he hit hsz hk => wpAny_pyIter_enum he ?_
  have I2 : Inv X pins σ H1 { s1 with heap := h' } := I1.kept (t' := s1.toks) hk
  refine ⟨s1.heap.objs.size + 1, [s1.heap.objs.size + 1, s1.heap.objs.size], _, _, H1, rfl, I2, turn_enumT (t := t) (s1.heap.objs.size + 1) s1.heap.objs.size (Nat.succ_ne_self _), ⟨⟨.none, he⟩, hit⟩, fun b hb => ?_, q⟩
  have e' : b = s1.heap.objs.size + 1 ∨ b = s1.heap.objs.size := by simpa using hb
  have hle : s1.heap.objs.size ≤ b := by
    rcases e' with z | z
    · rw [z]; exact Nat.le_add_right _ _
    · rw [z]; exact Nat.le_refl _
  exact I1.fpOk hle (I1.hok.fresh hle)
theorem walk_enumT (a : List Nat) : Walk (Itet (S a)) a.length (fun _ => True) (fun i H v H' => ∃ T c, v = .ref T ∧ H T = none ∧ H' = upd H T (.tup [.int (i : Nat), .str (S [c])]) ∧ a[i]? = some c) where
  goes := fun i H hi _ => show i < (S a).cps.size by rw [show (S a).cps.size = a.length from SX.S_len a]; exact hi
  stops := fun H _ => show a.length = (S a).cps.size from (SX.S_len a).symm
  yields := fun i H x H' _ _ y => by
    obtain ⟨T, c, rfl, h, rfl, hc⟩ := y
    exact ⟨T, c, rfl, h, rfl, by rw [← hc]; exact (List.getElem?_toArray ..).symm⟩
theorem walk_txt (a : List Nat) : Walk (Its (S a)) a.length (fun _ => True) (fun i H v H' => H' = H ∧ ∃ c, v = .str (S [c]) ∧ a[i]? = some c) where
  goes := fun i H hi _ => show i < (S a).cps.size by rw [show (S a).cps.size = a.length from SX.S_len a]; exact hi
  stops := fun H _ => show (S a).cps.size ≤ a.length from Nat.le_of_eq (SX.S_len a)
  yields := fun i H x H' _ _ y => by
    obtain ⟨e, c, hc, ex⟩ := y
    subst e ex
    exact ⟨rfl, c, rfl, by rw [← hc]; exact (List.getElem?_toArray ..).symm⟩
/-! rules that name the new heap by an equation -/
section
variable {X : Cx} {es : List Expr} {pos : Pos} {t : TA}
def rAppendQ : V → List V → Hp → VK → Prop := fun x vs H Q => ∃ l xs y, x = .ref l ∧ vs = [y] ∧ H l = some (.lst xs) ∧ xs.length < sizeLine ∧ ∀ H', H' = upd H l (.lst (xs ++ [y])) → Q .non H'
theorem mtq_append : MtM X "list.append" rAppendQ := by
  intro pins s σ H x vs v us Q I rx rv h
  obtain ⟨l, xs, y, h1, h2, h3, h4, q⟩ := h
  exact mt_append pins s σ H x vs v us Q I rx rv ⟨l, xs, y, h1, h2, h3, h4, q _ rfl⟩
def rReverseQ : V → List V → Hp → VK → Prop := fun x vs H Q => ∃ l xs, x = .ref l ∧ vs = [] ∧ H l = some (.lst xs) ∧ ∀ H', H' = upd H l (.lst xs.reverse) → Q .non H'
theorem mtq_reverse : MtM X "list.reverse" rReverseQ := by
  intro pins s σ H x vs v us Q I rx rv h
  obtain ⟨l, xs, h1, h2, h3, q⟩ := h
  exact mt_reverse pins s σ H x vs v us Q I rx rv ⟨l, xs, h1, h2, h3, q _ rfl⟩
def rSetLQ : V → V → V → Hp → (Hp → Prop) → Prop := fun o i v H Q => ∃ p xs k j, o = .ref p ∧ i = .int k ∧ H p = some (.lst xs) ∧ ixN xs.length k = some j ∧ ∀ H', H' = upd H p (.lst (xs.set j v)) → Q H'
theorem setq_list : PSet X rSetLQ := by
  intro pins s σ H o i v ov iv u Q I ro ri rv h
  obtain ⟨p, xs, k, j, h1, h2, h3, h4, q⟩ := h
  exact set_list pins s σ H o i v ov iv u Q I ro ri rv ⟨p, xs, k, j, h1, h2, h3, h4, q _ rfl⟩
def tLstQ (t : TA) : TE := fun σ H Q => t σ H fun xs H1 => xs.length ≤ sizeLine ∧ ∀ p H', H1 p = none → p ≠ sysModules → H' = upd H1 p (.lst xs) → Q (.ref p) H'
theorem peq_lst (h : PA X es t) : PE X (.List es pos) (tLstQ t) := by
  constructor
  intro pins s σ H Q I hq
  apply wpAny_List_spliced
  refine thn (h.run pos pins s σ H _ I hq) ?_
  rintro us s1 ⟨xs, H1, I1, r, z, q⟩
  refine ⟨by rw [← r.length]; exact z, ?_⟩
  have fresh : H1 s1.heap.objs.size = none := I1.hok.fresh (Nat.le_refl _)
  exact ⟨.ref s1.heap.objs.size, upd H1 s1.heap.objs.size (.lst xs), I1.laid (t' := s1.toks) (fun b u e => Heap.get?_push_of_some _ e) (Nat.le_refl _) ⟨z, us, 0, r, Heap.get?_push_size _ rfl⟩, rfl, q _ _ fresh (big_ne I1) rfl⟩
def tTupQ (t : TA) : TE := fun σ H Q => t σ H fun xs H1 => xs.length ≤ sizeLine ∧ ∀ p H', H1 p = none → p ≠ sysModules → H' = upd H1 p (.tup xs) → Q (.ref p) H'
theorem peq_tup {x1} (h : PA X es t) : PE X (.Tuple es x1 pos) (tTupQ t) := by
  refine ⟨fun pins s σ H Q I hq => ?_⟩
  refine wpAny_Tuple_spliced (thn (h.run pos pins s σ H _ I hq) fun us s1 ⟨xs, H1, I1, r, z, q⟩ => ⟨by rw [← r.length]; exact z, ?_⟩)
  have hf : H1 s1.heap.objs.size = none := I1.hok.fresh (Nat.le_refl _)
  refine ⟨.ref s1.heap.objs.size, upd H1 s1.heap.objs.size (.tup xs), I1.laid (t' := s1.toks) (fun b u e => Heap.get?_push_of_some _ e) (Nat.le_refl _) ?_, rfl, q _ _ hf (big_ne I1) rfl⟩
  exact ⟨z, us, r, ⟨_, Heap.get?_push_size _ rfl, rfl, _, rfl⟩⟩
end
end Vx
namespace Vx
open PySem PySem.Spec PyProof.Rows L2
/-! ints as data that can be shown -/
def smallI (i : Int) : Prop := i.natAbs < 10 ^ 95
theorem fine_int {K : PySem.W.Frag} {H : Hp} {i : Int} (h : i.natAbs < 10 ^ 95) : Fine K H (.int i) (.int i) := by
  have hb : i.natAbs < 2 ^ 316 := Nat.lt_of_lt_of_le h (by decide +kernel)
  have hlg : i.natAbs.log2 < 316 := by
    by_cases z : i.natAbs = 0
    · rw [z]; decide
    · exact (Nat.log2_lt z).mpr hb
  refine ⟨.int i, ?_, ?_, by simp [PyData.depth], ?_⟩
  · show decide (i.natAbs.log2 < 1920) = true
    exact decide_eq_true (by omega)
  · have : (PyData.shown (.int i)).length ≤ 96 := by
      have e := int_text_length_le10 (k := 95) (by decide) h
      show (Str.ofString (toString i)).length ≤ 96
      rw [PySem.ofString_length]; exact e
    show decide ((PyData.shown (.int i)).length ≤ 100) = true
    exact decide_eq_true (by omega)
  · show (if i == 0 then 0 else i.natAbs.log2 + 1) ≤ 4100
    split
    · omega
    · omega
theorem int_small {i : Int} (h0 : 0 ≤ i) (h : i ≤ 1000000) : i.natAbs < 10 ^ 95 := Nat.lt_of_le_of_lt (show i.natAbs ≤ 1000000 by omega) (by decide +kernel)
theorem fines_ints {K : PySem.W.Frag} {H : Hp} : ∀ {ns : List Int}, (∀ x ∈ ns, x.natAbs < 10 ^ 95) → Fines K H (ns.map V.int) (ns.map PyData.int)
  | [], _ => .nil
  | n :: r, h => .cons (fine_int (h n List.mem_cons_self)) (fines_ints fun x hx => h x (List.mem_cons_of_mem _ hx))
/-- what repr asks of a value and its data -/
structure Shows (K : PySem.W.Frag) (H : Hp) (x : V) (d : PyData) : Prop where
  dx : Dx K H x d
  sh : d.showable = true
  lv : d.leavesShort 100 = true
  dp : d.depth ≤ 40
  wt : d.weight ≤ 150000
theorem Shows.len {K : PySem.W.Frag} {H : Hp} {x : V} {d : PyData} (f : Shows K H x d) : d.shown.length ≤ sizeLine := by
  have h := PyData.shown_le 100 (by decide) d f.lv
  have := f.wt
  unfold sizeLine; omega
theorem Shows.same {K : PySem.W.Frag} {H H' : Hp} {x : V} {d : PyData} (s : Same H H') (f : Shows K H x d) : Shows K H' x d := { f with dx := f.dx.same s }
theorem Fine.shows {K : PySem.W.Frag} {H : Hp} {x : V} {d : PyData} (f : Fine K H x d) : Shows K H x d := ⟨f.dx, f.sh, f.lv, by have := f.dp; omega, by have := f.wt; omega⟩
inductive ShowAll (K : PySem.W.Frag) (H : Hp) : List V → List PyData → Nat → Nat → Prop
  | nil : ShowAll K H [] [] 0 0
  | cons {x : V} {d : PyData} {xs : List V} {ds : List PyData} {dp wt : Nat} : Dx K H x d → d.showable = true → d.leavesShort 100 = true → ShowAll K H xs ds dp wt → ShowAll K H (x :: xs) (d :: ds) (max d.depth dp) (d.weight + 1 + wt)
theorem ShowAll.all {K : PySem.W.Frag} {H : Hp} : ∀ {xs : List V} {ds : List PyData} {dp wt : Nat}, ShowAll K H xs ds dp wt →
    DxAll K H xs ds ∧ PyData.showableAll ds = true ∧ PyData.leavesShortAll 100 ds = true ∧ PyData.depthAll ds = dp ∧ PyData.weightAll ds = wt
  | _, _, _, _, .nil => ⟨.nil, by simp [PyData.showableAll], by simp [PyData.leavesShortAll], by simp [PyData.depthAll], by simp [PyData.weightAll]⟩
  | _, _, _, _, .cons h1 h2 h3 r => by
    obtain ⟨a1, a2, a3, a4, a5⟩ := ShowAll.all r
    exact ⟨.cons h1 a1, by simp [PyData.showableAll, h2, a2], by simp [PyData.leavesShortAll, h3, a3], by simp only [PyData.depthAll, a4], by simp only [PyData.weightAll, a5]⟩
theorem Shows.lst {K : PySem.W.Frag} {H : Hp} {p : Addr} {xs : List V} {ds : List PyData} {dp wt : Nat} (e : H p = some (.lst xs)) (n : p ≠ sysModules) (f : ShowAll K H xs ds dp wt) (h1 : dp ≤ 39) (h2 : wt ≤ 149999) : Shows K H (.ref p) (.list ds) := by
  obtain ⟨a1, a2, a3, a4, a5⟩ := f.all
  exact ⟨.lst e n a1, by simpa [PyData.showable] using a2, by simpa [PyData.leavesShort] using a3, by simp only [PyData.depth]; omega, by simp only [PyData.weight]; omega⟩
theorem Shows.tup {K : PySem.W.Frag} {H : Hp} {p : Addr} {xs : List V} {ds : List PyData} {dp wt : Nat} (e : H p = some (.tup xs)) (f : ShowAll K H xs ds dp wt) (h1 : dp ≤ 39) (h2 : wt ≤ 149999) : Shows K H (.ref p) (.tuple ds) := by
  obtain ⟨a1, a2, a3, a4, a5⟩ := f.all
  exact ⟨.tup (SqT.of e) a1, by simpa [PyData.showable] using a2, by simpa [PyData.leavesShort] using a3, by simp only [PyData.depth]; omega, by simp only [PyData.weight]; omega⟩
theorem shows_ints {K : PySem.W.Frag} {H : Hp} {p : Addr} {ns : List Int} (e : H p = some (.lst (ns.map V.int))) (n : p ≠ sysModules) (h : ∀ x ∈ ns, x.natAbs < 10 ^ 95) (hl : ns.length ≤ 220) :
    Dx K H (.ref p) (.list (ns.map PyData.int)) ∧ (PyData.list (ns.map PyData.int)).showable = true ∧ (PyData.list (ns.map PyData.int)).leavesShort 100 = true ∧ (PyData.list (ns.map PyData.int)).depth = 1 ∧ (PyData.list (ns.map PyData.int)).weight ≤ 70000 := by
  have hg : PyData.showableAll (ns.map PyData.int) = true ∧ PyData.leavesShortAll 100 (ns.map PyData.int) = true ∧ PyData.weightAll (ns.map PyData.int) ≤ 317 * ns.length ∧ DxAll K H (ns.map V.int) (ns.map PyData.int) := by
    clear e hl
    induction ns with
    | nil => exact ⟨by simp [PyData.showableAll], by simp [PyData.leavesShortAll], by simp [PyData.weightAll], .nil⟩
    | cons x r ih =>
      obtain ⟨a1, a2, a3, a4⟩ := ih fun y hy => h y (List.mem_cons_of_mem _ hy)
      have hx := h x List.mem_cons_self
      have f := fine_int (K := K) (H := H) hx
      have hw : (PyData.int x).weight ≤ 316 := by
        have hb : x.natAbs < 2 ^ 316 := Nat.lt_of_lt_of_le hx (by decide +kernel)
        show (if x == 0 then 0 else x.natAbs.log2 + 1) ≤ 316
        split
        · omega
        · have : x.natAbs ≠ 0 := fun z => by
            rename_i hne
            exact hne (by rw [Int.natAbs_eq_zero.mp z]; rfl)
          have := (Nat.log2_lt this).mpr hb
          omega
      refine ⟨by simp [PyData.showableAll, f.sh, a1], by simp [PyData.leavesShortAll, f.lv, a2], ?_, .cons f.dx a4⟩
      simp only [List.map_cons, PyData.weightAll, List.length_cons]; omega
  obtain ⟨a1, a2, a3, a4⟩ := hg
  exact ⟨.lst e n a4, by simpa [PyData.showable] using a1, by simpa [PyData.leavesShort] using a2, by simp only [PyData.depth]; rw [depth_ints], by simp only [PyData.weight]; omega⟩
end Vx
namespace Vx
open PySem PySem.Spec PyProof.Rows L2
/-! an instance made by a class that a local name holds -/
section
variable {X : Cx} {CX : CXT} {k : Nat} {f C : Addr} {fd : FuncData} {ps : List Str} {sp : Sp} {dvs : List V} {ds : List Value} {E : XK} {x : Str} {p pos : Pos} {e : Expr} {es : List Expr} {t : TA}
def tMakeL (i : Nat) (C : Addr) (sp : Sp) (dvs : List V) (E : XK) (t : TA) : TE := fun σ H Q => σ[i]? = some (some (.ref C)) ∧ tMake C sp dvs E t σ H Q
theorem pe_makeL {i : Nat} (M : Mk X.K C f) (F : FnOk X.prog X.w X.K X.mg X.base CX k f fd ps sp) (hr : Room (k + 1) X.A) (hN : X.N[i]? = some x) (hv : Vis X.env.scope x) (hb : Binds X.K fd ps ds) (hd : Vals dvs ds) (hx : Passes CX X E)
    (ha : PA X (e :: es) t) (hdb : (x == ("__debug__" : Str)) = false := by decide) (hcd : (x == ("__classdict__" : Str)) = false := by decide) (he : starEach (e :: es) X.env = (false, eval e X.env) :: starEach es X.env := by rfl) (hpl : (backTo pos (starEach es X.env)).any (·.1) = false := by rfl) :
    PE X (.Call (.Name x p) (e :: es) [] pos) (tMakeL i C sp dvs E t) := by
  refine ⟨fun pins s σ H Q I h => ?_⟩
  obtain ⟨h1, h2⟩ := h
  refine wpAny_Call_Name_kw (thn ((pe_var (pos := p) hN hv hdb hcd).run pins s σ H (fun v H1 => v = .ref C ∧ H1 = H) I ⟨.ref C, h1, rfl, rfl⟩) fun u s1 ⟨v, H1, I1, r1, q1⟩ => ?_)
  obtain ⟨rfl, rfl⟩ := q1
  cases r1
  refine PySem.W.callWith_K (h₀ := X.base) I1.ok.mod.kin M.kp (thn (ha.run pos pins s1 σ _ _ I1 h2) fun us s2 ⟨vs, H2, I2, r, q⟩ => ⟨I2.kIn, ?_⟩) he hpl
  exact run_make M F hr hb hd hx I2 r q
end
/-! Counts objects -/
theorem nAB : ¬ (("_many_a" : Str) = "_many_b") := by decide +kernel
theorem nAP : ¬ (("_many_a" : Str) = "_pairs") := by decide +kernel
theorem nBP : ¬ (("_many_b" : Str) = "_pairs") := by decide +kernel
theorem putF_len (f : Str) (v : V) : ∀ fs : List (Str × V), (putF f v fs).length ≤ fs.length + 1
  | [] => Nat.le_refl _
  | (g, x) :: r => by
    have ih := putF_len f v r
    unfold putF
    split
    · exact Nat.le_succ _
    · exact Nat.succ_le_succ ih
def flds (a b p : Int) : List (Str × V) := putF "_pairs" (.int p) (putF "_many_b" (.int b) (putF "_many_a" (.int a) []))
theorem flds_a (a b p : Int) : (flds a b p).lookup ("_many_a" : Str) = some (.int a) := by
  unfold flds
  rw [lookup_putF, if_neg nAP, lookup_putF, if_neg nAB, lookup_putF, if_pos rfl]
theorem flds_b (a b p : Int) : (flds a b p).lookup ("_many_b" : Str) = some (.int b) := by
  unfold flds
  rw [lookup_putF, if_neg nBP, lookup_putF, if_pos rfl]
theorem flds_p (a b p : Int) : (flds a b p).lookup ("_pairs" : Str) = some (.int p) := by
  unfold flds
  rw [lookup_putF, if_pos rfl]
theorem flds_no (a b p : Int) {m : Str} (h1 : ¬ m = "_many_a") (h2 : ¬ m = "_many_b") (h3 : ¬ m = "_pairs") : (flds a b p).lookup m = none := by
  unfold flds
  rw [lookup_putF, if_neg h3, lookup_putF, if_neg h2, lookup_putF, if_neg h1]; rfl
def CountsAt (C : Addr) (H : Hp) (x : Addr) (a b p : Int) : Prop := ∃ dx, H x = some (.ins C dx (flds a b p))
theorem CountsAt.same {C : Addr} {H H' : Hp} {x : Addr} {a b p : Int} (s : Same H H') (h : CountsAt C H x a b p) : CountsAt C H' x a b p := let ⟨dx, e⟩ := h; ⟨dx, s _ _ e⟩
theorem CountsAt.keep {C r : Addr} {H H' : Hp} {x : Addr} {a b p : Int} (s : Keep r H H') (n : x ≠ r) (h : CountsAt C H x a b p) : CountsAt C H' x a b p := let ⟨dx, e⟩ := h; ⟨dx, s _ _ n e⟩
/-- three numbers that are counts, of bounded size -/
structure COk (a b p : Int) : Prop where
  a0 : 0 ≤ a
  b0 : 0 ≤ b
  p0 : 0 ≤ p
  pm : p ≤ a * b
  ba : a.natAbs < 2 ^ 3000
  bb : b.natAbs < 2 ^ 3000
/-- what the walk asks of the class as the top has made it -/
structure CT (K : PySem.W.Frag) (mg : Str → Option Value) (C : Addr) : Prop where
  cl : Cls K C
  nA : NoAttr K C "_many_a"
  nB : NoAttr K C "_many_b"
  nP : NoAttr K C "_pairs"
  mg : mg "Counts" = some (.ref C)
def spInit (C : Addr) : Sp := fun vs H Q _ => ∃ (x dx : Addr) (a b p : Int), vs = [.ref x, .int a, .int b, .int p] ∧ H x = some (.ins C dx []) ∧ COk a b p ∧ ∀ H', CountsAt C H' x a b p → Keep x H H' → Q .non H'
theorem made_same {x dx : Addr} {H H' : Hp} {o1 o2 : HO} (nx : H x = none) (ndx : H dx = none) (k : Keep x (upd (upd H dx o1) x o2) H') : Same H H' := fun b o e => by
  have n1 := ne_of_none e nx
  refine k b o n1 ?_
  rw [upd_ne n1, upd_ne (ne_of_none e ndx)]; exact e
theorem mkC {C x dx : Addr} {H : Hp} {a b p : Int} {Q : VK} (nx : H x = none) (ndx : H dx = none) (c : COk a b p) (h : ∀ H', Same H H' → CountsAt C H' x a b p → Q (.ref x) H') :
    spInit C (.ref x :: ([.int a, .int b, .int p] ++ [])) (upd (upd H dx (.own x)) x (.ins C dx [])) (fun v H2 => v = .non ∧ Q (.ref x) H2) E0 :=
  ⟨x, dx, a, b, p, rfl, upd_same, c, fun H' hc k => ⟨rfl, h H' (made_same nx ndx k) hc⟩⟩
/-- is_integer: ints only -/
def spIsInt (K : PySem.W.Frag) : Sp := fun vs H Q _ => ∃ x, vs = [x] ∧ ((∃ i, x = .int i ∧ Q (.bl true) H) ∨ (∃ b, x = .bl b ∧ Q (.bl false) H) ∨ (∃ t, TyX K H x t ∧ PySem.W.kitOne K t (.type "int") = some false ∧ Q (.bl false) H))
def spAre : Sp := fun vs H Q _ => ∃ a b p : Int, vs = [.int a, .int b, .int p] ∧ COk a b p ∧ ∀ H', Same H H' → Q (.bl true) H'
/-! rules that name the class's fragment -/
section
variable {X : Cx}
def rLenK (K : PySem.W.Frag) : List V → Hp → VK → Prop := fun xs H Q => ∃ p ys, xs = [V.ref p] ∧ SqL K H p ys ∧ Q (V.int ys.length) H
theorem call_lenK (K : PySem.W.Frag) (h : X.K = K) : CallR X (.builtin "len") (rLenK K) := by
  subst h
  intro pins s σ H xs us Q I r h
  obtain ⟨p, ys, e, hs, q⟩ := h
  exact call_len_seq pins s σ H xs us Q I r ⟨p, ys, e, .inl hs, q⟩
theorem pi_listK (K : PySem.W.Frag) (h : X.K = K) {tg e : Expr} {te : TE} (he : PE X e te) : PI X tg e (iList K te) := by
  subst h
  exact pi_list he
theorem call_reprK (K : PySem.W.Frag) (h : X.K = K) (hg : X.A.guards = some []) (hu : X.A.units + 64 < cLine) : CallR X (.builtin "repr") (rRepr K) := by
  subst h
  exact call_reprX hg hu
/-- xs * n, the new list by an equation -/
def rRepQ : R2 := fun x y H Q => ∃ l k xs, x = .ref l ∧ y = .int k ∧ H l = some (.lst xs) ∧ -(2 ^ 63) ≤ k ∧ k < 2 ^ 63 ∧ xs.length * k.toNat ≤ sizeLine ∧
  ∀ p H', H p = none → p ≠ sysModules → H' = upd H p (.lst (List.replicate k.toNat xs).flatten) → Q (.ref p) H'
end
end Vx
namespace Vx
open PySem PySem.Spec PyProof.Rows L2
/-! shown data as texts of characters -/
def okS (x : Str) : Prop := x.cps.all (· < 0x110000) = true
theorem okS_of (s : String) : okS (Str.ofString s) := by
  unfold okS
  rw [Str.ofString_eq_toList]
  rw [Array.all_eq_true_iff_forall_mem]
  intro c hc
  have hc' : c ∈ s.toList.map Char.toNat := by simpa using hc
  obtain ⟨d, _, rfl⟩ := List.mem_map.mp hc'
  have := d.valid
  have h2 : d.toNat < 0x110000 := by
    rcases this with h | ⟨_, h⟩
    · exact Nat.lt_trans h (by decide)
    · exact h
  simpa using h2
theorem okS_append {x y : Str} (h1 : okS x) (h2 : okS y) : okS (x ++ y) := by
  unfold okS at *
  show (x.cps ++ y.cps).all _ = true
  rw [Array.all_append, h1, h2]; rfl
theorem okS_textFrom : ∀ (ts : List Str) (k : Nat) (acc : Str), okS acc → (∀ t ∈ ts, okS t) → okS (textFrom k acc ts)
  | [], _, _, h, _ => h
  | t :: r, k, acc, h, ht => okS_textFrom r (k + 1) _ (okS_append (okS_append h (okS_of _)) (ht t List.mem_cons_self)) fun x hx => ht x (List.mem_cons_of_mem _ hx)
theorem okS_listText {ts : List Str} (h : ∀ t ∈ ts, okS t) : okS (listText ts) := okS_append (okS_textFrom ts 0 _ (okS_of "[") h) (okS_of "]")
theorem okS_join : ∀ {ts : List Str}, (∀ t ∈ ts, okS t) → okS (Str.join ", " ts)
  | [], _ => okS_of ""
  | [x], h => h x List.mem_cons_self
  | x :: y :: r, h => okS_append (okS_append (h x List.mem_cons_self) (okS_of ", ")) (okS_join fun z hz => h z (List.mem_cons_of_mem _ hz))
theorem okS_tupleText {ts : List Str} (h : ∀ t ∈ ts, okS t) : okS (tupleText ts) := okS_append (okS_append (okS_of "(") (okS_join h)) (okS_of _)
theorem okS_int (i : Int) : okS (PyData.shown (.int i)) := okS_of (toString i)
theorem okS_ints : ∀ ns : List Int, ∀ t ∈ PyData.shownAll (ns.map PyData.int), okS t
  | [], t, h => by simp [PyData.shownAll] at h
  | n :: r, t, h => by
    have h' : t = PyData.shown (.int n) ∨ t ∈ PyData.shownAll (r.map PyData.int) := by simpa [PyData.shownAll] using h
    rcases h' with rfl | h'
    · exact okS_int n
    · exact okS_ints r t h'
theorem okS_tup (ns : List Int) : okS (PyData.shown (.tuple (ns.map PyData.int))) := okS_tupleText (okS_ints ns)
theorem okS_lst (ns : List Int) : okS (PyData.shown (.list (ns.map PyData.int))) := okS_listText (okS_ints ns)
/-- lists of one text -/
theorem shaped_strs {z : Str} (h : okS z) : ∀ n, SeqAt.shaped (.list (List.replicate n (.str z))) = true := by
  intro n
  have h1 : PyData.canLayAll0 (List.replicate n (PyData.str z)) = true := by
    induction n with
    | zero => simp [PyData.canLayAll0]
    | succ n ih =>
      rw [List.replicate_succ]
      simp only [PyData.canLayAll0, ih, Bool.and_true]
      show PyData.strOk z = true
      exact h
  have h2 : PyData.depthAll (List.replicate n (PyData.str z)) = 0 := by
    clear h1
    induction n with
    | zero => simp [PyData.depthAll]
    | succ n ih => rw [List.replicate_succ]; simp [PyData.depthAll, PyData.depth, ih]
  simp [SeqAt.shaped, PyData.canLay0, PyData.depth, h1, h2]
theorem eqv_strs {z : Str} : ∀ n, PyData.eqv (.list (List.replicate n (.str z))) (.list (List.replicate n (.str z))) = true
  | 0 => by simp [PyData.eqv, PyData.eqvAll]
  | n + 1 => by
    have ih := eqv_strs (z := z) n
    rw [List.replicate_succ]
    simp only [PyData.eqv, PyData.eqvAll] at ih ⊢
    rw [ih]; simp
theorem dp_strs {K : PySem.W.Frag} {H : Hp} {z : Str} : ∀ n, DpAll K H (List.replicate n (V.str z)) (List.replicate n (PyData.str z))
  | 0 => .nil
  | n + 1 => .cons (.str z) (dp_strs n)
/-- a tuple of three ints, to be shown -/
theorem shows_tup3 {K : PySem.W.Frag} {H : Hp} {T : Addr} {a b p : Int} (e : H T = some (.tup [.int a, .int b, .int p])) (ha : a.natAbs < 10 ^ 95) (hb : b.natAbs < 10 ^ 95) (hp : p.natAbs < 10 ^ 95) : Shows K H (.ref T) (.tuple [.int a, .int b, .int p]) := by
  have f1 := fine_int (K := K) (H := H) ha
  have f2 := fine_int (K := K) (H := H) hb
  have f3 := fine_int (K := K) (H := H) hp
  have w1 := f1.wt
  have w2 := f2.wt
  have w3 := f3.wt
  exact .tup e (.cons f1.dx f1.sh f1.lv (.cons f2.dx f2.sh f2.lv (.cons f3.dx f3.sh f3.lv .nil))) (by show max 0 (max 0 (max 0 0)) ≤ 39; decide) (by omega)
end Vx
namespace Vx
open PySem PySem.Spec PyProof.Rows L2
/-! operators of an own class, its objects with a dict -/
structure Dun (K : PySem.W.Frag) (C : Addr) (m : Str) (g : Addr) : Prop where
  at_ : PySem.W.findIn K (.ref C) m = some (some (.ref g))
  fn : PySem.W.isFn K (.ref g) = true
section
variable {X : Cx} {CX : CXT} {n : Nat} {C g : Addr} {sp : Sp} {E : XK}
theorem look_ins {pins : List (Addr × Obj)} {σ : L2.St} {H : Hp} {s : Shared} {a dx : Addr} {fs : List (Str × V)} (I : Inv X pins σ H s) (ea : H a = some (.ins C dx fs)) : ∃ ox od, PySem.W.InstAt s.heap a ox C (some od) := by
  obtain ⟨mA, O, _, _, _, _⟩ := ins_get I.hok ea
  obtain ⟨od, J, _⟩ := O.look
  exact ⟨_, od, J⟩
def rUnOwn (C : Addr) (sp : Sp) (E : XK) : V → Hp → VK → Prop := fun x H Q => ∃ a dx fs, x = .ref a ∧ H a = some (.ins C dx fs) ∧ sp [x] H Q E
theorem un_ownI (d : Dun X.K C "__invert__" g) (F : FnR X.prog X.w X.K X.mg X.base CX n g sp) (hr : Room n X.A) (hx : Passes CX X E) : UnR X (unaryOp .Invert) (rUnOwn C sp E) := by
  intro pins s σ H x v Q I rx h
  obtain ⟨a, dx, fs, rfl, ea, q⟩ := h
  cases (show v = Value.ref a from rx)
  obtain ⟨ox, od, J⟩ := look_ins I ea
  obtain ⟨m, hF⟩ := I.fr
  exact PySem.W.ksp_inv hF I.ok.mod.kin J d.at_ d.fn (wpAny_call (run_fnR (us := [.ref a]) (vs := [.ref a]) F hr hx I (.cons rfl .nil) q))
theorem un_ownN (d : Dun X.K C "__neg__" g) (F : FnR X.prog X.w X.K X.mg X.base CX n g sp) (hr : Room n X.A) (hx : Passes CX X E) : UnR X (unaryOp .USub) (rUnOwn C sp E) := by
  intro pins s σ H x v Q I rx h
  obtain ⟨a, dx, fs, rfl, ea, q⟩ := h
  cases (show v = Value.ref a from rx)
  obtain ⟨ox, od, J⟩ := look_ins I ea
  obtain ⟨m, hF⟩ := I.fr
  exact PySem.W.ksp_neg hF I.ok.mod.kin J d.at_ d.fn (wpAny_call (run_fnR (us := [.ref a]) (vs := [.ref a]) F hr hx I (.cons rfl .nil) q))
/-- x op y, both of the class -/
def rBinOwn (C : Addr) (sp : Sp) (E : XK) : R2 := fun x y H Q => ∃ a dx fs b dy gs, x = .ref a ∧ y = .ref b ∧ H a = some (.ins C dx fs) ∧ H b = some (.ins C dy gs) ∧ sp [x, y] H Q E
theorem op_binOwn {op : Operator} (hc : PySem.W.selfFirst X.K C = true) (d : Dun X.K C (PySem.dunder op.info.2) g) (F : FnR X.prog X.w X.K X.mg X.base CX n g sp) (hr : Room n X.A) (hx : Passes CX X E) : OpR X (binaryOp op) (rBinOwn C sp E) := by
  intro pins s σ H x y v u Q I rx ry h
  obtain ⟨a, dx, fs, b, dy, gs, rfl, rfl, ea, eb, q⟩ := h
  cases (show v = Value.ref a from rx)
  cases (show u = Value.ref b from ry)
  obtain ⟨ox, od, J⟩ := look_ins I ea
  obtain ⟨ox2, od2, J2⟩ := look_ins I eb
  obtain ⟨m, hF⟩ := I.fr
  refine PySem.W.binop_K hF I.ok.mod.kin J J2.type hc d.at_ d.fn ?_
  refine wpAny_mono (wpAny_call (run_fnR (us := [.ref a, .ref b]) (vs := [.ref a, .ref b]) F hr hx I (.cons rfl (.cons rfl .nil)) q)) (fun w s' z => ?_) fun _ _ x => x
  obtain ⟨z', H', I', rz, qz⟩ := z
  exact SlX.cmpback rz ⟨z', H', I', rz, qz⟩
end
end Vx
namespace Vx
open PySem PySem.Spec PyProof.Rows L2
/-! rules that name the class's fragment: for what stands in comprehensions -/
section
variable {X : Cx}
theorem ix_tupK (K : PySem.W.Frag) (h : X.K = K) : IxR X (rIxT K) := by subst h; exact ix_tup
theorem ix_listK (K : PySem.W.Frag) (h : X.K = K) : IxR X (rIxL K) := by subst h; exact ix_list
theorem sl_listK (K : PySem.W.Frag) (h : X.K = K) : SlR X (rSlL K) := by subst h; exact sl_list
theorem op_neDK (K : PySem.W.Frag) (h : X.K = K) (hu : X.A.units + 64 < cLine) : OpR X (compareOp .NotEq) (rNeD K) := by subst h; exact op_neD hu
theorem op_eqDK (K : PySem.W.Frag) (h : X.K = K) (hu : X.A.units + 64 < cLine) : OpR X (compareOp .Eq) (rEqD K) := by subst h; exact op_eqD hu
theorem cr_sumK (K : PySem.W.Frag) (h : X.K = K) (hc : X.calm = true) : CallR X (.builtin "sum") (rSum K) := by subst h; exact cr_sum hc
theorem cr_allK (K : PySem.W.Frag) (h : X.K = K) (hc : X.calm = true) : CallR X (.builtin "all") (rAll K) := by subst h; exact cr_all hc
theorem kit_refl {K : PySem.W.Frag} {C : Addr} : PySem.W.kitOne K (.ref C) (.ref C) = some true := by
  unfold PySem.W.kitOne
  exact if_pos (by simp)
end
end Vx
namespace Vx
open PySem PySem.Spec PyProof.Rows L2
/-! powers of wide bases, isqrt, the least of three ints, own object * int -/
section
variable {X : Cx}
def CPowW (i j : Int) : Prop := 0 ≤ j ∧ j ≤ 1000 ∧ i.natAbs < 2 ^ 1000
theorem op_powW : OpR X (binaryOp .Pow) (rI CPowW fun i j => .int (i ^ j.toNat)) := by
  intro pins s σ H x y v u Q I rx ry h
  obtain ⟨i, j, rfl, rfl, ⟨h0, h1, h2⟩, q⟩ := h
  obtain ⟨t, rfl⟩ := (show ∃ t, v = Value.int i t from rx)
  obtain ⟨t', rfl⟩ := (show ∃ t, u = Value.int j t from ry)
  have hb : Builtin.Int.intBits i ≤ 1000 := by
    unfold Builtin.Int.intBits
    split
    · exact Nat.zero_le _
    · have := PySem.Flt.log2_lt_of (show 0 < 1000 by decide) h2
      omega
  refine pow_int h0 ?_ ⟨.int _, H, I.tok _, ⟨_, rfl⟩, q⟩
  have e1 : (Builtin.Int.intBits i : Int) * j ≤ 1000 * j := Int.mul_le_mul_of_nonneg_right (by omega) h0
  omega
def rIsqrt : List V → Hp → VK → Prop := fun vs H Q => ∃ a : Int, vs = [.int a] ∧ 0 ≤ a ∧ a.natAbs < 2 ^ 12000 ∧ ∀ r : Int, 0 ≤ r → r * r ≤ a → a < (r + 1) * (r + 1) → Q (.int r) H
theorem cr_isqrt : CallR X (.builtin "math.isqrt") rIsqrt := by
  intro pins s σ H vs us Q I r h
  obtain ⟨a, rfl, h0, h1, q⟩ := h
  obtain ⟨u, rfl, t, rfl⟩ := vals1 r
  have hl : a.toNat.log2 < 12000 := PySem.Flt.log2_lt_of (show 0 < 12000 by decide) (show a.toNat < 2 ^ 12000 by omega)
  have sp := PySem.Float64.isqrt_spec a.toNat
  refine PySem.call_function_meets PySem.W.MGF.kind_isqrt PySem.W.MGF.plain_isqrt PySem.W.MGF.entry_isqrt (PySem.W.MGF.args_isqrt _) (PySem.W.mg_run_isqrt a t (by omega) (by omega) (by omega)).meets ⟨.int _, H, I.tok _, ⟨_, rfl⟩, q _ (Int.natCast_nonneg _) ?_ ?_⟩
  · have := sp.1
    have e : ((Float64.isqrt a.toNat : Nat) : Int) * ((Float64.isqrt a.toNat : Nat) : Int) = ((Float64.isqrt a.toNat * Float64.isqrt a.toNat : Nat) : Int) := by rw [Int.natCast_mul]
    rw [e]; omega
  · have := sp.2
    have e : (((Float64.isqrt a.toNat : Nat) : Int) + 1) * (((Float64.isqrt a.toNat : Nat) : Int) + 1) = (((Float64.isqrt a.toNat + 1) * (Float64.isqrt a.toNat + 1) : Nat) : Int) := by rw [Int.natCast_mul]; rfl
    rw [e]; omega
theorem call_min3 (hc : X.calm = true) : CallR X (.builtin "min") (fun xs H Q => ∃ i j l, xs = [.int i, .int j, .int l] ∧ ∀ m : Int, m ≤ i → m ≤ j → m ≤ l → (m = i ∨ m = j ∨ m = l) → Q (.int m) H) := by
  intro pins s σ H xs us Q I r h
  obtain ⟨i, j, l, rfl, q⟩ := h
  have e1 : nuMin2 (.int i) (.int j) = some (.int (if j < i then j else i)) := by
    show some (if decide (j < i) = true then V.int j else V.int i) = _
    by_cases h : j < i
    · rw [if_pos (decide_eq_true h), if_pos h]
    · rw [if_neg fun z => h (of_decide_eq_true z), if_neg h]
  have e2 : ∀ m : Int, nuMin2 (.int m) (.int l) = some (.int (if l < m then l else m)) := fun m => by
    show some (if decide (l < m) = true then V.int l else V.int m) = _
    by_cases h : l < m
    · rw [if_pos (decide_eq_true h), if_pos h]
    · rw [if_neg fun z => h (of_decide_eq_true z), if_neg h]
  refine call_min3Nu hc pins s σ H _ us Q I r ⟨.int i, .int j, .int l, _, rfl, by unfold nuMin3; rw [e1]; exact e2 _, q _ ?_ ?_ ?_ ?_⟩ <;> (repeat' split) <;> omega
end
/-! x * n, x of an own class, n an int -/
structure MulI (K : PySem.W.Frag) (C g : Addr) : Prop where
  sf : PySem.W.selfFirst K C = true
  at_ : PySem.W.findIn K (.ref C) "__mul__" = some (some (.ref g))
  fn : PySem.W.isFn K (.ref g) = true
  ro : PySem.W.findIn K (.ref C) "__rmul__" = some none
  ii : ∃ fo, PySem.W.findIn K (.type "int") "__mul__" = some fo
  ir : ∃ fo, PySem.W.findIn K (.type "int") "__rmul__" = some fo
  sb : PySem.W.subIn K (.type "int") (.ref C) = some false
section
variable {X : Cx} {CX : CXT} {n : Nat} {C g : Addr} {sp : Sp} {E : XK}
def rMulI (C : Addr) (sp : Sp) (E : XK) : R2 := fun x y H Q => ∃ a dx fs i, x = .ref a ∧ y = .int i ∧ H a = some (.ins C dx fs) ∧ sp [x, y] H Q E
theorem op_mulI (d : MulI X.K C g) (F : FnR X.prog X.w X.K X.mg X.base CX n g sp) (hr : Room n X.A) (hx : Passes CX X E) : OpR X (binaryOp .Mult) (rMulI C sp E) := by
  intro pins s σ H x y v u Q I rx ry h
  obtain ⟨a, dx, fs, i, rfl, rfl, ea, q⟩ := h
  cases (show v = Value.ref a from rx)
  obtain ⟨t, rfl⟩ := (show ∃ t, u = Value.int i t from ry)
  obtain ⟨ox, od, J⟩ := look_ins I ea
  obtain ⟨m, hF⟩ := I.fr
  obtain ⟨fo, hfo⟩ := d.ii
  obtain ⟨ro, hro⟩ := d.ir
  refine PySem.W.ksp_binT (op := .Mult) (T := "int") hF I.ok.mod.kin J rfl d.sf d.at_ d.fn d.ro (.inl rfl) hfo hro d.sb ?_
  refine wpAny_mono (wpAny_call (run_fnR (us := [.ref a, .int i t]) (vs := [.ref a, .int i]) F hr hx I (.cons rfl (.cons ⟨t, rfl⟩ .nil)) q)) (fun w s' z => ?_) fun _ _ x => x
  obtain ⟨z', H', I', rz, qz⟩ := z
  exact SlX.cmpback rz ⟨z', H', I', rz, qz⟩
/-- a def that is asked nothing -/
theorem fn_no {P : Program} {w : World} {K : PySem.W.Frag} {mg : Str → Option Value} {base : Heap} {CX : CXT} {k : Nat} {f : Addr} {fd : FuncData} {ps : List Str} : FnOk P w K mg base CX k f fd ps (fun _ _ _ _ => False) :=
  ⟨fun _ _ _ _ h => h.elim, fun _ _ _ _ _ _ _ _ _ _ _ _ _ h => h.elim⟩
end
end Vx
namespace Vx
open PySem PySem.Spec PyProof PyProof.Rows L2 HotX
/-! the end of a list's and of a tuple's iterator, and the unpacking of a tuple, while an exception is handled -/
section
variable {prog : Program} {w : World} {A : Around} {E : Value → Shared → Prop} {s : Shared}
/-- StopIteration, made and raised there: what stood keeps standing -/
theorem stop_raised {α : Type} {x1 : Addr} {Q : α → Shared → Prop} (hot : HotAt A x1 s.heap)
    (hE : ∀ (e : Addr) (h' : Heap), (∀ b o, s.heap.get? b = some o → h'.get? b = some o) → (∃ o, h'.get? e = some o ∧ o.cls = .type "StopIteration") → E (.ref e) { s with heap := h' }) :
    wpAny (model prog w) A ((newExc (.type "StopIteration") [] >>= fun e => raiseNew e) : Sem α) Q E s := by
  obtain ⟨hh, o1, vs1, h1, d1, c1⟩ := hot
  refine wpAny_bind ?_
  simp only [newExc, newTuple]
  refine wpAny_bind (wpAny_newObj_type (wpAny_bind (m := firstArgMember _ _) (wpAny_of_eq (a := Value.none) (by first | rfl | (simp only [firstArgMember]; rfl)) (wpAny_newObj_type ?_ (by size_fits)))) (by size_fits))
  refine raiseNew_hot ⟨hh, o1, vs1, Heap.get?_push_of_some _ (Heap.get?_push_of_some _ h1), d1, c1⟩ (Nat.ne_of_lt (Heap.lt_size (Heap.get?_push_of_some _ h1))) (Heap.get?_push_size _ rfl) rfl (by first | (simp; done) | (simp; omega) | (simp only [Array.size_append]; simp; omega)) ?_
  refine hE _ _ (fun b o e => ?_) ⟨_, Heap.get?_update_self _ (Heap.get?_push_size _ rfl) rfl, rfl⟩
  rw [Heap.get?_update_other _ _ (Nat.ne_of_gt (Heap.lt_size (Heap.get?_push_of_some _ e)))]
  exact Heap.get?_push_of_some _ (Heap.get?_push_of_some _ e)
theorem hot_set {x1 it : Addr} {o : Obj} {vs : Array Value} {g : Array Value → Array Value} (hot : HotAt A x1 s.heap) (n : x1 ≠ it) : HotAt A x1 (s.heap.update it (Obj.mapFields g)) := by
  obtain ⟨hh, o1, vs1, h1, d1, c1⟩ := hot
  exact ⟨hh, o1, vs1, by rw [Heap.get?_update_other _ _ n.symm]; exact h1, d1, c1⟩
/-- next of a list's iterator behind its last item -/
theorem list_end_hot {j l x1 : Addr} {i : Nat} {its : Array Value} {Q : Option Value → Shared → Prop} (hot : HotAt A x1 s.heap) (n : x1 ≠ j) (hj : s.heap.IsListIter j l i) (hl : s.heap.IsList l its) (hx : its[i]? = none)
    (hQ : ∀ h', Heap.ExtBut j s.heap h' → Q none { s with heap := h' }) : wpAny (model prog w) A (pyNext (.ref j)) Q E s := by
  obtain ⟨o, g1, _, g2⟩ := id hj
  obtain ⟨u, g3, _, _, g4⟩ := hl
  unfold pyNext
  refine wpAny_bind (wpAny_attempt (wpAny_callSpecial?_slot (name := Str.ofString "__next__") hj.typeIs slot_listiter_next (wpAny_call_entry slot_listiter_next hj.typeIs entry_listiter_next ?_ (args_listiter_next _))))
  show wpAny (model prog w) _ (field (.ref j) 0 >>= _) _ _ s
  refine wpAny_bind (wpAny_field g1 g2 (x := .ref l) rfl ?_)
  show wpAny (model prog w) _ (if (Value.ref l == .none) = true then _ else _) _ _ s
  rw [if_neg (show ¬ (Value.ref l == .none) = true from Bool.false_ne_true)]
  show wpAny (model prog w) _ (field (.ref j) 1 >>= _) _ _ s
  refine wpAny_bind (wpAny_field g1 g2 (x := .int i 0) rfl ?_)
  show wpAny (model prog w) _ (seqItems? (.ref l) >>= _) _ _ s
  refine wpAny_bind (wpAny_seqItems g3 g4 ?_)
  simp only [Int.toNat_natCast, hx]
  refine wpAny_bind (wpAny_rule (wpAny_bind (wpAny_setField g1 g2 (by simp) (stop_raised (s := { s with heap := s.heap.update j _ }) (hot_set (o := o) (vs := #[]) hot n) fun e h' k t => ?_))))
  refine wpAny_bind (wpAny_isInstance (T := "StopIteration") (b := true) t isSubtype_stop (wpAny_pure (hQ _ fun b p hb ep => k b p ?_)))
  rw [Heap.get?_update_other _ _ hb.symm]; exact ep
/-- next of a tuple's iterator behind its last item -/
theorem tuple_end_hot {j t x1 : Addr} {i : Nat} {its : Array Value} {Q : Option Value → Shared → Prop} (hot : HotAt A x1 s.heap) (n : x1 ≠ j) (hj : IsTupIter s.heap j t i) (ht : IsTup s.heap t its) (hx : its[i]? = none)
    (hQ : ∀ h', Heap.ExtBut j s.heap h' → Q none { s with heap := h' }) : wpAny (model prog w) A (pyNext (.ref j)) Q E s := by
  obtain ⟨o, g1, _, g2⟩ := id hj
  obtain ⟨u, g3, _, _, g4⟩ := ht
  unfold pyNext
  refine wpAny_bind (wpAny_attempt (wpAny_callSpecial?_slot (name := Str.ofString "__next__") hj.typeIs slot_tupleiter_next (wpAny_call_entry slot_tupleiter_next hj.typeIs entry_tupleiter_next ?_ (args_tupleiter_next _))))
  show wpAny (model prog w) _ (field (.ref j) 0 >>= _) _ _ s
  refine wpAny_bind (wpAny_field g1 g2 (x := .ref t) rfl ?_)
  show wpAny (model prog w) _ (if (Value.ref t == .none) = true then _ else _) _ _ s
  rw [if_neg (show ¬ (Value.ref t == .none) = true from Bool.false_ne_true)]
  show wpAny (model prog w) _ (field (.ref j) 1 >>= _) _ _ s
  refine wpAny_bind (wpAny_field g1 g2 (x := .int i 0) rfl ?_)
  show wpAny (model prog w) _ (seqItems? (.ref t) >>= _) _ _ s
  refine wpAny_bind (wpAny_seqItems g3 g4 ?_)
  simp only [Int.toNat_natCast, hx]
  refine wpAny_bind (wpAny_rule (wpAny_bind (wpAny_setField g1 g2 (by simp) (stop_raised (s := { s with heap := s.heap.update j _ }) (hot_set (o := o) (vs := #[]) hot n) fun e h' k t => ?_))))
  refine wpAny_bind (wpAny_isInstance (T := "StopIteration") (b := true) t isSubtype_stop (wpAny_pure (hQ _ fun b p hb ep => k b p ?_)))
  rw [Heap.get?_update_other _ _ hb.symm]; exact ep
/-- a, b = a tuple of that length -/
theorem unpack_hot {t x1 : Addr} {its : Array Value} {Q : List Value → Shared → Prop} (hot : HotAt A x1 s.heap) (ht : IsTup s.heap t its) (hQ : ∀ h', Heap.ExtBut s.heap.objs.size s.heap h' → Q its.toList { s with heap := h' }) : wpAny (model prog w) A (unpackItems (.ref t) its.size none) Q E s := by
  have nt : t ≠ s.heap.objs.size := by obtain ⟨o, e, _⟩ := ht; exact Nat.ne_of_lt (Heap.lt_size e)
  have nx : x1 ≠ s.heap.objs.size := by obtain ⟨_, o, _, e, _⟩ := hot; exact Nat.ne_of_lt (Heap.lt_size e)
  unfold unpackItems notIterableAtAll
  refine wpAny_bind (wpAny_bind (wpAny_specialOf ht.typeIs slot_tuple_iter.lookup (wpAny_pure ?_)))
  simp only [Bool.false_eq_true, if_false]
  refine wpAny_bind (wpAny_holding (iter_tuple ht (wpAny_bind (wpAny_holding (draw_tuple nt its.size 0 _ _ ⟨_, Heap.get?_push_size _ rfl, rfl, rfl⟩ (ht.push _) (by omega) fun h1 j1 s1 => ?_)))))
  rw [List.drop_zero, List.take_of_length_le (by simp), if_neg (by simp)]
  have hot1 : HotAt A x1 h1 := by
    obtain ⟨hh, o, vs, e, d, c⟩ := hot
    exact ⟨hh, o, vs, s1.extBut x1 o nx (Heap.get?_push_of_some _ e), d, c⟩
  refine wpAny_bind (wpAny_holding (tuple_end_hot (s := { s with heap := h1 }) hot1 nx j1 ((ht.push _).extBut s1.extBut nt) (by simp) fun h2 e2 => ?_))
  simp only [Option.isSome_none, Bool.false_eq_true, if_false]
  exact wpAny_pure (hQ h2 fun b o hb e => e2 b o hb (s1.extBut b o hb (Heap.get?_push_of_some _ e)))
end
end Vx
namespace Vx
open PySem PySem.Spec PyProof PyProof.Rows L2 HotX L2H
/-! targets, walks and list comprehensions while an exception is handled -/
section
variable {X : Cx}
theorem hot_of {p : Addr × Obj} {pins : List (Addr × Obj)} {σ : L2.St} {H : Hp} {s : Shared} (I : L2.Inv X pins σ H s) (hh : Hot1 X.A p) (hp : p ∈ X.pn) : HotAt X.A p.1 s.heap := by
  obtain ⟨h1, vs, h2, h3⟩ := hh
  exact ⟨h1, p.2, vs, (I.pin p (List.mem_append_left _ hp)).1, h2, h3⟩
theorem pg_tupH {es : List Expr} {k : Nat} {t : TGs} {n : Nat} (hc : HotC X) (h : PGs X es t) (hn : (assignEach es X.env).length = n := by rfl) (hst : (assignEach es X.env).findIdx? (·.1) = none := by rfl) : PG X (.Tuple es k pos) (gTup X.K n t) := by
  refine ⟨fun pins s σ H v u Q I r hw => ?_⟩
  obtain ⟨a, xs, rfl, hq, hl, hw⟩ := hw
  cases (show u = Value.ref a from r)
  obtain ⟨its, rv, ht, _⟩ := I.tuple hq
  obtain ⟨p, hh, hp⟩ := hc
  have hsz : (assignEach es X.env).length = its.toArray.size := by rw [hn, ← hl, rv.length]; simp
  rw [assign_Tuple]
  refine wpAny_bind (wpAny_standAt ?_)
  unfold unpack
  rw [hsz, hst]
  refine wpAny_bind (wpAny_holding (unpack_hot (hot_of I hh hp) ht fun h' hx => ?_))
  have I1 : L2.Inv X pins σ H { s with heap := h' } := I.kept (t' := s.toks) fun b o e => hx b o (Nat.ne_of_lt (Heap.lt_size e)) e
  exact h.run pins _ σ H xs _ Q I1 (by simpa using rv) hw
theorem turn_listH {P : Program} {w : World} {K : PySem.W.Frag} {tg : Expr} (a j : Addr) : TurnH P w K tg (Itl K a) [j] j (fun i h => h.IsListIter j a i) where
  mem := List.mem_singleton.mpr rfl
  obj := fun i h ⟨o, e, _, d⟩ b hb => ⟨o, (List.mem_singleton.mp hb) ▸ e, fun v z => by rw [d] at z; cases z⟩
  keep := fun i h h' st k => st.at fun o e => k j (List.mem_singleton.mpr rfl) o e
  item := by
    rintro X rfl rfl rfl hc i pins s σ H E I hf st ⟨xs, x, hq, hx⟩
    obtain ⟨its, rv, pl, _⟩ := I.list hq
    obtain ⟨u, hu, ru⟩ := rv.get hx
    obtain ⟨f0, f1, f2, f3, f4, f5⟩ := hf j (List.mem_singleton.mpr rfl)
    refine wpAny_pyNext_list_item st pl.isList (x := u) (by simpa using hu) fun h' st' sb => ?_
    obtain ⟨o, e, c, d⟩ := id st'
    refine ⟨u, rfl, go_of (s := { s with heap := h' }) e c d (by decide) ⟨x, H, I.turned (t' := s.toks) (fun b o hb e => (sb.2 b hb).trans e) f0 f1 f3 f4 f5, ru, ⟨rfl, fun ys hy => ?_⟩, st', fun b hb => (hf b hb).1⟩⟩
    rw [I.list_inj hy hq]; exact hx
  done := by
    rintro X rfl rfl rfl ⟨p, hh, hp⟩ i pins s σ H E I hf st ⟨xs, hq, hx⟩
    obtain ⟨its, rv, pl, _⟩ := I.list hq
    have hl := rv.length
    obtain ⟨f0, f1, f2, f3, f4, f5⟩ := hf j (List.mem_singleton.mpr rfl)
    exact list_end_hot (hot_of I hh hp) (f5 p (List.mem_append_left _ hp)) st pl.isList (by simp; omega) fun h' eb => ⟨rfl, I.turned (t' := s.toks) (fun b o hb e => eb b o hb e) f0 f1 f3 f4 f5⟩
  self := fun _ _ _ _ _ st h => wpAny_pyIter_listiter st h
theorem pi_listH {tg l : Expr} {tl : TE} (hl : PE X l tl) : PIH X tg l (iList X.K tl) := by
  refine ⟨fun pins s σ H R I h => thn (hl.run pins s σ H _ I h) fun v s1 ⟨x, H1, I1, r1, a, e, ⟨xs, hq⟩, q⟩ => ?_⟩
  subst e
  cases (show v = Value.ref a from r1)
  obtain ⟨its, rv, pl, _⟩ := I1.list hq
  refine wpAny_pyIter_list pl.isList ⟨_, [s1.heap.objs.size], _, _, H1, rfl, I1.kept (t' := s1.toks) fun b o e => Heap.get?_push_of_some _ e, turn_listH a _, ⟨_, Heap.get?_push_size _ rfl, rfl, rfl⟩, fun b hb => ?_, q⟩
  rw [List.mem_singleton.mp hb]
  exact I1.fpOk (Nat.le_refl _) (I1.hok.fresh (Nat.le_refl _))
/-- the block of a comprehension that bears the handled exception -/
abbrev blkP (X : Cx) (p : Addr × Obj) (s : Shared) (H : Hp) (scope : Scope) (ce : Env) (fp : List Addr) : Cx := { X.blk s H scope ce fp with pn := [p] }
theorem inv_blkP {p : Addr × Obj} {s s' : Shared} {H H' : Hp} {scope : Scope} {ce : Env} {fp : List Addr} {σ : L2.St} (I : L2.Inv (X.blk s H scope ce fp) [] σ H' s') (h : s'.heap.get? p.1 = some p.2 ∧ H' p.1 = none ∧ p.1 ≠ ce.locals ∧ p.1 ∉ frs X.stack ∧ ∀ v, p.2.data ≠ .cell v) : L2.Inv (blkP X p s H scope ce fp) [] σ H' s' :=
  ⟨⟨I.ok.mod, I.ok.kind, I.ok.glob, I.ok.blt, I.ok.above, I.ok.inj, I.ok.has, I.ok.cab, I.ok.hd, I.ok.frames, I.ok.stk, I.ok.exf, I.ok.bs, I.ok.bsz, I.ok.noex, I.ok.exfs, I.ok.funs, I.ok.frf⟩, I.os, I.bare, I.base, I.loc, I.cell, I.free, I.freeC, fun q hq => by
    have e : q = p := by simpa using (show q ∈ [p] ++ ([] : List (Addr × Obj)) from hq)
    rw [e]; exact h, I.hok, I.len⟩
end
end Vx
namespace Vx
open PySem PySem.Spec PyProof PyProof.Rows L2 HotX L2H
/-! list comprehensions while an exception is handled -/
section
variable {Y : Cx} {tg elt iter : Expr} {ifs : List Expr} {scope : Scope} {pos : Pos} {J : It} {fp : List Addr} {it D : Addr} {tn : Nat → Heap → Prop} {g : TG} {tt : TT} {te : TE} {vs : List Nat} {σ : L2.St} {Q : VK} {R : Result → Shared → Prop} {W : Nat → Nat → Hp → Prop}
/-- the turns of the block -/
theorem turns_hot (T : TurnH Y.prog Y.w Y.K tg J fp it tn) (hc : HotC Y) (hx : Y.xe = fun _ _ => False) (pg : PG Y tg g) (pt : PTs Y ifs tt) (pe : PE Y elt te)
    (hf : ∀ {σ' : L2.St} {H' : Hp} {s' : Shared}, L2.Inv Y [] σ' H' s' → (∀ b ∈ fp, H' b = none) → ∀ b ∈ fp, FpOk Y [] H' b)
    (turn : ∀ i m H, W i m H → (J.stop i H ∧ Q (.ref D) H) ∨ (J.go i H ∧ ∃ Nx : Hp → Prop, (∀ H', Nx H' → ∃ m', m' < m ∧ W (i + 1) m' H') ∧ ∀ x H', J.yld i H x H' → g x (wipe σ vs) H' fun σ2 H2 => wipe σ2 vs = wipe σ vs ∧ tt σ2 H2 fun b H3 =>
      if b = true then te σ2 H3 fun y H4 => ∃ acc, H4 D = some (.lst acc) ∧ acc.length < sizeLine ∧ Nx (upd H4 D (.lst (acc ++ [y]))) else Nx H3))
    (last : ∀ {s' : Shared} {H' : Hp}, L2.Inv Y [] (wipe σ vs) H' s' → Q (.ref D) H' → R (.ok .next) s') {s : Shared} {H : Hp} {m : Nat} (I : L2.Inv Y [] (wipe σ vs) H s) (st : tn 0 s.heap) (fr : ∀ b ∈ fp, H b = none) (w0 : W 0 m H) :
    codeAny (model Y.prog Y.w) Y.A (.compLoop (.ListComp elt [⟨tg, iter, ifs, 0⟩] scope pos) 0 (.ref it) (.ref D) Y.env) R s := by
  have no : ∀ {α : Type} {c : Sem α} {P P' : α → Shared → Prop} {E : Value → Shared → Prop} {u : Shared}, wpAny (model Y.prog Y.w) Y.A c P Y.xe u → (∀ a v, P a v → P' a v) → wpAny (model Y.prog Y.w) Y.A c P' E u := fun h k => wpAny_mono h k fun _ _ z => by
    rw [hx] at z; exact z.elim
  refine compLoop_any (fun n u => ∃ i G, L2.Inv Y [] (wipe σ vs) G u ∧ tn i u.heap ∧ (∀ b ∈ fp, G b = none) ∧ W i n G) ?_ m ⟨0, H, I, st, fr, w0⟩
  rintro n u ⟨i, G, IG, tG, fG, wG⟩
  rcases turn i n G wG with ⟨hs, hq⟩ | ⟨hg, Nx, hN, hstep⟩
  · refine thnF (T.done Y rfl rfl rfl hc i [] u _ G (fun _ _ => False) IG (hf IG fG) tG hs) fun r u1 ⟨e, I1⟩ => ?_
    subst e
    exact last I1 hq
  refine thnF (T.item Y rfl rfl rfl hc i [] u _ G (fun _ _ => False) IG (hf IG fG) tG hg) fun r u1 ⟨a, e, k1⟩ => ?_
  subst e
  refine thnF k1 fun _ u2 ⟨x, G2, I2, rx, yx, t2, f2⟩ => ?_
  have held : ∀ b ∈ fp, ∀ o, u2.heap.get? b = some o → (b, o) ∈ Y.pn ++ ([] ++ pinsAt fp u2.heap) := fun b hb o e => List.mem_append_right _ (List.mem_append_right _ (mem_pinsAt hb e))
  have again : ∀ {σ3 : L2.St} {G3 : Hp} {u3 : Shared}, wipe σ3 vs = wipe σ vs → L2.Inv Y ([] ++ pinsAt fp u2.heap) σ3 G3 u3 → Nx G3 → ∃ m, m < n ∧ ∃ i G, L2.Inv Y [] (wipe σ vs) G u3 ∧ tn i u3.heap ∧ (∀ b ∈ fp, G b = none) ∧ W i m G := fun {σ3 G3 u3} hw I3 nx => by
    obtain ⟨m', lt, w'⟩ := hN G3 nx
    refine ⟨m', lt, i + 1, G3, (I3.unpinned (pins := [])).weak (by rw [← hw, wipe_length]) (fun k v e => ?_), T.keep _ _ _ t2 fun b hb o e => (I3.pin (b, o) (held b hb o e)).1, fun b hb => ?_, w'⟩
    · rw [← hw] at e; exact (wipe_some e).1
    · obtain ⟨o, e, _⟩ := T.obj _ _ t2 b hb
      exact (I3.pin (b, o) (held b hb o e)).2.1
  refine no (pg.run _ u2 _ G2 x a _ (I2.pinned (hf I2 f2) (T.obj _ _ t2)) rx (hstep x G2 yx)) fun _ u3 ⟨σ3, G3, I3, hw, q3⟩ => ?_
  refine no (pt.run _ u3 σ3 G3 _ I3 q3) fun ok u4 ⟨G4, I4, q4⟩ => ?_
  cases ok with
  | false => exact again hw I4 (by simpa using q4)
  | true =>
    simp only [if_true] at q4 ⊢
    refine no (pe.run _ u4 σ3 G4 _ I4 q4) fun z u5 ⟨y, G5, I5, ry, acc, e5, l5, nx⟩ => ?_
    exact app_ok I5 e5 l5 ry fun u6 I6 => again hw I6 nx
end
section
variable {X : Cx} {p : Addr × Obj} {tg elt iter : Expr} {ifs : List Expr} {scope : Scope} {own : List (Str × Nat)} {pos : Pos} {wi : TI} {g : TG} {tt : TT} {te : TE}
theorem lc_hot {pins : List (Addr × Obj)} {s : Shared} {σ : L2.St} {H : Hp} {Q : VK} {pos' : Pos} {use : Option (Value → Sem Unit)} {Qf : Value → Shared → Prop} (hh : Hot1 X.A p) (hp : p ∈ X.pn) (hN : X.N.Nodup) (I : L2.Inv X pins σ H s) (hi : PIH X tg iter wi) (ok : BlkOk X.N X.env.scope scope own)
    (hg : ∀ (s : Shared) (H : Hp) (C : Addr) (cl : List (Str × Addr)) (fp : List Addr), PG (blkP X p s H scope (compEnvC scope cl C X.env) fp) tg g)
    (ht : ∀ (s : Shared) (H : Hp) (C : Addr) (cl : List (Str × Addr)) (fp : List Addr), PTs (blkP X p s H scope (compEnvC scope cl C X.env) fp) ifs tt)
    (he : ∀ (s : Shared) (H : Hp) (C : Addr) (cl : List (Str × Addr)) (fp : List Addr), PE (blkP X p s H scope (compEnvC scope cl C X.env) fp) elt te)
    (hs : ∀ x, foldedSetIterable iter X.env x = pure x) (h : tLc wi g tt te (own.map (·.2)) σ H Q)
    (hR : ∀ D C s' m H', L2.Inv X pins σ H' s' → Q (.ref D) H' → s'.heap.Ns C m → FpOk X pins H' C → compPost (model X.prog X.w) X.A X.xe use Qf (.ref D) C (.ok .next) s') :
    wpAny (model X.prog X.w) X.A (comprehension (.ListComp elt [⟨tg, iter, ifs, 0⟩] scope pos) scope X.env pos' (newList []) false (eval iter X.env) use) Qf X.xe s := by
  have clo : ∀ y ∈ scope.names, y.2 = .free → ∃ c, X.env.cells.lookup y.1 = some c := fun y hy e => I.ok.has _ (ok.free y hy e)
  refine wpAny_comprehension_free (use := use) rfl hs (closure_ok clo) ok.kind (fun y hy e => by rw [ok.uniq y hy, e]) (thn (hi.run pins s σ H _ I h) fun xv s1 q1 => thn q1 fun itv s2 ⟨it, fp, tn, J, H2, e, I2, T, t2, f2, q2⟩ => ?_)
  subst e
  refine wpAny_newObj_type (newEnv_comp ?_) (by show 0 ≤ sizeLine; decide)
  obtain ⟨D, hD⟩ : ∃ D, D = s2.heap.objs.size := ⟨_, rfl⟩
  rw [← hD]
  obtain ⟨W, ⟨m0, w0⟩, turn⟩ := q2 D (I2.hok.fresh (Nat.le_of_eq hD.symm))
  obtain ⟨s3, h3⟩ : ∃ s3 : Shared, s3 = { s2 with heap := s2.heap.push { cls := .type "list", data := .seq ([] : List Value).toArray } } := ⟨_, rfl⟩
  obtain ⟨H3, g3⟩ : ∃ H3 : Hp, H3 = upd H2 D (.lst []) := ⟨_, rfl⟩
  rw [← g3] at w0
  have grow : ∀ b o, s2.heap.get? b = some o → s3.heap.get? b = some o := fun b o e => by rw [h3]; exact Heap.get?_push_of_some _ e
  have I3 : L2.Inv X pins σ H3 s3 := by
    rw [h3, g3]
    refine I2.laid (t' := s2.toks) (fun b o e => Heap.get?_push_of_some _ e) (Nat.le_of_eq hD.symm) ⟨Nat.zero_le _, [], 0, .nil, ?_⟩
    rw [hD]; exact Heap.get?_push_size _ rfl
  have below : ∀ b ∈ fp, b < s2.heap.objs.size := fun b hb => let ⟨_, e, _⟩ := T.obj _ _ t2 b hb; Heap.lt_size e
  have f3 : ∀ b ∈ fp, FpOk X pins H3 b ∧ b < s3.heap.objs.size := fun b hb => by
    have hlt := below b hb
    refine ⟨⟨?_, (f2 b hb).2⟩, ?_⟩
    · rw [g3, upd_ne (by rw [hD]; exact Nat.ne_of_lt hlt)]
      exact (f2 b hb).1
    · rw [h3]
      show b < (s2.heap.push _).objs.size
      rw [Heap.size_push]; exact Nat.lt_succ_of_lt hlt
  have IB := block_start I3 ok hN f3
  have P3 := I3.pin p (List.mem_append_left _ hp)
  obtain ⟨C, hC⟩ : ∃ C, C = s3.heap.objs.size := ⟨_, rfl⟩
  rw [← h3]
  rw [← hC] at IB ⊢
  have pg := hg s3 H3 C (cellsFrom (C + 1) scope.names (cloFrom X.env.cells scope.names [])) fp
  have pt := ht s3 H3 C (cellsFrom (C + 1) scope.names (cloFrom X.env.cells scope.names [])) fp
  have pe := he s3 H3 C (cellsFrom (C + 1) scope.names (cloFrom X.env.cells scope.names [])) fp
  obtain ⟨ce, hce⟩ : ∃ ce, ce = compEnvC scope (cellsFrom (C + 1) scope.names (cloFrom X.env.cells scope.names [])) C X.env := ⟨_, rfl⟩
  rw [← hce] at IB pg pt pe
  have cL : ce.locals = C := by rw [hce]; rfl
  have nC : p.1 ≠ C := by rw [hC]; exact Nat.ne_of_lt (Heap.lt_size P3.1)
  have keep4 : ∀ b o, s3.heap.get? b = some o → (pushCells (s3.heap.push { cls := .type "dict", data := .dict #[] }) scope.names).get? b = some o := fun b o e => pushCells_keeps _ _ _ _ (Heap.get?_push_of_some _ e)
  have stk : p.1 ∉ frs X.stack := fun hm => (List.mem_cons.mp (I3.stkSub p.1 hm)).elim P3.2.2.1 P3.2.2.2.1
  have IP : L2.Inv (blkP X p s3 H3 scope ce fp) [] (wipe σ (own.map (·.2))) H3 { s3 with heap := pushCells (s3.heap.push { cls := .type "dict", data := .dict #[] }) scope.names } := inv_blkP IB ⟨keep4 _ _ P3.1, P3.2.1, by rw [cL]; exact nC, stk, P3.2.2.2.2⟩
  have t4 : tn 0 (pushCells (s3.heap.push { cls := .type "dict", data := .dict #[] }) scope.names) := T.keep _ _ _ t2 fun b _ o e => keep4 _ _ (grow b o e)
  have loop := turns_hot (Y := blkP X p s3 H3 scope ce fp) (R := compPost (model X.prog X.w) X.A X.xe use Qf (.ref D) C) (pos := pos) (iter := iter) (scope := scope) (σ := σ) (Q := Q) T ⟨p, hh, List.mem_singleton.mpr rfl⟩ rfl pg pt pe
    (fun {σ' H' s'} J' hn b hb => ⟨hn b hb, (J'.ok.exf b hb).1, J'.ok.exfs b hb, .inl hb, fun x c e => (J'.ok.exf b hb).2 x c e, fun q hq => by
      have eq : q = p := by simpa using (show q ∈ [p] ++ ([] : List (Addr × Obj)) from hq)
      rw [eq]; exact (f2 b hb).2.2.2.2.2 p (List.mem_append_left _ hp)⟩) turn
    (fun {s' H'} J' hq => by
      have I7 : L2.Inv X pins σ H' s' := I3.call' (ch := fp) J'.os J'.base J'.hok J'.bare fun b hb => ⟨(f3 b hb).1.2.2.2.1, (f3 b hb).1.2.1, (f3 b hb).1.2.2.2.2.1, (f3 b hb).1.2.2.2.2.2⟩
      have fr : H' ce.locals = none := J'.free
      obtain ⟨m, hn, _⟩ := J'.loc
      have hn : s'.heap.Ns ce.locals m := hn
      rw [cL] at fr hn
      exact hR D C s' m H' I7 hq hn (I3.fpOk (Nat.le_of_eq hC.symm) fr)) IP t4 (fun b hb => (f3 b hb).1.1) w0
  have fin := codeAny_compStart_list (rest := []) loop (T.self X.A 0 _ _ _ t4 loop)
  subst hce
  exact fin
end
end Vx
namespace Vx
open PySem PySem.Spec PyProof PyProof.Rows L2 HotX L2H
/-! a def that is called while one known exception is handled -/
/-- what it promises: p is the exception -/
structure FnP (P : Program) (w : World) (K : PySem.W.Frag) (mg : Str → Option Value) (base : Heap) (k : Nat) (f : Addr) (fd : FuncData) (ps : List Str) (sp : Sp) (p : Addr × Obj) : Prop where
  len : ∀ vs H Q E, sp vs H Q E → vs.length = ps.length
  run : ∀ (A : Around) (outer : List Env) (s : Shared) (H : Hp) (args : Args) (us : List Value) (vs : List V) (Q : VK), RoomH k A → Hot1 A p → PinOk outer H s p → Env0 P w K mg base A outer s H → BindsTo s fd args (ps.zip us) → Vals vs us → sp vs H Q E0 →
    codeAny (model P w) A (.call (.ref f) args) (CR CX0 outer P w H s Q E0) s
section
variable {P : Program} {w : World} {K : PySem.W.Frag} {mg : Str → Option Value} {base : Heap}
theorem okP {x qual : Str} {st : Stmt} {f : Addr} {fd : FuncData} {N ps : List Str} {k : Nat} {sp : Sp} {p : Addr × Obj} (F : Fun K x qual st f fd) (S : FnScope N ps (defScope st)) (len : ∀ vs H Q E, sp vs H Q E → vs.length = ps.length)
    (hbody : ∀ (cdv : Value) (A : Around) (outer : List Env) (s : Shared) (H : Hp) (vs : List V) (Q : VK), Hot1 A p → RoomH k (A.deeper (envOfC qual (defScope st) s.heap.objs.size f cdv)) → sp vs H Q E0 →
      ∃ t, PSs (cxH CX0 P w K mg base N qual (defScope st) f cdv A outer s H E0 p) (defBody st) t ∧ t { nx := fun _ H' => Q .non H', rt := Q } (L2.start N vs) H) : FnP P w K mg base (k + 1) f fd ps sp p := by
  obtain ⟨oc, od, kV, doc, pm, an, cdv, ct, osl, rfl, lk, hcd⟩ := F.ex
  refine ⟨len, fun A outer s H args us vs Q hr hot hpin e0 hb r hsp => ?_⟩
  have inn := e0.mod.kin.keeps fun b o e => (e0.bs b o e).1
  have kinds : ∀ y ∈ ps.zip us, (defScope st).names.lookup y.1 = some .local ∨ ((defScope st).names.lookup y.1 = some .cell ∧ ((cellsFrom (s.heap.objs.size + 1) (defScope st).names []).lookup y.1).isSome = true) := by
    rintro ⟨y, v⟩ hy
    exact (S.par y (List.of_mem_zip hy).1).elim .inl fun q => .inr ⟨q, PySem.W.cellsFrom_some _ _ _ (.inl q)⟩
  refine codeAny_call_function hr.depth (inn _ _ lk) rfl S.co S.gen rfl (PySem.W.codeRec_of inn hcd) (hb _ _ _ _ (wpAny_newFunctionEnv_cells S.kind kinds fun env he s1 c1 => ?_))
  subst he
  refine ⟨(e0.mod.nolimit.keeps fun b o e => (e0.bs b o e).1).keeps c1.toInCall.keep, codeAny_func ?_⟩
  obtain ⟨t, ht, hq⟩ := hbody cdv A outer s H vs Q hot (hr.deeper _) hsp
  refine wpAny_mono (ht.run [] s1 _ H _ (inv_startH (CX := CX0) (E := E0) S hpin e0 (len _ _ _ _ hsp) r c1) hq) (fun fl s' hs => ?_) fun _ _ z => z
  match fl, hs with
  | .ret u, ⟨v, _, H', J, rv, q⟩ => exact ⟨v, H', J.os, J.bare, J.base, J.hok, rv, q⟩
  | .next, ⟨_, H', J, q⟩ => exact ⟨V.non, H', J.os, J.bare, J.base, J.hok, rfl, q⟩
  | .brk, ⟨_, _, _, q⟩ => exact q.elim
  | .cont, ⟨_, _, _, q⟩ => exact q.elim
end
section
variable {X : Cx} {k : Nat} {f : Addr} {fd : FuncData} {ps : List Str} {sp : Sp} {p : Addr × Obj} {x : Str} {q pos : Pos} {e : Expr} {es : List Expr} {t : TA}
theorem pe_callP (F : FnP X.prog X.w X.K X.mg X.base k f fd ps sp p) (hr : RoomH k X.A) (hh : Hot1 X.A p) (hp : p ∈ X.pn) (hg : Gl X x) (hm : X.mg x = some (.ref f)) (hk : PySem.W.keepIn X.K (.ref f) = true) (hb : L2.Binds X.K fd ps [])
    (ha : PA X (e :: es) t) (hdb : (x == ("__debug__" : Str)) = false := by decide) (he : starEach (e :: es) X.env = (false, eval e X.env) :: starEach es X.env := by rfl) (hpl : (backTo pos (starEach es X.env)).any (·.1) = false := by rfl) :
    PE X (.Call (.Name x q) (e :: es) [] pos) (tCall sp [] E0 t) := by
  refine ⟨fun pins s σ H Q I h => wpAny_Call_Name_kw (ld_glob I hg hm (PySem.W.callWith_K (h₀ := X.base) I.ok.mod.kin hk (thn (ha.run pos pins s σ H _ I h) fun us s1 ⟨vs, H1, I1, r, q⟩ => ⟨I1.kIn, ?_⟩) he hpl) hdb)⟩
  have q : sp (vs ++ []) H1 Q E0 := q
  rw [List.append_nil] at q
  show wpAny (model X.prog X.w) X.A (call (.ref f) us) _ _ _
  have hl : us.length = ps.length := r.length.symm.trans (F.len _ _ _ _ q)
  have b := hb s1 us I1.kIn (by rw [List.append_nil]; exact hl)
  rw [List.append_nil] at b
  have P1 := I1.pin p (List.mem_append_left _ hp)
  refine wpAny_call (codeAny_mono (F.run X.A X.stack s1 H1 ⟨us, []⟩ us vs Q hr hh ⟨P1.1, P1.2.1, fun z => (List.mem_cons.mp (I1.stkSub p.1 z)).elim P1.2.2.1 P1.2.2.2.1, P1.2.2.2.2⟩ I1.env0 b r q) fun r s' z => ?_)
  match r, z with
  | .error _, z => exact z.elim
  | .ok (.ret u), z => exact I1.after z
  | .ok .next, z => exact z.elim
  | .ok .brk, z => exact z.elim
  | .ok .cont, z => exact z.elim
end
end Vx
namespace Vx
open PySem PySem.Spec PyProof PyProof.Rows L2 HotX L2H
section
variable {X : Cx} {p : Addr × Obj}
/-- isinstance(e, c), e the exception that the context bears -/
theorem call_isP {D : Addr} (T : ExcC X.K D) (hz : Zc (.ref D) none p.2) (hf : ∃ vs, p.2.data = .fields vs) (hp : p ∈ X.pn) : CallR X (.builtin "isinstance") (rIsE X.K D p.1) := by
  intro pins s σ H xs us Q I r h
  obtain ⟨c, cv, b, rfl, hcv, e, q⟩ := h
  obtain ⟨u1, u2, rfl, r1, r2⟩ := vals2 r
  cases (show u1 = Value.ref p.1 from r1)
  obtain rfl := hcv _ r2
  obtain ⟨a, oc, od, oda, osl⟩ := p
  obtain ⟨z1, z2⟩ := hz
  obtain ⟨vs, hv⟩ := hf
  dsimp only at z1 z2 hv
  subst z1 z2 hv
  exact PySem.W.kia_one (PySem.W.handS_kitx_exc T.hg T.hk T.hs T.hd T.ha T.hn T.ht T.hm) I.kIn (⟨(I.pin _ (List.mem_append_left _ hp)).1, rfl, rfl, trivial⟩ : PySem.W.InstAt s.heap a _ D none) e (fun z => nomatch z) fun tk => ⟨.bl b, H, I.kept (t' := tk) fun _ _ z => z, rfl, q⟩
/-- name = [..] on one line -/
theorem ps_setLcH {i : Nat} {y : Str} {py : Pos} {elt tg iter : Expr} {ifs : List Expr} {scope : Scope} {own : List (Str × Nat)} {pos spos : Pos} {wi : TI} {g : TG} {tt : TT} {te : TE} (hh : Hot1 X.A p) (hp : p ∈ X.pn) (hN : X.N.Nodup) (hy : X.N[i]? = some y) (hyl : X.env.scope.names.lookup y = some .local)
    (hsw : swapsWith (.ListComp elt [⟨tg, iter, ifs, 0⟩] scope pos) (some (.Name y py)) spos.line X.env = pure true) (hi : PIH X tg iter wi) (ok : BlkOk X.N X.env.scope scope own)
    (hg : ∀ (s : Shared) (H : Hp) (C : Addr) (cl : List (Str × Addr)) (fp : List Addr), PG (blkP X p s H scope (compEnvC scope cl C X.env) fp) tg g)
    (ht : ∀ (s : Shared) (H : Hp) (C : Addr) (cl : List (Str × Addr)) (fp : List Addr), PTs (blkP X p s H scope (compEnvC scope cl C X.env) fp) ifs tt)
    (he : ∀ (s : Shared) (H : Hp) (C : Addr) (cl : List (Str × Addr)) (fp : List Addr), PE (blkP X p s H scope (compEnvC scope cl C X.env) fp) elt te) (hs : ∀ x, foldedSetIterable iter X.env x = pure x := by intro _; rfl) :
    PS X (.Assign [.Name y py] (.ListComp elt [⟨tg, iter, ifs, 0⟩] scope pos) spos) (tAsg (tLc wi g tt te (own.map (·.2))) (gName i)) := by
  refine ⟨fun pins s σ H D I h => ?_⟩
  rw [exec_Assign_Name_used _ _ _ _ hsw]
  refine wpAny_bind (wpAny_standAt (wpAny_bind ?_))
  show wpAny (model X.prog X.w) X.A (do let _ ← comprehension (.ListComp elt [⟨tg, iter, ifs, 0⟩] scope pos) scope X.env (firstIterPos [⟨tg, iter, ifs, 0⟩] pos) (newList []) false (eval iter X.env) (some (assign (.Name y py) X.env))) _ X.xe s
  refine wpAny_bind (thn (lc_hot (Q := fun x H1 => gName i x σ H1 D.nx) (Qf := fun _ u => L2.SP X pins D .next u) hh hp hN I hi ok hg ht he hs h fun L C u m H' I' q hn f => ?_) fun _ u z => wpAny_pure (wpAny_pure z))
  obtain ⟨f0, f1, f2, f3, f4, f5⟩ := f
  show wpAny _ _ (assign (.Name y py) X.env (.ref L)) _ _ _
  refine wpAny_assign_Name (store_ok2 (v := V.ref L) I' hN hy (.inl hyl) rfl (fun u2 I2 ⟨a, sb, ha⟩ => ⟨m, hn.sameBut sb fun e => ?_, fun u3 sb3 => ⟨_, H', I2.turned (t' := u2.toks) (fun b o hb e => (sb3.2 b hb).trans e) f0 f1 f3 f4 f5, q⟩⟩) (.inr hyl))
  rcases ha with z | z
  · exact f1 (e.trans z)
  · exact f4 y a z e.symm
end
end Vx
namespace Vx
open PySem PySem.Spec PyProof PyProof.Rows L2 HotX L2H
/-! defs that may raise an own error without a dict; a law's try around them -/
theorem passLN {X : Cx} : Passes (L2N.CX X.prog X.w) X E0 := fun _ _ _ _ _ _ _ h => by
  obtain ⟨_, _, _, _, _, _, _, _, _, _, _, _, z⟩ := h
  exact z.elim
theorem takes0N {X : Cx} : L2N.Takes X (fun _ _ _ _ => False) := fun _ _ x => by
  obtain ⟨_, _, _, _, _, _, _, _, _, _, _, _, _, _, _, _, z⟩ := x
  exact z.elim
section
variable {P : Program} {w : World} {K : PySem.W.Frag} {mg : Str → Option Value} {base : Heap}
theorem okN {x qual : Str} {st : Stmt} {f : Addr} {fd : FuncData} {N ps : List Str} {k : Nat} {sp : Sp} (F : Fun K x qual st f fd) (S : FnScope N ps (defScope st)) (len : ∀ vs H Q E, sp vs H Q E → vs.length = ps.length)
    (hbody : ∀ (cdv : Value) (A : Around) (outer : List Env) (s : Shared) (H : Hp) (vs : List V) (Q : VK) (E : XK), Room k (A.deeper (envOfC qual (defScope st) s.heap.objs.size f cdv)) → L2N.Takes (cxOf (L2N.CX P w) P w K mg base N qual (defScope st) f cdv A outer s H E) (fun cls d _ H => E cls d H) → sp vs H Q E →
      ∃ t, PSs (cxOf (L2N.CX P w) P w K mg base N qual (defScope st) f cdv A outer s H E) (defBody st) t ∧ t { nx := fun _ H' => Q .non H', rt := Q } (start N vs) H) : FnOk P w K mg base (L2N.CX P w) (k + 1) f fd ps sp := by
  obtain ⟨oc, od, kV, doc, pm, an, cdv, ct, osl, rfl, lk, hcd⟩ := F.ex
  exact fn_of lk hcd S len fun A outer s H vs Q E hr hsp => hbody cdv A outer s H vs Q E hr (L2N.takes_of rfl rfl rfl rfl) hsp
theorem okND {x qual : Str} {params : Arguments} {body : List Stmt} {scope : Scope} {dvs : List V} {kws : List (Str × V)} {f : Addr} {fd : FuncData} {N ps : List Str} {k : Nat} {sp : Sp} (F : FunD K x qual params body scope dvs kws f fd) (S : FnScope N ps scope) (len : ∀ vs H Q E, sp vs H Q E → vs.length = ps.length)
    (hbody : ∀ (cdv : Value) (A : Around) (outer : List Env) (s : Shared) (H : Hp) (vs : List V) (Q : VK) (E : XK), Room k (A.deeper (envOfC qual scope s.heap.objs.size f cdv)) → L2N.Takes (cxOf (L2N.CX P w) P w K mg base N qual scope f cdv A outer s H E) (fun cls d _ H => E cls d H) → sp vs H Q E →
      ∃ t, PSs (cxOf (L2N.CX P w) P w K mg base N qual scope f cdv A outer s H E) body t ∧ t { nx := fun _ H' => Q .non H', rt := Q } (start N vs) H) : FnOk P w K mg base (L2N.CX P w) (k + 1) f fd ps sp := by
  obtain ⟨oc, od, dV, kV, doc, pm, an, cdv, ct, osl, rfl, lk, hcd, _, _⟩ := F.ex
  exact fn_of lk hcd S len fun A outer s H vs Q E hr hsp => hbody cdv A outer s H vs Q E hr (L2N.takes_of rfl rfl rfl rfl) hsp
end
/-- what the written part says of an error class over PairError, without an __init__ of its own -/
structure ErrC (K : PySem.W.Frag) (mg : Str → Option Value) (x : Str) (C : Addr) : Prop where
  g : mg x = some (.ref C)
  q : PySem.W.excIn K C [.type "ValueError", .type "Exception", .type "BaseException", .type "object"] "ValueError.__new__" = true
  k : PySem.W.keepIn K (.ref C) = true
  b : PySem.W.subIn K (.ref C) (.type "BaseException") = some true
  t : PySem.W.typeIn K (.ref C) = some (.type "type")
section
variable {X : Cx} {C : Addr} {x : Str}
/-- a callee's way out is ours -/
theorem pass_tk {X : Cx} {E : XK} (tk : L2N.Takes X (fun cls d _ H => E cls d H)) : Passes (L2N.CX X.prog X.w) X E := L2N.passes_call tk fun _ _ _ _ h => h
/-- raise X('m') -/
theorem ps_err {W : WX} {m : Str} {j : Nat} {p p2 p3 pos : Pos} (T : ErrC X.K X.mg x C) (hc : X.calm = true) (tk : L2N.Takes X W) (hg : Gl X x) (hdb : (x == ("__debug__" : Str)) = false := by decide) : PS X (.Raise (some (.Call (.Name x p) [.Constant (.str m) j p2] [] p3)) none pos) (fun _ σ H => W (.ref C) none σ H) :=
  L2N.ps_raise hc tk (L2N.pmk_own PySem.F.excBase_ValueError T.q T.g T.k (raises_own T.b T.t) hg hdb)
end
/-- a value of a built-in type T as the right side of an operator -/
structure RhsT (K : PySem.W.Frag) (C : Addr) (op : Operator) (T : String) : Prop where
  ii : ∃ fo, PySem.W.findIn K (.type T) (PySem.dunder op.info.2) = some fo
  ir : ∃ fo, PySem.W.findIn K (.type T) (PySem.dunderR op.info.2) = some fo
  sb : PySem.W.subIn K (.type T) (.ref C) = some false
section
open PySem.W
variable {prog : Program} {w : World} {A : Around} {E : Value → Shared → Prop} {s : Shared} {K : Frag} {x C L f : Addr} {h₀ : Heap} {m : Str → Option Value} {ox : Obj} {od : Option Obj} {b : Value} {T : String}
/-- an own class's operator, whatever stands at the right, if only its type is known -/
theorem bin_any {op : Operator} {Q : Value → Shared → Prop} (F : Fr h₀ L s.heap m) (X₀ : K.In h₀) (I : InstAt s.heap x ox C od) (hb : Looks (model prog w) s.heap (typeOf b) (.type T)) (hc : selfFirst K C = true)
    (hs : findIn K (.ref C) (PySem.dunder op.info.2) = some (some (.ref f))) (hf : isFn K (.ref f) = true) (hr : findIn K (.ref C) (dunderR op.info.2) = some none) (R : RhsT K C op T)
    (h : wpAny (model prog w) A (call (.ref f) [.ref x, b]) (PySem.W.CmpBack Q) E s) : wpAny (model prog w) A (binaryOp op (.ref x) b) Q E s := by
  have X := X₀.keeps F.keep
  obtain ⟨fo, h1⟩ := R.ii
  obtain ⟨ro, h2⟩ := R.ir
  have hsub := R.sb
  obtain ⟨cd, rest, hcd, hm⟩ := ksp_first hc
  rcases hi : op.info with ⟨sym, nm⟩
  rw [hi] at hs hr h1 h2
  dsimp only at hs hr h1 h2
  have one := ksp_try X I hs hf h
  obtain ⟨hh, g, d, tt, os⟩ := s
  have l1 : Looks (model prog w) hh (typeOf (.ref x)) (.ref C) := I.type
  have l2 : Looks (model prog w) hh (typeOf b) (.type T) := hb
  have l3 : Looks (model prog w) hh (fillsNumberSlot (.ref C) nm) true := fills_K X hcd hm hs
  have l4 : Looks (model prog w) hh (fillsNumberSlot (.type T) nm) _ := ksp_fillsT X h1 h2
  have l5 : Looks (model prog w) hh (isSubtype (.type T) (.ref C)) false := looks_subIn X hsub
  have l6 : Looks (model prog w) hh (numberSlotInPython (.ref C) nm) true := ksp_inPy X hs hr (.inl rfl)
  have l7 : Looks (model prog w) hh (numberSlotInPython (.type T) nm) false := Looks.of_pure rfl
  have l8 : Looks (model prog w) hh (typeLookup (.type T) (dunderR nm)) ro := looks_findIn X h2
  generalize ((fo.isSome && !isSeqSlot fo) || (ro.isSome && !isSeqSlot ro)) = right at l4
  have hne : (Value.ref C == Value.type T) = false := Bool.eq_false_iff.mpr fun q => by cases beq_iff_eq.mp q
  simp only [binaryOp, hi]
  refine wpAny_holding (wpAny_bind ?_)
  unfold binaryOp1
  refine wpAny_bind (l1.at (wpAny_bind (l2.at (wpAny_bind (l3.at ?_)))))
  simp only [hne, Bool.false_eq_true, if_false]
  cases right with
  | false =>
    ksp_lk
    refine wpAny_mono one (fun r s' hr' => ?_) fun _ _ e => e
    obtain ⟨v, rfl, hq⟩ := hr'
    ksp_lk
    exact hq
  | true =>
    ksp_lk
    refine wpAny_mono one (fun r s' hr' => ?_) fun _ _ e => e
    obtain ⟨v, rfl, hq⟩ := hr'
    ksp_lk
    exact hq
end
/-- what an own class's operator asks of its class -/
structure OpC (K : PySem.W.Frag) (C g : Addr) (op : Operator) : Prop where
  sf : PySem.W.selfFirst K C = true
  at_ : PySem.W.findIn K (.ref C) (PySem.dunder op.info.2) = some (some (.ref g))
  fn : PySem.W.isFn K (.ref g) = true
  ro : PySem.W.findIn K (.ref C) (PySem.dunderR op.info.2) = some none
section
variable {X : Cx} {CX : CXT} {k : Nat} {C g : Addr} {fd : FuncData} {ps : List Str} {sp : Sp} {E : L2.St → XK} {op : Operator} {ta tb : TE} {a b : Expr} {pos : Pos}
def rAny (K : PySem.W.Frag) (C : Addr) (op : Operator) (sp : Sp) (E : XK) : R2 := fun x y H Q => ∃ o dx fs, x = .ref o ∧ H o = some (.ins C dx fs) ∧ ((∃ b dy gs, y = .ref b ∧ H b = some (.ins C dy gs)) ∨ ∃ T : String, TyX K H y (.type T) ∧ RhsT K C op T) ∧ sp [x, y] H Q E
theorem op_anyS {pins : List (Addr × Obj)} {σ : L2.St} {H : Hp} {s : Shared} {x y : V} {v u : Value} {Q : VK} (d : OpC X.K C g op) (F : FnOk X.prog X.w X.K X.mg X.base CX k g fd ps sp) (hr : Room k X.A) (hbd : Binds X.K fd ps []) (hx : PassesAt CX X σ (E σ))
    (I : L2.Inv X pins σ H s) (rx : RelV x v) (ry : RelV y u) (h : rAny X.K C op sp (E σ) x y H Q) : wpAny (model X.prog X.w) X.A (binaryOp op v u) (EP X pins σ Q) X.xe s := by
  obtain ⟨o, dx, fs, rfl, ea, hy, q⟩ := h
  cases (show v = Value.ref o from rx)
  obtain ⟨ox, od, J⟩ := look_ins I ea
  obtain ⟨m, hF⟩ := I.fr
  have call : wpAny (model X.prog X.w) X.A (PySem.call (.ref g) [.ref o, u]) (PySem.W.CmpBack (EP X pins σ Q)) X.xe s := by
    refine wpAny_mono (run_fnS (us := [.ref o, u]) (vs := [.ref o, y]) F hr hbd hx I (.cons rfl (.cons ry .nil)) q) (fun w s' z => ?_) fun _ _ x => x
    obtain ⟨z', H', I', rz, qz⟩ := z
    exact SlX.cmpback rz ⟨z', H', I', rz, qz⟩
  rcases hy with ⟨b, dy, gs, rfl, eb⟩ | ⟨T, ty, R⟩
  · cases (show u = Value.ref b from ry)
    obtain ⟨ox2, od2, J2⟩ := look_ins I eb
    exact PySem.W.binop_K hF I.ok.mod.kin J J2.type d.sf d.at_ d.fn call
  · obtain ⟨P, Z, p, _⟩ := kit_of I ry ty
    exact bin_any hF I.ok.mod.kin J (Z.ty _ _ I.kIn p) d.sf d.at_ d.fn d.ro R call
/-- x op y whose method may raise, in a try -/
theorem pe_anyS (K : PySem.W.Frag) (hK : X.K = K) (d : OpC K C g op) (F : FnOk X.prog X.w K X.mg X.base CX k g fd ps sp) (hr : Room k X.A) (hbd : Binds K fd ps []) (hx : ∀ σ, PassesAt CX X σ (E σ)) (ha : PE X a ta) (hb : PE X b tb) :
    PE X (.BinOp a op b pos) (fun σ H Q => ta σ H fun x H1 => tb σ H1 fun y H2 => rAny K C op sp (E σ) x y H2 Q) := by
  subst hK
  refine ⟨fun pins s σ H Q I h => ?_⟩
  exact wpAny_BinOp (binT ha hb I h fun v u s2 x y H2 I2 rx ry q => op_anyS d F hr hbd (hx σ) I2 rx ry q)
/-- .. that does not raise -/
theorem op_any {E : XK} (d : OpC X.K C g op) (F : FnOk X.prog X.w X.K X.mg X.base CX k g fd ps sp) (hr : Room k X.A) (hbd : Binds X.K fd ps []) (hx : Passes CX X E) : OpR X (binaryOp op) (rAny X.K C op sp E) :=
  fun pins s σ H x y v u Q I rx ry h => op_anyS (E := fun _ => E) d F hr hbd (fun pins H s e s' => hx pins σ H s e s') I rx ry h
/-- .. in a comprehension -/
theorem op_anyK {E : XK} (K : PySem.W.Frag) (hK : X.K = K) (d : OpC K C g op) (F : FnOk X.prog X.w K X.mg X.base CX k g fd ps sp) (hr : Room k X.A) (hbd : Binds K fd ps []) (hx : Passes CX X E) : OpR X (binaryOp op) (rAny K C op sp E) := by
  subst hK
  exact op_any d F hr hbd hx
/-- a part under a premise that its reading gives -/
theorem pe_ask {p : Prop} {t : TE} {e : Expr} (h : p → PE X e t) : PE X e (fun σ H Q => p ∧ t σ H Q) := ⟨fun pins s σ H Q I q => (h q.1).run pins s σ H Q I q.2⟩
theorem pe_some {ι : Sort _} {t : ι → TE} {e : Expr} (h : ∀ i, PE X e (t i)) : PE X e (fun σ H Q => ∃ i, t i σ H Q) := ⟨fun pins s σ H Q I ⟨i, q⟩ => (h i).run pins s σ H Q I q⟩
end
/-- the borne exception's facts in an except suite -/
theorem hot_suite {X : Cx} {a : Addr} {oe : Obj} {cls : Value} {d : Option Addr} {pn : List (Addr × Obj)} (hz : L2N.Zn cls d oe) (hf : ∃ vs, oe.data = .fields vs) : Hot1 (X.suite a ((a, oe) :: pn)).A (a, oe) := by
  obtain ⟨vs, hv⟩ := hf
  exact ⟨rfl, vs, hv, hz.2.2 vs hv⟩
end Vx
namespace K08
open PySem PySem.Spec PyProof.Rows L2 Vx
def topS (i : Nat) : Stmt := PySem.Challenge.pw_paircounts_k08_multiples_of_counts.main.body.getD i (.Pass ⟨0, 0, 0, 0⟩)
abbrev st_is_integer : Stmt := topS 16
abbrev N_is_integer : List Str := ["value"]
theorem sc_is_integer : FnScope N_is_integer ["value"] (defScope st_is_integer) := ⟨rfl, rfl, rfl, by decide +kernel, rfl, by decide +kernel, by decide +kernel⟩
abbrev st_check_number : Stmt := topS 17
abbrev N_check_number : List Str := ["value", "least", "greatest"]
theorem sc_check_number : FnScope N_check_number ["value", "least", "greatest"] (defScope st_check_number) := ⟨rfl, rfl, rfl, by decide +kernel, rfl, by decide +kernel, by decide +kernel⟩
abbrev st_is_row : Stmt := topS 20
abbrev N_is_row : List Str := ["value"]
theorem sc_is_row : FnScope N_is_row ["value"] (defScope st_is_row) := ⟨rfl, rfl, rfl, by decide +kernel, rfl, by decide +kernel, by decide +kernel⟩
abbrev st_check_row : Stmt := topS 21
abbrev N_check_row : List Str := ["value"]
theorem sc_check_row : FnScope N_check_row ["value"] (defScope st_check_row) := ⟨rfl, rfl, rfl, by decide +kernel, rfl, by decide +kernel, by decide +kernel⟩
abbrev st_prefix_counts : Stmt := topS 22
abbrev N_prefix_counts : List Str := ["row", "found", "letter"]
theorem sc_prefix_counts : FnScope N_prefix_counts ["row"] (defScope st_prefix_counts) := ⟨rfl, rfl, rfl, by decide +kernel, rfl, by decide +kernel, by decide +kernel⟩
abbrev st_pairs_in : Stmt := topS 23
abbrev N_pairs_in : List Str := ["row", "many_a", "letter"]
theorem sc_pairs_in : FnScope N_pairs_in ["row"] (defScope st_pairs_in) := ⟨rfl, rfl, rfl, by decide +kernel, rfl, by decide +kernel, by decide +kernel⟩
abbrev st_are_counts : Stmt := topS 26
abbrev N_are_counts : List Str := ["many_a", "many_b", "pairs", "value"]
theorem sc_are_counts : FnScope N_are_counts ["many_a", "many_b", "pairs"] (defScope st_are_counts) := ⟨rfl, rfl, rfl, by decide +kernel, rfl, by decide +kernel, by decide +kernel⟩
abbrev st_c_init : Stmt := inClass (topS 27) 0
abbrev N_c_init : List Str := ["self", "many_a", "many_b", "pairs"]
theorem sc_c_init : FnScope N_c_init ["self", "many_a", "many_b", "pairs"] (defScope st_c_init) := ⟨rfl, rfl, rfl, by decide +kernel, rfl, by decide +kernel, by decide +kernel⟩
abbrev st_c_of : Stmt := inClass (topS 27) 1
abbrev N_c_of : List Str := ["cls", "row"]
theorem sc_c_of : FnScope N_c_of ["cls", "row"] (defScope st_c_of) := ⟨rfl, rfl, rfl, by decide +kernel, rfl, by decide +kernel, by decide +kernel⟩
abbrev st_c_many_a : Stmt := inClass (topS 27) 2
abbrev N_c_many_a : List Str := ["self"]
theorem sc_c_many_a : FnScope N_c_many_a ["self"] (defScope st_c_many_a) := ⟨rfl, rfl, rfl, by decide +kernel, rfl, by decide +kernel, by decide +kernel⟩
abbrev st_c_many_b : Stmt := inClass (topS 27) 3
abbrev N_c_many_b : List Str := ["self"]
theorem sc_c_many_b : FnScope N_c_many_b ["self"] (defScope st_c_many_b) := ⟨rfl, rfl, rfl, by decide +kernel, rfl, by decide +kernel, by decide +kernel⟩
abbrev st_c_pairs : Stmt := inClass (topS 27) 4
abbrev N_c_pairs : List Str := ["self"]
theorem sc_c_pairs : FnScope N_c_pairs ["self"] (defScope st_c_pairs) := ⟨rfl, rfl, rfl, by decide +kernel, rfl, by decide +kernel, by decide +kernel⟩
abbrev st_c_add : Stmt := inClass (topS 27) 5
abbrev N_c_add : List Str := ["self", "other", "between"]
theorem sc_c_add : FnScope N_c_add ["self", "other"] (defScope st_c_add) := ⟨rfl, rfl, rfl, by decide +kernel, rfl, by decide +kernel, by decide +kernel⟩
abbrev st_c_mul : Stmt := inClass (topS 27) 6
abbrev N_c_mul : List Str := ["self", "other", "between"]
theorem sc_c_mul : FnScope N_c_mul ["self", "other"] (defScope st_c_mul) := ⟨rfl, rfl, rfl, by decide +kernel, rfl, by decide +kernel, by decide +kernel⟩
abbrev st_check_counts : Stmt := topS 28
abbrev N_check_counts : List Str := ["value"]
theorem sc_check_counts : FnScope N_check_counts ["value"] (defScope st_check_counts) := ⟨rfl, rfl, rfl, by decide +kernel, rfl, by decide +kernel, by decide +kernel⟩
abbrev st_law_reel : Stmt := topS 30
abbrev N_law_reel : List Str := ["script", "stir", "cell", "great"]
theorem sc_law_reel : FnScope N_law_reel ["script"] (defScope st_law_reel) := ⟨rfl, rfl, rfl, by decide +kernel, rfl, by decide +kernel, by decide +kernel⟩
abbrev st_law_draw : Stmt := topS 31
abbrev N_law_draw : List Str := ["reel", "many", "rest", "extra", "stir"]
theorem sc_law_draw : FnScope N_law_draw ["reel", "many"] (defScope st_law_draw) := ⟨rfl, rfl, rfl, by decide +kernel, rfl, by decide +kernel, by decide +kernel⟩
abbrev st_law_word : Stmt := topS 32
abbrev N_law_word : List Str := ["reel", "low", "high", "size", "way", "found", "part", "letter", "at", "turn"]
theorem sc_law_word : FnScope N_law_word ["reel", "low", "high"] (defScope st_law_word) := ⟨rfl, rfl, rfl, by decide +kernel, rfl, by decide +kernel, by decide +kernel⟩
abbrev st_law_counts : Stmt := topS 33
abbrev N_law_counts : List Str := ["text", "ones", "others", "at", "letter", "other"]
theorem sc_law_counts : FnScope N_law_counts ["text"] (defScope st_law_counts) := ⟨rfl, rfl, rfl, by decide +kernel, rfl, by decide +kernel, by decide +kernel⟩
abbrev st_law_three : Stmt := topS 34
abbrev N_law_three : List Str := ["counts"]
theorem sc_law_three : FnScope N_law_three ["counts"] (defScope st_law_three) := ⟨rfl, rfl, rfl, by decide +kernel, rfl, by decide +kernel, by decide +kernel⟩
abbrev st_law_many : Stmt := topS 35
abbrev N_law_many : List Str := ["reel"]
theorem sc_law_many : FnScope N_law_many ["reel"] (defScope st_law_many) := ⟨rfl, rfl, rfl, by decide +kernel, rfl, by decide +kernel, by decide +kernel⟩
abbrev st_law_any : Stmt := topS 36
abbrev N_law_any : List Str := ["reel", "one", "two", "most", "some"]
theorem sc_law_any : FnScope N_law_any ["reel"] (defScope st_law_any) := ⟨rfl, rfl, rfl, by decide +kernel, rfl, by decide +kernel, by decide +kernel⟩
abbrev st_law_made : Stmt := topS 37
abbrev N_law_made : List Str := ["three"]
theorem sc_law_made : FnScope N_law_made ["three"] (defScope st_law_made) := ⟨rfl, rfl, rfl, by decide +kernel, rfl, by decide +kernel, by decide +kernel⟩
abbrev st_law_kind : Stmt := topS 38
abbrev N_law_kind : List Str := ["e", "names", "found", "name", "is_one"]
theorem sc_law_kind : FnScope N_law_kind ["e"] (defScope st_law_kind) := ⟨rfl, rfl, rfl, by decide +kernel, rfl, by decide +kernel, by decide +kernel⟩
abbrev st_law_told : Stmt := topS 39
abbrev N_law_told : List Str := ["counts", "number", "found", "made", "e"]
theorem sc_law_told : FnScope N_law_told ["counts", "number"] (defScope st_law_told) := ⟨rfl, rfl, rfl, by decide +kernel, rfl, by decide +kernel, by decide +kernel⟩
abbrev st_law_rows_right : Stmt := topS 40
abbrev N_law_rows_right : List Str := ["reel", "text", "counts", "number"]
theorem sc_law_rows_right : FnScope N_law_rows_right ["reel", "text"] (defScope st_law_rows_right) := ⟨rfl, rfl, rfl, by decide +kernel, rfl, by decide +kernel, by decide +kernel⟩
abbrev st_law_far_right : Stmt := topS 41
abbrev N_law_far_right : List Str := ["reel", "three", "counts", "number", "one", "two", "before", "after", "steps", "whole", "parts", "odd", "value"]
theorem sc_law_far_right : FnScope N_law_far_right ["reel"] (defScope st_law_far_right) := ⟨rfl, rfl, rfl, by decide +kernel, rfl, by decide +kernel, by decide +kernel⟩
abbrev st_law : Stmt := topS 42
abbrev N_law : List Str := ["script", "reel", "k", "text", "far", "due"]
theorem sc_law : FnScope N_law ["script"] (defScope st_law) := ⟨rfl, rfl, rfl, by decide +kernel, rfl, by decide +kernel, by decide +kernel⟩
end K08
namespace K08
open PySem PySem.Spec PyProof.Rows L2 Vx
section
variable {P : Program} {w : World} {K : PySem.W.Frag} {mg : Str → Option Value} {base : Heap}
def spLaw (K : PySem.W.Frag) : Sp := fun vs H Q _ => ∃ (a : Addr) (ns : List Int), vs = [.ref a] ∧ SqL K H a (ns.map V.int) ∧ ns.length ≤ 63 ∧ ∀ H', Q (.bl true) H'

end
end K08
namespace K08
open PySem PySem.Spec PyProof.Rows L2 Vx
section
variable {P : Program} {w : World} {K : PySem.W.Frag} {mg : Str → Option Value} {base : Heap}
/-- names with their answers, in tuples -/
def PsAt (H : Hp) (ts : List Addr) (ps : List (Str × Bool)) : Prop := ts.length = ps.length ∧ ∀ (i : Nat) (t : Addr) (q : Str × Bool), ts[i]? = some t → ps[i]? = some q → H t = some (.tup [.str q.1, .bl q.2])
theorem PsAt.same {H H' : Hp} {ts : List Addr} {ps : List (Str × Bool)} (s : Same H H') (h : PsAt H ts ps) : PsAt H' ts ps := ⟨h.1, fun i t q a b => s _ _ (h.2 i t q a b)⟩
theorem PsAt.two {H : Hp} {t u : Addr} {x y : Str} {b c : Bool} (e1 : H t = some (.tup [.str x, .bl b])) (e2 : H u = some (.tup [.str y, .bl c])) : PsAt H [t, u] [(x, b), (y, c)] := by
  refine ⟨rfl, fun i v q a d => ?_⟩
  match i, a, d with
  | 0, a, d => cases a; cases d; exact e1
  | 1, a, d => cases a; cases d; exact e2
  | n + 2, a, d => cases a
theorem PsAt.app {H : Hp} {ts us : List Addr} {ps qs : List (Str × Bool)} (h : PsAt H ts ps) (k : PsAt H us qs) : PsAt H (ts ++ us) (ps ++ qs) := by
  refine ⟨by rw [List.length_append, List.length_append, h.1, k.1], fun i t q a b => ?_⟩
  by_cases hi : i < ts.length
  · rw [List.getElem?_append_left hi] at a
    rw [List.getElem?_append_left (by rw [← h.1]; exact hi)] at b
    exact h.2 i t q a b
  · rw [List.getElem?_append_right (by omega)] at a
    rw [List.getElem?_append_right (by rw [← h.1]; omega), ← h.1] at b
    exact k.2 _ t q a b
/-- what the list of names is, by its heap -/
structure NmAt (H0 H : Hp) (L : Addr) (ps : List (Str × Bool)) : Prop where
  same : Same H0 H
  ex : ∃ ts : List Addr, H L = some (.lst (ts.map V.ref)) ∧ PsAt H ts ps
theorem nm_two {H0 H1 H2 H3 H4 : Hp} {t u L : Addr} {x y : Str} {b c : Bool} (s : Same H0 H1) (nt : H1 t = none) (e2 : H2 = upd H1 t (.tup [.str x, .bl b])) (nu : H2 u = none) (e3 : H3 = upd H2 u (.tup [.str y, .bl c])) (nL : H3 L = none) (e4 : H4 = upd H3 L (.lst [.ref t, .ref u])) : NmAt H0 H4 L [(x, b), (y, c)] := by
  have s2 : Same H1 H2 := by rw [e2]; exact same_new nt
  have s3 : Same H2 H3 := by rw [e3]; exact same_new nu
  have s4 : Same H3 H4 := by rw [e4]; exact same_new nL
  refine ⟨s.trans (s2.trans (s3.trans s4)), [t, u], by rw [e4]; exact upd_same, PsAt.two (s4 _ _ (s3 _ _ ?_)) (s4 _ _ ?_)⟩
  · rw [e2]; exact upd_same
  · rw [e3]; exact upd_same
theorem nm_cat {H0 H1 H2 : Hp} {L M u : Addr} {ps qs : List (Str × Bool)} (h : NmAt H0 H1 L ps) (k : NmAt H1 H2 M qs) (nu : H2 u = none) : ∃ xs ys : List V, H2 L = some (.lst xs) ∧ H2 M = some (.lst ys) ∧ xs.length = ps.length ∧ ys.length = qs.length ∧ NmAt H0 (upd H2 u (.lst (xs ++ ys))) u (ps ++ qs) := by
  obtain ⟨s1, ts, e1, p1⟩ := h
  obtain ⟨s2, us, e2, p2⟩ := k
  refine ⟨_, _, s2 _ _ e1, e2, by rw [List.length_map]; exact p1.1, by rw [List.length_map]; exact p2.1, (s1.trans s2).trans (same_new nu), ts ++ us, ?_, ((p1.same s2).app p2).same (same_new nu)⟩
  rw [upd_same, List.map_append]
theorem fil_step {ps : List (Str × Bool)} {i : Nat} {q : Str × Bool} (h : ps[i]? = some q) : ((((ps.take (i + 1)).filter (·.2)).map (·.1)).map V.str) = ((((ps.take i).filter (·.2)).map (·.1)).map V.str) ++ (if q.2 = true then [V.str q.1] else []) := by
  rw [List.take_add_one, h, List.filter_append, List.map_append, List.map_append]
  obtain ⟨x, b⟩ := q
  cases b <;> rfl
/-- the twelve classes and what isinstance says of the class D -/
structure KindOf (K : PySem.W.Frag) (D : Addr) (c0 c1 c2 c3 c4 c5 c6 c7 c8 c9 c10 c11 : Addr) (b0 b1 b2 b3 b4 b5 b6 b7 b8 b9 b10 b11 : Bool) : Prop where
  k0 : PySem.W.kitOne K (.ref D) (.ref c0) = some b0
  k1 : PySem.W.kitOne K (.ref D) (.ref c1) = some b1
  k2 : PySem.W.kitOne K (.ref D) (.ref c2) = some b2
  k3 : PySem.W.kitOne K (.ref D) (.ref c3) = some b3
  k4 : PySem.W.kitOne K (.ref D) (.ref c4) = some b4
  k5 : PySem.W.kitOne K (.ref D) (.ref c5) = some b5
  k6 : PySem.W.kitOne K (.ref D) (.ref c6) = some b6
  k7 : PySem.W.kitOne K (.ref D) (.ref c7) = some b7
  k8 : PySem.W.kitOne K (.ref D) (.ref c8) = some b8
  k9 : PySem.W.kitOne K (.ref D) (.ref c9) = some b9
  k10 : PySem.W.kitOne K (.ref D) (.ref c10) = some b10
  k11 : PySem.W.kitOne K (.ref D) (.ref c11) = some b11
  ve : PySem.W.kitOne K (.ref D) (.type "ValueError") = some true
def kindL (b0 b1 b2 b3 b4 b5 b6 b7 b8 b9 b10 b11 : Bool) : List (Str × Bool) := [(Str.ofString "row", b0), (Str.ofString "counts", b1)] ++ [(Str.ofString "runs", b2), (Str.ofString "swap", b3)] ++ [(Str.ofString "pattern", b4), (Str.ofString "number", b5)] ++ [(Str.ofString "strands", b6), (Str.ofString "command", b7)] ++ [(Str.ofString "different", b8), (Str.ofString "undo", b9)] ++ [(Str.ofString "large", b10), (Str.ofString "text", b11)]
def spKind (a : Addr) (nm : Str) : Sp := fun vs H Q _ => vs = [.ref a] ∧ ∀ H' : Hp, Same H H' → Q (.str nm) H'
theorem kindP {f D E_InvalidRow E_InvalidCounts E_InvalidRuns E_InvalidSwap E_InvalidPattern E_InvalidNumber E_InvalidStrands E_InvalidCommand E_Different E_NothingToUndo E_TooLarge E_InvalidText : Addr} {fd : FuncData} {p : Addr × Obj} {b0 b1 b2 b3 b4 b5 b6 b7 b8 b9 b10 b11 : Bool} {nm : Str} (F : Fun K "_law_kind" "_law_kind" st_law_kind f fd)
    (T_D : ExcC K D) (hz : Zc (.ref D) none p.2) (hf : ∃ vs, p.2.data = .fields vs)
    (kd : KindOf K D E_InvalidRow E_InvalidCounts E_InvalidRuns E_InvalidSwap E_InvalidPattern E_InvalidNumber E_InvalidStrands E_InvalidCommand E_Different E_NothingToUndo E_TooLarge E_InvalidText b0 b1 b2 b3 b4 b5 b6 b7 b8 b9 b10 b11)
    (one : ((kindL b0 b1 b2 b3 b4 b5 b6 b7 b8 b9 b10 b11).filter (·.2)).map (·.1) = [nm])
    (g_InvalidRow : mg "InvalidRow" = some (.ref E_InvalidRow)) (g_InvalidCounts : mg "InvalidCounts" = some (.ref E_InvalidCounts)) (g_InvalidRuns : mg "InvalidRuns" = some (.ref E_InvalidRuns)) (g_InvalidSwap : mg "InvalidSwap" = some (.ref E_InvalidSwap))
    (g_InvalidPattern : mg "InvalidPattern" = some (.ref E_InvalidPattern)) (g_InvalidNumber : mg "InvalidNumber" = some (.ref E_InvalidNumber)) (g_InvalidStrands : mg "InvalidStrands" = some (.ref E_InvalidStrands)) (g_InvalidCommand : mg "InvalidCommand" = some (.ref E_InvalidCommand))
    (g_Different : mg "Different" = some (.ref E_Different)) (g_NothingToUndo : mg "NothingToUndo" = some (.ref E_NothingToUndo)) (g_TooLarge : mg "TooLarge" = some (.ref E_TooLarge)) (g_InvalidText : mg "InvalidText" = some (.ref E_InvalidText))
    (m_isinstance : mg "isinstance" = none) (m_len : mg "len" = none) (m_ValueError : mg "ValueError" = none) : FnP P w K mg base 1 f fd ["e"] (spKind p.1 nm) p := by
  refine okP F sc_law_kind (fun vs H Q E h => ?_) (fun cdv A outer s H vs Q hh hr h => ?_)
  · obtain ⟨rfl, _⟩ := h; rfl
  obtain ⟨rfl, q⟩ := h
  have hp : p ∈ [p] := List.mem_singleton.mpr rfl
  refine ⟨_, (pss_cons (ps_set (i := 1) sc_law_kind.nd rfl (Or.inl rfl) (peq_lst (pa_cons (peq_tup (pa_cons pe_str (pa_cons (pe_callB (call_isP T_D hz hf hp) (by rfl) m_isinstance (by decide +kernel) (pa_cons (pv 0) (pa_cons (pe_glob rfl g_InvalidRow (show RelV (.ref E_InvalidRow) (.ref E_InvalidRow) from rfl)) pa_nil))) pa_nil))) (pa_cons (peq_tup (pa_cons pe_str (pa_cons (pe_callB (call_isP T_D hz hf hp) (by rfl) m_isinstance (by decide +kernel) (pa_cons (pv 0) (pa_cons (pe_glob rfl g_InvalidCounts (show RelV (.ref E_InvalidCounts) (.ref E_InvalidCounts) from rfl)) pa_nil))) pa_nil))) pa_nil))))
    (pss_cons (ps_set (i := 1) sc_law_kind.nd rfl (Or.inl rfl) (pe_op op_cat (pv 1) (peq_lst (pa_cons (peq_tup (pa_cons pe_str (pa_cons (pe_callB (call_isP T_D hz hf hp) (by rfl) m_isinstance (by decide +kernel) (pa_cons (pv 0) (pa_cons (pe_glob rfl g_InvalidRuns (show RelV (.ref E_InvalidRuns) (.ref E_InvalidRuns) from rfl)) pa_nil))) pa_nil))) (pa_cons (peq_tup (pa_cons pe_str (pa_cons (pe_callB (call_isP T_D hz hf hp) (by rfl) m_isinstance (by decide +kernel) (pa_cons (pv 0) (pa_cons (pe_glob rfl g_InvalidSwap (show RelV (.ref E_InvalidSwap) (.ref E_InvalidSwap) from rfl)) pa_nil))) pa_nil))) pa_nil)))))
    (pss_cons (ps_set (i := 1) sc_law_kind.nd rfl (Or.inl rfl) (pe_op op_cat (pv 1) (peq_lst (pa_cons (peq_tup (pa_cons pe_str (pa_cons (pe_callB (call_isP T_D hz hf hp) (by rfl) m_isinstance (by decide +kernel) (pa_cons (pv 0) (pa_cons (pe_glob rfl g_InvalidPattern (show RelV (.ref E_InvalidPattern) (.ref E_InvalidPattern) from rfl)) pa_nil))) pa_nil))) (pa_cons (peq_tup (pa_cons pe_str (pa_cons (pe_callB (call_isP T_D hz hf hp) (by rfl) m_isinstance (by decide +kernel) (pa_cons (pv 0) (pa_cons (pe_glob rfl g_InvalidNumber (show RelV (.ref E_InvalidNumber) (.ref E_InvalidNumber) from rfl)) pa_nil))) pa_nil))) pa_nil)))))
    (pss_cons (ps_set (i := 1) sc_law_kind.nd rfl (Or.inl rfl) (pe_op op_cat (pv 1) (peq_lst (pa_cons (peq_tup (pa_cons pe_str (pa_cons (pe_callB (call_isP T_D hz hf hp) (by rfl) m_isinstance (by decide +kernel) (pa_cons (pv 0) (pa_cons (pe_glob rfl g_InvalidStrands (show RelV (.ref E_InvalidStrands) (.ref E_InvalidStrands) from rfl)) pa_nil))) pa_nil))) (pa_cons (peq_tup (pa_cons pe_str (pa_cons (pe_callB (call_isP T_D hz hf hp) (by rfl) m_isinstance (by decide +kernel) (pa_cons (pv 0) (pa_cons (pe_glob rfl g_InvalidCommand (show RelV (.ref E_InvalidCommand) (.ref E_InvalidCommand) from rfl)) pa_nil))) pa_nil))) pa_nil)))))
    (pss_cons (ps_set (i := 1) sc_law_kind.nd rfl (Or.inl rfl) (pe_op op_cat (pv 1) (peq_lst (pa_cons (peq_tup (pa_cons pe_str (pa_cons (pe_callB (call_isP T_D hz hf hp) (by rfl) m_isinstance (by decide +kernel) (pa_cons (pv 0) (pa_cons (pe_glob rfl g_Different (show RelV (.ref E_Different) (.ref E_Different) from rfl)) pa_nil))) pa_nil))) (pa_cons (peq_tup (pa_cons pe_str (pa_cons (pe_callB (call_isP T_D hz hf hp) (by rfl) m_isinstance (by decide +kernel) (pa_cons (pv 0) (pa_cons (pe_glob rfl g_NothingToUndo (show RelV (.ref E_NothingToUndo) (.ref E_NothingToUndo) from rfl)) pa_nil))) pa_nil))) pa_nil)))))
    (pss_cons (ps_set (i := 1) sc_law_kind.nd rfl (Or.inl rfl) (pe_op op_cat (pv 1) (peq_lst (pa_cons (peq_tup (pa_cons pe_str (pa_cons (pe_callB (call_isP T_D hz hf hp) (by rfl) m_isinstance (by decide +kernel) (pa_cons (pv 0) (pa_cons (pe_glob rfl g_TooLarge (show RelV (.ref E_TooLarge) (.ref E_TooLarge) from rfl)) pa_nil))) pa_nil))) (pa_cons (peq_tup (pa_cons pe_str (pa_cons (pe_callB (call_isP T_D hz hf hp) (by rfl) m_isinstance (by decide +kernel) (pa_cons (pv 0) (pa_cons (pe_glob rfl g_InvalidText (show RelV (.ref E_InvalidText) (.ref E_InvalidText) from rfl)) pa_nil))) pa_nil))) pa_nil)))))
    (pss_cons (ps_setLcH (i := 2) (g := (gTup K 2 (gCons (gName 3) (gCons (gName 4) gNil)))) (own := [("name", 3), ("is_one", 4)]) hh hp sc_law_kind.nd rfl rfl (sw_true rfl rfl rfl (by decide +kernel)) (pi_listH (pv 1)) (blkOk_by (own := [("name", 3), ("is_one", 4)]) (N := N_law_kind) (sc := defScope st_law_kind) (by decide +kernel)) (fun _ _ _ _ _ => (by exact (pg_tupH ⟨p, hh, List.mem_singleton.mpr rfl⟩ (pgs_cons (pg_name (i := 3) sc_law_kind.nd rfl (Or.inl rfl)) (pgs_cons (pg_name (i := 4) sc_law_kind.nd rfl (Or.inl rfl)) pgs_nil))))) (fun _ _ _ _ _ => (pts_one (pt_val (pv 4)))) (fun _ _ _ _ _ => (pv 3)))
    (pss_one (ps_ret (pe_ifExp (PW.pt (pw_and (pt_cmpR op_eq (pe_callB (call_lenK K rfl) (by rfl) m_len PySem.boot_len (pa_cons (pv 2) pa_nil)) pe_int (nomark _)) (pw_and1 (pt_val (pe_callB (call_isP T_D hz hf hp) (by rfl) m_isinstance (by decide +kernel) (pa_cons (pv 0) (pa_cons (pe_bltn (by rfl) m_ValueError (by decide +kernel) (show RelV (.ty "ValueError") (.type "ValueError") from rfl)) pa_nil))))))) (pe_ix (ix_listK K rfl) (pv 2) pe_int (fun _ _ => rfl)) pe_str)))))))))), ?_⟩
  have id2 : ∀ {c : Addr} (u : Value), RelV (.ref c) u → u = .ref c := fun u r => r
  refine ⟨.ref p.1, rfl, .ref _, .ref _, b0, rfl, id2, kd.k0, (by show 2 ≤ sizeLine; decide), fun t1 G1 n1 _ a1 => ?_⟩
  refine ⟨.ref p.1, rfl, .ref _, .ref _, b1, rfl, id2, kd.k1, (by show 2 ≤ sizeLine; decide), fun t2 G2 n2 _ a2 => ⟨(by show 2 ≤ sizeLine; decide), fun L1 G3 n3 _ a3 => ?_⟩⟩
  have N1 := nm_two (fun _ _ h => h) n1 a1 n2 a2 n3 a3
  clear a1 a2 a3 n1 n2 n3
  refine ⟨.ref L1, rfl, .ref p.1, rfl, .ref _, .ref _, b2, rfl, id2, kd.k2, (by show 2 ≤ sizeLine; decide), fun t1 G4 n1 _ a1 => ?_⟩
  refine ⟨.ref p.1, rfl, .ref _, .ref _, b3, rfl, id2, kd.k3, (by show 2 ≤ sizeLine; decide), fun t2 G5 n2 _ a2 => ⟨(by show 2 ≤ sizeLine; decide), fun L2 G6 n3 _ a3 => ?_⟩⟩
  have N2 := nm_two (fun _ _ h => h) n1 a1 n2 a2 n3 a3
  clear a1 a2 a3 n1 n2 n3
  have cat : ∀ {G1 G2 : Hp} {L M : Addr} {ps qs : List (Str × Bool)} {QQ : V → Hp → Prop}, NmAt H G1 L ps → NmAt G1 G2 M qs → ps.length + qs.length ≤ 100 → (∀ u G3, NmAt H G3 u (ps ++ qs) → QQ (.ref u) G3) → rCat (.ref L) (.ref M) G2 QQ := fun {G1 G2 L M ps qs QQ} h k hl hq => by
    obtain ⟨ts, e, hts⟩ := h.ex
    obtain ⟨us, e2, hus⟩ := k.ex
    refine ⟨L, M, ts.map V.ref, us.map V.ref, rfl, rfl, k.same _ _ e, e2, ?_, fun u nu => ?_⟩
    · rw [List.length_map, List.length_map, hts.1, hus.1]; unfold sizeLine; omega
    · obtain ⟨xs, ys, f1, f2, _, _, N⟩ := nm_cat h k nu
      rw [k.same _ _ e] at f1
      rw [e2] at f2
      cases f1
      cases f2
      exact hq u _ N
  refine cat N1 N2 (Nat.le_of_ble_eq_true rfl) fun u1 J1 M1 => ?_
  clear N1 N2
  refine ⟨.ref u1, rfl, .ref p.1, rfl, .ref _, .ref _, b4, rfl, id2, kd.k4, (by show 2 ≤ sizeLine; decide), fun t1 G4 n1 _ a1 => ?_⟩
  refine ⟨.ref p.1, rfl, .ref _, .ref _, b5, rfl, id2, kd.k5, (by show 2 ≤ sizeLine; decide), fun t2 G5 n2 _ a2 => ⟨(by show 2 ≤ sizeLine; decide), fun L2 G6 n3 _ a3 => ?_⟩⟩
  have N2 := nm_two (fun _ _ h => h) n1 a1 n2 a2 n3 a3
  clear a1 a2 a3 n1 n2 n3
  refine cat M1 N2 (Nat.le_of_ble_eq_true rfl) fun u2 J2 M2 => ?_
  clear M1 N2
  refine ⟨.ref u2, rfl, .ref p.1, rfl, .ref _, .ref _, b6, rfl, id2, kd.k6, (by show 2 ≤ sizeLine; decide), fun t1 G4 n1 _ a1 => ?_⟩
  refine ⟨.ref p.1, rfl, .ref _, .ref _, b7, rfl, id2, kd.k7, (by show 2 ≤ sizeLine; decide), fun t2 G5 n2 _ a2 => ⟨(by show 2 ≤ sizeLine; decide), fun L2 G6 n3 _ a3 => ?_⟩⟩
  have N2 := nm_two (fun _ _ h => h) n1 a1 n2 a2 n3 a3
  clear a1 a2 a3 n1 n2 n3
  refine cat M2 N2 (Nat.le_of_ble_eq_true rfl) fun u3 J3 M3 => ?_
  clear M2 N2
  refine ⟨.ref u3, rfl, .ref p.1, rfl, .ref _, .ref _, b8, rfl, id2, kd.k8, (by show 2 ≤ sizeLine; decide), fun t1 G4 n1 _ a1 => ?_⟩
  refine ⟨.ref p.1, rfl, .ref _, .ref _, b9, rfl, id2, kd.k9, (by show 2 ≤ sizeLine; decide), fun t2 G5 n2 _ a2 => ⟨(by show 2 ≤ sizeLine; decide), fun L2 G6 n3 _ a3 => ?_⟩⟩
  have N2 := nm_two (fun _ _ h => h) n1 a1 n2 a2 n3 a3
  clear a1 a2 a3 n1 n2 n3
  refine cat M3 N2 (Nat.le_of_ble_eq_true rfl) fun u4 J4 M4 => ?_
  clear M3 N2
  refine ⟨.ref u4, rfl, .ref p.1, rfl, .ref _, .ref _, b10, rfl, id2, kd.k10, (by show 2 ≤ sizeLine; decide), fun t1 G4 n1 _ a1 => ?_⟩
  refine ⟨.ref p.1, rfl, .ref _, .ref _, b11, rfl, id2, kd.k11, (by show 2 ≤ sizeLine; decide), fun t2 G5 n2 _ a2 => ⟨(by show 2 ≤ sizeLine; decide), fun L2 G6 n3 _ a3 => ?_⟩⟩
  have N2 := nm_two (fun _ _ h => h) n1 a1 n2 a2 n3 a3
  clear a1 a2 a3 n1 n2 n3
  refine cat M4 N2 (Nat.le_of_ble_eq_true rfl) fun u5 J5 M5 => ?_
  clear M4 N2
  obtain ⟨s5, ts, e5, hP⟩ := M5
  obtain ⟨ps, hps⟩ : ∃ ps : List (Str × Bool), ps = (kindL b0 b1 b2 b3 b4 b5 b6 b7 b8 b9 b10 b11) := ⟨_, rfl⟩
  have hP : PsAt J5 ts (kindL b0 b1 b2 b3 b4 b5 b6 b7 b8 b9 b10 b11) := hP
  rw [← hps] at hP one
  have lp : ps.length ≤ 100 := by rw [hps]; exact Nat.le_of_ble_eq_true rfl
  clear hps
  refine ⟨.ref u5, rfl, u5, rfl, ⟨_, SqL.of e5⟩, fun Dn nD => ?_⟩
  refine lc_list (xs := ts.map V.ref) (fun i H' => Same J5 H' ∧ H' Dn = some (.lst ((((ps.take i).filter (·.2)).map (·.1)).map V.str))) ⟨same_new nD, upd_same⟩ (fun i H' _ h => SqL.of (h.1 _ _ e5)) (fun i x H1 hx h => ?_) (fun H1 h => ?_)
  · obtain ⟨s1, eD⟩ := h
    rw [List.getElem?_map] at hx
    obtain ⟨t, ht, rfl⟩ := Option.map_eq_some_iff.mp hx
    have hi := (List.getElem?_eq_some_iff.mp ht).1
    rw [hP.1] at hi
    have hq : ps[i]? = some ps[i] := List.getElem?_eq_getElem hi
    have et := s1 _ _ (hP.2 i t _ ht hq)
    refine ⟨t, _, rfl, SqT.of et, rfl, _, _, rfl, _, _, rfl, rfl, rfl, .bl ps[i].2, rfl, _, rfl, ite2 (fun hb => ?_) (fun hb => ?_)⟩
    · refine ⟨.str ps[i].1, rfl, _, eD, ?_, Same.mut s1 nD, ?_⟩
      · rw [List.length_map, List.length_map]
        have := List.length_filter_le (fun q : Str × Bool => q.2) (ps.take i)
        rw [List.length_take] at this
        unfold sizeLine; omega
      · rw [upd_same, fil_step hq, if_pos hb]
    · refine ⟨s1, ?_⟩
      rw [eD, fil_step hq, if_neg hb, List.append_nil]
  obtain ⟨s1, eD⟩ := h
  rw [List.length_map, hP.1, List.take_length, one] at eD
  refine ⟨.ref Dn, rfl, Dn, _, rfl, SqL.of eD, rfl, true, rfl, ?_⟩
  refine ⟨.ref p.1, rfl, .ty "ValueError", .type "ValueError", true, rfl, (fun u r => r), kd.ve, true, rfl, ?_⟩
  exact ⟨.ref Dn, rfl, Dn, _, 0, .str nm, rfl, rfl, SqL.of eD, rfl, q _ (s5.trans s1)⟩

end
end K08
namespace K08
open PySem PySem.Spec PyProof.Rows L2 Vx
section
variable {P : Program} {w : World} {K : PySem.W.Frag} {mg : Str → Option Value} {base : Heap}
/-- the answer of is_row for a text; False for what is no text -/
def spIsRow (K : PySem.W.Frag) : Sp := fun vs H Q _ => ∃ x, vs = [x] ∧ ((∃ a : List Nat, x = .str (S a) ∧ a.length ≤ 100000 ∧ Q (.bl (rowB a)) H) ∨ (∃ t, TyX K H x t ∧ PySem.W.kitOne K t (.type "str") = some false ∧ Q (.bl false) H))
theorem ok_is_row {f : Addr} {fd : FuncData} {k : Nat} {t200 : Tok} (F : Fun K "is_row" "is_row" st_is_row f fd) (m_isinstance : mg "isinstance" = none) (m_str : mg "str" = none) (m_len : mg "len" = none)
    (g_MOST_LETTERS : mg "MOST_LETTERS" = some (.int 200 t200)) : FnOk P w K mg base CX0 (k + 1) f fd ["value"] (spIsRow K) := by
  refine F.ok sc_is_row (fun vs H Q E h => ?_) (fun cdv A outer s H vs Q E hr h => ?_)
  · obtain ⟨x, rfl, _⟩ := h; rfl
  obtain ⟨x, rfl, h⟩ := h
  refine ⟨_, (pss_cons (ps_if (PW.pt (pw_or (pt_not (pt_val (pe_callB call_isi (by rfl) m_isinstance (by decide +kernel) (pa_cons (pv 0) (pa_cons (pe_bltn (by rfl) m_str (by decide +kernel) (show RelV (.ty "str") (.type "str") from rfl)) pa_nil))))) (pw_or1 (pt_cmpR op_gt (pe_callB call_len_tx (by rfl) m_len PySem.boot_len (pa_cons (pv 0) pa_nil)) (pe_glob rfl g_MOST_LETTERS (show RelV (.int 200) _ from ⟨_, rfl⟩)) (nomark _))))) (pss_one (ps_ret pe_bl)) pss_nil)
    (pss_one (ps_ret (pe_cmpR op_eq (pe_op op_add (pe_m1 PySem.F.slot_str_count PySem.F.type_str_count mt_count_tx (pv 0) pe_str) (pe_m1 PySem.F.slot_str_count PySem.F.type_str_count mt_count_tx (pv 0) pe_str)) (pe_callB call_len_tx (by rfl) m_len PySem.boot_len (pa_cons (pv 0) pa_nil)) (nomark _))))), ?_⟩
  rcases h with ⟨a, rfl, hl, q⟩ | ⟨t, ty, ht, q⟩
  · refine ⟨_, rfl, _, _, _, _, _, rfl, .ty "str", .base (.str _), kit_ty (b := "str") (r := true) (by decide +kernel), true, rfl, ?_⟩
    refine ⟨_, rfl, a, rfl, by omega, _, _, rfl, rfl, _, rfl, ?_⟩
    by_cases hc : a.length ≤ 200
    · rw [show decide ((200 : Int) < (a.length : Int)) = false from decide_eq_false (by omega)]
      refine ⟨_, rfl, ⟨_, rfl⟩, a, 97, rfl, rfl, _, rfl, ⟨_, rfl⟩, a, 98, rfl, rfl, _, _, rfl, rfl, _, rfl, a, rfl, by omega, rfl, ?_⟩
      have e2 : decide (V.int ((a.count 97 : Int) + (a.count 98 : Int)) = V.int (a.length : Int)) = rowB a := by
        have e : (V.int ((a.count 97 : Int) + (a.count 98 : Int)) = V.int (a.length : Int)) ↔ ((a.count 97 : Int) + (a.count 98 : Int) = (a.length : Int)) := ⟨fun z => V.int.inj z, fun z => congrArg V.int z⟩
        rw [decide_eq_decide.mpr e, ab_sum]
        unfold rowB
        rw [decide_eq_true hc, Bool.true_and]
      rw [← e2] at q
      exact q
    · rw [show decide ((200 : Int) < (a.length : Int)) = true from decide_eq_true (by omega)]
      have e : rowB a = false := by unfold rowB; rw [decide_eq_false hc, Bool.false_and]
      rw [e] at q
      exact q
  · refine ⟨_, rfl, _, _, _, _, _, rfl, .ty "str", ty, ht, false, rfl, ?_⟩
    exact q

end
end K08
namespace K08
open PySem PySem.Spec PyProof.Rows L2 Vx
section
variable {P : Program} {w : World} {K : PySem.W.Frag} {mg : Str → Option Value} {base : Heap}
theorem ok_law_reel {f : Addr} {fd : FuncData} {k : Nat} (F : Fun K "_law_reel" "_law_reel" st_law_reel f fd) : FnOk P w K mg base CX0 (k + 1) f fd ["script"] (spReel K) := by
  refine F.ok sc_law_reel (fun vs H Q E h => ?_) (fun cdv A outer s H vs Q E hr h => ?_)
  · obtain ⟨a, ns, rfl, _⟩ := h; rfl
  obtain ⟨a, ns, rfl, hS, hlen, q⟩ := h
  refine ⟨_, (pss_cons (ps_set (i := 1) sc_law_reel.nd rfl (Or.inl rfl) (pe_op op_pow pe_int pe_int))
    (pss_cons (ps_for PassesOwn.never rfl (pi_list (pe_slice sl_list (pv 0) po_none (po_some pe_int))) (pg_name (i := 2) sc_law_reel.nd rfl (Or.inl rfl)) (pss_one (ps_set (i := 1) sc_law_reel.nd rfl (Or.inl rfl) (pe_op op_mod (pe_op op_add (pe_op op_add (pe_op op_mulW (pv 1) (pv 1)) (pe_op op_mod (pv 2) pe_int)) pe_int) (pe_op op_sub (pe_op op_mul (pe_op op_pow pe_int pe_int) (pe_op op_pow pe_int pe_int)) pe_int)))))
    (pss_cons (ps_setLc (i := 3) (own := [("cell", 2)]) rfl sc_law_reel.nd rfl rfl (sw_true rfl rfl rfl (by decide +kernel)) (pi_list (pe_slice sl_list (pv 0) po_none (po_some pe_int))) (blkOk_by (own := [("cell", 2)]) (N := N_law_reel) (sc := defScope st_law_reel) (by decide +kernel)) (fun _ _ _ _ _ => (pg_name (i := 2) sc_law_reel.nd rfl (Or.inl rfl))) (fun _ _ _ _ _ => (pts_one (pt_cmpR op_ge (pv 2) (pe_op op_pow pe_int pe_int) (nomark _)))) (fun _ _ _ _ _ => (pe_op op_sub (pv 2) (pe_op op_pow pe_int pe_int))))
    (pss_one (ps_ret (pe_lst (pa_cons (pv 3) (pa_cons (pe_op op_cat (pe_lc (own := [("cell", 2)]) rfl sc_law_reel.nd (pi_list (pe_slice sl_list (pv 0) po_none (po_some pe_int))) (blkOk_by (own := [("cell", 2)]) (N := N_law_reel) (sc := defScope st_law_reel) (by decide +kernel)) (fun _ _ _ _ _ => (pg_name (i := 2) sc_law_reel.nd rfl (Or.inl rfl))) (fun _ _ _ _ _ => pts_nil) (fun _ _ _ _ _ => (pe_op op_mod (pv 2) pe_int))) (pe_lst (pa_cons pe_int pa_nil))) (pa_cons pe_int (pa_cons (pv 1) pa_nil)))))))))), ?_⟩
  refine ⟨37, 24, rfl, rfl, ⟨by decide, by decide, by decide⟩, ?_⟩
  refine ⟨.ref a, rfl, 59, rfl, a, ns.map V.int, rfl, hS, fun p np => ?_⟩
  have ec : cutV (ns.map V.int) none (some 59) = (ns.take 59).map V.int := by rw [show (59 : Int) = ((59 : Nat) : Int) from rfl, cut_to, List.map_take]
  rw [ec]
  have s1 : Same H (upd H p (.lst ((ns.take 59).map V.int))) := same_new np
  generalize hH1 : upd H p (.lst ((ns.take 59).map V.int)) = H1 at s1 ⊢
  have hp : H1 p = some (.lst ((ns.take 59).map V.int)) := by rw [← hH1]; exact upd_same
  refine ⟨p, rfl, ⟨_, SqL.of hp⟩, for_list (xs := (ns.take 59).map V.int) (fun i σ H' => H' = H1 ∧ ∃ st y2 y3, σ = [some (.ref a), some (.int st), y2, y3] ∧ 0 ≤ st ∧ st < 2 ^ 127)
    ⟨rfl, 37 ^ 24, none, none, rfl, by decide, by decide⟩ (fun i σ H' _ h => by rw [h.1]; exact SqL.of hp) (fun i x σ H' hx h => ?_) (fun σ H' h => ?_)⟩
  · obtain ⟨rfl, st, y2, y3, rfl, l0, l1⟩ := h
    obtain ⟨c, rfl⟩ : ∃ c, x = .int c := by
      rw [List.getElem?_map] at hx
      cases hc : (ns.take 59)[i]? with
      | none => rw [hc] at hx; cases hx
      | some c => rw [hc] at hx; cases hx; exact ⟨c, rfl⟩
    refine ⟨.int st, rfl, .int st, rfl, st, st, rfl, rfl, wide_mul (a := 127) (b := 127) (by omega) (by omega) (by decide) (by decide) (by decide), .int c, rfl, c, 1000000000000000031, rfl, rfl, (by show (0 : Int) < 1000000000000000031; decide),
      _, _, rfl, rfl, _, _, rfl, rfl, 2, 64, rfl, rfl, ⟨by decide, by decide, by decide⟩, 2, 63, rfl, rfl, ⟨by decide, by decide, by decide⟩, _, _, rfl, rfl, .inr ⟨by decide, by decide⟩, _, _, rfl, rfl, _, _, rfl, rfl, bigM_pos, ?_⟩
    exact ⟨rfl, _, some (.int c), y3, rfl, Int.emod_nonneg _ (Int.ne_of_gt bigM_pos), Int.lt_of_lt_of_le (Int.emod_lt_of_pos _ bigM_pos) bigM_le⟩
  · obtain ⟨rfl, st, y2, y3, rfl, l0, l1⟩ := h
    refine ⟨.ref a, rfl, 59, rfl, a, ns.map V.int, rfl, s1.seq hS, fun p2 np2 => ?_⟩
    rw [ec]
    have s2 : Same H (upd H' p2 (.lst ((ns.take 59).map V.int))) := Same.new s1 np2
    generalize hH2 : upd H' p2 (.lst ((ns.take 59).map V.int)) = H2 at s2 ⊢
    have hp2 : H2 p2 = some (.lst ((ns.take 59).map V.int)) := by rw [← hH2]; exact upd_same
    refine ⟨p2, rfl, ⟨_, SqL.of hp2⟩, fun D nD => ?_⟩
    have nDp : p2 ≠ D := ne_of_none hp2 nD
    refine lc_list (xs := (ns.take 59).map V.int) (fun i H' => ∃ gs : List Int, Same H2 H' ∧ H' D = some (.lst (gs.map V.int)) ∧ gs.length ≤ i ∧ ∀ x ∈ gs, 0 ≤ x)
      ⟨[], same_new nD, upd_same, Nat.le_refl _, fun _ h => nomatch h⟩ (fun i H' _ h => by obtain ⟨_, s3, _⟩ := h; exact SqL.of (s3 _ _ hp2)) (fun i x H' hx h => ?_) (fun H' h => ?_)
    · obtain ⟨gs, s3, eD, hl, h0⟩ := h
      obtain ⟨c, rfl⟩ : ∃ c, x = .int c := by
        rw [List.getElem?_map] at hx
        cases hc : (ns.take 59)[i]? with
        | none => rw [hc] at hx; cases hx
        | some c => rw [hc] at hx; cases hx; exact ⟨c, rfl⟩
      have hi : i < 59 := by
        have z := (List.getElem?_eq_some_iff.mp hx).1
        rw [List.length_map, List.length_take] at z
        omega
      refine ⟨rfl, .int c, rfl, 10, 18, rfl, rfl, ⟨by decide, by decide, by decide⟩, _, _, rfl, rfl, _, rfl, ?_⟩
      refine ite2 (fun e => ?_) (fun e => ?_)
      · have e' : (10 : Int) ^ (18 : Int).toNat ≤ c := of_decide_eq_true e
        refine ⟨.int c, rfl, 10, 18, rfl, rfl, ⟨by decide, by decide, by decide⟩, _, _, rfl, rfl, _, eD, by rw [List.length_map]; unfold sizeLine; omega, gs ++ [c - 10 ^ (18 : Int).toNat], Same.mut s3 nD, ?_, ?_, ?_⟩
        · rw [upd_same, List.map_append]; rfl
        · rw [List.length_append]; exact Nat.add_le_add_right hl 1
        · intro x hm
          rcases List.mem_append.mp hm with hm | hm
          · exact h0 x hm
          · have : x = c - 10 ^ (18 : Int).toNat := by simpa using hm
            omega
      · exact ⟨gs, s3, eD, Nat.le_succ_of_le hl, h0⟩
    · obtain ⟨gs, s3, eD, hl, h0⟩ := h
      have s4 : Same H H' := s2.trans s3
      have hl60 : gs.length ≤ 60 := by
        rw [List.length_map, List.length_take] at hl
        omega
      -- the cells
      refine ⟨.ref D, rfl, .ref a, rfl, 59, rfl, a, ns.map V.int, rfl, s4.seq hS, fun p3 np3 => ?_⟩
      rw [ec]
      have s5 : Same H' (upd H' p3 (.lst ((ns.take 59).map V.int))) := same_new np3
      generalize hH3 : upd H' p3 (.lst ((ns.take 59).map V.int)) = H3 at s5 ⊢
      have hp3 : H3 p3 = some (.lst ((ns.take 59).map V.int)) := by rw [← hH3]; exact upd_same
      refine ⟨p3, rfl, ⟨_, SqL.of hp3⟩, fun C nC => ?_⟩
      refine lc_list (xs := (ns.take 59).map V.int) (fun i H' => ∃ cs : List Int, Same H3 H' ∧ H' C = some (.lst (cs.map V.int)) ∧ cs.length = i)
        ⟨[], same_new nC, upd_same, rfl⟩ (fun i H' _ h => by obtain ⟨_, s3, _⟩ := h; exact SqL.of (s3 _ _ hp3)) (fun i x H4 hx h => ?_) (fun H4 h => ?_)
      · obtain ⟨cs, s6, eC, hl2⟩ := h
        obtain ⟨c, rfl⟩ : ∃ c, x = .int c := by
          rw [List.getElem?_map] at hx
          cases hc : (ns.take 59)[i]? with
          | none => rw [hc] at hx; cases hx
          | some c => rw [hc] at hx; cases hx; exact ⟨c, rfl⟩
        have hi : i < 59 := by
          have z := (List.getElem?_eq_some_iff.mp hx).1
          rw [List.length_map, List.length_take] at z
          omega
        refine ⟨rfl, .int c, rfl, c, 1000037, rfl, rfl, (by show (0 : Int) < 1000037; decide), _, eC, by rw [List.length_map]; unfold sizeLine; omega, cs ++ [c % 1000037], Same.mut s6 nC, ?_, ?_⟩
        · rw [upd_same, List.map_append]; rfl
        · rw [List.length_append, hl2]; rfl
      · obtain ⟨cs, s6, eC, hl2⟩ := h
        have hl59 : cs.length ≤ 59 := by
          rw [hl2, List.length_map, List.length_take]; omega
        have s7 : Same H H4 := s4.trans (s5.trans s6)
        have eD4 : H4 D = some (.lst (gs.map V.int)) := s6 _ _ (s5 _ _ eD)
        refine ⟨(by show 1 ≤ sizeLine; decide), fun o no => ?_⟩
        have neo : C ≠ o := ne_of_none eC no
        refine ⟨C, o, cs.map V.int, [.int 71], rfl, rfl, by rw [upd_ne neo]; exact eC, upd_same, by rw [List.length_map]; show cs.length + 1 ≤ sizeLine; unfold sizeLine; omega, fun u nu => ?_⟩
        have s8 : Same H4 (upd (upd H4 o (.lst [.int 71])) u (.lst (cs.map V.int ++ [.int 71]))) := Same.new (same_new no) nu
        generalize hH5 : upd (upd H4 o (.lst [.int 71])) u (.lst (cs.map V.int ++ [.int 71])) = H5 at s8 ⊢
        have eu : H5 u = some (.lst ((cs ++ [71]).map V.int)) := by rw [← hH5, upd_same, List.map_append]; rfl
        refine ⟨.int st, rfl, (by show 4 ≤ sizeLine; decide), fun r nr => ?_⟩
        have s9 : Same H5 (upd H5 r (.lst [.ref D, .ref u, .int 0, .int st])) := same_new nr
        have nr0 : H r = none := by
          cases e : H r with
          | none => rfl
          | some o => rw [s8 _ _ (s7 _ _ e)] at nr; cases nr
        refine q r _ (s7.trans (s8.trans s9)) nr0 ⟨D, u, gs, cs ++ [71], 0, st, ⟨upd_same, ne_of_none (s8 _ _ eD4) nr, ne_of_none eu nr, s9 _ _ (s8 _ _ eD4), s9 _ _ eu, hl60, h0, ?_, l0, l1⟩⟩
        rw [List.length_append]; show 1 ≤ cs.length + 1 ∧ cs.length + 1 ≤ 60; omega

end
end K08
namespace K08
open PySem PySem.Spec PyProof.Rows L2 Vx
section
variable {P : Program} {w : World} {K : PySem.W.Frag} {mg : Str → Option Value} {base : Heap}
theorem ok_law_draw {f : Addr} {fd : FuncData} {k : Nat} (F : Fun K "_law_draw" "_law_draw" st_law_draw f fd) (m_int : mg "int" = none) (m_len : mg "len" = none) : FnOk P w K mg base CX0 (k + 1) f fd ["reel", "many"] spDraw := by
  refine F.ok sc_law_draw (fun vs H Q E h => ?_) (fun cdv A outer s H vs Q E hr h => ?_)
  · obtain ⟨r, m, rfl, _⟩ := h; rfl
  obtain ⟨r, m, rfl, ⟨g, c, gs, cs, n, st, R⟩, hm, hmb, q⟩ := h
  have m0 : (0 : Int) < m := by omega
  refine ⟨_, (pss_cons (ps_if (pt_cmpR (op_neD hr.units) (pe_ix ix_list (pv 0) pe_int (fun _ _ => rfl)) (pe_lst pa_nil) (nomark _)) (pss_cons (ps_set (i := 2) sc_law_draw.nd rfl (Or.inl rfl) (pe_ix ix_list (pe_ix ix_list (pv 0) pe_int (fun _ _ => rfl)) pe_int (fun _ _ => rfl)))
    (pss_cons (ps_asg (pe_op op_cat (pe_op op_rep (pe_lst (pa_cons (pe_op op_fdivW (pv 2) (pv 1)) pa_nil)) (pe_callTy call_int1 (by rfl) m_int (by decide +kernel) (pa_cons (pe_cmpR op_ge (pv 2) (pv 1) (nomark _)) pa_nil))) (pe_slice sl_list (pe_ix ix_list (pv 0) pe_int (fun _ _ => rfl)) (po_some pe_int) po_none)) (pg_sub (pv 0) pe_int set_list))
    (pss_one (ps_ret (pe_op op_mod (pv 2) (pv 1)))))) pss_nil)
    (pss_cons (ps_asg (pe_op op_add (pe_ix ix_list (pv 0) pe_int (fun _ _ => rfl)) pe_int) (pg_sub (pv 0) pe_int set_list))
    (pss_cons (ps_set (i := 3) sc_law_draw.nd rfl (Or.inl rfl) (pe_ix ix_list (pe_ix ix_list (pv 0) pe_int (fun _ _ => rfl)) (pe_op op_mod (pe_ix ix_list (pv 0) pe_int (fun _ _ => rfl)) (pe_callB call_len_seq (by rfl) m_len PySem.boot_len (pa_cons (pe_ix ix_list (pv 0) pe_int (fun _ _ => rfl)) pa_nil))) (fun _ _ => rfl)))
    (pss_cons (ps_set (i := 4) sc_law_draw.nd rfl (Or.inl rfl) (pe_op op_add (pe_op op_add (pe_op op_mulW (pe_ix ix_list (pv 0) pe_int (fun _ _ => rfl)) (pe_ix ix_list (pv 0) pe_int (fun _ _ => rfl))) (pe_op op_mul (pe_op op_add (pv 3) pe_int) pe_int)) (pe_op op_mul (pe_ix ix_list (pv 0) pe_int (fun _ _ => rfl)) pe_int)))
    (pss_cons (ps_asg (pe_op op_mod (pv 4) (pe_op op_sub (pe_op op_mul (pe_op op_pow pe_int pe_int) (pe_op op_pow pe_int pe_int)) pe_int)) (pg_sub (pv 0) pe_int set_list))
    (pss_one (ps_ret (pe_op op_mod (pe_op op_fdivW (pe_ix ix_list (pv 0) pe_int (fun _ _ => rfl)) (pe_op op_pow pe_int pe_int)) (pv 1))))))))), ?_⟩
  refine ⟨.ref r, rfl, r, _, 0, .ref g, rfl, rfl, SqL.of R.at_r, rfl, Nat.zero_le _, fun p np => ?_⟩
  have s1 : Same H (upd H p (.lst [])) := same_new np
  have ep : (upd H p (.lst [])) p = some (.lst []) := upd_same
  generalize upd H p (.lst []) = H1 at s1 ep ⊢
  refine ⟨.list (gs.map .int), .list [], .lst (SqL.of (s1 _ _ R.at_g)) (dp_ints gs), .lst (SqL.of ep) .nil, shaped_ints gs, shaped_nil, _, rfl, ?_⟩
  rw [eqv_nil]
  have k1 : Keep r H H1 := .of s1
  have e1 := s1 _ _ R.at_r
  have g1 := s1 _ _ R.at_g
  have c1 := s1 _ _ R.at_c
  cases gs with
  | cons x rest =>
    have x0 : 0 ≤ x := R.pos_g x List.mem_cons_self
    refine ⟨.ref r, rfl, r, _, 0, .ref g, rfl, rfl, SqL.of e1, rfl, g, _, 0, .int x, rfl, rfl, SqL.of g1, at_of (j := 0) rfl rfl, ?_⟩
    refine ⟨.int x, rfl, .int m, rfl, x, m, rfl, rfl, wide_div m0 hmb (by decide) (by decide), (by show 1 ≤ sizeLine; decide), fun p1 np1 => ?_⟩
    have s2 : Same H1 (upd H1 p1 (.lst [.int (x / m)])) := same_new np1
    have ep1 : (upd H1 p1 (.lst [.int (x / m)])) p1 = some (.lst [.int (x / m)]) := upd_same
    generalize upd H1 p1 (.lst [.int (x / m)]) = H2 at s2 ep1 ⊢
    refine ⟨.int x, rfl, .int m, rfl, _, _, rfl, rfl, .inr ⟨_, rfl, ?_⟩⟩
    have hk : (if decide (m ≤ x) = true then (1 : Int) else 0) = 0 ∨ (if decide (m ≤ x) = true then (1 : Int) else 0) = 1 := by
      by_cases h : m ≤ x
      · right; rw [decide_eq_true h]; rfl
      · left; rw [decide_eq_false h]; rfl
    generalize (if decide (m ≤ x) = true then (1 : Int) else 0) = kk at hk ⊢
    refine ⟨p1, kk, _, rfl, rfl, ep1, by omega, by omega, ?_, fun p2 np2 => ?_⟩
    · show 1 * kk.toNat ≤ sizeLine
      unfold sizeLine; omega
    obtain ⟨hd, ehd, lhd, phd⟩ : ∃ hd : List Int, (List.replicate kk.toNat [V.int (x / m)]).flatten = hd.map V.int ∧ hd.length ≤ 1 ∧ ∀ y ∈ hd, 0 ≤ y := by
      rcases hk with rfl | rfl
      · exact ⟨[], rfl, by decide, fun _ h => nomatch h⟩
      · refine ⟨[x / m], rfl, Nat.le_refl 1, fun y hy => ?_⟩
        have : y = x / m := by simpa using hy
        rw [this]; exact Int.ediv_nonneg x0 (Int.le_of_lt m0)
    rw [ehd]
    have s3 : Same H2 (upd H2 p2 (.lst (hd.map V.int))) := same_new np2
    have ep2 : (upd H2 p2 (.lst (hd.map V.int))) p2 = some (.lst (hd.map V.int)) := upd_same
    generalize upd H2 p2 (.lst (hd.map V.int)) = H3 at s3 ep2 ⊢
    have s13 : Same H1 H3 := s2.trans s3
    refine ⟨.ref r, rfl, r, _, 0, .ref g, rfl, rfl, SqL.of (s13 _ _ e1), rfl, 1, rfl, g, _, rfl, SqL.of (s13 _ _ g1), fun p3 np3 => ?_⟩
    have ecut : cutV ((x :: rest).map V.int) (some 1) none = rest.map V.int := by rw [show (1 : Int) = ((1 : Nat) : Int) from rfl, cut_from]; rfl
    rw [ecut]
    have s4 : Same H3 (upd H3 p3 (.lst (rest.map V.int))) := same_new np3
    have ep3 : (upd H3 p3 (.lst (rest.map V.int))) p3 = some (.lst (rest.map V.int)) := upd_same
    have ep2' := s4 _ _ ep2
    generalize upd H3 p3 (.lst (rest.map V.int)) = H4 at s4 ep3 ep2' ⊢
    have hlen : rest.length + 1 ≤ 60 := R.len_g
    refine ⟨p2, p3, _, _, rfl, rfl, ep2', ep3, ?_, fun u nu => ?_⟩
    · rw [List.length_map, List.length_map]; unfold sizeLine; omega
    rw [← List.map_append]
    have s5 : Same H4 (upd H4 u (.lst ((hd ++ rest).map V.int))) := same_new nu
    have eu : (upd H4 u (.lst ((hd ++ rest).map V.int))) u = some (.lst ((hd ++ rest).map V.int)) := upd_same
    have s15 : Same H1 H4 := s13.trans s4
    have neu : r ≠ u := ne_of_none (s15 _ _ e1) nu
    generalize upd H4 u (.lst ((hd ++ rest).map V.int)) = H5 at s5 eu ⊢
    have s16 : Same H1 H5 := s15.trans s5
    refine ⟨.ref r, rfl, r, _, _, 0, rfl, rfl, s16 _ _ e1, rfl, ?_⟩
    refine ⟨.int x, rfl, .int m, rfl, x, m, rfl, rfl, m0, ?_⟩
    refine q (x % m) _ (Int.emod_nonneg _ (by omega)) (Int.emod_lt_of_pos _ m0) ⟨k1.trans (Keep.put (Keep.of s16)), fun D hD nD hO g' c' y z e => ?_⟩ ⟨u, c, hd ++ rest, cs, n, st, ⟨upd_same, neu.symm, R.ne_c, by rw [upd_ne neu.symm]; exact eu, by rw [upd_ne R.ne_c]; exact s16 _ _ c1, ?_, ?_, R.len_c, R.lo, R.hi⟩⟩
    · obtain ⟨o, hD⟩ := hD
      rw [upd_same] at e
      cases e
      exact ⟨ne_of_none (s15 _ _ (s1 _ _ hD)) nu, (hO _ _ _ _ R.at_r).2⟩
    · rw [List.length_append]; omega
    · intro y hy
      rcases List.mem_append.mp hy with hy | hy
      · exact phd y hy
      · exact R.pos_g y (List.mem_cons_of_mem _ hy)
  | nil =>
    obtain ⟨lc1, lc2⟩ := R.len_c
    refine ⟨.ref r, rfl, r, _, 2, .int n, rfl, rfl, SqL.of e1, rfl, n, 1, rfl, rfl, ?_⟩
    refine ⟨.ref r, rfl, r, _, 2, 2, rfl, rfl, e1, rfl, ?_⟩
    have k2 : Keep r H (upd H1 r (.lst [.ref g, .ref c, .int (n + 1), .int st])) := Keep.put k1
    have e2 : (upd H1 r (.lst [.ref g, .ref c, .int (n + 1), .int st])) r = some (.lst [.ref g, .ref c, .int (n + 1), .int st]) := upd_same
    show L2.tSeq _ _ _ _ (upd H1 r (.lst [.ref g, .ref c, .int (n + 1), .int st]))
    generalize upd H1 r (.lst [.ref g, .ref c, .int (n + 1), .int st]) = H2 at k2 e2 ⊢
    have c2 : H2 c = some (.lst (cs.map V.int)) := k2 _ _ R.ne_c R.at_c
    have g2 : H2 g = some (.lst (([] : List Int).map V.int)) := k2 _ _ R.ne_g R.at_g
    obtain ⟨j, hj, ej⟩ : ∃ j : Nat, j < cs.length ∧ (n + 1) % (((cs.map V.int).length : Nat) : Int) = (j : Int) := by
      rw [List.length_map]
      refine ⟨((n + 1) % (cs.length : Int)).toNat, ?_, ?_⟩
      · have h1 := Int.emod_nonneg (n + 1) (show (cs.length : Int) ≠ 0 by omega)
        have h2 := Int.emod_lt_of_pos (n + 1) (show (0 : Int) < cs.length by omega)
        omega
      · have h1 := Int.emod_nonneg (n + 1) (show (cs.length : Int) ≠ 0 by omega)
        omega
    have ec : (cs.map V.int)[j]? = some (.int cs[j]) := by rw [List.getElem?_map, List.getElem?_eq_getElem hj]; rfl
    refine ⟨.ref r, rfl, r, _, 1, .ref c, rfl, rfl, SqL.of e2, rfl, .ref r, rfl, r, _, 2, .int (n + 1), rfl, rfl, SqL.of e2, rfl, .ref r, rfl, r, _, 1, .ref c, rfl, rfl, SqL.of e2, rfl,
      c, _, rfl, .inl (SqL.of c2), _, _, rfl, rfl, ?_, c, _, _, .int cs[j], rfl, rfl, SqL.of c2, at_of ej ec, ?_⟩
    · show (0 : Int) < ((cs.map V.int).length : Nat)
      rw [List.length_map]; omega
    refine ⟨.ref r, rfl, r, _, 3, .int st, rfl, rfl, SqL.of e2, rfl, .ref r, rfl, r, _, 3, .int st, rfl, rfl, SqL.of e2, rfl, st, st, rfl, rfl, wide_mul (bits127 R.lo R.hi) (bits127 R.lo R.hi) (by decide) (by decide) (by decide),
      .int cs[j], rfl, _, _, rfl, rfl, _, _, rfl, rfl, .inr ⟨by decide, by decide⟩, _, _, rfl, rfl, .ref r, rfl, r, _, 2, .int (n + 1), rfl, rfl, SqL.of e2, rfl, _, _, rfl, rfl, .inr ⟨by decide, by decide⟩, _, _, rfl, rfl, ?_⟩
    refine ⟨.int (st * st + (cs[j] + 17) * 122949823 + (n + 1) * 999979), rfl, 2, 64, rfl, rfl, ⟨by decide, by decide, by decide⟩, 2, 63, rfl, rfl, ⟨by decide, by decide, by decide⟩, _, _, rfl, rfl, .inr ⟨by decide, by decide⟩, _, _, rfl, rfl, _, _, rfl, rfl, bigM_pos, ?_⟩
    obtain ⟨big, hbig⟩ : ∃ big, st * st + (cs[j] + 17) * 122949823 + (n + 1) * 999979 = big := ⟨_, rfl⟩
    rw [hbig]
    have b0 := Int.emod_nonneg big (Int.ne_of_gt bigM_pos)
    have b1 := Int.lt_of_lt_of_le (Int.emod_lt_of_pos big bigM_pos) bigM_le
    refine ⟨.ref r, rfl, r, _, 3, 3, rfl, rfl, e2, rfl, ?_⟩
    generalize hX : upd H2 r (HO.lst ([V.ref g, V.ref c, V.int (n + 1), V.int st].set 3 _)) = H3
    have k3 : Keep r H H3 := by rw [← hX]; exact Keep.put k2
    have e3 : H3 r = some (.lst [.ref g, .ref c, .int (n + 1), .int (big % (2 ^ (64 : Int).toNat * 2 ^ (63 : Int).toNat - 1))]) := by rw [← hX]; exact upd_same
    clear hX
    generalize big % (2 ^ (64 : Int).toNat * 2 ^ (63 : Int).toNat - 1) = st' at b0 b1 e3
    refine ⟨.ref r, rfl, r, _, 3, .int st', rfl, rfl, SqL.of e3, rfl, 2, 45, rfl, rfl, ⟨by decide, by decide, by decide⟩, _, _, rfl, rfl, wide_div (b := 46) (by decide) (by decide) (by decide) (by decide), .int m, rfl, _, _, rfl, rfl, m0, ?_⟩
    exact q _ _ (Int.emod_nonneg _ (by omega)) (Int.emod_lt_of_pos _ m0) ⟨k3, fun D _ _ hO g' c' y z e => by rw [e3] at e; cases e; exact hO _ _ _ _ R.at_r⟩ ⟨g, c, [], cs, n + 1, st', ⟨e3, R.ne_g, R.ne_c, k3 _ _ R.ne_g R.at_g, k3 _ _ R.ne_c R.at_c, by decide, (fun _ h => nomatch h), R.len_c, b0, b1⟩⟩

end
end K08
namespace K08
open PySem PySem.Spec PyProof.Rows L2 Vx
section
variable {P : Program} {w : World} {K : PySem.W.Frag} {mg : Str → Option Value} {base : Heap}
theorem word_item (wy : Int) (h0 : 0 ≤ wy) (h6 : wy < 6) (h4 : wy ≠ 4) : ∃ L : List Nat, atI [V.str (S [97, 98]), .str (S [97, 97, 97, 97, 98]), .str (S [97, 98]), .str (S [98, 98, 98, 97]), .str (S []), .str (S [98])] wy = some (.str (S L)) ∧ abs L = true ∧ 1 ≤ L.length ∧ L.length ≤ 5 := by
  have : wy = 0 ∨ wy = 1 ∨ wy = 2 ∨ wy = 3 ∨ wy = 5 := by omega
  rcases this with rfl | rfl | rfl | rfl | rfl
  · exact ⟨[97, 98], at_of (j := 0) rfl rfl, rfl, by decide, by decide⟩
  · exact ⟨[97, 97, 97, 97, 98], at_of (j := 1) rfl rfl, rfl, by decide, by decide⟩
  · exact ⟨[97, 98], at_of (j := 2) rfl rfl, rfl, by decide, by decide⟩
  · exact ⟨[98, 98, 98, 97], at_of (j := 3) rfl rfl, rfl, by decide, by decide⟩
  · exact ⟨[98], at_of (j := 5) rfl rfl, rfl, by decide, by decide⟩
theorem word_times (wy d : Int) (h0 : 0 ≤ wy) (h6 : wy < 6) (d0 : 0 ≤ d) (d9 : d < 9) : ∃ e : Nat, atI [V.int 1, .int 1, .int (1 + d), .int 1, .int 1, .int 1] wy = some (.int (e : Int)) ∧ 1 ≤ e ∧ e ≤ 9 := by
  have : wy = 0 ∨ wy = 1 ∨ wy = 2 ∨ wy = 3 ∨ wy = 4 ∨ wy = 5 := by omega
  rcases this with rfl | rfl | rfl | rfl | rfl | rfl
  · exact ⟨1, at_of (j := 0) rfl rfl, by decide, by decide⟩
  · exact ⟨1, at_of (j := 1) rfl rfl, by decide, by decide⟩
  · refine ⟨(1 + d).toNat, at_of (j := 2) rfl ?_, by omega, by omega⟩
    show some (V.int (1 + d)) = some (V.int (((1 + d).toNat : Nat) : Int))
    rw [Int.toNat_of_nonneg (by omega)]
  · exact ⟨1, at_of (j := 3) rfl rfl, by decide, by decide⟩
  · exact ⟨1, at_of (j := 4) rfl rfl, by decide, by decide⟩
  · exact ⟨1, at_of (j := 5) rfl rfl, by decide, by decide⟩
def wordMu (n : Nat) : L2.St → Hp → Nat := fun σ _ => match σ[5]? with
  | some (some (V.str x)) => n - x.length
  | _ => 0
theorem ok_law_word {f fD : Addr} {fd fdD : FuncData} {k : Nat} (F : Fun K "_law_word" "_law_word" st_law_word f fd) (F_law_draw : Fun K "_law_draw" "_law_draw" st_law_draw fD fdD) (G_law_draw : FnOk P w K mg base CX0 1 fD fdD ["reel", "many"] spDraw)
    (b_law_draw : Binds K fdD ["reel", "many"] []) (g_law_draw : mg "_law_draw" = some (.ref fD)) (m_range : mg "range" = none) (m_len : mg "len" = none) : FnOk P w K mg base CX0 (k + 2) f fd ["reel", "low", "high"] spWord := by
  refine F.ok sc_law_word (fun vs H Q E h => ?_) (fun cdv A outer s H vs Q E hr h => ?_)
  · obtain ⟨r, lo, hi, rfl, _⟩ := h; rfl
  obtain ⟨r, lo, hi, rfl, R, l0, lh, h3, q⟩ := h
  refine ⟨_, (pss_cons (ps_par3 (i := 3) (j := 4) (l := 5) (by rfl) sc_law_word.nd rfl rfl rfl (by decide) (by decide) (by decide) rfl rfl rfl (pa_cons (pe_op op_add (pv 1) (pe_call G_law_draw (hr.mono (by omega)) (by rfl) g_law_draw F_law_draw.kp b_law_draw .nil pass0 (pa_cons (pv 0) (pa_cons (pe_op op_add (pe_op op_sub (pv 2) (pv 1)) pe_int) pa_nil)))) (pa_cons (pe_call G_law_draw (hr.mono (by omega)) (by rfl) g_law_draw F_law_draw.kp b_law_draw .nil pass0 (pa_cons (pv 0) (pa_cons pe_int pa_nil))) (pa_cons pe_str pa_nil))) (by rfl))
    (pss_cons (ps_if (pt_cmpR op_eq (pv 4) pe_int (nomark _)) (pss_cons (ps_set (i := 6) sc_law_word.nd rfl (Or.inl rfl) (pe_join pe_str (pe_lc (own := [("turn", 9)]) rfl sc_law_word.nd (pi_range1 rfl m_range (pa_cons (pe_op op_add pe_int (pe_call G_law_draw (hr.mono (by omega)) (by rfl) g_law_draw F_law_draw.kp b_law_draw .nil pass0 (pa_cons (pv 0) (pa_cons pe_int pa_nil)))) pa_nil)) (blkOk_by (own := [("turn", 9)]) (N := N_law_word) (sc := defScope st_law_word) (by decide +kernel)) (fun _ _ _ _ _ => (pg_name (i := 9) sc_law_word.nd rfl (Or.inl rfl))) (fun _ _ _ _ _ => pts_nil) (fun _ _ _ _ _ => (pe_ix ix_tx pe_str (pe_call G_law_draw (hr.mono (by omega)) (by rfl) g_law_draw F_law_draw.kp b_law_draw .nil pass0 (pa_cons (pv 0) (pa_cons pe_int pa_nil))) (fun _ _ => rfl))))))
    (pss_one (ps_ret (pe_slice sl_tx (pe_op op_rep_str (pv 6) (pv 3)) po_none (po_some (pv 3)))))) pss_nil)
    (pss_cons (ps_while PassesOwn.never (pt_cmpR op_lt (pe_callB call_len_tx (by rfl) m_len PySem.boot_len (pa_cons (pv 5) pa_nil)) (pv 3) (nomark _)) (pss_cons (ps_set (i := 7) sc_law_word.nd rfl (Or.inl rfl) (pe_ix ix_list (pe_lst (pa_cons pe_str (pa_cons pe_str (pa_cons pe_str (pa_cons pe_str (pa_cons pe_str (pa_cons pe_str pa_nil))))))) (pv 4) (fun _ _ => rfl)))
    (pss_cons (ps_set (i := 7) sc_law_word.nd rfl (Or.inl rfl) (pe_ix ix_tx (pv 7) (pe_call G_law_draw (hr.mono (by omega)) (by rfl) g_law_draw F_law_draw.kp b_law_draw .nil pass0 (pa_cons (pv 0) (pa_cons (pe_callB call_len_tx (by rfl) m_len PySem.boot_len (pa_cons (pv 7) pa_nil)) pa_nil))) (fun _ _ => rfl)))
    (pss_one (ps_set (i := 5) sc_law_word.nd rfl (Or.inl rfl) (pe_op op_add_tx (pv 5) (pe_op op_rep_str (pv 7) (pe_ix ix_list (pe_lst (pa_cons pe_int (pa_cons pe_int (pa_cons (pe_op op_add pe_int (pe_call G_law_draw (hr.mono (by omega)) (by rfl) g_law_draw F_law_draw.kp b_law_draw .nil pass0 (pa_cons (pv 0) (pa_cons pe_int pa_nil)))) (pa_cons pe_int (pa_cons pe_int (pa_cons pe_int pa_nil))))))) (pv 4) (fun _ _ => rfl)))))))))
    (pss_cons (ps_set (i := 8) sc_law_word.nd rfl (Or.inl rfl) (pe_call G_law_draw (hr.mono (by omega)) (by rfl) g_law_draw F_law_draw.kp b_law_draw .nil pass0 (pa_cons (pv 0) (pa_cons (pe_op op_add (pv 3) pe_int) pa_nil))))
    (pss_one (ps_ret (pe_ifExp (pt_cmpR op_eq (pv 4) pe_int (nomark _)) (pe_slice sl_tx (pe_op op_add_tx (pe_op op_add_tx (pe_slice sl_tx (pv 5) po_none (po_some (pv 8))) pe_str) (pe_slice sl_tx (pv 5) (po_some (pe_op op_add (pv 8) pe_int)) po_none)) po_none (po_some (pv 3))) (pe_slice sl_tx (pv 5) po_none (po_some (pv 3)))))))))), ?_⟩
  refine ⟨.int lo, rfl, .ref r, rfl, .int hi, rfl, .int lo, rfl, hi, lo, rfl, rfl, hi - lo, 1, rfl, rfl, r, hi - lo + 1, rfl, R, by omega, b8k (by omega) (by omega), fun d H1 d0 d1 k1 R1 => ?_⟩
  refine ⟨lo, d, rfl, rfl, .ref r, rfl, r, 6, rfl, R1, by decide, b8k (by decide) (by decide), fun wy H2 w0 w6 k2 R2 => ?_⟩
  refine ⟨.int (lo + d), .int wy, .str (S []), rfl, ?_⟩
  obtain ⟨n, hn⟩ : ∃ n : Nat, lo + d = (n : Int) := ⟨(lo + d).toNat, by omega⟩
  rw [hn]
  have k12 : Step r H H2 := k1.trans k2
  have n3 : n ≤ 300 := by omega
  refine ⟨.int wy, rfl, rfl, _, rfl, ite2 (fun e => ?_) (fun e => ?_)⟩
  · -- a part again and again
    refine ⟨⟨_, rfl⟩, .ref r, rfl, r, 5, rfl, R2, by decide, b8k (by decide) (by decide), fun d2 H3 d20 d25 k3 R3 => ?_⟩
    have k13 : Step r H H3 := k12.trans k3
    refine ⟨1, d2, rfl, rfl, 1 + d2, rfl, by omega, by omega, fun D nD => ?_⟩
    have nDr : D ≠ r := R3.ne nD
    refine lc_range (lo := 0) (n := (1 + d2).toNat) (fun i H' => ∃ ps : List (List Nat), H' D = some (.lst (ps.map fun p => V.str (S p))) ∧ ps.length = i ∧ (∀ p ∈ ps, p.length = 1 ∧ abs p = true) ∧ Step r H3 H' ∧ Reel H' r ∧ Off H' r D)
      ⟨[], upd_same, rfl, (fun _ h => nomatch h), Step.same R3 (same_new nD), R3.mono (same_new nD), Off.upd (Off.new R3 nD) nDr⟩ (fun i H' hi h => ?_) (fun H' h => ?_)
    · obtain ⟨ps, eD, hl, hp, kk, RR, oD⟩ := h
      refine ⟨rfl, .ref r, rfl, r, 2, rfl, RR, by decide, b8k (by decide) (by decide), fun d3 H4 d30 d32 k4 R4 => ?_⟩
      obtain ⟨j, hj⟩ : ∃ j : Nat, d3 = (j : Int) := ⟨d3.toNat, by omega⟩
      subst hj
      have hc : ∃ c, ([97, 98] : List Nat)[j]? = some c ∧ abs [c] = true := by
        have : j = 0 ∨ j = 1 := by omega
        rcases this with rfl | rfl
        · exact ⟨97, rfl, rfl⟩
        · exact ⟨98, rfl, rfl⟩
      obtain ⟨c, hc, hab⟩ := hc
      have eD4 := k4.keep _ _ nDr eD
      have oD4 := k4.sep D ⟨_, eD⟩ nDr oD
      refine ⟨[97, 98], j, c, rfl, rfl, by decide, hc, _, eD4, by rw [List.length_map, hl]; unfold sizeLine; omega, ps ++ [[c]], by rw [upd_same, List.map_append]; rfl, by rw [List.length_append, hl]; rfl,
        (fun p hm => ?_), Step.mut (kk.trans k4) nD nDr, R4.upd nDr oD4, Off.upd oD4 nDr⟩
      rcases List.mem_append.mp hm with hm | hm
      · exact hp p hm
      · have : p = [c] := by simpa using hm
        rw [this]; exact ⟨rfl, hab⟩
    · obtain ⟨ps, eD, hl, hp, kk, RR, oD⟩ := h
      have eps : (ps.map fun p => V.str (S p)) = (ps.map S).map V.str := by rw [List.map_map]; rfl
      have hsum : ((ps.map S).map (·.length)).sum = ps.length := by
        rw [SX.lens]
        clear eps eD hl
        induction ps with
        | nil => rfl
        | cons p t ih => rw [List.map_cons, List.sum_cons, ih fun q hq => hp q (List.mem_cons_of_mem _ hq), (hp p List.mem_cons_self).1, List.length_cons]; omega
      have hl9 : ps.length ≤ 5 := by omega
      have hl1 : 1 ≤ ps.length := by omega
      refine ⟨S [], D, ps.map S, rfl, rfl, .inl (SqL.of (by rw [eD, eps])), ?_, ?_⟩
      · rw [hsum]; show ps.length + (ps.map S).length * 0 ≤ 16777216; omega
      rw [SX.join_S, joinL_nil]
      have hfl : ps.flatten.length = ps.length := len_flatten1 fun p hq => (hp p hq).1
      have hfa : abs ps.flatten = true := abs_flatten fun p hq => (hp p hq).2
      generalize ps.flatten = part at hfl hfa ⊢
      refine ⟨.str (S part), rfl, .int n, rfl, part, n, rfl, rfl, by omega, by omega, ?_, .int n, rfl, n, rfl, _, rfl, ?_, ?_⟩
      · rw [Int.toNat_natCast, hfl]
        have : n * ps.length ≤ 300 * 5 := Nat.mul_le_mul n3 hl9
        omega
      · rw [Int.toNat_natCast, repN_length, hfl]
        have : n * ps.length ≤ 300 * 5 := Nat.mul_le_mul n3 hl9
        omega
      rw [cutL_to, Int.toNat_natCast]
      have hlen : ((repN n part).take n).length = n := by
        rw [List.length_take, repN_length, hfl]
        exact Nat.min_eq_left (Nat.le_mul_of_pos_right n hl1)
      exact q _ _ (by rw [hlen]; omega) (by rw [hlen]; omega) (abs_take (abs_rep hfa n) n) (k13.trans kk) RR
  · have wn : wy ≠ 4 := fun z => e (decide_eq_true (by rw [z]))
    refine while_by (fun σ H' => ∃ (a : List Nat) (y7 : Option V), σ = [some (.ref r), some (.int lo), some (.int hi), some (.int n), some (.int wy), some (.str (S a)), none, y7, none, none] ∧ a.length ≤ 400 ∧ abs a = true ∧ Step r H H' ∧ Reel H' r)
      (wordMu n) ⟨[], none, rfl, by decide, rfl, k12, R2⟩ (fun σ H' h => ?_) (fun σ H' Q Q' mm h => ?_)
    · obtain ⟨a, y7, rfl, la, ha, kk, RR⟩ := h
      refine ⟨.str (S a), rfl, a, rfl, by omega, .int n, rfl, _, _, rfl, rfl, _, rfl, ite2 (fun hc => ?_) (fun hc => ?_)⟩
      · have hlt : a.length < n := by
          have := of_decide_eq_true hc
          omega
        obtain ⟨L, hL, aL, L1, L5⟩ := word_item wy w0 w6 wn
        refine ⟨(by show 6 ≤ sizeLine; decide), fun p np => ?_⟩
        have s1 : Same H' (upd H' p (.lst [V.str (S [97, 98]), .str (S [97, 97, 97, 97, 98]), .str (S [97, 98]), .str (S [98, 98, 98, 97]), .str (S []), .str (S [98])])) := same_new np
        have ep : (upd H' p (.lst [V.str (S [97, 98]), .str (S [97, 97, 97, 97, 98]), .str (S [97, 98]), .str (S [98, 98, 98, 97]), .str (S []), .str (S [98])])) p = some (.lst [V.str (S [97, 98]), .str (S [97, 97, 97, 97, 98]), .str (S [97, 98]), .str (S [98, 98, 98, 97]), .str (S []), .str (S [98])]) := upd_same
        refine ⟨.int wy, rfl, p, _, wy, .str (S L), rfl, rfl, SqL.of ep, hL, ?_⟩
        have kk1 := kk.trans (Step.same RR s1)
        have RR1 := RR.mono s1
        refine ⟨.str (S L), rfl, .ref r, rfl, .str (S L), rfl, L, rfl, by omega, r, L.length, rfl, RR1, by omega, b8k (by omega) (by omega), fun d H4 d0' dL k4 R4 => ?_⟩
        obtain ⟨j, hj⟩ : ∃ j : Nat, d = (j : Int) := ⟨d.toNat, by omega⟩
        subst hj
        have hjl : j < L.length := by omega
        have kk4 := kk1.trans k4
        refine ⟨L, j, L[j], rfl, rfl, by omega, List.getElem?_eq_getElem hjl, ?_⟩
        have aj : abs [L[j]] = true := abs_get aL (List.getElem?_eq_getElem hjl)
        refine ⟨.str (S a), rfl, .str (S [L[j]]), rfl, .ref r, rfl, r, 9, rfl, R4, by decide, b8k (by decide) (by decide), fun d9 H5 d90 d99 k5 R5 => ?_⟩
        obtain ⟨ee, hee, e1, e9⟩ := word_times wy d9 w0 w6 d90 d99
        refine ⟨1, d9, rfl, rfl, (by show 6 ≤ sizeLine; decide), fun p2 np2 => ?_⟩
        have s5 : Same H5 (upd H5 p2 (.lst [V.int 1, .int 1, .int (1 + d9), .int 1, .int 1, .int 1])) := same_new np2
        refine ⟨.int wy, rfl, p2, _, wy, .int (ee : Int), rfl, rfl, SqL.of upd_same, hee, ?_⟩
        refine ⟨[L[j]], ee, rfl, rfl, by omega, by omega, ?_, a, repN ee [L[j]], rfl, rfl, ?_, ?_⟩
        · rw [Int.toNat_natCast]; show ee * 1 ≤ 1000000; omega
        · rw [repN_length]; show a.length + ee * 1 ≤ 1000000; omega
        have hl : (a ++ repN ee [L[j]]).length = a.length + ee := by rw [List.length_append, repN_length]; show a.length + ee * 1 = _; omega
        refine ⟨⟨a ++ repN ee [L[j]], some (.str (S [L[j]])), rfl, by omega, by rw [abs_append, ha, abs_rep aj]; rfl, (kk4.trans k5).trans (Step.same R5 s5), R5.mono s5⟩, ?_⟩
        show n - (S (a ++ repN ee [L[j]])).length < n - (S a).length
        rw [SX.S_len, SX.S_len]
        omega
      · have hge : n ≤ a.length := by
          have : ¬ ((a.length : Int) < (n : Int)) := fun z => hc (decide_eq_true z)
          omega
        refine ⟨.ref r, rfl, .int n, rfl, n, 1, rfl, rfl, r, (n : Int) + 1, rfl, RR, by omega, b8k (by omega) (by omega), fun t H4 t0 tn k4 R4 => ?_⟩
        obtain ⟨j, hj⟩ : ∃ j : Nat, t = (j : Int) := ⟨t.toNat, by omega⟩
        subst hj
        refine ⟨.int wy, rfl, rfl, _, rfl, ite2 (fun _ => ?_) (fun _ => ?_)⟩
        · refine ⟨.str (S a), rfl, .int j, rfl, j, rfl, a, rfl, by omega, a.take j, [97], ?_, rfl, ?_, .str (S a), rfl, .int j, rfl, j, 1, rfl, rfl, (j : Int) + 1, rfl, a, rfl, by omega, a.take j ++ [97], a.drop (j + 1), rfl, ?_, ?_, .int n, rfl, n, rfl, _, rfl, ?_, ?_⟩
          · rw [cutL_to]
          · rw [List.length_take]; show min j a.length + 1 ≤ 1000000; omega
          · rw [show (j : Int) + 1 = ((j + 1 : Nat) : Int) by omega, cutL_from]
          · rw [List.length_append, List.length_take, List.length_drop]; show min j a.length + 1 + _ ≤ 1000000; omega
          · rw [List.length_append, List.length_append, List.length_take, List.length_drop]; show min j a.length + 1 + _ ≤ 1000000; omega
          rw [cutL_to]
          have hlen : ((a.take j ++ [97] ++ a.drop (j + 1)).take n).length = n := by
            rw [List.length_take, List.length_append, List.length_append, List.length_take, List.length_drop]
            show min n (min j a.length + 1 + (a.length - (j + 1))) = n
            omega
          exact q _ _ (by rw [hlen]; omega) (by rw [hlen]; omega) (abs_take (by rw [abs_append, abs_append, abs_take ha, abs_drop ha]; rfl) n) (kk.trans k4) R4
        · refine ⟨.str (S a), rfl, .int n, rfl, n, rfl, a, rfl, by omega, ?_⟩
          rw [cutL_to]
          have hlen : (a.take n).length = n := by rw [List.length_take]; omega
          exact q _ _ (by rw [hlen]; omega) (by rw [hlen]; omega) (abs_take ha n) (kk.trans k4) R4
    · obtain ⟨v, e1, z, e2, hz, w', e3, i, j, e4, e5, kb, e6, q'⟩ := h
      exact ⟨v, e1, z, e2, hz, w', e3, i, j, e4, e5, kb, e6, mm _ _ q'⟩

end
end K08
namespace K08
open PySem PySem.Spec PyProof.Rows L2 Vx
section
variable {P : Program} {w : World} {K : PySem.W.Frag} {mg : Str → Option Value} {base : Heap}
theorem one_inj {c d : Nat} (h : V.str (S [c]) = V.str (S [d])) : c = d := by
  have e : ([c] : List Nat) = [d] := congrArg (fun x : Str => x.cps.toList) (V.str.inj h)
  exact (List.cons.inj e).1
/-- how many a are among the first i letters -/
def pc (a : List Nat) (i : Nat) : Int := ((a.take i).count 97 : Nat)
def preL (a : List Nat) (n : Nat) : List Int := (List.range n).map (pc a)
theorem preL_succ (a : List Nat) (n : Nat) : preL a (n + 1) = preL a n ++ [pc a n] := by unfold preL; rw [List.range_succ, List.map_append]; rfl
theorem preL_len (a : List Nat) (n : Nat) : (preL a n).length = n := by unfold preL; rw [List.length_map, List.length_range]
theorem preL_get {a : List Nat} {n i : Nat} (h : i < n) : (preL a n)[i]? = some (pc a i) := by
  unfold preL; rw [List.getElem?_map, List.getElem?_range h]; rfl
theorem pc_zero (a : List Nat) : pc a 0 = 0 := rfl
theorem pc_succ {a : List Nat} {i c : Nat} (h : a[i]? = some c) : pc a (i + 1) = pc a i + (if c = 97 then 1 else 0) := by
  unfold pc
  rw [List.take_add_one, h, List.count_append]
  by_cases hc : c = 97
  · subst hc; rw [if_pos rfl]; rfl
  · rw [if_neg hc]
    show (((a.take i).count 97 + [c].count 97 : Nat) : Int) = _
    rw [List.count_eq_zero.mpr (fun z => hc (List.mem_singleton.mp z).symm)]; omega
theorem pc_lo (a : List Nat) (i : Nat) : 0 ≤ pc a i := Int.natCast_nonneg _
theorem pc_hi (a : List Nat) (i : Nat) : pc a i ≤ a.length := by
  unfold pc
  have h1 : (a.take i).count 97 ≤ (a.take i).length := List.count_le_length
  have h2 : (a.take i).length ≤ a.length := by rw [List.length_take]; omega
  omega
/-- the pairs whose b is among the first i letters -/
def prs (a : List Nat) : Nat → Int
  | 0 => 0
  | i + 1 => prs a i + (if a[i]? = some 98 then pc a i else 0)
/-- what check_row is asked: a row -/
def spCheck : Sp := fun vs H Q _ => ∃ a : List Nat, vs = [.str (S a)] ∧ rowB a = true ∧ Q .non H
theorem row_len {a : List Nat} (h : rowB a = true) : a.length ≤ 200 := by
  unfold rowB at h
  have := (Bool.and_eq_true _ _ ▸ h).1
  exact of_decide_eq_true this
theorem row_abs {a : List Nat} (h : rowB a = true) : abs a = true := by
  unfold rowB at h
  exact (Bool.and_eq_true _ _ ▸ h).2
theorem ok_check_row {f fI : Addr} {fd fdI : FuncData} {k : Nat} (F : Fun K "check_row" "check_row" st_check_row f fd) (F_is_row : Fun K "is_row" "is_row" st_is_row fI fdI) (G_is_row : FnOk P w K mg base CX0 1 fI fdI ["value"] (spIsRow K)) (b_is_row : Binds K fdI ["value"] []) (g_is_row : mg "is_row" = some (.ref fI)) : FnOk P w K mg base CX0 (k + 2) f fd ["value"] spCheck := by
  refine F.ok sc_check_row (fun vs H Q E h => ?_) (fun cdv A outer s H vs Q E hr h => ?_)
  · obtain ⟨a, rfl, _⟩ := h; rfl
  obtain ⟨a, rfl, hw, q⟩ := h
  refine ⟨_, (pss_one (ps_if (pt_not (pt_val (pe_call G_is_row (hr.mono (by omega)) (by rfl) g_is_row F_is_row.kp b_is_row .nil pass0 (pa_cons (pv 0) pa_nil)))) (pss_one ps_never) pss_nil)), ?_⟩
  have := row_len hw
  refine ⟨.str (S a), rfl, .str (S a), rfl, .inl ⟨a, rfl, by omega, _, rfl, ?_⟩⟩
  rw [hw]
  exact q
/-- the prefix counts of a row: a new list -/
def spPrefix : Sp := fun vs H Q _ => ∃ a : List Nat, vs = [.str (S a)] ∧ rowB a = true ∧ ∀ (p : Addr) (H' : Hp), Same H H' → H p = none → p ≠ sysModules → H' p = some (.lst ((preL a (a.length + 1)).map V.int)) → Q (.ref p) H'
theorem ok_prefix_counts {f fC : Addr} {fd fdC : FuncData} {k : Nat} (F : Fun K "prefix_counts" "prefix_counts" st_prefix_counts f fd) (F_check_row : Fun K "check_row" "check_row" st_check_row fC fdC) (G_check_row : FnOk P w K mg base CX0 2 fC fdC ["value"] spCheck) (b_check_row : Binds K fdC ["value"] []) (g_check_row : mg "check_row" = some (.ref fC)) : FnOk P w K mg base CX0 (k + 3) f fd ["row"] spPrefix := by
  refine F.ok sc_prefix_counts (fun vs H Q E h => ?_) (fun cdv A outer s H vs Q E hr h => ?_)
  · obtain ⟨a, rfl, _⟩ := h; rfl
  obtain ⟨a, rfl, hw, q⟩ := h
  have hl := row_len hw
  refine ⟨_, (pss_cons (ps_expr (pe_call G_check_row (hr.mono (by omega)) (by rfl) g_check_row F_check_row.kp b_check_row .nil pass0 (pa_cons (pv 0) pa_nil)))
    (pss_cons (ps_set (i := 1) sc_prefix_counts.nd rfl (Or.inl rfl) (pe_lst1 (pa_cons pe_int pa_nil)))
    (pss_cons (ps_for PassesOwn.never rfl (pi_str (pv 0)) (pg_name (i := 2) sc_prefix_counts.nd rfl (Or.inl rfl)) (pss_one (ps_expr (pe_bm PySem.F.plainAttrs_list PySem.F.slot_list_append PySem.F.type_list_append mt_append (pv 1) (pa_cons (pe_op op_add (pe_ix ix_list (pv 1) (pe_un un_neg pe_int) (fun _ _ => rfl)) (pe_ifExp (pt_cmpR op_eq (pv 2) pe_str (nomark _)) pe_int pe_int)) pa_nil)))))
    (pss_one (ps_ret (pv 1)))))), ?_⟩
  refine ⟨.str (S a), rfl, a, rfl, hw, (by show 1 ≤ sizeLine; decide), fun p np hp => ?_⟩
  refine ⟨.str (S a), rfl, S a, rfl, for_it (walk_txt a) (fun i σ H' => Same H H' ∧ H' p = some (.lst ((preL a (i + 1)).map V.int)) ∧ ∃ y, σ = [some (.str (S a)), some (.ref p), y])
    ⟨same_new np, upd_same, none, rfl⟩ (fun _ _ _ _ _ => trivial) (fun i x σ H1 H2 hi h hx => ?_) (fun σ H' h => ?_)⟩
  · obtain ⟨rfl, c, rfl, hc⟩ := hx
    obtain ⟨s1, e1, y, rfl⟩ := h
    have e1' := e1
    rw [preL_succ, List.map_append] at e1'
    refine ⟨.ref p, rfl, .inl ⟨rfl, _, SqL.of e1⟩, .ref p, rfl, 1, rfl, p, _, -1, .int (pc a i), rfl, rfl, SqL.of e1', atI_last _ _, .str (S [c]), rfl, rfl, _, rfl, ?_⟩
    have last : ∀ d : Int, pc a (i + 1) = pc a i + d → Same H (upd H2 p (.lst ((preL a (i + 1)).map V.int ++ [V.int (pc a i + d)]))) ∧ (upd H2 p (.lst ((preL a (i + 1)).map V.int ++ [V.int (pc a i + d)]))) p = some (.lst ((preL a (i + 1 + 1)).map V.int)) := fun d e => by
      refine ⟨Same.mut s1 np, ?_⟩
      rw [upd_same, preL_succ a (i + 1), List.map_append, e]; rfl
    refine ite2 (fun e => ?_) (fun e => ?_)
    · obtain rfl : c = 97 := by
        have := of_decide_eq_true e
        exact one_inj this
      obtain ⟨l1, l2⟩ := last 1 (by rw [pc_succ hc, if_pos rfl])
      exact ⟨_, _, rfl, rfl, p, _, _, rfl, rfl, e1, by rw [List.length_map, preL_len]; unfold sizeLine; omega, l1, l2, _, rfl⟩
    · have hn : c ≠ 97 := fun z => e (by rw [z]; rfl)
      obtain ⟨l1, l2⟩ := last 0 (by rw [pc_succ hc, if_neg hn])
      exact ⟨_, _, rfl, rfl, p, _, _, rfl, rfl, e1, by rw [List.length_map, preL_len]; unfold sizeLine; omega, l1, l2, _, rfl⟩
  · obtain ⟨s1, e1, y, rfl⟩ := h
    exact ⟨.ref p, rfl, q p H' s1 np hp e1⟩
/-- the pairs of a row -/
def spPairs : Sp := fun vs H Q _ => ∃ a : List Nat, vs = [.str (S a)] ∧ rowB a = true ∧ ∀ H' : Hp, Same H H' → Q (.int (prs a a.length)) H'
theorem ok_pairs_in {f fC : Addr} {fd fdC : FuncData} {k : Nat} (F : Fun K "pairs_in" "pairs_in" st_pairs_in f fd) (F_prefix_counts : Fun K "prefix_counts" "prefix_counts" st_prefix_counts fC fdC) (G_prefix_counts : FnOk P w K mg base CX0 3 fC fdC ["row"] spPrefix) (b_prefix_counts : Binds K fdC ["row"] []) (g_prefix_counts : mg "prefix_counts" = some (.ref fC)) (m_zip : mg "zip" = none) (m_sum : mg "sum" = none) : FnOk P w K mg base CX0 (k + 4) f fd ["row"] spPairs := by
  refine F.ok sc_pairs_in (fun vs H Q E h => ?_) (fun cdv A outer s H vs Q E hr h => ?_)
  · obtain ⟨a, rfl, _⟩ := h; rfl
  obtain ⟨a, rfl, hw, q⟩ := h
  have hl := row_len hw
  refine ⟨_, (pss_one (ps_ret (pe_callB (cr_sum rfl) (by rfl) m_sum (by decide +kernel) (pa_cons (pe_lc (g := (gTup K 2 (gCons (gName 1) (gCons (gName 2) gNil)))) (own := [("many_a", 1), ("letter", 2)]) rfl sc_pairs_in.nd (pi_zipLT (by rfl) m_zip (pa_cons (pe_call G_prefix_counts (hr.mono (by omega)) (by rfl) g_prefix_counts F_prefix_counts.kp b_prefix_counts .nil pass0 (pa_cons (pv 0) pa_nil)) (pa_cons (pv 0) pa_nil))) (blkOk_by (own := [("many_a", 1), ("letter", 2)]) (N := N_pairs_in) (sc := defScope st_pairs_in) (by decide +kernel)) (fun _ _ _ _ _ => (by exact (pg_tup rfl (pgs_cons (pg_name (i := 1) sc_pairs_in.nd rfl (Or.inl rfl)) (pgs_cons (pg_name (i := 2) sc_pairs_in.nd rfl (Or.inl rfl)) pgs_nil))))) (fun _ _ _ _ _ => (pts_one (pt_cmpR op_eq (pv 2) pe_str (nomark _)))) (fun _ _ _ _ _ => (pv 1))) pa_nil)))), ?_⟩
  refine ⟨.str (S a), rfl, a, rfl, hw, fun p H1 s1 np hp e1 => ?_⟩
  refine ⟨.str (S a), rfl, p, _, S a, rfl, SqL.of e1, fun D nD => ?_⟩
  refine lc_zipLT (xs := (preL a (a.length + 1)).map V.int) (cs := a) a.length (by rw [List.length_map, preL_len]; omega) (fun i H' => ∃ acc : List Int, Same H1 H' ∧ H' D = some (.lst (acc.map V.int)) ∧ acc.length ≤ i ∧ acc.sum = prs a i)
    ⟨[], same_new nD, upd_same, Nat.le_refl _, rfl⟩ (fun i H' _ h => by obtain ⟨_, s2, _⟩ := h; exact SqL.of (s2 _ _ e1)) (fun i y c T H' hy hc h nT => ?_) (fun H' h => ?_)
  · obtain ⟨acc, s2, eD, la, hs⟩ := h
    have hi : i < a.length := (List.getElem?_eq_some_iff.mp hc).1
    obtain rfl : y = .int (pc a i) := by
      rw [List.getElem?_map, preL_get (by omega)] at hy
      exact (Option.some.inj hy).symm
    have s3 : Same H' (upd H' T (.tup [.int (pc a i), .str (S [c])])) := same_new nT
    refine ⟨T, _, rfl, SqT.of upd_same, rfl, _, _, rfl, _, _, rfl, rfl, rfl, .str (S [c]), rfl, rfl, _, rfl, ite2 (fun e => ?_) (fun e => ?_)⟩
    · obtain rfl : c = 98 := by
        have := of_decide_eq_true e
        exact one_inj this
      refine ⟨_, rfl, _, s3 _ _ eD, by rw [List.length_map]; unfold sizeLine; omega, acc ++ [pc a i], Same.mut (s2.trans s3) nD, ?_, ?_, ?_⟩
      · rw [upd_same, List.map_append]; rfl
      · rw [List.length_append]; exact Nat.add_le_add_right la 1
      · rw [List.sum_append, hs, prs, if_pos hc]; simp
    · have hn : c ≠ 98 := fun z => e (by rw [z]; rfl)
      refine ⟨acc, s2.trans s3, s3 _ _ eD, by omega, ?_⟩
      rw [hs, prs, if_neg (by rw [hc]; exact fun z => hn (Option.some.inj z))]; omega
  · obtain ⟨acc, s2, eD, la, hs⟩ := h
    refine ⟨D, acc, rfl, SqL.of eD, ?_⟩
    rw [hs]
    exact q _ (s1.trans s2)

end
end K08
namespace K08
open PySem PySem.Spec PyProof.Rows L2 Vx
section
variable {P : Program} {w : World} {K : PySem.W.Frag} {mg : Str → Option Value} {base : Heap}
theorem ok_is_integer {f : Addr} {fd : FuncData} {k : Nat} (F : Fun K "is_integer" "is_integer" st_is_integer f fd) (m_isinstance : mg "isinstance" = none) (m_int : mg "int" = none) (m_bool : mg "bool" = none) : FnOk P w K mg base CX0 (k + 1) f fd ["value"] (spIsInt K) := by
  refine F.ok sc_is_integer (fun vs H Q E h => ?_) (fun cdv A outer s H vs Q E hr h => ?_)
  · obtain ⟨x, rfl, _⟩ := h; rfl
  obtain ⟨x, rfl, h⟩ := h
  refine ⟨_, (pss_one (ps_ret (pe_and (pe_callB call_isi (by rfl) m_isinstance (by decide +kernel) (pa_cons (pv 0) (pa_cons (pe_bltn (by rfl) m_int (by decide +kernel) (show RelV (.ty "int") (.type "int") from rfl)) pa_nil))) (pe_one (pe_not (pe_callB call_isi (by rfl) m_isinstance (by decide +kernel) (pa_cons (pv 0) (pa_cons (pe_bltn (by rfl) m_bool (by decide +kernel) (show RelV (.ty "bool") (.type "bool") from rfl)) pa_nil)))))))), ?_⟩
  rcases h with ⟨i, rfl, q⟩ | ⟨b, rfl, q⟩ | ⟨t, ty, ht, q⟩
  · exact ⟨_, rfl, _, _, _, _, _, rfl, .ty "int", .base (.int _), kit_ty (b := "int") (r := true) (by decide +kernel), true, rfl, _, rfl, _, _, _, _, _, rfl, .ty "bool", .base (.int _), kit_ty (b := "bool") (r := false) (by decide +kernel), false, rfl, q⟩
  · exact ⟨_, rfl, _, _, _, _, _, rfl, .ty "int", .base (.bl _), kit_ty (b := "int") (r := true) (by decide +kernel), true, rfl, _, rfl, _, _, _, _, _, rfl, .ty "bool", .base (.bl _), kit_ty (b := "bool") (r := true) (by decide +kernel), true, rfl, q⟩
  · exact ⟨_, rfl, _, _, _, _, _, rfl, .ty "int", ty, ht, false, rfl, q⟩

end
end K08
namespace K08
open PySem PySem.Spec PyProof.Rows L2 Vx
section
variable {P : Program} {w : World} {K : PySem.W.Frag} {mg : Str → Option Value} {base : Heap}
theorem ok_are_counts {f f1 : Addr} {fd fd1 : FuncData} {k : Nat} (F : Fun K "are_counts" "are_counts" st_are_counts f fd) (F_is_integer : Fun K "is_integer" "is_integer" st_is_integer f1 fd1) (G_is_integer : FnOk P w K mg base CX0 1 f1 fd1 ["value"] (spIsInt K)) (b_is_integer : Binds K fd1 ["value"] []) (g_is_integer : mg "is_integer" = some (.ref f1)) : FnOk P w K mg base CX0 (k + 2) f fd ["many_a", "many_b", "pairs"] spAre := by
  refine F.ok sc_are_counts (fun vs H Q E h => ?_) (fun cdv A outer s H vs Q E hr h => ?_)
  · obtain ⟨a, b, p, rfl, _⟩ := h; rfl
  obtain ⟨a, b, p, rfl, c, q⟩ := h
  refine ⟨_, (pss_cons (ps_for PassesOwn.never rfl (pi_tup (peq_tup (pa_cons (pv 0) (pa_cons (pv 1) (pa_cons (pv 2) pa_nil))))) (pg_name (i := 3) sc_are_counts.nd rfl (Or.inl rfl)) (pss_one (ps_if (PW.pt (pw_or (pt_not (pt_val (pe_call G_is_integer (hr.mono (by omega)) (by rfl) g_is_integer F_is_integer.kp b_is_integer .nil pass0 (pa_cons (pv 3) pa_nil)))) (pw_or1 (pt_cmpR op_lt (pv 3) pe_int (nomark _))))) (pss_one (ps_ret pe_bl)) pss_nil)))
    (pss_one (ps_ret (pe_cmpR op_le (pv 2) (pe_op op_mulW (pv 0) (pv 1)) (nomark _))))), ?_⟩
  refine ⟨.int a, rfl, .int b, rfl, .int p, rfl, (by show 3 ≤ sizeLine; decide), fun T H1 nT _ hH1 => ?_⟩
  have s1 : Same H H1 := by rw [hH1]; exact same_new nT
  have e1 : H1 T = some (.tup [.int a, .int b, .int p]) := by rw [hH1]; exact upd_same
  clear hH1
  refine ⟨T, rfl, ⟨_, SqT.of e1⟩, for_tup (xs := [.int a, .int b, .int p]) (fun i σ H' => Same H1 H' ∧ ∃ y, σ = [some (.int a), some (.int b), some (.int p), y]) ⟨fun _ _ h => h, none, rfl⟩ (fun i σ H' _ h => SqT.of (h.1 _ _ e1)) (fun i x σ H' hx h => ?_) (fun σ H' h => ?_)⟩
  · obtain ⟨s2, y, rfl⟩ := h
    obtain ⟨z, rfl, z0⟩ : ∃ z : Int, x = .int z ∧ 0 ≤ z := by
      have hm := List.mem_of_getElem? hx
      simp only [List.mem_cons, List.not_mem_nil, or_false] at hm
      rcases hm with rfl | rfl | rfl
      · exact ⟨a, rfl, c.a0⟩
      · exact ⟨b, rfl, c.b0⟩
      · exact ⟨p, rfl, c.p0⟩
    refine ⟨.int z, rfl, .int z, rfl, .inl ⟨z, rfl, true, rfl, .int z, rfl, _, _, rfl, rfl, false, by show V.bl (decide (z < 0)) = V.bl false; rw [decide_eq_false (by omega)], ?_⟩⟩
    exact ⟨s2, _, rfl⟩
  · obtain ⟨s2, y, rfl⟩ := h
    refine ⟨.int p, rfl, .int a, rfl, .int b, rfl, a, b, rfl, rfl, wide_mul c.ba c.bb (by decide) (by decide) (by decide), _, _, rfl, rfl, ?_⟩
    show Q (V.bl (decide (p ≤ a * b))) H'
    rw [decide_eq_true c.pm]
    exact q _ (s1.trans s2)
theorem ok_c_init {C f f1 : Addr} {fd fd1 : FuncData} {k : Nat} (F : Fun K "__init__" "Counts.__init__" st_c_init f fd) (T_c : CT K mg C) (F_are_counts : Fun K "are_counts" "are_counts" st_are_counts f1 fd1) (G_are_counts : FnOk P w K mg base CX0 2 f1 fd1 ["many_a", "many_b", "pairs"] spAre) (b_are_counts : Binds K fd1 ["many_a", "many_b", "pairs"] []) (g_are_counts : mg "are_counts" = some (.ref f1)) : FnOk P w K mg base CX0 (k + 3) f fd ["self", "many_a", "many_b", "pairs"] (spInit C) := by
  refine F.ok sc_c_init (fun vs H Q E h => ?_) (fun cdv A outer s H vs Q E hr h => ?_)
  · obtain ⟨x, dx, a, b, p, rfl, _⟩ := h; rfl
  obtain ⟨x, dx, a, b, p, rfl, hx, c, q⟩ := h
  refine ⟨_, (pss_cons (ps_if (pt_not (pt_val (pe_call G_are_counts (hr.mono (by omega)) (by rfl) g_are_counts F_are_counts.kp b_are_counts .nil pass0 (pa_cons (pv 1) (pa_cons (pv 2) (pa_cons (pv 3) pa_nil)))))) (pss_one ps_never) pss_nil)
    (pss_cons (ps_fld (pv 0) (pv 1) rfl)
    (pss_cons (ps_fld (pv 0) (pv 2) rfl)
    (pss_one (ps_fld (pv 0) (pv 3) rfl))))), ?_⟩
  refine ⟨.int a, rfl, .int b, rfl, .int p, rfl, a, b, p, rfl, c, fun H1 s1 => ?_⟩
  refine ⟨true, rfl, ?_⟩
  have e1 := s1 _ _ hx
  refine ⟨.int a, rfl, .ref x, rfl, x, C, dx, [], rfl, e1, T_c.cl, T_c.nA, (by show 0 < 1000; decide), ?_⟩
  refine ⟨.int b, rfl, .ref x, rfl, x, C, dx, _, rfl, upd_same, T_c.cl, T_c.nB, (by show 1 < 1000; decide), ?_⟩
  refine ⟨.int p, rfl, .ref x, rfl, x, C, dx, _, rfl, upd_same, T_c.cl, T_c.nP, ?_, ?_⟩
  · exact Nat.lt_of_le_of_lt (putF_len _ _ _) (Nat.succ_lt_succ (Nat.lt_of_le_of_lt (putF_len _ _ _) (by show 1 < 999; decide)))
  · exact q _ ⟨dx, upd_same⟩ ((((Keep.of s1).put).put).put)
/-- Counts.of a row -/
def spOf (C : Addr) : Sp := fun vs H Q _ => ∃ a : List Nat, vs = [.ref C, .str (S a)] ∧ rowB a = true ∧ ∀ (x : Addr) (H' : Hp), Same H H' → CountsAt C H' x (a.count 97 : Nat) (a.count 98 : Nat) (prs a a.length) → Q (.ref x) H'
theorem prs_max (a : List Nat) : ∀ i, i ≤ a.length → prs a i ≤ pc a i * ((a.take i).count 98 : Nat)
  | 0, _ => by rw [prs, pc_zero]; simp
  | i + 1, h => by
    have ih := prs_max a i (by omega)
    have hc : a[i]? = some a[i] := List.getElem?_eq_getElem (by omega)
    have h98 : (a.take (i + 1)).count 98 = (a.take i).count 98 + (if a[i] = 98 then 1 else 0) := by
      rw [List.take_add_one, hc, List.count_append]
      by_cases z : a[i] = 98
      · rw [z]; rfl
      · rw [if_neg z]
        show _ + [a[i]].count 98 = _
        rw [List.count_eq_zero.mpr fun q => z (List.mem_singleton.mp q).symm]
    rw [prs, pc_succ hc, h98, hc]
    have n0 := pc_lo a i
    generalize pc a i = n at *
    generalize (a.take i).count 98 = m at *
    generalize prs a i = q at *
    generalize a[i] = c at *
    have m0 : (0 : Int) ≤ (m : Int) := Int.natCast_nonneg m
    by_cases h1 : c = 97
    · subst h1; simp [Int.add_mul]; omega
    · by_cases h2 : c = 98
      · subst h2; simp [Int.mul_add]; omega
      · simp [h1, h2]; omega
theorem prs_lo' (a : List Nat) : ∀ i, 0 ≤ prs a i
  | 0 => Int.le_refl _
  | i + 1 => by
    have := prs_lo' a i
    have := pc_lo a i
    rw [prs]; split <;> omega
theorem cok_row {a : List Nat} (h : rowB a = true) : COk (a.count 97 : Nat) (a.count 98 : Nat) (prs a a.length) := by
  have hl := row_len h
  have h1 : a.count 97 ≤ a.length := List.count_le_length
  have h2 : a.count 98 ≤ a.length := List.count_le_length
  have b : (200 : Nat) < 2 ^ 3000 := Nat.lt_of_lt_of_le (show 200 < 2 ^ 8 by decide) (Nat.pow_le_pow_right (by decide) (by decide))
  have m := prs_max a a.length (Nat.le_refl _)
  unfold pc at m
  rw [List.take_length] at m
  exact ⟨Int.natCast_nonneg _, Int.natCast_nonneg _, prs_lo' _ _, m, by rw [Int.natAbs_natCast]; omega, by rw [Int.natAbs_natCast]; omega⟩
theorem ok_c_of {C f f1 f2 f3 : Addr} {fd fd1 fd2 fd3 : FuncData} {k : Nat} (F : Fun K "of" "Counts.of" st_c_of f fd)
    (F_check_row : Fun K "check_row" "check_row" st_check_row f1 fd1) (G_check_row : FnOk P w K mg base CX0 2 f1 fd1 ["value"] spCheck) (b_check_row : Binds K fd1 ["value"] []) (g_check_row : mg "check_row" = some (.ref f1))
    (F_pairs_in : Fun K "pairs_in" "pairs_in" st_pairs_in f2 fd2) (G_pairs_in : FnOk P w K mg base CX0 4 f2 fd2 ["row"] spPairs) (b_pairs_in : Binds K fd2 ["row"] []) (g_pairs_in : mg "pairs_in" = some (.ref f2))
    (M_c : Mk K C f3) (G_c_init : FnOk P w K mg base CX0 3 f3 fd3 ["self", "many_a", "many_b", "pairs"] (spInit C)) (b_c_init : Binds K fd3 ["self", "many_a", "many_b", "pairs"] []) : FnOk P w K mg base CX0 (k + 5) f fd ["cls", "row"] (spOf C) := by
  refine F.ok sc_c_of (fun vs H Q E h => ?_) (fun cdv A outer s H vs Q E hr h => ?_)
  · obtain ⟨a, rfl, _⟩ := h; rfl
  obtain ⟨a, rfl, hw, q⟩ := h
  refine ⟨_, (pss_cons (ps_expr (pe_call G_check_row (hr.mono (by omega)) (by rfl) g_check_row F_check_row.kp b_check_row .nil pass0 (pa_cons (pv 1) pa_nil)))
    (pss_one (ps_ret (pe_makeL (i := 0) M_c G_c_init (hr.mono (by omega)) rfl (Or.inl rfl) b_c_init .nil pass0 (pa_cons (pe_m1 PySem.F.slot_str_count PySem.F.type_str_count mt_count_tx (pv 1) pe_str) (pa_cons (pe_m1 PySem.F.slot_str_count PySem.F.type_str_count mt_count_tx (pv 1) pe_str) (pa_cons (pe_call G_pairs_in (hr.mono (by omega)) (by rfl) g_pairs_in F_pairs_in.kp b_pairs_in .nil pass0 (pa_cons (pv 1) pa_nil)) pa_nil))))))), ?_⟩
  refine ⟨.str (S a), rfl, a, rfl, hw, ?_⟩
  refine ⟨rfl, .str (S a), rfl, ⟨_, rfl⟩, a, 97, rfl, rfl, .str (S a), rfl, ⟨_, rfl⟩, a, 98, rfl, rfl, .str (S a), rfl, a, rfl, hw, fun H1 s1 x dx nx ndx _ => ?_⟩
  exact mkC nx ndx (cok_row hw) fun H2 s2 hc => q x H2 (s1.trans s2) hc

end
end K08
namespace K08
open PySem PySem.Spec PyProof.Rows L2 Vx
section
variable {P : Program} {w : World} {K : PySem.W.Frag} {mg : Str → Option Value} {base : Heap}
/-- the pairs whose a is among the first i letters -/
def qrs (a : List Nat) : Nat → Int
  | 0 => 0
  | i + 1 => qrs a i + (if a[i]? = some 97 then ((a.drop (i + 1)).count 98 : Nat) else 0)
theorem prs_qrs (a : List Nat) : ∀ i, i ≤ a.length → prs a i + pc a i * ((a.drop i).count 98 : Nat) = qrs a i
  | 0, _ => by rw [pc_zero]; simp [prs, qrs]
  | i + 1, h => by
    have ih := prs_qrs a i (by omega)
    have hc : a[i]? = some a[i] := List.getElem?_eq_getElem (by omega)
    have hd : (a.drop i).count 98 = (a.drop (i + 1)).count 98 + (if a[i] = 98 then 1 else 0) := by
      rw [List.drop_eq_getElem_cons (by omega), List.count_cons]; simp
    rw [prs, qrs, pc_succ hc, ← ih, hd, hc]
    generalize a[i] = c
    generalize (a.drop (i + 1)).count 98 = m
    generalize pc a i = n
    by_cases h1 : c = 97
    · subst h1; simp [Int.add_mul]; omega
    · by_cases h2 : c = 98
      · subst h2; simp [Int.mul_add]; omega
      · simp [h1, h2]
theorem prs_is_qrs (a : List Nat) : prs a a.length = qrs a a.length := by
  have h := prs_qrs a a.length (Nat.le_refl _)
  rw [List.drop_length] at h
  simpa using h

end
end K08
namespace K08
open PySem PySem.Spec PyProof.Rows L2 Vx
section
variable {P : Program} {w : World} {K : PySem.W.Frag} {mg : Str → Option Value} {base : Heap}
/-- the places of a sign among the first n -/
def posL (a : List Nat) (c n : Nat) : List Nat := (List.range n).filter fun i => decide (a[i]? = some c)
theorem posL_succ (a : List Nat) (c n : Nat) : posL a c (n + 1) = posL a c n ++ (if a[n]? = some c then [n] else []) := by
  unfold posL
  rw [List.range_succ, List.filter_append]
  by_cases h : a[n]? = some c
  · rw [if_pos h]; simp [h]
  · rw [if_neg h]; simp [h]
theorem posL_len (a : List Nat) (c : Nat) : ∀ n, (posL a c n).length = (a.take n).count c
  | 0 => by simp [posL]
  | n + 1 => by
    rw [posL_succ, List.length_append, posL_len a c n, List.take_add_one, List.count_append]
    cases h : a[n]? with
    | none => rw [if_neg (fun z => nomatch z)]; rfl
    | some d =>
      by_cases e : d = c
      · subst e; rw [if_pos rfl]; simp
      · rw [if_neg fun z => e (Option.some.inj z)]
        show _ + 0 = _ + [d].count c
        rw [List.count_eq_zero.mpr fun q => e (List.mem_singleton.mp q).symm]
theorem posL_le (a : List Nat) (c n : Nat) : (posL a c n).length ≤ n := by
  unfold posL
  have := List.length_filter_le (fun i => decide (a[i]? = some c)) (List.range n)
  rw [List.length_range] at this; exact this
theorem posL_behind (a : List Nat) (c i : Nat) : ∀ n, n ≤ a.length → (posL a c n).countP (fun o => decide (i < o)) = ((a.take n).drop (i + 1)).count c
  | 0, _ => by simp [posL]
  | n + 1, h => by
    have hn : n < a.length := h
    have hc : a[n]? = some a[n] := List.getElem?_eq_getElem hn
    rw [posL_succ, List.countP_append, posL_behind a c i n (by omega), List.take_add_one, hc, List.drop_append, List.count_append, List.length_take, Nat.min_eq_left (by omega)]
    congr 1
    by_cases e : a[n] = c
    · rw [e, if_pos rfl]
      by_cases l : i < n
      · rw [show i + 1 - n = 0 by omega]; simp [l]
      · rw [show i + 1 - n = (i - n) + 1 by omega]; simp [l]
    · rw [if_neg fun z => e (Option.some.inj z)]
      have : c ∉ (Option.some a[n]).toList.drop (i + 1 - n) := fun z => by
        have := List.mem_of_mem_drop z
        simp at this
        exact e this.symm
      rw [List.count_eq_zero.mpr this]; rfl
def spLawCounts : Sp := fun vs H Q _ => ∃ a : List Nat, vs = [.str (S a)] ∧ a.length ≤ 1000 ∧ ∀ (T : Addr) (H' : Hp), Same H H' → H T = none → H' T = some (.tup [.int (a.count 97 : Nat), .int (a.count 98 : Nat), .int (prs a a.length)]) → Q (.ref T) H'
theorem ok_law_counts {f : Addr} {fd : FuncData} {k : Nat} (F : Fun K "_law_counts" "_law_counts" st_law_counts f fd) (m_enumerate : mg "enumerate" = none) (m_len : mg "len" = none) (m_sum : mg "sum" = none) : FnOk P w K mg base CX0 (k + 1) f fd ["text"] spLawCounts := by
  refine F.ok sc_law_counts (fun vs H Q E h => ?_) (fun cdv A outer s H vs Q E hr h => ?_)
  · obtain ⟨a, rfl, _⟩ := h; rfl
  obtain ⟨a, rfl, hl, q⟩ := h
  refine ⟨_, (pss_cons (ps_setLc (i := 1) (g := (gTup K 2 (gCons (gName 3) (gCons (gName 4) gNil)))) (own := [("at", 3), ("letter", 4)]) rfl sc_law_counts.nd rfl rfl (sw_true rfl rfl rfl (by decide +kernel)) (pi_enumT (by rfl) m_enumerate (pa_cons (pv 0) pa_nil)) (blkOk_by (own := [("at", 3), ("letter", 4)]) (N := N_law_counts) (sc := defScope st_law_counts) (by decide +kernel)) (fun _ _ _ _ _ => (by exact (pg_tup rfl (pgs_cons (pg_name (i := 3) sc_law_counts.nd rfl (Or.inl rfl)) (pgs_cons (pg_name (i := 4) sc_law_counts.nd rfl (Or.inl rfl)) pgs_nil))))) (fun _ _ _ _ _ => (pts_one (pt_cmpR op_eq (pv 4) pe_str (nomark _)))) (fun _ _ _ _ _ => (pv 3)))
    (pss_cons (ps_set (i := 2) sc_law_counts.nd rfl (Or.inr rfl) (pe_lc (g := (gTup K 2 (gCons (gName 3) (gCons (gName 4) gNil)))) (own := [("at", 3), ("letter", 4)]) rfl sc_law_counts.nd (pi_enumT (by rfl) m_enumerate (pa_cons (pv 0) pa_nil)) (blkOk_by (own := [("at", 3), ("letter", 4)]) (N := N_law_counts) (sc := defScope st_law_counts) (by decide +kernel)) (fun _ _ _ _ _ => (by exact (pg_tup rfl (pgs_cons (pg_name (i := 3) sc_law_counts.nd rfl (Or.inl rfl)) (pgs_cons (pg_name (i := 4) sc_law_counts.nd rfl (Or.inl rfl)) pgs_nil))))) (fun _ _ _ _ _ => (pts_one (pt_cmpR op_eq (pv 4) pe_str (nomark _)))) (fun _ _ _ _ _ => (pv 3))))
    (pss_one (ps_ret (peq_tup (pa_cons (pe_callB call_len_seq (by rfl) m_len PySem.boot_len (pa_cons (pv 1) pa_nil)) (pa_cons (pe_callB call_len_seq (by rfl) m_len PySem.boot_len (pa_cons (pv 2) pa_nil)) (pa_cons (pe_callB (cr_sum rfl) (by rfl) m_sum (by decide +kernel) (pa_cons (pe_lc (own := [("at", 3)]) rfl sc_law_counts.nd (pi_list (pv 1)) (blkOk_by (own := [("at", 3)]) (N := N_law_counts) (sc := defScope st_law_counts) (by decide +kernel)) (fun _ _ _ _ _ => (pg_name (i := 3) sc_law_counts.nd rfl (Or.inr rfl))) (fun _ _ _ _ _ => pts_nil) (fun _ _ _ _ _ => (pe_callB (call_lenK K rfl) (by rfl) m_len PySem.boot_len (pa_cons (pe_lc (own := [("other", 5)]) rfl sc_law_counts.nd (pi_listK K rfl (pv 2)) (blkOk_by (own := [("other", 5)]) (N := N_law_counts) (sc := { kind := .function, names := [(".0", .local), ("at", .cell), ("len", .globalImplicit), ("others", .cell)], isGenerator := false, isCoroutine := false }) (by decide +kernel)) (fun _ _ _ _ _ => (pg_name (i := 5) sc_law_counts.nd rfl (Or.inl rfl))) (fun _ _ _ _ _ => (pts_one (pt_cmpR op_lt (pv 3) (pv 5) (nomark _)))) (fun _ _ _ _ _ => (pv 5))) pa_nil)))) pa_nil)) pa_nil)))))))), ?_⟩
  have step : ∀ (c : Nat) {H1 H2 : Hp} {D : Addr} {i d : Nat} {T : Addr}, a[i]? = some d → i < a.length → Same H1 H2 → H1 D = none → H2 T = none → H2 D = some (.lst ((posL a c i).map fun (o : Nat) => V.int (o : Int))) →
      Same H1 (upd H2 T (.tup [.int (i : Nat), .str (S [d])])) ∧ (upd H2 T (.tup [.int (i : Nat), .str (S [d])])) D = some (.lst ((posL a c i).map fun (o : Nat) => V.int (o : Int))) := fun c {H1 H2 D i d T} hd hi s2 nD nT eD =>
    ⟨Same.new s2 nT, by rw [upd_ne (ne_of_none eD nT)]; exact eD⟩
  refine ⟨.str (S a), rfl, S a, rfl, fun D nD => ?_⟩
  refine lc_it (walk_enumT a) (fun i H' => Same H H' ∧ H' D = some (.lst ((posL a 97 i).map fun (o : Nat) => V.int (o : Int)))) ⟨same_new nD, upd_same⟩ (fun _ _ _ _ => trivial) (fun i x H1 H2 hi h hx => ?_) (fun H1 h => ?_)
  · obtain ⟨T, d, rfl, nT, rfl, hd⟩ := hx
    obtain ⟨s1, e1⟩ := h
    obtain ⟨s2, e2⟩ := step 97 hd hi s1 nD nT e1
    have eT : (upd H1 T (.tup [.int (i : Nat), .str (S [d])])) T = some (.tup [.int (i : Nat), .str (S [d])]) := upd_same
    refine ⟨T, _, rfl, SqT.of eT, rfl, _, _, rfl, _, _, rfl, rfl, rfl, .str (S [d]), rfl, rfl, _, rfl, ite2 (fun e => ?_) (fun e => ?_)⟩
    · obtain rfl : d = 97 := one_inj (of_decide_eq_true e)
      refine ⟨.int (i : Nat), rfl, _, e2, ?_, Same.mut s2 nD, ?_⟩
      · have := posL_le a 97 i; rw [List.length_map]; unfold sizeLine; omega
      · rw [upd_same, posL_succ, if_pos hd, List.map_append]; rfl
    · have hn : ¬ a[i]? = some 97 := fun z => e (by rw [hd] at z; rw [Option.some.inj z]; rfl)
      exact ⟨s2, by rw [posL_succ, if_neg hn, List.append_nil]; exact e2⟩
  · obtain ⟨s1, e1⟩ := h
    refine ⟨.str (S a), rfl, S a, rfl, fun D2 nD2 => ?_⟩
    refine lc_it (walk_enumT a) (fun i H' => Same H1 H' ∧ H' D2 = some (.lst ((posL a 98 i).map fun (o : Nat) => V.int (o : Int)))) ⟨same_new nD2, upd_same⟩ (fun _ _ _ _ => trivial) (fun i x H2 H3 hi h hx => ?_) (fun H2 h => ?_)
    · obtain ⟨T, d, rfl, nT, rfl, hd⟩ := hx
      obtain ⟨s2, e2⟩ := h
      obtain ⟨s3, e3⟩ := step 98 hd hi s2 nD2 nT e2
      have eT : (upd H2 T (.tup [.int (i : Nat), .str (S [d])])) T = some (.tup [.int (i : Nat), .str (S [d])]) := upd_same
      refine ⟨T, _, rfl, SqT.of eT, rfl, _, _, rfl, _, _, rfl, rfl, rfl, .str (S [d]), rfl, rfl, _, rfl, ite2 (fun e => ?_) (fun e => ?_)⟩
      · obtain rfl : d = 98 := one_inj (of_decide_eq_true e)
        refine ⟨.int (i : Nat), rfl, _, e3, ?_, Same.mut s3 nD2, ?_⟩
        · have := posL_le a 98 i; rw [List.length_map]; unfold sizeLine; omega
        · rw [upd_same, posL_succ, if_pos hd, List.map_append]; rfl
      · have hn : ¬ a[i]? = some 98 := fun z => e (by rw [hd] at z; rw [Option.some.inj z]; rfl)
        exact ⟨s3, by rw [posL_succ, if_neg hn, List.append_nil]; exact e3⟩
    · obtain ⟨s2, e2⟩ := h
      have e1' := s2 _ _ e1
      refine ⟨.ref D, rfl, D, _, rfl, .inl (SqL.of e1'), .ref D2, rfl, D2, _, rfl, .inl (SqL.of e2), .ref D, rfl, D, rfl, ⟨_, SqL.of e1'⟩, fun D3 nD3 => ?_⟩
      refine lc_list (xs := (posL a 97 a.length).map fun (o : Nat) => V.int (o : Int)) (fun i H' => Same H2 H' ∧ ∃ acc : List Int, H' D3 = some (.lst (acc.map V.int)) ∧ acc.length = i ∧ acc.sum = (((posL a 97 a.length).take i).map fun o => (((a.drop (o + 1)).count 98 : Nat) : Int)).sum)
        ⟨same_new nD3, [], upd_same, rfl, by simp⟩ (fun i H' _ h => SqL.of (h.1 _ _ e1')) (fun i x H3 hx h => ?_) (fun H3 h => ?_)
      · obtain ⟨s3, acc, e3, hacc, hsum⟩ := h
        obtain ⟨o, ho, rfl⟩ : ∃ o, (posL a 97 a.length)[i]? = some o ∧ x = V.int (o : Int) := by
          rw [List.getElem?_map] at hx
          cases h : (posL a 97 a.length)[i]? with
          | none => rw [h] at hx; cases hx
          | some o => rw [h] at hx; exact ⟨o, rfl, (Option.some.inj hx).symm⟩
        have hi : i < (posL a 97 a.length).length := (List.getElem?_eq_some_iff.mp ho).1
        have hi2 := posL_le a 97 a.length
        have e2' := s3 _ _ e2
        refine ⟨rfl, .ref D2, rfl, D2, rfl, ⟨_, SqL.of e2'⟩, fun D4 nD4 => ?_⟩
        refine lc_list (xs := (posL a 98 a.length).map fun (o : Nat) => V.int (o : Int)) (fun j H' => Same H3 H' ∧ ∃ acc : List V, H' D4 = some (.lst acc) ∧ acc.length = ((posL a 98 a.length).take j).countP fun z => decide (o < z))
          ⟨same_new nD4, [], upd_same, by simp⟩ (fun i H' _ h => SqL.of (h.1 _ _ e2')) (fun j x H4 hx h => ?_) (fun H4 h => ?_)
        · obtain ⟨s4, acc4, e4, h4⟩ := h
          obtain ⟨z, hz, rfl⟩ : ∃ z, (posL a 98 a.length)[j]? = some z ∧ x = V.int (z : Int) := by
            rw [List.getElem?_map] at hx
            cases h : (posL a 98 a.length)[j]? with
            | none => rw [h] at hx; cases hx
            | some o => rw [h] at hx; exact ⟨o, rfl, (Option.some.inj hx).symm⟩
          have hj : j < (posL a 98 a.length).length := (List.getElem?_eq_some_iff.mp hz).1
          have hj2 := posL_le a 98 a.length
          have hle : ((posL a 98 a.length).take j).countP (fun z => decide (o < z)) ≤ j := by
            have h1 := List.countP_le_length (p := fun z => decide (o < z)) (l := (posL a 98 a.length).take j)
            rw [List.length_take] at h1; omega
          refine ⟨rfl, .int (o : Nat), rfl, .int (z : Nat), rfl, _, _, rfl, rfl, _, rfl, ite2 (fun e => ?_) (fun e => ?_)⟩
          · have e' : o < z := by have := of_decide_eq_true e; omega
            refine ⟨_, rfl, _, e4, by rw [h4]; unfold sizeLine; omega, Same.mut s4 nD4, _, upd_same, ?_⟩
            rw [List.length_append, h4, List.take_add_one, hz, List.countP_append]
            simp [e']
          · have e' : ¬ o < z := fun q => e (decide_eq_true (by omega))
            refine ⟨s4, acc4, e4, ?_⟩
            rw [h4, List.take_add_one, hz, List.countP_append]
            simp [e']
        · obtain ⟨s4, acc4, e4, h4⟩ := h
          rw [List.length_map, List.take_length, posL_behind a 98 o a.length (Nat.le_refl _), List.take_length] at h4
          have nD34 : H3 D4 = none := nD4
          refine ⟨D4, acc4, rfl, SqL.of e4, _, s4 _ _ e3, by rw [List.length_map, hacc]; unfold sizeLine; omega, Same.mut (s3.trans s4) nD3, acc ++ [(acc4.length : Int)], by rw [upd_same, List.map_append]; rfl, by rw [List.length_append, hacc]; rfl, ?_⟩
          rw [List.sum_append, hsum, List.take_add_one, ho, List.map_append, List.sum_append, h4]
          rfl
      · obtain ⟨s3, acc, e3, hacc, hsum⟩ := h
        rw [List.length_map, List.take_length] at hsum
        have key : ∀ n, n ≤ a.length → ((posL a 97 n).map fun o => (((a.drop (o + 1)).count 98 : Nat) : Int)).sum = qrs a n := by
          intro n
          induction n with
          | zero => intro _; rfl
          | succ n ih =>
            intro hn
            rw [posL_succ, List.map_append, List.sum_append, ih (by omega), qrs]
            by_cases h : a[n]? = some 97
            · rw [if_pos h, if_pos h]; simp
            · rw [if_neg h, if_neg h]; rfl
        refine ⟨D3, acc, rfl, SqL.of e3, (by show 3 ≤ sizeLine; decide), fun T H4 nT _ hH4 => ?_⟩
        have s4 : Same H3 H4 := by rw [hH4]; exact same_new nT
        have sH3 : Same H H3 := s1.trans (s2.trans s3)
        have nTH : H T = none := by
          cases h : H T with
          | none => rfl
          | some o => rw [sH3 _ _ h] at nT; cases nT
        refine q T H4 (sH3.trans s4) nTH ?_
        rw [hH4, upd_same, hsum, key _ (Nat.le_refl _), prs_is_qrs, List.length_map, List.length_map, posL_len, posL_len, List.take_length]

end
end K08
namespace K08
open PySem PySem.Spec PyProof.Rows L2 Vx
section
variable {P : Program} {w : World} {K : PySem.W.Frag} {mg : Str → Option Value} {base : Heap}
/-- the three numbers of a Counts object, in a new tuple -/
def spThree (C : Addr) : Sp := fun vs H Q _ => ∃ (x : Addr) (a b p : Int), vs = [.ref x] ∧ CountsAt C H x a b p ∧ ∀ (T : Addr) (H' : Hp), Same H H' → H T = none → H' T = some (.tup [.int a, .int b, .int p]) → Q (.ref T) H'
theorem ok_law_three {C f gA gB gP pA pB pP : Addr} {fd fA fB fP : FuncData} {k : Nat} (F : Fun K "_law_three" "_law_three" st_law_three f fd) (T_c : CT K mg C)
    (p_c_many_a : PropOf K C "many_a" pA gA) (Gp_c_many_a : FnOk P w K mg base CX0 1 gA fA ["self"] (getSp C "_many_a")) (bp_c_many_a : Binds K fA ["self"] [])
    (p_c_many_b : PropOf K C "many_b" pB gB) (Gp_c_many_b : FnOk P w K mg base CX0 1 gB fB ["self"] (getSp C "_many_b")) (bp_c_many_b : Binds K fB ["self"] [])
    (p_c_pairs : PropOf K C "pairs" pP gP) (Gp_c_pairs : FnOk P w K mg base CX0 1 gP fP ["self"] (getSp C "_pairs")) (bp_c_pairs : Binds K fP ["self"] []) : FnOk P w K mg base CX0 (k + 3) f fd ["counts"] (spThree C) := by
  refine F.ok sc_law_three (fun vs H Q E h => ?_) (fun cdv A outer s H vs Q E hr h => ?_)
  · obtain ⟨x, a, b, p, rfl, _⟩ := h; rfl
  obtain ⟨x, a, b, p, rfl, ⟨dx, e⟩, q⟩ := h
  refine ⟨_, (pss_one (ps_ret (peq_tup (pa_cons (pe_prop (pv 0) T_c.cl p_c_many_a Gp_c_many_a (hr.mono (by omega)) bp_c_many_a .nil pass0 rfl) (pa_cons (pe_prop (pv 0) T_c.cl p_c_many_b Gp_c_many_b (hr.mono (by omega)) bp_c_many_b .nil pass0 rfl) (pa_cons (pe_prop (pv 0) T_c.cl p_c_pairs Gp_c_pairs (hr.mono (by omega)) bp_c_pairs .nil pass0 rfl) pa_nil)))))), ?_⟩
  refine ⟨.ref x, rfl, x, dx, _, rfl, e, x, dx, _, _, rfl, e, flds_a _ _ _, .ref x, rfl, x, dx, _, rfl, e, x, dx, _, _, rfl, e, flds_b _ _ _, .ref x, rfl, x, dx, _, rfl, e, x, dx, _, _, rfl, e, flds_p _ _ _, (by show 3 ≤ sizeLine; decide), fun T H1 nT _ hH1 => ?_⟩
  refine q T H1 (by rw [hH1]; exact same_new nT) nT (by rw [hH1]; exact upd_same)
/-- a number of letters -/
def spMany : Sp := fun vs H Q _ => ∃ r : Addr, vs = [.ref r] ∧ Reel H r ∧ ∀ (d : Int) (H' : Hp), 0 ≤ d → d ≤ 10 ^ 30 → Step r H H' → Reel H' r → Q (.int d) H'
theorem ok_law_many {f fD : Addr} {fd fdD : FuncData} {k : Nat} (F : Fun K "_law_many" "_law_many" st_law_many f fd) (F_law_draw : Fun K "_law_draw" "_law_draw" st_law_draw fD fdD) (G_law_draw : FnOk P w K mg base CX0 1 fD fdD ["reel", "many"] spDraw)
    (b_law_draw : Binds K fdD ["reel", "many"] []) (g_law_draw : mg "_law_draw" = some (.ref fD)) : FnOk P w K mg base CX0 (k + 2) f fd ["reel"] spMany := by
  refine F.ok sc_law_many (fun vs H Q E h => ?_) (fun cdv A outer s H vs Q E hr h => ?_)
  · obtain ⟨r, rfl, _⟩ := h; rfl
  obtain ⟨r, rfl, R, q⟩ := h
  refine ⟨_, (pss_one (ps_ret (pe_ix ix_list (peq_lst (pa_cons pe_int (pa_cons pe_int (pa_cons (pe_call G_law_draw (hr.mono (by omega)) (by rfl) g_law_draw F_law_draw.kp b_law_draw .nil pass0 (pa_cons (pv 0) (pa_cons pe_int pa_nil))) (pa_cons (pe_call G_law_draw (hr.mono (by omega)) (by rfl) g_law_draw F_law_draw.kp b_law_draw .nil pass0 (pa_cons (pv 0) (pa_cons pe_int pa_nil))) (pa_cons (pe_call G_law_draw (hr.mono (by omega)) (by rfl) g_law_draw F_law_draw.kp b_law_draw .nil pass0 (pa_cons (pv 0) (pa_cons (pe_op op_pow pe_int pe_int) pa_nil))) pa_nil)))))) (pe_call G_law_draw (hr.mono (by omega)) (by rfl) g_law_draw F_law_draw.kp b_law_draw .nil pass0 (pa_cons (pv 0) (pa_cons pe_int pa_nil))) (fun _ _ => rfl)))), ?_⟩
  refine ⟨.ref r, rfl, r, 7, rfl, R, by decide, b8k (by decide) (by decide), fun d1 H1 l1 u1 k1 R1 => ?_⟩
  refine ⟨.ref r, rfl, r, 300, rfl, R1, by decide, b8k (by decide) (by decide), fun d2 H2 l2 u2 k2 R2 => ?_⟩
  refine ⟨.ref r, rfl, 10, 30, rfl, rfl, ⟨by decide, by decide, by decide⟩, r, _, rfl, R2, by decide, b8k (by decide) (by decide), fun d3 H3 l3 u3 k3 R3 => ?_⟩
  have u3' : d3 < 10 ^ 30 := u3
  refine ⟨(by show 5 ≤ sizeLine; decide), fun p H4 np _ hH4 => ?_⟩
  have s4 : Same H3 H4 := by rw [hH4]; exact same_new np
  have e4 : H4 p = some (.lst [.int 0, .int 1, .int d1, .int d2, .int d3]) := by rw [hH4]; exact upd_same
  have R4 := R3.mono s4
  have npr : p ≠ r := R3.ne np
  clear hH4
  refine ⟨.ref r, rfl, r, 5, rfl, R4, by decide, b8k (by decide) (by decide), fun d4 H5 l4 u4 k5 R5 => ?_⟩
  have e5 := k5.keep _ _ npr e4
  have hz : ∃ z : Int, atI [V.int 0, .int 1, .int d1, .int d2, .int d3] d4 = some (.int z) ∧ 0 ≤ z ∧ z ≤ 10 ^ 30 := by
    have : d4 = 0 ∨ d4 = 1 ∨ d4 = 2 ∨ d4 = 3 ∨ d4 = 4 := by omega
    rcases this with rfl | rfl | rfl | rfl | rfl
    · exact ⟨0, at_of (j := 0) rfl rfl, by decide, by decide⟩
    · exact ⟨1, at_of (j := 1) rfl rfl, by decide, by decide⟩
    · exact ⟨d1, at_of (j := 2) rfl rfl, l1, by omega⟩
    · exact ⟨d2, at_of (j := 3) rfl rfl, l2, by omega⟩
    · exact ⟨d3, at_of (j := 4) rfl rfl, l3, by omega⟩
  obtain ⟨z, hz, z0, z1⟩ := hz
  exact ⟨p, _, d4, .int z, rfl, rfl, SqL.of e5, hz, q z H5 z0 z1 (((k1.trans k2).trans (k3.trans (Step.same R3 s4))).trans k5) R5⟩
/-- three drawn numbers that are counts -/
structure Any3 (a b p : Int) : Prop where
  a0 : 0 ≤ a
  b0 : 0 ≤ b
  p0 : 0 ≤ p
  pm : p ≤ a * b
  a1 : a ≤ 10 ^ 60
  b1 : b ≤ 10 ^ 60
  m1 : a * b ≤ 10 ^ 62
theorem small95 {x : Int} (h0 : 0 ≤ x) (h : x ≤ 10 ^ 62) : x.natAbs < 10 ^ 95 := by
  have : (10 : Int) ^ 62 < 10 ^ 95 := by decide +kernel
  have h2 : x < 10 ^ 95 := Int.lt_of_le_of_lt h this
  omega
theorem pow60 : ((10 : Int) ^ 60).natAbs < 2 ^ 200 := by decide +kernel
theorem small60 {a : Int} (h0 : 0 ≤ a) (h : a ≤ 10 ^ 60) : a.natAbs < 2 ^ 200 := by
  have : (10 : Int) ^ 60 < 2 ^ 200 := by decide +kernel
  have h2 : a < 2 ^ 200 := Int.lt_of_le_of_lt h this
  omega
theorem Any3.ok {a b p : Int} (h : Any3 a b p) : COk a b p := by
  have e : (2 : Nat) ^ 200 < 2 ^ 3000 := Nat.pow_lt_pow_right (by decide) (by decide)
  exact ⟨h.a0, h.b0, h.p0, h.pm, Nat.lt_trans (small60 h.a0 h.a1) e, Nat.lt_trans (small60 h.b0 h.b1) e⟩
theorem cutG {A : Type} {B : Type} {P G : A → B → Hp → Prop} {T : Prop} (f : (∀ a b H, P a b H → G a b H) → T) (r : ∀ a b H, P a b H → G a b H) : T := f r
def spAny : Sp := fun vs H Q _ => ∃ r : Addr, vs = [.ref r] ∧ Reel H r ∧ ∀ (T : Addr) (a b p : Int) (H' : Hp), Any3 a b p → Step r H H' → Reel H' r → H T = none → H' T = some (.tup [.int a, .int b, .int p]) → T ≠ r → Q (.ref T) H'
theorem ok_law_any {f fD fM : Addr} {fd fdD fdM : FuncData} {k : Nat} (F : Fun K "_law_any" "_law_any" st_law_any f fd) (F_law_draw : Fun K "_law_draw" "_law_draw" st_law_draw fD fdD) (G_law_draw : FnOk P w K mg base CX0 1 fD fdD ["reel", "many"] spDraw)
    (b_law_draw : Binds K fdD ["reel", "many"] []) (g_law_draw : mg "_law_draw" = some (.ref fD)) (F_law_many : Fun K "_law_many" "_law_many" st_law_many fM fdM) (G_law_many : FnOk P w K mg base CX0 2 fM fdM ["reel"] spMany)
    (b_law_many : Binds K fdM ["reel"] []) (g_law_many : mg "_law_many" = some (.ref fM)) (m_min : mg "min" = none) (m_max : mg "max" = none) : FnOk P w K mg base CX0 (k + 3) f fd ["reel"] spAny := by
  refine F.ok sc_law_any (fun vs H Q E h => ?_) (fun cdv A outer s H vs Q E hr h => ?_)
  · obtain ⟨r, rfl, _⟩ := h; rfl
  obtain ⟨r, rfl, R, q⟩ := h
  refine ⟨_, (pss_cons (ps_par (i := 1) (j := 2) (by rfl) sc_law_any.nd rfl rfl (by decide) rfl rfl (pa_cons (pe_call G_law_many (hr.mono (by omega)) (by rfl) g_law_many F_law_many.kp b_law_many .nil pass0 (pa_cons (pv 0) pa_nil)) (pa_cons (pe_call G_law_many (hr.mono (by omega)) (by rfl) g_law_many F_law_many.kp b_law_many .nil pass0 (pa_cons (pv 0) pa_nil)) pa_nil)) (by rfl))
    (pss_cons (ps_if (pt_cmpR op_eq (pe_call G_law_draw (hr.mono (by omega)) (by rfl) g_law_draw F_law_draw.kp b_law_draw .nil pass0 (pa_cons (pv 0) (pa_cons pe_int pa_nil))) pe_int (nomark _)) (pss_cons (ps_par (i := 1) (j := 2) (by rfl) sc_law_any.nd rfl rfl (by decide) rfl rfl (pa_cons (pe_call G_law_draw (hr.mono (by omega)) (by rfl) g_law_draw F_law_draw.kp b_law_draw .nil pass0 (pa_cons (pv 0) (pa_cons (pe_op op_pow pe_int pe_int) pa_nil))) (pa_cons (pe_call G_law_draw (hr.mono (by omega)) (by rfl) g_law_draw F_law_draw.kp b_law_draw .nil pass0 (pa_cons (pv 0) (pa_cons pe_int pa_nil))) pa_nil)) (by rfl))
    (pss_one (ps_if (pt_cmpR op_eq (pe_call G_law_draw (hr.mono (by omega)) (by rfl) g_law_draw F_law_draw.kp b_law_draw .nil pass0 (pa_cons (pv 0) (pa_cons pe_int pa_nil))) pe_int (nomark _)) (pss_one (ps_par (i := 1) (j := 2) (by rfl) sc_law_any.nd rfl rfl (by decide) rfl rfl (pa_cons (pv 2) (pa_cons (pv 1) pa_nil)) (by rfl))) pss_nil))) pss_nil)
    (pss_cons (ps_set (i := 3) sc_law_any.nd rfl (Or.inl rfl) (pe_op op_mulW (pv 1) (pv 2)))
    (pss_cons (ps_set (i := 4) sc_law_any.nd rfl (Or.inl rfl) (peq_lst (pa_cons pe_int (pa_cons (pv 3) (pa_cons (pe_callB (call_min2 rfl) (by rfl) m_min (by decide +kernel) (pa_cons pe_int (pa_cons (pv 3) pa_nil))) (pa_cons (pe_callB (call_max2 rfl) (by rfl) m_max (by decide +kernel) (pa_cons pe_int (pa_cons (pe_op op_sub (pv 3) pe_int) pa_nil))) (pa_cons (pe_op op_fdivW (pv 3) pe_int) (pa_cons (pe_call G_law_draw (hr.mono (by omega)) (by rfl) g_law_draw F_law_draw.kp b_law_draw .nil pass0 (pa_cons (pv 0) (pa_cons (pe_op op_add (pv 3) pe_int) pa_nil))) pa_nil))))))))
    (pss_one (ps_ret (peq_tup (pa_cons (pv 1) (pa_cons (pv 2) (pa_cons (pe_ix ix_list (pv 4) (pe_call G_law_draw (hr.mono (by omega)) (by rfl) g_law_draw F_law_draw.kp b_law_draw .nil pass0 (pa_cons (pv 0) (pa_cons pe_int pa_nil))) (fun _ _ => rfl)) pa_nil)))))))))), ?_⟩
  refine ⟨.ref r, rfl, r, rfl, R, fun one H1 a0 a1 k1 R1 => ?_⟩
  refine ⟨.ref r, rfl, r, rfl, R1, fun two H2 b0 b1 k2 R2 => ?_⟩
  refine ⟨.int one, .int two, rfl, ?_⟩
  refine ⟨.ref r, rfl, r, 5, rfl, R2, by decide, b8k (by decide) (by decide), fun d3 H3 l3 u3 k3 R3 => ?_⟩
  have k13 : Step r H H3 := (k1.trans k2).trans k3
  have p30 : (10 : Int) ^ 30 ≤ 10 ^ 60 := by decide +kernel
  refine ⟨rfl, _, rfl, ?_⟩
  refine' cutG (A := Int) (B := Int) (P := fun one two H' => 0 ≤ one ∧ 0 ≤ two ∧ one ≤ 10 ^ 60 ∧ two ≤ 10 ^ 60 ∧ one * two ≤ 10 ^ 62 ∧ Step r H H' ∧ Reel H' r) (fun rest => ite2 (fun _ => ?f1) (fun _ => ?f2)) ?rest
  case f1 =>
    refine ⟨.ref r, rfl, 10, 60, rfl, rfl, ⟨by decide, by decide, by decide⟩, r, _, rfl, R3, by decide, b8k (by decide) (by decide), fun o2 H4 a0 a1 k4 R4 => ?_⟩
    refine ⟨.ref r, rfl, r, 10, rfl, R4, by decide, b8k (by decide) (by decide), fun t2 H5 b0 b1 k5 R5 => ?_⟩
    have a1' : o2 < 10 ^ 60 := a1
    have b1' : t2 ≤ 10 ^ 60 := by omega
    have hm2 : o2 * t2 ≤ 10 ^ 62 := Int.le_trans (Int.mul_le_mul (Int.le_of_lt a1') (show t2 ≤ 10 by omega) b0 (by decide)) (by decide +kernel)
    refine ⟨.int o2, .int t2, rfl, ?_⟩
    refine ⟨.ref r, rfl, r, 2, rfl, R5, by decide, b8k (by decide) (by decide), fun d6 H6 l6 u6 k6 R6 => ?_⟩
    have k16 : Step r H H6 := k13.trans ((k4.trans k5).trans k6)
    refine ⟨rfl, _, rfl, ite2 (fun _ => ?_) (fun _ => ?_)⟩
    · exact ⟨.int t2, rfl, .int o2, rfl, .int t2, .int o2, rfl, rest t2 o2 H6 ⟨b0, a0, b1', Int.le_of_lt a1', by rw [Int.mul_comm]; exact hm2, k16, R6⟩⟩
    · exact rest o2 t2 H6 ⟨a0, b0, Int.le_of_lt a1', b1', hm2, k16, R6⟩
  case f2 => exact rest one two H3 ⟨a0, b0, Int.le_trans a1 p30, Int.le_trans b1 p30, Int.le_trans (Int.mul_le_mul a1 b1 b0 (by decide)) (by decide +kernel), k13, R3⟩
  case rest =>
    rintro one two H4 ⟨a0, b0, a1, b1, mm, k4, R4⟩
    have wa := small60 a0 a1
    have wb := small60 b0 b1
    have hm : (one * two).natAbs < 2 ^ (200 + 200) := wide_lt wa wb
    refine ⟨.int one, rfl, .int two, rfl, one, two, rfl, rfl, wide_mul wa wb (by decide) (by decide) (by decide), ?_⟩
    have m0 : 0 ≤ one * two := Int.mul_nonneg a0 b0
    refine ⟨.int (one * two), rfl, .int (one * two), rfl, _, _, rfl, .int (one * two), rfl, (one * two), 1, rfl, rfl, _, _, rfl, .int (one * two), rfl, (one * two), 2, rfl, rfl, wide_div (b := 2) (by decide) (by decide) (by decide) (by decide), .ref r, rfl, .int (one * two), rfl, (one * two), 1, rfl, rfl, r, (one * two) + 1, rfl, R4, by omega, ?_, fun d5 H5 l5 u5 k5 R5 => ?_⟩
    · have e : (2 : Nat) ^ (200 + 200) + 1 < 2 ^ 8000 := Nat.lt_of_lt_of_le (show (2 : Nat) ^ (200 + 200) + 1 < 2 ^ 401 by decide +kernel) (Nat.pow_le_pow_right (by decide) (by decide))
      omega
    refine ⟨(by show 6 ≤ sizeLine; decide), fun p H6 np _ hH6 => ?_⟩
    have s6 : Same H5 H6 := by rw [hH6]; exact same_new np
    have R6 := R5.mono s6
    have npr : p ≠ r := R5.ne np
    have e6 : H6 p = some (.lst [V.int 0, .int (one * two), .int (if (one * two) < 1 then (one * two) else 1), .int (if 0 < (one * two) - 1 then (one * two) - 1 else 0), .int ((one * two) / 2), .int d5]) := by rw [hH6]; exact upd_same
    clear hH6
    refine ⟨.int one, rfl, .int two, rfl, .ref p, rfl, .ref r, rfl, r, 6, rfl, R6, by decide, b8k (by decide) (by decide), fun d7 H7 l7 u7 k7 R7 => ?_⟩
    have e7 := k7.keep _ _ npr e6
    have hz : ∃ z : Int, atI [V.int 0, .int (one * two), .int (if ((one * two) : Int) < 1 then (one * two) else 1), .int (if (0 : Int) < (one * two) - 1 then (one * two) - 1 else 0), .int ((one * two) / 2), .int d5] d7 = some (.int z) ∧ 0 ≤ z ∧ z ≤ (one * two) := by
      have : d7 = 0 ∨ d7 = 1 ∨ d7 = 2 ∨ d7 = 3 ∨ d7 = 4 ∨ d7 = 5 := by omega
      rcases this with rfl | rfl | rfl | rfl | rfl | rfl
      · exact ⟨0, at_of (j := 0) rfl rfl, by decide, m0⟩
      · exact ⟨(one * two), at_of (j := 1) rfl rfl, m0, Int.le_refl _⟩
      · refine ⟨_, at_of (j := 2) rfl rfl, ?_, ?_⟩ <;> split <;> omega
      · refine ⟨_, at_of (j := 3) rfl rfl, ?_, ?_⟩ <;> split <;> omega
      · exact ⟨_, at_of (j := 4) rfl rfl, by omega, by omega⟩
      · exact ⟨_, at_of (j := 5) rfl rfl, l5, by omega⟩
    obtain ⟨z, hz, z0, z1⟩ := hz
    refine ⟨p, _, d7, .int z, rfl, rfl, SqL.of e7, hz, (by show 3 ≤ sizeLine; decide), fun T H8 nT _ hH8 => ?_⟩
    have s8 : Same H7 H8 := by rw [hH8]; exact same_new nT
    have kk : Step r H H7 := k4.trans ((k5.trans (Step.same R5 s6)).trans k7)
    have nTr := R7.ne nT
    refine q T one two z H8 ⟨a0, b0, z0, z1, a1, b1, mm⟩ (kk.trans (Step.same R7 s8)) (R7.mono s8) (kk.keep.none nTr nT) (by rw [hH8]; exact upd_same) nTr
/-- Counts(*three) -/
def spMade (K : PySem.W.Frag) (C : Addr) : Sp := fun vs H Q _ => ∃ (T : Addr) (a b p : Int), vs = [.ref T] ∧ SqT K H T [.int a, .int b, .int p] ∧ COk a b p ∧ ∀ (x : Addr) (H' : Hp), Same H H' → H x = none → CountsAt C H' x a b p → Q (.ref x) H'
theorem ok_law_made {C f f3 : Addr} {fd fd3 : FuncData} {k : Nat} (F : Fun K "_law_made" "_law_made" st_law_made f fd) (T_c : CT K mg C) (M_c : Mk K C f3) (G_c_init : FnOk P w K mg base CX0 3 f3 fd3 ["self", "many_a", "many_b", "pairs"] (spInit C)) (b_c_init : Binds K fd3 ["self", "many_a", "many_b", "pairs"] []) : FnOk P w K mg base CX0 (k + 5) f fd ["three"] (spMade K C) := by
  refine F.ok sc_law_made (fun vs H Q E h => ?_) (fun cdv A outer s H vs Q E hr h => ?_)
  · obtain ⟨T, a, b, p, rfl, _⟩ := h; rfl
  obtain ⟨T, a, b, p, rfl, hT, c, q⟩ := h
  refine ⟨_, (pss_one (ps_ret (pe_make M_c G_c_init (hr.mono (by omega)) (by rfl) T_c.mg b_c_init .nil pass0 (pa_cons (pe_ix ix_tup (pv 0) pe_int (fun _ _ => rfl)) (pa_cons (pe_ix ix_tup (pv 0) pe_int (fun _ _ => rfl)) (pa_cons (pe_ix ix_tup (pv 0) pe_int (fun _ _ => rfl)) pa_nil)))))), ?_⟩
  refine ⟨.ref T, rfl, T, _, 0, .int a, rfl, rfl, hT, rfl, .ref T, rfl, T, _, 1, .int b, rfl, rfl, hT, rfl, .ref T, rfl, T, _, 2, .int p, rfl, rfl, hT, rfl, fun x dx nx ndx _ => ?_⟩
  exact mkC nx ndx c fun H2 s2 hc => q x H2 s2 nx hc

end
end K08
namespace K08
open PySem PySem.Spec PyProof.Rows L2 Vx
section
variable {P : Program} {w : World} {K : PySem.W.Frag} {mg : Str → Option Value} {base : Heap}
/-- the pairs of a row, from the first letter on -/
def pr2 : List Nat → Int
  | [] => 0
  | c :: r => pr2 r + (if c = 97 then ((r.count 98 : Nat) : Int) else 0)
theorem pr2_snoc (a : List Nat) (c : Nat) : pr2 (a ++ [c]) = pr2 a + (if c = 98 then ((a.count 97 : Nat) : Int) else 0) := by
  induction a with
  | nil => by_cases h : c = 98 <;> simp [pr2, h]
  | cons x r ih =>
    rw [List.cons_append, pr2, ih, pr2, List.count_append]
    by_cases h1 : c = 98
    · subst h1
      by_cases h2 : x = 97
      · subst h2; simp; omega
      · simp [h2, List.count_cons]
    · by_cases h2 : x = 97
      · subst h2; simp [h1, List.count_singleton]
      · simp [h1, h2]
theorem prs_take (a : List Nat) : ∀ i, i ≤ a.length → prs a i = pr2 (a.take i)
  | 0, _ => rfl
  | i + 1, h => by
    have hc : a[i]? = some a[i] := List.getElem?_eq_getElem (by omega)
    rw [prs, prs_take a i (by omega), List.take_add_one, hc]
    show _ = pr2 (a.take i ++ [a[i]])
    rw [pr2_snoc]
    by_cases h2 : a[i] = 98
    · rw [h2, if_pos rfl, if_pos rfl]; rfl
    · rw [if_neg h2, if_neg fun z => h2 (Option.some.inj z)]
theorem prs_pr2 (a : List Nat) : prs a a.length = pr2 a := by rw [prs_take a a.length (Nat.le_refl _), List.take_length]
theorem abs_cons {c : Nat} {r : List Nat} (h : abs (c :: r) = true) : (c = 97 ∨ c = 98) ∧ abs r = true := by
  unfold abs at *
  rw [List.all_cons, Bool.and_eq_true] at h
  refine ⟨?_, h.2⟩
  have := h.1
  simpa using this
theorem pr2_rev {a : List Nat} (h : abs a = true) : pr2 a.reverse = ((a.count 97 : Nat) : Int) * (a.count 98 : Nat) - pr2 a := by
  induction a with
  | nil => rfl
  | cons c r ih =>
    obtain ⟨h1, h2⟩ := abs_cons h
    have ih := ih h2
    rw [List.reverse_cons, pr2_snoc, ih, pr2, List.count_reverse]
    generalize pr2 r = z
    rcases h1 with rfl | rfl
    · rw [List.count_cons_self, List.count_cons_of_ne (by decide)]
      generalize r.count 97 = m
      generalize r.count 98 = n
      simp [Int.add_mul]; omega
    · rw [List.count_cons_self, List.count_cons_of_ne (by decide)]
      generalize r.count 97 = m
      generalize r.count 98 = n
      simp [Int.mul_add]; omega
/-- all letters exchanged -/
def swp (a : List Nat) : List Nat := a.map fun c => if c = 97 then 98 else 97
theorem swp_len (a : List Nat) : (swp a).length = a.length := List.length_map ..
theorem swp_abs (a : List Nat) : abs (swp a) = true := by
  unfold abs swp
  rw [List.all_map]
  refine List.all_eq_true.mpr fun c _ => ?_
  show ((if c = 97 then 98 else 97) == 97 || (if c = 97 then 98 else 97) == 98) = true
  split <;> rfl
theorem swp_counts {a : List Nat} (h : abs a = true) : (swp a).count 97 = a.count 98 ∧ (swp a).count 98 = a.count 97 := by
  induction a with
  | nil => exact ⟨rfl, rfl⟩
  | cons c r ih =>
    obtain ⟨h1, h2⟩ := abs_cons h
    obtain ⟨i1, i2⟩ := ih h2
    have e : swp (c :: r) = (if c = 97 then 98 else 97) :: swp r := rfl
    rw [e]
    rcases h1 with rfl | rfl
    · rw [if_pos rfl, List.count_cons_self, List.count_cons_self, List.count_cons_of_ne (by decide), List.count_cons_of_ne (by decide)]
      exact ⟨i1, by rw [i2]⟩
    · rw [if_neg (by decide), List.count_cons_self, List.count_cons_self, List.count_cons_of_ne (by decide), List.count_cons_of_ne (by decide)]
      exact ⟨by rw [i1], i2⟩
theorem pr2_swp {a : List Nat} (h : abs a = true) : pr2 (swp a) = ((a.count 97 : Nat) : Int) * (a.count 98 : Nat) - pr2 a := by
  induction a with
  | nil => rfl
  | cons c r ih =>
    obtain ⟨h1, h2⟩ := abs_cons h
    have ih := ih h2
    have e : swp (c :: r) = (if c = 97 then 98 else 97) :: swp r := rfl
    rw [e, pr2, ih, pr2, (swp_counts h2).2]
    generalize pr2 r = z
    rcases h1 with rfl | rfl
    · rw [List.count_cons_self, List.count_cons_of_ne (by decide)]
      generalize r.count 97 = m
      generalize r.count 98 = n
      simp [Int.add_mul]; omega
    · rw [List.count_cons_self, List.count_cons_of_ne (by decide)]
      generalize r.count 97 = m
      generalize r.count 98 = n
      simp [Int.mul_add]; omega

end
end K08
namespace K08
open PySem PySem.Spec PyProof.Rows L2 Vx
section
variable {P : Program} {w : World} {K : PySem.W.Frag} {mg : Str → Option Value} {base : Heap}
/-- a value that is no integer from lo to hi -/
def BadNum (K : PySem.W.Frag) (H : Hp) (v : V) (lo hi : Int) : Prop := (∃ n : Int, v = .int n ∧ (n < lo ∨ hi < n)) ∨ (∃ b, v = .bl b) ∨ ∃ t, TyX K H v t ∧ PySem.W.kitOne K t (.type "int") = some false
/-- check_number of any value -/
def spCkX (K : PySem.W.Frag) (D : Addr) : Sp := fun vs H Q E => ∃ (v : V) (lo hi : Int), vs = [v, .int lo, .int hi] ∧ ((∃ n : Int, v = .int n ∧ lo ≤ n ∧ n ≤ hi ∧ Q .non H) ∨ (BadNum K H v lo hi ∧ E (.ref D) none H))
theorem ok_check_number {D f f2 : Addr} {fd fd2 : FuncData} {k : Nat} (F : FunD K "check_number" "check_number" (defArgs st_check_number) (defBody st_check_number) (defScope st_check_number) [.non] [] f fd)
    (F_is_integer : Fun K "is_integer" "is_integer" st_is_integer f2 fd2) (G_is_integer : FnOk P w K mg base CX0 1 f2 fd2 ["value"] (spIsInt K)) (b_is_integer : Binds K fd2 ["value"] []) (g_is_integer : mg "is_integer" = some (.ref f2))
    (T_InvalidNumber : ErrC K mg "InvalidNumber" D) : FnOk P w K mg base (L2N.CX P w) (k + 2) f fd ["value", "least", "greatest"] (spCkX K D) := by
  refine okND F sc_check_number (fun vs H Q E h => ?_) (fun cdv A outer s H vs Q E hr tk h => ?_)
  · obtain ⟨n, lo, hi, rfl, _⟩ := h; rfl
  obtain ⟨v, lo, hi, rfl, h⟩ := h
  refine ⟨_, (pss_one (ps_if (PW.pt (pw_or (pt_not (pt_val (pe_call G_is_integer (hr.mono (by omega)) (by rfl) g_is_integer F_is_integer.kp b_is_integer .nil pass0 (pa_cons (pv 0) pa_nil)))) (pw_or (pt_cmpR op_lt (pv 0) (pv 1) (nomark _)) (pw_or1 (PW.pt (pw_and (pt_cmpR op_notN (pv 2) pe_non (nomark _)) (pw_and1 (pt_cmpR op_gt (pv 0) (pv 2) (nomark _))))))))) (pss_one (ps_err T_InvalidNumber rfl tk (by rfl))) pss_nil)), ?_⟩
  rcases h with ⟨n, rfl, h1, h2, q⟩ | ⟨⟨n, rfl, hb⟩ | ⟨b, rfl⟩ | ⟨t, ty, ht⟩, q⟩
  · refine ⟨.int n, rfl, .int n, rfl, .inl ⟨n, rfl, true, rfl, ?_⟩⟩
    refine ⟨.int n, rfl, .int lo, rfl, n, lo, rfl, rfl, false, by show V.bl (decide (n < lo)) = V.bl false; rw [decide_eq_false (by omega)], ?_⟩
    refine ⟨.int hi, rfl, rfl, true, rfl, ?_⟩
    exact ⟨.int n, rfl, .int hi, rfl, n, hi, rfl, rfl, false, by show V.bl (decide (hi < n)) = V.bl false; rw [decide_eq_false (by omega)], q⟩
  · refine ⟨.int n, rfl, .int n, rfl, .inl ⟨n, rfl, true, rfl, ?_⟩⟩
    by_cases h1 : n < lo
    · exact ⟨.int n, rfl, .int lo, rfl, n, lo, rfl, rfl, true, by show V.bl (decide (n < lo)) = V.bl true; rw [decide_eq_true h1], q⟩
    · refine ⟨.int n, rfl, .int lo, rfl, n, lo, rfl, rfl, false, by show V.bl (decide (n < lo)) = V.bl false; rw [decide_eq_false h1], ?_⟩
      refine ⟨.int hi, rfl, rfl, true, rfl, ?_⟩
      exact ⟨.int n, rfl, .int hi, rfl, n, hi, rfl, rfl, true, by show V.bl (decide (hi < n)) = V.bl true; rw [decide_eq_true (by omega)], q⟩
  · exact ⟨.bl b, rfl, .bl b, rfl, .inr (.inl ⟨b, rfl, false, rfl, q⟩)⟩
  · exact ⟨v, rfl, v, rfl, .inr (.inr ⟨t, ty, ht, false, rfl, q⟩)⟩
theorem cokPw {a b p : Int} (c : COk a b p) : p.natAbs < 2 ^ 6000 := by
  have h := wide_lt c.ba c.bb
  have h1 : (a * b).natAbs < 2 ^ 6000 := h
  have := c.p0
  have := c.pm
  exact Nat.lt_of_le_of_lt (by omega) h1
/-- the pairs of n equal rows one behind the other -/
def mulP (a b p n : Int) : Int := p * n + a * b * (n * (n - 1) / 2)
/-- the counts of so many equal rows, for any value -/
def spMulX (K : PySem.W.Frag) (C D : Addr) : Sp := fun vs H Q E => ∃ (x : Addr) (a b p : Int) (v : V), vs = [.ref x, v] ∧ CountsAt C H x a b p ∧ COk a b p ∧
  ((∃ n : Int, v = .int n ∧ 0 ≤ n ∧ n ≤ 10 ^ 30 ∧ COk (a * n) (b * n) (mulP a b p n) ∧ ∀ (z : Addr) (H' : Hp), Same H H' → CountsAt C H' z (a * n) (b * n) (mulP a b p n) → Q (.ref z) H') ∨ (BadNum K H v 0 (10 ^ 30) ∧ E (.ref D) none H))
theorem ok_c_mul {C D f f1 f3 : Addr} {fd fd1 fd3 : FuncData} {t30 : Tok} {k : Nat} (F : Fun K "__mul__" "Counts.__mul__" st_c_mul f fd) (T_c : CT K mg C)
    (F_check_number : FunD K "check_number" "check_number" (defArgs st_check_number) (defBody st_check_number) (defScope st_check_number) [.non] [] f1 fd1) (G_check_number : FnOk P w K mg base (L2N.CX P w) 2 f1 fd1 ["value", "least", "greatest"] (spCkX K D)) (b_check_number : Binds K fd1 ["value", "least", "greatest"] []) (g_check_number : mg "check_number" = some (.ref f1))
    (g_MOST_COPIES : mg "MOST_COPIES" = some (.int (10 ^ 30) t30))
    (M_c : Mk K C f3) (G_c_init : FnOk P w K mg base CX0 3 f3 fd3 ["self", "many_a", "many_b", "pairs"] (spInit C)) (b_c_init : Binds K fd3 ["self", "many_a", "many_b", "pairs"] []) : FnOk P w K mg base (L2N.CX P w) (k + 5) f fd ["self", "other"] (spMulX K C D) := by
  refine okN F sc_c_mul (fun vs H Q E h => ?_) (fun cdv A outer s H vs Q E hr tk h => ?_)
  · obtain ⟨x, a, b, p, n, rfl, _⟩ := h; rfl
  obtain ⟨x, a, b, p, v, rfl, ⟨dx, e⟩, c, h⟩ := h
  refine ⟨_, (pss_cons (ps_expr (pe_call G_check_number (hr.mono (by omega)) (by rfl) g_check_number F_check_number.kp b_check_number .nil (pass_tk tk) (pa_cons (pv 1) (pa_cons pe_int (pa_cons (pe_glob rfl g_MOST_COPIES (show RelV (.int (10 ^ 30)) _ from ⟨_, rfl⟩)) pa_nil)))))
    (pss_cons (ps_set (i := 2) sc_c_mul.nd rfl (Or.inl rfl) (pe_op op_mulW (pe_op op_mulW (pe_fld (pv 0) rfl) (pe_fld (pv 0) rfl)) (pe_op op_fdivW (pe_op op_mulW (pv 1) (pe_op op_sub (pv 1) pe_int)) pe_int)))
    (pss_one (ps_ret (pe_make M_c G_c_init (hr.mono (by omega)) (by rfl) T_c.mg b_c_init .nil pass0 (pa_cons (pe_op op_mulW (pe_fld (pv 0) rfl) (pv 1)) (pa_cons (pe_op op_mulW (pe_fld (pv 0) rfl) (pv 1)) (pa_cons (pe_op op_add (pe_op op_mulW (pe_fld (pv 0) rfl) (pv 1)) (pv 2)) pa_nil)))))))), ?_⟩
  rcases h with ⟨n, rfl, n0, n1, c3, q⟩ | ⟨bad, q⟩
  · have wn : n.natAbs < 2 ^ 110 := by
      have : (10 : Int) ^ 30 < 2 ^ 110 := by decide +kernel
      have : n < 2 ^ 110 := Int.lt_of_le_of_lt n1 this
      omega
    have wm : (n - 1).natAbs < 2 ^ 110 := by
      have : (10 : Int) ^ 30 < 2 ^ 109 := by decide +kernel
      have : n < 2 ^ 109 := Int.lt_of_le_of_lt n1 this
      omega
    have wh : (n * (n - 1) / 2).natAbs < 2 ^ 220 := by
      have := wide_lt wn wm
      have h2 : (n * (n - 1)).natAbs < 2 ^ 220 := this
      omega
    refine ⟨.int n, rfl, .int n, 0, _, rfl, .inl ⟨n, rfl, n0, n1, ?_⟩⟩
    refine ⟨.ref x, rfl, x, C, dx, _, _, rfl, e, T_c.cl, T_c.nA, flds_a _ _ _, .ref x, rfl, x, C, dx, _, _, rfl, e, T_c.cl, T_c.nB, flds_b _ _ _, _, _, rfl, rfl, wide_mul c.ba c.bb (by decide) (by decide) (by decide),
      .int n, rfl, .int n, rfl, _, _, rfl, rfl, _, _, rfl, rfl, wide_mul wn wm (by decide) (by decide) (by decide), _, _, rfl, rfl, wide_div (b := 2) (by decide) (by decide) (by decide) (by decide), _, _, rfl, rfl, wide_mul (wide_lt c.ba c.bb) wh (by decide) (by decide) (by decide), ?_⟩
    refine ⟨.ref x, rfl, x, C, dx, _, _, rfl, e, T_c.cl, T_c.nA, flds_a _ _ _, .int n, rfl, _, _, rfl, rfl, wide_mul c.ba wn (by decide) (by decide) (by decide),
      .ref x, rfl, x, C, dx, _, _, rfl, e, T_c.cl, T_c.nB, flds_b _ _ _, .int n, rfl, _, _, rfl, rfl, wide_mul c.bb wn (by decide) (by decide) (by decide),
      .ref x, rfl, x, C, dx, _, _, rfl, e, T_c.cl, T_c.nP, flds_p _ _ _, .int n, rfl, _, _, rfl, rfl, wide_mul (cokPw c) wn (by decide) (by decide) (by decide), .int _, rfl, _, _, rfl, rfl, fun z dz nz ndz _ => ?_⟩
    exact mkC nz ndz c3 fun H2 s2 hc => q z H2 s2 hc
  · exact ⟨v, rfl, v, 0, _, rfl, .inr ⟨bad, q⟩⟩
/-- what _law_kind says, in short -/
theorem pe_kind {X : Cx} {a : Addr} {oe : Obj} {cls : Value} {d : Option Addr} {pn : List (Addr × Obj)} {KD : Addr → Str → Prop} {f : Addr} {fd : FuncData} {k : Nat} {e : Expr} {te : TA} {q pos : Pos}
    (G : ∀ (D : Addr) (nm : Str) (p : Addr × Obj), KD D nm → Zc (.ref D) none p.2 → (∃ vs, p.2.data = .fields vs) → FnP X.prog X.w X.K X.mg X.base 1 f fd ["e"] (spKind p.1 nm) p)
    (hz : L2N.Zn cls d oe) (hf : ∃ vs, oe.data = .fields vs) (hr : Room (k + 1) X.A) (hm : X.mg "_law_kind" = some (.ref f)) (hk : PySem.W.keepIn X.K (.ref f) = true) (hb : L2.Binds X.K fd ["e"] [])
    (ha : PA (X.suite a ((a, oe) :: pn)) [e] te) (hg : Gl X "_law_kind" := by rfl) (hs : starEach (e :: []) X.env = (false, eval e X.env) :: starEach [] X.env := by rfl) (hpl : (backTo pos (starEach [] X.env)).any (·.1) = false := by rfl) :
    PE (X.suite a ((a, oe) :: pn)) (.Call (.Name "_law_kind" q) [e] [] pos) (fun σ H Q => ∃ (D : Addr), ∃ (nm : Str), (cls = .ref D ∧ d = none ∧ KD D nm) ∧ tCall (spKind a nm) [] E0 te σ H Q) := by
  refine pe_some fun D => pe_some fun nm => pe_ask fun ⟨h1, h2, h3⟩ => ?_
  subst h1 h2
  exact pe_callP (X := X.suite a ((a, oe) :: pn)) (G D nm (a, oe) h3 hz.zc hf) ⟨Nat.lt_of_le_of_lt (show X.A.depth + 3 * 1 + 5 ≤ X.A.depth + 3 * (k + 1) + 5 by omega) hr.dp, Nat.lt_of_le_of_lt (show X.A.units + 16 * 1 + 200 ≤ X.A.units + 16 * (k + 1) + 200 by omega) hr.un⟩ (hot_suite hz hf) (List.mem_cons_self) hg hm hk hb ha (by decide) hs hpl

end
end K08
namespace K08
open PySem PySem.Spec PyProof.Rows L2 Vx
section
variable {P : Program} {w : World} {K : PySem.W.Frag} {mg : Str → Option Value} {base : Heap}
def spCkC (C : Addr) : Sp := fun vs H Q _ => ∃ (x dx : Addr) (fs : List (Str × V)), vs = [.ref x] ∧ H x = some (.ins C dx fs) ∧ Q .non H
theorem ok_check_counts {C f : Addr} {fd : FuncData} {k : Nat} (F : Fun K "check_counts" "check_counts" st_check_counts f fd) (T_c : CT K mg C) (I_c : C8.InsC K C) (m_isinstance : mg "isinstance" = none) : FnOk P w K mg base CX0 (k + 1) f fd ["value"] (spCkC C) := by
  refine F.ok sc_check_counts (fun vs H Q E h => ?_) (fun cdv A outer s H vs Q E hr h => ?_)
  · obtain ⟨x, dx, fs, rfl, _⟩ := h; rfl
  obtain ⟨x, dx, fs, rfl, e, q⟩ := h
  let C_c := C
  refine ⟨_, (pss_one (ps_if (pt_not (pt_val (pe_callB (C8.call_isC I_c) (by rfl) m_isinstance (by decide +kernel) (pa_cons (pv 0) (pa_cons (pe_glob rfl T_c.mg (show RelV (.ref C_c) (.ref C_c) from rfl)) pa_nil))))) (pss_one ps_never) pss_nil)), ?_⟩
  exact ⟨.ref x, rfl, x, dx, fs, rfl, e, true, rfl, q⟩
/-- the counts of one row behind the other -/
def spAdd (C : Addr) : Sp := fun vs H Q _ => ∃ (x y : Addr) (a b p a2 b2 p2 : Int), vs = [.ref x, .ref y] ∧ CountsAt C H x a b p ∧ CountsAt C H y a2 b2 p2 ∧ COk a b p ∧ COk a2 b2 p2 ∧ COk (a + a2) (b + b2) (p + p2 + a * b2) ∧ ∀ (z : Addr) (H' : Hp), Same H H' → CountsAt C H' z (a + a2) (b + b2) (p + p2 + a * b2) → Q (.ref z) H'
theorem ok_c_add {C f f1 f3 gA gB gP pA pB pP : Addr} {fd fd1 fd3 fA fB fP : FuncData} {k : Nat} (F : Fun K "__add__" "Counts.__add__" st_c_add f fd) (T_c : CT K mg C)
    (F_check_counts : Fun K "check_counts" "check_counts" st_check_counts f1 fd1) (G_check_counts : FnOk P w K mg base CX0 1 f1 fd1 ["value"] (spCkC C)) (b_check_counts : Binds K fd1 ["value"] []) (g_check_counts : mg "check_counts" = some (.ref f1))
    (M_c : Mk K C f3) (G_c_init : FnOk P w K mg base CX0 3 f3 fd3 ["self", "many_a", "many_b", "pairs"] (spInit C)) (b_c_init : Binds K fd3 ["self", "many_a", "many_b", "pairs"] [])
    (p_c_many_a : PropOf K C "many_a" pA gA) (Gp_c_many_a : FnOk P w K mg base CX0 1 gA fA ["self"] (getSp C "_many_a")) (bp_c_many_a : Binds K fA ["self"] [])
    (p_c_many_b : PropOf K C "many_b" pB gB) (Gp_c_many_b : FnOk P w K mg base CX0 1 gB fB ["self"] (getSp C "_many_b")) (bp_c_many_b : Binds K fB ["self"] [])
    (p_c_pairs : PropOf K C "pairs" pP gP) (Gp_c_pairs : FnOk P w K mg base CX0 1 gP fP ["self"] (getSp C "_pairs")) (bp_c_pairs : Binds K fP ["self"] []) : FnOk P w K mg base CX0 (k + 5) f fd ["self", "other"] (spAdd C) := by
  refine F.ok sc_c_add (fun vs H Q E h => ?_) (fun cdv A outer s H vs Q E hr h => ?_)
  · obtain ⟨x, y, a, b, p, a2, b2, p2, rfl, _⟩ := h; rfl
  obtain ⟨x, y, a, b, p, a2, b2, p2, rfl, ⟨dx, e⟩, ⟨dy, ey⟩, c, c2, c3, q⟩ := h
  refine ⟨_, (pss_cons (ps_expr (pe_call G_check_counts (hr.mono (by omega)) (by rfl) g_check_counts F_check_counts.kp b_check_counts .nil pass0 (pa_cons (pv 1) pa_nil)))
    (pss_cons (ps_set (i := 2) sc_c_add.nd rfl (Or.inl rfl) (pe_op op_mulW (pe_fld (pv 0) rfl) (pe_prop (pv 1) T_c.cl p_c_many_b Gp_c_many_b (hr.mono (by omega)) bp_c_many_b .nil pass0 rfl)))
    (pss_one (ps_ret (pe_make M_c G_c_init (hr.mono (by omega)) (by rfl) T_c.mg b_c_init .nil pass0 (pa_cons (pe_op op_add (pe_fld (pv 0) rfl) (pe_prop (pv 1) T_c.cl p_c_many_a Gp_c_many_a (hr.mono (by omega)) bp_c_many_a .nil pass0 rfl)) (pa_cons (pe_op op_add (pe_fld (pv 0) rfl) (pe_prop (pv 1) T_c.cl p_c_many_b Gp_c_many_b (hr.mono (by omega)) bp_c_many_b .nil pass0 rfl)) (pa_cons (pe_op op_add (pe_op op_add (pe_fld (pv 0) rfl) (pe_prop (pv 1) T_c.cl p_c_pairs Gp_c_pairs (hr.mono (by omega)) bp_c_pairs .nil pass0 rfl)) (pv 2)) pa_nil)))))))), ?_⟩
  refine ⟨.ref y, rfl, y, dy, _, rfl, ey, ?_⟩
  refine ⟨.ref x, rfl, x, C, dx, _, _, rfl, e, T_c.cl, T_c.nA, flds_a _ _ _, .ref y, rfl, y, dy, _, rfl, ey, y, dy, _, _, rfl, ey, flds_b _ _ _, _, _, rfl, rfl, wide_mul c.ba c2.bb (by decide) (by decide) (by decide), ?_⟩
  refine ⟨.ref x, rfl, x, C, dx, _, _, rfl, e, T_c.cl, T_c.nA, flds_a _ _ _, .ref y, rfl, y, dy, _, rfl, ey, y, dy, _, _, rfl, ey, flds_a _ _ _, _, _, rfl, rfl, ?_⟩
  refine ⟨.ref x, rfl, x, C, dx, _, _, rfl, e, T_c.cl, T_c.nB, flds_b _ _ _, .ref y, rfl, y, dy, _, rfl, ey, y, dy, _, _, rfl, ey, flds_b _ _ _, _, _, rfl, rfl, ?_⟩
  refine ⟨.ref x, rfl, x, C, dx, _, _, rfl, e, T_c.cl, T_c.nP, flds_p _ _ _, .ref y, rfl, y, dy, _, rfl, ey, y, dy, _, _, rfl, ey, flds_p _ _ _, _, _, rfl, rfl, .int (a * b2), rfl, _, _, rfl, rfl, fun z dz nz ndz _ => ?_⟩
  exact mkC nz ndz c3 fun H2 s2 hc => q z H2 s2 hc
theorem readAdd {C x y : Addr} {H : Hp} {a b p a2 b2 p2 : Int} {Q : VK} (hx : CountsAt C H x a b p) (hy : CountsAt C H y a2 b2 p2) (c : COk a b p) (c2 : COk a2 b2 p2) (c3 : COk (a + a2) (b + b2) (p + p2 + a * b2)) (h : ∀ (z : Addr) (H' : Hp), Same H H' → CountsAt C H' z (a + a2) (b + b2) (p + p2 + a * b2) → Q (.ref z) H') : rBinOwn C (fun vs H Q E => spAdd C (vs ++ []) H Q E) E0 (.ref x) (.ref y) H Q := by
  obtain ⟨dx, e⟩ := hx
  obtain ⟨dy, ey⟩ := hy
  exact ⟨x, dx, _, y, dy, _, rfl, rfl, e, ey, x, y, a, b, p, a2, b2, p2, rfl, ⟨dx, e⟩, ⟨dy, ey⟩, c, c2, c3, h⟩

end
end K08
namespace K08
open PySem PySem.Spec PyProof.Rows L2 Vx
section
variable {P : Program} {w : World} {K : PySem.W.Frag} {mg : Str → Option Value} {base : Heap}
/-- how the error of a product is told -/
def spTold (K : PySem.W.Frag) (C : Addr) : Sp := fun vs H Q _ => ∃ (x : Addr) (a b p : Int) (v : V), vs = [.ref x, v] ∧ CountsAt C H x a b p ∧ COk a b p ∧ ((∃ y dy gs, v = .ref y ∧ H y = some (.ins C dy gs)) ∨ ∃ T : String, TyX K H v (.type T) ∧ RhsT K C .Mult T) ∧
  ((∃ n : Int, v = .int n ∧ 0 ≤ n ∧ n ≤ 10 ^ 30 ∧ COk (a * n) (b * n) (mulP a b p n) ∧ ∀ H' : Hp, Same H H' → Q (.str (Str.ofString "fine")) H') ∨ (BadNum K H v 0 (10 ^ 30) ∧ ∀ H' : Hp, Same H H' → Q (.str (Str.ofString "number")) H'))
theorem ok_law_told {C D B f f1 f2 : Addr} {fd fd1 fd2 : FuncData} {k : Nat} {KD : Addr → Str → Prop} (F : Fun K "_law_told" "_law_told" st_law_told f fd) (T_c : CT K mg C) (I_c : C8.InsC K C) (D_c_mul : OpC K C f1 .Mult)
    (G_c_mul : FnOk P w K mg base (L2N.CX P w) 5 f1 fd1 ["self", "other"] (spMulX K C D)) (b_c_mul : Binds K fd1 ["self", "other"] [])
    (F_law_kind : Fun K "_law_kind" "_law_kind" st_law_kind f2 fd2) (G_law_kind : ∀ (D : Addr) (nm : Str) (p : Addr × Obj), KD D nm → Zc (.ref D) none p.2 → (∃ vs, p.2.data = .fields vs) → FnP P w K mg base 1 f2 fd2 ["e"] (spKind p.1 nm) p) (b_law_kind : Binds K fd2 ["e"] []) (g_law_kind : mg "_law_kind" = some (.ref f2))
    (T_PairError : ErrC K mg "PairError" B) (x_number : PySem.W.exmOne K (.ref D) (.ref B) = some true) (kd_number : KD D (Str.ofString "number")) (m_isinstance : mg "isinstance" = none) : FnOk P w K mg base CX0 (k + 6) f fd ["counts", "number"] (spTold K C) := by
  refine F.ok sc_law_told (fun vs H Q E h => ?_) (fun cdv A outer s H vs Q E hr h => ?_)
  · obtain ⟨x, a, b, p, v, rfl, _⟩ := h; rfl
  obtain ⟨x, a, b, p, v, rfl, hx, c, ty, h⟩ := h
  let C_c := C
  refine ⟨_, (pss_cons (ps_set (i := 2) sc_law_told.nd rfl (Or.inl rfl) pe_str)
    (pss_cons (L2N.ps_try_as (i := 4) rfl rfl sc_law_told.nd rfl rfl ⟨rfl, by decide, .inl T_PairError.g⟩ takes0N (fun W pn xe tk _ => (pss_cons (ps_set (i := 3) sc_law_told.nd rfl (Or.inl rfl) (pe_anyS K rfl D_c_mul G_c_mul (hr.mono (by omega)) b_c_mul (fun σ => L2N.passAt tk σ) (pv 0) (pv 1)))
    (pss_one (ps_set (i := 2) sc_law_told.nd rfl (Or.inl rfl) (pe_ifExp (pt_val (pe_callB (C8.call_isC I_c) (by rfl) m_isinstance (by decide +kernel) (pa_cons (pv 3) (pa_cons (pe_glob rfl T_c.mg (show RelV (.ref C_c) (.ref C_c) from rfl)) pa_nil)))) pe_str pe_str)))))
    (fun a oe cls d pn hz hf => (pss_one (ps_set (i := 2) sc_law_told.nd rfl (Or.inl rfl) (by exact pe_kind G_law_kind hz hf hr g_law_kind F_law_kind.kp b_law_kind (pa_cons (pv 4) pa_nil))))))
    (pss_one (ps_ret (pv 2))))), ?_⟩
  obtain ⟨dx, e⟩ := id hx
  refine ⟨.ref x, rfl, v, rfl, x, dx, _, rfl, e, ty, x, a, b, p, v, rfl, hx, c, ?_⟩
  rcases h with ⟨n, rfl, n0, n1, c3, q⟩ | ⟨bad, q⟩
  · refine .inl ⟨n, rfl, n0, n1, c3, fun z H1 s1 hz => ?_⟩
    obtain ⟨dz, ez⟩ := hz
    exact ⟨.ref z, rfl, z, dz, _, rfl, ez, true, rfl, .str _, rfl, q _ s1⟩
  · refine .inr ⟨bad, true, x_number, fun _ a ha => ?_, fun q => nomatch q⟩
    exact ⟨D, _, ⟨rfl, rfl, kd_number⟩, .ref a, rfl, rfl, fun H1 s1 => ⟨.str _, rfl, q H1 s1⟩⟩

end
end K08
namespace K08
open PySem PySem.Spec PyProof.Rows L2 Vx
section
variable {P : Program} {w : World} {K : PySem.W.Frag} {mg : Str → Option Value} {base : Heap}
/-- so many pairs of two of n -/
def tri (n : Int) : Int := n * (n - 1) / 2
theorem tri2 (n : Int) : 2 * tri n = n * (n - 1) := by
  have h : n * (n - 1) % 2 = 0 := by
    rcases (show n % 2 = 0 ∨ n % 2 = 1 by omega) with h | h
    · rw [Int.mul_emod, h]; simp
    · have : (n - 1) % 2 = 0 := by omega
      rw [Int.mul_emod, this]; simp
  unfold tri; omega
theorem tri_mul (o t : Int) : tri o * t + o * o * tri t = tri (o * t) := by
  have h1 := tri2 o
  have h2 := tri2 t
  have h3 := tri2 (o * t)
  grind
theorem tri_add (o t : Int) : tri o + tri t + o * t = tri (o + t) := by
  have h1 := tri2 o
  have h2 := tri2 t
  have h3 := tri2 (o + t)
  grind
theorem mulP_tri (a b p n : Int) : mulP a b p n = p * n + a * b * tri n := rfl
theorem mulP_mul (a b p o t : Int) : mulP (a * o) (b * o) (mulP a b p o) t = mulP a b p (o * t) := by
  simp only [mulP_tri]
  rw [← tri_mul]; grind
theorem mulP_add (a b p o t : Int) : mulP a b p o + mulP a b p t + a * o * (b * t) = mulP a b p (o + t) := by
  simp only [mulP_tri]
  rw [← tri_add]; grind
theorem mulP_one (a b p n : Int) : mulP a b p n + p + a * n * b = mulP a b p (n + 1) := by
  simp only [mulP_tri]
  rw [← tri_add]
  have : tri 1 = 0 := rfl
  grind
theorem tri_lo {n : Int} (h : 0 ≤ n) : 0 ≤ tri n := by
  have h1 := tri2 n
  have : 0 ≤ n * (n - 1) := by
    rcases (show n = 0 ∨ 0 ≤ n - 1 by omega) with rfl | h2
    · decide
    · exact Int.mul_nonneg h h2
  omega
theorem tri_hi {n : Int} (h : 0 ≤ n) : n + tri n ≤ n * n := by
  have h1 := tri2 n
  have e : n * (n - 1) = n * n - n := by rw [Int.mul_sub, Int.mul_one]
  have h2 : n ≤ n * n := by
    rcases (show n = 0 ∨ 1 ≤ n by omega) with rfl | h2
    · decide
    · have := Int.mul_le_mul_of_nonneg_left h2 h
      rw [Int.mul_one] at this
      exact this
  omega
theorem cok_mul {a b p n : Int} (a0 : 0 ≤ a) (b0 : 0 ≤ b) (p0 : 0 ≤ p) (pm : p ≤ a * b) (a1 : a ≤ 10 ^ 120) (b1 : b ≤ 10 ^ 120) (n0 : 0 ≤ n) (n1 : n ≤ 10 ^ 30) : COk (a * n) (b * n) (mulP a b p n) := by
  have ab0 := Int.mul_nonneg a0 b0
  have t0 := tri_lo n0
  have t1 := tri_hi n0
  have ha : a * n ≤ 10 ^ 120 * 10 ^ 30 := Int.mul_le_mul a1 n1 n0 (by decide)
  have hb : b * n ≤ 10 ^ 120 * 10 ^ 30 := Int.mul_le_mul b1 n1 n0 (by decide)
  have ha0 : 0 ≤ a * n := Int.mul_nonneg a0 n0
  have hb0 : 0 ≤ b * n := Int.mul_nonneg b0 n0
  have big : (10 : Int) ^ 120 * 10 ^ 30 < 2 ^ 600 := by decide +kernel
  have e : (2 : Nat) ^ 600 < 2 ^ 3000 := Nat.pow_lt_pow_right (by decide) (by decide)
  have ha2 := Int.lt_of_le_of_lt ha big
  have hb2 := Int.lt_of_le_of_lt hb big
  rw [mulP_tri]
  refine ⟨ha0, hb0, ?_, ?_, Nat.lt_trans (by omega) e, Nat.lt_trans (by omega) e⟩
  · have := Int.mul_nonneg p0 n0
    have := Int.mul_nonneg ab0 t0
    omega
  · have g1 : p * n ≤ a * b * n := Int.mul_le_mul_of_nonneg_right pm n0
    have g2 : a * b * (n + tri n) ≤ a * b * (n * n) := Int.mul_le_mul_of_nonneg_left t1 ab0
    have g3 : a * n * (b * n) = a * b * (n * n) := by rw [Int.mul_assoc, Int.mul_left_comm n b n, ← Int.mul_assoc]
    rw [Int.mul_add] at g2
    rw [g3]
    omega
theorem pr2_app (a b : List Nat) : pr2 (a ++ b) = pr2 a + pr2 b + (a.count 97 : Nat) * (b.count 98 : Nat) := by
  induction a with
  | nil => simp [pr2]
  | cons c r ih =>
    rw [List.cons_append, pr2, ih, pr2, List.count_append, List.count_cons]
    by_cases h : c = 97
    · subst h
      simp [Int.add_mul] <;> omega
    · simp [h]
theorem repN_count (a : List Nat) (c : Nat) : ∀ n : Nat, (((repN n a).count c : Nat) : Int) = (a.count c : Nat) * (n : Int)
  | 0 => by simp [repN_zero]
  | n + 1 => by
    rw [repN_succ, List.count_append, Int.natCast_add, repN_count a c n, Int.natCast_succ, Int.mul_add, Int.mul_one]; omega
theorem repN_pr2 (a : List Nat) : ∀ n : Nat, pr2 (repN n a) = mulP (a.count 97 : Nat) (a.count 98 : Nat) (pr2 a) (n : Int)
  | 0 => by simp [repN_zero, pr2, mulP]
  | n + 1 => by
    rw [repN_succ, pr2_app, repN_pr2 a n, repN_count, Int.natCast_succ, ← mulP_one]
    grind
theorem repN_prs (a : List Nat) (n : Nat) : prs (repN n a) (repN n a).length = mulP (a.count 97 : Nat) (a.count 98 : Nat) (prs a a.length) (n : Int) := by
  rw [prs_pr2, prs_pr2, repN_pr2]
/-- a product that does not raise, read -/
theorem readMul {C D x : Addr} {H : Hp} {a b p n : Int} {Q : VK} (R : RhsT K C .Mult "int") (hx : CountsAt C H x a b p) (c : COk a b p) (n0 : 0 ≤ n) (n1 : n ≤ 10 ^ 30) (c3 : COk (a * n) (b * n) (mulP a b p n)) (h : ∀ (z : Addr) (H' : Hp), Same H H' → CountsAt C H' z (a * n) (b * n) (mulP a b p n) → Q (.ref z) H') : rAny K C .Mult (spMulX K C D) E0 (.ref x) (.int n) H Q := by
  obtain ⟨dx, e⟩ := id hx
  exact ⟨x, dx, _, rfl, e, .inr ⟨"int", .base (.int n), R⟩, x, a, b, p, .int n, rfl, hx, c, .inl ⟨n, rfl, n0, n1, c3, h⟩⟩

end
end K08
namespace K08
open PySem PySem.Spec PyProof.Rows L2 Vx
section
variable {P : Program} {w : World} {K : PySem.W.Frag} {mg : Str → Option Value} {base : Heap}
/-- three ints in a tuple: what their data are -/
theorem t3_facts {H : Hp} {T : Addr} {a b p : Int} (e : H T = some (.tup [.int a, .int b, .int p])) (ha : a.natAbs < 10 ^ 95) (hb : b.natAbs < 10 ^ 95) (hp : p.natAbs < 10 ^ 95) :
    Dx K H (.ref T) (.tuple [.int a, .int b, .int p]) ∧ (PyData.tuple [.int a, .int b, .int p]).showable = true ∧ (PyData.tuple [.int a, .int b, .int p]).leavesShort 100 = true ∧ (PyData.tuple [.int a, .int b, .int p]).depth = 1 ∧ (PyData.tuple [.int a, .int b, .int p]).weight ≤ 12400 := by
  have sh := shows_tup3 (K := K) e ha hb hp
  have f1 := (fine_int (K := K) (H := H) ha).wt
  have f2 := (fine_int (K := K) (H := H) hb).wt
  have f3 := (fine_int (K := K) (H := H) hp).wt
  refine ⟨sh.dx, sh.sh, sh.lv, by simp [PyData.depth, PyData.depthAll], ?_⟩
  have : (PyData.tuple [.int a, .int b, .int p]).weight = (PyData.int a).weight + 1 + ((PyData.int b).weight + 1 + ((PyData.int p).weight + 1 + 0)) := by simp only [PyData.weight, PyData.weightAll]
  omega
theorem dp_t3 {H : Hp} {T : Addr} {a b p : Int} (e : H T = some (.tup [.int a, .int b, .int p])) : Dp K H (.ref T) (.tuple [.int a, .int b, .int p]) := .tup (SqT.of e) (.cons (.int a) (.cons (.int b) (.cons (.int p) .nil)))
theorem shaped_t3 (a b p : Int) : SeqAt.shaped (.tuple [.int a, .int b, .int p]) = true := by simp [SeqAt.shaped, PyData.canLay0, PyData.canLayAll0, PyData.depth, PyData.depthAll]
theorem eqv_t3 (a b p : Int) : PyData.eqv (.tuple [.int a, .int b, .int p]) (.tuple [.int a, .int b, .int p]) = true := by simp [PyData.eqv, PyData.eqvAll]

end
end K08
namespace K08
open PySem PySem.Spec PyProof.Rows L2 Vx
section
variable {P : Program} {w : World} {K : PySem.W.Frag} {mg : Str → Option Value} {base : Heap}
/-- the counts of equal rows -/
def spRows : Sp := fun vs H Q _ => ∃ (r : Addr) (t : List Nat), vs = [.ref r, .str (S t)] ∧ rowB t = true ∧ t.length ≤ 20 ∧ ∀ H' : Hp, Same H H' → Q (.bl true) H'
theorem ok_law_rows_right {C D f f1 f5 f6 gI pO : Addr} {fd fd1 fd5 fd6 : FuncData} {mc : Value} {k : Nat} (F : Fun K "_law_rows_right" "_law_rows_right" st_law_rows_right f fd)
    (F_law_three : Fun K "_law_three" "_law_three" st_law_three f5 fd5) (G_law_three : FnOk P w K mg base CX0 3 f5 fd5 ["counts"] (spThree C)) (b_law_three : Binds K fd5 ["counts"] []) (g_law_three : mg "_law_three" = some (.ref f5))
    (F_law_counts : Fun K "_law_counts" "_law_counts" st_law_counts f6 fd6) (G_law_counts : FnOk P w K mg base CX0 1 f6 fd6 ["text"] spLawCounts) (b_law_counts : Binds K fd6 ["text"] []) (g_law_counts : mg "_law_counts" = some (.ref f6))
    (T_c : CT K mg C) (cr_c : ClX.CRead K C mc) (cm_c_of : ClX.CMet K C mc "of" pO gI) (R_c_of : FnR P w K mg base CX0 5 gI (fun vs H Q E => spOf C (vs ++ []) H Q E))
    (D_c_mul : OpC K C f1 .Mult) (G_c_mul : FnOk P w K mg base (L2N.CX P w) 5 f1 fd1 ["self", "other"] (spMulX K C D)) (b_c_mul : Binds K fd1 ["self", "other"] []) (r_int : RhsT K C .Mult "int")
    (m_range : mg "range" = none) (m_min : mg "min" = none) (m_max : mg "max" = none) (m_len : mg "len" = none) (m_repr : mg "repr" = none) : FnG P w K mg base CX0 (k + 6) f fd ["reel", "text"] spRows := by
  refine okG F sc_law_rows_right (fun vs H Q E h => ?_) (fun cdv A outer s H vs Q E hgd hr h => ?_)
  · obtain ⟨r, t, rfl, _⟩ := h; rfl
  obtain ⟨r, t, rfl, hw, hl, q⟩ := h
  let C_c := C
  refine ⟨_, (pss_cons (ps_set (i := 2) sc_law_rows_right.nd rfl (Or.inl rfl) (ClX.pe_cmeth (pe_glob rfl T_c.mg (show RelV (.ref C_c) (.ref C_c) from rfl)) cr_c cm_c_of R_c_of (hr.mono (by omega)) pass0 (pa_cons (pv 1) pa_nil)))
    (pss_cons (ps_for PassesOwn.never rfl (pi_range1 rfl m_range (pa_cons (pe_op op_add pe_int (pe_callB (call_min2 rfl) (by rfl) m_min (by decide +kernel) (pa_cons pe_int (pa_cons (pe_op op_fdivW pe_int (pe_callB (call_max2 rfl) (by rfl) m_max (by decide +kernel) (pa_cons pe_int (pa_cons (pe_callB call_len_tx (by rfl) m_len PySem.boot_len (pa_cons (pv 1) pa_nil)) pa_nil)))) pa_nil)))) pa_nil)) (pg_name (i := 3) sc_law_rows_right.nd rfl (Or.inl rfl)) (pss_one (ps_if (pt_cmpR op_ne (pe_callB (call_reprX hgd hr.units) (by rfl) m_repr (by decide +kernel) (pa_cons (pe_call G_law_three (hr.mono (by omega)) (by rfl) g_law_three F_law_three.kp b_law_three .nil pass0 (pa_cons (pe_op (op_any D_c_mul G_c_mul (hr.mono (by omega)) b_c_mul passLN) (pv 2) (pv 3)) pa_nil)) pa_nil)) (pe_callB (call_reprX hgd hr.units) (by rfl) m_repr (by decide +kernel) (pa_cons (pe_call G_law_counts (hr.mono (by omega)) (by rfl) g_law_counts F_law_counts.kp b_law_counts .nil pass0 (pa_cons (pe_op op_rep_str (pv 1) (pv 3)) pa_nil)) pa_nil)) (nomark _)) (pss_one (ps_ret pe_bl)) pss_nil)))
    (pss_one (ps_ret (pe_cmpR (op_eqD hr.units) (pe_call G_law_three (hr.mono (by omega)) (by rfl) g_law_three F_law_three.kp b_law_three .nil pass0 (pa_cons (pv 2) pa_nil)) (pe_call G_law_counts (hr.mono (by omega)) (by rfl) g_law_counts F_law_counts.kp b_law_counts .nil pass0 (pa_cons (pv 1) pa_nil)) (nomark _)))))), ?_⟩
  have cw := cok_row hw
  have c1 : t.count 97 ≤ t.length := List.count_le_length
  have c2 : t.count 98 ≤ t.length := List.count_le_length
  refine ⟨rfl, .str (S t), rfl, t, rfl, hw, fun x H1 s1 hx => ?_⟩
  have hmany : ∃ n : Nat, (1 : Int) + (if (200 : Int) / (if ((t.length : Nat) : Int) > 1 then ((t.length : Nat) : Int) else 1) < 10 then (200 : Int) / (if ((t.length : Nat) : Int) > 1 then ((t.length : Nat) : Int) else 1) else 10) = (n : Int) ∧ n ≤ 11 ∧ ∀ i : Nat, i < n → i * t.length ≤ 200 := by
    have hL : ∃ L : Nat, (if ((t.length : Nat) : Int) > 1 then ((t.length : Nat) : Int) else 1) = (L : Int) ∧ 1 ≤ L ∧ t.length ≤ L := by
      by_cases h : ((t.length : Nat) : Int) > 1
      · rw [if_pos h]; exact ⟨t.length, rfl, by omega, Nat.le_refl _⟩
      · rw [if_neg h]; exact ⟨1, rfl, Nat.le_refl _, by omega⟩
    obtain ⟨L, eL, L1, tL⟩ := hL
    rw [eL]
    have ed : (200 : Int) / (L : Int) = ((200 / L : Nat) : Int) := rfl
    rw [ed]
    have hm : ∀ i : Nat, i ≤ 200 / L → i * t.length ≤ 200 := fun i hi => by
      have h1 : i * t.length ≤ (200 / L) * L := Nat.mul_le_mul hi tL
      have h2 := Nat.div_mul_le_self 200 L
      omega
    by_cases h : ((200 / L : Nat) : Int) < 10
    · rw [if_pos h]
      exact ⟨1 + 200 / L, by omega, by omega, fun i hi => hm i (by omega)⟩
    · rw [if_neg h]
      exact ⟨11, by omega, by omega, fun i hi => hm i (by omega)⟩
  obtain ⟨many, hm, hm11, hlen⟩ := hmany
  have hL2 : CDivW (200 : Int) (if ((t.length : Nat) : Int) > 1 then ((t.length : Nat) : Int) else 1) := by
    refine wide_div (b := 6) ?_ ?_ (by decide) (by decide)
    · split <;> omega
    · split <;> omega
  have a20 : ((t.count 97 : Nat) : Int) ≤ 20 := by omega
  have b20 : ((t.count 98 : Nat) : Int) ≤ 20 := by omega
  have p400 : prs t t.length ≤ 400 := Int.le_trans cw.pm (Int.mul_le_mul a20 b20 (Int.natCast_nonneg _) (by decide))
  have e120 : (20 : Int) ≤ 10 ^ 120 := by decide +kernel
  refine ⟨.str (S t), rfl, t, rfl, by omega, _, _, rfl, _, _, rfl, rfl, hL2, _, _, rfl, _, _, rfl, rfl, (many : Int), by rw [← hm], by omega, by omega, for_range (lo := 0) (n := many) (fun i σ H' => Same H1 H' ∧ ∃ y, σ = [some (.ref r), some (.str (S t)), some (.ref x), y]) ⟨fun _ _ h => h, none, rfl⟩ (fun i σ H' hi h => ?_) (fun σ H' h => ?_)⟩
  · obtain ⟨s2, y, rfl⟩ := h
    have ei : (0 : Int) + (i : Int) = (i : Int) := by omega
    rw [ei]
    have i10 : (i : Int) ≤ 10 := by omega
    have cm := cok_mul (n := (i : Int)) cw.a0 cw.b0 cw.p0 cw.pm (Int.le_trans a20 e120) (Int.le_trans b20 e120) (Int.natCast_nonneg _) (Int.le_trans i10 (by decide))
    have ha1 : ((t.count 97 : Nat) : Int) * (i : Int) ≤ 200 := Int.le_trans (Int.mul_le_mul a20 i10 (Int.natCast_nonneg _) (by decide)) (by decide)
    have hb1 : ((t.count 98 : Nat) : Int) * (i : Int) ≤ 200 := Int.le_trans (Int.mul_le_mul b20 i10 (Int.natCast_nonneg _) (by decide)) (by decide)
    have hp1 : mulP (t.count 97 : Nat) (t.count 98 : Nat) (prs t t.length) (i : Int) ≤ 200 * 200 := Int.le_trans cm.pm (Int.mul_le_mul ha1 hb1 cm.b0 (by decide))
    have ha := int_small cm.a0 (Int.le_trans ha1 (by decide))
    have hb := int_small cm.b0 (Int.le_trans hb1 (by decide))
    have hp := int_small cm.p0 (Int.le_trans hp1 (by decide))
    refine ⟨.ref x, rfl, .int (i : Int), rfl, readMul r_int (hx.same s2) cw (Int.natCast_nonneg _) (Int.le_trans i10 (by decide)) cm fun z H2 s3 hz => ?_⟩
    refine ⟨z, _, _, _, rfl, hz, fun T H3 s4 nT eT => ?_⟩
    have sh := shows_tup3 (K := K) eT ha hb hp
    refine ⟨.ref T, _, rfl, sh.dx, sh.sh, sh.len, by have := sh.dp; omega, ?_⟩
    refine ⟨.str (S t), rfl, .int (i : Int), rfl, t, (i : Int), rfl, rfl, by omega, by omega, by rw [Int.toNat_natCast]; have := hlen i hi; omega, ?_⟩
    refine ⟨repN (i : Int).toNat t, rfl, by rw [repN_length, Int.toNat_natCast]; have := hlen i hi; omega, fun T2 H4 s5 nT2 eT2 => ?_⟩
    rw [Int.toNat_natCast, repN_count, repN_count, repN_prs] at eT2
    have sh2 := shows_tup3 (K := K) eT2 ha hb hp
    refine ⟨.ref T2, _, rfl, sh2.dx, sh2.sh, sh2.len, by have := sh2.dp; omega, rfl, false, by rw [decide_eq_true rfl]; rfl, ?_⟩
    exact ⟨s2.trans (s3.trans (s4.trans s5)), _, rfl⟩
  · obtain ⟨s2, y, rfl⟩ := h
    refine ⟨.ref x, rfl, x, _, _, _, rfl, hx.same s2, fun T H3 s4 nT eT => ?_⟩
    refine ⟨.str (S t), rfl, t, rfl, by omega, fun T2 H4 s5 nT2 eT2 => ?_⟩
    refine ⟨_, _, dp_t3 (s5 _ _ eT), dp_t3 eT2, shaped_t3 _ _ _, shaped_t3 _ _ _, ?_⟩
    rw [eqv_t3]
    exact q _ (s1.trans (s2.trans (s4.trans s5)))

end
end K08
namespace K08
open PySem PySem.Spec PyProof.Rows L2 Vx
section
variable {P : Program} {w : World} {K : PySem.W.Frag} {mg : Str → Option Value} {base : Heap}
/-- a value that is no number of copies, with its type -/
structure OddV (K : PySem.W.Frag) (C : Addr) (H : Hp) (v : V) : Prop where
  ty : (∃ y dy gs, v = .ref y ∧ H y = some (.ins C dy gs)) ∨ ∃ T : String, TyX K H v (.type T) ∧ RhsT K C .Mult T
  bad : BadNum K H v 0 (10 ^ 30)
theorem odd_ty {C : Addr} {H : Hp} {v : V} {T : String} (t : TyX K H v (.type T)) (R : RhsT K C .Mult T) (h : PySem.W.kitOne K (.type T) (.type "int") = some false) : OddV K C H v := ⟨.inr ⟨T, t, R⟩, .inr (.inr ⟨_, t, h⟩)⟩
theorem odd_int {C : Addr} {H : Hp} {n : Int} (R : RhsT K C .Mult "int") (h : n < 0 ∨ 10 ^ 30 < n) : OddV K C H (.int n) := ⟨.inr ⟨"int", .base (.int n), R⟩, .inl ⟨n, rfl, h⟩⟩
theorem odd_bl {C : Addr} {H : Hp} {b : Bool} (R : RhsT K C .Mult "bool") : OddV K C H (.bl b) := ⟨.inr ⟨"bool", .base (.bl b), R⟩, .inr (.inl ⟨b, rfl⟩)⟩
theorem plus_one (a n : Int) : a * n + a = a * (n + 1) := by rw [Int.mul_add, Int.mul_one]
def spFar8 : Sp := fun vs H Q _ => ∃ r : Addr, vs = [.ref r] ∧ Reel H r ∧ ∀ H' : Hp, Step r H H' → Reel H' r → Q (.bl true) H'
theorem ok_law_far_right {C D f f1 f2 f3 f4 f5 f8 gD : Addr} {fd fd1 fd2 fd3 fd4 fd5 fd8 : FuncData} {k : Nat} (F : Fun K "_law_far_right" "_law_far_right" st_law_far_right f fd)
    (F_law_draw : Fun K "_law_draw" "_law_draw" st_law_draw f2 fd2) (G_law_draw : FnOk P w K mg base CX0 1 f2 fd2 ["reel", "many"] spDraw) (b_law_draw : Binds K fd2 ["reel", "many"] []) (g_law_draw : mg "_law_draw" = some (.ref f2))
    (F_law_any : Fun K "_law_any" "_law_any" st_law_any f3 fd3) (G_law_any : FnOk P w K mg base CX0 3 f3 fd3 ["reel"] spAny) (b_law_any : Binds K fd3 ["reel"] []) (g_law_any : mg "_law_any" = some (.ref f3))
    (F_law_made : Fun K "_law_made" "_law_made" st_law_made f4 fd4) (G_law_made : FnOk P w K mg base CX0 5 f4 fd4 ["three"] (spMade K C)) (b_law_made : Binds K fd4 ["three"] []) (g_law_made : mg "_law_made" = some (.ref f4))
    (F_law_three : Fun K "_law_three" "_law_three" st_law_three f5 fd5) (G_law_three : FnOk P w K mg base CX0 3 f5 fd5 ["counts"] (spThree C)) (b_law_three : Binds K fd5 ["counts"] []) (g_law_three : mg "_law_three" = some (.ref f5))
    (F_law_told : Fun K "_law_told" "_law_told" st_law_told f8 fd8) (G_law_told : FnOk P w K mg base CX0 6 f8 fd8 ["counts", "number"] (spTold K C)) (b_law_told : Binds K fd8 ["counts", "number"] []) (g_law_told : mg "_law_told" = some (.ref f8))
    (sf_c : PySem.W.selfFirst K C = true) (d_c_add : Dun K C "__add__" gD) (R_c_add : FnR P w K mg base CX0 5 gD (fun vs H Q E => spAdd C (vs ++ []) H Q E)) (I_c : C8.InsC K C)
    (D_c_mul : OpC K C f1 .Mult) (G_c_mul : FnOk P w K mg base (L2N.CX P w) 5 f1 fd1 ["self", "other"] (spMulX K C D)) (b_c_mul : Binds K fd1 ["self", "other"] [])
    (r_int : RhsT K C .Mult "int") (r_NoneType : RhsT K C .Mult "NoneType") (r_bool : RhsT K C .Mult "bool") (r_str : RhsT K C .Mult "str") (r_list : RhsT K C .Mult "list") (r_tuple : RhsT K C .Mult "tuple") (r_dict : RhsT K C .Mult "dict")
    (o_c : PySem.W.kitOne K (.ref C) (.type "int") = some false) : FnOk P w K mg base CX0 (k + 7) f fd ["reel"] spFar8 := by
  refine F.ok sc_law_far_right (fun vs H Q E h => ?_) (fun cdv A outer s H vs Q E hr h => ?_)
  · obtain ⟨r, rfl, _⟩ := h; rfl
  obtain ⟨r, rfl, R, q⟩ := h
  refine ⟨_, (pss_cons (ps_set (i := 1) sc_law_far_right.nd rfl (Or.inl rfl) (pe_call G_law_any (hr.mono (by omega)) (by rfl) g_law_any F_law_any.kp b_law_any .nil pass0 (pa_cons (pv 0) pa_nil)))
    (pss_cons (ps_asg (peq_tup (pa_cons (pe_call G_law_made (hr.mono (by omega)) (by rfl) g_law_made F_law_made.kp b_law_made .nil pass0 (pa_cons (pv 1) pa_nil)) (pa_cons (pe_ix ix_list (peq_lst (pa_cons (pe_call G_law_draw (hr.mono (by omega)) (by rfl) g_law_draw F_law_draw.kp b_law_draw .nil pass0 (pa_cons (pv 0) (pa_cons pe_int pa_nil))) (pa_cons (pe_call G_law_draw (hr.mono (by omega)) (by rfl) g_law_draw F_law_draw.kp b_law_draw .nil pass0 (pa_cons (pv 0) (pa_cons (pe_op op_pow pe_int pe_int) pa_nil))) pa_nil))) (pe_call G_law_draw (hr.mono (by omega)) (by rfl) g_law_draw F_law_draw.kp b_law_draw .nil pass0 (pa_cons (pv 0) (pa_cons pe_int pa_nil))) (fun _ _ => rfl)) pa_nil))) (pg_tup rfl (pgs_cons (pg_name (i := 2) sc_law_far_right.nd rfl (Or.inr rfl)) (pgs_cons (pg_name (i := 3) sc_law_far_right.nd rfl (Or.inl rfl)) pgs_nil))))
    (pss_cons (ps_par (i := 4) (j := 5) (by rfl) sc_law_far_right.nd rfl rfl (by decide) rfl rfl (pa_cons (pe_op op_add pe_int (pe_call G_law_draw (hr.mono (by omega)) (by rfl) g_law_draw F_law_draw.kp b_law_draw .nil pass0 (pa_cons (pv 0) (pa_cons (pe_op op_pow pe_int pe_int) pa_nil)))) (pa_cons (pe_op op_add pe_int (pe_call G_law_draw (hr.mono (by omega)) (by rfl) g_law_draw F_law_draw.kp b_law_draw .nil pass0 (pa_cons (pv 0) (pa_cons (pe_op op_pow pe_int pe_int) pa_nil)))) pa_nil)) (by rfl))
    (pss_cons (ps_set (i := 6) sc_law_far_right.nd rfl (Or.inl rfl) (pe_op (op_binOwn (op := .Add) sf_c d_c_add R_c_add (hr.mono (by omega)) pass0) (pe_op (op_any D_c_mul G_c_mul (hr.mono (by omega)) b_c_mul passLN) (pv 2) (pv 3)) (pv 2)))
    (pss_cons (ps_set (i := 7) sc_law_far_right.nd rfl (Or.inl rfl) (pe_op (op_any D_c_mul G_c_mul (hr.mono (by omega)) b_c_mul passLN) (pv 2) (pe_op op_add (pv 3) pe_int)))
    (pss_cons (ps_if (pt_cmpR (op_neD hr.units) (pe_call G_law_three (hr.mono (by omega)) (by rfl) g_law_three F_law_three.kp b_law_three .nil pass0 (pa_cons (pv 6) pa_nil)) (pe_call G_law_three (hr.mono (by omega)) (by rfl) g_law_three F_law_three.kp b_law_three .nil pass0 (pa_cons (pv 7) pa_nil)) (nomark _)) (pss_one (ps_ret pe_bl)) pss_nil)
    (pss_cons (ps_set (i := 8) sc_law_far_right.nd rfl (Or.inl rfl) (pe_op (op_any D_c_mul G_c_mul (hr.mono (by omega)) b_c_mul passLN) (pe_op (op_any D_c_mul G_c_mul (hr.mono (by omega)) b_c_mul passLN) (pv 2) (pv 4)) (pv 5)))
    (pss_cons (ps_set (i := 9) sc_law_far_right.nd rfl (Or.inl rfl) (pe_op (op_any D_c_mul G_c_mul (hr.mono (by omega)) b_c_mul passLN) (pv 2) (pe_op op_mulW (pv 4) (pv 5))))
    (pss_cons (ps_if (pt_cmpR (op_neD hr.units) (pe_call G_law_three (hr.mono (by omega)) (by rfl) g_law_three F_law_three.kp b_law_three .nil pass0 (pa_cons (pv 8) pa_nil)) (pe_call G_law_three (hr.mono (by omega)) (by rfl) g_law_three F_law_three.kp b_law_three .nil pass0 (pa_cons (pv 9) pa_nil)) (nomark _)) (pss_one (ps_ret pe_bl)) pss_nil)
    (pss_cons (ps_set (i := 10) sc_law_far_right.nd rfl (Or.inl rfl) (pe_op (op_binOwn (op := .Add) sf_c d_c_add R_c_add (hr.mono (by omega)) pass0) (pe_op (op_any D_c_mul G_c_mul (hr.mono (by omega)) b_c_mul passLN) (pv 2) (pv 4)) (pe_op (op_any D_c_mul G_c_mul (hr.mono (by omega)) b_c_mul passLN) (pv 2) (pv 5))))
    (pss_cons (ps_set (i := 9) sc_law_far_right.nd rfl (Or.inl rfl) (pe_op (op_any D_c_mul G_c_mul (hr.mono (by omega)) b_c_mul passLN) (pv 2) (pe_op op_add (pv 4) (pv 5))))
    (pss_cons (ps_if (pt_cmpR (op_neD hr.units) (pe_call G_law_three (hr.mono (by omega)) (by rfl) g_law_three F_law_three.kp b_law_three .nil pass0 (pa_cons (pv 10) pa_nil)) (pe_call G_law_three (hr.mono (by omega)) (by rfl) g_law_three F_law_three.kp b_law_three .nil pass0 (pa_cons (pv 9) pa_nil)) (nomark _)) (pss_one (ps_ret pe_bl)) pss_nil)
    (pss_cons (ps_set (i := 11) sc_law_far_right.nd rfl (Or.inl rfl) (peq_lst (pa_cons (pe_un un_neg pe_int) (pa_cons (pe_op op_add (pe_op op_pow pe_int pe_int) pe_int) (pa_cons (pe_op op_pow pe_int pe_int) (pa_cons (pe_op op_sub pe_int (pe_op op_pow pe_int pe_int)) (pa_cons pe_non (pa_cons pe_bl (pa_cons pe_bl (pa_cons pe_str (pa_cons (peq_lst (pa_cons pe_int pa_nil)) (pa_cons (peq_tup (pa_cons pe_int pa_nil)) pa_nil))))))))))))
    (pss_cons (ps_set (i := 11) sc_law_far_right.nd rfl (Or.inl rfl) (pe_op op_cat (pv 11) (peq_lst (pa_cons pe_dnewK (pa_cons (pv 2) (pa_cons pe_str pa_nil))))))
    (pss_cons (ps_if (pt_cmpR (op_neD hr.units) (pe_lc (own := [("value", 12)]) rfl sc_law_far_right.nd (pi_list (pv 11)) (blkOk_by (own := [("value", 12)]) (N := N_law_far_right) (sc := defScope st_law_far_right) (by decide +kernel)) (fun _ _ _ _ _ => (pg_name (i := 12) sc_law_far_right.nd rfl (Or.inl rfl))) (fun _ _ _ _ _ => (pts_one (pt_cmpR op_ne (pe_call G_law_told (hr.mono (by omega)) (by rfl) g_law_told F_law_told.kp b_law_told .nil pass0 (pa_cons (pv 2) (pa_cons (pv 12) pa_nil))) pe_str (nomark _)))) (fun _ _ _ _ _ => (pv 12))) (peq_lst pa_nil) (nomark _)) (pss_one (ps_ret pe_bl)) pss_nil)
    (pss_one (ps_ret (pe_and (pe_cmpR op_eq (pe_call G_law_told (hr.mono (by omega)) (by rfl) g_law_told F_law_told.kp b_law_told .nil pass0 (pa_cons (pv 2) (pa_cons (pe_op op_pow pe_int pe_int) pa_nil))) pe_str (nomark _)) (pe_one (pe_cmpR (op_eqD hr.units) (pe_call G_law_three (hr.mono (by omega)) (by rfl) g_law_three F_law_three.kp b_law_three .nil pass0 (pa_cons (pv 2) pa_nil)) (pv 1) (nomark _))))))))))))))))))))), ?_⟩
  refine ⟨.ref r, rfl, r, rfl, R, fun T a b p H1 c3 k1 R1 nT eT nTr => ?_⟩
  have c := c3.ok
  refine ⟨.ref T, rfl, T, a, b, p, rfl, SqT.of eT, c, fun x H2 s2 nx hx => ?_⟩
  have R2 := R1.mono s2
  refine ⟨.ref r, rfl, r, 40, rfl, R2, by decide, b8k (by decide) (by decide), fun d1 H3 l1 u1 k3 R3 => ?_⟩
  refine ⟨.ref r, rfl, 10, 30, rfl, rfl, ⟨by decide, by decide, by decide⟩, r, _, rfl, R3, by decide, b8k (by decide) (by decide), fun d2 H4 l2 u2 k4 R4 => ?_⟩
  have u2' : d2 < 10 ^ 30 := u2
  refine ⟨(by show 2 ≤ sizeLine; decide), fun L H5 nL _ hL => ?_⟩
  have s5 : Same H4 H5 := by rw [hL]; exact same_new nL
  have eL : H5 L = some (.lst [.int d1, .int d2]) := by rw [hL]; exact upd_same
  have R5 := R4.mono s5
  have nLr : L ≠ r := R4.ne nL
  clear hL
  refine ⟨.ref r, rfl, r, 2, rfl, R5, by decide, b8k (by decide) (by decide), fun d3 H6 l3 u3 k6 R6 => ?_⟩
  have eL6 := k6.keep _ _ nLr eL
  have hz : ∃ n : Int, atI [V.int d1, .int d2] d3 = some (.int n) ∧ 0 ≤ n ∧ n + 1 ≤ 10 ^ 30 := by
    have : d3 = 0 ∨ d3 = 1 := by omega
    rcases this with rfl | rfl
    · exact ⟨d1, at_of (j := 0) rfl rfl, l1, (by have h40 : (40 : Int) ≤ 10 ^ 30 := (by decide); omega)⟩
    · exact ⟨d2, at_of (j := 1) rfl rfl, l2, by omega⟩
  obtain ⟨n, hn, n0, n1⟩ := hz
  refine ⟨L, _, d3, .int n, rfl, rfl, SqL.of eL6, hn, ?_⟩
  refine ⟨(by show 2 ≤ sizeLine; decide), fun U H7 nU _ hU => ?_⟩
  have s7 : Same H6 H7 := by rw [hU]; exact same_new nU
  have eU : H7 U = some (.tup [.ref x, .int n]) := by rw [hU]; exact upd_same
  have R7 := R6.mono s7
  clear hU
  refine ⟨U, _, rfl, SqT.of eU, rfl, _, _, rfl, _, _, rfl, rfl, ?_⟩
  refine ⟨.ref r, rfl, 10, 14, rfl, rfl, ⟨by decide, by decide, by decide⟩, r, _, rfl, R7, by decide, b8k (by decide) (by decide), fun o1 H8 l8 u8 k8 R8 => ⟨_, _, rfl, rfl, ?_⟩⟩
  refine ⟨.ref r, rfl, 10, 14, rfl, rfl, ⟨by decide, by decide, by decide⟩, r, _, rfl, R8, by decide, b8k (by decide) (by decide), fun o2 H9 l9 u9 k9 R9 => ⟨_, _, rfl, rfl, .int (1 + o1), .int (1 + o2), rfl, ?_⟩⟩
  have u8' : o1 < 10 ^ 14 := u8
  have u9' : o2 < 10 ^ 14 := u9
  obtain ⟨o, eo⟩ : ∃ o, o = 1 + o1 := ⟨_, rfl⟩
  obtain ⟨t, et⟩ : ∃ t, t = 1 + o2 := ⟨_, rfl⟩
  rw [← eo, ← et]
  have o0 : 0 ≤ o := by omega
  have t0 : 0 ≤ t := by omega
  have om : o ≤ 10 ^ 14 := by omega
  have tm : t ≤ 10 ^ 14 := by omega
  clear eo et u8 u9 u8' u9' l8 l9
  have nxr : x ≠ r := by
    rintro rfl
    obtain ⟨dx, e⟩ := hx
    obtain ⟨g1, g2, g3, g4, g5, g6, RA⟩ := R2
    have := RA.at_r
    rw [e] at this
    cases this
  have kk2 : Step r H2 H9 := ((((k3.trans k4).trans (Step.same R4 s5)).trans k6).trans (Step.same R6 s7)).trans (k8.trans k9)
  have hx9 : CountsAt C H9 x a b p := by
    obtain ⟨dx, e⟩ := hx
    exact ⟨dx, kk2.keep _ _ nxr e⟩
  have kk : Step r H H9 := (k1.trans (Step.same R1 s2)).trans kk2
  have eT9 : H9 T = some (.tup [.int a, .int b, .int p]) := kk2.keep _ _ nTr (s2 _ _ eT)
  clear k1 k3 k4 k6 k8 k9 s2 s5 s7
  have e60 : (10 : Int) ^ 60 ≤ 10 ^ 120 := by decide +kernel
  have e30 : (10 : Int) ^ 14 ≤ 10 ^ 30 := by decide +kernel
  have e28 : (10 : Int) ^ 14 * 10 ^ 14 ≤ 10 ^ 30 := by decide +kernel
  have e29 : (10 : Int) ^ 14 + 10 ^ 14 ≤ 10 ^ 30 := by decide +kernel
  have hA := Int.le_trans c3.a1 e60
  have hB := Int.le_trans c3.b1 e60
  have cm : ∀ {m : Int}, 0 ≤ m → m ≤ 10 ^ 30 → COk (a * m) (b * m) (mulP a b p m) := fun h0 h1 => cok_mul c3.a0 c3.b0 c3.p0 c3.pm hA hB h0 h1
  -- one row more
  have cn := cm n0 (show n ≤ 10 ^ 30 by omega)
  have cn1 := cm (show 0 ≤ n + 1 by omega) n1
  have cs : COk (a * n + a) (b * n + b) (mulP a b p n + p + a * n * b) := by rw [mulP_one, plus_one, plus_one]; exact cn1
  refine ⟨.ref x, rfl, .int n, rfl, readMul r_int hx9 c n0 (by omega) cn fun z1 G1 v1 g1 => ⟨.ref x, rfl, readAdd g1 (hx9.same v1) cn c cs fun z2 G2 v2 g2 => ?_⟩⟩
  rw [mulP_one, plus_one, plus_one] at g2
  refine ⟨.ref x, rfl, .int n, rfl, _, _, rfl, rfl, readMul r_int ((hx9.same v1).same v2) c (by omega) n1 cn1 fun z3 G3 v3 g3 => ?_⟩
  refine ⟨.ref z2, rfl, z2, _, _, _, rfl, g2.same v3, fun T1 G4 v4 n4 e4 => ⟨.ref z3, rfl, z3, _, _, _, rfl, g3.same v4, fun T2 G5 v5 n5 e5 => ?_⟩⟩
  refine ⟨_, _, dp_t3 (v5 _ _ e4), dp_t3 e5, shaped_t3 _ _ _, shaped_t3 _ _ _, false, by rw [eqv_t3]; rfl, ?_⟩
  have w1 : Same H9 G5 := v1.trans (v2.trans (v3.trans (v4.trans v5)))
  have hx1 := hx9.same w1
  clear v1 v2 v3 v4 v5 e4 e5 g1 g2 g3 n4 n5
  -- two steps
  have co := cm o0 (Int.le_trans om e30)
  have ct := cm t0 (Int.le_trans tm e30)
  have ot0 : 0 ≤ o * t := Int.mul_nonneg o0 t0
  have otm : o * t ≤ 10 ^ 30 := Int.le_trans (Int.mul_le_mul om tm t0 (by decide)) e28
  have cot := cm ot0 otm
  have cst : COk (a * o * t) (b * o * t) (mulP (a * o) (b * o) (mulP a b p o) t) := by rw [mulP_mul, Int.mul_assoc, Int.mul_assoc]; exact cot
  refine ⟨.ref x, rfl, .int o, rfl, readMul r_int hx1 c o0 (Int.le_trans om e30) co fun z1 G6 v1 g1 => ⟨.int t, rfl, readMul r_int g1 co t0 (Int.le_trans tm e30) cst fun z2 G7 v2 g2 => ?_⟩⟩
  rw [mulP_mul, Int.mul_assoc, Int.mul_assoc] at g2
  have wo : o.natAbs < 2 ^ 100 := by
    have : (10 : Int) ^ 14 < 2 ^ 100 := by decide +kernel
    have := Int.lt_of_le_of_lt om this
    omega
  have wt : t.natAbs < 2 ^ 100 := by
    have : (10 : Int) ^ 14 < 2 ^ 100 := by decide +kernel
    have := Int.lt_of_le_of_lt tm this
    omega
  refine ⟨.ref x, rfl, .int o, rfl, .int t, rfl, _, _, rfl, rfl, wide_mul wo wt (by decide) (by decide) (by decide), readMul r_int ((hx1.same v1).same v2) c ot0 otm cot fun z3 G8 v3 g3 => ?_⟩
  refine ⟨.ref z2, rfl, z2, _, _, _, rfl, g2.same v3, fun T1 G9 v4 n4 e4 => ⟨.ref z3, rfl, z3, _, _, _, rfl, g3.same v4, fun T2 G10 v5 n5 e5 => ?_⟩⟩
  refine ⟨_, _, dp_t3 (v5 _ _ e4), dp_t3 e5, shaped_t3 _ _ _, shaped_t3 _ _ _, false, by rw [eqv_t3]; rfl, ?_⟩
  have w2 : Same G5 G10 := v1.trans (v2.trans (v3.trans (v4.trans v5)))
  have hx2 := hx1.same w2
  clear v1 v2 v3 v4 v5 e4 e5 g1 g2 g3 n4 n5
  -- two parts
  have opt0 : 0 ≤ o + t := by omega
  have optm : o + t ≤ 10 ^ 30 := Int.le_trans (Int.add_le_add om tm) e29
  have cpt := cm opt0 optm
  have csp : COk (a * o + a * t) (b * o + b * t) (mulP a b p o + mulP a b p t + a * o * (b * t)) := by rw [mulP_add, ← Int.mul_add, ← Int.mul_add]; exact cpt
  refine ⟨.ref x, rfl, .int o, rfl, readMul r_int hx2 c o0 (Int.le_trans om e30) co fun z1 G11 v1 g1 => ⟨.ref x, rfl, .int t, rfl, readMul r_int (hx2.same v1) c t0 (Int.le_trans tm e30) ct fun z0 G12 v2 g0 => readAdd (g1.same v2) g0 co ct csp fun z2 G13 v3 g2 => ?_⟩⟩
  rw [mulP_add, ← Int.mul_add, ← Int.mul_add] at g2
  refine ⟨.ref x, rfl, .int o, rfl, .int t, rfl, _, _, rfl, rfl, readMul r_int (((hx2.same v1).same v2).same v3) c opt0 optm cpt fun z3 G14 v4 g3 => ?_⟩
  refine ⟨.ref z2, rfl, z2, _, _, _, rfl, g2.same v4, fun T1 G15 v5 n4 e4 => ⟨.ref z3, rfl, z3, _, _, _, rfl, g3.same v5, fun T2 G16 v6 n5 e5 => ?_⟩⟩
  refine ⟨_, _, dp_t3 (v6 _ _ e4), dp_t3 e5, shaped_t3 _ _ _, shaped_t3 _ _ _, false, by rw [eqv_t3]; rfl, ?_⟩
  have w3 : Same G10 G16 := v1.trans (v2.trans (v3.trans (v4.trans (v5.trans v6))))
  have hx3 := hx2.same w3
  clear v1 v2 v3 v4 v5 v6 e4 e5 g1 g2 g3 g0 n4 n5
  -- values that are no such numbers
  have pw : ∀ i : Int, i = 30 ∨ i = 59 → CPow 10 i := fun i h => by rcases h with rfl | rfl <;> exact ⟨by decide, by decide, by decide⟩
  refine ⟨_, rfl, 10, 30, rfl, rfl, pw _ (.inl rfl), _, _, rfl, rfl, 10, 59, rfl, rfl, pw _ (.inr rfl), 10, 59, rfl, rfl, pw _ (.inr rfl), _, _, rfl, rfl, ?_⟩
  refine ⟨(by show 1 ≤ sizeLine; decide), fun l2 G17 nl2 _ hl2 => ⟨(by show 1 ≤ sizeLine; decide), fun t2 G18 nt2 _ ht2 => ⟨(by show 10 ≤ sizeLine; decide), fun O1 G19 nO1 _ hO1 => ?_⟩⟩⟩
  have y1 : Same G16 G17 := by rw [hl2]; exact same_new nl2
  have y2 : Same G17 G18 := by rw [ht2]; exact same_new nt2
  have y3 : Same G18 G19 := by rw [hO1]; exact same_new nO1
  have el2 : G17 l2 = some (.lst [.int 2]) := by rw [hl2]; exact upd_same
  have et2 : G18 t2 = some (.tup [.int 2]) := by rw [ht2]; exact upd_same
  have eO1 : G19 O1 = some (.lst [.int (-1), .int (10 ^ 30 + 1), .int (10 ^ 59), .int (0 - 10 ^ 59), .non, .bl true, .bl false, .str (Str.ofString "2"), .ref l2, .ref t2]) := by rw [hO1]; exact upd_same
  clear hl2 ht2 hO1
  refine ⟨.ref O1, rfl, fun d0 nd0 => ?_⟩
  have y4 : Same G19 (upd G19 d0 (.dK [])) := same_new nd0
  have ed0 : (upd G19 d0 (.dK [])) d0 = some (.dK []) := upd_same
  generalize upd G19 d0 (.dK []) = G20 at y4 ed0 ⊢
  refine ⟨.ref x, rfl, (by show 3 ≤ sizeLine; decide), fun O2 G21 nO2 _ hO2 => ?_⟩
  have y5 : Same G20 G21 := by rw [hO2]; exact same_new nO2
  have eO2 : G21 O2 = some (.lst [.ref d0, .ref x, .str (Str.ofString "")]) := by rw [hO2]; exact upd_same
  clear hO2
  refine ⟨O1, O2, _, _, rfl, rfl, y5 _ _ (y4 _ _ eO1), eO2, (by show 10 + 3 ≤ sizeLine; decide), fun O3 nO3 => ?_⟩
  obtain ⟨odd, eodd⟩ : ∃ odd : List V, odd = [V.int (-1), .int (10 ^ 30 + 1), .int (10 ^ 59), .int (0 - 10 ^ 59), .non, .bl true, .bl false, .str (Str.ofString "2"), .ref l2, .ref t2, .ref d0, .ref x, .str (Str.ofString "")] := ⟨_, rfl⟩
  have y6 : Same G21 (upd G21 O3 (.lst odd)) := same_new nO3
  have eO3 : (upd G21 O3 (.lst odd)) O3 = some (.lst odd) := upd_same
  rw [show (upd G21 O3 (.lst odd)) = upd G21 O3 (.lst ([V.int (-1), .int (10 ^ 30 + 1), .int (10 ^ 59), .int (0 - 10 ^ 59), .non, .bl true, .bl false, .str (Str.ofString "2"), .ref l2, .ref t2] ++ [.ref d0, .ref x, .str (Str.ofString "")])) by rw [eodd]; rfl] at y6 eO3
  generalize upd G21 O3 _ = G22 at y6 eO3 ⊢
  have hx4 : CountsAt C G22 x a b p := ((((((hx3.same y1).same y2).same y3).same y4).same y5).same y6)
  have each : ∀ v ∈ odd, ∀ G : Hp, Same G22 G → OddV K C G v := by
    intro v hv G g
    have tl := g _ _ (y6 _ _ (y5 _ _ (y4 _ _ (y3 _ _ (y2 _ _ el2)))))
    have tt := g _ _ (y6 _ _ (y5 _ _ (y4 _ _ (y3 _ _ et2))))
    have td := g _ _ (y6 _ _ (y5 _ _ ed0))
    obtain ⟨dx, ex⟩ := hx4.same g
    rw [eodd] at hv
    simp only [List.mem_cons, List.not_mem_nil, or_false] at hv
    rcases hv with rfl | rfl | rfl | rfl | rfl | rfl | rfl | rfl | rfl | rfl | rfl | rfl | rfl
    · exact odd_int r_int (.inl (by decide))
    · exact odd_int r_int (.inr (by decide +kernel))
    · exact odd_int r_int (.inr (by decide +kernel))
    · exact odd_int r_int (.inl (by decide +kernel))
    · exact odd_ty (.base .non) r_NoneType (kit_ty (b := "int") (r := false) (by decide +kernel))
    · exact odd_bl r_bool
    · exact odd_bl r_bool
    · exact odd_ty (.base (.str _)) r_str (kit_ty (b := "int") (r := false) (by decide +kernel))
    · exact odd_ty (.base (.lst tl)) r_list (kit_ty (b := "int") (r := false) (by decide +kernel))
    · exact odd_ty (.base (.tup tt)) r_tuple (kit_ty (b := "int") (r := false) (by decide +kernel))
    · exact odd_ty (.base (.dK td)) r_dict (kit_ty (b := "int") (r := false) (by decide +kernel))
    · exact ⟨.inl ⟨_, _, _, rfl, ex⟩, .inr (.inr ⟨.ref C, .base (.ins ex I_c.cl I_c.ha I_c.hn I_c.htk I_c.hm), o_c⟩)⟩
    · exact odd_ty (.base (.str _)) r_str (kit_ty (b := "int") (r := false) (by decide +kernel))
  clear eodd
  refine ⟨.ref O3, rfl, O3, rfl, ⟨_, SqL.of eO3⟩, fun D nD => ?_⟩
  refine lc_list (σ := [some (.ref r), some (.ref T), some (.ref x), some (.int n), some (.int o), some (.int t), _, _, _, _, _, some (.ref O3), none]) (xs := odd) (fun i H' => Same G22 H' ∧ H' D = some (.lst [])) ⟨same_new nD, upd_same⟩ (fun i H' _ h => SqL.of (h.1 _ _ eO3)) (fun i v G23 hv h => ?_) (fun G23 h => ?_)
  · obtain ⟨s9, eD⟩ := h
    have od := each v (List.mem_of_getElem? hv) G23 s9
    refine ⟨rfl, .ref x, rfl, v, rfl, x, a, b, p, v, rfl, hx4.same s9, c, od.ty, .inr ⟨od.bad, fun G24 s10 => ?_⟩⟩
    refine ⟨rfl, false, by rw [decide_eq_true rfl]; rfl, ?_⟩
    exact iteF ⟨s9.trans s10, s10 _ _ eD⟩
  · obtain ⟨s9, eD⟩ := h
    refine ⟨(by show 0 ≤ sizeLine; decide), fun e G24 ne _ hG24 => ?_⟩
    have s10 : Same G23 G24 := by rw [hG24]; exact same_new ne
    have ee : G24 e = some (.lst []) := by rw [hG24]; exact upd_same
    clear hG24
    refine ⟨.list [], .list [], .lst (SqL.of (s10 _ _ eD)) .nil, .lst (SqL.of ee) .nil, shaped_nil, shaped_nil, false, by rw [eqv_nil]; rfl, ?_⟩
    have hx5 := (hx4.same s9).same s10
    refine ⟨.ref x, rfl, 10, 30, rfl, rfl, pw _ (.inl rfl), x, a, b, p, .int (10 ^ 30), rfl, hx5, c, .inr ⟨"int", .base (.int _), r_int⟩, .inl ⟨10 ^ 30, rfl, by decide, Int.le_refl _, cm (by decide) (Int.le_refl _), fun G25 s11 => ?_⟩⟩
    refine ⟨rfl, true, by rw [decide_eq_true rfl], ?_⟩
    refine ⟨.ref x, rfl, x, a, b, p, rfl, hx5.same s11, fun T9 G26 s12 n9 e9 => ?_⟩
    have S : Same H9 G26 := (w1.trans (w2.trans w3)).trans ((y1.trans (y2.trans (y3.trans (y4.trans (y5.trans y6))))).trans (s9.trans (s10.trans (s11.trans s12))))
    refine ⟨.ref T, rfl, _, _, dp_t3 e9, dp_t3 (S _ _ eT9), shaped_t3 _ _ _, shaped_t3 _ _ _, ?_⟩
    rw [eqv_t3]
    exact q _ (kk.trans (Step.same R9 S)) (R9.mono S)

end
end K08
namespace K08
open PySem PySem.Spec PyProof.Rows L2 Vx
section
variable {P : Program} {w : World} {K : PySem.W.Frag} {mg : Str → Option Value} {base : Heap}
theorem cok_234 : COk 2 3 4 := ⟨by decide, by decide, by decide, by decide, Nat.lt_of_lt_of_le (show Int.natAbs 2 < 2 ^ 8 by decide) (Nat.pow_le_pow_right (by decide) (by decide)), Nat.lt_of_lt_of_le (show Int.natAbs 3 < 2 ^ 8 by decide) (Nat.pow_le_pow_right (by decide) (by decide))⟩
theorem cok_000 : COk 0 0 0 := ⟨by decide, by decide, by decide, by decide, Nat.lt_of_lt_of_le (show Int.natAbs 0 < 2 ^ 8 by decide) (Nat.pow_le_pow_right (by decide) (by decide)), Nat.lt_of_lt_of_le (show Int.natAbs 0 < 2 ^ 8 by decide) (Nat.pow_le_pow_right (by decide) (by decide))⟩
theorem ok_law {C D f f1 f2 f3 f5 f7 f8 fM : Addr} {fd fd1 fd2 fd3 fd5 fd7 fd8 fdM : FuncData} (F : Fun K "law" "law" st_law f fd)
    (F_law_reel : Fun K "_law_reel" "_law_reel" st_law_reel f1 fd1) (G_law_reel : FnOk P w K mg base CX0 1 f1 fd1 ["script"] (spReel K)) (b_law_reel : Binds K fd1 ["script"] []) (g_law_reel : mg "_law_reel" = some (.ref f1))
    (F_law_word : Fun K "_law_word" "_law_word" st_law_word f2 fd2) (G_law_word : FnOk P w K mg base CX0 2 f2 fd2 ["reel", "low", "high"] spWord) (b_law_word : Binds K fd2 ["reel", "low", "high"] []) (g_law_word : mg "_law_word" = some (.ref f2))
    (F_law_three : Fun K "_law_three" "_law_three" st_law_three f5 fd5) (G_law_three : FnOk P w K mg base CX0 3 f5 fd5 ["counts"] (spThree C)) (b_law_three : Binds K fd5 ["counts"] []) (g_law_three : mg "_law_three" = some (.ref f5))
    (F_law_rows_right : Fun K "_law_rows_right" "_law_rows_right" st_law_rows_right f7 fd7) (G_law_rows_right : FnG P w K mg base CX0 6 f7 fd7 ["reel", "text"] spRows) (b_law_rows_right : Binds K fd7 ["reel", "text"] []) (g_law_rows_right : mg "_law_rows_right" = some (.ref f7))
    (F_law_far_right : Fun K "_law_far_right" "_law_far_right" st_law_far_right f8 fd8) (G_law_far_right : FnOk P w K mg base CX0 7 f8 fd8 ["reel"] spFar8) (b_law_far_right : Binds K fd8 ["reel"] []) (g_law_far_right : mg "_law_far_right" = some (.ref f8))
    (T_c : CT K mg C) (M_c : Mk K C f3) (G_c_init : FnOk P w K mg base CX0 3 f3 fd3 ["self", "many_a", "many_b", "pairs"] (spInit C)) (b_c_init : Binds K fd3 ["self", "many_a", "many_b", "pairs"] [])
    (D_c_mul : OpC K C fM .Mult) (G_c_mul : FnOk P w K mg base (L2N.CX P w) 5 fM fdM ["self", "other"] (spMulX K C D)) (b_c_mul : Binds K fdM ["self", "other"] []) (r_int : RhsT K C .Mult "int")
    (m_range : mg "range" = none) (m_min : mg "min" = none) (m_len : mg "len" = none) : FnG P w K mg base CX0 8 f fd ["script"] (spLaw K) := by
  refine okG F sc_law (fun vs H Q E h => ?_) (fun cdv A outer s H vs Q E hgd hr h => ?_)
  · obtain ⟨a, ns, rfl, _⟩ := h; rfl
  obtain ⟨a, ns, rfl, hS, hlen, q⟩ := h
  let C_c := C
  refine ⟨_, (pss_cons (ps_set (i := 1) sc_law.nd rfl (Or.inl rfl) (pe_call G_law_reel (hr.mono (by omega)) (by rfl) g_law_reel F_law_reel.kp b_law_reel .nil pass0 (pa_cons (pv 0) pa_nil)))
    (pss_cons (ps_for PassesOwn.never rfl (pi_range1 rfl m_range (pa_cons (pe_op op_add pe_int (pe_callB (call_min2 rfl) (by rfl) m_min (by decide +kernel) (pa_cons (pe_callB call_len_seq (by rfl) m_len PySem.boot_len (pa_cons (pv 0) pa_nil)) (pa_cons pe_int pa_nil)))) pa_nil)) (pg_name (i := 2) sc_law.nd rfl (Or.inl rfl)) (pss_cons (ps_set (i := 3) sc_law.nd rfl (Or.inl rfl) (pe_call G_law_word (hr.mono (by omega)) (by rfl) g_law_word F_law_word.kp b_law_word .nil pass0 (pa_cons (pv 1) (pa_cons pe_int (pa_cons (pe_ix ix_list (peq_lst (pa_cons pe_int (pa_cons pe_int pa_nil))) (pe_op op_mod (pv 2) pe_int) (fun _ _ => rfl)) pa_nil)))))
    (pss_one (ps_if (PW.pt (pw_or (pt_not (pt_val (pe_callG G_law_rows_right hgd (hr.mono (by omega)) (by rfl) g_law_rows_right F_law_rows_right.kp b_law_rows_right .nil pass0 (pa_cons (pv 1) (pa_cons (pv 3) pa_nil))))) (pw_or1 (pt_not (pt_val (pe_call G_law_far_right (hr.mono (by omega)) (by rfl) g_law_far_right F_law_far_right.kp b_law_far_right .nil pass0 (pa_cons (pv 1) pa_nil))))))) (pss_one (ps_ret pe_bl)) pss_nil))))
    (pss_cons (ps_set (i := 4) sc_law.nd rfl (Or.inl rfl) (pe_op (op_any D_c_mul G_c_mul (hr.mono (by omega)) b_c_mul passLN) (pe_make M_c G_c_init (hr.mono (by omega)) (by rfl) T_c.mg b_c_init .nil pass0 (pa_cons pe_int (pa_cons pe_int (pa_cons pe_int pa_nil)))) (pe_op op_pow pe_int pe_int)))
    (pss_cons (ps_set (i := 5) sc_law.nd rfl (Or.inl rfl) (peq_tup (pa_cons (pe_op op_mulW pe_int (pe_op op_pow pe_int pe_int)) (pa_cons (pe_op op_mulW pe_int (pe_op op_pow pe_int pe_int)) (pa_cons (pe_op op_add (pe_op op_mulW pe_int (pe_op op_pow pe_int pe_int)) (pe_op op_mulW (pe_op op_mulW pe_int (pe_op op_pow pe_int pe_int)) (pe_op op_sub (pe_op op_pow pe_int pe_int) pe_int))) pa_nil)))))
    (pss_one (ps_ret (pe_and (pe_cmpR (op_eqD hr.units) (pe_call G_law_three (hr.mono (by omega)) (by rfl) g_law_three F_law_three.kp b_law_three .nil pass0 (pa_cons (pv 4) pa_nil)) (pv 5) (nomark _)) (pe_one (pe_cmpR (op_eqD hr.units) (pe_call G_law_three (hr.mono (by omega)) (by rfl) g_law_three F_law_three.kp b_law_three .nil pass0 (pa_cons (pe_op (op_any D_c_mul G_c_mul (hr.mono (by omega)) b_c_mul passLN) (pe_make M_c G_c_init (hr.mono (by omega)) (by rfl) T_c.mg b_c_init .nil pass0 (pa_cons pe_int (pa_cons pe_int (pa_cons pe_int pa_nil)))) (pe_op op_pow pe_int pe_int)) pa_nil)) (peq_tup (pa_cons pe_int (pa_cons pe_int (pa_cons pe_int pa_nil)))) (nomark _)))))))))), ?_⟩
  refine ⟨.ref a, rfl, a, ns, rfl, hS, hlen, fun r H1 s1 nr R1 => ?_⟩
  refine ⟨.ref a, rfl, a, ns.map V.int, rfl, .inl (s1.seq hS), _, _, rfl, 2, _, rfl, rfl, ?_⟩
  have hmany : ∃ n : Nat, (2 : Int) + (if (6 : Int) < ((ns.map V.int).length : Int) then (6 : Int) else ((ns.map V.int).length : Int)) = (n : Int) ∧ n ≤ 8 := by
    by_cases h : (6 : Int) < ((ns.map V.int).length : Int)
    · rw [if_pos h]; exact ⟨8, rfl, by decide⟩
    · rw [if_neg h]; exact ⟨2 + (ns.map V.int).length, by omega, by omega⟩
  obtain ⟨many, hm, hm8⟩ := hmany
  refine ⟨(many : Int), by rw [← hm], by omega, by omega, for_range (lo := 0) (n := many) (fun i σ H' => Reel H' r ∧ ∃ y2 y3, σ = [some (.ref a), some (.ref r), y2, y3, none, none]) ⟨R1, none, none, rfl⟩ (fun i σ H' hi h => ?_) (fun σ H' h => ?_)⟩
  · obtain ⟨RR, y2, y3, rfl⟩ := h
    refine ⟨.ref r, rfl, (by show 2 ≤ sizeLine; decide), fun p H2 np _ hH2 => ?_⟩
    have s2 : Same H' H2 := by rw [hH2]; exact same_new np
    have e2 : H2 p = some (.lst [.int 20, .int 5]) := by rw [hH2]; exact upd_same
    have hhi : ∃ hi : Int, atI [V.int 20, .int 5] ((0 + (i : Int)) % 2) = some (.int hi) ∧ 0 ≤ hi ∧ hi ≤ 20 := by
      have : (0 + (i : Int)) % 2 = 0 ∨ (0 + (i : Int)) % 2 = 1 := by omega
      rcases this with h | h
      · exact ⟨20, at_of (j := 0) h rfl, by decide, by decide⟩
      · exact ⟨5, at_of (j := 1) h rfl, by decide, by decide⟩
    obtain ⟨hi', hat, h0', h20⟩ := hhi
    refine ⟨.int (0 + (i : Int)), rfl, 0 + (i : Int), 2, rfl, rfl, (by show (0 : Int) < 2; decide), p, _, _, .int hi', rfl, rfl, SqL.of e2, hat, r, 0, hi', rfl, RR.mono s2, Int.le_refl _, h0', by omega, fun t H3 _ lt ab k3 R3 => ?_⟩
    have hw : rowB t = true := rowB_of ⟨ab, by omega⟩
    refine ⟨.ref r, rfl, .str (S t), rfl, r, t, rfl, hw, by omega, fun H4 s4 => ⟨true, rfl, ?_⟩⟩
    refine ⟨.ref r, rfl, r, rfl, R3.mono s4, fun H5 k5 R5 => ⟨true, rfl, ?_⟩⟩
    exact ⟨R5, _, _, rfl⟩
  · obtain ⟨RR, y2, y3, rfl⟩ := h
    have n30 : (10 : Int) ^ 30 ≤ 10 ^ 30 := Int.le_refl _
    have c2 : COk (2 * 10 ^ 30) (3 * 10 ^ 30) (mulP 2 3 4 (10 ^ 30)) := cok_mul (by decide) (by decide) (by decide) (by decide) (by decide +kernel) (by decide +kernel) (by decide) n30
    have c0 : COk (0 * 10 ^ 30) (0 * 10 ^ 30) (mulP 0 0 0 (10 ^ 30)) := cok_mul (by decide) (by decide) (by decide) (by decide) (by decide +kernel) (by decide +kernel) (by decide) n30
    have pw : CPow 10 30 := ⟨by decide, by decide, by decide⟩
    have w30 : ((10 : Int) ^ (30 : Int).toNat).natAbs < 2 ^ 110 := by decide +kernel
    have w30' : ((10 : Int) ^ (30 : Int).toNat - 1).natAbs < 2 ^ 110 := by decide +kernel
    have w3 : ((3 : Int) * (10 : Int) ^ (30 : Int).toNat).natAbs < 2 ^ 120 := by decide +kernel
    have s2 : ∀ j : Int, 0 < j → j < 5 → j.natAbs < 2 ^ 8 := fun j _ _ => by omega
    refine fun x dx nx ndx _ => ⟨x, dx, 2, 3, 4, rfl, upd_same, cok_234, fun V1 w1 kk => ⟨rfl, ?_⟩⟩
    refine ⟨10, 30, rfl, rfl, pw, readMul (n := 10 ^ 30) r_int w1 cok_234 (by decide) n30 c2 fun z V2 v2 g2 => ?_⟩
    refine ⟨10, 30, rfl, rfl, pw, _, _, rfl, rfl, wide_mul (s2 2 (by decide) (by decide)) w30 (by decide) (by decide) (by decide), ?_⟩
    refine ⟨10, 30, rfl, rfl, pw, _, _, rfl, rfl, wide_mul (s2 3 (by decide) (by decide)) w30 (by decide) (by decide) (by decide), ?_⟩
    refine ⟨10, 30, rfl, rfl, pw, _, _, rfl, rfl, wide_mul (s2 4 (by decide) (by decide)) w30 (by decide) (by decide) (by decide), ?_⟩
    refine ⟨10, 30, rfl, rfl, pw, _, _, rfl, rfl, wide_mul (s2 3 (by decide) (by decide)) w30 (by decide) (by decide) (by decide), ?_⟩
    refine ⟨10, 30, rfl, rfl, pw, _, _, rfl, rfl, _, _, rfl, rfl, wide_mul w3 w30' (by decide) (by decide) (by decide), _, _, rfl, rfl, ?_⟩
    refine ⟨(by show 3 ≤ sizeLine; decide), fun U V3 nU _ hU => ?_⟩
    have v3 : Same V2 V3 := by rw [hU]; exact same_new nU
    have eU : V3 U = some (.tup [.int (2 * 10 ^ 30), .int (3 * 10 ^ 30), .int (mulP 2 3 4 (10 ^ 30))]) := by
      rw [hU, show mulP 2 3 4 (10 ^ 30) = (4 : Int) * 10 ^ (30 : Int).toNat + 3 * 10 ^ (30 : Int).toNat * (10 ^ (30 : Int).toNat - 1) by decide +kernel]
      exact upd_same
    clear hU
    refine ⟨.ref z, rfl, z, _, _, _, rfl, g2.same v3, fun T V4 v4 nT eT => ?_⟩
    refine ⟨.ref U, rfl, _, _, dp_t3 eT, dp_t3 (v4 _ _ eU), shaped_t3 _ _ _, shaped_t3 _ _ _, true, by rw [eqv_t3], ?_⟩
    refine fun x0 dx0 nx0 ndx0 _ => ⟨x0, dx0, 0, 0, 0, rfl, upd_same, cok_000, fun V5 w5 kk5 => ⟨rfl, ?_⟩⟩
    refine ⟨10, 30, rfl, rfl, pw, readMul (n := 10 ^ 30) r_int w5 cok_000 (by decide) n30 c0 fun z0 V6 v6 g6 => ?_⟩
    refine ⟨z0, _, _, _, rfl, g6, fun T0 V7 v7 nT0 eT0 => ?_⟩
    refine ⟨(by show 3 ≤ sizeLine; decide), fun U0 V8 nU0 _ hU0 => ?_⟩
    have v8 : Same V7 V8 := by rw [hU0]; exact same_new nU0
    have eU0 : V8 U0 = some (.tup [.int 0, .int 0, .int 0]) := by rw [hU0]; exact upd_same
    clear hU0
    rw [show (0 : Int) * 10 ^ 30 = 0 by decide +kernel, show mulP 0 0 0 (10 ^ 30) = 0 by decide +kernel] at eT0
    refine ⟨_, _, dp_t3 (v8 _ _ eT0), dp_t3 eU0, shaped_t3 _ _ _, shaped_t3 _ _ _, ?_⟩
    rw [eqv_t3]
    exact q _

end
end K08
namespace K08
open PySem PySem.Spec PyProof.Rows L2 Vx
theorem binds_full {K : PySem.W.Frag} {x qual : Str} {params : Arguments} {body : List Stmt} {scope : Scope} {d : V} {f : Addr} {fd : FuncData} {ps : List Str} (F : FunD K x qual params body scope [d] [] f fd) (n : Nat) (hn : n = ps.length)
    (h : ∀ (T : Addr) (kV doc pm : Value) (an : Option Addr) (cdv ct : Value) (us its : List Value), us.length = n → its.length = 1 → ∃ k, bindArgs (PySem.W.fnOf x qual params body scope (.ref T) kV doc pm an cdv ct) ⟨us, []⟩ = seqItems? (.ref T) >>= k ∧ k (some its.toArray) = pure (ps.zip (us ++ its.drop 1))) : L2.Binds K fd ps [] := by
  obtain ⟨ds, vd, b⟩ := F.binds1 n 1 (by simp) (by simpa using hn) h
  have vd2 : Vals [] ds := vd
  cases vd2
  exact b
theorem all_mk {l : PySem.W.OpenLaw} {w : World} {K : PySem.W.Frag} {h : Heap} {mg : Str → Option Value} {fa : Addr} (X : K.In h) (G : h.Ns mainGlobals mg) (hfa : mg "law" = some (.ref fa))
    {ais_integer : Addr} {od_is_integer an_is_integer : Option Addr} {sl_is_integer : Array (Option Value)} {oc_is_integer kV_is_integer dc_is_integer pm_is_integer cd_is_integer ct_is_integer : Value}
    (n_is_integer : PySem.W.nsIn K mainGlobals "is_integer" = some (some (.ref ais_integer))) (l_is_integer : K.lookup ais_integer = some ⟨oc_is_integer, od_is_integer, .func (PySem.W.fnOf "is_integer" "is_integer" (defArgs st_is_integer) (defBody st_is_integer) (defScope st_is_integer) .none kV_is_integer dc_is_integer pm_is_integer an_is_integer cd_is_integer ct_is_integer), sl_is_integer⟩) (c_is_integer : PySem.W.codeIn K cd_is_integer "is_integer" = true) (k_is_integer : PySem.W.keepIn K (.ref ais_integer) = true)
    {acheck_number dT_check_number : Addr} {od_check_number an_check_number : Option Addr} {sl_check_number : Array (Option Value)} {oc_check_number kV_check_number dc_check_number pm_check_number cd_check_number ct_check_number : Value} {cT_check_number : Value} {doT_check_number : Option Addr} {slT_check_number : Array (Option Value)} {nT_check_number : Nat}
    (n_check_number : PySem.W.nsIn K mainGlobals "check_number" = some (some (.ref acheck_number))) (l_check_number : K.lookup acheck_number = some ⟨oc_check_number, od_check_number, .func (PySem.W.fnOf "check_number" "check_number" (defArgs st_check_number) (defBody st_check_number) (defScope st_check_number) (.ref dT_check_number) kV_check_number dc_check_number pm_check_number an_check_number cd_check_number ct_check_number), sl_check_number⟩) (c_check_number : PySem.W.codeIn K cd_check_number "check_number" = true) (k_check_number : PySem.W.keepIn K (.ref acheck_number) = true) (e_check_number : K.lookup dT_check_number = some ⟨cT_check_number, doT_check_number, .seq #[Value.none] nT_check_number, slT_check_number⟩)
    {ais_row : Addr} {od_is_row an_is_row : Option Addr} {sl_is_row : Array (Option Value)} {oc_is_row kV_is_row dc_is_row pm_is_row cd_is_row ct_is_row : Value}
    (n_is_row : PySem.W.nsIn K mainGlobals "is_row" = some (some (.ref ais_row))) (l_is_row : K.lookup ais_row = some ⟨oc_is_row, od_is_row, .func (PySem.W.fnOf "is_row" "is_row" (defArgs st_is_row) (defBody st_is_row) (defScope st_is_row) .none kV_is_row dc_is_row pm_is_row an_is_row cd_is_row ct_is_row), sl_is_row⟩) (c_is_row : PySem.W.codeIn K cd_is_row "is_row" = true) (k_is_row : PySem.W.keepIn K (.ref ais_row) = true)
    {acheck_row : Addr} {od_check_row an_check_row : Option Addr} {sl_check_row : Array (Option Value)} {oc_check_row kV_check_row dc_check_row pm_check_row cd_check_row ct_check_row : Value}
    (n_check_row : PySem.W.nsIn K mainGlobals "check_row" = some (some (.ref acheck_row))) (l_check_row : K.lookup acheck_row = some ⟨oc_check_row, od_check_row, .func (PySem.W.fnOf "check_row" "check_row" (defArgs st_check_row) (defBody st_check_row) (defScope st_check_row) .none kV_check_row dc_check_row pm_check_row an_check_row cd_check_row ct_check_row), sl_check_row⟩) (c_check_row : PySem.W.codeIn K cd_check_row "check_row" = true) (k_check_row : PySem.W.keepIn K (.ref acheck_row) = true)
    {aprefix_counts : Addr} {od_prefix_counts an_prefix_counts : Option Addr} {sl_prefix_counts : Array (Option Value)} {oc_prefix_counts kV_prefix_counts dc_prefix_counts pm_prefix_counts cd_prefix_counts ct_prefix_counts : Value}
    (n_prefix_counts : PySem.W.nsIn K mainGlobals "prefix_counts" = some (some (.ref aprefix_counts))) (l_prefix_counts : K.lookup aprefix_counts = some ⟨oc_prefix_counts, od_prefix_counts, .func (PySem.W.fnOf "prefix_counts" "prefix_counts" (defArgs st_prefix_counts) (defBody st_prefix_counts) (defScope st_prefix_counts) .none kV_prefix_counts dc_prefix_counts pm_prefix_counts an_prefix_counts cd_prefix_counts ct_prefix_counts), sl_prefix_counts⟩) (c_prefix_counts : PySem.W.codeIn K cd_prefix_counts "prefix_counts" = true) (k_prefix_counts : PySem.W.keepIn K (.ref aprefix_counts) = true)
    {apairs_in : Addr} {od_pairs_in an_pairs_in : Option Addr} {sl_pairs_in : Array (Option Value)} {oc_pairs_in kV_pairs_in dc_pairs_in pm_pairs_in cd_pairs_in ct_pairs_in : Value}
    (n_pairs_in : PySem.W.nsIn K mainGlobals "pairs_in" = some (some (.ref apairs_in))) (l_pairs_in : K.lookup apairs_in = some ⟨oc_pairs_in, od_pairs_in, .func (PySem.W.fnOf "pairs_in" "pairs_in" (defArgs st_pairs_in) (defBody st_pairs_in) (defScope st_pairs_in) .none kV_pairs_in dc_pairs_in pm_pairs_in an_pairs_in cd_pairs_in ct_pairs_in), sl_pairs_in⟩) (c_pairs_in : PySem.W.codeIn K cd_pairs_in "pairs_in" = true) (k_pairs_in : PySem.W.keepIn K (.ref apairs_in) = true)
    {aare_counts : Addr} {od_are_counts an_are_counts : Option Addr} {sl_are_counts : Array (Option Value)} {oc_are_counts kV_are_counts dc_are_counts pm_are_counts cd_are_counts ct_are_counts : Value}
    (n_are_counts : PySem.W.nsIn K mainGlobals "are_counts" = some (some (.ref aare_counts))) (l_are_counts : K.lookup aare_counts = some ⟨oc_are_counts, od_are_counts, .func (PySem.W.fnOf "are_counts" "are_counts" (defArgs st_are_counts) (defBody st_are_counts) (defScope st_are_counts) .none kV_are_counts dc_are_counts pm_are_counts an_are_counts cd_are_counts ct_are_counts), sl_are_counts⟩) (c_are_counts : PySem.W.codeIn K cd_are_counts "are_counts" = true) (k_are_counts : PySem.W.keepIn K (.ref aare_counts) = true)
    {acheck_counts : Addr} {od_check_counts an_check_counts : Option Addr} {sl_check_counts : Array (Option Value)} {oc_check_counts kV_check_counts dc_check_counts pm_check_counts cd_check_counts ct_check_counts : Value}
    (n_check_counts : PySem.W.nsIn K mainGlobals "check_counts" = some (some (.ref acheck_counts))) (l_check_counts : K.lookup acheck_counts = some ⟨oc_check_counts, od_check_counts, .func (PySem.W.fnOf "check_counts" "check_counts" (defArgs st_check_counts) (defBody st_check_counts) (defScope st_check_counts) .none kV_check_counts dc_check_counts pm_check_counts an_check_counts cd_check_counts ct_check_counts), sl_check_counts⟩) (c_check_counts : PySem.W.codeIn K cd_check_counts "check_counts" = true) (k_check_counts : PySem.W.keepIn K (.ref acheck_counts) = true)
    {alaw_reel : Addr} {od_law_reel an_law_reel : Option Addr} {sl_law_reel : Array (Option Value)} {oc_law_reel kV_law_reel dc_law_reel pm_law_reel cd_law_reel ct_law_reel : Value}
    (n_law_reel : PySem.W.nsIn K mainGlobals "_law_reel" = some (some (.ref alaw_reel))) (l_law_reel : K.lookup alaw_reel = some ⟨oc_law_reel, od_law_reel, .func (PySem.W.fnOf "_law_reel" "_law_reel" (defArgs st_law_reel) (defBody st_law_reel) (defScope st_law_reel) .none kV_law_reel dc_law_reel pm_law_reel an_law_reel cd_law_reel ct_law_reel), sl_law_reel⟩) (c_law_reel : PySem.W.codeIn K cd_law_reel "_law_reel" = true) (k_law_reel : PySem.W.keepIn K (.ref alaw_reel) = true)
    {alaw_draw : Addr} {od_law_draw an_law_draw : Option Addr} {sl_law_draw : Array (Option Value)} {oc_law_draw kV_law_draw dc_law_draw pm_law_draw cd_law_draw ct_law_draw : Value}
    (n_law_draw : PySem.W.nsIn K mainGlobals "_law_draw" = some (some (.ref alaw_draw))) (l_law_draw : K.lookup alaw_draw = some ⟨oc_law_draw, od_law_draw, .func (PySem.W.fnOf "_law_draw" "_law_draw" (defArgs st_law_draw) (defBody st_law_draw) (defScope st_law_draw) .none kV_law_draw dc_law_draw pm_law_draw an_law_draw cd_law_draw ct_law_draw), sl_law_draw⟩) (c_law_draw : PySem.W.codeIn K cd_law_draw "_law_draw" = true) (k_law_draw : PySem.W.keepIn K (.ref alaw_draw) = true)
    {alaw_word : Addr} {od_law_word an_law_word : Option Addr} {sl_law_word : Array (Option Value)} {oc_law_word kV_law_word dc_law_word pm_law_word cd_law_word ct_law_word : Value}
    (n_law_word : PySem.W.nsIn K mainGlobals "_law_word" = some (some (.ref alaw_word))) (l_law_word : K.lookup alaw_word = some ⟨oc_law_word, od_law_word, .func (PySem.W.fnOf "_law_word" "_law_word" (defArgs st_law_word) (defBody st_law_word) (defScope st_law_word) .none kV_law_word dc_law_word pm_law_word an_law_word cd_law_word ct_law_word), sl_law_word⟩) (c_law_word : PySem.W.codeIn K cd_law_word "_law_word" = true) (k_law_word : PySem.W.keepIn K (.ref alaw_word) = true)
    {alaw_counts : Addr} {od_law_counts an_law_counts : Option Addr} {sl_law_counts : Array (Option Value)} {oc_law_counts kV_law_counts dc_law_counts pm_law_counts cd_law_counts ct_law_counts : Value}
    (n_law_counts : PySem.W.nsIn K mainGlobals "_law_counts" = some (some (.ref alaw_counts))) (l_law_counts : K.lookup alaw_counts = some ⟨oc_law_counts, od_law_counts, .func (PySem.W.fnOf "_law_counts" "_law_counts" (defArgs st_law_counts) (defBody st_law_counts) (defScope st_law_counts) .none kV_law_counts dc_law_counts pm_law_counts an_law_counts cd_law_counts ct_law_counts), sl_law_counts⟩) (c_law_counts : PySem.W.codeIn K cd_law_counts "_law_counts" = true) (k_law_counts : PySem.W.keepIn K (.ref alaw_counts) = true)
    {alaw_three : Addr} {od_law_three an_law_three : Option Addr} {sl_law_three : Array (Option Value)} {oc_law_three kV_law_three dc_law_three pm_law_three cd_law_three ct_law_three : Value}
    (n_law_three : PySem.W.nsIn K mainGlobals "_law_three" = some (some (.ref alaw_three))) (l_law_three : K.lookup alaw_three = some ⟨oc_law_three, od_law_three, .func (PySem.W.fnOf "_law_three" "_law_three" (defArgs st_law_three) (defBody st_law_three) (defScope st_law_three) .none kV_law_three dc_law_three pm_law_three an_law_three cd_law_three ct_law_three), sl_law_three⟩) (c_law_three : PySem.W.codeIn K cd_law_three "_law_three" = true) (k_law_three : PySem.W.keepIn K (.ref alaw_three) = true)
    {alaw_many : Addr} {od_law_many an_law_many : Option Addr} {sl_law_many : Array (Option Value)} {oc_law_many kV_law_many dc_law_many pm_law_many cd_law_many ct_law_many : Value}
    (n_law_many : PySem.W.nsIn K mainGlobals "_law_many" = some (some (.ref alaw_many))) (l_law_many : K.lookup alaw_many = some ⟨oc_law_many, od_law_many, .func (PySem.W.fnOf "_law_many" "_law_many" (defArgs st_law_many) (defBody st_law_many) (defScope st_law_many) .none kV_law_many dc_law_many pm_law_many an_law_many cd_law_many ct_law_many), sl_law_many⟩) (c_law_many : PySem.W.codeIn K cd_law_many "_law_many" = true) (k_law_many : PySem.W.keepIn K (.ref alaw_many) = true)
    {alaw_any : Addr} {od_law_any an_law_any : Option Addr} {sl_law_any : Array (Option Value)} {oc_law_any kV_law_any dc_law_any pm_law_any cd_law_any ct_law_any : Value}
    (n_law_any : PySem.W.nsIn K mainGlobals "_law_any" = some (some (.ref alaw_any))) (l_law_any : K.lookup alaw_any = some ⟨oc_law_any, od_law_any, .func (PySem.W.fnOf "_law_any" "_law_any" (defArgs st_law_any) (defBody st_law_any) (defScope st_law_any) .none kV_law_any dc_law_any pm_law_any an_law_any cd_law_any ct_law_any), sl_law_any⟩) (c_law_any : PySem.W.codeIn K cd_law_any "_law_any" = true) (k_law_any : PySem.W.keepIn K (.ref alaw_any) = true)
    {alaw_made : Addr} {od_law_made an_law_made : Option Addr} {sl_law_made : Array (Option Value)} {oc_law_made kV_law_made dc_law_made pm_law_made cd_law_made ct_law_made : Value}
    (n_law_made : PySem.W.nsIn K mainGlobals "_law_made" = some (some (.ref alaw_made))) (l_law_made : K.lookup alaw_made = some ⟨oc_law_made, od_law_made, .func (PySem.W.fnOf "_law_made" "_law_made" (defArgs st_law_made) (defBody st_law_made) (defScope st_law_made) .none kV_law_made dc_law_made pm_law_made an_law_made cd_law_made ct_law_made), sl_law_made⟩) (c_law_made : PySem.W.codeIn K cd_law_made "_law_made" = true) (k_law_made : PySem.W.keepIn K (.ref alaw_made) = true)
    {alaw_kind : Addr} {od_law_kind an_law_kind : Option Addr} {sl_law_kind : Array (Option Value)} {oc_law_kind kV_law_kind dc_law_kind pm_law_kind cd_law_kind ct_law_kind : Value}
    (n_law_kind : PySem.W.nsIn K mainGlobals "_law_kind" = some (some (.ref alaw_kind))) (l_law_kind : K.lookup alaw_kind = some ⟨oc_law_kind, od_law_kind, .func (PySem.W.fnOf "_law_kind" "_law_kind" (defArgs st_law_kind) (defBody st_law_kind) (defScope st_law_kind) .none kV_law_kind dc_law_kind pm_law_kind an_law_kind cd_law_kind ct_law_kind), sl_law_kind⟩) (c_law_kind : PySem.W.codeIn K cd_law_kind "_law_kind" = true) (k_law_kind : PySem.W.keepIn K (.ref alaw_kind) = true)
    {alaw_told : Addr} {od_law_told an_law_told : Option Addr} {sl_law_told : Array (Option Value)} {oc_law_told kV_law_told dc_law_told pm_law_told cd_law_told ct_law_told : Value}
    (n_law_told : PySem.W.nsIn K mainGlobals "_law_told" = some (some (.ref alaw_told))) (l_law_told : K.lookup alaw_told = some ⟨oc_law_told, od_law_told, .func (PySem.W.fnOf "_law_told" "_law_told" (defArgs st_law_told) (defBody st_law_told) (defScope st_law_told) .none kV_law_told dc_law_told pm_law_told an_law_told cd_law_told ct_law_told), sl_law_told⟩) (c_law_told : PySem.W.codeIn K cd_law_told "_law_told" = true) (k_law_told : PySem.W.keepIn K (.ref alaw_told) = true)
    {alaw_rows_right : Addr} {od_law_rows_right an_law_rows_right : Option Addr} {sl_law_rows_right : Array (Option Value)} {oc_law_rows_right kV_law_rows_right dc_law_rows_right pm_law_rows_right cd_law_rows_right ct_law_rows_right : Value}
    (n_law_rows_right : PySem.W.nsIn K mainGlobals "_law_rows_right" = some (some (.ref alaw_rows_right))) (l_law_rows_right : K.lookup alaw_rows_right = some ⟨oc_law_rows_right, od_law_rows_right, .func (PySem.W.fnOf "_law_rows_right" "_law_rows_right" (defArgs st_law_rows_right) (defBody st_law_rows_right) (defScope st_law_rows_right) .none kV_law_rows_right dc_law_rows_right pm_law_rows_right an_law_rows_right cd_law_rows_right ct_law_rows_right), sl_law_rows_right⟩) (c_law_rows_right : PySem.W.codeIn K cd_law_rows_right "_law_rows_right" = true) (k_law_rows_right : PySem.W.keepIn K (.ref alaw_rows_right) = true)
    {alaw_far_right : Addr} {od_law_far_right an_law_far_right : Option Addr} {sl_law_far_right : Array (Option Value)} {oc_law_far_right kV_law_far_right dc_law_far_right pm_law_far_right cd_law_far_right ct_law_far_right : Value}
    (n_law_far_right : PySem.W.nsIn K mainGlobals "_law_far_right" = some (some (.ref alaw_far_right))) (l_law_far_right : K.lookup alaw_far_right = some ⟨oc_law_far_right, od_law_far_right, .func (PySem.W.fnOf "_law_far_right" "_law_far_right" (defArgs st_law_far_right) (defBody st_law_far_right) (defScope st_law_far_right) .none kV_law_far_right dc_law_far_right pm_law_far_right an_law_far_right cd_law_far_right ct_law_far_right), sl_law_far_right⟩) (c_law_far_right : PySem.W.codeIn K cd_law_far_right "_law_far_right" = true) (k_law_far_right : PySem.W.keepIn K (.ref alaw_far_right) = true)
    {alaw : Addr} {od_law an_law : Option Addr} {sl_law : Array (Option Value)} {oc_law kV_law dc_law pm_law cd_law ct_law : Value}
    (n_law : PySem.W.nsIn K mainGlobals "law" = some (some (.ref alaw))) (l_law : K.lookup alaw = some ⟨oc_law, od_law, .func (PySem.W.fnOf "law" "law" (defArgs st_law) (defBody st_law) (defScope st_law) .none kV_law dc_law pm_law an_law cd_law ct_law), sl_law⟩) (c_law : PySem.W.codeIn K cd_law "law" = true) (k_law : PySem.W.keepIn K (.ref alaw) = true)
    {C_c : Addr} (n_c : PySem.W.nsIn K mainGlobals "Counts" = some (some (.ref C_c)))
    (pg_c : PySem.W.plainGet K C_c Str.empty = true)
    (hd_c : PySem.W.hasDictIn K C_c = true)
    (po_c : PySem.W.plainOver K C_c = true)
    (sa_c : PySem.W.findIn K (.ref C_c) "__setattr__" = some (some (.builtin "object.__setattr__")))
    (mk_c : PySem.W.makesIn K C_c = true)
    (kc_c : PySem.W.keepIn K (.ref C_c) = true)
    (sf_c : PySem.W.selfFirst K C_c = true)
    {foi_c fri_c : Option Value}
    (rmu_c : PySem.W.findIn K (.ref C_c) "__rmul__" = some none)
    (imu_c : PySem.W.findIn K (.type "int") "__mul__" = some foi_c)
    (iru_c : PySem.W.findIn K (.type "int") "__rmul__" = some fri_c)
    (sbu_c : PySem.W.subIn K (.type "int") (.ref C_c) = some false)
    (cai_c : PySem.W.findIn K (.ref C_c) "__class__" = some (some (.builtin "object.__class__")))
    (cgi_c : PySem.W.specialIn K (.builtin "object.__class__") "__get__" = some (some (.builtin "getset_descriptor.__get__")))
    (cti_c : PySem.W.takesIn K (.builtin "object.__class__") = some true)
    (moi_c : PySem.W.mroIn K C_c (.type "object") = some true)
    (nA_c : PySem.W.findIn K (.ref C_c) "_many_a" = some none)
    (nB_c : PySem.W.findIn K (.ref C_c) "_many_b" = some none)
    (nP_c : PySem.W.findIn K (.ref C_c) "_pairs" = some none)
    {ac_init : Addr} {od_c_init an_c_init : Option Addr} {sl_c_init : Array (Option Value)} {oc_c_init kV_c_init dc_c_init pm_c_init cd_c_init ct_c_init : Value} (a_c_init : PySem.W.findIn K (.ref C_c) "__init__" = some (some (.ref ac_init))) (i_c_init : PySem.W.isFn K (.ref ac_init) = true) (l_c_init : K.lookup ac_init = some ⟨oc_c_init, od_c_init, .func (PySem.W.fnOf "__init__" "Counts.__init__" (defArgs st_c_init) (defBody st_c_init) (defScope st_c_init) .none kV_c_init dc_c_init pm_c_init an_c_init cd_c_init ct_c_init), sl_c_init⟩) (c_c_init : PySem.W.codeIn K cd_c_init "Counts.__init__" = true) (k_c_init : PySem.W.keepIn K (.ref ac_init) = true)
    {ac_add : Addr} {od_c_add an_c_add : Option Addr} {sl_c_add : Array (Option Value)} {oc_c_add kV_c_add dc_c_add pm_c_add cd_c_add ct_c_add : Value} (a_c_add : PySem.W.findIn K (.ref C_c) "__add__" = some (some (.ref ac_add))) (i_c_add : PySem.W.isFn K (.ref ac_add) = true) (l_c_add : K.lookup ac_add = some ⟨oc_c_add, od_c_add, .func (PySem.W.fnOf "__add__" "Counts.__add__" (defArgs st_c_add) (defBody st_c_add) (defScope st_c_add) .none kV_c_add dc_c_add pm_c_add an_c_add cd_c_add ct_c_add), sl_c_add⟩) (c_c_add : PySem.W.codeIn K cd_c_add "Counts.__add__" = true) (k_c_add : PySem.W.keepIn K (.ref ac_add) = true)
    {ac_mul : Addr} {od_c_mul an_c_mul : Option Addr} {sl_c_mul : Array (Option Value)} {oc_c_mul kV_c_mul dc_c_mul pm_c_mul cd_c_mul ct_c_mul : Value} (a_c_mul : PySem.W.findIn K (.ref C_c) "__mul__" = some (some (.ref ac_mul))) (i_c_mul : PySem.W.isFn K (.ref ac_mul) = true) (l_c_mul : K.lookup ac_mul = some ⟨oc_c_mul, od_c_mul, .func (PySem.W.fnOf "__mul__" "Counts.__mul__" (defArgs st_c_mul) (defBody st_c_mul) (defScope st_c_mul) .none kV_c_mul dc_c_mul pm_c_mul an_c_mul cd_c_mul ct_c_mul), sl_c_mul⟩) (c_c_mul : PySem.W.codeIn K cd_c_mul "Counts.__mul__" = true) (k_c_mul : PySem.W.keepIn K (.ref ac_mul) = true)
    {pc_many_a : Addr} {rest_c_many_a : List Value} {ac_many_a : Addr} {od_c_many_a an_c_many_a : Option Addr} {sl_c_many_a : Array (Option Value)} {oc_c_many_a kV_c_many_a dc_c_many_a pm_c_many_a cd_c_many_a ct_c_many_a : Value} (pa_c_many_a : PySem.W.findIn K (.ref C_c) "many_a" = some (some (.ref pc_many_a))) (pg_c_many_a : PySem.W.specialIn K (.ref pc_many_a) "__get__" = some (some (.builtin "property.__get__"))) (pt_c_many_a : PySem.W.takesIn K (.ref pc_many_a) = some true) (pr_c_many_a : PySem.W.recIn K pc_many_a "property" = some (.ref ac_many_a :: rest_c_many_a)) (l_c_many_a : K.lookup ac_many_a = some ⟨oc_c_many_a, od_c_many_a, .func (PySem.W.fnOf "many_a" "Counts.many_a" (defArgs st_c_many_a) (defBody st_c_many_a) (defScope st_c_many_a) .none kV_c_many_a dc_c_many_a pm_c_many_a an_c_many_a cd_c_many_a ct_c_many_a), sl_c_many_a⟩) (c_c_many_a : PySem.W.codeIn K cd_c_many_a "Counts.many_a" = true) (k_c_many_a : PySem.W.keepIn K (.ref ac_many_a) = true)
    {pc_many_b : Addr} {rest_c_many_b : List Value} {ac_many_b : Addr} {od_c_many_b an_c_many_b : Option Addr} {sl_c_many_b : Array (Option Value)} {oc_c_many_b kV_c_many_b dc_c_many_b pm_c_many_b cd_c_many_b ct_c_many_b : Value} (pa_c_many_b : PySem.W.findIn K (.ref C_c) "many_b" = some (some (.ref pc_many_b))) (pg_c_many_b : PySem.W.specialIn K (.ref pc_many_b) "__get__" = some (some (.builtin "property.__get__"))) (pt_c_many_b : PySem.W.takesIn K (.ref pc_many_b) = some true) (pr_c_many_b : PySem.W.recIn K pc_many_b "property" = some (.ref ac_many_b :: rest_c_many_b)) (l_c_many_b : K.lookup ac_many_b = some ⟨oc_c_many_b, od_c_many_b, .func (PySem.W.fnOf "many_b" "Counts.many_b" (defArgs st_c_many_b) (defBody st_c_many_b) (defScope st_c_many_b) .none kV_c_many_b dc_c_many_b pm_c_many_b an_c_many_b cd_c_many_b ct_c_many_b), sl_c_many_b⟩) (c_c_many_b : PySem.W.codeIn K cd_c_many_b "Counts.many_b" = true) (k_c_many_b : PySem.W.keepIn K (.ref ac_many_b) = true)
    {pc_pairs : Addr} {rest_c_pairs : List Value} {ac_pairs : Addr} {od_c_pairs an_c_pairs : Option Addr} {sl_c_pairs : Array (Option Value)} {oc_c_pairs kV_c_pairs dc_c_pairs pm_c_pairs cd_c_pairs ct_c_pairs : Value} (pa_c_pairs : PySem.W.findIn K (.ref C_c) "pairs" = some (some (.ref pc_pairs))) (pg_c_pairs : PySem.W.specialIn K (.ref pc_pairs) "__get__" = some (some (.builtin "property.__get__"))) (pt_c_pairs : PySem.W.takesIn K (.ref pc_pairs) = some true) (pr_c_pairs : PySem.W.recIn K pc_pairs "property" = some (.ref ac_pairs :: rest_c_pairs)) (l_c_pairs : K.lookup ac_pairs = some ⟨oc_c_pairs, od_c_pairs, .func (PySem.W.fnOf "pairs" "Counts.pairs" (defArgs st_c_pairs) (defBody st_c_pairs) (defScope st_c_pairs) .none kV_c_pairs dc_c_pairs pm_c_pairs an_c_pairs cd_c_pairs ct_c_pairs), sl_c_pairs⟩) (c_c_pairs : PySem.W.codeIn K cd_c_pairs "Counts.pairs" = true) (k_c_pairs : PySem.W.keepIn K (.ref ac_pairs) = true)
    (rd_c : PySem.W.readsIn K C_c (.type "type") = true) (ga_c : PySem.W.specialIn K (.ref C_c) "__getattribute__" = some (some (.builtin "type.__getattribute__")))
    {pc_of : Addr} {rest_c_of : List Value} {ac_of : Addr} {od_c_of an_c_of : Option Addr} {sl_c_of : Array (Option Value)} {oc_c_of kV_c_of dc_c_of pm_c_of cd_c_of ct_c_of : Value} (at_c_of : PySem.W.findCls K (.ref C_c) (.type "type") "of" = some (.get (.builtin "classmethod.__get__") (.ref pc_of) .none (.ref C_c))) (rc_c_of : PySem.W.recIn K pc_of "classmethod" = some (.ref ac_of :: rest_c_of)) (fi_c_of : PySem.W.fnIn K ac_of = true) (l_c_of : K.lookup ac_of = some ⟨oc_c_of, od_c_of, .func (PySem.W.fnOf "of" "Counts.of" (defArgs st_c_of) (defBody st_c_of) (defScope st_c_of) .none kV_c_of dc_c_of pm_c_of an_c_of cd_c_of ct_c_of), sl_c_of⟩) (c_c_of : PySem.W.codeIn K cd_c_of "Counts.of" = true) (k_c_of : PySem.W.keepIn K (.ref ac_of) = true)
    {E_InvalidRow : Addr}
    (n_InvalidRow : PySem.W.nsIn K mainGlobals "InvalidRow" = some (some (.ref E_InvalidRow)))
    {E_InvalidCounts : Addr}
    (n_InvalidCounts : PySem.W.nsIn K mainGlobals "InvalidCounts" = some (some (.ref E_InvalidCounts)))
    {E_InvalidRuns : Addr}
    (n_InvalidRuns : PySem.W.nsIn K mainGlobals "InvalidRuns" = some (some (.ref E_InvalidRuns)))
    {E_InvalidSwap : Addr}
    (n_InvalidSwap : PySem.W.nsIn K mainGlobals "InvalidSwap" = some (some (.ref E_InvalidSwap)))
    {E_InvalidPattern : Addr}
    (n_InvalidPattern : PySem.W.nsIn K mainGlobals "InvalidPattern" = some (some (.ref E_InvalidPattern)))
    {E_InvalidNumber : Addr}
    (n_InvalidNumber : PySem.W.nsIn K mainGlobals "InvalidNumber" = some (some (.ref E_InvalidNumber)))
    {E_InvalidStrands : Addr}
    (n_InvalidStrands : PySem.W.nsIn K mainGlobals "InvalidStrands" = some (some (.ref E_InvalidStrands)))
    {E_InvalidCommand : Addr}
    (n_InvalidCommand : PySem.W.nsIn K mainGlobals "InvalidCommand" = some (some (.ref E_InvalidCommand)))
    {E_Different : Addr}
    (n_Different : PySem.W.nsIn K mainGlobals "Different" = some (some (.ref E_Different)))
    {E_NothingToUndo : Addr}
    (n_NothingToUndo : PySem.W.nsIn K mainGlobals "NothingToUndo" = some (some (.ref E_NothingToUndo)))
    {E_TooLarge : Addr}
    (n_TooLarge : PySem.W.nsIn K mainGlobals "TooLarge" = some (some (.ref E_TooLarge)))
    {E_InvalidText : Addr}
    (n_InvalidText : PySem.W.nsIn K mainGlobals "InvalidText" = some (some (.ref E_InvalidText)))
    {E_PairError : Addr}
    (n_PairError : PySem.W.nsIn K mainGlobals "PairError" = some (some (.ref E_PairError)))
    (xq_InvalidNumber : PySem.W.excIn K E_InvalidNumber [.type "ValueError", .type "Exception", .type "BaseException", .type "object"] "ValueError.__new__" = true)
    (xk_InvalidNumber : PySem.W.keepIn K (.ref E_InvalidNumber) = true)
    (xb_InvalidNumber : PySem.W.subIn K (.ref E_InvalidNumber) (.type "BaseException") = some true)
    (xt_InvalidNumber : PySem.W.typeIn K (.ref E_InvalidNumber) = some (.type "type"))
    (xd_InvalidNumber : PySem.W.hasDictIn K E_InvalidNumber = true)
    (xq_PairError : PySem.W.excIn K E_PairError [.type "ValueError", .type "Exception", .type "BaseException", .type "object"] "ValueError.__new__" = true)
    (xk_PairError : PySem.W.keepIn K (.ref E_PairError) = true)
    (xb_PairError : PySem.W.subIn K (.ref E_PairError) (.type "BaseException") = some true)
    (xt_PairError : PySem.W.typeIn K (.ref E_PairError) = some (.type "type"))
    (xd_PairError : PySem.W.hasDictIn K E_PairError = true)
    (xcg : PySem.W.specialIn K (.builtin "object.__class__") "__get__" = some (some (.builtin "getset_descriptor.__get__")))
    (xct : PySem.W.takesIn K (.builtin "object.__class__") = some true)
    (xs_InvalidNumber : PySem.W.subIn K (.ref E_InvalidNumber) (.ref E_PairError) = some true)
    (xg_InvalidNumber : PySem.W.findIn K (.ref E_InvalidNumber) "__getattribute__" = some (some (.builtin "BaseException.__getattribute__")))
    (xn_InvalidNumber : PySem.W.findIn K (.ref E_InvalidNumber) "__getattr__" = some none)
    (xa_InvalidNumber : PySem.W.findIn K (.ref E_InvalidNumber) "__class__" = some (some (.builtin "object.__class__")))
    (xm_InvalidNumber : PySem.W.mroIn K E_InvalidNumber (.type "object") = some true)
    (xi_InvalidNumber_InvalidRow : PySem.W.kitOne K (.ref E_InvalidNumber) (.ref E_InvalidRow) = some false)
    (xi_InvalidNumber_InvalidCounts : PySem.W.kitOne K (.ref E_InvalidNumber) (.ref E_InvalidCounts) = some false)
    (xi_InvalidNumber_InvalidRuns : PySem.W.kitOne K (.ref E_InvalidNumber) (.ref E_InvalidRuns) = some false)
    (xi_InvalidNumber_InvalidSwap : PySem.W.kitOne K (.ref E_InvalidNumber) (.ref E_InvalidSwap) = some false)
    (xi_InvalidNumber_InvalidPattern : PySem.W.kitOne K (.ref E_InvalidNumber) (.ref E_InvalidPattern) = some false)
    (xi_InvalidNumber_InvalidNumber : PySem.W.kitOne K (.ref E_InvalidNumber) (.ref E_InvalidNumber) = some true)
    (xi_InvalidNumber_InvalidStrands : PySem.W.kitOne K (.ref E_InvalidNumber) (.ref E_InvalidStrands) = some false)
    (xi_InvalidNumber_InvalidCommand : PySem.W.kitOne K (.ref E_InvalidNumber) (.ref E_InvalidCommand) = some false)
    (xi_InvalidNumber_Different : PySem.W.kitOne K (.ref E_InvalidNumber) (.ref E_Different) = some false)
    (xi_InvalidNumber_NothingToUndo : PySem.W.kitOne K (.ref E_InvalidNumber) (.ref E_NothingToUndo) = some false)
    (xi_InvalidNumber_TooLarge : PySem.W.kitOne K (.ref E_InvalidNumber) (.ref E_TooLarge) = some false)
    (xi_InvalidNumber_InvalidText : PySem.W.kitOne K (.ref E_InvalidNumber) (.ref E_InvalidText) = some false)
    (xv_InvalidNumber : PySem.W.kitOne K (.ref E_InvalidNumber) (.type "ValueError") = some true)
    {fo_int ro_int : Option Value}
    (rf_int : PySem.W.findIn K (.type "int") "__mul__" = some fo_int)
    (rr_int : PySem.W.findIn K (.type "int") "__rmul__" = some ro_int)
    (rs_int : PySem.W.subIn K (.type "int") (.ref C_c) = some false)
    {fo_NoneType ro_NoneType : Option Value}
    (rf_NoneType : PySem.W.findIn K (.type "NoneType") "__mul__" = some fo_NoneType)
    (rr_NoneType : PySem.W.findIn K (.type "NoneType") "__rmul__" = some ro_NoneType)
    (rs_NoneType : PySem.W.subIn K (.type "NoneType") (.ref C_c) = some false)
    {fo_bool ro_bool : Option Value}
    (rf_bool : PySem.W.findIn K (.type "bool") "__mul__" = some fo_bool)
    (rr_bool : PySem.W.findIn K (.type "bool") "__rmul__" = some ro_bool)
    (rs_bool : PySem.W.subIn K (.type "bool") (.ref C_c) = some false)
    {fo_str ro_str : Option Value}
    (rf_str : PySem.W.findIn K (.type "str") "__mul__" = some fo_str)
    (rr_str : PySem.W.findIn K (.type "str") "__rmul__" = some ro_str)
    (rs_str : PySem.W.subIn K (.type "str") (.ref C_c) = some false)
    {fo_list ro_list : Option Value}
    (rf_list : PySem.W.findIn K (.type "list") "__mul__" = some fo_list)
    (rr_list : PySem.W.findIn K (.type "list") "__rmul__" = some ro_list)
    (rs_list : PySem.W.subIn K (.type "list") (.ref C_c) = some false)
    {fo_tuple ro_tuple : Option Value}
    (rf_tuple : PySem.W.findIn K (.type "tuple") "__mul__" = some fo_tuple)
    (rr_tuple : PySem.W.findIn K (.type "tuple") "__rmul__" = some ro_tuple)
    (rs_tuple : PySem.W.subIn K (.type "tuple") (.ref C_c) = some false)
    {fo_dict ro_dict : Option Value}
    (rf_dict : PySem.W.findIn K (.type "dict") "__mul__" = some fo_dict)
    (rr_dict : PySem.W.findIn K (.type "dict") "__rmul__" = some ro_dict)
    (rs_dict : PySem.W.subIn K (.type "dict") (.ref C_c) = some false)
    (o_c : PySem.W.kitOne K (.ref C_c) (.type "int") = some false)
    (z_ValueError : PySem.W.nsIn K mainGlobals "ValueError" = some none)
    (z_bool : PySem.W.nsIn K mainGlobals "bool" = some none)
    (z_enumerate : PySem.W.nsIn K mainGlobals "enumerate" = some none)
    (z_int : PySem.W.nsIn K mainGlobals "int" = some none)
    (z_isinstance : PySem.W.nsIn K mainGlobals "isinstance" = some none)
    (z_len : PySem.W.nsIn K mainGlobals "len" = some none)
    (z_max : PySem.W.nsIn K mainGlobals "max" = some none)
    (z_min : PySem.W.nsIn K mainGlobals "min" = some none)
    (z_range : PySem.W.nsIn K mainGlobals "range" = some none)
    (z_repr : PySem.W.nsIn K mainGlobals "repr" = some none)
    (z_str : PySem.W.nsIn K mainGlobals "str" = some none)
    (z_sum : PySem.W.nsIn K mainGlobals "sum" = some none)
    (z_zip : PySem.W.nsIn K mainGlobals "zip" = some none)
    {t_MOST_COPIES : Tok} (y_MOST_COPIES : PySem.W.nsIn K mainGlobals "MOST_COPIES" = some (some (.int (10 ^ 30) t_MOST_COPIES)))
    {t_MOST_LETTERS : Tok} (y_MOST_LETTERS : PySem.W.nsIn K mainGlobals "MOST_LETTERS" = some (some (.int 200 t_MOST_LETTERS)))
    : ∃ fd : FuncData, (∀ (s : Shared) (v : Value), BindsTo s fd ⟨[v], []⟩ [("script", v)]) ∧ ∀ base : Heap, K.In base → base.Ns mainGlobals mg → FnG l.prog w K mg base CX0 8 fa fd ["script"] (spLaw K) := by
  have e := hfa.symm.trans (PySem.W.mg_of X G n_law)
  cases e
  have F_is_integer := fun_mk (st := st_is_integer) l_is_integer c_is_integer k_is_integer
  have b_is_integer := F_is_integer.binds (ps := ["value"]) fun _ _ _ _ _ _ us hl => match us, hl with | [_], _ => rfl
  have g_is_integer := PySem.W.mg_of X G n_is_integer
  have F_check_number : FunD K "check_number" "check_number" (defArgs st_check_number) (defBody st_check_number) (defScope st_check_number) [.non] [] _ _ := ⟨⟨_, _, _, _, _, _, _, _, _, _, rfl, l_check_number, c_check_number, .inr ⟨by simp, dT_check_number, _, [Value.none], nT_check_number, rfl, e_check_number, rfl, .cons rfl .nil⟩, .inl rfl⟩, k_check_number⟩
  have b_check_number := binds_full F_check_number (ps := ["value", "least", "greatest"]) 3 rfl fun _ _ _ _ _ _ _ us its h1 h2 => match us, h1, its, h2 with | [_, _, _], _, [_], _ => ⟨_, rfl, rfl⟩
  have g_check_number := PySem.W.mg_of X G n_check_number
  have F_is_row := fun_mk (st := st_is_row) l_is_row c_is_row k_is_row
  have b_is_row := F_is_row.binds (ps := ["value"]) fun _ _ _ _ _ _ us hl => match us, hl with | [_], _ => rfl
  have g_is_row := PySem.W.mg_of X G n_is_row
  have F_check_row := fun_mk (st := st_check_row) l_check_row c_check_row k_check_row
  have b_check_row := F_check_row.binds (ps := ["value"]) fun _ _ _ _ _ _ us hl => match us, hl with | [_], _ => rfl
  have g_check_row := PySem.W.mg_of X G n_check_row
  have F_prefix_counts := fun_mk (st := st_prefix_counts) l_prefix_counts c_prefix_counts k_prefix_counts
  have b_prefix_counts := F_prefix_counts.binds (ps := ["row"]) fun _ _ _ _ _ _ us hl => match us, hl with | [_], _ => rfl
  have g_prefix_counts := PySem.W.mg_of X G n_prefix_counts
  have F_pairs_in := fun_mk (st := st_pairs_in) l_pairs_in c_pairs_in k_pairs_in
  have b_pairs_in := F_pairs_in.binds (ps := ["row"]) fun _ _ _ _ _ _ us hl => match us, hl with | [_], _ => rfl
  have g_pairs_in := PySem.W.mg_of X G n_pairs_in
  have F_are_counts := fun_mk (st := st_are_counts) l_are_counts c_are_counts k_are_counts
  have b_are_counts := F_are_counts.binds (ps := ["many_a", "many_b", "pairs"]) fun _ _ _ _ _ _ us hl => match us, hl with | [_, _, _], _ => rfl
  have g_are_counts := PySem.W.mg_of X G n_are_counts
  have F_check_counts := fun_mk (st := st_check_counts) l_check_counts c_check_counts k_check_counts
  have b_check_counts := F_check_counts.binds (ps := ["value"]) fun _ _ _ _ _ _ us hl => match us, hl with | [_], _ => rfl
  have g_check_counts := PySem.W.mg_of X G n_check_counts
  have F_law_reel := fun_mk (st := st_law_reel) l_law_reel c_law_reel k_law_reel
  have b_law_reel := F_law_reel.binds (ps := ["script"]) fun _ _ _ _ _ _ us hl => match us, hl with | [_], _ => rfl
  have g_law_reel := PySem.W.mg_of X G n_law_reel
  have F_law_draw := fun_mk (st := st_law_draw) l_law_draw c_law_draw k_law_draw
  have b_law_draw := F_law_draw.binds (ps := ["reel", "many"]) fun _ _ _ _ _ _ us hl => match us, hl with | [_, _], _ => rfl
  have g_law_draw := PySem.W.mg_of X G n_law_draw
  have F_law_word := fun_mk (st := st_law_word) l_law_word c_law_word k_law_word
  have b_law_word := F_law_word.binds (ps := ["reel", "low", "high"]) fun _ _ _ _ _ _ us hl => match us, hl with | [_, _, _], _ => rfl
  have g_law_word := PySem.W.mg_of X G n_law_word
  have F_law_counts := fun_mk (st := st_law_counts) l_law_counts c_law_counts k_law_counts
  have b_law_counts := F_law_counts.binds (ps := ["text"]) fun _ _ _ _ _ _ us hl => match us, hl with | [_], _ => rfl
  have g_law_counts := PySem.W.mg_of X G n_law_counts
  have F_law_three := fun_mk (st := st_law_three) l_law_three c_law_three k_law_three
  have b_law_three := F_law_three.binds (ps := ["counts"]) fun _ _ _ _ _ _ us hl => match us, hl with | [_], _ => rfl
  have g_law_three := PySem.W.mg_of X G n_law_three
  have F_law_many := fun_mk (st := st_law_many) l_law_many c_law_many k_law_many
  have b_law_many := F_law_many.binds (ps := ["reel"]) fun _ _ _ _ _ _ us hl => match us, hl with | [_], _ => rfl
  have g_law_many := PySem.W.mg_of X G n_law_many
  have F_law_any := fun_mk (st := st_law_any) l_law_any c_law_any k_law_any
  have b_law_any := F_law_any.binds (ps := ["reel"]) fun _ _ _ _ _ _ us hl => match us, hl with | [_], _ => rfl
  have g_law_any := PySem.W.mg_of X G n_law_any
  have F_law_made := fun_mk (st := st_law_made) l_law_made c_law_made k_law_made
  have b_law_made := F_law_made.binds (ps := ["three"]) fun _ _ _ _ _ _ us hl => match us, hl with | [_], _ => rfl
  have g_law_made := PySem.W.mg_of X G n_law_made
  have F_law_kind := fun_mk (st := st_law_kind) l_law_kind c_law_kind k_law_kind
  have b_law_kind := F_law_kind.binds (ps := ["e"]) fun _ _ _ _ _ _ us hl => match us, hl with | [_], _ => rfl
  have g_law_kind := PySem.W.mg_of X G n_law_kind
  have F_law_told := fun_mk (st := st_law_told) l_law_told c_law_told k_law_told
  have b_law_told := F_law_told.binds (ps := ["counts", "number"]) fun _ _ _ _ _ _ us hl => match us, hl with | [_, _], _ => rfl
  have g_law_told := PySem.W.mg_of X G n_law_told
  have F_law_rows_right := fun_mk (st := st_law_rows_right) l_law_rows_right c_law_rows_right k_law_rows_right
  have b_law_rows_right := F_law_rows_right.binds (ps := ["reel", "text"]) fun _ _ _ _ _ _ us hl => match us, hl with | [_, _], _ => rfl
  have g_law_rows_right := PySem.W.mg_of X G n_law_rows_right
  have F_law_far_right := fun_mk (st := st_law_far_right) l_law_far_right c_law_far_right k_law_far_right
  have b_law_far_right := F_law_far_right.binds (ps := ["reel"]) fun _ _ _ _ _ _ us hl => match us, hl with | [_], _ => rfl
  have g_law_far_right := PySem.W.mg_of X G n_law_far_right
  have F_law := fun_mk (st := st_law) l_law c_law k_law
  have T_c : CT K mg C_c := ⟨⟨pg_c, hd_c, po_c, sa_c⟩, nA_c, nB_c, nP_c, PySem.W.mg_of X G n_c⟩
  have I_c : C8.InsC K C_c := ⟨T_c.cl, cai_c, cgi_c, cti_c, moi_c, kit_refl⟩
  have F_c_init := fun_mk (st := st_c_init) l_c_init c_c_init k_c_init
  have b_c_init := F_c_init.binds (ps := ["self", "many_a", "many_b", "pairs"]) fun _ _ _ _ _ _ us hl => match us, hl with | [_, _, _, _], _ => rfl
  have F_c_add := fun_mk (st := st_c_add) l_c_add c_c_add k_c_add
  have b_c_add := F_c_add.binds (ps := ["self", "other"]) fun _ _ _ _ _ _ us hl => match us, hl with | [_, _], _ => rfl
  have F_c_mul := fun_mk (st := st_c_mul) l_c_mul c_c_mul k_c_mul
  have b_c_mul := F_c_mul.binds (ps := ["self", "other"]) fun _ _ _ _ _ _ us hl => match us, hl with | [_, _], _ => rfl
  have F_c_of := fun_mk (st := st_c_of) l_c_of c_c_of k_c_of
  have b_c_of := F_c_of.binds (ps := ["cls", "row"]) fun _ _ _ _ _ _ us hl => match us, hl with | [_, _], _ => rfl
  have M_c : Mk K C_c _ := ⟨mk_c, a_c_init, i_c_init, kc_c⟩
  have d_c_add : Dun K C_c "__add__" _ := ⟨a_c_add, i_c_add⟩
  have D_c_mul : OpC K C_c _ .Mult := ⟨sf_c, a_c_mul, i_c_mul, rmu_c⟩
  have d_c_mul : Dun K C_c "__mul__" _ := ⟨a_c_mul, i_c_mul⟩
  have F_c_many_a := fun_mk (st := st_c_many_a) l_c_many_a c_c_many_a k_c_many_a
  have bp_c_many_a := F_c_many_a.binds (ps := ["self"]) fun _ _ _ _ _ _ us hl => match us, hl with | [_], _ => rfl
  have p_c_many_a : PropOf K C_c "many_a" _ _ := ⟨pa_c_many_a, pg_c_many_a, pt_c_many_a, ⟨_, pr_c_many_a⟩⟩
  have F_c_many_b := fun_mk (st := st_c_many_b) l_c_many_b c_c_many_b k_c_many_b
  have bp_c_many_b := F_c_many_b.binds (ps := ["self"]) fun _ _ _ _ _ _ us hl => match us, hl with | [_], _ => rfl
  have p_c_many_b : PropOf K C_c "many_b" _ _ := ⟨pa_c_many_b, pg_c_many_b, pt_c_many_b, ⟨_, pr_c_many_b⟩⟩
  have F_c_pairs := fun_mk (st := st_c_pairs) l_c_pairs c_c_pairs k_c_pairs
  have bp_c_pairs := F_c_pairs.binds (ps := ["self"]) fun _ _ _ _ _ _ us hl => match us, hl with | [_], _ => rfl
  have p_c_pairs : PropOf K C_c "pairs" _ _ := ⟨pa_c_pairs, pg_c_pairs, pt_c_pairs, ⟨_, pr_c_pairs⟩⟩
  have cr_c : ClX.CRead K C_c _ := ⟨rd_c, ga_c⟩
  have cm_c_of : ClX.CMet K C_c _ "of" _ _ := ⟨at_c_of, ⟨_, rc_c_of⟩, fi_c_of⟩
  have m_ValueError := PySem.W.mg_none_of X G z_ValueError
  have m_bool := PySem.W.mg_none_of X G z_bool
  have m_enumerate := PySem.W.mg_none_of X G z_enumerate
  have m_int := PySem.W.mg_none_of X G z_int
  have m_isinstance := PySem.W.mg_none_of X G z_isinstance
  have m_len := PySem.W.mg_none_of X G z_len
  have m_max := PySem.W.mg_none_of X G z_max
  have m_min := PySem.W.mg_none_of X G z_min
  have m_range := PySem.W.mg_none_of X G z_range
  have m_repr := PySem.W.mg_none_of X G z_repr
  have m_str := PySem.W.mg_none_of X G z_str
  have m_sum := PySem.W.mg_none_of X G z_sum
  have m_zip := PySem.W.mg_none_of X G z_zip
  have g_MOST_COPIES := PySem.W.mg_of X G y_MOST_COPIES
  have g_MOST_LETTERS := PySem.W.mg_of X G y_MOST_LETTERS
  refine ⟨PySem.W.fnOf "law" "law" (defArgs st_law) (defBody st_law) (defScope st_law) .none kV_law dc_law pm_law an_law cd_law ct_law, fun s v => .of_eq rfl, fun base _ _ => ?_⟩
  have Gp_c_many_a : FnOk l.prog w K mg base CX0 1 _ _ ["self"] (getSp C_c "_many_a") := fn_getter l_c_many_a c_c_many_a sc_c_many_a rfl rfl T_c.cl T_c.nA
  have Gp_c_many_b : FnOk l.prog w K mg base CX0 1 _ _ ["self"] (getSp C_c "_many_b") := fn_getter l_c_many_b c_c_many_b sc_c_many_b rfl rfl T_c.cl T_c.nB
  have Gp_c_pairs : FnOk l.prog w K mg base CX0 1 _ _ ["self"] (getSp C_c "_pairs") := fn_getter l_c_pairs c_c_pairs sc_c_pairs rfl rfl T_c.cl T_c.nP
  have T_InvalidNumber : ErrC K mg "InvalidNumber" E_InvalidNumber := ⟨PySem.W.mg_of X G n_InvalidNumber, xq_InvalidNumber, xk_InvalidNumber, xb_InvalidNumber, xt_InvalidNumber⟩
  have T_PairError : ErrC K mg "PairError" E_PairError := ⟨PySem.W.mg_of X G n_PairError, xq_PairError, xk_PairError, xb_PairError, xt_PairError⟩
  have g_InvalidRow := PySem.W.mg_of X G n_InvalidRow
  have g_InvalidCounts := PySem.W.mg_of X G n_InvalidCounts
  have g_InvalidRuns := PySem.W.mg_of X G n_InvalidRuns
  have g_InvalidSwap := PySem.W.mg_of X G n_InvalidSwap
  have g_InvalidPattern := PySem.W.mg_of X G n_InvalidPattern
  have g_InvalidNumber := PySem.W.mg_of X G n_InvalidNumber
  have g_InvalidStrands := PySem.W.mg_of X G n_InvalidStrands
  have g_InvalidCommand := PySem.W.mg_of X G n_InvalidCommand
  have g_Different := PySem.W.mg_of X G n_Different
  have g_NothingToUndo := PySem.W.mg_of X G n_NothingToUndo
  have g_TooLarge := PySem.W.mg_of X G n_TooLarge
  have g_InvalidText := PySem.W.mg_of X G n_InvalidText
  have x_number := PySem.W.exm_ref xb_PairError xd_PairError xt_PairError xs_InvalidNumber
  have XC_InvalidNumber : ExcC K E_InvalidNumber := ⟨xg_InvalidNumber, xn_InvalidNumber, xb_InvalidNumber, xd_InvalidNumber, xa_InvalidNumber, xcg, xct, xm_InvalidNumber⟩
  have KO_InvalidNumber : KindOf K E_InvalidNumber E_InvalidRow E_InvalidCounts E_InvalidRuns E_InvalidSwap E_InvalidPattern E_InvalidNumber E_InvalidStrands E_InvalidCommand E_Different E_NothingToUndo E_TooLarge E_InvalidText false false false false false true false false false false false false := ⟨xi_InvalidNumber_InvalidRow, xi_InvalidNumber_InvalidCounts, xi_InvalidNumber_InvalidRuns, xi_InvalidNumber_InvalidSwap, xi_InvalidNumber_InvalidPattern, xi_InvalidNumber_InvalidNumber, xi_InvalidNumber_InvalidStrands, xi_InvalidNumber_InvalidCommand, xi_InvalidNumber_Different, xi_InvalidNumber_NothingToUndo, xi_InvalidNumber_TooLarge, xi_InvalidNumber_InvalidText, xv_InvalidNumber⟩
  have r_int : RhsT K C_c .Mult "int" := ⟨⟨_, rf_int⟩, ⟨_, rr_int⟩, rs_int⟩
  have r_NoneType : RhsT K C_c .Mult "NoneType" := ⟨⟨_, rf_NoneType⟩, ⟨_, rr_NoneType⟩, rs_NoneType⟩
  have r_bool : RhsT K C_c .Mult "bool" := ⟨⟨_, rf_bool⟩, ⟨_, rr_bool⟩, rs_bool⟩
  have r_str : RhsT K C_c .Mult "str" := ⟨⟨_, rf_str⟩, ⟨_, rr_str⟩, rs_str⟩
  have r_list : RhsT K C_c .Mult "list" := ⟨⟨_, rf_list⟩, ⟨_, rr_list⟩, rs_list⟩
  have r_tuple : RhsT K C_c .Mult "tuple" := ⟨⟨_, rf_tuple⟩, ⟨_, rr_tuple⟩, rs_tuple⟩
  have r_dict : RhsT K C_c .Mult "dict" := ⟨⟨_, rf_dict⟩, ⟨_, rr_dict⟩, rs_dict⟩
  have G_law_kind : ∀ (D : Addr) (nm : Str) (p : Addr × Obj), ((D = E_InvalidNumber ∧ nm = Str.ofString "number")) → Zc (.ref D) none p.2 → (∃ vs, p.2.data = .fields vs) → FnP l.prog w K mg base 1 _ _ ["e"] (spKind p.1 nm) p := fun D nm p kd hz hf => by
    obtain ⟨rfl, rfl⟩ := kd
    exact kindP F_law_kind XC_InvalidNumber hz hf KO_InvalidNumber rfl g_InvalidRow g_InvalidCounts g_InvalidRuns g_InvalidSwap g_InvalidPattern g_InvalidNumber g_InvalidStrands g_InvalidCommand g_Different g_NothingToUndo g_TooLarge g_InvalidText m_isinstance m_len m_ValueError
  have kd_number : (fun (D : Addr) (nm : Str) => (D = E_InvalidNumber ∧ nm = Str.ofString "number")) E_InvalidNumber (Str.ofString "number") := ⟨rfl, rfl⟩
  have G_is_integer : FnOk l.prog w K mg base CX0 1 _ _ ["value"] ((spIsInt K)) := ok_is_integer F_is_integer m_isinstance m_int m_bool
  have G_check_number : FnOk l.prog w K mg base (L2N.CX l.prog w) 2 _ _ ["value", "least", "greatest"] ((spCkX K E_InvalidNumber)) := ok_check_number F_check_number F_is_integer G_is_integer b_is_integer g_is_integer T_InvalidNumber
  have G_is_row : FnOk l.prog w K mg base CX0 1 _ _ ["value"] ((spIsRow K)) := ok_is_row F_is_row m_isinstance m_str m_len g_MOST_LETTERS
  have G_check_row : FnOk l.prog w K mg base CX0 2 _ _ ["value"] (spCheck) := ok_check_row F_check_row F_is_row G_is_row b_is_row g_is_row
  have G_prefix_counts : FnOk l.prog w K mg base CX0 3 _ _ ["row"] (spPrefix) := ok_prefix_counts F_prefix_counts F_check_row G_check_row b_check_row g_check_row
  have G_pairs_in : FnOk l.prog w K mg base CX0 4 _ _ ["row"] (spPairs) := ok_pairs_in F_pairs_in F_prefix_counts G_prefix_counts b_prefix_counts g_prefix_counts m_zip m_sum
  have G_are_counts : FnOk l.prog w K mg base CX0 2 _ _ ["many_a", "many_b", "pairs"] (spAre) := ok_are_counts F_are_counts F_is_integer G_is_integer b_is_integer g_is_integer
  have G_c_init : FnOk l.prog w K mg base CX0 3 _ _ ["self", "many_a", "many_b", "pairs"] ((spInit C_c)) := ok_c_init F_c_init T_c F_are_counts G_are_counts b_are_counts g_are_counts
  have G_c_of : FnOk l.prog w K mg base CX0 5 _ _ ["cls", "row"] ((spOf C_c)) := ok_c_of F_c_of F_check_row G_check_row b_check_row g_check_row F_pairs_in G_pairs_in b_pairs_in g_pairs_in M_c G_c_init b_c_init
  have R_c_of := FnOk.raw G_c_of b_c_of .nil
  have G_c_mul : FnOk l.prog w K mg base (L2N.CX l.prog w) 5 _ _ ["self", "other"] ((spMulX K C_c E_InvalidNumber)) := ok_c_mul F_c_mul T_c F_check_number G_check_number b_check_number g_check_number g_MOST_COPIES M_c G_c_init b_c_init
  have R_c_mul := FnOk.raw G_c_mul b_c_mul .nil
  have G_check_counts : FnOk l.prog w K mg base CX0 1 _ _ ["value"] ((spCkC C_c)) := ok_check_counts F_check_counts T_c I_c m_isinstance
  have G_c_add : FnOk l.prog w K mg base CX0 5 _ _ ["self", "other"] ((spAdd C_c)) := ok_c_add F_c_add T_c F_check_counts G_check_counts b_check_counts g_check_counts M_c G_c_init b_c_init p_c_many_a Gp_c_many_a bp_c_many_a p_c_many_b Gp_c_many_b bp_c_many_b p_c_pairs Gp_c_pairs bp_c_pairs
  have R_c_add := FnOk.raw G_c_add b_c_add .nil
  have G_law_reel : FnOk l.prog w K mg base CX0 1 _ _ ["script"] ((spReel K)) := ok_law_reel F_law_reel
  have G_law_draw : FnOk l.prog w K mg base CX0 1 _ _ ["reel", "many"] (spDraw) := ok_law_draw F_law_draw m_int m_len
  have G_law_word : FnOk l.prog w K mg base CX0 2 _ _ ["reel", "low", "high"] (spWord) := ok_law_word F_law_word F_law_draw G_law_draw b_law_draw g_law_draw m_range m_len
  have G_law_counts : FnOk l.prog w K mg base CX0 1 _ _ ["text"] (spLawCounts) := ok_law_counts F_law_counts m_enumerate m_len m_sum
  have G_law_three : FnOk l.prog w K mg base CX0 3 _ _ ["counts"] ((spThree C_c)) := ok_law_three F_law_three T_c p_c_many_a Gp_c_many_a bp_c_many_a p_c_many_b Gp_c_many_b bp_c_many_b p_c_pairs Gp_c_pairs bp_c_pairs
  have G_law_many : FnOk l.prog w K mg base CX0 2 _ _ ["reel"] (spMany) := ok_law_many F_law_many F_law_draw G_law_draw b_law_draw g_law_draw
  have G_law_any : FnOk l.prog w K mg base CX0 3 _ _ ["reel"] (spAny) := ok_law_any F_law_any F_law_draw G_law_draw b_law_draw g_law_draw F_law_many G_law_many b_law_many g_law_many m_min m_max
  have G_law_made : FnOk l.prog w K mg base CX0 5 _ _ ["three"] ((spMade K C_c)) := ok_law_made F_law_made T_c M_c G_c_init b_c_init
  have G_law_told : FnOk l.prog w K mg base CX0 6 _ _ ["counts", "number"] ((spTold K C_c)) := ok_law_told F_law_told T_c I_c D_c_mul G_c_mul b_c_mul F_law_kind G_law_kind b_law_kind g_law_kind T_PairError x_number kd_number m_isinstance
  have G_law_rows_right : FnG l.prog w K mg base CX0 6 _ _ ["reel", "text"] (spRows) := ok_law_rows_right F_law_rows_right F_law_three G_law_three b_law_three g_law_three F_law_counts G_law_counts b_law_counts g_law_counts T_c cr_c cm_c_of R_c_of D_c_mul G_c_mul b_c_mul r_int m_range m_min m_max m_len m_repr
  have G_law_far_right : FnOk l.prog w K mg base CX0 7 _ _ ["reel"] (spFar8) := ok_law_far_right F_law_far_right F_law_draw G_law_draw b_law_draw g_law_draw F_law_any G_law_any b_law_any g_law_any F_law_made G_law_made b_law_made g_law_made F_law_three G_law_three b_law_three g_law_three F_law_told G_law_told b_law_told g_law_told sf_c d_c_add R_c_add I_c D_c_mul G_c_mul b_c_mul r_int r_NoneType r_bool r_str r_list r_tuple r_dict o_c
  exact ok_law F_law F_law_reel G_law_reel b_law_reel g_law_reel F_law_word G_law_word b_law_word g_law_word F_law_three G_law_three b_law_three g_law_three F_law_rows_right G_law_rows_right b_law_rows_right g_law_rows_right F_law_far_right G_law_far_right b_law_far_right g_law_far_right T_c M_c G_c_init b_c_init D_c_mul G_c_mul b_c_mul r_int m_range m_min m_len
end K08
open PySem PySem.W PyProof.Rows
set_option maxHeartbeats 0 in
theorem PySem.Challenge.cw_paircounts_k08_multiples_of_counts_holds : PySem.Challenge.rw_paircounts_k08_multiples_of_counts.Holds := by
  w_on; o_law; k_head; (case hw => w_witness2)
  k_fill
  refine Vx.walkG (l := PySem.Challenge.rw_paircounts_k08_multiples_of_counts) (n := 63) (k := 8) (x := "script") (CX := fun _ => L2.CX0) (sp := fun w => K08.spLaw _) rfl (by decide) rfl ⟨rfl, by decide, by decide⟩ (fun w h Y => PySem.W.kIn_of Y) ?F (fun _ _ a ns hl hS => ⟨a, ns, rfl, hS, hl, fun _ => rfl⟩) (fun _ _ _ _ _ h => h)
  case F =>
    intro w mg fa h KX G hmg
    refine' K08.all_mk KX G hmg ?n_is_integer ?l_is_integer ?c_is_integer ?k_is_integer ?n_check_number ?l_check_number ?c_check_number ?k_check_number ?e_check_number ?n_is_row ?l_is_row ?c_is_row ?k_is_row ?n_check_row ?l_check_row ?c_check_row ?k_check_row ?n_prefix_counts ?l_prefix_counts ?c_prefix_counts ?k_prefix_counts ?n_pairs_in ?l_pairs_in ?c_pairs_in ?k_pairs_in ?n_are_counts ?l_are_counts ?c_are_counts ?k_are_counts ?n_check_counts ?l_check_counts ?c_check_counts ?k_check_counts ?n_law_reel ?l_law_reel ?c_law_reel ?k_law_reel ?n_law_draw ?l_law_draw ?c_law_draw ?k_law_draw ?n_law_word ?l_law_word ?c_law_word ?k_law_word ?n_law_counts ?l_law_counts ?c_law_counts ?k_law_counts ?n_law_three ?l_law_three ?c_law_three ?k_law_three ?n_law_many ?l_law_many ?c_law_many ?k_law_many ?n_law_any ?l_law_any ?c_law_any ?k_law_any ?n_law_made ?l_law_made ?c_law_made ?k_law_made ?n_law_kind ?l_law_kind ?c_law_kind ?k_law_kind ?n_law_told ?l_law_told ?c_law_told ?k_law_told ?n_law_rows_right ?l_law_rows_right ?c_law_rows_right ?k_law_rows_right ?n_law_far_right ?l_law_far_right ?c_law_far_right ?k_law_far_right ?n_law ?l_law ?c_law ?k_law ?n_c ?pg_c ?hd_c ?po_c ?sa_c ?mk_c ?kc_c ?sf_c ?rmu_c ?imu_c ?iru_c ?sbu_c ?cai_c ?cgi_c ?cti_c ?moi_c ?nA_c ?nB_c ?nP_c ?a_c_init ?i_c_init ?l_c_init ?c_c_init ?k_c_init ?a_c_add ?i_c_add ?l_c_add ?c_c_add ?k_c_add ?a_c_mul ?i_c_mul ?l_c_mul ?c_c_mul ?k_c_mul ?pa_c_many_a ?pg_c_many_a ?pt_c_many_a ?pr_c_many_a ?l_c_many_a ?c_c_many_a ?k_c_many_a ?pa_c_many_b ?pg_c_many_b ?pt_c_many_b ?pr_c_many_b ?l_c_many_b ?c_c_many_b ?k_c_many_b ?pa_c_pairs ?pg_c_pairs ?pt_c_pairs ?pr_c_pairs ?l_c_pairs ?c_c_pairs ?k_c_pairs ?rd_c ?ga_c ?at_c_of ?rc_c_of ?fi_c_of ?l_c_of ?c_c_of ?k_c_of ?n_InvalidRow ?n_InvalidCounts ?n_InvalidRuns ?n_InvalidSwap ?n_InvalidPattern ?n_InvalidNumber ?n_InvalidStrands ?n_InvalidCommand ?n_Different ?n_NothingToUndo ?n_TooLarge ?n_InvalidText ?n_PairError ?xq_InvalidNumber ?xk_InvalidNumber ?xb_InvalidNumber ?xt_InvalidNumber ?xd_InvalidNumber ?xq_PairError ?xk_PairError ?xb_PairError ?xt_PairError ?xd_PairError ?xcg ?xct ?xs_InvalidNumber ?xg_InvalidNumber ?xn_InvalidNumber ?xa_InvalidNumber ?xm_InvalidNumber ?xi_InvalidNumber_InvalidRow ?xi_InvalidNumber_InvalidCounts ?xi_InvalidNumber_InvalidRuns ?xi_InvalidNumber_InvalidSwap ?xi_InvalidNumber_InvalidPattern ?xi_InvalidNumber_InvalidNumber ?xi_InvalidNumber_InvalidStrands ?xi_InvalidNumber_InvalidCommand ?xi_InvalidNumber_Different ?xi_InvalidNumber_NothingToUndo ?xi_InvalidNumber_TooLarge ?xi_InvalidNumber_InvalidText ?xv_InvalidNumber ?rf_int ?rr_int ?rs_int ?rf_NoneType ?rr_NoneType ?rs_NoneType ?rf_bool ?rr_bool ?rs_bool ?rf_str ?rr_str ?rs_str ?rf_list ?rr_list ?rs_list ?rf_tuple ?rr_tuple ?rs_tuple ?rf_dict ?rr_dict ?rs_dict ?o_c ?z_ValueError ?z_bool ?z_enumerate ?z_int ?z_isinstance ?z_len ?z_max ?z_min ?z_range ?z_repr ?z_str ?z_sum ?z_zip ?y_MOST_COPIES ?y_MOST_LETTERS
    (case n_is_integer => k_is); (case l_is_integer => k_is); (case c_is_integer => k_is); (case k_is_integer => k_is); (case n_check_number => k_is); (case l_check_number => k_is); (case c_check_number => k_is); (case k_check_number => k_is); (case e_check_number => k_is); (case n_is_row => k_is); (case l_is_row => k_is); (case c_is_row => k_is); (case k_is_row => k_is); (case n_check_row => k_is); (case l_check_row => k_is); (case c_check_row => k_is); (case k_check_row => k_is); (case n_prefix_counts => k_is); (case l_prefix_counts => k_is); (case c_prefix_counts => k_is); (case k_prefix_counts => k_is); (case n_pairs_in => k_is); (case l_pairs_in => k_is); (case c_pairs_in => k_is); (case k_pairs_in => k_is); (case n_are_counts => k_is); (case l_are_counts => k_is); (case c_are_counts => k_is); (case k_are_counts => k_is); (case n_check_counts => k_is); (case l_check_counts => k_is); (case c_check_counts => k_is); (case k_check_counts => k_is); (case n_law_reel => k_is); (case l_law_reel => k_is); (case c_law_reel => k_is); (case k_law_reel => k_is); (case n_law_draw => k_is); (case l_law_draw => k_is); (case c_law_draw => k_is); (case k_law_draw => k_is); (case n_law_word => k_is); (case l_law_word => k_is); (case c_law_word => k_is); (case k_law_word => k_is); (case n_law_counts => k_is); (case l_law_counts => k_is); (case c_law_counts => k_is); (case k_law_counts => k_is); (case n_law_three => k_is); (case l_law_three => k_is); (case c_law_three => k_is); (case k_law_three => k_is); (case n_law_many => k_is); (case l_law_many => k_is); (case c_law_many => k_is); (case k_law_many => k_is); (case n_law_any => k_is); (case l_law_any => k_is); (case c_law_any => k_is); (case k_law_any => k_is); (case n_law_made => k_is); (case l_law_made => k_is); (case c_law_made => k_is); (case k_law_made => k_is); (case n_law_kind => k_is); (case l_law_kind => k_is); (case c_law_kind => k_is); (case k_law_kind => k_is); (case n_law_told => k_is); (case l_law_told => k_is); (case c_law_told => k_is); (case k_law_told => k_is); (case n_law_rows_right => k_is); (case l_law_rows_right => k_is); (case c_law_rows_right => k_is); (case k_law_rows_right => k_is); (case n_law_far_right => k_is); (case l_law_far_right => k_is); (case c_law_far_right => k_is); (case k_law_far_right => k_is); (case n_law => k_is); (case l_law => k_is); (case c_law => k_is); (case k_law => k_is); (case n_c => k_is); (case pg_c => k_is); (case hd_c => k_is); (case po_c => k_is); (case sa_c => k_is); (case mk_c => k_is); (case kc_c => k_is); (case sf_c => k_is); (case rmu_c => k_is); (case imu_c => k_is); (case iru_c => k_is); (case sbu_c => k_is); (case cai_c => k_is); (case cgi_c => k_is); (case cti_c => k_is); (case moi_c => k_is); (case nA_c => k_is); (case nB_c => k_is); (case nP_c => k_is); (case a_c_init => k_is); (case i_c_init => k_is); (case l_c_init => k_is); (case c_c_init => k_is); (case k_c_init => k_is); (case a_c_add => k_is); (case i_c_add => k_is); (case l_c_add => k_is); (case c_c_add => k_is); (case k_c_add => k_is); (case a_c_mul => k_is); (case i_c_mul => k_is); (case l_c_mul => k_is); (case c_c_mul => k_is); (case k_c_mul => k_is); (case pa_c_many_a => k_is); (case pg_c_many_a => k_is); (case pt_c_many_a => k_is); (case pr_c_many_a => k_is); (case l_c_many_a => k_is); (case c_c_many_a => k_is); (case k_c_many_a => k_is); (case pa_c_many_b => k_is); (case pg_c_many_b => k_is); (case pt_c_many_b => k_is); (case pr_c_many_b => k_is); (case l_c_many_b => k_is); (case c_c_many_b => k_is); (case k_c_many_b => k_is); (case pa_c_pairs => k_is); (case pg_c_pairs => k_is); (case pt_c_pairs => k_is); (case pr_c_pairs => k_is); (case l_c_pairs => k_is); (case c_c_pairs => k_is); (case k_c_pairs => k_is); (case rd_c => k_is); (case ga_c => k_is); (case at_c_of => k_is); (case rc_c_of => k_is); (case fi_c_of => k_is); (case l_c_of => k_is); (case c_c_of => k_is); (case k_c_of => k_is); (case n_InvalidRow => k_is); (case n_InvalidCounts => k_is); (case n_InvalidRuns => k_is); (case n_InvalidSwap => k_is); (case n_InvalidPattern => k_is); (case n_InvalidNumber => k_is); (case n_InvalidStrands => k_is); (case n_InvalidCommand => k_is); (case n_Different => k_is); (case n_NothingToUndo => k_is); (case n_TooLarge => k_is); (case n_InvalidText => k_is); (case n_PairError => k_is); (case xq_InvalidNumber => k_exc); (case xk_InvalidNumber => k_is); (case xb_InvalidNumber => k_is); (case xt_InvalidNumber => k_is); (case xd_InvalidNumber => k_is); (case xq_PairError => k_exc); (case xk_PairError => k_is); (case xb_PairError => k_is); (case xt_PairError => k_is); (case xd_PairError => k_is); (case xcg => k_is); (case xct => k_is); (case xs_InvalidNumber => k_is); (case xg_InvalidNumber => k_is); (case xn_InvalidNumber => k_is); (case xa_InvalidNumber => k_is); (case xm_InvalidNumber => k_is); (case xi_InvalidNumber_InvalidRow => kit_is); (case xi_InvalidNumber_InvalidCounts => kit_is); (case xi_InvalidNumber_InvalidRuns => kit_is); (case xi_InvalidNumber_InvalidSwap => kit_is); (case xi_InvalidNumber_InvalidPattern => kit_is); (case xi_InvalidNumber_InvalidNumber => kit_is); (case xi_InvalidNumber_InvalidStrands => kit_is); (case xi_InvalidNumber_InvalidCommand => kit_is); (case xi_InvalidNumber_Different => kit_is); (case xi_InvalidNumber_NothingToUndo => kit_is); (case xi_InvalidNumber_TooLarge => kit_is); (case xi_InvalidNumber_InvalidText => kit_is); (case xv_InvalidNumber => kit_is); (case rf_int => k_is); (case rr_int => k_is); (case rs_int => k_is); (case rf_NoneType => k_is); (case rr_NoneType => k_is); (case rs_NoneType => k_is); (case rf_bool => k_is); (case rr_bool => k_is); (case rs_bool => k_is); (case rf_str => k_is); (case rr_str => k_is); (case rs_str => k_is); (case rf_list => k_is); (case rr_list => k_is); (case rs_list => k_is); (case rf_tuple => k_is); (case rr_tuple => k_is); (case rs_tuple => k_is); (case rf_dict => k_is); (case rr_dict => k_is); (case rs_dict => k_is); (case o_c => kit_is); (case z_ValueError => k_is); (case z_bool => k_is); (case z_enumerate => k_is); (case z_int => k_is); (case z_isinstance => k_is); (case z_len => k_is); (case z_max => k_is); (case z_min => k_is); (case z_range => k_is); (case z_repr => k_is); (case z_str => k_is); (case z_sum => k_is); (case z_zip => k_is); (case y_MOST_COPIES => k_is); (case y_MOST_LETTERS => k_is)
