import PyProof.Rows.All
import Wide.All
import OpenK.AllK
import Wide.FinOn
import HandS.Base
import HandS.Call
import HandS.List
import HandS.Comp
import HandS.Ends
import HandS.Text
import HandS.Exc
import HandS.Words
import PyProof.ReprRoads
import HandS.Iter
import HandS.Dict
import HandS.IsInst
import HandS.Conv
import HandS.Codes
import HandS.Wide
import PyProof.ListStr
import PyProof.TupleCall
import PyProof.StrLawsTight
import HandS.Style
import HandS.ForMost
import HandS.TupLe
import PyProof.ReprLen
import KE.GoesMore
import KE.GoesEnum
import HandS.Walk
import PyProof.EnumMake
import HandS.Property
import HandS.ClsMeth
import HandS.More
import HandS.SlotsOwn
import KE.KOpsOwn
import PyProof.InstEq
import OpenK.KMake
import HandS.SortInts
import PyProof.CollectStr
import PyProof.Rows.SortKeyStr
import KE.KRevSl
import KE.KDictZip
import KE.KDictItemsList
import HandS.ListItems
import HandS.Flt
import HandS.Gcd
import HandS.Defaults
import Flt.RightSqrt
import HandS.Hot
import HandS.HotCalls
import HandS.ExcIs
import HandS.WordsExc
import HandS.FStr
import HandS.Flow
import HandS.TryOnly
import HandS.CallSlots
import HandS.SortRule
import OpenK.KMeth
import HandS.Rev
import PySem.Challenge.RW_paircounts_k35_letters_of_runs
set_option Elab.async false
set_option linter.all false
set_option maxRecDepth 100000
set_option maxHeartbeats 4000000
set_option exponentiation.threshold 10000
namespace Vx
open PySem PySem.Spec PyProof.Rows L2

/-! defs that are entered where no repr is under way -/
structure FnG (P : Program) (w : World) (K : PySem.W.Frag) (mg : Str → Option Value) (base : Heap) (CX : CXT) (k : Nat) (f : Addr) (fd : FuncData) (ps : List Str) (sp : Sp) : Prop where
  len : ∀ vs H Q E, sp vs H Q E → vs.length = ps.length
  run : ∀ (A : Around) (outer : List Env) (s : Shared) (H : Hp) (args : Args) (us : List Value) (vs : List V) (Q : VK) (E : XK), A.guards = some [] → Room k A →
    Env0 P w K mg base A outer s H → BindsTo s fd args (ps.zip us) → Vals vs us → sp vs H Q E → codeAny (model P w) A (.call (.ref f) args) (CR CX outer P w H s Q E) s

section
variable {P : Program} {w : World} {K : PySem.W.Frag} {mg : Str → Option Value} {base : Heap} {CX : CXT} {k : Nat} {f : Addr} {fd : FuncData} {ps : List Str} {sp : Sp}
theorem FnG.of (F : FnOk P w K mg base CX k f fd ps sp) : FnG P w K mg base CX k f fd ps sp := ⟨F.len, fun A outer s H args us vs Q E _ => F.run A outer s H args us vs Q E⟩
theorem FnG.mono {j : Nat} (F : FnG P w K mg base CX j f fd ps sp) (h : j ≤ k) : FnG P w K mg base CX k f fd ps sp :=
  ⟨F.len, fun A outer s H args us vs Q E hg hr => F.run A outer s H args us vs Q E hg (hr.mono h)⟩
end

/-- a def by its body, the guards told -/
theorem fnG_of {CX : CXT} {P : Program} {w : World} {K : PySem.W.Frag} {mg : Str → Option Value} {base : Heap} {k : Nat} {f : Addr} {name qual : Str} {params : Arguments} {body : List Stmt} {scope : Scope} {dV kV doc pm cdv ct oc : Value} {an od : Option Addr}
    {osl : Array (Option Value)} {N ps : List Str} {sp : Sp} (found : K.lookup f = some ⟨oc, od, .func (PySem.W.fnOf name qual params body scope dV kV doc pm an cdv ct), osl⟩) (code : PySem.W.codeIn K cdv qual = true) (S : FnScope N ps scope)
    (len : ∀ vs H Q E, sp vs H Q E → vs.length = ps.length)
    (walk : ∀ (A : Around) (outer : List Env) (s : Shared) (H : Hp) (vs : List V) (Q : VK) (E : XK), A.guards = some [] → Room k (A.deeper (envOfC qual scope s.heap.objs.size f cdv)) → sp vs H Q E →
      ∃ t, PSs (cxOf CX P w K mg base N qual scope f cdv A outer s H E) body t ∧ t { nx := fun _ H' => Q .non H', rt := Q } (start N vs) H) :
    FnG P w K mg base CX (k + 1) f (PySem.W.fnOf name qual params body scope dV kV doc pm an cdv ct) ps sp := by
  constructor
  · exact len
  intro A outer s H args us vs Q E guards room e0 bound r asked
  have many := len vs H Q E asked
  have inK : K.In s.heap := e0.mod.kin.keeps fun b o q => (e0.bs b o q).1
  have unlimited : s.heap.NoLimit := e0.mod.nolimit.keeps fun b o q => (e0.bs b o q).1
  have kinds : ∀ y ∈ ps.zip us, scope.names.lookup y.1 = some .local ∨ (scope.names.lookup y.1 = some .cell ∧ ((cellsFrom (s.heap.objs.size + 1) scope.names []).lookup y.1).isSome = true) := by
    rintro ⟨n, v⟩ within
    rcases S.par n (List.of_mem_zip within).1 with z | z
    · exact Or.inl z
    · exact Or.inr ⟨z, PySem.W.cellsFrom_some _ _ _ (Or.inl z)⟩
  refine codeAny_call_function room.depth (inK _ _ found) rfl S.co S.gen rfl (PySem.W.codeRec_of inK code) (bound _ _ _ _ (wpAny_newFunctionEnv_cells S.kind kinds ?_))
  intro env isEnv s1 entered
  subst isEnv
  refine And.intro (unlimited.keeps entered.toInCall.keep) (codeAny_func ?_)
  obtain ⟨t, derived, reads⟩ := walk A outer s H vs Q E guards (room.deeper _) asked
  have I0 : Inv (cxOf CX P w K mg base N qual scope f cdv A outer s H E) [] (start N vs) H s1 := inv_start S room.hd e0 many r entered
  refine wpAny_mono (derived.run [] s1 (start N vs) H _ I0 reads) ?_ (fun _ _ z => z)
  intro flow s' ended
  cases flow with
  | ret u =>
    obtain ⟨v, σ', H', J, rv, q⟩ := ended
    exact ⟨v, H', J.os, J.bare, J.base, J.hok, rv, q⟩
  | next =>
    obtain ⟨σ', H', J, q⟩ := ended
    exact ⟨V.non, H', J.os, J.bare, J.base, J.hok, rfl, q⟩
  | brk => exact (show False from ended.choose_spec.choose_spec.2).elim
  | cont => exact (show False from ended.choose_spec.choose_spec.2).elim

/-- a def of the text, the guards told; what it raises leaves it -/
theorem okGX {P : Program} {w : World} {K : PySem.W.Frag} {mg : Str → Option Value} {base : Heap} {CX : CXT} {x qual : Str} {st : Stmt} {f : Addr} {fd : FuncData} {N ps : List Str} {k : Nat} {sp : Sp} (F : Fun K x qual st f fd) (S : FnScope N ps (defScope st))
    (len : ∀ vs H Q E, sp vs H Q E → vs.length = ps.length)
    (walk : ∀ (cdv : Value) (A : Around) (outer : List Env) (s : Shared) (H : Hp) (vs : List V) (Q : VK) (E : XK), A.guards = some [] → Room k (A.deeper (envOfC qual (defScope st) s.heap.objs.size f cdv)) → sp vs H Q E →
      ∃ t, PSs (cxOf CX P w K mg base N qual (defScope st) f cdv A outer s H E) (defBody st) t ∧ t { nx := fun _ H' => Q .non H', rt := Q } (start N vs) H) : FnG P w K mg base CX (k + 1) f fd ps sp := by
  obtain ⟨oc, od, kV, doc, pm, an, cdv, ct, osl, rfl, found, code⟩ := F.ex
  exact fnG_of found code S len fun A outer s H vs Q E hg hr asked => walk cdv A outer s H vs Q E hg hr asked
/-- a def of the text, the guards told; nothing is raised -/
theorem okG {P : Program} {w : World} {K : PySem.W.Frag} {mg : Str → Option Value} {base : Heap} {x qual : Str} {st : Stmt} {f : Addr} {fd : FuncData} {N ps : List Str} {k : Nat} {sp : Sp} (F : Fun K x qual st f fd) (S : FnScope N ps (defScope st))
    (len : ∀ vs H Q E, sp vs H Q E → vs.length = ps.length)
    (walk : ∀ (cdv : Value) (A : Around) (outer : List Env) (s : Shared) (H : Hp) (vs : List V) (Q : VK) (E : XK), A.guards = some [] → Room k (A.deeper (envOfC qual (defScope st) s.heap.objs.size f cdv)) → sp vs H Q E →
      ∃ t, PSs (cxOf CX0 P w K mg base N qual (defScope st) f cdv A outer s H E).nox (defBody st) t ∧ t { nx := fun _ H' => Q .non H', rt := Q } (start N vs) H) : FnG P w K mg base CX0 (k + 1) f fd ps sp :=
  okGX F S len fun cdv A outer s H vs Q E hg hr asked => by
    obtain ⟨t, derived, reads⟩ := walk cdv A outer s H vs Q E hg hr asked
    exact ⟨t, derived.nox, reads⟩

section
variable {X : Cx} {CX : CXT} {k : Nat} {f : Addr} {fd : FuncData} {ps : List Str} {sp : Sp} {dvs : List V} {ds : List Value} {E : XK} {x : Str} {p pos : Pos} {e : Expr} {es : List Expr} {t : TA}
theorem goG {pins : List (Addr × Obj)} {σ : L2.St} {H : Hp} {s : Shared} {Q : VK} {us : List Value} {vs : List V} (F : FnG X.prog X.w X.K X.mg X.base CX k f fd ps sp) (hg : X.A.guards = some []) (hr : Room k X.A) (hb : Binds X.K fd ps ds) (hd : Vals dvs ds) (hx : Passes CX X E)
    (I : Inv X pins σ H s) (r : Vals vs us) (h : sp (vs ++ dvs) H Q E) : wpAny (model X.prog X.w) X.A (call (.ref f) us) (EP X pins σ Q) X.xe s := by
  have all : Vals (vs ++ dvs) (us ++ ds) := Vals.append r hd
  have many : (us ++ ds).length = ps.length := (Vals.length all).symm.trans (F.len _ _ _ _ h)
  apply wpAny_call
  refine codeAny_mono (F.run X.A X.stack s H ⟨us, []⟩ (us ++ ds) (vs ++ dvs) Q E hg hr I.env0 (hb s us I.kIn many) all h) ?_
  intro res s' ended
  rcases res with er | fl
  · exact hx pins σ H s er s' I ended
  · cases fl with
    | ret u => exact I.after ended
    | next => exact (show False from ended).elim
    | brk => exact (show False from ended).elim
    | cont => exact (show False from ended).elim
theorem pe_callG (F : FnG X.prog X.w X.K X.mg X.base CX k f fd ps sp) (hgd : X.A.guards = some []) (hr : Room k X.A) (hg : Gl X x) (hm : X.mg x = some (.ref f)) (hk : PySem.W.keepIn X.K (.ref f) = true) (hb : Binds X.K fd ps ds) (hd : Vals dvs ds) (hx : Passes CX X E)
    (ha : PA X (e :: es) t) (hdb : (x == ("__debug__" : Str)) = false := by decide) (he : starEach (e :: es) X.env = (false, eval e X.env) :: starEach es X.env := by rfl) (hpl : (backTo pos (starEach es X.env)).any (·.1) = false := by rfl) :
    PE X (.Call (.Name x p) (e :: es) [] pos) (tCall sp dvs E t) :=
  ⟨fun pins s σ H Q I h => wpAny_Call_Name_kw (ld_glob I hg hm (PySem.W.callWith_K (h₀ := X.base) I.ok.mod.kin hk
    (thn (ha.run pos pins s σ H _ I h) fun us s1 ⟨vs, H1, I1, r, q⟩ => ⟨I1.kIn, goG F hgd hr hb hd hx I1 r q⟩) he hpl) hdb)⟩
end
end Vx
namespace Vx
open PySem PySem.Spec PyProof.Rows L2
abbrev S := SX.S

theorem foldl_app (l : List (List Nat)) : ∀ acc : Array Nat, (l.map List.toArray).foldl (· ++ ·) acc = (acc.toList ++ l.flatten).toArray := by
  induction l with
  | nil => intro acc; simp
  | cons x r ih => intro acc; rw [List.map_cons, List.foldl_cons, ih]; simp
def repN (n : Nat) (a : List Nat) : List Nat := (List.replicate n a).flatten
theorem repN_zero (a : List Nat) : repN 0 a = [] := rfl
theorem repN_succ (n : Nat) (a : List Nat) : repN (n + 1) a = a ++ repN n a := by unfold repN; rw [List.replicate_succ, List.flatten_cons]
theorem repN_length (n : Nat) (a : List Nat) : (repN n a).length = n * a.length := by
  induction n with
  | zero => simp [repN]
  | succ n ih => rw [repN_succ, List.length_append, ih, Nat.succ_mul]; omega
theorem repN_one (a : List Nat) : repN 1 a = a := by rw [repN_succ, repN_zero, List.append_nil]
theorem repN_nil (n : Nat) : repN n [] = [] := by
  induction n with
  | zero => rfl
  | succ n ih => rw [repN_succ, ih]; rfl
theorem mem_repN {n : Nat} {a : List Nat} {c : Nat} (h : c ∈ repN n a) : c ∈ a := by
  induction n with
  | zero => simp [repN] at h
  | succ n ih =>
    rw [repN_succ] at h
    rcases List.mem_append.mp h with h | h
    · exact h
    · exact ih h
theorem mul_S (a : List Nat) (n : Nat) : (⟨(List.replicate n (S a).cps).foldl (· ++ ·) #[]⟩ : Str) = S (repN n a) := by
  have e : (List.replicate n (S a).cps) = (List.replicate n a).map List.toArray := by rw [List.map_replicate]
  rw [e, foldl_app]; rfl

section
variable {X : Cx}
/-- text * n -/
theorem op_rep_str : OpR X (binaryOp .Mult) (fun x y H Q => ∃ (a : List Nat) (i : Int), x = .str (S a) ∧ y = .int i ∧ i < 2 ^ 40 ∧ -(2 ^ 40) < i ∧ i.toNat * a.length ≤ 1000000 ∧ Q (.str (S (repN i.toNat a))) H) := by
  intro pins s σ H x y v u Q I rx ry h
  obtain ⟨a, i, rfl, rfl, h1, h2, h3, q⟩ := h
  obtain ⟨t, rfl⟩ := rx
  obtain ⟨t', rfl⟩ := ry
  have hl : (S a).length = a.length := SX.S_len a
  refine PySem.P.mul_str ?_ ?_ ?_ ?_
  · rw [decide_eq_false (by omega), decide_eq_false (by omega)]; first | done | rfl
  · intro hn _ hc
    have hp : 0 < i := by omega
    have : ((S a).length : Int) * i ≤ 1000000 := by
      rw [hl]
      have e : (i.toNat : Int) = i := Int.toNat_of_nonneg (by omega)
      have : ((i.toNat * a.length : Nat) : Int) ≤ 1000000 := by omega
      rw [Int.natCast_mul, e, Int.mul_comm] at this
      exact this
    have h4 : ((S a).length : Int) ≤ (2 ^ 63 - 1) / i := by
      rw [Int.le_ediv_iff_mul_le hp]
      omega
    omega
  · intro _ _
    unfold Builtin.Str.tooLong
    rw [hl, Nat.mul_comm]
    exact decide_eq_false (by unfold sizeLine; omega)
  · by_cases c1 : i < 1
    · rw [if_pos c1]
      have e : i.toNat = 0 := by omega
      rw [e, repN_zero] at q
      exact ⟨by decide, .str _, H, I.tok _, ⟨_, rfl⟩, q⟩
    · rw [if_neg c1]
      by_cases c2 : (i == 1 || (S a).length == 0) = true
      · rw [if_pos c2]
        have e : repN i.toNat a = a := by
          rcases Bool.or_eq_true _ _ ▸ c2 with c | c
          · have : i = 1 := by simpa using c
            rw [this]; exact repN_one a
          · have : a.length = 0 := by rw [hl] at c; simpa using c
            have : a = [] := List.length_eq_zero_iff.mp this
            rw [this]; exact repN_nil _
        rw [e] at q
        exact ⟨.str _, H, I, ⟨t, rfl⟩, q⟩
      · rw [if_neg c2, mul_S]
        refine ⟨?_, .str _, H, I.tok _, ⟨_, rfl⟩, q⟩
        show (S _).length ≤ sizeLine
        rw [SX.S_len, repN_length]; unfold sizeLine; omega
end

/-- one sign each -/
def sg (a : List Nat) : List V := a.map fun c => V.str (S [c])
theorem sg_length (a : List Nat) : (sg a).length = a.length := List.length_map ..
theorem vals_signs {a : List Nat} {acc : Array Value} (h : ItemsOf (SignAt (S a)) acc (S a).cps.size) : Vals (sg a) acc.toList := by
  refine vals_of_at ?_ fun j x u hx hu => ?_
  · have e : acc.toList.length = acc.size := Array.length_toList ..
    rw [sg_length, e, h.1]; exact (SX.S_len a).symm
  · rw [Array.getElem?_toList] at hu
    obtain ⟨c, t, hc, rfl⟩ := h.2 j u hu
    have hc' : a[j]? = some c := by
      have : (S a).cps[j]? = a[j]? := List.getElem?_toArray ..
      rw [← this]; exact hc
    unfold sg at hx
    rw [List.getElem?_map, hc'] at hx
    cases hx
    exact ⟨t, rfl⟩
section
variable {X : Cx}
/-- text[::-1] -/
def tRevS (te : TE) : TE := fun σ H Q => te σ H fun x H1 => ∃ a : List Nat, x = .str (S a) ∧ a.length ≤ sizeLine ∧ Q (.str (S a.reverse)) H1
theorem pe_revS {e : Expr} {te : TE} {k : Nat} {p1 p2 p3 pos : Pos} (he : PE X e te) : PE X (.Subscript e (.Slice none none (some (.UnaryOp .USub (.Constant (.int 1) k p1) p2)) p3) pos) (tRevS te) := by
  constructor
  intro pins s σ H Q I h
  apply Subscript_
  refine thn (he.run pins s σ H _ I h) ?_
  rintro v s1 ⟨x, H1, I1, r1, a, ex, hz, q⟩
  subst ex
  obtain ⟨t, rfl⟩ := r1
  have minus : PO X (some (.UnaryOp .USub (.Constant (.int 1) k p1) p2)) (tPart (tUn (rU fun i => .int (-i)) (tC (.int 1)))) := po_some (pe_un un_neg pe_int)
  apply wpAny_Slice
  refine thn (po_none.run pins s1 σ H1 (fun o H2 => o = none ∧ H2 = H1) I1 ⟨rfl, rfl⟩) ?_
  rintro vl s2 ⟨l, H2, I2, pl, el, e2⟩
  subst el e2
  refine thn (po_none.run pins s2 σ H2 (fun o H3 => o = none ∧ H3 = H2) I2 ⟨rfl, rfl⟩) ?_
  rintro vu s3 ⟨u, H3, I3, pu, eu, e3⟩
  subst eu e3
  refine thn (minus.run pins s3 σ H3 (fun o H4 => o = some (-1) ∧ H4 = H3) I3 ⟨1, rfl, -1, rfl, rfl, rfl⟩) ?_
  rintro vs s4 ⟨o, H4, I4, ps, eo, e4⟩
  subst eo e4
  have I5 : Inv X pins σ H4 { s4 with heap := s4.heap.push { cls := .type "slice", data := .fields #[vl, vu, vs] } } := I4.kept (t' := s4.toks) fun b ob z => Heap.get?_push_of_some _ z
  refine tail_any (ops := [.str (S a) t, .ref s4.heap.objs.size]) (typeIs_str _ _ _) F.slot_str_getitem.lookup ?_ (by with_unfolding_all rfl)
  obtain ⟨l, rfl, el⟩ := IsPart.raw pl
  obtain ⟨u, rfl, eu⟩ := IsPart.raw pu
  obtain ⟨w', rfl, ew⟩ := IsPart.raw ps
  have hl : l = none := by cases l with | none => rfl | some z => cases el
  have hu : u = none := by cases u with | none => rfl | some z => cases eu
  obtain ⟨tk, rfl⟩ : ∃ tk, w' = some (-1, tk) := by
    cases w' with
    | none => cases ew
    | some z => obtain ⟨z1, z2⟩ := z; cases ew; exact ⟨z2, rfl⟩
  subst hl hu
  refine wpAny_getItem_str_slice (l := none) (u := none) (st := some (-1, tk)) ⟨_, Heap.get?_push_size _ rfl, rfl, rfl⟩ (by rfl) ?_
  have hp : slicePicked (S a) none none (some (-1, tk)) = (List.range a.length).reverse := by
    unfold slicePicked
    rw [SX.S_len, ← PySem.W.krv_range, ← PySem.W.krv_sliceRange]
    rfl
  have hr : ((slicePicked (S a) none none (some (-1, tk))).filterMap ((S a).cps[·]?)).toArray = a.reverse.toArray := by
    rw [hp, List.filterMap_reverse]
    have e := PySem.W.krv_all a.toArray
    rw [List.size_toArray] at e
    have e' : (List.range a.length).filterMap (fun x => (S a).cps[x]?) = a := e
    rw [e']
  unfold sliceMade
  have hne : ((Option.map (fun x : Int × Tok => x.fst) (some (-1, tk))).getD 1 == 1 && (slicePicked (S a) none none (some (-1, tk))).length == (S a).length) = false := by
    rw [show ((Option.map (fun x : Int × Tok => x.fst) (some (-1, tk))).getD 1 == 1) = false from rfl, Bool.false_and]
  rw [if_neg (by rw [hne]; exact Bool.false_ne_true), hr]
  refine ⟨?_, .str _, H4, I5.tok _, ⟨_, rfl⟩, q⟩
  show (S a.reverse).length ≤ sizeLine
  rw [SX.S_len, List.length_reverse]; exact hz

/-- list(text) -/
theorem call_list_tx (hc : X.calm = true) : CallR X (.type "list") (fun xs H Q => ∃ a : List Nat, xs = [.str (S a)] ∧ a.length ≤ 100000 ∧ ∀ l, H l = none → Q (.ref l) (upd H l (.lst (sg a)))) := by
  intro pins s σ H xs us Q I r h
  obtain ⟨a, rfl, hz, q⟩ := h
  obtain ⟨u, rfl, rx⟩ := vals1 r
  obtain ⟨t, rfl⟩ := rx
  have hs : (S a).cps.size = a.length := SX.S_len a
  refine PySem.call_list_str (I.ok.hd hc) (S a) t (fun h' tk acc c' kp e it => ?_) (by rw [hs]; unfold sizeLine; omega)
  refine ⟨.ref s.heap.objs.size, _, I.laid (t' := tk) kp (Nat.le_refl _) (show ObjOk X.prog X.w _ h' _ (.lst (sg a)) from ⟨by rw [sg_length]; unfold sizeLine; omega, acc.toList, c', vals_signs it, ?_⟩), rfl, q _ (I.hok.fresh (Nat.le_refl _))⟩
  rw [Array.toArray_toList]; exact e
end
section
variable {prog : Program} {w : World} {A : Around} {E : Value → Shared → Prop} {s : Shared}
theorem code_tuple_tx {Q₁ : Value → Shared → Prop} (hh : A.handled = none) (x : Str) (t : Tok) (hn : x.cps.size ≤ 100000)
    (h : ∀ (s' : Shared) (acc : Array Value), (∀ b o, s.heap.get? b = some o → s'.heap.get? b = some o) → s'.gens = s.gens → s'.drawn = s.drawn → s'.os = s.os → ItemsOf (SignAt x) acc x.cps.size →
      Q₁ (.ref s'.heap.objs.size) { s' with heap := s'.heap.push { cls := .type "tuple", data := .seq acc } }) :
    codeAny (model prog w) A (.call (.builtin "tuple.__new__") ⟨[.type "tuple", .str x t], []⟩) (wants Q₁ E) s := by
  apply codeAny_of_tree
  show wpAny _ A.in1 (do checkBuiltinCall "tuple.__new__" ⟨[.type "tuple", .str x t], []⟩; again (.builtin "tuple.__new__" ⟨[.type "tuple", .str x t], []⟩)) _ _ s
  refine wpAny_bind (wpAny_of_eq (F.newCall_tuple_1 _) (wpAny_pure ⟨plainId_quiet F.plain_tuple_new _, codeAny_builtin F.entry_tuple_new ?_⟩))
  rw [Around.under_plainId F.plain_tuple_new _]
  have k1 := sub_tuple_self
  have k2 := init_tuple_lookup
  have k3 := madeHere_tuple
  have k4 : s.TypeIs (.str x t) "str" := typeIs_str s x t
  have k5 : A.in1.handled = none := hh
  have k6 : x.cps.size ≤ sizeLine := by unfold sizeLine; omega
  wp_walk using wpAny_typeOf k4, wpAny_collect_str (A := A.in1) k5 x t
  intro s' acc hk hg hd ho hacc
  show wpAny _ _ (Builtin.Tuple.tupleExact acc.toList.toArray >>= fun v => ret v) _ _ _
  unfold Builtin.Tuple.tupleExact
  have ea : acc.toList.toArray = acc := by simp
  rw [ea]
  refine wpAny_bind (wpAny_newObj_type ?_ (by show acc.size ≤ sizeLine; rw [hacc.1]; exact k6))
  exact wpAny_pure (h s' acc hk hg hd ho hacc)
theorem call_tuple_txt {Q : Value → Shared → Prop} (hh : A.handled = none) (x : Str) (t : Tok) (hn : x.cps.size ≤ 100000)
    (hQ : ∀ (s' : Shared) (acc : Array Value), (∀ b o, s.heap.get? b = some o → s'.heap.get? b = some o) → s'.gens = s.gens → s'.drawn = s.drawn → s'.os = s.os → ItemsOf (SignAt x) acc x.cps.size →
      Q (.ref s'.heap.objs.size) { s' with heap := s'.heap.push { cls := .type "tuple", data := .seq acc } }) :
    wpAny (model prog w) A (call (.type "tuple") [.str x t]) Q E s := by
  refine callType_codes (Q₁ := fun obj s₁ => s₁.TypeIs obj "tuple" ∧ Q obj s₁) F.called_tuple (F.typeCall_tuple_1 _) F.entry_object_init
    (code_tuple_tx (A := A.in1) hh x t hn fun s' acc hk hg hd ho hacc => ⟨⟨_, Heap.get?_push_size _ rfl, rfl⟩, hQ s' acc hk hg hd ho hacc⟩) fun obj s₁ h₁ => ?_
  exact ⟨h₁.1, F.args_object_init_2 obj _, object_init_meets F.called_tuple.init.lookup F.called_tuple.made (by decide) prog w A.in1 _ s₁ ⟨h₁.1, rfl, h₁.2⟩⟩
end
section
variable {X : Cx}
theorem call_tuple_tx (hc : X.calm = true) : CallR X (.type "tuple") (fun xs H Q => ∃ a : List Nat, xs = [.str (S a)] ∧ a.length ≤ 100000 ∧ ∀ l, H l = none → Q (.ref l) (upd H l (.tup (sg a)))) := by
  intro pins s σ H xs us Q I r h
  obtain ⟨a, rfl, hz, q⟩ := h
  obtain ⟨u, rfl, rx⟩ := vals1 r
  obtain ⟨t, rfl⟩ := rx
  have hs : (S a).cps.size = a.length := SX.S_len a
  refine call_tuple_txt (I.ok.hd hc) (S a) t (by rw [hs]; exact hz) fun s' acc kp hg hd ho it => ?_
  obtain ⟨h', g', d', t', o'⟩ := s'
  obtain rfl : g' = s.gens := hg
  obtain rfl : d' = s.drawn := hd
  obtain rfl : o' = s.os := ho
  have I2 : Inv X pins σ H { s with heap := h', toks := t' } := I.kept kp
  refine ⟨.ref h'.objs.size, upd H h'.objs.size (.tup (sg a)), I2.laid (t' := t') (fun c o e => Heap.get?_push_of_some _ e) (Nat.le_refl _) (show ObjOk X.prog X.w _ _ _ (.tup (sg a)) from ⟨by rw [sg_length]; unfold sizeLine; omega, acc.toList, vals_signs it, ?_⟩), rfl, q _ (I2.hok.fresh (Nat.le_refl _))⟩
  rw [Array.toArray_toList]; exact IsTup.new _ _
end
end Vx
namespace Vx
open PySem PySem.Spec PyProof.Rows L2
/-! repr of data at any depth, with dicts -/
mutual
inductive Dx (K : PySem.W.Frag) (H : Hp) : V → PyData → Prop
  | non : Dx K H .non .none
  | bl (b : Bool) : Dx K H (.bl b) (.bool b)
  | int (i : Int) : Dx K H (.int i) (.int i)
  | str (x : Str) : Dx K H (.str x) (.str x)
  | lst {a : Addr} {xs : List V} {ds : List PyData} : H a = some (.lst xs) → a ≠ sysModules → DxAll K H xs ds → Dx K H (.ref a) (.list ds)
  | tup {a : Addr} {xs : List V} {ds : List PyData} : SqT K H a xs → DxAll K H xs ds → Dx K H (.ref a) (.tuple ds)
  | dic {a : Addr} {kvs : List (Key × V)} {ds : List (PyData × PyData)} : H a = some (.dK kvs) → DxAll K H (kvs.map fun p => kV p.1) (ds.map (·.1)) → DxAll K H (kvs.map (·.2)) (ds.map (·.2)) → Dx K H (.ref a) (.dict ds)
inductive DxAll (K : PySem.W.Frag) (H : Hp) : List V → List PyData → Prop
  | nil : DxAll K H [] []
  | cons {v : V} {vs : List V} {d : PyData} {ds : List PyData} : Dx K H v d → DxAll K H vs ds → DxAll K H (v :: vs) (d :: ds)
end
theorem pair_keys {P : Program} {w : World} : ∀ {es : List DictEntry} {kvs : List (Key × V)} {vs : List (Key × Value)}, KV kvs vs → Pairs (mixKind P w) es vs → Vals (kvs.map fun p => kV p.1) (es.map (·.key)) ∧ Vals (kvs.map (·.2)) (es.map (·.val))
  | _, _, _, .nil, p => by cases p; exact ⟨.nil, .nil⟩
  | _, _, _, .cons r t, p => by
    cases p with
    | cons h1 h2 h3 =>
      obtain ⟨a, b⟩ := pair_keys t h3
      refine ⟨.cons ?_ a, .cons ?_ b⟩
      · dsimp only; rw [r.1]; exact keyIs_rel h1
      · dsimp only; rw [h2]; exact r.2
section
variable {X : Cx} {pins : List (Addr × Obj)} {σ : L2.St} {H : Hp} {s : Shared}
mutual
theorem Dx.reads (I : Inv X pins σ H s) : ∀ (d : PyData) (v : V) (u : Value), Dx X.K H v d → RelV v u → ∃ as, Reads s.heap u d as ∧ sysModules ∉ as
  | .none, _, _, h, r => by cases h; cases r; exact ⟨_, Reads.none, by simp⟩
  | .bool b, _, _, h, r => by cases h; cases r; exact ⟨_, Reads.bool b, by simp⟩
  | .int i, _, _, h, r => by cases h; obtain ⟨t, rfl⟩ := r; exact ⟨_, Reads.int i t, by simp⟩
  | .str x, _, _, h, r => by cases h; obtain ⟨t, rfl⟩ := r; exact ⟨_, Reads.str x t, by simp⟩
  | .list ds, _, _, h, r => by
    cases h with
    | lst hs hne ha =>
      cases r
      obtain ⟨its, rv, ⟨o, n, ho, hc, _, hd⟩, _⟩ := I.list (SqL.of hs)
      obtain ⟨as, hr, hn⟩ := Dx.readsAll I ds _ its ha rv
      refine ⟨_, Reads.list ho hc hd hr, fun z => ?_⟩
      rcases List.mem_cons.mp z with z | z
      · exact hne z.symm
      · exact hn z
  | .tuple ds, _, _, h, r => by
    cases h with
    | tup hs ha =>
      cases r
      obtain ⟨its, rv, ⟨o, ho, hc, n, hd⟩, _⟩ := I.tuple hs
      obtain ⟨as, hr, hn⟩ := Dx.readsAll I ds _ its ha rv
      exact ⟨_, Reads.tuple ho hc hd hr, hn⟩
  | .dict ds, _, _, h, r => by
    cases h with
    | dic hs ha hb =>
      cases r
      obtain ⟨_, hS, vs, kv, o, es, ep, ho, hx, hd, _, hp, _⟩ := dk_of I.hok hs
      obtain ⟨rk, rvv⟩ := pair_keys kv hp
      obtain ⟨as, hr, hn⟩ := Dx.readsKeys I ds _ _ ha rk
      obtain ⟨bs, hr2, hn2⟩ := Dx.readsVals I ds _ _ hb rvv
      refine ⟨_, Reads.dict ho hx.1 hd hr hr2, fun z => ?_⟩
      rcases List.mem_append.mp z with z | z
      · rcases List.mem_cons.mp z with z | z
        · exact absurd z.symm (by simpa using hS)
        · exact hn z
      · exact hn2 z
theorem Dx.readsAll (I : Inv X pins σ H s) : ∀ (ds : List PyData) (vs : List V) (us : List Value), DxAll X.K H vs ds → Vals vs us → ∃ as, ReadsAll s.heap us ds as ∧ sysModules ∉ as
  | [], _, _, h, r => by cases h; cases r; exact ⟨_, ReadsAll.nil, by simp⟩
  | d :: ds, _, _, h, r => by
    cases h with
    | cons a1 a2 =>
      cases r with
      | cons r1 r2 =>
        obtain ⟨as, q1, n1⟩ := Dx.reads I d _ _ a1 r1
        obtain ⟨bs, q2, n2⟩ := Dx.readsAll I ds _ _ a2 r2
        refine ⟨_, ReadsAll.cons q1 q2, fun z => ?_⟩
        rcases List.mem_append.mp z with z | z
        · exact n1 z
        · exact n2 z
theorem Dx.readsKeys (I : Inv X pins σ H s) : ∀ (ds : List (PyData × PyData)) (vs : List V) (us : List Value), DxAll X.K H vs (ds.map (·.1)) → Vals vs us → ∃ as, ReadsAll s.heap us (ds.map (·.1)) as ∧ sysModules ∉ as
  | [], _, _, h, r => by cases h; cases r; exact ⟨_, ReadsAll.nil, by simp⟩
  | (d, _) :: ds, _, _, h, r => by
    cases h with
    | cons a1 a2 =>
      cases r with
      | cons r1 r2 =>
        obtain ⟨as, q1, n1⟩ := Dx.reads I d _ _ a1 r1
        obtain ⟨bs, q2, n2⟩ := Dx.readsKeys I ds _ _ a2 r2
        refine ⟨_, ReadsAll.cons q1 q2, fun z => ?_⟩
        rcases List.mem_append.mp z with z | z
        · exact n1 z
        · exact n2 z
theorem Dx.readsVals (I : Inv X pins σ H s) : ∀ (ds : List (PyData × PyData)) (vs : List V) (us : List Value), DxAll X.K H vs (ds.map (·.2)) → Vals vs us → ∃ as, ReadsAll s.heap us (ds.map (·.2)) as ∧ sysModules ∉ as
  | [], _, _, h, r => by cases h; cases r; exact ⟨_, ReadsAll.nil, by simp⟩
  | (_, d) :: ds, _, _, h, r => by
    cases h with
    | cons a1 a2 =>
      cases r with
      | cons r1 r2 =>
        obtain ⟨as, q1, n1⟩ := Dx.reads I d _ _ a1 r1
        obtain ⟨bs, q2, n2⟩ := Dx.readsVals I ds _ _ a2 r2
        refine ⟨_, ReadsAll.cons q1 q2, fun z => ?_⟩
        rcases List.mem_append.mp z with z | z
        · exact n1 z
        · exact n2 z
end
end
/-- repr(x) -/
def rRepr (K : PySem.W.Frag) : List V → Hp → VK → Prop := fun xs H Q => ∃ x d, xs = [x] ∧ Dx K H x d ∧ d.showable = true ∧ d.shown.length ≤ sizeLine ∧ d.depth ≤ 50 ∧ Q (.str d.shown) H
theorem call_reprX {X : Cx} (hg : X.A.guards = some []) (hu : X.A.units + 64 < cLine) : CallR X (.builtin "repr") (rRepr X.K) := by
  intro pins s σ H xs us Q I r h
  obtain ⟨x, d, rfl, hd, hs, hz, hp, q⟩ := h
  obtain ⟨u, rfl, rx⟩ := vals1 r
  obtain ⟨as, hr, hn⟩ := Dx.reads I d x u hd rx
  cases hd with
  | non => cases rx; exact PySem.P.repr_of_none ⟨.str _, H, I.tok _, ⟨_, rfl⟩, by simpa only [PyData.shown] using q⟩
  | bl b => cases rx; exact PySem.P.repr_of_bool ⟨.str _, H, I.tok _, ⟨_, rfl⟩, by simpa only [PyData.shown] using q⟩
  | int i => obtain ⟨t, rfl⟩ := rx; exact PySem.P.repr_of_int (by simpa [PyData.showable] using hs) ⟨.str _, H, I.tok _, ⟨_, rfl⟩, by simpa only [PyData.shown] using q⟩
  | str y => obtain ⟨t, rfl⟩ := rx; exact PySem.P.repr_of_str ⟨.str _, H, I.tok _, ⟨_, rfl⟩, by simpa only [PyData.shown] using q⟩ (by simpa only [PyData.shown] using hz)
  | lst _ _ _ => cases rx; exact repr_of_reads' hr hs (fun _ => hn) hg (by omega) (fun _ _ e => e) (fun h' u tk hk => ⟨.str _, H, I.kept (t' := tk) hk, ⟨_, rfl⟩, q⟩) hz
  | tup _ _ => cases rx; exact repr_of_reads' hr hs (fun _ => hn) hg (by omega) (fun _ _ e => e) (fun h' u tk hk => ⟨.str _, H, I.kept (t' := tk) hk, ⟨_, rfl⟩, q⟩) hz
  | dic _ _ _ => cases rx; exact repr_of_reads' hr hs (fun _ => hn) hg (by omega) (fun _ _ e => e) (fun h' u tk hk => ⟨.str _, H, I.kept (t' := tk) hk, ⟨_, rfl⟩, q⟩) hz

section
variable {X : Cx} {es : List Expr} {pos : Pos} {t : TA}
theorem big_ne {pins : List (Addr × Obj)} {σ : L2.St} {H : Hp} {s : Shared} (I : Inv X pins σ H s) : s.heap.objs.size ≠ sysModules := Nat.ne_of_gt I.big
/-- a new list, its place told apart from the module table's -/
def tLst1 (t : TA) : TE := fun σ H Q => t σ H fun xs H1 => xs.length ≤ sizeLine ∧ ∀ p, H1 p = none → p ≠ sysModules → Q (.ref p) (upd H1 p (.lst xs))
theorem pe_lst1 (h : PA X es t) : PE X (.List es pos) (tLst1 t) := by
  constructor
  intro pins s σ H Q I hq
  apply wpAny_List_spliced
  refine thn (h.run pos pins s σ H _ I hq) ?_
  rintro us s1 ⟨xs, H1, I1, r, z, q⟩
  refine ⟨by rw [← r.length]; exact z, ?_⟩
  have fresh : H1 s1.heap.objs.size = none := I1.hok.fresh (Nat.le_refl _)
  exact ⟨.ref s1.heap.objs.size, upd H1 s1.heap.objs.size (.lst xs), I1.laid (t' := s1.toks) (fun b u e => Heap.get?_push_of_some _ e) (Nat.le_refl _) ⟨z, us, 0, r, Heap.get?_push_size _ rfl⟩, rfl, q _ fresh (big_ne I1)⟩
def rCat1 : R2 := fun x y H Q => ∃ l b xs zs, x = .ref l ∧ y = .ref b ∧ H l = some (.lst xs) ∧ H b = some (.lst zs) ∧ xs.length + zs.length ≤ sizeLine ∧ ∀ p, H p = none → p ≠ sysModules → Q (.ref p) (upd H p (.lst (xs ++ zs)))
theorem op_cat1 : OpR X (binaryOp .Add) rCat1 := by
  intro pins s σ H x y v u Q I rx ry h
  obtain ⟨l, b, xs, zs, rfl, rfl, h1, h2, hz, q⟩ := h
  cases rx
  cases ry
  obtain ⟨z1, its1, n1, r1, k1, e1⟩ := I.lstM h1
  obtain ⟨z2, its2, n2, r2, k2, e2⟩ := I.lstM h2
  refine PySem.P.add_list e1 e2 ?_ (by simp only [List.size_toArray]; omega)
  rw [show its1.toArray ++ its2.toArray = (its1 ++ its2).toArray by simp]
  exact ⟨.ref _, _, I.lnew (t' := s.toks) (r1.append r2) (by rw [List.length_append]; exact hz), rfl, q _ I.fresh (big_ne I)⟩
theorem call_list_tx1 (hc : X.calm = true) : CallR X (.type "list") (fun xs H Q => ∃ a : List Nat, xs = [.str (S a)] ∧ a.length ≤ 100000 ∧ ∀ l, H l = none → l ≠ sysModules → Q (.ref l) (upd H l (.lst (sg a)))) := by
  intro pins s σ H xs us Q I r h
  obtain ⟨a, rfl, hz, q⟩ := h
  obtain ⟨u, rfl, rx⟩ := vals1 r
  obtain ⟨t, rfl⟩ := rx
  have hs : (S a).cps.size = a.length := SX.S_len a
  refine PySem.call_list_str (I.ok.hd hc) (S a) t (fun h' tk acc c' kp e it => ?_) (by rw [hs]; unfold sizeLine; omega)
  refine ⟨.ref s.heap.objs.size, _, I.laid (t' := tk) kp (Nat.le_refl _) (show ObjOk X.prog X.w _ h' _ (.lst (sg a)) from ⟨by rw [sg_length]; unfold sizeLine; omega, acc.toList, c', vals_signs it, ?_⟩), rfl, q _ (I.hok.fresh (Nat.le_refl _)) (big_ne I)⟩
  rw [Array.toArray_toList]; exact e
end

/-! the law's call, the guards told -/
theorem lawG {P : Program} {w : World} {K : PySem.W.Frag} {mg mb : Str → Option Value} {CX : CXT} {k : Nat} {fa a : Addr} {fd : FuncData} {x : Str} {sp : Sp} {s₁ : Shared} {vs : List Value} {ns : List Int}
    (inK : K.In s₁.heap) (glob : s₁.heap.Ns mainGlobals mg) (blt : s₁.heap.Ns builtinsNs mb) (boot : ∀ x : Str, x ≠ "__name__" → mb x = bootBuiltins x) (unlim : s₁.heap.NoLimit) (nogen : s₁.gens = #[])
    (stands : s₁.heap.get? a = some { cls := .type "list", data := .seq vs.toArray }) (isInts : IntsAre vs ns) (short : ns.length ≤ sizeLine) (room : Room k callerA)
    (F : ∀ base : Heap, K.In base → base.Ns mainGlobals mg → FnG P w K mg base CX k fa fd [x] sp) (binds : ∀ (s : Shared) (u : Value), BindsTo s fd ⟨[u], []⟩ [(x, u)])
    (asked : ∀ H : Hp, SqL K H a (ns.map V.int) → sp [.ref a] H (fun v _ => v = .bl true) fun _ _ _ => False)
    (calm : ∀ H e s', CX [] H s₁ (fun _ _ _ => False) e s' → False) :
    codeAny (model P w) callerA (.call (.ref fa) ⟨[.ref a], []⟩) (fun r s' => r = .ok (.ret (.bool true)) ∧ OldK s₁.heap s'.heap ∧ s'.os = s₁.os ∧ AllBare s'.gens) s₁ := by
  have rel := vals_ints isInts
  have many := isInts.length
  have main : ∀ H : Hp, (∀ b, H b = none ∨ ∃ o xs, H b = some (.frz o (.lst xs))) → SqL K H a (ns.map V.int) → HOk P w H s₁.heap → (∀ b, H b ≠ none → b = a) → (H a ≠ none → K.lookup a = none) →
      codeAny (model P w) callerA (.call (.ref fa) ⟨[.ref a], []⟩) (fun r s' => r = .ok (.ret (.bool true)) ∧ OldK s₁.heap s'.heap ∧ s'.os = s₁.os ∧ AllBare s'.gens) s₁ := by
    intro H locked seq ok onlyA notK
    have keepD : ∀ {b : Addr} {o : Obj} {es : Array DictEntry} {ep : Nat}, s₁.heap.get? b = some o → o.data = .dict es ep → H b = none := by
      intro b o es ep e d
      by_cases q : H b = none
      · exact q
      · have e' := onlyA b q
        subst e'
        rw [stands] at e
        cases e
        exact nomatch (show Data.seq vs.toArray _ = Data.dict es ep from d)
    have keepN : ∀ {b : Addr} {m : Str → Option Value}, s₁.heap.Ns b m → (hidT s₁.heap H).Ns b m := by
      rintro b m ⟨o, es, ep, e, d, rest⟩
      exact ⟨o, es, ep, hidT_get e (keepD e d), d, rest⟩
    have keepK : K.In (hidT s₁.heap H) := by
      intro b o e
      refine hidT_get (inK b o e) ?_
      by_cases q : H b = none
      · exact q
      · have e' := onlyA b q
        subst e'
        rw [notK q] at e
        cases e
    have modul : Mod K mg (hidT s₁.heap H) := by
      refine ⟨keepK, keepN glob, ⟨mb, keepN blt, boot⟩, ?_⟩
      obtain ⟨mc, h1, h2⟩ := unlim
      exact ⟨mc, keepN h1, h2⟩
    have e0 : Env0 P w K mg (hidT s₁.heap H) callerA [] s₁ H :=
      ⟨rfl, modul, fun b o e => of_hidT e, Nat.le_of_eq (hidT_size _ _), trivial, fun b hb => (nomatch (show b ∈ ([] : List Addr) from hb)), ok, .of_eq nogen⟩
    refine codeAny_mono ((F _ keepK (keepN glob)).run callerA [] s₁ H ⟨[.ref a], []⟩ [.ref a] [.ref a] _ _ rfl room e0 (binds s₁ (.ref a)) (.cons rfl .nil) (asked H seq)) ?_
    intro r s' ended
    rcases r with er | fl
    · exact (calm H er s' ended).elim
    · cases fl with
      | next => exact (show False from ended).elim
      | brk => exact (show False from ended).elim
      | cont => exact (show False from ended).elim
      | ret u =>
        obtain ⟨v, H', os, bare, un, ok', r', q⟩ := ended
        obtain rfl : v = .bl true := q
        obtain rfl : u = Value.bool true := r'
        refine ⟨rfl, OldK.of_keep ?_, os, bare⟩
        intro b o e
        rcases locked b with z | ⟨ob, xs, z⟩
        · exact un.keep b o e z (fun y => nomatch (show b ∈ ([] : List Addr) from y)) (fun y => nomatch y)
        · obtain ⟨e1, _⟩ := ok b _ z
          obtain ⟨e2, _⟩ := ok' b _ (un.frzs b ob _ z)
          rw [e] at e1
          cases e1
          exact e2
  by_cases hk : ∃ o, K.lookup a = some o
  · obtain ⟨o, hk⟩ := hk
    have e := inK a o hk
    rw [stands] at e
    cases e
    exact main (fun _ => none) (fun _ => Or.inl rfl) (Or.inr ⟨_, vs.toArray, _, hk, rfl, rfl, rfl, by rw [List.size_toArray, many]; exact short, by simpa using rel⟩) (fun b u z => nomatch (show (none : Option HO) = some u from z)) (fun b z => absurd rfl z) (fun z => absurd rfl z)
  · have hn : K.lookup a = none := by
      cases q : K.lookup a with
      | none => rfl
      | some o => exact absurd ⟨o, q⟩ hk
    refine main (fun b => if b = a then some (.frz { cls := .type "list", data := .seq vs.toArray } (.lst (ns.map V.int))) else none) (fun b => ?_) (Or.inl (Or.inr ⟨_, if_pos rfl⟩)) (fun b u z => ?_) (fun b z => ?_) (fun _ => hn)
    · by_cases e : b = a
      · exact Or.inr ⟨_, _, if_pos e⟩
      · exact Or.inl (if_neg e)
    · by_cases e : b = a
      · have z' : some _ = some u := (if_pos e).symm.trans z
        cases z'
        subst e
        exact ⟨stands, by rw [List.length_map]; exact short, vs, _, rel, stands⟩
      · exact nomatch (if_neg e).symm.trans z
    · by_cases e : b = a
      · exact e
      · exact absurd (if_neg e) z
theorem walkG {l : PySem.W.OpenLaw} {n k : Nat} {q : Program} {loose : List Str} {XP : (Str → Option Value) → Heap → Prop} {YP : World → Heap → Prop} {d : DefRec} {K : Params → PySem.W.Frag} {CX : World → CXT} {sp : World → Sp} {x : Str}
    (most : l.most = some n) (n2 : n ≤ sizeLine) (plain : d.params.defaults = []) (room : Room k callerA) (hY : ∀ (w : World) (h : Heap), YP w h → (K w.params).In h)
    (F : ∀ (w : World) (mg : Str → Option Value) (fa : Addr) (h : Heap), (K w.params).In h → h.Ns mainGlobals mg → mg d.name = some (.ref fa) →
      ∃ fd : FuncData, (∀ (s : Shared) (u : Value), BindsTo s fd ⟨[u], []⟩ [(x, u)]) ∧ ∀ base : Heap, (K w.params).In base → base.Ns mainGlobals mg → FnG l.prog w (K w.params) mg base (CX w) k fa fd [x] (sp w))
    (asked : ∀ (w : World) (H : Hp) (a : Addr) (ns : List Int), ns.length ≤ n → SqL (K w.params) H a (ns.map V.int) → sp w [.ref a] H (fun v _ => v = .bl true) fun _ _ _ => False)
    (calm : ∀ (w : World) (H : Hp) (s : Shared) (e : Value) (s' : Shared), CX w [] H s (fun _ _ _ => False) e s' → False) :
    PySem.W.WalkO q loose XP YP l.row.toRowW d [] (fun f vs => PySem.call f vs) := by
  apply Att.attach_call most plain
  intro w s₀ s₁ mg mb fa o pm cd doc a vs ns G Y ho hd hcd hmg hobj hints hlen hg
  have inK := hY w _ Y
  obtain ⟨fd, hb, hF⟩ := F w mg fa _ inK G.T.g hmg
  exact lawG inK G.T.g G.T.b G.T.builtins G.T.nolimit hg hobj hints (Nat.le_trans hlen n2) room hF hb (fun H hS => asked w H a ns hlen hS) fun H e s' => calm w H s₁ e s'
end Vx
namespace Vx
open PySem PySem.Spec PyProof.Rows L2
/-! how often a sign stands in a text -/
theorem at_one {a : List Nat} {c i : Nat} : StrLaws.At (S a) (S [c]) (S a).length i ↔ a[i]? = some c := StrLaws.subAt_one (S a) c i
theorem count_gap {a : List Nat} {c : Nat} : ∀ (n i : Nat), (∀ k, i ≤ k → k < i + n → a[k]? ≠ some c) → (a.drop i).count c = (a.drop (i + n)).count c
  | 0, _, _ => rfl
  | n + 1, i, h => by
    have h1 := count_gap n (i + 1) fun k h1 h2 => h k (by omega) (by omega)
    rw [show i + (n + 1) = i + 1 + n by omega, ← h1]
    by_cases hi : i < a.length
    · rw [List.drop_eq_getElem_cons hi, List.count_cons]
      have e := h i (Nat.le_refl _) (by omega)
      rw [List.getElem?_eq_getElem hi] at e
      have : (a[i] == c) = false := by simpa using fun z => e (by rw [z])
      rw [this]; simp
    · rw [List.drop_eq_nil_of_le (by omega), List.drop_eq_nil_of_le (by omega)]
theorem count_hit {a : List Nat} {c i : Nat} (h : a[i]? = some c) : (a.drop i).count c = (a.drop (i + 1)).count c + 1 := by
  obtain ⟨hi, e⟩ := List.getElem?_eq_some_iff.mp h
  rw [List.drop_eq_getElem_cons hi, e, List.count_cons_self]
theorem chain_count {a : List Nat} {c : Nat} : ∀ (cuts : List Nat) (i f : Nat), StrLaws.ChainG (S a) (S [c]) (S a).length i cuts f → (∀ k, f ≤ k → ¬ StrLaws.At (S a) (S [c]) (S a).length k) → cuts.length = (a.drop i).count c
  | [], i, f, h, hn => by
    have e : f = i := h
    subst e
    have h1 := count_gap (a := a) (c := c) a.length f fun k h1 _ z => hn k h1 (at_one.mpr z)
    rw [h1, List.drop_eq_nil_of_le (by omega)]; rfl
  | x :: r, i, f, h, hn => by
    have h1 : i ≤ x := h.1
    have ih := chain_count r (x + 1) f h.2.2.2 hn
    have g := count_gap (a := a) (c := c) (x - i) i fun k a1 a2 z => h.2.2.1 k a1 (by omega) (at_one.mpr z)
    rw [show i + (x - i) = x by omega] at g
    rw [g, count_hit (at_one.mp h.2.1), ← ih]; rfl
theorem count_S (a : List Nat) (c : Nat) : Txt.count (S a) (S [c]) = (a.count c : Int) := by
  obtain ⟨f, h, hn⟩ := StrLaws.occ_tight (S a) (S [c]) (Nat.le_refl 1)
  have e := chain_count _ 0 f h hn
  unfold Txt.count
  rw [e]; rfl
/-- a row of at most 200 letters -/
def abs (a : List Nat) : Bool := a.all fun c => c == 97 || c == 98
def rowB (a : List Nat) : Bool := decide (a.length ≤ 200) && abs a
theorem count_ab (a : List Nat) : a.count 97 + a.count 98 ≤ a.length ∧ (a.count 97 + a.count 98 = a.length ↔ abs a = true) := by
  induction a with
  | nil => exact ⟨Nat.le_refl _, by simp [abs]⟩
  | cons x r ih =>
    unfold abs at ih ⊢
    rw [List.all_cons, List.count_cons, List.count_cons, List.length_cons]
    obtain ⟨h1, h2⟩ := ih
    by_cases hx : x = 97
    · subst hx; simp only [beq_self_eq_true, if_true, Bool.true_or, Bool.true_and, show ((97 : Nat) == 98) = false from rfl]
      constructor
      · simp; omega
      · rw [← h2]; simp; omega
    · by_cases hy : x = 98
      · subst hy; simp only [beq_self_eq_true, if_true, Bool.or_true, Bool.true_and, show ((98 : Nat) == 97) = false from rfl]
        constructor
        · simp; omega
        · rw [← h2]; simp; omega
      · have e1 : (x == 97) = false := by simpa using hx
        have e2 : (x == 98) = false := by simpa using hy
        rw [e1, e2]
        constructor
        · simp; omega
        · simp; omega
theorem ab_sum (a : List Nat) : decide ((a.count 97 : Int) + (a.count 98 : Int) = (a.length : Int)) = abs a := by
  have h := (count_ab a).2
  cases e : abs a
  · refine decide_eq_false fun z => ?_
    have : a.count 97 + a.count 98 = a.length := by omega
    rw [h.mp this] at e; cases e
  · exact decide_eq_true (by have := h.mpr e; omega)
theorem cutS_to (a : List Nat) (n : Nat) : cutS (S a) none (some (n : Int)) = S (a.take n) := by
  unfold cutS
  rw [show HT.sIx (S a).length 0 none = 0 from HT.sIx_none .., show HT.sIx (S a).length (S a).length (some (n : Int)) = min n (S a).length from HT.sIx_nat .., SX.S_len]
  show S ((a.drop 0).take (min n a.length - 0)) = _
  rw [List.drop_zero, Nat.sub_zero]
  congr 1
  by_cases h : n ≤ a.length
  · rw [Nat.min_eq_left h]
  · rw [Nat.min_eq_right (by omega), List.take_of_length_le (Nat.le_refl _), List.take_of_length_le (by omega)]
theorem cutS_from (a : List Nat) (n : Nat) : cutS (S a) (some (n : Int)) none = S (a.drop n) := by
  unfold cutS
  rw [show HT.sIx (S a).length (S a).length none = (S a).length from HT.sIx_none .., show HT.sIx (S a).length 0 (some (n : Int)) = min n (S a).length from HT.sIx_nat .., SX.S_len]
  show S ((a.drop (min n a.length)).take (a.length - min n a.length)) = _
  congr 1
  by_cases h : n ≤ a.length
  · rw [Nat.min_eq_left h, List.take_of_length_le (by rw [List.length_drop]; exact Nat.le_refl _)]
  · rw [Nat.min_eq_right (by omega), Nat.sub_self, List.take_zero, List.drop_eq_nil_of_le (by omega)]
end Vx
namespace Vx
open PySem PySem.Spec PyProof.Rows L2
/-! what stays but one object -/
def Keep (r : Addr) (H H' : Hp) : Prop := ∀ b o, b ≠ r → H b = some o → H' b = some o
theorem Keep.refl {r : Addr} (H : Hp) : Keep r H H := fun _ _ _ h => h
theorem Keep.trans {r : Addr} {H H1 H2 : Hp} (a : Keep r H H1) (b : Keep r H1 H2) : Keep r H H2 := fun c o n h => b c o n (a c o n h)
theorem Keep.of {r : Addr} {H H' : Hp} (a : Same H H') : Keep r H H' := fun c o _ h => a c o h
theorem Keep.new {r p : Addr} {H H1 : Hp} {o : HO} (k : Keep r H H1) (h : H1 p = none) : Keep r H (upd H1 p o) := fun c u n e => by
  have e1 := k c u n e
  rw [upd_ne (ne_of_none e1 h)]; exact e1
theorem Keep.put {r : Addr} {H H1 : Hp} {o : HO} (k : Keep r H H1) : Keep r H (upd H1 r o) := fun c u n e => by
  rw [upd_ne n]; exact k c u n e
theorem same_new {H : Hp} {p : Addr} {o : HO} (h : H p = none) : Same H (upd H p o) := fun b x e => by
  rw [upd_ne (ne_of_none e h)]; exact e
theorem Same.new {H H1 : Hp} {p : Addr} {o : HO} (k : Same H H1) (h : H1 p = none) : Same H (upd H1 p o) := k.trans (same_new h)
/-- an object that H does not know may change -/
theorem Same.mut {H H1 : Hp} {p : Addr} {o : HO} (k : Same H H1) (h : H p = none) : Same H (upd H1 p o) := fun b x e => by
  rw [upd_ne (ne_of_none e h)]; exact k b x e
theorem Keep.seq {K : PySem.W.Frag} {r a : Addr} {H H' : Hp} {xs : List V} (k : Keep r H H') (hr : ∃ ys, H r = some (.lst ys)) (hs : SqL K H a xs) (hf : a ≠ r) : SqL K H' a xs := by
  rcases hs with (h | ⟨o, h⟩) | h
  · exact .inl (.inl (k _ _ hf h))
  · exact .inl (.inr ⟨o, k _ _ hf h⟩)
  · exact .inr h
theorem Keep.none {r p : Addr} {H H' : Hp} (k : Keep r H H') (hn : p ≠ r) (h : H' p = Option.none) : H p = Option.none := by
  cases q : H p with
  | none => rfl
  | some o => rw [k p o hn q] at h; cases h
/-! data of ints and texts -/
theorem dp_ints {K : PySem.W.Frag} {H : Hp} : ∀ ns : List Int, DpAll K H (ns.map V.int) (ns.map PyData.int)
  | [] => .nil
  | n :: r => .cons (.int n) (dp_ints r)
theorem can_ints : ∀ ns : List Int, PyData.canLayAll0 (ns.map PyData.int) = true
  | [] => by simp [PyData.canLayAll0]
  | n :: r => by simp [PyData.canLayAll0, PyData.canLay0, can_ints r]
theorem depth_ints : ∀ ns : List Int, PyData.depthAll (ns.map PyData.int) = 0
  | [] => by simp [PyData.depthAll]
  | n :: r => by simp [PyData.depthAll, PyData.depth, depth_ints r]
theorem shaped_ints (ns : List Int) : SeqAt.shaped (.list (ns.map PyData.int)) = true := by
  simp [SeqAt.shaped, PyData.canLay0, PyData.depth, can_ints, depth_ints]
theorem shaped_nil : SeqAt.shaped (.list []) = true := shaped_ints []
theorem eqv_nil : ∀ ds : List PyData, PyData.eqv (.list ds) (.list []) = ds.isEmpty
  | [] => by simp [PyData.eqv, PyData.eqvAll]
  | d :: r => by simp [PyData.eqv, PyData.eqvAll]
/-! the drawing reel of the laws -/
structure ReelAt (H : Hp) (r g c : Addr) (gs cs : List Int) (n st : Int) : Prop where
  at_r : H r = some (.lst [.ref g, .ref c, .int n, .int st])
  ne_g : g ≠ r
  ne_c : c ≠ r
  at_g : H g = some (.lst (gs.map V.int))
  at_c : H c = some (.lst (cs.map V.int))
  len_g : gs.length ≤ 60
  pos_g : ∀ x ∈ gs, 0 ≤ x
  len_c : 1 ≤ cs.length ∧ cs.length ≤ 60
  lo : 0 ≤ st
  hi : st < 2 ^ 127
def Reel (H : Hp) (r : Addr) : Prop := ∃ g c gs cs n st, ReelAt H r g c gs cs n st
theorem Reel.mono {H H' : Hp} {r : Addr} (R : Reel H r) (s : Same H H') : Reel H' r := by
  obtain ⟨g, c, gs, cs, n, st, R⟩ := R
  exact ⟨g, c, gs, cs, n, st, { R with at_r := s _ _ R.at_r, at_g := s _ _ R.at_g, at_c := s _ _ R.at_c }⟩
theorem Reel.is {H : Hp} {r : Addr} (R : Reel H r) : ∃ xs, H r = some (.lst xs) := by
  obtain ⟨g, c, gs, cs, n, st, R⟩ := R
  exact ⟨_, R.at_r⟩
/-- an object that is none of the reel's -/
def Off (H : Hp) (r D : Addr) : Prop := ∀ g c x y, H r = some (.lst [.ref g, .ref c, x, y]) → D ≠ g ∧ D ≠ c
/-- all that is none of the reel's stays, and stays apart from it -/
structure Step (r : Addr) (H H' : Hp) : Prop where
  keep : Keep r H H'
  sep : ∀ D, (∃ o, H D = some o) → D ≠ r → Off H r D → Off H' r D
theorem Step.refl {r : Addr} (H : Hp) : Step r H H := ⟨.refl H, fun _ _ _ h => h⟩
theorem Step.trans {r : Addr} {H H1 H2 : Hp} (a : Step r H H1) (b : Step r H1 H2) : Step r H H2 :=
  ⟨a.keep.trans b.keep, fun D ⟨o, e⟩ n h => b.sep D ⟨o, a.keep D o n e⟩ n (a.sep D ⟨o, e⟩ n h)⟩
theorem Step.same {r : Addr} {H H' : Hp} (R : Reel H r) (s : Same H H') : Step r H H' := by
  obtain ⟨xs, e⟩ := R.is
  exact ⟨.of s, fun D _ _ h g c x y e2 => h g c x y (by rw [s _ _ e] at e2; rw [e]; exact e2)⟩
/-- an object that was made since may change -/
theorem Step.mut {r p : Addr} {H H1 : Hp} {o : HO} (a : Step r H H1) (h : H p = none) (n : p ≠ r) : Step r H (upd H1 p o) :=
  ⟨fun c u nc e => by rw [upd_ne (ne_of_none e h)]; exact a.keep c u nc e, fun D hD nD hO g c x y e => a.sep D hD nD hO g c x y (by rw [upd_ne n.symm] at e; exact e)⟩
theorem Off.new {H : Hp} {r D : Addr} (R : Reel H r) (n : H D = none) : Off H r D := by
  obtain ⟨g, c, gs, cs, n', st, R⟩ := R
  intro g2 c2 x y e
  rw [R.at_r] at e
  cases e
  exact ⟨(fun z => by rw [z, R.at_g] at n; cases n), (fun z => by rw [z, R.at_c] at n; cases n)⟩
theorem Off.upd {H : Hp} {r D p : Addr} {o : HO} (h : Off H r D) (n : p ≠ r) : Off (L2.upd H p o) r D := fun g c x y e => h g c x y (by rw [upd_ne n.symm] at e; exact e)
theorem Reel.upd {H : Hp} {r D : Addr} {o : HO} (R : Reel H r) (n : D ≠ r) (h : Off H r D) : Reel (L2.upd H D o) r := by
  obtain ⟨g, c, gs, cs, n', st, R⟩ := R
  obtain ⟨h1, h2⟩ := h g c _ _ R.at_r
  exact ⟨g, c, gs, cs, n', st, { R with at_r := by rw [upd_ne n.symm]; exact R.at_r, at_g := by rw [upd_ne h1.symm]; exact R.at_g, at_c := by rw [upd_ne h2.symm]; exact R.at_c }⟩
theorem Reel.ne {H : Hp} {r D : Addr} (R : Reel H r) (n : H D = none) : D ≠ r := by
  obtain ⟨xs, hx⟩ := R.is
  exact (ne_of_none hx n).symm
/-- a draw: an int below the bound; all else stays -/
def spDraw : Sp := fun vs H Q _ => ∃ (r : Addr) (m : Int), vs = [.ref r, .int m] ∧ Reel H r ∧ 1 ≤ m ∧ m.natAbs < 2 ^ 8000 ∧ ∀ (d : Int) (H' : Hp), 0 ≤ d → d < m → Step r H H' → Reel H' r → Q (.int d) H'
/-- a new reel from the script -/
def spReel (K : PySem.W.Frag) : Sp := fun vs H Q _ => ∃ (a : Addr) (ns : List Int), vs = [.ref a] ∧ SqL K H a (ns.map V.int) ∧ ns.length ≤ 63 ∧ ∀ (r : Addr) (H' : Hp), Same H H' → H r = none → Reel H' r → Q (.ref r) H'
/-- a text of a and b with low to high letters -/
def spWord : Sp := fun vs H Q _ => ∃ (r : Addr) (lo hi : Int), vs = [.ref r, .int lo, .int hi] ∧ Reel H r ∧ 0 ≤ lo ∧ lo ≤ hi ∧ hi ≤ 300 ∧
  ∀ (a : List Nat) (H' : Hp), lo ≤ (a.length : Int) → (a.length : Int) ≤ hi → abs a = true → Step r H H' → Reel H' r → Q (.str (S a)) H'
theorem bits127 {x : Int} (h0 : 0 ≤ x) (h : x < 2 ^ 127) : x.natAbs < 2 ^ 127 := by omega

theorem cut_to (xs : List V) (n : Nat) : cutV xs none (some (n : Int)) = xs.take n := by
  unfold cutV
  rw [HT.sIx_none, show HT.sIx xs.length xs.length (some (n : Int)) = min n xs.length from HT.sIx_nat ..]
  show (xs.drop 0).take (min n xs.length - 0) = _
  rw [List.drop_zero, Nat.sub_zero]
  by_cases h : n ≤ xs.length
  · rw [Nat.min_eq_left h]
  · rw [Nat.min_eq_right (by omega), List.take_of_length_le (Nat.le_refl _), List.take_of_length_le (by omega)]
theorem cut_from (xs : List V) (n : Nat) : cutV xs (some (n : Int)) none = xs.drop n := by
  unfold cutV
  rw [HT.sIx_none, show HT.sIx xs.length 0 (some (n : Int)) = min n xs.length from HT.sIx_nat ..]
  by_cases h : n ≤ xs.length
  · rw [Nat.min_eq_left h, List.take_of_length_le (by rw [List.length_drop]; exact Nat.le_refl _)]
  · rw [Nat.min_eq_right (by omega), Nat.sub_self, List.take_zero, List.drop_eq_nil_of_le (by omega)]

theorem bigM_pos : (0 : Int) < 2 ^ (64 : Int).toNat * 2 ^ (63 : Int).toNat - 1 := by decide
theorem bigM_le : (2 ^ (64 : Int).toNat * 2 ^ (63 : Int).toNat - 1 : Int) ≤ 2 ^ 127 := by decide

/-! texts by their codes -/
def cutL (a : List Nat) (lo hi : Option Int) : List Nat := (cutS (S a) lo hi).cps.toList
theorem cutL_to (a : List Nat) (n : Nat) : cutL a none (some (n : Int)) = a.take n := by unfold cutL; rw [cutS_to]
theorem cutL_from (a : List Nat) (n : Nat) : cutL a (some (n : Int)) none = a.drop n := by unfold cutL; rw [cutS_from]
theorem cutL_length (a : List Nat) (lo hi : Option Int) : (cutL a lo hi).length ≤ a.length := by
  have h := cutS_length (S a) lo hi
  rw [SX.S_len] at h
  exact h
section
variable {X : Cx}
def rAddT : R2 := fun x y H Q => ∃ a b : List Nat, x = .str (S a) ∧ y = .str (S b) ∧ a.length + b.length ≤ 1000000 ∧ Q (.str (S (a ++ b))) H
theorem op_add_tx : OpR X (binaryOp .Add) rAddT := by
  intro pins s σ H x y v u Q I rx ry h
  obtain ⟨a, b, rfl, rfl, hz, q⟩ := h
  refine op_add_str pins s σ H _ _ v u Q I rx ry ⟨S a, S b, rfl, rfl, ?_, ?_⟩
  · rw [SX.S_len, SX.S_len]; unfold sizeLine; omega
  · rw [SX.S_cat]; exact q
def rSlT2 : V → Option Int → Option Int → Hp → VK → Prop := fun x lo hi H Q => ∃ a : List Nat, x = .str (S a) ∧ a.length ≤ 1000000 ∧ Q (.str (S (cutL a lo hi))) H
theorem sl_tx : SlR X rSlT2 := by
  intro pins s σ H x v vl vu lo hi sl Q I rx hs pl pu h
  obtain ⟨a, rfl, hz, q⟩ := h
  refine sl_str pins s σ H _ v vl vu lo hi sl Q I rx hs pl pu ⟨S a, rfl, ?_, ?_⟩
  · rw [SX.S_len]; unfold sizeLine; omega
  · have e : S (cutL a lo hi) = cutS (S a) lo hi := SX.S_tl _
    rw [← e]; exact q
theorem call_len_tx : CallR X (.builtin "len") (fun xs H Q => ∃ a : List Nat, xs = [.str (S a)] ∧ a.length ≤ 1000000 ∧ Q (.int a.length) H) := by
  intro pins s σ H xs us Q I r h
  obtain ⟨a, rfl, hz, q⟩ := h
  refine call_len_str pins s σ H _ us Q I r ⟨S a, rfl, ?_, ?_⟩
  · rw [SX.S_len]; unfold sizeLine; omega
  · rw [SX.S_len]; exact q
theorem mt_count_tx : MtR X "str.count" (fun x xs H Q => ∃ (a : List Nat) (c : Nat), x = .str (S a) ∧ xs = [.str (S [c])] ∧ Q (.int (a.count c)) H) := by
  intro pins s σ H x xs v us Q I rx rs h
  obtain ⟨a, c, rfl, rfl, q⟩ := h
  refine mt_count pins s σ H _ _ v us Q I rx rs ⟨S a, S [c], rfl, rfl, ?_⟩
  rw [count_S]; exact q
def rIxT2 : R2 := fun x y H Q => ∃ (a : List Nat) (i : Nat) (c : Nat), x = .str (S a) ∧ y = .int (i : Int) ∧ a.length ≤ 1000000 ∧ a[i]? = some c ∧ Q (.str (S [c])) H
theorem ix_tx : IxR X rIxT2 := by
  intro value slice pins s σ H x y v u Q I rx ry h hs
  obtain ⟨a, i, c, rfl, rfl, hz, hc, q⟩ := h
  exact ix_str value slice pins s σ H _ _ v u Q I rx ry ⟨S a, i, c, rfl, rfl, by rw [SX.S_len]; unfold sizeLine; omega, atI_nat hc, q⟩ hs
end
theorem b8000 {m : Int} (h : m.natAbs < 2 ^ 300) : m.natAbs < 2 ^ 8000 := Nat.lt_of_lt_of_le h (Nat.pow_le_pow_right (by decide) (by decide))
theorem b8k {m : Int} (h0 : 0 ≤ m) (h : m < 2 ^ 250) : m.natAbs < 2 ^ 8000 := Nat.lt_of_lt_of_le (show m.natAbs < 2 ^ 250 by omega) (Nat.pow_le_pow_right (by decide) (by decide))
theorem joinL_nil : ∀ ps : List (List Nat), TL.joinL [] ps = ps.flatten
  | [] => rfl
  | [p] => by simp [TL.joinL]
  | p :: q :: r => by
    have ih := joinL_nil (q :: r)
    rw [TL.joinL, ih]; simp
theorem abs_append (a b : List Nat) : abs (a ++ b) = (abs a && abs b) := by unfold abs; rw [List.all_append]
theorem abs_take {a : List Nat} (h : abs a = true) (n : Nat) : abs (a.take n) = true := by
  unfold abs at *
  exact List.all_eq_true.mpr fun x hx => List.all_eq_true.mp h x (List.mem_of_mem_take hx)
theorem abs_drop {a : List Nat} (h : abs a = true) (n : Nat) : abs (a.drop n) = true := by
  unfold abs at *
  exact List.all_eq_true.mpr fun x hx => List.all_eq_true.mp h x (List.mem_of_mem_drop hx)
theorem abs_rep {a : List Nat} (h : abs a = true) (n : Nat) : abs (repN n a) = true := by
  unfold abs at *
  exact List.all_eq_true.mpr fun x hx => List.all_eq_true.mp h x (mem_repN hx)
theorem abs_reverse (a : List Nat) : abs a.reverse = abs a := by unfold abs; rw [List.all_reverse]
theorem abs_flatten {ps : List (List Nat)} (h : ∀ p ∈ ps, abs p = true) : abs ps.flatten = true := by
  unfold abs at *
  refine List.all_eq_true.mpr fun x hx => ?_
  obtain ⟨p, hp, hx⟩ := List.mem_flatten.mp hx
  exact List.all_eq_true.mp (h p hp) x hx
theorem abs_get {a : List Nat} (h : abs a = true) {i c : Nat} (e : a[i]? = some c) : abs [c] = true := by
  unfold abs at *
  have := List.all_eq_true.mp h c (List.mem_of_getElem? e)
  simp only [List.all_cons, List.all_nil, Bool.and_true]; exact this
theorem len_flatten1 {ps : List (List Nat)} (h : ∀ p ∈ ps, p.length = 1) : ps.flatten.length = ps.length := by
  induction ps with
  | nil => rfl
  | cons p r ih =>
    rw [List.flatten_cons, List.length_append, ih fun q hq => h q (List.mem_cons_of_mem _ hq), h p List.mem_cons_self, List.length_cons]; omega

/-! data that can be shown -/
structure Fine (K : PySem.W.Frag) (H : Hp) (x : V) (d : PyData) : Prop where
  dx : Dx K H x d
  sh : d.showable = true
  lv : d.leavesShort 100 = true
  dp : d.depth ≤ 10
  wt : d.weight ≤ 4100
/-- no text -/
def NoStr (K : PySem.W.Frag) (H : Hp) (x : V) : Prop := ∃ t, TyX K H x t ∧ PySem.W.kitOne K t (.type "str") = some false
theorem noStr_ty {K : PySem.W.Frag} {H : Hp} {x : V} {T : String} (h : TyOf K H x (.type T)) (e : kitB T "str" = some false) : NoStr K H x := ⟨_, .base h, kit_ty e⟩
inductive Fines (K : PySem.W.Frag) (H : Hp) : List V → List PyData → Prop
  | nil : Fines K H [] []
  | cons {x : V} {d : PyData} {xs : List V} {ds : List PyData} : Fine K H x d → Fines K H xs ds → Fines K H (x :: xs) (d :: ds)
theorem Fines.append {K : PySem.W.Frag} {H : Hp} : ∀ {xs ys : List V} {ds es : List PyData}, Fines K H xs ds → Fines K H ys es → Fines K H (xs ++ ys) (ds ++ es)
  | _, _, _, _, .nil, b => b
  | _, _, _, _, .cons x a, b => .cons x (Fines.append a b)
theorem Fines.all {K : PySem.W.Frag} {H : Hp} : ∀ {xs : List V} {ds : List PyData}, Fines K H xs ds →
    DxAll K H xs ds ∧ PyData.showableAll ds = true ∧ PyData.leavesShortAll 100 ds = true ∧ PyData.depthAll ds ≤ 10 ∧ PyData.weightAll ds ≤ 4101 * xs.length
  | _, _, .nil => ⟨.nil, by simp [PyData.showableAll], by simp [PyData.leavesShortAll], by simp [PyData.depthAll], by simp [PyData.weightAll]⟩
  | _, _, .cons (x := x) (d := d) (xs := xs) (ds := ds) f r => by
    obtain ⟨h1, h2, h3, h4, h5⟩ := Fines.all r
    refine ⟨.cons f.dx h1, by simp [PyData.showableAll, f.sh, h2], by simp [PyData.leavesShortAll, f.lv, h3], ?_, ?_⟩
    · have := f.dp; simp only [PyData.depthAll]; omega
    · have := f.wt; simp only [PyData.weightAll, List.length_cons]; omega
mutual
theorem Dx.same {K : PySem.W.Frag} {H H' : Hp} (s : Same H H') : ∀ {d : PyData} {v : V}, Dx K H v d → Dx K H' v d
  | .none, _, h => by cases h; exact .non
  | .bool _, _, h => by cases h; exact .bl _
  | .int _, _, h => by cases h; exact .int _
  | .str _, _, h => by cases h; exact .str _
  | .list ds, _, h => by
    cases h with
    | lst a n r => exact .lst (s _ _ a) n (DxAll.same s r)
  | .tuple ds, _, h => by
    cases h with
    | tup a r => exact .tup (by
        rcases a with (a | ⟨o, a⟩) | a
        · exact .inl (.inl (s _ _ a))
        · exact .inl (.inr ⟨o, s _ _ a⟩)
        · exact .inr a) (DxAll.same s r)
  | .dict ds, _, h => by
    cases h with
    | dic a k v => exact .dic (s _ _ a) (DxKeys.same s k) (DxVals.same s v)
theorem DxAll.same {K : PySem.W.Frag} {H H' : Hp} (s : Same H H') : ∀ {ds : List PyData} {vs : List V}, DxAll K H vs ds → DxAll K H' vs ds
  | [], _, h => by cases h; exact .nil
  | d :: ds, _, h => by
    cases h with
    | cons a r => exact .cons (Dx.same s a) (DxAll.same s r)
theorem DxKeys.same {K : PySem.W.Frag} {H H' : Hp} (s : Same H H') : ∀ {ds : List (PyData × PyData)} {vs : List V}, DxAll K H vs (ds.map (·.1)) → DxAll K H' vs (ds.map (·.1))
  | [], _, h => by cases h; exact .nil
  | (d, _) :: ds, _, h => by
    cases h with
    | cons a r => exact .cons (Dx.same s a) (DxKeys.same s r)
theorem DxVals.same {K : PySem.W.Frag} {H H' : Hp} (s : Same H H') : ∀ {ds : List (PyData × PyData)} {vs : List V}, DxAll K H vs (ds.map (·.2)) → DxAll K H' vs (ds.map (·.2))
  | [], _, h => by cases h; exact .nil
  | (_, d) :: ds, _, h => by
    cases h with
    | cons a r => exact .cons (Dx.same s a) (DxVals.same s r)
end
theorem Fine.same {K : PySem.W.Frag} {H H' : Hp} {x : V} {d : PyData} (s : Same H H') (f : Fine K H x d) : Fine K H' x d := { f with dx := f.dx.same s }
theorem Fines.same {K : PySem.W.Frag} {H H' : Hp} (s : Same H H') : ∀ {xs : List V} {ds : List PyData}, Fines K H xs ds → Fines K H' xs ds
  | _, _, .nil => .nil
  | _, _, .cons f r => .cons (f.same s) (r.same s)
theorem fine_txt {K : PySem.W.Frag} {H : Hp} {a : List Nat} (h : ∀ c ∈ a, c < 1000) (hl : a.length ≤ 4100) : Fine K H (.str (S a)) (.str (S a)) := by
  refine ⟨.str _, by simp [PyData.showable], ?_, by simp [PyData.depth], ?_⟩
  · simp only [PyData.leavesShort, List.all_eq_true, decide_eq_true_eq]
    intro c hc
    have := h c hc
    have e : (16 : Nat) ^ 8 = 4294967296 := by decide
    omega
  · show (S a).cps.size ≤ 4100
    rw [show (S a).cps.size = a.length from SX.S_len a]; exact hl
theorem fine_signs {K : PySem.W.Frag} {H : Hp} : ∀ {a : List Nat}, (∀ c ∈ a, c < 1000) → ∃ ds, DxAll K H (sg a) ds ∧ PyData.showableAll ds = true ∧ PyData.leavesShortAll 100 ds = true ∧ PyData.depthAll ds = 0 ∧ PyData.weightAll ds = 2 * a.length
  | [], _ => ⟨[], .nil, by simp [PyData.showableAll], by simp [PyData.leavesShortAll], by simp [PyData.depthAll], by simp [PyData.weightAll]⟩
  | c :: r, h => by
    obtain ⟨ds, h1, h2, h3, h4, h5⟩ := fine_signs (K := K) (H := H) (a := r) fun x hx => h x (List.mem_cons_of_mem _ hx)
    have f := fine_txt (K := K) (H := H) (a := [c]) (fun x hx => h x (by rw [List.mem_singleton.mp hx]; exact List.mem_cons_self)) (by show 1 ≤ 4100; decide)
    refine ⟨.str (S [c]) :: ds, .cons f.dx h1, by simp [PyData.showableAll, f.sh, h2], by simp [PyData.leavesShortAll, f.lv, h3], by simp [PyData.depthAll, PyData.depth, h4], ?_⟩
    have e : (PyData.str (S [c])).weight = 1 := rfl
    simp only [PyData.weightAll, e, h5, List.length_cons]
    omega
theorem fine_lst {K : PySem.W.Frag} {H : Hp} {p : Addr} {xs : List V} {ds : List PyData} (e : H p = some (.lst xs)) (n : p ≠ sysModules) (h : DxAll K H xs ds) (s : PyData.showableAll ds = true) (l : PyData.leavesShortAll 100 ds = true) (d : PyData.depthAll ds ≤ 9) (w : PyData.weightAll ds ≤ 4099) :
    Fine K H (.ref p) (.list ds) := ⟨.lst e n h, by simpa [PyData.showable] using s, by simpa [PyData.leavesShort] using l, by simp only [PyData.depth]; omega, by simp only [PyData.weight]; omega⟩
theorem fine_tup {K : PySem.W.Frag} {H : Hp} {p : Addr} {xs : List V} {ds : List PyData} (e : H p = some (.tup xs)) (h : DxAll K H xs ds) (s : PyData.showableAll ds = true) (l : PyData.leavesShortAll 100 ds = true) (d : PyData.depthAll ds ≤ 9) (w : PyData.weightAll ds ≤ 4099) :
    Fine K H (.ref p) (.tuple ds) := ⟨.tup (SqT.of e) h, by simpa [PyData.showable] using s, by simpa [PyData.leavesShort] using l, by simp only [PyData.depth]; omega, by simp only [PyData.weight]; omega⟩
/-- what is no row -/
def BadRow (K : PySem.W.Frag) (H : Hp) (x : V) : Prop := (∃ a : List Nat, x = .str (S a) ∧ a.length ≤ 100000 ∧ rowB a = false) ∨ NoStr K H x
/-- a new list of values that are no rows -/
def spNoRows (K : PySem.W.Frag) : Sp := fun vs H Q _ => ∃ (r : Addr) (a : List Nat), vs = [.ref r, .str (S a)] ∧ Reel H r ∧ a.length ≤ 200 ∧ abs a = true ∧
  ∀ (b : Addr) (xs : List V) (ds : List PyData) (H' : Hp), Step r H H' → Reel H' r → H b = none → H' b = some (.lst xs) → b ≠ sysModules → Fines K H' xs ds → (∀ x ∈ xs, BadRow K H' x) → xs.length = 28 → Q (.ref b) H'

theorem abs_lt {a : List Nat} (h : abs a = true) : ∀ c ∈ a, c < 1000 := fun c hc => by
  have := List.all_eq_true.mp h c hc
  simp only [Bool.or_eq_true, beq_iff_eq] at this
  omega
theorem not_abs {a : List Nat} {c : Nat} (hc : c ∈ a) (h1 : c ≠ 97) (h2 : c ≠ 98) : rowB a = false := by
  unfold rowB
  cases e : abs a with
  | false => exact Bool.and_false _
  | true =>
    have := List.all_eq_true.mp e c hc
    simp only [Bool.or_eq_true, beq_iff_eq] at this
    omega
theorem rowB_long {a : List Nat} (h : 200 < a.length) : rowB a = false := by unfold rowB; rw [decide_eq_false (by omega), Bool.false_and]
def mix (a : List Nat) (j c : Nat) : List Nat := a.take j ++ [c] ++ a.drop (j + 1)
theorem mix_len (a : List Nat) (j c : Nat) (h : a.length ≤ 200) : (mix a j c).length ≤ 201 := by
  unfold mix; rw [List.length_append, List.length_append, List.length_take, List.length_drop]; show min j a.length + 1 + _ ≤ _; omega
theorem mix_lt {a : List Nat} (h : abs a = true) (j c : Nat) (hc : c < 1000) : ∀ x ∈ mix a j c, x < 1000 := by
  intro x hx
  unfold mix at hx
  rcases List.mem_append.mp hx with hx | hx
  · rcases List.mem_append.mp hx with hx | hx
    · exact abs_lt h x (List.mem_of_mem_take hx)
    · rw [List.mem_singleton.mp hx]; exact hc
  · exact abs_lt h x (List.mem_of_mem_drop hx)
theorem mix_mem (a : List Nat) (j c : Nat) : c ∈ mix a j c := List.mem_append_left _ (List.mem_append_right _ List.mem_cons_self)
theorem fines_mix {K : PySem.W.Frag} {H : Hp} {a : List Nat} (h : abs a = true) (hl : a.length ≤ 200) (j : Nat) : ∀ {cs : List Nat}, (∀ c ∈ cs, c < 1000) → Fines K H (cs.map fun c => V.str (S (mix a j c))) (cs.map fun c => PyData.str (S (mix a j c)))
  | [], _ => .nil
  | c :: r, hc => .cons (fine_txt (mix_lt h j c (hc c List.mem_cons_self)) (by have := mix_len a j c hl; omega)) (fines_mix h hl j fun x hx => hc x (List.mem_cons_of_mem _ hx))

/-- a comprehension over a text -/
theorem lc_txt {a : List Nat} {g : TG} {tt : TT} {te : TE} {vs : List Nat} {σ : L2.St} {H1 : Hp} {D : Addr} {Qd : Hp → Prop} (Pv : Nat → Hp → Prop) (h0 : Pv 0 (upd H1 D (.lst [])))
    (hs : ∀ i c H, a[i]? = some c → Pv i H → g (.str (S [c])) (wipe σ vs) H fun σ2 H2 => wipe σ2 vs = wipe σ vs ∧ tt σ2 H2 fun b H3 =>
      if b = true then te σ2 H3 fun y H4 => ∃ acc, H4 D = some (.lst acc) ∧ acc.length < sizeLine ∧ Pv (i + 1) (upd H4 D (.lst (acc ++ [y]))) else Pv (i + 1) H3) (hd : ∀ H, Pv a.length H → Qd H) :
    ∃ W : Nat → Nat → Hp → Prop, (∃ m, W 0 m (upd H1 D (.lst []))) ∧ ∀ i m H, W i m H →
      ((Its (S a)).stop i H ∧ Qd H) ∨ ((Its (S a)).go i H ∧ ∃ Nx : Hp → Prop, (∀ H', Nx H' → ∃ m', m' < m ∧ W (i + 1) m' H') ∧ ∀ x H', (Its (S a)).yld i H x H' → g x (wipe σ vs) H' fun σ2 H2 => wipe σ2 vs = wipe σ vs ∧ tt σ2 H2 fun b H3 =>
        if b = true then te σ2 H3 fun y H4 => ∃ acc, H4 D = some (.lst acc) ∧ acc.length < sizeLine ∧ Nx (upd H4 D (.lst (acc ++ [y]))) else Nx H3) := by
  refine ⟨fun i m H => m = a.length - i ∧ i ≤ a.length ∧ Pv i H, ⟨a.length, by omega, Nat.zero_le _, h0⟩, ?_⟩
  rintro i m H ⟨rfl, hi, p⟩
  have sz : (S a).cps.size = a.length := SX.S_len a
  by_cases hlt : i < a.length
  · refine .inr ⟨(show i < (S a).cps.size by omega), Pv (i + 1), fun H' p' => ⟨a.length - (i + 1), by omega, rfl, hlt, p'⟩, fun x H' y => ?_⟩
    obtain ⟨e, c, hc, ex⟩ := y
    subst e ex
    have hc' : a[i]? = some c := by
      have : (S a).cps[i]? = a[i]? := List.getElem?_toArray ..
      rw [← this]; exact hc
    exact hs i c _ hc' p
  · have e : i = a.length := by omega
    subst e
    exact .inl ⟨(show (S a).cps.size ≤ a.length by omega), hd _ p⟩
theorem ne_nil {K : PySem.W.Frag} {H : Hp} {D e : Addr} (h1 : H D = some (.lst [])) (h2 : H e = some (.lst [])) {Q : V → Prop} (q : Q (.bl false)) : ∃ d e', Dp K H (.ref D) d ∧ Dp K H (.ref e) e' ∧ SeqAt.shaped d = true ∧ SeqAt.shaped e' = true ∧ Q (.bl (!PyData.eqv d e')) :=
  ⟨.list [], .list [], .lst (SqL.of h1) .nil, .lst (SqL.of h2) .nil, shaped_nil, shaped_nil, by rw [eqv_nil]; exact q⟩
theorem rep_data {K : PySem.W.Frag} {H : Hp} {p : Addr} {xs : List V} {ds : List PyData} (e : H p = some (.lst xs)) (n : p ≠ sysModules) (f : Fines K H xs ds) (l : xs.length ≤ 60) :
    Dx K H (.ref p) (.list ds) ∧ (PyData.list ds).showable = true ∧ (PyData.list ds).leavesShort 100 = true ∧ (PyData.list ds).depth ≤ 11 ∧ (PyData.list ds).weight ≤ 4101 * xs.length := by
  obtain ⟨h1, h2, h3, h4, h5⟩ := f.all
  exact ⟨.lst e n h1, by simpa [PyData.showable] using h2, by simpa [PyData.leavesShort] using h3, by simp only [PyData.depth]; omega, by simp only [PyData.weight]; omega⟩
theorem rep_two {K : PySem.W.Frag} {H : Hp} {p q r : Addr} {xs ys : List V} {ds es : List PyData} (e : H p = some (.lst xs)) (n : p ≠ sysModules) (f : Fines K H xs ds) (l : xs.length ≤ 6) (e2 : H q = some (.lst ys)) (n2 : q ≠ sysModules) (f2 : Fines K H ys es) (l2 : ys.length ≤ 28)
    (e3 : H r = some (.lst [.ref p, .ref q])) (n3 : r ≠ sysModules) :
    Dx K H (.ref r) (.list [.list ds, .list es]) ∧ (PyData.list [.list ds, .list es]).showable = true ∧ (PyData.list [.list ds, .list es]).shown.length ≤ sizeLine ∧ (PyData.list [.list ds, .list es]).depth ≤ 50 := by
  obtain ⟨a1, a2, a3, a4, a5⟩ := rep_data e n f (by omega)
  obtain ⟨b1, b2, b3, b4, b5⟩ := rep_data e2 n2 f2 (by omega)
  refine ⟨.lst e3 n3 (.cons a1 (.cons b1 .nil)), ?_, ?_, ?_⟩
  · simp only [PyData.showable, PyData.showableAll] at a2 b2 ⊢
    rw [a2, b2]; rfl
  · have h := PyData.shown_le 100 (by decide) (.list [.list ds, .list es]) (by simp only [PyData.leavesShort, PyData.leavesShortAll] at a3 b3 ⊢; rw [a3, b3]; rfl)
    have hw : (PyData.list [.list ds, .list es]).weight = (PyData.list ds).weight + 1 + ((PyData.list es).weight + 1 + 0) := by simp only [PyData.weight, PyData.weightAll]
    rw [hw] at h
    unfold sizeLine
    omega
  · have hd : (PyData.list [.list ds, .list es]).depth = max (PyData.list ds).depth (max (PyData.list es).depth 0) + 1 := by simp only [PyData.depth, PyData.depthAll]
    rw [hd]; omega

theorem fines_txts {K : PySem.W.Frag} {H : Hp} : ∀ {gl : List (List Nat)}, (∀ g ∈ gl, abs g = true ∧ g.length ≤ 200) → Fines K H (gl.map fun g => V.str (S g)) (gl.map fun g => PyData.str (S g))
  | [], _ => .nil
  | g :: r, h => .cons (fine_txt (abs_lt (h g List.mem_cons_self).1) (by have := (h g List.mem_cons_self).2; omega)) (fines_txts fun x hx => h x (List.mem_cons_of_mem _ hx))
theorem rowB_of {g : List Nat} (h : abs g = true ∧ g.length ≤ 200) : rowB g = true := by unfold rowB; rw [decide_eq_true h.2, h.1]; rfl

theorem tyOf_same {K : PySem.W.Frag} {H H' : Hp} (s : Same H H') {x : V} {t : Value} (h : TyOf K H x t) : TyOf K H' x t := by
  cases h with
  | non => exact .non
  | bl x => exact .bl x
  | int i => exact .int i
  | str x => exact .str x
  | flt x => exact .flt x
  | lst e => exact .lst (s _ _ e)
  | frz e => exact .frz (s _ _ e)
  | tup e => exact .tup (s _ _ e)
  | dK e => exact .dK (s _ _ e)
  | dT e => exact .dT (s _ _ e)
  | ins e cl ha hn htk hm => exact .ins (s _ _ e) cl ha hn htk hm
theorem tyX_same {K : PySem.W.Frag} {H H' : Hp} (s : Same H H') {x : V} {t : Value} (h : TyX K H x t) : TyX K H' x t := by
  cases h with
  | base h => exact .base (tyOf_same s h)
  | byt b => exact .byt b
  | set e => exact .set (s _ _ e)
  | kList e c => exact .kList e c
  | kTuple e c => exact .kTuple e c
  | kDict e c => exact .kDict e c
  | fTuple e => exact .fTuple (s _ _ e)
  | fDict e => exact .fDict (s _ _ e)
theorem BadRow.same {K : PySem.W.Frag} {H H' : Hp} (s : Same H H') {x : V} (h : BadRow K H x) : BadRow K H' x := by
  rcases h with h | ⟨t, h1, h2⟩
  · exact .inl h
  · exact .inr ⟨t, tyX_same s h1, h2⟩
end Vx
namespace Vx
open PySem PySem.Spec PyProof.Rows L2
/-! zip of a list and a text -/
def Itlt (K : PySem.W.Frag) (a : Addr) (x : Str) : It :=
  ⟨fun i H => ∃ xs, SqL K H a xs ∧ i < xs.length ∧ i < x.cps.size,
    fun i H v H' => ∃ T y c, v = .ref T ∧ H T = none ∧ H' = upd H T (.tup [y, .str ⟨#[c]⟩]) ∧ (∀ xs, SqL K H a xs → xs[i]? = some y) ∧ x.cps[i]? = some c,
    fun i H => ∃ xs, SqL K H a xs ∧ i ≤ xs.length ∧ i ≤ x.cps.size ∧ (i = xs.length ∨ i = x.cps.size)⟩
theorem turn_zipLT {P : Program} {w : World} {K : PySem.W.Frag} {elts : List Expr} {kk : Nat} {tpos : Pos} {a z TI TO i1 i2 : Addr} {x : Str} {t : Tok} (S : ZipSep2 z TI TO i1 i2 [i1, a] [i2]) (ne : a ≠ i1) :
    Turn P w K (.Tuple elts kk tpos) (Itlt K a x) [z, TI, TO, i1, i2] z (fun i h => IsZip h z TI TO .none ∧ IsTupOf2 h TI (.ref i1) (.ref i2) ∧ (∃ u v, IsTupOf2 h TO u v) ∧ h.IsListIter i1 a i ∧ h.IsStrIter i2 (strIterType x) x t i) where
  mem := by simp
  obj := fun i h st c hc => by
    obtain ⟨hz, hTI, ⟨u, v, hTO⟩, ⟨o1, e1, _, d1⟩, ⟨o2, e2, _, d2⟩⟩ := st
    simp only [List.mem_cons, List.not_mem_nil, or_false] at hc
    rcases hc with rfl | rfl | rfl | rfl | rfl
    · exact ⟨_, hz, fun v q => nomatch q⟩
    · exact ⟨_, hTI, fun v q => nomatch q⟩
    · exact ⟨_, hTO, fun v q => nomatch q⟩
    · exact ⟨o1, e1, fun v q => by rw [d1] at q; cases q⟩
    · exact ⟨o2, e2, fun v q => by rw [d2] at q; cases q⟩
  keep := fun i h h' st k => by
    obtain ⟨hz, hTI, ⟨u, v, hTO⟩, h1, ⟨o2, e2, r2⟩⟩ := st
    exact ⟨k z (by simp) _ hz, k TI (by simp) _ hTI, ⟨u, v, k TO (by simp) _ hTO⟩, h1.at fun o q => k i1 (by simp) o q, ⟨o2, k i2 (by simp) o2 e2, r2⟩⟩
  item := by
    intro X hP hw hK hc i pins s σ H E I hf st hg
    subst hP hw hK
    obtain ⟨hz, hTI, ⟨u0, v0, hTO⟩, h1, h2⟩ := st
    obtain ⟨xs, hq, hi, hi2⟩ := hg
    obtain ⟨its, rv, p, _⟩ := I.list hq
    have many := rv.length
    have hzl : z < s.heap.objs.size := Heap.lt_size hz
    have calm : X.A.in1.handled = none := I.ok.hd hc
    refine wpAny_pyNext_zipD2_item S (Draws.list calm i1 a ne its.toArray) (Draws.text calm i2 x t) hz hTI hTO ⟨h1, p.isList⟩ h2 (by simp only [List.size_toArray]; omega) hi2 ?_
    rintro x1 x2 h' tk hx1 ⟨c, tc, hcx, rfl⟩ z' TO' ⟨h1', _⟩ h2' hT hsz hk
    refine ⟨_, rfl, wpAny_letOwnedTupleGo_zip (s := { s with heap := h', toks := tk }) z' fun h'' z'' sb => ?_⟩
    have gx : xs[i]? = some xs[i] := List.getElem?_eq_getElem hi
    obtain ⟨u, hu, ru⟩ := rv.get gx
    obtain rfl : x1 = u := by
      have e : its[i]? = some x1 := by simpa using hx1
      rw [hu] at e; exact (Option.some.inj e).symm
    have hT2 : h''.get? s.heap.objs.size = some { cls := .type "tuple", data := .seq #[x1, .str ⟨#[c]⟩ tc] } := (sb.2 _ (Nat.ne_of_gt hzl)).trans hT
    have new : ObjOk X.prog X.w (upd H s.heap.objs.size (.tup [xs[i], .str ⟨#[c]⟩])) h'' s.heap.objs.size (.tup [xs[i], .str ⟨#[c]⟩]) :=
      ⟨by show 2 ≤ sizeLine; decide, [x1, .str ⟨#[c]⟩ tc], .cons ru (.cons ⟨tc, rfl⟩ .nil), ⟨_, hT2, rfl, _, rfl⟩⟩
    have I1 : Inv X pins σ (upd H s.heap.objs.size (.tup [xs[i], .str ⟨#[c]⟩])) { s with heap := h'', toks := tk } :=
      I.turnedNew (t' := tk) (ch := [z, TI, TO, i1, i2]) (fun d o hb q => by
        simp only [List.mem_cons, List.not_mem_nil, or_false, not_or] at hb
        obtain ⟨b1, b2, b3, b4, b5⟩ := hb
        exact (sb.2 d b1).trans (hk d o b1 b3 b4 b5 q)) hf (Nat.le_refl _) new
    refine ⟨.ref s.heap.objs.size, _, I1, rfl, ⟨_, xs[i], c, rfl, I.hok.fresh (Nat.le_refl _), rfl, fun l hl => by rw [I.list_inj hl hq]; exact gx, hcx⟩, ⟨z'', ?_, ⟨x1, .str ⟨#[c]⟩ tc, ?_⟩, ?_, ?_⟩, fun d hd => ?_⟩
    · exact (sb.2 _ S.TIz).trans (hk _ _ S.TIz S.TITO S.TIi1 S.TIi2 hTI)
    · exact (sb.2 _ S.TOz).trans TO'
    · exact h1'.at fun o q => (sb.2 _ S.zi1.symm).trans q
    · obtain ⟨o2, e2, r2⟩ := h2'
      exact ⟨o2, (sb.2 _ S.zi2.symm).trans e2, r2⟩
    · have below : d < s.heap.objs.size := by
        simp only [List.mem_cons, List.not_mem_nil, or_false] at hd
        rcases hd with rfl | rfl | rfl | rfl | rfl
        · exact hzl
        · exact Heap.lt_size hTI
        · exact Heap.lt_size hTO
        · obtain ⟨_, e, _⟩ := h1; exact Heap.lt_size e
        · obtain ⟨_, e, _⟩ := h2; exact Heap.lt_size e
      rw [upd_ne (Nat.ne_of_lt below)]
      exact (hf d hd).1
  done := by
    intro X hP hw hK hc i pins s σ H E I hf st hg
    subst hP hw hK
    obtain ⟨hz, hTI, ⟨u0, v0, hTO⟩, h1, h2⟩ := st
    obtain ⟨xs, hq, l1, l2, hend⟩ := hg
    obtain ⟨its, rv, p, _⟩ := I.list hq
    have many := rv.length
    have calm : X.A.in1.handled = none := I.ok.hd hc
    refine wpAny_pyNext_zipD2_end S (Draws.list calm i1 a ne its.toArray) (Draws.text calm i2 x t) hz hTI hTO ⟨h1, p.isList⟩ h2 (by simp only [List.size_toArray]; omega) l2 (by simp only [List.size_toArray]; omega) ?_
    intro h' tk hk
    exact ⟨rfl, I.turnedL (t' := tk) (ch := [z, TI, TO, i1, i2]) (fun d o hb q => by
      simp only [List.mem_cons, List.not_mem_nil, or_false, not_or] at hb
      obtain ⟨b1, b2, b3, b4, b5⟩ := hb
      exact hk d o b1 b3 b4 b5 q) hf⟩
  self := fun A i s Q E st h => wpAny_pyIter_zip st.1 h
def iZipLT (K : PySem.W.Frag) (ta : TA) : TI := fun σ H R => ta σ H fun vs H1 => ∃ a xs x, vs = [.ref a, .str x] ∧ SqL K H1 a xs ∧ R (Itlt K a x) H1
theorem pi_zipLT {X : Cx} {e e2 : Expr} {ta : TA} {p pos tpos : Pos} {elts : List Expr} {kk : Nat} (hg : Gl X "zip") (hm : X.mg "zip" = none) (ha : PA X [e, e2] ta)
    (hs : starEach [e, e2] X.env = (false, eval e X.env) :: starEach [e2] X.env := by rfl) (hpl : (backTo pos (starEach [e2] X.env)).any (·.1) = false := by rfl) :
    PI X (.Tuple elts kk tpos) (.Call (.Name "zip" p) [e, e2] [] pos) (iZipLT X.K ta) := by
  constructor
  intro pins s σ H R I h
  refine Call_ (ld_blt I hg hm PyProof.Rows.boot_zip (PyProof.Rows.callWith_type1 (thn (ha.run pos pins s σ H _ I h) ?_) hs hpl))
  rintro us s1 ⟨vs, H1, I1, r1, a, xs, x, rfl, hq, q⟩
  obtain ⟨u1, u2, rfl, r1, r2⟩ := vals2 r1
  cases r1
  obtain ⟨t, rfl⟩ := r2
  obtain ⟨its, rv, p1, _⟩ := I1.list hq
  have la : a < s1.heap.objs.size := p1.lt
  refine zip_begins2 (begins_list a its.toArray) (begins_text x t) p1.isList trivial fun h' hz hTI hTO g1 g2 hsz hk => wpAny_pyIter_zip hz ?_
  have I2 : Inv X pins σ H1 { s1 with heap := h' } := I1.kept (t' := s1.toks) hk
  have sep := zip_sep2 (N := s1.heap.objs.size) (fp1 := [a]) (fp2 := []) (fun b hb => by rw [List.mem_singleton.mp hb]; exact la) (fun b hb => nomatch hb)
  refine ⟨s1.heap.objs.size + 4, [s1.heap.objs.size + 4, s1.heap.objs.size + 2, s1.heap.objs.size + 3, s1.heap.objs.size, s1.heap.objs.size + 1], _, _, H1, rfl, I2, turn_zipLT (t := t) sep (Nat.ne_of_lt la), ⟨hz, hTI, ⟨_, _, hTO⟩, ⟨_, g1, rfl, rfl⟩, ⟨_, g2, rfl, rfl⟩⟩, fun c hc => ?_, q⟩
  have above : s1.heap.objs.size ≤ c := by
    simp only [List.mem_cons, List.not_mem_nil, or_false] at hc
    rcases hc with z | z | z | z | z
    · rw [z]; exact Nat.le_add_right _ _
    · rw [z]; exact Nat.le_add_right _ _
    · rw [z]; exact Nat.le_add_right _ _
    · rw [z]; exact Nat.le_refl _
    · rw [z]; exact Nat.le_add_right _ _
  exact I1.fpOk above (I1.hok.fresh above)
/-- a comprehension over a zip of a list and a text of one length -/
theorem lc_zipLT {K : PySem.W.Frag} {a : Addr} {xs : List V} {cs : List Nat} {g : TG} {tt : TT} {te : TE} {vs : List Nat} {σ : L2.St} {H1 : Hp} {D : Addr} {Qd : Hp → Prop} (m : Nat) (hm : m ≤ xs.length ∧ m ≤ cs.length ∧ (m = xs.length ∨ m = cs.length)) (Pv : Nat → Hp → Prop) (h0 : Pv 0 (upd H1 D (.lst [])))
    (hl : ∀ i H, i ≤ m → Pv i H → SqL K H a xs)
    (hs : ∀ i y c T H, xs[i]? = some y → cs[i]? = some c → Pv i H → H T = none → g (.ref T) (wipe σ vs) (upd H T (.tup [y, .str (S [c])])) fun σ2 H2 => wipe σ2 vs = wipe σ vs ∧ tt σ2 H2 fun b H3 =>
      if b = true then te σ2 H3 fun y H4 => ∃ acc, H4 D = some (.lst acc) ∧ acc.length < sizeLine ∧ Pv (i + 1) (upd H4 D (.lst (acc ++ [y]))) else Pv (i + 1) H3) (hd : ∀ H, Pv m H → Qd H) :
    ∃ W : Nat → Nat → Hp → Prop, (∃ m, W 0 m (upd H1 D (.lst []))) ∧ ∀ i m H, W i m H →
      ((Itlt K a (S cs)).stop i H ∧ Qd H) ∨ ((Itlt K a (S cs)).go i H ∧ ∃ Nx : Hp → Prop, (∀ H', Nx H' → ∃ m', m' < m ∧ W (i + 1) m' H') ∧ ∀ x H', (Itlt K a (S cs)).yld i H x H' → g x (wipe σ vs) H' fun σ2 H2 => wipe σ2 vs = wipe σ vs ∧ tt σ2 H2 fun b H3 =>
        if b = true then te σ2 H3 fun y H4 => ∃ acc, H4 D = some (.lst acc) ∧ acc.length < sizeLine ∧ Nx (upd H4 D (.lst (acc ++ [y]))) else Nx H3) := by
  have sz : (S cs).cps.size = cs.length := SX.S_len cs
  refine ⟨fun i k H => k = m - i ∧ i ≤ m ∧ Pv i H, ⟨m, by omega, Nat.zero_le _, h0⟩, ?_⟩
  rintro i k H ⟨rfl, hi, p⟩
  have q := hl i H hi p
  by_cases hlt : i < m
  · refine .inr ⟨⟨xs, q, by omega, by omega⟩, Pv (i + 1), fun H' p' => ⟨m - (i + 1), by omega, rfl, hlt, p'⟩, fun x H' y => ?_⟩
    obtain ⟨T, y, c, rfl, nT, rfl, hy, hc⟩ := y
    have hc' : cs[i]? = some c := by
      have : (S cs).cps[i]? = cs[i]? := List.getElem?_toArray ..
      rw [← this]; exact hc
    exact hs i y c T H (hy xs q) hc' p nT
  · have e : i = m := by omega
    subst e
    exact .inl ⟨⟨xs, q, hm.1, by omega, by omega⟩, hd _ p⟩
end Vx
namespace Vx
open PySem PySem.Spec PyProof.Rows L2
/-! enumerate over a text -/
def Itet (x : Str) : It :=
  ⟨fun i H => i < x.cps.size, fun i H v H' => ∃ T c, v = .ref T ∧ H T = none ∧ H' = upd H T (.tup [.int (i : Nat), .str ⟨#[c]⟩]) ∧ x.cps[i]? = some c, fun i H => i = x.cps.size⟩
theorem turn_enumT {P : Program} {w : World} {K : PySem.W.Frag} {elts : List Expr} {kk : Nat} {tpos : Pos} {x : Str} {t : Tok} (e it : Addr) (ne : e ≠ it) :
    Turn P w K (.Tuple elts kk tpos) (Itet x) [e, it] e (fun i h => (∃ old, IsEnum h e it ((i : Nat) : Int) old) ∧ h.IsStrIter it (strIterType x) x t i) where
  mem := by simp
  obj := fun i h st b hb => by
    obtain ⟨⟨old, he⟩, ⟨o, ho, hc, hd⟩⟩ := st
    have e' : b = e ∨ b = it := by simpa using hb
    rcases e' with z | z
    · rw [z]; exact ⟨_, he, fun v q => nomatch q⟩
    · rw [z]; exact ⟨o, ho, fun v q => by rw [hd] at q; cases q⟩
  keep := fun i h h' st k => let ⟨⟨old, he⟩, o, ho, r⟩ := st; ⟨⟨old, k e (by simp) _ he⟩, ⟨o, k it (by simp) o ho, r⟩⟩
  item := by
    intro X hP hw hK hc i pins s σ H E I hf st hg
    subst hP hw hK
    obtain ⟨⟨old, he⟩, hit⟩ := st
    have calm : X.A.in1.handled = none := I.ok.hd hc
    have hel : e < s.heap.objs.size := Heap.lt_size he
    have hil : it < s.heap.objs.size := by obtain ⟨_, q, _⟩ := hit; exact Heap.lt_size q
    refine wpAny_pyNext_enum_itemD (Draws.text calm it x t) he hit hg ne (fun z => ne (List.mem_singleton.mp z)) ?_
    rintro u h' tk ⟨c, tc, hcx, rfl⟩ ho hit' hT hsz hk
    refine ⟨_, rfl, wpAny_letOwnedTupleGo_enum (s := { s with heap := h', toks := tk + 1 }) ho fun h'' he' sb => ?_⟩
    have hT2 : h''.get? s.heap.objs.size = some { cls := .type "tuple", data := .seq #[.int i tk, .str ⟨#[c]⟩ tc] } := (sb.2 _ (Nat.ne_of_gt hel)).trans hT
    have new : ObjOk X.prog X.w (upd H s.heap.objs.size (.tup [.int (i : Nat), .str ⟨#[c]⟩])) h'' s.heap.objs.size (.tup [.int (i : Nat), .str ⟨#[c]⟩]) :=
      ⟨by show 2 ≤ sizeLine; decide, [.int i tk, .str ⟨#[c]⟩ tc], .cons ⟨_, rfl⟩ (.cons ⟨_, rfl⟩ .nil), ⟨_, hT2, rfl, _, rfl⟩⟩
    have I1 : Inv X pins σ (upd H s.heap.objs.size (.tup [.int (i : Nat), .str ⟨#[c]⟩])) { s with heap := h'', toks := tk + 1 } :=
      I.turnedNew (t' := tk + 1) (ch := [e, it]) (fun b ob hb q => (sb.2 b (fun z => hb (by simp [z]))).trans (hk b ob (fun z => hb (by simp [z])) (fun z => hb (by simp [z])) q)) hf (Nat.le_refl _) new
    refine ⟨.ref s.heap.objs.size, _, I1, rfl, ⟨_, c, rfl, I.hok.fresh (Nat.le_refl _), rfl, hcx⟩, ⟨⟨.str ⟨#[c]⟩ tc, ?_⟩, ?_⟩, fun b hb => ?_⟩
    · have e1 : ((i + 1 : Nat) : Int) = (i : Int) + 1 := by omega
      rw [e1]; exact he'
    · obtain ⟨o2, e2, r2⟩ := hit'
      exact ⟨o2, (sb.2 it (Ne.symm ne)).trans e2, r2⟩
    · have hb' : b < s.heap.objs.size := by
        have e' : b = e ∨ b = it := by simpa using hb
        rcases e' with z | z
        · rw [z]; exact hel
        · rw [z]; exact hil
      rw [upd_ne (Nat.ne_of_lt hb')]
      exact (hf b hb).1
  done := by
    intro X hP hw hK hc i pins s σ H E I hf st hg
    subst hP hw hK
    obtain ⟨⟨old, he⟩, hit⟩ := st
    have calm : X.A.in1.handled = none := I.ok.hd hc
    have hg' : i = x.cps.size := hg
    subst hg'
    obtain ⟨f0, f1, f2, f3, f4, f5⟩ := hf it (by simp)
    exact wpAny_pyNext_enum_endD (Draws.text calm it x t) he hit fun h' eb => ⟨rfl, I.turned (t' := s.toks) (fun b o hb q => eb b o hb q) f0 f1 f3 f4 f5⟩
  self := fun A i s Q E st h => let ⟨⟨_, he⟩, _⟩ := st; wpAny_pyIter_enum he h
def iEnumT (ta : TA) : TI := fun σ H R => ta σ H fun vs H1 => ∃ x, vs = [.str x] ∧ R (Itet x) H1
theorem pi_enumT {X : Cx} {e : Expr} {ta : TA} {p pos tpos : Pos} {elts : List Expr} {kk : Nat} (hg : Gl X "enumerate") (hm : X.mg "enumerate" = none) (ha : PA X [e] ta) (hs : starEach [e] X.env = [(false, eval e X.env)] := by rfl) :
    PI X (.Tuple elts kk tpos) (.Call (.Name "enumerate" p) [e] [] pos) (iEnumT ta) := by
  refine ⟨fun pins s σ H R I h => ?_⟩
  refine Call_ (ld_blt I hg hm boot_enumerate (PyProof.Rows.callWith_type1 (thn (ha.run pos pins s σ H _ I h) fun us s1 ⟨vs, H1, I1, r1, q1⟩ => ?_) hs rfl))
  obtain ⟨x, rfl, q⟩ := q1
  obtain ⟨u, rfl, r⟩ := vals1 r1
  obtain ⟨t, rfl⟩ := r
  refine call_enumerate_str fun h' he hit hsz hk => wpAny_pyIter_enum he ?_
  have I2 : Inv X pins σ H1 { s1 with heap := h' } := I1.kept (t' := s1.toks) hk
  refine ⟨s1.heap.objs.size + 1, [s1.heap.objs.size + 1, s1.heap.objs.size], _, _, H1, rfl, I2, turn_enumT (t := t) (s1.heap.objs.size + 1) s1.heap.objs.size (Nat.succ_ne_self _), ⟨⟨.none, he⟩, hit⟩, fun b hb => ?_, q⟩
  have e' : b = s1.heap.objs.size + 1 ∨ b = s1.heap.objs.size := by simpa using hb
  have hle : s1.heap.objs.size ≤ b := by
    rcases e' with z | z
    · rw [z]; exact Nat.le_add_right _ _
    · rw [z]; exact Nat.le_refl _
  exact I1.fpOk hle (I1.hok.fresh hle)
theorem walk_enumT (a : List Nat) : Walk (Itet (S a)) a.length (fun _ => True) (fun i H v H' => ∃ T c, v = .ref T ∧ H T = none ∧ H' = upd H T (.tup [.int (i : Nat), .str (S [c])]) ∧ a[i]? = some c) where
  goes := fun i H hi _ => show i < (S a).cps.size by rw [show (S a).cps.size = a.length from SX.S_len a]; exact hi
  stops := fun H _ => show a.length = (S a).cps.size from (SX.S_len a).symm
  yields := fun i H x H' _ _ y => by
    obtain ⟨T, c, rfl, h, rfl, hc⟩ := y
    exact ⟨T, c, rfl, h, rfl, by rw [← hc]; exact (List.getElem?_toArray ..).symm⟩
theorem walk_txt (a : List Nat) : Walk (Its (S a)) a.length (fun _ => True) (fun i H v H' => H' = H ∧ ∃ c, v = .str (S [c]) ∧ a[i]? = some c) where
  goes := fun i H hi _ => show i < (S a).cps.size by rw [show (S a).cps.size = a.length from SX.S_len a]; exact hi
  stops := fun H _ => show (S a).cps.size ≤ a.length from Nat.le_of_eq (SX.S_len a)
  yields := fun i H x H' _ _ y => by
    obtain ⟨e, c, hc, ex⟩ := y
    subst e ex
    exact ⟨rfl, c, rfl, by rw [← hc]; exact (List.getElem?_toArray ..).symm⟩
/-! rules that name the new heap by an equation -/
section
variable {X : Cx} {es : List Expr} {pos : Pos} {t : TA}
def rAppendQ : V → List V → Hp → VK → Prop := fun x vs H Q => ∃ l xs y, x = .ref l ∧ vs = [y] ∧ H l = some (.lst xs) ∧ xs.length < sizeLine ∧ ∀ H', H' = upd H l (.lst (xs ++ [y])) → Q .non H'
theorem mtq_append : MtM X "list.append" rAppendQ := by
  intro pins s σ H x vs v us Q I rx rv h
  obtain ⟨l, xs, y, h1, h2, h3, h4, q⟩ := h
  exact mt_append pins s σ H x vs v us Q I rx rv ⟨l, xs, y, h1, h2, h3, h4, q _ rfl⟩
def rReverseQ : V → List V → Hp → VK → Prop := fun x vs H Q => ∃ l xs, x = .ref l ∧ vs = [] ∧ H l = some (.lst xs) ∧ ∀ H', H' = upd H l (.lst xs.reverse) → Q .non H'
theorem mtq_reverse : MtM X "list.reverse" rReverseQ := by
  intro pins s σ H x vs v us Q I rx rv h
  obtain ⟨l, xs, h1, h2, h3, q⟩ := h
  exact mt_reverse pins s σ H x vs v us Q I rx rv ⟨l, xs, h1, h2, h3, q _ rfl⟩
def rSetLQ : V → V → V → Hp → (Hp → Prop) → Prop := fun o i v H Q => ∃ p xs k j, o = .ref p ∧ i = .int k ∧ H p = some (.lst xs) ∧ ixN xs.length k = some j ∧ ∀ H', H' = upd H p (.lst (xs.set j v)) → Q H'
theorem setq_list : PSet X rSetLQ := by
  intro pins s σ H o i v ov iv u Q I ro ri rv h
  obtain ⟨p, xs, k, j, h1, h2, h3, h4, q⟩ := h
  exact set_list pins s σ H o i v ov iv u Q I ro ri rv ⟨p, xs, k, j, h1, h2, h3, h4, q _ rfl⟩
def tLstQ (t : TA) : TE := fun σ H Q => t σ H fun xs H1 => xs.length ≤ sizeLine ∧ ∀ p H', H1 p = none → p ≠ sysModules → H' = upd H1 p (.lst xs) → Q (.ref p) H'
theorem peq_lst (h : PA X es t) : PE X (.List es pos) (tLstQ t) := by
  constructor
  intro pins s σ H Q I hq
  apply wpAny_List_spliced
  refine thn (h.run pos pins s σ H _ I hq) ?_
  rintro us s1 ⟨xs, H1, I1, r, z, q⟩
  refine ⟨by rw [← r.length]; exact z, ?_⟩
  have fresh : H1 s1.heap.objs.size = none := I1.hok.fresh (Nat.le_refl _)
  exact ⟨.ref s1.heap.objs.size, upd H1 s1.heap.objs.size (.lst xs), I1.laid (t' := s1.toks) (fun b u e => Heap.get?_push_of_some _ e) (Nat.le_refl _) ⟨z, us, 0, r, Heap.get?_push_size _ rfl⟩, rfl, q _ _ fresh (big_ne I1) rfl⟩
def tTupQ (t : TA) : TE := fun σ H Q => t σ H fun xs H1 => xs.length ≤ sizeLine ∧ ∀ p H', H1 p = none → p ≠ sysModules → H' = upd H1 p (.tup xs) → Q (.ref p) H'
theorem peq_tup {x1} (h : PA X es t) : PE X (.Tuple es x1 pos) (tTupQ t) := by
  refine ⟨fun pins s σ H Q I hq => ?_⟩
  refine wpAny_Tuple_spliced (thn (h.run pos pins s σ H _ I hq) fun us s1 ⟨xs, H1, I1, r, z, q⟩ => ⟨by rw [← r.length]; exact z, ?_⟩)
  have hf : H1 s1.heap.objs.size = none := I1.hok.fresh (Nat.le_refl _)
  refine ⟨.ref s1.heap.objs.size, upd H1 s1.heap.objs.size (.tup xs), I1.laid (t' := s1.toks) (fun b u e => Heap.get?_push_of_some _ e) (Nat.le_refl _) ?_, rfl, q _ _ hf (big_ne I1) rfl⟩
  exact ⟨z, us, r, ⟨_, Heap.get?_push_size _ rfl, rfl, _, rfl⟩⟩
end
end Vx
namespace Vx
open PySem PySem.Spec PyProof.Rows L2
/-! ints as data that can be shown -/
def smallI (i : Int) : Prop := i.natAbs < 10 ^ 95
theorem fine_int {K : PySem.W.Frag} {H : Hp} {i : Int} (h : i.natAbs < 10 ^ 95) : Fine K H (.int i) (.int i) := by
  have hb : i.natAbs < 2 ^ 316 := Nat.lt_of_lt_of_le h (by decide +kernel)
  have hlg : i.natAbs.log2 < 316 := by
    by_cases z : i.natAbs = 0
    · rw [z]; decide
    · exact (Nat.log2_lt z).mpr hb
  refine ⟨.int i, ?_, ?_, by simp [PyData.depth], ?_⟩
  · show decide (i.natAbs.log2 < 1920) = true
    exact decide_eq_true (by omega)
  · have : (PyData.shown (.int i)).length ≤ 96 := by
      have e := int_text_length_le10 (k := 95) (by decide) h
      show (Str.ofString (toString i)).length ≤ 96
      rw [PySem.ofString_length]; exact e
    show decide ((PyData.shown (.int i)).length ≤ 100) = true
    exact decide_eq_true (by omega)
  · show (if i == 0 then 0 else i.natAbs.log2 + 1) ≤ 4100
    split
    · omega
    · omega
theorem int_small {i : Int} (h0 : 0 ≤ i) (h : i ≤ 1000000) : i.natAbs < 10 ^ 95 := Nat.lt_of_le_of_lt (show i.natAbs ≤ 1000000 by omega) (by decide +kernel)
theorem fines_ints {K : PySem.W.Frag} {H : Hp} : ∀ {ns : List Int}, (∀ x ∈ ns, x.natAbs < 10 ^ 95) → Fines K H (ns.map V.int) (ns.map PyData.int)
  | [], _ => .nil
  | n :: r, h => .cons (fine_int (h n List.mem_cons_self)) (fines_ints fun x hx => h x (List.mem_cons_of_mem _ hx))
/-- what repr asks of a value and its data -/
structure Shows (K : PySem.W.Frag) (H : Hp) (x : V) (d : PyData) : Prop where
  dx : Dx K H x d
  sh : d.showable = true
  lv : d.leavesShort 100 = true
  dp : d.depth ≤ 40
  wt : d.weight ≤ 150000
theorem Shows.len {K : PySem.W.Frag} {H : Hp} {x : V} {d : PyData} (f : Shows K H x d) : d.shown.length ≤ sizeLine := by
  have h := PyData.shown_le 100 (by decide) d f.lv
  have := f.wt
  unfold sizeLine; omega
theorem Shows.same {K : PySem.W.Frag} {H H' : Hp} {x : V} {d : PyData} (s : Same H H') (f : Shows K H x d) : Shows K H' x d := { f with dx := f.dx.same s }
theorem Fine.shows {K : PySem.W.Frag} {H : Hp} {x : V} {d : PyData} (f : Fine K H x d) : Shows K H x d := ⟨f.dx, f.sh, f.lv, by have := f.dp; omega, by have := f.wt; omega⟩
inductive ShowAll (K : PySem.W.Frag) (H : Hp) : List V → List PyData → Nat → Nat → Prop
  | nil : ShowAll K H [] [] 0 0
  | cons {x : V} {d : PyData} {xs : List V} {ds : List PyData} {dp wt : Nat} : Dx K H x d → d.showable = true → d.leavesShort 100 = true → ShowAll K H xs ds dp wt → ShowAll K H (x :: xs) (d :: ds) (max d.depth dp) (d.weight + 1 + wt)
theorem ShowAll.all {K : PySem.W.Frag} {H : Hp} : ∀ {xs : List V} {ds : List PyData} {dp wt : Nat}, ShowAll K H xs ds dp wt →
    DxAll K H xs ds ∧ PyData.showableAll ds = true ∧ PyData.leavesShortAll 100 ds = true ∧ PyData.depthAll ds = dp ∧ PyData.weightAll ds = wt
  | _, _, _, _, .nil => ⟨.nil, by simp [PyData.showableAll], by simp [PyData.leavesShortAll], by simp [PyData.depthAll], by simp [PyData.weightAll]⟩
  | _, _, _, _, .cons h1 h2 h3 r => by
    obtain ⟨a1, a2, a3, a4, a5⟩ := ShowAll.all r
    exact ⟨.cons h1 a1, by simp [PyData.showableAll, h2, a2], by simp [PyData.leavesShortAll, h3, a3], by simp only [PyData.depthAll, a4], by simp only [PyData.weightAll, a5]⟩
theorem Shows.lst {K : PySem.W.Frag} {H : Hp} {p : Addr} {xs : List V} {ds : List PyData} {dp wt : Nat} (e : H p = some (.lst xs)) (n : p ≠ sysModules) (f : ShowAll K H xs ds dp wt) (h1 : dp ≤ 39) (h2 : wt ≤ 149999) : Shows K H (.ref p) (.list ds) := by
  obtain ⟨a1, a2, a3, a4, a5⟩ := f.all
  exact ⟨.lst e n a1, by simpa [PyData.showable] using a2, by simpa [PyData.leavesShort] using a3, by simp only [PyData.depth]; omega, by simp only [PyData.weight]; omega⟩
theorem Shows.tup {K : PySem.W.Frag} {H : Hp} {p : Addr} {xs : List V} {ds : List PyData} {dp wt : Nat} (e : H p = some (.tup xs)) (f : ShowAll K H xs ds dp wt) (h1 : dp ≤ 39) (h2 : wt ≤ 149999) : Shows K H (.ref p) (.tuple ds) := by
  obtain ⟨a1, a2, a3, a4, a5⟩ := f.all
  exact ⟨.tup (SqT.of e) a1, by simpa [PyData.showable] using a2, by simpa [PyData.leavesShort] using a3, by simp only [PyData.depth]; omega, by simp only [PyData.weight]; omega⟩
theorem shows_ints {K : PySem.W.Frag} {H : Hp} {p : Addr} {ns : List Int} (e : H p = some (.lst (ns.map V.int))) (n : p ≠ sysModules) (h : ∀ x ∈ ns, x.natAbs < 10 ^ 95) (hl : ns.length ≤ 220) :
    Dx K H (.ref p) (.list (ns.map PyData.int)) ∧ (PyData.list (ns.map PyData.int)).showable = true ∧ (PyData.list (ns.map PyData.int)).leavesShort 100 = true ∧ (PyData.list (ns.map PyData.int)).depth = 1 ∧ (PyData.list (ns.map PyData.int)).weight ≤ 70000 := by
  have hg : PyData.showableAll (ns.map PyData.int) = true ∧ PyData.leavesShortAll 100 (ns.map PyData.int) = true ∧ PyData.weightAll (ns.map PyData.int) ≤ 317 * ns.length ∧ DxAll K H (ns.map V.int) (ns.map PyData.int) := by
    clear e hl
    induction ns with
    | nil => exact ⟨by simp [PyData.showableAll], by simp [PyData.leavesShortAll], by simp [PyData.weightAll], .nil⟩
    | cons x r ih =>
      obtain ⟨a1, a2, a3, a4⟩ := ih fun y hy => h y (List.mem_cons_of_mem _ hy)
      have hx := h x List.mem_cons_self
      have f := fine_int (K := K) (H := H) hx
      have hw : (PyData.int x).weight ≤ 316 := by
        have hb : x.natAbs < 2 ^ 316 := Nat.lt_of_lt_of_le hx (by decide +kernel)
        show (if x == 0 then 0 else x.natAbs.log2 + 1) ≤ 316
        split
        · omega
        · have : x.natAbs ≠ 0 := fun z => by
            rename_i hne
            exact hne (by rw [Int.natAbs_eq_zero.mp z]; rfl)
          have := (Nat.log2_lt this).mpr hb
          omega
      refine ⟨by simp [PyData.showableAll, f.sh, a1], by simp [PyData.leavesShortAll, f.lv, a2], ?_, .cons f.dx a4⟩
      simp only [List.map_cons, PyData.weightAll, List.length_cons]; omega
  obtain ⟨a1, a2, a3, a4⟩ := hg
  exact ⟨.lst e n a4, by simpa [PyData.showable] using a1, by simpa [PyData.leavesShort] using a2, by simp only [PyData.depth]; rw [depth_ints], by simp only [PyData.weight]; omega⟩
end Vx
namespace Vx
open PySem PySem.Spec PyProof.Rows L2
/-! an instance made by a class that a local name holds -/
section
variable {X : Cx} {CX : CXT} {k : Nat} {f C : Addr} {fd : FuncData} {ps : List Str} {sp : Sp} {dvs : List V} {ds : List Value} {E : XK} {x : Str} {p pos : Pos} {e : Expr} {es : List Expr} {t : TA}
def tMakeL (i : Nat) (C : Addr) (sp : Sp) (dvs : List V) (E : XK) (t : TA) : TE := fun σ H Q => σ[i]? = some (some (.ref C)) ∧ tMake C sp dvs E t σ H Q
theorem pe_makeL {i : Nat} (M : Mk X.K C f) (F : FnOk X.prog X.w X.K X.mg X.base CX k f fd ps sp) (hr : Room (k + 1) X.A) (hN : X.N[i]? = some x) (hv : Vis X.env.scope x) (hb : Binds X.K fd ps ds) (hd : Vals dvs ds) (hx : Passes CX X E)
    (ha : PA X (e :: es) t) (hdb : (x == ("__debug__" : Str)) = false := by decide) (hcd : (x == ("__classdict__" : Str)) = false := by decide) (he : starEach (e :: es) X.env = (false, eval e X.env) :: starEach es X.env := by rfl) (hpl : (backTo pos (starEach es X.env)).any (·.1) = false := by rfl) :
    PE X (.Call (.Name x p) (e :: es) [] pos) (tMakeL i C sp dvs E t) := by
  refine ⟨fun pins s σ H Q I h => ?_⟩
  obtain ⟨h1, h2⟩ := h
  refine wpAny_Call_Name_kw (thn ((pe_var (pos := p) hN hv hdb hcd).run pins s σ H (fun v H1 => v = .ref C ∧ H1 = H) I ⟨.ref C, h1, rfl, rfl⟩) fun u s1 ⟨v, H1, I1, r1, q1⟩ => ?_)
  obtain ⟨rfl, rfl⟩ := q1
  cases r1
  refine PySem.W.callWith_K (h₀ := X.base) I1.ok.mod.kin M.kp (thn (ha.run pos pins s1 σ _ _ I1 h2) fun us s2 ⟨vs, H2, I2, r, q⟩ => ⟨I2.kIn, ?_⟩) he hpl
  exact run_make M F hr hb hd hx I2 r q
end
/-! Counts objects -/
theorem nAB : ¬ (("_many_a" : Str) = "_many_b") := by decide +kernel
theorem nAP : ¬ (("_many_a" : Str) = "_pairs") := by decide +kernel
theorem nBP : ¬ (("_many_b" : Str) = "_pairs") := by decide +kernel
theorem putF_len (f : Str) (v : V) : ∀ fs : List (Str × V), (putF f v fs).length ≤ fs.length + 1
  | [] => Nat.le_refl _
  | (g, x) :: r => by
    have ih := putF_len f v r
    unfold putF
    split
    · exact Nat.le_succ _
    · exact Nat.succ_le_succ ih
def flds (a b p : Int) : List (Str × V) := putF "_pairs" (.int p) (putF "_many_b" (.int b) (putF "_many_a" (.int a) []))
theorem flds_a (a b p : Int) : (flds a b p).lookup ("_many_a" : Str) = some (.int a) := by
  unfold flds
  rw [lookup_putF, if_neg nAP, lookup_putF, if_neg nAB, lookup_putF, if_pos rfl]
theorem flds_b (a b p : Int) : (flds a b p).lookup ("_many_b" : Str) = some (.int b) := by
  unfold flds
  rw [lookup_putF, if_neg nBP, lookup_putF, if_pos rfl]
theorem flds_p (a b p : Int) : (flds a b p).lookup ("_pairs" : Str) = some (.int p) := by
  unfold flds
  rw [lookup_putF, if_pos rfl]
theorem flds_no (a b p : Int) {m : Str} (h1 : ¬ m = "_many_a") (h2 : ¬ m = "_many_b") (h3 : ¬ m = "_pairs") : (flds a b p).lookup m = none := by
  unfold flds
  rw [lookup_putF, if_neg h3, lookup_putF, if_neg h2, lookup_putF, if_neg h1]; rfl
def CountsAt (C : Addr) (H : Hp) (x : Addr) (a b p : Int) : Prop := ∃ dx, H x = some (.ins C dx (flds a b p))
theorem CountsAt.same {C : Addr} {H H' : Hp} {x : Addr} {a b p : Int} (s : Same H H') (h : CountsAt C H x a b p) : CountsAt C H' x a b p := let ⟨dx, e⟩ := h; ⟨dx, s _ _ e⟩
theorem CountsAt.keep {C r : Addr} {H H' : Hp} {x : Addr} {a b p : Int} (s : Keep r H H') (n : x ≠ r) (h : CountsAt C H x a b p) : CountsAt C H' x a b p := let ⟨dx, e⟩ := h; ⟨dx, s _ _ n e⟩
/-- three numbers that are counts, of bounded size -/
structure COk (a b p : Int) : Prop where
  a0 : 0 ≤ a
  b0 : 0 ≤ b
  p0 : 0 ≤ p
  pm : p ≤ a * b
  ba : a.natAbs < 2 ^ 3000
  bb : b.natAbs < 2 ^ 3000
/-- what the walk asks of the class as the top has made it -/
structure CT (K : PySem.W.Frag) (mg : Str → Option Value) (C : Addr) : Prop where
  cl : Cls K C
  nA : NoAttr K C "_many_a"
  nB : NoAttr K C "_many_b"
  nP : NoAttr K C "_pairs"
  mg : mg "Counts" = some (.ref C)
def spInit (C : Addr) : Sp := fun vs H Q _ => ∃ (x dx : Addr) (a b p : Int), vs = [.ref x, .int a, .int b, .int p] ∧ H x = some (.ins C dx []) ∧ COk a b p ∧ ∀ H', CountsAt C H' x a b p → Keep x H H' → Q .non H'
theorem made_same {x dx : Addr} {H H' : Hp} {o1 o2 : HO} (nx : H x = none) (ndx : H dx = none) (k : Keep x (upd (upd H dx o1) x o2) H') : Same H H' := fun b o e => by
  have n1 := ne_of_none e nx
  refine k b o n1 ?_
  rw [upd_ne n1, upd_ne (ne_of_none e ndx)]; exact e
theorem mkC {C x dx : Addr} {H : Hp} {a b p : Int} {Q : VK} (nx : H x = none) (ndx : H dx = none) (c : COk a b p) (h : ∀ H', Same H H' → CountsAt C H' x a b p → Q (.ref x) H') :
    spInit C (.ref x :: ([.int a, .int b, .int p] ++ [])) (upd (upd H dx (.own x)) x (.ins C dx [])) (fun v H2 => v = .non ∧ Q (.ref x) H2) E0 :=
  ⟨x, dx, a, b, p, rfl, upd_same, c, fun H' hc k => ⟨rfl, h H' (made_same nx ndx k) hc⟩⟩
/-- is_integer: ints only -/
def spIsInt (K : PySem.W.Frag) : Sp := fun vs H Q _ => ∃ x, vs = [x] ∧ ((∃ i, x = .int i ∧ Q (.bl true) H) ∨ (∃ b, x = .bl b ∧ Q (.bl false) H) ∨ (∃ t, TyX K H x t ∧ PySem.W.kitOne K t (.type "int") = some false ∧ Q (.bl false) H))
def spAre : Sp := fun vs H Q _ => ∃ a b p : Int, vs = [.int a, .int b, .int p] ∧ COk a b p ∧ ∀ H', Same H H' → Q (.bl true) H'
/-! rules that name the class's fragment -/
section
variable {X : Cx}
def rLenK (K : PySem.W.Frag) : List V → Hp → VK → Prop := fun xs H Q => ∃ p ys, xs = [V.ref p] ∧ SqL K H p ys ∧ Q (V.int ys.length) H
theorem call_lenK (K : PySem.W.Frag) (h : X.K = K) : CallR X (.builtin "len") (rLenK K) := by
  subst h
  intro pins s σ H xs us Q I r h
  obtain ⟨p, ys, e, hs, q⟩ := h
  exact call_len_seq pins s σ H xs us Q I r ⟨p, ys, e, .inl hs, q⟩
theorem pi_listK (K : PySem.W.Frag) (h : X.K = K) {tg e : Expr} {te : TE} (he : PE X e te) : PI X tg e (iList K te) := by
  subst h
  exact pi_list he
theorem call_reprK (K : PySem.W.Frag) (h : X.K = K) (hg : X.A.guards = some []) (hu : X.A.units + 64 < cLine) : CallR X (.builtin "repr") (rRepr K) := by
  subst h
  exact call_reprX hg hu
/-- xs * n, the new list by an equation -/
def rRepQ : R2 := fun x y H Q => ∃ l k xs, x = .ref l ∧ y = .int k ∧ H l = some (.lst xs) ∧ -(2 ^ 63) ≤ k ∧ k < 2 ^ 63 ∧ xs.length * k.toNat ≤ sizeLine ∧
  ∀ p H', H p = none → p ≠ sysModules → H' = upd H p (.lst (List.replicate k.toNat xs).flatten) → Q (.ref p) H'
end
end Vx
namespace Vx
open PySem PySem.Spec PyProof.Rows L2
/-! shown data as texts of characters -/
def okS (x : Str) : Prop := x.cps.all (· < 0x110000) = true
theorem okS_of (s : String) : okS (Str.ofString s) := by
  unfold okS
  rw [Str.ofString_eq_toList]
  rw [Array.all_eq_true_iff_forall_mem]
  intro c hc
  have hc' : c ∈ s.toList.map Char.toNat := by simpa using hc
  obtain ⟨d, _, rfl⟩ := List.mem_map.mp hc'
  have := d.valid
  have h2 : d.toNat < 0x110000 := by
    rcases this with h | ⟨_, h⟩
    · exact Nat.lt_trans h (by decide)
    · exact h
  simpa using h2
theorem okS_append {x y : Str} (h1 : okS x) (h2 : okS y) : okS (x ++ y) := by
  unfold okS at *
  show (x.cps ++ y.cps).all _ = true
  rw [Array.all_append, h1, h2]; rfl
theorem okS_textFrom : ∀ (ts : List Str) (k : Nat) (acc : Str), okS acc → (∀ t ∈ ts, okS t) → okS (textFrom k acc ts)
  | [], _, _, h, _ => h
  | t :: r, k, acc, h, ht => okS_textFrom r (k + 1) _ (okS_append (okS_append h (okS_of _)) (ht t List.mem_cons_self)) fun x hx => ht x (List.mem_cons_of_mem _ hx)
theorem okS_listText {ts : List Str} (h : ∀ t ∈ ts, okS t) : okS (listText ts) := okS_append (okS_textFrom ts 0 _ (okS_of "[") h) (okS_of "]")
theorem okS_join : ∀ {ts : List Str}, (∀ t ∈ ts, okS t) → okS (Str.join ", " ts)
  | [], _ => okS_of ""
  | [x], h => h x List.mem_cons_self
  | x :: y :: r, h => okS_append (okS_append (h x List.mem_cons_self) (okS_of ", ")) (okS_join fun z hz => h z (List.mem_cons_of_mem _ hz))
theorem okS_tupleText {ts : List Str} (h : ∀ t ∈ ts, okS t) : okS (tupleText ts) := okS_append (okS_append (okS_of "(") (okS_join h)) (okS_of _)
theorem okS_int (i : Int) : okS (PyData.shown (.int i)) := okS_of (toString i)
theorem okS_ints : ∀ ns : List Int, ∀ t ∈ PyData.shownAll (ns.map PyData.int), okS t
  | [], t, h => by simp [PyData.shownAll] at h
  | n :: r, t, h => by
    have h' : t = PyData.shown (.int n) ∨ t ∈ PyData.shownAll (r.map PyData.int) := by simpa [PyData.shownAll] using h
    rcases h' with rfl | h'
    · exact okS_int n
    · exact okS_ints r t h'
theorem okS_tup (ns : List Int) : okS (PyData.shown (.tuple (ns.map PyData.int))) := okS_tupleText (okS_ints ns)
theorem okS_lst (ns : List Int) : okS (PyData.shown (.list (ns.map PyData.int))) := okS_listText (okS_ints ns)
/-- lists of one text -/
theorem shaped_strs {z : Str} (h : okS z) : ∀ n, SeqAt.shaped (.list (List.replicate n (.str z))) = true := by
  intro n
  have h1 : PyData.canLayAll0 (List.replicate n (PyData.str z)) = true := by
    induction n with
    | zero => simp [PyData.canLayAll0]
    | succ n ih =>
      rw [List.replicate_succ]
      simp only [PyData.canLayAll0, ih, Bool.and_true]
      show PyData.strOk z = true
      exact h
  have h2 : PyData.depthAll (List.replicate n (PyData.str z)) = 0 := by
    clear h1
    induction n with
    | zero => simp [PyData.depthAll]
    | succ n ih => rw [List.replicate_succ]; simp [PyData.depthAll, PyData.depth, ih]
  simp [SeqAt.shaped, PyData.canLay0, PyData.depth, h1, h2]
theorem eqv_strs {z : Str} : ∀ n, PyData.eqv (.list (List.replicate n (.str z))) (.list (List.replicate n (.str z))) = true
  | 0 => by simp [PyData.eqv, PyData.eqvAll]
  | n + 1 => by
    have ih := eqv_strs (z := z) n
    rw [List.replicate_succ]
    simp only [PyData.eqv, PyData.eqvAll] at ih ⊢
    rw [ih]; simp
theorem dp_strs {K : PySem.W.Frag} {H : Hp} {z : Str} : ∀ n, DpAll K H (List.replicate n (V.str z)) (List.replicate n (PyData.str z))
  | 0 => .nil
  | n + 1 => .cons (.str z) (dp_strs n)
/-- a tuple of three ints, to be shown -/
theorem shows_tup3 {K : PySem.W.Frag} {H : Hp} {T : Addr} {a b p : Int} (e : H T = some (.tup [.int a, .int b, .int p])) (ha : a.natAbs < 10 ^ 95) (hb : b.natAbs < 10 ^ 95) (hp : p.natAbs < 10 ^ 95) : Shows K H (.ref T) (.tuple [.int a, .int b, .int p]) := by
  have f1 := fine_int (K := K) (H := H) ha
  have f2 := fine_int (K := K) (H := H) hb
  have f3 := fine_int (K := K) (H := H) hp
  have w1 := f1.wt
  have w2 := f2.wt
  have w3 := f3.wt
  exact .tup e (.cons f1.dx f1.sh f1.lv (.cons f2.dx f2.sh f2.lv (.cons f3.dx f3.sh f3.lv .nil))) (by show max 0 (max 0 (max 0 0)) ≤ 39; decide) (by omega)
end Vx
namespace Vx
open PySem PySem.Spec PyProof.Rows L2
/-! operators of an own class, its objects with a dict -/
structure Dun (K : PySem.W.Frag) (C : Addr) (m : Str) (g : Addr) : Prop where
  at_ : PySem.W.findIn K (.ref C) m = some (some (.ref g))
  fn : PySem.W.isFn K (.ref g) = true
section
variable {X : Cx} {CX : CXT} {n : Nat} {C g : Addr} {sp : Sp} {E : XK}
theorem look_ins {pins : List (Addr × Obj)} {σ : L2.St} {H : Hp} {s : Shared} {a dx : Addr} {fs : List (Str × V)} (I : Inv X pins σ H s) (ea : H a = some (.ins C dx fs)) : ∃ ox od, PySem.W.InstAt s.heap a ox C (some od) := by
  obtain ⟨mA, O, _, _, _, _⟩ := ins_get I.hok ea
  obtain ⟨od, J, _⟩ := O.look
  exact ⟨_, od, J⟩
def rUnOwn (C : Addr) (sp : Sp) (E : XK) : V → Hp → VK → Prop := fun x H Q => ∃ a dx fs, x = .ref a ∧ H a = some (.ins C dx fs) ∧ sp [x] H Q E
theorem un_ownI (d : Dun X.K C "__invert__" g) (F : FnR X.prog X.w X.K X.mg X.base CX n g sp) (hr : Room n X.A) (hx : Passes CX X E) : UnR X (unaryOp .Invert) (rUnOwn C sp E) := by
  intro pins s σ H x v Q I rx h
  obtain ⟨a, dx, fs, rfl, ea, q⟩ := h
  cases (show v = Value.ref a from rx)
  obtain ⟨ox, od, J⟩ := look_ins I ea
  obtain ⟨m, hF⟩ := I.fr
  exact PySem.W.ksp_inv hF I.ok.mod.kin J d.at_ d.fn (wpAny_call (run_fnR (us := [.ref a]) (vs := [.ref a]) F hr hx I (.cons rfl .nil) q))
theorem un_ownN (d : Dun X.K C "__neg__" g) (F : FnR X.prog X.w X.K X.mg X.base CX n g sp) (hr : Room n X.A) (hx : Passes CX X E) : UnR X (unaryOp .USub) (rUnOwn C sp E) := by
  intro pins s σ H x v Q I rx h
  obtain ⟨a, dx, fs, rfl, ea, q⟩ := h
  cases (show v = Value.ref a from rx)
  obtain ⟨ox, od, J⟩ := look_ins I ea
  obtain ⟨m, hF⟩ := I.fr
  exact PySem.W.ksp_neg hF I.ok.mod.kin J d.at_ d.fn (wpAny_call (run_fnR (us := [.ref a]) (vs := [.ref a]) F hr hx I (.cons rfl .nil) q))
/-- x op y, both of the class -/
def rBinOwn (C : Addr) (sp : Sp) (E : XK) : R2 := fun x y H Q => ∃ a dx fs b dy gs, x = .ref a ∧ y = .ref b ∧ H a = some (.ins C dx fs) ∧ H b = some (.ins C dy gs) ∧ sp [x, y] H Q E
theorem op_binOwn {op : Operator} (hc : PySem.W.selfFirst X.K C = true) (d : Dun X.K C (PySem.dunder op.info.2) g) (F : FnR X.prog X.w X.K X.mg X.base CX n g sp) (hr : Room n X.A) (hx : Passes CX X E) : OpR X (binaryOp op) (rBinOwn C sp E) := by
  intro pins s σ H x y v u Q I rx ry h
  obtain ⟨a, dx, fs, b, dy, gs, rfl, rfl, ea, eb, q⟩ := h
  cases (show v = Value.ref a from rx)
  cases (show u = Value.ref b from ry)
  obtain ⟨ox, od, J⟩ := look_ins I ea
  obtain ⟨ox2, od2, J2⟩ := look_ins I eb
  obtain ⟨m, hF⟩ := I.fr
  refine PySem.W.binop_K hF I.ok.mod.kin J J2.type hc d.at_ d.fn ?_
  refine wpAny_mono (wpAny_call (run_fnR (us := [.ref a, .ref b]) (vs := [.ref a, .ref b]) F hr hx I (.cons rfl (.cons rfl .nil)) q)) (fun w s' z => ?_) fun _ _ x => x
  obtain ⟨z', H', I', rz, qz⟩ := z
  exact SlX.cmpback rz ⟨z', H', I', rz, qz⟩
end
end Vx
namespace Vx
open PySem PySem.Spec PyProof.Rows L2 PySem.W
/-! x != y of an own class with __eq__ and object's __ne__ -/
section
variable {prog : Program} {w : World} {A : Around} {E : Value → Shared → Prop} {s : Shared} {K : Frag} {x C L f : Addr} {h₀ : Heap} {m : Str → Option Value} {ox : Obj} {od : Option Obj} {b tb : Value}
theorem ifBound_B {M : Model} {name : Str} {id : String} {args : List Value} {Q : Option Value → Shared → Prop} (X : K.In s.heap) (I : InstAt s.heap x ox C od) (hs : findIn K (.ref C) name = some (some (.builtin id))) (hb : ∀ self, bindSpecial (.builtin id) self = pure (.builtin id, [self]))
    (h : wpAny M A (call (.builtin id) (.ref x :: args)) (fun v => Q (some v)) E s) : wpAny M A (callSpecialIfBound? (.ref x) name args) Q E s := by
  simp only [callSpecialIfBound?, bindSpecialIfBound?]
  refine wpAny_holding (wpAny_bind (wpAny_bind (wpAny_bind (I.type.here ((looks_findIn X hs).here ?_)))))
  dsimp only
  rw [hb]
  refine wpAny_bind (wpAny_askSetting (wpAny_ite ?_))
  have fin : wpAny M A (call (.builtin id) ([.ref x] ++ args) >>= fun v => pure (some v)) Q E s := wpAny_bind (wpAny_mono h (fun v s' h' => wpAny_pure h') fun _ _ h' => h')
  split
  · exact wpAny_bind (wpAny_pure (wpAny_pure (by exact fin)))
  · exact wpAny_tryCatch (wpAny_bind (wpAny_pure (wpAny_pure (by exact fin))))
/-- object.__ne__ of an instance whose class has its own __eq__, a bool -/
theorem objNe_K {Q : Fin → Shared → Prop} (hu : A.units < cLine) (X : K.In s.heap) (I : InstAt s.heap x ox C od) (heq : findIn K (.ref C) "__eq__" = some (some (.ref f))) (hf : isFn K (.ref f) = true)
    (h : wpAny (model prog w) A (call (.ref f) [.ref x, b]) (fun v s' => ∃ k, v = .bool k ∧ Q (.done (.ret (.bool (!k)))) s') E s) :
    wpAny (model prog w) A (Builtin.«object.__ne__» ⟨[.ref x, b], []⟩) Q E s := by
  unfold Builtin.«object.__ne__»
  refine wpAny_bind (wpAny_of_eq (a := ((Value.ref x : Value), [b])) (by first | rfl | (simp only [Builtin.slotArgs]; rfl)) ?_)
  refine wpAny_bind (wpAny_cRoomFor hu ?_)
  refine wpAny_bind (ifBound_K X I heq hf (wpAny_mono h (fun v s' hv => ?_) fun _ _ z => z))
  obtain ⟨k, rfl, q⟩ := hv
  dsimp only
  refine wpAny_bind (wpAny_truthy_bool ?_)
  exact wpAny_pure q
theorem ne_K {Q : Value → Shared → Prop} (hu : A.units + 1 < cLine) (F : Fr h₀ L s.heap m) (X₀ : K.In h₀) (I : InstAt s.heap x ox C od) (hb : Looks (model prog w) s.heap (typeOf b) tb) (hn : notFirst K C tb = true)
    (hne : findIn K (.ref C) "__ne__" = some (some (.builtin "object.__ne__"))) (heq : findIn K (.ref C) "__eq__" = some (some (.ref f))) (hf : isFn K (.ref f) = true) (hobj : subIn K (.ref C) (.type "object") = some true)
    (h : wpAny (model prog w) A.in1 (call (.ref f) [.ref x, b]) (fun v s' => ∃ k, v = .bool k ∧ Q (.bool (!k)) s') E s) : wpAny (model prog w) A (richCompare .NotEq (.ref x) b) Q E s := by
  have X := X₀.keeps F.keep
  have hu0 : A.units < cLine := Nat.lt_of_succ_lt hu
  have isObj : Looks (model prog w) s.heap (isInstance (.ref x) (.type "object")) true := I.type.andThen (looks_subIn X hobj)
  have one : wpAny (model prog w) A (tryCompare (.ref x) "__ne__" b) (fun r s' => ∃ v, r = some v ∧ Q v s') E s := by
    unfold tryCompare
    refine wpAny_bind (ifBound_B X I hne PySem.F.cmp_object.ne.bind (wpAny_call (codeAny_call_builtin PySem.F.cmp_object.ne.plain PySem.F.cmpEntry_ne ?_)))
    refine check_slot PySem.F.cmpKind_ne PySem.F.cmpSplit_ne isObj (PySem.F.cmpArgs_ne _ _) ?_
    refine objNe_K (A := A.in1) hu X I heq hf (wpAny_mono h (fun v s' hv => ?_) fun _ _ z => z)
    obtain ⟨k, rfl, q⟩ := hv
    exact ⟨k, rfl, wpAny_pure ⟨_, rfl, q⟩⟩
  unfold richCompare
  simp only [oneThing_ref, cmpInfo_NotEq]
  refine wpAny_holding (wpAny_bind (wpAny_cRoomFor hu0 ?_))
  refine wpAny_bind (I.type.here (wpAny_bind (hb.here ?_)))
  split
  · rename_i q
    have e : subIn K tb (.ref C) = some false := by
      rcases Bool.or_eq_true_iff.mp hn with e | e
      · rw [beq_iff_eq.mp e] at q; simp at q
      · exact beq_iff_eq.mp e
    refine wpAny_bind ((looks_subIn X e).here ?_)
    simp only [Bool.false_eq_true, if_false]
    refine wpAny_bind (wpAny_mono one (fun r s' z => ?_) fun _ _ e => e)
    obtain ⟨v, rfl, hq⟩ := z
    exact wpAny_pure hq
  · refine wpAny_bind (wpAny_pure ?_)
    simp only [Bool.false_eq_true, if_false]
    refine wpAny_bind (wpAny_mono one (fun r s' z => ?_) fun _ _ e => e)
    obtain ⟨v, rfl, hq⟩ := z
    exact wpAny_pure hq
end
/-- == of an own class's object and any value; != likewise -/
def rEqOwn (K : PySem.W.Frag) (C : Addr) (sp : Sp) (E : XK) : R2 := fun x y H Q => ∃ a dx fs, x = .ref a ∧ H a = some (.ins C dx fs) ∧ ((∃ b dy gs, y = .ref b ∧ H b = some (.ins C dy gs)) ∨ ∃ t, TyX K H y t ∧ PySem.W.notFirst K C t = true) ∧ sp [x, y] H Q E
def rNeOwn (K : PySem.W.Frag) (C : Addr) (sp : Sp) (E : XK) : R2 := fun x y H Q => ∃ a dx fs, x = .ref a ∧ H a = some (.ins C dx fs) ∧ ((∃ b dy gs, y = .ref b ∧ H b = some (.ins C dy gs)) ∨ ∃ t, TyX K H y t ∧ PySem.W.notFirst K C t = true) ∧ sp [x, y] H (fun v H' => ∃ k, v = .bl k ∧ Q (.bl (!k)) H') E
/-- what != asks of the class -/
structure NeOf (K : PySem.W.Frag) (C : Addr) : Prop where
  ne : PySem.W.findIn K (.ref C) "__ne__" = some (some (.builtin "object.__ne__"))
  ob : PySem.W.subIn K (.ref C) (.type "object") = some true
section
variable {X : Cx} {CX : CXT} {n : Nat} {C g : Addr} {sp : Sp} {E : XK}
theorem op_eqOwn (K : PySem.W.Frag) (hK : X.K = K) (d : Dun K C "__eq__" g) (F : FnR X.prog X.w K X.mg X.base CX n g sp) (hr : Room n X.A) (hx : Passes CX X E) : OpR X (compareOp .Eq) (rEqOwn K C sp E) := by
  subst hK
  intro pins s σ H x y v u Q I rx ry h
  obtain ⟨a, dx, fs, rfl, ea, hy, q⟩ := h
  cases (show v = Value.ref a from rx)
  obtain ⟨ox, od, J⟩ := look_ins I ea
  obtain ⟨m, hF⟩ := I.fr
  have call : wpAny (model X.prog X.w) X.A (PySem.call (.ref g) [.ref a, u]) (PySem.W.CmpBack (EP X pins σ Q)) X.xe s := by
    refine wpAny_mono (wpAny_call (run_fnR (us := [.ref a, u]) (vs := [.ref a, y]) F hr hx I (.cons rfl (.cons ry .nil)) q)) (fun w s' z => ?_) fun _ _ x => x
    obtain ⟨z', H', I', rz, qz⟩ := z
    exact SlX.cmpback rz ⟨z', H', I', rz, qz⟩
  refine PySem.W.cmp_ofEq ?_
  rcases hy with ⟨b, dy, gs, rfl, eb⟩ | ⟨t, ty, hn⟩
  · cases (show u = Value.ref b from ry)
    obtain ⟨ox2, od2, J2⟩ := look_ins I eb
    exact PySem.W.cmp_K (op := .Eq) (tb := .ref C) hr.units0 hF I.ok.mod.kin J J2.type (by simp [PySem.W.notFirst]) d.at_ d.fn call
  · obtain ⟨P, Z, p, _⟩ := kit_of I ry ty
    exact PySem.W.cmp_K (op := .Eq) (tb := t) hr.units0 hF I.ok.mod.kin J (Z.ty _ _ I.kIn p) hn d.at_ d.fn call
theorem op_neOwn (K : PySem.W.Frag) (hK : X.K = K) (N : NeOf K C) (d : Dun K C "__eq__" g) (F : FnR X.prog X.w K X.mg X.base CX n g sp) (hr : Room (n + 1) X.A) (hx : Passes CX X E) : OpR X (compareOp .NotEq) (rNeOwn K C sp E) := by
  subst hK
  intro pins s σ H x y v u Q I rx ry h
  obtain ⟨a, dx, fs, rfl, ea, hy, q⟩ := h
  cases (show v = Value.ref a from rx)
  obtain ⟨ox, od, J⟩ := look_ins I ea
  obtain ⟨m, hF⟩ := I.fr
  have hu : X.A.units + 1 < cLine := by have := hr.un; omega
  have call : wpAny (model X.prog X.w) X.A.in1 (PySem.call (.ref g) [.ref a, u]) (fun v s' => ∃ k, v = .bool k ∧ EP X pins σ Q (.bool (!k)) s') X.xe s := by
    refine wpAny_mono (wpAny_call (SlX.run_at (us := [.ref a, u]) (ws := [.ref a, y]) F hr.in1 I.env0.in1 hx I (.cons rfl (.cons ry .nil)) q)) (fun w s' z => ?_) fun _ _ x => x
    obtain ⟨z', H', I', rz, k, rfl, qz⟩ := z
    cases (show w = Value.bool k from rz)
    exact ⟨k, rfl, .bl (!k), H', I', rfl, qz⟩
  refine PySem.W.cmp_ofNotEq ?_
  rcases hy with ⟨b, dy, gs, rfl, eb⟩ | ⟨t, ty, hn⟩
  · cases (show u = Value.ref b from ry)
    obtain ⟨ox2, od2, J2⟩ := look_ins I eb
    exact ne_K (tb := .ref C) hu hF I.ok.mod.kin J J2.type (by simp [PySem.W.notFirst]) N.ne d.at_ d.fn N.ob call
  · obtain ⟨P, Z, p, _⟩ := kit_of I ry ty
    exact ne_K (tb := t) hu hF I.ok.mod.kin J (Z.ty _ _ I.kIn p) hn N.ne d.at_ d.fn N.ob call
end
end Vx
namespace Vx
open PySem PySem.Spec PyProof.Rows L2 Srt SrtO
/-! sorted of a text, of any length -/
section
variable {prog : Program} {w : World} {A : Around} {E : Value → Shared → Prop} {s : Shared}
def cv : Value → Nat
  | .str x _ => x.cps.toList.headD 0
  | _ => 0
def ltCv (v u : Value) : Bool := decide (cv v < cv u)
theorem swo_sign : Swo ltCv := by
  refine ⟨fun x y h => ?_, fun x y z h1 h2 => ?_⟩
  · have a := of_decide_eq_true (p := cv x < cv y) h
    exact decide_eq_false (p := cv y < cv x) (by omega)
  · have a := of_decide_eq_false (p := cv y < cv x) h1
    have b := of_decide_eq_false (p := cv z < cv y) h2
    exact decide_eq_false (p := cv z < cv x) (by omega)
def IsSign (v : Value) : Prop := ∃ (c : Nat) (t : Tok), v = Value.str (S [c]) t
theorem sign_cmp {vs : List Value} (hI : ∀ v ∈ vs, IsSign v) : Cmp prog w A s oneType' (fun p => p.1 ∈ vs) (lt2 ltCv) := by
  intro p q hm hm'
  obtain ⟨a, t, e⟩ := hI _ hm
  obtain ⟨b, u, e'⟩ := hI _ hm'
  show wpAny (model prog w) A (keyLt' oneType' p.1 q.1) (fun r s' => s' = s ∧ r = ltCv p.1 q.1) (fun _ _ => False) s
  rw [e, e', keyLt'_oneType]
  refine oneLt_str ⟨rfl, ?_⟩
  show decide ([a] < [b]) = decide (a < b)
  rw [decide_eq_decide]
  simp [List.cons_lt_cons_iff]
theorem strs_of : ∀ {vs : List Value}, (∀ v ∈ vs, IsSign v) → ∃ ks, StrsAre vs ks
  | [], _ => ⟨[], .nil⟩
  | v :: r, h => by
    obtain ⟨c, t, e⟩ := h v List.mem_cons_self
    subst e
    obtain ⟨ks, q⟩ := strs_of fun u hu => h u (List.mem_cons_of_mem _ hu)
    exact ⟨_, .cons _ _ q⟩
theorem signs_sortable {a : Addr} {vs : List Value} (hI : ∀ v ∈ vs, IsSign v) (h2 : 2 ≤ vs.length) : SortableO prog w A s a vs ltCv := by
  intro h' _
  refine ⟨oneType', fun Q E hq => ?_, sign_cmp hI⟩
  match vs, hI, h2 with
  | v1 :: v2 :: rest, hI, _ =>
    obtain ⟨ks, hk⟩ := strs_of hI
    rw [keyKind_strs hk]
    exact wpAny_pure hq
  | [], _, h => exact absurd h (by decide)
  | [v], _, h => exact absurd h (by simp)
end
theorem vals_sg : ∀ {vs : List Value}, (∀ v ∈ vs, IsSign v) → Vals (sg (vs.map cv)) vs
  | [], _ => .nil
  | v :: r, h => by
    obtain ⟨c, t, e⟩ := h v List.mem_cons_self
    subst e
    exact .cons ⟨t, rfl⟩ (vals_sg fun u hu => h u (List.mem_cons_of_mem _ hu))
section
variable {X : Cx}
theorem cr_sortedTx (hc : X.calm = true) : CallR X (.builtin "sorted") (fun xs H Q => ∃ a : List Nat, xs = [.str (S a)] ∧ a.length ≤ 100000 ∧ ∀ (b : List Nat) (p : Addr) (H' : Hp), b.Perm a → b.Pairwise (· ≤ ·) → H p = none → p ≠ sysModules → H' = upd H p (.lst (sg b)) → Q (.ref p) H') := by
  intro pins s σ H xs us Q I r h
  obtain ⟨a, rfl, hz, q⟩ := h
  obtain ⟨u, rfl, rx⟩ := vals1 r
  obtain ⟨t, rfl⟩ := rx
  have hs : (S a).cps.size = a.length := SX.S_len a
  refine Calls.call_function_entry PyProof.Rows.kind_sorted PyProof.Rows.plain_sorted PyProof.Rows.entry_sorted (PyProof.Rows.args_sorted1 _) ?_
  unfold Builtin.«sorted»
  refine wpAny_bind (m := checkCount "sorted" 1 1 _) (wpAny_pure ?_)
  refine wpAny_bind (PySem.wpAny_collect_str (A := X.A.in1) (show X.A.in1.handled = none from I.ok.hd hc) (S a) t (fun s' acc hk hg hd ho it => ?_) (by rw [hs]; unfold sizeLine; omega))
  obtain ⟨h', g', d', tk, o'⟩ := s'
  dsimp only at hk hg hd ho
  subst hg hd ho
  have hsign : ∀ v ∈ acc.toList, IsSign v := fun v hv => by
    obtain ⟨j, hj⟩ := List.getElem?_of_mem hv
    obtain ⟨c, t', _, rfl⟩ := it.2 j v (by rw [← Array.getElem?_toList]; exact hj)
    exact ⟨c, t', rfl⟩
  have hal : acc.toList.length = a.length := by rw [Array.length_toList, it.1]; exact hs
  have hcv : acc.toList.map cv = a := by
    refine List.ext_getElem? fun j => ?_
    rw [List.getElem?_map]
    cases e : acc.toList[j]? with
    | none =>
      have : acc.toList.length ≤ j := List.getElem?_eq_none_iff.mp e
      rw [List.getElem?_eq_none (by omega)]; rfl
    | some v =>
      obtain ⟨c, t', h1, rfl⟩ := it.2 j v (by rw [← Array.getElem?_toList]; exact e)
      have h2 : a[j]? = some c := by rw [← h1]; exact (List.getElem?_toArray ..).symm
      rw [h2]; rfl
  have I1 : Inv X pins σ H { s with heap := h', toks := tk } := I.kept hk
  have hz16 : acc.toList.length ≤ sizeLine := by rw [hal]; unfold sizeLine; omega
  refine wpAny_bind (wpAny_newList ?_ hz16)
  have hoL : (h'.push (seqObj "list" acc.toList.toArray 0)).get? h'.objs.size = some (seqObj "list" acc.toList.toArray 0) := Heap.get?_push_size _ rfl
  show wpAny _ _ _ _ _ { s with heap := h'.push (seqObj "list" acc.toList.toArray 0), toks := tk }
  refine wpAny_bind (wpAny_holding (wpAny_call_entry PyProof.Rows.slot_list_sort ⟨_, hoL, rfl⟩ PyProof.Rows.entry_list_sort
    (SrtO.list_sort_ord (s := { s with heap := h'.push (seqObj "list" acc.toList.toArray 0), toks := tk }) swo_sign hoL hz16 (fun h2 => signs_sortable hsign h2) fun out h1 h2 => ⟨_, rfl, ?_⟩)
    (PyProof.Rows.args_list_sort _)))
  have hso : ∀ v ∈ out, IsSign v := fun v hv => hsign v (h2.perm.mem_iff.mp hv)
  obtain ⟨e', he'⟩ := PyProof.Rows.sortedHeap_at (vs := acc.toList) (out := out.toArray) hoL
  have hperm : (out.map cv).Perm a := by
    have := h2.perm.map cv
    rw [hcv] at this; exact this
  have hlen : (sg (out.map cv)).length ≤ sizeLine := by
    rw [sg_length, hperm.length_eq]; unfold sizeLine; omega
  have hsrt : (out.map cv).Pairwise (· ≤ ·) := List.pairwise_map.mpr (h1.imp fun {x y} h => Nat.not_lt.mp (of_decide_eq_false (p := cv y < cv x) h))
  have nb : h'.objs.size ≠ sysModules := big_ne I1
  refine wpAny_pure ⟨_, rfl, .ref h'.objs.size, upd H h'.objs.size (.lst (sg (out.map cv))), I1.laid (t' := tk) (fun b u e => ?_) (Nat.le_refl _)
    (show ObjOk X.prog X.w _ _ _ (.lst (sg (out.map cv))) from ⟨hlen, out, e', vals_sg hso, he'⟩), rfl, q _ _ _ hperm hsrt (I1.hok.fresh (Nat.le_refl _)) nb rfl⟩
  have hb : b < h'.objs.size := Heap.lt_size e
  rw [PyProof.Rows.sortedHeap_old (Nat.ne_of_lt hb) (by rw [size_push']; exact Nat.lt_succ_of_lt hb)]
  exact Heap.get?_push_of_some _ e
end
end Vx
namespace Vx
open PySem PySem.Spec PyProof.Rows L2
theorem range_up (a : List Nat) (tk : Tok) : slicePicked (S a) none none (some (1, tk)) = List.range a.length := by
  unfold slicePicked
  rw [SX.S_len]
  show sliceRange 0 (a.length : Int) 1 = _
  generalize a.length = n
  unfold sliceRange
  by_cases h : (0 : Int) < (n : Int)
  · have e : ((n : Int) - 0 + 1 - 1) / 1 = (n : Int) := by rw [Int.ediv_one]; omega
    rw [if_pos (by decide), if_pos h, e]
    show (List.range ((n : Int)).toNat).map (fun k : Nat => ((0 : Int) + 1 * (k : Int)).toNat) = _
    rw [Int.toNat_natCast]
    have : (List.range n).map (fun k : Nat => ((0 : Int) + 1 * (k : Int)).toNat) = (List.range n).map id := List.map_congr_left fun k _ => by simp
    rw [this, List.map_id]
  · have e : n = 0 := by omega
    subst e; rfl
section
variable {X : Cx}
/-- text[::step], the step 1 or -1 -/
def tStepS (te ts : TE) : TE := fun σ H Q => te σ H fun x H1 => ∃ a : List Nat, x = .str (S a) ∧ a.length ≤ 100000 ∧ tPart ts σ H1 fun o H2 => ∃ i : Int, o = some i ∧ (i = 1 ∨ i = -1) ∧ Q (.str (S (if i = 1 then a else a.reverse))) H2
theorem pe_stepS {e l r : Expr} {op : Operator} {te ts : TE} {p2 p3 pos : Pos} (he : PE X e te) (h2 : PE X (.BinOp l op r p2) ts) : PE X (.Subscript e (.Slice none none (some (.BinOp l op r p2)) p3) pos) (tStepS te ts) := by
  constructor
  intro pins s σ H Q I h
  apply Subscript_
  refine thn (he.run pins s σ H _ I h) ?_
  rintro v s1 ⟨x, H1, I1, r1, a, ex, hz, q⟩
  subst ex
  obtain ⟨t, rfl⟩ := r1
  have st : PO X (some (.BinOp l op r p2)) (tPart ts) := po_some h2
  apply wpAny_Slice
  refine thn (po_none.run pins s1 σ H1 (fun o H2 => o = none ∧ H2 = H1) I1 ⟨rfl, rfl⟩) ?_
  rintro vl s2 ⟨l, H2, I2, pl, el, e2⟩
  subst el e2
  refine thn (po_none.run pins s2 σ H2 (fun o H3 => o = none ∧ H3 = H2) I2 ⟨rfl, rfl⟩) ?_
  rintro vu s3 ⟨u, H3, I3, pu, eu, e3⟩
  subst eu e3
  refine thn (st.run pins s3 σ H3 _ I3 q) ?_
  rintro vs s4 ⟨o, H4, I4, ps, i, eo, hi, q4⟩
  subst eo
  have I5 : Inv X pins σ H4 { s4 with heap := s4.heap.push { cls := .type "slice", data := .fields #[vl, vu, vs] } } := I4.kept (t' := s4.toks) fun b ob z => Heap.get?_push_of_some _ z
  refine tail_any (ops := [.str (S a) t, .ref s4.heap.objs.size]) (typeIs_str _ _ _) F.slot_str_getitem.lookup ?_ (by with_unfolding_all rfl)
  obtain ⟨l, rfl, el⟩ := IsPart.raw pl
  obtain ⟨u, rfl, eu⟩ := IsPart.raw pu
  obtain ⟨w', rfl, ew⟩ := IsPart.raw ps
  have hl : l = none := by cases l with | none => rfl | some z => cases el
  have hu : u = none := by cases u with | none => rfl | some z => cases eu
  obtain ⟨tk, rfl⟩ : ∃ tk, w' = some (i, tk) := by
    cases w' with
    | none => cases ew
    | some z => obtain ⟨z1, z2⟩ := z; cases ew; exact ⟨z2, rfl⟩
  subst hl hu
  have hlen : (S a).length ≤ sizeLine := by rw [SX.S_len]; unfold sizeLine; omega
  rcases hi with rfl | rfl
  · refine wpAny_getItem_str_slice (l := none) (u := none) (st := some (1, tk)) ⟨_, Heap.get?_push_size _ rfl, rfl, rfl⟩ (by rfl) ?_
    have hp : slicePicked (S a) none none (some (1, tk)) = List.range a.length := range_up a tk
    unfold sliceMade
    have hne : ((Option.map (fun x : Int × Tok => x.fst) (some ((1 : Int), tk))).getD 1 == 1 && (slicePicked (S a) none none (some (1, tk))).length == (S a).length) = true := by
      rw [hp, List.length_range, SX.S_len]; simp
    rw [if_pos hne]
    exact ⟨.str _, H4, I5, ⟨t, rfl⟩, q4⟩
  · refine wpAny_getItem_str_slice (l := none) (u := none) (st := some (-1, tk)) ⟨_, Heap.get?_push_size _ rfl, rfl, rfl⟩ (by rfl) ?_
    have hp : slicePicked (S a) none none (some (-1, tk)) = (List.range a.length).reverse := by
      unfold slicePicked
      rw [SX.S_len, ← PySem.W.krv_range, ← PySem.W.krv_sliceRange]
      rfl
    have hr : ((slicePicked (S a) none none (some (-1, tk))).filterMap ((S a).cps[·]?)).toArray = a.reverse.toArray := by
      rw [hp, List.filterMap_reverse]
      have e := PySem.W.krv_all a.toArray
      rw [List.size_toArray] at e
      have e' : (List.range a.length).filterMap (fun x => (S a).cps[x]?) = a := e
      rw [e']
    unfold sliceMade
    have hne : ((Option.map (fun x : Int × Tok => x.fst) (some ((-1 : Int), tk))).getD 1 == 1 && (slicePicked (S a) none none (some (-1, tk))).length == (S a).length) = false := by
      rw [show ((Option.map (fun x : Int × Tok => x.fst) (some ((-1 : Int), tk))).getD 1 == 1) = false from rfl, Bool.false_and]
    rw [if_neg (by rw [hne]; exact Bool.false_ne_true), hr]
    refine ⟨?_, .str _, H4, I5.tok _, ⟨_, rfl⟩, q4⟩
    show (S a.reverse).length ≤ sizeLine
    rw [SX.S_len, List.length_reverse]; unfold sizeLine; omega
theorem op_notInK (K : PySem.W.Frag) (h : X.K = K) : OpR X (compareOp .NotIn) (rIn K true) := by subst h; exact op_notIn_seq
theorem op_inK (K : PySem.W.Frag) (h : X.K = K) : OpR X (compareOp .In) (rIn K false) := by subst h; exact op_in_seq
def rExtendQ : V → List V → Hp → VK → Prop := fun x vs H Q => ∃ l b xs zs, x = .ref l ∧ vs = [.ref b] ∧ H l = some (.lst xs) ∧ H b = some (.lst zs) ∧ xs.length + zs.length ≤ sizeLine ∧ ∀ H', H' = upd H l (.lst (xs ++ zs)) → Q .non H'
theorem mtq_extend : MtM X "list.extend" rExtendQ := by
  intro pins s σ H x vs v us Q I rx rv h
  obtain ⟨l, b, xs, zs, h1, h2, h3, h4, h5, q⟩ := h
  exact mt_extend pins s σ H x vs v us Q I rx rv ⟨l, b, xs, zs, h1, h2, h3, h4, h5, q _ rfl⟩
end
end Vx
namespace Vu
open PySem PySem.Spec PySem.Calls PySem.W PyProof.Rows
/-! list(zip(a, b)) of two lists -/
theorem zip_no_len : typeLookup (.type "zip") "__len__" = pure none := by rw [typeLookup_type, builtinLookup_eq_fast]; kernel_rfl
theorem zip_no_hint : typeLookup (.type "zip") "__length_hint__" = pure none := by rw [typeLookup_type, builtinLookup_eq_fast]; kernel_rfl
/-- a zip of two lists before turn i: nothing is given out, or the last tuple is held -/
structure ZSt (h : Heap) (z TI TO i1 i2 a b S : Addr) (xs ys : Array Value) (i : Nat) : Prop where
  pair : PySem.IsPair h TI (.ref i1) (.ref i2)
  one : h.IsListIter i1 a i
  two : h.IsListIter i2 b i
  la : h.IsList a xs
  lb : h.IsList b ys
  zip : (IsZip h z TI TO .none ∧ ∃ x y, PySem.IsPair h TO x y) ∨ ∃ (T : Addr) (f : Bool) (oT : Obj), IsZipHeld h z TI TO T f ∧ h.get? T = some oT ∧ T ≠ z ∧ T ≠ i1 ∧ T ≠ i2 ∧ T ≠ S
theorem ZSt.keep {h h' : Heap} {z TI TO i1 i2 a b S : Addr} {xs ys : Array Value} {i : Nat} (st : ZSt h z TI TO i1 i2 a b S xs ys i) (off : ∀ c ∈ [z, TI, TO, i1, i2, a, b], c ≠ S) (k : ∀ c o, c ≠ S → h.get? c = some o → h'.get? c = some o) : ZSt h' z TI TO i1 i2 a b S xs ys i := by
  obtain ⟨p, h1, h2, la, lb, hz⟩ := st
  refine ⟨k _ _ (off TI (by simp)) p, h1.at fun o q => k _ o (off i1 (by simp)) q, h2.at fun o q => k _ o (off i2 (by simp)) q, la.at fun o q => k _ o (off a (by simp)) q, lb.at fun o q => k _ o (off b (by simp)) q, ?_⟩
  rcases hz with ⟨hz, x, y, hTO⟩ | ⟨T, f, oT, hz, hT, t1, t2, t3, t4⟩
  · exact .inl ⟨k _ _ (off z (by simp)) hz, x, y, k _ _ (off TO (by simp)) hTO⟩
  · exact .inr ⟨T, f, oT, k _ _ (off z (by simp)) hz, k _ _ t4 hT, t1, t2, t3, t4⟩
section
variable {prog : Program} {w : World} {A : Around} {E : Value → Shared → Prop} {s : Shared}
theorem z_item {z TI TO i1 i2 a b S : Addr} {xs ys : Array Value} {x y : Value} {i : Nat} {Q : Option Value → Shared → Prop} (D : ZipApart z TI TO i1 i2 a b) (st : ZSt s.heap z TI TO i1 i2 a b S xs ys i) (hS : S < s.heap.objs.size) (hx : xs[i]? = some x) (hy : ys[i]? = some y)
    (hQ : ∀ h', ZSt h' z TI TO i1 i2 a b S xs ys (i + 1) → PySem.IsPair h' s.heap.objs.size x y → h'.objs.size = s.heap.objs.size + 1 → (∀ c o, c ≠ z → c ≠ TO → c ≠ i1 → c ≠ i2 → s.heap.get? c = some o → h'.get? c = some o) → Q (some (.ref s.heap.objs.size)) { s with heap := h' }) :
    wpAny (model prog w) A (pyNext (.ref z)) Q E s := by
  obtain ⟨hTI, h1, h2, la, lb, hz⟩ := st
  have n1 : s.heap.objs.size ≠ i1 := by obtain ⟨_, e, _⟩ := h1; exact Nat.ne_of_gt (Heap.lt_size e)
  have n2 : s.heap.objs.size ≠ i2 := by obtain ⟨_, e, _⟩ := h2; exact Nat.ne_of_gt (Heap.lt_size e)
  rcases hz with ⟨hz, x0, y0, hTO⟩ | ⟨T, f, oT, hz, hT, t1, t2, t3, t4⟩
  · refine wpAny_pyNext_zip_item D hz hTI hTO h1 h2 la lb hx hy fun h' z' TO' h1' h2' hp hsz hk => hQ h' ⟨hk _ _ D.TIz D.TITO D.TIi1 D.TIi2 hTI, h1', h2', la.at fun o q => hk _ _ D.l1z D.l1TO D.l1i1 D.l1i2 q, lb.at fun o q => hk _ _ D.l2z D.l2TO D.l2i1 D.l2i2 q, .inr ⟨s.heap.objs.size, false, _, z', hp, Nat.ne_of_gt (Heap.lt_size hz), n1, n2, Nat.ne_of_gt hS⟩⟩ hp hsz hk
  · refine wpAny_pyNext_zip_item_held D hz hT hTI h1 h2 la lb hx hy fun h' z' h1' h2' hp hsz hk => hQ h' ⟨hk _ _ D.TIz D.TIi1 D.TIi2 hTI, h1', h2', la.at fun o q => hk _ _ D.l1z D.l1i1 D.l1i2 q, lb.at fun o q => hk _ _ D.l2z D.l2i1 D.l2i2 q, .inr ⟨T, true, oT, z', hk _ _ t1 t2 t3 hT, t1, t2, t3, t4⟩⟩ hp hsz fun c o c1 _ c3 c4 q => hk c o c1 c3 c4 q
theorem z_done {z TI TO i1 i2 a b S : Addr} {xs ys : Array Value} {i : Nat} {Q : Option Value → Shared → Prop} (hh : A.handled = none) (D : ZipApart z TI TO i1 i2 a b) (st : ZSt s.heap z TI TO i1 i2 a b S xs ys i) (he : xs[i]? = none ∨ ys[i]? = none)
    (hQ : ∀ h', (∀ c o, c ≠ z → c ≠ TO → c ≠ i1 → c ≠ i2 → s.heap.get? c = some o → h'.get? c = some o) → Q none { s with heap := h' }) :
    wpAny (model prog w) A (pyNext (.ref z)) Q E s := by
  obtain ⟨hTI, h1, h2, la, lb, hz⟩ := st
  rcases hz with ⟨hz, x0, y0, hTO⟩ | ⟨T, f, oT, hz, hT, t1, t2, t3, t4⟩
  · exact wpAny_pyNext_zip_end hh D hz hTI hTO h1 h2 la lb he fun h' hk => hQ h' hk
  · exact wpAny_pyNext_zip_end_held hh D hz hT hTI h1 h2 la lb he fun h' hk => hQ h' fun c o c1 _ c3 c4 q => hk c o c1 c3 c4 q
end
structure ZG (xs ys : Array Value) (lo : Addr) (h : Heap) (as : List Addr) : Prop where
  rise : as.Pairwise (· < ·)
  above : ∀ a ∈ as, lo < a
  pairs : ∀ (j : Nat) (a : Addr), as[j]? = some a → ∃ x y, xs[j]? = some x ∧ ys[j]? = some y ∧ PySem.IsPair h a x y
theorem ZG.there {xs ys : Array Value} {lo : Addr} {h : Heap} {as : List Addr} (g : ZG xs ys lo h as) {a : Addr} (ha : a ∈ as) : a < h.objs.size := by
  obtain ⟨j, hj⟩ := List.mem_iff_getElem?.mp ha
  obtain ⟨_, _, _, _, e⟩ := g.pairs j a hj
  exact Heap.lt_size e
section
variable {prog : Program} {w : World} {A : Around} {s : Shared} {R : Result → Shared → Prop} {xs ys : Array Value} {n : Nat}
theorem z_loop {S z TI TO i1 i2 a b : Addr} (hh : A.handled = none) (D : ZipApart z TI TO i1 i2 a b) (off : ∀ c ∈ [z, TI, TO, i1, i2, a, b], c < S) (hx : n ≤ xs.size) (hy : n ≤ ys.size) (he : xs[n]? = none ∨ ys[n]? = none) (hn : n ≤ sizeLine) (res : Value) {h₁ : Heap}
    (hR : ∀ h' tk acc c as, (∀ b o, b ≠ S → b ≠ z → b ≠ TO → b ≠ i1 → b ≠ i2 → h₁.get? b = some o → h'.get? b = some o) → h'.get? S = some { cls := .type "list", dict := none, data := .seq acc c, slots := #[] } → as.length = n → ZG xs ys S h' as →
      acc.toList = as.map Value.ref → R (.ok (.ret res)) { s with heap := h', toks := tk }) :
    ∀ (k i : Nat) (h : Heap) (tk c : Nat) (acc : Array Value) (as : List Addr), n - i = k → i ≤ n → ZSt h z TI TO i1 i2 a b S xs ys i → (∀ b o, b ≠ S → b ≠ z → b ≠ TO → b ≠ i1 → b ≠ i2 → h₁.get? b = some o → h.get? b = some o) →
      h.get? S = some { cls := .type "list", dict := none, data := .seq acc c, slots := #[] } → acc.toList = as.map Value.ref → as.length = i → ZG xs ys S h as →
      codeAny (model prog w) A (.builtin "list.extend.loop" ⟨[.ref S, .ref z, res], []⟩) R { s with heap := h, toks := tk } := by
  have nS : ∀ c ∈ [z, TI, TO, i1, i2, a, b], c ≠ S := fun c h => Nat.ne_of_lt (off c h)
  intro k
  induction k with
  | zero =>
    intro i h tk c acc as hk hi hst hkeep hS hacc hal hG
    have hin : i = n := by omega
    subst hin
    refine codeAny_builtin PySem.F.entry_extend_loop ?_
    rw [Around.under_plainId PySem.F.plain_extend_loop _]
    show wpAny _ A.in1 (pyNext (.ref z) >>= _) _ _ _
    refine wpAny_bind (z_done (s := { s with heap := h, toks := tk }) (A := A.in1) hh D hst he fun h' hk' => ?_)
    refine wpAny_pure (hR h' tk acc c as (fun b o b1 b2 b3 b4 b5 e => hk' b o b2 b3 b4 b5 (hkeep b o b1 b2 b3 b4 b5 e)) (hk' S _ (nS z (by simp)).symm (nS TO (by simp)).symm (nS i1 (by simp)).symm (nS i2 (by simp)).symm hS) hal ⟨hG.rise, hG.above, fun j a' hj => ?_⟩ hacc)
    obtain ⟨x, y, e1, e2, e3⟩ := hG.pairs j a' hj
    have ab := hG.above a' (List.mem_of_getElem? hj)
    exact ⟨x, y, e1, e2, hk' a' _ (Nat.ne_of_gt (Nat.lt_trans (off z (by simp)) ab)) (Nat.ne_of_gt (Nat.lt_trans (off TO (by simp)) ab)) (Nat.ne_of_gt (Nat.lt_trans (off i1 (by simp)) ab)) (Nat.ne_of_gt (Nat.lt_trans (off i2 (by simp)) ab)) e3⟩
  | succ k ih =>
    intro i h tk c acc as hk hi hst hkeep hS hacc hal hG
    have hlt : i < n := by omega
    have hsz : acc.size = i := by rw [← Array.length_toList, hacc, List.length_map, hal]
    refine codeAny_builtin PySem.F.entry_extend_loop ?_
    rw [Around.under_plainId PySem.F.plain_extend_loop _]
    show wpAny _ A.in1 (pyNext (.ref z) >>= _) _ _ _
    have gx : xs[i]? = some (xs[i]'(by omega)) := Array.getElem?_eq_getElem (by omega)
    have gy : ys[i]? = some (ys[i]'(by omega)) := Array.getElem?_eq_getElem (by omega)
    refine wpAny_bind (z_item (s := { s with heap := h, toks := tk }) (S := S) D hst (Heap.lt_size hS) gx gy fun h' hst' ht hz hkp => ?_)
    dsimp only at ht hz hkp ⊢
    have hS' := hkp S _ (nS z (by simp)).symm (nS TO (by simp)).symm (nS i1 (by simp)).symm (nS i2 (by simp)).symm hS
    have up : ∀ b o, b ≠ S → h'.get? b = some o → (h'.update S (Obj.mapSeq (·.push (Value.ref h.objs.size)))).get? b = some o := fun b o hb e => (Heap.get?_update_other _ _ (Ne.symm hb)).trans e
    have hSl : S < h.objs.size := Heap.lt_size hS
    show wpAny _ A.in1 (updateSeq S (·.push (Value.ref h.objs.size)) >>= _) _ _ _
    refine wpAny_bind ?_
    refine wpAny_updateSeq hS' rfl (wpAny_pure ⟨plainId_quiet PySem.F.plain_extend_loop _, ih (i + 1) _ tk _ (acc.push (Value.ref h.objs.size)) (as ++ [h.objs.size]) (by omega) hlt (hst'.keep nS up)
      (fun b o b1 b2 b3 b4 b5 e => up b o b1 (hkp b o b2 b3 b4 b5 (hkeep b o b1 b2 b3 b4 b5 e))) (Heap.get?_update_self _ hS' rfl) (by rw [Array.toList_push, hacc, List.map_append]; rfl) (by rw [List.length_append, hal]; rfl) ⟨?_, ?_, ?_⟩⟩) (by rw [hsz]; omega) (by show (acc.push (Value.ref h.objs.size)).size ≤ sizeLine + 1; rw [Array.size_push, hsz]; omega)
    · refine List.pairwise_append.mpr ⟨hG.rise, List.pairwise_singleton _ _, fun a ha b hb => ?_⟩
      rw [List.mem_singleton.mp hb]
      exact hG.there ha
    · intro a ha
      rcases List.mem_append.mp ha with ha | ha
      · exact hG.above a ha
      · rw [List.mem_singleton.mp ha]; exact hSl
    · intro j b' hj
      rcases Nat.lt_trichotomy j as.length with h1 | h1 | h1
      · rw [List.getElem?_append_left h1] at hj
        obtain ⟨x, y, e1, e2, e3⟩ := hG.pairs j b' hj
        have hb := hG.above b' (List.mem_of_getElem? hj)
        exact ⟨x, y, e1, e2, up b' _ (Nat.ne_of_gt hb) (hkp b' _ (Nat.ne_of_gt (Nat.lt_trans (off z (by simp)) hb)) (Nat.ne_of_gt (Nat.lt_trans (off TO (by simp)) hb)) (Nat.ne_of_gt (Nat.lt_trans (off i1 (by simp)) hb)) (Nat.ne_of_gt (Nat.lt_trans (off i2 (by simp)) hb)) e3)⟩
      · subst h1
        have hb : h.objs.size = b' := by simpa using hj
        subst hb
        subst hal
        exact ⟨_, _, gx, gy, up _ _ (Nat.ne_of_gt hSl) ht⟩
      · have hnone : (as ++ [h.objs.size])[j]? = none := List.getElem?_eq_none (by rw [List.length_append, List.length_singleton]; omega)
        rw [hnone] at hj; cases hj
end
section
variable {prog : Program} {w : World} {A : Around} {s : Shared} {xs ys : Array Value} {n : Nat} {z TI TO i1 i2 a b : Addr}
theorem z_extend {R : Result → Shared → Prop} (hh : A.handled = none) (D : ZipApart z TI TO i1 i2 a b) (S : Addr) (off : ∀ c ∈ [z, TI, TO, i1, i2, a, b], c < S) (hx : n ≤ xs.size) (hy : n ≤ ys.size) (he : xs[n]? = none ∨ ys[n]? = none) (hn : n ≤ sizeLine) (res : Value) (c₀ : Nat)
    (hz : IsZip s.heap z TI TO .none) (hst : ZSt s.heap z TI TO i1 i2 a b S xs ys 0) (hS : s.heap.get? S = some { cls := .type "list", data := .seq #[] c₀ })
    (hR : ∀ h' tk acc c as, (∀ b o, b ≠ S → b ≠ z → b ≠ TO → b ≠ i1 → b ≠ i2 → s.heap.get? b = some o → h'.get? b = some o) → h'.get? S = some { cls := .type "list", dict := none, data := .seq acc c, slots := #[] } → as.length = n → ZG xs ys S h' as →
      acc.toList = as.map Value.ref → R (.ok (.ret res)) { s with heap := h', toks := tk }) :
    wpAny (model prog w) A.in1 (Builtin.List.listExtendWith (.ref S) (.ref z) res)
      (fun fin s' => match fin with | .done f => R (.ok f) s' | .again c' => c'.quiet = true ∧ codeAny (model prog w) A c' R s') (fun e s' => R (.error e) s') s := by
  have nS : ∀ c ∈ [z, TI, TO, i1, i2, a, b], c ≠ S := fun c h => Nat.ne_of_lt (off c h)
  have hT : s.TypeIs (.ref z) "zip" := ⟨_, hz, rfl⟩
  unfold Builtin.List.listExtendWith
  refine wpAny_bind (wpAny_typeOf hT ?_)
  have h1 : Builtin.List.listSameRef (.ref S) (.ref z) = false := by simp [Builtin.List.listSameRef, (nS z (by simp)).symm]
  have h2 : (Value.type "zip" == Value.type "list") = false := by decide
  have h3 : (Value.type "zip" == Value.type "tuple") = false := by decide
  simp only [h1, h2, h3, Bool.or_false, Bool.false_eq_true, if_false]
  refine wpAny_bind (wpAny_pyIter_zip hz ?_)
  refine wpAny_bind (wpAny_holding ?_)
  unfold Builtin.List.listLengthHint
  refine wpAny_bind (wpAny_specialOf hT zip_no_len ?_)
  show wpAny _ A.in1 (specialOf (Value.ref z) (Str.ofString "__length_hint__") >>= _) _ _ _
  refine wpAny_bind (wpAny_specialOf hT zip_no_hint ?_)
  refine wpAny_pure ?_
  show wpAny _ A.in1 (rule "list.extend.makes-room" >>= fun _ => Builtin.List.listTouch (.ref S) >>= fun _ => again (.builtin "list.extend.loop" ⟨[.ref S, .ref z, res], []⟩)) _ _ _
  refine wpAny_bind (wpAny_rule ?_)
  refine wpAny_bind ?_
  show wpAny _ A.in1 (updateSeq S (·.push .none) >>= fun _ => updateSeq S (·.pop)) _ _ _
  refine wpAny_bind (wpAny_updateSeq hS rfl ?_)
  have hS₂ := Heap.get?_update_self (Obj.mapSeq (·.push Value.none)) hS rfl
  refine wpAny_updateSeq (hz := by seq_fits) hS₂ rfl ?_
  have hS₃ := Heap.get?_update_self (Obj.mapSeq (·.pop)) hS₂ rfl
  have oth : ∀ b o, b ≠ S → s.heap.get? b = some o → ((s.heap.update S (Obj.mapSeq (·.push Value.none))).update S (Obj.mapSeq (·.pop))).get? b = some o :=
    fun b o hb e => (Heap.get?_update_other _ _ (Ne.symm hb)).trans ((Heap.get?_update_other _ _ (Ne.symm hb)).trans e)
  refine wpAny_pure ⟨plainId_quiet PySem.F.plain_extend_loop _, z_loop (s := s) (h₁ := s.heap) hh D off hx hy he hn res hR n 0 _ _ _ #[] [] (Nat.sub_zero _) (Nat.zero_le _) (hst.keep nS oth) (fun b o b1 _ _ _ _ e => oth b o b1 e) hS₃ rfl rfl
    ⟨List.Pairwise.nil, (fun _ ha => nomatch ha), (fun j a hj => by simp at hj)⟩⟩
theorem z_init {R : Result → Shared → Prop} (hh : A.handled = none) (D : ZipApart z TI TO i1 i2 a b) (S : Addr) (off : ∀ c ∈ [z, TI, TO, i1, i2, a, b], c < S) (hx : n ≤ xs.size) (hy : n ≤ ys.size) (he : xs[n]? = none ∨ ys[n]? = none) (hn : n ≤ sizeLine)
    (hz : IsZip s.heap z TI TO .none) (hst : ZSt s.heap z TI TO i1 i2 a b S xs ys 0) (hS : s.heap.get? S = some { cls := .type "list", data := .seq #[] })
    (hR : ∀ h' tk acc c as, (∀ b o, b ≠ S → b ≠ z → b ≠ TO → b ≠ i1 → b ≠ i2 → s.heap.get? b = some o → h'.get? b = some o) → h'.get? S = some { cls := .type "list", dict := none, data := .seq acc c, slots := #[] } → as.length = n → ZG xs ys S h' as →
      acc.toList = as.map Value.ref → R (.ok (.ret .none)) { s with heap := h', toks := tk }) :
    wpAny (model prog w) A.in1 (Builtin.«list.__init__» ⟨[.ref S, .ref z], []⟩)
      (fun fin s' => match fin with | .done f => R (.ok f) s' | .again c' => c'.quiet = true ∧ codeAny (model prog w) A c' R s') (fun e s' => R (.error e) s') s := by
  have nS : ∀ c ∈ [z, TI, TO, i1, i2, a, b], c ≠ S := fun c h => Nat.ne_of_lt (off c h)
  show wpAny _ _ (do let old ← Builtin.List.listItems (.ref S); Builtin.List.listUpdate (.ref S) (fun _ => #[]); letGo old.toList.reverse; Builtin.List.listExtendWith (.ref S) (.ref z) .none) _ _ s
  refine wpAny_bind ?_
  unfold Builtin.List.listItems
  refine wpAny_bind (wpAny_seqItems hS rfl (wpAny_pure ?_))
  show wpAny _ _ (updateSeq S (fun _ => #[]) >>= fun _ => letGo (#[] : Array Value).toList.reverse >>= fun _ => Builtin.List.listExtendWith (.ref S) (.ref z) .none) _ _ s
  refine wpAny_bind (wpAny_updateSeq hS rfl ?_)
  have hS₂ := Heap.get?_update_self (Obj.mapSeq (fun _ => (#[] : Array Value))) hS rfl
  have oth : ∀ b o, b ≠ S → s.heap.get? b = some o → (s.heap.update S (Obj.mapSeq (fun _ => (#[] : Array Value)))).get? b = some o :=
    fun b o hb e => (Heap.get?_update_other _ _ (Ne.symm hb)).trans e
  refine wpAny_bind (wpAny_letGo ?_)
  refine z_extend hh D S off hx hy he hn .none _ (oth z _ (nS z (by simp)) hz) (hst.keep nS oth) hS₂ fun h' tk acc c as hk hS' hl hG hacc => ?_
  exact hR h' tk acc c as (fun b o b1 b2 b3 b4 b5 e => hk b o b1 b2 b3 b4 b5 (oth b o b1 e)) hS' hl hG hacc
end
section
variable {prog : Program} {w : World} {A : Around} {E : Value → Shared → Prop} {s : Shared} {xs ys : Array Value} {n : Nat} {z TI TO i1 i2 a b : Addr}
theorem z_call {Q : Value → Shared → Prop} (hh : A.handled = none) (D : ZipApart z TI TO i1 i2 a b) (off : ∀ c ∈ [z, TI, TO, i1, i2, a, b], c < s.heap.objs.size) (hx : n ≤ xs.size) (hy : n ≤ ys.size) (he : xs[n]? = none ∨ ys[n]? = none) (hn : n ≤ sizeLine)
    (hz : IsZip s.heap z TI TO .none) (hst : ZSt s.heap z TI TO i1 i2 a b s.heap.objs.size xs ys 0)
    (hQ : ∀ h' tk acc c as, (∀ b o, b ≠ z → b ≠ TO → b ≠ i1 → b ≠ i2 → s.heap.get? b = some o → h'.get? b = some o) → h'.get? s.heap.objs.size = some { cls := .type "list", dict := none, data := .seq acc c, slots := #[] } → as.length = n → ZG xs ys s.heap.objs.size h' as →
      acc.toList = as.map Value.ref → Q (.ref s.heap.objs.size) { s with heap := h', toks := tk }) :
    wpAny (model prog w) A (call (.type "list") [.ref z]) Q E s := by
  refine callType_codes (Q₁ := fun obj s₁ => obj = .ref s.heap.objs.size ∧ s₁ = { s with heap := s.heap.push { cls := .type "list", data := .seq #[] } }) PySem.F.called_list (PySem.F.typeCall_list_1 _) PySem.F.entry_list_init
    (code_list_new _ ⟨rfl, rfl⟩) fun obj s₁ h₁ => ?_
  obtain ⟨rfl, rfl⟩ := h₁
  have hS : (s.heap.push { cls := .type "list", data := .seq #[] }).get? s.heap.objs.size = some { cls := .type "list", data := .seq #[] } := Heap.get?_push_size _ rfl
  refine ⟨⟨_, hS, rfl⟩, PySem.F.args_list_init_2 _ _, z_init (A := A.in1) hh D _ off hx hy he hn (Heap.get?_push_of_some _ hz) (hst.keep (fun c h => Nat.ne_of_lt (off c h)) fun c o _ e => Heap.get?_push_of_some _ e) hS (fun h' tk acc c as hk hS' hl hG hacc => ?_)⟩
  exact ⟨rfl, hQ h' tk acc c as (fun b o b2 b3 b4 b5 e => hk b o (Nat.ne_of_lt (Heap.lt_size e)) b2 b3 b4 b5 (Heap.get?_push_of_some _ e)) hS' hl hG hacc⟩
end
section
open L2 LiI
def putZ : Hp → List Addr → List (V × V) → Hp
  | H, a :: as, p :: ps => putZ (upd H a (.tup [p.1, p.2])) as ps
  | H, _, _ => H
theorem putZ_off {b : Addr} : ∀ (as : List Addr) (ps : List (V × V)) (H : Hp), b ∉ as → putZ H as ps b = H b
  | [], _, _, _ => rfl
  | _ :: _, [], _, _ => rfl
  | a :: as, p :: ps, H, h => by
    show putZ (upd H a (.tup [p.1, p.2])) as ps b = H b
    rw [putZ_off as ps _ (fun z => h (List.mem_cons_of_mem _ z)), upd_ne (fun z => h (by rw [z]; exact List.mem_cons_self))]
theorem putZ_at : ∀ (as : List Addr) (ps : List (V × V)) (H : Hp), as.length = ps.length → as.Nodup → Paired (fun (t : Addr) (p : V × V) => putZ H as ps t = some (.tup [p.1, p.2])) as ps
  | [], [], _, _, _ => .nil
  | [], _ :: _, _, h, _ => by cases h
  | _ :: _, [], _, h, _ => by cases h
  | a :: as, p :: ps, H, h, hn => by
    have hn' := List.nodup_cons.mp hn
    have ih := putZ_at as ps (upd H a (.tup [p.1, p.2])) (Nat.succ.inj h) hn'.2
    refine .cons ?_ ih
    show putZ (upd H a (.tup [p.1, p.2])) as ps a = some (.tup [p.1, p.2])
    rw [putZ_off as ps _ hn'.1, upd_same]
def rZip (K : PySem.W.Frag) : List V → Hp → VK → Prop := fun vs H Q => ∃ (a b : Addr) (xs ys : List V), vs = [.ref a, .ref b] ∧ SqL K H a xs ∧ SqL K H b ys ∧ xs.length = ys.length ∧ xs.length ≤ sizeLine ∧
  ∀ (H' : Hp) (p : Addr) (ts : List Addr), (∀ b o, H b = some o → H' b = some o) → H p = none → (∀ t ∈ ts, H t = none) → p ∉ ts → H' p = some (.lst (ts.map V.ref)) → ts.length = xs.length → (∀ (j : Nat) (t : Addr) (x y : V), ts[j]? = some t → xs[j]? = some x → ys[j]? = some y → H' t = some (.tup [x, y])) → Q (.ref p) H'
def tListZip (K : PySem.W.Frag) (ta : TA) : TE := fun σ H Q => ta σ H fun vs H1 => rZip K vs H1 Q
theorem z_laid {X : Cx} {pins : List (Addr × Obj)} {σ : L2.St} {H : Hp} {s : Shared} {S : Addr} {h' : Heap} {tk : Nat} {xs ys : List V} {us ws : List Value} {acc : Array Value} {c : Nat} {as : List Addr} (I : Inv X pins σ H s) (hz : xs.length ≤ sizeLine) (hxy : xs.length = ys.length) (rx : Vals xs us) (ry : Vals ys ws) (hS0 : s.heap.objs.size ≤ S)
    (hk : ∀ b o, s.heap.get? b = some o → h'.get? b = some o) (hS : h'.get? S = some { cls := .type "list", dict := none, data := .seq acc c, slots := #[] }) (hl : as.length = xs.length) (hG : ZG us.toArray ws.toArray S h' as) (hacc : acc.toList = as.map Value.ref) :
    ∃ H' : Hp, (∀ b o, H b = some o → H' b = some o) ∧ H S = none ∧ (∀ t ∈ as, H t = none) ∧ S ∉ as ∧ H' S = some (.lst (as.map V.ref)) ∧ (∀ (j : Nat) (t : Addr) (x y : V), as[j]? = some t → xs[j]? = some x → ys[j]? = some y → H' t = some (.tup [x, y])) ∧ Inv X pins σ H' { s with heap := h', toks := tk } := by
  have lz : (xs.zip ys).length = as.length := by rw [List.length_zip]; omega
  have hSn : S ∉ as := fun z => Nat.lt_irrefl _ (hG.above _ z)
  have nd : as.Nodup := List.Pairwise.imp (fun {a b} (h : a < b) => Nat.ne_of_lt h) hG.rise
  have new : ∀ t ∈ as, H t = none := fun t ht => I.hok.fresh (Nat.le_of_lt (Nat.lt_of_le_of_lt hS0 (hG.above t ht)))
  have newS : H S = none := I.hok.fresh hS0
  have atP := putZ_at as (xs.zip ys) (upd H S (.lst (as.map V.ref))) lz.symm nd
  have off : ∀ b, b ∉ as → b ≠ S → putZ (upd H S (.lst (as.map V.ref))) as (xs.zip ys) b = H b := fun b h1 h2 => by rw [putZ_off as _ _ h1, upd_ne h2]
  have low : ∀ b o, s.heap.get? b = some o → b ∉ as ∧ b ≠ S := fun b o e => ⟨fun z => absurd (Heap.lt_size e) (Nat.not_lt.mpr (Nat.le_of_lt (Nat.lt_of_le_of_lt hS0 (hG.above b z)))), Nat.ne_of_lt (Nat.lt_of_lt_of_le (Heap.lt_size e) hS0)⟩
  have kp : ∀ b u, H b = some u → (putZ (upd H S (.lst (as.map V.ref))) as (xs.zip ys)) b = some u := fun b u e => by
    rw [off b (fun z => by rw [new b z] at e; cases e) (fun z => by rw [z, newS] at e; cases e)]
    exact e
  have eS : putZ (upd H S (.lst (as.map V.ref))) as (xs.zip ys) S = some (.lst (as.map V.ref)) := by rw [putZ_off as _ _ hSn, upd_same]
  have atJ : ∀ (j : Nat) (t : Addr) (x y : V), as[j]? = some t → xs[j]? = some x → ys[j]? = some y → putZ (upd H S (.lst (as.map V.ref))) as (xs.zip ys) t = some (.tup [x, y]) := fun j t x y e1 e2 e3 => by
    obtain ⟨q, g1, g2⟩ := LiI.paired_get atP e1
    rw [show (xs.zip ys)[j]? = some (x, y) from List.getElem?_zip_eq_some.mpr ⟨e2, e3⟩] at g1
    rw [g2, ← Option.some.inj g1]
  refine ⟨putZ (upd H S (.lst (as.map V.ref))) as (xs.zip ys), kp, newS, new, hSn, eS, atJ, ?_⟩
  refine I.call' (ch := []) rfl ⟨fun b o q _ _ _ => hk b o q, fun b o q _ _ _ => ⟨o.slots, hk b o q⟩, fun b o q n _ => ?_, fun b o q _ => ⟨o, hk b o q⟩, fun b xs q => kp b _ q, fun b o u q => kp b _ q, fun b ps q => ⟨#[], by rw [kp b _ q]; simp⟩⟩ (fun b u q => ?_) I.bare fun b z => by simp at z
  · obtain ⟨z1, z2⟩ := low b o q
    rw [off b z1 z2]
    exact n
  · by_cases hb : b ∈ as
    · obtain ⟨j, pk, e1, e2, e3⟩ := paired_ix atP hb
      rw [e3] at q
      cases q
      obtain ⟨u, v, f1, f2, f3⟩ := hG.pairs j b e1
      obtain ⟨g1, g2⟩ := List.getElem?_zip_eq_some.mp e2
      obtain ⟨u', hu, ru⟩ := rx.get g1
      obtain ⟨v', hv, rv⟩ := ry.get g2
      obtain rfl : u = u' := by
        have : us[j]? = some u := by simpa using f1
        rw [this] at hu; exact Option.some.inj hu
      obtain rfl : v = v' := by
        have : ws[j]? = some v := by simpa using f2
        rw [this] at hv; exact Option.some.inj hv
      exact ⟨by show 2 ≤ sizeLine; decide, [u, v], .cons ru (.cons rv .nil), ⟨_, f3, rfl, _, rfl⟩⟩
    · by_cases hb2 : b = S
      · rw [hb2] at q ⊢
        rw [eS] at q
        cases q
        refine ⟨by rw [List.length_map]; omega, acc.toList, c, by rw [hacc]; exact LiI.vals_refs as, ?_⟩
        rw [Array.toArray_toList]
        exact hS
      · rw [off b hb hb2] at q
        exact (I.hok b u q).stay (fun d v _ y => hk d v y) (fun d y => kp d _ y) fun d xs y => kp d _ y
/-- list(zip(a, b)) -/
theorem pe_listZip {X : Cx} {e e2 : Expr} {ta : TA} {p p2 pos pos2 : Pos} (hc : X.calm = true) (hg : Gl X "list") (hm : X.mg "list" = none) (hg2 : Gl X "zip") (hm2 : X.mg "zip" = none) (ha : PA X [e, e2] ta)
    (hs2 : starEach [e, e2] X.env = (false, eval e X.env) :: starEach [e2] X.env := by rfl) (hpl : (backTo pos2 (starEach [e2] X.env)).any (·.1) = false := by rfl)
    (hs : starEach [.Call (.Name "zip" p2) [e, e2] [] pos2] X.env = (false, eval (.Call (.Name "zip" p2) [e, e2] [] pos2) X.env) :: starEach [] X.env := by rfl) :
    PE X (.Call (.Name "list" p) [.Call (.Name "zip" p2) [e, e2] [] pos2] [] pos) (tListZip X.K ta) := by
  refine ⟨fun pins s σ H Q I hq => ?_⟩
  refine wpAny_Call_Name_kw (ld_blt I hg hm PyProof.Rows.boot_list ?_)
  refine PyProof.Rows.callWith_type1 ?_ hs rfl
  rw [hs]
  show wpAny _ _ (spliced ((false, eval (.Call (.Name "zip" p2) [e, e2] [] pos2) X.env) :: backTo pos (starEach [] X.env))) _ _ s
  refine Calls.spliced_cons ?_
  refine Call_ (ld_blt I hg2 hm2 PyProof.Rows.boot_zip (PyProof.Rows.callWith_type1 (thn (ha.run pos2 pins s σ H _ I hq) ?_) hs2 hpl))
  rintro us s1 ⟨vs, H1, I1, r1, a, b, xs, ys, rfl, hqx, hqy, hxy, hz, q⟩
  obtain ⟨u1, u2, rfl, r1, r2⟩ := vals2 r1
  cases r1
  cases r2
  obtain ⟨its, rv, p1, _⟩ := I1.list hqx
  obtain ⟨its2, rv2, p2', _⟩ := I1.list hqy
  have la : a < s1.heap.objs.size := p1.lt
  have lb : b < s1.heap.objs.size := p2'.lt
  have l1 := rv.length
  have l2 := rv2.length
  refine call_zip_2 p1.isList p2'.isList fun h' hZ hTI hTO h1 h2 hsz hk => ?_
  refine Calls.spliced_nil ?_
  have off : ∀ c ∈ [s1.heap.objs.size + 4, s1.heap.objs.size + 2, s1.heap.objs.size + 3, s1.heap.objs.size, s1.heap.objs.size + 1, a, b], c < h'.objs.size := fun c hc => by
    rw [hsz]
    simp only [List.mem_cons, List.not_mem_nil, or_false] at hc
    rcases hc with z | z | z | z | z | z | z
    all_goals (rw [z]; generalize s1.heap.objs.size = N at *; first | exact Nat.lt_add_of_pos_right (by decide) | exact Nat.add_lt_add_left (by decide) _ | exact Nat.lt_of_lt_of_le (by assumption) (Nat.le_add_right _ _))
  refine z_call (s := { s1 with heap := h' }) (n := xs.length) (I1.ok.hd hc) (PySem.W.ktu_apart s1.heap.objs.size a b la lb) off (by simp only [List.size_toArray]; omega) (by simp only [List.size_toArray]; omega) (.inl (by simp; omega)) hz hZ
    ⟨hTI, h1, h2, p1.isList.at fun o q => hk _ o q, p2'.isList.at fun o q => hk _ o q, .inl ⟨hZ, _, _, hTO⟩⟩ fun h'' tk acc c as hk2 hS hl hG hacc => ?_
  have old : ∀ b o, s1.heap.get? b = some o → h''.get? b = some o := fun b o e => by
    have := Heap.lt_size e
    exact hk2 b o (Nat.ne_of_lt (Nat.lt_of_lt_of_le this (Nat.le_add_right _ _))) (Nat.ne_of_lt (Nat.lt_of_lt_of_le this (Nat.le_add_right _ _))) (Nat.ne_of_lt this) (Nat.ne_of_lt (Nat.lt_of_lt_of_le this (Nat.le_add_right _ _))) (hk b o e)
  obtain ⟨H', k1, k2, k3, k4, k5, k6, J⟩ := z_laid (tk := tk) I1 hz hxy rv rv2 (by rw [hsz]; omega) old hS hl hG hacc
  exact ⟨.ref _, H', J, rfl, q H' _ as k1 k2 k3 k4 k5 hl k6⟩
end
end Vu
namespace Vx
open PySem PySem.Spec PyProof.Rows L2
/-! rules that name the class's fragment: for what stands in comprehensions -/
section
variable {X : Cx}
theorem ix_tupK (K : PySem.W.Frag) (h : X.K = K) : IxR X (rIxT K) := by subst h; exact ix_tup
theorem ix_listK (K : PySem.W.Frag) (h : X.K = K) : IxR X (rIxL K) := by subst h; exact ix_list
theorem sl_listK (K : PySem.W.Frag) (h : X.K = K) : SlR X (rSlL K) := by subst h; exact sl_list
theorem op_neDK (K : PySem.W.Frag) (h : X.K = K) (hu : X.A.units + 64 < cLine) : OpR X (compareOp .NotEq) (rNeD K) := by subst h; exact op_neD hu
theorem op_eqDK (K : PySem.W.Frag) (h : X.K = K) (hu : X.A.units + 64 < cLine) : OpR X (compareOp .Eq) (rEqD K) := by subst h; exact op_eqD hu
theorem cr_sumK (K : PySem.W.Frag) (h : X.K = K) (hc : X.calm = true) : CallR X (.builtin "sum") (rSum K) := by subst h; exact cr_sum hc
theorem cr_allK (K : PySem.W.Frag) (h : X.K = K) (hc : X.calm = true) : CallR X (.builtin "all") (rAll K) := by subst h; exact cr_all hc
theorem kit_refl {K : PySem.W.Frag} {C : Addr} : PySem.W.kitOne K (.ref C) (.ref C) = some true := by
  unfold PySem.W.kitOne
  exact if_pos (by simp)
end
end Vx
namespace Vx
open PySem PySem.Spec PyProof.Rows L2
/-! powers of wide bases, isqrt, the least of three ints, own object * int -/
section
variable {X : Cx}
def CPowW (i j : Int) : Prop := 0 ≤ j ∧ j ≤ 1000 ∧ i.natAbs < 2 ^ 1000
theorem op_powW : OpR X (binaryOp .Pow) (rI CPowW fun i j => .int (i ^ j.toNat)) := by
  intro pins s σ H x y v u Q I rx ry h
  obtain ⟨i, j, rfl, rfl, ⟨h0, h1, h2⟩, q⟩ := h
  obtain ⟨t, rfl⟩ := (show ∃ t, v = Value.int i t from rx)
  obtain ⟨t', rfl⟩ := (show ∃ t, u = Value.int j t from ry)
  have hb : Builtin.Int.intBits i ≤ 1000 := by
    unfold Builtin.Int.intBits
    split
    · exact Nat.zero_le _
    · have := PySem.Flt.log2_lt_of (show 0 < 1000 by decide) h2
      omega
  refine pow_int h0 ?_ ⟨.int _, H, I.tok _, ⟨_, rfl⟩, q⟩
  have e1 : (Builtin.Int.intBits i : Int) * j ≤ 1000 * j := Int.mul_le_mul_of_nonneg_right (by omega) h0
  omega
def rIsqrt : List V → Hp → VK → Prop := fun vs H Q => ∃ a : Int, vs = [.int a] ∧ 0 ≤ a ∧ a.natAbs < 2 ^ 12000 ∧ ∀ r : Int, 0 ≤ r → r * r ≤ a → a < (r + 1) * (r + 1) → Q (.int r) H
theorem cr_isqrt : CallR X (.builtin "math.isqrt") rIsqrt := by
  intro pins s σ H vs us Q I r h
  obtain ⟨a, rfl, h0, h1, q⟩ := h
  obtain ⟨u, rfl, t, rfl⟩ := vals1 r
  have hl : a.toNat.log2 < 12000 := PySem.Flt.log2_lt_of (show 0 < 12000 by decide) (show a.toNat < 2 ^ 12000 by omega)
  have sp := PySem.Float64.isqrt_spec a.toNat
  refine PySem.call_function_meets PySem.W.MGF.kind_isqrt PySem.W.MGF.plain_isqrt PySem.W.MGF.entry_isqrt (PySem.W.MGF.args_isqrt _) (PySem.W.mg_run_isqrt a t (by omega) (by omega) (by omega)).meets ⟨.int _, H, I.tok _, ⟨_, rfl⟩, q _ (Int.natCast_nonneg _) ?_ ?_⟩
  · have := sp.1
    have e : ((Float64.isqrt a.toNat : Nat) : Int) * ((Float64.isqrt a.toNat : Nat) : Int) = ((Float64.isqrt a.toNat * Float64.isqrt a.toNat : Nat) : Int) := by rw [Int.natCast_mul]
    rw [e]; omega
  · have := sp.2
    have e : (((Float64.isqrt a.toNat : Nat) : Int) + 1) * (((Float64.isqrt a.toNat : Nat) : Int) + 1) = (((Float64.isqrt a.toNat + 1) * (Float64.isqrt a.toNat + 1) : Nat) : Int) := by rw [Int.natCast_mul]; rfl
    rw [e]; omega
theorem call_min3 (hc : X.calm = true) : CallR X (.builtin "min") (fun xs H Q => ∃ i j l, xs = [.int i, .int j, .int l] ∧ ∀ m : Int, m ≤ i → m ≤ j → m ≤ l → (m = i ∨ m = j ∨ m = l) → Q (.int m) H) := by
  intro pins s σ H xs us Q I r h
  obtain ⟨i, j, l, rfl, q⟩ := h
  have e1 : nuMin2 (.int i) (.int j) = some (.int (if j < i then j else i)) := by
    show some (if decide (j < i) = true then V.int j else V.int i) = _
    by_cases h : j < i
    · rw [if_pos (decide_eq_true h), if_pos h]
    · rw [if_neg fun z => h (of_decide_eq_true z), if_neg h]
  have e2 : ∀ m : Int, nuMin2 (.int m) (.int l) = some (.int (if l < m then l else m)) := fun m => by
    show some (if decide (l < m) = true then V.int l else V.int m) = _
    by_cases h : l < m
    · rw [if_pos (decide_eq_true h), if_pos h]
    · rw [if_neg fun z => h (of_decide_eq_true z), if_neg h]
  refine call_min3Nu hc pins s σ H _ us Q I r ⟨.int i, .int j, .int l, _, rfl, by unfold nuMin3; rw [e1]; exact e2 _, q _ ?_ ?_ ?_ ?_⟩ <;> (repeat' split) <;> omega
end
/-! x * n, x of an own class, n an int -/
structure MulI (K : PySem.W.Frag) (C g : Addr) : Prop where
  sf : PySem.W.selfFirst K C = true
  at_ : PySem.W.findIn K (.ref C) "__mul__" = some (some (.ref g))
  fn : PySem.W.isFn K (.ref g) = true
  ro : PySem.W.findIn K (.ref C) "__rmul__" = some none
  ii : ∃ fo, PySem.W.findIn K (.type "int") "__mul__" = some fo
  ir : ∃ fo, PySem.W.findIn K (.type "int") "__rmul__" = some fo
  sb : PySem.W.subIn K (.type "int") (.ref C) = some false
section
variable {X : Cx} {CX : CXT} {n : Nat} {C g : Addr} {sp : Sp} {E : XK}
def rMulI (C : Addr) (sp : Sp) (E : XK) : R2 := fun x y H Q => ∃ a dx fs i, x = .ref a ∧ y = .int i ∧ H a = some (.ins C dx fs) ∧ sp [x, y] H Q E
theorem op_mulI (d : MulI X.K C g) (F : FnR X.prog X.w X.K X.mg X.base CX n g sp) (hr : Room n X.A) (hx : Passes CX X E) : OpR X (binaryOp .Mult) (rMulI C sp E) := by
  intro pins s σ H x y v u Q I rx ry h
  obtain ⟨a, dx, fs, i, rfl, rfl, ea, q⟩ := h
  cases (show v = Value.ref a from rx)
  obtain ⟨t, rfl⟩ := (show ∃ t, u = Value.int i t from ry)
  obtain ⟨ox, od, J⟩ := look_ins I ea
  obtain ⟨m, hF⟩ := I.fr
  obtain ⟨fo, hfo⟩ := d.ii
  obtain ⟨ro, hro⟩ := d.ir
  refine PySem.W.ksp_binT (op := .Mult) (T := "int") hF I.ok.mod.kin J rfl d.sf d.at_ d.fn d.ro (.inl rfl) hfo hro d.sb ?_
  refine wpAny_mono (wpAny_call (run_fnR (us := [.ref a, .int i t]) (vs := [.ref a, .int i]) F hr hx I (.cons rfl (.cons ⟨t, rfl⟩ .nil)) q)) (fun w s' z => ?_) fun _ _ x => x
  obtain ⟨z', H', I', rz, qz⟩ := z
  exact SlX.cmpback rz ⟨z', H', I', rz, qz⟩
/-- a def that is asked nothing -/
theorem fn_no {P : Program} {w : World} {K : PySem.W.Frag} {mg : Str → Option Value} {base : Heap} {CX : CXT} {k : Nat} {f : Addr} {fd : FuncData} {ps : List Str} : FnOk P w K mg base CX k f fd ps (fun _ _ _ _ => False) :=
  ⟨fun _ _ _ _ h => h.elim, fun _ _ _ _ _ _ _ _ _ _ _ _ _ h => h.elim⟩
end
end Vx
namespace Vx
open PySem PySem.Spec PyProof PyProof.Rows L2 HotX
/-! the end of a list's and of a tuple's iterator, and the unpacking of a tuple, while an exception is handled -/
section
variable {prog : Program} {w : World} {A : Around} {E : Value → Shared → Prop} {s : Shared}
/-- StopIteration, made and raised there: what stood keeps standing -/
theorem stop_raised {α : Type} {x1 : Addr} {Q : α → Shared → Prop} (hot : HotAt A x1 s.heap)
    (hE : ∀ (e : Addr) (h' : Heap), (∀ b o, s.heap.get? b = some o → h'.get? b = some o) → (∃ o, h'.get? e = some o ∧ o.cls = .type "StopIteration") → E (.ref e) { s with heap := h' }) :
    wpAny (model prog w) A ((newExc (.type "StopIteration") [] >>= fun e => raiseNew e) : Sem α) Q E s := by
  obtain ⟨hh, o1, vs1, h1, d1, c1⟩ := hot
  refine wpAny_bind ?_
  simp only [newExc, newTuple]
  refine wpAny_bind (wpAny_newObj_type (wpAny_bind (m := firstArgMember _ _) (wpAny_of_eq (a := Value.none) (by first | rfl | (simp only [firstArgMember]; rfl)) (wpAny_newObj_type ?_ (by size_fits)))) (by size_fits))
  refine raiseNew_hot ⟨hh, o1, vs1, Heap.get?_push_of_some _ (Heap.get?_push_of_some _ h1), d1, c1⟩ (Nat.ne_of_lt (Heap.lt_size (Heap.get?_push_of_some _ h1))) (Heap.get?_push_size _ rfl) rfl (by first | (simp; done) | (simp; omega) | (simp only [Array.size_append]; simp; omega)) ?_
  refine hE _ _ (fun b o e => ?_) ⟨_, Heap.get?_update_self _ (Heap.get?_push_size _ rfl) rfl, rfl⟩
  rw [Heap.get?_update_other _ _ (Nat.ne_of_gt (Heap.lt_size (Heap.get?_push_of_some _ e)))]
  exact Heap.get?_push_of_some _ (Heap.get?_push_of_some _ e)
theorem hot_set {x1 it : Addr} {o : Obj} {vs : Array Value} {g : Array Value → Array Value} (hot : HotAt A x1 s.heap) (n : x1 ≠ it) : HotAt A x1 (s.heap.update it (Obj.mapFields g)) := by
  obtain ⟨hh, o1, vs1, h1, d1, c1⟩ := hot
  exact ⟨hh, o1, vs1, by rw [Heap.get?_update_other _ _ n.symm]; exact h1, d1, c1⟩
/-- next of a list's iterator behind its last item -/
theorem list_end_hot {j l x1 : Addr} {i : Nat} {its : Array Value} {Q : Option Value → Shared → Prop} (hot : HotAt A x1 s.heap) (n : x1 ≠ j) (hj : s.heap.IsListIter j l i) (hl : s.heap.IsList l its) (hx : its[i]? = none)
    (hQ : ∀ h', Heap.ExtBut j s.heap h' → Q none { s with heap := h' }) : wpAny (model prog w) A (pyNext (.ref j)) Q E s := by
  obtain ⟨o, g1, _, g2⟩ := id hj
  obtain ⟨u, g3, _, _, g4⟩ := hl
  unfold pyNext
  refine wpAny_bind (wpAny_attempt (wpAny_callSpecial?_slot (name := Str.ofString "__next__") hj.typeIs slot_listiter_next (wpAny_call_entry slot_listiter_next hj.typeIs entry_listiter_next ?_ (args_listiter_next _))))
  show wpAny (model prog w) _ (field (.ref j) 0 >>= _) _ _ s
  refine wpAny_bind (wpAny_field g1 g2 (x := .ref l) rfl ?_)
  show wpAny (model prog w) _ (if (Value.ref l == .none) = true then _ else _) _ _ s
  rw [if_neg (show ¬ (Value.ref l == .none) = true from Bool.false_ne_true)]
  show wpAny (model prog w) _ (field (.ref j) 1 >>= _) _ _ s
  refine wpAny_bind (wpAny_field g1 g2 (x := .int i 0) rfl ?_)
  show wpAny (model prog w) _ (seqItems? (.ref l) >>= _) _ _ s
  refine wpAny_bind (wpAny_seqItems g3 g4 ?_)
  simp only [Int.toNat_natCast, hx]
  refine wpAny_bind (wpAny_rule (wpAny_bind (wpAny_setField g1 g2 (by simp) (stop_raised (s := { s with heap := s.heap.update j _ }) (hot_set (o := o) (vs := #[]) hot n) fun e h' k t => ?_))))
  refine wpAny_bind (wpAny_isInstance (T := "StopIteration") (b := true) t isSubtype_stop (wpAny_pure (hQ _ fun b p hb ep => k b p ?_)))
  rw [Heap.get?_update_other _ _ hb.symm]; exact ep
/-- next of a tuple's iterator behind its last item -/
theorem tuple_end_hot {j t x1 : Addr} {i : Nat} {its : Array Value} {Q : Option Value → Shared → Prop} (hot : HotAt A x1 s.heap) (n : x1 ≠ j) (hj : IsTupIter s.heap j t i) (ht : IsTup s.heap t its) (hx : its[i]? = none)
    (hQ : ∀ h', Heap.ExtBut j s.heap h' → Q none { s with heap := h' }) : wpAny (model prog w) A (pyNext (.ref j)) Q E s := by
  obtain ⟨o, g1, _, g2⟩ := id hj
  obtain ⟨u, g3, _, _, g4⟩ := ht
  unfold pyNext
  refine wpAny_bind (wpAny_attempt (wpAny_callSpecial?_slot (name := Str.ofString "__next__") hj.typeIs slot_tupleiter_next (wpAny_call_entry slot_tupleiter_next hj.typeIs entry_tupleiter_next ?_ (args_tupleiter_next _))))
  show wpAny (model prog w) _ (field (.ref j) 0 >>= _) _ _ s
  refine wpAny_bind (wpAny_field g1 g2 (x := .ref t) rfl ?_)
  show wpAny (model prog w) _ (if (Value.ref t == .none) = true then _ else _) _ _ s
  rw [if_neg (show ¬ (Value.ref t == .none) = true from Bool.false_ne_true)]
  show wpAny (model prog w) _ (field (.ref j) 1 >>= _) _ _ s
  refine wpAny_bind (wpAny_field g1 g2 (x := .int i 0) rfl ?_)
  show wpAny (model prog w) _ (seqItems? (.ref t) >>= _) _ _ s
  refine wpAny_bind (wpAny_seqItems g3 g4 ?_)
  simp only [Int.toNat_natCast, hx]
  refine wpAny_bind (wpAny_rule (wpAny_bind (wpAny_setField g1 g2 (by simp) (stop_raised (s := { s with heap := s.heap.update j _ }) (hot_set (o := o) (vs := #[]) hot n) fun e h' k t => ?_))))
  refine wpAny_bind (wpAny_isInstance (T := "StopIteration") (b := true) t isSubtype_stop (wpAny_pure (hQ _ fun b p hb ep => k b p ?_)))
  rw [Heap.get?_update_other _ _ hb.symm]; exact ep
/-- a, b = a tuple of that length -/
theorem unpack_hot {t x1 : Addr} {its : Array Value} {Q : List Value → Shared → Prop} (hot : HotAt A x1 s.heap) (ht : IsTup s.heap t its) (hQ : ∀ h', Heap.ExtBut s.heap.objs.size s.heap h' → Q its.toList { s with heap := h' }) : wpAny (model prog w) A (unpackItems (.ref t) its.size none) Q E s := by
  have nt : t ≠ s.heap.objs.size := by obtain ⟨o, e, _⟩ := ht; exact Nat.ne_of_lt (Heap.lt_size e)
  have nx : x1 ≠ s.heap.objs.size := by obtain ⟨_, o, _, e, _⟩ := hot; exact Nat.ne_of_lt (Heap.lt_size e)
  unfold unpackItems notIterableAtAll
  refine wpAny_bind (wpAny_bind (wpAny_specialOf ht.typeIs slot_tuple_iter.lookup (wpAny_pure ?_)))
  simp only [Bool.false_eq_true, if_false]
  refine wpAny_bind (wpAny_holding (iter_tuple ht (wpAny_bind (wpAny_holding (draw_tuple nt its.size 0 _ _ ⟨_, Heap.get?_push_size _ rfl, rfl, rfl⟩ (ht.push _) (by omega) fun h1 j1 s1 => ?_)))))
  rw [List.drop_zero, List.take_of_length_le (by simp), if_neg (by simp)]
  have hot1 : HotAt A x1 h1 := by
    obtain ⟨hh, o, vs, e, d, c⟩ := hot
    exact ⟨hh, o, vs, s1.extBut x1 o nx (Heap.get?_push_of_some _ e), d, c⟩
  refine wpAny_bind (wpAny_holding (tuple_end_hot (s := { s with heap := h1 }) hot1 nx j1 ((ht.push _).extBut s1.extBut nt) (by simp) fun h2 e2 => ?_))
  simp only [Option.isSome_none, Bool.false_eq_true, if_false]
  exact wpAny_pure (hQ h2 fun b o hb e => e2 b o hb (s1.extBut b o hb (Heap.get?_push_of_some _ e)))
end
end Vx
namespace Vx
open PySem PySem.Spec PyProof PyProof.Rows L2 HotX L2H
/-! targets, walks and list comprehensions while an exception is handled -/
section
variable {X : Cx}
theorem hot_of {p : Addr × Obj} {pins : List (Addr × Obj)} {σ : L2.St} {H : Hp} {s : Shared} (I : L2.Inv X pins σ H s) (hh : Hot1 X.A p) (hp : p ∈ X.pn) : HotAt X.A p.1 s.heap := by
  obtain ⟨h1, vs, h2, h3⟩ := hh
  exact ⟨h1, p.2, vs, (I.pin p (List.mem_append_left _ hp)).1, h2, h3⟩
theorem pg_tupH {es : List Expr} {k : Nat} {t : TGs} {n : Nat} (hc : HotC X) (h : PGs X es t) (hn : (assignEach es X.env).length = n := by rfl) (hst : (assignEach es X.env).findIdx? (·.1) = none := by rfl) : PG X (.Tuple es k pos) (gTup X.K n t) := by
  refine ⟨fun pins s σ H v u Q I r hw => ?_⟩
  obtain ⟨a, xs, rfl, hq, hl, hw⟩ := hw
  cases (show u = Value.ref a from r)
  obtain ⟨its, rv, ht, _⟩ := I.tuple hq
  obtain ⟨p, hh, hp⟩ := hc
  have hsz : (assignEach es X.env).length = its.toArray.size := by rw [hn, ← hl, rv.length]; simp
  rw [assign_Tuple]
  refine wpAny_bind (wpAny_standAt ?_)
  unfold unpack
  rw [hsz, hst]
  refine wpAny_bind (wpAny_holding (unpack_hot (hot_of I hh hp) ht fun h' hx => ?_))
  have I1 : L2.Inv X pins σ H { s with heap := h' } := I.kept (t' := s.toks) fun b o e => hx b o (Nat.ne_of_lt (Heap.lt_size e)) e
  exact h.run pins _ σ H xs _ Q I1 (by simpa using rv) hw
theorem turn_listH {P : Program} {w : World} {K : PySem.W.Frag} {tg : Expr} (a j : Addr) : TurnH P w K tg (Itl K a) [j] j (fun i h => h.IsListIter j a i) where
  mem := List.mem_singleton.mpr rfl
  obj := fun i h ⟨o, e, _, d⟩ b hb => ⟨o, (List.mem_singleton.mp hb) ▸ e, fun v z => by rw [d] at z; cases z⟩
  keep := fun i h h' st k => st.at fun o e => k j (List.mem_singleton.mpr rfl) o e
  item := by
    rintro X rfl rfl rfl hc i pins s σ H E I hf st ⟨xs, x, hq, hx⟩
    obtain ⟨its, rv, pl, _⟩ := I.list hq
    obtain ⟨u, hu, ru⟩ := rv.get hx
    obtain ⟨f0, f1, f2, f3, f4, f5⟩ := hf j (List.mem_singleton.mpr rfl)
    refine wpAny_pyNext_list_item st pl.isList (x := u) (by simpa using hu) fun h' st' sb => ?_
    obtain ⟨o, e, c, d⟩ := id st'
    refine ⟨u, rfl, go_of (s := { s with heap := h' }) e c d (by decide) ⟨x, H, I.turned (t' := s.toks) (fun b o hb e => (sb.2 b hb).trans e) f0 f1 f3 f4 f5, ru, ⟨rfl, fun ys hy => ?_⟩, st', fun b hb => (hf b hb).1⟩⟩
    rw [I.list_inj hy hq]; exact hx
  done := by
    rintro X rfl rfl rfl ⟨p, hh, hp⟩ i pins s σ H E I hf st ⟨xs, hq, hx⟩
    obtain ⟨its, rv, pl, _⟩ := I.list hq
    have hl := rv.length
    obtain ⟨f0, f1, f2, f3, f4, f5⟩ := hf j (List.mem_singleton.mpr rfl)
    exact list_end_hot (hot_of I hh hp) (f5 p (List.mem_append_left _ hp)) st pl.isList (by simp; omega) fun h' eb => ⟨rfl, I.turned (t' := s.toks) (fun b o hb e => eb b o hb e) f0 f1 f3 f4 f5⟩
  self := fun _ _ _ _ _ st h => wpAny_pyIter_listiter st h
theorem pi_listH {tg l : Expr} {tl : TE} (hl : PE X l tl) : PIH X tg l (iList X.K tl) := by
  refine ⟨fun pins s σ H R I h => thn (hl.run pins s σ H _ I h) fun v s1 ⟨x, H1, I1, r1, a, e, ⟨xs, hq⟩, q⟩ => ?_⟩
  subst e
  cases (show v = Value.ref a from r1)
  obtain ⟨its, rv, pl, _⟩ := I1.list hq
  refine wpAny_pyIter_list pl.isList ⟨_, [s1.heap.objs.size], _, _, H1, rfl, I1.kept (t' := s1.toks) fun b o e => Heap.get?_push_of_some _ e, turn_listH a _, ⟨_, Heap.get?_push_size _ rfl, rfl, rfl⟩, fun b hb => ?_, q⟩
  rw [List.mem_singleton.mp hb]
  exact I1.fpOk (Nat.le_refl _) (I1.hok.fresh (Nat.le_refl _))
/-- the block of a comprehension that bears the handled exception -/
abbrev blkP (X : Cx) (p : Addr × Obj) (s : Shared) (H : Hp) (scope : Scope) (ce : Env) (fp : List Addr) : Cx := { X.blk s H scope ce fp with pn := [p] }
theorem inv_blkP {p : Addr × Obj} {s s' : Shared} {H H' : Hp} {scope : Scope} {ce : Env} {fp : List Addr} {σ : L2.St} (I : L2.Inv (X.blk s H scope ce fp) [] σ H' s') (h : s'.heap.get? p.1 = some p.2 ∧ H' p.1 = none ∧ p.1 ≠ ce.locals ∧ p.1 ∉ frs X.stack ∧ ∀ v, p.2.data ≠ .cell v) : L2.Inv (blkP X p s H scope ce fp) [] σ H' s' :=
  ⟨⟨I.ok.mod, I.ok.kind, I.ok.glob, I.ok.blt, I.ok.above, I.ok.inj, I.ok.has, I.ok.cab, I.ok.hd, I.ok.frames, I.ok.stk, I.ok.exf, I.ok.bs, I.ok.bsz, I.ok.noex, I.ok.exfs, I.ok.funs, I.ok.frf⟩, I.os, I.bare, I.base, I.loc, I.cell, I.free, I.freeC, fun q hq => by
    have e : q = p := by simpa using (show q ∈ [p] ++ ([] : List (Addr × Obj)) from hq)
    rw [e]; exact h, I.hok, I.len⟩
end
end Vx
namespace Vx
open PySem PySem.Spec PyProof PyProof.Rows L2 HotX L2H
/-! list comprehensions while an exception is handled -/
section
variable {Y : Cx} {tg elt iter : Expr} {ifs : List Expr} {scope : Scope} {pos : Pos} {J : It} {fp : List Addr} {it D : Addr} {tn : Nat → Heap → Prop} {g : TG} {tt : TT} {te : TE} {vs : List Nat} {σ : L2.St} {Q : VK} {R : Result → Shared → Prop} {W : Nat → Nat → Hp → Prop}
/-- the turns of the block -/
theorem turns_hot (T : TurnH Y.prog Y.w Y.K tg J fp it tn) (hc : HotC Y) (hx : Y.xe = fun _ _ => False) (pg : PG Y tg g) (pt : PTs Y ifs tt) (pe : PE Y elt te)
    (hf : ∀ {σ' : L2.St} {H' : Hp} {s' : Shared}, L2.Inv Y [] σ' H' s' → (∀ b ∈ fp, H' b = none) → ∀ b ∈ fp, FpOk Y [] H' b)
    (turn : ∀ i m H, W i m H → (J.stop i H ∧ Q (.ref D) H) ∨ (J.go i H ∧ ∃ Nx : Hp → Prop, (∀ H', Nx H' → ∃ m', m' < m ∧ W (i + 1) m' H') ∧ ∀ x H', J.yld i H x H' → g x (wipe σ vs) H' fun σ2 H2 => wipe σ2 vs = wipe σ vs ∧ tt σ2 H2 fun b H3 =>
      if b = true then te σ2 H3 fun y H4 => ∃ acc, H4 D = some (.lst acc) ∧ acc.length < sizeLine ∧ Nx (upd H4 D (.lst (acc ++ [y]))) else Nx H3))
    (last : ∀ {s' : Shared} {H' : Hp}, L2.Inv Y [] (wipe σ vs) H' s' → Q (.ref D) H' → R (.ok .next) s') {s : Shared} {H : Hp} {m : Nat} (I : L2.Inv Y [] (wipe σ vs) H s) (st : tn 0 s.heap) (fr : ∀ b ∈ fp, H b = none) (w0 : W 0 m H) :
    codeAny (model Y.prog Y.w) Y.A (.compLoop (.ListComp elt [⟨tg, iter, ifs, 0⟩] scope pos) 0 (.ref it) (.ref D) Y.env) R s := by
  have no : ∀ {α : Type} {c : Sem α} {P P' : α → Shared → Prop} {E : Value → Shared → Prop} {u : Shared}, wpAny (model Y.prog Y.w) Y.A c P Y.xe u → (∀ a v, P a v → P' a v) → wpAny (model Y.prog Y.w) Y.A c P' E u := fun h k => wpAny_mono h k fun _ _ z => by
    rw [hx] at z; exact z.elim
  refine compLoop_any (fun n u => ∃ i G, L2.Inv Y [] (wipe σ vs) G u ∧ tn i u.heap ∧ (∀ b ∈ fp, G b = none) ∧ W i n G) ?_ m ⟨0, H, I, st, fr, w0⟩
  rintro n u ⟨i, G, IG, tG, fG, wG⟩
  rcases turn i n G wG with ⟨hs, hq⟩ | ⟨hg, Nx, hN, hstep⟩
  · refine thnF (T.done Y rfl rfl rfl hc i [] u _ G (fun _ _ => False) IG (hf IG fG) tG hs) fun r u1 ⟨e, I1⟩ => ?_
    subst e
    exact last I1 hq
  refine thnF (T.item Y rfl rfl rfl hc i [] u _ G (fun _ _ => False) IG (hf IG fG) tG hg) fun r u1 ⟨a, e, k1⟩ => ?_
  subst e
  refine thnF k1 fun _ u2 ⟨x, G2, I2, rx, yx, t2, f2⟩ => ?_
  have held : ∀ b ∈ fp, ∀ o, u2.heap.get? b = some o → (b, o) ∈ Y.pn ++ ([] ++ pinsAt fp u2.heap) := fun b hb o e => List.mem_append_right _ (List.mem_append_right _ (mem_pinsAt hb e))
  have again : ∀ {σ3 : L2.St} {G3 : Hp} {u3 : Shared}, wipe σ3 vs = wipe σ vs → L2.Inv Y ([] ++ pinsAt fp u2.heap) σ3 G3 u3 → Nx G3 → ∃ m, m < n ∧ ∃ i G, L2.Inv Y [] (wipe σ vs) G u3 ∧ tn i u3.heap ∧ (∀ b ∈ fp, G b = none) ∧ W i m G := fun {σ3 G3 u3} hw I3 nx => by
    obtain ⟨m', lt, w'⟩ := hN G3 nx
    refine ⟨m', lt, i + 1, G3, (I3.unpinned (pins := [])).weak (by rw [← hw, wipe_length]) (fun k v e => ?_), T.keep _ _ _ t2 fun b hb o e => (I3.pin (b, o) (held b hb o e)).1, fun b hb => ?_, w'⟩
    · rw [← hw] at e; exact (wipe_some e).1
    · obtain ⟨o, e, _⟩ := T.obj _ _ t2 b hb
      exact (I3.pin (b, o) (held b hb o e)).2.1
  refine no (pg.run _ u2 _ G2 x a _ (I2.pinned (hf I2 f2) (T.obj _ _ t2)) rx (hstep x G2 yx)) fun _ u3 ⟨σ3, G3, I3, hw, q3⟩ => ?_
  refine no (pt.run _ u3 σ3 G3 _ I3 q3) fun ok u4 ⟨G4, I4, q4⟩ => ?_
  cases ok with
  | false => exact again hw I4 (by simpa using q4)
  | true =>
    simp only [if_true] at q4 ⊢
    refine no (pe.run _ u4 σ3 G4 _ I4 q4) fun z u5 ⟨y, G5, I5, ry, acc, e5, l5, nx⟩ => ?_
    exact app_ok I5 e5 l5 ry fun u6 I6 => again hw I6 nx
end
section
variable {X : Cx} {p : Addr × Obj} {tg elt iter : Expr} {ifs : List Expr} {scope : Scope} {own : List (Str × Nat)} {pos : Pos} {wi : TI} {g : TG} {tt : TT} {te : TE}
theorem lc_hot {pins : List (Addr × Obj)} {s : Shared} {σ : L2.St} {H : Hp} {Q : VK} {pos' : Pos} {use : Option (Value → Sem Unit)} {Qf : Value → Shared → Prop} (hh : Hot1 X.A p) (hp : p ∈ X.pn) (hN : X.N.Nodup) (I : L2.Inv X pins σ H s) (hi : PIH X tg iter wi) (ok : BlkOk X.N X.env.scope scope own)
    (hg : ∀ (s : Shared) (H : Hp) (C : Addr) (cl : List (Str × Addr)) (fp : List Addr), PG (blkP X p s H scope (compEnvC scope cl C X.env) fp) tg g)
    (ht : ∀ (s : Shared) (H : Hp) (C : Addr) (cl : List (Str × Addr)) (fp : List Addr), PTs (blkP X p s H scope (compEnvC scope cl C X.env) fp) ifs tt)
    (he : ∀ (s : Shared) (H : Hp) (C : Addr) (cl : List (Str × Addr)) (fp : List Addr), PE (blkP X p s H scope (compEnvC scope cl C X.env) fp) elt te)
    (hs : ∀ x, foldedSetIterable iter X.env x = pure x) (h : tLc wi g tt te (own.map (·.2)) σ H Q)
    (hR : ∀ D C s' m H', L2.Inv X pins σ H' s' → Q (.ref D) H' → s'.heap.Ns C m → FpOk X pins H' C → compPost (model X.prog X.w) X.A X.xe use Qf (.ref D) C (.ok .next) s') :
    wpAny (model X.prog X.w) X.A (comprehension (.ListComp elt [⟨tg, iter, ifs, 0⟩] scope pos) scope X.env pos' (newList []) false (eval iter X.env) use) Qf X.xe s := by
  have clo : ∀ y ∈ scope.names, y.2 = .free → ∃ c, X.env.cells.lookup y.1 = some c := fun y hy e => I.ok.has _ (ok.free y hy e)
  refine wpAny_comprehension_free (use := use) rfl hs (closure_ok clo) ok.kind (fun y hy e => by rw [ok.uniq y hy, e]) (thn (hi.run pins s σ H _ I h) fun xv s1 q1 => thn q1 fun itv s2 ⟨it, fp, tn, J, H2, e, I2, T, t2, f2, q2⟩ => ?_)
  subst e
  refine wpAny_newObj_type (newEnv_comp ?_) (by show 0 ≤ sizeLine; decide)
  obtain ⟨D, hD⟩ : ∃ D, D = s2.heap.objs.size := ⟨_, rfl⟩
  rw [← hD]
  obtain ⟨W, ⟨m0, w0⟩, turn⟩ := q2 D (I2.hok.fresh (Nat.le_of_eq hD.symm))
  obtain ⟨s3, h3⟩ : ∃ s3 : Shared, s3 = { s2 with heap := s2.heap.push { cls := .type "list", data := .seq ([] : List Value).toArray } } := ⟨_, rfl⟩
  obtain ⟨H3, g3⟩ : ∃ H3 : Hp, H3 = upd H2 D (.lst []) := ⟨_, rfl⟩
  rw [← g3] at w0
  have grow : ∀ b o, s2.heap.get? b = some o → s3.heap.get? b = some o := fun b o e => by rw [h3]; exact Heap.get?_push_of_some _ e
  have I3 : L2.Inv X pins σ H3 s3 := by
    rw [h3, g3]
    refine I2.laid (t' := s2.toks) (fun b o e => Heap.get?_push_of_some _ e) (Nat.le_of_eq hD.symm) ⟨Nat.zero_le _, [], 0, .nil, ?_⟩
    rw [hD]; exact Heap.get?_push_size _ rfl
  have below : ∀ b ∈ fp, b < s2.heap.objs.size := fun b hb => let ⟨_, e, _⟩ := T.obj _ _ t2 b hb; Heap.lt_size e
  have f3 : ∀ b ∈ fp, FpOk X pins H3 b ∧ b < s3.heap.objs.size := fun b hb => by
    have hlt := below b hb
    refine ⟨⟨?_, (f2 b hb).2⟩, ?_⟩
    · rw [g3, upd_ne (by rw [hD]; exact Nat.ne_of_lt hlt)]
      exact (f2 b hb).1
    · rw [h3]
      show b < (s2.heap.push _).objs.size
      rw [Heap.size_push]; exact Nat.lt_succ_of_lt hlt
  have IB := block_start I3 ok hN f3
  have P3 := I3.pin p (List.mem_append_left _ hp)
  obtain ⟨C, hC⟩ : ∃ C, C = s3.heap.objs.size := ⟨_, rfl⟩
  rw [← h3]
  rw [← hC] at IB ⊢
  have pg := hg s3 H3 C (cellsFrom (C + 1) scope.names (cloFrom X.env.cells scope.names [])) fp
  have pt := ht s3 H3 C (cellsFrom (C + 1) scope.names (cloFrom X.env.cells scope.names [])) fp
  have pe := he s3 H3 C (cellsFrom (C + 1) scope.names (cloFrom X.env.cells scope.names [])) fp
  obtain ⟨ce, hce⟩ : ∃ ce, ce = compEnvC scope (cellsFrom (C + 1) scope.names (cloFrom X.env.cells scope.names [])) C X.env := ⟨_, rfl⟩
  rw [← hce] at IB pg pt pe
  have cL : ce.locals = C := by rw [hce]; rfl
  have nC : p.1 ≠ C := by rw [hC]; exact Nat.ne_of_lt (Heap.lt_size P3.1)
  have keep4 : ∀ b o, s3.heap.get? b = some o → (pushCells (s3.heap.push { cls := .type "dict", data := .dict #[] }) scope.names).get? b = some o := fun b o e => pushCells_keeps _ _ _ _ (Heap.get?_push_of_some _ e)
  have stk : p.1 ∉ frs X.stack := fun hm => (List.mem_cons.mp (I3.stkSub p.1 hm)).elim P3.2.2.1 P3.2.2.2.1
  have IP : L2.Inv (blkP X p s3 H3 scope ce fp) [] (wipe σ (own.map (·.2))) H3 { s3 with heap := pushCells (s3.heap.push { cls := .type "dict", data := .dict #[] }) scope.names } := inv_blkP IB ⟨keep4 _ _ P3.1, P3.2.1, by rw [cL]; exact nC, stk, P3.2.2.2.2⟩
  have t4 : tn 0 (pushCells (s3.heap.push { cls := .type "dict", data := .dict #[] }) scope.names) := T.keep _ _ _ t2 fun b _ o e => keep4 _ _ (grow b o e)
  have loop := turns_hot (Y := blkP X p s3 H3 scope ce fp) (R := compPost (model X.prog X.w) X.A X.xe use Qf (.ref D) C) (pos := pos) (iter := iter) (scope := scope) (σ := σ) (Q := Q) T ⟨p, hh, List.mem_singleton.mpr rfl⟩ rfl pg pt pe
    (fun {σ' H' s'} J' hn b hb => ⟨hn b hb, (J'.ok.exf b hb).1, J'.ok.exfs b hb, .inl hb, fun x c e => (J'.ok.exf b hb).2 x c e, fun q hq => by
      have eq : q = p := by simpa using (show q ∈ [p] ++ ([] : List (Addr × Obj)) from hq)
      rw [eq]; exact (f2 b hb).2.2.2.2.2 p (List.mem_append_left _ hp)⟩) turn
    (fun {s' H'} J' hq => by
      have I7 : L2.Inv X pins σ H' s' := I3.call' (ch := fp) J'.os J'.base J'.hok J'.bare fun b hb => ⟨(f3 b hb).1.2.2.2.1, (f3 b hb).1.2.1, (f3 b hb).1.2.2.2.2.1, (f3 b hb).1.2.2.2.2.2⟩
      have fr : H' ce.locals = none := J'.free
      obtain ⟨m, hn, _⟩ := J'.loc
      have hn : s'.heap.Ns ce.locals m := hn
      rw [cL] at fr hn
      exact hR D C s' m H' I7 hq hn (I3.fpOk (Nat.le_of_eq hC.symm) fr)) IP t4 (fun b hb => (f3 b hb).1.1) w0
  have fin := codeAny_compStart_list (rest := []) loop (T.self X.A 0 _ _ _ t4 loop)
  subst hce
  exact fin
end
end Vx
namespace Vx
open PySem PySem.Spec PyProof PyProof.Rows L2 HotX L2H
/-! a def that is called while one known exception is handled -/
/-- what it promises: p is the exception -/
structure FnP (P : Program) (w : World) (K : PySem.W.Frag) (mg : Str → Option Value) (base : Heap) (k : Nat) (f : Addr) (fd : FuncData) (ps : List Str) (sp : Sp) (p : Addr × Obj) : Prop where
  len : ∀ vs H Q E, sp vs H Q E → vs.length = ps.length
  run : ∀ (A : Around) (outer : List Env) (s : Shared) (H : Hp) (args : Args) (us : List Value) (vs : List V) (Q : VK), RoomH k A → Hot1 A p → PinOk outer H s p → Env0 P w K mg base A outer s H → BindsTo s fd args (ps.zip us) → Vals vs us → sp vs H Q E0 →
    codeAny (model P w) A (.call (.ref f) args) (CR CX0 outer P w H s Q E0) s
section
variable {P : Program} {w : World} {K : PySem.W.Frag} {mg : Str → Option Value} {base : Heap}
theorem okP {x qual : Str} {st : Stmt} {f : Addr} {fd : FuncData} {N ps : List Str} {k : Nat} {sp : Sp} {p : Addr × Obj} (F : Fun K x qual st f fd) (S : FnScope N ps (defScope st)) (len : ∀ vs H Q E, sp vs H Q E → vs.length = ps.length)
    (hbody : ∀ (cdv : Value) (A : Around) (outer : List Env) (s : Shared) (H : Hp) (vs : List V) (Q : VK), Hot1 A p → RoomH k (A.deeper (envOfC qual (defScope st) s.heap.objs.size f cdv)) → sp vs H Q E0 →
      ∃ t, PSs (cxH CX0 P w K mg base N qual (defScope st) f cdv A outer s H E0 p) (defBody st) t ∧ t { nx := fun _ H' => Q .non H', rt := Q } (L2.start N vs) H) : FnP P w K mg base (k + 1) f fd ps sp p := by
  obtain ⟨oc, od, kV, doc, pm, an, cdv, ct, osl, rfl, lk, hcd⟩ := F.ex
  refine ⟨len, fun A outer s H args us vs Q hr hot hpin e0 hb r hsp => ?_⟩
  have inn := e0.mod.kin.keeps fun b o e => (e0.bs b o e).1
  have kinds : ∀ y ∈ ps.zip us, (defScope st).names.lookup y.1 = some .local ∨ ((defScope st).names.lookup y.1 = some .cell ∧ ((cellsFrom (s.heap.objs.size + 1) (defScope st).names []).lookup y.1).isSome = true) := by
    rintro ⟨y, v⟩ hy
    exact (S.par y (List.of_mem_zip hy).1).elim .inl fun q => .inr ⟨q, PySem.W.cellsFrom_some _ _ _ (.inl q)⟩
  refine codeAny_call_function hr.depth (inn _ _ lk) rfl S.co S.gen rfl (PySem.W.codeRec_of inn hcd) (hb _ _ _ _ (wpAny_newFunctionEnv_cells S.kind kinds fun env he s1 c1 => ?_))
  subst he
  refine ⟨(e0.mod.nolimit.keeps fun b o e => (e0.bs b o e).1).keeps c1.toInCall.keep, codeAny_func ?_⟩
  obtain ⟨t, ht, hq⟩ := hbody cdv A outer s H vs Q hot (hr.deeper _) hsp
  refine wpAny_mono (ht.run [] s1 _ H _ (inv_startH (CX := CX0) (E := E0) S hpin e0 (len _ _ _ _ hsp) r c1) hq) (fun fl s' hs => ?_) fun _ _ z => z
  match fl, hs with
  | .ret u, ⟨v, _, H', J, rv, q⟩ => exact ⟨v, H', J.os, J.bare, J.base, J.hok, rv, q⟩
  | .next, ⟨_, H', J, q⟩ => exact ⟨V.non, H', J.os, J.bare, J.base, J.hok, rfl, q⟩
  | .brk, ⟨_, _, _, q⟩ => exact q.elim
  | .cont, ⟨_, _, _, q⟩ => exact q.elim
end
section
variable {X : Cx} {k : Nat} {f : Addr} {fd : FuncData} {ps : List Str} {sp : Sp} {p : Addr × Obj} {x : Str} {q pos : Pos} {e : Expr} {es : List Expr} {t : TA}
theorem pe_callP (F : FnP X.prog X.w X.K X.mg X.base k f fd ps sp p) (hr : RoomH k X.A) (hh : Hot1 X.A p) (hp : p ∈ X.pn) (hg : Gl X x) (hm : X.mg x = some (.ref f)) (hk : PySem.W.keepIn X.K (.ref f) = true) (hb : L2.Binds X.K fd ps [])
    (ha : PA X (e :: es) t) (hdb : (x == ("__debug__" : Str)) = false := by decide) (he : starEach (e :: es) X.env = (false, eval e X.env) :: starEach es X.env := by rfl) (hpl : (backTo pos (starEach es X.env)).any (·.1) = false := by rfl) :
    PE X (.Call (.Name x q) (e :: es) [] pos) (tCall sp [] E0 t) := by
  refine ⟨fun pins s σ H Q I h => wpAny_Call_Name_kw (ld_glob I hg hm (PySem.W.callWith_K (h₀ := X.base) I.ok.mod.kin hk (thn (ha.run pos pins s σ H _ I h) fun us s1 ⟨vs, H1, I1, r, q⟩ => ⟨I1.kIn, ?_⟩) he hpl) hdb)⟩
  have q : sp (vs ++ []) H1 Q E0 := q
  rw [List.append_nil] at q
  show wpAny (model X.prog X.w) X.A (call (.ref f) us) _ _ _
  have hl : us.length = ps.length := r.length.symm.trans (F.len _ _ _ _ q)
  have b := hb s1 us I1.kIn (by rw [List.append_nil]; exact hl)
  rw [List.append_nil] at b
  have P1 := I1.pin p (List.mem_append_left _ hp)
  refine wpAny_call (codeAny_mono (F.run X.A X.stack s1 H1 ⟨us, []⟩ us vs Q hr hh ⟨P1.1, P1.2.1, fun z => (List.mem_cons.mp (I1.stkSub p.1 z)).elim P1.2.2.1 P1.2.2.2.1, P1.2.2.2.2⟩ I1.env0 b r q) fun r s' z => ?_)
  match r, z with
  | .error _, z => exact z.elim
  | .ok (.ret u), z => exact I1.after z
  | .ok .next, z => exact z.elim
  | .ok .brk, z => exact z.elim
  | .ok .cont, z => exact z.elim
end
end Vx
namespace Vx
open PySem PySem.Spec PyProof PyProof.Rows L2 HotX L2H
section
variable {X : Cx} {p : Addr × Obj}
/-- isinstance(e, c), e the exception that the context bears -/
theorem call_isP {D : Addr} (T : ExcC X.K D) (hz : Zc (.ref D) none p.2) (hf : ∃ vs, p.2.data = .fields vs) (hp : p ∈ X.pn) : CallR X (.builtin "isinstance") (rIsE X.K D p.1) := by
  intro pins s σ H xs us Q I r h
  obtain ⟨c, cv, b, rfl, hcv, e, q⟩ := h
  obtain ⟨u1, u2, rfl, r1, r2⟩ := vals2 r
  cases (show u1 = Value.ref p.1 from r1)
  obtain rfl := hcv _ r2
  obtain ⟨a, oc, od, oda, osl⟩ := p
  obtain ⟨z1, z2⟩ := hz
  obtain ⟨vs, hv⟩ := hf
  dsimp only at z1 z2 hv
  subst z1 z2 hv
  exact PySem.W.kia_one (PySem.W.handS_kitx_exc T.hg T.hk T.hs T.hd T.ha T.hn T.ht T.hm) I.kIn (⟨(I.pin _ (List.mem_append_left _ hp)).1, rfl, rfl, trivial⟩ : PySem.W.InstAt s.heap a _ D none) e (fun z => nomatch z) fun tk => ⟨.bl b, H, I.kept (t' := tk) fun _ _ z => z, rfl, q⟩
/-- name = [..] on one line -/
theorem ps_setLcH {i : Nat} {y : Str} {py : Pos} {elt tg iter : Expr} {ifs : List Expr} {scope : Scope} {own : List (Str × Nat)} {pos spos : Pos} {wi : TI} {g : TG} {tt : TT} {te : TE} (hh : Hot1 X.A p) (hp : p ∈ X.pn) (hN : X.N.Nodup) (hy : X.N[i]? = some y) (hyl : X.env.scope.names.lookup y = some .local)
    (hsw : swapsWith (.ListComp elt [⟨tg, iter, ifs, 0⟩] scope pos) (some (.Name y py)) spos.line X.env = pure true) (hi : PIH X tg iter wi) (ok : BlkOk X.N X.env.scope scope own)
    (hg : ∀ (s : Shared) (H : Hp) (C : Addr) (cl : List (Str × Addr)) (fp : List Addr), PG (blkP X p s H scope (compEnvC scope cl C X.env) fp) tg g)
    (ht : ∀ (s : Shared) (H : Hp) (C : Addr) (cl : List (Str × Addr)) (fp : List Addr), PTs (blkP X p s H scope (compEnvC scope cl C X.env) fp) ifs tt)
    (he : ∀ (s : Shared) (H : Hp) (C : Addr) (cl : List (Str × Addr)) (fp : List Addr), PE (blkP X p s H scope (compEnvC scope cl C X.env) fp) elt te) (hs : ∀ x, foldedSetIterable iter X.env x = pure x := by intro _; rfl) :
    PS X (.Assign [.Name y py] (.ListComp elt [⟨tg, iter, ifs, 0⟩] scope pos) spos) (tAsg (tLc wi g tt te (own.map (·.2))) (gName i)) := by
  refine ⟨fun pins s σ H D I h => ?_⟩
  rw [exec_Assign_Name_used _ _ _ _ hsw]
  refine wpAny_bind (wpAny_standAt (wpAny_bind ?_))
  show wpAny (model X.prog X.w) X.A (do let _ ← comprehension (.ListComp elt [⟨tg, iter, ifs, 0⟩] scope pos) scope X.env (firstIterPos [⟨tg, iter, ifs, 0⟩] pos) (newList []) false (eval iter X.env) (some (assign (.Name y py) X.env))) _ X.xe s
  refine wpAny_bind (thn (lc_hot (Q := fun x H1 => gName i x σ H1 D.nx) (Qf := fun _ u => L2.SP X pins D .next u) hh hp hN I hi ok hg ht he hs h fun L C u m H' I' q hn f => ?_) fun _ u z => wpAny_pure (wpAny_pure z))
  obtain ⟨f0, f1, f2, f3, f4, f5⟩ := f
  show wpAny _ _ (assign (.Name y py) X.env (.ref L)) _ _ _
  refine wpAny_assign_Name (store_ok2 (v := V.ref L) I' hN hy (.inl hyl) rfl (fun u2 I2 ⟨a, sb, ha⟩ => ⟨m, hn.sameBut sb fun e => ?_, fun u3 sb3 => ⟨_, H', I2.turned (t' := u2.toks) (fun b o hb e => (sb3.2 b hb).trans e) f0 f1 f3 f4 f5, q⟩⟩) (.inr hyl))
  rcases ha with z | z
  · exact f1 (e.trans z)
  · exact f4 y a z e.symm
end
end Vx
namespace Vx
open PySem PySem.Spec PyProof PyProof.Rows L2 HotX L2H
/-! defs that may raise an own error without a dict; a law's try around them -/
theorem passLN {X : Cx} : Passes (L2N.CX X.prog X.w) X E0 := fun _ _ _ _ _ _ _ h => by
  obtain ⟨_, _, _, _, _, _, _, _, _, _, _, _, z⟩ := h
  exact z.elim
theorem takes0N {X : Cx} : L2N.Takes X (fun _ _ _ _ => False) := fun _ _ x => by
  obtain ⟨_, _, _, _, _, _, _, _, _, _, _, _, _, _, _, _, z⟩ := x
  exact z.elim
section
variable {P : Program} {w : World} {K : PySem.W.Frag} {mg : Str → Option Value} {base : Heap}
theorem okN {x qual : Str} {st : Stmt} {f : Addr} {fd : FuncData} {N ps : List Str} {k : Nat} {sp : Sp} (F : Fun K x qual st f fd) (S : FnScope N ps (defScope st)) (len : ∀ vs H Q E, sp vs H Q E → vs.length = ps.length)
    (hbody : ∀ (cdv : Value) (A : Around) (outer : List Env) (s : Shared) (H : Hp) (vs : List V) (Q : VK) (E : XK), Room k (A.deeper (envOfC qual (defScope st) s.heap.objs.size f cdv)) → L2N.Takes (cxOf (L2N.CX P w) P w K mg base N qual (defScope st) f cdv A outer s H E) (fun cls d _ H => E cls d H) → sp vs H Q E →
      ∃ t, PSs (cxOf (L2N.CX P w) P w K mg base N qual (defScope st) f cdv A outer s H E) (defBody st) t ∧ t { nx := fun _ H' => Q .non H', rt := Q } (start N vs) H) : FnOk P w K mg base (L2N.CX P w) (k + 1) f fd ps sp := by
  obtain ⟨oc, od, kV, doc, pm, an, cdv, ct, osl, rfl, lk, hcd⟩ := F.ex
  exact fn_of lk hcd S len fun A outer s H vs Q E hr hsp => hbody cdv A outer s H vs Q E hr (L2N.takes_of rfl rfl rfl rfl) hsp
theorem okND {x qual : Str} {params : Arguments} {body : List Stmt} {scope : Scope} {dvs : List V} {kws : List (Str × V)} {f : Addr} {fd : FuncData} {N ps : List Str} {k : Nat} {sp : Sp} (F : FunD K x qual params body scope dvs kws f fd) (S : FnScope N ps scope) (len : ∀ vs H Q E, sp vs H Q E → vs.length = ps.length)
    (hbody : ∀ (cdv : Value) (A : Around) (outer : List Env) (s : Shared) (H : Hp) (vs : List V) (Q : VK) (E : XK), Room k (A.deeper (envOfC qual scope s.heap.objs.size f cdv)) → L2N.Takes (cxOf (L2N.CX P w) P w K mg base N qual scope f cdv A outer s H E) (fun cls d _ H => E cls d H) → sp vs H Q E →
      ∃ t, PSs (cxOf (L2N.CX P w) P w K mg base N qual scope f cdv A outer s H E) body t ∧ t { nx := fun _ H' => Q .non H', rt := Q } (start N vs) H) : FnOk P w K mg base (L2N.CX P w) (k + 1) f fd ps sp := by
  obtain ⟨oc, od, dV, kV, doc, pm, an, cdv, ct, osl, rfl, lk, hcd, _, _⟩ := F.ex
  exact fn_of lk hcd S len fun A outer s H vs Q E hr hsp => hbody cdv A outer s H vs Q E hr (L2N.takes_of rfl rfl rfl rfl) hsp
end
/-- what the written part says of an error class over PairError, without an __init__ of its own -/
structure ErrC (K : PySem.W.Frag) (mg : Str → Option Value) (x : Str) (C : Addr) : Prop where
  g : mg x = some (.ref C)
  q : PySem.W.excIn K C [.type "ValueError", .type "Exception", .type "BaseException", .type "object"] "ValueError.__new__" = true
  k : PySem.W.keepIn K (.ref C) = true
  b : PySem.W.subIn K (.ref C) (.type "BaseException") = some true
  t : PySem.W.typeIn K (.ref C) = some (.type "type")
section
variable {X : Cx} {C : Addr} {x : Str}
/-- a callee's way out is ours -/
theorem pass_tk {X : Cx} {E : XK} (tk : L2N.Takes X (fun cls d _ H => E cls d H)) : Passes (L2N.CX X.prog X.w) X E := L2N.passes_call tk fun _ _ _ _ h => h
/-- raise X('m') -/
theorem ps_err {W : WX} {m : Str} {j : Nat} {p p2 p3 pos : Pos} (T : ErrC X.K X.mg x C) (hc : X.calm = true) (tk : L2N.Takes X W) (hg : Gl X x) (hdb : (x == ("__debug__" : Str)) = false := by decide) : PS X (.Raise (some (.Call (.Name x p) [.Constant (.str m) j p2] [] p3)) none pos) (fun _ σ H => W (.ref C) none σ H) :=
  L2N.ps_raise hc tk (L2N.pmk_own PySem.F.excBase_ValueError T.q T.g T.k (raises_own T.b T.t) hg hdb)
end
/-- a value of a built-in type T as the right side of an operator -/
structure RhsT (K : PySem.W.Frag) (C : Addr) (op : Operator) (T : String) : Prop where
  ii : ∃ fo, PySem.W.findIn K (.type T) (PySem.dunder op.info.2) = some fo
  ir : ∃ fo, PySem.W.findIn K (.type T) (PySem.dunderR op.info.2) = some fo
  sb : PySem.W.subIn K (.type T) (.ref C) = some false
section
open PySem.W
variable {prog : Program} {w : World} {A : Around} {E : Value → Shared → Prop} {s : Shared} {K : Frag} {x C L f : Addr} {h₀ : Heap} {m : Str → Option Value} {ox : Obj} {od : Option Obj} {b : Value} {T : String}
/-- an own class's operator, whatever stands at the right, if only its type is known -/
theorem bin_any {op : Operator} {Q : Value → Shared → Prop} (F : Fr h₀ L s.heap m) (X₀ : K.In h₀) (I : InstAt s.heap x ox C od) (hb : Looks (model prog w) s.heap (typeOf b) (.type T)) (hc : selfFirst K C = true)
    (hs : findIn K (.ref C) (PySem.dunder op.info.2) = some (some (.ref f))) (hf : isFn K (.ref f) = true) (hr : findIn K (.ref C) (dunderR op.info.2) = some none) (R : RhsT K C op T)
    (h : wpAny (model prog w) A (call (.ref f) [.ref x, b]) (PySem.W.CmpBack Q) E s) : wpAny (model prog w) A (binaryOp op (.ref x) b) Q E s := by
  have X := X₀.keeps F.keep
  obtain ⟨fo, h1⟩ := R.ii
  obtain ⟨ro, h2⟩ := R.ir
  have hsub := R.sb
  obtain ⟨cd, rest, hcd, hm⟩ := ksp_first hc
  rcases hi : op.info with ⟨sym, nm⟩
  rw [hi] at hs hr h1 h2
  dsimp only at hs hr h1 h2
  have one := ksp_try X I hs hf h
  obtain ⟨hh, g, d, tt, os⟩ := s
  have l1 : Looks (model prog w) hh (typeOf (.ref x)) (.ref C) := I.type
  have l2 : Looks (model prog w) hh (typeOf b) (.type T) := hb
  have l3 : Looks (model prog w) hh (fillsNumberSlot (.ref C) nm) true := fills_K X hcd hm hs
  have l4 : Looks (model prog w) hh (fillsNumberSlot (.type T) nm) _ := ksp_fillsT X h1 h2
  have l5 : Looks (model prog w) hh (isSubtype (.type T) (.ref C)) false := looks_subIn X hsub
  have l6 : Looks (model prog w) hh (numberSlotInPython (.ref C) nm) true := ksp_inPy X hs hr (.inl rfl)
  have l7 : Looks (model prog w) hh (numberSlotInPython (.type T) nm) false := Looks.of_pure rfl
  have l8 : Looks (model prog w) hh (typeLookup (.type T) (dunderR nm)) ro := looks_findIn X h2
  generalize ((fo.isSome && !isSeqSlot fo) || (ro.isSome && !isSeqSlot ro)) = right at l4
  have hne : (Value.ref C == Value.type T) = false := Bool.eq_false_iff.mpr fun q => by cases beq_iff_eq.mp q
  simp only [binaryOp, hi]
  refine wpAny_holding (wpAny_bind ?_)
  unfold binaryOp1
  refine wpAny_bind (l1.at (wpAny_bind (l2.at (wpAny_bind (l3.at ?_)))))
  simp only [hne, Bool.false_eq_true, if_false]
  cases right with
  | false =>
    ksp_lk
    refine wpAny_mono one (fun r s' hr' => ?_) fun _ _ e => e
    obtain ⟨v, rfl, hq⟩ := hr'
    ksp_lk
    exact hq
  | true =>
    ksp_lk
    refine wpAny_mono one (fun r s' hr' => ?_) fun _ _ e => e
    obtain ⟨v, rfl, hq⟩ := hr'
    ksp_lk
    exact hq
end
/-- what an own class's operator asks of its class -/
structure OpC (K : PySem.W.Frag) (C g : Addr) (op : Operator) : Prop where
  sf : PySem.W.selfFirst K C = true
  at_ : PySem.W.findIn K (.ref C) (PySem.dunder op.info.2) = some (some (.ref g))
  fn : PySem.W.isFn K (.ref g) = true
  ro : PySem.W.findIn K (.ref C) (PySem.dunderR op.info.2) = some none
section
variable {X : Cx} {CX : CXT} {k : Nat} {C g : Addr} {fd : FuncData} {ps : List Str} {sp : Sp} {E : L2.St → XK} {op : Operator} {ta tb : TE} {a b : Expr} {pos : Pos}
def rAny (K : PySem.W.Frag) (C : Addr) (op : Operator) (sp : Sp) (E : XK) : R2 := fun x y H Q => ∃ o dx fs, x = .ref o ∧ H o = some (.ins C dx fs) ∧ ((∃ b dy gs, y = .ref b ∧ H b = some (.ins C dy gs)) ∨ ∃ T : String, TyX K H y (.type T) ∧ RhsT K C op T) ∧ sp [x, y] H Q E
theorem op_anyS {pins : List (Addr × Obj)} {σ : L2.St} {H : Hp} {s : Shared} {x y : V} {v u : Value} {Q : VK} (d : OpC X.K C g op) (F : FnOk X.prog X.w X.K X.mg X.base CX k g fd ps sp) (hr : Room k X.A) (hbd : Binds X.K fd ps []) (hx : PassesAt CX X σ (E σ))
    (I : L2.Inv X pins σ H s) (rx : RelV x v) (ry : RelV y u) (h : rAny X.K C op sp (E σ) x y H Q) : wpAny (model X.prog X.w) X.A (binaryOp op v u) (EP X pins σ Q) X.xe s := by
  obtain ⟨o, dx, fs, rfl, ea, hy, q⟩ := h
  cases (show v = Value.ref o from rx)
  obtain ⟨ox, od, J⟩ := look_ins I ea
  obtain ⟨m, hF⟩ := I.fr
  have call : wpAny (model X.prog X.w) X.A (PySem.call (.ref g) [.ref o, u]) (PySem.W.CmpBack (EP X pins σ Q)) X.xe s := by
    refine wpAny_mono (run_fnS (us := [.ref o, u]) (vs := [.ref o, y]) F hr hbd hx I (.cons rfl (.cons ry .nil)) q) (fun w s' z => ?_) fun _ _ x => x
    obtain ⟨z', H', I', rz, qz⟩ := z
    exact SlX.cmpback rz ⟨z', H', I', rz, qz⟩
  rcases hy with ⟨b, dy, gs, rfl, eb⟩ | ⟨T, ty, R⟩
  · cases (show u = Value.ref b from ry)
    obtain ⟨ox2, od2, J2⟩ := look_ins I eb
    exact PySem.W.binop_K hF I.ok.mod.kin J J2.type d.sf d.at_ d.fn call
  · obtain ⟨P, Z, p, _⟩ := kit_of I ry ty
    exact bin_any hF I.ok.mod.kin J (Z.ty _ _ I.kIn p) d.sf d.at_ d.fn d.ro R call
/-- x op y whose method may raise, in a try -/
theorem pe_anyS (K : PySem.W.Frag) (hK : X.K = K) (d : OpC K C g op) (F : FnOk X.prog X.w K X.mg X.base CX k g fd ps sp) (hr : Room k X.A) (hbd : Binds K fd ps []) (hx : ∀ σ, PassesAt CX X σ (E σ)) (ha : PE X a ta) (hb : PE X b tb) :
    PE X (.BinOp a op b pos) (fun σ H Q => ta σ H fun x H1 => tb σ H1 fun y H2 => rAny K C op sp (E σ) x y H2 Q) := by
  subst hK
  refine ⟨fun pins s σ H Q I h => ?_⟩
  exact wpAny_BinOp (binT ha hb I h fun v u s2 x y H2 I2 rx ry q => op_anyS d F hr hbd (hx σ) I2 rx ry q)
/-- .. that does not raise -/
theorem op_any {E : XK} (d : OpC X.K C g op) (F : FnOk X.prog X.w X.K X.mg X.base CX k g fd ps sp) (hr : Room k X.A) (hbd : Binds X.K fd ps []) (hx : Passes CX X E) : OpR X (binaryOp op) (rAny X.K C op sp E) :=
  fun pins s σ H x y v u Q I rx ry h => op_anyS (E := fun _ => E) d F hr hbd (fun pins H s e s' => hx pins σ H s e s') I rx ry h
/-- .. in a comprehension -/
theorem op_anyK {E : XK} (K : PySem.W.Frag) (hK : X.K = K) (d : OpC K C g op) (F : FnOk X.prog X.w K X.mg X.base CX k g fd ps sp) (hr : Room k X.A) (hbd : Binds K fd ps []) (hx : Passes CX X E) : OpR X (binaryOp op) (rAny K C op sp E) := by
  subst hK
  exact op_any d F hr hbd hx
/-- a part under a premise that its reading gives -/
theorem pe_ask {p : Prop} {t : TE} {e : Expr} (h : p → PE X e t) : PE X e (fun σ H Q => p ∧ t σ H Q) := ⟨fun pins s σ H Q I q => (h q.1).run pins s σ H Q I q.2⟩
theorem pe_some {ι : Sort _} {t : ι → TE} {e : Expr} (h : ∀ i, PE X e (t i)) : PE X e (fun σ H Q => ∃ i, t i σ H Q) := ⟨fun pins s σ H Q I ⟨i, q⟩ => (h i).run pins s σ H Q I q⟩
end
/-- the borne exception's facts in an except suite -/
theorem hot_suite {X : Cx} {a : Addr} {oe : Obj} {cls : Value} {d : Option Addr} {pn : List (Addr × Obj)} (hz : L2N.Zn cls d oe) (hf : ∃ vs, oe.data = .fields vs) : Hot1 (X.suite a ((a, oe) :: pn)).A (a, oe) := by
  obtain ⟨vs, hv⟩ := hf
  exact ⟨rfl, vs, hv, hz.2.2 vs hv⟩
end Vx
namespace Vx
open PySem PySem.Spec PyProof PyProof.Rows L2 HotX L2H
/-! raise X(e), e an f-string; an own object made in a try, its __init__ may raise -/
section
variable {X : Cx} {C : Addr} {x : Str}
theorem pmk_err1 {e : Expr} {ta : TE} {p pos : Pos} (T : ErrC X.K X.mg x C) (hg : Gl X x) (he : PE X e ta) (hdb : (x == ("__debug__" : Str)) = false := by decide) (hs : starEach [e] X.env = (false, eval e X.env) :: starEach [] X.env := by rfl) :
    L2N.PMk X (.Call (.Name x p) [e] [] pos) (fun σ H Q => ta σ H fun _ H1 => Q (.ref C) none H1) := by
  intro pins s σ H Q I h
  refine wpAny_Call_Name_kw (ld_glob I hg T.g ?_ hdb)
  refine PySem.W.callWith_K (h₀ := X.base) I.ok.mod.kin T.k ?_ hs (by rfl)
  rw [hs]
  show wpAny _ _ (spliced ((false, eval e X.env) :: backTo pos (starEach [] X.env))) _ _ s
  refine Calls.spliced_cons (thn (he.run pins s σ H _ I h) fun u s1 ⟨v, H1, I1, r1, q1⟩ => ?_)
  refine Calls.spliced_nil ⟨I1.kIn, ?_⟩
  show wpAny _ _ (call (.ref C) [u]) _ _ _
  obtain ⟨bm, N, nm, qn, bs, hdct, sn, sub, ab, col, dd, k0, k1, k2, k3, k5, mN, hC, hN, hni, T2⟩ := exc_obj I1.kIn T.q
  refine wpAny_call_exc_subT PySem.F.excBase_ValueError T2 hC hN hni (fun h' e hm => ?_) (by show 1 ≤ sizeLine; rw [sizeLine_eq]; omega)
  exact L2N.mk_of I1 hm (raises_own T.b T.t) q1 (I1.hok.gone hm.new)
/-- raise X(f'..') -/
theorem ps_err1 {W : WX} {e : Expr} {ta : TE} {p p3 pos : Pos} (T : ErrC X.K X.mg x C) (hc : X.calm = true) (tk : L2N.Takes X W) (hg : Gl X x) (he : PE X e ta) (hdb : (x == ("__debug__" : Str)) = false := by decide) (hs : starEach [e] X.env = (false, eval e X.env) :: starEach [] X.env := by rfl) :
    PS X (.Raise (some (.Call (.Name x p) [e] [] p3)) none pos) (fun _ σ H => ta σ H fun _ H1 => W (.ref C) none σ H1) := L2N.ps_raise hc tk (pmk_err1 T hg he hdb hs)
end
section
variable {X : Cx} {CX : CXT} {k : Nat} {C f : Addr} {fd : FuncData} {ps : List Str} {sp : Sp} {E : L2.St → XK} {x : Str} {p pos : Pos} {e : Expr} {es : List Expr} {t : TA} {dvs : List V} {ds : List Value}
theorem run_makeS {pins : List (Addr × Obj)} {σ : L2.St} {H : Hp} {s : Shared} {Q : VK} {us : List Value} {vs : List V} (M : Mk X.K C f) (F : FnOk X.prog X.w X.K X.mg X.base CX k f fd ps sp) (hr : Room (k + 1) X.A) (hb : L2.Binds X.K fd ps ds) (hd : Vals dvs ds)
    (hx : PassesAt CX X σ (E σ)) (I : L2.Inv X pins σ H s) (r : Vals vs us)
    (h : ∀ x dx, H x = none → H dx = none → dx ≠ x → sp (.ref x :: (vs ++ dvs)) (upd (upd H dx (.own x)) x (.ins C dx [])) (fun v H2 => v = .non ∧ Q (.ref x) H2) (E σ)) :
    wpAny (model X.prog X.w) X.A (call (.ref C) us) (EP X pins σ Q) X.xe s := by
  have hq := h (s.heap.objs.size + 1) s.heap.objs.size (I.hok.fresh (Nat.le_succ _)) (I.hok.fresh (Nat.le_refl _)) (Nat.ne_of_lt (Nat.lt_succ_self _))
  have I2 := L2.Inv.made (C := C) I
  have r2 : Vals (V.ref (s.heap.objs.size + 1) :: (vs ++ dvs)) (Value.ref (s.heap.objs.size + 1) :: (us ++ ds)) := .cons rfl (r.append hd)
  have hl : (Value.ref (s.heap.objs.size + 1) :: us ++ ds).length = ps.length := by
    have e := r2.length
    rw [F.len _ _ _ _ hq] at e
    exact e.symm
  refine wpAny_call (make_map (f := f) I.kIn M.makes M.init (beq_iff_eq.mp M.fn) (codeAny_mono (F.run _ X.stack _ _ ⟨Value.ref (s.heap.objs.size + 1) :: us, []⟩ (Value.ref (s.heap.objs.size + 1) :: (us ++ ds)) _ _ (E σ) (hr.make C us [])
    (I2.env0.make C us []) (hb _ (Value.ref (s.heap.objs.size + 1) :: us) I2.kIn hl) r2 hq) fun r s' hq' => ?_))
  cases r with
  | error e => exact hx pins _ _ e s' I2 hq'
  | ok fl =>
    cases fl with
    | ret u =>
      obtain ⟨v, H', I3, rv, ev, q3⟩ := I2.after hq'
      subst ev
      exact ⟨rv, ⟨V.ref (s.heap.objs.size + 1), H', I3, rfl, q3⟩⟩
    | next => exact False.elim hq'
    | brk => exact False.elim hq'
    | cont => exact False.elim hq'
/-- C(..), its __init__ may raise -/
theorem pe_makeS (M : Mk X.K C f) (F : FnOk X.prog X.w X.K X.mg X.base CX k f fd ps sp) (hr : Room (k + 1) X.A) (hg : Gl X x) (hm : X.mg x = some (.ref C)) (hb : L2.Binds X.K fd ps ds) (hd : Vals dvs ds) (hx : ∀ σ, PassesAt CX X σ (E σ))
    (ha : PA X (e :: es) t) (hdb : (x == ("__debug__" : Str)) = false := by decide) (he : starEach (e :: es) X.env = (false, eval e X.env) :: starEach es X.env := by rfl) (hpl : (backTo pos (starEach es X.env)).any (·.1) = false := by rfl) :
    PE X (.Call (.Name x p) (e :: es) [] pos) (fun σ H Q => t σ H fun vs H1 => ∀ y dy, H1 y = none → H1 dy = none → dy ≠ y → sp (.ref y :: (vs ++ dvs)) (upd (upd H1 dy (.own y)) y (.ins C dy [])) (fun v H2 => v = .non ∧ Q (.ref y) H2) (E σ)) := by
  refine ⟨fun pins s σ H Q I h => ?_⟩
  refine wpAny_Call_Name_kw (ld_glob I hg hm ?_ hdb)
  refine PySem.W.callWith_K (h₀ := X.base) I.ok.mod.kin M.kp (thn (ha.run pos pins s σ H _ I h) fun us s1 ⟨vs, H1, I1, r, q⟩ => ⟨I1.kIn, ?_⟩) he hpl
  exact run_makeS M F hr hb hd (hx σ) I1 r q
end
section
variable {X : Cx} {pins : List (Addr × Obj)} {σ : L2.St} {H : Hp} {s : Shared} {CX : CXT} {k : Nat} {C p g : Addr} {mc : Value} {sp : Sp} {E : L2.St → XK} {o e : Expr} {es : List Expr} {f m : Str} {pos apos : Pos} {ta : TE} {t : TA} {pl : Sem Bool}
theorem run_fnRS {f : Addr} {Q : VK} {us : List Value} {vs : List V} (F : FnR X.prog X.w X.K X.mg X.base CX k f sp) (hr : Room k X.A) (hx : PassesAt CX X σ (E σ)) (I : L2.Inv X pins σ H s) (r : Vals vs us) (h : sp vs H Q (E σ)) :
    codeAny (model X.prog X.w) X.A (.call (.ref f) ⟨us, []⟩) (fun r s' => match r with | .ok (.ret v) => EP X pins σ Q v s' | .ok _ => False | .error e => X.xe e s') s := by
  refine codeAny_mono (F X.A X.stack s H us vs Q (E σ) hr I.env0 r h) fun r s' hq => ?_
  cases r with
  | error e => exact hx pins H s e s' I hq
  | ok fl =>
    cases fl with
    | ret u => exact I.after hq
    | next => exact False.elim hq
    | brk => exact False.elim hq
    | cont => exact False.elim hq
/-- C.m(..), a classmethod that may raise, in a try -/
theorem pe_cmethS (he : PE X o ta) (r : ClX.CRead X.K C mc) (c : ClX.CMet X.K C mc m p g) (F : FnR X.prog X.w X.K X.mg X.base CX k g sp) (hr : Room k X.A) (hx : ∀ σ, PassesAt CX X σ (E σ)) (ha : PA X (e :: es) t)
    (hst : starEach (e :: es) X.env = (false, eval e X.env) :: starEach es X.env := by rfl) (hpl : (backTo pos (starEach es X.env)).any (·.1) = false := by rfl)
    (ht : eval (.Call (.Attribute o m apos) (e :: es) [] pos) X.env = (do
      let ov ← eval o X.env
      standAt apos.atName
      let (f, first) ← holding [ov] (getMethod ov m pl)
      callWith pos f first (backTo pos (starEach (e :: es) X.env)) (backToKw pos (keywordEach [] X.env))) := by rfl) :
    PE X (.Call (.Attribute o m apos) (e :: es) [] pos) (fun σ H Q => ta σ H fun x H1 => x = .ref C ∧ t σ H1 fun vs H2 => sp (.ref C :: vs) H2 Q (E σ)) := by
  refine ⟨fun pins s σ H Q I h => ?_⟩
  refine PySem.W.methodCall_KW (pl := pl) (thn (he.run pins s σ H _ I h) fun u s1 ⟨x, H1, I1, rx, ex, q⟩ => ?_) ht
  subst ex
  obtain rfl : u = Value.ref C := rx
  refine ClX.getmethcm_ok I1 r c fun s2 I2 => ?_
  refine ClX.callwith_cm I2 (ClX.base_none I1 (Nat.le_refl _)) c.fi (thn (ha.run pos _ s2 σ H1 _ I2 q) fun us s3 ⟨vs, H2, I3, rv, q2⟩ => ⟨⟨ClX.pin_at I3, I3.kIn⟩, ?_⟩) hst hpl
  have z : wpAny (model X.prog X.w) X.A (call (.ref _) us) (EP X ((_, PySem.W.methodObj (.ref g) (.ref C)) :: pins) σ Q) X.xe s3 :=
    wpAny_call (PySem.W.method_call (ClX.pin_at I3) (run_fnRS (us := .ref C :: us) (vs := .ref C :: vs) F hr (hx σ) I3 (.cons rfl rv) q2))
  exact thn z fun _ _ y => ClX.unpinE y
end
end Vx
namespace Vx
open PySem PySem.Spec PyProof.Rows L2
/-! zip of two sequences, each a list (true) or a tuple (false) -/
def SqB (K : PySem.W.Frag) (H : Hp) (k : Bool) (a : Addr) (xs : List V) : Prop := if k then SqL K H a xs else SqT K H a xs
def ItB (h : Heap) (k : Bool) (it l : Addr) (i : Nat) : Prop := if k then h.IsListIter it l i else h.IsTupleIter it l i
def HsB (h : Heap) (k : Bool) (l : Addr) (its : Array Value) : Prop := if k then h.IsList l its else h.IsTuple l its
theorem ItB.some {h : Heap} {k : Bool} {it l : Addr} {i : Nat} (q : ItB h k it l i) : ∃ o, h.get? it = some o ∧ ∃ fs, o.data = .fields fs := by
  cases k
  · obtain ⟨o, e, _, d⟩ := (show h.IsTupleIter it l i from q); exact ⟨o, e, _, d⟩
  · obtain ⟨o, e, _, d⟩ := (show h.IsListIter it l i from q); exact ⟨o, e, _, d⟩
theorem ItB.at {h h' : Heap} {k : Bool} {it l : Addr} {i : Nat} (q : ItB h k it l i) (e : ∀ o, h.get? it = Option.some o → h'.get? it = Option.some o) : ItB h' k it l i := by
  cases k
  · exact (show h.IsTupleIter it l i from q).at e
  · exact (show h.IsListIter it l i from q).at e
theorem drawsB {prog : Program} {w : World} {A : Around} (hd : A.handled = none) (k : Bool) (it l : Addr) (ne : l ≠ it) (items : Array Value) :
    Draws prog w A it [it, l] items.size (fun i v => items[i]? = some v) (fun i h => ItB h k it l i ∧ HsB h k l items) := by
  cases k
  · exact Draws.tuple hd it l ne items
  · exact Draws.list hd it l ne items
theorem invB {X : Cx} {pins : List (Addr × Obj)} {σ : L2.St} {H : Hp} {s : Shared} {k : Bool} {a : Addr} {xs : List V} (I : L2.Inv X pins σ H s) (h : SqB X.K H k a xs) : ∃ its, Vals xs its ∧ HsB s.heap k a its.toArray ∧ a < s.heap.objs.size := by
  cases k
  · obtain ⟨its, rv, p, _⟩ := I.tuple (show SqT X.K H a xs from h)
    have p2 := p
    obtain ⟨o, e, _⟩ := p2
    exact ⟨its, rv, p, Heap.lt_size e⟩
  · obtain ⟨its, rv, p, _⟩ := I.list (show SqL X.K H a xs from h)
    exact ⟨its, rv, p.isList, p.lt⟩
theorem injB {X : Cx} {pins : List (Addr × Obj)} {σ : L2.St} {H : Hp} {s : Shared} {k : Bool} {a : Addr} {xs ys : List V} (I : L2.Inv X pins σ H s) (h : SqB X.K H k a xs) (h' : SqB X.K H k a ys) : xs = ys := by
  cases k
  · exact I.tuple_inj h h'
  · exact I.list_inj h h'
def Itb2 (K : PySem.W.Frag) (k1 : Bool) (a : Addr) (k2 : Bool) (b : Addr) : It :=
  ⟨fun i H => ∃ xs ys, SqB K H k1 a xs ∧ SqB K H k2 b ys ∧ i < xs.length ∧ i < ys.length,
    fun i H v H' => ∃ T y c, v = .ref T ∧ H T = none ∧ H' = upd H T (.tup [y, c]) ∧ (∀ xs, SqB K H k1 a xs → xs[i]? = some y) ∧ (∀ ys, SqB K H k2 b ys → ys[i]? = some c),
    fun i H => ∃ xs ys, SqB K H k1 a xs ∧ SqB K H k2 b ys ∧ i ≤ xs.length ∧ i ≤ ys.length ∧ (i = xs.length ∨ i = ys.length)⟩
theorem turn_zipB {P : Program} {w : World} {K : PySem.W.Frag} {elts : List Expr} {kk : Nat} {tpos : Pos} {k1 k2 : Bool} {a b z TI TO i1 i2 : Addr} (S : ZipSep2 z TI TO i1 i2 [i1, a] [i2, b]) (ne : a ≠ i1) (ne2 : b ≠ i2) :
    Turn P w K (.Tuple elts kk tpos) (Itb2 K k1 a k2 b) [z, TI, TO, i1, i2] z (fun i h => IsZip h z TI TO .none ∧ IsTupOf2 h TI (.ref i1) (.ref i2) ∧ (∃ u v, IsTupOf2 h TO u v) ∧ ItB h k1 i1 a i ∧ ItB h k2 i2 b i) where
  mem := by simp
  obj := fun i h st c hc => by
    obtain ⟨hz, hTI, ⟨u, v, hTO⟩, h1, h2⟩ := st
    obtain ⟨o1, e1, _, d1⟩ := h1.some
    obtain ⟨o2, e2, _, d2⟩ := h2.some
    simp only [List.mem_cons, List.not_mem_nil, or_false] at hc
    rcases hc with rfl | rfl | rfl | rfl | rfl
    · exact ⟨_, hz, fun v q => nomatch q⟩
    · exact ⟨_, hTI, fun v q => nomatch q⟩
    · exact ⟨_, hTO, fun v q => nomatch q⟩
    · exact ⟨o1, e1, fun v q => by rw [d1] at q; cases q⟩
    · exact ⟨o2, e2, fun v q => by rw [d2] at q; cases q⟩
  keep := fun i h h' st k => by
    obtain ⟨hz, hTI, ⟨u, v, hTO⟩, h1, h2⟩ := st
    exact ⟨k z (by simp) _ hz, k TI (by simp) _ hTI, ⟨u, v, k TO (by simp) _ hTO⟩, h1.at fun o q => k i1 (by simp) o q, h2.at fun o q => k i2 (by simp) o q⟩
  item := by
    intro X hP hw hK hc i pins s σ H E I hf st hg
    subst hP hw hK
    obtain ⟨hz, hTI, ⟨u0, v0, hTO⟩, h1, h2⟩ := st
    obtain ⟨xs, ys, hq, hq2, hi, hi2⟩ := hg
    obtain ⟨its, rv, p, _⟩ := invB I hq
    obtain ⟨its2, rv2, p2, _⟩ := invB I hq2
    have many := rv.length
    have many2 := rv2.length
    have hzl : z < s.heap.objs.size := Heap.lt_size hz
    have calm : X.A.in1.handled = none := I.ok.hd hc
    refine wpAny_pyNext_zipD2_item S (drawsB calm k1 i1 a ne its.toArray) (drawsB calm k2 i2 b ne2 its2.toArray) hz hTI hTO ⟨h1, p⟩ ⟨h2, p2⟩ (by simp only [List.size_toArray]; omega) (by simp only [List.size_toArray]; omega) ?_
    rintro x1 x2 h' tk hx1 hx2 z' TO' ⟨h1', _⟩ ⟨h2', _⟩ hT hsz hk
    refine ⟨_, rfl, wpAny_letOwnedTupleGo_zip (s := { s with heap := h', toks := tk }) z' fun h'' z'' sb => ?_⟩
    have gx : xs[i]? = some xs[i] := List.getElem?_eq_getElem hi
    have gy : ys[i]? = some ys[i] := List.getElem?_eq_getElem hi2
    obtain ⟨u, hu, ru⟩ := rv.get gx
    obtain ⟨u2, hu2, ru2⟩ := rv2.get gy
    obtain rfl : x1 = u := by
      have e : its[i]? = some x1 := by simpa using hx1
      rw [hu] at e; exact (Option.some.inj e).symm
    obtain rfl : x2 = u2 := by
      have e : its2[i]? = some x2 := by simpa using hx2
      rw [hu2] at e; exact (Option.some.inj e).symm
    have hT2 : h''.get? s.heap.objs.size = some { cls := .type "tuple", data := .seq #[x1, x2] } := (sb.2 _ (Nat.ne_of_gt hzl)).trans hT
    have new : ObjOk X.prog X.w (upd H s.heap.objs.size (.tup [xs[i], ys[i]])) h'' s.heap.objs.size (.tup [xs[i], ys[i]]) :=
      ⟨by show 2 ≤ sizeLine; decide, [x1, x2], .cons ru (.cons ru2 .nil), ⟨_, hT2, rfl, _, rfl⟩⟩
    have I1 : Inv X pins σ (upd H s.heap.objs.size (.tup [xs[i], ys[i]])) { s with heap := h'', toks := tk } :=
      I.turnedNew (t' := tk) (ch := [z, TI, TO, i1, i2]) (fun d o hb q => by
        simp only [List.mem_cons, List.not_mem_nil, or_false, not_or] at hb
        obtain ⟨b1, b2, b3, b4, b5⟩ := hb
        exact (sb.2 d b1).trans (hk d o b1 b3 b4 b5 q)) hf (Nat.le_refl _) new
    refine ⟨.ref s.heap.objs.size, _, I1, rfl, ⟨_, xs[i], ys[i], rfl, I.hok.fresh (Nat.le_refl _), rfl, fun l hl => by rw [injB I hl hq]; exact gx, fun l hl => by rw [injB I hl hq2]; exact gy⟩, ⟨z'', ?_, ⟨x1, x2, ?_⟩, ?_, ?_⟩, fun d hd => ?_⟩
    · exact (sb.2 _ S.TIz).trans (hk _ _ S.TIz S.TITO S.TIi1 S.TIi2 hTI)
    · exact (sb.2 _ S.TOz).trans TO'
    · exact h1'.at fun o q => (sb.2 _ S.zi1.symm).trans q
    · exact h2'.at fun o q => (sb.2 _ S.zi2.symm).trans q
    · have below : d < s.heap.objs.size := by
        simp only [List.mem_cons, List.not_mem_nil, or_false] at hd
        rcases hd with rfl | rfl | rfl | rfl | rfl
        · exact hzl
        · exact Heap.lt_size hTI
        · exact Heap.lt_size hTO
        · obtain ⟨_, e, _⟩ := h1.some; exact Heap.lt_size e
        · obtain ⟨_, e, _⟩ := h2.some; exact Heap.lt_size e
      rw [upd_ne (Nat.ne_of_lt below)]
      exact (hf d hd).1
  done := by
    intro X hP hw hK hc i pins s σ H E I hf st hg
    subst hP hw hK
    obtain ⟨hz, hTI, ⟨u0, v0, hTO⟩, h1, h2⟩ := st
    obtain ⟨xs, ys, hq, hq2, l1, l2, hend⟩ := hg
    obtain ⟨its, rv, p, _⟩ := invB I hq
    obtain ⟨its2, rv2, p2, _⟩ := invB I hq2
    have many := rv.length
    have many2 := rv2.length
    have calm : X.A.in1.handled = none := I.ok.hd hc
    refine wpAny_pyNext_zipD2_end S (drawsB calm k1 i1 a ne its.toArray) (drawsB calm k2 i2 b ne2 its2.toArray) hz hTI hTO ⟨h1, p⟩ ⟨h2, p2⟩ (by simp only [List.size_toArray]; omega) (by simp only [List.size_toArray]; omega) (by simp only [List.size_toArray]; omega) ?_
    intro h' tk hk
    exact ⟨rfl, I.turnedL (t' := tk) (ch := [z, TI, TO, i1, i2]) (fun d o hb q => by
      simp only [List.mem_cons, List.not_mem_nil, or_false, not_or] at hb
      obtain ⟨b1, b2, b3, b4, b5⟩ := hb
      exact hk d o b1 b3 b4 b5 q) hf⟩
  self := fun A i s Q E st h => wpAny_pyIter_zip st.1 h
def itO (k : Bool) (l : Addr) : Obj := if k then { cls := .type "list_iterator", data := .fields #[.ref l, .int 0 0] } else { cls := .type "tuple_iterator", data := .fields #[.ref l, .int 0 0] }
theorem beginsB (k : Bool) (l : Addr) (items : Array Value) : Begins (.ref l) (itO k l) fun h => HsB h k l items := by
  cases k
  · exact begins_tuple l items
  · exact begins_list l items
theorem itB_of {h : Heap} {k : Bool} {it l : Addr} (e : h.get? it = some (itO k l)) : ItB h k it l 0 := by
  cases k
  · exact (show h.IsTupleIter it l 0 from ⟨_, e, rfl, rfl⟩)
  · exact (show h.IsListIter it l 0 from ⟨_, e, rfl, rfl⟩)
def iZipB (K : PySem.W.Frag) (ta : TA) : TI := fun σ H R => ta σ H fun vs H1 => ∃ k1 a xs k2 b ys, vs = [.ref a, .ref b] ∧ SqB K H1 k1 a xs ∧ SqB K H1 k2 b ys ∧ R (Itb2 K k1 a k2 b) H1
theorem pi_zipB {X : Cx} {e e2 : Expr} {ta : TA} {p pos tpos : Pos} {elts : List Expr} {kk : Nat} (hg : Gl X "zip") (hm : X.mg "zip" = none) (ha : PA X [e, e2] ta)
    (hs : starEach [e, e2] X.env = (false, eval e X.env) :: starEach [e2] X.env := by rfl) (hpl : (backTo pos (starEach [e2] X.env)).any (·.1) = false := by rfl) :
    PI X (.Tuple elts kk tpos) (.Call (.Name "zip" p) [e, e2] [] pos) (iZipB X.K ta) := by
  constructor
  intro pins s σ H R I h
  refine Call_ (ld_blt I hg hm PyProof.Rows.boot_zip (PyProof.Rows.callWith_type1 (thn (ha.run pos pins s σ H _ I h) ?_) hs hpl))
  rintro us s1 ⟨vs, H1, I1, r1, k1, a, xs, k2, b, ys, rfl, hq, hq2, q⟩
  obtain ⟨u1, u2, rfl, r1, r2⟩ := vals2 r1
  cases r1
  cases r2
  obtain ⟨its, rv, p1, la⟩ := invB I1 hq
  obtain ⟨its2, rv2, p2, lb⟩ := invB I1 hq2
  refine zip_begins2 (beginsB k1 a its.toArray) (beginsB k2 b its2.toArray) p1 p2 fun h' hz hTI hTO g1 g2 hsz hk => wpAny_pyIter_zip hz ?_
  have I2 : Inv X pins σ H1 { s1 with heap := h' } := I1.kept (t' := s1.toks) hk
  have sep := zip_sep2 (N := s1.heap.objs.size) (fp1 := [a]) (fp2 := [b]) (fun c hc => by rw [List.mem_singleton.mp hc]; exact la) (fun c hc => by rw [List.mem_singleton.mp hc]; exact lb)
  refine ⟨s1.heap.objs.size + 4, [s1.heap.objs.size + 4, s1.heap.objs.size + 2, s1.heap.objs.size + 3, s1.heap.objs.size, s1.heap.objs.size + 1], _, _, H1, rfl, I2, turn_zipB sep (Nat.ne_of_lt la) (Nat.ne_of_lt (Nat.lt_succ_of_lt lb)), ⟨hz, hTI, ⟨_, _, hTO⟩, itB_of g1, itB_of g2⟩, fun c hc => ?_, q⟩
  have above : s1.heap.objs.size ≤ c := by
    simp only [List.mem_cons, List.not_mem_nil, or_false] at hc
    rcases hc with z | z | z | z | z
    · rw [z]; exact Nat.le_add_right _ _
    · rw [z]; exact Nat.le_add_right _ _
    · rw [z]; exact Nat.le_add_right _ _
    · rw [z]; exact Nat.le_refl _
    · rw [z]; exact Nat.le_add_right _ _
  exact I1.fpOk above (I1.hok.fresh above)
theorem walk_zipB {K : PySem.W.Frag} {k1 k2 : Bool} {a b : Addr} {xs ys : List V} {n : Nat} (hn : n = min xs.length ys.length) : Walk (Itb2 K k1 a k2 b) n (fun H => SqB K H k1 a xs ∧ SqB K H k2 b ys) (YPair (fun i => xs[i]?) (fun i => ys[i]?)) where
  goes := fun i H hi ⟨h1, h2⟩ => ⟨xs, ys, h1, h2, by omega, by omega⟩
  stops := fun H ⟨h1, h2⟩ => ⟨xs, ys, h1, h2, by omega, by omega, by omega⟩
  yields := fun i H x H' hi ⟨h1, h2⟩ y => by
    obtain ⟨T, u, c, rfl, nT, rfl, g1, g2⟩ := y
    exact ⟨T, u, c, rfl, nT, rfl, g1 xs h1, g2 ys h2⟩
end Vx
namespace Vx
open PySem PySem.Spec PyProof.Rows L2
/-! zip of three sequences -/
def Itb3 (K : PySem.W.Frag) (k1 : Bool) (a : Addr) (k2 : Bool) (b : Addr) (k3 : Bool) (c : Addr) : It :=
  ⟨fun i H => ∃ xs ys zs, SqB K H k1 a xs ∧ SqB K H k2 b ys ∧ SqB K H k3 c zs ∧ i < xs.length ∧ i < ys.length ∧ i < zs.length,
    fun i H v H' => ∃ T x y u, v = .ref T ∧ H T = none ∧ H' = upd H T (.tup [x, y, u]) ∧ (∀ xs, SqB K H k1 a xs → xs[i]? = some x) ∧ (∀ ys, SqB K H k2 b ys → ys[i]? = some y) ∧ (∀ zs, SqB K H k3 c zs → zs[i]? = some u),
    fun i H => ∃ xs ys zs, SqB K H k1 a xs ∧ SqB K H k2 b ys ∧ SqB K H k3 c zs ∧ i ≤ xs.length ∧ i ≤ ys.length ∧ i ≤ zs.length ∧ (i = xs.length ∨ i = ys.length ∨ i = zs.length)⟩
theorem turn_zipB3 {P : Program} {w : World} {K : PySem.W.Frag} {elts : List Expr} {kk : Nat} {tpos : Pos} {k1 k2 k3 : Bool} {a b c z TI TO i1 i2 i3 : Addr} (S : ZipSep3 z TI TO i1 i2 i3 [i1, a] [i2, b] [i3, c]) (ne : a ≠ i1) (ne2 : b ≠ i2) (ne3 : c ≠ i3) :
    Turn P w K (.Tuple elts kk tpos) (Itb3 K k1 a k2 b k3 c) [z, TI, TO, i1, i2, i3] z (fun i h => IsZip h z TI TO .none ∧ IsTupOf3 h TI (.ref i1) (.ref i2) (.ref i3) ∧ (∃ u v w, IsTupOf3 h TO u v w) ∧ ItB h k1 i1 a i ∧ ItB h k2 i2 b i ∧ ItB h k3 i3 c i) where
  mem := by simp
  obj := fun i h st d hc => by
    obtain ⟨hz, hTI, ⟨u, v, w, hTO⟩, h1, h2, h3⟩ := st
    obtain ⟨o1, e1, _, d1⟩ := h1.some
    obtain ⟨o2, e2, _, d2⟩ := h2.some
    obtain ⟨o3, e3, _, d3⟩ := h3.some
    simp only [List.mem_cons, List.not_mem_nil, or_false] at hc
    rcases hc with rfl | rfl | rfl | rfl | rfl | rfl
    · exact ⟨_, hz, fun v q => nomatch q⟩
    · exact ⟨_, hTI, fun v q => nomatch q⟩
    · exact ⟨_, hTO, fun v q => nomatch q⟩
    · exact ⟨o1, e1, fun v q => by rw [d1] at q; cases q⟩
    · exact ⟨o2, e2, fun v q => by rw [d2] at q; cases q⟩
    · exact ⟨o3, e3, fun v q => by rw [d3] at q; cases q⟩
  keep := fun i h h' st k => by
    obtain ⟨hz, hTI, ⟨u, v, w, hTO⟩, h1, h2, h3⟩ := st
    exact ⟨k z (by simp) _ hz, k TI (by simp) _ hTI, ⟨u, v, w, k TO (by simp) _ hTO⟩, h1.at fun o q => k i1 (by simp) o q, h2.at fun o q => k i2 (by simp) o q, h3.at fun o q => k i3 (by simp) o q⟩
  item := by
    intro X hP hw hK hc i pins s σ H E I hf st hg
    subst hP hw hK
    obtain ⟨hz, hTI, ⟨u0, v0, w0, hTO⟩, h1, h2, h3⟩ := st
    obtain ⟨xs, ys, zs, hq, hq2, hq3, hi, hi2, hi3⟩ := hg
    obtain ⟨its, rv, p, _⟩ := invB I hq
    obtain ⟨its2, rv2, p2, _⟩ := invB I hq2
    obtain ⟨its3, rv3, p3, _⟩ := invB I hq3
    have many := rv.length
    have many2 := rv2.length
    have many3 := rv3.length
    have hzl : z < s.heap.objs.size := Heap.lt_size hz
    have calm : X.A.in1.handled = none := I.ok.hd hc
    refine wpAny_pyNext_zipD3_item S (drawsB calm k1 i1 a ne its.toArray) (drawsB calm k2 i2 b ne2 its2.toArray) (drawsB calm k3 i3 c ne3 its3.toArray) hz hTI hTO ⟨h1, p⟩ ⟨h2, p2⟩ ⟨h3, p3⟩ (by simp only [List.size_toArray]; omega) (by simp only [List.size_toArray]; omega) (by simp only [List.size_toArray]; omega) ?_
    rintro x1 x2 x3 h' tk hx1 hx2 hx3 z' TO' ⟨h1', _⟩ ⟨h2', _⟩ ⟨h3', _⟩ hT hsz hk
    refine ⟨_, rfl, wpAny_letOwnedTupleGo_zip (s := { s with heap := h', toks := tk }) z' fun h'' z'' sb => ?_⟩
    have gx : xs[i]? = some xs[i] := List.getElem?_eq_getElem hi
    have gy : ys[i]? = some ys[i] := List.getElem?_eq_getElem hi2
    have gz : zs[i]? = some zs[i] := List.getElem?_eq_getElem hi3
    obtain ⟨u, hu, ru⟩ := rv.get gx
    obtain ⟨u2, hu2, ru2⟩ := rv2.get gy
    obtain ⟨u3, hu3, ru3⟩ := rv3.get gz
    obtain rfl : x1 = u := by
      have e : its[i]? = some x1 := by simpa using hx1
      rw [hu] at e; exact (Option.some.inj e).symm
    obtain rfl : x2 = u2 := by
      have e : its2[i]? = some x2 := by simpa using hx2
      rw [hu2] at e; exact (Option.some.inj e).symm
    obtain rfl : x3 = u3 := by
      have e : its3[i]? = some x3 := by simpa using hx3
      rw [hu3] at e; exact (Option.some.inj e).symm
    have hT2 : h''.get? s.heap.objs.size = some { cls := .type "tuple", data := .seq #[x1, x2, x3] } := (sb.2 _ (Nat.ne_of_gt hzl)).trans hT
    have new : ObjOk X.prog X.w (upd H s.heap.objs.size (.tup [xs[i], ys[i], zs[i]])) h'' s.heap.objs.size (.tup [xs[i], ys[i], zs[i]]) :=
      ⟨by show 3 ≤ sizeLine; decide, [x1, x2, x3], .cons ru (.cons ru2 (.cons ru3 .nil)), ⟨_, hT2, rfl, _, rfl⟩⟩
    have I1 : Inv X pins σ (upd H s.heap.objs.size (.tup [xs[i], ys[i], zs[i]])) { s with heap := h'', toks := tk } :=
      I.turnedNew (t' := tk) (ch := [z, TI, TO, i1, i2, i3]) (fun d o hb q => by
        simp only [List.mem_cons, List.not_mem_nil, or_false, not_or] at hb
        obtain ⟨b1, b2, b3, b4, b5, b6⟩ := hb
        exact (sb.2 d b1).trans (hk d o b1 b3 b4 b5 b6 q)) hf (Nat.le_refl _) new
    have zi1 : z ≠ i1 := fun e => S.zf1 (by rw [e]; exact S.mem1)
    have zi2 : z ≠ i2 := fun e => S.zf2 (by rw [e]; exact S.mem2)
    have zi3 : z ≠ i3 := fun e => S.zf3 (by rw [e]; exact S.mem3)
    refine ⟨.ref s.heap.objs.size, _, I1, rfl, ⟨_, xs[i], ys[i], zs[i], rfl, I.hok.fresh (Nat.le_refl _), rfl, fun l hl => by rw [injB I hl hq]; exact gx, fun l hl => by rw [injB I hl hq2]; exact gy, fun l hl => by rw [injB I hl hq3]; exact gz⟩, ⟨z'', ?_, ⟨x1, x2, x3, ?_⟩, ?_, ?_, ?_⟩, fun d hd => ?_⟩
    · exact (sb.2 _ S.TIz).trans (hk _ _ S.TIz S.TITO S.TIi1 S.TIi2 S.TIi3 hTI)
    · exact (sb.2 _ S.TOz).trans TO'
    · exact h1'.at fun o q => (sb.2 _ zi1.symm).trans q
    · exact h2'.at fun o q => (sb.2 _ zi2.symm).trans q
    · exact h3'.at fun o q => (sb.2 _ zi3.symm).trans q
    · have below : d < s.heap.objs.size := by
        simp only [List.mem_cons, List.not_mem_nil, or_false] at hd
        rcases hd with rfl | rfl | rfl | rfl | rfl | rfl
        · exact hzl
        · exact Heap.lt_size hTI
        · exact Heap.lt_size hTO
        · obtain ⟨_, e, _⟩ := h1.some; exact Heap.lt_size e
        · obtain ⟨_, e, _⟩ := h2.some; exact Heap.lt_size e
        · obtain ⟨_, e, _⟩ := h3.some; exact Heap.lt_size e
      rw [upd_ne (Nat.ne_of_lt below)]
      exact (hf d hd).1
  done := by
    intro X hP hw hK hc i pins s σ H E I hf st hg
    subst hP hw hK
    obtain ⟨hz, hTI, ⟨u0, v0, w0, hTO⟩, h1, h2, h3⟩ := st
    obtain ⟨xs, ys, zs, hq, hq2, hq3, l1, l2, l3, hend⟩ := hg
    obtain ⟨its, rv, p, _⟩ := invB I hq
    obtain ⟨its2, rv2, p2, _⟩ := invB I hq2
    obtain ⟨its3, rv3, p3, _⟩ := invB I hq3
    have many := rv.length
    have many2 := rv2.length
    have many3 := rv3.length
    have calm : X.A.in1.handled = none := I.ok.hd hc
    refine wpAny_pyNext_zipD3_end S (drawsB calm k1 i1 a ne its.toArray) (drawsB calm k2 i2 b ne2 its2.toArray) (drawsB calm k3 i3 c ne3 its3.toArray) hz hTI hTO ⟨h1, p⟩ ⟨h2, p2⟩ ⟨h3, p3⟩ (by simp only [List.size_toArray]; omega) (by simp only [List.size_toArray]; omega) (by simp only [List.size_toArray]; omega) (by simp only [List.size_toArray]; omega) ?_
    intro h' tk hk
    exact ⟨rfl, I.turnedL (t' := tk) (ch := [z, TI, TO, i1, i2, i3]) (fun d o hb q => by
      simp only [List.mem_cons, List.not_mem_nil, or_false, not_or] at hb
      obtain ⟨b1, b2, b3, b4, b5, b6⟩ := hb
      exact hk d o b1 b3 b4 b5 b6 q) hf⟩
  self := fun A i s Q E st h => wpAny_pyIter_zip st.1 h
theorem valsB3 {x y z : V} {us : List Value} (h : Vals [x, y, z] us) : ∃ u1 u2 u3, us = [u1, u2, u3] ∧ L2.RelV x u1 ∧ L2.RelV y u2 ∧ L2.RelV z u3 := by
  cases h with
  | cons a h => cases h with
    | cons b h => cases h with
      | cons c h => cases h; exact ⟨_, _, _, rfl, a, b, c⟩
def iZipB3 (K : PySem.W.Frag) (ta : TA) : TI := fun σ H R => ta σ H fun vs H1 => ∃ k1 a xs k2 b ys k3 c zs, vs = [.ref a, .ref b, .ref c] ∧ SqB K H1 k1 a xs ∧ SqB K H1 k2 b ys ∧ SqB K H1 k3 c zs ∧ R (Itb3 K k1 a k2 b k3 c) H1
theorem pi_zipB3 {X : Cx} {e e2 e3 : Expr} {ta : TA} {p pos tpos : Pos} {elts : List Expr} {kk : Nat} (hg : Gl X "zip") (hm : X.mg "zip" = none) (ha : PA X [e, e2, e3] ta)
    (hs : starEach [e, e2, e3] X.env = (false, eval e X.env) :: starEach [e2, e3] X.env := by rfl) (hpl : (backTo pos (starEach [e2, e3] X.env)).any (·.1) = false := by rfl) :
    PI X (.Tuple elts kk tpos) (.Call (.Name "zip" p) [e, e2, e3] [] pos) (iZipB3 X.K ta) := by
  constructor
  intro pins s σ H R I h
  refine Call_ (ld_blt I hg hm PyProof.Rows.boot_zip (PyProof.Rows.callWith_type1 (thn (ha.run pos pins s σ H _ I h) ?_) hs hpl))
  rintro us s1 ⟨vs, H1, I1, r1, k1, a, xs, k2, b, ys, k3, c, zs, rfl, hq, hq2, hq3, q⟩
  obtain ⟨u1, u2, u3, rfl, r1, r2, r3⟩ := valsB3 r1
  cases r1
  cases r2
  cases r3
  obtain ⟨its, rv, p1, la⟩ := invB I1 hq
  obtain ⟨its2, rv2, p2, lb⟩ := invB I1 hq2
  obtain ⟨its3, rv3, p3, lc⟩ := invB I1 hq3
  refine zip_begins3 (beginsB k1 a its.toArray) (beginsB k2 b its2.toArray) (beginsB k3 c its3.toArray) p1 p2 p3 fun h' hz hTI hTO g1 g2 g3 hsz hk => wpAny_pyIter_zip hz ?_
  have I2 : Inv X pins σ H1 { s1 with heap := h' } := I1.kept (t' := s1.toks) hk
  have sep := zip_sep3 (N := s1.heap.objs.size) (fp1 := [a]) (fp2 := [b]) (fp3 := [c]) (fun d hc => by rw [List.mem_singleton.mp hc]; exact la) (fun d hc => by rw [List.mem_singleton.mp hc]; exact lb) (fun d hc => by rw [List.mem_singleton.mp hc]; exact lc)
  refine ⟨s1.heap.objs.size + 5, [s1.heap.objs.size + 5, s1.heap.objs.size + 3, s1.heap.objs.size + 4, s1.heap.objs.size, s1.heap.objs.size + 1, s1.heap.objs.size + 2], _, _, H1, rfl, I2, turn_zipB3 sep (Nat.ne_of_lt la) (Nat.ne_of_lt (Nat.lt_succ_of_lt lb)) (Nat.ne_of_lt (Nat.lt_succ_of_lt (Nat.lt_succ_of_lt lc))), ⟨hz, hTI, ⟨_, _, _, hTO⟩, itB_of g1, itB_of g2, itB_of g3⟩, fun d hc => ?_, q⟩
  have above : s1.heap.objs.size ≤ d := by
    simp only [List.mem_cons, List.not_mem_nil, or_false] at hc
    rcases hc with z | z | z | z | z | z
    · rw [z]; exact Nat.le_add_right _ _
    · rw [z]; exact Nat.le_add_right _ _
    · rw [z]; exact Nat.le_add_right _ _
    · rw [z]; exact Nat.le_refl _
    · rw [z]; exact Nat.le_add_right _ _
    · rw [z]; exact Nat.le_add_right _ _
  exact I1.fpOk above (I1.hok.fresh above)
end Vx
namespace Vx
open PySem PySem.Spec PyProof.Rows L2
/-! zip of two sources, each a list, a tuple or a text -/
inductive Sc where
  | l (a : Addr) | t (a : Addr) | s (x : Str)
def Sc.v : Sc → V
  | .l a => .ref a
  | .t a => .ref a
  | .s x => .str x
def chs (x : Str) : List V := x.cps.toList.map fun c => V.str ⟨#[c]⟩
def ScAt (K : PySem.W.Frag) (H : Hp) : Sc → List V → Prop
  | .l a, xs => SqL K H a xs
  | .t a, xs => SqT K H a xs
  | .s x, xs => xs = chs x
def ItS (h : Heap) (it : Addr) (tk : Tok) : Sc → Nat → Prop
  | .l a, i => h.IsListIter it a i
  | .t a, i => h.IsTupleIter it a i
  | .s x, i => h.IsStrIter it (strIterType x) x tk i
/-- what stands under it -/
def HsS (h : Heap) (its : List Value) : Sc → Prop
  | .l a => h.IsList a its.toArray
  | .t a => h.IsTuple a its.toArray
  | .s _ => True
def Sc.fp (it : Addr) : Sc → List Addr
  | .l a => [it, a]
  | .t a => [it, a]
  | .s _ => [it]
def Sc.under : Sc → List Addr
  | .l a => [a]
  | .t a => [a]
  | .s _ => []
def Sc.apart (it : Addr) : Sc → Prop
  | .l a => a ≠ it
  | .t a => a ≠ it
  | .s _ => True
theorem ItS.some {h : Heap} {it : Addr} {tk : Tok} {c : Sc} {i : Nat} (q : ItS h it tk c i) : ∃ o, h.get? it = some o ∧ ∃ fs, o.data = .fields fs := by
  cases c with
  | l a => obtain ⟨o, e, _, d⟩ := (show h.IsListIter it a i from q); exact ⟨o, e, _, d⟩
  | t a => obtain ⟨o, e, _, d⟩ := (show h.IsTupleIter it a i from q); exact ⟨o, e, _, d⟩
  | s x => obtain ⟨o, e, _, d⟩ := (show h.IsStrIter it _ x tk i from q); exact ⟨o, e, _, d⟩
theorem ItS.at {h h' : Heap} {it : Addr} {tk : Tok} {c : Sc} {i : Nat} (q : ItS h it tk c i) (e : ∀ o, h.get? it = Option.some o → h'.get? it = Option.some o) : ItS h' it tk c i := by
  cases c with
  | l a => exact (show h.IsListIter it a i from q).at e
  | t a => exact (show h.IsTupleIter it a i from q).at e
  | s x =>
    obtain ⟨o, e1, r⟩ := (show h.IsStrIter it _ x tk i from q)
    exact (show h'.IsStrIter it _ x tk i from ⟨o, e o e1, r⟩)
theorem Draws.weaker {prog : Program} {w : World} {A : Around} {it : Addr} {fp : List Addr} {n : Nat} {P P' : Nat → Value → Prop} {St : Nat → Heap → Prop} (D : Draws prog w A it fp n P St) (hp : ∀ i v, P i v → P' i v) : Draws prog w A it fp n P' St where
  live := D.live
  frame := D.frame
  item := fun i s Q E hi st hQ => D.item i s Q E hi st fun x h' tk p => hQ x h' tk (hp _ _ p)
  done := D.done
def RAt (xs : List V) (i : Nat) (v : Value) : Prop := ∃ y, xs[i]? = some y ∧ RelV y v
theorem rat_of {xs : List V} {its : List Value} (r : Vals xs its) {i : Nat} {v : Value} (h : its.toArray[i]? = some v) : RAt xs i v := by
  have h : its[i]? = some v := by simpa using h
  have hi : i < its.length := (List.getElem?_eq_some_iff.mp h).1
  obtain ⟨u, hu, ru⟩ := r.get (List.getElem?_eq_getElem (show i < xs.length by rw [r.length]; exact hi))
  rw [h] at hu; cases hu
  exact ⟨_, List.getElem?_eq_getElem (show i < xs.length by rw [r.length]; exact hi), ru⟩
theorem drawsS {prog : Program} {w : World} {A : Around} (hd : A.handled = none) {K : PySem.W.Frag} {H : Hp} {c : Sc} {it : Addr} {tk : Tok} {xs : List V} {its : List Value} (ne : c.apart it) (e : ScAt K H c xs) (r : Vals xs its) :
    Draws prog w A it (c.fp it) xs.length (RAt xs) (fun i h => ItS h it tk c i ∧ HsS h its c) := by
  cases c with
  | l a =>
    have := Draws.weaker (Draws.list (prog := prog) (w := w) hd it a ne its.toArray) (P' := RAt xs) fun i v h => rat_of r h
    rw [List.size_toArray, ← r.length] at this
    exact this
  | t a =>
    have := Draws.weaker (Draws.tuple (prog := prog) (w := w) hd it a ne its.toArray) (P' := RAt xs) fun i v h => rat_of r h
    rw [List.size_toArray, ← r.length] at this
    exact this
  | s x =>
    obtain rfl : xs = chs x := e
    have := Draws.weaker (Draws.text (prog := prog) (w := w) hd it x tk) (P' := RAt (chs x)) fun i v ⟨c, u, h1, h2⟩ => ⟨.str ⟨#[c]⟩, by
      have h1 : x.cps.toList[i]? = some c := by simpa using h1
      unfold chs; rw [List.getElem?_map, h1]; rfl, ⟨u, h2⟩⟩
    rw [show (chs x).length = x.cps.size by unfold chs; simp]
    exact ⟨fun i h st => this.live i h st.1, fun i h h' st k => ⟨this.frame i h h' st.1 k, trivial⟩, fun i s Q E hi st hQ => this.item i s Q E hi st.1 fun v h' tk' p st' sb => hQ v h' tk' p ⟨st', trivial⟩ sb, fun s Q E st hE => this.done s Q E st.1 hE⟩
/-- what the present heap says of a source -/
theorem invS {X : Cx} {pins : List (Addr × Obj)} {σ : L2.St} {H : Hp} {s : Shared} {c : Sc} {xs : List V} (I : L2.Inv X pins σ H s) (h : ScAt X.K H c xs) : ∃ its, Vals xs its ∧ HsS s.heap its c ∧ ∀ b ∈ c.under, b < s.heap.objs.size := by
  cases c with
  | l a =>
    obtain ⟨its, rv, p, _⟩ := I.list (show SqL X.K H a xs from h)
    exact ⟨its, rv, p.isList, fun b hb => by rw [List.mem_singleton.mp hb]; exact p.lt⟩
  | t a =>
    obtain ⟨its, rv, p, _⟩ := I.tuple (show SqT X.K H a xs from h)
    have p2 := p
    obtain ⟨o, e, _⟩ := p2
    exact ⟨its, rv, p, fun b hb => by rw [List.mem_singleton.mp hb]; exact Heap.lt_size e⟩
  | s x =>
    obtain rfl : xs = chs x := h
    refine ⟨x.cps.toList.map fun c => Value.str ⟨#[c]⟩ default, ?_, trivial, fun b hb => nomatch hb⟩
    unfold chs
    generalize x.cps.toList = l
    induction l with
    | nil => exact .nil
    | cons c r ih => exact .cons ⟨_, rfl⟩ ih
theorem injS {X : Cx} {pins : List (Addr × Obj)} {σ : L2.St} {H : Hp} {s : Shared} {c : Sc} {xs ys : List V} (I : L2.Inv X pins σ H s) (h : ScAt X.K H c xs) (h' : ScAt X.K H c ys) : xs = ys := by
  cases c with
  | l a => exact I.list_inj h h'
  | t a => exact I.tuple_inj h h'
  | s x => exact h.trans h'.symm
def Itz2 (K : PySem.W.Frag) (c1 c2 : Sc) : It :=
  ⟨fun i H => ∃ xs ys, ScAt K H c1 xs ∧ ScAt K H c2 ys ∧ i < xs.length ∧ i < ys.length,
    fun i H v H' => ∃ T y c, v = .ref T ∧ H T = none ∧ H' = upd H T (.tup [y, c]) ∧ (∀ xs, ScAt K H c1 xs → xs[i]? = some y) ∧ (∀ ys, ScAt K H c2 ys → ys[i]? = some c),
    fun i H => ∃ xs ys, ScAt K H c1 xs ∧ ScAt K H c2 ys ∧ i ≤ xs.length ∧ i ≤ ys.length ∧ (i = xs.length ∨ i = ys.length)⟩
theorem turn_zipS {P : Program} {w : World} {K : PySem.W.Frag} {elts : List Expr} {kk : Nat} {tpos : Pos} {c1 c2 : Sc} {t1 t2 : Tok} {z TI TO i1 i2 : Addr} (S : ZipSep2 z TI TO i1 i2 (c1.fp i1) (c2.fp i2)) (ne : c1.apart i1) (ne2 : c2.apart i2) :
    Turn P w K (.Tuple elts kk tpos) (Itz2 K c1 c2) [z, TI, TO, i1, i2] z (fun i h => IsZip h z TI TO .none ∧ IsTupOf2 h TI (.ref i1) (.ref i2) ∧ (∃ u v, IsTupOf2 h TO u v) ∧ ItS h i1 t1 c1 i ∧ ItS h i2 t2 c2 i) where
  mem := by simp
  obj := fun i h st c hc => by
    obtain ⟨hz, hTI, ⟨u, v, hTO⟩, h1, h2⟩ := st
    obtain ⟨o1, e1, _, d1⟩ := h1.some
    obtain ⟨o2, e2, _, d2⟩ := h2.some
    simp only [List.mem_cons, List.not_mem_nil, or_false] at hc
    rcases hc with rfl | rfl | rfl | rfl | rfl
    · exact ⟨_, hz, fun v q => nomatch q⟩
    · exact ⟨_, hTI, fun v q => nomatch q⟩
    · exact ⟨_, hTO, fun v q => nomatch q⟩
    · exact ⟨o1, e1, fun v q => by rw [d1] at q; cases q⟩
    · exact ⟨o2, e2, fun v q => by rw [d2] at q; cases q⟩
  keep := fun i h h' st k => by
    obtain ⟨hz, hTI, ⟨u, v, hTO⟩, h1, h2⟩ := st
    exact ⟨k z (by simp) _ hz, k TI (by simp) _ hTI, ⟨u, v, k TO (by simp) _ hTO⟩, h1.at fun o q => k i1 (by simp) o q, h2.at fun o q => k i2 (by simp) o q⟩
  item := by
    intro X hP hw hK hc i pins s σ H E I hf st hg
    subst hP hw hK
    obtain ⟨hz, hTI, ⟨u0, v0, hTO⟩, h1, h2⟩ := st
    obtain ⟨xs, ys, hq, hq2, hi, hi2⟩ := hg
    obtain ⟨its, rv, p, _⟩ := invS I hq
    obtain ⟨its2, rv2, p2, _⟩ := invS I hq2
    have hzl : z < s.heap.objs.size := Heap.lt_size hz
    have calm : X.A.in1.handled = none := I.ok.hd hc
    refine wpAny_pyNext_zipD2_item S (drawsS calm ne hq rv) (drawsS calm ne2 hq2 rv2) hz hTI hTO ⟨h1, p⟩ ⟨h2, p2⟩ hi hi2 ?_
    rintro x1 x2 h' tk ⟨y1, hy1, ru⟩ ⟨y2, hy2, ru2⟩ z' TO' ⟨h1', _⟩ ⟨h2', _⟩ hT hsz hk
    refine ⟨_, rfl, wpAny_letOwnedTupleGo_zip (s := { s with heap := h', toks := tk }) z' fun h'' z'' sb => ?_⟩
    have hT2 : h''.get? s.heap.objs.size = some { cls := .type "tuple", data := .seq #[x1, x2] } := (sb.2 _ (Nat.ne_of_gt hzl)).trans hT
    have new : ObjOk X.prog X.w (upd H s.heap.objs.size (.tup [y1, y2])) h'' s.heap.objs.size (.tup [y1, y2]) :=
      ⟨by show 2 ≤ sizeLine; decide, [x1, x2], .cons ru (.cons ru2 .nil), ⟨_, hT2, rfl, _, rfl⟩⟩
    have I1 : Inv X pins σ (upd H s.heap.objs.size (.tup [y1, y2])) { s with heap := h'', toks := tk } :=
      I.turnedNew (t' := tk) (ch := [z, TI, TO, i1, i2]) (fun d o hb q => by
        simp only [List.mem_cons, List.not_mem_nil, or_false, not_or] at hb
        obtain ⟨b1, b2, b3, b4, b5⟩ := hb
        exact (sb.2 d b1).trans (hk d o b1 b3 b4 b5 q)) hf (Nat.le_refl _) new
    refine ⟨.ref s.heap.objs.size, _, I1, rfl, ⟨_, y1, y2, rfl, I.hok.fresh (Nat.le_refl _), rfl, fun l hl => by rw [injS I hl hq]; exact hy1, fun l hl => by rw [injS I hl hq2]; exact hy2⟩, ⟨z'', ?_, ⟨x1, x2, ?_⟩, ?_, ?_⟩, fun d hd => ?_⟩
    · exact (sb.2 _ S.TIz).trans (hk _ _ S.TIz S.TITO S.TIi1 S.TIi2 hTI)
    · exact (sb.2 _ S.TOz).trans TO'
    · exact h1'.at fun o q => (sb.2 _ S.zi1.symm).trans q
    · exact h2'.at fun o q => (sb.2 _ S.zi2.symm).trans q
    · have below : d < s.heap.objs.size := by
        simp only [List.mem_cons, List.not_mem_nil, or_false] at hd
        rcases hd with rfl | rfl | rfl | rfl | rfl
        · exact hzl
        · exact Heap.lt_size hTI
        · exact Heap.lt_size hTO
        · obtain ⟨_, e, _⟩ := h1.some; exact Heap.lt_size e
        · obtain ⟨_, e, _⟩ := h2.some; exact Heap.lt_size e
      rw [upd_ne (Nat.ne_of_lt below)]
      exact (hf d hd).1
  done := by
    intro X hP hw hK hc i pins s σ H E I hf st hg
    subst hP hw hK
    obtain ⟨hz, hTI, ⟨u0, v0, hTO⟩, h1, h2⟩ := st
    obtain ⟨xs, ys, hq, hq2, l1, l2, hend⟩ := hg
    obtain ⟨its, rv, p, _⟩ := invS I hq
    obtain ⟨its2, rv2, p2, _⟩ := invS I hq2
    have calm : X.A.in1.handled = none := I.ok.hd hc
    refine wpAny_pyNext_zipD2_end S (drawsS calm ne hq rv) (drawsS calm ne2 hq2 rv2) hz hTI hTO ⟨h1, p⟩ ⟨h2, p2⟩ l1 l2 hend ?_
    intro h' tk hk
    exact ⟨rfl, I.turnedL (t' := tk) (ch := [z, TI, TO, i1, i2]) (fun d o hb q => by
      simp only [List.mem_cons, List.not_mem_nil, or_false, not_or] at hb
      obtain ⟨b1, b2, b3, b4, b5⟩ := hb
      exact hk d o b1 b3 b4 b5 q) hf⟩
  self := fun A i s Q E st h => wpAny_pyIter_zip st.1 h
/-- the value as the program has it -/
inductive SvOk : Sc → Value → Tok → Prop
  | l (a : Addr) (tk : Tok) : SvOk (.l a) (.ref a) tk
  | t (a : Addr) (tk : Tok) : SvOk (.t a) (.ref a) tk
  | s (x : Str) (tk : Tok) : SvOk (.s x) (.str x tk) tk
theorem svOk (c : Sc) {u : Value} (r : RelV c.v u) : ∃ tk, SvOk c u tk := by
  cases c with
  | l a => cases (show u = .ref a from r); exact ⟨default, .l _ _⟩
  | t a => cases (show u = .ref a from r); exact ⟨default, .t _ _⟩
  | s x => obtain ⟨t, rfl⟩ := (show ∃ t, u = Value.str x t from r); exact ⟨t, .s _ _⟩
def itoS (c : Sc) (tk : Tok) : Obj := match c with
  | .l l => { cls := .type "list_iterator", data := .fields #[.ref l, .int 0 0] }
  | .t l => { cls := .type "tuple_iterator", data := .fields #[.ref l, .int 0 0] }
  | .s x => { cls := .type (strIterType x), data := .fields #[.str x tk, .int 0 0] }
theorem beginsS {c : Sc} {u : Value} {tk : Tok} (r : SvOk c u tk) (its : List Value) : Begins u (itoS c tk) fun h => HsS h its c := by
  cases r with
  | l a => exact begins_list a its.toArray
  | t a => exact begins_tuple a its.toArray
  | s x => exact begins_text x tk
theorem itS_of {h : Heap} {c : Sc} {tk : Tok} {it : Addr} (e : h.get? it = some (itoS c tk)) : ItS h it tk c 0 := by
  cases c with
  | l a => exact (show h.IsListIter it a 0 from ⟨_, e, rfl, rfl⟩)
  | t a => exact (show h.IsTupleIter it a 0 from ⟨_, e, rfl, rfl⟩)
  | s x => exact (show h.IsStrIter it _ x tk 0 from ⟨_, e, rfl, rfl⟩)
theorem fp_eq (c : Sc) (it : Addr) : c.fp it = it :: c.under := by cases c <;> rfl
theorem apart_lt {c : Sc} {n it : Nat} (h : ∀ b ∈ c.under, b < n) (hi : n ≤ it) : c.apart it := by
  cases c with
  | l a => exact Nat.ne_of_lt (Nat.lt_of_lt_of_le (h a (by simp [Sc.under])) hi)
  | t a => exact Nat.ne_of_lt (Nat.lt_of_lt_of_le (h a (by simp [Sc.under])) hi)
  | s x => trivial
def iZipS (K : PySem.W.Frag) (ta : TA) : TI := fun σ H R => ta σ H fun vs H1 => ∃ c1 xs c2 ys, vs = [c1.v, c2.v] ∧ ScAt K H1 c1 xs ∧ ScAt K H1 c2 ys ∧ R (Itz2 K c1 c2) H1
theorem pi_zipS {X : Cx} {e e2 : Expr} {ta : TA} {p pos tpos : Pos} {elts : List Expr} {kk : Nat} (hg : Gl X "zip") (hm : X.mg "zip" = none) (ha : PA X [e, e2] ta)
    (hs : starEach [e, e2] X.env = (false, eval e X.env) :: starEach [e2] X.env := by rfl) (hpl : (backTo pos (starEach [e2] X.env)).any (·.1) = false := by rfl) :
    PI X (.Tuple elts kk tpos) (.Call (.Name "zip" p) [e, e2] [] pos) (iZipS X.K ta) := by
  constructor
  intro pins s σ H R I h
  refine Call_ (ld_blt I hg hm PyProof.Rows.boot_zip (PyProof.Rows.callWith_type1 (thn (ha.run pos pins s σ H _ I h) ?_) hs hpl))
  rintro us s1 ⟨vs, H1, I1, r1, c1, xs, c2, ys, rfl, hq, hq2, q⟩
  obtain ⟨u1, u2, rfl, r1, r2⟩ := vals2 r1
  obtain ⟨k1, r1⟩ := svOk c1 r1
  obtain ⟨k2, r2⟩ := svOk c2 r2
  obtain ⟨its, rv, p1, la⟩ := invS I1 hq
  obtain ⟨its2, rv2, p2, lb⟩ := invS I1 hq2
  refine zip_begins2 (beginsS r1 its) (beginsS r2 its2) p1 p2 fun h' hz hTI hTO g1 g2 hsz hk => wpAny_pyIter_zip hz ?_
  have I2 : Inv X pins σ H1 { s1 with heap := h' } := I1.kept (t' := s1.toks) hk
  have sep := zip_sep2 (N := s1.heap.objs.size) (fp1 := c1.under) (fp2 := c2.under) la lb
  rw [← fp_eq, ← fp_eq] at sep
  refine ⟨s1.heap.objs.size + 4, [s1.heap.objs.size + 4, s1.heap.objs.size + 2, s1.heap.objs.size + 3, s1.heap.objs.size, s1.heap.objs.size + 1], _, _, H1, rfl, I2, turn_zipS (t1 := k1) (t2 := k2) sep (apart_lt la (Nat.le_refl _)) (apart_lt lb (Nat.le_succ _)), ⟨hz, hTI, ⟨_, _, hTO⟩, itS_of g1, itS_of g2⟩, fun c hc => ?_, q⟩
  have above : s1.heap.objs.size ≤ c := by
    simp only [List.mem_cons, List.not_mem_nil, or_false] at hc
    rcases hc with z | z | z | z | z
    · rw [z]; exact Nat.le_add_right _ _
    · rw [z]; exact Nat.le_add_right _ _
    · rw [z]; exact Nat.le_add_right _ _
    · rw [z]; exact Nat.le_refl _
    · rw [z]; exact Nat.le_add_right _ _
  exact I1.fpOk above (I1.hok.fresh above)
theorem walk_zipS {K : PySem.W.Frag} {c1 c2 : Sc} {xs ys : List V} {n : Nat} (hn : n = min xs.length ys.length) : Walk (Itz2 K c1 c2) n (fun H => ScAt K H c1 xs ∧ ScAt K H c2 ys) (YPair (fun i => xs[i]?) (fun i => ys[i]?)) where
  goes := fun i H hi ⟨h1, h2⟩ => ⟨xs, ys, h1, h2, by omega, by omega⟩
  stops := fun H ⟨h1, h2⟩ => ⟨xs, ys, h1, h2, by omega, by omega, by omega⟩
  yields := fun i H x H' hi ⟨h1, h2⟩ y => by
    obtain ⟨T, u, c, rfl, nT, rfl, g1, g2⟩ := y
    exact ⟨T, u, c, rfl, nT, rfl, g1 xs h1, g2 ys h2⟩
end Vx
namespace Vx
open PySem PySem.Spec PyProof.Rows L2
/-! new lists that are not sys.modules -/
section
variable {X : Cx}
/-- the newest object -/
theorem fresh1 {pins : List (Addr × Obj)} {σ : L2.St} {H : Hp} {s : Shared} (J : L2.Inv X pins σ H s) : H s.heap.objs.size = none ∧ s.heap.objs.size ≠ sysModules := ⟨J.hok.fresh (Nat.le_refl _), big_ne J⟩
def rSlL1 (K : PySem.W.Frag) : V → Option Int → Option Int → Hp → VK → Prop := fun x a b H Q => ∃ l ys, x = .ref l ∧ SqL K H l ys ∧ ∀ p, H p = none → p ≠ sysModules → Q (.ref p) (upd H p (.lst (cutV ys a b)))
theorem sl_list1 : SlR X (rSlL1 X.K) := by
  intro pins sh st hp x0 w va vb a b slo Q J rel hs pa pb hyp
  obtain ⟨l, ys, rfl, hy, k⟩ := hyp
  cases rel
  obtain ⟨vs1, rr, li, sz⟩ := J.list hy
  have ln := rr.length
  refine ⟨"list", _, slot_list_getitem.lookup, li.isList.typeIs, ?_⟩
  refine wpAny_getItem_list_slice li.isList hs pa pb .none (by simp) ?_ (by rw [List.size_toArray] <;> omega)
  rw [slicePick_cut vs1 a b, ← ln]
  have fr := fresh1 J
  have new : ObjOk X.prog X.w (upd hp sh.heap.objs.size (.lst (cutV ys a b))) _ sh.heap.objs.size (.lst (cutV ys a b)) :=
    ⟨Nat.le_trans (cutV_length ys a b) sz, _, 0, (rr.drop (HT.sIx ys.length 0 a)).take (HT.sIx ys.length ys.length b - HT.sIx ys.length 0 a), Heap.get?_push_size _ rfl⟩
  exact ⟨.ref sh.heap.objs.size, _, J.laid (t' := sh.toks) (fun c oc z => Heap.get?_push_of_some _ z) (Nat.le_refl _) new, rfl, k _ fr.1 fr.2⟩
def tRevL1 (K : PySem.W.Frag) (te : TE) : TE := fun σ H Q => te σ H fun x H1 => ∃ l ys, x = .ref l ∧ SqL K H1 l ys ∧ ∀ p, H1 p = none → p ≠ sysModules → Q (.ref p) (upd H1 p (.lst ys.reverse))
theorem pe_revL1 {e : Expr} {te : TE} {n : Nat} {q1 q2 q3 pos : Pos} (he : PE X e te) : PE X (.Subscript e (.Slice none none (some (.UnaryOp .USub (.Constant (.int 1) n q1) q2)) q3) pos) (tRevL1 X.K te) := by
  refine ⟨fun pins sh st hp Q J hyp => ?_⟩
  refine Subscript_ (thn (he.run pins sh st hp _ J hyp) fun w u1 ⟨x, g1, J1, rel, l, ys, hx, hy, k⟩ => ?_)
  subst hx
  cases rel
  have part : PO X (some (.UnaryOp .USub (.Constant (.int 1) n q1) q2)) (tPart (tUn (rU fun i => .int (-i)) (tC (.int 1)))) := po_some (pe_un un_neg pe_int)
  refine wpAny_Slice (thn (po_none.run pins u1 st g1 (fun o g => o = none ∧ g = g1) J1 ⟨rfl, rfl⟩) fun va u2 ⟨o1, g2, J2, pa, eo1, eg2⟩ => ?_)
  subst eo1 eg2
  refine thn (po_none.run pins u2 st g2 (fun o g => o = none ∧ g = g2) J2 ⟨rfl, rfl⟩) fun vb u3 ⟨o2, g3, J3, pb, eo2, eg3⟩ => ?_
  subst eo2 eg3
  refine thn (part.run pins u3 st g3 (fun o g => o = some (-1) ∧ g = g3) J3 ⟨1, rfl, -1, rfl, rfl, rfl⟩) fun vc u4 ⟨o3, g4, J4, pc, eo3, eg4⟩ => ?_
  subst eo3 eg4
  have J5 : L2.Inv X pins st g4 { u4 with heap := u4.heap.push { cls := .type "slice", data := .fields #[va, vb, vc] } } := J4.kept (t' := u4.toks) fun c oc z => Heap.get?_push_of_some _ z
  obtain ⟨vs1, rr, li, sz⟩ := J5.list hy
  have ln := rr.length
  have fr := fresh1 J5
  show wpAny (model X.prog X.w) X.A (subscriptTail e (.Slice none none (some (.UnaryOp .USub (.Constant (.int 1) n q1) q2)) q3) (.ref l) (.ref u4.heap.objs.size)) (EP X pins st Q) X.xe { u4 with heap := u4.heap.push { cls := .type "slice", data := .fields #[va, vb, vc] } }
  refine tail_any (ops := [.ref l, .ref u4.heap.objs.size]) li.isList.typeIs (PySem.slot_list_getitem.lookup) ?_ (by with_unfolding_all rfl)
  refine wpAny_getItem_list_slice li.isList (Heap.IsSliceOf.new _ va vb vc) pa pb pc (by decide) ?_ (by rw [List.size_toArray]; omega)
  rw [PySem.W.krv_pick]
  refine ⟨.ref _, _, J5.laid (t' := u4.toks) (o := .lst ys.reverse) (fun c oc z => Heap.get?_push_of_some _ z) (Nat.le_refl _) ?_, rfl, k _ fr.1 fr.2⟩
  exact ⟨by rw [List.length_reverse]; exact sz, _, 0, rr.reverse, Heap.get?_push_size _ rfl⟩
/-- a list times an int, a new list -/
def rRep1 : R2 := fun x y H Q => ∃ l n ys, x = .ref l ∧ y = .int n ∧ H l = some (.lst ys) ∧ -(2 ^ 63) ≤ n ∧ n < 2 ^ 63 ∧ ys.length * n.toNat ≤ sizeLine ∧ ∀ p, H p = none → p ≠ sysModules → Q (.ref p) (upd H p (.lst (List.replicate n.toNat ys).flatten))
theorem op_rep1 : OpR X (binaryOp .Mult) rRep1 := by
  intro pins sh st hp x y v w Q J rx ry hyp
  obtain ⟨l, n, ys, rfl, rfl, eH, b1, b2, sz, k⟩ := hyp
  cases rx
  obtain ⟨tk, rfl⟩ := ry
  obtain ⟨cap0, vs1, len0, rr, hl, e⟩ := J.lstM eH
  have small : vs1.toArray.size * n.toNat ≤ sizeLine := by rw [List.size_toArray, ← hl]; exact sz
  have cap : ¬ vs1.toArray.size * n.toNat > (2 ^ 63 - 1) / 8 := by
    have w : (sizeLine : Nat) ≤ (2 ^ 63 - 1) / 8 := by decide
    omega
  have fit : ¬ (!Builtin.List.listFitsIndex n) = true := by
    rw [fitsIndex_both b1 b2]; exact Bool.false_ne_true
  have short : ¬ Builtin.List.listTooLong (vs1.toArray.size * n.toNat) = true := by
    rw [notLongL small]; exact Bool.false_ne_true
  have all0 : ∀ m : Nat, List.foldl (fun x1 x2 => x1 ++ x2) #[] (List.replicate m vs1.toArray) = (List.replicate m vs1).flatten.toArray := fun m => by
    have z := foldl_rep vs1 m []
    rwa [List.nil_append] at z
  have all1 : List.foldl (fun x1 x2 => x1 ++ x2) #[] (List.replicate (if vs1.toArray.isEmpty = true then 0 else n.toNat) vs1.toArray) = (List.replicate n.toNat vs1).flatten.toArray := by
    rw [all0]
    cases vs1 with
    | nil => simp
    | cons c r => rw [if_neg (by simp)]
  have fr := fresh1 J
  refine wpAny_binaryOp_repeat_ref (T := "list") (U := "int") (by decide) ⟨_, e, rfl⟩ (fun z => typeIs_int z n tk) noFill_list_mul F.fills_int_mul F.slot_int_rmul repeat_list F.slot_int_index.lookup
    (call_meets F.slot_int_rmul (typeIs_int sh n tk) F.entry_int_rmul (F.args_int_rmul_2 _ _) (int___rmul___int_list n tk l vs1.toArray len0)
      ⟨e, rfl, ⟨_, e, rfl⟩, call_meets F.slot_list_mul ⟨_, e, rfl⟩ F.entry_list_mul (F.args_list_mul_2 _ _) (AutoListH.list___mul___list_int_3 l vs1.toArray len0 n tk fit cap short) ⟨e, ?_⟩⟩)
  rw [all1]
  exact ⟨.ref _, _, J.lnew (t' := sh.toks) (rr.rep n.toNat) (by rw [PyProof.Rows.lm_len_rep_flat, Nat.mul_comm]; exact sz), rfl, k _ fr.1 fr.2⟩
end
end Vx
namespace PySem.SeqAt
open AutoSeq1 (wpAny_loadPart')
open MeetsSeq
theorem int_dec_int (b : Int) (u : Tok) (l C dx : Addr) :
    Meets (Builtin.«int.__eq__» ⟨[.int b u, .ref l], []⟩) (fun _ R s => s.heap.get? l = some (PySem.W.instObj C dx) ∧ R (.ok (.ret .notImplemented)) s) :=
  .of_wp fun prog w A R s h => by obtain ⟨hp, g, d, tk, os⟩ := s; obtain ⟨hl, h⟩ := h; wp_walk using wpAny_loadPart' hl, wpAny_load hl; exact ⟨_, rfl, h⟩
theorem int_dec_bool (b : Bool) (l C dx : Addr) :
    Meets (Builtin.«int.__eq__» ⟨[.bool b, .ref l], []⟩) (fun _ R s => s.heap.get? l = some (PySem.W.instObj C dx) ∧ R (.ok (.ret .notImplemented)) s) :=
  .of_wp fun prog w A R s h => by obtain ⟨hp, g, d, tk, os⟩ := s; obtain ⟨hl, h⟩ := h; wp_walk using wpAny_loadPart' hl, wpAny_load hl; exact ⟨_, rfl, h⟩
theorem str_dec (b : Str) (u : Tok) (l C dx : Addr) :
    Meets (Builtin.«str.__eq__» ⟨[.str b u, .ref l], []⟩) (fun _ R s => s.heap.get? l = some (PySem.W.instObj C dx) ∧ R (.ok (.ret .notImplemented)) s) :=
  .of_wp fun prog w A R s h => by obtain ⟨hp, g, d, tk, os⟩ := s; obtain ⟨hl, h⟩ := h; wp_walk using wpAny_loadPart' hl, wpAny_load hl; exact ⟨_, rfl, h⟩
abbrev InDec (x : Addr) (T : String) (h : Heap) : Prop := ∀ (prog : Program) (w : World), W.Looks (model prog w) h (isInstance (.ref x) (.type T)) false
theorem list_dec (l x : Addr) (items : Array Value) (n : Nat) (dd : Option Addr) (sl : Array (Option Value)) :
    Meets (Builtin.«list.__eq__» ⟨[.ref l, .ref x], []⟩) (fun _ R s => s.heap.get? l = some { cls := .type "list", dict := dd, data := .seq items n, slots := sl } ∧ InDec x "list" s.heap ∧ R (.ok (.ret .notImplemented)) s) :=
  .of_wp fun prog w A R s h => by
    obtain ⟨hp, g, d, tk, os⟩ := s; obtain ⟨hl, hin, h⟩ := h
    have hin := hin prog w
    wp_walk using wpAny_loadPart' hl, hin.at
    exact ⟨_, rfl, h⟩
theorem tuple_dec (l x : Addr) (items : Array Value) (n : Nat) (dd : Option Addr) (sl : Array (Option Value)) :
    Meets (Builtin.«tuple.__eq__» ⟨[.ref l, .ref x], []⟩) (fun _ R s => s.heap.get? l = some { cls := .type "tuple", dict := dd, data := .seq items n, slots := sl } ∧ InDec x "tuple" s.heap ∧ R (.ok (.ret .notImplemented)) s) :=
  .of_wp fun prog w A R s h => by
    obtain ⟨hp, g, d, tk, os⟩ := s; obtain ⟨hl, hin, h⟩ := h
    have hin := hin prog w
    wp_walk using wpAny_loadPart' hl, hin.at
    exact ⟨_, rfl, h⟩
theorem dict_dec (l x : Addr) (o : Obj) (hc : o.cls = .type "dict") :
    Meets (Builtin.«dict.__eq__» ⟨[.ref l, .ref x], []⟩) (fun _ R s => s.heap.get? l = some o ∧ InDec x "dict" s.heap ∧ R (.ok (.ret .notImplemented)) s) :=
  .of_wp fun prog w A R s h => by
    obtain ⟨hp, g, d, tk, os⟩ := s; obtain ⟨hl, hin, h⟩ := h
    have hin := hin prog w
    wp_walk using wpAny_loadPart' hl, wpAny_load hl, hin.at
    exact ⟨_, rfl, h⟩
open PyProof.Rows PySem.W in
theorem eq_refl_own {prog : Program} {w : World} {A : Around} {E : Value → Shared → Prop} {s : Shared} {K : Frag} {x C L f : Addr} {h₀ : Heap} {m : Str → Option Value} {ox : Obj} {od : Option Obj} {v : Value} {T id : String} {Q : Value → Shared → Prop}
    (hu : A.units < cLine) (F : Fr h₀ L s.heap m) (X₀ : K.In h₀) (I : InstAt s.heap x ox C od) (hT : s.TypeIs v T) (slot : Slot T "__eq__" id)
    (hdec : ∀ Q' : Value → Shared → Prop, Q' .notImplemented s → wpAny (model prog w) A (call (.builtin id) [v, .ref x]) Q' E s)
    (hsub : subIn K (.ref C) (.type T) = some false) (hs : findIn K (.ref C) "__eq__" = some (some (.ref f))) (hf : isFn K (.ref f) = true)
    (h : wpAny (model prog w) A (call (.ref f) [.ref x, v]) (PySem.W.CmpBack Q) E s) : wpAny (model prog w) A (richCompare .Eq v (.ref x)) Q E s := by
  have X := X₀.keeps F.keep
  have one : wpAny (model prog w) A (tryCompare (.ref x) "__eq__" v) (fun r s' => ∃ v, r = some v ∧ Q v s') E s := by
    unfold tryCompare
    refine wpAny_bind (ifBound_K X I hs hf (wpAny_mono h (fun v s' hv => ?_) fun _ _ e => e))
    cases v <;> first | exact hv.elim | exact wpAny_pure ⟨_, rfl, hv⟩
  have two : wpAny (model prog w) A (tryCompare v "__eq__" (.ref x)) (fun r s' => r = none ∧ s' = s) E s :=
    wpAny_tryCompare_declines hT slot (hdec (fun v s' => v = .notImplemented ∧ (none : Option Value) = none ∧ s' = s) ⟨rfl, rfl, rfl⟩)
  simp only [richCompare, cmpInfo_Eq, hT.oneThing_none]
  refine wpAny_holding (wpAny_bind (wpAny_cRoomFor hu ?_))
  refine wpAny_bind (wpAny_typeOf hT (wpAny_bind (I.type.here ?_)))
  split
  · refine wpAny_bind ((looks_subIn X hsub).here ?_)
    simp only [Bool.false_eq_true, if_false, Bool.not_false, if_true]
    refine wpAny_bind (wpAny_mono two (fun r s1 z => ?_) fun _ _ e => e)
    obtain ⟨z1, z2⟩ := z
    subst z1
    subst z2
    refine wpAny_bind (wpAny_mono one (fun r s2 z => ?_) fun _ _ e => e)
    obtain ⟨v, rfl, hq⟩ := z
    exact wpAny_pure hq
  · rename_i q
    exact absurd (by simp) q
end PySem.SeqAt
namespace Vx
open PySem PySem.Spec PyProof.Rows L2 PySem.W PySem.SeqAt
/-- a value of a built-in class -/
def BlV (H : Hp) (x : V) : Prop := x = .non ∨ (∃ b, x = .bl b) ∨ (∃ i, x = .int i) ∨ (∃ a, x = .str a) ∨ ∃ p, x = .ref p ∧ ((∃ xs, H p = some (.lst xs)) ∨ (∃ xs, H p = some (.tup xs)) ∨ ∃ kvs, H p = some (.dK kvs))
def uTys : List String := ["NoneType", "bool", "int", "str", "list", "tuple", "dict"]
/-- == of a value of a built-in class and an own class's object: the object's own answer -/
def rEqRef (K : PySem.W.Frag) (C : Addr) (sp : Sp) (E : XK) : R2 := fun x y H Q => ∃ b dy gs, y = .ref b ∧ H b = some (.ins C dy gs) ∧ BlV H x ∧ sp [y, x] H Q E
section
variable {X : Cx} {CX : CXT} {n : Nat} {C g : Addr} {sp : Sp} {E : XK}
theorem op_eqRef (K : PySem.W.Frag) (hK : X.K = K) (U : ∀ T ∈ uTys, PySem.W.subIn K (.ref C) (.type T) = some false) (d : Dun K C "__eq__" g) (F : FnR X.prog X.w K X.mg X.base CX n g sp) (hr : Room n X.A) (hx : Passes CX X E) : OpR X (compareOp .Eq) (rEqRef K C sp E) := by
  subst hK
  intro pins s σ H x y v u Q I rx ry h
  obtain ⟨a, dx, fs, rfl, ea, hy, q⟩ := h
  cases (show u = Value.ref a from ry)
  obtain ⟨ox, od, J⟩ := look_ins I ea
  obtain ⟨m, hF⟩ := I.fr
  obtain ⟨_, _, _, hl, _⟩ := I.hok a _ ea
  have call : wpAny (model X.prog X.w) X.A (PySem.call (.ref g) [.ref a, v]) (PySem.W.CmpBack (EP X pins σ Q)) X.xe s := by
    refine wpAny_mono (wpAny_call (run_fnR (us := [.ref a, v]) (vs := [.ref a, x]) F hr hx I (.cons ry (.cons rx .nil)) q)) (fun w s' z => ?_) fun _ _ x => x
    obtain ⟨z', H', I', rz, qz⟩ := z
    exact SlX.cmpback rz ⟨z', H', I', rz, qz⟩
  have X1 := I.ok.mod.kin.keeps hF.keep
  have dec : ∀ T ∈ uTys, InDec a T s.heap := fun T hT prog w => J.type.andThen (looks_subIn X1 (U T hT))
  refine PySem.W.cmp_ofEq ?_
  rcases hy with rfl | ⟨b, rfl⟩ | ⟨i, rfl⟩ | ⟨t, rfl⟩ | ⟨p, rfl, hp⟩
  · cases (show v = Value.none from rx)
    exact eq_refl_own hr.units0 hF I.ok.mod.kin J rfl PySem.F.slot_NoneType_eq (fun Q' hq => call_gives PySem.F.slot_NoneType_eq rfl PySem.F.entry_NoneType_eq (PySem.F.args_NoneType_eq_2 _ _) (NoneType___eq___none_ref_0 a) hq) (U _ (by decide)) d.at_ d.fn call
  · cases (show v = Value.bool b from rx)
    exact eq_refl_own hr.units0 hF I.ok.mod.kin J rfl PySem.F.slot_bool_eq (fun Q' hq => call_meets PySem.F.slot_bool_eq rfl PySem.F.entry_int_eq (PySem.F.args_int_eq_2 _ _) (int_dec_bool b a C dx) ⟨hl, hq⟩) (U _ (by decide)) d.at_ d.fn call
  · obtain ⟨t, e⟩ := (show ∃ t, v = Value.int i t from rx)
    cases e
    exact eq_refl_own hr.units0 hF I.ok.mod.kin J rfl PySem.F.slot_int_eq (fun Q' hq => call_meets PySem.F.slot_int_eq rfl PySem.F.entry_int_eq (PySem.F.args_int_eq_2 _ _) (int_dec_int i t a C dx) ⟨hl, hq⟩) (U _ (by decide)) d.at_ d.fn call
  · obtain ⟨t', e⟩ := (show ∃ t', v = Value.str t t' from rx)
    cases e
    exact eq_refl_own hr.units0 hF I.ok.mod.kin J rfl PySem.F.slot_str_eq (fun Q' hq => call_meets PySem.F.slot_str_eq rfl PySem.F.entry_str_eq (PySem.F.args_str_eq_2 _ _) (str_dec t t' a C dx) ⟨hl, hq⟩) (U _ (by decide)) d.at_ d.fn call
  · cases (show v = Value.ref p from rx)
    rcases hp with ⟨xs, e⟩ | ⟨xs, e⟩ | ⟨kvs, e⟩
    · obtain ⟨_, its, k, _, hp⟩ := I.hok p _ e
      have hT : s.TypeIs (.ref p) "list" := ⟨_, hp, rfl⟩
      exact eq_refl_own hr.units0 hF I.ok.mod.kin J hT PySem.F.slot_list_eq (fun Q' hq => call_meets PySem.F.slot_list_eq hT PySem.F.entry_list_eq (PySem.F.args_list_eq_2 _ _) (list_dec p a _ _ _ _) ⟨hp, dec _ (by decide), hq⟩) (U _ (by decide)) d.at_ d.fn call
    · obtain ⟨_, its, _, o, hp, hc, k, hd⟩ := I.hok p _ e
      obtain ⟨oc, od', dt, sl⟩ := o
      cases hc
      cases hd
      have hT : s.TypeIs (.ref p) "tuple" := ⟨_, hp, rfl⟩
      exact eq_refl_own hr.units0 hF I.ok.mod.kin J hT PySem.F.slot_tuple_eq (fun Q' hq => call_meets PySem.F.slot_tuple_eq hT PySem.F.entry_tuple_eq (PySem.F.args_tuple_eq_2 _ _) (tuple_dec p a _ _ _ _) ⟨hp, dec _ (by decide), hq⟩) (U _ (by decide)) d.at_ d.fn call
    · obtain ⟨_, _, vs, _, o, es, ep, hp, hx, _⟩ := I.hok p _ e
      have hT : s.TypeIs (.ref p) "dict" := ⟨_, hp, hx.1⟩
      exact eq_refl_own hr.units0 hF I.ok.mod.kin J hT PySem.F.slot_dict_eq (fun Q' hq => call_meets PySem.F.slot_dict_eq hT PySem.F.entry_dict_eq (PySem.F.args_dict_eq_2 _ _) (dict_dec p a o hx.1) ⟨hp, dec _ (by decide), hq⟩) (U _ (by decide)) d.at_ d.fn call
end
end Vx
namespace Dl
open PySem PySem.Spec PyProof.Rows L2 Vx
/-! values as data: a value with all that it reaches -/
inductive D where
  | non | bl (b : Bool) | int (i : Int) | str (a : List Nat) | lst (z : Bool) (xs : List D) | tup (xs : List D) | dic (ks vs : List D) | ins (c : Addr) (ns : List Str) (ds : List D) | scr (ns : List Int) | ktp (xs : List D) | cl (C : Addr)
mutual
/-- v stands for the data d over the heap I -/
inductive R (K : PySem.W.Frag) (I : Hp) : V → D → Prop
  | non : R K I .non .non
  | bl (b : Bool) : R K I (.bl b) (.bl b)
  | int (i : Int) : R K I (.int i) (.int i)
  | str (a : List Nat) : R K I (.str (S a)) (.str a)
  | lst {p : Addr} {vs : List V} {z : Bool} {ds : List D} : I p = some (.lst vs) → (z = true → p ≠ sysModules) → RA K I vs ds → R K I (.ref p) (.lst z ds)
  | tup {p : Addr} {vs : List V} {ds : List D} : I p = some (.tup vs) → RA K I vs ds → R K I (.ref p) (.tup ds)
  | dic {p : Addr} {kvs : List (Key × V)} {ks ds : List D} : I p = some (.dK kvs) → RA K I (kvs.map fun q => kV q.1) ks → RA K I (kvs.map (·.2)) ds → R K I (.ref p) (.dic ks ds)
  | ins {p C dx : Addr} {fs : List (Str × V)} {ns : List Str} {ds : List D} : I p = some (.ins C dx fs) → fs.map (·.1) = ns.take ds.length → RA K I (fs.map (·.2)) ds → R K I (.ref p) (.ins C ns ds)
  | scr {p : Addr} {ns : List Int} : SqL K I p (ns.map V.int) → R K I (.ref p) (.scr ns)
  | ktp {p : Addr} {vs : List V} {ds : List D} : SqT K I p vs → RA K I vs ds → R K I (.ref p) (.ktp ds)
  | cl (C : Addr) : R K I (.ref C) (.cl C)
inductive RA (K : PySem.W.Frag) (I : Hp) : List V → List D → Prop
  | nil : RA K I [] []
  | cons {v : V} {vs : List V} {d : D} {ds : List D} : R K I v d → RA K I vs ds → RA K I (v :: vs) (d :: ds)
end
theorem sqT_mono {K : PySem.W.Frag} {I J : Hp} {a : Addr} {xs : List V} (s : Same I J) : SqT K I a xs → SqT K J a xs := by
  intro h
  rcases h with (h | ⟨o, h⟩) | h
  · exact .inl (.inl (s _ _ h))
  · exact .inl (.inr ⟨o, s _ _ h⟩)
  · exact .inr h
mutual
theorem R.mono {K : PySem.W.Frag} {I J : Hp} (s : Same I J) : ∀ {d : D} {v : V}, R K I v d → R K J v d
  | .non, _, h => by cases h; exact .non
  | .bl _, _, h => by cases h; exact .bl _
  | .int _, _, h => by cases h; exact .int _
  | .str _, _, h => by cases h; exact .str _
  | .lst _ ds, _, h => by
    cases h with
    | lst a n r => exact .lst (s _ _ a) n (RA.mono s r)
  | .tup ds, _, h => by
    cases h with
    | tup a r => exact .tup (s _ _ a) (RA.mono s r)
  | .dic ks ds, _, h => by
    cases h with
    | dic a k v => exact .dic (s _ _ a) (RA.mono s k) (RA.mono s v)
  | .ins C ns ds, _, h => by
    cases h with
    | ins a n r => exact .ins (s _ _ a) n (RA.mono s r)
  | .scr ns, _, h => by
    cases h with
    | scr a => exact .scr (s.seq a)
  | .ktp ds, _, h => by
    cases h with
    | ktp a r => exact .ktp (sqT_mono s a) (RA.mono s r)
  | .cl C, _, h => by cases h; exact .cl _
theorem RA.mono {K : PySem.W.Frag} {I J : Hp} (s : Same I J) : ∀ {ds : List D} {vs : List V}, RA K I vs ds → RA K J vs ds
  | [], _, h => by cases h; exact .nil
  | d :: ds, _, h => by
    cases h with
    | cons a r => exact .cons (R.mono s a) (RA.mono s r)
end
theorem RA.length {K : PySem.W.Frag} {I : Hp} : ∀ {vs : List V} {ds : List D}, RA K I vs ds → vs.length = ds.length
  | _, _, .nil => rfl
  | _, _, .cons _ r => by rw [List.length_cons, List.length_cons, RA.length r]
theorem RA.get {K : PySem.W.Frag} {I : Hp} : ∀ {vs : List V} {ds : List D} {i : Nat} {d : D}, RA K I vs ds → ds[i]? = some d → ∃ v, vs[i]? = some v ∧ R K I v d
  | _, _, _, _, .nil, e => by simp at e
  | _, _, 0, _, .cons r _, e => by simp at e; subst e; exact ⟨_, rfl, r⟩
  | _, _, i + 1, d, .cons _ t, e => by
    obtain ⟨u, h1, h2⟩ := RA.get (i := i) (d := d) t (by simpa using e)
    exact ⟨u, by simpa using h1, h2⟩
theorem RA.append {K : PySem.W.Frag} {I : Hp} : ∀ {vs us : List V} {ds es : List D}, RA K I vs ds → RA K I us es → RA K I (vs ++ us) (ds ++ es)
  | _, _, _, _, .nil, h => h
  | _, _, _, _, .cons r t, h => .cons r (RA.append t h)
theorem RA.take {K : PySem.W.Frag} {I : Hp} : ∀ {vs : List V} {ds : List D} (n : Nat), RA K I vs ds → RA K I (vs.take n) (ds.take n)
  | _, _, 0, _ => .nil
  | _, _, _ + 1, .nil => .nil
  | _, _, n + 1, .cons r t => .cons r (RA.take n t)
theorem RA.drop {K : PySem.W.Frag} {I : Hp} : ∀ {vs : List V} {ds : List D} (n : Nat), RA K I vs ds → RA K I (vs.drop n) (ds.drop n)
  | _, _, 0, h => h
  | _, _, _ + 1, .nil => .nil
  | _, _, n + 1, .cons _ t => RA.drop n t
theorem RA.reverse {K : PySem.W.Frag} {I : Hp} : ∀ {vs : List V} {ds : List D}, RA K I vs ds → RA K I vs.reverse ds.reverse
  | _, _, .nil => .nil
  | _, _, .cons r t => by rw [List.reverse_cons, List.reverse_cons]; exact RA.append (RA.reverse t) (.cons r .nil)
theorem RA.set {K : PySem.W.Frag} {I : Hp} {v : V} {d : D} (r : R K I v d) : ∀ {vs : List V} {ds : List D} (i : Nat), RA K I vs ds → RA K I (vs.set i v) (ds.set i d)
  | _, _, _, .nil => .nil
  | _, _, 0, .cons _ t => .cons r t
  | _, _, i + 1, .cons q t => .cons q (RA.set r i t)
theorem RA.ints {K : PySem.W.Frag} {I : Hp} : ∀ ns : List Int, RA K I (ns.map V.int) (ns.map D.int)
  | [] => .nil
  | n :: r => .cons (.int n) (RA.ints r)
theorem RA.strs {K : PySem.W.Frag} {I : Hp} : ∀ ns : List (List Nat), RA K I (ns.map fun a => V.str (S a)) (ns.map D.str)
  | [] => .nil
  | n :: r => .cons (.str n) (RA.strs r)

/-! a def's slots and the objects that it may change -/
inductive SV where
  | sh (d : D) | ow (d : D) | pa (k : Nat) | ex (a : Addr)
structure Fr where
  sl : List (Option SV)
  ps : List D
/-- a value on its way: shared, new, the slot's own object, the caller's object -/
inductive Rv where
  | sh (d : D) | tm (d : D) | pl (i : Nat) | pa (k : Nat)
/-- an object that may change, by its root -/
def Root (K : PySem.W.Frag) (I H : Hp) (p : Addr) : D → Prop
  | .lst z ds => ∃ vs, H p = some (.lst vs) ∧ (z = true → p ≠ sysModules) ∧ RA K I vs ds
  | .dic ks ds => ∃ kvs, H p = some (.dK kvs) ∧ RA K I (kvs.map fun q => kV q.1) ks ∧ RA K I (kvs.map (·.2)) ds
  | .ins C ns ds => ∃ dx fs, H p = some (.ins C dx fs) ∧ fs.map (·.1) = ns.take ds.length ∧ RA K I (fs.map (·.2)) ds
  | _ => False
theorem Root.some {K : PySem.W.Frag} {I H : Hp} {p : Addr} {d : D} (h : Root K I H p d) : ∃ o, H p = Option.some o := by
  cases d <;> first | exact h.elim | skip
  · obtain ⟨vs, e, _⟩ := h; exact ⟨_, e⟩
  · obtain ⟨vs, e, _⟩ := h; exact ⟨_, e⟩
  · obtain ⟨dx, fs, e, _⟩ := h; exact ⟨_, e⟩
theorem Root.mono {K : PySem.W.Frag} {I J H G : Hp} {p : Addr} {d : D} (s : Same I J) (e : G p = H p) (h : Root K I H p d) : Root K J G p d := by
  cases d <;> first | exact h.elim | skip
  · obtain ⟨vs, q, n, r⟩ := h; exact ⟨vs, e.trans q, n, r.mono s⟩
  · obtain ⟨vs, q, n, r⟩ := h; exact ⟨vs, e.trans q, n.mono s, r.mono s⟩
  · obtain ⟨dx, fs, q, n, r⟩ := h; exact ⟨dx, fs, e.trans q, n, r.mono s⟩
/-- as a shared value, over a heap that has the object -/
theorem Root.r {K : PySem.W.Frag} {I J H : Hp} {p : Addr} {d : D} (s : Same I J) (e : J p = H p) (h : Root K I H p d) : R K J (.ref p) d := by
  cases d <;> first | exact h.elim | skip
  · obtain ⟨vs, q, n, r⟩ := h; exact .lst (e.trans q) n (r.mono s)
  · obtain ⟨vs, q, n, r⟩ := h; exact .dic (e.trans q) (n.mono s) (r.mono s)
  · obtain ⟨dx, fs, q, n, r⟩ := h; exact .ins (e.trans q) n (r.mono s)

/-- the shared part grows by what is new since the entry -/
def Ext (B I J : Hp) : Prop := Same I J ∧ ∀ b o, J b = some o → I b = some o ∨ B b = none
theorem Ext.refl (B I : Hp) : Ext B I I := ⟨Same.refl I, fun _ _ h => .inl h⟩
theorem Ext.trans {B I J L : Hp} (a : Ext B I J) (b : Ext B J L) : Ext B I L := ⟨a.1.trans b.1, fun c o h => by
  rcases b.2 c o h with h | h
  · exact a.2 c o h
  · exact .inr h⟩

def SVok (K : PySem.W.Frag) (B : Hp) (ps : List Addr) (I H : Hp) (v : V) : SV → Prop
  | .sh d => R K I v d
  | .ow d => ∃ p, v = .ref p ∧ B p = none ∧ I p = none ∧ p ∉ ps ∧ Root K I H p d
  | .pa k => ∃ p, ps[k]? = some p ∧ v = .ref p
  | .ex a => v = .ref a
structure Rep (K : PySem.W.Frag) (B : Hp) (ps : List Addr) (I : Hp) (σ : L2.St) (H : Hp) (fr : Fr) : Prop where
  same : Same I H
  keep : ∀ b o, B b = some o → b ∉ ps → H b = some o
  nd : ps.Nodup
  plen : fr.ps.length = ps.length
  par : ∀ (k : Nat) (d : D), fr.ps[k]? = some d → ∃ p, ps[k]? = some p ∧ Root K I H p d
  pout : ∀ p ∈ ps, I p = none
  slen : fr.sl.length = σ.length
  slot : ∀ (i : Nat) (sv : SV), fr.sl[i]? = some (some sv) → ∃ v, σ[i]? = some (some v) ∧ SVok K B ps I H v sv
  own : ∀ (i j : Nat) (p : Addr) (d e : D), i ≠ j → fr.sl[i]? = some (some (.ow d)) → fr.sl[j]? = some (some (.ow e)) → σ[i]? = some (some (.ref p)) → σ[j]? ≠ some (some (.ref p))
/-- not the object of a slot -/
def Apart (σ : L2.St) (fr : Fr) (p : Addr) : Prop := ∀ (i : Nat) (d : D), fr.sl[i]? = some (some (.ow d)) → σ[i]? ≠ some (some (.ref p))
def RvOk (K : PySem.W.Frag) (B : Hp) (ps : List Addr) (I : Hp) (σ : L2.St) (H : Hp) (fr : Fr) (v : V) : Rv → Prop
  | .sh d => R K I v d
  | .tm d => ∃ p, v = .ref p ∧ B p = none ∧ I p = none ∧ p ∉ ps ∧ Apart σ fr p ∧ Root K I H p d
  | .pl i => σ[i]? = some (some v) ∧ ∃ d, fr.sl[i]? = some (some (.ow d))
  | .pa k => ∃ p, ps[k]? = some p ∧ v = .ref p

section
variable {K : PySem.W.Frag} {B I H : Hp} {ps : List Addr} {σ : L2.St} {fr : Fr}
theorem Rep.pin (r : Rep K B ps I σ H fr) {p : Addr} (hp : p ∈ ps) : ∃ o, H p = some o := by
  obtain ⟨k, hk, e⟩ := List.getElem_of_mem hp
  have hk2 : k < fr.ps.length := by rw [r.plen]; exact hk
  obtain ⟨q, e1, rt⟩ := r.par k _ (List.getElem?_eq_getElem hk2)
  rw [List.getElem?_eq_getElem hk, e] at e1
  cases e1
  exact rt.some
/-- a new address -/
theorem Rep.fresh (r : Rep K B ps I σ H fr) {p : Addr} (h : H p = none) : B p = none ∧ I p = none ∧ p ∉ ps ∧ Apart σ fr p := by
  have hn : p ∉ ps := fun z => by
    obtain ⟨o, e⟩ := r.pin z
    rw [h] at e; cases e
  refine ⟨?_, ?_, hn, fun i d e z => ?_⟩
  · cases q : B p with
    | none => rfl
    | some o => have := r.keep p o q hn; rw [h] at this; cases this
  · cases q : I p with
    | none => rfl
    | some o => have := r.same p o q; rw [h] at this; cases this
  · obtain ⟨v, e1, q, e2, _, _, _, rt⟩ := r.slot i _ e
    rw [z] at e1
    cases e1
    cases e2
    obtain ⟨o, e3⟩ := rt.some
    rw [h] at e3; cases e3
/-- the heap changes where nothing of ours stands -/
theorem Rep.heap (r : Rep K B ps I σ H fr) {G : Hp} (h : ∀ b o, H b = some o → G b = some o) : Rep K B ps I σ G fr where
  same := r.same.trans h
  keep := fun b o e n => h b o (r.keep b o e n)
  nd := r.nd
  plen := r.plen
  par := fun k d e => by
    obtain ⟨p, e1, rt⟩ := r.par k d e
    obtain ⟨o, e2⟩ := rt.some
    exact ⟨p, e1, rt.mono (Same.refl _) ((h _ _ e2).trans e2.symm)⟩
  pout := r.pout
  slen := r.slen
  slot := fun i sv e => by
    obtain ⟨v, e1, q⟩ := r.slot i sv e
    refine ⟨v, e1, ?_⟩
    cases sv with
    | sh d => exact q
    | pa k => exact q
    | ex k => exact q
    | ow d =>
      obtain ⟨p, e2, b, c, n, rt⟩ := q
      obtain ⟨o, e3⟩ := rt.some
      exact ⟨p, e2, b, c, n, rt.mono (Same.refl _) ((h _ _ e3).trans e3.symm)⟩
  own := r.own
theorem Rep.new (r : Rep K B ps I σ H fr) {p : Addr} {o : HO} (h : H p = none) : Rep K B ps I σ (upd H p o) fr := r.heap (same_new h)
/-- the shared part grows -/
theorem Rep.grow (r : Rep K B ps I σ H fr) {J : Hp} (e : Same I J) (s : Same J H) (hp : ∀ p ∈ ps, J p = none) (ho : ∀ (i : Nat) (d : D) (p : Addr), fr.sl[i]? = some (some (.ow d)) → σ[i]? = some (some (.ref p)) → J p = none) : Rep K B ps J σ H fr where
  same := s
  keep := r.keep
  nd := r.nd
  plen := r.plen
  par := fun k d q => by
    obtain ⟨p, e1, rt⟩ := r.par k d q
    exact ⟨p, e1, rt.mono e rfl⟩
  pout := hp
  slen := r.slen
  slot := fun i sv q => by
    obtain ⟨v, e1, z⟩ := r.slot i sv q
    refine ⟨v, e1, ?_⟩
    cases sv with
    | sh d => exact R.mono e z
    | pa k => exact z
    | ex k => exact z
    | ow d =>
      obtain ⟨p, e2, b, c, n, rt⟩ := z
      subst e2
      exact ⟨p, rfl, b, ho i d p q e1, n, rt.mono e rfl⟩
  own := r.own
/-- a new object becomes shared -/
theorem Rep.freeze (r : Rep K B ps I σ H fr) {p : Addr} {d : D} (b : B p = none) (c : I p = none) (n : p ∉ ps) (a : Apart σ fr p) (rt : Root K I H p d) :
    ∃ J, Ext B I J ∧ Rep K B ps J σ H fr ∧ R K J (.ref p) d := by
  obtain ⟨o, e⟩ := rt.some
  have s : Same I (upd I p o) := same_new c
  refine ⟨upd I p o, ⟨s, fun x u q => ?_⟩, r.grow s (fun x u q => ?_) (fun q hq => ?_) (fun i d' q h1 h2 => ?_), rt.r s (by rw [upd_same, e])⟩
  · by_cases hx : x = p
    · rw [hx]; exact .inr b
    · rw [upd_ne hx] at q; exact .inl q
  · by_cases hx : x = p
    · subst hx; rw [upd_same] at q; cases q; exact e
    · rw [upd_ne hx] at q; exact r.same x u q
  · rw [upd_ne (show q ≠ p from fun z => n (by rw [← z]; exact hq))]; exact r.pout q hq
  · have hq : q ≠ p := fun z => a i d' h1 (z ▸ h2)
    rw [upd_ne hq]
    obtain ⟨v, e1, p2, e2, _, c2, _, _⟩ := r.slot i _ h1
    rw [h2] at e1
    cases e1
    cases e2
    exact c2
/-- a slot gets a shared value -/
theorem Rep.setSh (r : Rep K B ps I σ H fr) {i : Nat} {v : V} {d : D} (h : R K I v d) : Rep K B ps I (σ.set i (some v)) H { fr with sl := fr.sl.set i (some (.sh d)) } where
  same := r.same
  keep := r.keep
  nd := r.nd
  plen := r.plen
  par := r.par
  pout := r.pout
  slen := by simpa using r.slen
  slot := fun j sv e => by
    by_cases hj : j = i
    · subst hj
      have hl : j < fr.sl.length := by
        have := (List.getElem?_eq_some_iff.mp e).1
        simpa using this
      rw [List.getElem?_set_self hl] at e
      cases e
      exact ⟨v, by rw [List.getElem?_set_self (by rw [← r.slen]; exact hl)], h⟩
    · rw [List.getElem?_set_ne (Ne.symm hj)] at e ⊢
      exact r.slot j sv e
  own := fun a b p x y n h1 h2 h3 => by
    by_cases ha : a = i
    · subst ha
      have hl : a < fr.sl.length := by
        have := (List.getElem?_eq_some_iff.mp h1).1
        simpa using this
      rw [List.getElem?_set_self hl] at h1; cases h1
    · by_cases hb : b = i
      · subst hb
        have hl : b < fr.sl.length := by
          have := (List.getElem?_eq_some_iff.mp h2).1
          simpa using this
        rw [List.getElem?_set_self hl] at h2; cases h2
      · rw [List.getElem?_set_ne (Ne.symm ha)] at h1 h3
        rw [List.getElem?_set_ne (Ne.symm hb)] at h2 ⊢
        exact r.own a b p x y n h1 h2 h3
theorem Rep.setPa (r : Rep K B ps I σ H fr) {i k : Nat} {p : Addr} (h : ps[k]? = some p) : Rep K B ps I (σ.set i (some (.ref p))) H { fr with sl := fr.sl.set i (some (.pa k)) } where
  same := r.same
  keep := r.keep
  nd := r.nd
  plen := r.plen
  par := r.par
  pout := r.pout
  slen := by simpa using r.slen
  slot := fun j sv e => by
    by_cases hj : j = i
    · subst hj
      have hl : j < fr.sl.length := by
        have := (List.getElem?_eq_some_iff.mp e).1
        simpa using this
      rw [List.getElem?_set_self hl] at e
      cases e
      exact ⟨_, by rw [List.getElem?_set_self (by rw [← r.slen]; exact hl)], p, h, rfl⟩
    · rw [List.getElem?_set_ne (Ne.symm hj)] at e ⊢
      exact r.slot j sv e
  own := fun a b p x y n h1 h2 h3 => by
    by_cases ha : a = i
    · subst ha
      have hl : a < fr.sl.length := by
        have := (List.getElem?_eq_some_iff.mp h1).1
        simpa using this
      rw [List.getElem?_set_self hl] at h1; cases h1
    · by_cases hb : b = i
      · subst hb
        have hl : b < fr.sl.length := by
          have := (List.getElem?_eq_some_iff.mp h2).1
          simpa using this
        rw [List.getElem?_set_self hl] at h2; cases h2
      · rw [List.getElem?_set_ne (Ne.symm ha)] at h1 h3
        rw [List.getElem?_set_ne (Ne.symm hb)] at h2 ⊢
        exact r.own a b p x y n h1 h2 h3
/-- a slot gets a new object -/
theorem Rep.setOw (r : Rep K B ps I σ H fr) {i : Nat} {p : Addr} {d : D} (b : B p = none) (c : I p = none) (n : p ∉ ps) (a : Apart σ fr p) (rt : Root K I H p d) :
    Rep K B ps I (σ.set i (some (.ref p))) H { fr with sl := fr.sl.set i (some (.ow d)) } where
  same := r.same
  keep := r.keep
  nd := r.nd
  plen := r.plen
  par := r.par
  pout := r.pout
  slen := by simpa using r.slen
  slot := fun j sv e => by
    by_cases hj : j = i
    · subst hj
      have hl : j < fr.sl.length := by
        have := (List.getElem?_eq_some_iff.mp e).1
        simpa using this
      rw [List.getElem?_set_self hl] at e
      cases e
      exact ⟨_, by rw [List.getElem?_set_self (by rw [← r.slen]; exact hl)], p, rfl, b, c, n, rt⟩
    · rw [List.getElem?_set_ne (Ne.symm hj)] at e ⊢
      exact r.slot j sv e
  own := fun x y q u w n2 h1 h2 h3 => by
    by_cases hx : x = i
    · subst hx
      have hl : x < fr.sl.length := by
        have := (List.getElem?_eq_some_iff.mp h1).1
        simpa using this
      rw [List.getElem?_set_self (by rw [← r.slen]; exact hl)] at h3
      cases h3
      rw [List.getElem?_set_ne n2] at h2 ⊢
      exact a y w h2
    · rw [List.getElem?_set_ne (Ne.symm hx)] at h1 h3
      by_cases hy : y = i
      · subst hy
        have hl : y < fr.sl.length := by
          have := (List.getElem?_eq_some_iff.mp h2).1
          simpa using this
        rw [List.getElem?_set_self (by rw [← r.slen]; exact hl)]
        intro z
        cases z
        exact a x u h1 h3
      · rw [List.getElem?_set_ne (Ne.symm hy)] at h2 ⊢
        exact r.own x y q u w n2 h1 h2 h3
/-- an object of a slot becomes shared -/
theorem Rep.share (r : Rep K B ps I σ H fr) {i : Nat} {d : D} {v : V} (e : fr.sl[i]? = some (some (.ow d))) (hv : σ[i]? = some (some v)) :
    ∃ J, Ext B I J ∧ Rep K B ps J σ H { fr with sl := fr.sl.set i (some (.sh d)) } ∧ R K J v d := by
  obtain ⟨v', e1, p, e2, b, c, n, rt⟩ := r.slot i _ e
  rw [hv] at e1
  cases e1
  subst e2
  obtain ⟨o, e3⟩ := rt.some
  have s : Same I (upd I p o) := same_new c
  have hl := (List.getElem?_eq_some_iff.mp e).1
  have r2 : R K (upd I p o) (.ref p) d := rt.r s (by rw [upd_same, e3])
  refine ⟨upd I p o, ⟨s, fun x u q => ?_⟩, ⟨fun x u q => ?_, r.keep, r.nd, r.plen, fun k d' q => ?_, fun q hq => ?_, by simpa using r.slen, fun j sv q => ?_, fun x y q u w n2 h1 h2 h3 => ?_⟩, r2⟩
  · by_cases hx : x = p
    · rw [hx]; exact .inr b
    · rw [upd_ne hx] at q; exact .inl q
  · by_cases hx : x = p
    · subst hx; rw [upd_same] at q; cases q; exact e3
    · rw [upd_ne hx] at q; exact r.same x u q
  · obtain ⟨p', e1, rt'⟩ := r.par k d' q
    exact ⟨p', e1, rt'.mono s rfl⟩
  · rw [upd_ne (show q ≠ p from fun z => n (by rw [← z]; exact hq))]; exact r.pout q hq
  · by_cases hj : j = i
    · subst hj
      rw [List.getElem?_set_self hl] at q
      cases q
      exact ⟨_, hv, r2⟩
    · rw [List.getElem?_set_ne (Ne.symm hj)] at q
      obtain ⟨v, e1, z⟩ := r.slot j sv q
      refine ⟨v, e1, ?_⟩
      cases sv with
      | sh d => exact R.mono s z
      | pa k => exact z
      | ex k => exact z
      | ow d' =>
        obtain ⟨p', e2, b', c', n', rt'⟩ := z
        subst e2
        have hne : p' ≠ p := fun z => r.own j i p' d' d hj q e e1 (by rw [z]; exact hv)
        exact ⟨p', rfl, b', by rw [upd_ne hne]; exact c', n', rt'.mono s rfl⟩
  · by_cases hx : x = i
    · subst hx; rw [List.getElem?_set_self hl] at h1; cases h1
    · by_cases hy : y = i
      · subst hy; rw [List.getElem?_set_self hl] at h2; cases h2
      · rw [List.getElem?_set_ne (Ne.symm hx)] at h1
        rw [List.getElem?_set_ne (Ne.symm hy)] at h2
        exact r.own x y q u w n2 h1 h2 h3
end
end Dl
namespace Dl
open PySem PySem.Spec PyProof.Rows L2 Vx
abbrev QR := Rv → Fr → Prop
/-- what is wanted of an error: its class, its field (none: non), the frame -/
abbrev ER := Addr → D → Fr → Prop
abbrev DE := Fr → QR → ER → Prop
abbrev DT := Fr → (Bool → Fr → Prop) → ER → Prop
abbrev DA := Fr → (List Rv → Fr → Prop) → ER → Prop
/-- an error without a field -/
def noFld : D := .cl 0
def ErrOk (K : PySem.W.Frag) (J H : Hp) : Option Addr → D → Prop
  | none, d => d = noFld
  | some a, d => ∃ n v, H a = some (.xd [(n, v)]) ∧ R K J v d ∧ ∀ c, d ≠ .cl c
def EK (K : PySem.W.Frag) (W : WX) (B : Hp) (ps : List Addr) (I : Hp) (σ : L2.St) (Er : ER) : Prop :=
  ∀ (C : Addr) (d : D) (dx : Option Addr) (H' J : Hp) (fr' : Fr), Ext B I J → Rep K B ps J σ H' fr' → ErrOk K J H' dx d → Er C d fr' → W (.ref C) dx σ H'
theorem EK.ext {K : PySem.W.Frag} {W : WX} {B I J : Hp} {ps : List Addr} {σ : L2.St} {Er : ER} (k : EK K W B ps I σ Er) (e : Ext B I J) : EK K W B ps J σ Er :=
  fun C d dx H' J' fr' e' => k C d dx H' J' fr' (e.trans e')
def emb (K : PySem.W.Frag) (W : WX) (te : DE) : TE := fun σ H Q => ∃ B ps I fr Q' Er, Rep K B ps I σ H fr ∧ te fr Q' Er ∧
  (∀ v H' J rv fr', Ext B I J → Rep K B ps J σ H' fr' → RvOk K B ps J σ H' fr' v rv → Q' rv fr' → Q v H') ∧ EK K W B ps I σ Er
def embT (K : PySem.W.Frag) (W : WX) (te : DT) : TT := fun σ H Q => ∃ B ps I fr Q' Er, Rep K B ps I σ H fr ∧ te fr Q' Er ∧
  (∀ b H' J fr', Ext B I J → Rep K B ps J σ H' fr' → Q' b fr' → Q b H') ∧ EK K W B ps I σ Er
/-- an operand that waits -/
def OpOk (K : PySem.W.Frag) (ps : List Addr) (I : Hp) (σ : L2.St) (v : V) : Rv → Prop
  | .sh d => R K I v d
  | .tm _ => False
  | .pl i => σ[i]? = some (some v)
  | .pa k => ∃ p, ps[k]? = some p ∧ v = .ref p
theorem OpOk.mono {K : PySem.W.Frag} {ps : List Addr} {I J : Hp} {σ : L2.St} {v : V} {rv : Rv} (s : Same I J) (h : OpOk K ps I σ v rv) : OpOk K ps J σ v rv := by
  cases rv with
  | sh d => exact R.mono s h
  | tm d => exact h
  | pl i => exact h
  | pa k => exact h
inductive OpsOk (K : PySem.W.Frag) (ps : List Addr) (I : Hp) (σ : L2.St) : List V → List Rv → Prop
  | nil : OpsOk K ps I σ [] []
  | cons {v : V} {vs : List V} {r : Rv} {rs : List Rv} : OpOk K ps I σ v r → OpsOk K ps I σ vs rs → OpsOk K ps I σ (v :: vs) (r :: rs)
theorem OpsOk.mono {K : PySem.W.Frag} {ps : List Addr} {I J : Hp} {σ : L2.St} (s : Same I J) : ∀ {vs : List V} {rs : List Rv}, OpsOk K ps I σ vs rs → OpsOk K ps J σ vs rs
  | _, _, .nil => .nil
  | _, _, .cons a b => .cons (a.mono s) (OpsOk.mono s b)
def embA (K : PySem.W.Frag) (W : WX) (te : DA) : TA := fun σ H Q => ∃ B ps I fr Q' Er, Rep K B ps I σ H fr ∧ te fr Q' Er ∧
  (∀ vs H' J rvs fr', Ext B I J → Rep K B ps J σ H' fr' → OpsOk K ps J σ vs rvs → Q' rvs fr' → Q vs H') ∧ EK K W B ps I σ Er
def Rv.frz : Rv → Rv
  | .tm d => .sh d
  | r => r
section
variable {K : PySem.W.Frag} {B I H : Hp} {ps : List Addr} {σ : L2.St} {fr : Fr} {v : V} {rv : Rv}
theorem frz_of (r : Rep K B ps I σ H fr) (h : RvOk K B ps I σ H fr v rv) : ∃ J, Ext B I J ∧ Rep K B ps J σ H fr ∧ OpOk K ps J σ v rv.frz := by
  cases rv with
  | sh d => exact ⟨I, Ext.refl _ _, r, h⟩
  | tm d =>
    obtain ⟨p, rfl, b, c, n, a, rt⟩ := h
    obtain ⟨J, e, r2, q⟩ := r.freeze b c n a rt
    exact ⟨J, e, r2, q⟩
  | pl i => exact ⟨I, Ext.refl _ _, r, h.1⟩
  | pa k => exact ⟨I, Ext.refl _ _, r, h⟩
/-- what an operand holds now -/
def wd (rv : Rv) (fr : Fr) (k : D → Prop) : Prop :=
  match rv with
  | .sh d => k d
  | .tm d => k d
  | .pl i => match fr.sl[i]? with
    | some (some (.ow d)) => k d
    | some (some (.sh d)) => k d
    | _ => False
  | .pa j => match fr.ps[j]? with
    | some d => k d
    | none => False
/-- what may be read: shared, or by its root -/
def RH (K : PySem.W.Frag) (I H : Hp) (v : V) (d : D) : Prop := R K I v d ∨ ∃ p, v = .ref p ∧ Root K I H p d
theorem RH.r {d : D} (s : Same I H) (h : RH K I H v d) : R K H v d := by
  rcases h with h | ⟨p, rfl, h⟩
  · exact R.mono s h
  · exact h.r s rfl
theorem RH.lst {z : Bool} {ds : List D} (s : Same I H) (h : RH K I H v (.lst z ds)) : ∃ p vs, v = .ref p ∧ H p = some (.lst vs) ∧ RA K I vs ds := by
  rcases h with h | ⟨p, rfl, vs, e, n, r⟩
  · cases h with
    | lst e n r => exact ⟨_, _, rfl, s _ _ e, r⟩
  · exact ⟨p, vs, rfl, e, r⟩
theorem RH.tup {ds : List D} (s : Same I H) (h : RH K I H v (.tup ds)) : ∃ p vs, v = .ref p ∧ SqT K H p vs ∧ RA K I vs ds := by
  rcases h with h | ⟨p, rfl, h⟩
  · cases h with
    | tup e r => exact ⟨_, _, rfl, SqT.of (s _ _ e), r⟩
  · exact h.elim
theorem RH.tupH {ds : List D} (s : Same I H) (h : RH K I H v (.tup ds)) : ∃ p vs, v = .ref p ∧ H p = some (.tup vs) ∧ RA K I vs ds := by
  rcases h with h | ⟨p, rfl, h⟩
  · cases h with
    | tup e r => exact ⟨_, _, rfl, s _ _ e, r⟩
  · exact h.elim
theorem RH.dic {ks ds : List D} (s : Same I H) (h : RH K I H v (.dic ks ds)) : ∃ p kvs, v = .ref p ∧ H p = some (.dK kvs) ∧ RA K I (kvs.map fun q => kV q.1) ks ∧ RA K I (kvs.map (·.2)) ds := by
  rcases h with h | ⟨p, rfl, kvs, e, a, b⟩
  · cases h with
    | dic e a b => exact ⟨_, _, rfl, s _ _ e, a, b⟩
  · exact ⟨p, kvs, rfl, e, a, b⟩
theorem RH.ins {C : Addr} {ns : List Str} {ds : List D} (s : Same I H) (h : RH K I H v (.ins C ns ds)) : ∃ p dx fs, v = .ref p ∧ H p = some (.ins C dx fs) ∧ fs.map (·.1) = ns.take ds.length ∧ RA K I (fs.map (·.2)) ds := by
  rcases h with h | ⟨p, rfl, dx, fs, e, a, b⟩
  · cases h with
    | ins e a b => exact ⟨_, _, _, rfl, s _ _ e, a, b⟩
  · exact ⟨p, dx, fs, rfl, e, a, b⟩
theorem RH.int {i : Int} (h : RH K I H v (.int i)) : v = .int i := by
  rcases h with h | ⟨p, rfl, h⟩
  · cases h; rfl
  · exact h.elim
theorem RH.bl {i : Bool} (h : RH K I H v (.bl i)) : v = .bl i := by
  rcases h with h | ⟨p, rfl, h⟩
  · cases h; rfl
  · exact h.elim
theorem RH.non (h : RH K I H v .non) : v = .non := by
  rcases h with h | ⟨p, rfl, h⟩
  · cases h; rfl
  · exact h.elim
theorem RH.str {a : List Nat} (h : RH K I H v (.str a)) : v = .str (S a) := by
  rcases h with h | ⟨p, rfl, h⟩
  · cases h; rfl
  · exact h.elim
theorem RH.scr {ns : List Int} (s : Same I H) (h : RH K I H v (.scr ns)) : ∃ p, v = .ref p ∧ SqL K H p (ns.map V.int) := by
  rcases h with h | ⟨p, rfl, h⟩
  · cases h with
    | scr a => exact ⟨_, rfl, s.seq a⟩
  · exact h.elim
theorem RH.ktp {ds : List D} (s : Same I H) (h : RH K I H v (.ktp ds)) : ∃ p vs, v = .ref p ∧ SqT K H p vs ∧ RA K I vs ds := by
  rcases h with h | ⟨p, rfl, h⟩
  · cases h with
    | ktp e r => exact ⟨_, _, rfl, sqT_mono s e, r⟩
  · exact h.elim
theorem OpOk.wd {k : D → Prop} (o : OpOk K ps I σ v rv) (r : Rep K B ps I σ H fr) (h : wd rv fr k) : ∃ d, k d ∧ RH K I H v d := by
  cases rv with
  | sh d => exact ⟨d, h, .inl o⟩
  | tm d => exact o.elim
  | pl i =>
    have h' : (match fr.sl[i]? with | some (some (.ow d)) => k d | some (some (.sh d)) => k d | _ => False) := h
    split at h'
    · rename_i d e
      obtain ⟨v', e1, p, e2, _, _, _, rt⟩ := r.slot i _ e
      rw [show σ[i]? = some (some v) from o] at e1
      cases e1; subst e2
      exact ⟨d, h', .inr ⟨p, rfl, rt⟩⟩
    · rename_i d e
      obtain ⟨v', e1, q⟩ := r.slot i _ e
      rw [show σ[i]? = some (some v) from o] at e1
      cases e1
      exact ⟨d, h', .inl q⟩
    · exact h'.elim
  | pa j =>
    obtain ⟨p, e, rfl⟩ := o
    have h' : (match fr.ps[j]? with | some d => k d | none => False) := h
    split at h'
    · rename_i d e2
      obtain ⟨q, e3, rt⟩ := r.par j _ e2
      rw [e] at e3; cases e3
      exact ⟨d, h', .inr ⟨p, rfl, rt⟩⟩
    · exact h'.elim
end
theorem PE.weak {X : Cx} {e : Expr} {t t' : TE} (h : PE X e t) (w : ∀ σ H Q, t' σ H Q → t σ H Q) : PE X e t' := ⟨fun pins s σ H Q I q => h.run pins s σ H Q I (w _ _ _ q)⟩
theorem PT.weak {X : Cx} {e : Expr} {t t' : TT} (h : PT X e t) (w : ∀ σ H Q, t' σ H Q → t σ H Q) : PT X e t' := ⟨fun pins s σ H Q I q => h.run pins s σ H Q I (w _ _ _ q)⟩
theorem PA.weak {X : Cx} {e : List Expr} {t t' : TA} (h : PA X e t) (w : ∀ σ H Q, t' σ H Q → t σ H Q) : PA X e t' := ⟨fun pos pins s σ H Q I q => h.run pos pins s σ H Q I (w _ _ _ q)⟩

/-! names and constants -/
def dVar (i : Nat) : DE := fun fr Q _ => match fr.sl[i]? with
  | some (some (.sh d)) => Q (.sh d) fr
  | some (some (.ow _)) => Q (.pl i) fr
  | some (some (.pa k)) => Q (.pa k) fr
  | _ => False
def dC (d : D) : DE := fun fr Q _ => Q (.sh d) fr
section
variable {X : Cx} {W : WX}
theorem fe_var {i : Nat} {x : Str} {pos : Pos} (h : PE X (.Name x pos) (tVar i)) : PE X (.Name x pos) (emb X.K W (dVar i)) := PE.weak h fun σ H Q ⟨B, ps, I, fr, Q', Er, r, q, kq, ke⟩ => by
  have q' : (match fr.sl[i]? with | some (some (.sh d)) => Q' (.sh d) fr | some (some (.ow _)) => Q' (.pl i) fr | some (some (.pa k)) => Q' (.pa k) fr | _ => False) := q
  split at q'
  · rename_i d e
    obtain ⟨v, e1, z⟩ := r.slot i _ e
    exact ⟨v, e1, kq v H I (.sh d) fr (Ext.refl _ _) r z q'⟩
  · rename_i d e
    obtain ⟨v, e1, z⟩ := r.slot i _ e
    exact ⟨v, e1, kq v H I (.pl i) fr (Ext.refl _ _) r ⟨e1, d, e⟩ q'⟩
  · rename_i k e
    obtain ⟨v, e1, z⟩ := r.slot i _ e
    exact ⟨v, e1, kq v H I (.pa k) fr (Ext.refl _ _) r z q'⟩
  · exact q'.elim
theorem fe_c {e : Expr} {v : V} {d : D} (h : PE X e (tC v)) (hd : ∀ I, R X.K I v d) : PE X e (emb X.K W (dC d)) := PE.weak h fun σ H Q ⟨B, ps, I, fr, Q', Er, r, q, kq, ke⟩ =>
  kq v H I (.sh d) fr (Ext.refl _ _) r (hd I) q
theorem fe_int {i : Int} {j : Nat} {pos : Pos} : PE X (.Constant (.int i) j pos) (emb X.K W (dC (.int i))) := fe_c pe_int fun _ => .int i
theorem fe_bl {b : Bool} {j : Nat} {pos : Pos} : PE X (.Constant (.bool b) j pos) (emb X.K W (dC (.bl b))) := fe_c pe_bl fun _ => .bl b
theorem fe_non {j : Nat} {pos : Pos} : PE X (.Constant .none j pos) (emb X.K W (dC .non)) := fe_c pe_non fun _ => .non
theorem fe_str {a : List Nat} {x : Str} {j : Nat} {pos : Pos} (h : x = S a := by rfl) : PE X (.Constant (.str x) j pos) (emb X.K W (dC (.str a))) := fe_c pe_str fun _ => by rw [h]; exact .str a
theorem fe_glob {x : Str} {v : V} {d : D} {u : Value} {pos : Pos} (hg : Gl X x) (hm : X.mg x = some u) (r : RelV v u) (hd : ∀ I, R X.K I v d) (hdb : (x == ("__debug__" : Str)) = false := by decide) : PE X (.Name x pos) (emb X.K W (dC d)) := fe_c (pe_glob hg hm r hdb) hd
end

/-! two operands -/
def dTwo (f : D → D → (Rv → Prop) → Prop) (ta tb : DE) : DE := fun fr Q Er => ta fr (fun a fr1 => tb fr1 (fun b fr2 => wd a.frz fr2 fun x => wd b.frz fr2 fun y => f x y fun rv => Q rv fr2) Er) Er
/-- the rule r answers f -/
def OpD (K : PySem.W.Frag) (f : D → D → (Rv → Prop) → Prop) (r : R2) : Prop := ∀ (B : Hp) (ps : List Addr) (I : Hp) (σ : L2.St) (H : Hp) (fr : Fr) (x y : V) (dx dy : D) (Q : VK) (k : Rv → Prop),
  Rep K B ps I σ H fr → RH K I H x dx → RH K I H y dy → f dx dy k → (∀ v H' J rv, Ext B I J → Rep K B ps J σ H' fr → RvOk K B ps J σ H' fr v rv → k rv → Q v H') → r x y H Q
theorem two_emb {K : PySem.W.Frag} {W : WX} {f : D → D → (Rv → Prop) → Prop} {r : R2} {ta tb : DE} (hf : OpD K f r) {σ : L2.St} {H : Hp} {Q : VK} (h : emb K W (dTwo f ta tb) σ H Q) : tOp r (emb K W ta) (emb K W tb) σ H Q := by
  obtain ⟨B, ps, I, fr, Q', Er, r0, q, kq, ke⟩ := h
  refine ⟨B, ps, I, fr, _, Er, r0, q, fun v H1 J1 a fr1 e1 r1 o1 q1 => ?_, ke⟩
  obtain ⟨J2, e2, r2, o2⟩ := frz_of r1 o1
  refine ⟨B, ps, J2, fr1, _, Er, r2, q1, fun u H2 J3 b fr2 e3 r3 o3 q3 => ?_, ke.ext (e1.trans e2)⟩
  obtain ⟨J4, e4, r4, o4⟩ := frz_of r3 o3
  obtain ⟨x, q5, rx⟩ := (o2.mono (e3.1.trans e4.1)).wd r4 q3
  obtain ⟨y, q6, ry⟩ := o4.wd r4 q5
  exact hf B ps J4 σ H2 fr2 v u x y Q _ r4 rx ry q6 fun w H' J rv e5 r5 o5 k5 => kq w H' J rv fr2 (e1.trans (e2.trans (e3.trans (e4.trans e5)))) r5 o5 k5
section
variable {X : Cx} {W : WX} {a b c : Expr} {ta tb tc : DE} {pos : Pos} {f : D → D → (Rv → Prop) → Prop} {r : R2}
theorem fe_op {op : Operator} (ho : OpR X (binaryOp op) r) (hf : OpD X.K f r) (ha : PE X a (emb X.K W ta)) (hb : PE X b (emb X.K W tb)) : PE X (.BinOp a op b pos) (emb X.K W (dTwo f ta tb)) :=
  PE.weak (pe_op ho ha hb) fun _ _ _ h => two_emb hf h
theorem fe_cmp {op : CmpOp} (ho : OpR X (compareOp op) r) (hf : OpD X.K f r) (ha : PE X a (emb X.K W ta)) (hb : PE X b (emb X.K W tb)) (hm : behindInMarks op b = false) : PE X (.Compare a [op] [b] pos) (emb X.K W (dTwo f ta tb)) :=
  PE.weak (pe_cmpR ho ha hb hm) fun _ _ _ h => two_emb hf h
end
theorem OpR.or {X : Cx} {g : Value → Value → Sem Value} {r r' : R2} (h : OpR X g r) (h' : OpR X g r') : OpR X g (fun x y H Q => r x y H Q ∨ r' x y H Q) := by
  intro pins s σ H x y v u Q I rx ry q
  rcases q with q | q
  · exact h pins s σ H x y v u Q I rx ry q
  · exact h' pins s σ H x y v u Q I rx ry q
/-! one operand -/
def dOne (f : D → (Rv → Prop) → Prop) (ta : DE) : DE := fun fr Q Er => ta fr (fun a fr1 => wd a.frz fr1 fun x => f x fun rv => Q rv fr1) Er
def UnD (K : PySem.W.Frag) (f : D → (Rv → Prop) → Prop) (r : V → Hp → VK → Prop) : Prop := ∀ (B : Hp) (ps : List Addr) (I : Hp) (σ : L2.St) (H : Hp) (fr : Fr) (x : V) (dx : D) (Q : VK) (k : Rv → Prop),
  Rep K B ps I σ H fr → RH K I H x dx → f dx k → (∀ v H' J rv, Ext B I J → Rep K B ps J σ H' fr → RvOk K B ps J σ H' fr v rv → k rv → Q v H') → r x H Q
theorem one_emb {K : PySem.W.Frag} {W : WX} {f : D → (Rv → Prop) → Prop} {r : V → Hp → VK → Prop} {ta : DE} (hf : UnD K f r) {σ : L2.St} {H : Hp} {Q : VK} (h : emb K W (dOne f ta) σ H Q) : emb K W ta σ H fun x H1 => r x H1 Q := by
  obtain ⟨B, ps, I, fr, Q', Er, r0, q, kq, ke⟩ := h
  refine ⟨B, ps, I, fr, _, Er, r0, q, fun v H1 J1 a fr1 e1 r1 o1 q1 => ?_, ke⟩
  obtain ⟨J2, e2, r2, o2⟩ := frz_of r1 o1
  obtain ⟨x, q5, rx⟩ := o2.wd r2 q1
  exact hf B ps J2 σ H1 fr1 v x Q _ r2 rx q5 fun w H' J rv e5 r5 o5 k5 => kq w H' J rv fr1 (e1.trans (e2.trans e5)) r5 o5 k5

/-! operators by values -/
def addD : D → D → (Rv → Prop) → Prop
  | .int i, .int j, k => k (.sh (.int (i + j)))
  | .str a, .str b, k => a.length + b.length ≤ 1000000 ∧ k (.sh (.str (a ++ b)))
  | .lst _ a, .lst _ b, k => a.length + b.length ≤ 1000000 ∧ k (.tm (.lst true (a ++ b)))
  | _, _, _ => False
def subD : D → D → (Rv → Prop) → Prop
  | .int i, .int j, k => k (.sh (.int (i - j)))
  | _, _, _ => False
def mulD : D → D → (Rv → Prop) → Prop
  | .int i, .int j, k => CMulW i j ∧ k (.sh (.int (i * j)))
  | .str a, .int i, k => (i < 2 ^ 40 ∧ -(2 ^ 40) < i ∧ i.toNat * a.length ≤ 1000000) ∧ k (.sh (.str (repN i.toNat a)))
  | .lst _ a, .int i, k => (i < 2 ^ 40 ∧ -(2 ^ 40) < i ∧ a.length * i.toNat ≤ 1000000) ∧ k (.tm (.lst true (List.replicate i.toNat a).flatten))
  | _, _, _ => False
def modD : D → D → (Rv → Prop) → Prop
  | .int i, .int j, k => 0 < j ∧ k (.sh (.int (i % j)))
  | _, _, _ => False
def fdivD : D → D → (Rv → Prop) → Prop
  | .int i, .int j, k => CDivW i j ∧ k (.sh (.int (i / j)))
  | _, _, _ => False
def powD : D → D → (Rv → Prop) → Prop
  | .int i, .int j, k => CPow i j ∧ k (.sh (.int (i ^ j.toNat)))
  | _, _, _ => False
theorem RA.rep {K : PySem.W.Frag} {I : Hp} {vs : List V} {ds : List D} (h : RA K I vs ds) : ∀ n, RA K I (List.replicate n vs).flatten (List.replicate n ds).flatten
  | 0 => .nil
  | n + 1 => by rw [List.replicate_succ, List.replicate_succ, List.flatten_cons, List.flatten_cons]; exact RA.append h (RA.rep h n)
theorem mil {n : Nat} (h : n ≤ 1000000) : n ≤ sizeLine := by unfold sizeLine; omega
/-- a new list, as a rule gives it -/
theorem new_lst {K : PySem.W.Frag} {B I H : Hp} {ps : List Addr} {σ : L2.St} {fr : Fr} {Q : VK} {k : Rv → Prop} {vs : List V} {ds : List D} (r : Rep K B ps I σ H fr)
    (kq : ∀ v H' J rv, Ext B I J → Rep K B ps J σ H' fr → RvOk K B ps J σ H' fr v rv → k rv → Q v H') (rb : RA K I vs ds) (hk : k (.tm (.lst false ds))) : ∀ p, H p = none → Q (.ref p) (upd H p (.lst vs)) := fun p hp => by
  obtain ⟨b, c, n, a⟩ := r.fresh hp
  exact kq (.ref p) _ I (.tm (.lst false ds)) (Ext.refl _ _) (r.new hp) ⟨p, rfl, b, c, n, a, vs, upd_same, (fun z => nomatch z), rb⟩ hk
theorem new_lst1 {K : PySem.W.Frag} {B I H : Hp} {ps : List Addr} {σ : L2.St} {fr : Fr} {Q : VK} {k : Rv → Prop} {vs : List V} {ds : List D} (r : Rep K B ps I σ H fr)
    (kq : ∀ v H' J rv, Ext B I J → Rep K B ps J σ H' fr → RvOk K B ps J σ H' fr v rv → k rv → Q v H') (rb : RA K I vs ds) (hk : k (.tm (.lst true ds))) : ∀ p, H p = none → p ≠ sysModules → Q (.ref p) (upd H p (.lst vs)) := fun p hp hs => by
  obtain ⟨b, c, n, a⟩ := r.fresh hp
  exact kq (.ref p) _ I (.tm (.lst true ds)) (Ext.refl _ _) (r.new hp) ⟨p, rfl, b, c, n, a, vs, upd_same, (fun _ => hs), rb⟩ hk
end Dl
namespace Dl
open PySem PySem.Spec PyProof.Rows L2 Vx
/-! the operators' rules -/
abbrev rAdd3 : R2 := fun x y H Q => rI0 (fun i j => .int (i + j)) x y H Q ∨ (rAddT x y H Q ∨ rCat1 x y H Q)
theorem op_add3 {X : Cx} : OpR X (binaryOp .Add) rAdd3 := OpR.or op_add (OpR.or op_add_tx op_cat1)
theorem opd_add {K : PySem.W.Frag} : OpD K addD rAdd3 := by
  intro B ps I σ H fr x y dx dy Q k r rx ry h kq
  cases dx <;> cases dy <;> first | exact h.elim | skip
  · exact .inl ⟨_, _, rx.int, ry.int, kq _ _ I (.sh (.int _)) (Ext.refl _ _) r (R.int _) h⟩
  · obtain ⟨h1, h2⟩ := h
    exact .inr (.inl ⟨_, _, rx.str, ry.str, h1, kq _ _ I (.sh (.str _)) (Ext.refl _ _) r (R.str _) h2⟩)
  · obtain ⟨h1, h2⟩ := h
    obtain ⟨p, vs, rfl, e1, ra⟩ := rx.lst r.same
    obtain ⟨q, us, rfl, e2, rb⟩ := ry.lst r.same
    exact .inr (.inr ⟨p, q, vs, us, rfl, rfl, e1, e2, mil (by rw [ra.length, rb.length]; exact h1), new_lst1 r kq (ra.append rb) h2⟩)
theorem opd_sub {K : PySem.W.Frag} : OpD K subD (rI0 fun i j => .int (i - j)) := by
  intro B ps I σ H fr x y dx dy Q k r rx ry h kq
  cases dx <;> cases dy <;> first | exact h.elim | skip
  exact ⟨_, _, rx.int, ry.int, kq _ _ I (.sh (.int _)) (Ext.refl _ _) r (R.int _) h⟩
abbrev rMul3 : R2 := fun x y H Q => rI CMulW (fun i j => .int (i * j)) x y H Q ∨ ((∃ (a : List Nat) (i : Int), x = .str (S a) ∧ y = .int i ∧ i < 2 ^ 40 ∧ -(2 ^ 40) < i ∧ i.toNat * a.length ≤ 1000000 ∧ Q (.str (S (repN i.toNat a))) H) ∨ rRep1 x y H Q)
theorem op_mul3 {X : Cx} : OpR X (binaryOp .Mult) rMul3 := OpR.or op_mulW (OpR.or op_rep_str op_rep1)
theorem opd_mul {K : PySem.W.Frag} : OpD K mulD rMul3 := by
  intro B ps I σ H fr x y dx dy Q k r rx ry h kq
  cases dx <;> cases dy <;> first | exact h.elim | skip
  · exact .inl ⟨_, _, rx.int, ry.int, h.1, kq _ _ I (.sh (.int _)) (Ext.refl _ _) r (R.int _) h.2⟩
  · obtain ⟨⟨h1, h2, h3⟩, h4⟩ := h
    exact .inr (.inl ⟨_, _, rx.str, ry.int, h1, h2, h3, kq _ _ I (.sh (.str _)) (Ext.refl _ _) r (R.str _) h4⟩)
  · obtain ⟨⟨h1, h2, h3⟩, h4⟩ := h
    obtain ⟨p, vs, rfl, e1, ra⟩ := rx.lst r.same
    exact .inr (.inr ⟨p, _, vs, rfl, ry.int, e1, by omega, by omega, mil (by rw [ra.length]; exact h3), new_lst1 r kq (ra.rep _) h4⟩)
theorem opd_int {K : PySem.W.Frag} {C : Int → Int → Prop} {g : Int → Int → Int} {f : D → D → (Rv → Prop) → Prop} (hf : ∀ x y k, f x y k → ∃ i j, x = .int i ∧ y = .int j ∧ C i j ∧ k (.sh (.int (g i j)))) : OpD K f (rI C fun i j => .int (g i j)) := by
  intro B ps I σ H fr x y dx dy Q k r rx ry h kq
  obtain ⟨i, j, rfl, rfl, c, q⟩ := hf _ _ _ h
  exact ⟨_, _, rx.int, ry.int, c, kq _ _ I (.sh (.int _)) (Ext.refl _ _) r (R.int _) q⟩
theorem opd_mod {K : PySem.W.Frag} : OpD K modD (rI (fun _ j => 0 < j) fun i j => .int (i % j)) := opd_int fun x y k h => by
  cases x <;> cases y <;> first | exact h.elim | exact ⟨_, _, rfl, rfl, h.1, h.2⟩
theorem opd_fdiv {K : PySem.W.Frag} : OpD K fdivD (rI CDivW fun i j => .int (i / j)) := opd_int fun x y k h => by
  cases x <;> cases y <;> first | exact h.elim | exact ⟨_, _, rfl, rfl, h.1, h.2⟩
theorem opd_pow {K : PySem.W.Frag} : OpD K powD (rI CPow fun i j => .int (i ^ j.toNat)) := opd_int fun x y k h => by
  cases x <;> cases y <;> first | exact h.elim | exact ⟨_, _, rfl, rfl, h.1, h.2⟩
/-! comparisons -/
def ltD (g : Int → Int → Bool) : D → D → (Rv → Prop) → Prop
  | .int i, .int j, k => k (.sh (.bl (g i j)))
  | _, _, _ => False
theorem opd_lt {K : PySem.W.Frag} {g : Int → Int → Bool} : OpD K (ltD g) (rI0 fun i j => .bl (g i j)) := by
  intro B ps I σ H fr x y dx dy Q k r rx ry h kq
  cases dx <;> cases dy <;> first | exact h.elim | skip
  exact ⟨_, _, rx.int, ry.int, kq _ _ I (.sh (.bl _)) (Ext.refl _ _) r (R.bl _) h⟩
mutual
/-- as the library's data -/
def toP : D → PyData
  | .non => .none
  | .bl b => .bool b
  | .int i => .int i
  | .str a => .str (S a)
  | .lst _ xs => .list (toPs xs)
  | .tup xs => .tuple (toPs xs)
  | .dic ks vs => .dict ((toPs ks).zip (toPs vs))
  | .ins _ _ _ => .none
  | .scr ns => .list (ns.map PyData.int)
  | .ktp xs => .tuple (toPs xs)
  | .cl _ => .none
def toPs : List D → List PyData
  | [] => []
  | x :: xs => toP x :: toPs xs
end
mutual
/-- no object of an own class within; dict: may dicts stand in it -/
def plain (dict : Bool) : D → Bool
  | .lst z xs => plains dict xs && (z || !dict)
  | .tup xs => plains dict xs
  | .dic ks vs => dict && plains dict ks && plains dict vs && decide (ks.length = vs.length)
  | .ins _ _ _ => false
  | .scr _ => false
  | .ktp xs => plains dict xs
  | .cl _ => false
  | _ => true
def plains (dict : Bool) : List D → Bool
  | [] => true
  | x :: xs => plain dict x && plains dict xs
end
mutual
theorem R.dp {K : PySem.W.Frag} {H : Hp} : ∀ {d : D} {v : V}, plain false d = true → R K H v d → Dp K H v (toP d)
  | .non, _, _, h => by cases h; simp only [toP]; exact .non
  | .bl _, _, _, h => by cases h; simp only [toP]; exact .bl _
  | .int _, _, _, h => by cases h; simp only [toP]; exact .int _
  | .str _, _, _, h => by cases h; simp only [toP]; exact .str _
  | .lst _ ds, _, e, h => by
    cases h with
    | lst a n r => simp only [toP]; exact .lst (SqL.of a) (RA.dp (by simp only [plain, Bool.and_eq_true] at e; exact e.1) r)
  | .tup ds, _, e, h => by
    cases h with
    | tup a r => simp only [toP]; exact .tup (SqT.of a) (RA.dp (by simpa only [plain] using e) r)
  | .dic _ _, _, e, h => by simp [plain] at e
  | .ins _ _ _, _, e, h => by simp [plain] at e
  | .scr _, _, e, h => by simp [plain] at e
  | .ktp ds, _, e, h => by
    cases h with
    | ktp a r => simp only [toP]; exact .tup a (RA.dp (by simpa only [plain] using e) r)
  | .cl _, _, e, h => by simp [plain] at e
theorem RA.dp {K : PySem.W.Frag} {H : Hp} : ∀ {ds : List D} {vs : List V}, plains false ds = true → RA K H vs ds → DpAll K H vs (toPs ds)
  | [], _, _, h => by cases h; simp only [toPs]; exact .nil
  | d :: ds, _, e, h => by
    simp only [plains, Bool.and_eq_true] at e
    cases h with
    | cons a r => simp only [toPs]; exact .cons (R.dp e.1 a) (RA.dp e.2 r)
end
/-- == of data; flat values at once -/
def eqB : D → D → Bool
  | .int i, .int j => decide (i = j)
  | .str a, .str b => decide (a = b)
  | .bl a, .bl b => decide (a = b)
  | .non, .non => true
  | .non, .int _ => false
  | .non, .str _ => false
  | .non, .lst _ _ => false
  | .non, .tup _ => false
  | .int _, .non => false
  | .str _, .non => false
  | .lst _ _, .non => false
  | .tup _, .non => false
  | x, y => PyData.eqv (toP x) (toP y)
theorem S_inj {a b : List Nat} (h : S a = S b) : a = b := by
  have : (S a).cps.toList = (S b).cps.toList := by rw [h]
  simpa [S, SX.S] using this
theorem eqB_eq (x y : D) : eqB x y = PyData.eqv (toP x) (toP y) := by
  cases x <;> cases y <;> simp only [eqB, toP, PyData.eqv] <;> first
    | rfl
    | (rw [Bool.eq_iff_iff]; simp; done)
    | (rw [Bool.eq_iff_iff]; simp only [decide_eq_true_eq, beq_iff_eq]; exact ⟨fun h => by rw [h], S_inj⟩)
def shp (d : D) : Bool := plain false d && SeqAt.shaped (toP d)
/-- may be compared -/
def okE : D → D → Bool
  | .str _, .str _ => true
  | x, y => shp x && shp y
def eqD (x y : D) (k : Rv → Prop) : Prop := okE x y = true ∧ k (.sh (.bl (eqB x y)))
def neD (x y : D) (k : Rv → Prop) : Prop := okE x y = true ∧ k (.sh (.bl (!eqB x y)))
theorem okE_of {x y : D} (h : okE x y = true) : (∃ a b, x = .str a ∧ y = .str b) ∨ (shp x = true ∧ shp y = true) := by
  unfold okE at h
  split at h
  · exact .inl ⟨_, _, rfl, rfl⟩
  · rw [Bool.and_eq_true] at h; exact .inr h
theorem okE_shp {x y : D} (h : shp x = true) (h' : shp y = true) : okE x y = true := by
  unfold okE
  split
  · rfl
  · rw [h, h']; rfl
abbrev rEq2 (K : PySem.W.Frag) : R2 := fun x y H Q => rEq x y H Q ∨ rEqD K x y H Q
abbrev rNe2 (K : PySem.W.Frag) : R2 := fun x y H Q => rNe x y H Q ∨ rNeD K x y H Q
theorem op_eq2 {X : Cx} (hu : X.A.units + 64 < cLine) : OpR X (compareOp .Eq) (rEq2 X.K) := OpR.or op_eq (op_eqD hu)
theorem op_ne2 {X : Cx} (hu : X.A.units + 64 < cLine) : OpR X (compareOp .NotEq) (rNe2 X.K) := OpR.or op_ne (op_neD hu)
theorem str_dec (a b : List Nat) : decide (V.str (S a) = V.str (S b)) = eqB (.str a) (.str b) := by
  show _ = decide (a = b)
  rw [Bool.eq_iff_iff]
  simp only [decide_eq_true_eq]
  exact ⟨fun h => S_inj (V.str.inj h), fun h => by rw [h]⟩
theorem opd_eq {K : PySem.W.Frag} : OpD K eqD (rEq2 K) := by
  intro B ps I σ H fr x y dx dy Q k r rx ry h kq
  obtain ⟨h0, q⟩ := h
  rcases okE_of h0 with ⟨a, b, rfl, rfl⟩ | ⟨h1, h2⟩
  · rw [rx.str, ry.str]
    refine .inl ⟨rfl, ?_⟩
    rw [str_dec]
    exact kq _ _ I (.sh (.bl _)) (Ext.refl _ _) r (R.bl _) q
  · unfold shp at h1 h2
    simp only [Bool.and_eq_true] at h1 h2
    refine .inr ⟨_, _, (rx.r r.same).dp h1.1, (ry.r r.same).dp h2.1, h1.2, h2.2, ?_⟩
    rw [← eqB_eq]
    exact kq _ _ I (.sh (.bl _)) (Ext.refl _ _) r (R.bl _) q
theorem opd_ne {K : PySem.W.Frag} : OpD K neD (rNe2 K) := by
  intro B ps I σ H fr x y dx dy Q k r rx ry h kq
  obtain ⟨h0, q⟩ := h
  rcases okE_of h0 with ⟨a, b, rfl, rfl⟩ | ⟨h1, h2⟩
  · rw [rx.str, ry.str]
    refine .inl ⟨rfl, ?_⟩
    rw [str_dec]
    exact kq _ _ I (.sh (.bl _)) (Ext.refl _ _) r (R.bl _) q
  · unfold shp at h1 h2
    simp only [Bool.and_eq_true] at h1 h2
    refine .inr ⟨_, _, (rx.r r.same).dp h1.1, (ry.r r.same).dp h2.1, h1.2, h2.2, ?_⟩
    rw [← eqB_eq]
    exact kq _ _ I (.sh (.bl _)) (Ext.refl _ _) r (R.bl _) q
/-- x is None -/
def isN : D → Bool
  | .non => true
  | _ => false
def isD (neg : Bool) : D → D → (Rv → Prop) → Prop
  | x, .non, k => k (.sh (.bl (if neg then !isN x else isN x)))
  | _, _, _ => False
theorem isN_of {K : PySem.W.Frag} {I H : Hp} {v : V} {d : D} (h : RH K I H v d) : decide (v = V.non) = isN d := by
  cases d with
  | non => rw [h.non]; rfl
  | int i => rw [h.int]; rfl
  | bl b => rw [h.bl]; rfl
  | str a => rw [h.str]; rfl
  | _ =>
    rcases h with h | ⟨p, rfl, h⟩
    · cases h <;> rfl
    · rfl
theorem opd_is {K : PySem.W.Frag} : OpD K (isD false) (fun x y H Q => y = .non ∧ Q (.bl (decide (x = .non))) H) := by
  intro B ps I σ H fr x y dx dy Q k r rx ry h kq
  cases dy <;> first | exact h.elim | skip
  refine ⟨ry.non, ?_⟩
  rw [isN_of rx]
  exact kq _ _ I (.sh (.bl _)) (Ext.refl _ _) r (R.bl _) h
theorem opd_isnot {K : PySem.W.Frag} : OpD K (isD true) (fun x y H Q => y = .non ∧ Q (.bl (!decide (x = .non))) H) := by
  intro B ps I σ H fr x y dx dy Q k r rx ry h kq
  cases dy <;> first | exact h.elim | skip
  refine ⟨ry.non, ?_⟩
  rw [isN_of rx]
  exact kq _ _ I (.sh (.bl _)) (Ext.refl _ _) r (R.bl _) h
end Dl
namespace Dl
open PySem PySem.Spec PyProof.Rows L2 Vx
/-! tests -/
structure Br (c : Bool) (P Q : Prop) : Prop where
  tt : c = true → P
  ff : c = false → Q
theorem Br.of {c : Bool} {P Q : Prop} (h1 : c = true → P) (h2 : c = false → Q) : Br c P Q := ⟨h1, h2⟩
theorem Br.t {c : Bool} {P Q : Prop} (h : c = true) (p : P) : Br c P Q := ⟨fun _ => p, fun e => nomatch h.symm.trans e⟩
theorem Br.f {c : Bool} {P Q : Prop} (h : c = false) (q : Q) : Br c P Q := ⟨fun e => (nomatch h.symm.trans e), fun _ => q⟩
theorem Br.t1 {P Q : Prop} (h : Br true P Q) : P := h.tt rfl
theorem Br.f1 {P Q : Prop} (h : Br false P Q) : Q := h.ff rfl
/-- stands still -/
structure Rg (P : Prop) : Prop where
  ok : P
structure Sg (P : Prop) : Prop where
  ok : P
theorem Br.d {p : Prop} [Decidable p] {P Q : Prop} (h1 : p → P) (h2 : ¬ p → Q) : Br (decide p) P Q := Br.of (fun h => h1 (of_decide_eq_true h)) fun h => h2 (of_decide_eq_false h)
theorem Br.nd {p : Prop} [Decidable p] {P Q : Prop} (h1 : ¬ p → P) (h2 : p → Q) : Br (!decide p) P Q := Br.of (fun h => h1 (by simpa using h)) fun h => h2 (by simpa using h)
def tstB (rv : Rv) (k : Bool → Prop) : Prop := match rv with | .sh (.bl b) => k b | _ => False
def dTst (te : DE) : DT := fun fr Q Er => te fr (fun rv fr' => tstB rv fun b => Q b fr') Er
def trD (d : D) (k : Bool → Prop) : Prop :=
  match d with
  | .non => k false
  | .bl b => k b
  | .int i => k (i != 0)
  | .str a => a.length ≤ 1000000 ∧ k (!a.isEmpty)
  | .lst _ xs => k (!xs.isEmpty)
  | .tup xs => k (!xs.isEmpty)
  | .dic ks _ => k (!ks.isEmpty)
  | .scr ns => k (!ns.isEmpty)
  | .ktp xs => k (!xs.isEmpty)
  | .ins _ _ _ => False
  | .cl _ => False
def dTru (te : DE) : DT := fun fr Q Er => te fr (fun a fr1 => wd a.frz fr1 fun x => trD x fun b => Q b fr1) Er
def dNotT (t : DT) : DT := fun fr Q Er => t fr (fun b fr' => Q (!b) fr') Er
def dAndT (t u : DT) : DT := fun fr Q Er => t fr (fun b fr' => Br b (u fr' Q Er) (Q false fr')) Er
def dOrT (t u : DT) : DT := fun fr Q Er => t fr (fun b fr' => Br b (Q true fr') (u fr' Q Er)) Er
section
variable {X : Cx} {W : WX} {a b c : Expr} {ta tb tc : DE} {pos : Pos} {t u : DT}
theorem tst_emb {K : PySem.W.Frag} {W : WX} {te : DE} {σ : L2.St} {H : Hp} {Q : Bool → Hp → Prop} (h : embT K W (dTst te) σ H Q) : emb K W te σ H fun x H' => ∃ k, x = .bl k ∧ Q k H' := by
  obtain ⟨B, ps, I, fr, Q', Er, r, q, kq, ke⟩ := h
  refine ⟨B, ps, I, fr, _, Er, r, q, fun v H' J rv fr' e r' o q' => ?_, ke⟩
  cases rv with
  | sh d =>
    cases d <;> first | exact (show False from q').elim | skip
    cases (show R K J v (.bl _) from o)
    exact ⟨_, rfl, kq _ _ _ _ e r' q'⟩
  | _ => exact (show False from q').elim
theorem ft_cmp {f : D → D → (Rv → Prop) → Prop} {r : R2} {op : CmpOp} (ho : OpR X (compareOp op) r) (hf : OpD X.K f r) (ha : PE X a (emb X.K W ta)) (hb : PE X b (emb X.K W tb)) (hm : behindInMarks op b = false) : PT X (.Compare a [op] [b] pos) (embT X.K W (dTst (dTwo f ta tb))) :=
  PT.weak (pt_cmpR ho ha hb hm) fun _ _ _ h => two_emb hf (tst_emb h)
theorem tru_of {K : PySem.W.Frag} {I H : Hp} {v : V} {d : D} {k : Bool → Prop} (s : Same I H) (h : RH K I H v d) (q : trD d k) : ∃ b, TruV K v H b ∧ k b := by
  cases d with
  | non => rw [h.non]; exact ⟨_, rfl, q⟩
  | bl b => rw [h.bl]; exact ⟨_, rfl, q⟩
  | int i => rw [h.int]; exact ⟨_, rfl, q⟩
  | str a =>
    rw [h.str]
    refine ⟨_, ⟨?_, ?_⟩, q.2⟩
    · show (S a).length ≤ sizeLine; rw [SX.S_len]; exact mil q.1
    · show _ = (((S a).length : Int) != 0); rw [SX.S_len]; cases a <;> simp; omega
  | lst z xs =>
    obtain ⟨p, vs, rfl, e, ra⟩ := h.lst s
    exact ⟨_, .inl ⟨vs, SqL.of e, rfl⟩, by cases ra <;> exact q⟩
  | tup xs =>
    obtain ⟨p, vs, rfl, e, ra⟩ := h.tup s
    exact ⟨_, .inr (.inl ⟨vs, e, rfl⟩), by cases ra <;> exact q⟩
  | dic ks ds =>
    obtain ⟨p, kvs, rfl, e, ra, _⟩ := h.dic s
    refine ⟨_, .inr (.inr ⟨kvs, e, rfl⟩), ?_⟩
    cases kvs with
    | nil => cases ra; exact q
    | cons a b => cases ra; exact q
  | scr ns =>
    obtain ⟨p, rfl, e⟩ := h.scr s
    refine ⟨_, .inl ⟨_, e, rfl⟩, ?_⟩
    cases ns <;> exact q
  | ktp xs =>
    obtain ⟨p, vs, rfl, e, ra⟩ := h.ktp s
    exact ⟨_, .inr (.inl ⟨vs, e, rfl⟩), by cases ra <;> exact q⟩
  | ins C ns ds => exact q.elim
  | cl C => exact q.elim
theorem ft_tru (ha : PE X a (emb X.K W ta)) (he : ∀ whole, isTrue a X.env whole = (do let v ← whole; standAt a.pos; holding [v] (truthy v))) : PT X a (embT X.K W (dTru ta)) :=
  PT.weak (pt_truth ha he) fun σ H Q h => by
    obtain ⟨B, ps, I, fr, Q', Er, r, q, kq, ke⟩ := h
    refine ⟨B, ps, I, fr, _, Er, r, q, fun v H' J rv fr' e r' o q' => ?_, ke⟩
    obtain ⟨J2, e2, r2, o2⟩ := frz_of r' o
    obtain ⟨x, q5, rx⟩ := o2.wd r2 q'
    obtain ⟨b, tv, q6⟩ := tru_of r2.same rx q5
    exact ⟨b, tv, kq _ _ _ _ (e.trans e2) r2 q6⟩
theorem ft_not (h : PT X a (embT X.K W t)) : PT X (.UnaryOp .Not a pos) (embT X.K W (dNotT t)) := PT.weak (pt_not h) fun σ H Q h => by
  obtain ⟨B, ps, I, fr, Q', Er, r, q, kq, ke⟩ := h
  exact ⟨B, ps, I, fr, _, Er, r, q, fun b H' J fr' e r' q' => kq _ _ _ _ e r' q', ke⟩
structure FW (X : Cx) (W : WX) (e : Expr) (t : DT) : Prop where
  pw : PW X e (embT X.K W t)
theorem FW.ft {e : Expr} (h : FW X W e t) : PT X e (embT X.K W t) := h.pw.pt
theorem PW.weak {e : Expr} {t t' : TT} (h : PW X e t) (w : ∀ σ H Q, t' σ H Q → t σ H Q) : PW X e t' := ⟨fun wh pins s σ H Q I q => h.run wh pins s σ H Q I (w _ _ _ q)⟩
theorem fw_and1 (h : PT X a (embT X.K W t)) : FW X W (.BoolOp .And [a] pos) t := ⟨pw_and1 h⟩
theorem fw_or1 (h : PT X a (embT X.K W t)) : FW X W (.BoolOp .Or [a] pos) t := ⟨pw_or1 h⟩
theorem fw_and {rest : List Expr} (h : PT X a (embT X.K W t)) (h2 : FW X W (.BoolOp .And (b :: rest) pos) u) : FW X W (.BoolOp .And (a :: b :: rest) pos) (dAndT t u) := ⟨PW.weak (pw_and h h2.pw) fun σ H Q h => by
  obtain ⟨B, ps, I, fr, Q', Er, r, q, kq, ke⟩ := h
  refine ⟨B, ps, I, fr, _, Er, r, q, fun c H' J fr' e r' q' => ?_, ke⟩
  cases c with
  | true => exact ⟨B, ps, J, fr', Q', Er, r', q'.t1, fun b H'' J' fr'' e' => kq _ _ _ _ (e.trans e'), ke.ext e⟩
  | false => exact kq _ _ _ _ e r' q'.f1⟩
theorem fw_or {rest : List Expr} (h : PT X a (embT X.K W t)) (h2 : FW X W (.BoolOp .Or (b :: rest) pos) u) : FW X W (.BoolOp .Or (a :: b :: rest) pos) (dOrT t u) := ⟨PW.weak (pw_or h h2.pw) fun σ H Q h => by
  obtain ⟨B, ps, I, fr, Q', Er, r, q, kq, ke⟩ := h
  refine ⟨B, ps, I, fr, _, Er, r, q, fun c H' J fr' e r' q' => ?_, ke⟩
  cases c with
  | true => exact kq _ _ _ _ e r' q'.t1
  | false => exact ⟨B, ps, J, fr', Q', Er, r', q'.f1, fun b H'' J' fr'' e' => kq _ _ _ _ (e.trans e'), ke.ext e⟩⟩
/-! bools as values -/
def dNot (te : DE) : DE := fun fr Q Er => te fr (fun rv fr' => tstB rv fun b => Q (.sh (.bl (!b))) fr') Er
def dAnd (ta tb : DE) : DE := fun fr Q Er => ta fr (fun rv fr' => tstB rv fun b => Br b (tb fr' Q Er) (Q (.sh (.bl false)) fr')) Er
def dOr (ta tb : DE) : DE := fun fr Q Er => ta fr (fun rv fr' => tstB rv fun b => Br b (Q (.sh (.bl true)) fr') (tb fr' Q Er)) Er
theorem tstB_of {K : PySem.W.Frag} {B J H : Hp} {ps : List Addr} {σ : L2.St} {fr : Fr} {v : V} {rv : Rv} {k : Bool → Prop} (o : RvOk K B ps J σ H fr v rv) (q : tstB rv k) : ∃ b, v = .bl b ∧ k b := by
  cases rv with
  | sh d =>
    cases d <;> first | exact (show False from q).elim | skip
    cases (show R K J v (.bl _) from o)
    exact ⟨_, rfl, q⟩
  | _ => exact (show False from q).elim
theorem fe_not (ha : PE X a (emb X.K W ta)) : PE X (.UnaryOp .Not a pos) (emb X.K W (dNot ta)) := PE.weak (pe_not ha) fun σ H Q h => by
  obtain ⟨B, ps, I, fr, Q', Er, r, q, kq, ke⟩ := h
  refine ⟨B, ps, I, fr, _, Er, r, q, fun v H' J rv fr' e r' o q' => ?_, ke⟩
  obtain ⟨b, rfl, q⟩ := tstB_of o q'
  exact ⟨b, rfl, kq _ _ J (.sh (.bl _)) fr' e r' (R.bl _) q⟩
theorem fe_one {op : BoolOp} (ha : PE X a (emb X.K W ta)) : PE X (.BoolOp op [a] pos) (emb X.K W ta) := pe_one ha
theorem fe_and {rest : List Expr} (ha : PE X a (emb X.K W ta)) (hb : PE X (.BoolOp .And (b :: rest) pos) (emb X.K W tb)) : PE X (.BoolOp .And (a :: b :: rest) pos) (emb X.K W (dAnd ta tb)) := PE.weak (pe_and ha hb) fun σ H Q h => by
  obtain ⟨B, ps, I, fr, Q', Er, r, q, kq, ke⟩ := h
  refine ⟨B, ps, I, fr, _, Er, r, q, fun v H' J rv fr' e r' o q' => ?_, ke⟩
  obtain ⟨b, rfl, q⟩ := tstB_of o q'
  refine ⟨b, rfl, ?_⟩
  cases b with
  | true => exact ⟨B, ps, J, fr', Q', Er, r', q.t1, fun v2 H2 J2 rv2 fr2 e2 => kq _ _ _ _ _ (e.trans e2), ke.ext e⟩
  | false => exact kq _ _ J (.sh (.bl _)) fr' e r' (R.bl _) q.f1
theorem fe_or {rest : List Expr} (ha : PE X a (emb X.K W ta)) (hb : PE X (.BoolOp .Or (b :: rest) pos) (emb X.K W tb)) : PE X (.BoolOp .Or (a :: b :: rest) pos) (emb X.K W (dOr ta tb)) := PE.weak (pe_or ha hb) fun σ H Q h => by
  obtain ⟨B, ps, I, fr, Q', Er, r, q, kq, ke⟩ := h
  refine ⟨B, ps, I, fr, _, Er, r, q, fun v H' J rv fr' e r' o q' => ?_, ke⟩
  obtain ⟨b, rfl, q⟩ := tstB_of o q'
  refine ⟨b, rfl, ?_⟩
  cases b with
  | false => exact ⟨B, ps, J, fr', Q', Er, r', q.f1, fun v2 H2 J2 rv2 fr2 e2 => kq _ _ _ _ _ (e.trans e2), ke.ext e⟩
  | true => exact kq _ _ J (.sh (.bl _)) fr' e r' (R.bl _) q.t1
def dIf (t : DT) (ta tb : DE) : DE := fun fr Q Er => t fr (fun b fr' => Br b (ta fr' Q Er) (tb fr' Q Er)) Er
theorem fe_ifExp (hc : PT X c (embT X.K W t)) (ha : PE X a (emb X.K W ta)) (hb : PE X b (emb X.K W tb)) : PE X (.IfExp c a b pos) (emb X.K W (dIf t ta tb)) := PE.weak (pe_ifExp hc ha hb) fun σ H Q h => by
  obtain ⟨B, ps, I, fr, Q', Er, r, q, kq, ke⟩ := h
  refine ⟨B, ps, I, fr, _, Er, r, q, fun c H' J fr' e r' q' => ?_, ke⟩
  cases c with
  | true => exact ⟨B, ps, J, fr', Q', Er, r', q'.t1, fun v2 H2 J2 rv2 fr2 e2 => kq _ _ _ _ _ (e.trans e2), ke.ext e⟩
  | false => exact ⟨B, ps, J, fr', Q', Er, r', q'.f1, fun v2 H2 J2 rv2 fr2 e2 => kq _ _ _ _ _ (e.trans e2), ke.ext e⟩
/-! chains -/
def dChain (f g : D → D → (Rv → Prop) → Prop) (ta tb tc : DE) : DE := fun fr Q Er => ta fr (fun a fr1 => tb fr1 (fun b fr2 => wd a.frz fr2 fun x => wd b.frz fr2 fun y => f x y fun rv => tstB rv fun k =>
  Br k (tc fr2 (fun c fr3 => wd b.frz fr3 fun y => wd c.frz fr3 fun z => g y z fun rv => Q rv fr3) Er) (Q (.sh (.bl false)) fr2)) Er) Er
theorem chain_emb {K : PySem.W.Frag} {W : WX} {f g : D → D → (Rv → Prop) → Prop} {r r' : R2} (hf : OpD K f r) (hg : OpD K g r') {σ : L2.St} {H : Hp} {Q : VK} (h : emb K W (dChain f g ta tb tc) σ H Q) : tChain r r' (emb K W ta) (emb K W tb) (emb K W tc) σ H Q := by
  obtain ⟨B, ps, I, fr, Q', Er, r0, q, kq, ke⟩ := h
  refine ⟨B, ps, I, fr, _, Er, r0, q, fun v H1 J1 a fr1 e1 r1 o1 q1 => ?_, ke⟩
  obtain ⟨J2, e2, r2, o2⟩ := frz_of r1 o1
  refine ⟨B, ps, J2, fr1, _, Er, r2, q1, fun u H2 J3 b fr2 e3 r3 o3 q3 => ?_, ke.ext (e1.trans e2)⟩
  obtain ⟨J4, e4, r4, o4⟩ := frz_of r3 o3
  obtain ⟨x, q5, rx⟩ := (o2.mono (e3.1.trans e4.1)).wd r4 q3
  obtain ⟨y, q6, ry⟩ := o4.wd r4 q5
  refine hf B ps J4 σ H2 fr2 v u x y _ _ r4 rx ry q6 fun w H' J rv e5 r5 o5 k5 => ?_
  obtain ⟨k, rfl, q7⟩ := tstB_of o5 k5
  have eA := e1.trans (e2.trans (e3.trans (e4.trans e5)))
  refine ⟨k, rfl, ?_⟩
  cases k with
  | false => exact kq _ _ J (.sh (.bl false)) fr2 eA r5 (R.bl _) q7.f1
  | true =>
    refine ⟨B, ps, J, fr2, _, Er, r5, q7.t1, fun z H3 J6 c fr3 e6 r6 o6 q8 => ?_, ke.ext eA⟩
    obtain ⟨J7, e7, r7, o7⟩ := frz_of r6 o6
    obtain ⟨y', q9, ry'⟩ := (o4.mono (e5.1.trans (e6.1.trans e7.1))).wd r7 q8
    obtain ⟨z', q10, rz⟩ := o7.wd r7 q9
    exact hg B ps J7 σ H3 fr3 u z y' z' _ _ r7 ry' rz q10 fun w2 H4 J8 rv2 e8 r8 o8 k8 => kq w2 H4 J8 rv2 fr3 (eA.trans (e6.trans (e7.trans e8))) r8 o8 k8
theorem fe_chain {op op' : CmpOp} {f g : D → D → (Rv → Prop) → Prop} {r r' : R2} (ho : OpR X (compareOp op) r) (ho' : OpR X (compareOp op') r') (hf : OpD X.K f r) (hg : OpD X.K g r') (ha : PE X a (emb X.K W ta)) (hb : PE X b (emb X.K W tb)) (hc : PE X c (emb X.K W tc))
    (hm : lastMarks [op, op'] [b, c] = false := by with_unfolding_all rfl) : PE X (.Compare a [op, op'] [b, c] pos) (emb X.K W (dChain f g ta tb tc)) := PE.weak (pe_chain ho ho' ha hb hc hm) fun _ _ _ h => chain_emb hf hg h
theorem ft_chain {op op' : CmpOp} {f g : D → D → (Rv → Prop) → Prop} {r r' : R2} (ho : OpR X (compareOp op) r) (ho' : OpR X (compareOp op') r') (hf : OpD X.K f r) (hg : OpD X.K g r') (ha : PE X a (emb X.K W ta)) (hb : PE X b (emb X.K W tb)) (hc : PE X c (emb X.K W tc))
    (hm : lastMarks [op, op'] [b, c] = false := by with_unfolding_all rfl) : PT X (.Compare a [op, op'] [b, c] pos) (embT X.K W (dTst (dChain f g ta tb tc))) := PT.weak (pt_chain ho ho' ha hb hc hm) fun _ _ _ h => chain_emb hf hg (tst_emb h)
end
/-! argument lists -/
def dNil : DA := fun fr Q _ => Q [] fr
def dCons (ta : DE) (tr : DA) : DA := fun fr Q Er => ta fr (fun a fr1 => tr fr1 (fun rs fr2 => Q (a.frz :: rs) fr2) Er) Er
section
variable {X : Cx} {W : WX} {e : Expr} {es : List Expr} {ta : DE} {tr : DA}
theorem fa_nil : PA X [] (embA X.K W dNil) := PA.weak pa_nil fun σ H Q h => by
  obtain ⟨B, ps, I, fr, Q', Er, r, q, kq, ke⟩ := h
  exact kq [] H I [] fr (Ext.refl _ _) r .nil q
theorem fa_cons (ha : PE X e (emb X.K W ta)) (hr : PA X es (embA X.K W tr)) (hs : starEach (e :: es) X.env = (false, eval e X.env) :: starEach es X.env := by rfl) : PA X (e :: es) (embA X.K W (dCons ta tr)) := PA.weak (pa_cons ha hr hs) fun σ H Q h => by
  obtain ⟨B, ps, I, fr, Q', Er, r0, q, kq, ke⟩ := h
  refine ⟨B, ps, I, fr, _, Er, r0, q, fun v H1 J1 a fr1 e1 r1 o1 q1 => ?_, ke⟩
  obtain ⟨J2, e2, r2, o2⟩ := frz_of r1 o1
  refine ⟨B, ps, J2, fr1, _, Er, r2, q1, fun us H2 J3 rs fr2 e3 r3 o3 q3 => ?_, ke.ext (e1.trans e2)⟩
  exact kq _ _ _ _ _ (e1.trans (e2.trans e3)) r3 (.cons (o2.mono e3.1) o3) q3
end
/-! values put into a new object: a slot's own object becomes shared -/
def shr (rv : Rv) (fr : Fr) (k : D → Fr → Prop) : Prop :=
  match rv with
  | .sh d => k d fr
  | .tm d => k d fr
  | .pl i => match fr.sl[i]? with
    | some (some (.ow d)) => k d { fr with sl := fr.sl.set i (some (.sh d)) }
    | some (some (.sh d)) => k d fr
    | _ => False
  | .pa _ => False
def shrs : List Rv → Fr → (List D → Fr → Prop) → Prop
  | [], fr, k => k [] fr
  | r :: rs, fr, k => shr r fr fun d fr1 => shrs rs fr1 fun ds fr2 => k (d :: ds) fr2
section
variable {K : PySem.W.Frag} {B I H : Hp} {ps : List Addr} {σ : L2.St} {fr : Fr} {v : V} {rv : Rv}
theorem shr_of {k : D → Fr → Prop} (r : Rep K B ps I σ H fr) (o : OpOk K ps I σ v rv) (q : shr rv fr k) : ∃ d fr' J, k d fr' ∧ Ext B I J ∧ Rep K B ps J σ H fr' ∧ R K J v d := by
  cases rv with
  | sh d => exact ⟨d, fr, I, q, Ext.refl _ _, r, o⟩
  | tm d => exact o.elim
  | pa j => exact (show False from q).elim
  | pl i =>
    have q' : (match fr.sl[i]? with | some (some (.ow d)) => k d { fr with sl := fr.sl.set i (some (.sh d)) } | some (some (.sh d)) => k d fr | _ => False) := q
    split at q'
    · rename_i d e
      obtain ⟨J, e1, r1, h⟩ := r.share e o
      exact ⟨d, _, J, q', e1, r1, h⟩
    · rename_i d e
      obtain ⟨v', e1, z⟩ := r.slot i _ e
      rw [show σ[i]? = some (some v) from o] at e1
      cases e1
      exact ⟨d, fr, I, q', Ext.refl _ _, r, z⟩
    · exact q'.elim
theorem shrs_of : ∀ {rs : List Rv} {vs : List V} {I : Hp} {fr : Fr} {k : List D → Fr → Prop}, Rep K B ps I σ H fr → OpsOk K ps I σ vs rs → shrs rs fr k → ∃ ds fr' J, k ds fr' ∧ Ext B I J ∧ Rep K B ps J σ H fr' ∧ RA K J vs ds
  | [], _, I, fr, k, r, o, q => by cases o; exact ⟨[], fr, I, q, Ext.refl _ _, r, .nil⟩
  | x :: rs, _, I, fr, k, r, o, q => by
    cases o with
    | cons o1 o2 =>
      obtain ⟨d, fr1, J1, q1, e1, r1, h1⟩ := shr_of r o1 q
      obtain ⟨ds, fr2, J2, q2, e2, r2, h2⟩ := shrs_of r1 (o2.mono e1.1) q1
      exact ⟨d :: ds, fr2, J2, q2, e1.trans e2, r2, .cons (R.mono e2.1 h1) h2⟩
/-- a new tuple, as a rule gives it -/
theorem new_tup {Q : VK} {k : Rv → Prop} {vs : List V} {ds : List D} (r : Rep K B ps I σ H fr) (kq : ∀ v H' J rv, Ext B I J → Rep K B ps J σ H' fr → RvOk K B ps J σ H' fr v rv → k rv → Q v H') (rb : RA K I vs ds) (hk : k (.sh (.tup ds))) :
    ∀ p, H p = none → Q (.ref p) (upd H p (.tup vs)) := fun p hp => by
  obtain ⟨b, c, n, a⟩ := r.fresh hp
  have s : Same I (upd I p (.tup vs)) := same_new c
  refine kq (.ref p) _ (upd I p (.tup vs)) (.sh (.tup ds)) ⟨s, fun x u q => ?_⟩ ((r.new hp).grow s (fun x u q => ?_) (fun q hq => ?_) fun i d' q h1 h2 => ?_) (R.tup upd_same (rb.mono s)) hk
  · by_cases hx : x = p
    · rw [hx]; exact .inr b
    · rw [upd_ne hx] at q; exact .inl q
  · by_cases hx : x = p
    · subst hx; rw [upd_same] at q ⊢; exact q
    · rw [upd_ne hx] at q ⊢; exact r.same x u q
  · rw [upd_ne (show q ≠ p from fun z => n (by rw [← z]; exact hq))]; exact r.pout q hq
  · have hq : q ≠ p := fun z => a i d' h1 (by rw [← z]; exact h2)
    rw [upd_ne hq]
    obtain ⟨v, e1, p2, e2, _, c2, _, _⟩ := r.slot i _ h1
    rw [h2] at e1
    cases e1
    cases e2
    exact c2
end
def dLst (ta : DA) : DE := fun fr Q Er => ta fr (fun rs fr1 => shrs rs fr1 fun ds fr2 => Br (Nat.ble ds.length 400) (Q (.tm (.lst true ds)) fr2) False) Er
def dTup (ta : DA) : DE := fun fr Q Er => ta fr (fun rs fr1 => shrs rs fr1 fun ds fr2 => Br (Nat.ble ds.length 400) (Q (.sh (.tup ds)) fr2) False) Er
theorem br_ble {n m : Nat} {P : Prop} (h : Br (Nat.ble n m) P False) : n ≤ m ∧ P := by
  cases e : Nat.ble n m with
  | true => rw [e] at h; exact ⟨Nat.le_of_ble_eq_true e, h.t1⟩
  | false => rw [e] at h; exact h.f1.elim
section
variable {X : Cx} {W : WX} {es : List Expr} {ta : DA} {pos : Pos}
theorem fe_lst (h : PA X es (embA X.K W ta)) : PE X (.List es pos) (emb X.K W (dLst ta)) := PE.weak (pe_lst1 h) fun σ H Q h => by
  obtain ⟨B, ps, I, fr, Q', Er, r0, q, kq, ke⟩ := h
  refine ⟨B, ps, I, fr, _, Er, r0, q, fun vs H1 J1 rs fr1 e1 r1 o1 q1 => ?_, ke⟩
  obtain ⟨ds, fr2, J2, q2, e2, r2, ra⟩ := shrs_of r1 o1 q1
  obtain ⟨hl, q3⟩ := br_ble q2
  exact ⟨mil (by rw [ra.length]; omega), new_lst1 (k := fun rv => Q' rv fr2) r2 (fun v H' J rv e3 r3 o3 k3 => kq v H' J rv fr2 (e1.trans (e2.trans e3)) r3 o3 k3) ra q3⟩
theorem fe_tup {x1} (h : PA X es (embA X.K W ta)) : PE X (.Tuple es x1 pos) (emb X.K W (dTup ta)) := PE.weak (pe_tup h) fun σ H Q h => by
  obtain ⟨B, ps, I, fr, Q', Er, r0, q, kq, ke⟩ := h
  refine ⟨B, ps, I, fr, _, Er, r0, q, fun vs H1 J1 rs fr1 e1 r1 o1 q1 => ?_, ke⟩
  obtain ⟨ds, fr2, J2, q2, e2, r2, ra⟩ := shrs_of r1 o1 q1
  obtain ⟨hl, q3⟩ := br_ble q2
  exact ⟨mil (by rw [ra.length]; omega), new_tup (k := fun rv => Q' rv fr2) r2 (fun v H' J rv e3 r3 o3 k3 => kq v H' J rv fr2 (e1.trans (e2.trans e3)) r3 o3 k3) ra q3⟩
end
end Dl
namespace Dl
open PySem PySem.Spec PyProof.Rows L2 Vx
/-! built-ins called with values -/
def wds : List Rv → Fr → (List D → Prop) → Prop
  | [], _, k => k []
  | r :: rs, fr, k => wd r fr fun d => wds rs fr fun ds => k (d :: ds)
inductive RHs (K : PySem.W.Frag) (I H : Hp) : List V → List D → Prop
  | nil : RHs K I H [] []
  | cons {v : V} {vs : List V} {d : D} {ds : List D} : RH K I H v d → RHs K I H vs ds → RHs K I H (v :: vs) (d :: ds)
theorem wds_of {K : PySem.W.Frag} {B I H : Hp} {ps : List Addr} {σ : L2.St} {fr : Fr} (r : Rep K B ps I σ H fr) : ∀ {rs : List Rv} {vs : List V} {k : List D → Prop}, OpsOk K ps I σ vs rs → wds rs fr k → ∃ ds, k ds ∧ RHs K I H vs ds
  | [], _, k, o, q => by cases o; exact ⟨[], q, .nil⟩
  | x :: rs, _, k, o, q => by
    cases o with
    | cons o1 o2 =>
      obtain ⟨d, q1, h1⟩ := o1.wd r q
      obtain ⟨ds, q2, h2⟩ := wds_of r o2 q1
      exact ⟨d :: ds, q2, .cons h1 h2⟩
def dCallB (f : List D → (Rv → Prop) → Prop) (ta : DA) : DE := fun fr Q Er => ta fr (fun rs fr1 => wds rs fr1 fun ds => f ds fun rv => Q rv fr1) Er
def CallD (K : PySem.W.Frag) (f : List D → (Rv → Prop) → Prop) (r : List V → Hp → VK → Prop) : Prop := ∀ (B : Hp) (ps : List Addr) (I : Hp) (σ : L2.St) (H : Hp) (fr : Fr) (xs : List V) (ds : List D) (Q : VK) (k : Rv → Prop),
  Rep K B ps I σ H fr → RHs K I H xs ds → f ds k → (∀ v H' J rv, Ext B I J → Rep K B ps J σ H' fr → RvOk K B ps J σ H' fr v rv → k rv → Q v H') → r xs H Q
theorem callB_emb {K : PySem.W.Frag} {W : WX} {f : List D → (Rv → Prop) → Prop} {r : List V → Hp → VK → Prop} {ta : DA} (hf : CallD K f r) {σ : L2.St} {H : Hp} {Q : VK} (h : emb K W (dCallB f ta) σ H Q) : tCB r (embA K W ta) σ H Q := by
  obtain ⟨B, ps, I, fr, Q', Er, r0, q, kq, ke⟩ := h
  refine ⟨B, ps, I, fr, _, Er, r0, q, fun vs H1 J1 rs fr1 e1 r1 o1 q1 => ?_, ke⟩
  obtain ⟨ds, q2, rh⟩ := wds_of r1 o1 q1
  exact hf B ps J1 σ H1 fr1 vs ds Q _ r1 rh q2 fun w H' J rv e5 r5 o5 k5 => kq w H' J rv fr1 (e1.trans e5) r5 o5 k5
section
variable {X : Cx} {W : WX} {x : Str} {p pos : Pos} {e : Expr} {es : List Expr} {ta : DA} {f : List D → (Rv → Prop) → Prop} {r : List V → Hp → VK → Prop} {id : String} {T : String}
theorem fe_callB (hc : CallR X (.builtin id) r) (hf : CallD X.K f r) (hg : Gl X x) (hm : X.mg x = none) (hv : bootBuiltins x = some (.builtin id)) (ha : PA X (e :: es) (embA X.K W ta)) (hn : x ≠ "__name__" := by decide) (hdb : (x == ("__debug__" : Str)) = false := by decide)
    (he : starEach (e :: es) X.env = (false, eval e X.env) :: starEach es X.env := by rfl) (hpl : (backTo pos (starEach es X.env)).any (·.1) = false := by rfl) : PE X (.Call (.Name x p) (e :: es) [] pos) (emb X.K W (dCallB f ta)) :=
  PE.weak (pe_callB hc hg hm hv ha hn hdb he hpl) fun _ _ _ h => callB_emb hf h
theorem fe_callTy (hc : CallR X (.type T) r) (hf : CallD X.K f r) (hg : Gl X x) (hm : X.mg x = none) (hv : bootBuiltins x = some (.type T)) (ha : PA X (e :: es) (embA X.K W ta)) (hn : x ≠ "__name__" := by decide) (hdb : (x == ("__debug__" : Str)) = false := by decide)
    (he : starEach (e :: es) X.env = (false, eval e X.env) :: starEach es X.env := by rfl) (hpl : (backTo pos (starEach es X.env)).any (·.1) = false := by rfl) : PE X (.Call (.Name x p) (e :: es) [] pos) (emb X.K W (dCallB f ta)) :=
  PE.weak (pe_callTy hc hg hm hv ha hn hdb he hpl) fun _ _ _ h => callB_emb hf h
end
theorem CallR.or {X : Cx} {g : Value} {r r' : List V → Hp → VK → Prop} (h : CallR X g r) (h' : CallR X g r') : CallR X g (fun xs H Q => r xs H Q ∨ r' xs H Q) := by
  intro pins s σ H xs us Q I rx q
  rcases q with q | q
  · exact h pins s σ H xs us Q I rx q
  · exact h' pins s σ H xs us Q I rx q
def lenD : List D → (Rv → Prop) → Prop
  | [.str a], k => a.length ≤ 1000000 ∧ k (.sh (.int a.length))
  | [.lst _ a], k => k (.sh (.int a.length))
  | [.tup a], k => k (.sh (.int a.length))
  | [.ktp a], k => k (.sh (.int a.length))
  | [.scr a], k => k (.sh (.int a.length))
  | [.dic a _], k => k (.sh (.int a.length))
  | _, _ => False
theorem one_of {K : PySem.W.Frag} {I H : Hp} {xs : List V} {d : D} (h : RHs K I H xs [d]) : ∃ v, xs = [v] ∧ RH K I H v d := by
  cases h with
  | cons a b => cases b; exact ⟨_, rfl, a⟩
theorem two_of {K : PySem.W.Frag} {I H : Hp} {xs : List V} {d e : D} (h : RHs K I H xs [d, e]) : ∃ v u, xs = [v, u] ∧ RH K I H v d ∧ RH K I H u e := by
  cases h with
  | cons a b =>
    obtain ⟨u, rfl, hu⟩ := one_of b
    exact ⟨_, _, rfl, a, hu⟩
abbrev rLen3 (K : PySem.W.Frag) : List V → Hp → VK → Prop := fun xs H Q => (∃ x n, xs = [x] ∧ LenV K x H n ∧ Q (.int n) H) ∨ ∃ a kvs, xs = [V.ref a] ∧ H a = some (.dK kvs) ∧ Q (.int kvs.length) H
theorem call_len3 {X : Cx} : CallR X (.builtin "len") (rLen3 X.K) := CallR.or call_len call_lenD
theorem calld_len {K : PySem.W.Frag} : CallD K lenD (rLen3 K) := by
  intro B ps I σ H fr xs ds Q k r rx h kq
  have fin : ∀ n : Nat, k (.sh (.int n)) → Q (.int n) H := fun n q => kq _ _ I (.sh (.int n)) (Ext.refl _ _) r (R.int _) q
  match ds, h with
  | [.str a], h =>
    obtain ⟨v, rfl, rh⟩ := one_of rx
    rw [rh.str]
    refine .inl ⟨_, a.length, rfl, ⟨?_, ?_⟩, fin _ h.2⟩
    · rw [SX.S_len]; exact mil h.1
    · exact (SX.S_len a).symm
  | [.lst _ a], h =>
    obtain ⟨v, rfl, rh⟩ := one_of rx
    obtain ⟨p, vs, rfl, e, ra⟩ := rh.lst r.same
    exact .inl ⟨_, a.length, rfl, .inl ⟨vs, SqL.of e, ra.length.symm⟩, fin _ h⟩
  | [.tup a], h =>
    obtain ⟨v, rfl, rh⟩ := one_of rx
    obtain ⟨p, vs, rfl, e, ra⟩ := rh.tup r.same
    exact .inl ⟨_, a.length, rfl, .inr ⟨vs, e, ra.length.symm⟩, fin _ h⟩
  | [.ktp a], h =>
    obtain ⟨v, rfl, rh⟩ := one_of rx
    obtain ⟨p, vs, rfl, e, ra⟩ := rh.ktp r.same
    exact .inl ⟨_, a.length, rfl, .inr ⟨vs, e, ra.length.symm⟩, fin _ h⟩
  | [.scr a], h =>
    obtain ⟨v, rfl, rh⟩ := one_of rx
    obtain ⟨p, rfl, e⟩ := rh.scr r.same
    exact .inl ⟨_, a.length, rfl, .inl ⟨_, e, by simp⟩, fin _ h⟩
  | [.dic a b], h =>
    obtain ⟨v, rfl, rh⟩ := one_of rx
    obtain ⟨p, kvs, rfl, e, ra, _⟩ := rh.dic r.same
    refine .inr ⟨p, kvs, rfl, e, ?_⟩
    have := ra.length
    rw [List.length_map] at this
    rw [this]; exact fin _ h
def intD : List D → (Rv → Prop) → Prop
  | [.int i], k => k (.sh (.int i))
  | [.bl b], k => k (.sh (.int (if b then 1 else 0)))
  | _, _ => False
theorem calld_int {K : PySem.W.Frag} : CallD K intD (fun xs H Q => (∃ i, xs = [.int i] ∧ Q (.int i) H) ∨ ∃ k, xs = [.bl k] ∧ Q (.int (if k then 1 else 0)) H) := by
  intro B ps I σ H fr xs ds Q k r rx h kq
  match ds, h with
  | [.int i], h =>
    obtain ⟨v, rfl, rh⟩ := one_of rx
    rw [rh.int]
    exact .inl ⟨i, rfl, kq _ _ I (.sh (.int i)) (Ext.refl _ _) r (R.int _) h⟩
  | [.bl b], h =>
    obtain ⟨v, rfl, rh⟩ := one_of rx
    rw [rh.bl]
    exact .inr ⟨b, rfl, kq _ _ I (.sh (.int _)) (Ext.refl _ _) r (R.int _) h⟩
def absD : List D → (Rv → Prop) → Prop
  | [.int i], k => k (.sh (.int i.natAbs))
  | _, _ => False
theorem calld_abs {K : PySem.W.Frag} : CallD K absD (fun xs H Q => ∃ i, xs = [.int i] ∧ Q (.int (if i < 0 then -i else i)) H) := by
  intro B ps I σ H fr xs ds Q k r rx h kq
  match ds, h with
  | [.int i], h =>
    obtain ⟨v, rfl, rh⟩ := one_of rx
    rw [rh.int]
    refine ⟨i, rfl, ?_⟩
    rw [show (if i < 0 then -i else i) = (i.natAbs : Int) by split <;> omega]
    exact kq _ _ I (.sh (.int _)) (Ext.refl _ _) r (R.int _) h
def minD : List D → (Rv → Prop) → Prop
  | [.int i, .int j], k => k (.sh (.int (min i j)))
  | _, _ => False
def maxD : List D → (Rv → Prop) → Prop
  | [.int i, .int j], k => k (.sh (.int (max i j)))
  | _, _ => False
theorem calld_min {K : PySem.W.Frag} : CallD K minD (fun xs H Q => ∃ i j, xs = [.int i, .int j] ∧ Q (.int (if j < i then j else i)) H) := by
  intro B ps I σ H fr xs ds Q k r rx h kq
  match ds, h with
  | [.int i, .int j], h =>
    obtain ⟨v, u, rfl, rh, rh2⟩ := two_of rx
    rw [rh.int, rh2.int]
    refine ⟨i, j, rfl, ?_⟩
    rw [show (if j < i then j else i) = min i j by split <;> omega]
    exact kq _ _ I (.sh (.int _)) (Ext.refl _ _) r (R.int _) h
theorem calld_max {K : PySem.W.Frag} : CallD K maxD (fun xs H Q => ∃ i j, xs = [.int i, .int j] ∧ Q (.int (if j > i then j else i)) H) := by
  intro B ps I σ H fr xs ds Q k r rx h kq
  match ds, h with
  | [.int i, .int j], h =>
    obtain ⟨v, u, rfl, rh, rh2⟩ := two_of rx
    rw [rh.int, rh2.int]
    refine ⟨i, j, rfl, ?_⟩
    rw [show (if j > i then j else i) = max i j by split <;> omega]
    exact kq _ _ I (.sh (.int _)) (Ext.refl _ _) r (R.int _) h
inductive opt {α : Type} (o : Option α) (k : α → Prop) : Prop
  | mk (a : α) : o = some a → k a → opt o k
theorem opt_of {α : Type} {o : Option α} {a : α} {k : α → Prop} (h : o = some a) (q : k a) : opt o k := .mk a h q
theorem opt_get {α : Type} {o : Option α} {k : α → Prop} (h : opt o k) : ∃ a, o = some a ∧ k a := by
  cases h with
  | mk a e q => exact ⟨a, e, q⟩
def intsOf : List D → Option (List Int)
  | [] => some []
  | .int i :: r => (intsOf r).map (i :: ·)
  | _ => none
theorem intsOf_map (ns : List Int) : intsOf (ns.map D.int) = some ns := by
  induction ns with
  | nil => rfl
  | cons n r ih => show (intsOf (r.map D.int)).map _ = _; rw [ih]; rfl
theorem intsOf_eq : ∀ {ds : List D} {ns : List Int}, intsOf ds = some ns → ds = ns.map D.int
  | [], ns, h => by cases h; rfl
  | d :: r, ns, h => by
    cases d with
    | int i =>
      have h' : (intsOf r).map (i :: ·) = some ns := h
      obtain ⟨ms, e, rfl⟩ := Option.map_eq_some_iff.mp h'
      rw [intsOf_eq e]; rfl
    | _ => simp [intsOf] at h
def blsOf : List D → Option (List Bool)
  | [] => some []
  | .bl i :: r => (blsOf r).map (i :: ·)
  | _ => none
theorem blsOf_map (ns : List Bool) : blsOf (ns.map D.bl) = some ns := by
  induction ns with
  | nil => rfl
  | cons n r ih => show (blsOf (r.map D.bl)).map _ = _; rw [ih]; rfl
theorem blsOf_eq : ∀ {ds : List D} {ns : List Bool}, blsOf ds = some ns → ds = ns.map D.bl
  | [], ns, h => by cases h; rfl
  | d :: r, ns, h => by
    cases d with
    | bl i =>
      have h' : (blsOf r).map (i :: ·) = some ns := h
      obtain ⟨ms, e, rfl⟩ := Option.map_eq_some_iff.mp h'
      rw [blsOf_eq e]; rfl
    | _ => simp [blsOf] at h
def strsOf : List D → Option (List (List Nat))
  | [] => some []
  | .str i :: r => (strsOf r).map (i :: ·)
  | _ => none
theorem strsOf_map (ns : List (List Nat)) : strsOf (ns.map D.str) = some ns := by
  induction ns with
  | nil => rfl
  | cons n r ih => show (strsOf (r.map D.str)).map _ = _; rw [ih]; rfl
theorem strsOf_eq : ∀ {ds : List D} {ns : List (List Nat)}, strsOf ds = some ns → ds = ns.map D.str
  | [], ns, h => by cases h; rfl
  | d :: r, ns, h => by
    cases d with
    | str i =>
      have h' : (strsOf r).map (i :: ·) = some ns := h
      obtain ⟨ms, e, rfl⟩ := Option.map_eq_some_iff.mp h'
      rw [strsOf_eq e]; rfl
    | _ => simp [strsOf] at h
theorem RA.int_vs {K : PySem.W.Frag} {I : Hp} : ∀ {vs : List V} {ns : List Int}, RA K I vs (ns.map D.int) → vs = ns.map V.int
  | _, [], h => by cases h; rfl
  | _, n :: r, h => by
    cases h with
    | cons a b => cases a; rw [RA.int_vs b]; rfl
theorem RA.bl_vs {K : PySem.W.Frag} {I : Hp} : ∀ {vs : List V} {ns : List Bool}, RA K I vs (ns.map D.bl) → vs = ns.map V.bl
  | _, [], h => by cases h; rfl
  | _, n :: r, h => by
    cases h with
    | cons a b => cases a; rw [RA.bl_vs b]; rfl
theorem RA.str_vs {K : PySem.W.Frag} {I : Hp} : ∀ {vs : List V} {ns : List (List Nat)}, RA K I vs (ns.map D.str) → vs = ns.map fun a => V.str (S a)
  | _, [], h => by cases h; rfl
  | _, n :: r, h => by
    cases h with
    | cons a b => cases a; rw [RA.str_vs b]; rfl
def sumD : List D → (Rv → Prop) → Prop
  | [.lst _ a], k => opt (intsOf a) fun ns => k (.sh (.int ns.sum))
  | _, _ => False
theorem calld_sum {K : PySem.W.Frag} : CallD K sumD (rSum K) := by
  intro B ps I σ H fr xs ds Q k r rx h kq
  match ds, h with
  | [.lst _ a], h =>
    obtain ⟨v, rfl, rh⟩ := one_of rx
    obtain ⟨p, vs, rfl, e, ra⟩ := rh.lst r.same
    obtain ⟨ns, e2, q⟩ := opt_get h
    rw [intsOf_eq e2] at ra
    rw [ra.int_vs] at e
    exact ⟨p, ns, rfl, SqL.of e, kq _ _ I (.sh (.int _)) (Ext.refl _ _) r (R.int _) q⟩
def allD : List D → (Rv → Prop) → Prop
  | [.lst _ a], k => opt (blsOf a) fun ns => k (.sh (.bl (ns.all fun b => b)))
  | _, _ => False
theorem calld_all {K : PySem.W.Frag} : CallD K allD (rAll K) := by
  intro B ps I σ H fr xs ds Q k r rx h kq
  match ds, h with
  | [.lst _ a], h =>
    obtain ⟨v, rfl, rh⟩ := one_of rx
    obtain ⟨p, vs, rfl, e, ra⟩ := rh.lst r.same
    obtain ⟨ns, e2, q⟩ := opt_get h
    rw [blsOf_eq e2] at ra
    rw [ra.bl_vs] at e
    exact ⟨p, ns, rfl, SqL.of e, kq _ _ I (.sh (.bl _)) (Ext.refl _ _) r (R.bl _) q⟩
/-- list(x) -/
def listD : List D → (Rv → Prop) → Prop
  | [.lst _ a], k => k (.tm (.lst false a))
  | [.tup a], k => k (.tm (.lst false a))
  | [.scr ns], k => k (.tm (.lst false (ns.map D.int)))
  | [.str a], k => a.length ≤ 100000 ∧ k (.tm (.lst true (a.map fun c => D.str [c])))
  | _, _ => False
abbrev rList2 (K : PySem.W.Frag) : List V → Hp → VK → Prop := fun xs H Q => (∃ p ys, xs = [.ref p] ∧ (SqL K H p ys ∨ SqT K H p ys) ∧ ∀ l, H l = none → Q (.ref l) (upd H l (.lst ys))) ∨
  ∃ a : List Nat, xs = [.str (S a)] ∧ a.length ≤ 100000 ∧ ∀ l, H l = none → l ≠ sysModules → Q (.ref l) (upd H l (.lst (sg a)))
theorem call_list2 {X : Cx} (hc : X.calm = true) : CallR X (.type "list") (rList2 X.K) := CallR.or call_list_of (call_list_tx1 hc)
theorem RA.sg {K : PySem.W.Frag} {I : Hp} : ∀ a : List Nat, RA K I (Vx.sg a) (a.map fun c => D.str [c])
  | [] => .nil
  | c :: r => .cons (.str [c]) (RA.sg r)
theorem calld_list {K : PySem.W.Frag} : CallD K listD (rList2 K) := by
  intro B ps I σ H fr xs ds Q k r rx h kq
  match ds, h with
  | [.lst _ a], h =>
    obtain ⟨v, rfl, rh⟩ := one_of rx
    obtain ⟨p, vs, rfl, e, ra⟩ := rh.lst r.same
    exact .inl ⟨p, vs, rfl, .inl (SqL.of e), new_lst r kq ra h⟩
  | [.tup a], h =>
    obtain ⟨v, rfl, rh⟩ := one_of rx
    obtain ⟨p, vs, rfl, e, ra⟩ := rh.tup r.same
    exact .inl ⟨p, vs, rfl, .inr e, new_lst r kq ra h⟩
  | [.scr ns], h =>
    obtain ⟨v, rfl, rh⟩ := one_of rx
    obtain ⟨p, rfl, e⟩ := rh.scr r.same
    exact .inl ⟨p, _, rfl, .inl e, new_lst r kq (RA.ints ns) h⟩
  | [.str a], h =>
    obtain ⟨v, rfl, rh⟩ := one_of rx
    rw [rh.str]
    exact .inr ⟨a, rfl, h.1, new_lst1 r kq (RA.sg a) h.2⟩
/-! subscripts -/
def ixD : D → D → (Rv → Prop) → Prop
  | .lst _ xs, .int i, k => opt (atI xs i) fun d => k (.sh d)
  | .tup xs, .int i, k => opt (atI xs i) fun d => k (.sh d)
  | .ktp xs, .int i, k => opt (atI xs i) fun d => k (.sh d)
  | .scr xs, .int i, k => opt (atI xs i) fun d => k (.sh (.int d))
  | .str a, .int i, k => a.length ≤ 1000000 ∧ opt (atI a i) fun c => k (.sh (.str [c]))
  | _, _, _ => False
theorem IxR.or {X : Cx} {r r' : R2} (h : IxR X r) (h' : IxR X r') : IxR X (fun x y H Q => r x y H Q ∨ r' x y H Q) := by
  intro value slice pins s σ H x y v u Q I rx ry q hs
  rcases q with q | q
  · exact h value slice pins s σ H x y v u Q I rx ry q hs
  · exact h' value slice pins s σ H x y v u Q I rx ry q hs
abbrev rIx3 (K : PySem.W.Frag) : R2 := fun x y H Q => rIxL K x y H Q ∨ (rIxT K x y H Q ∨ rIxS x y H Q)
theorem ix_3 {X : Cx} : IxR X (rIx3 X.K) := IxR.or ix_list (IxR.or ix_tup ix_str)
theorem atI_ra {K : PySem.W.Frag} {I : Hp} {vs : List V} {ds : List D} {i : Int} {d : D} (ra : RA K I vs ds) (h : atI ds i = some d) : ∃ v, atI vs i = some v ∧ R K I v d := by
  unfold atI at h ⊢
  rw [ra.length]
  cases e : ixN ds.length i with
  | none => rw [e] at h; cases h
  | some j =>
    rw [e] at h
    exact ra.get h
theorem opd_ix {K : PySem.W.Frag} : OpD K ixD (rIx3 K) := by
  intro B ps I σ H fr x y dx dy Q k r rx ry h kq
  cases dy <;> try (cases dx <;> exact h.elim)
  rename_i i
  rw [ry.int]
  cases dx <;> first | exact h.elim | skip
  · obtain ⟨hl, h⟩ := h
    obtain ⟨c, e, q⟩ := opt_get h
    rw [rx.str]
    refine .inr (.inr ⟨S _, i, c, rfl, rfl, by rw [SX.S_len]; exact mil hl, by simpa [S, SX.S] using e, kq _ _ I (.sh (.str [c])) (Ext.refl _ _) r (R.str _) q⟩)
  · obtain ⟨p, vs, rfl, e, ra⟩ := rx.lst r.same
    obtain ⟨d, e2, q⟩ := opt_get h
    obtain ⟨v, e3, rv⟩ := atI_ra ra e2
    exact .inl ⟨p, vs, i, v, rfl, rfl, SqL.of e, e3, kq _ _ I (.sh d) (Ext.refl _ _) r rv q⟩
  · obtain ⟨p, vs, rfl, e, ra⟩ := rx.tup r.same
    obtain ⟨d, e2, q⟩ := opt_get h
    obtain ⟨v, e3, rv⟩ := atI_ra ra e2
    exact .inr (.inl ⟨p, vs, i, v, rfl, rfl, e, e3, kq _ _ I (.sh d) (Ext.refl _ _) r rv q⟩)
  · obtain ⟨p, rfl, e⟩ := rx.scr r.same
    obtain ⟨d, e2, q⟩ := opt_get h
    refine .inl ⟨p, _, i, .int d, rfl, rfl, e, ?_, kq _ _ I (.sh (.int d)) (Ext.refl _ _) r (R.int _) q⟩
    unfold atI at e2 ⊢
    rw [List.length_map]
    cases e : ixN _ i with
    | none => rw [e] at e2; cases e2
    | some j =>
      rw [e] at e2
      show (List.map V.int _)[j]? = _
      rw [List.getElem?_map, show _[j]? = some d from e2]; rfl
  · obtain ⟨p, vs, rfl, e, ra⟩ := rx.ktp r.same
    obtain ⟨d, e2, q⟩ := opt_get h
    obtain ⟨v, e3, rv⟩ := atI_ra ra e2
    exact .inr (.inl ⟨p, vs, i, v, rfl, rfl, e, e3, kq _ _ I (.sh d) (Ext.refl _ _) r rv q⟩)
section
variable {X : Cx} {W : WX} {a b : Expr} {ta tb : DE} {pos : Pos}
theorem fe_ix (ha : PE X a (emb X.K W ta)) (hb : PE X b (emb X.K W tb)) (hs : PlainIx b) : PE X (.Subscript a b pos) (emb X.K W (dTwo ixD ta tb)) := PE.weak (pe_ix ix_3 ha hb hs) fun _ _ _ h => two_emb opd_ix h
end
/-! slices -/
abbrev DO := Fr → (Option Int → Fr → Prop) → ER → Prop
def embO (K : PySem.W.Frag) (W : WX) (te : DO) : TO := fun σ H Q => ∃ B ps I fr Q' Er, Rep K B ps I σ H fr ∧ te fr Q' Er ∧ (∀ o H' J fr', Ext B I J → Rep K B ps J σ H' fr' → Q' o fr' → Q o H') ∧ EK K W B ps I σ Er
def dNoPart : DO := fun fr Q _ => Q none fr
def intR (rv : Rv) (k : Int → Prop) : Prop := match rv with | .sh (.int i) => k i | _ => False
def dPart (te : DE) : DO := fun fr Q Er => te fr (fun rv fr' => intR rv fun i => Q (some i) fr') Er
theorem intR_of {K : PySem.W.Frag} {B J H : Hp} {ps : List Addr} {σ : L2.St} {fr : Fr} {v : V} {rv : Rv} {k : Int → Prop} (o : RvOk K B ps J σ H fr v rv) (q : intR rv k) : ∃ b, v = .int b ∧ k b := by
  cases rv with
  | sh d =>
    cases d <;> first | exact (show False from q).elim | skip
    cases (show R K J v (.int _) from o)
    exact ⟨_, rfl, q⟩
  | _ => exact (show False from q).elim
theorem PO.weak {X : Cx} {e : Option Expr} {t t' : TO} (h : PO X e t) (w : ∀ σ H Q, t' σ H Q → t σ H Q) : PO X e t' := ⟨fun pins s σ H Q I q => h.run pins s σ H Q I (w _ _ _ q)⟩
section
variable {X : Cx} {W : WX} {e : Expr} {lo hi : Option Expr} {te : DE} {tl th : DO} {pos p2 : Pos}
theorem fo_none : PO X none (embO X.K W dNoPart) := PO.weak po_none fun σ H Q h => by
  obtain ⟨B, ps, I, fr, Q', Er, r, q, kq, ke⟩ := h
  exact kq none H I fr (Ext.refl _ _) r q
theorem fo_some (h : PE X e (emb X.K W te)) : PO X (some e) (embO X.K W (dPart te)) := PO.weak (po_some h) fun σ H Q h => by
  obtain ⟨B, ps, I, fr, Q', Er, r, q, kq, ke⟩ := h
  refine ⟨B, ps, I, fr, _, Er, r, q, fun v H' J rv fr' e r' o q' => ?_, ke⟩
  obtain ⟨i, rfl, q2⟩ := intR_of o q'
  exact ⟨i, rfl, kq _ _ _ _ e r' q2⟩
/-- the items of xs[lo:hi] -/
def cutD {α : Type} (xs : List α) (lo hi : Option Int) : List α := (xs.drop (HT.sIx xs.length 0 lo)).take (HT.sIx xs.length xs.length hi - HT.sIx xs.length 0 lo)
def slD (d : D) (lo hi : Option Int) (k : Rv → Prop) : Prop :=
  match d with
  | .str a => a.length ≤ 1000000 ∧ k (.sh (.str (cutL a lo hi)))
  | .lst _ xs => k (.tm (.lst true (cutD xs lo hi)))
  | .scr ns => k (.tm (.lst true ((cutD ns lo hi).map D.int)))
  | _ => False
def dSl (te : DE) (tl th : DO) : DE := fun fr Q Er => te fr (fun a fr1 => tl fr1 (fun lo fr2 => th fr2 (fun hi fr3 => wd a.frz fr3 fun d => slD d lo hi fun rv => Q rv fr3) Er) Er) Er
abbrev rSl2 (K : PySem.W.Frag) : V → Option Int → Option Int → Hp → VK → Prop := fun x lo hi H Q => rSlL1 K x lo hi H Q ∨ rSlT2 x lo hi H Q
theorem sl_2 : SlR X (rSl2 X.K) := SlR.or sl_list1 sl_tx
theorem cut_ra {K : PySem.W.Frag} {I : Hp} {vs : List V} {ds : List D} (ra : RA K I vs ds) (lo hi : Option Int) : RA K I (cutV vs lo hi) (cutD ds lo hi) := by
  unfold cutV cutD
  rw [ra.length]
  exact (ra.drop _).take _
theorem cut_ints (ns : List Int) (lo hi : Option Int) : cutV (ns.map V.int) lo hi = (cutD ns lo hi).map V.int := by
  unfold cutV cutD
  rw [List.length_map, List.map_take, List.map_drop]
theorem fe_sl (he : PE X e (emb X.K W te)) (hl : PO X lo (embO X.K W tl)) (hh : PO X hi (embO X.K W th)) : PE X (.Subscript e (.Slice lo hi none p2) pos) (emb X.K W (dSl te tl th)) := PE.weak (pe_slice sl_2 he hl hh) fun σ H Q h => by
  obtain ⟨B, ps, I, fr, Q', Er, r, q, kq, ke⟩ := h
  refine ⟨B, ps, I, fr, _, Er, r, q, fun v H1 J1 rv fr1 e1 r1 o1 q1 => ?_, ke⟩
  obtain ⟨J2, e2, r2, o2⟩ := frz_of r1 o1
  refine ⟨B, ps, J2, fr1, _, Er, r2, q1, fun lo H3 J3 fr3 e3 r3 q3 => ?_, ke.ext (e1.trans e2)⟩
  refine ⟨B, ps, J3, fr3, _, Er, r3, q3, fun hi H4 J4 fr4 e4 r4 q4 => ?_, ke.ext (e1.trans (e2.trans e3))⟩
  have eA := e1.trans (e2.trans (e3.trans e4))
  obtain ⟨d, q5, rh⟩ := (o2.mono (e3.1.trans e4.1)).wd r4 q4
  cases d <;> first | exact (show False from q5).elim | skip
  · obtain ⟨h1, h2⟩ := q5
    exact .inr ⟨_, rh.str, h1, kq _ _ J4 (.sh (.str _)) fr4 eA r4 (R.str _) h2⟩
  · obtain ⟨p, vs, rfl, e, ra⟩ := rh.lst r4.same
    exact .inl ⟨p, vs, rfl, SqL.of e, new_lst1 (k := fun rv => Q' rv fr4) r4 (fun v H' J rv e5 r5 o5 k5 => kq v H' J rv fr4 (eA.trans e5) r5 o5 k5) (cut_ra ra lo hi) q5⟩
  · obtain ⟨p, rfl, e⟩ := rh.scr r4.same
    refine .inl ⟨p, _, rfl, e, ?_⟩
    rw [cut_ints]
    exact new_lst1 (k := fun rv => Q' rv fr4) r4 (fun v H' J rv e5 r5 o5 k5 => kq v H' J rv fr4 (eA.trans e5) r5 o5 k5) (RA.ints _) q5
/-- text[::-1], list[::-1] -/
def revSD (d : D) (k : Rv → Prop) : Prop := match d with | .str a => a.length ≤ 1000000 ∧ k (.sh (.str a.reverse)) | _ => False
def revLD (d : D) (k : Rv → Prop) : Prop := match d with | .lst _ a => k (.tm (.lst true a.reverse)) | _ => False
theorem fe_revS {k : Nat} {p1 p2 p3 : Pos} (he : PE X e (emb X.K W te)) : PE X (.Subscript e (.Slice none none (some (.UnaryOp .USub (.Constant (.int 1) k p1) p2)) p3) pos) (emb X.K W (dOne revSD te)) := PE.weak (pe_revS he) fun σ H Q h =>
  one_emb (r := fun x H1 Q => ∃ a : List Nat, x = .str (S a) ∧ a.length ≤ sizeLine ∧ Q (.str (S a.reverse)) H1) (fun B ps I σ H fr x dx Q k r rx h kq => by
    cases dx <;> first | exact (show False from h).elim | skip
    exact ⟨_, rx.str, mil h.1, kq _ _ I (.sh (.str _)) (Ext.refl _ _) r (R.str _) h.2⟩) h
theorem fe_revL {k : Nat} {p1 p2 p3 : Pos} (he : PE X e (emb X.K W te)) : PE X (.Subscript e (.Slice none none (some (.UnaryOp .USub (.Constant (.int 1) k p1) p2)) p3) pos) (emb X.K W (dOne revLD te)) := PE.weak (pe_revL1 he) fun σ H Q h =>
  one_emb (r := fun x H1 Q => ∃ a xs, x = .ref a ∧ SqL X.K H1 a xs ∧ ∀ p, H1 p = none → p ≠ sysModules → Q (.ref p) (upd H1 p (.lst xs.reverse))) (fun B ps I σ H fr x dx Q k r rx h kq => by
    cases dx <;> first | exact (show False from h).elim | skip
    obtain ⟨p, vs, rfl, e, ra⟩ := rx.lst r.same
    exact ⟨p, vs, rfl, SqL.of e, new_lst1 r kq ra.reverse h⟩) h
/-- -x -/
def negD (d : D) (k : Rv → Prop) : Prop := match d with | .int i => k (.sh (.int (-i))) | _ => False
theorem fe_neg (he : PE X e (emb X.K W te)) : PE X (.UnaryOp .USub e pos) (emb X.K W (dOne negD te)) := PE.weak (pe_un un_neg he) fun σ H Q h =>
  one_emb (r := fun x H1 Q => rU (fun i => .int (-i)) x H1 Q) (fun B ps I σ H fr x dx Q k r rx h kq => by
    cases dx <;> first | exact (show False from h).elim | skip
    exact ⟨_, rx.int, kq _ _ I (.sh (.int _)) (Ext.refl _ _) r (R.int _) h⟩) h
end
end Dl
namespace Dl
open PySem PySem.Spec PyProof.Rows L2 Vx
/-! frames in normal form -/
def nfl {α : Type} : List α → (List α → Prop) → Prop
  | [], k => k []
  | a :: r, k => nfl r fun t => k (a :: t)
theorem nfl_eq {α : Type} : ∀ (l : List α) (k : List α → Prop), nfl l k = k l
  | [], _ => rfl
  | a :: r, k => nfl_eq r fun t => k (a :: t)
def nfF (fr : Fr) (k : Fr → Prop) : Prop := nfl fr.sl fun s => nfl fr.ps fun p => k ⟨s, p⟩
theorem nfF_eq (fr : Fr) (k : Fr → Prop) : nfF fr k = k fr := by
  unfold nfF
  rw [nfl_eq, nfl_eq]
/-! statements -/
structure DEnds where
  nx : Fr → Prop
  rt : QR
  bk : Fr → Prop := fun _ => False
  ct : Fr → Prop := fun _ => False
abbrev DS := DEnds → ER → Fr → Prop
def EKs (K : PySem.W.Frag) (W : WX) (B : Hp) (ps : List Addr) (I : Hp) (Er : ER) : Prop := ∀ σ, EK K W B ps I σ Er
theorem EKs.ext {K : PySem.W.Frag} {W : WX} {B I J : Hp} {ps : List Addr} {Er : ER} (k : EKs K W B ps I Er) (e : Ext B I J) : EKs K W B ps J Er := fun σ => (k σ).ext e
structure EndsOk (K : PySem.W.Frag) (B : Hp) (ps : List Addr) (I : Hp) (Dn : DEnds) (D : Ends) : Prop where
  nx : ∀ σ' H' J fr', Ext B I J → Rep K B ps J σ' H' fr' → Dn.nx fr' → D.nx σ' H'
  rt : ∀ v σ' H' J rv fr', Ext B I J → Rep K B ps J σ' H' fr' → RvOk K B ps J σ' H' fr' v rv → Dn.rt rv fr' → D.rt v H'
  bk : ∀ σ' H' J fr', Ext B I J → Rep K B ps J σ' H' fr' → Dn.bk fr' → D.bk σ' H'
  ct : ∀ σ' H' J fr', Ext B I J → Rep K B ps J σ' H' fr' → Dn.ct fr' → D.ct σ' H'
theorem EndsOk.ext {K : PySem.W.Frag} {B I J : Hp} {ps : List Addr} {Dn : DEnds} {D : Ends} (k : EndsOk K B ps I Dn D) (e : Ext B I J) : EndsOk K B ps J Dn D :=
  ⟨fun s h j f x => k.nx s h j f (e.trans x), fun v s h j r f x => k.rt v s h j r f (e.trans x), fun s h j f x => k.bk s h j f (e.trans x), fun s h j f x => k.ct s h j f (e.trans x)⟩
def embS (K : PySem.W.Frag) (W : WX) (t : DS) : TS := fun D σ H => ∃ B ps I fr Dn Er, Rep K B ps I σ H fr ∧ t Dn Er fr ∧ EndsOk K B ps I Dn D ∧ EKs K W B ps I Er
/-! targets -/
abbrev DG := Rv → Fr → (Fr → Prop) → ER → Prop
abbrev DGs := List D → Fr → (Fr → Prop) → ER → Prop
/-- what a target may do to the slots -/
structure PP (P : L2.St → L2.St → Prop) : Prop where
  refl : ∀ σ, P σ σ
  trans : ∀ a b c, P a b → P b c → P a c
def AnyP : L2.St → L2.St → Prop := fun _ _ => True
theorem anyP : PP AnyP := ⟨fun _ => trivial, fun _ _ _ _ _ => trivial⟩
def embG (K : PySem.W.Frag) (W : WX) (P : L2.St → L2.St → Prop) (g : DG) : TG := fun v σ H Q => ∃ B ps I fr rv Q' Er, Rep K B ps I σ H fr ∧ RvOk K B ps I σ H fr v rv ∧ g rv fr Q' Er ∧ (∀ σ' H' J fr', P σ σ' → Ext B I J → Rep K B ps J σ' H' fr' → Q' fr' → Q σ' H') ∧ EKs K W B ps I Er
def embGs (K : PySem.W.Frag) (W : WX) (P : L2.St → L2.St → Prop) (g : DGs) : TGs := fun vs σ H Q => ∃ B ps I fr ds Q' Er, Rep K B ps I σ H fr ∧ RA K I vs ds ∧ g ds fr Q' Er ∧ (∀ σ' H' J fr', P σ σ' → Ext B I J → Rep K B ps J σ' H' fr' → Q' fr' → Q σ' H') ∧ EKs K W B ps I Er
def setSl (i : Nat) (rv : Rv) (fr : Fr) (k : Fr → Prop) : Prop :=
  match rv with
  | .sh d => k { fr with sl := fr.sl.set i (some (.sh d)) }
  | .tm d => k { fr with sl := fr.sl.set i (some (.ow d)) }
  | .pa j => k { fr with sl := fr.sl.set i (some (.pa j)) }
  | .pl j => match fr.sl[j]? with
    | some (some (.ow d)) => k { fr with sl := (fr.sl.set j (some (.sh d))).set i (some (.sh d)) }
    | _ => False
theorem setSl_of {K : PySem.W.Frag} {B I H : Hp} {ps : List Addr} {σ : L2.St} {fr : Fr} {v : V} {rv : Rv} {i : Nat} {k : Fr → Prop} (r : Rep K B ps I σ H fr) (o : RvOk K B ps I σ H fr v rv) (q : setSl i rv fr k) :
    ∃ fr' J, k fr' ∧ Ext B I J ∧ Rep K B ps J (σ.set i (some v)) H fr' := by
  cases rv with
  | sh d => exact ⟨_, I, q, Ext.refl _ _, r.setSh o⟩
  | tm d =>
    obtain ⟨p, rfl, b, c, n, a, rt⟩ := o
    exact ⟨_, I, q, Ext.refl _ _, r.setOw b c n a rt⟩
  | pa j =>
    obtain ⟨p, e, rfl⟩ := o
    exact ⟨_, I, q, Ext.refl _ _, r.setPa e⟩
  | pl j =>
    obtain ⟨e, d, e2⟩ := o
    have q' : (match fr.sl[j]? with | some (some (.ow d)) => k { fr with sl := (fr.sl.set j (some (.sh d))).set i (some (.sh d)) } | _ => False) := q
    rw [e2] at q'
    obtain ⟨J, e1, r1, h⟩ := r.share e2 e
    exact ⟨_, J, q', e1, r1.setSh h⟩
def dgName (i : Nat) : DG := fun rv fr Q _ => setSl i rv fr Q
section
variable {X : Cx} {W : WX} {pos : Pos} {P : L2.St → L2.St → Prop}
theorem PG.weak {e : Expr} {t t' : TG} (h : PG X e t) (w : ∀ v σ H Q, t' v σ H Q → t v σ H Q) : PG X e t' := ⟨fun pins s σ H v u Q I r q => h.run pins s σ H v u Q I r (w _ _ _ _ q)⟩
theorem PGs.weak {e : List Expr} {t t' : TGs} (h : PGs X e t) (w : ∀ v σ H Q, t' v σ H Q → t v σ H Q) : PGs X e t' := ⟨fun pins s σ H v u Q I r q => h.run pins s σ H v u Q I r (w _ _ _ _ q)⟩
theorem fg_name {i : Nat} {x : Str} (h : PG X (.Name x pos) (gName i)) (hP : ∀ σ v, P σ (σ.set i (some v))) : PG X (.Name x pos) (embG X.K W P (dgName i)) := PG.weak h fun v σ H Q ⟨B, ps, I, fr, rv, Q', Er, r, o, q, kq, ke⟩ => by
  obtain ⟨fr', J, q', e, r'⟩ := setSl_of r o q
  exact kq _ _ _ _ (hP _ _) e r' q'
def dgNil : DGs := fun ds fr Q _ => match ds with | [] => Q fr | _ => False
def dgCons (g : DG) (gs : DGs) : DGs := fun ds fr Q Er => match ds with | d :: r => g (.sh d) fr (fun fr' => gs r fr' Q Er) Er | [] => False
theorem fgs_nil (hP : PP P) : PGs X [] (embGs X.K W P dgNil) := PGs.weak pgs_nil fun v σ H Q ⟨B, ps, I, fr, ds, Q', Er, r, o, q, kq, ke⟩ => by
  cases o with
  | nil => exact ⟨rfl, kq _ _ _ _ (hP.refl _) (Ext.refl _ _) r q⟩
  | cons => exact (show False from q).elim
theorem fgs_cons {e : Expr} {es : List Expr} {g : DG} {gs : DGs} (hP : PP P) (h1 : PG X e (embG X.K W P g)) (h2 : PGs X es (embGs X.K W P gs))
    (hs : (assignEach (e :: es) X.env).map (·.2) = assign e X.env :: (assignEach es X.env).map (·.2) := by rfl) : PGs X (e :: es) (embGs X.K W P (dgCons g gs)) := PGs.weak (pgs_cons h1 h2 hs) fun v σ H Q ⟨B, ps, I, fr, ds, Q', Er, r, o, q, kq, ke⟩ => by
  cases o with
  | nil => exact (show False from q).elim
  | cons a b =>
    exact ⟨_, _, rfl, B, ps, I, fr, .sh _, _, Er, r, a, q, fun σ1 H1 J1 fr1 p1 e1 r1 q1 => ⟨B, ps, J1, fr1, _, Q', Er, r1, b.mono e1.1, q1, fun σ2 H2 J2 fr2 p2 e2 r2 q2 => kq _ _ _ _ (hP.trans _ _ _ p1 p2) (e1.trans e2) r2 q2, ke.ext e1⟩, ke⟩
def dgTup (n : Nat) (gs : DGs) : DG := fun rv fr Q Er => match rv with | .sh (.tup ds) => Br (Nat.beq ds.length n) (gs ds fr Q Er) False | _ => False
def dgLst (n : Nat) (gs : DGs) : DG := fun rv fr Q Er => wd rv fr fun d => match d with | .lst _ ds => Br (Nat.beq ds.length n) (gs ds fr Q Er) False | _ => False
theorem br_beq {n m : Nat} {P : Prop} (h : Br (Nat.beq n m) P False) : n = m ∧ P := by
  cases e : Nat.beq n m with
  | true => rw [e] at h; exact ⟨Nat.eq_of_beq_eq_true e, h.t1⟩
  | false => rw [e] at h; exact h.f1.elim
theorem fg_tup {es : List Expr} {k : Nat} {gs : DGs} {n : Nat} (hc : X.calm = true) (h : PGs X es (embGs X.K W P gs))
    (hn : (assignEach es X.env).length = n := by rfl) (hst : (assignEach es X.env).findIdx? (·.1) = none := by rfl) : PG X (.Tuple es k pos) (embG X.K W P (dgTup n gs)) := PG.weak (pg_tup hc h hn hst) fun v σ H Q ⟨B, ps, I, fr, rv, Q', Er, r, o, q, kq, ke⟩ => by
  cases rv with
  | sh d =>
    cases d with
    | tup ds =>
      obtain ⟨hl, q⟩ := br_beq q
      cases (show R X.K I v (.tup ds) from o) with
      | tup e ra => exact ⟨_, _, rfl, SqT.of (r.same _ _ e), by rw [ra.length]; exact hl, B, ps, I, fr, ds, Q', Er, r, ra, q, kq, ke⟩
    | _ => exact (show False from q).elim
  | _ => exact (show False from q).elim
theorem rv_lst {K : PySem.W.Frag} {B I H : Hp} {ps : List Addr} {σ : L2.St} {fr : Fr} {v : V} {rv : Rv} {k : D → Prop} (r : Rep K B ps I σ H fr) (o : RvOk K B ps I σ H fr v rv) (q : wd rv fr k) : ∃ d, k d ∧ RH K I H v d := by
  cases rv with
  | sh d => exact ⟨d, q, .inl o⟩
  | tm d =>
    obtain ⟨p, rfl, b, c, n, a, rt⟩ := o
    exact ⟨d, q, .inr ⟨p, rfl, rt⟩⟩
  | pl i => exact OpOk.wd (rv := .pl i) o.1 r q
  | pa i => exact OpOk.wd (rv := .pa i) o r q
theorem fg_lst {es : List Expr} {k : Nat} {gs : DGs} {n : Nat} (hc : X.calm = true) (h : PGs X es (embGs X.K W P gs))
    (hn : (assignEach es X.env).length = n := by rfl) (hst : (assignEach es X.env).findIdx? (·.1) = none := by rfl) : PG X (.Tuple es k pos) (embG X.K W P (dgLst n gs)) := PG.weak (pg_lst hc h hn hst) fun v σ H Q ⟨B, ps, I, fr, rv, Q', Er, r, o, q, kq, ke⟩ => by
  obtain ⟨d, q1, rh⟩ := rv_lst r o q
  cases d with
  | lst z ds =>
    obtain ⟨hl, q⟩ := br_beq q1
    obtain ⟨p, vs, rfl, e, ra⟩ := rh.lst r.same
    exact ⟨_, _, rfl, SqL.of e, by rw [ra.length]; exact hl, B, ps, I, fr, ds, Q', Er, r, ra, q, kq, ke⟩
  | _ => exact (show False from q1).elim
end
/-! an object is changed -/
section
variable {K : PySem.W.Frag} {B I H : Hp} {ps : List Addr} {σ : L2.St} {fr : Fr}
theorem Rep.mutOw (r : Rep K B ps I σ H fr) {i : Nat} {p : Addr} {d d' : D} {o : HO} (e : fr.sl[i]? = some (some (.ow d))) (hv : σ[i]? = some (some (.ref p))) (rt : Root K I (upd H p o) p d') :
    Rep K B ps I σ (upd H p o) { fr with sl := fr.sl.set i (some (.ow d')) } := by
  obtain ⟨v, e1, q, e2, b, c, n, rt0⟩ := r.slot i _ e
  rw [hv] at e1; cases e1; cases e2
  have hl := (List.getElem?_eq_some_iff.mp e).1
  refine ⟨fun x u h => ?_, fun x u h hn => ?_, r.nd, r.plen, fun k y h => ?_, r.pout, by simpa using r.slen, fun j sv h => ?_, fun x y q u w n2 h1 h2 h3 => ?_⟩
  · have hx : x ≠ p := fun z => by rw [z, c] at h; cases h
    rw [upd_ne hx]; exact r.same x u h
  · have hx : x ≠ p := fun z => by rw [z, b] at h; cases h
    rw [upd_ne hx]; exact r.keep x u h hn
  · obtain ⟨q, e1, rt'⟩ := r.par k y h
    have hq : q ≠ p := fun z => n (by rw [← z]; exact List.mem_of_getElem? e1)
    exact ⟨q, e1, rt'.mono (Same.refl _) (upd_ne hq)⟩
  · by_cases hj : j = i
    · subst hj
      rw [List.getElem?_set_self hl] at h
      cases h
      exact ⟨_, hv, p, rfl, b, c, n, rt⟩
    · rw [List.getElem?_set_ne (Ne.symm hj)] at h
      obtain ⟨v, e1, z⟩ := r.slot j sv h
      refine ⟨v, e1, ?_⟩
      cases sv with
      | sh y => exact z
      | pa y => exact z
      | ex y => exact z
      | ow y =>
        obtain ⟨q, e2, b', c', n', rt'⟩ := z
        subst e2
        have hq : q ≠ p := fun z => r.own j i q y d hj h e e1 (by rw [z]; exact hv)
        exact ⟨q, rfl, b', c', n', rt'.mono (Same.refl _) (upd_ne hq)⟩
  · by_cases hx : x = i
    · subst hx
      rw [List.getElem?_set_ne n2] at h2
      exact r.own x y q d w n2 e h2 h3
    · rw [List.getElem?_set_ne (Ne.symm hx)] at h1
      by_cases hy : y = i
      · subst hy; exact r.own x y q u d n2 h1 e h3
      · rw [List.getElem?_set_ne (Ne.symm hy)] at h2
        exact r.own x y q u w n2 h1 h2 h3
theorem Rep.mutPa (r : Rep K B ps I σ H fr) {k : Nat} {p : Addr} {d' : D} {o : HO} (e : ps[k]? = some p) (rt : Root K I (upd H p o) p d') : Rep K B ps I σ (upd H p o) { fr with ps := fr.ps.set k d' } := by
  have hp : p ∈ ps := List.mem_of_getElem? e
  have c := r.pout p hp
  refine ⟨fun x u h => ?_, fun x u h hn => ?_, r.nd, by simpa using r.plen, fun j y h => ?_, r.pout, r.slen, fun j sv h => ?_, r.own⟩
  · have hx : x ≠ p := fun z => by rw [z, c] at h; cases h
    rw [upd_ne hx]; exact r.same x u h
  · have hx : x ≠ p := fun z => hn (by rw [z]; exact hp)
    rw [upd_ne hx]; exact r.keep x u h hn
  · by_cases hj : j = k
    · subst hj
      have hl : j < fr.ps.length := by
        have := (List.getElem?_eq_some_iff.mp h).1
        simpa using this
      rw [List.getElem?_set_self hl] at h
      cases h
      exact ⟨p, e, rt⟩
    · rw [List.getElem?_set_ne (Ne.symm hj)] at h
      obtain ⟨q, e1, rt'⟩ := r.par j y h
      have hq : q ≠ p := fun z => by
        subst z
        have a1 := (List.getElem?_eq_some_iff.mp e1).1
        exact hj ((List.getElem?_inj a1 r.nd).mp (e1.trans e.symm))
      exact ⟨q, e1, rt'.mono (Same.refl _) (upd_ne hq)⟩
  · obtain ⟨v, e1, z⟩ := r.slot j sv h
    refine ⟨v, e1, ?_⟩
    cases sv with
    | sh y => exact z
    | pa y => exact z
    | ex y => exact z
    | ow y =>
      obtain ⟨q, e2, b', c', n', rt'⟩ := z
      have hq : q ≠ p := fun z => n' (by rw [z]; exact hp)
      exact ⟨q, e2, b', c', n', rt'.mono (Same.refl _) (upd_ne hq)⟩
end
/-- the object at a place becomes what f says -/
def upAt (rv : Rv) (fr : Fr) (f : D → (D → Rv → Prop) → Prop) (k : Rv → Fr → Prop) : Prop :=
  match rv with
  | .pl i => match fr.sl[i]? with
    | some (some (.ow d)) => f d fun d' r => k r { fr with sl := fr.sl.set i (some (.ow d')) }
    | _ => False
  | .pa j => match fr.ps[j]? with
    | some d => f d fun d' r => k r { fr with ps := fr.ps.set j d' }
    | none => False
  | _ => False
/-- a rule that changes the object at p answers f -/
def MutD (K : PySem.W.Frag) (f : D → (D → Rv → Prop) → Prop) (I H : Hp) (p : Addr) (t : (V → Hp → Prop) → Prop) : Prop := ∀ (d : D) (k : D → Rv → Prop) (Q : V → Hp → Prop), Root K I H p d → f d k →
  (∀ o d' v e, Root K I (upd H p o) p d' → R K I v e → k d' (.sh e) → Q v (upd H p o)) → t Q
theorem upAt_of {K : PySem.W.Frag} {B I H : Hp} {ps : List Addr} {σ : L2.St} {fr : Fr} {rv : Rv} {v : V} {f : D → (D → Rv → Prop) → Prop} {k : Rv → Fr → Prop} (r : Rep K B ps I σ H fr) (o : OpOk K ps I σ v rv) (q : upAt rv fr f k) :
    ∃ p, v = .ref p ∧ ∀ (t : (V → Hp → Prop) → Prop) (Q : V → Hp → Prop), MutD K f I H p t → (∀ u H' e fr', Rep K B ps I σ H' fr' → R K I u e → k (.sh e) fr' → Q u H') → t Q := by
  cases rv with
  | sh d => exact (show False from q).elim
  | tm d => exact o.elim
  | pl i =>
    have q' : (match fr.sl[i]? with | some (some (.ow d)) => f d fun d' r => k r { fr with sl := fr.sl.set i (some (.ow d')) } | _ => False) := q
    split at q'
    · rename_i d e
      obtain ⟨v', e1, p, e2, b, c, n, rt⟩ := r.slot i _ e
      rw [show σ[i]? = some (some v) from o] at e1
      cases e1; subst e2
      exact ⟨p, rfl, fun t Q m kq => m d _ Q rt q' fun o' d' u e3 rt' re k' => kq u _ e3 _ (r.mutOw e o rt') re k'⟩
    · exact q'.elim
  | pa j =>
    obtain ⟨p, e, rfl⟩ := o
    have q' : (match fr.ps[j]? with | some d => f d fun d' r => k r { fr with ps := fr.ps.set j d' } | none => False) := q
    split at q'
    · rename_i d e2
      obtain ⟨p', e3, rt⟩ := r.par j _ e2
      rw [e] at e3; cases e3
      exact ⟨p, rfl, fun t Q m kq => m d _ Q rt q' fun o' d' u e3 rt' re k' => kq u _ e3 _ (r.mutPa e rt') re k'⟩
    · exact q'.elim
/-! methods of lists that change them -/
def isLst (d : D) (P : Prop) : Prop := match d with | .lst _ _ => P | _ => False
def dMut (f : D → List D → (D → Rv → Prop) → Prop) (to : DE) (ta : DA) : DE := fun fr Q Er => to fr (fun ro fr1 => wd ro fr1 fun d0 => isLst d0 (ta fr1 (fun rs fr2 => shrs rs fr2 fun ds fr3 => upAt ro fr3 (fun d k => f d ds k) Q) Er)) Er
def appendD : D → List D → (D → Rv → Prop) → Prop
  | .lst z xs, [x], k => xs.length < 1000000 ∧ k (.lst z (xs ++ [x])) (.sh .non)
  | _, _, _ => False
def extendD : D → List D → (D → Rv → Prop) → Prop
  | .lst z xs, [.lst _ ys], k => xs.length + ys.length ≤ 1000000 ∧ k (.lst z (xs ++ ys)) (.sh .non)
  | _, _, _ => False
def popD : D → List D → (D → Rv → Prop) → Prop
  | .lst z xs, [], k => opt xs.getLast? fun x => k (.lst z xs.dropLast) (.sh x)
  | _, _, _ => False
theorem Root.lst_of {K : PySem.W.Frag} {I H : Hp} {p : Addr} {z : Bool} {vs : List V} {ds : List D} (n : z = true → p ≠ sysModules) (r : RA K I vs ds) : Root K I (upd H p (.lst vs)) p (.lst z ds) := ⟨vs, upd_same, n, r⟩
section
variable {X : Cx} {W : WX} {o e : Expr} {es : List Expr} {to : DE} {ta : DA} {apos cpos : Pos} {name : Str} {id : String} {r : V → List V → Hp → VK → Prop} {f : D → List D → (D → Rv → Prop) → Prop}
theorem mut_emb {K : PySem.W.Frag} {W : WX} (hf : ∀ (I H : Hp) (p : Addr) (vs : List V) (ds : List D), RA K I vs ds → Same I H → MutD K (fun d k => f d ds k) I H p fun Q => r (.ref p) vs H Q) {σ : L2.St} {H : Hp} {Q : VK} (h : emb K W (dMut f to ta) σ H Q) :
    tBM K "list" r (emb K W to) (embA K W ta) σ H Q := by
  obtain ⟨B, ps, I, fr, Q', Er, r0, q, kq, ke⟩ := h
  refine ⟨B, ps, I, fr, _, Er, r0, q, fun v H1 J1 ro fr1 e1 r1 o1 q1 => ?_, ke⟩
  obtain ⟨d0, q2, rh⟩ := rv_lst r1 o1 q1
  cases d0 with
  | lst z0 xs0 =>
    obtain ⟨p, vs0, rfl, e0, ra0⟩ := rh.lst r1.same
    refine ⟨.inl ⟨rfl, vs0, SqL.of e0⟩, B, ps, J1, fr1, _, Er, r1, q2, fun vs H2 J2 rs fr2 e2 r2 o2 q3 => ?_, ke.ext e1⟩
    obtain ⟨ds, fr3, J3, q4, e3, r3, ra⟩ := shrs_of r2 o2 q3
    have op : OpOk K ps J3 σ (.ref p) ro := by
      cases ro with
      | sh d => exact (show False from q4).elim
      | tm d => exact (show False from q4).elim
      | pl i => exact o1.1
      | pa i => exact o1
    obtain ⟨p', e5, up⟩ := upAt_of r3 op q4
    cases e5
    exact up (fun Q => r (.ref p) vs H2 Q) Q (hf J3 H2 p vs ds ra r3.same) fun u H' e fr' r' re k' => kq u H' J3 (.sh e) fr' (e1.trans (e2.trans e3)) r' re k'
  | _ => exact (show False from q2).elim
theorem fe_append (ho : PE X o (emb X.K W to)) (ha : PA X (e :: es) (embA X.K W ta)) (hbase : attributeBase o "append" X.env (eval o X.env) = eval o X.env := by rfl)
    (hfew : ((backTo cpos (starEach (e :: es) X.env)).all (fun x => !x.1) && (backToKw cpos (keywordEach [] X.env)).all (fun x => x.1.isSome)
      && decide ((e :: es).length + ([] : List Keyword).length + (if ([] : List Keyword).isEmpty then 0 else 1) < 30)) = true := by rfl)
    (hline : (apos.endLine == cpos.line) = true := by rfl) (hs : starEach (e :: es) X.env = (false, eval e X.env) :: starEach es X.env := by rfl) (hplain : (backTo cpos (starEach es X.env)).any (·.1) = false := by rfl) :
    PE X (.Call (.Attribute o "append" apos) (e :: es) [] cpos) (emb X.K W (dMut appendD to ta)) :=
  PE.weak (pe_bm F.plainAttrs_list F.slot_list_append F.type_list_append mt_append ho ha hbase hfew hline hs hplain) fun σ H Q h => mut_emb (fun I H p vs ds ra s d k Q rt h kq => by
    match d, ds, h with
    | .lst z xs, [x], h =>
      obtain ⟨us, e, nz, rx⟩ := rt
      cases ra with
      | cons a b =>
        cases b
        exact ⟨p, us, _, rfl, rfl, e, by rw [rx.length]; exact Nat.lt_of_lt_of_le h.1 (mil (Nat.le_refl _)), kq _ _ _ _ (Root.lst_of nz (rx.append (.cons a .nil))) .non h.2⟩) h
theorem fe_extend (ho : PE X o (emb X.K W to)) (ha : PA X (e :: es) (embA X.K W ta)) (hbase : attributeBase o "extend" X.env (eval o X.env) = eval o X.env := by rfl)
    (hfew : ((backTo cpos (starEach (e :: es) X.env)).all (fun x => !x.1) && (backToKw cpos (keywordEach [] X.env)).all (fun x => x.1.isSome)
      && decide ((e :: es).length + ([] : List Keyword).length + (if ([] : List Keyword).isEmpty then 0 else 1) < 30)) = true := by rfl)
    (hline : (apos.endLine == cpos.line) = true := by rfl) (hs : starEach (e :: es) X.env = (false, eval e X.env) :: starEach es X.env := by rfl) (hplain : (backTo cpos (starEach es X.env)).any (·.1) = false := by rfl) :
    PE X (.Call (.Attribute o "extend" apos) (e :: es) [] cpos) (emb X.K W (dMut extendD to ta)) :=
  PE.weak (pe_bm F.plainAttrs_list F.slot_list_extend F.type_list_extend mt_extend ho ha hbase hfew hline hs hplain) fun σ H Q h => mut_emb (fun I H p vs ds ra s d k Q rt h kq => by
    match d, ds, h with
    | .lst z xs, [.lst _ ys], h =>
      obtain ⟨us, e, nz, rx⟩ := rt
      cases ra with
      | cons a b =>
        cases b
        cases a with
        | lst e2 n2 ry => exact ⟨p, _, us, _, rfl, rfl, e, s _ _ e2, mil (by rw [rx.length, ry.length]; exact h.1), kq _ _ _ _ (Root.lst_of nz (rx.append ry)) .non h.2⟩) h
theorem fe_pop (ho : PE X o (emb X.K W to)) (hbase : attributeBase o "pop" X.env (eval o X.env) = eval o X.env := by rfl) (hline : (apos.endLine == cpos.line) = true := by rfl) :
    PE X (.Call (.Attribute o "pop" apos) [] [] cpos) (emb X.K W (dMut popD to dNil)) :=
  PE.weak (pe_bm0 F.plainAttrs_list F.slot_list_pop F.type_list_pop mt_pop ho hbase hline) fun σ H Q h => by
    have m := mut_emb (r := rPop) (fun I H p vs ds ra s d k Q rt h kq => by
      match d, ds, h with
      | .lst z xs, [], h =>
        obtain ⟨us, e, nz, rx⟩ := rt
        cases ra
        obtain ⟨x, e2, q⟩ := opt_get h
        rw [List.getLast?_eq_getElem?] at e2
        obtain ⟨v, e3, rv⟩ := rx.get e2
        rw [← rx.length] at e3
        refine ⟨p, us, v, rfl, rfl, e, e3, kq _ _ _ _ (Root.lst_of nz ?_) rv q⟩
        rw [List.dropLast_eq_take, List.dropLast_eq_take, rx.length]
        exact rx.take _) h
    obtain ⟨B, ps, I, fr, Q', Er, r0, q, kq, ke⟩ := m
    refine ⟨B, ps, I, fr, Q', Er, r0, q, fun v H1 J1 ro fr1 e1 r1 o1 q1 => ?_, ke⟩
    obtain ⟨t1, B2, ps2, I2, fr2, Q2, Er2, r2, q2, kq2, ke2⟩ := kq v H1 J1 ro fr1 e1 r1 o1 q1
    exact ⟨t1, kq2 [] H1 I2 [] fr2 (Ext.refl _ _) r2 .nil q2⟩
end
/-! small statements -/
def dNext : DS := fun Dn _ fr => Dn.nx fr
def dSeq (t u : DS) : DS := fun Dn Er fr => nfF fr fun fr0 => Sg (t { Dn with nx := fun fr' => nfF fr' fun f => u Dn Er f } Er fr0)
def dExpr (te : DE) : DS := fun Dn Er fr => te fr (fun _ fr' => Dn.nx fr') Er
def dRet (te : DE) : DS := fun Dn Er fr => te fr Dn.rt Er
def dRetN : DS := fun Dn _ fr => Dn.rt (.sh .non) fr
def dIfS (c : DT) (t u : DS) : DS := fun Dn Er fr => c fr (fun b fr' => Br b (t Dn Er fr') (u Dn Er fr')) Er
def dAsg (te : DE) (g : DG) : DS := fun Dn Er fr => te fr (fun rv fr' => g rv fr' Dn.nx Er) Er
def dBreak : DS := fun Dn _ fr => Dn.bk fr
def dCont : DS := fun Dn _ fr => Dn.ct fr
def dRaise (C : Addr) : DS := fun _ Er fr => Er C noFld fr
section
variable {X : Cx} {W : WX} {st : Stmt} {rest : List Stmt} {t u : DS} {e : Expr} {te : DE} {pos : Pos}
theorem PS.weak {st : Stmt} {t t' : TS} (h : PS X st t) (w : ∀ D σ H, t' D σ H → t D σ H) : PS X st t' := ⟨fun pins s σ H D I q => h.run pins s σ H D I (w _ _ _ q)⟩
theorem PSs.weak {st : List Stmt} {t t' : TS} (h : PSs X st t) (w : ∀ D σ H, t' D σ H → t D σ H) : PSs X st t' := ⟨fun pins s σ H D I q => h.run pins s σ H D I (w _ _ _ q)⟩
theorem fss_nil : PSs X [] (embS X.K W dNext) := PSs.weak pss_nil fun D σ H ⟨B, ps, I, fr, Dn, Er, r, q, kd, ke⟩ => kd.nx _ _ _ _ (Ext.refl _ _) r q
theorem fs_pass : PS X (.Pass pos) (embS X.K W dNext) := PS.weak ps_pass fun D σ H ⟨B, ps, I, fr, Dn, Er, r, q, kd, ke⟩ => kd.nx _ _ _ _ (Ext.refl _ _) r q
theorem fs_break : PS X (.Break pos) (embS X.K W dBreak) := PS.weak ps_break fun D σ H ⟨B, ps, I, fr, Dn, Er, r, q, kd, ke⟩ => kd.bk _ _ _ _ (Ext.refl _ _) r q
theorem fs_continue : PS X (.Continue pos) (embS X.K W dCont) := PS.weak ps_continue fun D σ H ⟨B, ps, I, fr, Dn, Er, r, q, kd, ke⟩ => kd.ct _ _ _ _ (Ext.refl _ _) r q
theorem fss_cons (h1 : PS X st (embS X.K W t)) (h2 : PSs X rest (embS X.K W u)) : PSs X (st :: rest) (embS X.K W (dSeq t u)) := PSs.weak (pss_cons h1 h2) fun D σ H ⟨B, ps, I, fr, Dn, Er, r, q, kd, ke⟩ =>
  ⟨B, ps, I, fr, { Dn with nx := fun fr' => nfF fr' fun f => u Dn Er f }, Er, r, ((nfF_eq fr _).mp q).ok, ⟨fun σ' H' J fr' e r' q' => ⟨B, ps, J, fr', Dn, Er, r', (nfF_eq fr' _).mp q', kd.ext e, ke.ext e⟩, kd.rt, kd.bk, kd.ct⟩, ke⟩
theorem fss_one (h1 : PS X st (embS X.K W t)) : PSs X [st] (embS X.K W t) := pss_one h1
theorem fs_expr (he : PE X e (emb X.K W te)) (hs : swapsWith e none pos.line X.env = pure false := by rfl) : PS X (.Expr e pos) (embS X.K W (dExpr te)) := PS.weak (ps_expr he hs) fun D σ H ⟨B, ps, I, fr, Dn, Er, r, q, kd, ke⟩ =>
  ⟨B, ps, I, fr, _, Er, r, q, fun v H' J rv fr' e r' o q' => kd.nx _ _ _ _ e r' q', ke σ⟩
theorem fs_ret (he : PE X e (emb X.K W te)) : PS X (.Return (some e) pos) (embS X.K W (dRet te)) := PS.weak (ps_ret he) fun D σ H ⟨B, ps, I, fr, Dn, Er, r, q, kd, ke⟩ =>
  ⟨B, ps, I, fr, _, Er, r, q, fun v H' J rv fr' e r' o q' => kd.rt _ _ _ _ _ _ e r' o q', ke σ⟩
theorem fs_retN : PS X (.Return none pos) (embS X.K W dRetN) := PS.weak ps_retN fun D σ H ⟨B, ps, I, fr, Dn, Er, r, q, kd, ke⟩ => kd.rt _ _ _ _ (.sh .non) _ (Ext.refl _ _) r R.non q
theorem fs_if {c : Expr} {a b : List Stmt} {tc : DT} (hc : PT X c (embT X.K W tc)) (ha : PSs X a (embS X.K W t)) (hb : PSs X b (embS X.K W u)) : PS X (.If c a b pos) (embS X.K W (dIfS tc t u)) := PS.weak (ps_if hc ha hb) fun D σ H ⟨B, ps, I, fr, Dn, Er, r, q, kd, ke⟩ => by
  refine ⟨B, ps, I, fr, _, Er, r, q, fun c H' J fr' e r' q' => ?_, ke σ⟩
  cases c with
  | true => exact ⟨B, ps, J, fr', Dn, Er, r', q'.t1, kd.ext e, ke.ext e⟩
  | false => exact ⟨B, ps, J, fr', Dn, Er, r', q'.f1, kd.ext e, ke.ext e⟩
theorem asg_emb {K : PySem.W.Frag} {W : WX} {te : DE} {g : DG} {D : Ends} {σ : L2.St} {H : Hp} (h : embS K W (dAsg te g) D σ H) : tAsg (emb K W te) (embG K W AnyP g) D σ H := by
  obtain ⟨B, ps, I, fr, Dn, Er, r, q, kd, ke⟩ := h
  exact ⟨B, ps, I, fr, _, Er, r, q, fun v H' J rv fr' e r' o q' => ⟨B, ps, J, fr', rv, _, Er, r', o, q', fun σ2 H2 J2 fr2 _ e2 r2 q2 => kd.nx _ _ _ _ (e.trans e2) r2 q2, ke.ext e⟩, ke σ⟩
theorem fs_asg {tg e : Expr} {g : DG} (he : PE X e (emb X.K W te)) (hg : PG X tg (embG X.K W AnyP g)) (hs : swapsWithSole [tg] e pos.line X.env = pure false := by rfl) (hw : swappedStores [tg] e X.env = pure none := by rfl)
    (h1 : (assignEach [tg] X.env).map (·.2) = [assign tg X.env] := by rfl) : PS X (.Assign [tg] e pos) (embS X.K W (dAsg te g)) := PS.weak (ps_asg he hg hs hw h1) fun D σ H h => asg_emb h
theorem fs_set {i : Nat} {x : Str} {e : Expr} {pos' : Pos} (hN : X.N.Nodup) (hi : X.N[i]? = some x) (hx : Loc X.env.scope x) (he : PE X e (emb X.K W te)) (hs : swapsWith e (some (.Name x pos')) pos.line X.env = pure false := by rfl) (hf : X.fn x = true ∨ X.env.scope.names.lookup x = some .local := by first | exact .inl rfl | exact .inr rfl | assumption) :
    PS X (.Assign [.Name x pos'] e pos) (embS X.K W (dAsg te (dgName i))) := PS.weak (ps_set hN hi hx he hs hf) fun D σ H ⟨B, ps, I, fr, Dn, Er, r, q, kd, ke⟩ => by
  refine ⟨B, ps, I, fr, _, Er, r, q, fun v H' J rv fr' e r' o q' => ?_, ke σ⟩
  obtain ⟨fr2, J2, q2, e2, r2⟩ := setSl_of r' o q'
  exact kd.nx _ _ _ _ (e.trans e2) r2 q2
/-- a, b = x, y with plain local names -/
def dPar (i j : Nat) (ta : DA) : DS := fun Dn Er fr => ta fr (fun rs fr1 => match rs with | [a, b] => setSl i a fr1 fun fr2 => setSl j b fr2 Dn.nx | _ => False) Er
theorem op_rv {K : PySem.W.Frag} {B I H : Hp} {ps : List Addr} {σ : L2.St} {fr : Fr} {v : V} {rv : Rv} {i : Nat} {k : Fr → Prop} (r : Rep K B ps I σ H fr) (o : OpOk K ps I σ v rv) (q : setSl i rv fr k) : RvOk K B ps I σ H fr v rv := by
  cases rv with
  | sh d => exact o
  | tm d => exact o.elim
  | pa j => exact o
  | pl j =>
    refine ⟨o, ?_⟩
    have q' : (match fr.sl[j]? with | some (some (.ow d)) => k { fr with sl := (fr.sl.set j (some (.sh d))).set i (some (.sh d)) } | _ => False) := q
    split at q'
    · rename_i d e; exact ⟨d, e⟩
    · exact q'.elim
def okPar : Rv → Bool
  | .pl _ => false
  | _ => true
def dPar2 (i j : Nat) (ta : DA) : DS := fun Dn Er fr => ta fr (fun rs fr1 => match rs with | [a, b] => Br (okPar b) (setSl i a fr1 fun fr2 => setSl j b fr2 Dn.nx) False | _ => False) Er
theorem fs_par {i j : Nat} {x y : Str} {a b : Expr} {ta : DA} {px py pt : Pos} {kt k2 pt2} (hc : X.calm = true) (hN : X.N.Nodup) (hi : X.N[i]? = some x) (hj : X.N[j]? = some y) (hij : i ≠ j)
    (hx : X.env.scope.names.lookup x = some .local) (hy : X.env.scope.names.lookup y = some .local) (ha : PA X [a, b] (embA X.K W ta))
    (hw : swappedStores [.Tuple [.Name x px, .Name y py] kt pt] (.Tuple [a, b] k2 pt2) X.env = pure (some [x, y]))
    (hs : swapsWithSole [.Tuple [.Name x px, .Name y py] kt pt] (.Tuple [a, b] k2 pt2) pos.line X.env = pure false := by rfl) :
    PS X (.Assign [.Tuple [.Name x px, .Name y py] kt pt] (.Tuple [a, b] k2 pt2) pos) (embS X.K W (dPar2 i j ta)) := PS.weak (ps_par hc hN hi hj hij hx hy ha hw hs) fun D σ H ⟨B, ps, I, fr, Dn, Er, r, q, kd, ke⟩ => by
  refine ⟨B, ps, I, fr, _, Er, r, q, fun vs H1 J1 rs fr1 e1 r1 o1 q1 => ?_, ke σ⟩
  match rs, o1, q1 with
  | [ra, rb], .cons (v := v) oa (.cons (v := w) ob .nil), q1 =>
    have q1 : Br (okPar rb) (setSl i ra fr1 fun fr2 => setSl j rb fr2 Dn.nx) False := q1
    cases hb : okPar rb with
    | false => rw [hb] at q1; exact q1.f1.elim
    | true =>
      rw [hb] at q1
      have q1 : setSl i ra fr1 fun fr2 => setSl j rb fr2 Dn.nx := q1.t1
      refine ⟨v, w, rfl, ?_⟩
      obtain ⟨fr2, J2, q2, e2, r2⟩ := setSl_of r1 (op_rv r1 oa q1) q1
      have ob2 : OpOk X.K ps J2 (σ.set i (some v)) w rb := by
        cases rb with
        | sh d => exact R.mono e2.1 ob
        | tm d => exact ob.elim
        | pa k => exact ob
        | pl k => cases hb
      obtain ⟨fr3, J3, q3, e3, r3⟩ := setSl_of r2 (op_rv r2 ob2 q2) q2
      exact kd.nx _ _ _ _ (e1.trans (e2.trans e3)) r3 q3
theorem fs_err {C : Addr} {x m : Str} {j : Nat} {p p2 p3 pos : Pos} (T : ErrC X.K X.mg x C) (hc : X.calm = true) (tk : L2N.Takes X W) (hg : Gl X x) (hdb : (x == ("__debug__" : Str)) = false := by decide) : PS X (.Raise (some (.Call (.Name x p) [.Constant (.str m) j p2] [] p3)) none pos) (embS X.K W (dRaise C)) :=
  PS.weak (ps_err T hc tk hg hdb) fun D σ H ⟨B, ps, I, fr, Dn, Er, r, q, kd, ke⟩ => ke σ C noFld none H I fr (Ext.refl _ _) r rfl q
end
end Dl
namespace Dl
open PySem PySem.Spec PyProof.Rows L2 Vx
/-! walks -/
structure WalkD (K : PySem.W.Frag) (J0 : Hp) (J : It) (items : List D) : Prop where
  go : ∀ B ps I σ H fr i, Same J0 I → Rep K B ps I σ H fr → i < items.length → J.go i H
  stop : ∀ B ps I σ H fr, Same J0 I → Rep K B ps I σ H fr → J.stop items.length H
  yld : ∀ B ps I σ H fr i x H', Same J0 I → Rep K B ps I σ H fr → i < items.length → J.yld i H x H' → ∃ d I', items[i]? = some d ∧ Ext B I I' ∧ Rep K B ps I' σ H' fr ∧ R K I' x d
theorem WalkD.at {K : PySem.W.Frag} {J0 : Hp} {J : It} {G : Hp → Prop} {vs : List V} {items : List D} (w : Walk J vs.length G (YAt vs)) (hg : ∀ I H, Same J0 I → Same I H → G H) (ra : RA K J0 vs items) : WalkD K J0 J items where
  go := fun B ps I σ H fr i s r hi => w.goes i H (by rw [ra.length]; exact hi) (hg I H s r.same)
  stop := fun B ps I σ H fr s r => by rw [← ra.length]; exact w.stops H (hg I H s r.same)
  yld := fun B ps I σ H fr i x H' s r hi y => by
    obtain ⟨e, ex⟩ := w.yields i H x H' (by rw [ra.length]; exact hi) (hg I H s r.same) y
    subst e
    obtain ⟨v, e1, rv⟩ := ra.get (List.getElem?_eq_getElem hi)
    rw [ex] at e1; cases e1
    exact ⟨_, I, List.getElem?_eq_getElem hi, Ext.refl _ _, r, R.mono s rv⟩
theorem WalkD.fn {K : PySem.W.Frag} {J0 : Hp} {J : It} {n : Nat} {f : Nat → V} {g : Nat → D} (w : Walk J n (fun _ => True) (YFn f)) (hr : ∀ i I, R K I (f i) (g i)) : WalkD K J0 J ((List.range n).map g) where
  go := fun B ps I σ H fr i s r hi => w.goes i H (by simpa using hi) trivial
  stop := fun B ps I σ H fr s r => by rw [List.length_map, List.length_range]; exact w.stops H trivial
  yld := fun B ps I σ H fr i x H' s r hi y => by
    have hi : i < n := by simpa using hi
    obtain ⟨e, ex⟩ := w.yields i H x H' hi trivial y
    subst e ex
    exact ⟨g i, I, by simp [hi], Ext.refl _ _, r, hr i I⟩
theorem WalkD.pair {K : PySem.W.Frag} {J0 : Hp} {J : It} {G : Hp → Prop} {n : Nat} {f h : Nat → Option V} {p q : Nat → D} {items : List D} (w : Walk J n G (YPair f h)) (hg : ∀ I H, Same J0 I → Same I H → G H) (hl : items.length = n) (hi : ∀ i, i < n → items[i]? = some (.tup [p i, q i]))
    (hf : ∀ i x, i < n → f i = some x → R K J0 x (p i)) (hh : ∀ i x, i < n → h i = some x → R K J0 x (q i)) : WalkD K J0 J items where
  go := fun B ps I σ H fr i s r hi => w.goes i H (by omega) (hg I H s r.same)
  stop := fun B ps I σ H fr s r => by rw [hl]; exact w.stops H (hg I H s r.same)
  yld := fun B ps I σ H fr i x H' s r h1 y => by
    have h2 : i < n := by omega
    obtain ⟨T, x0, y0, rfl, hT, rfl, e1, e2⟩ := w.yields i H x H' h2 (hg I H s r.same) y
    have ra : RA K I [x0, y0] [p i, q i] := .cons (R.mono s (hf i x0 h2 e1)) (.cons (R.mono s (hh i y0 h2 e2)) .nil)
    obtain ⟨I', a, b, c⟩ := new_tup (Q := fun v H' => ∃ I', Ext B I I' ∧ Rep K B ps I' σ H' fr ∧ R K I' v (.tup [p i, q i])) (k := fun rv => rv = .sh (.tup [p i, q i])) r
      (fun v H' J rv e r' o k => by subst k; exact ⟨J, e, r', o⟩) ra rfl T hT
    exact ⟨_, I', hi i h2, a, b, c⟩
abbrev DI := Fr → (List D → Fr → Prop) → ER → Prop
def ItOk (K : PySem.W.Frag) (W : WX) (wi : TI) (di : DI) : Prop := ∀ (σ : L2.St) (H : Hp) (R : It → Hp → Prop) (B : Hp) (ps : List Addr) (I : Hp) (fr : Fr) (Q' : List D → Fr → Prop) (Er : ER), Rep K B ps I σ H fr → di fr Q' Er →
  (∀ J H' J0 fr' items, Ext B I J0 → Rep K B ps J0 σ H' fr' → WalkD K J0 J items → Q' items fr' → R J H') → EK K W B ps I σ Er → wi σ H R
/-- over the items of what te says; it becomes shared -/
def dIt (sel : D → (List D → Prop) → Prop) (te : DE) : DI := fun fr Q Er => te fr (fun rv fr1 => shr rv fr1 fun d fr2 => sel d fun xs => Q xs fr2) Er
theorem shr_frz {rv : Rv} {fr : Fr} {k : D → Fr → Prop} (h : shr rv fr k) : shr rv.frz fr k := by
  cases rv <;> exact h
def selL : D → (List D → Prop) → Prop
  | .lst _ xs, k => k xs
  | .scr ns, k => k (ns.map D.int)
  | _, _ => False
def selT : D → (List D → Prop) → Prop
  | .tup xs, k => k xs
  | .ktp xs, k => k xs
  | _, _ => False
def selS : D → (List D → Prop) → Prop
  | .str a, k => k (a.map fun c => .str [c])
  | _, _ => False
section
variable {K : PySem.W.Frag} {W : WX} {te : DE} {ta : DA}
theorem items_of {sel : D → (List D → Prop) → Prop} {σ : L2.St} {H : Hp} {Q : VK} {B : Hp} {ps : List Addr} {I : Hp} {fr : Fr} {Q' : List D → Fr → Prop} {Er : ER} (r : Rep K B ps I σ H fr) (q : dIt sel te fr Q' Er) (ke : EK K W B ps I σ Er)
    (k : ∀ v H' J0 fr' d, Ext B I J0 → Rep K B ps J0 σ H' fr' → R K J0 v d → (sel d fun xs => Q' xs fr') → Q v H') : emb K W te σ H Q := by
  refine ⟨B, ps, I, fr, _, Er, r, q, fun v H1 J1 rv fr1 e1 r1 o1 q1 => ?_, ke⟩
  obtain ⟨J2, e2, r2, o2⟩ := frz_of r1 o1
  obtain ⟨d, fr3, J3, q3, e3, r3, h3⟩ := shr_of r2 o2 (shr_frz q1)
  exact k v H1 J3 fr3 d (e1.trans (e2.trans e3)) r3 h3 q3
theorem it_list : ItOk K W (iList K (emb K W te)) (dIt selL te) := fun σ H R B ps I fr Q' Er r q kr ke => items_of (Q := fun x H1 => ∃ a, x = .ref a ∧ (∃ xs, SqL K H1 a xs) ∧ R (Itl K a) H1) r q ke fun v H' J0 fr' d e r' h q' => by
  cases h <;> first | exact (show False from q').elim | skip
  · rename_i p vs z ds e1 nz ra
    exact ⟨_, rfl, ⟨_, SqL.of (r'.same _ _ e1)⟩, kr _ _ _ _ _ e r' (WalkD.at walk_list (fun I H s1 s2 => SqL.of (s2 _ _ (s1 _ _ e1))) ra) q'⟩
  · rename_i p ns e1
    refine ⟨_, rfl, ⟨_, r'.same.seq e1⟩, kr _ _ _ _ _ e r' ?_ q'⟩
    exact WalkD.at (walk_list (xs := _)) (fun I H s1 s2 => s2.seq (s1.seq e1)) (RA.ints _)
theorem it_tup : ItOk K W (iTup K (emb K W te)) (dIt selT te) := fun σ H R B ps I fr Q' Er r q kr ke => items_of (Q := fun x H1 => ∃ a, x = .ref a ∧ (∃ xs, SqT K H1 a xs) ∧ R (Itt K a) H1) r q ke fun v H' J0 fr' d e r' h q' => by
  cases h <;> first | exact (show False from q').elim | skip
  · rename_i p vs ds e1 ra
    exact ⟨_, rfl, ⟨_, SqT.of (r'.same _ _ e1)⟩, kr _ _ _ _ _ e r' (WalkD.at walk_tup (fun I H s1 s2 => SqT.of (s2 _ _ (s1 _ _ e1))) ra) q'⟩
  · rename_i p vs ds e1 ra
    exact ⟨_, rfl, ⟨_, sqT_mono r'.same e1⟩, kr _ _ _ _ _ e r' (WalkD.at walk_tup (fun I H s1 s2 => sqT_mono s2 (sqT_mono s1 e1)) ra) q'⟩
theorem walk_sg {J0 : Hp} (a : List Nat) : WalkD K J0 (Its (S a)) (a.map fun c => .str [c]) where
  go := fun B ps I σ H fr i s r hi => (walk_txt a).goes i H (by simpa using hi) trivial
  stop := fun B ps I σ H fr s r => by rw [List.length_map]; exact (walk_txt a).stops H trivial
  yld := fun B ps I σ H fr i x H' s r hi y => by
    have hi : i < a.length := by simpa using hi
    obtain ⟨e, c, rfl, hc⟩ := (walk_txt a).yields i H x H' hi trivial y
    subst e
    exact ⟨.str [c], I, by rw [List.getElem?_map, hc]; rfl, Ext.refl _ _, r, Dl.R.str _⟩
theorem it_str : ItOk K W (iStr (emb K W te)) (dIt selS te) := fun σ H R B ps I fr Q' Er r q kr ke => items_of (Q := fun v H1 => ∃ x, v = .str x ∧ R (Its x) H1) r q ke fun v H' J0 fr' d e r' h q' => by
  cases h <;> first | exact (show False from q').elim | skip
  exact ⟨_, rfl, kr _ _ _ _ _ e r' (walk_sg _) q'⟩
/-! ranges -/
def rgD (i : Int) (n : Nat) (c : Int) : List D := (List.range n).map fun k => D.int (i + (k : Nat) * c)
def dRg1 (ta : DA) : DI := fun fr Q Er => ta fr (fun rs fr1 => match rs with | [.sh (.int j)] => (-(2 ^ 62) ≤ j ∧ j < 2 ^ 62) ∧ Q (rgD 0 j.toNat 1) fr1 | _ => False) Er
def dRg2 (ta : DA) : DI := fun fr Q Er => ta fr (fun rs fr1 => match rs with | [.sh (.int i), .sh (.int j)] => (-(2 ^ 62) ≤ i ∧ i < 2 ^ 62 ∧ -(2 ^ 62) ≤ j ∧ j < 2 ^ 62) ∧ Q (rgD i (j - i).toNat 1) fr1 | _ => False) Er
/-- range(i, j, -1) -/
def dRgM (ta : DA) : DI := fun fr Q Er => ta fr (fun rs fr1 => match rs with | [.sh (.int i), .sh (.int j), .sh (.int (-1))] => (-(2 ^ 62) ≤ i ∧ i < 2 ^ 62 ∧ -(2 ^ 62) ≤ j ∧ j < 2 ^ 62) ∧ Q (rgD i (i - j).toNat (-1)) fr1 | _ => False) Er
theorem walk_rg {J0 : Hp} (i : Int) (n : Nat) : WalkD K J0 (Itr i n) (rgD i n 1) := by
  have e : rgD i n 1 = (List.range n).map fun k => D.int (i + (k : Nat)) := by
    unfold rgD
    congr 1
    funext k
    rw [Int.mul_one]
  rw [e]
  exact WalkD.fn walk_range fun k I => Dl.R.int _
theorem it_rg1 : ItOk K W (iRng1 (embA K W ta)) (dRg1 ta) := fun σ H R B ps I fr Q' Er r q kr ke => by
  refine ⟨B, ps, I, fr, _, Er, r, q, fun vs H1 J1 rs fr1 e1 r1 o1 q1 => ?_, ke⟩
  split at q1
  · obtain ⟨⟨h1, h2⟩, q2⟩ := q1
    cases o1 with
    | cons a b =>
      cases b
      cases a
      exact ⟨_, rfl, h1, h2, kr _ _ _ _ _ e1 r1 (walk_rg 0 _) q2⟩
  · exact q1.elim
theorem it_rg2 : ItOk K W (iRng2 (embA K W ta)) (dRg2 ta) := fun σ H R B ps I fr Q' Er r q kr ke => by
  refine ⟨B, ps, I, fr, _, Er, r, q, fun vs H1 J1 rs fr1 e1 r1 o1 q1 => ?_, ke⟩
  split at q1
  · obtain ⟨hb, q2⟩ := q1
    cases o1 with
    | cons a b =>
      cases b with
      | cons a2 b =>
        cases b
        cases a; cases a2
        exact ⟨_, _, rfl, hb, kr _ _ _ _ _ e1 r1 (walk_rg _ _) q2⟩
  · exact q1.elim
theorem it_rgM : ItOk K W (iRng3 (embA K W ta)) (dRgM ta) := fun σ H R B ps I fr Q' Er r q kr ke => by
  refine ⟨B, ps, I, fr, _, Er, r, q, fun vs H1 J1 rs fr1 e1 r1 o1 q1 => ?_, ke⟩
  split at q1
  · obtain ⟨⟨h1, h2, h3, h4⟩, q2⟩ := q1
    cases o1 with
    | cons a b =>
      cases b with
      | cons a2 b =>
        cases b with
        | cons a3 b =>
          cases b
          cases a; cases a2; cases a3
          exact ⟨_, _, _, _, rfl, RgC.neg h1 h2 h3 h4, kr _ _ _ _ _ e1 r1 (WalkD.fn walk_rangeC fun k I => Dl.R.int _) q2⟩
  · exact q1.elim
/-! zip, enumerate, reversed -/
def zipD (xs ys : List D) : List D := List.zipWith (fun x y => .tup [x, y]) xs ys
def enumD (k : Nat) : List D → List D
  | [] => []
  | x :: r => .tup [.int (k : Nat), x] :: enumD (k + 1) r
theorem zip_len (xs ys : List D) : (zipD xs ys).length = min xs.length ys.length := List.length_zipWith
theorem zip_get {xs ys : List D} {i : Nat} (h1 : i < xs.length) (h2 : i < ys.length) : (zipD xs ys)[i]? = some (.tup [xs[i], ys[i]]) := by
  unfold zipD
  rw [List.getElem?_zipWith, List.getElem?_eq_getElem h1, List.getElem?_eq_getElem h2]
theorem enum_len : ∀ (k : Nat) (xs : List D), (enumD k xs).length = xs.length
  | _, [] => rfl
  | k, x :: r => by show (enumD (k + 1) r).length + 1 = _; rw [enum_len (k + 1) r]; rfl
theorem enum_get : ∀ {k : Nat} {xs : List D} {i : Nat} (h : i < xs.length), (enumD k xs)[i]? = some (.tup [.int ((k + i : Nat) : Int), xs[i]])
  | k, x :: r, 0, h => rfl
  | k, x :: r, i + 1, h => by
    have := enum_get (k := k + 1) (xs := r) (i := i) (by simpa using h)
    show (enumD (k + 1) r)[i]? = _
    rw [this, show k + 1 + i = k + (i + 1) by omega]; rfl
def dArgs (sel : List D → (List D → Prop) → Prop) (ta : DA) : DI := fun fr Q Er => ta fr (fun rs fr1 => shrs rs fr1 fun ds fr2 => sel ds fun xs => Q xs fr2) Er
theorem args_of {sel : List D → (List D → Prop) → Prop} {σ : L2.St} {H : Hp} {Q : List V → Hp → Prop} {B : Hp} {ps : List Addr} {I : Hp} {fr : Fr} {Q' : List D → Fr → Prop} {Er : ER} (r : Rep K B ps I σ H fr) (q : dArgs sel ta fr Q' Er) (ke : EK K W B ps I σ Er)
    (k : ∀ vs H' J0 fr' ds, Ext B I J0 → Rep K B ps J0 σ H' fr' → RA K J0 vs ds → (sel ds fun xs => Q' xs fr') → Q vs H') : embA K W ta σ H Q := by
  refine ⟨B, ps, I, fr, _, Er, r, q, fun vs H1 J1 rs fr1 e1 r1 o1 q1 => ?_, ke⟩
  obtain ⟨ds, fr3, J3, q3, e3, r3, h3⟩ := shrs_of r1 o1 q1
  exact k vs H1 J3 fr3 ds (e1.trans e3) r3 h3 q3
def selZ : List D → (List D → Prop) → Prop
  | [.lst _ xs, .lst _ ys], k => k (zipD xs ys)
  | _, _ => False
def selZS : List D → (List D → Prop) → Prop
  | [.lst _ xs, .str a], k => k (zipD xs (a.map fun c => .str [c]))
  | _, _ => False
def selE : List D → (List D → Prop) → Prop
  | [.lst _ xs], k => k (enumD 0 xs)
  | _, _ => False
def selES : List D → (List D → Prop) → Prop
  | [.str a], k => k (enumD 0 (a.map fun c => .str [c]))
  | _, _ => False
def selR : List D → (List D → Prop) → Prop
  | [.lst _ xs], k => k xs.reverse
  | _, _ => False
theorem it_zip : ItOk K W (iZip K (embA K W ta)) (dArgs selZ ta) := fun σ H R B ps I fr Q' Er r q kr ke => args_of (Q := fun vs H1 => ∃ a b xs ys, vs = [.ref a, .ref b] ∧ SqL K H1 a xs ∧ SqL K H1 b ys ∧ R (Itz K a b) H1) r q ke fun vs H' J0 fr' ds e r' h q' => by
  match ds, h, q' with
  | [.lst _ xs, .lst _ ys], .cons (.lst e1 _ r1) (.cons (.lst e2 _ r2) .nil), q' =>
    refine ⟨_, _, _, _, rfl, SqL.of (r'.same _ _ e1), SqL.of (r'.same _ _ e2), kr _ _ _ _ _ e r' (WalkD.pair (p := fun i => xs.getD i .non) (q := fun i => ys.getD i .non) (walk_zip (n := min xs.length ys.length) (by rw [r1.length, r2.length])) (fun I H s1 s2 => ⟨SqL.of (s2 _ _ (s1 _ _ e1)), SqL.of (s2 _ _ (s1 _ _ e2))⟩) (zip_len xs ys) (fun i hi => ?_) (fun i x hi hx => ?_) (fun i x hi hx => ?_)) q'⟩
    · rw [zip_get (show i < xs.length by omega) (show i < ys.length by omega)]
      simp [List.getD_eq_getElem?_getD, show i < xs.length by omega, show i < ys.length by omega]
    · obtain ⟨v, g1, g2⟩ := r1.get (List.getElem?_eq_getElem (show i < xs.length by omega))
      rw [hx] at g1; cases g1
      simpa [List.getD_eq_getElem?_getD, show i < xs.length by omega] using g2
    · obtain ⟨v, g1, g2⟩ := r2.get (List.getElem?_eq_getElem (show i < ys.length by omega))
      rw [hx] at g1; cases g1
      simpa [List.getD_eq_getElem?_getD, show i < ys.length by omega] using g2
theorem it_enum : ItOk K W (iEnum K (embA K W ta)) (dArgs selE ta) := fun σ H R B ps I fr Q' Er r q kr ke => args_of (Q := fun vs H1 => ∃ a xs, vs = [.ref a] ∧ SqL K H1 a xs ∧ R (Ite K a) H1) r q ke fun vs H' J0 fr' ds e r' h q' => by
  match ds, h, q' with
  | [.lst _ xs], .cons (.lst (vs := vs) e1 _ r1) .nil, q' =>
    refine ⟨_, _, rfl, SqL.of (r'.same _ _ e1), kr _ _ _ _ _ e r' (WalkD.pair (n := vs.length) (p := fun i => .int (i : Nat)) (q := fun i => xs.getD i .non) walk_enum (fun I H s1 s2 => SqL.of (s2 _ _ (s1 _ _ e1))) (by rw [enum_len, r1.length]) (fun i hi => ?_) (fun i x hi hx => ?_) (fun i x hi hx => ?_)) q'⟩
    · have hi' : i < xs.length := by rw [← r1.length]; exact hi
      rw [enum_get hi']
      simp [List.getD_eq_getElem?_getD, hi']
    · cases hx; exact Dl.R.int _
    · have hi' : i < xs.length := by rw [← r1.length]; exact hi
      obtain ⟨v, g1, g2⟩ := r1.get (List.getElem?_eq_getElem hi')
      rw [hx] at g1; cases g1
      simpa [List.getD_eq_getElem?_getD, hi'] using g2
theorem it_enumT : ItOk K W (iEnumT (embA K W ta)) (dArgs selES ta) := fun σ H R B ps I fr Q' Er r q kr ke => args_of (Q := fun vs H1 => ∃ x, vs = [.str x] ∧ R (Itet x) H1) r q ke fun vs H' J0 fr' ds e r' h q' => by
  match ds, h, q' with
  | [.str a], .cons (.str _) .nil, q' =>
    refine ⟨_, rfl, kr _ _ _ _ _ e r' ?_ q'⟩
    have w : Walk (Itet (S a)) a.length (fun _ => True) (YPair (fun i => some (.int (i : Nat))) (fun i => (a[i]?).map fun c => V.str (S [c]))) := (walk_enumT a).mono (fun _ h => h) fun i H x H' hi _ y => by
      obtain ⟨T, c, rfl, h1, h2, h3⟩ := y
      exact ⟨T, _, _, rfl, h1, h2, rfl, by show Option.map _ a[i]? = _; rw [h3]; rfl⟩
    refine WalkD.pair (p := fun i => .int (i : Nat)) (q := fun i => .str [a.getD i 0]) w (fun _ _ _ _ => trivial) (by rw [enum_len, List.length_map]) (fun i hi => ?_) (fun i x hi hx => ?_) (fun i x hi hx => ?_)
    · rw [enum_get (show i < (a.map fun c => D.str [c]).length by simpa using hi)]
      simp [List.getD_eq_getElem?_getD, hi]
    · cases hx; exact Dl.R.int _
    · simp only [List.getElem?_eq_getElem hi, Option.map_some, Option.some.injEq] at hx
      subst hx
      simpa [List.getD_eq_getElem?_getD, hi] using Dl.R.str [a[i]]
theorem it_rev : ItOk K W (iRev K (embA K W ta)) (dArgs selR ta) := fun σ H R B ps I fr Q' Er r q kr ke => args_of (Q := fun vs H1 => ∃ (a : Addr) (xs : List V), vs = [.ref a] ∧ SqL K H1 a xs ∧ R (Itv K a xs.length) H1) r q ke fun vs H' J0 fr' ds e r' h q' => by
  match ds, h, q' with
  | [.lst _ xs], .cons (.lst (vs := vs) e1 _ r1) .nil, q' =>
    refine ⟨_, vs, rfl, SqL.of (r'.same _ _ e1), kr _ _ _ _ _ e r' (WalkD.at (G := fun H => SqL K H _ vs) (vs := vs.reverse) ?_ (fun I H s1 s2 => SqL.of (s2 _ _ (s1 _ _ e1))) r1.reverse) q'⟩
    rw [List.length_reverse]
    exact (walk_rev (xs := vs)).mono (fun _ h => h) fun i H x H' hi _ y => ⟨y.1, by rw [List.getElem?_reverse hi]; exact y.2⟩
theorem it_zipLT : ItOk K W (iZipLT K (embA K W ta)) (dArgs selZS ta) := fun σ H R B ps I fr Q' Er r q kr ke => args_of (Q := fun vs H1 => ∃ a xs x, vs = [.ref a, .str x] ∧ SqL K H1 a xs ∧ R (Itlt K a x) H1) r q ke fun vs H' J0 fr' ds e r' h q' => by
  match ds, h, q' with
  | [.lst _ xs, .str a], .cons (.lst (p := p) (vs := vs) e1 _ r1) (.cons (.str _) .nil), q' =>
    refine ⟨_, _, _, rfl, SqL.of (r'.same _ _ e1), kr _ _ _ _ _ e r' ?_ q'⟩
    have sz : (S a).cps.size = a.length := SX.S_len a
    have w : Walk (Itlt K p (S a)) (min vs.length a.length) (fun H => SqL K H p vs) (YPair (fun i => vs[i]?) (fun i => (a[i]?).map fun c => V.str (S [c]))) := by
      refine ⟨fun i H hi h => ⟨vs, h, by omega, by omega⟩, fun H h => ⟨vs, h, by omega, by omega, by omega⟩, fun i H x H' hi h y => ?_⟩
      obtain ⟨T, y0, c, h1, h2, h3, h4, h5⟩ := y
      refine ⟨T, y0, _, h1, h2, h3, h4 vs h, ?_⟩
      have : (S a).cps[i]? = a[i]? := List.getElem?_toArray ..
      show Option.map _ a[i]? = _
      rw [← this, h5]; rfl
    refine WalkD.pair (p := fun i => xs.getD i .non) (q := fun i => .str [a.getD i 0]) w (fun I H s1 s2 => SqL.of (s2 _ _ (s1 _ _ e1))) (by rw [zip_len, r1.length, List.length_map]) (fun i hi => ?_) (fun i x hi hx => ?_) (fun i x hi hx => ?_)
    · have := r1.length
      rw [zip_get (show i < xs.length by omega) (show i < (a.map fun c => D.str [c]).length by rw [List.length_map]; omega)]
      simp [List.getD_eq_getElem?_getD, show i < xs.length by omega, show i < a.length by omega]
    · have := r1.length
      obtain ⟨v, g1, g2⟩ := r1.get (List.getElem?_eq_getElem (show i < xs.length by omega))
      rw [hx] at g1; cases g1
      simpa [List.getD_eq_getElem?_getD, show i < xs.length by omega] using g2
    · have hi' : i < a.length := by omega
      simp only [List.getElem?_eq_getElem hi', Option.map_some, Option.some.injEq] at hx
      subst hx
      simpa [List.getD_eq_getElem?_getD, hi'] using Dl.R.str [a[i]]
end
end Dl
namespace Dl
open PySem PySem.Spec PyProof.Rows L2 Vx
/-! for -/
def dLoop (g : DG) (b : DS) (Er : ER) (Dn : DEnds) : List D → Fr → Prop
  | [], fr => Dn.nx fr
  | x :: r, fr => g (.sh x) fr (fun fr' => b { Dn with nx := dLoop g b Er Dn r, ct := dLoop g b Er Dn r, bk := Dn.nx } Er fr') Er
def dFor (di : DI) (g : DG) (b : DS) : DS := fun Dn Er fr => di fr (fun items fr1 => Rg (dLoop g b Er Dn items fr1)) Er
section
variable {X : Cx} {W : WX} {pos : Pos} {tg iter : Expr} {body : List Stmt} {wi : TI} {di : DI} {g : DG} {b : DS}
theorem fs_for (hp : PassesOwn (model X.prog X.w) X.A X.env X.xe) (hc : X.calm = true) (hi : PI X tg iter wi) (io : ItOk X.K W wi di) (hg : PG X tg (embG X.K W AnyP g)) (hb : PSs X body (embS X.K W b))
    (hs : ∀ x, foldedSetIterable iter X.env x = pure x := by intro _; rfl) : PS X (.For tg iter body [] pos) (embS X.K W (dFor di g b)) := PS.weak (ps_for hp hc hi hg hb hs) fun D σ H ⟨B, ps, I, fr, Dn, Er, r, q, kd, ke⟩ => by
  refine io σ H _ B ps I fr _ Er r q (fun J H1 J0 fr1 items e1 r1 w q1 => ?_) (ke σ)
  have q1 := q1.ok
  refine ⟨fun i m σ H => m = items.length - i ∧ i ≤ items.length ∧ ∃ I2 fr2, Ext B J0 I2 ∧ Rep X.K B ps I2 σ H fr2 ∧ dLoop g b Er Dn (items.drop i) fr2, ⟨items.length, by omega, Nat.zero_le _, J0, fr1, Ext.refl _ _, r1, q1⟩, ?_⟩
  rintro i m σ2 H2 ⟨rfl, hi, I2, fr2, e2, r2, q2⟩
  by_cases hlt : i < items.length
  · rw [List.drop_eq_getElem_cons hlt] at q2
    refine .inr ⟨w.go B ps I2 σ2 H2 fr2 i e2.1 r2 hlt, fun σ' H' => ∃ I3 fr3, Ext B J0 I3 ∧ Rep X.K B ps I3 σ' H' fr3 ∧ dLoop g b Er Dn (items.drop (i + 1)) fr3, fun σ' H' ⟨I3, fr3, e3, r3, q3⟩ => ⟨items.length - (i + 1), by omega, rfl, hlt, I3, fr3, e3, r3, q3⟩, fun x H' y => ?_⟩
    obtain ⟨d, I3, hd, e3, r3, rx⟩ := w.yld B ps I2 σ2 H2 fr2 i x H' e2.1 r2 hlt y
    rw [List.getElem?_eq_getElem hlt] at hd
    cases hd
    have eA := e1.trans (e2.trans e3)
    refine ⟨B, ps, I3, fr2, .sh items[i], _, Er, r3, rx, q2, fun σ4 H4 J4 fr4 _ e4 r4 q4 => ?_, ke.ext eA⟩
    refine ⟨B, ps, J4, fr4, _, Er, r4, q4, ⟨fun σ' H' J fr' e r' q' => ⟨J, fr', e2.trans (e3.trans (e4.trans e)), r', q'⟩, fun v σ' H' J rv fr' e r' o q' => kd.rt v σ' H' J rv fr' (eA.trans (e4.trans e)) r' o q', fun σ' H' J fr' e r' q' => kd.nx σ' H' J fr' (eA.trans (e4.trans e)) r' q', fun σ' H' J fr' e r' q' => ⟨J, fr', e2.trans (e3.trans (e4.trans e)), r', q'⟩⟩, ke.ext (eA.trans e4)⟩
  · have e : i = items.length := by omega
    subst e
    rw [List.drop_length] at q2
    exact .inl ⟨w.stop B ps I2 σ2 H2 fr2 e2.1 r2, kd.nx _ _ _ _ (e1.trans e2) r2 q2⟩
/-- while -/
def dWhile (c : DT) (b : DS) : DS := fun Dn Er fr => ∃ W : Nat → Fr → Prop, (∃ m, W m fr) ∧ ∀ m fr, W m fr → c fr (fun k fr1 => Br k (b { Dn with nx := fun fr' => ∃ m', m' < m ∧ W m' fr', ct := fun fr' => ∃ m', m' < m ∧ W m' fr', bk := Dn.nx } Er fr1) (Dn.nx fr1)) Er
theorem fs_while {c : Expr} {tc : DT} (hp : PassesOwn (model X.prog X.w) X.A X.env X.xe) (hc : PT X c (embT X.K W tc)) (hb : PSs X body (embS X.K W b)) : PS X (.While c body [] pos) (embS X.K W (dWhile tc b)) := PS.weak (ps_while hp hc hb) fun D σ H ⟨B, ps, I, fr, Dn, Er, r, q, kd, ke⟩ => by
  obtain ⟨Wm, ⟨m0, w0⟩, turn⟩ := q
  refine ⟨fun m σ H => ∃ I2 fr2, Ext B I I2 ∧ Rep X.K B ps I2 σ H fr2 ∧ Wm m fr2, ⟨m0, I, fr, Ext.refl _ _, r, w0⟩, ?_⟩
  rintro m σ2 H2 ⟨I2, fr2, e2, r2, w2⟩
  refine ⟨B, ps, I2, fr2, _, Er, r2, turn m fr2 w2, fun k H3 J3 fr3 e3 r3 q3 => ?_, (ke.ext e2) σ2⟩
  cases k with
  | false => exact kd.nx _ _ _ _ (e2.trans e3) r3 q3.f1
  | true =>
    refine ⟨fun σ' H' => ∃ m', m' < m ∧ ∃ I4 fr4, Ext B I I4 ∧ Rep X.K B ps I4 σ' H' fr4 ∧ Wm m' fr4, fun σ' H' h => h, B, ps, J3, fr3, _, Er, r3, q3.t1, ?_, ke.ext (e2.trans e3)⟩
    have eA := e2.trans e3
    exact ⟨fun σ' H' J fr' e r' ⟨m', h1, h2⟩ => ⟨m', h1, J, fr', eA.trans e, r', h2⟩, fun v σ' H' J rv fr' e r' o q' => kd.rt v σ' H' J rv fr' (eA.trans e) r' o q', fun σ' H' J fr' e r' q' => kd.nx σ' H' J fr' (eA.trans e) r' q', fun σ' H' J fr' e r' ⟨m', h1, h2⟩ => ⟨m', h1, J, fr', eA.trans e, r', h2⟩⟩
end
/-! name op= e -/
def dAug (i : Nat) (g : Int → Int → Int) (te : DE) : DS := fun Dn Er fr => match fr.sl[i]? with
  | some (some (.sh (.int a))) => te fr (fun rv fr1 => intR rv fun b => Dn.nx { fr1 with sl := fr1.sl.set i (some (.sh (.int (g a b)))) }) Er
  | _ => False
section
variable {X : Cx} {W : WX} {pos : Pos}
theorem fs_aug {i : Nat} {x : Str} {e : Expr} {te : DE} {op : Operator} {g : Int → Int → Int} {pos' : Pos} (hN : X.N.Nodup) (hi : X.N[i]? = some x) (hx : Loc X.env.scope x) (he : PE X e (emb X.K W te)) (ho : PIp X op (ipI g)) (hf : X.fn x = true ∨ X.env.scope.names.lookup x = some .local := by first | exact .inl rfl | exact .inr rfl | assumption) :
    PS X (.AugAssign (.Name x pos') op e pos) (embS X.K W (dAug i g te)) := PS.weak (ps_aug hN hi hx he ho hf) fun D σ H ⟨B, ps, I, fr, Dn, Er, r, q, kd, ke⟩ => by
  have q' : (match fr.sl[i]? with | some (some (.sh (.int a))) => te fr (fun rv fr1 => intR rv fun b => Dn.nx { fr1 with sl := fr1.sl.set i (some (.sh (.int (g a b)))) }) Er | _ => False) := q
  split at q'
  · rename_i a e
    obtain ⟨v, e1, z⟩ := r.slot i _ e
    cases (show R X.K I v (.int a) from z)
    refine ⟨_, e1, B, ps, I, fr, _, Er, r, q', fun v H1 J1 rv fr1 e1 r1 o1 q1 => ?_, ke σ⟩
    obtain ⟨b, rfl, q2⟩ := intR_of o1 q1
    exact ⟨a, b, rfl, rfl, kd.nx _ _ _ _ e1 (r1.setSh (R.int _)) q2⟩
  · exact q'.elim
end
/-! list comprehensions -/
section
variable {K : PySem.W.Frag} {B I H : Hp} {ps : List Addr} {σ : L2.St} {fr : Fr}
/-- an object of ours that is to stay as it is -/
theorem Rep.hold (r : Rep K B ps I σ H fr) {p : Addr} {o : HO} (e : H p = some o) (a : Apart σ fr p) : Rep K (upd B p o) ps I σ H fr where
  same := r.same
  keep := fun b u h n => by
    by_cases hb : b = p
    · subst hb; rw [upd_same] at h; cases h; exact e
    · rw [upd_ne hb] at h; exact r.keep b u h n
  nd := r.nd
  plen := r.plen
  par := r.par
  pout := r.pout
  slen := r.slen
  slot := fun i sv h => by
    obtain ⟨v, e1, z⟩ := r.slot i sv h
    refine ⟨v, e1, ?_⟩
    cases sv with
    | sh d => exact z
    | pa k => exact z
    | ex k => exact z
    | ow d =>
      obtain ⟨q, e2, b, c, n, rt⟩ := z
      subst e2
      have hq : q ≠ p := fun z => a i d h (by rw [← z]; exact e1)
      exact ⟨q, rfl, by rw [upd_ne hq]; exact b, c, n, rt⟩
  own := r.own
theorem Rep.unhold {p : Addr} {o : HO} (r : Rep K (upd B p o) ps I σ H fr) (hp : B p = none) : Rep K B ps I σ H fr where
  same := r.same
  keep := fun b u h n => r.keep b u (by rw [upd_ne (fun z => by rw [z, hp] at h; cases h)]; exact h) n
  nd := r.nd
  plen := r.plen
  par := r.par
  pout := r.pout
  slen := r.slen
  slot := fun i sv h => by
    obtain ⟨v, e1, z⟩ := r.slot i sv h
    refine ⟨v, e1, ?_⟩
    cases sv with
    | sh d => exact z
    | pa k => exact z
    | ex k => exact z
    | ow d =>
      obtain ⟨q, e2, b, c, n, rt⟩ := z
      refine ⟨q, e2, ?_, c, n, rt⟩
      by_cases hq : q = p
      · rw [hq, upd_same] at b; cases b
      · rw [upd_ne hq] at b; exact b
  own := r.own
theorem Rep.held {p : Addr} {o : HO} (r : Rep K (upd B p o) ps I σ H fr) (n : p ∉ ps) : H p = some o ∧ Apart σ fr p := by
  refine ⟨r.keep p o upd_same n, fun i d h e => ?_⟩
  obtain ⟨v, e1, q, e2, b, _⟩ := r.slot i _ h
  rw [e] at e1; cases e1; cases e2
  rw [upd_same] at b; cases b
theorem Ext.unhold {p : Addr} {o : HO} {J : Hp} (e : Ext (upd B p o) I J) (hp : B p = none) : Ext B I J := ⟨e.1, fun b u h => by
  rcases e.2 b u h with z | z
  · exact .inl z
  · by_cases hb : b = p
    · rw [hb]; exact .inr hp
    · rw [upd_ne hb] at z; exact .inr z⟩
theorem Ext.heldI {p : Addr} {o : HO} {J : Hp} (e : Ext (upd B p o) I J) (hp : I p = none) : J p = none := by
  cases q : J p with
  | none => rfl
  | some u =>
    rcases e.2 p u q with z | z
    · rw [hp] at z; cases z
    · rw [upd_same] at z; cases z
/-- the object that is held changes -/
theorem Rep.poke {p : Addr} {o o' : HO} (r : Rep K (upd B p o) ps I σ H fr) (n : p ∉ ps) (hp : B p = none) (hI : I p = none) : Rep K B ps I σ (upd H p o') fr := by
  have a := (r.held n).2
  have r := r.unhold hp
  refine ⟨fun b u h => ?_, fun b u h m => ?_, r.nd, r.plen, fun k d h => ?_, r.pout, r.slen, fun i sv h => ?_, r.own⟩
  · rw [upd_ne (fun z => by rw [z, hI] at h; cases h)]; exact r.same b u h
  · rw [upd_ne (fun z => by rw [z, hp] at h; cases h)]; exact r.keep b u h m
  · obtain ⟨q, e1, rt⟩ := r.par k d h
    exact ⟨q, e1, rt.mono (Same.refl _) (upd_ne fun z => n (by rw [← z]; exact List.mem_of_getElem? e1))⟩
  · obtain ⟨v, e1, z⟩ := r.slot i sv h
    refine ⟨v, e1, ?_⟩
    cases sv with
    | sh d => exact z
    | pa k => exact z
    | ex k => exact z
    | ow d =>
      obtain ⟨q, e2, b, c, m, rt⟩ := z
      subst e2
      exact ⟨q, rfl, b, c, m, rt.mono (Same.refl _) (upd_ne fun z => a i d h (by rw [← z]; exact e1))⟩
end
def wipeF (fr : Fr) : List Nat → Fr
  | [] => fr
  | i :: r => { wipeF fr r with sl := (wipeF fr r).sl.set i none }
/-- the names of the block as they were ahead of it -/
def backF (fr0 fr : Fr) : List Nat → Fr
  | [] => fr
  | i :: r => { backF fr0 fr r with sl := (backF fr0 fr r).sl.set i (match fr0.sl[i]? with | some (some (.sh d)) => some (.sh d) | some (some (.pa k)) => some (.pa k) | _ => none) }
theorem Rep.forget {K : PySem.W.Frag} {B I H : Hp} {ps : List Addr} {σ : L2.St} {fr : Fr} (r : Rep K B ps I σ H fr) {σ' : L2.St} {sl' : List (Option SV)} (hl : sl'.length = σ'.length)
    (h : ∀ (i : Nat) (sv : SV), sl'[i]? = some (some sv) → (fr.sl[i]? = some (some sv) ∧ σ'[i]? = σ[i]?) ∨ ((∀ d, sv ≠ .ow d) ∧ ∃ v, σ'[i]? = some (some v) ∧ SVok K B ps I H v sv)) : Rep K B ps I σ' H { fr with sl := sl' } where
  same := r.same
  keep := r.keep
  nd := r.nd
  plen := r.plen
  par := r.par
  pout := r.pout
  slen := hl
  slot := fun i sv e => by
    rcases h i sv e with ⟨e1, e2⟩ | ⟨_, v, e2, z⟩
    · obtain ⟨v, e3, z⟩ := r.slot i sv e1
      exact ⟨v, e2.trans e3, z⟩
    · exact ⟨v, e2, z⟩
  own := fun i j p d e n h1 h2 h3 => by
    rcases h i _ h1 with ⟨a1, a2⟩ | ⟨a, _⟩
    · rcases h j _ h2 with ⟨b1, b2⟩ | ⟨b, _⟩
      · rw [b2]; exact r.own i j p d e n a1 b1 (a2.symm.trans h3)
      · exact absurd rfl (b _)
    · exact absurd rfl (a _)
theorem wipeF_get {fr : Fr} {i : Nat} {sv : SV} : ∀ {vs : List Nat}, (wipeF fr vs).sl[i]? = some (some sv) → fr.sl[i]? = some (some sv) ∧ i ∉ vs
  | [], h => ⟨h, by simp⟩
  | v :: vs, h => by
    have h' : ((wipeF fr vs).sl.set v none)[i]? = some (some sv) := h
    by_cases hi : v = i
    · subst hi
      by_cases hv : v < (wipeF fr vs).sl.length
      · rw [List.getElem?_set_self hv] at h'; cases h'
      · rw [List.getElem?_eq_none (by simpa using hv)] at h'; cases h'
    · rw [List.getElem?_set_ne hi] at h'
      obtain ⟨h1, h2⟩ := wipeF_get h'
      exact ⟨h1, by simp only [List.mem_cons, not_or]; exact ⟨fun e => hi e.symm, h2⟩⟩
theorem wipeF_len (fr : Fr) : ∀ vs : List Nat, (wipeF fr vs).sl.length = fr.sl.length
  | [] => rfl
  | v :: vs => by show ((wipeF fr vs).sl.set v none).length = _; rw [List.length_set, wipeF_len fr vs]
theorem wipeF_ps (fr : Fr) : ∀ vs : List Nat, (wipeF fr vs).ps = fr.ps
  | [] => rfl
  | v :: vs => wipeF_ps fr vs
theorem backF_len (f0 fr : Fr) : ∀ vs : List Nat, (backF f0 fr vs).sl.length = fr.sl.length
  | [] => rfl
  | v :: vs => by show (List.set (backF f0 fr vs).sl v _).length = _; rw [List.length_set, backF_len f0 fr vs]
theorem backF_ps (f0 fr : Fr) : ∀ vs : List Nat, (backF f0 fr vs).ps = fr.ps
  | [] => rfl
  | v :: vs => backF_ps f0 fr vs
theorem backF_get {f0 fr : Fr} {i : Nat} {sv : SV} : ∀ {vs : List Nat}, (backF f0 fr vs).sl[i]? = some (some sv) → (fr.sl[i]? = some (some sv) ∧ i ∉ vs) ∨ (f0.sl[i]? = some (some sv) ∧ ∀ d, sv ≠ .ow d)
  | [], h => .inl ⟨h, by simp⟩
  | v :: vs, h => by
    have h' : ((backF f0 fr vs).sl.set v (match f0.sl[v]? with | some (some (.sh d)) => some (.sh d) | some (some (.pa k)) => some (.pa k) | _ => none))[i]? = some (some sv) := h
    by_cases hi : v = i
    · subst hi
      by_cases hv : v < (backF f0 fr vs).sl.length
      · rw [List.getElem?_set_self hv] at h'
        have h2 := Option.some.inj h'
        split at h2
        · rename_i d e; cases h2; exact .inr ⟨e, fun d z => nomatch z⟩
        · rename_i d e; cases h2; exact .inr ⟨e, fun d z => nomatch z⟩
        · cases h2
      · rw [List.getElem?_eq_none (by simpa using hv)] at h'; cases h'
    · rw [List.getElem?_set_ne hi] at h'
      rcases backF_get h' with ⟨h1, h2⟩ | h1
      · exact .inl ⟨h1, by simp only [List.mem_cons, not_or]; exact ⟨fun e => hi e.symm, h2⟩⟩
      · exact .inr h1
theorem Rep.wipe {K : PySem.W.Frag} {B I H : Hp} {ps : List Addr} {σ : L2.St} {fr : Fr} (r : Rep K B ps I σ H fr) (vs : List Nat) : Rep K B ps I (L2.wipe σ vs) H (wipeF fr vs) := by
  have e : wipeF fr vs = { fr with sl := (wipeF fr vs).sl } := by
    have := wipeF_ps fr vs
    cases hw : wipeF fr vs with
    | mk sl ps' => rw [hw] at this; cases this; rfl
  rw [e]
  refine r.forget (by rw [wipeF_len, wipe_length]; exact r.slen) fun i sv h => ?_
  obtain ⟨h1, h2⟩ := wipeF_get h
  exact .inl ⟨h1, wipe_out h2⟩
theorem Rep.backW {K : PySem.W.Frag} {B I H : Hp} {ps : List Addr} {σ : L2.St} {fr : Fr} {vs : List Nat} (r : Rep K B ps I (L2.wipe σ vs) H fr) : Rep K B ps I σ H (wipeF fr vs) := by
  have e : wipeF fr vs = { fr with sl := (wipeF fr vs).sl } := by
    have := wipeF_ps fr vs
    cases hw : wipeF fr vs with
    | mk sl ps' => rw [hw] at this; cases this; rfl
  rw [e]
  refine r.forget (by rw [wipeF_len, r.slen, wipe_length]) fun i sv h => ?_
  obtain ⟨h1, h2⟩ := wipeF_get h
  exact .inl ⟨h1, (wipe_out h2).symm⟩
theorem Rep.back {K : PySem.W.Frag} {B I I0 H H0 : Hp} {ps : List Addr} {σ : L2.St} {f0 fr : Fr} {vs : List Nat} (r0 : Rep K B ps I0 σ H0 f0) (r : Rep K B ps I (L2.wipe σ vs) H fr) (s : Same I0 I) : Rep K B ps I σ H (backF f0 fr vs) := by
  have e : backF f0 fr vs = { fr with sl := (backF f0 fr vs).sl } := by
    have := backF_ps f0 fr vs
    cases hw : backF f0 fr vs with
    | mk sl ps' => rw [hw] at this; cases this; rfl
  rw [e]
  refine r.forget (by rw [backF_len, r.slen, wipe_length]) fun i sv h => ?_
  rcases backF_get h with ⟨h1, h2⟩ | ⟨h1, h2⟩
  · exact .inl ⟨h1, (wipe_out h2).symm⟩
  · obtain ⟨v, e1, z⟩ := r0.slot i sv h1
    refine .inr ⟨h2, v, e1, ?_⟩
    cases sv with
    | sh d => exact R.mono s z
    | pa k => exact z
    | ex k => exact z
    | ow d => exact absurd rfl (h2 d)
def nE : ER := fun _ _ _ => False
def W0 : WX := fun _ _ _ _ => False
theorem nEK {K : PySem.W.Frag} {W : WX} {B I : Hp} {ps : List Addr} {σ : L2.St} : EK K W B ps I σ nE := fun _ _ _ _ _ _ _ _ _ h => h.elim
theorem nEKs {K : PySem.W.Frag} {W : WX} {B I : Hp} {ps : List Addr} : EKs K W B ps I nE := fun _ => nEK
def dLcL (g : DG) (tt : DT) (te : DE) (vs : List Nat) : List D → Fr → (List D → Fr → Prop) → Prop
  | [], fr, k => k [] fr
  | x :: r, fr, k => g (.sh x) fr (fun fr2 => tt fr2 (fun b fr3 => Br b (te fr3 (fun rv fr4 => shr rv fr4 fun d fr5 => dLcL g tt te vs r (wipeF fr5 vs) fun ds fr6 => k (d :: ds) fr6) nE) (dLcL g tt te vs r (wipeF fr3 vs) k)) nE) nE
def dLc (di : DI) (g : DG) (tt : DT) (te : DE) (vs : List Nat) : DE := fun fr Q Er => di fr (fun items fr1 => Br (Nat.ble items.length 1000000) (nfF (wipeF fr1 vs) fun f0 => dLcL g tt te vs items f0 fun ds frN => nfF (wipeF frN vs) fun f => Q (.tm (.lst false ds)) f) False) Er
def WipeP (vs : List Nat) : L2.St → L2.St → Prop := fun σ σ' => L2.wipe σ' vs = L2.wipe σ vs
theorem wipeP {vs : List Nat} : PP (WipeP vs) := ⟨fun _ => rfl, fun _ _ _ h1 h2 => h2.trans h1⟩
theorem set_comm_none : ∀ {σ : L2.St} {i : Nat} {v : Option V} {vs : List Nat}, i ∉ vs → L2.wipe (σ.set i v) vs = (L2.wipe σ vs).set i v
  | σ, i, v, [], _ => rfl
  | σ, i, v, j :: vs, h => by
    simp only [List.mem_cons, not_or] at h
    show (L2.wipe (σ.set i v) vs).set j none = ((L2.wipe σ vs).set j none).set i v
    rw [set_comm_none h.2, List.set_comm _ _ h.1]
theorem wipe_set : ∀ {vs : List Nat} {i : Nat}, i ∈ vs → ∀ (σ : L2.St) (v : V), WipeP vs σ (σ.set i (some v))
  | [], i, h, σ, v => by cases h
  | j :: vs, i, h, σ, v => by
    show (L2.wipe (σ.set i (some v)) vs).set j none = (L2.wipe σ vs).set j none
    by_cases hv : i ∈ vs
    · have := wipe_set hv σ v
      unfold WipeP at this
      rw [this]
    · rw [set_comm_none hv]
      rcases List.mem_cons.mp h with z | z
      · subst z
        rw [List.set_set]
      · exact absurd z hv
theorem wipe_wipe (σ : L2.St) : ∀ vs : List Nat, L2.wipe (L2.wipe σ vs) vs = L2.wipe σ vs := by
  intro vs
  have gen : ∀ (us : List Nat), (∀ i ∈ us, ∀ x, (L2.wipe σ vs)[i]? ≠ some (some x)) → L2.wipe (L2.wipe σ vs) us = L2.wipe σ vs := by
    intro us
    induction us with
    | nil => intro _; rfl
    | cons j us ih =>
      intro h
      show (L2.wipe (L2.wipe σ vs) us).set j none = _
      rw [ih fun i hi => h i (List.mem_cons_of_mem _ hi)]
      by_cases hj : j < (L2.wipe σ vs).length
      · have e : (L2.wipe σ vs)[j]? = some none := by
          rw [List.getElem?_eq_getElem hj]
          cases q : (L2.wipe σ vs)[j] with
          | none => rfl
          | some x => exact absurd (by rw [List.getElem?_eq_getElem hj, q]) (h j List.mem_cons_self x)
        have e2 : (L2.wipe σ vs)[j] = none := by
          rw [List.getElem?_eq_getElem hj] at e
          exact Option.some.inj e
        rw [← e2]; exact List.set_getElem_self hj
      · exact List.set_eq_of_length_le (by omega)
  exact gen vs fun i hi x e => (wipe_some e).2 hi
theorem shr_rv {K : PySem.W.Frag} {B I H : Hp} {ps : List Addr} {σ : L2.St} {fr : Fr} {v : V} {rv : Rv} {k : D → Fr → Prop} (r : Rep K B ps I σ H fr) (o : RvOk K B ps I σ H fr v rv) (q : shr rv fr k) : ∃ d fr' J, k d fr' ∧ Ext B I J ∧ Rep K B ps J σ H fr' ∧ R K J v d := by
  obtain ⟨J2, e2, r2, o2⟩ := frz_of r o
  obtain ⟨d, fr3, J3, q3, e3, r3, h3⟩ := shr_of r2 o2 (shr_frz q)
  exact ⟨d, fr3, J3, q3, e2.trans e3, r3, h3⟩
theorem lc_emb {K : PySem.W.Frag} {W : WX} {wi : TI} {di : DI} {g : DG} {tt : DT} {te : DE} {vs : List Nat} (io : ItOk K W wi di) {σ : L2.St} {H : Hp} {Q : VK} (h : emb K W (dLc di g tt te vs) σ H Q) :
    tLc wi (embG K W0 (WipeP vs) g) (embT K W0 tt) (emb K W0 te) vs σ H Q := by
  obtain ⟨B, ps, I, fr, Q', Er, r, q, kq, ke⟩ := h
  refine io σ H _ B ps I fr _ Er r q (fun J H1 J0 fr1 items e1 r1 w q1 => ?_) ke
  intro Dd hD
  obtain ⟨hl, q1⟩ := br_ble q1
  simp only [nfF_eq] at q1
  obtain ⟨bB, bI, bp, bA⟩ := r1.fresh hD
  refine ⟨fun i m H2 => m = items.length - i ∧ i ≤ items.length ∧ ∃ (I2 : Hp) (fr2 : Fr) (acc : List V) (ds : List D), Ext B J0 I2 ∧ I2 Dd = none ∧ acc.length ≤ i ∧ Rep K (upd B Dd (.lst acc)) ps I2 (L2.wipe σ vs) H2 fr2 ∧ RA K I2 acc ds ∧
    dLcL g tt te vs (items.drop i) fr2 (fun ds' frN => Q' (.tm (.lst false (ds ++ ds'))) (wipeF frN vs)), ⟨items.length, by omega, Nat.zero_le _, J0, wipeF fr1 vs, [], [], Ext.refl _ _, bI, Nat.le_refl _, ?_, .nil, q1⟩, ?_⟩
  · refine ((r1.new hD).wipe vs).hold upd_same ?_
    exact (((r1.new (o := .lst []) hD).wipe vs).fresh (p := Dd) · |>.2.2.2) |> fun f => by
      intro i d hs e
      obtain ⟨h1, h2⟩ := wipeF_get hs
      rw [wipe_out h2] at e
      exact bA i d h1 e
  · rintro i m H2 ⟨rfl, hi, I2, fr2, acc, ds, e2, nI, la, r2, ra, q2⟩
    have hh := r2.held bp
    by_cases hlt : i < items.length
    · rw [List.drop_eq_getElem_cons hlt] at q2
      refine .inr ⟨w.go _ ps I2 _ H2 fr2 i e2.1 r2 hlt, fun H' => ∃ (I3 : Hp) (fr3 : Fr) (acc3 : List V) (ds3 : List D), Ext B J0 I3 ∧ I3 Dd = none ∧ acc3.length ≤ i + 1 ∧ Rep K (upd B Dd (.lst acc3)) ps I3 (L2.wipe σ vs) H' fr3 ∧ RA K I3 acc3 ds3 ∧
        dLcL g tt te vs (items.drop (i + 1)) fr3 (fun ds' frN => Q' (.tm (.lst false (ds3 ++ ds'))) (wipeF frN vs)), fun H' ⟨I3, fr3, acc3, ds3, h3⟩ => ⟨items.length - (i + 1), by omega, rfl, hlt, I3, fr3, acc3, ds3, h3⟩, fun x H' y => ?_⟩
      obtain ⟨d, I3, hd, e3, r3, rx⟩ := w.yld _ ps I2 _ H2 fr2 i x H' e2.1 r2 hlt y
      rw [List.getElem?_eq_getElem hlt] at hd
      cases hd
      refine ⟨_, ps, I3, fr2, .sh items[i], _, nE, r3, rx, q2, fun σ4 H4 J4 fr4 p4 e4 r4 q4 => ?_, nEKs⟩
      have p4 : L2.wipe σ4 vs = L2.wipe σ vs := p4.trans (wipe_wipe σ vs)
      refine ⟨p4, _, ps, J4, fr4, _, nE, r4, q4, fun b H5 J5 fr5 e5 r5 q5 => ?_, nEK⟩
      have i5 : J5 Dd = none := e5.heldI (e4.heldI (e3.heldI nI))
      have x5 : Ext B J0 J5 := e2.trans ((e3.unhold bB).trans ((e4.unhold bB).trans (e5.unhold bB)))
      have s5 : Same I2 J5 := e3.1.trans (e4.1.trans e5.1)
      cases b with
      | false =>
        have r6 := r5.wipe vs
        rw [p4] at r6
        exact ⟨J5, _, acc, ds, x5, i5, by omega, r6, ra.mono s5, q5.f1⟩
      | true =>
        refine ⟨_, ps, J5, fr5, _, nE, r5, q5.t1, fun z H6 J6 rv fr6 e6 r6 o6 q6 => ?_, nEK⟩
        obtain ⟨dz, fr7, J7, q7, e7, r7, rz⟩ := shr_rv r6 o6 q6
        have i7 : J7 Dd = none := e7.heldI (e6.heldI i5)
        have x7 := x5.trans ((e6.unhold bB).trans (e7.unhold bB))
        have h7 := r7.held bp
        refine ⟨acc, h7.1, Nat.lt_of_lt_of_le (show acc.length < 1000001 by omega) (by unfold sizeLine; omega), J7, wipeF fr7 vs, acc ++ [z], ds ++ [dz], x7, i7, by rw [List.length_append]; simp; omega, ?_, (ra.mono (s5.trans (e6.1.trans e7.1))).append (.cons rz .nil), ?_⟩
        · have r8 := (r7.poke (o' := .lst (acc ++ [z])) bp bB i7).wipe vs
          rw [p4] at r8
          refine r8.hold upd_same fun j d hs e => ?_
          obtain ⟨h1, h2⟩ := wipeF_get hs
          rw [← p4, wipe_out h2] at e
          exact h7.2 j d h1 e
        · simpa only [List.append_assoc, List.singleton_append] using q7
    · have e : i = items.length := by omega
      subst e
      rw [List.drop_length] at q2
      have q2 : Q' (.tm (.lst false (ds ++ []))) (wipeF fr2 vs) := q2
      rw [List.append_nil] at q2
      have rB := (r2.unhold bB).backW
      refine .inl ⟨w.stop _ ps I2 _ H2 fr2 e2.1 r2, kq (.ref Dd) H2 I2 (.tm (.lst false ds)) _ (e1.trans e2) rB ⟨Dd, rfl, bB, nI, bp, fun j d hs e => ?_, acc, hh.1, (fun z => nomatch z), ra⟩ q2⟩
      obtain ⟨h1, h2⟩ := wipeF_get hs
      exact hh.2 j d h1 (by rw [wipe_out h2]; exact e)
section
variable {X : Cx} {W : WX}
theorem fe_lc {elt tg iter : Expr} {ifs : List Expr} {scope : Scope} {own : List (Str × Nat)} {pos : Pos} {wi : TI} {di : DI} {g : DG} {tt : DT} {te : DE} (hc : X.calm = true) (hN : X.N.Nodup) (hi : PI X tg iter wi) (io : ItOk X.K W wi di) (ok : BlkOk X.N X.env.scope scope own)
    (hg : ∀ (s : Shared) (H : Hp) (C : Addr) (cl : List (Str × Addr)) (fp : List Addr), PG (X.blk s H scope (compEnvC scope cl C X.env) fp) tg (embG X.K W0 (WipeP (own.map (·.2))) g)) (ht : ∀ (s : Shared) (H : Hp) (C : Addr) (cl : List (Str × Addr)) (fp : List Addr), PTs (X.blk s H scope (compEnvC scope cl C X.env) fp) ifs (embT X.K W0 tt))
    (he : ∀ (s : Shared) (H : Hp) (C : Addr) (cl : List (Str × Addr)) (fp : List Addr), PE (X.blk s H scope (compEnvC scope cl C X.env) fp) elt (emb X.K W0 te)) (hs : ∀ x, foldedSetIterable iter X.env x = pure x := by intro _; rfl) :
    PE X (.ListComp elt [⟨tg, iter, ifs, 0⟩] scope pos) (emb X.K W (dLc di g tt te (own.map (·.2)))) := PE.weak (pe_lc hc hN hi ok hg ht he hs) fun σ H Q h => lc_emb io h
theorem fs_setLc {i : Nat} {y : Str} {py : Pos} {elt tg iter : Expr} {ifs : List Expr} {scope : Scope} {own : List (Str × Nat)} {pos spos : Pos} {wi : TI} {di : DI} {g : DG} {tt : DT} {te : DE} (hc : X.calm = true) (hN : X.N.Nodup) (hy : X.N[i]? = some y) (hyl : X.env.scope.names.lookup y = some .local)
    (hsw : swapsWith (.ListComp elt [⟨tg, iter, ifs, 0⟩] scope pos) (some (.Name y py)) spos.line X.env = pure true) (hi : PI X tg iter wi) (io : ItOk X.K W wi di) (ok : BlkOk X.N X.env.scope scope own)
    (hg : ∀ (s : Shared) (H : Hp) (C : Addr) (cl : List (Str × Addr)) (fp : List Addr), PG (X.blk s H scope (compEnvC scope cl C X.env) fp) tg (embG X.K W0 (WipeP (own.map (·.2))) g)) (ht : ∀ (s : Shared) (H : Hp) (C : Addr) (cl : List (Str × Addr)) (fp : List Addr), PTs (X.blk s H scope (compEnvC scope cl C X.env) fp) ifs (embT X.K W0 tt))
    (he : ∀ (s : Shared) (H : Hp) (C : Addr) (cl : List (Str × Addr)) (fp : List Addr), PE (X.blk s H scope (compEnvC scope cl C X.env) fp) elt (emb X.K W0 te)) (hs : ∀ x, foldedSetIterable iter X.env x = pure x := by intro _; rfl) :
    PS X (.Assign [.Name y py] (.ListComp elt [⟨tg, iter, ifs, 0⟩] scope pos) spos) (embS X.K W (dAsg (dLc di g tt te (own.map (·.2))) (dgName i))) := PS.weak (ps_setLc hc hN hy hyl hsw hi ok hg ht he hs) fun D σ H ⟨B, ps, I, fr, Dn, Er, r, q, kd, ke⟩ =>
  lc_emb io ⟨B, ps, I, fr, _, Er, r, q, fun v H' J rv fr' e r' o q' => by
    obtain ⟨fr2, J2, q2, e2, r2⟩ := setSl_of r' o q'
    exact kd.nx _ _ _ _ (e.trans e2) r2 q2, ke σ⟩
def dYes : DT := fun fr Q _ => Q true fr
theorem fts_nil : PTs X [] (embT X.K W dYes) := ⟨fun pins s σ H Q I h => pts_nil.run pins s σ H Q I (by
  obtain ⟨B, ps, J, fr, Q', Er, r, q, kq, ke⟩ := h
  exact kq true H J fr (Ext.refl _ _) r q)⟩
theorem fts_one {c : Expr} {t : DT} (h : PT X c (embT X.K W t)) : PTs X [c] (embT X.K W t) := pts_one h
end
end Dl
namespace Dl
open PySem PySem.Spec PyProof.Rows L2 Vx
/-! defs: what is handed over, what comes back -/
inductive Ag where
  | sh (d : D) | br (d : D)
/-- a def's promise over data: its arguments, what is wanted of its value and of the objects that it was lent, what is wanted of an error -/
abbrev DSp := List Ag → (Rv → List D → Prop) → (Addr → D → List D → Prop) → Prop
inductive ArgsOk (K : PySem.W.Frag) (I H : Hp) : List Addr → List V → List Ag → Prop
  | nil : ArgsOk K I H [] [] []
  | sh {ps : List Addr} {v : V} {vs : List V} {d : D} {as : List Ag} : R K I v d → ArgsOk K I H ps vs as → ArgsOk K I H ps (v :: vs) (.sh d :: as)
  | br {ps : List Addr} {p : Addr} {vs : List V} {d : D} {as : List Ag} : Root K I H p d → ArgsOk K I H ps vs as → ArgsOk K I H (p :: ps) (.ref p :: vs) (.br d :: as)
structure Back (K : PySem.W.Frag) (H : Hp) (ps : List Addr) (I J H' : Hp) (cs : List D) : Prop where
  ext : Ext H I J
  same : Same J H'
  keep : ∀ b o, H b = some o → b ∉ ps → H' b = some o
  len : cs.length = ps.length
  par : ∀ (k : Nat) (d : D), cs[k]? = some d → ∃ p, ps[k]? = some p ∧ Root K J H' p d
def ResOk (K : PySem.W.Frag) (H : Hp) (ps : List Addr) (J H' : Hp) (v : V) : Rv → Prop
  | .sh d => R K J v d
  | .tm d => ∃ p, v = .ref p ∧ H p = none ∧ J p = none ∧ p ∉ ps ∧ Root K J H' p d
  | .pa k => ∃ p, ps[k]? = some p ∧ v = .ref p
  | .pl _ => False
def lift (K : PySem.W.Frag) (n : Nat) (sp : DSp) : Sp := fun vs H Q E => ∃ I ps ags Q' Er', Same I H ∧ ps.Nodup ∧ (∀ p ∈ ps, I p = none) ∧ ArgsOk K I H ps vs ags ∧ ags.length = n ∧ sp ags Q' Er' ∧
  (∀ v H' J rv cs, Back K H ps I J H' cs → ResOk K H ps J H' v rv → Q' rv cs → Q v H') ∧
  (∀ (C : Addr) (d : D) (dx : Option Addr) H' J cs, Back K H ps I J H' cs → ErrOk K J H' dx d → Er' C d cs → E (.ref C) dx H')
def dsl : List Ag → Nat → List (Option SV)
  | [], _ => []
  | .sh d :: r, k => some (.sh d) :: dsl r k
  | .br _ :: r, k => some (.pa k) :: dsl r (k + 1)
def dps : List Ag → List D
  | [] => []
  | .sh _ :: r => dps r
  | .br d :: r => d :: dps r
def startF (n : Nat) (ags : List Ag) : Fr := ⟨dsl ags 0 ++ List.replicate (n - ags.length) none, dps ags⟩
def retv (rv : Rv) (fr : Fr) (Q : Rv → List D → Prop) : Prop :=
  match rv with
  | .pl i => match fr.sl[i]? with
    | some (some (.ow d)) => Q (.tm d) fr.ps
    | _ => False
  | r => Q r fr.ps
/-- the promise that a body keeps -/
def spB (n : Nat) (t : DS) : DSp := fun ags Q Er => nfF (startF n ags) fun fr0 => t { nx := fun fr => Q (.sh .non) fr.ps, rt := fun rv fr => retv rv fr Q } (fun C d fr => Er C d fr.ps) fr0
theorem dsl_len : ∀ (ags : List Ag) (k : Nat), (dsl ags k).length = ags.length
  | [], _ => rfl
  | .sh _ :: r, k => by show (dsl r k).length + 1 = _; rw [dsl_len r k]; rfl
  | .br _ :: r, k => by show (dsl r (k + 1)).length + 1 = _; rw [dsl_len r (k + 1)]; rfl
section
variable {K : PySem.W.Frag} {I H : Hp}
theorem ArgsOk.len : ∀ {ps : List Addr} {vs : List V} {ags : List Ag}, ArgsOk K I H ps vs ags → vs.length = ags.length ∧ (dps ags).length = ps.length
  | _, _, _, .nil => ⟨rfl, rfl⟩
  | _, _, _, .sh _ t => ⟨by rw [List.length_cons, List.length_cons, t.len.1], t.len.2⟩
  | _, _, _, .br _ t => ⟨by rw [List.length_cons, List.length_cons, t.len.1], by show (dps _).length + 1 = _; rw [t.len.2]; rfl⟩
theorem ArgsOk.roots : ∀ {ps : List Addr} {vs : List V} {ags : List Ag} {k : Nat} {d : D}, ArgsOk K I H ps vs ags → (dps ags)[k]? = some d → ∃ p, ps[k]? = some p ∧ Root K I H p d
  | _, _, _, _, _, .nil, e => by cases e
  | _, _, _, _, _, .sh _ t, e => t.roots e
  | _, _, _, 0, _, .br h t, e => by cases e; exact ⟨_, rfl, h⟩
  | _, _, _, k + 1, _, .br h t, e => t.roots (k := k) e
theorem ArgsOk.slots : ∀ {ps qs : List Addr} {vs : List V} {ags : List Ag} {i : Nat} {sv : SV}, ArgsOk K I H ps vs ags → (dsl ags qs.length)[i]? = some (some sv) → ∃ v, vs[i]? = some v ∧ ((∃ d, sv = .sh d ∧ R K I v d) ∨ ∃ k p, sv = .pa k ∧ (qs ++ ps)[k]? = some p ∧ v = .ref p)
  | _, _, _, _, _, _, .nil, e => by cases e
  | _, _, _, _, 0, _, .sh h t, e => by cases e; exact ⟨_, rfl, .inl ⟨_, rfl, h⟩⟩
  | _, _, _, _, i + 1, _, .sh h t, e => t.slots (i := i) e
  | _, qs, _, _, 0, _, .br h t, e => by
    cases e
    exact ⟨_, rfl, .inr ⟨_, _, rfl, by simp, rfl⟩⟩
  | p :: ps, qs, _, _, i + 1, _, .br h t, e => by
    have e : (dsl _ (qs.length + 1))[i]? = some (some _) := e
    obtain ⟨v, e1, h1⟩ := t.slots (qs := qs ++ [p]) (i := i) (by rw [List.length_append]; exact e)
    exact ⟨v, e1, by simpa using h1⟩
end
theorem start_rep {K : PySem.W.Frag} {I H : Hp} {ps : List Addr} {vs : List V} {ags : List Ag} {N : List Str} (s : Same I H) (nd : ps.Nodup) (po : ∀ p ∈ ps, I p = none) (a : ArgsOk K I H ps vs ags) (hl : ags.length ≤ N.length) : Rep K H ps I (start N vs) H (startF N.length ags) := by
  have hv := a.len.1
  have hs : start N vs = vs.map some ++ List.replicate (N.length - vs.length) none := rfl
  refine ⟨s, fun b o e _ => e, nd, a.len.2, fun k d e => a.roots e, po, ?_, fun i sv e => ?_, fun i j p d e n h1 => ?_⟩
  · rw [hs]
    show (dsl ags 0 ++ List.replicate (N.length - ags.length) none).length = _
    simp [dsl_len, hv]
  · have e : (dsl ags 0 ++ List.replicate (N.length - ags.length) none)[i]? = some (some sv) := e
    by_cases hi : i < ags.length
    · rw [List.getElem?_append_left (by rw [dsl_len]; exact hi)] at e
      obtain ⟨v, e1, h1⟩ := a.slots (qs := []) e
      refine ⟨v, by rw [hs, List.getElem?_append_left (by rw [List.length_map, hv]; exact hi), List.getElem?_map, e1]; rfl, ?_⟩
      rcases h1 with ⟨d, rfl, h⟩ | ⟨k, p, rfl, h, rfl⟩
      · exact h
      · exact ⟨p, by simpa using h, rfl⟩
    · rw [List.getElem?_append_right (by rw [dsl_len]; omega)] at e
      have := List.mem_of_getElem? e
      simp at this
  · have h1 : (dsl ags 0 ++ List.replicate (N.length - ags.length) none)[i]? = some (some (.ow d)) := h1
    by_cases hi : i < ags.length
    · rw [List.getElem?_append_left (by rw [dsl_len]; exact hi)] at h1
      obtain ⟨v, _, h⟩ := a.slots (qs := []) h1
      rcases h with ⟨d, h, _⟩ | ⟨k, p, h, _⟩ <;> cases h
    · rw [List.getElem?_append_right (by rw [dsl_len]; omega)] at h1
      have := List.mem_of_getElem? h1
      simp at this
theorem Rep.toBack {K : PySem.W.Frag} {I J H H' : Hp} {ps : List Addr} {σ' : L2.St} {fr' : Fr} (r : Rep K H ps J σ' H' fr') (e : Ext H I J) : Back K H ps I J H' fr'.ps := ⟨e, r.same, r.keep, r.plen, r.par⟩
/-- THE RULE for a def -/
theorem fnD {P : Program} {w : World} {K : PySem.W.Frag} {mg : Str → Option Value} {base : Heap} {x qual : Str} {st : Stmt} {f : Addr} {fd : FuncData} {N ps : List Str} {k : Nat} {t : DS} (F : Fun K x qual st f fd) (S : FnScope N ps (defScope st)) (hn : ps.length ≤ N.length)
    (walk : ∀ (cdv : Value) (A : Around) (outer : List Env) (s : Shared) (H : Hp) (E : XK), A.guards = some [] → Room k (A.deeper (envOfC qual (defScope st) s.heap.objs.size f cdv)) →
      L2N.Takes (cxOf (L2N.CX P w) P w K mg base N qual (defScope st) f cdv A outer s H E) (fun cls d _ H => E cls d H) → PSs (cxOf (L2N.CX P w) P w K mg base N qual (defScope st) f cdv A outer s H E) (defBody st) (embS K (fun cls d _ H => E cls d H) t)) :
    FnG P w K mg base (L2N.CX P w) (k + 1) f fd ps (lift K ps.length (spB N.length t)) := by
  obtain ⟨oc, od, kV, doc, pm, an, cdv, ct, osl, rfl, found, code⟩ := F.ex
  refine fnG_of found code S (fun vs H Q E h => ?_) fun A outer s H vs Q E hg hr asked => ?_
  · obtain ⟨I, qs, ags, Q', Er', s, nd, po, a, hl, _⟩ := h
    rw [a.len.1, hl]
  · obtain ⟨I, qs, ags, Q', Er', sm, nd, po, a, hl, h, kq, ke⟩ := asked
    refine ⟨_, walk cdv A outer s H E hg hr (L2N.takes_of rfl rfl rfl rfl), H, qs, I, startF N.length ags, _, _, start_rep sm nd po a (by rw [hl]; exact hn), (nfF_eq (startF N.length ags) _).mp h, ⟨fun σ' H' J fr' e r q => ?_, fun v σ' H' J rv fr' e r o q => ?_, fun _ _ _ _ _ _ q => q.elim, fun _ _ _ _ _ _ q => q.elim⟩, fun σ C d dx H' J fr' e r o q => ?_⟩
    · exact kq _ _ _ (.sh .non) _ (r.toBack e) R.non q
    · cases rv with
      | sh d => exact kq _ _ _ (.sh d) _ (r.toBack e) o q
      | tm d =>
        obtain ⟨p, rfl, b, c, n, _, rt⟩ := o
        exact kq _ _ _ (.tm d) _ (r.toBack e) ⟨p, rfl, b, c, n, rt⟩ q
      | pa j => exact kq _ _ _ (.pa j) _ (r.toBack e) o q
      | pl i =>
        obtain ⟨o1, d, o2⟩ := o
        have q' : (match fr'.sl[i]? with | some (some (.ow d)) => Q' (.tm d) fr'.ps | _ => False) := q
        rw [o2] at q'
        obtain ⟨v', e1, p, e2, b, c, n, rt⟩ := r.slot i _ o2
        rw [o1] at e1; cases e1
        exact kq _ _ _ (.tm d) _ (r.toBack e) ⟨p, e2, b, c, n, rt⟩ q'
    · exact ke C d dx H' J _ (r.toBack e) o q
/-! calls -/
def shrM : List Bool → List Rv → Fr → (List Rv → Fr → Prop) → Prop
  | _, [], fr, k => k [] fr
  | true :: m, r :: rs, fr, k => shrM m rs fr fun qs fr1 => k (r :: qs) fr1
  | _ :: m, r :: rs, fr, k => shr r fr fun d fr1 => shrM m rs fr1 fun qs fr2 => k (.sh d :: qs) fr2
  | [], r :: rs, fr, k => shr r fr fun d fr1 => shrM [] rs fr1 fun qs fr2 => k (.sh d :: qs) fr2
def rdM : List Rv → Fr → (List Ag → List Rv → Prop) → Prop
  | [], _, k => k [] []
  | .sh d :: rs, fr, k => rdM rs fr fun as bs => k (.sh d :: as) bs
  | .pl i :: rs, fr, k => match fr.sl[i]? with
    | some (some (.ow d)) => rdM rs fr fun as bs => k (.br d :: as) (.pl i :: bs)
    | _ => False
  | .pa j :: rs, fr, k => match fr.ps[j]? with
    | some d => rdM rs fr fun as bs => k (.br d :: as) (.pa j :: bs)
    | none => False
  | .tm _ :: _, _, _ => False
def put1 (b : Rv) (c : D) (fr : Fr) : Fr := match b with
  | .pl i => { fr with sl := fr.sl.set i (some (.ow c)) }
  | .pa j => { fr with ps := fr.ps.set j c }
  | _ => fr
def putF : List Rv → List D → Fr → Fr
  | b :: bs, c :: cs, fr => putF bs cs (put1 b c fr)
  | _, _, fr => fr
def sameB : Rv → Rv → Bool
  | .pl i, .pl j => Nat.beq i j
  | .pa i, .pa j => Nat.beq i j
  | _, _ => false
def nodB : List Rv → Bool
  | [] => true
  | b :: bs => !(bs.any (sameB b)) && nodB bs
def bkRv (rv : Rv) (bs : List Rv) (Q : Rv → Prop) : Prop := match rv with
  | .pa j => match bs[j]? with
    | some b => Q b
    | none => True
  | .pl _ => True
  | r => Q r
def callT (n : Nat) (sp : DSp) (m : List Bool) (dd : List D) (rs : List Rv) (fr1 : Fr) (Q : QR) (Er : ER) : Prop := shrM m rs fr1 fun qs fr2 => rdM qs fr2 fun as bs => Br (nodB bs && Nat.beq (as ++ dd.map Ag.sh).length n)
  (Rg (sp (as ++ dd.map .sh) (fun rv cs => bkRv rv bs fun r => nfF (putF bs cs fr2) fun f => Q r f) (fun C d cs => Er C d (putF bs cs fr2)))) False
def dCall (n : Nat) (sp : DSp) (m : List Bool) (dd : List D) (ta : DA) : DE := fun fr Q Er => ta fr (fun rs fr1 => callT n sp m dd rs fr1 Q Er) Er
section
variable {K : PySem.W.Frag} {B I H : Hp} {ps : List Addr} {σ : L2.St} {fr : Fr}
theorem shrM_of : ∀ {m : List Bool} {rs : List Rv} {vs : List V} {I : Hp} {fr : Fr} {k : List Rv → Fr → Prop}, Rep K B ps I σ H fr → OpsOk K ps I σ vs rs → shrM m rs fr k → ∃ qs fr' J, k qs fr' ∧ Ext B I J ∧ Rep K B ps J σ H fr' ∧ OpsOk K ps J σ vs qs
  | _, [], _, I, fr, k, r, o, q => by cases o; exact ⟨[], fr, I, by cases ‹List Bool› <;> (unfold shrM at q; exact q), Ext.refl _ _, r, .nil⟩
  | true :: m, x :: rs, _, I, fr, k, r, o, q => by
    cases o with
    | cons o1 o2 =>
      unfold shrM at q
      obtain ⟨qs, fr2, J2, q2, e2, r2, h2⟩ := shrM_of r o2 q
      exact ⟨x :: qs, fr2, J2, q2, e2, r2, .cons (o1.mono e2.1) h2⟩
  | false :: m, x :: rs, _, I, fr, k, r, o, q => by
    cases o with
    | cons o1 o2 =>
      unfold shrM at q
      obtain ⟨d, fr1, J1, q1, e1, r1, h1⟩ := shr_of r o1 q
      obtain ⟨qs, fr2, J2, q2, e2, r2, h2⟩ := shrM_of r1 (o2.mono e1.1) q1
      exact ⟨.sh d :: qs, fr2, J2, q2, e1.trans e2, r2, .cons (R.mono e2.1 h1) h2⟩
  | [], x :: rs, _, I, fr, k, r, o, q => by
    cases o with
    | cons o1 o2 =>
      unfold shrM at q
      obtain ⟨d, fr1, J1, q1, e1, r1, h1⟩ := shr_of r o1 q
      obtain ⟨qs, fr2, J2, q2, e2, r2, h2⟩ := shrM_of r1 (o2.mono e1.1) q1
      exact ⟨.sh d :: qs, fr2, J2, q2, e1.trans e2, r2, .cons (R.mono e2.1 h1) h2⟩
/-- a place and its address -/
def PlOk (σ : L2.St) (ps : List Addr) (fr : Fr) (b : Rv) (p : Addr) : Prop := match b with
  | .pl i => σ[i]? = some (some (.ref p)) ∧ ∃ d, fr.sl[i]? = some (some (.ow d))
  | .pa j => ps[j]? = some p
  | _ => False
inductive PlsOk (σ : L2.St) (ps : List Addr) (fr : Fr) : List Rv → List Addr → Prop
  | nil : PlsOk σ ps fr [] []
  | cons {b : Rv} {bs : List Rv} {p : Addr} {qs : List Addr} : PlOk σ ps fr b p → PlsOk σ ps fr bs qs → PlsOk σ ps fr (b :: bs) (p :: qs)
theorem rdM_of (r : Rep K B ps I σ H fr) : ∀ {rs : List Rv} {vs : List V} {k : List Ag → List Rv → Prop}, OpsOk K ps I σ vs rs → rdM rs fr k → ∃ as bs qs, k as bs ∧ ArgsOk K I H qs vs as ∧ PlsOk σ ps fr bs qs
  | [], _, k, o, q => by cases o; exact ⟨[], [], [], q, .nil, .nil⟩
  | .sh d :: rs, _, k, o, q => by
    cases o with
    | cons o1 o2 =>
      obtain ⟨as, bs, qs, q1, a1, p1⟩ := rdM_of r o2 (show rdM rs fr _ from q)
      exact ⟨.sh d :: as, bs, qs, q1, .sh o1 a1, p1⟩
  | .tm d :: rs, _, k, o, q => (show False from q).elim
  | .pl i :: rs, _, k, o, q => by
    cases o with
    | cons o1 o2 =>
      have q' : (match fr.sl[i]? with | some (some (.ow d)) => rdM rs fr fun as bs => k (.br d :: as) (.pl i :: bs) | _ => False) := q
      split at q'
      · rename_i d e
        obtain ⟨as, bs, qs, q1, a1, p1⟩ := rdM_of r o2 q'
        obtain ⟨v', e1, p, e2, b, c, n, rt⟩ := r.slot i _ e
        rw [show σ[i]? = some (some _) from o1] at e1
        cases e1; subst e2
        exact ⟨.br d :: as, .pl i :: bs, p :: qs, q1, .br rt a1, .cons ⟨o1, d, e⟩ p1⟩
      · exact q'.elim
  | .pa j :: rs, _, k, o, q => by
    cases o with
    | cons o1 o2 =>
      have q' : (match fr.ps[j]? with | some d => rdM rs fr fun as bs => k (.br d :: as) (.pa j :: bs) | none => False) := q
      split at q'
      · rename_i d e
        obtain ⟨as, bs, qs, q1, a1, p1⟩ := rdM_of r o2 q'
        obtain ⟨p, e1, rt⟩ := r.par j _ e
        obtain ⟨p', e2, rfl⟩ := o1
        rw [e1] at e2; cases e2
        exact ⟨.br d :: as, .pa j :: bs, p :: qs, q1, .br rt a1, .cons e1 p1⟩
      · exact q'.elim
theorem PlOk.info (r : Rep K B ps I σ H fr) {b : Rv} {p : Addr} (h : PlOk σ ps fr b p) : I p = none ∧ (p ∈ ps ∨ B p = none) := by
  cases b with
  | pl i =>
    obtain ⟨h1, d, h2⟩ := h
    obtain ⟨v', e1, q, e2, b, c, n, rt⟩ := r.slot i _ h2
    rw [h1] at e1; cases e1; cases e2
    exact ⟨c, .inr b⟩
  | pa j => exact ⟨r.pout p (List.mem_of_getElem? h), .inl (List.mem_of_getElem? h)⟩
  | sh d => exact h.elim
  | tm d => exact h.elim
theorem PlOk.inj (r : Rep K B ps I σ H fr) {b c : Rv} {p : Addr} (h : PlOk σ ps fr b p) (h' : PlOk σ ps fr c p) : sameB b c = true := by
  cases b <;> cases c <;> first | exact h.elim | exact h'.elim | skip
  · rename_i i j
    obtain ⟨h1, d, h2⟩ := h
    obtain ⟨h3, e, h4⟩ := h'
    have : i = j := Decidable.byContradiction fun n => r.own i j p d e n h2 h4 h1 h3
    subst this
    exact Nat.beq_refl i
  · rename_i i j
    obtain ⟨h1, d, h2⟩ := h
    obtain ⟨v', e1, q, e2, b, c, n, rt⟩ := r.slot i _ h2
    rw [h1] at e1; cases e1; cases e2
    exact absurd (List.mem_of_getElem? h') n
  · rename_i i j
    obtain ⟨h1, d, h2⟩ := h'
    obtain ⟨v', e1, q, e2, b, c, n, rt⟩ := r.slot j _ h2
    rw [h1] at e1; cases e1; cases e2
    exact absurd (List.mem_of_getElem? h) n
  · rename_i i j
    have hj := (List.getElem?_eq_some_iff.mp (show ps[i]? = some p from h)).1
    have : i = j := (List.getElem?_inj hj r.nd).mp ((show ps[i]? = some p from h).trans (show ps[j]? = some p from h').symm)
    subst this
    exact Nat.beq_refl i
theorem PlsOk.get : ∀ {bs : List Rv} {qs : List Addr} {m : Nat} {p : Addr}, PlsOk σ ps fr bs qs → qs[m]? = some p → ∃ b, bs[m]? = some b ∧ PlOk σ ps fr b p
  | _, _, _, _, .nil, e => by cases e
  | _, _, 0, _, .cons h t, e => by cases e; exact ⟨_, rfl, h⟩
  | _, _, m + 1, _, .cons h t, e => PlsOk.get (m := m) t e
theorem PlsOk.get' : ∀ {bs : List Rv} {qs : List Addr} {m : Nat} {b : Rv}, PlsOk σ ps fr bs qs → bs[m]? = some b → ∃ p, qs[m]? = some p ∧ PlOk σ ps fr b p
  | _, _, _, _, .nil, e => by cases e
  | _, _, 0, _, .cons h t, e => by cases e; exact ⟨_, rfl, h⟩
  | _, _, m + 1, _, .cons h t, e => PlsOk.get' (m := m) t e
theorem PlsOk.len : ∀ {bs : List Rv} {qs : List Addr}, PlsOk σ ps fr bs qs → bs.length = qs.length
  | _, _, .nil => rfl
  | _, _, .cons h t => by rw [List.length_cons, List.length_cons, PlsOk.len t]
theorem PlsOk.nd (r : Rep K B ps I σ H fr) : ∀ {bs : List Rv} {qs : List Addr}, PlsOk σ ps fr bs qs → nodB bs = true → qs.Nodup
  | _, _, .nil, _ => List.nodup_nil
  | b :: bs, p :: qs, .cons h t, e => by
    have e' : (!(bs.any (sameB b)) && nodB bs) = true := e
    rw [Bool.and_eq_true] at e'
    refine List.nodup_cons.mpr ⟨fun hm => ?_, PlsOk.nd r t e'.2⟩
    obtain ⟨m, hm1, hm2⟩ := List.getElem_of_mem hm
    obtain ⟨c, hc, hp⟩ := t.get (m := m) (p := p) (by rw [List.getElem?_eq_getElem hm1, hm2])
    have : bs.any (sameB b) = true := List.any_eq_true.mpr ⟨c, List.mem_of_getElem? hc, h.inj r hp⟩
    rw [this] at e'
    exact absurd e'.1 (by decide)
theorem put_len1 (b : Rv) (c : D) (fr : Fr) : (put1 b c fr).sl.length = fr.sl.length ∧ (put1 b c fr).ps.length = fr.ps.length := by
  cases b <;> simp [put1]
theorem put_len : ∀ (bs : List Rv) (cs : List D) (fr : Fr), (putF bs cs fr).sl.length = fr.sl.length ∧ (putF bs cs fr).ps.length = fr.ps.length
  | b :: bs, c :: cs, fr => by
    have h1 := put_len1 b c fr
    have h2 := put_len bs cs (put1 b c fr)
    exact ⟨h2.1.trans h1.1, h2.2.trans h1.2⟩
  | [], _, fr => by unfold putF; exact ⟨rfl, rfl⟩
  | _ :: _, [], fr => by unfold putF; exact ⟨rfl, rfl⟩
theorem put_ps : ∀ {bs : List Rv} {cs : List D} {fr : Fr} {k : Nat} {d : D}, bs.length = cs.length → (putF bs cs fr).ps[k]? = some d → (∃ m : Nat, bs[m]? = some (.pa k) ∧ cs[m]? = some d) ∨ (fr.ps[k]? = some d ∧ ∀ m : Nat, bs[m]? ≠ some (.pa k))
  | [], [], fr, k, d, _, h => .inr ⟨h, fun m z => by cases z⟩
  | b :: bs, c :: cs, fr, k, d, hl, h => by
    rcases put_ps (bs := bs) (cs := cs) (by simpa using hl) (show (putF bs cs (put1 b c fr)).ps[k]? = some d from h) with ⟨m, h1, h2⟩ | ⟨h1, h2⟩
    · exact .inl ⟨m + 1, h1, h2⟩
    · by_cases hb : b = .pa k
      · subst hb
        have h3 : (fr.ps.set k c)[k]? = some d := h1
        have hk : k < fr.ps.length := by
          have := (List.getElem?_eq_some_iff.mp h3).1
          simpa using this
        rw [List.getElem?_set_self hk] at h3
        cases h3
        exact .inl ⟨0, rfl, rfl⟩
      · refine .inr ⟨?_, fun m z => ?_⟩
        · cases b with
          | pa j =>
            have hj : j ≠ k := fun z => hb (by rw [z])
            have h3 : (fr.ps.set j c)[k]? = some d := h1
            rw [List.getElem?_set_ne hj] at h3
            exact h3
          | _ => exact h1
        · cases m with
          | zero => exact hb (Option.some.inj z)
          | succ m => exact h2 m z
theorem put_sl : ∀ {bs : List Rv} {cs : List D} {fr : Fr} {i : Nat} {sv : SV}, bs.length = cs.length → (putF bs cs fr).sl[i]? = some (some sv) → (∃ (m : Nat) (d : D), bs[m]? = some (.pl i) ∧ cs[m]? = some d ∧ sv = .ow d) ∨ (fr.sl[i]? = some (some sv) ∧ ∀ m : Nat, bs[m]? ≠ some (.pl i))
  | [], [], fr, k, d, _, h => .inr ⟨h, fun m z => by cases z⟩
  | b :: bs, c :: cs, fr, k, d, hl, h => by
    rcases put_sl (bs := bs) (cs := cs) (by simpa using hl) (show (putF bs cs (put1 b c fr)).sl[k]? = some (some d) from h) with ⟨m, d', h1, h2, h3⟩ | ⟨h1, h2⟩
    · exact .inl ⟨m + 1, d', h1, h2, h3⟩
    · by_cases hb : b = .pl k
      · subst hb
        have h3 : (fr.sl.set k (some (.ow c)))[k]? = some (some d) := h1
        have hk : k < fr.sl.length := by
          have := (List.getElem?_eq_some_iff.mp h3).1
          simpa using this
        rw [List.getElem?_set_self hk] at h3
        cases h3
        exact .inl ⟨0, c, rfl, rfl, rfl⟩
      · refine .inr ⟨?_, fun m z => ?_⟩
        · cases b with
          | pl j =>
            have hj : j ≠ k := fun z => hb (by rw [z])
            have h3 : (fr.sl.set j (some (.ow c)))[k]? = some (some d) := h1
            rw [List.getElem?_set_ne hj] at h3
            exact h3
          | _ => exact h1
        · cases m with
          | zero => exact hb (Option.some.inj z)
          | succ m => exact h2 m z
theorem put_keep : ∀ {bs : List Rv} {cs : List D} {fr : Fr} {i : Nat} {d : D}, fr.sl[i]? = some (some (.ow d)) → ∃ d', (putF bs cs fr).sl[i]? = some (some (.ow d'))
  | [], _, fr, i, d, h => by unfold putF; exact ⟨d, h⟩
  | _ :: _, [], fr, i, d, h => by unfold putF; exact ⟨d, h⟩
  | b :: bs, c :: cs, fr, i, d, h => by
    have : ∃ d', (put1 b c fr).sl[i]? = some (some (.ow d')) := by
      cases b with
      | pl j =>
        show ∃ d', (fr.sl.set j (some (.ow c)))[i]? = _
        by_cases hj : j = i
        · subst hj
          exact ⟨c, List.getElem?_set_self (List.getElem?_eq_some_iff.mp h).1⟩
        · exact ⟨d, by rw [List.getElem?_set_ne hj]; exact h⟩
      | _ => exact ⟨d, h⟩
    obtain ⟨d', h'⟩ := this
    exact put_keep (bs := bs) (cs := cs) h'
theorem put_get : ∀ {bs : List Rv} {cs : List D} {fr : Fr} {i j : Nat}, bs.length = cs.length → bs[j]? = some (.pl i) → i < (putF bs cs fr).sl.length → ∃ d, (putF bs cs fr).sl[i]? = some (some (.ow d))
  | b :: bs, c :: cs, fr, i, 0, hl, h, hi => by
    cases h
    refine put_keep (bs := bs) (cs := cs) (d := c) ?_
    rw [(put_len _ _ _).1] at hi
    exact List.getElem?_set_self hi
  | b :: bs, c :: cs, fr, i, j + 1, hl, h, hi => put_get (bs := bs) (cs := cs) (j := j) (by simpa using hl) h hi
/-- behind a call -/
theorem Rep.after (r : Rep K B ps I σ H fr) {bs : List Rv} {qs : List Addr} {J H' : Hp} {cs : List D} (pl : PlsOk σ ps fr bs qs) (nb : nodB bs = true) (b : Back K H qs I J H' cs) : Ext B I J ∧ Rep K B ps J σ H' (putF bs cs fr) := by
  have hl : bs.length = cs.length := by rw [pl.len, b.len]
  have nq : ∀ p, p ∈ qs → I p = none ∧ (p ∈ ps ∨ B p = none) := fun p hp => by
    obtain ⟨m, h1, h2⟩ := List.getElem_of_mem hp
    obtain ⟨c, hc, hp⟩ := pl.get (m := m) (p := p) (by rw [List.getElem?_eq_getElem h1, h2])
    exact hp.info r
  have hJ : ∀ p o, H p = some o → I p = none → J p = none := fun p o h1 h2 => by
    cases q : J p with
    | none => rfl
    | some u =>
      rcases b.ext.2 p u q with z | z
      · rw [h2] at z; cases z
      · rw [h1] at z; cases z
  have hB : ∀ p, H p = none → B p = none := fun p hp => (r.fresh hp).1
  refine ⟨⟨b.ext.1, fun p o h => ?_⟩, b.same, fun p o h n => ?_, r.nd, by rw [(put_len _ _ _).2]; exact r.plen, fun k d h => ?_, fun p hp => ?_, by rw [(put_len _ _ _).1]; exact r.slen, fun i sv h => ?_, fun i j p d e n h1 h2 h3 => ?_⟩
  · rcases b.ext.2 p o h with z | z
    · exact .inl z
    · exact .inr (hB p z)
  · refine b.keep p o (r.keep p o h n) fun hp => ?_
    rcases (nq p hp).2 with z | z
    · exact n z
    · rw [h] at z; cases z
  · rcases put_ps hl h with ⟨m, h1, h2⟩ | ⟨h1, h2⟩
    · obtain ⟨p, e1, h3⟩ := pl.get' h1
      obtain ⟨p', e2, rt⟩ := b.par m d h2
      rw [e1] at e2; cases e2
      exact ⟨p, h3, rt⟩
    · obtain ⟨p, e1, rt⟩ := r.par k d h1
      obtain ⟨o, e2⟩ := rt.some
      refine ⟨p, e1, rt.mono b.ext.1 ?_⟩
      rw [e2]
      refine b.keep p o e2 fun hp => ?_
      obtain ⟨m, g1, g2⟩ := List.getElem_of_mem hp
      obtain ⟨c, hc, hp⟩ := pl.get (m := m) (p := p) (by rw [List.getElem?_eq_getElem g1, g2])
      have := hp.inj r (c := .pa k) e1
      cases c with
      | pa j => exact h2 m (by rw [hc, Nat.eq_of_beq_eq_true this])
      | _ => cases this
  · obtain ⟨o, e⟩ := r.pin hp
    exact hJ p o e (r.pout p hp)
  · rcases put_sl hl h with ⟨m, d, h1, h2, rfl⟩ | ⟨h1, h2⟩
    · obtain ⟨p, e1, h3, d0, h4⟩ := pl.get' h1
      obtain ⟨p', e2, rt⟩ := b.par m d h2
      rw [e1] at e2; cases e2
      obtain ⟨v', e3, q, e4, bb, c, n, rt0⟩ := r.slot i _ h4
      rw [h3] at e3; cases e3; cases e4
      obtain ⟨o, e5⟩ := rt0.some
      exact ⟨_, h3, p, rfl, bb, hJ p o e5 c, n, rt⟩
    · obtain ⟨v, e1, z⟩ := r.slot i sv h1
      refine ⟨v, e1, ?_⟩
      cases sv with
      | sh d => exact R.mono b.ext.1 z
      | pa j => exact z
      | ex j => exact z
      | ow d =>
        obtain ⟨p, e2, bb, c, n, rt⟩ := z
        subst e2
        obtain ⟨o, e3⟩ := rt.some
        refine ⟨p, rfl, bb, hJ p o e3 c, n, rt.mono b.ext.1 ?_⟩
        rw [e3]
        refine b.keep p o e3 fun hp => ?_
        obtain ⟨m, g1, g2⟩ := List.getElem_of_mem hp
        obtain ⟨c, hc, hp⟩ := pl.get (m := m) (p := p) (by rw [List.getElem?_eq_getElem g1, g2])
        have := hp.inj r (c := .pl i) ⟨e1, d, h1⟩
        cases c with
        | pl j => exact h2 m (by rw [hc, Nat.eq_of_beq_eq_true this])
        | _ => cases this
  · have ow : ∀ (i : Nat) (d : D), (putF bs cs fr).sl[i]? = some (some (.ow d)) → ∃ d', fr.sl[i]? = some (some (.ow d')) := fun i d h => by
      rcases put_sl hl h with ⟨m, d, h1, h2, _⟩ | ⟨h1, h2⟩
      · obtain ⟨p, e1, h3, d0, h4⟩ := pl.get' h1
        exact ⟨d0, h4⟩
      · exact ⟨d, h1⟩
    obtain ⟨d1, g1⟩ := ow i d h1
    obtain ⟨d2, g2⟩ := ow j e h2
    exact r.own i j p d1 d2 n g1 g2 h3
end
theorem OpsOk.args {K : PySem.W.Frag} {I H : Hp} {dvs : List V} {dd : List D} (h : ∀ I, RA K I dvs dd) : ∀ {qs : List Addr} {vs : List V} {as : List Ag}, ArgsOk K I H qs vs as → ArgsOk K I H qs (vs ++ dvs) (as ++ dd.map .sh)
  | _, _, _, .nil => by
    have : ∀ {dvs : List V} {dd : List D}, RA K I dvs dd → ArgsOk K I H [] dvs (dd.map .sh) := fun {dvs dd} r => by
      induction dd generalizing dvs with
      | nil => cases r; exact .nil
      | cons d dd ih =>
        cases r with
        | cons a b => exact .sh a (ih b)
    exact this (h I)
  | _, _, _, .sh a t => .sh a (OpsOk.args h t)
  | _, _, _, .br a t => .br a (OpsOk.args h t)
theorem callT_emb {K : PySem.W.Frag} {B I H : Hp} {ps : List Addr} {σ : L2.St} {fr : Fr} {W : WX} {sp : DSp} {m : List Bool} {dvs : List V} {dd : List D} {n : Nat} (hd : ∀ I, RA K I dvs dd) {Q : VK} {Q' : QR} {Er : ER} {vs : List V} {rs : List Rv} (r0 : Rep K B ps I σ H fr) (o0 : OpsOk K ps I σ vs rs)
    (q0 : callT n sp m dd rs fr Q' Er) (kq : ∀ v H' J rv fr', Ext B I J → Rep K B ps J σ H' fr' → RvOk K B ps J σ H' fr' v rv → Q' rv fr' → Q v H') (ke : EK K W B ps I σ Er) : lift K n sp (vs ++ dvs) H Q (WE W σ) := by
  have e1 := Ext.refl B I
  obtain ⟨qs, fr2, J2, q2, e2, r2, o2⟩ := shrM_of r0 o0 q0
  obtain ⟨as, bs, al, q3, a3, p3⟩ := rdM_of r2 o2 q2
  cases hb' : nodB bs && Nat.beq (as ++ dd.map Ag.sh).length n with
  | false => rw [hb'] at q3; exact q3.f1.elim
  | true =>
    rw [hb'] at q3
    rw [Bool.and_eq_true] at hb'
    obtain ⟨hb, hl⟩ := hb'
    have hl := Nat.eq_of_beq_eq_true hl
    have q3 := q3.t1.ok
    simp only [nfF_eq] at q3
    have q3 : sp (as ++ dd.map .sh) (fun rv cs => bkRv rv bs fun r => Q' r (putF bs cs fr2)) (fun C d cs => Er C d (putF bs cs fr2)) := q3
    have eA := e1.trans e2
    refine ⟨J2, al, as ++ dd.map .sh, _, _, r2.same, p3.nd r2 hb, fun p hp => ?_, OpsOk.args hd a3, hl, q3, fun v H' J rv cs b o q => ?_, fun C d dx H' J cs b o q => ?_⟩
    · obtain ⟨k, h1, h2⟩ := List.getElem_of_mem hp
      obtain ⟨c, hc, hp⟩ := p3.get (m := k) (p := p) (by rw [List.getElem?_eq_getElem h1, h2])
      exact (hp.info r2).1
    · obtain ⟨x1, x2⟩ := r2.after p3 hb b
      cases rv with
      | sh d => exact kq _ _ J (.sh d) _ (eA.trans x1) x2 o q
      | tm d =>
        obtain ⟨p, rfl, h1, h2, h3, h4⟩ := o
        obtain ⟨f1, f2, f3, f4⟩ := r2.fresh h1
        refine kq _ _ J (.tm d) _ (eA.trans x1) x2 ⟨p, rfl, f1, h2, f3, fun i d' g1 g2 => ?_, h4⟩ q
        rcases put_sl (by rw [p3.len, b.len]) g1 with ⟨m, d2, g3, _, _⟩ | ⟨g3, _⟩
        · obtain ⟨p', _, g4, d0, g5⟩ := p3.get' g3
          exact f4 i d0 g5 g2
        · exact f4 i d' g3 g2
      | pa j =>
        obtain ⟨p, e3, rfl⟩ := o
        obtain ⟨c, hc, hp⟩ := p3.get e3
        have q' : (match bs[j]? with | some b => Q' b (putF bs cs fr2) | none => True) := q
        rw [hc] at q'
        refine kq _ _ J c _ (eA.trans x1) x2 ?_ q'
        cases c with
        | pl i =>
          obtain ⟨g1, d, g2⟩ := hp
          refine ⟨g1, ?_⟩
          have hlen : i < (putF bs cs fr2).sl.length := by
            rw [(put_len _ _ _).1]; exact (List.getElem?_eq_some_iff.mp g2).1
          obtain ⟨d', hd'⟩ : ∃ d', cs[j]? = some d' := by
            have : j < cs.length := by rw [b.len]; exact (List.getElem?_eq_some_iff.mp e3).1
            exact ⟨_, List.getElem?_eq_getElem this⟩
          exact put_get (by rw [p3.len, b.len]) hc hlen
        | pa i => exact ⟨p, hp, rfl⟩
        | sh d => exact hp.elim
        | tm d => exact hp.elim
      | pl i => exact o.elim
    · obtain ⟨x1, x2⟩ := r2.after p3 hb b
      exact ke C d dx H' J _ (eA.trans x1) x2 o q
theorem call_emb {K : PySem.W.Frag} {W : WX} {sp : DSp} {m : List Bool} {dvs : List V} {dd : List D} {n : Nat} (hd : ∀ I, RA K I dvs dd) {ta : DA} {σ : L2.St} {H : Hp} {Q : VK} (h : emb K W (dCall n sp m dd ta) σ H Q) :
    embA K W ta σ H fun vs H1 => lift K n sp (vs ++ dvs) H1 Q (WE W σ) := by
  obtain ⟨B, ps, I, fr, Q', Er, r, q, kq, ke⟩ := h
  exact ⟨B, ps, I, fr, _, Er, r, q, fun vs H1 J1 rs fr1 e1 r1 o1 q1 => callT_emb hd r1 o1 q1 (fun v H' J rv fr' e => kq v H' J rv fr' (e1.trans e)) (ke.ext e1), ke⟩
end Dl
namespace Dl
open PySem PySem.Spec PyProof.Rows L2 Vx
/-! a def called by its name -/
section
variable {X : Cx} {CX : CXT} {k : Nat} {f : Addr} {fd : FuncData} {ps : List Str} {sp : Sp} {dvs : List V} {ds : List Value} {E : L2.St → XK} {x : Str} {p pos : Pos} {e : Expr} {es : List Expr} {t : TA}
theorem goGS {pins : List (Addr × Obj)} {σ : L2.St} {H : Hp} {s : Shared} {Q : VK} {us : List Value} {vs : List V} (F : FnG X.prog X.w X.K X.mg X.base CX k f fd ps sp) (hg : X.A.guards = some []) (hr : Room k X.A) (hb : Binds X.K fd ps ds) (hd : Vals dvs ds) (hx : PassesAt CX X σ (E σ))
    (I : Inv X pins σ H s) (r : Vals vs us) (h : sp (vs ++ dvs) H Q (E σ)) : wpAny (model X.prog X.w) X.A (call (.ref f) us) (EP X pins σ Q) X.xe s := by
  have all : Vals (vs ++ dvs) (us ++ ds) := Vals.append r hd
  have many : (us ++ ds).length = ps.length := (Vals.length all).symm.trans (F.len _ _ _ _ h)
  apply wpAny_call
  refine codeAny_mono (F.run X.A X.stack s H ⟨us, []⟩ (us ++ ds) (vs ++ dvs) Q (E σ) hg hr I.env0 (hb s us I.kIn many) all h) fun res s' ended => ?_
  rcases res with er | fl
  · exact hx pins H s er s' I ended
  · cases fl with
    | ret u => exact I.after ended
    | next => exact (show False from ended).elim
    | brk => exact (show False from ended).elim
    | cont => exact (show False from ended).elim
theorem pe_callGS (F : FnG X.prog X.w X.K X.mg X.base CX k f fd ps sp) (hgd : X.A.guards = some []) (hr : Room k X.A) (hg : Gl X x) (hm : X.mg x = some (.ref f)) (hk : PySem.W.keepIn X.K (.ref f) = true) (hb : Binds X.K fd ps ds) (hd : Vals dvs ds) (hx : ∀ σ, PassesAt CX X σ (E σ))
    (ha : PA X (e :: es) t) (hdb : (x == ("__debug__" : Str)) = false := by decide) (he : starEach (e :: es) X.env = (false, eval e X.env) :: starEach es X.env := by rfl) (hpl : (backTo pos (starEach es X.env)).any (·.1) = false := by rfl) :
    PE X (.Call (.Name x p) (e :: es) [] pos) (fun σ H Q => t σ H fun vs H1 => sp (vs ++ dvs) H1 Q (E σ)) :=
  ⟨fun pins s σ H Q I h => wpAny_Call_Name_kw (ld_glob I hg hm (PySem.W.callWith_K (h₀ := X.base) I.ok.mod.kin hk
    (thn (ha.run pos pins s σ H _ I h) fun us s1 ⟨vs, H1, I1, r, q⟩ => ⟨I1.kIn, goGS F hgd hr hb hd (hx σ) I1 r q⟩) he hpl) hdb)⟩
end
section
variable {X : Cx} {W : WX} {k : Nat} {f : Addr} {fd : FuncData} {ps : List Str} {sp : DSp} {dvs : List V} {ds : List Value} {dd : List D} {x : Str} {p pos : Pos} {e : Expr} {es : List Expr} {ta : DA} {m : List Bool} {n : Nat}
theorem fe_callG (F : FnG X.prog X.w X.K X.mg X.base (L2N.CX X.prog X.w) k f fd ps (lift X.K n sp)) (hgd : X.A.guards = some []) (hr : Room k X.A) (hg : Gl X x) (hm : X.mg x = some (.ref f)) (hk : PySem.W.keepIn X.K (.ref f) = true) (hb : Binds X.K fd ps ds) (hd : Vals dvs ds) (hdd : ∀ I, RA X.K I dvs dd)
    (tk : L2N.Takes X W) (ha : PA X (e :: es) (embA X.K W ta)) (hdb : (x == ("__debug__" : Str)) = false := by decide) (he : starEach (e :: es) X.env = (false, eval e X.env) :: starEach es X.env := by rfl) (hpl : (backTo pos (starEach es X.env)).any (·.1) = false := by rfl) (hn : ps.length = n := by rfl) :
    PE X (.Call (.Name x p) (e :: es) [] pos) (emb X.K W (dCall n sp m dd ta)) :=
  by subst hn; exact PE.weak (pe_callGS F hgd hr hg hm hk hb hd (fun σ => L2N.passAt tk σ) ha hdb he hpl) fun _ _ _ h => call_emb hdd h
theorem fe_callO (F : FnOk X.prog X.w X.K X.mg X.base (L2N.CX X.prog X.w) k f fd ps (lift X.K n sp)) (hr : Room k X.A) (hg : Gl X x) (hm : X.mg x = some (.ref f)) (hk : PySem.W.keepIn X.K (.ref f) = true) (hb : Binds X.K fd ps ds) (hd : Vals dvs ds) (hdd : ∀ I, RA X.K I dvs dd)
    (tk : L2N.Takes X W) (ha : PA X (e :: es) (embA X.K W ta)) (hdb : (x == ("__debug__" : Str)) = false := by decide) (he : starEach (e :: es) X.env = (false, eval e X.env) :: starEach es X.env := by rfl) (hpl : (backTo pos (starEach es X.env)).any (·.1) = false := by rfl) (hn : ps.length = n := by rfl) :
    PE X (.Call (.Name x p) (e :: es) [] pos) (emb X.K W (dCall n sp m dd ta)) :=
  by subst hn; exact PE.weak (pe_callSD F hr hg hm hk hb hd (fun σ => L2N.passAt tk σ) ha hdb he hpl) fun _ _ _ h => call_emb hdd h
end
/-- a def of the text whose calls want nothing of the guards -/
theorem fnO {P : Program} {w : World} {K : PySem.W.Frag} {mg : Str → Option Value} {base : Heap} {x qual : Str} {st : Stmt} {f : Addr} {fd : FuncData} {N ps : List Str} {k : Nat} {t : DS} (F : Fun K x qual st f fd) (S : FnScope N ps (defScope st)) (hn : ps.length ≤ N.length)
    (walk : ∀ (cdv : Value) (A : Around) (outer : List Env) (s : Shared) (H : Hp) (E : XK), Room k (A.deeper (envOfC qual (defScope st) s.heap.objs.size f cdv)) →
      L2N.Takes (cxOf (L2N.CX P w) P w K mg base N qual (defScope st) f cdv A outer s H E) (fun cls d _ H => E cls d H) → PSs (cxOf (L2N.CX P w) P w K mg base N qual (defScope st) f cdv A outer s H E) (defBody st) (embS K (fun cls d _ H => E cls d H) t)) :
    FnOk P w K mg base (L2N.CX P w) (k + 1) f fd ps (lift K ps.length (spB N.length t)) := by
  obtain ⟨oc, od, kV, doc, pm, an, cdv, ct, osl, rfl, found, code⟩ := F.ex
  refine fn_of found code S (fun vs H Q E h => ?_) fun A outer s H vs Q E hr asked => ?_
  · obtain ⟨I, qs, ags, Q', Er', s, nd, po, a, hl, _⟩ := h
    rw [a.len.1, hl]
  · obtain ⟨I, qs, ags, Q', Er', sm, nd, po, a, hl, h, kq, ke⟩ := asked
    refine ⟨_, walk cdv A outer s H E hr (L2N.takes_of rfl rfl rfl rfl), H, qs, I, startF N.length ags, _, _, start_rep sm nd po a (by rw [hl]; exact hn), (nfF_eq (startF N.length ags) _).mp h, ⟨fun σ' H' J fr' e r q => ?_, fun v σ' H' J rv fr' e r o q => ?_, fun _ _ _ _ _ _ q => q.elim, fun _ _ _ _ _ _ q => q.elim⟩, fun σ C d dx H' J fr' e r o q => ?_⟩
    · exact kq _ _ _ (.sh .non) _ (r.toBack e) R.non q
    · cases rv with
      | sh d => exact kq _ _ _ (.sh d) _ (r.toBack e) o q
      | tm d =>
        obtain ⟨p, rfl, b, c, n, _, rt⟩ := o
        exact kq _ _ _ (.tm d) _ (r.toBack e) ⟨p, rfl, b, c, n, rt⟩ q
      | pa j => exact kq _ _ _ (.pa j) _ (r.toBack e) o q
      | pl i =>
        obtain ⟨o1, d, o2⟩ := o
        have q' : (match fr'.sl[i]? with | some (some (.ow d)) => Q' (.tm d) fr'.ps | _ => False) := q
        rw [o2] at q'
        obtain ⟨v', e1, p, e2, b, c, n, rt⟩ := r.slot i _ o2
        rw [o1] at e1; cases e1
        exact kq _ _ _ (.tm d) _ (r.toBack e) ⟨p, e2, b, c, n, rt⟩ q'
    · exact ke C d dx H' J _ (r.toBack e) o q
/-! isinstance of built-in classes -/
def tyN : D → Option String
  | .non => some "NoneType"
  | .bl _ => some "bool"
  | .int _ => some "int"
  | .str _ => some "str"
  | .lst _ _ => some "list"
  | .tup _ => some "tuple"
  | .dic _ _ => some "dict"
  | .ins _ _ _ => none
  | .scr _ => some "list"
  | .ktp _ => none
  | .cl _ => none
/-- the answers for one class -/
def kindB (t c : String) : Bool := t == c || (t == "bool" && c == "int")
def isiD (c : String) (d : D) (k : Rv → Prop) : Prop := match d with
  | .non => k (.sh (.bl (kindB "NoneType" c)))
  | .bl _ => k (.sh (.bl (kindB "bool" c)))
  | .int _ => k (.sh (.bl (kindB "int" c)))
  | .str _ => k (.sh (.bl (kindB "str" c)))
  | .lst _ _ => k (.sh (.bl (kindB "list" c)))
  | .tup _ => k (.sh (.bl (kindB "tuple" c)))
  | .dic _ _ => k (.sh (.bl (kindB "dict" c)))
  | _ => False
theorem RH.tyX {K : PySem.W.Frag} {I H : Hp} {v : V} {d : D} (s : Same I H) (h : RH K I H v d) {T : String} (e : tyN d = some T) (nt : ∀ ns, d ≠ .scr ns) : TyX K H v (.type T) := by
  cases d with
  | non => cases e; rw [h.non]; exact .base .non
  | bl b => cases e; rw [h.bl]; exact .base (.bl b)
  | int i => cases e; rw [h.int]; exact .base (.int i)
  | str a => cases e; rw [h.str]; exact .base (.str _)
  | lst z xs => cases e; obtain ⟨p, vs, rfl, e, _⟩ := h.lst s; exact .base (.lst e)
  | tup xs =>
    cases e
    obtain ⟨p, vs, rfl, e, _⟩ := h.tupH s
    exact .base (.tup e)
  | dic ks ds => cases e; obtain ⟨p, kvs, rfl, e, _⟩ := h.dic s; exact .base (.dK e)
  | ins C ns ds => cases e
  | scr ns => exact absurd rfl (nt ns)
  | ktp xs => cases e
  | cl C => cases e
def builtinC : List String := ["int", "str", "bool", "list", "tuple", "dict"]
theorem kit_all : ∀ t ∈ ["NoneType", "bool", "int", "str", "list", "tuple", "dict"], ∀ c ∈ builtinC, kitB t c = some (kindB t c) := by decide +kernel
section
variable {X : Cx} {W : WX} {p p2 p3 pos : Pos} {e : Expr} {te : DE} {c : String}
theorem fe_isi (hc : c ∈ builtinC) (hg : Gl X "isinstance") (hm : X.mg "isinstance" = none) (he : PE X e (emb X.K W te)) {cx : Expr} (hcx : PE X cx (tC (.ty c)))
    (hs : starEach [e, cx] X.env = (false, eval e X.env) :: starEach [cx] X.env := by rfl) (hs2 : starEach [cx] X.env = (false, eval cx X.env) :: starEach [] X.env := by rfl) (hpl : (backTo pos (starEach [cx] X.env)).any (·.1) = false := by rfl) :
    PE X (.Call (.Name "isinstance" p) [e, cx] [] pos) (emb X.K W (dOne (isiD c) te)) :=
  PE.weak (pe_callB call_isi hg hm (by decide +kernel) (pa_cons he (pa_cons hcx pa_nil hs2) hs) (by decide) (by decide) hs hpl) fun σ H Q h =>
    one_emb (r := fun x H1 Q => rIsi X.K [x, .ty c] H1 Q) (fun B ps I σ H fr x dx Q k r rx h kq => by
      have fin : ∀ T : String, T ∈ ["NoneType", "bool", "int", "str", "list", "tuple", "dict"] → TyX X.K H x (.type T) → k (.sh (.bl (kindB T c))) → rIsi X.K [x, .ty c] H Q := fun T hT ty q =>
        ⟨x, .ty c, _, _, _, rfl, .ty c, ty, kit_ty (kit_all T hT c hc), kq _ _ I (.sh (.bl _)) (Ext.refl _ _) r (R.bl _) q⟩
      cases dx <;> first | exact (show False from h).elim | skip
      · exact fin _ (by decide) (rx.tyX r.same rfl (fun _ z => nomatch z)) h
      · exact fin _ (by decide) (rx.tyX r.same rfl (fun _ z => nomatch z)) h
      · exact fin _ (by decide) (rx.tyX r.same rfl (fun _ z => nomatch z)) h
      · exact fin _ (by decide) (rx.tyX r.same rfl (fun _ z => nomatch z)) h
      · exact fin _ (by decide) (rx.tyX r.same rfl (fun _ z => nomatch z)) h
      · exact fin _ (by decide) (rx.tyX r.same rfl (fun _ z => nomatch z)) h
      · exact fin _ (by decide) (rx.tyX r.same rfl (fun _ z => nomatch z)) h) h
/-- type(e) is not c -/
def tyD (neg : Bool) (c : String) (d : D) (k : Rv → Prop) : Prop := opt (tyN d) fun t => (match d with | .scr _ => False | _ => True) ∧ k (.sh (.bl (if neg then !decide (t = c) else decide (t = c))))
end
end Dl
namespace Dl
open PySem PySem.Spec PyProof.Rows L2 Vx
theorem RH.tyB {K : PySem.W.Frag} {I H : Hp} {v : V} {d : D} (s : Same I H) (h : RH K I H v d) {T : String} (e : tyN d = some T) : TyB K H v T := by
  cases d with
  | non => cases e; rw [h.non]; exact .non
  | bl b => cases e; rw [h.bl]; exact .bl b
  | int i => cases e; rw [h.int]; exact .int i
  | str a => cases e; rw [h.str]; exact .str _
  | lst z xs => cases e; obtain ⟨p, vs, rfl, e, _⟩ := h.lst s; exact .lst (SqL.of e)
  | tup xs => cases e; obtain ⟨p, vs, rfl, e, _⟩ := h.tup s; exact .tup e
  | dic ks ds => cases e; obtain ⟨p, kvs, rfl, e, _⟩ := h.dic s; exact .dK e
  | ins C ns ds => cases e
  | scr ns => cases e; obtain ⟨p, rfl, e⟩ := h.scr s; exact .lst e
  | ktp xs => cases e
  | cl C => cases e
def notTyD (c : String) (d : D) (k : Rv → Prop) : Prop := match d with
  | .non => k (.sh (.bl (!decide ("NoneType" = c))))
  | .bl _ => k (.sh (.bl (!decide ("bool" = c))))
  | .int _ => k (.sh (.bl (!decide ("int" = c))))
  | .str _ => k (.sh (.bl (!decide ("str" = c))))
  | .lst _ _ => k (.sh (.bl (!decide ("list" = c))))
  | .tup _ => k (.sh (.bl (!decide ("tuple" = c))))
  | .dic _ _ => k (.sh (.bl (!decide ("dict" = c))))
  | .scr _ => k (.sh (.bl (!decide ("list" = c))))
  | .ktp _ => False
  | .ins _ _ _ => False
  | .cl _ => False
theorem notTy_un {K : PySem.W.Frag} {c : String} : UnD K (notTyD c) (fun x H1 Q => rTyp K [x] H1 fun y H2 => rNT y (.ty c) H2 Q) := by
  intro B ps I σ H fr x dx Q k r rx h kq
  have fin : ∀ T : String, tyN dx = some T → k (.sh (.bl (!decide (T = c)))) → rTyp K [x] H fun y H2 => rNT y (.ty c) H2 Q := fun T hT q =>
    ⟨x, T, rfl, rx.tyB r.same hT, T, c, rfl, rfl, kq _ _ I (.sh (.bl _)) (Ext.refl _ _) r (R.bl _) q⟩
  cases dx <;> first | exact (show False from h).elim | exact fin _ rfl h
section
variable {X : Cx} {W : WX} {p p2 pos pos2 : Pos} {e cx : Expr} {te : DE} {c : String}
theorem fe_notTy (hg : Gl X "type") (hm : X.mg "type" = none) (he : PE X e (emb X.K W te)) (hcx : PE X cx (tC (.ty c))) (hmk : behindInMarks .IsNot cx = false)
    (hs : starEach [e] X.env = (false, eval e X.env) :: starEach [] X.env := by rfl) (hpl : (backTo pos (starEach [] X.env)).any (·.1) = false := by rfl) :
    PE X (.Compare (.Call (.Name "type" p) [e] [] pos) [.IsNot] [cx] pos2) (emb X.K W (dOne (notTyD c) te)) :=
  PE.weak (pe_cmpR op_notTyB (pe_callTy call_type1 hg hm (by decide +kernel) (pa_cons he pa_nil hs) (by decide) (by decide) hs hpl) hcx hmk) fun σ H Q h => one_emb notTy_un h
theorem ft_notTy (hg : Gl X "type") (hm : X.mg "type" = none) (he : PE X e (emb X.K W te)) (hcx : PE X cx (tC (.ty c))) (hmk : behindInMarks .IsNot cx = false)
    (hs : starEach [e] X.env = (false, eval e X.env) :: starEach [] X.env := by rfl) (hpl : (backTo pos (starEach [] X.env)).any (·.1) = false := by rfl) :
    PT X (.Compare (.Call (.Name "type" p) [e] [] pos) [.IsNot] [cx] pos2) (embT X.K W (dTst (dOne (notTyD c) te))) :=
  PT.weak (pt_cmpR op_notTyB (pe_callTy call_type1 hg hm (by decide +kernel) (pa_cons he pa_nil hs) (by decide) (by decide) hs hpl) hcx hmk) fun σ H Q h => one_emb notTy_un (tst_emb h)
/-- x is True, x is False -/
def isBD (neg : Bool) : D → D → (Rv → Prop) → Prop
  | .bl a, .bl b, k => k (.sh (.bl (if neg then !decide (a = b) else decide (a = b))))
  | _, _, _ => False
end
/-! methods of texts -/
def strR (rv : Rv) (k : List Nat → Prop) : Prop := match rv with | .sh (.str a) => k a | _ => False
theorem strR_of {K : PySem.W.Frag} {B J H : Hp} {ps : List Addr} {σ : L2.St} {fr : Fr} {v : V} {rv : Rv} {k : List Nat → Prop} (o : RvOk K B ps J σ H fr v rv) (q : strR rv k) : ∃ b, v = .str (S b) ∧ k b := by
  cases rv with
  | sh d =>
    cases d <;> first | exact (show False from q).elim | skip
    cases (show R K J v (.str _) from o)
    exact ⟨_, rfl, q⟩
  | _ => exact (show False from q).elim
def dM1 (f : List Nat → D → (Rv → Prop) → Prop) (to te : DE) : DE := fun fr Q Er => to fr (fun a fr1 => strR a fun s => te fr1 (fun b fr2 => wd b.frz fr2 fun y => f s y fun rv => Q rv fr2) Er) Er
def dM0 (f : List Nat → (Rv → Prop) → Prop) (to : DE) : DE := fun fr Q Er => to fr (fun a fr1 => strR a fun s => f s fun rv => Q rv fr1) Er
def M1D (K : PySem.W.Frag) (f : List Nat → D → (Rv → Prop) → Prop) (r : V → List V → Hp → VK → Prop) : Prop := ∀ (B : Hp) (ps : List Addr) (I : Hp) (σ : L2.St) (H : Hp) (fr : Fr) (a : List Nat) (y : V) (dy : D) (Q : VK) (k : Rv → Prop),
  Rep K B ps I σ H fr → RH K I H y dy → f a dy k → (∀ v H' J rv, Ext B I J → Rep K B ps J σ H' fr → RvOk K B ps J σ H' fr v rv → k rv → Q v H') → r (.str (S a)) [y] H Q
def M0D (K : PySem.W.Frag) (f : List Nat → (Rv → Prop) → Prop) (r : V → List V → Hp → VK → Prop) : Prop := ∀ (B : Hp) (ps : List Addr) (I : Hp) (σ : L2.St) (H : Hp) (fr : Fr) (a : List Nat) (Q : VK) (k : Rv → Prop),
  Rep K B ps I σ H fr → f a k → (∀ v H' J rv, Ext B I J → Rep K B ps J σ H' fr → RvOk K B ps J σ H' fr v rv → k rv → Q v H') → r (.str (S a)) [] H Q
theorem m1_emb {K : PySem.W.Frag} {W : WX} {f : List Nat → D → (Rv → Prop) → Prop} {r : V → List V → Hp → VK → Prop} {to te : DE} (hf : M1D K f r) {σ : L2.St} {H : Hp} {Q : VK} (h : emb K W (dM1 f to te) σ H Q) : tM1 r (emb K W to) (emb K W te) σ H Q := by
  obtain ⟨B, ps, I, fr, Q', Er, r0, q, kq, ke⟩ := h
  refine ⟨B, ps, I, fr, _, Er, r0, q, fun v H1 J1 a fr1 e1 r1 o1 q1 => ?_, ke⟩
  obtain ⟨s, rfl, q2⟩ := strR_of o1 q1
  refine ⟨⟨_, rfl⟩, B, ps, J1, fr1, _, Er, r1, q2, fun u H2 J3 b fr2 e3 r3 o3 q3 => ?_, ke.ext e1⟩
  obtain ⟨J4, e4, r4, o4⟩ := frz_of r3 o3
  obtain ⟨y, q5, ry⟩ := o4.wd r4 q3
  exact hf B ps J4 σ H2 fr2 s u y Q _ r4 ry q5 fun w H' J rv e5 r5 o5 k5 => kq w H' J rv fr2 (e1.trans (e3.trans (e4.trans e5))) r5 o5 k5
theorem m0_emb {K : PySem.W.Frag} {W : WX} {f : List Nat → (Rv → Prop) → Prop} {r : V → List V → Hp → VK → Prop} {to : DE} (hf : M0D K f r) {σ : L2.St} {H : Hp} {Q : VK} (h : emb K W (dM0 f to) σ H Q) : tM0 r (emb K W to) σ H Q := by
  obtain ⟨B, ps, I, fr, Q', Er, r0, q, kq, ke⟩ := h
  refine ⟨B, ps, I, fr, _, Er, r0, q, fun v H1 J1 a fr1 e1 r1 o1 q1 => ?_, ke⟩
  obtain ⟨s, rfl, q2⟩ := strR_of o1 q1
  exact ⟨⟨_, rfl⟩, hf B ps J1 σ H1 fr1 s Q _ r1 q2 fun w H' J rv e5 r5 o5 k5 => kq w H' J rv fr1 (e1.trans e5) r5 o5 k5⟩
def cntD (a : List Nat) (y : D) (k : Rv → Prop) : Prop := match y with | .str [c] => k (.sh (.int (a.count c))) | _ => False
def joinD (a : List Nat) (y : D) (k : Rv → Prop) : Prop := match y with
  | .lst _ ds => opt (strsOf ds) fun ss => ((ss.map fun x => x.length).sum + ss.length * a.length ≤ 1000000) ∧ k (.sh (.str (TL.joinL a ss)))
  | _ => False
section
variable {X : Cx} {W : WX} {o e : Expr} {to te : DE} {apos pos : Pos}
theorem fe_count (ho : PE X o (emb X.K W to)) (he : PE X e (emb X.K W te)) (hs : starEach [e] X.env = [(false, eval e X.env)] := by rfl) (hbase : attributeBase o "count" X.env (eval o X.env) = eval o X.env := by rfl) (hline : (apos.endLine == pos.line) = true := by rfl) :
    PE X (.Call (.Attribute o "count" apos) [e] [] pos) (emb X.K W (dM1 cntD to te)) := PE.weak (pe_m1 F.slot_str_count F.type_str_count mt_count_tx ho he hs hbase hline) fun σ H Q h => m1_emb (fun B ps I σ H fr a y dy Q k r ry h kq => by
  match dy, h with
  | .str [c], h => rw [ry.str]; exact ⟨a, c, rfl, rfl, kq _ _ I (.sh (.int _)) (Ext.refl _ _) r (R.int _) h⟩) h
theorem fe_join (ho : PE X o (emb X.K W to)) (he : PE X e (emb X.K W te)) (hs : starEach [e] X.env = [(false, eval e X.env)] := by rfl) (hbase : attributeBase o "join" X.env (eval o X.env) = eval o X.env := by rfl) (hline : (apos.endLine == pos.line) = true := by rfl) :
    PE X (.Call (.Attribute o "join" apos) [e] [] pos) (emb X.K W (dM1 joinD to te)) := PE.weak (pe_join ho he hs hbase hline) fun σ H Q h => m1_emb (fun B ps I σ H fr a y dy Q k r ry h kq => by
  match dy, h with
  | .lst _ ds, h =>
    obtain ⟨p, vs, rfl, e, ra⟩ := ry.lst r.same
    obtain ⟨ss, e2, hl, q⟩ := opt_get h
    rw [strsOf_eq e2] at ra
    have hv := ra.str_vs
    have hm : (ss.map S).map V.str = vs := by rw [hv, List.map_map]; rfl
    refine ⟨S a, p, ss.map S, rfl, rfl, .inl (by rw [hm]; exact SqL.of e), ?_, ?_⟩
    · rw [SX.lens, List.length_map, SX.S_len]; omega
    · rw [SX.join_S]; exact kq _ _ I (.sh (.str _)) (Ext.refl _ _) r (R.str _) q) h
end
/-! in and not in, of flat values -/
def flatD : D → Bool
  | .non => true
  | .bl _ => true
  | .int _ => true
  | .str _ => true
  | _ => false
def toV : D → V
  | .non => .non
  | .bl b => .bl b
  | .int i => .int i
  | .str a => .str (S a)
  | _ => .non
theorem R.flat {K : PySem.W.Frag} {I : Hp} {v : V} {d : D} (h : R K I v d) (f : flatD d = true) : v = toV d := by
  cases h <;> first | rfl | cases f
theorem RA.flat {K : PySem.W.Frag} {I : Hp} : ∀ {vs : List V} {ds : List D}, RA K I vs ds → ds.all flatD = true → vs = ds.map toV
  | _, _, .nil, _ => rfl
  | _, _, .cons a r, f => by
    rw [List.all_cons, Bool.and_eq_true] at f
    rw [a.flat f.1, RA.flat r f.2]; rfl
theorem toV_flat {d : D} (f : flatD d = true) : flatV (toV d) = true := by
  cases d <;> first | rfl | cases f
theorem eqV_eqB {x y : D} (fx : flatD x = true) (fy : flatD y = true) : eqV (toV x) (toV y) = eqB x y := by
  rw [eqB_eq]
  cases x <;> first | (cases fx; done) | (cases y <;> first | (cases fy; done) | rfl | skip)
  all_goals first
    | (simp [toV, eqV, toP, PyData.eqv]; done)
    | (rename_i a b; cases a <;> cases b <;> rfl)
    | (rename_i a b; cases a <;> simp [toV, eqV, toP, PyData.eqv]; done)
    | (rename_i a b; cases b <;> simp [toV, eqV, toP, PyData.eqv]; done)
def inB (x : D) (xs : List D) : Bool := xs.any fun y => eqB y x
def inD (neg : Bool) : D → D → (Rv → Prop) → Prop
  | x, .lst _ xs, k => (flatD x = true ∧ xs.all flatD = true) ∧ k (.sh (.bl (if neg then !inB x xs else inB x xs)))
  | x, .tup xs, k => (flatD x = true ∧ xs.all flatD = true) ∧ k (.sh (.bl (if neg then !inB x xs else inB x xs)))
  | _, _, _ => False
theorem inV_inB {x : D} : ∀ {xs : List D}, flatD x = true → xs.all flatD = true → inV (toV x) (xs.map toV) = inB x xs
  | [], _, _ => rfl
  | y :: r, fx, f => by
    rw [List.all_cons, Bool.and_eq_true] at f
    show (eqV (toV y) (toV x) || inV (toV x) (r.map toV)) = (eqB y x || inB x r)
    rw [eqV_eqB f.1 fx, inV_inB fx f.2]
theorem opd_in {K : PySem.W.Frag} {neg : Bool} : OpD K (inD neg) (rIn K neg) := by
  intro B ps I σ H fr x y dx dy Q k r rx ry h kq
  have hx : ∀ f : flatD dx = true, x = toV dx := fun f => by
    rcases rx with h | ⟨p, rfl, h⟩
    · exact h.flat f
    · cases dx <;> first | exact h.elim | cases f
  cases dy <;> first | exact h.elim | skip
  · obtain ⟨⟨f1, f2⟩, q⟩ := h
    obtain ⟨p, vs, rfl, e, ra⟩ := ry.lst r.same
    have hv := ra.flat f2
    subst hv
    rw [hx f1]
    refine ⟨p, _, rfl, .inl (SqL.of e), toV_flat f1, ?_, ?_⟩
    · rw [List.all_map]; exact List.all_eq_true.mpr fun z hz => toV_flat (List.all_eq_true.mp f2 z hz)
    · rw [inV_inB f1 f2]; exact kq _ _ I (.sh (.bl _)) (Ext.refl _ _) r (R.bl _) q
  · obtain ⟨⟨f1, f2⟩, q⟩ := h
    obtain ⟨p, vs, rfl, e, ra⟩ := ry.tup r.same
    have hv := ra.flat f2
    subst hv
    rw [hx f1]
    refine ⟨p, _, rfl, .inr e, toV_flat f1, ?_, ?_⟩
    · rw [List.all_map]; exact List.all_eq_true.mpr fun z hz => toV_flat (List.all_eq_true.mp f2 z hz)
    · rw [inV_inB f1 f2]; exact kq _ _ I (.sh (.bl _)) (Ext.refl _ _) r (R.bl _) q
end Dl
namespace Dl
open PySem PySem.Spec PyProof.Rows L2 Vx
/-! repr -/
theorem zip_fst : ∀ {as bs : List PyData}, as.length = bs.length → (as.zip bs).map (·.1) = as
  | [], [], _ => rfl
  | a :: as, b :: bs, h => by rw [List.zip_cons_cons, List.map_cons, zip_fst (by simpa using h)]
theorem zip_snd : ∀ {as bs : List PyData}, as.length = bs.length → (as.zip bs).map (·.2) = bs
  | [], [], _ => rfl
  | a :: as, b :: bs, h => by rw [List.zip_cons_cons, List.map_cons, zip_snd (by simpa using h)]
theorem toPs_len : ∀ xs : List D, (toPs xs).length = xs.length
  | [] => rfl
  | x :: xs => by simp only [toPs, List.length_cons, toPs_len xs]
mutual
theorem R.dx {K : PySem.W.Frag} {H : Hp} : ∀ {d : D} {v : V}, plain true d = true → R K H v d → Dx K H v (toP d)
  | .non, _, _, h => by cases h; simp only [toP]; exact .non
  | .bl _, _, _, h => by cases h; simp only [toP]; exact .bl _
  | .int _, _, _, h => by cases h; simp only [toP]; exact .int _
  | .str _, _, _, h => by cases h; simp only [toP]; exact .str _
  | .lst z ds, _, e, h => by
    simp only [plain, Bool.and_eq_true, Bool.not_true, Bool.or_false] at e
    cases h with
    | lst a n r => simp only [toP]; exact .lst a (n e.2) (RA.dx e.1 r)
  | .tup ds, _, e, h => by
    cases h with
    | tup a r => simp only [toP]; exact .tup (SqT.of a) (RA.dx (by simpa only [plain] using e) r)
  | .dic ks ds, _, e, h => by
    simp only [plain, Bool.and_eq_true, decide_eq_true_eq] at e
    cases h with
    | dic a k r =>
      simp only [toP]
      refine .dic a ?_ ?_
      · rw [zip_fst (by rw [toPs_len, toPs_len]; exact e.2)]; exact RA.dx e.1.1.2 k
      · rw [zip_snd (by rw [toPs_len, toPs_len]; exact e.2)]; exact RA.dx e.1.2 r
  | .ins _ _ _, _, e, h => by simp [plain] at e
  | .scr _, _, e, h => by simp [plain] at e
  | .ktp ds, _, e, h => by
    cases h with
    | ktp a r => simp only [toP]; exact .tup a (RA.dx (by simpa only [plain] using e) r)
theorem RA.dx {K : PySem.W.Frag} {H : Hp} : ∀ {ds : List D} {vs : List V}, plains true ds = true → RA K H vs ds → DxAll K H vs (toPs ds)
  | [], _, _, h => by cases h; simp only [toPs]; exact .nil
  | d :: ds, _, e, h => by
    simp only [plains, Bool.and_eq_true] at e
    cases h with
    | cons a r => simp only [toPs]; exact .cons (R.dx e.1 a) (RA.dx e.2 r)
end
/-- repr of data without dicts -/
def rReprN (K : PySem.W.Frag) : List V → Hp → VK → Prop := fun xs H Q => ∃ x d, xs = [x] ∧ Dp K H x d ∧ d.hasDict = false ∧ d.showable = true ∧ d.shown.length ≤ sizeLine ∧ d.depth ≤ 50 ∧ Q (.str d.shown) H
theorem call_reprN {X : Cx} (hg : X.A.guards = some []) (hu : X.A.units + 64 < cLine) : CallR X (.builtin "repr") (rReprN X.K) := by
  intro pins s σ H xs us Q I r h
  obtain ⟨x, d, rfl, hd, hn, hs, hz, hp, q⟩ := h
  obtain ⟨u, rfl, rx⟩ := vals1 r
  obtain ⟨as, hr⟩ := Dp.reads I d x u hd rx
  have nd : d.hasDict = true → sysModules ∉ as := fun z => by rw [hn] at z; cases z
  cases hd with
  | non => cases rx; exact PySem.P.repr_of_none ⟨.str _, H, I.tok _, ⟨_, rfl⟩, by simpa only [PyData.shown] using q⟩
  | bl b => cases rx; exact PySem.P.repr_of_bool ⟨.str _, H, I.tok _, ⟨_, rfl⟩, by simpa only [PyData.shown] using q⟩
  | int i => obtain ⟨t, rfl⟩ := rx; exact PySem.P.repr_of_int (by simpa [PyData.showable] using hs) ⟨.str _, H, I.tok _, ⟨_, rfl⟩, by simpa only [PyData.shown] using q⟩
  | str y => obtain ⟨t, rfl⟩ := rx; exact PySem.P.repr_of_str ⟨.str _, H, I.tok _, ⟨_, rfl⟩, by simpa only [PyData.shown] using q⟩ (by simpa only [PyData.shown] using hz)
  | lst _ _ => cases rx; exact repr_of_reads' hr hs nd hg (by omega) (fun _ _ e => e) (fun h' u tk hk => ⟨.str _, H, I.kept (t' := tk) hk, ⟨_, rfl⟩, q⟩) hz
  | tup _ _ => cases rx; exact repr_of_reads' hr hs nd hg (by omega) (fun _ _ e => e) (fun h' u tk hk => ⟨.str _, H, I.kept (t' := tk) hk, ⟨_, rfl⟩, q⟩) hz
/-- what repr asks of data -/
structure Shw (d : D) : Prop where
  sh : (toP d).showable = true
  sz : (toP d).shown.length ≤ sizeLine
  dp : (toP d).depth ≤ 50
  pl : plain true d = true ∨ (plain false d = true ∧ (toP d).hasDict = false)
def shwn (d : D) : List Nat := (toP d).shown.cps.toList
def reprD : List D → (Rv → Prop) → Prop
  | [d], k => Shw d ∧ k (.sh (.str (shwn d)))
  | _, _ => False
theorem call_repr2 {X : Cx} (hg : X.A.guards = some []) (hu : X.A.units + 64 < cLine) : CallR X (.builtin "repr") (fun xs H Q => rRepr X.K xs H Q ∨ rReprN X.K xs H Q) := CallR.or (call_reprX hg hu) (call_reprN hg hu)
theorem calld_repr {K : PySem.W.Frag} : CallD K reprD (fun xs H Q => rRepr K xs H Q ∨ rReprN K xs H Q) := by
  intro B ps I σ H fr xs ds Q k r rx h kq
  match ds, h with
  | [d], h =>
    obtain ⟨s, q⟩ := h
    obtain ⟨v, rfl, rh⟩ := one_of rx
    have e : S (shwn d) = (toP d).shown := SX.S_tl _
    have fin : Q (.str (toP d).shown) H := by
      rw [← e]; exact kq _ _ I (.sh (.str _)) (Ext.refl _ _) r (R.str _) q
    rcases s.pl with p | ⟨p, n⟩
    · exact .inl ⟨v, _, rfl, (rh.r r.same).dx p, s.sh, s.sz, s.dp, fin⟩
    · exact .inr ⟨v, _, rfl, (rh.r r.same).dp p, n, s.sh, s.sz, s.dp, fin⟩
/-! sorted of pairs of ints -/
def pairD (p : Int × Int) : D := .tup [.int p.1, .int p.2]
def pairsOf : List D → Option (List (Int × Int))
  | [] => some []
  | .tup [.int a, .int b] :: r => (pairsOf r).map ((a, b) :: ·)
  | _ => none
theorem pairsOf_map : ∀ ps : List (Int × Int), pairsOf (ps.map pairD) = some ps
  | [] => rfl
  | p :: r => by show (pairsOf (r.map pairD)).map _ = _; rw [pairsOf_map r]; rfl
theorem pairsOf_eq : ∀ {ds : List D} {ps : List (Int × Int)}, pairsOf ds = some ps → ds = ps.map pairD
  | [], ps, h => by cases h; rfl
  | d :: r, ps, h => by
    unfold pairsOf at h
    split at h
    · cases h; contradiction
    · rename_i a b r' e
      cases e
      obtain ⟨ms, e, rfl⟩ := Option.map_eq_some_iff.mp h
      rw [pairsOf_eq e]; rfl
    · cases h
/-- p not behind q -/
def LexLe (p q : Int × Int) : Prop := p.1 < q.1 ∨ (p.1 = q.1 ∧ p.2 ≤ q.2)
def sortPD : List D → (Rv → Prop) → Prop
  | [.lst _ a], k => opt (pairsOf a) fun ps => ∀ qs : List (Int × Int), qs.Perm ps → qs.Pairwise LexLe → k (.tm (.lst false (qs.map pairD)))
  | _, _ => False
def keyH (H : Hp) (x : V) : Int × Int := match x with
  | .ref t => match H t with
    | some (.tup [.int a, .int b]) => (a, b)
    | _ => (0, 0)
  | _ => (0, 0)
theorem RA.pairs {K : PySem.W.Frag} {I H : Hp} (s : Same I H) : ∀ {vs : List V} {ps : List (Int × Int)}, RA K I vs (ps.map pairD) → vs.map (keyH H) = ps ∧ ∀ x ∈ vs, ∃ t, x = V.ref t ∧ H t = some (.tup [.int (keyH H x).1, .int (keyH H x).2]) ∧ R K I x (pairD (keyH H x))
  | [], [], _ => ⟨rfl, fun _ h => nomatch h⟩
  | v :: vs, p :: ps, .cons a b => by
    obtain ⟨h1, h2⟩ := RA.pairs s b
    cases a with
    | tup e ra =>
      rename_i q us
      have : us = [.int p.1, .int p.2] := by
        cases ra with
        | cons a1 b1 =>
          cases b1 with
          | cons a2 b2 => cases b2; cases a1; cases a2; rfl
      subst this
      have hk : keyH H (.ref q) = p := by
        show (match H q with | some (.tup [.int a, .int b]) => (a, b) | _ => (0, 0)) = p
        rw [s _ _ e]
      refine ⟨by rw [List.map_cons, h1, hk], fun x hx => ?_⟩
      rcases List.mem_cons.mp hx with rfl | hx
      · rw [hk]; exact ⟨q, rfl, s _ _ e, .tup e (.cons (.int _) (.cons (.int _) .nil))⟩
      · exact h2 x hx
theorem RA.of_keys {K : PySem.W.Frag} {I : Hp} {f : V → Int × Int} : ∀ {ys : List V}, (∀ x ∈ ys, R K I x (pairD (f x))) → RA K I ys ((ys.map f).map pairD)
  | [], _ => .nil
  | y :: ys, h => .cons (h y List.mem_cons_self) (RA.of_keys fun x hx => h x (List.mem_cons_of_mem _ hx))
theorem calld_sortP {K : PySem.W.Frag} : CallD K sortPD (rSortedPO K) := by
  intro B ps I σ H fr xs ds Q k r rx h kq
  match ds, h with
  | [.lst _ a], h =>
    obtain ⟨v, rfl, rh⟩ := one_of rx
    obtain ⟨p, vs, rfl, e, ra⟩ := rh.lst r.same
    obtain ⟨pl, e2, q⟩ := opt_get h
    rw [pairsOf_eq e2] at ra
    obtain ⟨h1, h2⟩ := ra.pairs r.same
    refine ⟨p, vs, keyH H, rfl, SqL.of e, fun x hx => ?_, fun ys t hs hst ht => ?_⟩
    · obtain ⟨t, e1, e2, _⟩ := h2 x hx
      exact ⟨t, e1, e2⟩
    · have hp : ys.Perm vs := hst.perm
      refine new_lst r kq (RA.of_keys (f := keyH H) fun x hx => ?_) (q (ys.map (keyH H)) ?_ ?_) t ht
      · obtain ⟨_, _, _, h3⟩ := h2 x (hp.mem_iff.mp hx)
        exact h3
      · rw [← h1]; exact hp.map _
      · refine List.pairwise_map.mpr (hs.imp fun {x y} h => ?_)
        have := SrtO.lexB_no.mp h
        unfold LexLe
        omega
end Dl
namespace Dl
open PySem PySem.Spec PyProof.Rows L2 Vx
/-! the law itself: nothing is let out -/
theorem FnG.calm {P : Program} {w : World} {K : PySem.W.Frag} {mg : Str → Option Value} {base : Heap} {k : Nat} {f : Addr} {fd : FuncData} {ps : List Str} {sp sp' : Sp} (F : FnG P w K mg base (L2N.CX P w) k f fd ps sp) (h : ∀ vs H Q E, sp' vs H Q E → sp vs H Q fun _ _ _ => False) : FnG P w K mg base CX0 k f fd ps sp' := by
  refine ⟨fun vs H Q E q => F.len _ _ _ _ (h _ _ _ _ q), fun A outer s H args us vs Q E hg hr he hb hv hs => codeAny_mono (F.run A outer s H args us vs Q _ hg hr he hb hv (h _ _ _ _ hs)) fun r s' e => ?_⟩
  cases r with
  | ok fl => cases fl <;> exact e
  | error er =>
    obtain ⟨_, _, _, _, _, _, _, _, _, _, _, _, z⟩ := e
    exact z.elim
def LawOk (sp : DSp) : Prop := ∀ ns : List Int, ns.length ≤ 63 → sp [.sh (.scr ns)] (fun rv _ => rv = .sh (.bl true)) fun _ _ _ => False
theorem law_end {K : PySem.W.Frag} {sp : DSp} (h : LawOk sp) {vs : List V} {H : Hp} {Q : VK} (q : ∃ (a : Addr) (ns : List Int), vs = [.ref a] ∧ SqL K H a (ns.map V.int) ∧ ns.length ≤ 63 ∧ ∀ H', Q (.bl true) H') : lift K 1 sp vs H Q fun _ _ _ => False := by
  obtain ⟨a, ns, rfl, hS, hl, q⟩ := q
  refine ⟨H, [], [.sh (.scr ns)], _, _, Same.refl H, List.nodup_nil, (fun p hp => by cases hp), .sh (.scr hS) .nil, rfl, h ns hl, fun v H' J rv cs b o e => ?_, fun _ _ _ _ _ _ _ _ z => z⟩
  subst e
  cases (show R K J v (.bl true) from o)
  exact q H'
section
variable {X : Cx} {W : WX} {pos : Pos}
def dDnew : DE := fun fr Q _ => Q (.tm (.dic [] [])) fr
theorem fe_dnew : PE X (.Dict [] [] pos) (emb X.K W dDnew) := PE.weak pe_dnewK fun σ H Q h p hp => by
  obtain ⟨B, ps, I, fr, Q', Er, r, q, kq, ke⟩ := h
  obtain ⟨b, c, n, a⟩ := r.fresh hp
  exact kq (.ref p) _ I (.tm (.dic [] [])) _ (Ext.refl _ _) (r.new hp) ⟨p, rfl, b, c, n, a, [], upd_same, .nil, .nil⟩ q
/-- text[::step] -/
def dStep (te ts : DE) : DE := fun fr Q Er => te fr (fun a fr1 => strR a fun s => s.length ≤ 100000 ∧ ts fr1 (fun b fr2 => intR b fun i => (i = 1 ∨ i = -1) ∧ Q (.sh (.str (if i = 1 then s else s.reverse))) fr2) Er) Er
theorem fe_step {e l r : Expr} {op : Operator} {te ts : DE} {p2 p3 : Pos} (he : PE X e (emb X.K W te)) (h2 : PE X (.BinOp l op r p2) (emb X.K W ts)) : PE X (.Subscript e (.Slice none none (some (.BinOp l op r p2)) p3) pos) (emb X.K W (dStep te ts)) := PE.weak (pe_stepS he h2) fun σ H Q h => by
  obtain ⟨B, ps, I, fr, Q', Er, r0, q, kq, ke⟩ := h
  refine ⟨B, ps, I, fr, _, Er, r0, q, fun v H1 J1 a fr1 e1 r1 o1 q1 => ?_, ke⟩
  obtain ⟨s, rfl, hl, q2⟩ := strR_of o1 q1
  refine ⟨s, rfl, hl, B, ps, J1, fr1, _, Er, r1, q2, fun u H2 J3 b fr2 e3 r3 o3 q3 => ?_, ke.ext e1⟩
  obtain ⟨i, rfl, hi, q4⟩ := intR_of o3 q3
  exact ⟨i, rfl, i, rfl, hi, kq _ _ J3 (.sh (.str _)) fr2 (e1.trans e3) r3 (R.str _) q4⟩
end
/-- str(i) -/
def strID : List D → (Rv → Prop) → Prop
  | [.int i], k => i.natAbs.log2 < 1920 ∧ k (.sh (.str (Str.ofString (toString i)).cps.toList))
  | _, _ => False
theorem calld_str {K : PySem.W.Frag} : CallD K strID (fun xs H Q => ∃ i, xs = [.int i] ∧ i.natAbs.log2 < 1920 ∧ Q (.str (toString i)) H) := by
  intro B ps I σ H fr xs ds Q k r rx h kq
  match ds, h with
  | [.int i], h =>
    obtain ⟨v, rfl, rh⟩ := one_of rx
    rw [rh.int]
    refine ⟨i, rfl, h.1, ?_⟩
    have e : S (Str.ofString (toString i)).cps.toList = (toString i : Str) := SX.S_tl _
    rw [← e]
    exact kq _ _ I (.sh (.str _)) (Ext.refl _ _) r (R.str _) h.2
/-- sorted(text) -/
def sortTD : List D → (Rv → Prop) → Prop
  | [.str a], k => a.length ≤ 100000 ∧ ∀ b : List Nat, b.Perm a → b.Pairwise (· ≤ ·) → k (.tm (.lst true (b.map fun c => D.str [c])))
  | _, _ => False
theorem calld_sortT {K : PySem.W.Frag} : CallD K sortTD (fun xs H Q => ∃ a : List Nat, xs = [.str (S a)] ∧ a.length ≤ 100000 ∧ ∀ (b : List Nat) (p : Addr) (H' : Hp), b.Perm a → b.Pairwise (· ≤ ·) → H p = none → p ≠ sysModules → H' = upd H p (.lst (sg b)) → Q (.ref p) H') := by
  intro B ps I σ H fr xs ds Q k r rx h kq
  match ds, h with
  | [.str a], h =>
    obtain ⟨v, rfl, rh⟩ := one_of rx
    rw [rh.str]
    exact ⟨a, rfl, h.1, fun b p H' h1 h2 h3 h4 h5 => by subst h5; exact new_lst1 r kq (RA.sg b) (h.2 b h1 h2) p h3 h4⟩
/-- x is True, x is False -/
theorem opd_isB {K : PySem.W.Frag} : OpD K (isBD false) (fun x y H Q => ∃ a b, x = .bl a ∧ y = .bl b ∧ Q (.bl (decide (a = b))) H) := by
  intro B ps I σ H fr x y dx dy Q k r rx ry h kq
  cases dx <;> cases dy <;> first | exact h.elim | skip
  exact ⟨_, _, rx.bl, ry.bl, kq _ _ I (.sh (.bl _)) (Ext.refl _ _) r (R.bl _) h⟩
/-! comprehensions of two clauses -/
def dLcI (g1 : DG) (tt1 : DT) (te : DE) (vs1 : List Nat) : List D → Fr → (List D → Fr → Prop) → Prop
  | [], fr, k => k [] fr
  | x :: r, fr, k => g1 (.sh x) fr (fun fr2 => tt1 fr2 (fun b fr3 => Br b (te fr3 (fun rv fr4 => shr rv fr4 fun d fr5 => dLcI g1 tt1 te vs1 r (wipeF fr5 vs1) fun ds fr6 => k (d :: ds) fr6) nE) (dLcI g1 tt1 te vs1 r (wipeF fr3 vs1) k)) nE) nE
def dLcO (g : DG) (tt : DT) (di1 : DI) (g1 : DG) (tt1 : DT) (te : DE) (vs vs1 : List Nat) : List D → Fr → (List D → Fr → Prop) → Prop
  | [], fr, k => k [] fr
  | x :: r, fr, k => g (.sh x) fr (fun fr2 => tt fr2 (fun b fr3 => Br b (di1 fr3 (fun items1 fr4 => Br (Nat.ble items1.length 1000) (dLcI g1 tt1 te vs1 items1 (wipeF fr4 vs1) fun ds fr5 => dLcO g tt di1 g1 tt1 te vs vs1 r (wipeF fr5 vs) fun ds' fr6 => k (ds ++ ds') fr6) False) nE)
    (dLcO g tt di1 g1 tt1 te vs vs1 r (wipeF fr3 vs) k)) nE) nE
def dLc2 (di : DI) (g : DG) (tt : DT) (di1 : DI) (g1 : DG) (tt1 : DT) (te : DE) (vs vs1 : List Nat) : DE := fun fr Q Er => di fr (fun items fr1 => Br (Nat.ble items.length 1000) (nfF (wipeF fr1 vs) fun f0 => dLcO g tt di1 g1 tt1 te vs vs1 items f0 fun ds frN => nfF (wipeF frN vs) fun f => Q (.tm (.lst false ds)) f) False) Er
theorem wipe_setO : ∀ {vs : List Nat} {i : Nat}, i ∈ vs → ∀ (σ : L2.St) (v : Option V), L2.wipe (σ.set i v) vs = L2.wipe σ vs
  | [], i, h, σ, v => by cases h
  | j :: vs, i, h, σ, v => by
    show (L2.wipe (σ.set i v) vs).set j none = (L2.wipe σ vs).set j none
    by_cases hv : i ∈ vs
    · rw [wipe_setO hv σ v]
    · rw [set_comm_none hv]
      rcases List.mem_cons.mp h with z | z
      · subst z; rw [List.set_set]
      · exact absurd z hv
theorem wipe_sub {vs : List Nat} : ∀ {vs1 : List Nat}, (∀ i ∈ vs1, i ∈ vs) → ∀ σ : L2.St, L2.wipe (L2.wipe σ vs1) vs = L2.wipe σ vs
  | [], _, _ => rfl
  | j :: r, h, σ => by
    show L2.wipe ((L2.wipe σ r).set j none) vs = _
    rw [wipe_setO (h j List.mem_cons_self), wipe_sub (fun i hi => h i (List.mem_cons_of_mem _ hi)) σ]
theorem lc2_emb {K : PySem.W.Frag} {W : WX} {wi wi1 : TI} {di di1 : DI} {g g1 : DG} {tt tt1 : DT} {te : DE} {vs vs1 : List Nat} (hv : ∀ i ∈ vs1, i ∈ vs) (io : ItOk K W wi di) (io1 : ItOk K W0 wi1 di1) {σ : L2.St} {H : Hp} {Q : VK} (h : emb K W (dLc2 di g tt di1 g1 tt1 te vs vs1) σ H Q) :
    tLc2 wi (embG K W0 (WipeP vs) g) (embT K W0 tt) wi1 (embG K W0 (WipeP vs1) g1) (embT K W0 tt1) (emb K W0 te) vs vs1 σ H Q := by
  obtain ⟨B, ps, I, fr, Q', Er, r, q, kq, ke⟩ := h
  refine io σ H _ B ps I fr _ Er r q (fun J H1 J0 fr1 items e1 r1 w q1 => ?_) ke
  intro Dd hD
  obtain ⟨hl, q1⟩ := br_ble q1
  simp only [nfF_eq] at q1
  obtain ⟨bB, bI, bp, bA⟩ := r1.fresh hD
  refine ⟨fun i m H2 => m = items.length - i ∧ i ≤ items.length ∧ ∃ (I2 : Hp) (fr2 : Fr) (acc : List V) (ds : List D), Ext B J0 I2 ∧ I2 Dd = none ∧ acc.length ≤ i * 1000 ∧ Rep K (upd B Dd (.lst acc)) ps I2 (L2.wipe σ vs) H2 fr2 ∧ RA K I2 acc ds ∧
    dLcO g tt di1 g1 tt1 te vs vs1 (items.drop i) fr2 (fun ds' frN => Q' (.tm (.lst false (ds ++ ds'))) (wipeF frN vs)), ⟨items.length, by omega, Nat.zero_le _, J0, wipeF fr1 vs, [], [], Ext.refl _ _, bI, by simp, ?_, .nil, q1⟩, ?_⟩
  · refine ((r1.new hD).wipe vs).hold upd_same fun i d hs e => ?_
    obtain ⟨h1, h2⟩ := wipeF_get hs
    rw [wipe_out h2] at e
    exact bA i d h1 e
  · rintro i m H2 ⟨rfl, hi, I2, fr2, acc, ds, e2, nI, la, r2, ra, q2⟩
    have hh := r2.held bp
    by_cases hlt : i < items.length
    · rw [List.drop_eq_getElem_cons hlt] at q2
      refine .inr ⟨w.go _ ps I2 _ H2 fr2 i e2.1 r2 hlt, fun H' => ∃ (I3 : Hp) (fr3 : Fr) (acc3 : List V) (ds3 : List D), Ext B J0 I3 ∧ I3 Dd = none ∧ acc3.length ≤ (i + 1) * 1000 ∧ Rep K (upd B Dd (.lst acc3)) ps I3 (L2.wipe σ vs) H' fr3 ∧ RA K I3 acc3 ds3 ∧
        dLcO g tt di1 g1 tt1 te vs vs1 (items.drop (i + 1)) fr3 (fun ds' frN => Q' (.tm (.lst false (ds3 ++ ds'))) (wipeF frN vs)), fun H' ⟨I3, fr3, acc3, ds3, h3⟩ => ⟨items.length - (i + 1), by omega, rfl, hlt, I3, fr3, acc3, ds3, h3⟩, fun x H' y => ?_⟩
      obtain ⟨d, I3, hd, e3, r3, rx⟩ := w.yld _ ps I2 _ H2 fr2 i x H' e2.1 r2 hlt y
      rw [List.getElem?_eq_getElem hlt] at hd
      cases hd
      refine ⟨_, ps, I3, fr2, .sh items[i], _, nE, r3, rx, q2, fun σ4 H4 J4 fr4 p4 e4 r4 q4 => ?_, nEKs⟩
      have p4 : L2.wipe σ4 vs = L2.wipe σ vs := p4.trans (wipe_wipe σ vs)
      refine ⟨p4, _, ps, J4, fr4, _, nE, r4, q4, fun b H5 J5 fr5 e5 r5 q5 => ?_, nEK⟩
      have i5 : J5 Dd = none := e5.heldI (e4.heldI (e3.heldI nI))
      have x5 : Ext B J0 J5 := e2.trans ((e3.unhold bB).trans ((e4.unhold bB).trans (e5.unhold bB)))
      have s5 : Same I2 J5 := e3.1.trans (e4.1.trans e5.1)
      cases b with
      | false =>
        have r6 := r5.wipe vs
        rw [p4] at r6
        exact ⟨J5, _, acc, ds, x5, i5, by omega, r6, ra.mono s5, q5.f1⟩
      | true =>
        refine io1 σ4 H5 _ _ ps J5 fr5 _ nE r5 q5.t1 (fun J1 H6 J6 fr6 items1 e6 r6 w1 q6 => ?_) nEK
        obtain ⟨hl1, q6⟩ := br_ble q6
        have i6 : J6 Dd = none := e6.heldI i5
        have x6 := x5.trans (e6.unhold bB)
        refine ⟨fun j k H7 => k = items1.length - j ∧ j ≤ items1.length ∧ ∃ (I7 : Hp) (fr7 : Fr) (acc7 : List V) (ds7 : List D), Ext B J6 I7 ∧ I7 Dd = none ∧ acc7.length ≤ i * 1000 + j ∧ Rep K (upd B Dd (.lst acc7)) ps I7 (L2.wipe σ4 vs1) H7 fr7 ∧ RA K I7 acc7 ds7 ∧
          dLcI g1 tt1 te vs1 (items1.drop j) fr7 (fun ds' fr8 => dLcO g tt di1 g1 tt1 te vs vs1 (items.drop (i + 1)) (wipeF fr8 vs) (fun ds'' frN => Q' (.tm (.lst false (ds7 ++ ds' ++ ds''))) (wipeF frN vs))), ⟨items1.length, by omega, Nat.zero_le _, J6, wipeF fr6 vs1, acc, ds, Ext.refl _ _, i6, by omega, r6.wipe vs1, ra.mono (s5.trans e6.1), ?_⟩, ?_⟩
        · simpa only [List.append_assoc, List.drop_zero] using q6
        · rintro j k H7 ⟨rfl, hj, I7, fr7, acc7, ds7, e7, n7, la7, r7, ra7, q7⟩
          by_cases hlt1 : j < items1.length
          · rw [List.drop_eq_getElem_cons hlt1] at q7
            refine .inr ⟨w1.go _ ps I7 _ H7 fr7 j e7.1 r7 hlt1, fun H8 => ∃ (I8 : Hp) (fr8 : Fr) (acc8 : List V) (ds8 : List D), Ext B J6 I8 ∧ I8 Dd = none ∧ acc8.length ≤ i * 1000 + (j + 1) ∧ Rep K (upd B Dd (.lst acc8)) ps I8 (L2.wipe σ4 vs1) H8 fr8 ∧ RA K I8 acc8 ds8 ∧
              dLcI g1 tt1 te vs1 (items1.drop (j + 1)) fr8 (fun ds' fr8 => dLcO g tt di1 g1 tt1 te vs vs1 (items.drop (i + 1)) (wipeF fr8 vs) (fun ds'' frN => Q' (.tm (.lst false (ds8 ++ ds' ++ ds''))) (wipeF frN vs))), fun H8 ⟨I8, fr8, acc8, ds8, h8⟩ => ⟨items1.length - (j + 1), by omega, rfl, hlt1, I8, fr8, acc8, ds8, h8⟩, fun x8 H8 y8 => ?_⟩
            obtain ⟨d8, I8, hd8, e8, r8, rx8⟩ := w1.yld _ ps I7 _ H7 fr7 j x8 H8 e7.1 r7 hlt1 y8
            rw [List.getElem?_eq_getElem hlt1] at hd8
            cases hd8
            refine ⟨_, ps, I8, fr7, .sh items1[j], _, nE, r8, rx8, q7, fun σ9 H9 J9 fr9 p9 e9 r9 q9 => ?_, nEKs⟩
            have p9 : L2.wipe σ9 vs1 = L2.wipe σ4 vs1 := p9.trans (wipe_wipe σ4 vs1)
            refine ⟨p9, _, ps, J9, fr9, _, nE, r9, q9, fun b1 Ha Ja fra ea ra' qa => ?_, nEK⟩
            have ia : Ja Dd = none := ea.heldI (e9.heldI (e8.heldI n7))
            have xa : Ext B J6 Ja := e7.trans ((e8.unhold bB).trans ((e9.unhold bB).trans (ea.unhold bB)))
            have sa : Same I7 Ja := e8.1.trans (e9.1.trans ea.1)
            cases b1 with
            | false =>
              have rb := ra'.wipe vs1
              rw [p9] at rb
              exact ⟨Ja, _, acc7, ds7, xa, ia, by omega, rb, ra7.mono sa, qa.f1⟩
            | true =>
              refine ⟨_, ps, Ja, fra, _, nE, ra', qa.t1, fun z Hb Jb rv frb eb rb ob qb => ?_, nEK⟩
              obtain ⟨dz, frc, Jc, qc, ec, rc, rz⟩ := shr_rv rb ob qb
              have ic : Jc Dd = none := ec.heldI (eb.heldI ia)
              have xc := xa.trans ((eb.unhold bB).trans (ec.unhold bB))
              have hc := rc.held bp
              have lim : i * 1000 ≤ 1000000 := by have : i ≤ 1000 := by omega
                                                  omega
              refine ⟨acc7, hc.1, Nat.lt_of_lt_of_le (show acc7.length < 1100000 by omega) (by unfold sizeLine; omega), Jc, wipeF frc vs1, acc7 ++ [z], ds7 ++ [dz], xc, ic, by rw [List.length_append]; simp; omega, ?_, (ra7.mono (sa.trans (eb.1.trans ec.1))).append (.cons rz .nil), ?_⟩
              · have rd := (rc.poke (o' := .lst (acc7 ++ [z])) bp bB ic).wipe vs1
                rw [p9] at rd
                refine rd.hold upd_same fun j d hs e => ?_
                obtain ⟨h1, h2⟩ := wipeF_get hs
                rw [← p9, wipe_out h2] at e
                exact hc.2 j d h1 e
              · simpa only [List.append_assoc, List.singleton_append, List.cons_append, List.nil_append] using qc
          · have e : j = items1.length := by omega
            subst e
            rw [List.drop_length] at q7
            have q7 : dLcO g tt di1 g1 tt1 te vs vs1 (items.drop (i + 1)) (wipeF fr7 vs) (fun ds'' frN => Q' (.tm (.lst false (ds7 ++ [] ++ ds''))) (wipeF frN vs)) := q7
            rw [List.append_nil] at q7
            have r8 := r7.wipe vs
            rw [wipe_sub hv, p4] at r8
            exact .inl ⟨w1.stop _ ps I7 _ H7 fr7 e7.1 r7, I7, _, acc7, ds7, x6.trans e7, n7, by omega, r8, ra7, q7⟩
    · have e : i = items.length := by omega
      subst e
      rw [List.drop_length] at q2
      have q2 : Q' (.tm (.lst false (ds ++ []))) (wipeF fr2 vs) := q2
      rw [List.append_nil] at q2
      have rB := (r2.unhold bB).backW
      refine .inl ⟨w.stop _ ps I2 _ H2 fr2 e2.1 r2, kq (.ref Dd) H2 I2 (.tm (.lst false ds)) _ (e1.trans e2) rB ⟨Dd, rfl, bB, nI, bp, fun j d hs e => ?_, acc, hh.1, (fun z => nomatch z), ra⟩ q2⟩
      obtain ⟨h1, h2⟩ := wipeF_get hs
      exact hh.2 j d h1 (by rw [wipe_out h2]; exact e)
section
variable {X : Cx} {W : WX}
theorem fe_lc2 {elt tg iter tg1 iter1 : Expr} {ifs ifs1 : List Expr} {scope : Scope} {own : List (Str × Nat)} {vs1 : List Nat} {pos : Pos} {wi wi1 : TI} {di di1 : DI} {g g1 : DG} {tt tt1 : DT} {te : DE} (hc : X.calm = true) (hN : X.N.Nodup) (hi : PI X tg iter wi) (io : ItOk X.K W wi di) (ok : BlkOk X.N X.env.scope scope own) (hv : ∀ i ∈ vs1, i ∈ own.map (·.2))
    (hg : ∀ (s : Shared) (H : Hp) (C : Addr) (cl : List (Str × Addr)) (fp : List Addr), PG (X.blk s H scope (compEnvC scope cl C X.env) fp) tg (embG X.K W0 (WipeP (own.map (·.2))) g)) (ht : ∀ (s : Shared) (H : Hp) (C : Addr) (cl : List (Str × Addr)) (fp : List Addr), PTs (X.blk s H scope (compEnvC scope cl C X.env) fp) ifs (embT X.K W0 tt))
    (hi1 : ∀ (s : Shared) (H : Hp) (C : Addr) (cl : List (Str × Addr)) (fp : List Addr), PI (X.blk s H scope (compEnvC scope cl C X.env) fp) tg1 iter1 wi1) (io1 : ItOk X.K W0 wi1 di1)
    (hg1 : ∀ (s : Shared) (H : Hp) (C : Addr) (cl : List (Str × Addr)) (fp : List Addr), PG (X.blk s H scope (compEnvC scope cl C X.env) fp) tg1 (embG X.K W0 (WipeP vs1) g1)) (ht1 : ∀ (s : Shared) (H : Hp) (C : Addr) (cl : List (Str × Addr)) (fp : List Addr), PTs (X.blk s H scope (compEnvC scope cl C X.env) fp) ifs1 (embT X.K W0 tt1))
    (he : ∀ (s : Shared) (H : Hp) (C : Addr) (cl : List (Str × Addr)) (fp : List Addr), PE (X.blk s H scope (compEnvC scope cl C X.env) fp) elt (emb X.K W0 te)) (hs : ∀ x, foldedSetIterable iter X.env x = pure x := by intro _; rfl) (hs1 : ∀ env x, foldedSetIterable iter1 env x = pure x := by intro _ _; rfl) :
    PE X (.ListComp elt [⟨tg, iter, ifs, 0⟩, ⟨tg1, iter1, ifs1, 0⟩] scope pos) (emb X.K W (dLc2 di g tt di1 g1 tt1 te (own.map (·.2)) vs1)) := PE.weak (pe_lc2 hc hN hi ok hv hg ht hi1 hg1 ht1 he hs hs1) fun σ H Q h => lc2_emb hv io io1 h
theorem fs_setLc2 {i : Nat} {y : Str} {py : Pos} {elt tg iter tg1 iter1 : Expr} {ifs ifs1 : List Expr} {scope : Scope} {own : List (Str × Nat)} {vs1 : List Nat} {pos spos : Pos} {wi wi1 : TI} {di di1 : DI} {g g1 : DG} {tt tt1 : DT} {te : DE} (hc : X.calm = true) (hN : X.N.Nodup) (hy : X.N[i]? = some y) (hyl : X.env.scope.names.lookup y = some .local)
    (hsw : swapsWith (.ListComp elt [⟨tg, iter, ifs, 0⟩, ⟨tg1, iter1, ifs1, 0⟩] scope pos) (some (.Name y py)) spos.line X.env = pure true) (hi : PI X tg iter wi) (io : ItOk X.K W wi di) (ok : BlkOk X.N X.env.scope scope own) (hv : ∀ i ∈ vs1, i ∈ own.map (·.2))
    (hg : ∀ (s : Shared) (H : Hp) (C : Addr) (cl : List (Str × Addr)) (fp : List Addr), PG (X.blk s H scope (compEnvC scope cl C X.env) fp) tg (embG X.K W0 (WipeP (own.map (·.2))) g)) (ht : ∀ (s : Shared) (H : Hp) (C : Addr) (cl : List (Str × Addr)) (fp : List Addr), PTs (X.blk s H scope (compEnvC scope cl C X.env) fp) ifs (embT X.K W0 tt))
    (hi1 : ∀ (s : Shared) (H : Hp) (C : Addr) (cl : List (Str × Addr)) (fp : List Addr), PI (X.blk s H scope (compEnvC scope cl C X.env) fp) tg1 iter1 wi1) (io1 : ItOk X.K W0 wi1 di1)
    (hg1 : ∀ (s : Shared) (H : Hp) (C : Addr) (cl : List (Str × Addr)) (fp : List Addr), PG (X.blk s H scope (compEnvC scope cl C X.env) fp) tg1 (embG X.K W0 (WipeP vs1) g1)) (ht1 : ∀ (s : Shared) (H : Hp) (C : Addr) (cl : List (Str × Addr)) (fp : List Addr), PTs (X.blk s H scope (compEnvC scope cl C X.env) fp) ifs1 (embT X.K W0 tt1))
    (he : ∀ (s : Shared) (H : Hp) (C : Addr) (cl : List (Str × Addr)) (fp : List Addr), PE (X.blk s H scope (compEnvC scope cl C X.env) fp) elt (emb X.K W0 te)) (hs : ∀ x, foldedSetIterable iter X.env x = pure x := by intro _; rfl) (hs1 : ∀ env x, foldedSetIterable iter1 env x = pure x := by intro _ _; rfl) :
    PS X (.Assign [.Name y py] (.ListComp elt [⟨tg, iter, ifs, 0⟩, ⟨tg1, iter1, ifs1, 0⟩] scope pos) spos) (embS X.K W (dAsg (dLc2 di g tt di1 g1 tt1 te (own.map (·.2)) vs1) (dgName i))) := PS.weak (ps_setLc2 hc hN hy hyl hsw hi ok hv hg ht hi1 hg1 ht1 he hs hs1) fun D σ H ⟨B, ps, I, fr, Dn, Er, r, q, kd, ke⟩ =>
  lc2_emb hv io io1 ⟨B, ps, I, fr, _, Er, r, q, fun v H' J rv fr' e r' o q' => by
    obtain ⟨fr2, J2, q2, e2, r2⟩ := setSl_of r' o q'
    exact kd.nx _ _ _ _ (e.trans e2) r2 q2, ke σ⟩
end
/-! raise X(f'..'): the text is made of what is written -/
section
variable {X : Cx} {W : WX}
theorem fs_errF {C : Addr} {x : Str} {e : Expr} {ta : TE} {p p3 pos : Pos} (T : ErrC X.K X.mg x C) (hc : X.calm = true) (tk : L2N.Takes X W) (hg : Gl X x) (he : PE X e ta) (ht : ∀ σ H (Q : Prop), Q → ta σ H fun _ H1 => H1 = H ∧ Q) (hdb : (x == ("__debug__" : Str)) = false := by decide) (hs : starEach [e] X.env = (false, eval e X.env) :: starEach [] X.env := by rfl) :
    PS X (.Raise (some (.Call (.Name x p) [e] [] p3)) none pos) (embS X.K W (dRaise C)) := by
  have he2 : PE X e (fun σ H Q => (∀ v, Q v H)) := ⟨fun pins s σ H Q I q => thn (he.run pins s σ H _ I (ht σ H True trivial)) fun u s1 ⟨v, H1, I1, r1, e1, _⟩ => by subst e1; exact ⟨v, _, I1, r1, q v⟩⟩
  exact PS.weak (ps_err1 T hc tk hg he2 hdb hs) fun D σ H ⟨B, ps, I, fr, Dn, Er, r, q, kd, ke⟩ v => ke σ C noFld none H I fr (Ext.refl _ _) r rfl q
end
end Dl
namespace Dl
open PySem PySem.Spec PyProof.Rows L2 Vx
/-! xs[i] = v -/
def setD : D → D → D → (D → Rv → Prop) → Prop
  | .lst z xs, .int i, v, k => opt (ixN xs.length i) fun j => k (.lst z (xs.set j v)) (.sh .non)
  | _, _, _, _ => False
def dgSub (to ti : DE) : DG := fun rv fr Q Er => shr rv fr fun dv fr0 => to fr0 (fun ro fr1 => ti fr1 (fun ri fr2 => wd ri.frz fr2 fun di => upAt ro fr2 (fun d k => setD d di dv k) fun _ fr3 => Q fr3) Er) Er
section
variable {X : Cx} {W : WX} {P : L2.St → L2.St → Prop} {pos : Pos} {o i : Expr} {to ti : DE}
theorem fg_sub (hP : PP P) (ho : PE X o (emb X.K W to)) (hi : PE X i (emb X.K W ti))
    (ha : ∀ v, assign (.Subscript o i pos) X.env v = (do
      let ov ← holding [v] (eval o X.env)
      let iv ← holding [v, ov] (eval i X.env)
      standAt pos
      holding [v, ov, iv] (setItem ov iv v)
      release [v, ov, iv] []) := by intro _; rfl) : PG X (.Subscript o i pos) (embG X.K W P (dgSub to ti)) := PG.weak (pg_sub ho hi set_list ha) fun v σ H Q ⟨B, ps, I, fr, rv, Q', Er, r, ok, q, kq, ke⟩ => by
  obtain ⟨dv, fr0, J0, q0, e0, r0, h0⟩ := shr_rv r ok q
  refine ⟨B, ps, J0, fr0, _, Er, r0, q0, fun ov H1 J1 ro fr1 e1 r1 o1 q1 => ?_, (ke σ).ext e0⟩
  refine ⟨B, ps, J1, fr1, _, Er, r1, q1, fun iv H2 J2 ri fr2 e2 r2 o2 q2 => ?_, (ke σ).ext (e0.trans e1)⟩
  obtain ⟨J3, e3, r3, o3⟩ := frz_of r2 o2
  obtain ⟨di, q3, rh⟩ := o3.wd r3 q2
  have op : OpOk X.K ps J3 σ ov ro := by
    cases ro with
    | sh d => exact (show False from q3).elim
    | tm d => exact (show False from q3).elim
    | pl i => exact o1.1
    | pa i => exact o1
  obtain ⟨p, rfl, up⟩ := upAt_of r3 op q3
  refine up (fun Q => rSetL (.ref p) iv v H2 fun H3 => Q .non H3) (fun _ H3 => Q σ H3) (fun d k Q rt h kq => ?_) fun u H' e fr' r' re k' => kq σ H' J3 fr' (hP.refl σ) (e0.trans (e1.trans (e2.trans e3))) r' k'
  cases d <;> first | exact (show False from h).elim | skip
  cases di <;> first | exact (show False from h).elim | skip
  obtain ⟨vs, e4, nz, ra⟩ := rt
  obtain ⟨j, e5, h⟩ := opt_get h
  exact ⟨p, vs, _, j, rfl, rh.int, e4, by rw [ra.length]; exact e5, kq _ _ _ _ (Root.lst_of nz (RA.set (R.mono (e1.1.trans (e2.1.trans e3.1)) h0) j ra)) .non h⟩
end
theorem sz1 {z : Str} (h : z.length ≤ 1000) : z.length ≤ sizeLine := by unfold sizeLine; omega
/-! a, b, c = x, y, z -/
def dPar3 (i j l : Nat) (ta : DA) : DS := fun Dn Er fr => ta fr (fun rs fr1 => match rs with | [a, b, c] => Br (okPar b && okPar c) (setSl i a fr1 fun fr2 => setSl j b fr2 fun fr3 => setSl l c fr3 Dn.nx) False | _ => False) Er
theorem fs_par3 {X : Cx} {W : WX} {i j l : Nat} {x y z : Str} {a b c : Expr} {ta : DA} {px py pz pt pos : Pos} {kt k2 pt2} (hc : X.calm = true) (hN : X.N.Nodup) (hi : X.N[i]? = some x) (hj : X.N[j]? = some y) (hl : X.N[l]? = some z) (hij : i ≠ j) (hil : i ≠ l) (hjl : j ≠ l)
    (hx : X.env.scope.names.lookup x = some .local) (hy : X.env.scope.names.lookup y = some .local) (hz : X.env.scope.names.lookup z = some .local) (ha : PA X [a, b, c] (embA X.K W ta))
    (hw : swappedStores [.Tuple [.Name x px, .Name y py, .Name z pz] kt pt] (.Tuple [a, b, c] k2 pt2) X.env = pure (some [x, y, z]))
    (hs : swapsWithSole [.Tuple [.Name x px, .Name y py, .Name z pz] kt pt] (.Tuple [a, b, c] k2 pt2) pos.line X.env = pure false := by rfl) :
    PS X (.Assign [.Tuple [.Name x px, .Name y py, .Name z pz] kt pt] (.Tuple [a, b, c] k2 pt2) pos) (embS X.K W (dPar3 i j l ta)) := PS.weak (ps_par3 hc hN hi hj hl hij hil hjl hx hy hz ha hw hs) fun D σ H ⟨B, ps, I, fr, Dn, Er, r, q, kd, ke⟩ => by
  refine ⟨B, ps, I, fr, _, Er, r, q, fun vs H1 J1 rs fr1 e1 r1 o1 q1 => ?_, ke σ⟩
  match rs, o1, q1 with
  | [ra, rb, rc], .cons (v := v) oa (.cons (v := w) ob (.cons (v := u) oc .nil)), q1 =>
    have q1 : Br (okPar rb && okPar rc) (setSl i ra fr1 fun fr2 => setSl j rb fr2 fun fr3 => setSl l rc fr3 Dn.nx) False := q1
    cases hb : okPar rb && okPar rc with
    | false => rw [hb] at q1; exact q1.f1.elim
    | true =>
      rw [hb] at q1
      rw [Bool.and_eq_true] at hb
      have q1 : setSl i ra fr1 fun fr2 => setSl j rb fr2 fun fr3 => setSl l rc fr3 Dn.nx := q1.t1
      refine ⟨v, w, u, rfl, ?_⟩
      have go : ∀ {J J2 : Hp} {ρ : L2.St} {t : V} {rv : Rv}, okPar rv = true → Same J J2 → ∀ {σ1 : L2.St}, OpOk X.K ps J σ1 t rv → OpOk X.K ps J2 ρ t rv := by
        intro J J2 ρ t rv h s σ1 o
        cases rv with
        | sh d => exact R.mono s o
        | tm d => exact o.elim
        | pa k => exact o
        | pl k => cases h
      obtain ⟨fr2, J2, q2, e2, r2⟩ := setSl_of r1 (op_rv r1 oa q1) q1
      have ob2 : OpOk X.K ps J2 (σ.set i (some v)) w rb := go hb.1 e2.1 ob
      obtain ⟨fr3, J3, q3, e3, r3⟩ := setSl_of r2 (op_rv r2 ob2 q2) q2
      have oc3 : OpOk X.K ps J3 ((σ.set i (some v)).set j (some w)) u rc := go hb.2 e3.1 (go hb.2 e2.1 (ρ := σ) oc)
      obtain ⟨fr4, J4, q4, e4, r4⟩ := setSl_of r3 (op_rv r3 oc3 q3) q3
      exact kd.nx _ _ _ _ (e1.trans (e2.trans (e3.trans e4))) r4 q4
/-! a, b = x, y with a new object in the first place -/
theorem EK.held {K : PySem.W.Frag} {W : WX} {B I : Hp} {ps : List Addr} {σ : L2.St} {Er : ER} {p : Addr} {o : HO} (k : EK K W B ps I σ Er) (hp : B p = none) : EK K W (upd B p o) ps I σ Er :=
  fun C d dx H' J fr' e r => k C d dx H' J fr' (e.unhold hp) (r.unhold hp)
def dParT (i j : Nat) (ta tb : DE) : DS := fun Dn Er fr => ta fr (fun a fr1 => match a with | .tm d => tb fr1 (fun b fr2 => Br (okPar b.frz) (setSl i (.tm d) fr2 fun fr3 => setSl j b.frz fr3 Dn.nx) False) Er | _ => False) Er
theorem fs_parT {X : Cx} {W : WX} {i j : Nat} {x y : Str} {a b : Expr} {ta tb : DE} {px py pt pos : Pos} {kt k2 pt2} (hc : X.calm = true) (hN : X.N.Nodup) (hi : X.N[i]? = some x) (hj : X.N[j]? = some y) (hij : i ≠ j)
    (hx : X.env.scope.names.lookup x = some .local) (hy : X.env.scope.names.lookup y = some .local) (ha : PE X a (emb X.K W ta)) (hb : PE X b (emb X.K W tb))
    (hw : swappedStores [.Tuple [.Name x px, .Name y py] kt pt] (.Tuple [a, b] k2 pt2) X.env = pure (some [x, y]))
    (hs1 : starEach [a, b] X.env = (false, eval a X.env) :: starEach [b] X.env := by rfl) (hs2 : starEach [b] X.env = (false, eval b X.env) :: starEach [] X.env := by rfl)
    (hs : swapsWithSole [.Tuple [.Name x px, .Name y py] kt pt] (.Tuple [a, b] k2 pt2) pos.line X.env = pure false := by rfl) :
    PS X (.Assign [.Tuple [.Name x px, .Name y py] kt pt] (.Tuple [a, b] k2 pt2) pos) (embS X.K W (dParT i j ta tb)) := PS.weak (ps_par hc hN hi hj hij hx hy (pa_cons ha (pa_cons hb pa_nil hs2) hs1) hw hs) fun D σ H ⟨B, ps, I, fr, Dn, Er, r, q, kd, ke⟩ => by
  refine ⟨B, ps, I, fr, _, Er, r, q, fun v H1 J1 ra fr1 e1 r1 o1 q1 => ?_, ke σ⟩
  cases ra with
  | sh d => exact (show False from q1).elim
  | pl k => exact (show False from q1).elim
  | pa k => exact (show False from q1).elim
  | tm d =>
    obtain ⟨p, rfl, b1, i1, n1, a1, rt1⟩ := o1
    obtain ⟨o, ho⟩ := rt1.some
    refine ⟨upd B p o, ps, J1, fr1, _, Er, r1.hold ho a1, q1, fun w H2 J2 rb fr2 e2 r2 o2 q2 => ?_, ((ke σ).ext e1).held b1⟩
    obtain ⟨J3, e3, r3, o3⟩ := frz_of r2 o2
    have q2 : Br (okPar rb.frz) (setSl i (.tm d) fr2 fun fr3 => setSl j rb.frz fr3 Dn.nx) False := q2
    cases hb : okPar rb.frz with
    | false => rw [hb] at q2; exact q2.f1.elim
    | true =>
      rw [hb] at q2
      have q2 := q2.t1
      obtain ⟨h3, a3⟩ := r3.held n1
      have i3 : J3 p = none := e3.heldI (e2.heldI i1)
      have eA := e1.trans ((e2.unhold b1).trans (e3.unhold b1))
      have r4 := r3.unhold b1
      have rt3 : Root X.K J3 H2 p d := rt1.mono (e2.1.trans e3.1) (h3.trans ho.symm)
      obtain ⟨fr4, J4, q4, e4, r5⟩ := setSl_of r4 (v := .ref p) (rv := .tm d) ⟨p, rfl, b1, i3, n1, a3, rt3⟩ q2
      have o4 : OpOk X.K ps J4 (σ.set i (some (.ref p))) w rb.frz := by
        generalize rb.frz = rf at hb o3 ⊢
        cases rf with
        | sh d2 => exact R.mono e4.1 o3
        | tm d2 => exact o3.elim
        | pa k => exact o3
        | pl k => cases hb
      obtain ⟨fr5, J5, q5, e5, r6⟩ := setSl_of r5 (op_rv r5 o4 q4) q4
      exact ⟨.ref p, w, rfl, kd.nx _ _ _ _ (eA.trans (e4.trans e5)) r6 q5⟩
end Dl
namespace Dl
open PySem PySem.Spec PyProof.Rows L2 Vx
/-! answering readings -/
theorem loop_ind {g : DG} {b : DS} {Er : ER} {Dn : DEnds} (Inv : List D → Fr → Prop)
    (step : ∀ d ds fr, Inv (d :: ds) fr → (∀ fr1, Inv ds fr1 → dLoop g b Er Dn ds fr1) → g (.sh d) fr (fun fr1 => b { Dn with nx := dLoop g b Er Dn ds, ct := dLoop g b Er Dn ds, bk := Dn.nx } Er fr1) Er)
    (fin : ∀ fr, Inv [] fr → Dn.nx fr) : ∀ {items : List D} {fr : Fr}, Inv items fr → dLoop g b Er Dn items fr
  | [], fr, h => fin fr h
  | d :: ds, fr, h => step d ds fr h fun fr1 h1 => loop_ind Inv step fin h1
/-- a loop that looks at each item and changes nothing but slots that don't count -/
theorem loop_all {g : DG} {b : DS} {Er : ER} {Dn : DEnds} (F : Fr → Prop) (P : D → Prop)
    (step : ∀ d ds fr, F fr → P d → (∀ fr1, F fr1 → dLoop g b Er Dn ds fr1) → g (.sh d) fr (fun fr1 => b { Dn with nx := dLoop g b Er Dn ds, ct := dLoop g b Er Dn ds, bk := Dn.nx } Er fr1) Er)
    (fin : ∀ fr, F fr → Dn.nx fr) {items : List D} {fr : Fr} (hp : ∀ d ∈ items, P d) (hf : F fr) : dLoop g b Er Dn items fr :=
  loop_ind (fun ds fr => F fr ∧ ∀ d ∈ ds, P d) (fun d ds fr h ih => step d ds fr h.1 (h.2 d List.mem_cons_self) fun fr1 h1 => ih fr1 ⟨h1, fun x hx => h.2 x (List.mem_cons_of_mem _ hx)⟩) (fun fr h => fin fr h.1) ⟨hf, hp⟩
theorem lc_pure {g : DG} {tt : DT} {te : DE} {vs : List Nat} {fr : Fr} (p : D → Bool) (f : D → D) : ∀ {items : List D}
    (step : ∀ (x : D) (r : List D) (k : List D → Fr → Prop), x ∈ items → (p x = true → dLcL g tt te vs r fr fun ds fr6 => k (f x :: ds) fr6) → (p x = false → dLcL g tt te vs r fr k) →
      g (.sh x) fr (fun fr2 => tt fr2 (fun b fr3 => Br b (te fr3 (fun rv fr4 => shr rv fr4 fun d fr5 => dLcL g tt te vs r (wipeF fr5 vs) fun ds fr6 => k (d :: ds) fr6) nE) (dLcL g tt te vs r (wipeF fr3 vs) k)) nE) nE)
    {k : List D → Fr → Prop}, k ((items.filter p).map f) fr → dLcL g tt te vs items fr k
  | [], _, k, h => h
  | x :: r, step, k, h => step x r k List.mem_cons_self
      (fun hp => lc_pure p f (fun y s k' hy => step y s k' (List.mem_cons_of_mem _ hy)) (by rw [List.filter_cons, hp] at h; exact h))
      (fun hp => lc_pure p f (fun y s k' hy => step y s k' (List.mem_cons_of_mem _ hy)) (by rw [List.filter_cons, hp] at h; exact h))
inductive All2 {α β : Type} (A : α → β → Prop) : List α → List β → Prop
  | nil : All2 A [] []
  | cons {x : α} {y : β} {xs : List α} {ys : List β} : A x y → All2 A xs ys → All2 A (x :: xs) (y :: ys)
theorem All2.len {α β : Type} {A : α → β → Prop} : ∀ {xs : List α} {ys : List β}, All2 A xs ys → xs.length = ys.length
  | _, _, .nil => rfl
  | _, _, .cons _ h => by rw [List.length_cons, List.length_cons, h.len]
theorem All2.right {α β : Type} {A : α → β → Prop} {P : β → Prop} (hp : ∀ x y, A x y → P y) : ∀ {xs : List α} {ys : List β}, All2 A xs ys → ∀ y ∈ ys, P y
  | _, _, .nil, _, h => nomatch h
  | _, _, .cons a r, y, h => by
    rcases List.mem_cons.mp h with rfl | h
    · exact hp _ _ a
    · exact r.right hp y h
/-- a comprehension without a condition, whose item changes a state -/
theorem lc_eff {σ : Type} {g : DG} {tt : DT} {te : DE} {vs : List Nat} (F : σ → Fr) (N : Nat) (Ok : Nat → σ → Prop) (A : D → D → Prop) : ∀ {items : List D}
    (step : ∀ (x : D) (r : List D) (k : List D → Fr → Prop) (n : Nat) (s : σ), x ∈ items → n < N → Ok n s → (∀ d s', Ok (n + 1) s' → A x d → dLcL g tt te vs r (F s') fun ds fr6 => k (d :: ds) fr6) →
      g (.sh x) (F s) (fun fr2 => tt fr2 (fun b fr3 => Br b (te fr3 (fun rv fr4 => shr rv fr4 fun d fr5 => dLcL g tt te vs r (wipeF fr5 vs) fun ds fr6 => k (d :: ds) fr6) nE) (dLcL g tt te vs r (wipeF fr3 vs) k)) nE) nE)
    {k : List D → Fr → Prop} {n : Nat} {s : σ}, n + items.length ≤ N → Ok n s → (∀ ds s', Ok (n + items.length) s' → All2 A items ds → k ds (F s')) → dLcL g tt te vs items (F s) k
  | [], _, k, n, s, hN, ok, h => h [] s ok .nil
  | x :: r, step, k, n, s, hN, ok, h => by
    rw [List.length_cons] at hN
    refine step x r k n s List.mem_cons_self (by omega) ok fun d s' ok' a => ?_
    exact lc_eff F N Ok A (fun y t k' m u hy => step y t k' m u (List.mem_cons_of_mem _ hy)) (by omega) ok' fun ds s2 ok2 h2 => h (d :: ds) s2 (by rw [List.length_cons, Nat.add_comm r.length 1, ← Nat.add_assoc]; exact ok2) (.cons a h2)
theorem cutL_mid (a : List Nat) (i j : Nat) (h : i ≤ j) : cutL a (some (i : Int)) (some (j : Int)) = (a.drop i).take (j - i) := by
  unfold cutL cutS
  rw [show HT.sIx (S a).length 0 (some (i : Int)) = min i (S a).length from HT.sIx_nat .., show HT.sIx (S a).length (S a).length (some (j : Int)) = min j (S a).length from HT.sIx_nat .., SX.S_len]
  show (a.drop (min i a.length)).take (min j a.length - min i a.length) = _
  by_cases h1 : i ≤ a.length
  · rw [Nat.min_eq_left h1]
    by_cases h2 : j ≤ a.length
    · rw [Nat.min_eq_left h2]
    · rw [Nat.min_eq_right (by omega), List.take_of_length_le (by rw [List.length_drop]; exact Nat.le_refl _), List.take_of_length_le (by rw [List.length_drop]; omega)]
  · rw [Nat.min_eq_right (by omega), Nat.min_eq_right (by omega), Nat.sub_self, List.take_zero, List.drop_eq_nil_of_le (by omega), List.take_nil]
theorem Br.no {b : Bool} {P Q : Prop} (h1 : b = false → P) (h2 : b = true → Q) : Br (!b) P Q := Br.of (fun h => h1 (by cases b <;> first | rfl | cases h)) fun h => h2 (by cases b <;> first | rfl | cases h)
theorem okE_int (i j : Int) : okE (.int i) (.int j) = true := rfl
end Dl
namespace Dl
open PySem PySem.Spec PyProof.Rows L2 Vx
/-! == of lists -/
def eqBs : List D → List D → Bool
  | [], [] => true
  | x :: xs, y :: ys => eqB x y && eqBs xs ys
  | _, _ => false
theorem eqBs_eq : ∀ xs ys : List D, PyData.eqvAll (toPs xs) (toPs ys) = eqBs xs ys
  | [], [] => by simp only [toPs, PyData.eqvAll, eqBs]
  | [], y :: ys => by simp only [toPs, PyData.eqvAll, eqBs]
  | x :: xs, [] => by simp only [toPs, PyData.eqvAll, eqBs]
  | x :: xs, y :: ys => by simp only [toPs, PyData.eqvAll, eqBs]; rw [eqBs_eq xs ys, eqB_eq]
theorem eqB_lst (z z' : Bool) (xs ys : List D) : eqB (.lst z xs) (.lst z' ys) = eqBs xs ys := by
  rw [eqB_eq]; simp only [toP, PyData.eqv]; exact eqBs_eq xs ys
theorem eqB_tup (xs ys : List D) : eqB (.tup xs) (.tup ys) = eqBs xs ys := by
  rw [eqB_eq]; simp only [toP, PyData.eqv]; exact eqBs_eq xs ys
theorem eqBs_rfl_of {xs : List D} (h : ∀ x ∈ xs, eqB x x = true) : eqBs xs xs = true := by
  induction xs with
  | nil => rfl
  | cons x r ih => simp only [eqBs, h x List.mem_cons_self, ih fun y hy => h y (List.mem_cons_of_mem _ hy), Bool.and_self]
theorem eqB_str (a b : List Nat) : eqB (.str a) (.str b) = decide (a = b) := rfl
theorem eqB_str_rfl (a : List Nat) : eqB (.str a) (.str a) = true := decide_eq_true rfl
/-! the size of what repr shows -/
structure Sz (B : Nat) (d : D) (w k : Nat) : Prop where
  sh : (toP d).showable = true
  lv : (toP d).leavesShort B = true
  wt : (toP d).weight ≤ w
  dp : (toP d).depth ≤ k
structure SzA (B : Nat) (ds : List D) (w k : Nat) : Prop where
  sh : PyData.showableAll (toPs ds) = true
  lv : PyData.leavesShortAll B (toPs ds) = true
  wt : PyData.weightAll (toPs ds) ≤ w
  dp : PyData.depthAll (toPs ds) ≤ k
theorem Sz.more {B : Nat} {d : D} {w k w' k' : Nat} (h : Sz B d w k) (h1 : w ≤ w') (h2 : k ≤ k') : Sz B d w' k' := ⟨h.sh, h.lv, Nat.le_trans h.wt h1, Nat.le_trans h.dp h2⟩
theorem SzA.more {B : Nat} {d : List D} {w k w' k' : Nat} (h : SzA B d w k) (h1 : w ≤ w') (h2 : k ≤ k') : SzA B d w' k' := ⟨h.sh, h.lv, Nat.le_trans h.wt h1, Nat.le_trans h.dp h2⟩
theorem Sz.non {B : Nat} : Sz B .non 0 0 := ⟨by simp [toP, PyData.showable], by simp [toP, PyData.leavesShort], by simp [toP, PyData.weight], by simp [toP, PyData.depth]⟩
theorem Sz.bl {B : Nat} {b : Bool} : Sz B (.bl b) 0 0 := ⟨by simp [toP, PyData.showable], by simp [toP, PyData.leavesShort], by simp [toP, PyData.weight], by simp [toP, PyData.depth]⟩
theorem Sz.str {B : Nat} {a : List Nat} (h : ∀ c ∈ a, c < 1114112) : Sz B (.str a) a.length 0 := by
  refine ⟨by simp [toP, PyData.showable], ?_, ?_, by simp [toP, PyData.depth]⟩
  · simp only [toP, PyData.leavesShort]
    refine List.all_eq_true.mpr fun c hc => decide_eq_true ?_
    have : c ∈ a := by simpa [S, SX.S] using hc
    have := h c this
    have : (1114112 : Nat) ≤ 16 ^ 8 := by decide
    omega
  · simp only [toP, PyData.weight]
    exact Nat.le_of_eq (by simp [S, SX.S])
theorem Sz.int {B : Nat} {i : Int} (m : Nat) (m0 : 0 < m) (hm : m ≤ 500) (hB : m + 1 ≤ B) (h : i.natAbs < 10 ^ m) : Sz B (.int i) (4 * m) 0 := by
  have hb : i.natAbs < 2 ^ (4 * m) := Nat.lt_of_lt_of_le h (by rw [Nat.pow_mul]; exact Nat.pow_le_pow_left (by decide) m)
  have hlg : i.natAbs ≠ 0 → i.natAbs.log2 < 4 * m := fun z => (Nat.log2_lt z).mpr hb
  refine ⟨?_, ?_, ?_, by simp [toP, PyData.depth]⟩
  · simp only [toP, PyData.showable]
    refine decide_eq_true ?_
    by_cases z : i.natAbs = 0
    · rw [z]; decide
    · exact (Nat.log2_lt z).mpr (Nat.lt_of_lt_of_le h (Nat.le_trans (Nat.pow_le_pow_right (by decide) hm) (by decide +kernel)))
  · simp only [toP, PyData.leavesShort]
    refine decide_eq_true ?_
    have e := int_text_length_le10 (k := m) m0 h
    show (Str.ofString (toString i)).length ≤ B
    rw [PySem.ofString_length]; omega
  · simp only [toP, PyData.weight]
    split
    · omega
    · rename_i z
      have := hlg fun e => z (by rw [Int.natAbs_eq_zero.mp e]; rfl)
      omega
theorem SzA.nil {B : Nat} : SzA B [] 0 0 := ⟨by simp [toPs, PyData.showableAll], by simp [toPs, PyData.leavesShortAll], by simp [toPs, PyData.weightAll], by simp [toPs, PyData.depthAll]⟩
theorem SzA.cons {B : Nat} {d : D} {ds : List D} {w k w' k' : Nat} (h : Sz B d w k) (t : SzA B ds w' k') : SzA B (d :: ds) (w + 1 + w') (max k k') :=
  ⟨by simp [toPs, PyData.showableAll, h.sh, t.sh], by simp [toPs, PyData.leavesShortAll, h.lv, t.lv], by simp only [toPs, PyData.weightAll]; have := h.wt; have := t.wt; omega, by simp only [toPs, PyData.depthAll]; have := h.dp; have := t.dp; omega⟩
theorem SzA.all {B : Nat} {w k : Nat} : ∀ {ds : List D}, (∀ d ∈ ds, Sz B d w k) → SzA B ds ((w + 1) * ds.length) k
  | [], _ => SzA.nil.more (Nat.zero_le _) (Nat.zero_le _)
  | d :: ds, h => (SzA.cons (h d List.mem_cons_self) (SzA.all fun x hx => h x (List.mem_cons_of_mem _ hx))).more (by rw [List.length_cons, Nat.mul_succ]; omega) (by omega)
theorem toPs_append : ∀ xs ys : List D, toPs (xs ++ ys) = toPs xs ++ toPs ys
  | [], _ => by simp [toPs]
  | x :: xs, ys => by simp [toPs, toPs_append xs ys]
theorem SzA.append {B : Nat} {w k w' k' : Nat} : ∀ {xs ys : List D}, SzA B xs w k → SzA B ys w' k' → SzA B (xs ++ ys) (w + w') (max k k')
  | [], ys, _, h => h.more (by omega) (by omega)
  | x :: xs, ys, h, h' => by
    have h1 : Sz B x (toP x).weight k := ⟨by have := h.sh; simp [toPs, PyData.showableAll] at this; exact this.1, by have := h.lv; simp [toPs, PyData.leavesShortAll] at this; exact this.1, Nat.le_refl _, by have := h.dp; simp only [toPs, PyData.depthAll] at this; omega⟩
    have h2 : SzA B xs (PyData.weightAll (toPs xs)) k := ⟨by have := h.sh; simp [toPs, PyData.showableAll] at this; exact this.2, by have := h.lv; simp [toPs, PyData.leavesShortAll] at this; exact this.2, Nat.le_refl _, by have := h.dp; simp only [toPs, PyData.depthAll] at this; omega⟩
    have h3 := h.wt
    simp only [toPs, PyData.weightAll] at h3
    exact (SzA.cons h1 (SzA.append h2 h')).more (by omega) (by omega)
theorem Sz.lst {B : Nat} {z : Bool} {ds : List D} {w k : Nat} (h : SzA B ds w k) : Sz B (.lst z ds) w (k + 1) :=
  ⟨by simpa only [toP, PyData.showable] using h.sh, by simpa only [toP, PyData.leavesShort] using h.lv, by simpa only [toP, PyData.weight] using h.wt, by simp only [toP, PyData.depth]; have := h.dp; omega⟩
theorem Sz.tup {B : Nat} {ds : List D} {w k : Nat} (h : SzA B ds w k) : Sz B (.tup ds) w (k + 1) :=
  ⟨by simpa only [toP, PyData.showable] using h.sh, by simpa only [toP, PyData.leavesShort] using h.lv, by simpa only [toP, PyData.weight] using h.wt, by simp only [toP, PyData.depth]; have := h.dp; omega⟩
theorem Sz.dicE {B : Nat} : Sz B (.dic [] []) 0 1 := ⟨by simp [toP, toPs, PyData.showable, PyData.showableKv], by simp [toP, toPs, PyData.leavesShort, PyData.leavesShortKv], by simp [toP, toPs, PyData.weight, PyData.weightKv], by simp [toP, toPs, PyData.depth, PyData.depthKv]⟩
mutual
theorem noDict : ∀ {d : D}, plain false d = true → (toP d).hasDict = false
  | .non, _ => by simp [toP, PyData.hasDict]
  | .bl _, _ => by simp [toP, PyData.hasDict]
  | .int _, _ => by simp [toP, PyData.hasDict]
  | .str _, _ => by simp [toP, PyData.hasDict]
  | .lst _ xs, h => by simp only [toP, PyData.hasDict]; exact noDicts (by simp only [plain, Bool.and_eq_true] at h; exact h.1)
  | .tup xs, h => by simp only [toP, PyData.hasDict]; exact noDicts (by simpa only [plain] using h)
  | .dic _ _, h => by simp [plain] at h
  | .ins _ _ _, h => by simp [plain] at h
  | .scr _, h => by simp [plain] at h
  | .ktp xs, h => by simp only [toP, PyData.hasDict]; exact noDicts (by simpa only [plain] using h)
theorem noDicts : ∀ {ds : List D}, plains false ds = true → PyData.hasDictAll (toPs ds) = false
  | [], _ => by simp [toPs, PyData.hasDictAll]
  | d :: ds, h => by
    simp only [plains, Bool.and_eq_true] at h
    simp [toPs, PyData.hasDictAll, noDict h.1, noDicts h.2]
end
theorem Sz.shw {B : Nat} {d : D} {w k : Nat} (h : Sz B d w k) (p : plain true d = true ∨ plain false d = true) (hB : 8 ≤ B) (hk : k ≤ 50) (hw : (B + 2) * w + B ≤ 16000000) : Shw d := by
  refine ⟨h.sh, ?_, Nat.le_trans h.dp hk, ?_⟩
  · have := PyData.shown_le B hB (toP d) h.lv
    have h2 : (B + 2) * (toP d).weight ≤ (B + 2) * w := Nat.mul_le_mul_left _ h.wt
    unfold sizeLine; omega
  · rcases p with p | p
    · exact .inl p
    · exact .inr ⟨p, noDict p⟩
theorem plains_all {b : Bool} : ∀ {ds : List D}, (∀ d ∈ ds, plain b d = true) → plains b ds = true
  | [], _ => by simp [plains]
  | d :: ds, h => by simp only [plains, h d List.mem_cons_self, plains_all fun x hx => h x (List.mem_cons_of_mem _ hx), Bool.and_self]
theorem plains_append {b : Bool} : ∀ {xs ys : List D}, plains b xs = true → plains b ys = true → plains b (xs ++ ys) = true
  | [], _, _, h => h
  | x :: xs, ys, h, h' => by
    simp only [plains, Bool.and_eq_true] at h
    simp only [List.cons_append, plains, h.1, plains_append h.2 h', Bool.and_self]
/-! what may be compared -/
theorem shaped_of {d : D} (h : (toP d).canLay0 = true) (k : (toP d).depth ≤ 64) : SeqAt.shaped (toP d) = true := by
  simp only [SeqAt.shaped, h, k, decide_true, Bool.and_self]
theorem lay_all : ∀ {ds : List D}, (∀ d ∈ ds, (toP d).canLay0 = true) → PyData.canLayAll0 (toPs ds) = true
  | [], _ => by simp [toPs, PyData.canLayAll0]
  | d :: ds, h => by simp only [toPs, PyData.canLayAll0, h d List.mem_cons_self, lay_all fun x hx => h x (List.mem_cons_of_mem _ hx), Bool.and_self]
theorem lay_str {a : List Nat} (h : ∀ c ∈ a, c < 1114112) : (toP (.str a)).canLay0 = true := by
  simp only [toP, PyData.canLay0]
  show PyData.strOk (S a) = true
  unfold PyData.strOk
  rw [← Array.all_toList]
  exact List.all_eq_true.mpr fun c hc => decide_eq_true (h c (by simpa [S, SX.S] using hc))
theorem lay_int (i : Int) : (toP (.int i)).canLay0 = true := by simp only [toP, PyData.canLay0]
theorem lay_lst {z : Bool} {ds : List D} (h : ∀ d ∈ ds, (toP d).canLay0 = true) : (toP (.lst z ds)).canLay0 = true := by simp only [toP, PyData.canLay0]; exact lay_all h
theorem lay_tup {ds : List D} (h : ∀ d ∈ ds, (toP d).canLay0 = true) : (toP (.tup ds)).canLay0 = true := by simp only [toP, PyData.canLay0]; exact lay_all h
theorem dep_all {k : Nat} : ∀ {ds : List D}, (∀ d ∈ ds, (toP d).depth ≤ k) → PyData.depthAll (toPs ds) ≤ k
  | [], _ => by simp [toPs, PyData.depthAll]
  | d :: ds, h => by
    have h1 := h d List.mem_cons_self
    have h2 := dep_all (ds := ds) fun x hx => h x (List.mem_cons_of_mem _ hx)
    simp only [toPs, PyData.depthAll]
    omega
structure Lay (d : D) (k : Nat) : Prop where
  pl : Dl.plain false d = true
  ly : (toP d).canLay0 = true
  dp : (toP d).depth ≤ k
theorem Lay.shp {d : D} {k : Nat} (h : Lay d k) (hk : k ≤ 64) : Dl.shp d = true := by
  unfold Dl.shp
  rw [h.pl, shaped_of h.ly (Nat.le_trans h.dp hk)]; rfl
theorem Lay.non : Lay .non 0 := ⟨rfl, by simp only [toP, PyData.canLay0], by simp [toP, PyData.depth]⟩
theorem Lay.bl {b : Bool} : Lay (.bl b) 0 := ⟨rfl, by simp only [toP, PyData.canLay0], by simp [toP, PyData.depth]⟩
theorem Lay.int {i : Int} : Lay (.int i) 0 := ⟨rfl, lay_int i, by simp [toP, PyData.depth]⟩
theorem Lay.str {a : List Nat} (h : ∀ c ∈ a, c < 1114112) : Lay (.str a) 0 := ⟨rfl, lay_str h, by simp [toP, PyData.depth]⟩
theorem Lay.lst {z : Bool} {ds : List D} {k : Nat} (h : ∀ d ∈ ds, Lay d k) : Lay (.lst z ds) (k + 1) :=
  ⟨by simp only [Dl.plain, Bool.not_false, Bool.or_true, Bool.and_true]; exact plains_all fun d hd => (h d hd).pl, lay_lst fun d hd => (h d hd).ly, by simp only [toP, PyData.depth]; have := dep_all fun d hd => (h d hd).dp; omega⟩
theorem Lay.tup {ds : List D} {k : Nat} (h : ∀ d ∈ ds, Lay d k) : Lay (.tup ds) (k + 1) :=
  ⟨by simp only [Dl.plain]; exact plains_all fun d hd => (h d hd).pl, lay_tup fun d hd => (h d hd).ly, by simp only [toP, PyData.depth]; have := dep_all fun d hd => (h d hd).dp; omega⟩
/-! comprehensions whose frame may change in what does not count -/
theorem lc_inv {g : DG} {tt : DT} {te : DE} {vs : List Nat} (Fp : Fr → Prop) (p : D → Bool) (f : D → D) : ∀ {items : List D}
    (step : ∀ (x : D) (r : List D) (k : List D → Fr → Prop) (fr : Fr), x ∈ items → Fp fr → (p x = true → ∀ fr', Fp fr' → dLcL g tt te vs r fr' fun ds fr6 => k (f x :: ds) fr6) → (p x = false → ∀ fr', Fp fr' → dLcL g tt te vs r fr' k) →
      g (.sh x) fr (fun fr2 => tt fr2 (fun b fr3 => Br b (te fr3 (fun rv fr4 => shr rv fr4 fun d fr5 => dLcL g tt te vs r (wipeF fr5 vs) fun ds fr6 => k (d :: ds) fr6) nE) (dLcL g tt te vs r (wipeF fr3 vs) k)) nE) nE)
    {k : List D → Fr → Prop} {fr : Fr}, Fp fr → (∀ frN, Fp frN → k ((items.filter p).map f) frN) → dLcL g tt te vs items fr k
  | [], _, k, fr, hf, h => h fr hf
  | x :: r, step, k, fr, hf, h => step x r k fr List.mem_cons_self hf
      (fun hp fr' hf' => lc_inv Fp p f (fun y s k' fr2 hy => step y s k' fr2 (List.mem_cons_of_mem _ hy)) hf' fun frN hN => by have := h frN hN; rw [List.filter_cons, hp] at this; exact this)
      (fun hp fr' hf' => lc_inv Fp p f (fun y s k' fr2 hy => step y s k' fr2 (List.mem_cons_of_mem _ hy)) hf' fun frN hN => by have := h frN hN; rw [List.filter_cons, hp] at this; exact this)
theorem lcI_inv {g : DG} {tt : DT} {te : DE} {vs : List Nat} (Fp : Fr → Prop) (p : D → Bool) (f : D → D) : ∀ {items : List D}
    (step : ∀ (x : D) (r : List D) (k : List D → Fr → Prop) (fr : Fr), x ∈ items → Fp fr → (p x = true → ∀ fr', Fp fr' → dLcI g tt te vs r fr' fun ds fr6 => k (f x :: ds) fr6) → (p x = false → ∀ fr', Fp fr' → dLcI g tt te vs r fr' k) →
      g (.sh x) fr (fun fr2 => tt fr2 (fun b fr3 => Br b (te fr3 (fun rv fr4 => shr rv fr4 fun d fr5 => dLcI g tt te vs r (wipeF fr5 vs) fun ds fr6 => k (d :: ds) fr6) nE) (dLcI g tt te vs r (wipeF fr3 vs) k)) nE) nE)
    {k : List D → Fr → Prop} {fr : Fr}, Fp fr → (∀ frN, Fp frN → k ((items.filter p).map f) frN) → dLcI g tt te vs items fr k
  | [], _, k, fr, hf, h => h fr hf
  | x :: r, step, k, fr, hf, h => step x r k fr List.mem_cons_self hf
      (fun hp fr' hf' => lcI_inv Fp p f (fun y s k' fr2 hy => step y s k' fr2 (List.mem_cons_of_mem _ hy)) hf' fun frN hN => by have := h frN hN; rw [List.filter_cons, hp] at this; exact this)
      (fun hp fr' hf' => lcI_inv Fp p f (fun y s k' fr2 hy => step y s k' fr2 (List.mem_cons_of_mem _ hy)) hf' fun frN hN => by have := h frN hN; rw [List.filter_cons, hp] at this; exact this)
theorem lcO_inv {g : DG} {tt : DT} {di1 : DI} {g1 : DG} {tt1 : DT} {te : DE} {vs vs1 : List Nat} (Fp : Fr → Prop) (f : D → List D) : ∀ {items : List D}
    (step : ∀ (x : D) (r : List D) (k : List D → Fr → Prop) (fr : Fr), x ∈ items → Fp fr → (∀ fr', Fp fr' → dLcO g tt di1 g1 tt1 te vs vs1 r fr' fun ds' fr6 => k (f x ++ ds') fr6) →
      g (.sh x) fr (fun fr2 => tt fr2 (fun b fr3 => Br b (di1 fr3 (fun items1 fr4 => Br (Nat.ble items1.length 1000) (dLcI g1 tt1 te vs1 items1 (wipeF fr4 vs1) fun ds fr5 => dLcO g tt di1 g1 tt1 te vs vs1 r (wipeF fr5 vs) fun ds' fr6 => k (ds ++ ds') fr6) False) nE)
        (dLcO g tt di1 g1 tt1 te vs vs1 r (wipeF fr3 vs) k)) nE) nE)
    {k : List D → Fr → Prop} {fr : Fr}, Fp fr → (∀ frN, Fp frN → k (items.flatMap f) frN) → dLcO g tt di1 g1 tt1 te vs vs1 items fr k
  | [], _, k, fr, hf, h => h fr hf
  | x :: r, step, k, fr, hf, h => step x r k fr List.mem_cons_self hf fun fr' hf' =>
      lcO_inv Fp f (fun y s k' fr2 hy => step y s k' fr2 (List.mem_cons_of_mem _ hy)) hf' fun frN hN => by have := h frN hN; rw [List.flatMap_cons] at this; exact this
/-- one claim behind a statement -/
theorem sg_cut {t : DS} {N : Fr → Prop} {rt : Rv → Fr → Prop} {bk ct : Fr → Prop} {Er : ER} {fr : Fr} (P : Fr → Prop) (hu : ∀ fr', P fr' → N fr') (ht : ∀ K : Fr → Prop, (∀ fr', P fr' → K fr') → t ⟨K, rt, bk, ct⟩ Er fr) : Sg (t ⟨N, rt, bk, ct⟩ Er fr) := ⟨ht _ hu⟩
end Dl
namespace Dl
open PySem PySem.Spec PyProof.Rows L2 Vx
/-! zip of two sequences: lists, tuples, constant tuples -/
def seqD : D → Option (Bool × List D)
  | .lst _ xs => some (true, xs)
  | .tup xs => some (false, xs)
  | .ktp xs => some (false, xs)
  | _ => none
theorem seqD_of {K : PySem.W.Frag} {I : Hp} {v : V} {d : D} {k : Bool} {xs : List D} (r : R K I v d) (e : seqD d = some (k, xs)) : ∃ a vs, v = .ref a ∧ (∀ H, Same I H → SqB K H k a vs) ∧ RA K I vs xs := by
  cases r <;> first | (cases e; done) | skip
  · rename_i p vs z ds e1 nz ra
    cases e
    exact ⟨p, vs, rfl, fun H s => (show SqL K H p vs from SqL.of (s _ _ e1)), ra⟩
  · rename_i p vs ds e1 ra
    cases e
    exact ⟨p, vs, rfl, fun H s => (show SqT K H p vs from SqT.of (s _ _ e1)), ra⟩
  · rename_i p vs ds e1 ra
    cases e
    exact ⟨p, vs, rfl, fun H s => (show SqT K H p vs from sqT_mono s e1), ra⟩
def selZB : List D → (List D → Prop) → Prop
  | [x, y], k => opt (seqD x) fun p => opt (seqD y) fun q => k (zipD p.2 q.2)
  | _, _ => False
section
variable {K : PySem.W.Frag} {W : WX} {ta : DA}
theorem it_zipB : ItOk K W (iZipB K (embA K W ta)) (dArgs selZB ta) := fun σ H R B ps I fr Q' Er r q kr ke => args_of (Q := fun vs H1 => ∃ k1 a xs k2 b ys, vs = [.ref a, .ref b] ∧ SqB K H1 k1 a xs ∧ SqB K H1 k2 b ys ∧ R (Itb2 K k1 a k2 b) H1) r q ke fun vs H' J0 fr' ds e r' h q' => by
  match ds, h, q' with
  | [x, y], .cons rx (.cons ry .nil), q' =>
    obtain ⟨⟨k1, xs⟩, ex, q'⟩ := opt_get q'
    obtain ⟨⟨k2, ys⟩, ey, q'⟩ := opt_get q'
    obtain ⟨a, us, rfl, sa, r1⟩ := seqD_of rx ex
    obtain ⟨b, ws, rfl, sb, r2⟩ := seqD_of ry ey
    refine ⟨k1, a, us, k2, b, ws, rfl, sa _ r'.same, sb _ r'.same, kr _ _ _ _ _ e r' (WalkD.pair (p := fun i => xs.getD i .non) (q := fun i => ys.getD i .non) (walk_zipB (n := min xs.length ys.length) (by rw [r1.length, r2.length])) (fun I H s1 s2 => ⟨sa _ (s1.trans s2), sb _ (s1.trans s2)⟩) (zip_len xs ys) (fun i hi => ?_) (fun i x hi hx => ?_) (fun i x hi hx => ?_)) q'⟩
    · rw [zip_get (show i < xs.length by omega) (show i < ys.length by omega)]
      simp [List.getD_eq_getElem?_getD, show i < xs.length by omega, show i < ys.length by omega]
    · obtain ⟨v, g1, g2⟩ := r1.get (List.getElem?_eq_getElem (show i < xs.length by omega))
      rw [hx] at g1; cases g1
      simpa [List.getD_eq_getElem?_getD, show i < xs.length by omega] using g2
    · obtain ⟨v, g1, g2⟩ := r2.get (List.getElem?_eq_getElem (show i < ys.length by omega))
      rw [hx] at g1; cases g1
      simpa [List.getD_eq_getElem?_getD, show i < ys.length by omega] using g2
end
/-! a sign in a text -/
def inSD : D → D → (Rv → Prop) → Prop
  | .str [c], .str a, k => k (.sh (.bl (decide (c ∈ a))))
  | _, _, _ => False
def ninSD : D → D → (Rv → Prop) → Prop
  | .str [c], .str a, k => k (.sh (.bl (!decide (c ∈ a))))
  | _, _, _ => False
theorem S_list (a : List Nat) : (S a).cps.toList = a := by simp [S, SX.S]
theorem opd_inS {K : PySem.W.Frag} : OpD K inSD (fun x y H Q => ∃ (c : Nat) (z : Str), x = .str ⟨#[c]⟩ ∧ y = .str z ∧ Q (.bl (decide (c ∈ z.cps.toList))) H) := by
  intro B ps I σ H fr x y dx dy Q k r rx ry h kq
  unfold inSD at h
  split at h
  · rename_i c a
    rw [rx.str, ry.str]
    refine ⟨c, S a, rfl, rfl, ?_⟩
    rw [S_list]
    exact kq _ _ I (.sh (.bl _)) (Ext.refl _ _) r (R.bl _) h
  · exact h.elim
theorem opd_ninS {K : PySem.W.Frag} : OpD K ninSD (fun x y H Q => ∃ (c : Nat) (z : Str), x = .str ⟨#[c]⟩ ∧ y = .str z ∧ Q (.bl (!decide (c ∈ z.cps.toList))) H) := by
  intro B ps I σ H fr x y dx dy Q k r rx ry h kq
  unfold ninSD at h
  split at h
  · rename_i c a
    rw [rx.str, ry.str]
    refine ⟨c, S a, rfl, rfl, ?_⟩
    rw [S_list]
    exact kq _ _ I (.sh (.bl _)) (Ext.refl _ _) r (R.bl _) h
  · exact h.elim
/-! zip of three -/
def zipD3 : List D → List D → List D → List D
  | x :: xs, y :: ys, z :: zs => .tup [x, y, z] :: zipD3 xs ys zs
  | _, _, _ => []
theorem zip3_len : ∀ xs ys zs : List D, (zipD3 xs ys zs).length = min xs.length (min ys.length zs.length)
  | x :: xs, y :: ys, z :: zs => by simp only [zipD3, List.length_cons, zip3_len xs ys zs]; omega
  | [], _, _ => by simp [zipD3]
  | _ :: _, [], _ => by simp [zipD3]
  | _ :: _, _ :: _, [] => by simp [zipD3]
theorem zip3_get : ∀ {xs ys zs : List D} {i : Nat} (h1 : i < xs.length) (h2 : i < ys.length) (h3 : i < zs.length), (zipD3 xs ys zs)[i]? = some (.tup [xs[i], ys[i], zs[i]])
  | x :: xs, y :: ys, z :: zs, 0, _, _, _ => rfl
  | x :: xs, y :: ys, z :: zs, i + 1, h1, h2, h3 => by
    simp only [zipD3, List.getElem?_cons_succ, List.getElem_cons_succ]
    exact zip3_get (by simpa using h1) (by simpa using h2) (by simpa using h3)
def selZB3 : List D → (List D → Prop) → Prop
  | [x, y, z], k => opt (seqD x) fun p => opt (seqD y) fun q => opt (seqD z) fun r => k (zipD3 p.2 q.2 r.2)
  | _, _ => False
theorem walkD_zip3 {K : PySem.W.Frag} {J0 : Hp} {k1 k2 k3 : Bool} {a b c : Addr} {us vs ws : List V} {xs ys zs : List D} (sa : ∀ H, Same J0 H → SqB K H k1 a us) (sb : ∀ H, Same J0 H → SqB K H k2 b vs) (sc : ∀ H, Same J0 H → SqB K H k3 c ws)
    (r1 : RA K J0 us xs) (r2 : RA K J0 vs ys) (r3 : RA K J0 ws zs) : WalkD K J0 (Itb3 K k1 a k2 b k3 c) (zipD3 xs ys zs) where
  go := fun B ps I σ H fr i s r hi => by
    rw [zip3_len] at hi
    have := r1.length; have := r2.length; have := r3.length
    exact ⟨us, vs, ws, sa _ (s.trans r.same), sb _ (s.trans r.same), sc _ (s.trans r.same), by omega, by omega, by omega⟩
  stop := fun B ps I σ H fr s r => by
    rw [zip3_len]
    have := r1.length; have := r2.length; have := r3.length
    exact ⟨us, vs, ws, sa _ (s.trans r.same), sb _ (s.trans r.same), sc _ (s.trans r.same), by omega, by omega, by omega, by omega⟩
  yld := fun B ps I σ H fr i x H' s r hi y => by
    rw [zip3_len] at hi
    obtain ⟨T, x0, y0, z0, rfl, hT, rfl, e1, e2, e3⟩ := y
    have e1 := e1 us (sa _ (s.trans r.same))
    have e2 := e2 vs (sb _ (s.trans r.same))
    have e3 := e3 ws (sc _ (s.trans r.same))
    obtain ⟨a1, g1, q1⟩ := r1.get (List.getElem?_eq_getElem (show i < xs.length by omega))
    obtain ⟨a2, g2, q2⟩ := r2.get (List.getElem?_eq_getElem (show i < ys.length by omega))
    obtain ⟨a3, g3, q3⟩ := r3.get (List.getElem?_eq_getElem (show i < zs.length by omega))
    rw [e1] at g1; cases g1
    rw [e2] at g2; cases g2
    rw [e3] at g3; cases g3
    have ra : RA K I [x0, y0, z0] [xs[i], ys[i], zs[i]] := .cons (R.mono s q1) (.cons (R.mono s q2) (.cons (R.mono s q3) .nil))
    obtain ⟨I', a', b', c'⟩ := new_tup (Q := fun v H' => ∃ I', Ext B I I' ∧ Rep K B ps I' σ H' fr ∧ R K I' v (.tup [xs[i], ys[i], zs[i]])) (k := fun rv => rv = .sh (.tup [xs[i], ys[i], zs[i]])) r
      (fun v H' J rv e r' o k => by subst k; exact ⟨J, e, r', o⟩) ra rfl T hT
    exact ⟨_, I', zip3_get (by omega) (by omega) (by omega), a', b', c'⟩
theorem it_zipB3 {K : PySem.W.Frag} {W : WX} {ta : DA} : ItOk K W (iZipB3 K (embA K W ta)) (dArgs selZB3 ta) := fun σ H R B ps I fr Q' Er r q kr ke => args_of (Q := fun vs H1 => ∃ k1 a xs k2 b ys k3 c zs, vs = [.ref a, .ref b, .ref c] ∧ SqB K H1 k1 a xs ∧ SqB K H1 k2 b ys ∧ SqB K H1 k3 c zs ∧ R (Itb3 K k1 a k2 b k3 c) H1) r q ke fun vs H' J0 fr' ds e r' h q' => by
  match ds, h, q' with
  | [x, y, z], .cons rx (.cons ry (.cons rz .nil)), q' =>
    obtain ⟨⟨k1, xs⟩, ex, q'⟩ := opt_get q'
    obtain ⟨⟨k2, ys⟩, ey, q'⟩ := opt_get q'
    obtain ⟨⟨k3, zs⟩, ez, q'⟩ := opt_get q'
    obtain ⟨a, us, rfl, sa, r1⟩ := seqD_of rx ex
    obtain ⟨b, ws, rfl, sb, r2⟩ := seqD_of ry ey
    obtain ⟨c, ts, rfl, sc, r3⟩ := seqD_of rz ez
    exact ⟨k1, a, us, k2, b, ws, k3, c, ts, rfl, sa _ r'.same, sb _ r'.same, sc _ r'.same, kr _ _ _ _ _ e r' (walkD_zip3 sa sb sc r1 r2 r3) q'⟩
/-- a constant tuple of texts of the program -/
theorem ktp_of {K : PySem.W.Frag} {a : Addr} {o : Obj} {its : Array Value} {n : Nat} {ss : List (List Nat)} (e : K.lookup a = some o) (c : o.cls = .type "tuple") (d : o.data = .seq its n) (z : its.size ≤ sizeLine) (r : Vals (ss.map fun s => V.str (S s)) its.toList) (I : Hp) : R K I (.ref a) (.ktp (ss.map D.str)) :=
  .ktp (.inr ⟨o, its, n, e, c, d, z, r⟩) (RA.strs ss)
end Dl
namespace Dl
open PySem PySem.Spec PyProof.Rows L2 Vx
/-! zip of two sources of any kind -/
def seqS : D → Option (List D)
  | .lst _ xs => some xs
  | .tup xs => some xs
  | .ktp xs => some xs
  | .scr ns => some (ns.map D.int)
  | .str a => some (a.map fun c => D.str [c])
  | _ => none
theorem RA.chs {K : PySem.W.Frag} {I : Hp} (a : List Nat) : RA K I (Vx.chs (S a)) (a.map fun c => D.str [c]) := by
  unfold Vx.chs
  rw [S_list]
  induction a with
  | nil => exact .nil
  | cons c r ih => exact .cons (.str [c]) ih
theorem seqS_of {K : PySem.W.Frag} {I : Hp} {v : V} {d : D} {xs : List D} (r : R K I v d) (e : seqS d = some xs) : ∃ c vs, v = c.v ∧ (∀ H, Same I H → ScAt K H c vs) ∧ RA K I vs xs := by
  cases r <;> first | (cases e; done) | skip
  · rename_i a
    cases e
    exact ⟨.s (S a), _, rfl, fun H s => (show ScAt K H (.s (S a)) (Vx.chs (S a)) from rfl), RA.chs a⟩
  · rename_i p vs z ds e1 nz ra
    cases e
    exact ⟨.l p, vs, rfl, fun H s => (show SqL K H p vs from SqL.of (s _ _ e1)), ra⟩
  · rename_i p vs ds e1 ra
    cases e
    exact ⟨.t p, vs, rfl, fun H s => (show SqT K H p vs from SqT.of (s _ _ e1)), ra⟩
  · rename_i p ns e1
    cases e
    exact ⟨.l p, _, rfl, fun H s => (show SqL K H p _ from s.seq e1), RA.ints ns⟩
  · rename_i p vs ds e1 ra
    cases e
    exact ⟨.t p, vs, rfl, fun H s => (show SqT K H p vs from sqT_mono s e1), ra⟩
def selZ2 : List D → (List D → Prop) → Prop
  | [x, y], k => opt (seqS x) fun p => opt (seqS y) fun q => k (zipD p q)
  | _, _ => False
section
variable {K : PySem.W.Frag} {W : WX} {ta : DA}
theorem it_zipS : ItOk K W (iZipS K (embA K W ta)) (dArgs selZ2 ta) := fun σ H R B ps I fr Q' Er r q kr ke => args_of (Q := fun vs H1 => ∃ (c1 : Sc) (xs : List V) (c2 : Sc) (ys : List V), vs = [c1.v, c2.v] ∧ ScAt K H1 c1 xs ∧ ScAt K H1 c2 ys ∧ R (Itz2 K c1 c2) H1) r q ke fun vs H' J0 fr' ds e r' h q' => by
  match ds, h, q' with
  | [x, y], .cons rx (.cons ry .nil), q' =>
    obtain ⟨xs, ex, q'⟩ := opt_get q'
    obtain ⟨ys, ey, q'⟩ := opt_get q'
    obtain ⟨a, us, rfl, sa, r1⟩ := seqS_of rx ex
    obtain ⟨b, ws, rfl, sb, r2⟩ := seqS_of ry ey
    refine ⟨a, us, b, ws, rfl, sa _ r'.same, sb _ r'.same, kr _ _ _ _ _ e r' (WalkD.pair (p := fun i => xs.getD i .non) (q := fun i => ys.getD i .non) (walk_zipS (n := min xs.length ys.length) (by rw [r1.length, r2.length])) (fun I H s1 s2 => ⟨sa _ (s1.trans s2), sb _ (s1.trans s2)⟩) (zip_len xs ys) (fun i hi => ?_) (fun i x hi hx => ?_) (fun i x hi hx => ?_)) q'⟩
    · rw [zip_get (show i < xs.length by omega) (show i < ys.length by omega)]
      simp [List.getD_eq_getElem?_getD, show i < xs.length by omega, show i < ys.length by omega]
    · obtain ⟨v, g1, g2⟩ := r1.get (List.getElem?_eq_getElem (show i < xs.length by omega))
      rw [hx] at g1; cases g1
      simpa [List.getD_eq_getElem?_getD, show i < xs.length by omega] using g2
    · obtain ⟨v, g1, g2⟩ := r2.get (List.getElem?_eq_getElem (show i < ys.length by omega))
      rw [hx] at g1; cases g1
      simpa [List.getD_eq_getElem?_getD, show i < ys.length by omega] using g2
end
/-! tuple(x) -/
def tupleD : List D → (Rv → Prop) → Prop
  | [.lst _ a], k => k (.sh (.tup a))
  | [.tup a], k => k (.sh (.tup a))
  | [.str a], k => a.length ≤ 100000 ∧ k (.sh (.tup (a.map fun c => D.str [c])))
  | _, _ => False
abbrev rTuple2 (K : PySem.W.Frag) : List V → Hp → VK → Prop := fun xs H Q => (∃ p ys, xs = [.ref p] ∧ ((SqL K H p ys ∧ ∀ l, H l = none → Q (.ref l) (upd H l (.tup ys))) ∨ (SqT K H p ys ∧ Q (.ref p) H))) ∨
  ∃ a : List Nat, xs = [.str (S a)] ∧ a.length ≤ 100000 ∧ ∀ l, H l = none → Q (.ref l) (upd H l (.tup (sg a)))
theorem call_tuple2 {X : Cx} (hc : X.calm = true) : CallR X (.type "tuple") (rTuple2 X.K) := CallR.or call_tuple_of (call_tuple_tx hc)
theorem calld_tuple {K : PySem.W.Frag} : CallD K tupleD (rTuple2 K) := by
  intro B ps I σ H fr xs ds Q k r rx h kq
  match ds, h with
  | [.lst _ a], h =>
    obtain ⟨v, rfl, rh⟩ := one_of rx
    obtain ⟨p, vs, rfl, e, ra⟩ := rh.lst r.same
    exact .inl ⟨p, vs, rfl, .inl ⟨SqL.of e, new_tup r kq ra h⟩⟩
  | [.tup a], h =>
    obtain ⟨v, rfl, rh⟩ := one_of rx
    obtain ⟨p, vs, rfl, e, ra⟩ := rh.tup r.same
    refine .inl ⟨p, vs, rfl, .inr ⟨e, ?_⟩⟩
    rcases rh with rh | ⟨q, e2, rt⟩
    · exact kq _ _ I (.sh (.tup a)) (Ext.refl _ _) r rh h
    · exact rt.elim
  | [.str a], h =>
    obtain ⟨v, rfl, rh⟩ := one_of rx
    rw [rh.str]
    exact .inr ⟨a, rfl, h.1, new_tup r kq (RA.sg a) h.2⟩
/-- a global that is an object of the program's own, a constant -/
theorem fe_globK {X : Cx} {W : WX} {x : Str} {a : Addr} {d : D} {pos : Pos} (hg : Gl X x) (hm : X.mg x = some (.ref a)) (hd : ∀ I, R X.K I (.ref a) d) (hdb : (x == ("__debug__" : Str)) = false := by decide) : PE X (.Name x pos) (emb X.K W (dC d)) := fe_glob (v := .ref a) hg hm rfl hd hdb
end Dl
namespace Dl
open PySem PySem.Spec PyProof.Rows L2 Vx
/-! answering: places, comprehensions over a mapped list -/
theorem at0 {α : Type} {x : α} {r : List α} : atI (x :: r) 0 = some x := atI_nat (j := 0) rfl
theorem at1 {α : Type} {x y : α} {r : List α} : atI (x :: y :: r) 1 = some y := atI_nat (j := 1) rfl
theorem at2_ {α : Type} {x y z : α} {r : List α} : atI (x :: y :: z :: r) 2 = some z := atI_nat (j := 2) rfl
theorem rg_len (i : Int) (n : Nat) (c : Int) : (rgD i n c).length = n := by unfold rgD; rw [List.length_map, List.length_range]
theorem pick {α : Type} {xs : List α} {i : Int} {P : α → Prop} (h : ∀ x ∈ xs, P x) (i0 : 0 ≤ i) (i1 : i < xs.length) : ∃ x, atI xs i = some x ∧ P x := by
  obtain ⟨j, rfl⟩ := Int.eq_ofNat_of_zero_le i0
  have hj : j < xs.length := by omega
  exact ⟨xs[j], atI_nat (List.getElem?_eq_getElem hj), h _ (List.getElem_mem hj)⟩
theorem lc_all {g : DG} {te : DE} {vs : List Nat} {fr : Fr} {α : Type} (e : α → D) (f : α → D) {items : List α}
    (step : ∀ (x : α) (r : List D) (k : List D → Fr → Prop), x ∈ items → (dLcL g dYes te vs r fr fun ds fr6 => k (f x :: ds) fr6) →
      g (.sh (e x)) fr (fun fr2 => dYes fr2 (fun b fr3 => Br b (te fr3 (fun rv fr4 => shr rv fr4 fun d fr5 => dLcL g dYes te vs r (wipeF fr5 vs) fun ds fr6 => k (d :: ds) fr6) nE) (dLcL g dYes te vs r (wipeF fr3 vs) k)) nE) nE)
    {k : List D → Fr → Prop} (h : k (items.map f) fr) : dLcL g dYes te vs (items.map e) fr k := by
  induction items generalizing k with
  | nil => exact h
  | cons x t ih =>
    refine step x (t.map e) k List.mem_cons_self ?_
    exact ih (fun y r k hy => step y r k (List.mem_cons_of_mem _ hy)) h
/-- with a condition -/
theorem lc_some {g : DG} {tt : DT} {te : DE} {vs : List Nat} {fr : Fr} {α : Type} (e : α → D) (p : α → Bool) (f : α → D) {items : List α}
    (step : ∀ (x : α) (r : List D) (k : List D → Fr → Prop), x ∈ items → (p x = true → dLcL g tt te vs r fr fun ds fr6 => k (f x :: ds) fr6) → (p x = false → dLcL g tt te vs r fr k) →
      g (.sh (e x)) fr (fun fr2 => tt fr2 (fun b fr3 => Br b (te fr3 (fun rv fr4 => shr rv fr4 fun d fr5 => dLcL g tt te vs r (wipeF fr5 vs) fun ds fr6 => k (d :: ds) fr6) nE) (dLcL g tt te vs r (wipeF fr3 vs) k)) nE) nE)
    {k : List D → Fr → Prop} (h : k ((items.filter p).map f) fr) : dLcL g tt te vs (items.map e) fr k := by
  induction items generalizing k with
  | nil => exact h
  | cons x t ih =>
    refine step x (t.map e) k List.mem_cons_self (fun hp => ?_) (fun hp => ?_)
    · refine ih (fun y r k hy => step y r k (List.mem_cons_of_mem _ hy)) ?_
      rw [List.filter_cons, hp] at h; exact h
    · refine ih (fun y r k hy => step y r k (List.mem_cons_of_mem _ hy)) ?_
      rw [List.filter_cons, hp] at h; exact h
/-- a comprehension whose items draw from the caller's bag -/
theorem lc_pa {g : DG} {tt : DT} {te : DE} {vs : List Nat} {sl : List (Option SV)} (N : Nat) (Ok : Nat → D → Prop) (A : D → D → Prop) {items : List D}
    (step : ∀ (x : D) (r : List D) (k : List D → Fr → Prop) (n : Nat) (s : D), x ∈ items → n < N → Ok n s → (∀ d s', Ok (n + 1) s' → A x d → dLcL g tt te vs r ⟨sl, [s']⟩ fun ds fr6 => k (d :: ds) fr6) →
      g (.sh x) ⟨sl, [s]⟩ (fun fr2 => tt fr2 (fun b fr3 => Br b (te fr3 (fun rv fr4 => shr rv fr4 fun d fr5 => dLcL g tt te vs r (wipeF fr5 vs) fun ds fr6 => k (d :: ds) fr6) nE) (dLcL g tt te vs r (wipeF fr3 vs) k)) nE) nE)
    {k : List D → Fr → Prop} {n : Nat} {s : D} (hn : n + items.length ≤ N) (ok : Ok n s) (h : ∀ ds s', Ok (n + items.length) s' → All2 A items ds → k ds ⟨sl, [s']⟩) : dLcL g tt te vs items ⟨sl, [s]⟩ k :=
  lc_eff (fun s => (⟨sl, [s]⟩ : Fr)) N Ok A step hn ok h
/-- a loop over a mapped list: the invariant speaks of what is done -/
theorem loop_map {g : DG} {b : DS} {Er : ER} {Dn : DEnds} {α : Type} (e : α → D) (l : List α) (Inv : List α → Fr → Prop)
    (step : ∀ done x rest fr, l = done ++ x :: rest → Inv done fr → (∀ fr1, Inv (done ++ [x]) fr1 → dLoop g b Er Dn (rest.map e) fr1) → g (.sh (e x)) fr (fun fr1 => b { Dn with nx := dLoop g b Er Dn (rest.map e), ct := dLoop g b Er Dn (rest.map e), bk := Dn.nx } Er fr1) Er)
    (fin : ∀ fr, Inv l fr → Dn.nx fr) {fr : Fr} (h0 : Inv [] fr) : dLoop g b Er Dn (l.map e) fr := by
  suffices h : ∀ (rest done : List α) (fr : Fr), l = done ++ rest → Inv done fr → dLoop g b Er Dn (rest.map e) fr from h l [] fr rfl h0
  intro rest
  induction rest with
  | nil => intro done fr hl h; rw [List.append_nil] at hl; subst hl; exact fin fr h
  | cons x rest ih => exact fun done fr hl h => step done x rest fr hl h fun fr1 h1 => ih (done ++ [x]) fr1 (by rw [hl, List.append_assoc]; rfl) h1
theorem sumI (ns : List Nat) : (ns.map fun n : Nat => (n : Int)).sum = ((ns.sum : Nat) : Int) := by
  induction ns with
  | nil => rfl
  | cons n r ih => rw [List.map_cons, List.sum_cons, List.sum_cons, ih]; omega
theorem all_lc {α : Type} (l : List α) (f : α → Bool) : blsOf (l.map fun x => D.bl (f x)) = some (l.map f) := by
  rw [show l.map (fun x => D.bl (f x)) = (l.map f).map D.bl by rw [List.map_map]; rfl]
  exact blsOf_map _
theorem ints_lc {α : Type} (l : List α) (f : α → Int) : intsOf (l.map fun x => D.int (f x)) = some (l.map f) := by
  rw [show l.map (fun x => D.int (f x)) = (l.map f).map D.int by rw [List.map_map]; rfl]
  exact intsOf_map _
theorem strs_lc {α : Type} (l : List α) (f : α → List Nat) : strsOf (l.map fun x => D.str (f x)) = some (l.map f) := by
  rw [show l.map (fun x => D.str (f x)) = (l.map f).map D.str by rw [List.map_map]; rfl]
  exact strsOf_map _
theorem sumN {α : Type} (l : List α) (f : α → Nat) : (l.map fun x => (f x : Int)).sum = (((l.map f).sum : Nat) : Int) := by
  rw [show l.map (fun x => (f x : Int)) = (l.map f).map fun n : Nat => (n : Int) by rw [List.map_map]; rfl]
  exact sumI _
theorem zipD_map {α β : Type} (f : α → D) (g : β → D) (xs : List α) (ys : List β) : zipD (xs.map f) (ys.map g) = (xs.zip ys).map fun p => D.tup [f p.1, g p.2] := by
  unfold zipD
  rw [List.zipWith_map, List.zip, List.map_zipWith]
theorem zipD_r {β : Type} (g : β → D) (xs : List D) (ys : List β) : zipD xs (ys.map g) = (xs.zip ys).map fun p => D.tup [p.1, g p.2] := by
  unfold zipD
  rw [List.zipWith_map_right, List.zip, List.map_zipWith]
theorem zipD_l {α : Type} (f : α → D) (xs : List α) (ys : List D) : zipD (xs.map f) ys = (xs.zip ys).map fun p => D.tup [f p.1, p.2] := by
  unfold zipD
  rw [List.zipWith_map_left, List.zip, List.map_zipWith]
theorem zipD3_map {α β γ : Type} (f : α → D) (g : β → D) (h : γ → D) : ∀ (xs : List α) (ys : List β) (zs : List γ), zipD3 (xs.map f) (ys.map g) (zs.map h) = (xs.zip (ys.zip zs)).map fun p => D.tup [f p.1, g p.2.1, h p.2.2]
  | [], _, _ => by cases ‹List β› <;> cases ‹List γ› <;> rfl
  | _ :: _, [], zs => by cases zs <;> rfl
  | _ :: _, _ :: _, [] => rfl
  | x :: xs, y :: ys, z :: zs => by
    show D.tup [f x, g y, h z] :: zipD3 (xs.map f) (ys.map g) (zs.map h) = _
    rw [zipD3_map f g h xs ys zs]; rfl
theorem cut1 {α : Type} {xs : List α} : Dl.cutD xs (some 1) none = xs.drop 1 := by
  unfold Dl.cutD
  rw [show HT.sIx xs.length 0 (some (1 : Int)) = min 1 xs.length from HT.sIx_nat (k := 1) .., show HT.sIx xs.length xs.length none = xs.length from rfl]
  cases xs with
  | nil => rfl
  | cons x r => rw [show min 1 (x :: r).length = 1 by rw [List.length_cons]; omega, List.take_of_length_le (by rw [List.length_drop]; exact Nat.le_refl _)]
end Dl
namespace Dl
open PySem PySem.Spec PyProof.Rows L2 Vx
/-! own classes: the fields by their places -/
structure ClsD (K : PySem.W.Frag) (C : Addr) (nm : List Str) : Prop where
  cl : Cls K C
  nd : nm.Nodup
  na : ∀ f ∈ nm, NoAttr K C f
theorem fld_get : ∀ {fs : List (Str × V)} {nm : List Str} {n i : Nat} {f : Str} {v : V}, fs.map (·.1) = nm.take n → nm.Nodup → nm[i]? = some f → (fs.map (·.2))[i]? = some v → fs.lookup f = some v
  | [], _, _, i, _, _, _, _, _, h => by simp at h
  | (g, x) :: r, [], _, _, _, _, e, _, _, _ => by simp at e
  | (g, x) :: r, m :: nm, 0, _, _, _, e, _, _, _ => by simp at e
  | (g, x) :: r, m :: nm, n + 1, 0, f, v, e, nd, hf, hv => by
    simp only [List.map_cons, List.take_succ_cons, List.cons.injEq] at e
    simp only [List.getElem?_cons_zero, Option.some.injEq] at hf
    simp only [List.map_cons, List.getElem?_cons_zero, Option.some.injEq] at hv
    obtain ⟨rfl, _⟩ := e
    subst hf hv
    show (match g == g with | true => _ | false => _) = _
    rw [beq_self_eq_true]
  | (g, x) :: r, m :: nm, n + 1, i + 1, f, v, e, nd, hf, hv => by
    simp only [List.map_cons, List.take_succ_cons, List.cons.injEq] at e
    obtain ⟨rfl, e⟩ := e
    have nd' := List.nodup_cons.mp nd
    simp only [List.getElem?_cons_succ] at hf
    have hne : (f == g) = false := beq_eq_false_iff_ne.mpr fun z => nd'.1 (by rw [← z]; exact List.mem_of_getElem? hf)
    show (match f == g with | true => _ | false => _) = _
    rw [hne]
    exact fld_get e nd'.2 hf (by simpa using hv)
theorem fld_no {fs : List (Str × V)} {nm : List Str} {n : Nat} {m : Str} (e : fs.map (·.1) = nm.take n) (h : ∀ f ∈ nm, m ≠ f) : fs.lookup m = none := by
  induction fs generalizing nm n with
  | nil => rfl
  | cons p r ih =>
    obtain ⟨g, x⟩ := p
    cases nm with
    | nil => simp at e
    | cons a nm =>
      cases n with
      | zero => simp at e
      | succ n =>
        simp only [List.map_cons, List.take_succ_cons, List.cons.injEq] at e
        obtain ⟨rfl, e⟩ := e
        have hne : (m == g) = false := beq_eq_false_iff_ne.mpr (h g List.mem_cons_self)
        show (match m == g with | true => _ | false => _) = _
        rw [hne]
        exact ih e fun f hf => h f (List.mem_cons_of_mem _ hf)
theorem put_new {f : Str} {v : V} : ∀ {fs : List (Str × V)} {nm : List Str}, fs.map (·.1) = nm.take fs.length → nm.Nodup → nm[fs.length]? = some f → L2.putF f v fs = fs ++ [(f, v)]
  | [], _, _, _, _ => rfl
  | (g, x) :: r, [], e, _, _ => by simp at e
  | (g, x) :: r, m :: nm, e, nd, hf => by
    simp only [List.map_cons, List.length_cons, List.take_succ_cons, List.cons.injEq] at e
    obtain ⟨rfl, e⟩ := e
    have nd' := List.nodup_cons.mp nd
    simp only [List.length_cons, List.getElem?_cons_succ] at hf
    have hne : ¬ g = f := fun z => nd'.1 (by rw [z]; exact List.mem_of_getElem? hf)
    show (if g = f then _ else _) = _
    rw [if_neg hne, put_new e nd'.2 hf]; rfl
theorem put_old {f : Str} {v : V} : ∀ {fs : List (Str × V)} {nm : List Str} {n i : Nat}, fs.map (·.1) = nm.take n → nm.Nodup → nm[i]? = some f → i < fs.length → (L2.putF f v fs).map (·.1) = fs.map (·.1) ∧ (L2.putF f v fs).map (·.2) = (fs.map (·.2)).set i v
  | [], _, _, _, _, _, _, h => by simp at h
  | (g, x) :: r, [], _, _, e, _, _, _ => by simp at e
  | (g, x) :: r, m :: nm, 0, _, e, _, _, _ => by simp at e
  | (g, x) :: r, m :: nm, n + 1, 0, e, nd, hf, h => by
    simp only [List.map_cons, List.take_succ_cons, List.cons.injEq] at e
    obtain ⟨rfl, e⟩ := e
    simp only [List.getElem?_cons_zero, Option.some.injEq] at hf
    subst hf
    have : L2.putF g v ((g, x) :: r) = (g, v) :: r := by show (if g = g then _ else _) = _; rw [if_pos rfl]
    rw [this]; exact ⟨rfl, rfl⟩
  | (g, x) :: r, m :: nm, n + 1, i + 1, e, nd, hf, h => by
    simp only [List.map_cons, List.take_succ_cons, List.cons.injEq] at e
    obtain ⟨rfl, e⟩ := e
    have nd' := List.nodup_cons.mp nd
    simp only [List.getElem?_cons_succ] at hf
    have hne : ¬ g = f := fun z => nd'.1 (by rw [z]; exact List.mem_of_getElem? hf)
    have : L2.putF f v ((g, x) :: r) = (g, x) :: L2.putF f v r := by show (if g = f then _ else _) = _; rw [if_neg hne]
    rw [this]
    obtain ⟨h1, h2⟩ := put_old (v := v) e nd'.2 hf (by simpa using h)
    exact ⟨by rw [List.map_cons, List.map_cons, h1], by rw [List.map_cons, List.map_cons, List.set_cons_succ, h2]⟩
theorem Root.ins_of {K : PySem.W.Frag} {I H : Hp} {p C dx : Addr} {ns : List Str} {fs : List (Str × V)} {ds : List D} (e : fs.map (·.1) = ns.take ds.length) (r : RA K I (fs.map (·.2)) ds) : Root K I (upd H p (.ins C dx fs)) p (.ins C ns ds) := ⟨dx, fs, upd_same, e, r⟩
/-! a field read -/
def fldD (C : Addr) (nm : List Str) (i : Nat) (d : D) (k : Rv → Prop) : Prop := match d with
  | .ins C' ns ds => (C' = C ∧ ns = nm) ∧ opt ds[i]? fun x => k (.sh x)
  | _ => False
section
variable {X : Cx} {W : WX} {e o value : Expr} {te to tv : DE} {C : Addr} {nm : List Str} {f : Str} {pos pos' : Pos} {i : Nat}
theorem fe_fld (T : ClsD X.K C nm) (hi : nm[i]? = some f) (he : PE X e (emb X.K W te)) (hb : attributeBase e f X.env (eval e X.env) = eval e X.env := by rfl) : PE X (.Attribute e f pos) (emb X.K W (dOne (fldD C nm i) te)) :=
  PE.weak (pe_fld he hb) fun σ H Q h => one_emb (r := fun x H1 Q => ∃ a C dx fs v, x = .ref a ∧ H1 a = some (.ins C dx fs) ∧ Cls X.K C ∧ NoAttr X.K C f ∧ fs.lookup f = some v ∧ Q v H1) (fun B ps I σ H fr x dx Q k r rx hh kq => by
    cases dx <;> first | exact (show False from hh).elim | skip
    obtain ⟨⟨rfl, rfl⟩, h2⟩ := hh
    obtain ⟨p, dx, fs, rfl, e1, e2, ra⟩ := rx.ins r.same
    obtain ⟨d, e3, q⟩ := opt_get h2
    obtain ⟨v, e4, rv⟩ := ra.get e3
    exact ⟨p, _, dx, fs, v, rfl, e1, T.cl, T.na f (List.mem_of_getElem? hi), fld_get e2 T.nd hi e4, kq _ _ I (.sh d) (Ext.refl _ _) r rv q⟩) h
/-! a field set -/
def setFD (C : Addr) (nm : List Str) (i : Nat) : D → D → (D → Rv → Prop) → Prop
  | .ins C' ns ds, v, k => (C' = C ∧ ns = nm) ∧ Br (Nat.ble (i + 1) ds.length) (k (.ins C' ns (ds.set i v)) (.sh .non)) (i = ds.length ∧ k (.ins C' ns (ds ++ [v])) (.sh .non))
  | _, _, _ => False
def dSetF (C : Addr) (nm : List Str) (i : Nat) (to tv : DE) : DS := fun Dn Er fr => tv fr (fun rv fr1 => shr rv fr1 fun dv fr2 => to fr2 (fun ro fr3 => upAt ro fr3 (fun d k => setFD C nm i d dv k) fun _ fr4 => Dn.nx fr4) Er) Er
theorem fs_fld (T : ClsD X.K C nm) (hi : nm[i]? = some f) (hn : nm.length ≤ 100) (ho : PE X o (emb X.K W to)) (hv : PE X value (emb X.K W tv)) (hs : swapsWith value (some (.Attribute o f pos')) pos.line X.env = pure false := by rfl) :
    PS X (.Assign [.Attribute o f pos'] value pos) (embS X.K W (dSetF C nm i to tv)) := PS.weak (ps_fld ho hv hs) fun D σ H ⟨B, ps, I, fr, Dn, Er, r, q, kd, ke⟩ => by
  refine ⟨B, ps, I, fr, _, Er, r, q, fun y H1 J1 rv fr1 e1 r1 o1 q1 => ?_, ke σ⟩
  obtain ⟨dv, fr2, J2, q2, e2, r2, h2⟩ := shr_rv r1 o1 q1
  refine ⟨B, ps, J2, fr2, _, Er, r2, q2, fun x H3 J3 ro fr3 e3 r3 o3 q3 => ?_, (ke σ).ext (e1.trans e2)⟩
  have op : OpOk X.K ps J3 σ x ro := by
    cases ro with
    | sh d => exact (show False from q3).elim
    | tm d => exact (show False from q3).elim
    | pl i => exact o3.1
    | pa i => exact o3
  obtain ⟨p, rfl, up⟩ := upAt_of r3 op q3
  refine up (fun Q => ∃ a C dx fs, V.ref p = .ref a ∧ H3 a = some (.ins C dx fs) ∧ Cls X.K C ∧ NoAttr X.K C f ∧ fs.length < 1000 ∧ Q .non (upd H3 a (.ins C dx (L2.putF f y fs)))) (fun _ H4 => D.nx σ H4) (fun d k Q rt h kq => ?_) fun u H' e fr' r' re k' => kd.nx _ _ _ _ (e1.trans (e2.trans e3)) r' k'
  match d, rt, h with
  | .ins C' ns ds, rt, h =>
  obtain ⟨⟨rfl, rfl⟩, hz⟩ := (show (C' = C ∧ ns = nm) ∧ Br (Nat.ble (i + 1) ds.length) (k (.ins C' ns (ds.set i dv)) (.sh .non)) (i = ds.length ∧ k (.ins C' ns (ds ++ [dv])) (.sh .non)) from h)
  obtain ⟨dx, fs, e4, e5, ra⟩ := rt
  have hl : fs.length = ds.length := by have := ra.length; rwa [List.length_map] at this
  have hlt : fs.length ≤ 100 := by
    have : (fs.map (·.1)).length = (List.take ds.length _).length := congrArg List.length e5
    rw [List.length_map, List.length_take] at this
    omega
  refine ⟨p, _, dx, fs, rfl, e4, T.cl, T.na f (List.mem_of_getElem? hi), by omega, ?_⟩
  have hy := R.mono e3.1 h2
  cases hb : Nat.ble (i + 1) ds.length with
  | true =>
    rw [hb] at hz
    obtain ⟨p1, p2⟩ := put_old (v := y) e5 T.nd hi (by rw [hl]; exact Nat.le_of_ble_eq_true hb)
    exact kq _ _ _ _ (Root.ins_of (by rw [p1, e5, List.length_set]) (by rw [p2]; exact RA.set hy i ra)) .non hz.t1
  | false =>
    rw [hb] at hz
    obtain ⟨hi2, hw⟩ := hz.f1
    subst hi2
    rw [← hl] at e5 hi
    have pn := put_new (v := y) e5 T.nd hi
    refine kq _ _ _ _ (Root.ins_of ?_ ?_) .non hw
    · rw [pn, List.map_append, e5, List.length_append, List.length_singleton, List.take_add_one, ← hl, hi]; rfl
    · rw [pn, List.map_append]; exact RA.append ra (.cons hy .nil)
end
/-! a property -/
def insB (C : Addr) (nm : List Str) (d : D) (P : Prop) : Prop := match d with
  | .ins C' ns _ => (C' = C ∧ ns = nm) ∧ P
  | _ => False
def dProp (C : Addr) (nm : List Str) (sp : DSp) (mm : List Bool) (te : DE) : DE := fun fr Q Er => te fr (fun o fr1 => wd o.frz fr1 fun d => insB C nm d (callT 1 sp mm [] [o.frz] fr1 Q nE)) Er
section
variable {X : Cx} {W : WX} {e o : Expr} {es : List Expr} {te to : DE} {ta : DA} {C p g f : Addr} {nm : List Str} {a m x : Str} {pos apos q : Pos} {k n : Nat} {fd : FuncData} {ps : List Str} {sp : DSp} {mm : List Bool} {dvs : List V} {ds : List Value} {dd : List D}
theorem insB_of {K : PySem.W.Frag} {B I H : Hp} {ps : List Addr} {σ : L2.St} {fr : Fr} {v : V} {rv : Rv} {C : Addr} {nm : List Str} {P : Prop} (r : Rep K B ps I σ H fr) (o : OpOk K ps I σ v rv) (q : wd rv fr fun d => insB C nm d P) :
    P ∧ ∃ p dx fs n, v = .ref p ∧ H p = some (.ins C dx fs) ∧ fs.map (·.1) = nm.take n := by
  obtain ⟨d, q1, rh⟩ := o.wd r q
  cases d <;> first | exact (show False from q1).elim | skip
  obtain ⟨⟨rfl, rfl⟩, h⟩ := q1
  obtain ⟨p, dx, fs, rfl, e1, e2, ra⟩ := rh.ins r.same
  exact ⟨h, p, dx, fs, _, rfl, e1, e2⟩
theorem fe_prop (T : ClsD X.K C nm) (hp : PropOf X.K C a p g) (F : FnOk X.prog X.w X.K X.mg X.base (L2N.CX X.prog X.w) k g fd ["self"] (lift X.K 1 sp)) (hr : Room (k + 1) X.A) (hb : Binds X.K fd ["self"] []) (he : PE X e (emb X.K W te))
    (hab : attributeBase e a X.env (eval e X.env) = eval e X.env := by rfl) : PE X (.Attribute e a pos) (emb X.K W (dProp C nm sp mm te)) :=
  PE.weak (pe_prop he T.cl hp F hr hb .nil (E := E0) passLN hab) fun σ H Q ⟨B, ps, I, fr, Q', Er, r, q, kq, ke⟩ => by
    refine ⟨B, ps, I, fr, _, Er, r, q, fun v H1 J1 o fr1 e1 r1 o1 q1 => ?_, ke⟩
    obtain ⟨J2, e2, r2, o2⟩ := frz_of r1 o1
    obtain ⟨q2, p', dx, fs, n, rfl, e3, e4⟩ := insB_of r2 o2 q1
    exact ⟨p', dx, fs, rfl, e3, callT_emb (W := W0) (dvs := []) (fun _ => .nil) r2 (.cons o2 .nil) q2 (fun v H' J rv fr' e => kq v H' J rv fr' (e1.trans (e2.trans e))) nEK⟩
/-! methods -/
def dMeth (C : Addr) (nm : List Str) (n : Nat) (sp : DSp) (mm : List Bool) (dd : List D) (to : DE) (ta : DA) : DE := fun fr Q Er => to fr (fun o fr1 => wd o.frz fr1 fun d => insB C nm d (ta fr1 (fun rs fr2 => callT n sp mm dd (o.frz :: rs) fr2 Q Er) Er)) Er
theorem meth_emb {K : PySem.W.Frag} (hm : ∀ f ∈ nm, m ≠ f) (hd : ∀ I, RA K I dvs dd) {σ : L2.St} {H : Hp} {Q : VK} (h : emb K W (dMeth C nm n sp mm dd to ta) σ H Q) :
    emb K W to σ H fun x H1 => ∃ a dx fs, x = .ref a ∧ H1 a = some (.ins C dx fs) ∧ fs.lookup m = none ∧ embA K W ta σ H1 fun vs H2 => lift K n sp (.ref a :: (vs ++ dvs)) H2 Q (WE W σ) := by
  obtain ⟨B, ps, I, fr, Q', Er, r, q, kq, ke⟩ := h
  refine ⟨B, ps, I, fr, _, Er, r, q, fun v H1 J1 o fr1 e1 r1 o1 q1 => ?_, ke⟩
  obtain ⟨J2, e2, r2, o2⟩ := frz_of r1 o1
  obtain ⟨q2, p', dx, fs, l, rfl, e3, e4⟩ := insB_of r2 o2 q1
  refine ⟨p', dx, fs, rfl, e3, fld_no e4 hm, B, ps, J2, fr1, _, Er, r2, q2, fun vs H2 J3 rs fr2 e5 r3 o3 q3 => ?_, ke.ext (e1.trans e2)⟩
  have eA := e1.trans (e2.trans e5)
  exact callT_emb hd r3 (.cons (o2.mono e5.1) o3) q3 (fun v H' J rv fr' e => kq v H' J rv fr' (eA.trans e)) (ke.ext eA)
theorem run_fnX {pins : List (Addr × Obj)} {σ : L2.St} {H : Hp} {s : Shared} {Q : VK} {us : List Value} {vs : List V} {sp : Sp} {E : L2.St → XK} {CX : CXT} (F : FnOk X.prog X.w X.K X.mg X.base CX k f fd ps sp) (hr : Room k X.A) (hb : Binds X.K fd ps ds) (hd : Vals dvs ds) (hx : PassesAt CX X σ (E σ))
    (J : L2.Inv X pins σ H s) (r : Vals vs us) (h : sp (vs ++ dvs) H Q (E σ)) : wpAny (model X.prog X.w) X.A (call (.ref f) us) (EP X pins σ Q) X.xe s := run_fnSD F hr hb hd hx J r h
/-- o.m(e, ..), the method may raise -/
theorem fe_meth {pl : Sem Bool} (T : ClsD X.K C nm) (hme : Meth X.K C m f) (F : FnOk X.prog X.w X.K X.mg X.base (L2N.CX X.prog X.w) k f fd ps (lift X.K n sp)) (hr : Room k X.A) (hb : Binds X.K fd ps ds) (hd : Vals dvs ds) (hdd : ∀ I, RA X.K I dvs dd) (tk : L2N.Takes X W)
    (ho : PE X o (emb X.K W to)) (ha : PA X (e :: es) (embA X.K W ta)) (hm : ∀ y ∈ nm, m ≠ y)
    (hst : starEach (e :: es) X.env = (false, eval e X.env) :: starEach es X.env := by rfl) (hpl : (backTo pos (starEach es X.env)).any (·.1) = false := by rfl)
    (ht : eval (.Call (.Attribute o m apos) (e :: es) [] pos) X.env = (do
      let w ← eval o X.env
      standAt apos.atName
      let (g, h) ← holding [w] (getMethod w m pl)
      callWith pos g h (backTo pos (starEach (e :: es) X.env)) (backToKw pos (keywordEach [] X.env))) := by rfl) :
    PE X (.Call (.Attribute o m apos) (e :: es) [] pos) (emb X.K W (dMeth C nm n sp mm dd to ta)) := by
  refine ⟨fun pins s σ H Q J h => ?_⟩
  refine PySem.W.methodCall_KW (pl := pl) (thn (ho.run pins s σ H _ J (meth_emb hm hdd h)) fun u s1 ⟨x, H1, J1, rx, a, dx, fs, ex, ea, l, q⟩ => ?_) ht
  subst ex
  obtain rfl : u = Value.ref a := rx
  refine getmeth_ok J1 ea T.cl hme l (PySem.W.callWith_K (first := [.ref a]) (h₀ := X.base) J.ok.mod.kin hme.kp (thn (ha.run pos pins s1 σ H1 _ J1 q) fun us s2 ⟨vs, H2, J2, r, q2⟩ => ⟨J2.kIn, ?_⟩) hst hpl)
  exact run_fnX (us := .ref a :: us) (vs := .ref a :: vs) F hr hb hd (L2N.passAt tk σ) J2 (.cons rfl r) q2
theorem fe_meth0 {pl : Sem Bool} (T : ClsD X.K C nm) (hme : Meth X.K C m f) (F : FnOk X.prog X.w X.K X.mg X.base (L2N.CX X.prog X.w) k f fd ps (lift X.K n sp)) (hr : Room k X.A) (hb : Binds X.K fd ps ds) (hd : Vals dvs ds) (hdd : ∀ I, RA X.K I dvs dd) (tk : L2N.Takes X W)
    (ho : PE X o (emb X.K W to)) (hm : ∀ y ∈ nm, m ≠ y)
    (ht : eval (.Call (.Attribute o m apos) [] [] pos) X.env = (do
      let w ← eval o X.env
      standAt apos.atName
      let (g, h) ← holding [w] (getMethod w m pl)
      callWith pos g h (backTo pos (starEach [] X.env)) (backToKw pos (keywordEach [] X.env))) := by rfl) :
    PE X (.Call (.Attribute o m apos) [] [] pos) (emb X.K W (dMeth C nm n sp mm dd to dNil)) := by
  refine ⟨fun pins s σ H Q J h => ?_⟩
  refine PySem.W.methodCall_KW (pl := pl) (thn (ho.run pins s σ H _ J (meth_emb hm hdd h)) fun u s1 ⟨x, H1, J1, rx, a, dx, fs, ex, ea, l, q⟩ => ?_) ht
  subst ex
  obtain rfl : u = Value.ref a := rx
  refine getmeth_ok J1 ea T.cl hme l (PySem.W.callWith_K0 J1.kIn hme.kp ?_)
  obtain ⟨B, ps, I, fr, Q', Er, r, q, kq, ke⟩ := q
  have q2 := kq [] H1 I [] fr (Ext.refl _ _) r .nil q
  exact run_fnX (us := [.ref a]) (vs := [.ref a]) F hr hb hd (L2N.passAt tk σ) J1 (.cons rfl .nil) q2
end
end Dl
namespace Dl
open PySem PySem.Spec PyProof.Rows L2 Vx
/-! own objects made -/
section
variable {K : PySem.W.Frag} {B I H Hm H' J : Hp} {ps : List Addr} {σ : L2.St} {fr : Fr} {y : Addr} {cs : List D}
theorem Rep.step (r : Rep K B ps I σ H fr) (hy : H y = none) (hm : ∀ x o, H x = some o → Hm x = some o) (b : Back K Hm [y] I J H' cs) : Ext B I J ∧ Rep K B ps J σ H' fr := by
  have keep : ∀ x o, H x = some o → H' x = some o := fun x o e => b.keep x o (hm x o e) fun z => by
    rw [List.mem_singleton.mp z, hy] at e; cases e
  have hJ : ∀ p o, H p = some o → I p = none → J p = none := fun p o h1 h2 => by
    cases q : J p with
    | none => rfl
    | some u =>
      rcases b.ext.2 p u q with z | z
      · rw [h2] at z; cases z
      · rw [hm p o h1] at z; cases z
  refine ⟨⟨b.ext.1, fun p o h => ?_⟩, b.same, fun p o h n => keep p o (r.keep p o h n), r.nd, r.plen, fun k d h => ?_, fun p hp => ?_, r.slen, fun i sv h => ?_, r.own⟩
  · rcases b.ext.2 p o h with z | z
    · exact .inl z
    · refine .inr (r.fresh ?_).1
      cases q : H p with
      | none => rfl
      | some u => rw [hm p u q] at z; cases z
  · obtain ⟨p, e1, rt⟩ := r.par k d h
    obtain ⟨o, e2⟩ := rt.some
    exact ⟨p, e1, rt.mono b.ext.1 ((keep _ _ e2).trans e2.symm)⟩
  · obtain ⟨o, e⟩ := r.pin hp
    exact hJ p o e (r.pout p hp)
  · obtain ⟨v, e1, q⟩ := r.slot i sv h
    refine ⟨v, e1, ?_⟩
    cases sv with
    | sh d => exact R.mono b.ext.1 q
    | pa k => exact q
    | ex k => exact q
    | ow d =>
      obtain ⟨p, e2, bb, c, n, rt⟩ := q
      obtain ⟨o, e3⟩ := rt.some
      exact ⟨p, e2, bb, hJ p o e3 c, n, rt.mono b.ext.1 ((keep _ _ e3).trans e3.symm)⟩
end
def dMake (C : Addr) (nm : List Str) (n : Nat) (sp : DSp) (ta : DA) : DE := fun fr Q Er => ta fr (fun rs fr1 => shrs rs fr1 fun ds fr2 => Br (Nat.beq (ds.length + 1) n)
  (Rg (sp (.br (.ins C nm []) :: ds.map .sh) (fun rv cs => match rv, cs with | .sh .non, [d] => Q (.tm d) fr2 | _, _ => False) fun C d cs => Er C d fr2)) False) Er
theorem args_sh {K : PySem.W.Frag} {I H : Hp} : ∀ {vs : List V} {ds : List D}, RA K I vs ds → ArgsOk K I H [] vs (ds.map .sh)
  | _, _, .nil => .nil
  | _, _, .cons a t => .sh a (args_sh t)
section
variable {X : Cx} {W : WX} {e o : Expr} {es : List Expr} {te to : DE} {ta : DA} {C g f : Addr} {nm : List Str} {x : Str} {pos p apos : Pos} {k n : Nat} {fd : FuncData} {ps : List Str} {sp : DSp} {mm : List Bool} {dvs : List V} {ds : List Value} {dd : List D}
theorem make_emb {K : PySem.W.Frag} {σ : L2.St} {H : Hp} {Q : VK} (h : emb K W (dMake C nm n sp ta) σ H Q) :
    embA K W ta σ H fun vs H1 => ∀ y dy, H1 y = none → H1 dy = none → dy ≠ y → lift K n sp (.ref y :: (vs ++ [])) (upd (upd H1 dy (.own y)) y (.ins C dy [])) (fun v H2 => v = .non ∧ Q (.ref y) H2) (WE W σ) := by
  obtain ⟨B, ps, I, fr, Q', Er, r, q, kq, ke⟩ := h
  refine ⟨B, ps, I, fr, _, Er, r, q, fun vs H1 J1 rs fr1 e1 r1 o1 q1 y dy hy hdy ne => ?_, ke⟩
  obtain ⟨ds, fr2, J2, q2, e2, r2, ra⟩ := shrs_of r1 o1 q1
  have eA := e1.trans e2
  rw [List.append_nil]
  have hm : ∀ x o, H1 x = some o → upd (upd H1 dy (.own y)) y (.ins C dy []) x = some o := fun x o e => by
    rw [upd_ne (ne_of_none e hy), upd_ne (ne_of_none e hdy)]; exact e
  have Jy : J2 y = none := by
    cases q : J2 y with
    | none => rfl
    | some o => have := r2.same y o q; rw [hy] at this; cases this
  cases hb : Nat.beq (ds.length + 1) n with
  | false => rw [hb] at q2; exact q2.f1.elim
  | true =>
    rw [hb] at q2
    have hl := Nat.eq_of_beq_eq_true hb
    refine ⟨J2, [y], .br (.ins C nm []) :: ds.map .sh, _, _, fun x o e => hm x o (r2.same x o e), List.nodup_cons.mpr ⟨(fun z => nomatch z), List.nodup_nil⟩, fun z hz => by rw [List.mem_singleton.mp hz]; exact Jy, .br ⟨dy, [], upd_same, rfl, .nil⟩ (args_sh ra), by rw [List.length_cons, List.length_map]; exact hl, q2.t1.ok, fun v H' J rv cs b ro q => ?_, fun C' d dx H' J cs b eo q => ?_⟩
    · obtain ⟨x1, x2⟩ := r2.step hy hm b
      cases rv with
      | sh d0 =>
        cases d0 with
        | non =>
          match cs, q with
          | [d], q =>
            obtain rfl : v = .non := by cases (show R K J v .non from ro); rfl
            refine ⟨rfl, ?_⟩
            obtain ⟨py, e3, rt⟩ := b.par 0 d rfl
            obtain rfl : py = y := by simpa using e3.symm
            obtain ⟨f1, f2, f3, f4⟩ := r2.fresh hy
            have J'y : J py = none := by
              cases q : J py with
              | none => rfl
              | some u =>
                rcases b.ext.2 py u q with z | z
                · rw [Jy] at z; cases z
                · rw [upd_same] at z; cases z
            exact kq _ _ J (.tm d) _ (eA.trans x1) x2 ⟨py, rfl, f1, J'y, f3, f4, rt⟩ q
          | [], q => exact q.elim
          | _ :: _ :: _, q => exact q.elim
        | _ => exact (show False from q).elim
      | _ => exact (show False from q).elim
    · obtain ⟨x1, x2⟩ := r2.step hy hm b
      exact ke C' d dx H' J _ (eA.trans x1) x2 eo q
/-- C(..) -/
theorem fe_make (M : Mk X.K C f) (F : FnOk X.prog X.w X.K X.mg X.base (L2N.CX X.prog X.w) k f fd ps (lift X.K n sp)) (hr : Room (k + 1) X.A) (hg : Gl X x) (hm : X.mg x = some (.ref C)) (hb : L2.Binds X.K fd ps []) (tk : L2N.Takes X W)
    (ha : PA X (e :: es) (embA X.K W ta)) (hdb : (x == ("__debug__" : Str)) = false := by decide) (he : starEach (e :: es) X.env = (false, eval e X.env) :: starEach es X.env := by rfl) (hpl : (backTo pos (starEach es X.env)).any (·.1) = false := by rfl) :
    PE X (.Call (.Name x p) (e :: es) [] pos) (emb X.K W (dMake C nm n sp ta)) :=
  PE.weak (pe_makeS M F hr hg hm hb .nil (fun σ => L2N.passAt tk σ) ha hdb he hpl) fun _ _ _ h => make_emb h
/-- cls(..), cls a local name of a classmethod -/
def dMakeL (i : Nat) (C : Addr) (nm : List Str) (n : Nat) (sp : DSp) (ta : DA) : DE := fun fr Q Er => (match fr.sl[i]? with | some (some (.sh (.cl C'))) => C' = C | _ => False) ∧ dMake C nm n sp ta fr Q Er
theorem pe_makeLS {dvs : List V} {sp : Sp} {E : L2.St → XK} {CX : CXT} {t : TA} {i : Nat} (M : Mk X.K C f) (F : FnOk X.prog X.w X.K X.mg X.base CX k f fd ps sp) (hr : Room (k + 1) X.A) (hN : X.N[i]? = some x) (hv : Vis X.env.scope x) (hb : L2.Binds X.K fd ps ds) (hd : Vals dvs ds) (hx : ∀ σ, PassesAt CX X σ (E σ))
    (ha : PA X (e :: es) t) (hdb : (x == ("__debug__" : Str)) = false := by decide) (hcd : (x == ("__classdict__" : Str)) = false := by decide) (he : starEach (e :: es) X.env = (false, eval e X.env) :: starEach es X.env := by rfl) (hpl : (backTo pos (starEach es X.env)).any (·.1) = false := by rfl) :
    PE X (.Call (.Name x p) (e :: es) [] pos) (fun σ H Q => σ[i]? = some (some (.ref C)) ∧ t σ H fun vs H1 => ∀ y dy, H1 y = none → H1 dy = none → dy ≠ y → sp (.ref y :: (vs ++ dvs)) (upd (upd H1 dy (.own y)) y (.ins C dy [])) (fun v H2 => v = .non ∧ Q (.ref y) H2) (E σ)) := by
  refine ⟨fun pins s σ H Q J h => ?_⟩
  refine wpAny_Call_Name_kw (thn ((pe_var (pos := p) hN hv hdb hcd).run pins s σ H (fun v g => v = .ref C ∧ g = H) J ⟨.ref C, h.1, rfl, rfl⟩) fun u s1 ⟨v, H1, J1, r1, q1, q2⟩ => ?_)
  subst q1 q2
  cases r1
  exact PySem.W.callWith_K (h₀ := X.base) J1.ok.mod.kin M.kp (thn (ha.run pos pins s1 σ _ _ J1 h.2) fun us s2 ⟨vs, H2, J2, r, q⟩ => ⟨J2.kIn, run_makeS M F hr hb hd (hx σ) J2 r q⟩) he hpl
theorem fe_makeL {i : Nat} (M : Mk X.K C f) (F : FnOk X.prog X.w X.K X.mg X.base (L2N.CX X.prog X.w) k f fd ps (lift X.K n sp)) (hr : Room (k + 1) X.A) (hN : X.N[i]? = some x) (hv : Vis X.env.scope x) (hb : L2.Binds X.K fd ps []) (tk : L2N.Takes X W)
    (ha : PA X (e :: es) (embA X.K W ta)) (hdb : (x == ("__debug__" : Str)) = false := by decide) (hcd : (x == ("__classdict__" : Str)) = false := by decide) (he : starEach (e :: es) X.env = (false, eval e X.env) :: starEach es X.env := by rfl) (hpl : (backTo pos (starEach es X.env)).any (·.1) = false := by rfl) :
    PE X (.Call (.Name x p) (e :: es) [] pos) (emb X.K W (dMakeL i C nm n sp ta)) :=
  PE.weak (pe_makeLS M F hr hN hv hb .nil (fun σ => L2N.passAt tk σ) ha hdb hcd he hpl) fun σ H Q ⟨B, ps, I, fr, Q', Er, r, q, kq, ke⟩ => by
    obtain ⟨h1, h2⟩ := q
    refine ⟨?_, make_emb ⟨B, ps, I, fr, Q', Er, r, h2, kq, ke⟩⟩
    split at h1
    · rename_i C' e
      subst h1
      obtain ⟨v, e1, z⟩ := r.slot i _ e
      cases (show R X.K I v (.cl _) from z)
      exact e1
    · exact h1.elim
/-- C.m(..), a classmethod -/
theorem fe_cmeth {mc : Value} {m : Str} {pc : Addr} {pl : Sem Bool} (hgo : Gl X x) (hmo : X.mg x = some (.ref C)) (r : ClX.CRead X.K C mc) (c : ClX.CMet X.K C mc m pc g) (F : FnOk X.prog X.w X.K X.mg X.base (L2N.CX X.prog X.w) k g fd ps (lift X.K n sp)) (hr : Room k X.A) (hb : L2.Binds X.K fd ps []) (tk : L2N.Takes X W)
    (ha : PA X (e :: es) (embA X.K W ta)) (hdb : (x == ("__debug__" : Str)) = false := by decide)
    (hst : starEach (e :: es) X.env = (false, eval e X.env) :: starEach es X.env := by rfl) (hpl : (backTo pos (starEach es X.env)).any (·.1) = false := by rfl)
    (ht : eval (.Call (.Attribute (.Name x p) m apos) (e :: es) [] pos) X.env = (do
      let w ← eval (.Name x p) X.env
      standAt apos.atName
      let (g, h) ← holding [w] (getMethod w m pl)
      callWith pos g h (backTo pos (starEach (e :: es) X.env)) (backToKw pos (keywordEach [] X.env))) := by rfl) :
    PE X (.Call (.Attribute (.Name x p) m apos) (e :: es) [] pos) (emb X.K W (dCall n sp mm [] (dCons (dC (.cl C)) ta))) := by
  have he : PE X (.Name x p) (tC (.ref C)) := pe_glob hgo hmo rfl hdb
  refine PE.weak (pe_cmethS he r c (F.raw hb .nil) hr (fun σ => L2N.passAt tk σ) ha hst hpl ht) fun σ H Q h => ?_
  obtain ⟨B, ps, I, fr, Q', Er, r0, q, kq, ke⟩ := h
  refine ⟨rfl, B, ps, I, fr, _, Er, r0, q, fun vs H1 J1 rs fr1 e1 r1 o1 q1 => ?_, ke⟩
  exact callT_emb (dvs := []) (fun _ => .nil) r1 (.cons (r := .sh (.cl C)) (show R X.K J1 (.ref C) (.cl C) from R.cl C) o1) q1 (fun v H' J rv fr' e => kq v H' J rv fr' (e1.trans e)) (ke.ext e1)
end
end Dl
namespace Dl
open PySem PySem.Spec PyProof.Rows L2 Vx
/-! operators of own classes -/
def bTys : List String := ["NoneType", "bool", "int", "str", "list", "tuple", "dict"]
/-- a built-in value or one of the class -/
def rhsB (C : Addr) (d : D) (P : Prop) : Prop := match d with
  | .ins C' _ _ => C' = C ∧ P
  | .scr _ => False
  | .ktp _ => False
  | .cl _ => False
  | _ => P
theorem rhsB_of {K : PySem.W.Frag} {I H : Hp} {v : V} {d : D} {C : Addr} {P : Prop} (s : Same I H) (h : RH K I H v d) (q : rhsB C d P) : P ∧ ((∃ b dy gs, v = .ref b ∧ H b = some (.ins C dy gs)) ∨ ∃ T, T ∈ bTys ∧ TyX K H v (.type T)) := by
  cases d with
  | ins C' ns ds =>
    obtain ⟨rfl, p⟩ := (show C' = C ∧ P from q)
    obtain ⟨p', dx, fs, rfl, e, _⟩ := h.ins s
    exact ⟨p, .inl ⟨p', dx, fs, rfl, e⟩⟩
  | scr _ => exact (show False from q).elim
  | ktp _ => exact (show False from q).elim
  | cl _ => exact (show False from q).elim
  | non => exact ⟨q, .inr ⟨_, by decide, h.tyX s (T := "NoneType") rfl (fun _ z => nomatch z)⟩⟩
  | bl b => exact ⟨q, .inr ⟨_, by decide, h.tyX s (T := "bool") rfl (fun _ z => nomatch z)⟩⟩
  | int i => exact ⟨q, .inr ⟨_, by decide, h.tyX s (T := "int") rfl (fun _ z => nomatch z)⟩⟩
  | str a => exact ⟨q, .inr ⟨_, by decide, h.tyX s (T := "str") rfl (fun _ z => nomatch z)⟩⟩
  | lst z xs => exact ⟨q, .inr ⟨_, by decide, h.tyX s (T := "list") rfl (fun _ z => nomatch z)⟩⟩
  | tup xs => exact ⟨q, .inr ⟨_, by decide, h.tyX s (T := "tuple") rfl (fun _ z => nomatch z)⟩⟩
  | dic ks vs => exact ⟨q, .inr ⟨_, by decide, h.tyX s (T := "dict") rfl (fun _ z => nomatch z)⟩⟩
def dOpC (C : Addr) (nm : List Str) (sp : DSp) (ta tb : DE) : DE := fun fr Q Er => ta fr (fun a fr1 => tb fr1 (fun b fr2 => wd a.frz fr2 fun x => insB C nm x (wd b.frz fr2 fun y => rhsB C y (callT 2 sp [] [] [a.frz, b.frz] fr2 Q Er))) Er) Er
section
variable {X : Cx} {W : WX} {e o a b : Expr} {te ta tb : DE} {C g : Addr} {nm : List Str} {pos : Pos} {k n : Nat} {fd : FuncData} {ps : List Str} {sp : DSp}
theorem opC_emb {K : PySem.W.Frag} {σ : L2.St} {H : Hp} {Q : VK} (h : emb K W (dOpC C nm sp ta tb) σ H Q) : emb K W ta σ H fun x H1 => emb K W tb σ H1 fun y H2 =>
    ∃ o dx fs, x = .ref o ∧ H2 o = some (.ins C dx fs) ∧ ((∃ b dy gs, y = .ref b ∧ H2 b = some (.ins C dy gs)) ∨ ∃ T, T ∈ bTys ∧ TyX K H2 y (.type T)) ∧ lift K 2 sp [x, y] H2 Q (WE W σ) := by
  obtain ⟨B, ps, I, fr, Q', Er, r0, q, kq, ke⟩ := h
  refine ⟨B, ps, I, fr, _, Er, r0, q, fun v H1 J1 a fr1 e1 r1 o1 q1 => ?_, ke⟩
  obtain ⟨J2, e2, r2, o2⟩ := frz_of r1 o1
  refine ⟨B, ps, J2, fr1, _, Er, r2, q1, fun u H2 J3 b fr2 e3 r3 o3 q3 => ?_, ke.ext (e1.trans e2)⟩
  obtain ⟨J4, e4, r4, o4⟩ := frz_of r3 o3
  have o5 := o2.mono (e3.1.trans e4.1)
  obtain ⟨q4, p, dx, fs, l, rfl, e5, _⟩ := insB_of r4 o5 q3
  obtain ⟨y, q5, ry⟩ := o4.wd r4 q4
  obtain ⟨q6, hy⟩ := rhsB_of r4.same ry q5
  have eA := e1.trans (e2.trans (e3.trans e4))
  exact ⟨p, dx, fs, rfl, e5, hy, callT_emb (dvs := []) (fun _ => .nil) r4 (.cons o5 (.cons o4 .nil)) q6 (fun v H' J rv fr' e => kq v H' J rv fr' (eA.trans e)) (ke.ext eA)⟩
/-- x op y by the class's method, which may raise -/
theorem fe_opC {op : Operator} (d : OpC X.K C g op) (R : ∀ T ∈ bTys, RhsT X.K C op T) (F : FnOk X.prog X.w X.K X.mg X.base (L2N.CX X.prog X.w) k g fd ps (lift X.K 2 sp)) (hr : Room k X.A) (hb : L2.Binds X.K fd ps []) (tk : L2N.Takes X W) (ha : PE X a (emb X.K W ta)) (hc : PE X b (emb X.K W tb)) :
    PE X (.BinOp a op b pos) (emb X.K W (dOpC C nm sp ta tb)) :=
  PE.weak (pe_anyS X.K rfl d F hr hb (fun σ => L2N.passAt tk σ) ha hc) fun σ H Q h => by
    obtain ⟨B, ps, I, fr, Q', Er, r, q, kq, ke⟩ := opC_emb h
    refine ⟨B, ps, I, fr, Q', Er, r, q, fun x H1 J rv fr' e1 r1 o1 q1 => ?_, ke⟩
    obtain ⟨B, ps, I, fr, Q', Er, r, q, kq, ke⟩ := kq x H1 J rv fr' e1 r1 o1 q1
    refine ⟨B, ps, I, fr, Q', Er, r, q, fun y H2 J rv fr' e2 r2 o2 q2 => ?_, ke⟩
    obtain ⟨p, dx, fs, h1, h2, h3, h4⟩ := kq y H2 J rv fr' e2 r2 o2 q2
    refine ⟨p, dx, fs, h1, h2, h3.imp (fun z => z) (fun ⟨T, hT, z⟩ => ⟨T, z, R T hT⟩), h4⟩
/-! ~x, -x -/
def dUnC (C : Addr) (nm : List Str) (sp : DSp) (te : DE) : DE := fun fr Q Er => te fr (fun a fr1 => wd a.frz fr1 fun x => insB C nm x (callT 1 sp [] [] [a.frz] fr1 Q nE)) Er
theorem unC_emb {K : PySem.W.Frag} {σ : L2.St} {H : Hp} {Q : VK} (h : emb K W (dUnC C nm sp te) σ H Q) : emb K W te σ H fun x H1 => rUnOwn C (fun vs H Q E => lift K 1 sp (vs ++ []) H Q E) E0 x H1 Q := by
  obtain ⟨B, ps, I, fr, Q', Er, r, q, kq, ke⟩ := h
  refine ⟨B, ps, I, fr, _, Er, r, q, fun v H1 J1 o fr1 e1 r1 o1 q1 => ?_, ke⟩
  obtain ⟨J2, e2, r2, o2⟩ := frz_of r1 o1
  obtain ⟨q2, p', dx, fs, n, rfl, e3, e4⟩ := insB_of r2 o2 q1
  exact ⟨p', dx, fs, rfl, e3, callT_emb (W := W0) (dvs := []) (fun _ => .nil) r2 (.cons o2 .nil) q2 (fun v H' J rv fr' e => kq v H' J rv fr' (e1.trans (e2.trans e))) nEK⟩
theorem fe_invC (d : Dun X.K C "__invert__" g) (F : FnOk X.prog X.w X.K X.mg X.base (L2N.CX X.prog X.w) k g fd ps (lift X.K 1 sp)) (hr : Room k X.A) (hb : L2.Binds X.K fd ps []) (he : PE X e (emb X.K W te)) : PE X (.UnaryOp .Invert e pos) (emb X.K W (dUnC C nm sp te)) :=
  PE.weak (pe_un (un_ownI d (F.raw hb .nil) hr passLN) he) fun _ _ _ h => unC_emb h
theorem fe_negC (d : Dun X.K C "__neg__" g) (F : FnOk X.prog X.w X.K X.mg X.base (L2N.CX X.prog X.w) k g fd ps (lift X.K 1 sp)) (hr : Room k X.A) (hb : L2.Binds X.K fd ps []) (he : PE X e (emb X.K W te)) : PE X (.UnaryOp .USub e pos) (emb X.K W (dUnC C nm sp te)) :=
  PE.weak (pe_un (un_ownN d (F.raw hb .nil) hr passLN) he) fun _ _ _ h => unC_emb h
/-! ==, != -/
def notIf (n b : Bool) : Bool := match n with
  | true => !b
  | false => b
def dEqC (neg : Bool) (C : Addr) (nm : List Str) (sp : DSp) (ta tb : DE) : DE := fun fr Q Er => ta fr (fun a fr1 => tb fr1 (fun b fr2 => wd a.frz fr2 fun x => insB C nm x (wd b.frz fr2 fun y => rhsB C y (callT 2 sp [] [] [a.frz, b.frz] fr2 (fun rv fr3 => tstB rv fun b => Q (.sh (.bl (notIf neg b))) fr3) nE))) Er) Er
theorem eqC_emb {neg : Bool} {K : PySem.W.Frag} {σ : L2.St} {H : Hp} {Q : VK} (h : emb K W (dEqC neg C nm sp ta tb) σ H Q) : emb K W ta σ H fun x H1 => emb K W tb σ H1 fun y H2 =>
    ∃ o dx fs, x = .ref o ∧ H2 o = some (.ins C dx fs) ∧ ((∃ b dy gs, y = .ref b ∧ H2 b = some (.ins C dy gs)) ∨ ∃ T, T ∈ bTys ∧ TyX K H2 y (.type T)) ∧ lift K 2 sp [x, y] H2 (fun v H' => ∃ k, v = .bl k ∧ Q (.bl (notIf neg k)) H') E0 := by
  obtain ⟨B, ps, I, fr, Q', Er, r0, q, kq, ke⟩ := h
  refine ⟨B, ps, I, fr, _, Er, r0, q, fun v H1 J1 a fr1 e1 r1 o1 q1 => ?_, ke⟩
  obtain ⟨J2, e2, r2, o2⟩ := frz_of r1 o1
  refine ⟨B, ps, J2, fr1, _, Er, r2, q1, fun u H2 J3 b fr2 e3 r3 o3 q3 => ?_, ke.ext (e1.trans e2)⟩
  obtain ⟨J4, e4, r4, o4⟩ := frz_of r3 o3
  have o5 := o2.mono (e3.1.trans e4.1)
  obtain ⟨q4, p, dx, fs, l, rfl, e5, _⟩ := insB_of r4 o5 q3
  obtain ⟨y, q5, ry⟩ := o4.wd r4 q4
  obtain ⟨q6, hy⟩ := rhsB_of r4.same ry q5
  have eA := e1.trans (e2.trans (e3.trans e4))
  refine ⟨p, dx, fs, rfl, e5, hy, callT_emb (W := W0) (dvs := []) (fun _ => .nil) r4 (.cons o5 (.cons o4 .nil)) q6 (fun v H' J rv fr' e r' o' q' => ?_) nEK⟩
  obtain ⟨k, rfl, q7⟩ := tstB_of o' q'
  exact ⟨k, rfl, kq _ _ J (.sh (.bl _)) _ (eA.trans e) r' (R.bl _) q7⟩
theorem nfC {K : PySem.W.Frag} (S : ∀ T ∈ bTys, PySem.W.subIn K (.type T) (.ref C) = some false) {T : String} (hT : T ∈ bTys) : PySem.W.notFirst K C (.type T) = true := by
  unfold PySem.W.notFirst
  rw [S T hT]
  simp
theorem lift_mono {K : PySem.W.Frag} {sp : DSp} {vs : List V} {H : Hp} {Q Q2 : VK} {E : XK} (h : lift K n sp vs H Q E) (w : ∀ v H', Q v H' → Q2 v H') : lift K n sp vs H Q2 E := by
  obtain ⟨I, ps, ags, Q', Er', a1, a2, a3, a4, a5, a6, a7, a8⟩ := h
  exact ⟨I, ps, ags, Q', Er', a1, a2, a3, a4, a5, a6, fun v H' J rv cs b o q => w _ _ (a7 v H' J rv cs b o q), a8⟩
theorem eqC_w {K : PySem.W.Frag} (S : ∀ T ∈ bTys, PySem.W.subIn K (.type T) (.ref C) = some false) {σ : L2.St} {H : Hp} {Q : VK} (h : emb K W (dEqC false C nm sp ta tb) σ H Q) :
    emb K W ta σ H fun x H1 => emb K W tb σ H1 fun y H2 => rEqOwn K C (fun vs H Q E => lift K 2 sp (vs ++ []) H Q E) E0 x y H2 Q := by
  obtain ⟨B, ps, I, fr, Q', Er, r, q, kq, ke⟩ := eqC_emb h
  refine ⟨B, ps, I, fr, Q', Er, r, q, fun x H1 J rv fr' e1 r1 o1 q1 => ?_, ke⟩
  obtain ⟨B, ps, I, fr, Q', Er, r, q, kq, ke⟩ := kq x H1 J rv fr' e1 r1 o1 q1
  refine ⟨B, ps, I, fr, Q', Er, r, q, fun y H2 J rv fr' e2 r2 o2 q2 => ?_, ke⟩
  obtain ⟨p, dx, fs, h1, h2, h3, h4⟩ := kq y H2 J rv fr' e2 r2 o2 q2
  exact ⟨p, dx, fs, h1, h2, h3.imp (fun z => z) (fun ⟨T, hT, z⟩ => ⟨_, z, nfC S hT⟩), lift_mono h4 fun v H' ⟨k, hk, q⟩ => by rw [hk]; exact q⟩
theorem neC_w {K : PySem.W.Frag} (S : ∀ T ∈ bTys, PySem.W.subIn K (.type T) (.ref C) = some false) {σ : L2.St} {H : Hp} {Q : VK} (h : emb K W (dEqC true C nm sp ta tb) σ H Q) :
    emb K W ta σ H fun x H1 => emb K W tb σ H1 fun y H2 => rNeOwn K C (fun vs H Q E => lift K 2 sp (vs ++ []) H Q E) E0 x y H2 Q := by
  obtain ⟨B, ps, I, fr, Q', Er, r, q, kq, ke⟩ := eqC_emb h
  refine ⟨B, ps, I, fr, Q', Er, r, q, fun x H1 J rv fr' e1 r1 o1 q1 => ?_, ke⟩
  obtain ⟨B, ps, I, fr, Q', Er, r, q, kq, ke⟩ := kq x H1 J rv fr' e1 r1 o1 q1
  refine ⟨B, ps, I, fr, Q', Er, r, q, fun y H2 J rv fr' e2 r2 o2 q2 => ?_, ke⟩
  obtain ⟨p, dx, fs, h1, h2, h3, h4⟩ := kq y H2 J rv fr' e2 r2 o2 q2
  exact ⟨p, dx, fs, h1, h2, h3.imp (fun z => z) (fun ⟨T, hT, z⟩ => ⟨_, z, nfC S hT⟩), h4⟩
theorem fe_eqC (S : ∀ T ∈ bTys, PySem.W.subIn X.K (.type T) (.ref C) = some false) (d : Dun X.K C "__eq__" g) (F : FnOk X.prog X.w X.K X.mg X.base (L2N.CX X.prog X.w) k g fd ps (lift X.K 2 sp)) (hr : Room k X.A) (hb : L2.Binds X.K fd ps []) (ha : PE X a (emb X.K W ta)) (hc : PE X b (emb X.K W tb)) (hm : behindInMarks .Eq b = false) :
    PE X (.Compare a [.Eq] [b] pos) (emb X.K W (dEqC false C nm sp ta tb)) :=
  PE.weak (pe_cmpR (op_eqOwn X.K rfl d (F.raw hb .nil) hr passLN) ha hc hm) fun σ H Q h => eqC_w S h
theorem ft_eqC (S : ∀ T ∈ bTys, PySem.W.subIn X.K (.type T) (.ref C) = some false) (d : Dun X.K C "__eq__" g) (F : FnOk X.prog X.w X.K X.mg X.base (L2N.CX X.prog X.w) k g fd ps (lift X.K 2 sp)) (hr : Room k X.A) (hb : L2.Binds X.K fd ps []) (ha : PE X a (emb X.K W ta)) (hc : PE X b (emb X.K W tb)) (hm : behindInMarks .Eq b = false) :
    PT X (.Compare a [.Eq] [b] pos) (embT X.K W (dTst (dEqC false C nm sp ta tb))) :=
  PT.weak (pt_cmpR (op_eqOwn X.K rfl d (F.raw hb .nil) hr passLN) ha hc hm) fun σ H Q h => eqC_w S (tst_emb h)
theorem fe_neC (N : NeOf X.K C) (S : ∀ T ∈ bTys, PySem.W.subIn X.K (.type T) (.ref C) = some false) (d : Dun X.K C "__eq__" g) (F : FnOk X.prog X.w X.K X.mg X.base (L2N.CX X.prog X.w) k g fd ps (lift X.K 2 sp)) (hr : Room (k + 1) X.A) (hb : L2.Binds X.K fd ps []) (ha : PE X a (emb X.K W ta)) (hc : PE X b (emb X.K W tb)) (hm : behindInMarks .NotEq b = false) :
    PE X (.Compare a [.NotEq] [b] pos) (emb X.K W (dEqC true C nm sp ta tb)) :=
  PE.weak (pe_cmpR (op_neOwn X.K rfl N d (F.raw hb .nil) hr passLN) ha hc hm) fun σ H Q h => neC_w S h
theorem ft_neC (N : NeOf X.K C) (S : ∀ T ∈ bTys, PySem.W.subIn X.K (.type T) (.ref C) = some false) (d : Dun X.K C "__eq__" g) (F : FnOk X.prog X.w X.K X.mg X.base (L2N.CX X.prog X.w) k g fd ps (lift X.K 2 sp)) (hr : Room (k + 1) X.A) (hb : L2.Binds X.K fd ps []) (ha : PE X a (emb X.K W ta)) (hc : PE X b (emb X.K W tb)) (hm : behindInMarks .NotEq b = false) :
    PT X (.Compare a [.NotEq] [b] pos) (embT X.K W (dTst (dEqC true C nm sp ta tb))) :=
  PT.weak (pt_cmpR (op_neOwn X.K rfl N d (F.raw hb .nil) hr passLN) ha hc hm) fun σ H Q h => neC_w S (tst_emb h)
/-! x in own, x not in own -/
def opIn (neg : Bool) : CmpOp := match neg with
  | true => .NotIn
  | false => .In
def rInOwn (neg : Bool) (C : Addr) (sp : Sp) (E : XK) : R2 := fun x y H Q => ∃ b dy gs, y = .ref b ∧ H b = some (.ins C dy gs) ∧ sp [y, x] H (fun v H' => ∃ k, v = .bl k ∧ Q (.bl (notIf neg k)) H') E
theorem op_inOwn {neg : Bool} {sp : Sp} {CX : CXT} {E : XK} (K : PySem.W.Frag) (hK : X.K = K) (d : Dun K C "__contains__" g) (F : FnR X.prog X.w K X.mg X.base CX n g sp) (hr : Room n X.A) (hx : Passes CX X E) : OpR X (compareOp (opIn neg)) (rInOwn neg C sp E) := by
  subst hK
  intro pins s σ H x y v u Q J rx ry h
  obtain ⟨b, dy, gs, rfl, eb, q⟩ := h
  cases (show u = Value.ref b from ry)
  obtain ⟨ox, od, JJ⟩ := look_ins J eb
  obtain ⟨m, hF⟩ := J.fr
  have call : wpAny (model X.prog X.w) X.A (PySem.call (.ref g) [.ref b, v]) (fun r s' => wpAny (model X.prog X.w) X.A (truthy r) (fun k => EP X pins σ Q (.bool (notIf neg k))) X.xe s') X.xe s := by
    refine wpAny_mono (wpAny_call (run_fnR (us := [.ref b, v]) (vs := [.ref b, x]) F hr hx J (.cons rfl (.cons rx .nil)) q)) (fun w s' z => ?_) fun _ _ x => x
    obtain ⟨z', H', J', rz, k, rfl, qz⟩ := z
    cases (show w = Value.bool k from rz)
    exact wpAny_truthy_bool ⟨.bl (notIf neg k), H', J', rfl, qz⟩
  cases neg with
  | true => exact PySem.W.notIn_K hF J.ok.mod.kin JJ d.at_ d.fn call
  | false => exact PySem.W.in_K hF J.ok.mod.kin JJ d.at_ d.fn call
def dInC (neg : Bool) (C : Addr) (nm : List Str) (sp : DSp) (ta tb : DE) : DE := fun fr Q Er => ta fr (fun a fr1 => tb fr1 (fun b fr2 => wd b.frz fr2 fun y => insB C nm y (callT 2 sp [] [] [b.frz, a.frz] fr2 (fun rv fr3 => tstB rv fun b => Q (.sh (.bl (notIf neg b))) fr3) nE)) Er) Er
theorem inC_w {neg : Bool} {K : PySem.W.Frag} {σ : L2.St} {H : Hp} {Q : VK} (h : emb K W (dInC neg C nm sp ta tb) σ H Q) :
    emb K W ta σ H fun x H1 => emb K W tb σ H1 fun y H2 => rInOwn neg C (fun vs H Q E => lift K 2 sp (vs ++ []) H Q E) E0 x y H2 Q := by
  obtain ⟨B, ps, I, fr, Q', Er, r0, q, kq, ke⟩ := h
  refine ⟨B, ps, I, fr, _, Er, r0, q, fun v H1 J1 a fr1 e1 r1 o1 q1 => ?_, ke⟩
  obtain ⟨J2, e2, r2, o2⟩ := frz_of r1 o1
  refine ⟨B, ps, J2, fr1, _, Er, r2, q1, fun u H2 J3 b fr2 e3 r3 o3 q3 => ?_, ke.ext (e1.trans e2)⟩
  obtain ⟨J4, e4, r4, o4⟩ := frz_of r3 o3
  have o5 := o2.mono (e3.1.trans e4.1)
  obtain ⟨q4, p, dx, fs, l, rfl, e5, _⟩ := insB_of r4 o4 q3
  have eA := e1.trans (e2.trans (e3.trans e4))
  refine ⟨p, dx, fs, rfl, e5, callT_emb (W := W0) (dvs := []) (fun _ => .nil) r4 (.cons o4 (.cons o5 .nil)) q4 (fun v H' J rv fr' e r' o' q' => ?_) nEK⟩
  obtain ⟨k, rfl, q7⟩ := tstB_of o' q'
  exact ⟨k, rfl, kq _ _ J (.sh (.bl _)) _ (eA.trans e) r' (R.bl _) q7⟩
theorem fe_inC {neg : Bool} (d : Dun X.K C "__contains__" g) (F : FnOk X.prog X.w X.K X.mg X.base (L2N.CX X.prog X.w) k g fd ps (lift X.K 2 sp)) (hr : Room k X.A) (hb : L2.Binds X.K fd ps []) (ha : PE X a (emb X.K W ta)) (hc : PE X b (emb X.K W tb)) (hm : behindInMarks (opIn neg) b = false) :
    PE X (.Compare a [opIn neg] [b] pos) (emb X.K W (dInC neg C nm sp ta tb)) :=
  PE.weak (pe_cmpR (op_inOwn X.K rfl d (F.raw hb .nil) hr passLN) ha hc hm) fun σ H Q h => inC_w h
theorem ft_inC {neg : Bool} (d : Dun X.K C "__contains__" g) (F : FnOk X.prog X.w X.K X.mg X.base (L2N.CX X.prog X.w) k g fd ps (lift X.K 2 sp)) (hr : Room k X.A) (hb : L2.Binds X.K fd ps []) (ha : PE X a (emb X.K W ta)) (hc : PE X b (emb X.K W tb)) (hm : behindInMarks (opIn neg) b = false) :
    PT X (.Compare a [opIn neg] [b] pos) (embT X.K W (dTst (dInC neg C nm sp ta tb))) :=
  PT.weak (pt_cmpR (op_inOwn X.K rfl d (F.raw hb .nil) hr passLN) ha hc hm) fun σ H Q h => inC_w (tst_emb h)
end
/-! isinstance with an own class -/
structure IsC (K : PySem.W.Frag) (C : Addr) : Prop where
  me : C8.InsC K C
  no : ∀ T ∈ bTys, PySem.W.kitOne K (.type T) (.ref C) = some false
def isiC (C : Addr) (d : D) (k : Rv → Prop) : Prop := match d with
  | .ins C' _ _ => C' = C ∧ k (.sh (.bl true))
  | .scr _ => False
  | .ktp _ => False
  | .cl _ => False
  | _ => k (.sh (.bl false))
section
variable {X : Cx} {W : WX} {p p2 pos : Pos} {e : Expr} {te : DE} {C : Addr} {x : Str}
theorem fe_isiC (T : IsC X.K C) (hx : Gl X x) (hmx : X.mg x = some (.ref C)) (hg : Gl X "isinstance") (hm : X.mg "isinstance" = none) (he : PE X e (emb X.K W te)) (hdb : (x == ("__debug__" : Str)) = false := by decide)
    (hs : starEach [e, .Name x p2] X.env = (false, eval e X.env) :: starEach [.Name x p2] X.env := by rfl) (hs2 : starEach [.Name x p2] X.env = (false, eval (.Name x p2) X.env) :: starEach [] X.env := by rfl) (hpl : (backTo pos (starEach [.Name x p2] X.env)).any (·.1) = false := by rfl) :
    PE X (.Call (.Name "isinstance" p) [e, .Name x p2] [] pos) (emb X.K W (dOne (isiC C) te)) :=
  PE.weak (pe_callB call_isi hg hm (by decide +kernel) (pa_cons he (pa_cons (pe_glob hx hmx (show RelV (.ref C) (.ref C) from rfl) hdb) pa_nil hs2) hs) (by decide) (by decide) hs hpl) fun σ H Q h =>
    one_emb (r := fun x H1 Q => rIsi X.K [x, .ref C] H1 Q) (fun B ps I σ H fr x dx Q k r rx h kq => by
      have fin : ∀ U : String, U ∈ bTys → TyX X.K H x (.type U) → k (.sh (.bl false)) → rIsi X.K [x, .ref C] H Q := fun U hU ty q =>
        ⟨x, .ref C, _, _, _, rfl, .own C, ty, T.no U hU, kq _ _ I (.sh (.bl _)) (Ext.refl _ _) r (R.bl _) q⟩
      cases dx with
      | scr _ => exact (show False from h).elim
      | ktp _ => exact (show False from h).elim
      | cl _ => exact (show False from h).elim
      | ins C' ns ds =>
        obtain ⟨rfl, h2⟩ := (show C' = C ∧ k (.sh (.bl true)) from h)
        obtain ⟨p', dx, fs, rfl, e, _⟩ := rx.ins r.same
        exact ⟨_, .ref C', _, _, _, rfl, .own C', .base (.ins e T.me.cl T.me.ha T.me.hn T.me.htk T.me.hm), kit_refl, kq _ _ I (.sh (.bl _)) (Ext.refl _ _) r (R.bl _) h2⟩
      | non => exact fin _ (by decide) (rx.tyX r.same (T := "NoneType") rfl (fun _ z => nomatch z)) h
      | bl b => exact fin _ (by decide) (rx.tyX r.same (T := "bool") rfl (fun _ z => nomatch z)) h
      | int i => exact fin _ (by decide) (rx.tyX r.same (T := "int") rfl (fun _ z => nomatch z)) h
      | str a => exact fin _ (by decide) (rx.tyX r.same (T := "str") rfl (fun _ z => nomatch z)) h
      | lst z xs => exact fin _ (by decide) (rx.tyX r.same (T := "list") rfl (fun _ z => nomatch z)) h
      | tup xs => exact fin _ (by decide) (rx.tyX r.same (T := "tuple") rfl (fun _ z => nomatch z)) h
      | dic ks vs => exact fin _ (by decide) (rx.tyX r.same (T := "dict") rfl (fun _ z => nomatch z)) h) h
end
end Dl
namespace Dl
open PySem PySem.Spec PyProof PyProof.Rows L2 Vx HotX L2H
/-! try: .. except X as e: .. -/
theorem Rep.setEx {K : PySem.W.Frag} {B I H : Hp} {ps : List Addr} {σ : L2.St} {fr : Fr} (r : Rep K B ps I σ H fr) {i : Nat} {a : Addr} : Rep K B ps I (σ.set i (some (.ref a))) H { fr with sl := fr.sl.set i (some (.ex a)) } where
  same := r.same
  keep := r.keep
  nd := r.nd
  plen := r.plen
  par := r.par
  pout := r.pout
  slen := by simpa using r.slen
  slot := fun j sv e => by
    by_cases hj : j = i
    · subst hj
      have hl : j < fr.sl.length := by
        have := (List.getElem?_eq_some_iff.mp e).1
        simpa using this
      rw [List.getElem?_set_self hl] at e
      cases e
      exact ⟨.ref a, by rw [List.getElem?_set_self (by rw [← r.slen]; exact hl)], rfl⟩
    · rw [List.getElem?_set_ne (Ne.symm hj)] at e ⊢
      exact r.slot j sv e
  own := fun x y p d e n h1 h2 h3 => by
    by_cases hx : x = i
    · subst hx
      have hl : x < fr.sl.length := by
        have := (List.getElem?_eq_some_iff.mp h1).1
        simpa using this
      rw [List.getElem?_set_self hl] at h1; cases h1
    · by_cases hy : y = i
      · subst hy
        have hl : y < fr.sl.length := by
          have := (List.getElem?_eq_some_iff.mp h2).1
          simpa using this
        rw [List.getElem?_set_self hl] at h2; cases h2
      · rw [List.getElem?_set_ne (Ne.symm hx)] at h1 h3
        rw [List.getElem?_set_ne (Ne.symm hy)] at h2 ⊢
        exact r.own x y p d e n h1 h2 h3
theorem Rep.setNo {K : PySem.W.Frag} {B I H : Hp} {ps : List Addr} {σ : L2.St} {fr : Fr} (r : Rep K B ps I σ H fr) (i : Nat) (o : Option V) : Rep K B ps I (σ.set i o) H { fr with sl := fr.sl.set i none } := by
  refine r.forget (by simp [r.slen]) fun j sv h => ?_
  by_cases hj : j = i
  · subst hj
    have hl : j < fr.sl.length := by
      have := (List.getElem?_eq_some_iff.mp h).1
      simpa using this
    rw [List.getElem?_set_self hl] at h; cases h
  · rw [List.getElem?_set_ne (Ne.symm hj)] at h
    exact .inl ⟨h, by rw [List.getElem?_set_ne (Ne.symm hj)]⟩
def exF (i a : Nat) (fr : Fr) : Fr := { fr with sl := fr.sl.set i (some (.ex a)) }
def noF (i : Nat) (fr : Fr) : Fr := { fr with sl := fr.sl.set i none }
def endsNo (i : Nat) (Dn : DEnds) : DEnds := { nx := fun fr => Dn.nx (noF i fr), rt := Dn.rt, bk := fun fr => Dn.bk (noF i fr), ct := fun fr => Dn.ct (noF i fr) }
/-- the classes caught; the suite's reading for the exception at a, of class C; no field -/
def dTryAs (i : Nat) (cs : List Addr) (t : DS) (h : Addr → Addr → DS) : DS := fun Dn Er fr => t Dn (fun C d fr' => C ∈ cs ∧ d = noFld ∧ ∀ a, nfF (exF i a fr') fun f => h a C (endsNo i Dn) nE f) fr
theorem pss_ask {X : Cx} {p : Prop} {t : TS} {st : List Stmt} (h : p → PSs X st t) : PSs X st (fun D σ H => p ∧ t D σ H) := ⟨fun pins s σ H D I q => (h q.1).run pins s σ H D I q.2⟩
theorem pss_some {X : Cx} {ι : Sort _} {t : ι → TS} {st : List Stmt} (h : ∀ i, PSs X st (t i)) : PSs X st (fun D σ H => ∃ i, t i D σ H) := ⟨fun pins s σ H D I ⟨i, q⟩ => (h i).run pins s σ H D I q⟩
section
variable {X : Cx} {W : WX} {x n : Str} {c : Addr} {i : Nat} {body suite : List Stmt} {b₀ : Stmt} {np pos pos' : Pos} {t : DS} {h : Addr → Addr → DS} {cs : List Addr}
theorem fs_tryAs (hs : X.stack = X.env :: X.outer) (hf : X.env.frame = some X.env.locals) (hN : X.N.Nodup) (hi : X.N[i]? = some n) (hln : X.env.kindOf n = some .local) (hg : Gl X x) (hm : X.mg x = some (.ref c)) (hcs : ∀ C ∈ cs, PySem.W.exmOne X.K (.ref C) (.ref c) = some true)
    (hb : ∀ (W : WX) (pn : List (Addr × Obj)) (xe : Value → Shared → Prop), L2N.Takes (X.tr pn xe) W → PSs (X.tr pn xe) body (embS X.K W t))
    (hsu : ∀ (a : Addr) (oe : Obj) (C : Addr) (pn : List (Addr × Obj)), C ∈ cs → L2N.Zn (.ref C) none oe → (∃ vs, oe.data = .fields vs) → PSs (X.suite a ((a, oe) :: pn)) (b₀ :: suite) (embS X.K W0 (h a C)))
    (hdb : (x == ("__debug__" : Str)) = false := by decide) :
    PS X (.Try body [.ExceptHandler (some (.Name x np)) (some n) (b₀ :: suite) pos'] [] [] pos) (embS X.K W (dTryAs i cs t h)) := by
  refine PS.weak (L2N.ps_try_as (Wout := fun _ _ _ _ => False) (ts := fun a cls d => fun D σ H => ∃ C : Addr, (cls = .ref C ∧ d = none ∧ C ∈ cs) ∧ embS X.K W0 (h a C) D σ H) hs hf hN hi hln ⟨hg, hdb, .inl hm⟩ takes0N (fun W pn xe tk _ => hb W pn xe tk) fun a oe cls d pn hz hfi => ?_) fun D σ H hyp => ?_
  · refine pss_some fun C => pss_ask fun ⟨h1, h2, h3⟩ => ?_
    subst h1 h2
    exact hsu a oe C pn h3 hz hfi
  · obtain ⟨B, ps, I, fr, Dn, Er, r, q, kd, ke⟩ := hyp
    refine ⟨B, ps, I, fr, Dn, _, r, q, kd, fun σ' C d dx H' J fr' e r' eo q' => ?_⟩
    obtain ⟨hC, hd, q'⟩ := q'
    subst hd
    have hdx : dx = none := by
      cases dx with
      | none => rfl
      | some b =>
        obtain ⟨n, v, h1, h2, h3⟩ := eo
        exact absurd rfl (h3 0)
    subst hdx
    refine ⟨true, hcs C hC, fun _ a ha => ⟨C, ⟨rfl, rfl, hC⟩, B, ps, J, exF i a fr', endsNo i Dn, nE, r'.setEx, (nfF_eq _ _).mp (q' a), ⟨fun σ2 H2 J2 fr2 e2 r2 q2 => kd.nx _ _ _ _ (e.trans e2) (r2.setNo i none) q2, fun v σ2 H2 J2 rv fr2 e2 r2 o2 q2 => kd.rt _ _ _ _ _ _ (e.trans e2) r2 o2 q2, fun σ2 H2 J2 fr2 e2 r2 q2 => kd.bk _ _ _ _ (e.trans e2) (r2.setNo i none) q2, fun σ2 H2 J2 fr2 e2 r2 q2 => kd.ct _ _ _ _ (e.trans e2) (r2.setNo i none) q2⟩, nEKs⟩, fun z => nomatch z⟩
/-! what the suite says: _law_kind(e) -/
def dKind (i a : Nat) (C : Addr) (kinds : List (Addr × List Nat)) : DE := fun fr Q _ => fr.sl[i]? = some (some (.ex a)) ∧ ∃ nm, (C, nm) ∈ kinds ∧ Q (.sh (.str nm)) fr
def spKindD (a : Addr) (nm : List Nat) : Sp := fun vs H Q _ => vs = [.ref a] ∧ ∀ H' : Hp, Same H H' → Q (.str (S nm)) H'
theorem fe_kind {f : Addr} {fd : FuncData} {k : Nat} {fn e : Str} {q pos pe : Pos} {a C : Addr} {oe : Obj} {pn : List (Addr × Obj)} {kinds : List (Addr × List Nat)}
    (G : ∀ (nm : List Nat) (p : Addr × Obj), (C, nm) ∈ kinds → Zc (.ref C) none p.2 → (∃ vs, p.2.data = .fields vs) → FnP X.prog X.w X.K X.mg X.base 1 f fd ["e"] (spKindD p.1 nm) p)
    (hz : L2N.Zn (.ref C) none oe) (hf : ∃ vs, oe.data = .fields vs) (hr : Room (k + 1) X.A) (hm : X.mg fn = some (.ref f)) (hk : PySem.W.keepIn X.K (.ref f) = true) (hb : L2.Binds X.K fd ["e"] [])
    (hv : PE (X.suite a ((a, oe) :: pn)) (.Name e pe) (tVar i)) (hg : Gl X fn := by rfl) (hdb : (fn == ("__debug__" : Str)) = false := by decide)
    (hs : starEach [Expr.Name e pe] (X.suite a ((a, oe) :: pn)).env = (false, eval (.Name e pe) (X.suite a ((a, oe) :: pn)).env) :: starEach [] (X.suite a ((a, oe) :: pn)).env := by rfl) (hpl : (backTo pos (starEach [] (X.suite a ((a, oe) :: pn)).env)).any (·.1) = false := by rfl) :
    PE (X.suite a ((a, oe) :: pn)) (.Call (.Name fn q) [.Name e pe] [] pos) (emb X.K W (dKind i a C kinds)) := by
  refine ⟨fun pins s σ H Q J hyp => ?_⟩
  obtain ⟨B, ps, I, fr, Q', Er, r, ⟨hs1, nm, hk2, q2⟩, kq, ke⟩ := hyp
  obtain ⟨v, e1, ev⟩ := r.slot i _ hs1
  obtain rfl : v = .ref a := ev
  refine (pe_callP (X := X.suite a ((a, oe) :: pn)) (G nm (a, oe) hk2 hz.zc hf) ⟨Nat.lt_of_le_of_lt (show X.A.depth + 3 * 1 + 5 ≤ X.A.depth + 3 * (k + 1) + 5 by omega) hr.dp, Nat.lt_of_le_of_lt (show X.A.units + 16 * 1 + 200 ≤ X.A.units + 16 * (k + 1) + 200 by omega) hr.un⟩ (hot_suite hz hf) (List.mem_cons_self) hg hm hk hb (pa_cons hv pa_nil hs) hdb hs hpl).run pins s σ H Q J ?_
  refine ⟨.ref a, e1, ?_⟩
  exact ⟨rfl, fun H' sm => kq (.str (S nm)) H' I (.sh (.str nm)) fr (Ext.refl _ _) (r.heap sm) (R.str nm) q2⟩
end
end Dl
namespace Dl
open PySem PySem.Spec PyProof.Rows L2 Vx
/-! {k: v} -/
def keyR (rv : Rv) (k : D → Prop) : Prop := match rv with
  | .sh (.str a) => k (.str a)
  | .sh (.int i) => k (.int i)
  | _ => False
theorem keyR_of {K : PySem.W.Frag} {B J H : Hp} {ps : List Addr} {σ : L2.St} {fr : Fr} {v : V} {rv : Rv} {k : D → Prop} (o : RvOk K B ps J σ H fr v rv) (q : keyR rv k) : ∃ (y : Key) (d : D), v = kV y ∧ k d ∧ ∀ I, R K I v d := by
  cases rv with
  | sh d =>
    cases d <;> first | exact (show False from q).elim | skip
    · rename_i i
      cases (show R K J v (.int _) from o)
      exact ⟨.inl i, .int i, rfl, q, fun I => .int i⟩
    · rename_i a
      cases (show R K J v (.str _) from o)
      exact ⟨.inr (S a), .str a, rfl, q, fun I => .str a⟩
  | _ => exact (show False from q).elim
def dDisp1 (tk tv : DE) : DE := fun fr Q Er => tk fr (fun rk fr1 => keyR rk fun kd => tv fr1 (fun rv fr2 => shr rv fr2 fun d fr3 => Q (.tm (.dic [kd] [d])) fr3) Er) Er
section
variable {X : Cx} {W : WX} {pos : Pos} {k v : Expr} {tk tv : DE}
theorem fe_disp1 (hk : PE X k (emb X.K W tk)) (hv : PE X v (emb X.K W tv)) : PE X (.Dict [some k] [v] pos) (emb X.K W (dDisp1 tk tv)) :=
  PE.weak (pe_disp (pps_cons hk hv pps_nil) (by rfl) (by rfl) (fun z => by cases z) (by rw [List.length_singleton]; decide)) fun σ H Q h p hp => by
    obtain ⟨B, ps, I, fr, Q', Er, r, q, kq, ke⟩ := h
    obtain ⟨fB, fI, fp, fa⟩ := r.fresh hp
    have r0 : Rep X.K (upd B p (.dK [])) ps I σ (upd H p (.dK [])) fr := (r.new hp).hold upd_same fa
    refine ⟨upd B p (.dK []), ps, I, fr, _, Er, r0, q, fun x H1 J1 rk fr1 e1 r1 o1 q1 => ?_, ke.held fB⟩
    obtain ⟨y, kd, rfl, q2, rk0⟩ := keyR_of o1 q1
    refine ⟨upd B p (.dK []), ps, J1, fr1, _, Er, r1, q2, fun u H2 J2 rv fr2 e2 r2 o2 q3 => ?_, (ke.held fB).ext e1⟩
    obtain ⟨d, fr3, J3, q4, e3, r3, h3⟩ := shr_rv r2 o2 q3
    have hh := r3.held fp
    have eI : J3 p = none := (e1.trans (e2.trans e3)).heldI fI
    refine ⟨hh.1, [(y, u)], rfl, by rw [List.length_singleton]; decide, ?_⟩
    have r4 := r3.poke (o' := .dK (mergeK [] [(y, u)])) fp fB eI
    exact kq (.ref p) _ J3 (.tm (.dic [kd] [d])) fr3 ((e1.trans (e2.trans e3)).unhold fB) r4 ⟨p, rfl, fB, eI, fp, hh.2, _, upd_same, .cons (rk0 _) .nil, .cons h3 .nil⟩ q4
end
end Dl
namespace Dl
open PySem PySem.Spec PyProof.Rows L2 Vx
/-! a def with default values -/
theorem fnOD {P : Program} {w : World} {K : PySem.W.Frag} {mg : Str → Option Value} {base : Heap} {x qual : Str} {params : Arguments} {body : List Stmt} {scope : Scope} {dvs : List V} {kws : List (Str × V)} {f : Addr} {fd : FuncData} {N ps : List Str} {k : Nat} {t : DS} (F : FunD K x qual params body scope dvs kws f fd) (S : FnScope N ps scope) (hn : ps.length ≤ N.length)
    (walk : ∀ (cdv : Value) (A : Around) (outer : List Env) (s : Shared) (H : Hp) (E : XK), Room k (A.deeper (envOfC qual scope s.heap.objs.size f cdv)) →
      L2N.Takes (cxOf (L2N.CX P w) P w K mg base N qual scope f cdv A outer s H E) (fun cls d _ H => E cls d H) → PSs (cxOf (L2N.CX P w) P w K mg base N qual scope f cdv A outer s H E) body (embS K (fun cls d _ H => E cls d H) t)) :
    FnOk P w K mg base (L2N.CX P w) (k + 1) f fd ps (lift K ps.length (spB N.length t)) := by
  obtain ⟨oc, od, dV, kV, doc, pm, an, cdv, ct, osl, rfl, found, code, _, _⟩ := F.ex
  refine fn_of found code S (fun vs H Q E h => ?_) fun A outer s H vs Q E hr asked => ?_
  · obtain ⟨I, qs, ags, Q', Er', s, nd, po, a, hl, _⟩ := h
    rw [a.len.1, hl]
  · obtain ⟨I, qs, ags, Q', Er', sm, nd, po, a, hl, h, kq, ke⟩ := asked
    refine ⟨_, walk cdv A outer s H E hr (L2N.takes_of rfl rfl rfl rfl), H, qs, I, startF N.length ags, _, _, start_rep sm nd po a (by rw [hl]; exact hn), (nfF_eq (startF N.length ags) _).mp h, ⟨fun σ' H' J fr' e r q => ?_, fun v σ' H' J rv fr' e r o q => ?_, fun _ _ _ _ _ _ q => q.elim, fun _ _ _ _ _ _ q => q.elim⟩, fun σ C d dx H' J fr' e r o q => ?_⟩
    · exact kq _ _ _ (.sh .non) _ (r.toBack e) R.non q
    · cases rv with
      | sh d => exact kq _ _ _ (.sh d) _ (r.toBack e) o q
      | tm d =>
        obtain ⟨p, rfl, b, c, n, _, rt⟩ := o
        exact kq _ _ _ (.tm d) _ (r.toBack e) ⟨p, rfl, b, c, n, rt⟩ q
      | pa j => exact kq _ _ _ (.pa j) _ (r.toBack e) o q
      | pl i =>
        obtain ⟨o1, d, o2⟩ := o
        have q' : (match fr'.sl[i]? with | some (some (.ow d)) => Q' (.tm d) fr'.ps | _ => False) := q
        rw [o2] at q'
        obtain ⟨v', e1, p, e2, b, c, n, rt⟩ := r.slot i _ o2
        rw [o1] at e1; cases e1
        exact kq _ _ _ (.tm d) _ (r.toBack e) ⟨p, e2, b, c, n, rt⟩ q'
    · exact ke C d dx H' J _ (r.toBack e) o q
/-! isinstance of built-in classes -/
theorem binds_full1 {K : PySem.W.Frag} {x qual : Str} {params : Arguments} {body : List Stmt} {scope : Scope} {d : V} {f : Addr} {fd : FuncData} {ps : List Str} (F : FunD K x qual params body scope [d] [] f fd) (n : Nat) (hn : n = ps.length)
    (h : ∀ (T : Addr) (kV doc pm : Value) (an : Option Addr) (cdv ct : Value) (us its : List Value), us.length = n → its.length = 1 → ∃ k, bindArgs (PySem.W.fnOf x qual params body scope (.ref T) kV doc pm an cdv ct) ⟨us, []⟩ = seqItems? (.ref T) >>= k ∧ k (some its.toArray) = pure (ps.zip (us ++ its.drop 1))) : L2.Binds K fd ps [] := by
  obtain ⟨ds, vd, b⟩ := F.binds1 n 1 (by simp) (by simpa using hn) h
  have vd2 : Vals [] ds := vd
  cases vd2
  exact b
end Dl
namespace Dl
open PySem PySem.Spec PyProof.Rows L2 Vx
/-! a value of a built-in class == an own class's object -/
def blB (d : D) (P : Prop) : Prop := match d with
  | .ins _ _ _ => False
  | .scr _ => False
  | .ktp _ => False
  | .cl _ => False
  | _ => P
theorem blB_of {K : PySem.W.Frag} {I H : Hp} {v : V} {d : D} {P : Prop} (s : Same I H) (h : RH K I H v d) (q : blB d P) : P ∧ BlV H v := by
  cases d with
  | ins C' ns ds => exact (show False from q).elim
  | scr _ => exact (show False from q).elim
  | ktp _ => exact (show False from q).elim
  | cl _ => exact (show False from q).elim
  | non => exact ⟨q, .inl h.non⟩
  | bl b => exact ⟨q, .inr (.inl ⟨b, h.bl⟩)⟩
  | int i => exact ⟨q, .inr (.inr (.inl ⟨i, h.int⟩))⟩
  | str a => exact ⟨q, .inr (.inr (.inr (.inl ⟨S a, h.str⟩)))⟩
  | lst z xs =>
    obtain ⟨p, vs, rfl, e, _⟩ := h.lst s
    exact ⟨q, .inr (.inr (.inr (.inr ⟨p, rfl, .inl ⟨vs, e⟩⟩)))⟩
  | tup xs =>
    obtain ⟨p, vs, rfl, e, _⟩ := h.tupH s
    exact ⟨q, .inr (.inr (.inr (.inr ⟨p, rfl, .inr (.inl ⟨vs, e⟩)⟩)))⟩
  | dic ks vs =>
    obtain ⟨p, kvs, rfl, e, _⟩ := h.dic s
    exact ⟨q, .inr (.inr (.inr (.inr ⟨p, rfl, .inr (.inr ⟨kvs, e⟩)⟩)))⟩
section
variable {X : Cx} {W : WX} {a b : Expr} {ta tb : DE} {C g : Addr} {nm : List Str} {pos : Pos} {k : Nat} {fd : FuncData} {ps : List Str} {sp : DSp}
def dEqRef (C : Addr) (nm : List Str) (sp : DSp) (ta tb : DE) : DE := fun fr Q Er => ta fr (fun a fr1 => tb fr1 (fun b fr2 => wd b.frz fr2 fun y => insB C nm y (wd a.frz fr2 fun x => blB x (callT 2 sp [] [] [b.frz, a.frz] fr2 (fun rv fr3 => tstB rv fun k => Q (.sh (.bl k)) fr3) nE))) Er) Er
theorem eqRef_w {K : PySem.W.Frag} {σ : L2.St} {H : Hp} {Q : VK} (h : emb K W (dEqRef C nm sp ta tb) σ H Q) :
    emb K W ta σ H fun x H1 => emb K W tb σ H1 fun y H2 => rEqRef K C (fun vs H Q E => lift K 2 sp (vs ++ []) H Q E) E0 x y H2 Q := by
  obtain ⟨B, ps, I, fr, Q', Er, r0, q, kq, ke⟩ := h
  refine ⟨B, ps, I, fr, _, Er, r0, q, fun v H1 J1 a fr1 e1 r1 o1 q1 => ?_, ke⟩
  obtain ⟨J2, e2, r2, o2⟩ := frz_of r1 o1
  refine ⟨B, ps, J2, fr1, _, Er, r2, q1, fun u H2 J3 b fr2 e3 r3 o3 q3 => ?_, ke.ext (e1.trans e2)⟩
  obtain ⟨J4, e4, r4, o4⟩ := frz_of r3 o3
  have o5 := o2.mono (e3.1.trans e4.1)
  obtain ⟨q4, p, dx, fs, l, rfl, e5, _⟩ := insB_of r4 o4 q3
  obtain ⟨y, q5, ry⟩ := o5.wd r4 q4
  obtain ⟨q6, hy⟩ := blB_of r4.same ry q5
  have eA := e1.trans (e2.trans (e3.trans e4))
  refine ⟨p, dx, fs, rfl, e5, hy, callT_emb (W := W0) (dvs := []) (fun _ => .nil) r4 (.cons o4 (.cons o5 .nil)) q6 (fun v H' J rv fr' e r' o' q' => ?_) nEK⟩
  obtain ⟨k, rfl, q7⟩ := tstB_of o' q'
  exact kq _ _ J (.sh (.bl _)) _ (eA.trans e) r' (R.bl _) q7
theorem fe_eqRef (U : ∀ T ∈ uTys, PySem.W.subIn X.K (.ref C) (.type T) = some false) (d : Dun X.K C "__eq__" g) (F : FnOk X.prog X.w X.K X.mg X.base (L2N.CX X.prog X.w) k g fd ps (lift X.K 2 sp)) (hr : Room k X.A) (hb : L2.Binds X.K fd ps []) (ha : PE X a (emb X.K W ta)) (hc : PE X b (emb X.K W tb)) (hm : behindInMarks .Eq b = false) :
    PE X (.Compare a [.Eq] [b] pos) (emb X.K W (dEqRef C nm sp ta tb)) :=
  PE.weak (pe_cmpR (op_eqRef X.K rfl U d (F.raw hb .nil) hr passLN) ha hc hm) fun σ H Q h => eqRef_w h
theorem ft_eqRef (U : ∀ T ∈ uTys, PySem.W.subIn X.K (.ref C) (.type T) = some false) (d : Dun X.K C "__eq__" g) (F : FnOk X.prog X.w X.K X.mg X.base (L2N.CX X.prog X.w) k g fd ps (lift X.K 2 sp)) (hr : Room k X.A) (hb : L2.Binds X.K fd ps []) (ha : PE X a (emb X.K W ta)) (hc : PE X b (emb X.K W tb)) (hm : behindInMarks .Eq b = false) :
    PT X (.Compare a [.Eq] [b] pos) (embT X.K W (dTst (dEqRef C nm sp ta tb))) :=
  PT.weak (pt_cmpR (op_eqRef X.K rfl U d (F.raw hb .nil) hr passLN) ha hc hm) fun σ H Q h => eqRef_w (tst_emb h)
end
theorem opd_isnB {K : PySem.W.Frag} : OpD K (isBD true) (fun x y H Q => ∃ a b, x = .bl a ∧ y = .bl b ∧ Q (.bl (!decide (a = b))) H) := by
  intro B ps I σ H fr x y dx dy Q k r rx ry h kq
  cases dx <;> cases dy <;> first | exact h.elim | skip
  exact ⟨_, _, rx.bl, ry.bl, kq _ _ I (.sh (.bl _)) (Ext.refl _ _) r (R.bl _) h⟩
/-! isinstance of a built-in class, asked of an own class's object too -/
def isiBC (c : String) (C : Addr) (d : D) (k : Rv → Prop) : Prop := match d with
  | .ins C' _ _ => C' = C ∧ k (.sh (.bl false))
  | d => isiD c d k
section
variable {X : Cx} {W : WX} {p p2 p3 pos : Pos} {e : Expr} {te : DE} {c : String} {C : Addr}
theorem fe_isiB (T : IsC X.K C) (ko : PySem.W.kitOne X.K (.ref C) (.type c) = some false) (hc : c ∈ builtinC) (hg : Gl X "isinstance") (hm : X.mg "isinstance" = none) (he : PE X e (emb X.K W te)) {cx : Expr} (hcx : PE X cx (tC (.ty c)))
    (hs : starEach [e, cx] X.env = (false, eval e X.env) :: starEach [cx] X.env := by rfl) (hs2 : starEach [cx] X.env = (false, eval cx X.env) :: starEach [] X.env := by rfl) (hpl : (backTo pos (starEach [cx] X.env)).any (·.1) = false := by rfl) :
    PE X (.Call (.Name "isinstance" p) [e, cx] [] pos) (emb X.K W (dOne (isiBC c C) te)) :=
  PE.weak (pe_callB call_isi hg hm (by decide +kernel) (pa_cons he (pa_cons hcx pa_nil hs2) hs) (by decide) (by decide) hs hpl) fun σ H Q h =>
    one_emb (r := fun x H1 Q => rIsi X.K [x, .ty c] H1 Q) (fun B ps I σ H fr x dx Q k r rx h kq => by
      have fin : ∀ T : String, T ∈ ["NoneType", "bool", "int", "str", "list", "tuple", "dict"] → TyX X.K H x (.type T) → k (.sh (.bl (kindB T c))) → rIsi X.K [x, .ty c] H Q := fun T hT ty q =>
        ⟨x, .ty c, _, _, _, rfl, .ty c, ty, kit_ty (kit_all T hT c hc), kq _ _ I (.sh (.bl _)) (Ext.refl _ _) r (R.bl _) q⟩
      cases dx with
      | scr _ => exact (show False from h).elim
      | ktp _ => exact (show False from h).elim
      | cl _ => exact (show False from h).elim
      | ins C' ns ds =>
        obtain ⟨rfl, h2⟩ := (show C' = C ∧ k (.sh (.bl false)) from h)
        obtain ⟨p', dx, fs, rfl, e, _⟩ := rx.ins r.same
        exact ⟨_, .ty c, _, _, _, rfl, .ty c, .base (.ins e T.me.cl T.me.ha T.me.hn T.me.htk T.me.hm), ko, kq _ _ I (.sh (.bl _)) (Ext.refl _ _) r (R.bl _) h2⟩
      | non => exact fin _ (by decide) (rx.tyX r.same (T := "NoneType") rfl (fun _ z => nomatch z)) h
      | bl b => exact fin _ (by decide) (rx.tyX r.same (T := "bool") rfl (fun _ z => nomatch z)) h
      | int i => exact fin _ (by decide) (rx.tyX r.same (T := "int") rfl (fun _ z => nomatch z)) h
      | str a => exact fin _ (by decide) (rx.tyX r.same (T := "str") rfl (fun _ z => nomatch z)) h
      | lst z xs => exact fin _ (by decide) (rx.tyX r.same (T := "list") rfl (fun _ z => nomatch z)) h
      | tup xs => exact fin _ (by decide) (rx.tyX r.same (T := "tuple") rfl (fun _ z => nomatch z)) h
      | dic ks vs => exact fin _ (by decide) (rx.tyX r.same (T := "dict") rfl (fun _ z => nomatch z)) h) h
end
end Dl
namespace Wr
open PySem PySem.Spec PyProof.Rows RT
section
variable {prog : Program} {w : World} {A : Around} {E : Value → Shared → Prop} {s : Shared}
theorem init_rev {R : Result → Shared → Prop} {it l S : Addr} {items : Array Value} (hh : A.handled = none) (hit : s.heap.IsRevIter it l ((items.size : Int) - 1)) (hl : s.heap.IsList l items) (hne : l ≠ it) (hn : items.size ≤ sizeLine) (hSi : S ≠ it) (hSl : S ≠ l)
    (hS : s.heap.get? S = some { cls := .type "list", data := .seq #[] })
    (hR : ∀ h' tk acc c, (∀ b o, b ≠ it → b ≠ S → s.heap.get? b = some o → h'.get? b = some o) → h'.get? S = some { cls := .type "list", dict := none, data := .seq acc c, slots := #[] } → ItemsOf (fun i v => items[items.size - 1 - i]? = some v) acc items.size →
      R (.ok (.ret .none)) { s with heap := h', toks := tk }) :
    wpAny (model prog w) A.in1 (Builtin.«list.__init__» ⟨[.ref S, .ref it], []⟩)
      (fun fin s' => match fin with | .done f => R (.ok f) s' | .again c' => c'.quiet = true ∧ codeAny (model prog w) A c' R s') (fun e s' => R (.error e) s') s := by
  have W := (Walks.listRev (prog := prog) (w := w) (A := A.in1) hh it l hne items).toS
  have hSf : S ∉ [it, l] := by simp only [List.mem_cons, List.not_mem_nil, or_false, not_or]; exact ⟨hSi, hSl⟩
  show wpAny _ _ (do let old ← Builtin.List.listItems (.ref S); Builtin.List.listUpdate (.ref S) (fun _ => #[]); letGo old.toList.reverse; Builtin.List.listExtendWith (.ref S) (.ref it) .none) _ _ s
  refine wpAny_bind ?_
  unfold Builtin.List.listItems
  refine wpAny_bind (wpAny_seqItems hS rfl (wpAny_pure ?_))
  show wpAny _ _ (updateSeq S (fun _ => #[]) >>= fun _ => letGo (#[] : Array Value).toList.reverse >>= fun _ => Builtin.List.listExtendWith (.ref S) (.ref it) .none) _ _ s
  refine wpAny_bind (wpAny_updateSeq hS rfl ?_)
  have hS₂ := Heap.get?_update_self (Obj.mapSeq (fun _ => (#[] : Array Value))) hS rfl
  have oth : ∀ b o, b ≠ S → s.heap.get? b = some o → (s.heap.update S (Obj.mapSeq (fun _ => (#[] : Array Value)))).get? b = some o :=
    fun b o hb e => (Heap.get?_update_other _ _ (Ne.symm hb)).trans e
  refine wpAny_bind (wpAny_letGo ?_)
  generalize hh1 : s.heap.update S (Obj.mapSeq (fun _ => (#[] : Array Value))) = h1 at hS₂ oth ⊢
  have hit1 : h1.IsRevIter it l ((items.size : Int) - 1) := hit.at fun o e => oth _ o (Ne.symm hSi) e
  have hl1 : h1.IsList l items := hl.at fun o e => oth _ o (Ne.symm hSl) e
  have hT : ({ s with heap := h1 } : Shared).TypeIs (.ref it) "list_reverseiterator" := Heap.IsRevIter.typeIs (s := { s with heap := h1 }) hit1
  have hr : Builtin.List.listSameRef (.ref S) (.ref it) = false := by simp [Builtin.List.listSameRef, hSi]
  unfold Builtin.List.listExtendWith
  refine wpAny_bind (wpAny_typeOf hT ?_)
  rw [if_neg (by rw [hr]; decide)]
  refine wpAny_bind (wpAny_pyIter_revIter (s := { s with heap := h1 }) hit1 ?_)
  refine wpAny_bind (wpAny_holding ?_)
  unfold Builtin.List.listLengthHint
  refine wpAny_bind (wpAny_specialOf hT nolen_lri ?_)
  show wpAny _ A.in1 (specialOf (Value.ref it) (Str.ofString "__length_hint__") >>= _) _ _ _
  refine wpAny_bind (wpAny_specialOf hT hint_lri ?_)
  generalize hid : ("list_reverseiterator.__length_hint__" : String) = id0
  wp_delta
  rw [show splitId id0 = some ("list_reverseiterator", "__length_hint__") from by subst hid; decide +kernel]
  subst hid
  refine wpAny_bind (wpAny_isInstance (b := true) hT (by rw [isSubtype_type]; kernel_rfl) ?_)
  refine wpAny_pure ?_
  rw [if_neg (by decide)]
  have e0 : ((items.size : Nat) : Int) - 1 - ((0 : Nat) : Int) = (items.size : Int) - 1 := by omega
  refine wpAny_pure ⟨plainId_quiet F.plain_extend_loop _, codeAny_extend_loopS W hn _ hSf _ items.size 0 _ _ _ rfl (Nat.zero_le _) ⟨Nat.zero_le _, by rw [e0]; exact hit1, hl1⟩ hS₂ (ItemsOf.nil _) fun s' acc' c' hm hS' hacc => ?_⟩
  rw [Moved.eq_with hm]
  refine hR s'.heap s'.toks acc' c' (fun b o hb hb2 e => hm.heap b o (fun hmem => ?_) (oth b o hb2 e)) hS' hacc
  rcases List.mem_cons.mp hmem with e' | hmem
  · exact hb2 e'
  · exact hb (List.mem_singleton.mp hmem)
theorem call_list_rev {it l : Addr} {items : Array Value} {Q : Value → Shared → Prop} (hh : A.handled = none) (hit : s.heap.IsRevIter it l ((items.size : Int) - 1)) (hl : s.heap.IsList l items) (hne : l ≠ it) (hn : items.size ≤ sizeLine)
    (hQ : ∀ h' tk acc c, (∀ b o, b ≠ it → s.heap.get? b = some o → h'.get? b = some o) → h'.get? s.heap.objs.size = some { cls := .type "list", dict := none, data := .seq acc c, slots := #[] } → ItemsOf (fun i v => items[items.size - 1 - i]? = some v) acc items.size →
      Q (.ref s.heap.objs.size) { s with heap := h', toks := tk }) :
    wpAny (model prog w) A (call (.type "list") [.ref it]) Q E s := by
  obtain ⟨oi, hoi, _⟩ := id hit
  obtain ⟨ol, hol, _⟩ := id hl
  refine callType_codes (Q₁ := fun obj s₁ => obj = .ref s.heap.objs.size ∧ s₁ = { s with heap := s.heap.push { cls := .type "list", data := .seq #[] } }) PySem.F.called_list (PySem.F.typeCall_list_1 _) PySem.F.entry_list_init
    (code_list_new _ ⟨rfl, rfl⟩) fun obj s₁ h₁ => ?_
  obtain ⟨rfl, rfl⟩ := h₁
  have hS : (s.heap.push { cls := .type "list", data := .seq #[] }).get? s.heap.objs.size = some { cls := .type "list", data := .seq #[] } := Heap.get?_push_size _ rfl
  refine ⟨⟨_, hS, rfl⟩, PySem.F.args_list_init_2 _ _, init_rev (s := { s with heap := s.heap.push { cls := .type "list", data := .seq #[] } }) (A := A.in1) (S := s.heap.objs.size) hh (hit.at fun o e => Heap.get?_push_of_some _ e) (hl.push _) hne hn (Nat.ne_of_gt (Heap.lt_size hoi)) (Nat.ne_of_gt (Heap.lt_size hol)) hS (fun h' tk acc c hk hS' hacc => ?_)⟩
  exact ⟨rfl, hQ h' tk acc c (fun b o b1 e => hk b o b1 (Nat.ne_of_lt (Heap.lt_size e)) (Heap.get?_push_of_some _ e)) hS' hacc⟩
end
end Wr
namespace Vx
open PySem PySem.Spec PyProof.Rows L2 RT Wr
def tListRev (K : PySem.W.Frag) (te : TE) : TE := fun σ H Q => te σ H fun v H1 => ∃ (a : Addr) (xs : List V), v = .ref a ∧ SqL K H1 a xs ∧ ∀ q, H1 q = none → q ≠ sysModules → Q (.ref q) (upd H1 q (.lst xs.reverse))
section
variable {X : Cx}
/-- list(reversed(x)) of a list -/
theorem pe_listRev {e : Expr} {te : TE} {p p2 pos pos2 : Pos} (hc : X.calm = true) (hg : Gl X "list") (hm : X.mg "list" = none) (hg2 : Gl X "reversed") (hm2 : X.mg "reversed" = none) (he : PE X e te)
    (hs : starEach [e] X.env = (false, eval e X.env) :: starEach [] X.env := by rfl)
    (hs2 : starEach [.Call (.Name "reversed" p2) [e] [] pos2] X.env = (false, eval (.Call (.Name "reversed" p2) [e] [] pos2) X.env) :: starEach [] X.env := by rfl) :
    PE X (.Call (.Name "list" p) [.Call (.Name "reversed" p2) [e] [] pos2] [] pos) (tListRev X.K te) := by
  refine ⟨fun pins s σ H Q I h => ?_⟩
  refine Call_ (ld_blt I hg hm PyProof.Rows.boot_list (PyProof.Rows.callWith_type1 (args_cons (Call_ (ld_blt I hg2 hm2 PyProof.Rows.boot_reversed (PyProof.Rows.callWith_type1 (args_cons (thn (he.run pins s σ H _ I h) fun u s1 ⟨v, H1, I1, r1, q1⟩ => args_nil ?_) hs) hs rfl))) hs2) hs2 rfl))
  obtain ⟨a, xs, ev, hq, q⟩ := q1
  subst ev
  obtain rfl : u = Value.ref a := r1
  obtain ⟨its, rv, p', hz⟩ := I1.list hq
  refine call_reversed_list p'.isList (args_nil ?_)
  have I2 : Inv X pins σ H1 { s1 with heap := s1.heap.push (revObj a ((its.toArray.size : Int) - 1)) } := I1.kept (t' := s1.toks) fun b o e => Heap.get?_push_of_some _ e
  have hl := p'.isList
  obtain ⟨ol, hol, _⟩ := id hl
  have hne : a ≠ s1.heap.objs.size := Nat.ne_of_lt (Heap.lt_size hol)
  have hn : its.toArray.size ≤ sizeLine := by rw [List.size_toArray, ← rv.length]; exact hz
  have hN : (s1.heap.push (revObj a ((its.toArray.size : Int) - 1))).objs.size = s1.heap.objs.size + 1 := by simp [Heap.push]
  refine call_list_rev (s := { s1 with heap := s1.heap.push (revObj a ((its.toArray.size : Int) - 1)) }) (I1.ok.hd hc) ⟨_, Heap.get?_push_size _ rfl, rfl, rfl⟩ (hl.push _) hne hn fun h' tk acc c hk hS hi => ?_
  have old : ∀ b o, s1.heap.get? b = some o → h'.get? b = some o := fun b o e => hk b o (Nat.ne_of_lt (Heap.lt_size e)) (Heap.get?_push_of_some _ e)
  refine ⟨.ref _, upd H1 _ (.lst xs.reverse), ?_, rfl, q _ (fresh1 I2).1 (fresh1 I2).2⟩
  generalize hSz : (s1.heap.push (revObj a ((its.toArray.size : Int) - 1))).objs.size = S at hS hN ⊢
  refine I1.laid (t' := tk) old (by rw [hN]; exact Nat.le_succ _) (show ObjOk X.prog X.w _ _ _ (.lst xs.reverse) from ⟨by rw [List.length_reverse]; exact hz, acc.toList, c, vals_rev rv hi, ?_⟩)
  rw [Array.toArray_toList]
  exact hS
end
end Vx
namespace Dl
open PySem PySem.Spec PyProof.Rows L2 Vx
/-! a piece that is not reached -/
def dNo : DS := fun _ _ _ => False
def dNoE : DE := fun _ _ _ => False
section
variable {X : Cx} {W : WX} {pos : Pos} {e : Expr} {te : DE}
theorem fs_no {st : Stmt} : PS X st (embS X.K W dNo) := ⟨fun pins s σ H D I q => by obtain ⟨B, ps, I', fr, Dn, Er, r, q, kd, ke⟩ := q; exact (show False from q).elim⟩
theorem fe_no : PE X e (emb X.K W dNoE) := ⟨fun pins s σ H Q I q => by obtain ⟨B, ps, I', fr, Dn, Er, r, q, kd, ke⟩ := q; exact (show False from q).elim⟩
/-! list(reversed(x)) -/
theorem fe_listRev {p p2 pos2 : Pos} (hc : X.calm = true) (hg : Gl X "list") (hm : X.mg "list" = none) (hg2 : Gl X "reversed") (hm2 : X.mg "reversed" = none) (he : PE X e (emb X.K W te))
    (hs : starEach [e] X.env = (false, eval e X.env) :: starEach [] X.env := by rfl)
    (hs2 : starEach [.Call (.Name "reversed" p2) [e] [] pos2] X.env = (false, eval (.Call (.Name "reversed" p2) [e] [] pos2) X.env) :: starEach [] X.env := by rfl) :
    PE X (.Call (.Name "list" p) [.Call (.Name "reversed" p2) [e] [] pos2] [] pos) (emb X.K W (dOne revLD te)) := PE.weak (pe_listRev hc hg hm hg2 hm2 he hs hs2) fun σ H Q h =>
  one_emb (r := fun x H1 Q => ∃ (a : Addr) (xs : List V), x = .ref a ∧ SqL X.K H1 a xs ∧ ∀ q, H1 q = none → q ≠ sysModules → Q (.ref q) (upd H1 q (.lst xs.reverse))) (fun B ps I σ H fr x dx Q k r rx h kq => by
    cases dx <;> first | exact (show False from h).elim | skip
    obtain ⟨p, vs, rfl, e, ra⟩ := rx.lst r.same
    exact ⟨p, vs, rfl, SqL.of e, new_lst1 r kq ra.reverse h⟩) h
end
/-! a, b = new, new -/
def dParTT (i j : Nat) (ta tb : DE) : DS := fun Dn Er fr => ta fr (fun a fr1 => match a with | .tm d => tb fr1 (fun b fr2 => match b with | .tm d2 => Dn.nx { fr2 with sl := (fr2.sl.set i (some (.ow d))).set j (some (.ow d2)) } | _ => False) Er | _ => False) Er
theorem fs_parTT {X : Cx} {W : WX} {i j : Nat} {x y : Str} {a b : Expr} {ta tb : DE} {px py pt pos : Pos} {kt k2 pt2} (hc : X.calm = true) (hN : X.N.Nodup) (hi : X.N[i]? = some x) (hj : X.N[j]? = some y) (hij : i ≠ j)
    (hx : X.env.scope.names.lookup x = some .local) (hy : X.env.scope.names.lookup y = some .local) (ha : PE X a (emb X.K W ta)) (hb : PE X b (emb X.K W tb))
    (hw : swappedStores [.Tuple [.Name x px, .Name y py] kt pt] (.Tuple [a, b] k2 pt2) X.env = pure (some [x, y]))
    (hs1 : starEach [a, b] X.env = (false, eval a X.env) :: starEach [b] X.env := by rfl) (hs2 : starEach [b] X.env = (false, eval b X.env) :: starEach [] X.env := by rfl)
    (hs : swapsWithSole [.Tuple [.Name x px, .Name y py] kt pt] (.Tuple [a, b] k2 pt2) pos.line X.env = pure false := by rfl) :
    PS X (.Assign [.Tuple [.Name x px, .Name y py] kt pt] (.Tuple [a, b] k2 pt2) pos) (embS X.K W (dParTT i j ta tb)) := PS.weak (ps_par hc hN hi hj hij hx hy (pa_cons ha (pa_cons hb pa_nil hs2) hs1) hw hs) fun D σ H ⟨B, ps, I, fr, Dn, Er, r, q, kd, ke⟩ => by
  refine ⟨B, ps, I, fr, _, Er, r, q, fun v H1 J1 ra fr1 e1 r1 o1 q1 => ?_, ke σ⟩
  cases ra with
  | sh d => exact (show False from q1).elim
  | pl k => exact (show False from q1).elim
  | pa k => exact (show False from q1).elim
  | tm d =>
    obtain ⟨p, rfl, b1, i1, n1, a1, rt1⟩ := o1
    obtain ⟨o, ho⟩ := rt1.some
    refine ⟨upd B p o, ps, J1, fr1, _, Er, r1.hold ho a1, q1, fun w H2 J2 rb fr2 e2 r2 o2 q2 => ?_, ((ke σ).ext e1).held b1⟩
    cases rb with
    | sh d => exact (show False from q2).elim
    | pl k => exact (show False from q2).elim
    | pa k => exact (show False from q2).elim
    | tm d2 =>
      obtain ⟨p2, rfl, b2, i2, n2, a2, rt2⟩ := o2
      have ne : p2 ≠ p := fun z => by rw [z, upd_same] at b2; cases b2
      rw [upd_ne ne] at b2
      obtain ⟨h3, a3⟩ := r2.held n1
      have i3 : J2 p = none := e2.heldI i1
      have eA := e1.trans (e2.unhold b1)
      have r4 := r2.unhold b1
      have rt3 : Root X.K J2 H2 p d := rt1.mono e2.1 (h3.trans ho.symm)
      have r5 := r4.setOw (i := i) b1 i3 n1 a3 rt3
      have a5 : Apart (σ.set i (some (.ref p))) { fr2 with sl := fr2.sl.set i (some (.ow d)) } p2 := fun k dk e z => by
        by_cases hk : k = i
        · subst hk
          have hl : k < σ.length := by
            have := (List.getElem?_eq_some_iff.mp z).1
            simpa using this
          rw [List.getElem?_set_self hl] at z
          exact ne (by injection z with z; injection z with z; injection z with z; exact z.symm)
        · rw [List.getElem?_set_ne (Ne.symm hk)] at e z
          exact a2 k dk e z
      have r6 := r5.setOw (i := j) b2 i2 n2 a5 rt2
      exact ⟨.ref p, .ref p2, rfl, kd.nx _ _ _ _ eA r6 q2⟩
/-! dicts: display of two, looking up -/
def eqKey : D → D → Bool
  | .str a, .str b => decide (a = b)
  | .int i, .int j => decide (i = j)
  | _, _ => false
def dlk : List D → List D → D → Option D
  | k :: ks, d :: ds, y => if eqKey k y then some d else dlk ks ds y
  | _, _, _ => none
theorem eqKey_of {K : PySem.W.Frag} {I : Hp} {k j : Key} {kd jd : D} (hk : R K I (kV k) kd) (hj : R K I (kV j) jd) : eqKey kd jd = decide (k = j) := by
  cases k with
  | inl i =>
    have hk : R K I (.int i) kd := hk
    cases hk
    cases j with
    | inl i2 =>
      have hj : R K I (.int i2) jd := hj
      cases hj
      exact decide_eq_decide.mpr ⟨fun e => by rw [e], fun e => Sum.inl.inj e⟩
    | inr x2 =>
      have hj : R K I (.str x2) jd := hj
      cases hj
      exact (decide_eq_false (fun e => by cases e)).symm
  | inr x =>
    have hk : R K I (.str x) kd := hk
    cases hk
    cases j with
    | inl i2 =>
      have hj : R K I (.int i2) jd := hj
      cases hj
      exact (decide_eq_false (fun e => by cases e)).symm
    | inr x2 =>
      have hj : R K I (.str x2) jd := hj
      cases hj
      exact decide_eq_decide.mpr ⟨fun e => by rw [e], fun e => S_inj (Sum.inr.inj e)⟩
theorem dlk_of {K : PySem.W.Frag} {I : Hp} {j : Key} {jd d : D} (hj : R K I (kV j) jd) : ∀ {kvs : List (Key × V)} {ks ds : List D}, RA K I (kvs.map fun q => kV q.1) ks → RA K I (kvs.map (·.2)) ds → dlk ks ds jd = some d → ∃ v, valV kvs j = some v ∧ R K I v d
  | [], ks, ds, h1, h2, e => by
    cases h1
    cases e
  | (k, v) :: r, ks, ds, h1, h2, e => by
    cases h1 with
    | cons a1 t1 =>
      cases h2 with
      | cons a2 t2 =>
        have e' : (if eqKey _ jd = true then some _ else dlk _ _ jd) = some d := e
        rw [eqKey_of a1 hj] at e'
        by_cases hk : k = j
        · rw [decide_eq_true hk, if_pos rfl] at e'
          cases e'
          exact ⟨v, valV_pos hk, a2⟩
        · rw [decide_eq_false hk, if_neg (by decide)] at e'
          obtain ⟨u, h3, h4⟩ := dlk_of hj t1 t2 e'
          exact ⟨u, by rw [valV_neg hk]; exact h3, h4⟩
def keyD : D → Bool
  | .str _ => true
  | .int _ => true
  | _ => false
def dgetD (x y : D) (k : Rv → Prop) : Prop := match x with
  | .dic ks ds => keyD y = true ∧ opt (dlk ks ds y) fun d => k (.sh d)
  | _ => False
theorem key_rh {K : PySem.W.Frag} {I H : Hp} {v : V} {d : D} (h : RH K I H v d) (hk : keyD d = true) : ∃ y : Key, v = kV y ∧ R K I (kV y) d := by
  cases d <;> first | (cases hk; done) | skip
  · rename_i i
    obtain rfl := h.int
    exact ⟨.inl i, rfl, .int i⟩
  · rename_i a
    obtain rfl := h.str
    exact ⟨.inr (S a), rfl, .str a⟩
section
variable {X : Cx} {W : WX} {pos : Pos} {o i : Expr} {to ti : DE}
theorem fe_dget (hu : X.A.units + 64 < cLine) (ho : PE X o (emb X.K W to)) (hi : PE X i (emb X.K W ti)) (hs : NoSl i) : PE X (.Subscript o i pos) (emb X.K W (dTwo dgetD to ti)) :=
  PE.weak (pe_dget (Nat.lt_of_le_of_lt (Nat.add_le_add_left (by decide) _) hu) ho hi hs) fun σ H Q h => two_emb (r := fun x y H2 Q => ∃ a v, x = .ref a ∧ DGet H2 a y (some v) ∧ Q v H2) (fun B ps I σ H fr x y dx dy Q k r rx ry h kq => by
    cases dx <;> first | exact (show False from h).elim | skip
    obtain ⟨hk, ho⟩ := h
    obtain ⟨p, kvs, rfl, e, h1, h2⟩ := rx.dic r.same
    obtain ⟨z, rfl, rz⟩ := key_rh ry hk
    obtain ⟨d, e2, q2⟩ := ho
    obtain ⟨v, h3, h4⟩ := dlk_of rz h1 h2 e2
    refine ⟨p, v, rfl, ?_, kq v H I (.sh d) (Ext.refl _ _) r h4 q2⟩
    rw [← h3]
    exact DGet.k e) h
end
def dDisp2 (tk1 tv1 tk2 tv2 : DE) : DE := fun fr Q Er => tk1 fr (fun rk1 fr1 => keyR rk1 fun kd1 => tv1 fr1 (fun rv1 fr2 => shr rv1 fr2 fun d1 fr3 => tk2 fr3 (fun rk2 fr4 => keyR rk2 fun kd2 => tv2 fr4 (fun rv2 fr5 => shr rv2 fr5 fun d2 fr6 => Br (eqKey kd1 kd2) False (Q (.tm (.dic [kd1, kd2] [d1, d2])) fr6)) Er) Er) Er) Er
section
variable {X : Cx} {W : WX} {pos : Pos} {k v k2 v2 : Expr} {tk tv tk2 tv2 : DE}
theorem fe_disp2 (hk : PE X k (emb X.K W tk)) (hv : PE X v (emb X.K W tv)) (hk2 : PE X k2 (emb X.K W tk2)) (hv2 : PE X v2 (emb X.K W tv2)) : PE X (.Dict [some k, some k2] [v, v2] pos) (emb X.K W (dDisp2 tk tv tk2 tv2)) :=
  PE.weak (pe_disp (pps_cons hk hv (pps_cons hk2 hv2 pps_nil)) (by rfl) (by rfl) (fun z => by cases z) (by show 2 ≤ 15; decide)) fun σ H Q h p hp => by
    obtain ⟨B, ps, I, fr, Q', Er, r, q, kq, ke⟩ := h
    obtain ⟨fB, fI, fp, fa⟩ := r.fresh hp
    have r0 : Rep X.K (upd B p (.dK [])) ps I σ (upd H p (.dK [])) fr := (r.new hp).hold upd_same fa
    refine ⟨upd B p (.dK []), ps, I, fr, _, Er, r0, q, fun x H1 J1 rk fr1 e1 r1 o1 q1 => ?_, ke.held fB⟩
    obtain ⟨y, kd, rfl, q2, rk0⟩ := keyR_of o1 q1
    refine ⟨upd B p (.dK []), ps, J1, fr1, _, Er, r1, q2, fun u H2 J2 rv fr2 e2 r2 o2 q3 => ?_, (ke.held fB).ext e1⟩
    obtain ⟨d, fr3, J3, q4, e3, r3, h3⟩ := shr_rv r2 o2 q3
    have eA := e1.trans (e2.trans e3)
    refine ⟨upd B p (.dK []), ps, J3, fr3, _, Er, r3, q4, fun x2 H4 J4 rk2 fr4 e4 r4 o4 q5 => ?_, (ke.held fB).ext eA⟩
    obtain ⟨y2, kd2, rfl, q6, rk2⟩ := keyR_of o4 q5
    refine ⟨upd B p (.dK []), ps, J4, fr4, _, Er, r4, q6, fun u2 H5 J5 rv2 fr5 e5 r5 o5 q7 => ?_, (ke.held fB).ext (eA.trans e4)⟩
    obtain ⟨d2, fr6, J6, q8, e6, r6, h6⟩ := shr_rv r5 o5 q7
    have eB := eA.trans (e4.trans (e5.trans e6))
    have hne : ¬ y = y2 := fun z => by
      have hk := eqKey_of (rk0 J6) (rk2 J6)
      rw [decide_eq_true z] at hk
      rw [hk] at q8
      exact q8.t1
    have q9 := q8.ff (by rw [eqKey_of (rk0 J6) (rk2 J6), decide_eq_false hne])
    have hh := r6.held fp
    have eI : J6 p = none := eB.heldI fI
    refine ⟨hh.1, [(y, u), (y2, u2)], rfl, by show 2 ≤ 15; decide, ?_⟩
    have em : mergeK [] [(y, u), (y2, u2)] = [(y, u), (y2, u2)] := by
      show putK (putK [] y u) y2 u2 = _
      have e1 : putK ([] : List (Key × V)) y u = [(y, u)] := rfl
      rw [e1]
      unfold putK
      rw [if_neg (by simp [hne])]
      rfl
    rw [em]
    have r7 := r6.poke (o' := .dK [(y, u), (y2, u2)]) fp fB eI
    exact kq (.ref p) _ J6 (.tm (.dic [kd, kd2] [d, d2])) fr6 (eB.unhold fB) r7 ⟨p, rfl, fB, eI, fp, hh.2, _, upd_same, .cons (rk0 _) (.cons (rk2 _) .nil), .cons (R.mono (e4.trans (e5.trans e6)).1 h3) (.cons h6 .nil)⟩ q9
end
end Dl
namespace Vx
open PySem PySem.Spec PyProof.Rows L2
/-! repr of lists that hold data with dicts, and data without, whose lists may stand anywhere -/
mutual
inductive My (K : PySem.W.Frag) (H : Hp) : V → PyData → Prop
  | dx {v : V} {d : PyData} : Dx K H v d → My K H v d
  | dp {v : V} {d : PyData} : Dp K H v d → d.hasDict = false → My K H v d
  | lst {a : Addr} {xs : List V} {ds : List PyData} : H a = some (.lst xs) → MyAll K H xs ds → My K H (.ref a) (.list ds)
inductive MyAll (K : PySem.W.Frag) (H : Hp) : List V → List PyData → Prop
  | nil : MyAll K H [] []
  | cons {v : V} {vs : List V} {d : PyData} {ds : List PyData} : My K H v d → MyAll K H vs ds → MyAll K H (v :: vs) (d :: ds)
end
section
variable {X : Cx} {pins : List (Addr × Obj)} {σ : L2.St} {H : Hp} {s : Shared}
mutual
theorem My.reads (I : Inv X pins σ H s) : ∀ {v : V} {d : PyData} {u : Value}, My X.K H v d → RelV v u → ∃ as, Reads s.heap u d as
  | _, _, _, .dx h, r => let ⟨as, h, _⟩ := Dx.reads I _ _ _ h r; ⟨as, h⟩
  | _, _, _, .dp h _, r => Dp.reads I _ _ _ h r
  | _, _, _, .lst hs ha, r => by
    cases r
    obtain ⟨its, rv, ⟨o, n, ho, hc, _, hd⟩, _⟩ := I.list (SqL.of hs)
    obtain ⟨as, hr⟩ := MyAll.reads I ha rv
    exact ⟨_, Reads.list ho hc hd hr⟩
theorem MyAll.reads (I : Inv X pins σ H s) : ∀ {vs : List V} {ds : List PyData} {us : List Value}, MyAll X.K H vs ds → Vals vs us → ∃ as, ReadsAll s.heap us ds as
  | _, _, _, .nil, r => by cases r; exact ⟨_, ReadsAll.nil⟩
  | _, _, _, .cons a1 a2, r => by
    cases r with
    | cons r1 r2 =>
      obtain ⟨as, q1⟩ := My.reads I a1 r1
      obtain ⟨bs, q2⟩ := MyAll.reads I a2 r2
      exact ⟨_, ReadsAll.cons q1 q2⟩
end
variable {prog : Program} {w : World}
mutual
/-- what an item shows -/
theorem My.repr (I : Inv X pins σ H s) : ∀ {v : V} {d : PyData} {u : Value}, My X.K H v d → RelV v u → d.showable = true → d.shown.length ≤ sizeLine → ∃ bs, ReadAtMost s.heap d.depth bs ∧ ReprK prog w bs s.heap d.depth u d.shown
  | _, _, _, .dx h, r, hs, hz => by
    obtain ⟨as, rd, no⟩ := Dx.reads I _ _ _ h r
    exact ReprK.of_reads rd hs (fun _ => no) hz
  | _, _, _, .dp h hn, r, hs, hz => by
    obtain ⟨as, rd⟩ := Dp.reads I _ _ _ h r
    exact ReprK.of_reads rd hs (fun z => by rw [hn] at z; cases z) hz
  | _, _, _, .lst (ds := ds) e ha, r, hs, hz => by
    cases r
    obtain ⟨its, rv, ⟨o, n, ho, hc, _, hd⟩, _⟩ := I.list (SqL.of e)
    obtain ⟨as, rd⟩ := MyAll.reads I ha rv
    have top := Reads.list ho hc hd rd
    have small : ∀ t ∈ PyData.shownAll ds, t.length ≤ sizeLine := fun t ht => Nat.le_trans (listText_mem_le ht) (by simpa only [PyData.shown] using hz)
    obtain ⟨bs, atMost, each⟩ := MyAll.repr I ha rv (by simpa only [PyData.showable] using hs) small
    have apart := not_mem_of_deeper top (by simp only [PyData.depth]; exact Nat.lt_succ_self _) atMost
    refine ⟨_ :: bs, ReadAtMost.cons top (by simp only [PyData.depth]; exact Nat.le_succ _) atMost, ?_⟩
    simp only [PyData.depth, PyData.shown]
    cases its with
    | nil =>
      cases rd
      simp only [PyData.shownAll, listText_nil]
      exact ReprK.listEmpty ho hc hd
    | cons y ys =>
      refine ReprK.list (oa := o) ho hc hd apart ?_ fun i y e => ?_
      · have := each.length_eq
        rw [this, List.size_toArray]
      · exact each.item i y (by rw [← e]; simp)
theorem MyAll.repr (I : Inv X pins σ H s) : ∀ {vs : List V} {ds : List PyData} {us : List Value}, MyAll X.K H vs ds → Vals vs us → PyData.showableAll ds = true → (∀ t ∈ PyData.shownAll ds, t.length ≤ sizeLine) → ∃ bs, ReadAtMost s.heap (PyData.depthAll ds) bs ∧ ReprAllK prog w bs s.heap (PyData.depthAll ds) us (PyData.shownAll ds)
  | _, _, _, .nil, r, _, _ => by
    cases r
    refine ⟨[], (fun _ h => nomatch h), ?_⟩
    simp only [PyData.shownAll]
    exact .nil
  | _, _, _, .cons (d := d) (ds := ds) a1 a2, r, hs, hz => by
    cases r with
    | cons r1 r2 =>
      simp only [PyData.showableAll, Bool.and_eq_true] at hs
      simp only [PyData.shownAll, List.forall_mem_cons] at hz
      obtain ⟨b1, m1, k1⟩ := My.repr I a1 r1 hs.1 hz.1
      obtain ⟨b2, m2, k2⟩ := MyAll.repr I a2 r2 hs.2 hz.2
      have g1 : d.depth ≤ PyData.depthAll (d :: ds) := by simp only [PyData.depthAll]; omega
      have g2 : PyData.depthAll ds ≤ PyData.depthAll (d :: ds) := by simp only [PyData.depthAll]; omega
      refine ⟨b1 ++ b2, (m1.mono g1).append (m2.mono g2), ?_⟩
      simp only [PyData.shownAll]
      exact .cons ((k1.more fun b hb => List.mem_append_left _ hb).level_le g1) (k2.more_le (fun b hb => List.mem_append_right _ hb) g2)
end
end
/-- repr of a list of such things -/
def rReprM (K : PySem.W.Frag) : List V → Hp → VK → Prop := fun xs H Q => ∃ (a : Addr) (ys : List V) (ds : List PyData), xs = [.ref a] ∧ H a = some (.lst ys) ∧ ys ≠ [] ∧ MyAll K H ys ds ∧ PyData.showableAll ds = true ∧ (PyData.list ds).shown.length ≤ sizeLine ∧ (PyData.list ds).depth ≤ 50 ∧ Q (.str (PyData.list ds).shown) H
theorem call_reprM {X : Cx} (hg : X.A.guards = some []) (hu : X.A.units + 64 < cLine) : CallR X (.builtin "repr") (rReprM X.K) := by
  intro pins s σ H xs us Q I r h
  obtain ⟨a, ys, ds, rfl, e, ne, ha, hs, hz, hp, q⟩ := h
  obtain ⟨u, rfl, rx⟩ := vals1 r
  cases rx
  obtain ⟨its, rv, ⟨o, n, ho, hc, _, hd⟩, _⟩ := I.list (SqL.of e)
  obtain ⟨as, rd⟩ := MyAll.reads I ha rv
  have top := Reads.list ho hc hd rd
  have hz2 : (listText (PyData.shownAll ds)).length ≤ sizeLine := by simpa only [PyData.shown] using hz
  obtain ⟨bs, atMost, each⟩ := MyAll.repr (prog := X.prog) (w := X.w) I ha rv hs fun t ht => Nat.le_trans (listText_mem_le ht) hz2
  have apart := not_mem_of_deeper top (by simp only [PyData.depth]; exact Nat.lt_succ_self _) atMost
  simp only [PyData.depth] at hp
  cases its with
  | nil => cases rv; exact absurd rfl ne
  | cons y zs =>
    refine call_repr_slot (Nat.lt_of_le_of_lt (Nat.add_le_add_left (by decide) _) hu) ⟨o, ho, hc⟩ F.slot_list_repr.toG ?_
    refine call_list_reprK (oa := o) ho hc hd apart (by rw [each.length_eq, List.size_toArray]) (fun i y e => each.item i y (by rw [← e]; simp)) hg (fun b _ => Clear.nil b) ?_ (fun _ _ e => e) (fun h' t tk hk => ⟨_, _, rfl, .str _, H, I.kept (t' := tk) hk, ⟨_, rfl⟩, ?_⟩) hz2
    · show X.A.units + 1 + _ < cLine
      omega
    · simpa only [PyData.shown] using q
end Vx
namespace Dl
open PySem PySem.Spec PyProof.Rows L2 Vx
/-! repr of a list of things with dicts and things without -/
mutual
def pm : D → Bool
  | .lst z xs => plain true (.lst z xs) || pms xs
  | .tup xs => plain true (.tup xs) || plain false (.tup xs)
  | .dic ks vs => plain true (.dic ks vs)
  | .ktp xs => plain true (.ktp xs) || plain false (.ktp xs)
  | d => plain true d
def pms : List D → Bool
  | [] => true
  | x :: xs => pm x && pms xs
end
mutual
theorem R.my {K : PySem.W.Frag} {H : Hp} : ∀ {d : D} {v : V}, pm d = true → R K H v d → My K H v (toP d)
  | .lst z xs, v, e, h => by
    simp only [pm, Bool.or_eq_true] at e
    rcases e with e | e
    · exact .dx (h.dx e)
    · cases h with
      | lst a n r => simp only [toP]; exact .lst a (RA.my e r)
  | .tup xs, v, e, h => by
    simp only [pm, Bool.or_eq_true] at e
    rcases e with e | e
    · exact .dx (h.dx e)
    · exact .dp (h.dp e) (noDict e)
  | .non, _, e, h => .dx (h.dx e)
  | .bl _, _, e, h => .dx (h.dx e)
  | .int _, _, e, h => .dx (h.dx e)
  | .str _, _, e, h => .dx (h.dx e)
  | .dic _ _, _, e, h => .dx (h.dx (by simpa only [pm] using e))
  | .ins _ _ _, _, e, h => .dx (h.dx (by simpa only [pm] using e))
  | .scr _, _, e, h => .dx (h.dx (by simpa only [pm] using e))
  | .ktp xs, v, e, h => by
    simp only [pm, Bool.or_eq_true] at e
    rcases e with e | e
    · exact .dx (h.dx e)
    · exact .dp (h.dp e) (noDict e)
  | .cl _, _, e, h => .dx (h.dx (by simpa only [pm] using e))
theorem RA.my {K : PySem.W.Frag} {H : Hp} : ∀ {ds : List D} {vs : List V}, pms ds = true → RA K H vs ds → MyAll K H vs (toPs ds)
  | [], _, _, h => by cases h; simp only [toPs]; exact .nil
  | d :: ds, _, e, h => by
    simp only [pms, Bool.and_eq_true] at e
    cases h with
    | cons a r => simp only [toPs]; exact .cons (R.my e.1 a) (RA.my e.2 r)
end
theorem pms_all : ∀ {ds : List D}, (∀ d ∈ ds, pm d = true) → pms ds = true
  | [], _ => by simp only [pms]
  | d :: ds, h => by simp only [pms, h d List.mem_cons_self, pms_all fun x hx => h x (List.mem_cons_of_mem _ hx), Bool.and_self]
theorem pm_lst {z : Bool} {xs : List D} (h : ∀ d ∈ xs, pm d = true) : pm (.lst z xs) = true := by simp only [pm, pms_all h, Bool.or_true]
theorem pm_of {d : D} (h : plain true d = true) : pm d = true := by
  cases d <;> first | (simp only [pm, h, Bool.true_or]; done) | (simpa only [pm] using h) | exact h
mutual
theorem pm_of0 : ∀ {d : D}, plain false d = true → pm d = true
  | .lst z xs, h => by
    simp only [plain, Bool.and_eq_true] at h
    simp only [pm, pms_of0 h.1, Bool.or_true]
  | .tup xs, h => by simp only [pm, h, Bool.or_true]
  | .ktp xs, h => by simp only [pm, h, Bool.or_true]
  | .dic _ _, h => by simp [plain] at h
  | .ins _ _ _, h => by simp [plain] at h
  | .scr _, h => by simp [plain] at h
  | .cl _, h => by simp [plain] at h
  | .non, _ => rfl
  | .bl _, _ => rfl
  | .int _, _ => rfl
  | .str _, _ => rfl
theorem pms_of0 : ∀ {ds : List D}, plains false ds = true → pms ds = true
  | [], _ => by simp only [pms]
  | d :: ds, h => by
    simp only [plains, Bool.and_eq_true] at h
    simp only [pms, pm_of0 h.1, pms_of0 h.2, Bool.and_self]
end
structure ShwM (xs : List D) : Prop where
  sh : PyData.showableAll (toPs xs) = true
  sz : (toP (.lst true xs)).shown.length ≤ sizeLine
  dp : (toP (.lst true xs)).depth ≤ 50
  pl : pms xs = true
  ne : xs ≠ []
def reprMD : List D → (Rv → Prop) → Prop
  | [.lst _ xs], k => ShwM xs ∧ k (.sh (.str (shwn (.lst true xs))))
  | _, _ => False
theorem calld_reprM {K : PySem.W.Frag} : CallD K reprMD (rReprM K) := by
  intro B ps I σ H fr xs ds Q k r rx h kq
  match ds, h with
  | [.lst z ys], h =>
    obtain ⟨s, q⟩ := h
    obtain ⟨v, rfl, rh⟩ := one_of rx
    have e : S (shwn (.lst true ys)) = (toP (.lst true ys)).shown := SX.S_tl _
    have fin : Q (.str (toP (.lst true ys)).shown) H := by
      rw [← e]; exact kq _ _ I (.sh (.str _)) (Ext.refl _ _) r (R.str _) q
    obtain ⟨p, vs, rfl, hp, ra⟩ := rh.lst r.same
    have ra := ra.mono r.same
    have e2 : toP (.lst true ys) = PyData.list (toPs ys) := by simp only [toP]
    rw [e2] at fin
    refine ⟨p, vs, toPs ys, rfl, hp, fun z => ?_, RA.my s.pl ra, s.sh, by rw [← e2]; exact s.sz, by rw [← e2]; exact s.dp, fin⟩
    have := ra.length
    rw [z] at this
    exact s.ne (List.eq_nil_of_length_eq_zero this.symm)
theorem Sz.shwM {B : Nat} {xs : List D} {w k : Nat} (h : SzA B xs w k) (p : pms xs = true) (ne : xs ≠ []) (hB : 8 ≤ B) (hk : k < 50) (hw : (B + 2) * w + B ≤ 16000000) : ShwM xs := by
  have hl := Sz.lst (z := true) h
  refine ⟨h.sh, ?_, Nat.le_trans hl.dp hk, p, ne⟩
  have := PyData.shown_le B hB (toP (.lst true xs)) hl.lv
  have h2 : (B + 2) * (toP (.lst true xs)).weight ≤ (B + 2) * w := Nat.mul_le_mul_left _ hl.wt
  unfold sizeLine; omega
end Dl
namespace Dl
open PySem PySem.Spec PyProof.Rows L2 Vx Vu
/-! list(zip(a, b)) -/
theorem RA.of_get {K : PySem.W.Frag} {I : Hp} : ∀ {vs : List V} {ds : List D}, vs.length = ds.length → (∀ (j : Nat) (v : V) (d : D), vs[j]? = some v → ds[j]? = some d → R K I v d) → RA K I vs ds
  | [], [], _, _ => .nil
  | [], _ :: _, h, _ => by cases h
  | _ :: _, [], h, _ => by cases h
  | v :: vs, d :: ds, h, g => .cons (g 0 v d rfl rfl) (RA.of_get (by simpa using h) fun j v d h1 h2 => g (j + 1) v d (by simpa using h1) (by simpa using h2))
def zipLD : List D → (Rv → Prop) → Prop
  | [.lst _ a, .lst _ b], k => (a.length = b.length ∧ a.length ≤ 1000000) ∧ k (.tm (.lst false (zipD a b)))
  | _, _ => False
theorem calld_zipL {K : PySem.W.Frag} : CallD K zipLD (rZip K) := by
  intro B ps I σ H fr xs ds Q k r rx h kq
  match ds, h with
  | [.lst z a, .lst z' b], h =>
    obtain ⟨⟨h1, h2⟩, hk⟩ := h
    obtain ⟨v, u, rfl, rv, ru⟩ := two_of rx
    obtain ⟨p, vs, rfl, e1, ra⟩ := rv.lst r.same
    obtain ⟨q, us, rfl, e2, rb⟩ := ru.lst r.same
    have l1 := ra.length
    have l2 := rb.length
    refine ⟨p, q, vs, us, rfl, SqL.of e1, SqL.of e2, by omega, mil (by omega), fun H' m ts kp hm ht hmt hl hlen hat => ?_⟩
    have fr1 := r.fresh hm
    have pin : ∀ x o, H x = some o → x ∉ ts := fun x o e z => by rw [ht x z] at e; cases e
    have sIJ : Same I (fun x => if x ∈ ts then H' x else I x) := fun x o e => by
      show (if x ∈ ts then H' x else I x) = some o
      rw [if_neg (pin x o (r.same x o e)), e]
    have r1 := r.heap kp
    have r2 : Rep K B ps (fun x => if x ∈ ts then H' x else I x) σ H' fr := r1.grow sIJ (fun x o e => by
      by_cases hx : x ∈ ts
      · simpa only [if_pos hx] using e
      · exact kp x o (r.same x o (by simpa only [if_neg hx] using e))) (fun x hx => by
      obtain ⟨o, e⟩ := r.pin hx
      simp only [if_neg (pin x o e)]
      exact r.pout x hx) (fun i d x g1 g2 => by
      obtain ⟨v, e1, p2, e3, _, c2, _, rt⟩ := r.slot i _ g1
      rw [g2] at e1
      cases e1
      cases e3
      obtain ⟨o, e4⟩ := rt.some
      simp only [if_neg (pin _ o e4)]
      exact c2)
    refine kq (.ref m) H' _ (.tm (.lst false (zipD a b))) ⟨sIJ, fun x o e => ?_⟩ r2 ⟨m, rfl, fr1.1, by simp only [if_neg hmt]; exact fr1.2.1, fr1.2.2.1, fr1.2.2.2, ts.map V.ref, hl, (fun z => by cases z), ?_⟩ hk
    · by_cases hx : x ∈ ts
      · exact .inr (r.fresh (ht x hx)).1
      · exact .inl (by simpa only [if_neg hx] using e)
    · refine RA.of_get (by rw [List.length_map]; unfold zipD; rw [List.length_zipWith]; omega) fun j v d g1 g2 => ?_
      rw [List.getElem?_map] at g1
      obtain ⟨t, g3, rfl⟩ := Option.map_eq_some_iff.mp g1
      unfold zipD at g2
      rw [List.getElem?_zipWith] at g2
      have hj : j < ts.length := (List.getElem?_eq_some_iff.mp g3).1
      have ha : j < a.length := by omega
      have hb : j < b.length := by omega
      rw [List.getElem?_eq_getElem ha, List.getElem?_eq_getElem hb] at g2
      obtain rfl := Option.some.inj g2
      obtain ⟨x, x1, x2⟩ := ra.get (List.getElem?_eq_getElem ha)
      obtain ⟨y, y1, y2⟩ := rb.get (List.getElem?_eq_getElem hb)
      have hm2 := hat j t x y g3 x1 y1
      refine R.tup (I := fun x => if x ∈ ts then H' x else I x) ?_ (.cons (x2.mono sIJ) (.cons (y2.mono sIJ) .nil))
      simp only [if_pos (List.mem_of_getElem? g3)]
      exact hm2
section
variable {X : Cx} {W : WX} {e e2 : Expr} {ta : DA} {p p2 pos pos2 : Pos}
theorem fe_listZip (hc : X.calm = true) (hg : Gl X "list") (hm : X.mg "list" = none) (hg2 : Gl X "zip") (hm2 : X.mg "zip" = none) (ha : PA X [e, e2] (embA X.K W ta))
    (hs2 : starEach [e, e2] X.env = (false, eval e X.env) :: starEach [e2] X.env := by rfl) (hpl : (backTo pos2 (starEach [e2] X.env)).any (·.1) = false := by rfl)
    (hs : starEach [.Call (.Name "zip" p2) [e, e2] [] pos2] X.env = (false, eval (.Call (.Name "zip" p2) [e, e2] [] pos2) X.env) :: starEach [] X.env := by rfl) :
    PE X (.Call (.Name "list" p) [.Call (.Name "zip" p2) [e, e2] [] pos2] [] pos) (emb X.K W (dCallB zipLD ta)) := PE.weak (pe_listZip hc hg hm hg2 hm2 ha hs2 hpl hs) fun _ _ _ h => callB_emb calld_zipL h
end
end Dl
namespace Dl
open PySem PySem.Spec PyProof.Rows L2 Vx
/-! answering, more -/
theorem flat1 : ∀ a : List Nat, (a.map fun c => [c]).flatten = a
  | [] => rfl
  | c :: r => by rw [List.map_cons, List.flatten_cons, flat1 r]; rfl
theorem join1 (a : List Nat) : TL.joinL [] (a.map fun c => [c]) = a := by rw [joinL_nil, flat1]
theorem sum1 (a : List Nat) : ((a.map fun c => [c]).map fun x : List Nat => x.length).sum + (a.map fun c => [c]).length * ([] : List Nat).length = a.length := by
  rw [List.length_nil, Nat.mul_zero, Nat.add_zero]
  induction a with
  | nil => rfl
  | cons c r ih => simp only [List.map_cons, List.sum_cons, ih, List.length_cons, List.length_nil]; omega
theorem sumL1 (a : List Nat) : ((a.map fun c => [c]).map fun x : List Nat => x.length).sum = a.length := by
  have := sum1 a
  rw [List.length_nil, Nat.mul_zero, Nat.add_zero] at this
  exact this
theorem strs1 (a : List Nat) : strsOf (a.map fun c => D.str [c]) = some (a.map fun c => [c]) := by
  rw [show a.map (fun c => D.str [c]) = (a.map fun c => [c]).map D.str by rw [List.map_map]; rfl]
  exact strsOf_map _
def Sml (m : Nat) (a : List Nat) : Prop := a.length ≤ m ∧ ∀ c ∈ a, c < 1000
theorem cutL_sub {a : List Nat} {lo hi : Option Int} {c : Nat} (h : c ∈ cutL a lo hi) : c ∈ a := by
  unfold cutL cutS at h
  simp only [List.toList_toArray] at h
  exact List.mem_of_mem_drop (List.mem_of_mem_take h)
theorem Sml.app {m n : Nat} {a b : List Nat} (h : Sml m a) (k : Sml n b) : Sml (m + n) (a ++ b) := ⟨by rw [List.length_append]; have := h.1; have := k.1; omega, fun c hc => (List.mem_append.mp hc).elim (h.2 c) (k.2 c)⟩
theorem Sml.cut {m : Nat} {a : List Nat} (h : Sml m a) (lo hi : Option Int) : Sml m (cutL a lo hi) := ⟨Nat.le_trans (cutL_length a lo hi) h.1, fun c hc => h.2 c (cutL_sub hc)⟩
theorem Sml.rev {m : Nat} {a : List Nat} (h : Sml m a) : Sml m a.reverse := ⟨by rw [List.length_reverse]; exact h.1, fun c hc => h.2 c (List.mem_reverse.mp hc)⟩
theorem Sml.one {c : Nat} (h : c < 1000) : Sml 1 [c] := ⟨Nat.le_refl _, fun x hx => by rw [List.mem_singleton.mp hx]; exact h⟩
theorem Sml.nil {m : Nat} : Sml m [] := ⟨Nat.zero_le _, fun x hx => nomatch hx⟩
theorem Sml.more {m n : Nat} {a : List Nat} (h : Sml m a) (l : m ≤ n) : Sml n a := ⟨Nat.le_trans h.1 l, h.2⟩
theorem Sml.rep {m n : Nat} {a : List Nat} (h : Sml m a) : Sml (n * m) (repN n a) := ⟨by rw [repN_length]; exact Nat.mul_le_mul_left _ h.1, fun c hc => h.2 c (mem_repN hc)⟩
theorem Lay.more {d : D} {k l : Nat} (h : Lay d k) (hl : k ≤ l) : Lay d l := ⟨h.pl, h.ly, Nat.le_trans h.dp hl⟩
theorem cutD_sub {α : Type} {xs : List α} {lo hi : Option Int} {c : α} (h : c ∈ Dl.cutD xs lo hi) : c ∈ xs := by
  unfold Dl.cutD at h
  exact List.mem_of_mem_drop (List.mem_of_mem_take h)
theorem cutD_len {α : Type} (xs : List α) (lo hi : Option Int) : (Dl.cutD xs lo hi).length ≤ xs.length := by
  unfold Dl.cutD
  rw [List.length_take, List.length_drop]; omega
theorem cutD_to {α : Type} (xs : List α) (n : Nat) : Dl.cutD xs none (some (n : Int)) = xs.take n := by
  unfold Dl.cutD
  rw [show HT.sIx xs.length 0 none = 0 from rfl, HT.sIx_nat, List.drop_zero, Nat.sub_zero]
  by_cases h : n ≤ xs.length
  · rw [Nat.min_eq_left h]
  · rw [Nat.min_eq_right (by omega), List.take_of_length_le (Nat.le_refl _), List.take_of_length_le (by omega)]
theorem cutD_from {α : Type} (xs : List α) (n : Nat) : Dl.cutD xs (some (n : Int)) none = xs.drop n := by
  unfold Dl.cutD
  rw [HT.sIx_nat, show HT.sIx xs.length xs.length none = xs.length from rfl]
  by_cases h : n ≤ xs.length
  · rw [Nat.min_eq_left h, List.take_of_length_le (by rw [List.length_drop]; exact Nat.le_refl _)]
  · rw [Nat.min_eq_right (by omega), List.drop_of_length_le (Nat.le_refl _), List.drop_of_length_le (by omega), List.take_nil]
theorem lc_ids {g : DG} {te : DE} {vs : List Nat} {fr : Fr} (f : D → D) {items : List D}
    (step : ∀ (x : D) (r : List D) (k : List D → Fr → Prop), x ∈ items → (dLcL g dYes te vs r fr fun ds fr6 => k (f x :: ds) fr6) →
      g (.sh x) fr (fun fr2 => dYes fr2 (fun b fr3 => Br b (te fr3 (fun rv fr4 => shr rv fr4 fun d fr5 => dLcL g dYes te vs r (wipeF fr5 vs) fun ds fr6 => k (d :: ds) fr6) nE) (dLcL g dYes te vs r (wipeF fr3 vs) k)) nE) nE)
    {k : List D → Fr → Prop} (h : k (items.map f) fr) : dLcL g dYes te vs items fr k := by
  have := lc_all (g := g) (te := te) (vs := vs) (fr := fr) id f (items := items) (fun x r k hx hk => step x r k hx hk) h
  rw [List.map_id] at this
  exact this
/-- no item passes -/
theorem lc_none {g : DG} {tt : DT} {te : DE} {vs : List Nat} {fr : Fr} {items : List D}
    (step : ∀ (x : D) (r : List D) (k : List D → Fr → Prop), x ∈ items → dLcL g tt te vs r fr k →
      g (.sh x) fr (fun fr2 => tt fr2 (fun b fr3 => Br b (te fr3 (fun rv fr4 => shr rv fr4 fun d fr5 => dLcL g tt te vs r (wipeF fr5 vs) fun ds fr6 => k (d :: ds) fr6) nE) (dLcL g tt te vs r (wipeF fr3 vs) k)) nE) nE)
    {k : List D → Fr → Prop} (h : k [] fr) : dLcL g tt te vs items fr k := by
  induction items with
  | nil => exact h
  | cons x t ih => exact step x t k List.mem_cons_self (ih fun y r k hy => step y r k (List.mem_cons_of_mem _ hy))
/-- as lc_all, where the frame may change in what does not count -/
theorem lc_allI {g : DG} {te : DE} {vs : List Nat} (Fp : Fr → Prop) {α : Type} (e : α → D) (f : α → D) {items : List α}
    (step : ∀ (x : α) (r : List D) (k : List D → Fr → Prop) (fr : Fr), x ∈ items → Fp fr → (∀ fr', Fp fr' → dLcL g dYes te vs r fr' fun ds fr6 => k (f x :: ds) fr6) →
      g (.sh (e x)) fr (fun fr2 => dYes fr2 (fun b fr3 => Br b (te fr3 (fun rv fr4 => shr rv fr4 fun d fr5 => dLcL g dYes te vs r (wipeF fr5 vs) fun ds fr6 => k (d :: ds) fr6) nE) (dLcL g dYes te vs r (wipeF fr3 vs) k)) nE) nE)
    {k : List D → Fr → Prop} {fr : Fr} (hf : Fp fr) (h : ∀ frN, Fp frN → k (items.map f) frN) : dLcL g dYes te vs (items.map e) fr k := by
  induction items generalizing k fr with
  | nil => exact h fr hf
  | cons x t ih =>
    refine step x (t.map e) k fr List.mem_cons_self hf fun fr' hf' => ?_
    exact ih (fun y r k fr2 hy => step y r k fr2 (List.mem_cons_of_mem _ hy)) hf' h
end Dl
namespace K35
open PySem PySem.Spec PyProof.Rows L2 Vx Dl
def topS (i : Nat) : Stmt := PySem.Challenge.pw_paircounts_k35_letters_of_runs.main.body.getD i (.Pass ⟨0, 0, 0, 0⟩)
abbrev st_is_integer : Stmt := topS 5
abbrev N_is_integer : List Str := ["value"]
theorem sc_is_integer : FnScope N_is_integer ["value"] (defScope st_is_integer) := ⟨rfl, rfl, rfl, by decide +kernel, rfl, by decide +kernel, by decide +kernel⟩
abbrev st_check_number : Stmt := topS 6
abbrev N_check_number : List Str := ["value", "least", "greatest"]
theorem sc_check_number : FnScope N_check_number ["value", "least", "greatest"] (defScope st_check_number) := ⟨rfl, rfl, rfl, by decide +kernel, rfl, by decide +kernel, by decide +kernel⟩
abbrev st_is_run : Stmt := topS 9
abbrev N_is_run : List Str := ["value", "letter", "number"]
theorem sc_is_run : FnScope N_is_run ["value"] (defScope st_is_run) := ⟨rfl, rfl, rfl, by decide +kernel, rfl, by decide +kernel, by decide +kernel⟩
abbrev st_is_runs : Stmt := topS 10
abbrev N_is_runs : List Str := ["value", "run", "after"]
theorem sc_is_runs : FnScope N_is_runs ["value"] (defScope st_is_runs) := ⟨rfl, rfl, rfl, by decide +kernel, rfl, by decide +kernel, by decide +kernel⟩
abbrev st_check_runs : Stmt := topS 11
abbrev N_check_runs : List Str := ["value"]
theorem sc_check_runs : FnScope N_check_runs ["value"] (defScope st_check_runs) := ⟨rfl, rfl, rfl, by decide +kernel, rfl, by decide +kernel, by decide +kernel⟩
abbrev st_letter_at : Stmt := topS 12
abbrev N_letter_at : List Str := ["runs", "place", "left", "letter", "number"]
theorem sc_letter_at : FnScope N_letter_at ["runs", "place"] (defScope st_letter_at) := ⟨rfl, rfl, rfl, by decide +kernel, rfl, by decide +kernel, by decide +kernel⟩
abbrev st_law_reel : Stmt := topS 14
abbrev N_law_reel : List Str := ["script", "stir", "cell", "great"]
theorem sc_law_reel : FnScope N_law_reel ["script"] (defScope st_law_reel) := ⟨rfl, rfl, rfl, by decide +kernel, rfl, by decide +kernel, by decide +kernel⟩
abbrev st_law_draw : Stmt := topS 15
abbrev N_law_draw : List Str := ["reel", "many", "rest", "extra", "stir"]
theorem sc_law_draw : FnScope N_law_draw ["reel", "many"] (defScope st_law_draw) := ⟨rfl, rfl, rfl, by decide +kernel, rfl, by decide +kernel, by decide +kernel⟩
abbrev st_law_runs : Stmt := topS 16
abbrev N_law_runs : List Str := ["reel", "many", "most", "found", "letter", "turn"]
theorem sc_law_runs : FnScope N_law_runs ["reel", "many", "most"] (defScope st_law_runs) := ⟨rfl, rfl, rfl, by decide +kernel, rfl, by decide +kernel, by decide +kernel⟩
abbrev st_law_spread : Stmt := topS 17
abbrev N_law_spread : List Str := ["runs", "letter", "number"]
theorem sc_law_spread : FnScope N_law_spread ["runs"] (defScope st_law_spread) := ⟨rfl, rfl, rfl, by decide +kernel, rfl, by decide +kernel, by decide +kernel⟩
abbrev st_law_short_right : Stmt := topS 18
abbrev N_law_short_right : List Str := ["runs", "text", "place"]
theorem sc_law_short_right : FnScope N_law_short_right ["runs"] (defScope st_law_short_right) := ⟨rfl, rfl, rfl, by decide +kernel, rfl, by decide +kernel, by decide +kernel⟩
abbrev st_law_far_right : Stmt := topS 19
abbrev N_law_far_right : List Str := ["reel", "runs", "letter", "number", "kept", "total", "begin", "some", "back", "place"]
theorem sc_law_far_right : FnScope N_law_far_right ["reel", "runs"] (defScope st_law_far_right) := ⟨rfl, rfl, rfl, by decide +kernel, rfl, by decide +kernel, by decide +kernel⟩
abbrev st_law : Stmt := topS 20
abbrev N_law : List Str := ["script", "reel", "k", "turn", "far", "one", "some", "place"]
theorem sc_law : FnScope N_law ["script"] (defScope st_law) := ⟨rfl, rfl, rfl, by decide +kernel, rfl, by decide +kernel, by decide +kernel⟩
end K35
namespace K35
open PySem PySem.Spec PyProof.Rows L2 Vx Dl
section
variable {P : Program} {w : World} {K : PySem.W.Frag} {mg : Str → Option Value} {base : Heap}
/-- is_integer -/
@[irreducible] def sp_is_integer : DSp := spB 1
    ((dRet (dAnd (dOne (isiD "int") (dVar 0)) (dNot (dOne (isiD "bool") (dVar 0))))))
theorem ok_is_integer {f : Addr} {fd : FuncData} (F : Fun K "is_integer" "is_integer" st_is_integer f fd) (m_isinstance : mg "isinstance" = none) (m_int : mg "int" = none) (m_bool : mg "bool" = none) : FnOk P w K mg base (L2N.CX P w) 1 f fd ["value"] (lift K 1 (sp_is_integer)) := by
  unfold sp_is_integer
  exact fnO (k := 0) F sc_is_integer (by decide) fun cdv A outer s H E hr tk =>
    (fss_one (fs_ret (fe_and (fe_isi (c := "int") (by decide) (by rfl) m_isinstance (fe_var (pv 0)) (pe_bltn (by rfl) m_int (by decide +kernel) (show RelV (.ty "int") (.type "int") from rfl))) (fe_one (fe_not (fe_isi (c := "bool") (by decide) (by rfl) m_isinstance (fe_var (pv 0)) (pe_bltn (by rfl) m_bool (by decide +kernel) (show RelV (.ty "bool") (.type "bool") from rfl))))))))
/-- check_number -/
@[irreducible] def sp_check_number (E_InvalidNumber : Addr) : DSp := spB 3
    ((dIfS (dOrT (dNotT (dTru (dCall 1 (sp_is_integer) [] [] (dCons (dVar 0) dNil)))) (dOrT (dTst (dTwo (ltD fun i j => decide (i < j)) (dVar 0) (dVar 1))) (dAndT (dTst (dTwo (isD true) (dVar 2) (dC .non))) (dTst (dTwo (ltD fun i j => decide (j < i)) (dVar 0) (dVar 2)))))) (dRaise E_InvalidNumber) dNext))
theorem ok_check_number {f f_is_integer E_InvalidNumber : Addr} {fd fd_is_integer : FuncData} (F : FunD K "check_number" "check_number" (defArgs st_check_number) (defBody st_check_number) (defScope st_check_number) [V.non] [] f fd) (F_is_integer : Fun K "is_integer" "is_integer" st_is_integer f_is_integer fd_is_integer) (G_is_integer : FnOk P w K mg base (L2N.CX P w) 1 f_is_integer fd_is_integer ["value"] (lift K 1 (sp_is_integer))) (b_is_integer : Binds K fd_is_integer ["value"] []) (g_is_integer : mg "is_integer" = some (.ref f_is_integer)) (T_InvalidNumber : ErrC K mg "InvalidNumber" E_InvalidNumber) : FnOk P w K mg base (L2N.CX P w) 2 f fd ["value", "least", "greatest"] (lift K 3 (sp_check_number E_InvalidNumber)) := by
  unfold sp_check_number
  exact fnOD (k := 1) F sc_check_number (by decide) fun cdv A outer s H E hr tk =>
    (fss_one (fs_if (FW.ft (fw_or (ft_not (ft_tru (fe_callO (m := []) G_is_integer (hr.mono (by decide)) (by rfl) g_is_integer F_is_integer.kp b_is_integer .nil (fun _ => .nil) tk (fa_cons (fe_var (pv 0)) fa_nil)) (by intro _; rfl))) (fw_or (ft_cmp op_lt opd_lt (fe_var (pv 0)) (fe_var (pv 1)) (nomark _)) (fw_or1 (FW.ft (fw_and (ft_cmp op_notN opd_isnot (fe_var (pv 2)) fe_non (nomark _)) (fw_and1 (ft_cmp op_gt opd_lt (fe_var (pv 0)) (fe_var (pv 2)) (nomark _))))))))) (fss_one (fs_err T_InvalidNumber rfl tk (by rfl))) fss_nil))
/-- _is_run -/
@[irreducible] def sp_is_run : DSp := spB 3
    ((dSeq (dIfS (dOrT (dTst (dOne (notTyD "tuple") (dVar 0))) (dTst (dTwo neD (dCallB lenD (dCons (dVar 0) dNil)) (dC (.int 2))))) (dRet (dC (.bl false))) dNext)
    (dSeq (dAsg (dVar 0) (dgTup 2 (dgCons (dgName 1) (dgCons (dgName 2) dgNil))))
    (dRet (dAnd (dOne (isiD "str") (dVar 1)) (dAnd (dTwo (inD false) (dVar 1) (dTup (dCons (dC (.str [97])) (dCons (dC (.str [98])) dNil)))) (dAnd (dCall 1 (sp_is_integer) [] [] (dCons (dVar 2) dNil)) (dTwo (ltD fun i j => decide (j ≤ i)) (dVar 2) (dC (.int 1))))))))))
theorem ok_is_run {f f_is_integer : Addr} {fd fd_is_integer : FuncData} (F : Fun K "_is_run" "_is_run" st_is_run f fd) (F_is_integer : Fun K "is_integer" "is_integer" st_is_integer f_is_integer fd_is_integer) (G_is_integer : FnOk P w K mg base (L2N.CX P w) 1 f_is_integer fd_is_integer ["value"] (lift K 1 (sp_is_integer))) (b_is_integer : Binds K fd_is_integer ["value"] []) (g_is_integer : mg "is_integer" = some (.ref f_is_integer)) (m_type : mg "type" = none) (m_tuple : mg "tuple" = none) (m_len : mg "len" = none) (m_isinstance : mg "isinstance" = none) (m_str : mg "str" = none) : FnOk P w K mg base (L2N.CX P w) 2 f fd ["value"] (lift K 1 (sp_is_run)) := by
  unfold sp_is_run
  exact fnO (k := 1) F sc_is_run (by decide) fun cdv A outer s H E hr tk =>
    (fss_cons (fs_if (FW.ft (fw_or (ft_notTy (by rfl) m_type (fe_var (pv 0)) (pe_bltn (by rfl) m_tuple (by decide +kernel) (show RelV (.ty "tuple") (.type "tuple") from rfl)) (nomark _)) (fw_or1 (ft_cmp (op_ne2 hr.units) opd_ne (fe_callB call_len3 calld_len (by rfl) m_len PySem.boot_len (fa_cons (fe_var (pv 0)) fa_nil)) fe_int (nomark _))))) (fss_one (fs_ret fe_bl)) fss_nil)
    (fss_cons (fs_asg (fe_var (pv 0)) (fg_tup rfl (fgs_cons anyP (fg_name (pg_name (i := 1) sc_is_run.nd rfl (Or.inl rfl)) (fun _ _ => trivial)) (fgs_cons anyP (fg_name (pg_name (i := 2) sc_is_run.nd rfl (Or.inl rfl)) (fun _ _ => trivial)) (fgs_nil anyP)))))
    (fss_one (fs_ret (fe_and (fe_isi (c := "str") (by decide) (by rfl) m_isinstance (fe_var (pv 1)) (pe_bltn (by rfl) m_str (by decide +kernel) (show RelV (.ty "str") (.type "str") from rfl))) (fe_and (fe_cmp op_in_seq (opd_in (neg := false)) (fe_var (pv 1)) (fe_tup (fa_cons (fe_str (a := [97])) (fa_cons (fe_str (a := [98])) fa_nil))) rfl) (fe_and (fe_callO (m := []) G_is_integer (hr.mono (by decide)) (by rfl) g_is_integer F_is_integer.kp b_is_integer .nil (fun _ => .nil) tk (fa_cons (fe_var (pv 2)) fa_nil)) (fe_one (fe_cmp op_ge opd_lt (fe_var (pv 2)) fe_int (nomark _))))))))))
/-- is_runs -/
@[irreducible] def sp_is_runs : DSp := spB 3
    ((dSeq (dIfS (dOrT (dTst (dOne (notTyD "list") (dVar 0))) (dOrT (dTst (dTwo (ltD fun i j => decide (j < i)) (dCallB lenD (dCons (dVar 0) dNil)) (dC (.int 40)))) (dNotT (dTru (dCallB allD (dCons (dLc (dIt selL (dVar 0)) (dgName 1) dYes (dCall 1 (sp_is_run) [] [] (dCons (dVar 1) dNil)) [1]) dNil)))))) (dRet (dC (.bl false))) dNext)
    (dRet (dCallB allD (dCons (dLc (dArgs selZ2 (dCons (dVar 0) (dCons (dSl (dVar 0) (dPart (dC (.int 1))) dNoPart) dNil))) (dgTup 2 (dgCons (dgName 1) (dgCons (dgName 2) dgNil))) dYes (dTwo neD (dTwo ixD (dVar 1) (dC (.int 0))) (dTwo ixD (dVar 2) (dC (.int 0)))) [1, 2]) dNil)))))
theorem ok_is_runs {f f_is_run : Addr} {fd fd_is_run : FuncData} {t_MR : Tok} (F : Fun K "is_runs" "is_runs" st_is_runs f fd) (F_is_run : Fun K "_is_run" "_is_run" st_is_run f_is_run fd_is_run) (G_is_run : FnOk P w K mg base (L2N.CX P w) 2 f_is_run fd_is_run ["value"] (lift K 1 (sp_is_run))) (b_is_run : Binds K fd_is_run ["value"] []) (g_is_run : mg "_is_run" = some (.ref f_is_run)) (m_type : mg "type" = none) (m_list : mg "list" = none) (m_len : mg "len" = none) (m_all : mg "all" = none) (m_zip : mg "zip" = none) (g_MOST_RUNS : mg "MOST_RUNS" = some (.int 40 t_MR)) : FnOk P w K mg base (L2N.CX P w) 3 f fd ["value"] (lift K 1 (sp_is_runs)) := by
  unfold sp_is_runs
  exact fnO (k := 2) F sc_is_runs (by decide) fun cdv A outer s H E hr tk =>
    (fss_cons (fs_if (FW.ft (fw_or (ft_notTy (by rfl) m_type (fe_var (pv 0)) (pe_bltn (by rfl) m_list (by decide +kernel) (show RelV (.ty "list") (.type "list") from rfl)) (nomark _)) (fw_or (ft_cmp op_gt opd_lt (fe_callB call_len3 calld_len (by rfl) m_len PySem.boot_len (fa_cons (fe_var (pv 0)) fa_nil)) (fe_glob (v := .int 40) (by rfl) g_MOST_RUNS ⟨_, rfl⟩ (fun _ => .int _)) (nomark _)) (fw_or1 (ft_not (ft_tru (fe_callB (cr_all rfl) calld_all (by rfl) m_all (by decide +kernel) (fa_cons (fe_lc (own := [("run", 1)]) rfl sc_is_runs.nd (pi_list (fe_var (pv 0))) it_list (blkOk_by (own := [("run", 1)]) (N := N_is_runs) (sc := defScope st_is_runs) (by decide +kernel)) (fun _ _ _ _ _ => (fg_name (pg_name (i := 1) sc_is_runs.nd rfl (Or.inl rfl)) (wipe_set (by decide)))) (fun _ _ _ _ _ => fts_nil) (fun _ _ _ _ _ => (fe_callO (m := []) G_is_run (hr.mono (by decide)) (by rfl) g_is_run F_is_run.kp b_is_run .nil (fun _ => .nil) takes0N (fa_cons (fe_var (pv 1)) fa_nil)))) fa_nil)) (by intro _; rfl))))))) (fss_one (fs_ret fe_bl)) fss_nil)
    (fss_one (fs_ret (fe_callB (cr_all rfl) calld_all (by rfl) m_all (by decide +kernel) (fa_cons (fe_lc (own := [("run", 1), ("after", 2)]) rfl sc_is_runs.nd (pi_zipS (by rfl) m_zip (fa_cons (fe_var (pv 0)) (fa_cons (fe_sl (fe_var (pv 0)) (fo_some fe_int) fo_none) fa_nil))) it_zipS (blkOk_by (own := [("run", 1), ("after", 2)]) (N := N_is_runs) (sc := defScope st_is_runs) (by decide +kernel)) (fun _ _ _ _ _ => (fg_tup rfl (fgs_cons wipeP (fg_name (pg_name (i := 1) sc_is_runs.nd rfl (Or.inl rfl)) (wipe_set (by decide))) (fgs_cons wipeP (fg_name (pg_name (i := 2) sc_is_runs.nd rfl (Or.inl rfl)) (wipe_set (by decide))) (fgs_nil wipeP))))) (fun _ _ _ _ _ => fts_nil) (fun _ _ _ _ _ => (fe_cmp (op_ne2 hr.units) opd_ne (fe_ix (fe_var (pv 1)) fe_int (fun _ _ => rfl)) (fe_ix (fe_var (pv 2)) fe_int (fun _ _ => rfl)) (nomark _)))) fa_nil)))))
/-- check_runs -/
@[irreducible] def sp_check_runs (E_InvalidRuns : Addr) : DSp := spB 1
    ((dIfS (dNotT (dTru (dCall 1 (sp_is_runs) [] [] (dCons (dVar 0) dNil)))) (dRaise E_InvalidRuns) dNext))
theorem ok_check_runs {f f_is_runs E_InvalidRuns : Addr} {fd fd_is_runs : FuncData} {t_MR : Tok} (F : Fun K "check_runs" "check_runs" st_check_runs f fd) (F_is_runs : Fun K "is_runs" "is_runs" st_is_runs f_is_runs fd_is_runs) (G_is_runs : FnOk P w K mg base (L2N.CX P w) 3 f_is_runs fd_is_runs ["value"] (lift K 1 (sp_is_runs))) (b_is_runs : Binds K fd_is_runs ["value"] []) (g_is_runs : mg "is_runs" = some (.ref f_is_runs)) (T_InvalidRuns : ErrC K mg "InvalidRuns" E_InvalidRuns) (g_MOST_RUNS : mg "MOST_RUNS" = some (.int 40 t_MR)) : FnOk P w K mg base (L2N.CX P w) 4 f fd ["value"] (lift K 1 (sp_check_runs E_InvalidRuns)) := by
  unfold sp_check_runs
  exact fnO (k := 3) F sc_check_runs (by decide) fun cdv A outer s H E hr tk =>
    (fss_one (fs_if (ft_not (ft_tru (fe_callO (m := []) G_is_runs (hr.mono (by decide)) (by rfl) g_is_runs F_is_runs.kp b_is_runs .nil (fun _ => .nil) tk (fa_cons (fe_var (pv 0)) fa_nil)) (by intro _; rfl))) (fss_one (fs_errF T_InvalidRuns rfl tk (by rfl) (pe_joined (.cons pe_str (.cons (pe_fmt (pe_glob (v := .int 40) (by rfl) g_MOST_RUNS ⟨_, rfl⟩)) (.cons pe_str .nil)))) (fun σ H Q q => by exact ⟨_, rfl, sz1 (Nat.le_of_ble_eq_true rfl), .inr ⟨40, rfl, by decide, _, rfl, sz1 (Nat.le_of_ble_eq_true rfl), _, rfl, sz1 (Nat.le_of_ble_eq_true rfl), rfl, q⟩⟩))) fss_nil))
/-- letter_at -/
@[irreducible] def sp_letter_at (E_InvalidNumber : Addr) (E_InvalidRuns : Addr) : DSp := spB 5
    ((dSeq (dExpr (dCall 1 (sp_check_runs E_InvalidRuns) [] [] (dCons (dVar 0) dNil)))
    (dSeq (dExpr (dCall 3 (sp_check_number E_InvalidNumber) [] [.non] (dCons (dVar 1) (dCons (dC (.int 0)) dNil))))
    (dSeq (dAsg (dVar 1) (dgName 2))
    (dSeq (dFor (dIt selL (dVar 0)) (dgTup 2 (dgCons (dgName 3) (dgCons (dgName 4) dgNil))) (dSeq (dIfS (dTst (dTwo (ltD fun i j => decide (i < j)) (dVar 2) (dVar 4))) (dRet (dVar 3)) dNext)
    (dAug 2 (fun i j => i - j) (dVar 4))))
    (dRaise E_InvalidNumber))))))
theorem ok_letter_at {f f_check_runs f_check_number E_InvalidNumber E_InvalidRuns : Addr} {fd fd_check_runs fd_check_number : FuncData} {ds_check_number : List Value} (F : Fun K "letter_at" "letter_at" st_letter_at f fd) (F_check_runs : Fun K "check_runs" "check_runs" st_check_runs f_check_runs fd_check_runs) (G_check_runs : FnOk P w K mg base (L2N.CX P w) 4 f_check_runs fd_check_runs ["value"] (lift K 1 (sp_check_runs E_InvalidRuns))) (b_check_runs : Binds K fd_check_runs ["value"] []) (g_check_runs : mg "check_runs" = some (.ref f_check_runs)) (F_check_number : FunD K "check_number" "check_number" (defArgs st_check_number) (defBody st_check_number) (defScope st_check_number) [V.non] [] f_check_number fd_check_number) (G_check_number : FnOk P w K mg base (L2N.CX P w) 2 f_check_number fd_check_number ["value", "least", "greatest"] (lift K 3 (sp_check_number E_InvalidNumber))) (b_check_number : Binds K fd_check_number ["value", "least", "greatest"] []) (g_check_number : mg "check_number" = some (.ref f_check_number)) (vd_check_number : Vals [V.non] ds_check_number) (bd_check_number : Binds K fd_check_number ["value", "least", "greatest"] ds_check_number) (T_InvalidNumber : ErrC K mg "InvalidNumber" E_InvalidNumber) : FnOk P w K mg base (L2N.CX P w) 5 f fd ["runs", "place"] (lift K 2 (sp_letter_at E_InvalidNumber E_InvalidRuns)) := by
  unfold sp_letter_at
  exact fnO (k := 4) F sc_letter_at (by decide) fun cdv A outer s H E hr tk =>
    (fss_cons (fs_expr (fe_callO (m := []) G_check_runs (hr.mono (by decide)) (by rfl) g_check_runs F_check_runs.kp b_check_runs .nil (fun _ => .nil) tk (fa_cons (fe_var (pv 0)) fa_nil)))
    (fss_cons (fs_expr (fe_callO (m := []) G_check_number (hr.mono (by decide)) (by rfl) g_check_number F_check_number.kp bd_check_number vd_check_number (fun _ => RA.cons R.non RA.nil) tk (fa_cons (fe_var (pv 1)) (fa_cons fe_int fa_nil))))
    (fss_cons (fs_set (i := 2) sc_letter_at.nd rfl (Or.inl rfl) (fe_var (pv 1)))
    (fss_cons (fs_for (passes_of rfl) rfl (pi_list (fe_var (pv 0))) it_list (fg_tup rfl (fgs_cons anyP (fg_name (pg_name (i := 3) sc_letter_at.nd rfl (Or.inl rfl)) (fun _ _ => trivial)) (fgs_cons anyP (fg_name (pg_name (i := 4) sc_letter_at.nd rfl (Or.inl rfl)) (fun _ _ => trivial)) (fgs_nil anyP)))) (fss_cons (fs_if (ft_cmp op_lt opd_lt (fe_var (pv 2)) (fe_var (pv 4)) (nomark _)) (fss_one (fs_ret (fe_var (pv 3)))) fss_nil)
    (fss_one (fs_aug (i := 2) sc_letter_at.nd rfl (Or.inl rfl) (fe_var (pv 4)) ip_sub))))
    (fss_one (fs_err T_InvalidNumber rfl tk (by rfl)))))))
/-- _law_reel -/
@[irreducible] def sp_law_reel : DSp := spB 4
    ((dSeq (dAsg (dTwo powD (dC (.int 37)) (dC (.int 24))) (dgName 1))
    (dSeq (dFor (dIt selL (dSl (dVar 0) dNoPart (dPart (dC (.int 59))))) (dgName 2) (dAsg (dTwo modD (dTwo addD (dTwo addD (dTwo mulD (dVar 1) (dVar 1)) (dTwo modD (dVar 2) (dC (.int 1000000000000000031)))) (dC (.int 37))) (dTwo subD (dTwo mulD (dTwo powD (dC (.int 2)) (dC (.int 64))) (dTwo powD (dC (.int 2)) (dC (.int 63)))) (dC (.int 1)))) (dgName 1)))
    (dSeq (dAsg (dLc (dIt selL (dSl (dVar 0) dNoPart (dPart (dC (.int 59))))) (dgName 2) (dTst (dTwo (ltD fun i j => decide (j ≤ i)) (dVar 2) (dTwo powD (dC (.int 10)) (dC (.int 18))))) (dTwo subD (dVar 2) (dTwo powD (dC (.int 10)) (dC (.int 18)))) [2]) (dgName 3))
    (dRet (dLst (dCons (dVar 3) (dCons (dTwo addD (dLc (dIt selL (dSl (dVar 0) dNoPart (dPart (dC (.int 59))))) (dgName 2) dYes (dTwo modD (dVar 2) (dC (.int 1000037))) [2]) (dLst (dCons (dC (.int 71)) dNil))) (dCons (dC (.int 0)) (dCons (dVar 1) dNil))))))))))
theorem ok_law_reel {f : Addr} {fd : FuncData} (F : Fun K "_law_reel" "_law_reel" st_law_reel f fd) : FnG P w K mg base (L2N.CX P w) 1 f fd ["script"] (lift K 1 (sp_law_reel)) := by
  unfold sp_law_reel
  exact fnD (k := 0) F sc_law_reel (by decide) fun cdv A outer s H E hgd hr tk =>
    (fss_cons (fs_set (i := 1) sc_law_reel.nd rfl (Or.inl rfl) (fe_op op_pow opd_pow fe_int fe_int))
    (fss_cons (fs_for (passes_of rfl) rfl (pi_list (fe_sl (fe_var (pv 0)) fo_none (fo_some fe_int))) it_list (fg_name (pg_name (i := 2) sc_law_reel.nd rfl (Or.inl rfl)) (fun _ _ => trivial)) (fss_one (fs_set (i := 1) sc_law_reel.nd rfl (Or.inl rfl) (fe_op op_mod opd_mod (fe_op op_add3 opd_add (fe_op op_add3 opd_add (fe_op op_mul3 opd_mul (fe_var (pv 1)) (fe_var (pv 1))) (fe_op op_mod opd_mod (fe_var (pv 2)) fe_int)) fe_int) (fe_op op_sub opd_sub (fe_op op_mul3 opd_mul (fe_op op_pow opd_pow fe_int fe_int) (fe_op op_pow opd_pow fe_int fe_int)) fe_int)))))
    (fss_cons (fs_setLc (i := 3) (own := [("cell", 2)]) rfl sc_law_reel.nd rfl rfl (sw_true rfl rfl rfl (by decide +kernel)) (pi_list (fe_sl (fe_var (pv 0)) fo_none (fo_some fe_int))) it_list (blkOk_by (own := [("cell", 2)]) (N := N_law_reel) (sc := defScope st_law_reel) (by decide +kernel)) (fun _ _ _ _ _ => (fg_name (pg_name (i := 2) sc_law_reel.nd rfl (Or.inl rfl)) (wipe_set (by decide)))) (fun _ _ _ _ _ => (fts_one (ft_cmp op_ge opd_lt (fe_var (pv 2)) (fe_op op_pow opd_pow fe_int fe_int) (nomark _)))) (fun _ _ _ _ _ => (fe_op op_sub opd_sub (fe_var (pv 2)) (fe_op op_pow opd_pow fe_int fe_int))))
    (fss_one (fs_ret (fe_lst (fa_cons (fe_var (pv 3)) (fa_cons (fe_op op_add3 opd_add (fe_lc (own := [("cell", 2)]) rfl sc_law_reel.nd (pi_list (fe_sl (fe_var (pv 0)) fo_none (fo_some fe_int))) it_list (blkOk_by (own := [("cell", 2)]) (N := N_law_reel) (sc := defScope st_law_reel) (by decide +kernel)) (fun _ _ _ _ _ => (fg_name (pg_name (i := 2) sc_law_reel.nd rfl (Or.inl rfl)) (wipe_set (by decide)))) (fun _ _ _ _ _ => fts_nil) (fun _ _ _ _ _ => (fe_op op_mod opd_mod (fe_var (pv 2)) fe_int))) (fe_lst (fa_cons fe_int fa_nil))) (fa_cons fe_int (fa_cons (fe_var (pv 1)) fa_nil))))))))))
/-- _law_draw -/
@[irreducible] def sp_law_draw : DSp := spB 5
    ((dSeq (dIfS (dTst (dTwo neD (dTwo ixD (dVar 0) (dC (.int 0))) (dLst dNil))) (dSeq (dAsg (dTwo ixD (dTwo ixD (dVar 0) (dC (.int 0))) (dC (.int 0))) (dgName 2))
    (dSeq (dAsg (dTwo addD (dTwo mulD (dLst (dCons (dTwo fdivD (dVar 2) (dVar 1)) dNil)) (dCallB intD (dCons (dTwo (ltD fun i j => decide (j ≤ i)) (dVar 2) (dVar 1)) dNil))) (dSl (dTwo ixD (dVar 0) (dC (.int 0))) (dPart (dC (.int 1))) dNoPart)) (dgSub (dVar 0) (dC (.int 0))))
    (dRet (dTwo modD (dVar 2) (dVar 1))))) dNext)
    (dSeq (dAsg (dTwo addD (dTwo ixD (dVar 0) (dC (.int 2))) (dC (.int 1))) (dgSub (dVar 0) (dC (.int 2))))
    (dSeq (dAsg (dTwo ixD (dTwo ixD (dVar 0) (dC (.int 1))) (dTwo modD (dTwo ixD (dVar 0) (dC (.int 2))) (dCallB lenD (dCons (dTwo ixD (dVar 0) (dC (.int 1))) dNil)))) (dgName 3))
    (dSeq (dAsg (dTwo addD (dTwo addD (dTwo mulD (dTwo ixD (dVar 0) (dC (.int 3))) (dTwo ixD (dVar 0) (dC (.int 3)))) (dTwo mulD (dTwo addD (dVar 3) (dC (.int 17))) (dC (.int 122949823)))) (dTwo mulD (dTwo ixD (dVar 0) (dC (.int 2))) (dC (.int 999979)))) (dgName 4))
    (dSeq (dAsg (dTwo modD (dVar 4) (dTwo subD (dTwo mulD (dTwo powD (dC (.int 2)) (dC (.int 64))) (dTwo powD (dC (.int 2)) (dC (.int 63)))) (dC (.int 1)))) (dgSub (dVar 0) (dC (.int 3))))
    (dRet (dTwo modD (dTwo fdivD (dTwo ixD (dVar 0) (dC (.int 3))) (dTwo powD (dC (.int 2)) (dC (.int 45)))) (dVar 1)))))))))
theorem ok_law_draw {f : Addr} {fd : FuncData} (F : Fun K "_law_draw" "_law_draw" st_law_draw f fd) (m_int : mg "int" = none) (m_len : mg "len" = none) : FnG P w K mg base (L2N.CX P w) 1 f fd ["reel", "many"] (lift K 2 (sp_law_draw)) := by
  unfold sp_law_draw
  exact fnD (k := 0) F sc_law_draw (by decide) fun cdv A outer s H E hgd hr tk =>
    (fss_cons (fs_if (ft_cmp (op_ne2 hr.units) opd_ne (fe_ix (fe_var (pv 0)) fe_int (fun _ _ => rfl)) (fe_lst fa_nil) (nomark _)) (fss_cons (fs_set (i := 2) sc_law_draw.nd rfl (Or.inl rfl) (fe_ix (fe_ix (fe_var (pv 0)) fe_int (fun _ _ => rfl)) fe_int (fun _ _ => rfl)))
    (fss_cons (fs_asg (fe_op op_add3 opd_add (fe_op op_mul3 opd_mul (fe_lst (fa_cons (fe_op op_fdivW opd_fdiv (fe_var (pv 2)) (fe_var (pv 1))) fa_nil)) (fe_callTy call_int1 calld_int (by rfl) m_int (by decide +kernel) (fa_cons (fe_cmp op_ge opd_lt (fe_var (pv 2)) (fe_var (pv 1)) (nomark _)) fa_nil))) (fe_sl (fe_ix (fe_var (pv 0)) fe_int (fun _ _ => rfl)) (fo_some fe_int) fo_none)) (fg_sub anyP (fe_var (pv 0)) fe_int))
    (fss_one (fs_ret (fe_op op_mod opd_mod (fe_var (pv 2)) (fe_var (pv 1))))))) fss_nil)
    (fss_cons (fs_asg (fe_op op_add3 opd_add (fe_ix (fe_var (pv 0)) fe_int (fun _ _ => rfl)) fe_int) (fg_sub anyP (fe_var (pv 0)) fe_int))
    (fss_cons (fs_set (i := 3) sc_law_draw.nd rfl (Or.inl rfl) (fe_ix (fe_ix (fe_var (pv 0)) fe_int (fun _ _ => rfl)) (fe_op op_mod opd_mod (fe_ix (fe_var (pv 0)) fe_int (fun _ _ => rfl)) (fe_callB call_len3 calld_len (by rfl) m_len PySem.boot_len (fa_cons (fe_ix (fe_var (pv 0)) fe_int (fun _ _ => rfl)) fa_nil))) (fun _ _ => rfl)))
    (fss_cons (fs_set (i := 4) sc_law_draw.nd rfl (Or.inl rfl) (fe_op op_add3 opd_add (fe_op op_add3 opd_add (fe_op op_mul3 opd_mul (fe_ix (fe_var (pv 0)) fe_int (fun _ _ => rfl)) (fe_ix (fe_var (pv 0)) fe_int (fun _ _ => rfl))) (fe_op op_mul3 opd_mul (fe_op op_add3 opd_add (fe_var (pv 3)) fe_int) fe_int)) (fe_op op_mul3 opd_mul (fe_ix (fe_var (pv 0)) fe_int (fun _ _ => rfl)) fe_int)))
    (fss_cons (fs_asg (fe_op op_mod opd_mod (fe_var (pv 4)) (fe_op op_sub opd_sub (fe_op op_mul3 opd_mul (fe_op op_pow opd_pow fe_int fe_int) (fe_op op_pow opd_pow fe_int fe_int)) fe_int)) (fg_sub anyP (fe_var (pv 0)) fe_int))
    (fss_one (fs_ret (fe_op op_mod opd_mod (fe_op op_fdivW opd_fdiv (fe_ix (fe_var (pv 0)) fe_int (fun _ _ => rfl)) (fe_op op_pow opd_pow fe_int fe_int)) (fe_var (pv 1))))))))))
/-- _law_runs -/
@[irreducible] def sp_law_runs : DSp := spB 6
    ((dSeq (dParT 3 4 (dLst dNil) (dTwo ixD (dC (.str [97, 98])) (dCall 2 (sp_law_draw) [true, false] [] (dCons (dVar 0) (dCons (dC (.int 2)) dNil)))))
    (dSeq (dFor (dRg1 (dCons (dCall 2 (sp_law_draw) [true, false] [] (dCons (dVar 0) (dCons (dTwo addD (dVar 1) (dC (.int 1))) dNil))) dNil)) (dgName 5) (dSeq (dExpr (dMut appendD (dVar 3) (dCons (dTup (dCons (dVar 4) (dCons (dTwo addD (dC (.int 1)) (dCall 2 (sp_law_draw) [true, false] [] (dCons (dVar 0) (dCons (dTwo ixD (dLst (dCons (dC (.int 1)) (dCons (dC (.int 4)) (dCons (dVar 2) dNil)))) (dCall 2 (sp_law_draw) [true, false] [] (dCons (dVar 0) (dCons (dC (.int 3)) dNil)))) dNil)))) dNil))) dNil)))
    (dAsg (dTwo dgetD (dDisp2 (dC (.str [97])) (dC (.str [98])) (dC (.str [98])) (dC (.str [97]))) (dVar 4)) (dgName 4))))
    (dRet (dVar 3)))))
theorem ok_law_runs {f f_law_draw : Addr} {fd fd_law_draw : FuncData} (F : Fun K "_law_runs" "_law_runs" st_law_runs f fd) (F_law_draw : Fun K "_law_draw" "_law_draw" st_law_draw f_law_draw fd_law_draw) (G_law_draw : FnG P w K mg base (L2N.CX P w) 1 f_law_draw fd_law_draw ["reel", "many"] (lift K 2 (sp_law_draw))) (b_law_draw : Binds K fd_law_draw ["reel", "many"] []) (g_law_draw : mg "_law_draw" = some (.ref f_law_draw)) (m_range : mg "range" = none) : FnG P w K mg base (L2N.CX P w) 2 f fd ["reel", "many", "most"] (lift K 3 (sp_law_runs)) := by
  unfold sp_law_runs
  exact fnD (k := 1) F sc_law_runs (by decide) fun cdv A outer s H E hgd hr tk =>
    (fss_cons (fs_parT (i := 3) (j := 4) (by rfl) sc_law_runs.nd rfl rfl (by decide) rfl rfl (fe_lst fa_nil) (fe_ix (fe_str (a := [97, 98])) (fe_callG (m := [true, false]) G_law_draw hgd (hr.mono (by decide)) (by rfl) g_law_draw F_law_draw.kp b_law_draw .nil (fun _ => .nil) tk (fa_cons (fe_var (pv 0)) (fa_cons fe_int fa_nil))) (fun _ _ => rfl)) (by rfl))
    (fss_cons (fs_for (passes_of rfl) rfl (pi_range1 (by rfl) m_range (fa_cons (fe_callG (m := [true, false]) G_law_draw hgd (hr.mono (by decide)) (by rfl) g_law_draw F_law_draw.kp b_law_draw .nil (fun _ => .nil) tk (fa_cons (fe_var (pv 0)) (fa_cons (fe_op op_add3 opd_add (fe_var (pv 1)) fe_int) fa_nil))) fa_nil)) it_rg1 (fg_name (pg_name (i := 5) sc_law_runs.nd rfl (Or.inl rfl)) (fun _ _ => trivial)) (fss_cons (fs_expr (fe_append (fe_var (pv 3)) (fa_cons (fe_tup (fa_cons (fe_var (pv 4)) (fa_cons (fe_op op_add3 opd_add fe_int (fe_callG (m := [true, false]) G_law_draw hgd (hr.mono (by decide)) (by rfl) g_law_draw F_law_draw.kp b_law_draw .nil (fun _ => .nil) tk (fa_cons (fe_var (pv 0)) (fa_cons (fe_ix (fe_lst (fa_cons fe_int (fa_cons fe_int (fa_cons (fe_var (pv 2)) fa_nil)))) (fe_callG (m := [true, false]) G_law_draw hgd (hr.mono (by decide)) (by rfl) g_law_draw F_law_draw.kp b_law_draw .nil (fun _ => .nil) tk (fa_cons (fe_var (pv 0)) (fa_cons fe_int fa_nil))) (fun _ _ => rfl)) fa_nil)))) fa_nil))) fa_nil)))
    (fss_one (fs_set (i := 4) sc_law_runs.nd rfl (Or.inl rfl) (fe_dget hr.units (fe_disp2 (fe_str (a := [97])) (fe_str (a := [98])) (fe_str (a := [98])) (fe_str (a := [97]))) (fe_var (pv 4)) (fun _ _ => rfl))))))
    (fss_one (fs_ret (fe_var (pv 3))))))
/-- _law_spread -/
@[irreducible] def sp_law_spread : DSp := spB 3
    ((dRet (dM1 joinD (dC (.str [])) (dLc (dIt selL (dVar 0)) (dgTup 2 (dgCons (dgName 1) (dgCons (dgName 2) dgNil))) dYes (dTwo mulD (dVar 1) (dVar 2)) [1, 2]))))
theorem ok_law_spread {f : Addr} {fd : FuncData} (F : Fun K "_law_spread" "_law_spread" st_law_spread f fd) : FnG P w K mg base (L2N.CX P w) 1 f fd ["runs"] (lift K 1 (sp_law_spread)) := by
  unfold sp_law_spread
  exact fnD (k := 0) F sc_law_spread (by decide) fun cdv A outer s H E hgd hr tk =>
    (fss_one (fs_ret (fe_join (fe_str (a := [])) (fe_lc (own := [("letter", 1), ("number", 2)]) rfl sc_law_spread.nd (pi_list (fe_var (pv 0))) it_list (blkOk_by (own := [("letter", 1), ("number", 2)]) (N := N_law_spread) (sc := defScope st_law_spread) (by decide +kernel)) (fun _ _ _ _ _ => (fg_tup rfl (fgs_cons wipeP (fg_name (pg_name (i := 1) sc_law_spread.nd rfl (Or.inl rfl)) (wipe_set (by decide))) (fgs_cons wipeP (fg_name (pg_name (i := 2) sc_law_spread.nd rfl (Or.inl rfl)) (wipe_set (by decide))) (fgs_nil wipeP))))) (fun _ _ _ _ _ => fts_nil) (fun _ _ _ _ _ => (fe_op op_mul3 opd_mul (fe_var (pv 1)) (fe_var (pv 2))))))))
/-- _law_short_right -/
@[irreducible] def sp_law_short_right (E_InvalidNumber : Addr) (E_InvalidRuns : Addr) : DSp := spB 3
    ((dSeq (dAsg (dCall 1 (sp_law_spread) [] [] (dCons (dVar 0) dNil)) (dgName 1))
    (dRet (dTwo eqD (dM1 joinD (dC (.str [])) (dLc (dRg1 (dCons (dCallB lenD (dCons (dVar 1) dNil)) dNil)) (dgName 2) dYes (dCall 2 (sp_letter_at E_InvalidNumber E_InvalidRuns) [] [] (dCons (dVar 0) (dCons (dVar 2) dNil))) [2])) (dVar 1)))))
theorem ok_law_short_right {f f_law_spread f_letter_at E_InvalidNumber E_InvalidRuns : Addr} {fd fd_law_spread fd_letter_at : FuncData} (F : Fun K "_law_short_right" "_law_short_right" st_law_short_right f fd) (F_law_spread : Fun K "_law_spread" "_law_spread" st_law_spread f_law_spread fd_law_spread) (G_law_spread : FnG P w K mg base (L2N.CX P w) 1 f_law_spread fd_law_spread ["runs"] (lift K 1 (sp_law_spread))) (b_law_spread : Binds K fd_law_spread ["runs"] []) (g_law_spread : mg "_law_spread" = some (.ref f_law_spread)) (F_letter_at : Fun K "letter_at" "letter_at" st_letter_at f_letter_at fd_letter_at) (G_letter_at : FnOk P w K mg base (L2N.CX P w) 5 f_letter_at fd_letter_at ["runs", "place"] (lift K 2 (sp_letter_at E_InvalidNumber E_InvalidRuns))) (b_letter_at : Binds K fd_letter_at ["runs", "place"] []) (g_letter_at : mg "letter_at" = some (.ref f_letter_at)) (m_len : mg "len" = none) (m_range : mg "range" = none) : FnG P w K mg base (L2N.CX P w) 6 f fd ["runs"] (lift K 1 (sp_law_short_right E_InvalidNumber E_InvalidRuns)) := by
  unfold sp_law_short_right
  exact fnD (k := 5) F sc_law_short_right (by decide) fun cdv A outer s H E hgd hr tk =>
    (fss_cons (fs_set (i := 1) sc_law_short_right.nd rfl (Or.inl rfl) (fe_callG (m := []) G_law_spread hgd (hr.mono (by decide)) (by rfl) g_law_spread F_law_spread.kp b_law_spread .nil (fun _ => .nil) tk (fa_cons (fe_var (pv 0)) fa_nil)))
    (fss_one (fs_ret (fe_cmp (op_eq2 hr.units) opd_eq (fe_join (fe_str (a := [])) (fe_lc (own := [("place", 2)]) rfl sc_law_short_right.nd (pi_range1 (by rfl) m_range (fa_cons (fe_callB call_len3 calld_len (by rfl) m_len PySem.boot_len (fa_cons (fe_var (pv 1)) fa_nil)) fa_nil)) it_rg1 (blkOk_by (own := [("place", 2)]) (N := N_law_short_right) (sc := defScope st_law_short_right) (by decide +kernel)) (fun _ _ _ _ _ => (fg_name (pg_name (i := 2) sc_law_short_right.nd rfl (Or.inl rfl)) (wipe_set (by decide)))) (fun _ _ _ _ _ => fts_nil) (fun _ _ _ _ _ => (fe_callO (m := []) G_letter_at (hr.mono (by decide)) (by rfl) g_letter_at F_letter_at.kp b_letter_at .nil (fun _ => .nil) takes0N (fa_cons (fe_var (pv 0)) (fa_cons (fe_var (pv 2)) fa_nil)))))) (fe_var (pv 1)) (nomark _)))))
/-- _law_far_right -/
@[irreducible] def sp_law_far_right (E_InvalidNumber : Addr) (E_InvalidRuns : Addr) : DSp := spB 10
    ((dSeq (dAsg (dTup (dCons (dCallB reprD (dCons (dVar 1) dNil)) (dCons (dCallB sumD (dCons (dLc (dIt selL (dVar 1)) (dgTup 2 (dgCons (dgName 2) (dgCons (dgName 3) dgNil))) dYes (dVar 3) [2, 3]) dNil)) (dCons (dC (.int 0)) dNil)))) (dgTup 3 (dgCons (dgName 4) (dgCons (dgName 5) (dgCons (dgName 6) dgNil)))))
    (dSeq (dFor (dIt selL (dVar 1)) (dgTup 2 (dgCons (dgName 2) (dgCons (dgName 3) dgNil))) (dSeq (dAsg (dLst (dCons (dVar 6) (dCons (dTwo subD (dTwo addD (dVar 6) (dVar 3)) (dC (.int 1))) (dCons (dTwo addD (dVar 6) (dTwo fdivD (dVar 3) (dC (.int 2)))) (dCons (dTwo addD (dVar 6) (dCall 2 (sp_law_draw) [true, false] [] (dCons (dVar 0) (dCons (dVar 3) dNil)))) dNil))))) (dgName 7))
    (dSeq (dIfS (dTst (dTwo neD (dLc (dIt selL (dVar 7)) (dgName 9) dYes (dCall 2 (sp_letter_at E_InvalidNumber E_InvalidRuns) [] [] (dCons (dVar 1) (dCons (dVar 9) dNil))) [9]) (dTwo mulD (dLst (dCons (dVar 2) dNil)) (dC (.int 4))))) (dRet (dC (.bl false))) dNext)
    (dSeq (dAsg (dLc (dIt selL (dVar 7)) (dgName 9) dYes (dTwo subD (dTwo subD (dVar 5) (dC (.int 1))) (dVar 9)) [9]) (dgName 8))
    (dSeq (dIfS (dTst (dTwo neD (dLc (dIt selL (dVar 8)) (dgName 9) dYes (dCall 2 (sp_letter_at E_InvalidNumber E_InvalidRuns) [] [] (dCons (dOne revLD (dVar 1)) (dCons (dVar 9) dNil))) [9]) (dTwo mulD (dLst (dCons (dVar 2) dNil)) (dC (.int 4))))) (dRet (dC (.bl false))) dNext)
    (dAsg (dTwo addD (dVar 6) (dVar 3)) (dgName 6)))))))
    (dRet (dTwo eqD (dCallB reprD (dCons (dVar 1) dNil)) (dVar 4))))))
theorem ok_law_far_right {f f_law_draw f_letter_at E_InvalidNumber E_InvalidRuns : Addr} {fd fd_law_draw fd_letter_at : FuncData} (F : Fun K "_law_far_right" "_law_far_right" st_law_far_right f fd) (F_law_draw : Fun K "_law_draw" "_law_draw" st_law_draw f_law_draw fd_law_draw) (G_law_draw : FnG P w K mg base (L2N.CX P w) 1 f_law_draw fd_law_draw ["reel", "many"] (lift K 2 (sp_law_draw))) (b_law_draw : Binds K fd_law_draw ["reel", "many"] []) (g_law_draw : mg "_law_draw" = some (.ref f_law_draw)) (F_letter_at : Fun K "letter_at" "letter_at" st_letter_at f_letter_at fd_letter_at) (G_letter_at : FnOk P w K mg base (L2N.CX P w) 5 f_letter_at fd_letter_at ["runs", "place"] (lift K 2 (sp_letter_at E_InvalidNumber E_InvalidRuns))) (b_letter_at : Binds K fd_letter_at ["runs", "place"] []) (g_letter_at : mg "letter_at" = some (.ref f_letter_at)) (m_sum : mg "sum" = none) (m_repr : mg "repr" = none) : FnG P w K mg base (L2N.CX P w) 6 f fd ["reel", "runs"] (lift K 2 (sp_law_far_right E_InvalidNumber E_InvalidRuns)) := by
  unfold sp_law_far_right
  exact fnD (k := 5) F sc_law_far_right (by decide) fun cdv A outer s H E hgd hr tk =>
    (fss_cons (fs_asg (fe_tup (fa_cons (fe_callB (call_repr2 hgd hr.units) calld_repr (by rfl) m_repr (by decide +kernel) (fa_cons (fe_var (pv 1)) fa_nil)) (fa_cons (fe_callB (cr_sum rfl) calld_sum (by rfl) m_sum (by decide +kernel) (fa_cons (fe_lc (own := [("letter", 2), ("number", 3)]) rfl sc_law_far_right.nd (pi_list (fe_var (pv 1))) it_list (blkOk_by (own := [("letter", 2), ("number", 3)]) (N := N_law_far_right) (sc := defScope st_law_far_right) (by decide +kernel)) (fun _ _ _ _ _ => (fg_tup rfl (fgs_cons wipeP (fg_name (pg_name (i := 2) sc_law_far_right.nd rfl (Or.inl rfl)) (wipe_set (by decide))) (fgs_cons wipeP (fg_name (pg_name (i := 3) sc_law_far_right.nd rfl (Or.inl rfl)) (wipe_set (by decide))) (fgs_nil wipeP))))) (fun _ _ _ _ _ => fts_nil) (fun _ _ _ _ _ => (fe_var (pv 3)))) fa_nil)) (fa_cons fe_int fa_nil)))) (fg_tup rfl (fgs_cons anyP (fg_name (pg_name (i := 4) sc_law_far_right.nd rfl (Or.inl rfl)) (fun _ _ => trivial)) (fgs_cons anyP (fg_name (pg_name (i := 5) sc_law_far_right.nd rfl (Or.inr rfl)) (fun _ _ => trivial)) (fgs_cons anyP (fg_name (pg_name (i := 6) sc_law_far_right.nd rfl (Or.inl rfl)) (fun _ _ => trivial)) (fgs_nil anyP))))))
    (fss_cons (fs_for (passes_of rfl) rfl (pi_list (fe_var (pv 1))) it_list (fg_tup rfl (fgs_cons anyP (fg_name (pg_name (i := 2) sc_law_far_right.nd rfl (Or.inl rfl)) (fun _ _ => trivial)) (fgs_cons anyP (fg_name (pg_name (i := 3) sc_law_far_right.nd rfl (Or.inl rfl)) (fun _ _ => trivial)) (fgs_nil anyP)))) (fss_cons (fs_set (i := 7) sc_law_far_right.nd rfl (Or.inl rfl) (fe_lst (fa_cons (fe_var (pv 6)) (fa_cons (fe_op op_sub opd_sub (fe_op op_add3 opd_add (fe_var (pv 6)) (fe_var (pv 3))) fe_int) (fa_cons (fe_op op_add3 opd_add (fe_var (pv 6)) (fe_op op_fdivW opd_fdiv (fe_var (pv 3)) fe_int)) (fa_cons (fe_op op_add3 opd_add (fe_var (pv 6)) (fe_callG (m := [true, false]) G_law_draw hgd (hr.mono (by decide)) (by rfl) g_law_draw F_law_draw.kp b_law_draw .nil (fun _ => .nil) tk (fa_cons (fe_var (pv 0)) (fa_cons (fe_var (pv 3)) fa_nil)))) fa_nil))))))
    (fss_cons (fs_if (ft_cmp (op_ne2 hr.units) opd_ne (fe_lc (own := [("place", 9)]) rfl sc_law_far_right.nd (pi_list (fe_var (pv 7))) it_list (blkOk_by (own := [("place", 9)]) (N := N_law_far_right) (sc := defScope st_law_far_right) (by decide +kernel)) (fun _ _ _ _ _ => (fg_name (pg_name (i := 9) sc_law_far_right.nd rfl (Or.inl rfl)) (wipe_set (by decide)))) (fun _ _ _ _ _ => fts_nil) (fun _ _ _ _ _ => (fe_callO (m := []) G_letter_at (hr.mono (by decide)) (by rfl) g_letter_at F_letter_at.kp b_letter_at .nil (fun _ => .nil) takes0N (fa_cons (fe_var (pv 1)) (fa_cons (fe_var (pv 9)) fa_nil))))) (fe_op op_mul3 opd_mul (fe_lst (fa_cons (fe_var (pv 2)) fa_nil)) fe_int) (nomark _)) (fss_one (fs_ret fe_bl)) fss_nil)
    (fss_cons (fs_setLc (i := 8) (own := [("place", 9)]) rfl sc_law_far_right.nd rfl rfl (sw_true rfl rfl rfl (by decide +kernel)) (pi_list (fe_var (pv 7))) it_list (blkOk_by (own := [("place", 9)]) (N := N_law_far_right) (sc := defScope st_law_far_right) (by decide +kernel)) (fun _ _ _ _ _ => (fg_name (pg_name (i := 9) sc_law_far_right.nd rfl (Or.inl rfl)) (wipe_set (by decide)))) (fun _ _ _ _ _ => fts_nil) (fun _ _ _ _ _ => (fe_op op_sub opd_sub (fe_op op_sub opd_sub (fe_var (pv 5)) fe_int) (fe_var (pv 9)))))
    (fss_cons (fs_if (ft_cmp (op_ne2 hr.units) opd_ne (fe_lc (own := [("place", 9)]) rfl sc_law_far_right.nd (pi_list (fe_var (pv 8))) it_list (blkOk_by (own := [("place", 9)]) (N := N_law_far_right) (sc := defScope st_law_far_right) (by decide +kernel)) (fun _ _ _ _ _ => (fg_name (pg_name (i := 9) sc_law_far_right.nd rfl (Or.inl rfl)) (wipe_set (by decide)))) (fun _ _ _ _ _ => fts_nil) (fun _ _ _ _ _ => (fe_callO (m := []) G_letter_at (hr.mono (by decide)) (by rfl) g_letter_at F_letter_at.kp b_letter_at .nil (fun _ => .nil) takes0N (fa_cons (fe_revL (fe_var (pv 1))) (fa_cons (fe_var (pv 9)) fa_nil))))) (fe_op op_mul3 opd_mul (fe_lst (fa_cons (fe_var (pv 2)) fa_nil)) fe_int) (nomark _)) (fss_one (fs_ret fe_bl)) fss_nil)
    (fss_one (fs_set (i := 6) sc_law_far_right.nd rfl (Or.inl rfl) (fe_op op_add3 opd_add (fe_var (pv 6)) (fe_var (pv 3))))))))))
    (fss_one (fs_ret (fe_cmp (op_eq2 hr.units) opd_eq (fe_callB (call_repr2 hgd hr.units) calld_repr (by rfl) m_repr (by decide +kernel) (fa_cons (fe_var (pv 1)) fa_nil)) (fe_var (pv 4)) (nomark _))))))
/-- law -/
@[irreducible] def sp_law (E_InvalidNumber : Addr) (E_InvalidRuns : Addr) : DSp := spB 8
    ((dSeq (dAsg (dCall 1 (sp_law_reel) [] [] (dCons (dVar 0) dNil)) (dgName 1))
    (dSeq (dFor (dRg1 (dCons (dTwo addD (dC (.int 2)) (dCallB minD (dCons (dCallB lenD (dCons (dVar 0) dNil)) (dCons (dC (.int 6)) dNil)))) dNil)) (dgName 2) (dSeq (dIfS (dNotT (dTru (dCall 1 (sp_law_short_right E_InvalidNumber E_InvalidRuns) [] [] (dCons (dCall 3 (sp_law_runs) [true, false, false] [] (dCons (dVar 1) (dCons (dC (.int 20)) (dCons (dC (.int 10)) dNil)))) dNil)))) (dRet (dC (.bl false))) dNext)
    (dFor (dRg1 (dCons (dC (.int 3)) dNil)) (dgName 3) (dIfS (dNotT (dTru (dCall 2 (sp_law_far_right E_InvalidNumber E_InvalidRuns) [true, false] [] (dCons (dVar 1) (dCons (dCall 3 (sp_law_runs) [true, false, false] [] (dCons (dVar 1) (dCons (dC (.int 40)) (dCons (dTwo ixD (dLst (dCons (dTwo powD (dC (.int 10)) (dC (.int 30))) (dCons (dC (.int 9)) dNil))) (dTwo modD (dVar 3) (dC (.int 2)))) dNil)))) dNil))))) (dRet (dC (.bl false))) dNext))))
    (dSeq (dFor (dIt selL (dLst (dCons (dTwo powD (dC (.int 10)) (dC (.int 30))) (dCons (dTwo powD (dC (.int 10)) (dC (.int 61))) dNil)))) (dgName 4) (dSeq (dAsg (dLst (dCons (dTup (dCons (dC (.str [97])) (dCons (dVar 4) dNil))) (dCons (dTup (dCons (dC (.str [98])) (dCons (dTwo mulD (dC (.int 2)) (dVar 4)) dNil))) (dCons (dTup (dCons (dC (.str [97])) (dCons (dVar 4) dNil))) dNil)))) (dgName 5))
    (dSeq (dAsg (dLst (dCons (dC (.int 0)) (dCons (dTwo subD (dVar 4) (dC (.int 1))) (dCons (dVar 4) (dCons (dTwo subD (dTwo mulD (dC (.int 3)) (dVar 4)) (dC (.int 1))) (dCons (dTwo mulD (dC (.int 3)) (dVar 4)) (dCons (dTwo subD (dTwo mulD (dC (.int 4)) (dVar 4)) (dC (.int 1))) dNil))))))) (dgName 6))
    (dIfS (dTst (dTwo neD (dLc (dIt selL (dVar 6)) (dgName 7) dYes (dCall 2 (sp_letter_at E_InvalidNumber E_InvalidRuns) [] [] (dCons (dVar 5) (dCons (dVar 7) dNil))) [7]) (dCallB listD (dCons (dC (.str [97, 97, 98, 98, 97, 97])) dNil)))) (dRet (dC (.bl false))) dNext))))
    (dRet (dC (.bl true)))))))
theorem ok0_law {f f_law_reel f_law_short_right f_law_runs f_law_far_right f_letter_at E_InvalidNumber E_InvalidRuns : Addr} {fd fd_law_reel fd_law_short_right fd_law_runs fd_law_far_right fd_letter_at : FuncData} (F : Fun K "law" "law" st_law f fd) (F_law_reel : Fun K "_law_reel" "_law_reel" st_law_reel f_law_reel fd_law_reel) (G_law_reel : FnG P w K mg base (L2N.CX P w) 1 f_law_reel fd_law_reel ["script"] (lift K 1 (sp_law_reel))) (b_law_reel : Binds K fd_law_reel ["script"] []) (g_law_reel : mg "_law_reel" = some (.ref f_law_reel)) (F_law_short_right : Fun K "_law_short_right" "_law_short_right" st_law_short_right f_law_short_right fd_law_short_right) (G_law_short_right : FnG P w K mg base (L2N.CX P w) 6 f_law_short_right fd_law_short_right ["runs"] (lift K 1 (sp_law_short_right E_InvalidNumber E_InvalidRuns))) (b_law_short_right : Binds K fd_law_short_right ["runs"] []) (g_law_short_right : mg "_law_short_right" = some (.ref f_law_short_right)) (F_law_runs : Fun K "_law_runs" "_law_runs" st_law_runs f_law_runs fd_law_runs) (G_law_runs : FnG P w K mg base (L2N.CX P w) 2 f_law_runs fd_law_runs ["reel", "many", "most"] (lift K 3 (sp_law_runs))) (b_law_runs : Binds K fd_law_runs ["reel", "many", "most"] []) (g_law_runs : mg "_law_runs" = some (.ref f_law_runs)) (F_law_far_right : Fun K "_law_far_right" "_law_far_right" st_law_far_right f_law_far_right fd_law_far_right) (G_law_far_right : FnG P w K mg base (L2N.CX P w) 6 f_law_far_right fd_law_far_right ["reel", "runs"] (lift K 2 (sp_law_far_right E_InvalidNumber E_InvalidRuns))) (b_law_far_right : Binds K fd_law_far_right ["reel", "runs"] []) (g_law_far_right : mg "_law_far_right" = some (.ref f_law_far_right)) (F_letter_at : Fun K "letter_at" "letter_at" st_letter_at f_letter_at fd_letter_at) (G_letter_at : FnOk P w K mg base (L2N.CX P w) 5 f_letter_at fd_letter_at ["runs", "place"] (lift K 2 (sp_letter_at E_InvalidNumber E_InvalidRuns))) (b_letter_at : Binds K fd_letter_at ["runs", "place"] []) (g_letter_at : mg "letter_at" = some (.ref f_letter_at)) (m_len : mg "len" = none) (m_min : mg "min" = none) (m_range : mg "range" = none) (m_list : mg "list" = none) : FnG P w K mg base (L2N.CX P w) 7 f fd ["script"] (lift K 1 (sp_law E_InvalidNumber E_InvalidRuns)) := by
  unfold sp_law
  exact fnD (k := 6) F sc_law (by decide) fun cdv A outer s H E hgd hr tk =>
    (fss_cons (fs_set (i := 1) sc_law.nd rfl (Or.inl rfl) (fe_callG (m := []) G_law_reel hgd (hr.mono (by decide)) (by rfl) g_law_reel F_law_reel.kp b_law_reel .nil (fun _ => .nil) tk (fa_cons (fe_var (pv 0)) fa_nil)))
    (fss_cons (fs_for (passes_of rfl) rfl (pi_range1 (by rfl) m_range (fa_cons (fe_op op_add3 opd_add fe_int (fe_callB (call_min2 rfl) calld_min (by rfl) m_min (by decide +kernel) (fa_cons (fe_callB call_len3 calld_len (by rfl) m_len PySem.boot_len (fa_cons (fe_var (pv 0)) fa_nil)) (fa_cons fe_int fa_nil)))) fa_nil)) it_rg1 (fg_name (pg_name (i := 2) sc_law.nd rfl (Or.inl rfl)) (fun _ _ => trivial)) (fss_cons (fs_if (ft_not (ft_tru (fe_callG (m := []) G_law_short_right hgd (hr.mono (by decide)) (by rfl) g_law_short_right F_law_short_right.kp b_law_short_right .nil (fun _ => .nil) tk (fa_cons (fe_callG (m := [true, false, false]) G_law_runs hgd (hr.mono (by decide)) (by rfl) g_law_runs F_law_runs.kp b_law_runs .nil (fun _ => .nil) tk (fa_cons (fe_var (pv 1)) (fa_cons fe_int (fa_cons fe_int fa_nil)))) fa_nil)) (by intro _; rfl))) (fss_one (fs_ret fe_bl)) fss_nil)
    (fss_one (fs_for (passes_of rfl) rfl (pi_range1 (by rfl) m_range (fa_cons fe_int fa_nil)) it_rg1 (fg_name (pg_name (i := 3) sc_law.nd rfl (Or.inl rfl)) (fun _ _ => trivial)) (fss_one (fs_if (ft_not (ft_tru (fe_callG (m := [true, false]) G_law_far_right hgd (hr.mono (by decide)) (by rfl) g_law_far_right F_law_far_right.kp b_law_far_right .nil (fun _ => .nil) tk (fa_cons (fe_var (pv 1)) (fa_cons (fe_callG (m := [true, false, false]) G_law_runs hgd (hr.mono (by decide)) (by rfl) g_law_runs F_law_runs.kp b_law_runs .nil (fun _ => .nil) tk (fa_cons (fe_var (pv 1)) (fa_cons fe_int (fa_cons (fe_ix (fe_lst (fa_cons (fe_op op_pow opd_pow fe_int fe_int) (fa_cons fe_int fa_nil))) (fe_op op_mod opd_mod (fe_var (pv 3)) fe_int) (fun _ _ => rfl)) fa_nil)))) fa_nil))) (by intro _; rfl))) (fss_one (fs_ret fe_bl)) fss_nil))))))
    (fss_cons (fs_for (passes_of rfl) rfl (pi_list (fe_lst (fa_cons (fe_op op_pow opd_pow fe_int fe_int) (fa_cons (fe_op op_pow opd_pow fe_int fe_int) fa_nil)))) it_list (fg_name (pg_name (i := 4) sc_law.nd rfl (Or.inl rfl)) (fun _ _ => trivial)) (fss_cons (fs_set (i := 5) sc_law.nd rfl (Or.inr rfl) (fe_lst (fa_cons (fe_tup (fa_cons (fe_str (a := [97])) (fa_cons (fe_var (pv 4)) fa_nil))) (fa_cons (fe_tup (fa_cons (fe_str (a := [98])) (fa_cons (fe_op op_mul3 opd_mul fe_int (fe_var (pv 4))) fa_nil))) (fa_cons (fe_tup (fa_cons (fe_str (a := [97])) (fa_cons (fe_var (pv 4)) fa_nil))) fa_nil)))))
    (fss_cons (fs_set (i := 6) sc_law.nd rfl (Or.inl rfl) (fe_lst (fa_cons fe_int (fa_cons (fe_op op_sub opd_sub (fe_var (pv 4)) fe_int) (fa_cons (fe_var (pv 4)) (fa_cons (fe_op op_sub opd_sub (fe_op op_mul3 opd_mul fe_int (fe_var (pv 4))) fe_int) (fa_cons (fe_op op_mul3 opd_mul fe_int (fe_var (pv 4))) (fa_cons (fe_op op_sub opd_sub (fe_op op_mul3 opd_mul fe_int (fe_var (pv 4))) fe_int) fa_nil))))))))
    (fss_one (fs_if (ft_cmp (op_ne2 hr.units) opd_ne (fe_lc (own := [("place", 7)]) rfl sc_law.nd (pi_list (fe_var (pv 6))) it_list (blkOk_by (own := [("place", 7)]) (N := N_law) (sc := defScope st_law) (by decide +kernel)) (fun _ _ _ _ _ => (fg_name (pg_name (i := 7) sc_law.nd rfl (Or.inl rfl)) (wipe_set (by decide)))) (fun _ _ _ _ _ => fts_nil) (fun _ _ _ _ _ => (fe_callO (m := []) G_letter_at (hr.mono (by decide)) (by rfl) g_letter_at F_letter_at.kp b_letter_at .nil (fun _ => .nil) takes0N (fa_cons (fe_var (pv 5)) (fa_cons (fe_var (pv 7)) fa_nil))))) (fe_callTy (call_list2 rfl) calld_list (by rfl) m_list (by decide +kernel) (fa_cons (fe_str (a := [97, 97, 98, 98, 97, 97])) fa_nil)) (nomark _)) (fss_one (fs_ret fe_bl)) fss_nil)))))
    (fss_one (fs_ret fe_bl)))))
end
end K35
namespace K35
open PySem PySem.Spec PyProof.Rows L2 Vx Dl
theorem b8 {m : Int} (h0 : 0 ≤ m) (h : m < 10 ^ 70) : m.natAbs < 2 ^ 8000 := Nat.lt_of_lt_of_le (show m.natAbs < 10 ^ 70 by omega) (Nat.le_trans (show 10 ^ 70 ≤ 2 ^ 300 by decide) (Nat.pow_le_pow_right (by decide) (by decide)))
abbrev MR : Int := 170141183460469231731687303715884105727
/-- the reel after at most n draws -/
def BagD (n : Nat) (d : D) : Prop := ∃ (z zg zc : Bool) (gs cs : List Int) (k st : Int), d = .lst z [.lst zg (gs.map .int), .lst zc (cs.map .int), .int k, .int st] ∧ (∀ g ∈ gs, 0 ≤ g) ∧ gs.length ≤ 61 ∧ 1 ≤ cs.length ∧ cs.length ≤ 61 ∧ (∀ c ∈ cs, 0 ≤ c ∧ c < 1000037) ∧ 0 ≤ k ∧ k ≤ n ∧ 0 ≤ st ∧ st < MR
theorem BagD.more {n m : Nat} {d : D} (h : BagD n d) (l : n ≤ m) : BagD m d := by
  obtain ⟨z, zg, zc, gs, cs, k, st, e, h1, h2, h3, h4, h5, h6, h7, h8⟩ := h
  exact ⟨z, zg, zc, gs, cs, k, st, e, h1, h2, h3, h4, h5, h6, by omega, h8⟩
theorem shp_ints (z : Bool) (ns : List Int) : shp (.lst z (ns.map D.int)) = true := (Lay.lst (k := 0) fun d hd => by obtain ⟨i, _, rfl⟩ := List.mem_map.mp hd; exact Lay.int).shp (by decide)
theorem d_law_draw {n : Nat} {b : D} {m : Int} (hb : BagD n b) (hn : n ≤ 1000000000) (hm : 1 ≤ m) (hmb : m.natAbs < 2 ^ 8000) {Q : Rv → List D → Prop} {Er} (q : ∀ (v : Int) (b' : D), 0 ≤ v → v < m → BagD (n + 1) b' → Q (.sh (.int v)) [b']) : sp_law_draw [.br b, .sh (.int m)] Q Er := by
  obtain ⟨z, zg, zc, gs, cs, k, st, rfl, hg, lg, lc1, lc2, hc, k0, kn, s0, s1⟩ := hb
  have m0 : (0 : Int) < m := by omega
  have md : ∀ x : Int, 0 ≤ x % m ∧ x % m < m := fun x => ⟨Int.emod_nonneg _ (by omega), Int.emod_lt_of_pos _ m0⟩
  unfold sp_law_draw
  (conv => whnf); repeat ((first | refine Sg.mk ?_ | refine Br.t (Nat.ble_eq_true_of_le (by (try simp only [List.length_cons, List.length_nil, List.length_map, List.length_append, List.length_range, List.length_zip, List.length_reverse, List.length_take, List.length_drop, rg_len]); omega)) ?_ | refine opt_of rfl ?_ | refine Br.t rfl ?_ | refine Br.f rfl ?_ | refine Br.t (by decide) ?_ | refine Br.f (by decide) ?_ | refine And.intro (rfl : okE _ _ = true) ?_ | refine And.intro (by decide) ?_ | refine And.intro ⟨rfl, rfl⟩ ?_ | refine And.intro (Eq.refl _) ?_ | refine opt_of at0 ?_ | refine opt_of at1 ?_ | refine And.intro (by omega) ?_ | refine And.intro (by (try simp only [List.length_cons, List.length_nil, List.length_map, List.length_append, List.length_range, List.length_zip, List.length_reverse, List.length_take, List.length_drop]); omega) ?_); conv => whnf)
  refine ⟨okE_shp (shp_ints _ _) (by decide +kernel), ?_⟩
  (conv => whnf); repeat ((first | refine Sg.mk ?_ | refine Br.t (Nat.ble_eq_true_of_le (by (try simp only [List.length_cons, List.length_nil, List.length_map, List.length_append, List.length_range, List.length_zip, List.length_reverse, List.length_take, List.length_drop, rg_len]); omega)) ?_ | refine opt_of rfl ?_ | refine Br.t rfl ?_ | refine Br.f rfl ?_ | refine Br.t (by decide) ?_ | refine Br.f (by decide) ?_ | refine And.intro (rfl : okE _ _ = true) ?_ | refine And.intro (by decide) ?_ | refine And.intro ⟨rfl, rfl⟩ ?_ | refine And.intro (Eq.refl _) ?_ | refine opt_of at0 ?_ | refine opt_of at1 ?_ | refine And.intro (by omega) ?_ | refine And.intro (by (try simp only [List.length_cons, List.length_nil, List.length_map, List.length_append, List.length_range, List.length_zip, List.length_reverse, List.length_take, List.length_drop]); omega) ?_); conv => whnf)
  cases gs with
  | cons g r =>
    refine Br.t (by rw [eqB_lst]; rfl) ?_
    (conv => whnf); repeat ((first | refine Sg.mk ?_ | refine Br.t (Nat.ble_eq_true_of_le (by (try simp only [List.length_cons, List.length_nil, List.length_map, List.length_append, List.length_range, List.length_zip, List.length_reverse, List.length_take, List.length_drop, rg_len]); omega)) ?_ | refine opt_of rfl ?_ | refine Br.t rfl ?_ | refine Br.f rfl ?_ | refine Br.t (by decide) ?_ | refine Br.f (by decide) ?_ | refine And.intro (rfl : okE _ _ = true) ?_ | refine And.intro (by decide) ?_ | refine And.intro ⟨rfl, rfl⟩ ?_ | refine And.intro (Eq.refl _) ?_ | refine opt_of at0 ?_ | refine opt_of at1 ?_ | refine And.intro (by omega) ?_ | refine And.intro (by (try simp only [List.length_cons, List.length_nil, List.length_map, List.length_append, List.length_range, List.length_zip, List.length_reverse, List.length_take, List.length_drop]); omega) ?_); conv => whnf)
    refine ⟨wide_div m0 hmb (by decide) (by decide), ?_⟩
    have hr : ∀ x ∈ r, 0 ≤ x := fun x hx => hg x (List.mem_cons_of_mem _ hx)
    have lr : r.length ≤ 60 := by rw [List.length_cons] at lg; omega
    have fin : ∀ g' : List Int, (∀ x ∈ g', 0 ≤ x) → g'.length ≤ 1 → ∀ z', Q (.sh (.int (g % m))) [.lst z [.lst z' ((g' ++ r).map D.int), .lst zc (cs.map .int), .int k, .int st]] := fun g' h1 h2 z' =>
      q _ _ (md g).1 (md g).2 ⟨z, z', zc, g' ++ r, cs, k, st, rfl, fun x hx => (List.mem_append.mp hx).elim (h1 x) (hr x), by rw [List.length_append]; omega, lc1, lc2, hc, k0, by omega, s0, s1⟩
    have hcut : Dl.cutD (List.map D.int (g :: r)) (some 1) none = r.map D.int := by rw [cut1]; rfl
    by_cases hge : m ≤ g
    · have hx : (List.replicate ((if (fun i j => decide (j ≤ i)) g m = true then 1 else 0 : Int)).toNat [D.int (g / m)]).flatten = [g / m].map D.int := by simp [hge]
      (conv => whnf); repeat ((first | refine Br.t (Nat.ble_eq_true_of_le (by (try simp only [List.length_cons, List.length_nil, List.length_map, List.length_append, List.length_range, List.length_zip, List.length_reverse, List.length_take, List.length_drop, rg_len]); omega)) ?_ | refine opt_of rfl ?_ | refine Br.t rfl ?_ | refine Br.f rfl ?_ | refine Br.t (by decide) ?_ | refine Br.f (by decide) ?_ | refine And.intro (rfl : okE _ _ = true) ?_ | refine And.intro (by decide) ?_ | refine And.intro ⟨rfl, rfl⟩ ?_ | refine And.intro (Eq.refl _) ?_ | refine opt_of at0 ?_ | refine opt_of at1 ?_ | refine And.intro (by omega) ?_ | refine And.intro (by (try simp only [List.length_cons, List.length_nil, List.length_map, List.length_append, List.length_range, List.length_zip, List.length_reverse, List.length_take, List.length_drop]); omega) ?_); conv => whnf)
      rw [hx, hcut, ← List.map_append]
      refine And.intro (by rw [List.length_map, List.length_map, List.length_cons, List.length_nil]; omega) ?_
      (conv => whnf); repeat ((first | refine Sg.mk ?_ | refine Br.t (Nat.ble_eq_true_of_le (by (try simp only [List.length_cons, List.length_nil, List.length_map, List.length_append, List.length_range, List.length_zip, List.length_reverse, List.length_take, List.length_drop, rg_len]); omega)) ?_ | refine opt_of rfl ?_ | refine Br.t rfl ?_ | refine Br.f rfl ?_ | refine Br.t (by decide) ?_ | refine Br.f (by decide) ?_ | refine And.intro (rfl : okE _ _ = true) ?_ | refine And.intro (by decide) ?_ | refine And.intro ⟨rfl, rfl⟩ ?_ | refine And.intro (Eq.refl _) ?_ | refine opt_of at0 ?_ | refine opt_of at1 ?_ | refine And.intro (by omega) ?_ | refine And.intro (by (try simp only [List.length_cons, List.length_nil, List.length_map, List.length_append, List.length_range, List.length_zip, List.length_reverse, List.length_take, List.length_drop]); omega) ?_); conv => whnf)
      exact fin [g / m] (fun x h => by rw [List.mem_singleton.mp h]; exact Int.ediv_nonneg (hg g (List.mem_cons_self ..)) (by omega)) (Nat.le_refl _) _
    · have hx : (List.replicate ((if (fun i j => decide (j ≤ i)) g m = true then 1 else 0 : Int)).toNat [D.int (g / m)]).flatten = ([] : List Int).map D.int := by simp [hge]
      (conv => whnf); repeat ((first | refine Br.t (Nat.ble_eq_true_of_le (by (try simp only [List.length_cons, List.length_nil, List.length_map, List.length_append, List.length_range, List.length_zip, List.length_reverse, List.length_take, List.length_drop, rg_len]); omega)) ?_ | refine opt_of rfl ?_ | refine Br.t rfl ?_ | refine Br.f rfl ?_ | refine Br.t (by decide) ?_ | refine Br.f (by decide) ?_ | refine And.intro (rfl : okE _ _ = true) ?_ | refine And.intro (by decide) ?_ | refine And.intro ⟨rfl, rfl⟩ ?_ | refine And.intro (Eq.refl _) ?_ | refine opt_of at0 ?_ | refine opt_of at1 ?_ | refine And.intro (by omega) ?_ | refine And.intro (by (try simp only [List.length_cons, List.length_nil, List.length_map, List.length_append, List.length_range, List.length_zip, List.length_reverse, List.length_take, List.length_drop]); omega) ?_); conv => whnf)
      rw [hx, hcut, ← List.map_append]
      refine And.intro (by rw [List.length_map, List.length_map, List.length_nil]; omega) ?_
      (conv => whnf); repeat ((first | refine Sg.mk ?_ | refine Br.t (Nat.ble_eq_true_of_le (by (try simp only [List.length_cons, List.length_nil, List.length_map, List.length_append, List.length_range, List.length_zip, List.length_reverse, List.length_take, List.length_drop, rg_len]); omega)) ?_ | refine opt_of rfl ?_ | refine Br.t rfl ?_ | refine Br.f rfl ?_ | refine Br.t (by decide) ?_ | refine Br.f (by decide) ?_ | refine And.intro (rfl : okE _ _ = true) ?_ | refine And.intro (by decide) ?_ | refine And.intro ⟨rfl, rfl⟩ ?_ | refine And.intro (Eq.refl _) ?_ | refine opt_of at0 ?_ | refine opt_of at1 ?_ | refine And.intro (by omega) ?_ | refine And.intro (by (try simp only [List.length_cons, List.length_nil, List.length_map, List.length_append, List.length_range, List.length_zip, List.length_reverse, List.length_take, List.length_drop]); omega) ?_); conv => whnf)
      exact fin [] (fun x h => nomatch h) (Nat.zero_le _) _
  | nil =>
    refine Br.f (by rw [eqB_lst]; rfl) ?_
    (conv => whnf); repeat ((first | refine Sg.mk ?_ | refine Br.t (Nat.ble_eq_true_of_le (by (try simp only [List.length_cons, List.length_nil, List.length_map, List.length_append, List.length_range, List.length_zip, List.length_reverse, List.length_take, List.length_drop, rg_len]); omega)) ?_ | refine opt_of rfl ?_ | refine Br.t rfl ?_ | refine Br.f rfl ?_ | refine Br.t (by decide) ?_ | refine Br.f (by decide) ?_ | refine And.intro (rfl : okE _ _ = true) ?_ | refine And.intro (by decide) ?_ | refine And.intro ⟨rfl, rfl⟩ ?_ | refine And.intro (Eq.refl _) ?_ | refine opt_of at0 ?_ | refine opt_of at1 ?_ | refine And.intro (by omega) ?_ | refine And.intro (by (try simp only [List.length_cons, List.length_nil, List.length_map, List.length_append, List.length_range, List.length_zip, List.length_reverse, List.length_take, List.length_drop]); omega) ?_); conv => whnf)
    have hl : (0 : Int) < ((cs.map D.int).length : Nat) := by rw [List.length_map]; omega
    obtain ⟨e, he, ⟨x, rfl, x0, x1⟩⟩ := pick (xs := cs.map D.int) (i := (k + 1) % ((cs.map D.int).length : Nat)) (P := fun d => ∃ x : Int, d = .int x ∧ 0 ≤ x ∧ x < 1000037) (fun d hd => by obtain ⟨c, h, rfl⟩ := List.mem_map.mp hd; exact ⟨c, rfl, hc c h⟩) (Int.emod_nonneg _ (by omega)) (Int.emod_lt_of_pos _ hl)
    refine opt_of he ?_
    (conv => whnf); repeat ((first | refine Sg.mk ?_ | refine Br.t (Nat.ble_eq_true_of_le (by (try simp only [List.length_cons, List.length_nil, List.length_map, List.length_append, List.length_range, List.length_zip, List.length_reverse, List.length_take, List.length_drop, rg_len]); omega)) ?_ | refine opt_of rfl ?_ | refine Br.t rfl ?_ | refine Br.f rfl ?_ | refine Br.t (by decide) ?_ | refine Br.f (by decide) ?_ | refine And.intro (rfl : okE _ _ = true) ?_ | refine And.intro (by decide) ?_ | refine And.intro ⟨rfl, rfl⟩ ?_ | refine And.intro (Eq.refl _) ?_ | refine opt_of at0 ?_ | refine opt_of at1 ?_ | refine And.intro (by omega) ?_ | refine And.intro (by (try simp only [List.length_cons, List.length_nil, List.length_map, List.length_append, List.length_range, List.length_zip, List.length_reverse, List.length_take, List.length_drop]); omega) ?_); conv => whnf)
    have bs : st.natAbs < 2 ^ 127 := by
      have : MR < 2 ^ 127 := by decide
      omega
    refine ⟨wide_mul bs bs (by decide) (by decide) (by decide), ?_⟩
    (conv => whnf); repeat ((first | refine Sg.mk ?_ | refine Br.t (Nat.ble_eq_true_of_le (by (try simp only [List.length_cons, List.length_nil, List.length_map, List.length_append, List.length_range, List.length_zip, List.length_reverse, List.length_take, List.length_drop, rg_len]); omega)) ?_ | refine opt_of rfl ?_ | refine Br.t rfl ?_ | refine Br.f rfl ?_ | refine Br.t (by decide) ?_ | refine Br.f (by decide) ?_ | refine And.intro (rfl : okE _ _ = true) ?_ | refine And.intro (by decide) ?_ | refine And.intro ⟨rfl, rfl⟩ ?_ | refine And.intro (Eq.refl _) ?_ | refine opt_of at0 ?_ | refine opt_of at1 ?_ | refine And.intro (by omega) ?_ | refine And.intro (by (try simp only [List.length_cons, List.length_nil, List.length_map, List.length_append, List.length_range, List.length_zip, List.length_reverse, List.length_take, List.length_drop]); omega) ?_); conv => whnf)
    refine ⟨wide_mul (a := 30) (b := 30) (by omega) (by decide) (by decide) (by decide) (by decide), ?_⟩
    (conv => whnf); repeat ((first | refine Sg.mk ?_ | refine Br.t (Nat.ble_eq_true_of_le (by (try simp only [List.length_cons, List.length_nil, List.length_map, List.length_append, List.length_range, List.length_zip, List.length_reverse, List.length_take, List.length_drop, rg_len]); omega)) ?_ | refine opt_of rfl ?_ | refine Br.t rfl ?_ | refine Br.f rfl ?_ | refine Br.t (by decide) ?_ | refine Br.f (by decide) ?_ | refine And.intro (rfl : okE _ _ = true) ?_ | refine And.intro (by decide) ?_ | refine And.intro ⟨rfl, rfl⟩ ?_ | refine And.intro (Eq.refl _) ?_ | refine opt_of at0 ?_ | refine opt_of at1 ?_ | refine And.intro (by omega) ?_ | refine And.intro (by (try simp only [List.length_cons, List.length_nil, List.length_map, List.length_append, List.length_range, List.length_zip, List.length_reverse, List.length_take, List.length_drop]); omega) ?_); conv => whnf)
    refine ⟨wide_mul (a := 62) (b := 30) (by omega) (by decide) (by decide) (by decide) (by decide), ?_⟩
    (conv => whnf); repeat ((first | refine Sg.mk ?_ | refine Br.t (Nat.ble_eq_true_of_le (by (try simp only [List.length_cons, List.length_nil, List.length_map, List.length_append, List.length_range, List.length_zip, List.length_reverse, List.length_take, List.length_drop, rg_len]); omega)) ?_ | refine opt_of rfl ?_ | refine Br.t rfl ?_ | refine Br.f rfl ?_ | refine Br.t (by decide) ?_ | refine Br.f (by decide) ?_ | refine And.intro (rfl : okE _ _ = true) ?_ | refine And.intro (by decide) ?_ | refine And.intro ⟨rfl, rfl⟩ ?_ | refine And.intro (Eq.refl _) ?_ | refine opt_of at0 ?_ | refine opt_of at1 ?_ | refine And.intro (by omega) ?_ | refine And.intro (by (try simp only [List.length_cons, List.length_nil, List.length_map, List.length_append, List.length_range, List.length_zip, List.length_reverse, List.length_take, List.length_drop]); omega) ?_); conv => whnf)
    refine ⟨⟨by decide, by decide, by decide⟩, ?_⟩
    (conv => whnf); repeat ((first | refine Sg.mk ?_ | refine Br.t (Nat.ble_eq_true_of_le (by (try simp only [List.length_cons, List.length_nil, List.length_map, List.length_append, List.length_range, List.length_zip, List.length_reverse, List.length_take, List.length_drop, rg_len]); omega)) ?_ | refine opt_of rfl ?_ | refine Br.t rfl ?_ | refine Br.f rfl ?_ | refine Br.t (by decide) ?_ | refine Br.f (by decide) ?_ | refine And.intro (rfl : okE _ _ = true) ?_ | refine And.intro (by decide) ?_ | refine And.intro ⟨rfl, rfl⟩ ?_ | refine And.intro (Eq.refl _) ?_ | refine opt_of at0 ?_ | refine opt_of at1 ?_ | refine And.intro (by omega) ?_ | refine And.intro (by (try simp only [List.length_cons, List.length_nil, List.length_map, List.length_append, List.length_range, List.length_zip, List.length_reverse, List.length_take, List.length_drop]); omega) ?_); conv => whnf)
    refine ⟨⟨by decide, by decide, by decide⟩, ?_⟩
    (conv => whnf); repeat ((first | refine Sg.mk ?_ | refine Br.t (Nat.ble_eq_true_of_le (by (try simp only [List.length_cons, List.length_nil, List.length_map, List.length_append, List.length_range, List.length_zip, List.length_reverse, List.length_take, List.length_drop, rg_len]); omega)) ?_ | refine opt_of rfl ?_ | refine Br.t rfl ?_ | refine Br.f rfl ?_ | refine Br.t (by decide) ?_ | refine Br.f (by decide) ?_ | refine And.intro (rfl : okE _ _ = true) ?_ | refine And.intro (by decide) ?_ | refine And.intro ⟨rfl, rfl⟩ ?_ | refine And.intro (Eq.refl _) ?_ | refine opt_of at0 ?_ | refine opt_of at1 ?_ | refine And.intro (by omega) ?_ | refine And.intro (by (try simp only [List.length_cons, List.length_nil, List.length_map, List.length_append, List.length_range, List.length_zip, List.length_reverse, List.length_take, List.length_drop]); omega) ?_); conv => whnf)
    refine ⟨wide_mul (a := 70) (b := 70) (by decide) (by decide) (by decide) (by decide) (by decide), ?_⟩
    (conv => whnf); repeat ((first | refine Sg.mk ?_ | refine Br.t (Nat.ble_eq_true_of_le (by (try simp only [List.length_cons, List.length_nil, List.length_map, List.length_append, List.length_range, List.length_zip, List.length_reverse, List.length_take, List.length_drop, rg_len]); omega)) ?_ | refine opt_of rfl ?_ | refine Br.t rfl ?_ | refine Br.f rfl ?_ | refine Br.t (by decide) ?_ | refine Br.f (by decide) ?_ | refine And.intro (rfl : okE _ _ = true) ?_ | refine And.intro (by decide) ?_ | refine And.intro ⟨rfl, rfl⟩ ?_ | refine And.intro (Eq.refl _) ?_ | refine opt_of at0 ?_ | refine opt_of at1 ?_ | refine And.intro (by omega) ?_ | refine And.intro (by (try simp only [List.length_cons, List.length_nil, List.length_map, List.length_append, List.length_range, List.length_zip, List.length_reverse, List.length_take, List.length_drop]); omega) ?_); conv => whnf)
    refine ⟨⟨by decide, by decide, by decide⟩, ?_⟩
    (conv => whnf); repeat ((first | refine Sg.mk ?_ | refine Br.t (Nat.ble_eq_true_of_le (by (try simp only [List.length_cons, List.length_nil, List.length_map, List.length_append, List.length_range, List.length_zip, List.length_reverse, List.length_take, List.length_drop, rg_len]); omega)) ?_ | refine opt_of rfl ?_ | refine Br.t rfl ?_ | refine Br.f rfl ?_ | refine Br.t (by decide) ?_ | refine Br.f (by decide) ?_ | refine And.intro (rfl : okE _ _ = true) ?_ | refine And.intro (by decide) ?_ | refine And.intro ⟨rfl, rfl⟩ ?_ | refine And.intro (Eq.refl _) ?_ | refine opt_of at0 ?_ | refine opt_of at1 ?_ | refine And.intro (by omega) ?_ | refine And.intro (by (try simp only [List.length_cons, List.length_nil, List.length_map, List.length_append, List.length_range, List.length_zip, List.length_reverse, List.length_take, List.length_drop]); omega) ?_); conv => whnf)
    refine ⟨wide_div (b := 50) (by decide) (by decide) (by decide) (by decide), ?_⟩
    (conv => whnf); repeat ((first | refine Sg.mk ?_ | refine Br.t (Nat.ble_eq_true_of_le (by (try simp only [List.length_cons, List.length_nil, List.length_map, List.length_append, List.length_range, List.length_zip, List.length_reverse, List.length_take, List.length_drop, rg_len]); omega)) ?_ | refine opt_of rfl ?_ | refine Br.t rfl ?_ | refine Br.f rfl ?_ | refine Br.t (by decide) ?_ | refine Br.f (by decide) ?_ | refine And.intro (rfl : okE _ _ = true) ?_ | refine And.intro (by decide) ?_ | refine And.intro ⟨rfl, rfl⟩ ?_ | refine And.intro (Eq.refl _) ?_ | refine opt_of at0 ?_ | refine opt_of at1 ?_ | refine And.intro (by omega) ?_ | refine And.intro (by (try simp only [List.length_cons, List.length_nil, List.length_map, List.length_append, List.length_range, List.length_zip, List.length_reverse, List.length_take, List.length_drop]); omega) ?_); conv => whnf)
    refine q _ _ (md _).1 (md _).2 ?_
    exact ⟨z, zg, zc, [], cs, k + 1, _, rfl, (fun x h => nomatch h), Nat.zero_le _, lc1, lc2, hc, by omega, by omega, Int.emod_nonneg _ (by decide), Int.emod_lt_of_pos _ (by decide)⟩
theorem d_law_reel {ns : List Int} (hl : ns.length ≤ 63) {Q : Rv → List D → Prop} {Er} (q : ∀ b, BagD 0 b → Q (.tm b) []) : sp_law_reel [.sh (.scr ns)] Q Er := by
  unfold sp_law_reel
  have hk : (Dl.cutD ns none (some 59)).length ≤ 59 := by rw [show (59 : Int) = ((59 : Nat) : Int) from rfl, cutD_to, List.length_take]; omega
  (conv => whnf); repeat ((first | refine Sg.mk ?_ | refine Br.t (Nat.ble_eq_true_of_le (by (try simp only [List.length_cons, List.length_nil, List.length_map, List.length_append, List.length_range, List.length_zip, List.length_reverse, List.length_take, List.length_drop, rg_len]); omega)) ?_ | refine opt_of rfl ?_ | refine Br.t rfl ?_ | refine Br.f rfl ?_ | refine Br.t (by decide) ?_ | refine Br.f (by decide) ?_ | refine And.intro (rfl : okE _ _ = true) ?_ | refine And.intro (by decide) ?_ | refine And.intro ⟨rfl, rfl⟩ ?_ | refine And.intro (Eq.refl _) ?_ | refine opt_of at0 ?_ | refine opt_of at1 ?_ | refine And.intro (by omega) ?_ | refine And.intro (by (try simp only [List.length_cons, List.length_nil, List.length_map, List.length_append, List.length_range, List.length_zip, List.length_reverse, List.length_take, List.length_drop]); omega) ?_); conv => whnf)
  refine ⟨⟨by decide, by decide, by decide⟩, ?_⟩
  (conv => whnf); repeat ((first | refine Sg.mk ?_ | refine Br.t (Nat.ble_eq_true_of_le (by (try simp only [List.length_cons, List.length_nil, List.length_map, List.length_append, List.length_range, List.length_zip, List.length_reverse, List.length_take, List.length_drop, rg_len]); omega)) ?_ | refine opt_of rfl ?_ | refine Br.t rfl ?_ | refine Br.f rfl ?_ | refine Br.t (by decide) ?_ | refine Br.f (by decide) ?_ | refine And.intro (rfl : okE _ _ = true) ?_ | refine And.intro (by decide) ?_ | refine And.intro ⟨rfl, rfl⟩ ?_ | refine And.intro (Eq.refl _) ?_ | refine opt_of at0 ?_ | refine opt_of at1 ?_ | refine And.intro (by omega) ?_ | refine And.intro (by (try simp only [List.length_cons, List.length_nil, List.length_map, List.length_append, List.length_range, List.length_zip, List.length_reverse, List.length_take, List.length_drop]); omega) ?_); conv => whnf)
  refine ⟨?_⟩
  refine loop_ind (fun ds fr => (∃ r : List Int, ds = r.map .int) ∧ ∃ t y, fr = ⟨[some (.sh (.scr ns)), some (.sh (.int t)), y, none], []⟩ ∧ 0 ≤ t ∧ t < MR) ?_ ?_ ⟨⟨_, rfl⟩, 37 ^ 24, none, rfl, by decide, by decide⟩
  · rintro d ds fr ⟨⟨r, e⟩, t, y, rfl, t0, t1⟩ ih
    match r, e with
    | c :: r, e =>
      cases e
      have bs : t.natAbs < 2 ^ 127 := by
        have : MR < 2 ^ 127 := by decide
        omega
      (conv => whnf); repeat ((first | refine Sg.mk ?_ | refine Br.t (Nat.ble_eq_true_of_le (by (try simp only [List.length_cons, List.length_nil, List.length_map, List.length_append, List.length_range, List.length_zip, List.length_reverse, List.length_take, List.length_drop, rg_len]); omega)) ?_ | refine opt_of rfl ?_ | refine Br.t rfl ?_ | refine Br.f rfl ?_ | refine Br.t (by decide) ?_ | refine Br.f (by decide) ?_ | refine And.intro (rfl : okE _ _ = true) ?_ | refine And.intro (by decide) ?_ | refine And.intro ⟨rfl, rfl⟩ ?_ | refine And.intro (Eq.refl _) ?_ | refine opt_of at0 ?_ | refine opt_of at1 ?_ | refine And.intro (by omega) ?_ | refine And.intro (by (try simp only [List.length_cons, List.length_nil, List.length_map, List.length_append, List.length_range, List.length_zip, List.length_reverse, List.length_take, List.length_drop]); omega) ?_); conv => whnf)
      refine ⟨wide_mul bs bs (by decide) (by decide) (by decide), ?_⟩
      (conv => whnf); repeat ((first | refine Sg.mk ?_ | refine Br.t (Nat.ble_eq_true_of_le (by (try simp only [List.length_cons, List.length_nil, List.length_map, List.length_append, List.length_range, List.length_zip, List.length_reverse, List.length_take, List.length_drop, rg_len]); omega)) ?_ | refine opt_of rfl ?_ | refine Br.t rfl ?_ | refine Br.f rfl ?_ | refine Br.t (by decide) ?_ | refine Br.f (by decide) ?_ | refine And.intro (rfl : okE _ _ = true) ?_ | refine And.intro (by decide) ?_ | refine And.intro ⟨rfl, rfl⟩ ?_ | refine And.intro (Eq.refl _) ?_ | refine opt_of at0 ?_ | refine opt_of at1 ?_ | refine And.intro (by omega) ?_ | refine And.intro (by (try simp only [List.length_cons, List.length_nil, List.length_map, List.length_append, List.length_range, List.length_zip, List.length_reverse, List.length_take, List.length_drop]); omega) ?_); conv => whnf)
      refine ⟨⟨by decide, by decide, by decide⟩, ?_⟩
      (conv => whnf); repeat ((first | refine Sg.mk ?_ | refine Br.t (Nat.ble_eq_true_of_le (by (try simp only [List.length_cons, List.length_nil, List.length_map, List.length_append, List.length_range, List.length_zip, List.length_reverse, List.length_take, List.length_drop, rg_len]); omega)) ?_ | refine opt_of rfl ?_ | refine Br.t rfl ?_ | refine Br.f rfl ?_ | refine Br.t (by decide) ?_ | refine Br.f (by decide) ?_ | refine And.intro (rfl : okE _ _ = true) ?_ | refine And.intro (by decide) ?_ | refine And.intro ⟨rfl, rfl⟩ ?_ | refine And.intro (Eq.refl _) ?_ | refine opt_of at0 ?_ | refine opt_of at1 ?_ | refine And.intro (by omega) ?_ | refine And.intro (by (try simp only [List.length_cons, List.length_nil, List.length_map, List.length_append, List.length_range, List.length_zip, List.length_reverse, List.length_take, List.length_drop]); omega) ?_); conv => whnf)
      refine ⟨⟨by decide, by decide, by decide⟩, ?_⟩
      (conv => whnf); repeat ((first | refine Sg.mk ?_ | refine Br.t (Nat.ble_eq_true_of_le (by (try simp only [List.length_cons, List.length_nil, List.length_map, List.length_append, List.length_range, List.length_zip, List.length_reverse, List.length_take, List.length_drop, rg_len]); omega)) ?_ | refine opt_of rfl ?_ | refine Br.t rfl ?_ | refine Br.f rfl ?_ | refine Br.t (by decide) ?_ | refine Br.f (by decide) ?_ | refine And.intro (rfl : okE _ _ = true) ?_ | refine And.intro (by decide) ?_ | refine And.intro ⟨rfl, rfl⟩ ?_ | refine And.intro (Eq.refl _) ?_ | refine opt_of at0 ?_ | refine opt_of at1 ?_ | refine And.intro (by omega) ?_ | refine And.intro (by (try simp only [List.length_cons, List.length_nil, List.length_map, List.length_append, List.length_range, List.length_zip, List.length_reverse, List.length_take, List.length_drop]); omega) ?_); conv => whnf)
      refine ⟨wide_mul (a := 70) (b := 70) (by decide) (by decide) (by decide) (by decide) (by decide), ?_⟩
      (conv => whnf); repeat ((first | refine Sg.mk ?_ | refine Br.t (Nat.ble_eq_true_of_le (by (try simp only [List.length_cons, List.length_nil, List.length_map, List.length_append, List.length_range, List.length_zip, List.length_reverse, List.length_take, List.length_drop, rg_len]); omega)) ?_ | refine opt_of rfl ?_ | refine Br.t rfl ?_ | refine Br.f rfl ?_ | refine Br.t (by decide) ?_ | refine Br.f (by decide) ?_ | refine And.intro (rfl : okE _ _ = true) ?_ | refine And.intro (by decide) ?_ | refine And.intro ⟨rfl, rfl⟩ ?_ | refine And.intro (Eq.refl _) ?_ | refine opt_of at0 ?_ | refine opt_of at1 ?_ | refine And.intro (by omega) ?_ | refine And.intro (by (try simp only [List.length_cons, List.length_nil, List.length_map, List.length_append, List.length_range, List.length_zip, List.length_reverse, List.length_take, List.length_drop]); omega) ?_); conv => whnf)
      exact ih _ ⟨⟨r, rfl⟩, _, _, rfl, Int.emod_nonneg _ (by decide), Int.emod_lt_of_pos _ (by decide)⟩
  · rintro fr ⟨_, t, y, rfl, t0, t1⟩
    (conv => whnf); repeat ((first | refine Sg.mk ?_ | refine Br.t (Nat.ble_eq_true_of_le (by (try simp only [List.length_cons, List.length_nil, List.length_map, List.length_append, List.length_range, List.length_zip, List.length_reverse, List.length_take, List.length_drop, rg_len]); omega)) ?_ | refine opt_of rfl ?_ | refine Br.t rfl ?_ | refine Br.f rfl ?_ | refine Br.t (by decide) ?_ | refine Br.f (by decide) ?_ | refine And.intro (rfl : okE _ _ = true) ?_ | refine And.intro (by decide) ?_ | refine And.intro ⟨rfl, rfl⟩ ?_ | refine And.intro (Eq.refl _) ?_ | refine opt_of at0 ?_ | refine opt_of at1 ?_ | refine And.intro (by omega) ?_ | refine And.intro (by (try simp only [List.length_cons, List.length_nil, List.length_map, List.length_append, List.length_range, List.length_zip, List.length_reverse, List.length_take, List.length_drop]); omega) ?_); conv => whnf)
    refine lc_some D.int (fun i => decide ((10 : Int) ^ (18 : Int).toNat ≤ i)) (fun i => .int (i - 10 ^ (18 : Int).toNat)) (fun i r k hi h1 h2 => ?_) ?_
    · (conv => whnf); repeat ((first | refine Sg.mk ?_ | refine Br.t (Nat.ble_eq_true_of_le (by (try simp only [List.length_cons, List.length_nil, List.length_map, List.length_append, List.length_range, List.length_zip, List.length_reverse, List.length_take, List.length_drop, rg_len]); omega)) ?_ | refine opt_of rfl ?_ | refine Br.t rfl ?_ | refine Br.f rfl ?_ | refine Br.t (by decide) ?_ | refine Br.f (by decide) ?_ | refine And.intro (rfl : okE _ _ = true) ?_ | refine And.intro (by decide) ?_ | refine And.intro ⟨rfl, rfl⟩ ?_ | refine And.intro (Eq.refl _) ?_ | refine opt_of at0 ?_ | refine opt_of at1 ?_ | refine And.intro (by omega) ?_ | refine And.intro (by (try simp only [List.length_cons, List.length_nil, List.length_map, List.length_append, List.length_range, List.length_zip, List.length_reverse, List.length_take, List.length_drop]); omega) ?_); conv => whnf)
      refine ⟨⟨by decide, by decide, by decide⟩, ?_⟩
      (conv => whnf); repeat ((first | refine Sg.mk ?_ | refine Br.t (Nat.ble_eq_true_of_le (by (try simp only [List.length_cons, List.length_nil, List.length_map, List.length_append, List.length_range, List.length_zip, List.length_reverse, List.length_take, List.length_drop, rg_len]); omega)) ?_ | refine opt_of rfl ?_ | refine Br.t rfl ?_ | refine Br.f rfl ?_ | refine Br.t (by decide) ?_ | refine Br.f (by decide) ?_ | refine And.intro (rfl : okE _ _ = true) ?_ | refine And.intro (by decide) ?_ | refine And.intro ⟨rfl, rfl⟩ ?_ | refine And.intro (Eq.refl _) ?_ | refine opt_of at0 ?_ | refine opt_of at1 ?_ | refine And.intro (by omega) ?_ | refine And.intro (by (try simp only [List.length_cons, List.length_nil, List.length_map, List.length_append, List.length_range, List.length_zip, List.length_reverse, List.length_take, List.length_drop]); omega) ?_); conv => whnf)
      refine Br.d (fun z => ?_) fun z => ?_
      · (conv => whnf); repeat ((first | refine Sg.mk ?_ | refine Br.t (Nat.ble_eq_true_of_le (by (try simp only [List.length_cons, List.length_nil, List.length_map, List.length_append, List.length_range, List.length_zip, List.length_reverse, List.length_take, List.length_drop, rg_len]); omega)) ?_ | refine opt_of rfl ?_ | refine Br.t rfl ?_ | refine Br.f rfl ?_ | refine Br.t (by decide) ?_ | refine Br.f (by decide) ?_ | refine And.intro (rfl : okE _ _ = true) ?_ | refine And.intro (by decide) ?_ | refine And.intro ⟨rfl, rfl⟩ ?_ | refine And.intro (Eq.refl _) ?_ | refine opt_of at0 ?_ | refine opt_of at1 ?_ | refine And.intro (by omega) ?_ | refine And.intro (by (try simp only [List.length_cons, List.length_nil, List.length_map, List.length_append, List.length_range, List.length_zip, List.length_reverse, List.length_take, List.length_drop]); omega) ?_); conv => whnf)
        refine ⟨⟨by decide, by decide, by decide⟩, ?_⟩
        (conv => whnf); repeat ((first | refine Sg.mk ?_ | refine Br.t (Nat.ble_eq_true_of_le (by (try simp only [List.length_cons, List.length_nil, List.length_map, List.length_append, List.length_range, List.length_zip, List.length_reverse, List.length_take, List.length_drop, rg_len]); omega)) ?_ | refine opt_of rfl ?_ | refine Br.t rfl ?_ | refine Br.f rfl ?_ | refine Br.t (by decide) ?_ | refine Br.f (by decide) ?_ | refine And.intro (rfl : okE _ _ = true) ?_ | refine And.intro (by decide) ?_ | refine And.intro ⟨rfl, rfl⟩ ?_ | refine And.intro (Eq.refl _) ?_ | refine opt_of at0 ?_ | refine opt_of at1 ?_ | refine And.intro (by omega) ?_ | refine And.intro (by (try simp only [List.length_cons, List.length_nil, List.length_map, List.length_append, List.length_range, List.length_zip, List.length_reverse, List.length_take, List.length_drop]); omega) ?_); conv => whnf)
        exact h1 (decide_eq_true z)
      · exact h2 (decide_eq_false z)
    · (conv => whnf); repeat ((first | refine Sg.mk ?_ | refine Br.t (Nat.ble_eq_true_of_le (by (try simp only [List.length_cons, List.length_nil, List.length_map, List.length_append, List.length_range, List.length_zip, List.length_reverse, List.length_take, List.length_drop, rg_len]); omega)) ?_ | refine opt_of rfl ?_ | refine Br.t rfl ?_ | refine Br.f rfl ?_ | refine Br.t (by decide) ?_ | refine Br.f (by decide) ?_ | refine And.intro (rfl : okE _ _ = true) ?_ | refine And.intro (by decide) ?_ | refine And.intro ⟨rfl, rfl⟩ ?_ | refine And.intro (Eq.refl _) ?_ | refine opt_of at0 ?_ | refine opt_of at1 ?_ | refine And.intro (by omega) ?_ | refine And.intro (by (try simp only [List.length_cons, List.length_nil, List.length_map, List.length_append, List.length_range, List.length_zip, List.length_reverse, List.length_take, List.length_drop]); omega) ?_); conv => whnf)
      refine lc_all D.int (fun i => .int (i % 1000037)) (fun i r k hi h1 => ?_) ?_
      · (conv => whnf); repeat ((first | refine Sg.mk ?_ | refine Br.t (Nat.ble_eq_true_of_le (by (try simp only [List.length_cons, List.length_nil, List.length_map, List.length_append, List.length_range, List.length_zip, List.length_reverse, List.length_take, List.length_drop, rg_len]); omega)) ?_ | refine opt_of rfl ?_ | refine Br.t rfl ?_ | refine Br.f rfl ?_ | refine Br.t (by decide) ?_ | refine Br.f (by decide) ?_ | refine And.intro (rfl : okE _ _ = true) ?_ | refine And.intro (by decide) ?_ | refine And.intro ⟨rfl, rfl⟩ ?_ | refine And.intro (Eq.refl _) ?_ | refine opt_of at0 ?_ | refine opt_of at1 ?_ | refine And.intro (by omega) ?_ | refine And.intro (by (try simp only [List.length_cons, List.length_nil, List.length_map, List.length_append, List.length_range, List.length_zip, List.length_reverse, List.length_take, List.length_drop]); omega) ?_); conv => whnf)
        exact h1
      · (conv => whnf); repeat ((first | refine Sg.mk ?_ | refine Br.t (Nat.ble_eq_true_of_le (by (try simp only [List.length_cons, List.length_nil, List.length_map, List.length_append, List.length_range, List.length_zip, List.length_reverse, List.length_take, List.length_drop, rg_len]); omega)) ?_ | refine opt_of rfl ?_ | refine Br.t rfl ?_ | refine Br.f rfl ?_ | refine Br.t (by decide) ?_ | refine Br.f (by decide) ?_ | refine And.intro (rfl : okE _ _ = true) ?_ | refine And.intro (by decide) ?_ | refine And.intro ⟨rfl, rfl⟩ ?_ | refine And.intro (Eq.refl _) ?_ | refine opt_of at0 ?_ | refine opt_of at1 ?_ | refine And.intro (by omega) ?_ | refine And.intro (by (try simp only [List.length_cons, List.length_nil, List.length_map, List.length_append, List.length_range, List.length_zip, List.length_reverse, List.length_take, List.length_drop]); omega) ?_); conv => whnf)
        refine q _ ⟨true, false, true, ((Dl.cutD ns none (some 59)).filter fun i => decide ((10 : Int) ^ (18 : Int).toNat ≤ i)).map fun i => i - 10 ^ (18 : Int).toNat, ((Dl.cutD ns none (some 59)).map fun i => i % 1000037) ++ [71], 0, t, ?_, ?_, ?_, ?_, ?_, ?_, by decide, by decide, t0, t1⟩
        · rw [List.map_append, List.map_map, List.map_map]; rfl
        · intro g hg
          obtain ⟨i, hi, rfl⟩ := List.mem_map.mp hg
          have := of_decide_eq_true (List.mem_filter.mp hi).2
          omega
        · rw [List.length_map]; exact Nat.le_trans (List.length_filter_le _ _) (by omega)
        · rw [List.length_append]; exact Nat.le_add_left _ _
        · rw [List.length_append, List.length_map, List.length_cons, List.length_nil]; omega
        · intro c hc
          rcases List.mem_append.mp hc with hc | hc
          · obtain ⟨i, hi, rfl⟩ := List.mem_map.mp hc
            exact ⟨Int.emod_nonneg _ (by decide), Int.emod_lt_of_pos _ (by decide)⟩
          · rw [List.mem_singleton.mp hc]; decide

end K35
namespace K35
open PySem PySem.Spec PyProof.Rows L2 Vx Dl
/-- values that the checks look at -/
def okX : D → Bool
  | .str a => Nat.ble a.length 5000
  | .non => true
  | .bl _ => true
  | .int _ => true
  | .lst _ _ => true
  | .tup _ => true
  | .dic _ _ => true
  | _ => false
theorem d_is_integer {v : D} (hv : okX v = true) {Q : Rv → List D → Prop} {Er} (h : Q (.sh (.bl (match v with | .int _ => true | _ => false))) []) : sp_is_integer [.sh v] Q Er := by
  unfold sp_is_integer
  cases v <;> first | (cases hv; done) | skip
  all_goals
    (conv => whnf); repeat ((first | refine Sg.mk ?_ | refine opt_of rfl ?_ | refine Br.t rfl ?_ | refine Br.f rfl ?_ | refine Br.t (by decide) ?_ | refine Br.f (by decide) ?_ | refine And.intro (rfl : okE _ _ = true) ?_ | refine And.intro (by decide) ?_ | refine And.intro ⟨rfl, rfl⟩ ?_ | refine And.intro (Eq.refl _) ?_); conv => whnf)
    exact h
/-- one run -/
def runB : D → Bool
  | .tup [.str l, .int n] => (decide (l = [97]) || decide (l = [98])) && decide (1 ≤ n)
  | _ => false
def okT : D → Prop
  | .tup xs => ∀ x ∈ xs, okX x = true
  | d => okX d = true
theorem runB_len {xs : List D} (h : xs.length ≠ 2) : runB (.tup xs) = false := by
  match xs, h with
  | [], _ => rfl
  | [x], _ => cases x <;> rfl
  | [x, y], h => exact absurd rfl h
  | x :: y :: z :: r, _ => cases x <;> cases y <;> rfl
theorem runB_str {x y : D} (h : ∀ l, x ≠ .str l) : runB (.tup [x, y]) = false := by
  cases x <;> first | rfl | exact absurd rfl (h _)
theorem inB_ab (l : List Nat) : inB (.str l) [.str [97], .str [98]] = (decide (l = [97]) || decide (l = [98])) := by
  show (eqB (.str [97]) (.str l) || (eqB (.str [98]) (.str l) || false)) = _
  rw [eqB_str, eqB_str, Bool.or_false, decide_eq_decide.mpr (eq_comm (a := [97]) (b := l)), decide_eq_decide.mpr (eq_comm (a := [98]) (b := l))]
theorem d_is_run {v : D} (hv : okT v) {Q : Rv → List D → Prop} {Er} (h : Q (.sh (.bl (runB v))) []) : sp_is_run [.sh v] Q Er := by
  unfold sp_is_run
  cases v <;> first | (cases hv; done) | skip
  case tup xs =>
    (conv => whnf); repeat ((first | refine Sg.mk ?_ | refine Br.t (Nat.ble_eq_true_of_le (by (try simp only [List.length_cons, List.length_nil, List.length_map, List.length_append, List.length_range, List.length_zip, List.length_reverse, List.length_take, List.length_drop, rg_len]); omega)) ?_ | refine opt_of rfl ?_ | refine Br.t rfl ?_ | refine Br.f rfl ?_ | refine Br.t (by decide) ?_ | refine Br.f (by decide) ?_ | refine And.intro (rfl : okE _ _ = true) ?_ | refine And.intro (by decide) ?_ | refine And.intro ⟨rfl, rfl⟩ ?_ | refine And.intro (Eq.refl _) ?_ | refine opt_of at0 ?_ | refine opt_of at1 ?_ | refine And.intro (by omega) ?_ | refine And.intro (by (try simp only [List.length_cons, List.length_nil, List.length_map, List.length_append, List.length_range, List.length_zip, List.length_reverse, List.length_take, List.length_drop]); omega) ?_); conv => whnf)
    refine Br.of (fun hn => ?_) (fun hn => ?_)
    · have hn' : (!decide ((xs.length : Int) = 2)) = true := hn
      rw [runB_len (by simp at hn'; omega)] at h
      (conv => whnf); repeat ((first | refine Sg.mk ?_ | refine Br.t (Nat.ble_eq_true_of_le (by (try simp only [List.length_cons, List.length_nil, List.length_map, List.length_append, List.length_range, List.length_zip, List.length_reverse, List.length_take, List.length_drop, rg_len]); omega)) ?_ | refine opt_of rfl ?_ | refine Br.t rfl ?_ | refine Br.f rfl ?_ | refine Br.t (by decide) ?_ | refine Br.f (by decide) ?_ | refine And.intro (rfl : okE _ _ = true) ?_ | refine And.intro (by decide) ?_ | refine And.intro ⟨rfl, rfl⟩ ?_ | refine And.intro (Eq.refl _) ?_ | refine opt_of at0 ?_ | refine opt_of at1 ?_ | refine And.intro (by omega) ?_ | refine And.intro (by (try simp only [List.length_cons, List.length_nil, List.length_map, List.length_append, List.length_range, List.length_zip, List.length_reverse, List.length_take, List.length_drop]); omega) ?_); conv => whnf)
      exact h
    · have hn' : (!decide ((xs.length : Int) = 2)) = false := hn
      have h2 : xs.length = 2 := by simp at hn'; omega
      clear hn hn'
      match xs, h2 with
      | [x, y], _ =>
      have hx : okX x = true := hv x (by simp)
      have hy : okX y = true := hv y (by simp)
      by_cases hs : ∃ l, x = .str l
      · obtain ⟨l, rfl⟩ := hs
        (conv => whnf); repeat ((first | refine Sg.mk ?_ | refine Br.t (Nat.ble_eq_true_of_le (by (try simp only [List.length_cons, List.length_nil, List.length_map, List.length_append, List.length_range, List.length_zip, List.length_reverse, List.length_take, List.length_drop, rg_len]); omega)) ?_ | refine opt_of rfl ?_ | refine Br.t rfl ?_ | refine Br.f rfl ?_ | refine Br.t (by decide) ?_ | refine Br.f (by decide) ?_ | refine And.intro (rfl : okE _ _ = true) ?_ | refine And.intro (by decide) ?_ | refine And.intro ⟨rfl, rfl⟩ ?_ | refine And.intro (Eq.refl _) ?_ | refine opt_of at0 ?_ | refine opt_of at1 ?_ | refine And.intro (by omega) ?_ | refine And.intro (by (try simp only [List.length_cons, List.length_nil, List.length_map, List.length_append, List.length_range, List.length_zip, List.length_reverse, List.length_take, List.length_drop]); omega) ?_); conv => whnf)
        rw [if_neg (by decide), inB_ab]
        cases hl : (decide (l = [97]) || decide (l = [98]))
        · rw [show runB (.tup [.str l, y]) = false by cases y <;> first | rfl | (show ((decide (l = [97]) || decide (l = [98])) && _) = false; rw [hl]; rfl)] at h
          refine Br.f rfl ?_
          exact h
        · refine Br.t rfl ?_
          (conv => whnf); repeat ((first | refine Sg.mk ?_ | refine Br.t (Nat.ble_eq_true_of_le (by (try simp only [List.length_cons, List.length_nil, List.length_map, List.length_append, List.length_range, List.length_zip, List.length_reverse, List.length_take, List.length_drop, rg_len]); omega)) ?_ | refine opt_of rfl ?_ | refine Br.t rfl ?_ | refine Br.f rfl ?_ | refine Br.t (by decide) ?_ | refine Br.f (by decide) ?_ | refine And.intro (rfl : okE _ _ = true) ?_ | refine And.intro (by decide) ?_ | refine And.intro ⟨rfl, rfl⟩ ?_ | refine And.intro (Eq.refl _) ?_ | refine opt_of at0 ?_ | refine opt_of at1 ?_ | refine And.intro (by omega) ?_ | refine And.intro (by (try simp only [List.length_cons, List.length_nil, List.length_map, List.length_append, List.length_range, List.length_zip, List.length_reverse, List.length_take, List.length_drop]); omega) ?_); conv => whnf)
          refine ⟨?_⟩
          refine d_is_integer hy ?_
          cases y <;> first | (cases hy; done) | skip
          case int =>
            rename_i n _
            (conv => whnf); repeat ((first | refine Sg.mk ?_ | refine Br.t (Nat.ble_eq_true_of_le (by (try simp only [List.length_cons, List.length_nil, List.length_map, List.length_append, List.length_range, List.length_zip, List.length_reverse, List.length_take, List.length_drop, rg_len]); omega)) ?_ | refine opt_of rfl ?_ | refine Br.t rfl ?_ | refine Br.f rfl ?_ | refine Br.t (by decide) ?_ | refine Br.f (by decide) ?_ | refine And.intro (rfl : okE _ _ = true) ?_ | refine And.intro (by decide) ?_ | refine And.intro ⟨rfl, rfl⟩ ?_ | refine And.intro (Eq.refl _) ?_ | refine opt_of at0 ?_ | refine opt_of at1 ?_ | refine And.intro (by omega) ?_ | refine And.intro (by (try simp only [List.length_cons, List.length_nil, List.length_map, List.length_append, List.length_range, List.length_zip, List.length_reverse, List.length_take, List.length_drop]); omega) ?_); conv => whnf)
            rw [show runB (.tup [.str l, .int n]) = decide (1 ≤ n) by show ((decide (l = [97]) || decide (l = [98])) && decide (1 ≤ n)) = _; rw [hl, Bool.true_and]] at h
            exact h
          all_goals
            (conv => whnf); repeat ((first | refine Sg.mk ?_ | refine Br.t (Nat.ble_eq_true_of_le (by (try simp only [List.length_cons, List.length_nil, List.length_map, List.length_append, List.length_range, List.length_zip, List.length_reverse, List.length_take, List.length_drop, rg_len]); omega)) ?_ | refine opt_of rfl ?_ | refine Br.t rfl ?_ | refine Br.f rfl ?_ | refine Br.t (by decide) ?_ | refine Br.f (by decide) ?_ | refine And.intro (rfl : okE _ _ = true) ?_ | refine And.intro (by decide) ?_ | refine And.intro ⟨rfl, rfl⟩ ?_ | refine And.intro (Eq.refl _) ?_ | refine opt_of at0 ?_ | refine opt_of at1 ?_ | refine And.intro (by omega) ?_ | refine And.intro (by (try simp only [List.length_cons, List.length_nil, List.length_map, List.length_append, List.length_range, List.length_zip, List.length_reverse, List.length_take, List.length_drop]); omega) ?_); conv => whnf)
            exact h
      · rw [runB_str fun l e => hs ⟨l, e⟩] at h
        cases x <;> first | (cases hx; done) | exact absurd ⟨_, rfl⟩ hs | skip
        all_goals
          (conv => whnf); repeat ((first | refine Sg.mk ?_ | refine Br.t (Nat.ble_eq_true_of_le (by (try simp only [List.length_cons, List.length_nil, List.length_map, List.length_append, List.length_range, List.length_zip, List.length_reverse, List.length_take, List.length_drop, rg_len]); omega)) ?_ | refine opt_of rfl ?_ | refine Br.t rfl ?_ | refine Br.f rfl ?_ | refine Br.t (by decide) ?_ | refine Br.f (by decide) ?_ | refine And.intro (rfl : okE _ _ = true) ?_ | refine And.intro (by decide) ?_ | refine And.intro ⟨rfl, rfl⟩ ?_ | refine And.intro (Eq.refl _) ?_ | refine opt_of at0 ?_ | refine opt_of at1 ?_ | refine And.intro (by omega) ?_ | refine And.intro (by (try simp only [List.length_cons, List.length_nil, List.length_map, List.length_append, List.length_range, List.length_zip, List.length_reverse, List.length_take, List.length_drop]); omega) ?_); conv => whnf)
          exact h
  all_goals
    (conv => whnf); repeat ((first | refine Sg.mk ?_ | refine Br.t (Nat.ble_eq_true_of_le (by (try simp only [List.length_cons, List.length_nil, List.length_map, List.length_append, List.length_range, List.length_zip, List.length_reverse, List.length_take, List.length_drop, rg_len]); omega)) ?_ | refine opt_of rfl ?_ | refine Br.t rfl ?_ | refine Br.f rfl ?_ | refine Br.t (by decide) ?_ | refine Br.f (by decide) ?_ | refine And.intro (rfl : okE _ _ = true) ?_ | refine And.intro (by decide) ?_ | refine And.intro ⟨rfl, rfl⟩ ?_ | refine And.intro (Eq.refl _) ?_ | refine opt_of at0 ?_ | refine opt_of at1 ?_ | refine And.intro (by omega) ?_ | refine And.intro (by (try simp only [List.length_cons, List.length_nil, List.length_map, List.length_append, List.length_range, List.length_zip, List.length_reverse, List.length_take, List.length_drop]); omega) ?_); conv => whnf)
    exact h
theorem zipD_id (xs ys : List D) : zipD xs ys = (xs.zip ys).map fun p => D.tup [p.1, p.2] := by
  have := zipD_map id id xs ys
  rw [List.map_id, List.map_id] at this
  exact this
def hdD : D → D
  | .tup (x :: _) => x
  | _ => .non
def runsB : D → Bool
  | .lst _ xs => decide (xs.length ≤ 40) && (xs.all runB && (xs.zip (xs.drop 1)).all fun t => !eqB (hdD t.1) (hdD t.2))
  | _ => false
def okR : D → Prop
  | .lst _ xs => ∀ x ∈ xs, okT x
  | d => okX d = true
theorem runB_of {x : D} (h : runB x = true) : ∃ l n, x = .tup [.str l, .int n] ∧ (l = [97] ∨ l = [98]) ∧ 1 ≤ n := by
  cases x <;> first | (cases h; done) | skip
  rename_i xs
  match xs, h with
  | [.str l, .int n], h =>
    have h : ((decide (l = [97]) || decide (l = [98])) && decide (1 ≤ n)) = true := h
    simp only [Bool.and_eq_true, Bool.or_eq_true, decide_eq_true_eq] at h
    exact ⟨l, n, rfl, h.1, h.2⟩
theorem d_is_runs {v : D} (hv : okR v) {Q : Rv → List D → Prop} {Er} (h : Q (.sh (.bl (runsB v))) []) : sp_is_runs [.sh v] Q Er := by
  unfold sp_is_runs
  cases v <;> first | (cases hv; done) | skip
  case lst z xs =>
    (conv => whnf); repeat ((first | refine Sg.mk ?_ | refine Br.t (Nat.ble_eq_true_of_le (by (try simp only [List.length_cons, List.length_nil, List.length_map, List.length_append, List.length_range, List.length_zip, List.length_reverse, List.length_take, List.length_drop, rg_len]); omega)) ?_ | refine opt_of rfl ?_ | refine Br.t rfl ?_ | refine Br.f rfl ?_ | refine Br.t (by decide) ?_ | refine Br.f (by decide) ?_ | refine And.intro (rfl : okE _ _ = true) ?_ | refine And.intro (by decide) ?_ | refine And.intro ⟨rfl, rfl⟩ ?_ | refine And.intro (Eq.refl _) ?_ | refine opt_of at0 ?_ | refine opt_of at1 ?_ | refine And.intro (by omega) ?_ | refine And.intro (by (try simp only [List.length_cons, List.length_nil, List.length_map, List.length_append, List.length_range, List.length_zip, List.length_reverse, List.length_take, List.length_drop]); omega) ?_); conv => whnf)
    refine Br.d (fun hn => ?_) fun hn => ?_
    · have hn' : (40 : Int) < (xs.length : Int) := hn
      rw [show runsB (.lst z xs) = false by show (decide (xs.length ≤ 40) && _) = false; rw [decide_eq_false (by omega)]; rfl] at h
      (conv => whnf); repeat ((first | refine Sg.mk ?_ | refine Br.t (Nat.ble_eq_true_of_le (by (try simp only [List.length_cons, List.length_nil, List.length_map, List.length_append, List.length_range, List.length_zip, List.length_reverse, List.length_take, List.length_drop, rg_len]); omega)) ?_ | refine opt_of rfl ?_ | refine Br.t rfl ?_ | refine Br.f rfl ?_ | refine Br.t (by decide) ?_ | refine Br.f (by decide) ?_ | refine And.intro (rfl : okE _ _ = true) ?_ | refine And.intro (by decide) ?_ | refine And.intro ⟨rfl, rfl⟩ ?_ | refine And.intro (Eq.refl _) ?_ | refine opt_of at0 ?_ | refine opt_of at1 ?_ | refine And.intro (by omega) ?_ | refine And.intro (by (try simp only [List.length_cons, List.length_nil, List.length_map, List.length_append, List.length_range, List.length_zip, List.length_reverse, List.length_take, List.length_drop]); omega) ?_); conv => whnf)
      exact h
    · have hn' : ¬ (40 : Int) < (xs.length : Int) := hn
      have h0 : runsB (.lst z xs) = (xs.all runB && (xs.zip (xs.drop 1)).all fun t => !eqB (hdD t.1) (hdD t.2)) := by
        show (decide (xs.length ≤ 40) && _) = _
        rw [decide_eq_true (by omega), Bool.true_and]
      rw [h0] at h
      (conv => whnf); repeat ((first | refine Sg.mk ?_ | refine Br.t (Nat.ble_eq_true_of_le (by (try simp only [List.length_cons, List.length_nil, List.length_map, List.length_append, List.length_range, List.length_zip, List.length_reverse, List.length_take, List.length_drop, rg_len]); omega)) ?_ | refine opt_of rfl ?_ | refine Br.t rfl ?_ | refine Br.f rfl ?_ | refine Br.t (by decide) ?_ | refine Br.f (by decide) ?_ | refine And.intro (rfl : okE _ _ = true) ?_ | refine And.intro (by decide) ?_ | refine And.intro ⟨rfl, rfl⟩ ?_ | refine And.intro (Eq.refl _) ?_ | refine opt_of at0 ?_ | refine opt_of at1 ?_ | refine And.intro (by omega) ?_ | refine And.intro (by (try simp only [List.length_cons, List.length_nil, List.length_map, List.length_append, List.length_range, List.length_zip, List.length_reverse, List.length_take, List.length_drop]); omega) ?_); conv => whnf)
      refine lc_ids (fun x => .bl (runB x)) (fun x r k hx hk => ?_) ?_
      · (conv => whnf); repeat ((first | refine Sg.mk ?_ | refine Br.t (Nat.ble_eq_true_of_le (by (try simp only [List.length_cons, List.length_nil, List.length_map, List.length_append, List.length_range, List.length_zip, List.length_reverse, List.length_take, List.length_drop, rg_len]); omega)) ?_ | refine opt_of rfl ?_ | refine Br.t rfl ?_ | refine Br.f rfl ?_ | refine Br.t (by decide) ?_ | refine Br.f (by decide) ?_ | refine And.intro (rfl : okE _ _ = true) ?_ | refine And.intro (by decide) ?_ | refine And.intro ⟨rfl, rfl⟩ ?_ | refine And.intro (Eq.refl _) ?_ | refine opt_of at0 ?_ | refine opt_of at1 ?_ | refine And.intro (by omega) ?_ | refine And.intro (by (try simp only [List.length_cons, List.length_nil, List.length_map, List.length_append, List.length_range, List.length_zip, List.length_reverse, List.length_take, List.length_drop]); omega) ?_); conv => whnf)
        refine ⟨?_⟩
        refine d_is_run (hv x hx) ?_
        exact hk
      · (conv => whnf); repeat ((first | refine Sg.mk ?_ | refine Br.t (Nat.ble_eq_true_of_le (by (try simp only [List.length_cons, List.length_nil, List.length_map, List.length_append, List.length_range, List.length_zip, List.length_reverse, List.length_take, List.length_drop, rg_len]); omega)) ?_ | refine opt_of rfl ?_ | refine Br.t rfl ?_ | refine Br.f rfl ?_ | refine Br.t (by decide) ?_ | refine Br.f (by decide) ?_ | refine And.intro (rfl : okE _ _ = true) ?_ | refine And.intro (by decide) ?_ | refine And.intro ⟨rfl, rfl⟩ ?_ | refine And.intro (Eq.refl _) ?_ | refine opt_of at0 ?_ | refine opt_of at1 ?_ | refine And.intro (by omega) ?_ | refine And.intro (by (try simp only [List.length_cons, List.length_nil, List.length_map, List.length_append, List.length_range, List.length_zip, List.length_reverse, List.length_take, List.length_drop]); omega) ?_); conv => whnf)
        refine opt_of (all_lc _ _) ?_
        rw [List.all_map]
        (conv => whnf); repeat ((first | refine Sg.mk ?_ | refine Br.t (Nat.ble_eq_true_of_le (by (try simp only [List.length_cons, List.length_nil, List.length_map, List.length_append, List.length_range, List.length_zip, List.length_reverse, List.length_take, List.length_drop, rg_len]); omega)) ?_ | refine opt_of rfl ?_ | refine Br.t rfl ?_ | refine Br.f rfl ?_ | refine Br.t (by decide) ?_ | refine Br.f (by decide) ?_ | refine And.intro (rfl : okE _ _ = true) ?_ | refine And.intro (by decide) ?_ | refine And.intro ⟨rfl, rfl⟩ ?_ | refine And.intro (Eq.refl _) ?_ | refine opt_of at0 ?_ | refine opt_of at1 ?_ | refine And.intro (by omega) ?_ | refine And.intro (by (try simp only [List.length_cons, List.length_nil, List.length_map, List.length_append, List.length_range, List.length_zip, List.length_reverse, List.length_take, List.length_drop]); omega) ?_); conv => whnf)
        rw [show xs.all ((fun b => b) ∘ runB) = xs.all runB from rfl]
        cases ha : xs.all runB
        · refine Br.t rfl ?_
          rw [ha, Bool.false_and] at h
          (conv => whnf); repeat ((first | refine Sg.mk ?_ | refine Br.t (Nat.ble_eq_true_of_le (by (try simp only [List.length_cons, List.length_nil, List.length_map, List.length_append, List.length_range, List.length_zip, List.length_reverse, List.length_take, List.length_drop, rg_len]); omega)) ?_ | refine opt_of rfl ?_ | refine Br.t rfl ?_ | refine Br.f rfl ?_ | refine Br.t (by decide) ?_ | refine Br.f (by decide) ?_ | refine And.intro (rfl : okE _ _ = true) ?_ | refine And.intro (by decide) ?_ | refine And.intro ⟨rfl, rfl⟩ ?_ | refine And.intro (Eq.refl _) ?_ | refine opt_of at0 ?_ | refine opt_of at1 ?_ | refine And.intro (by omega) ?_ | refine And.intro (by (try simp only [List.length_cons, List.length_nil, List.length_map, List.length_append, List.length_range, List.length_zip, List.length_reverse, List.length_take, List.length_drop]); omega) ?_); conv => whnf)
          exact h
        · refine Br.f rfl ?_
          rw [ha, Bool.true_and] at h
          (conv => whnf); repeat ((first | refine Sg.mk ?_ | refine Br.t (Nat.ble_eq_true_of_le (by (try simp only [List.length_cons, List.length_nil, List.length_map, List.length_append, List.length_range, List.length_zip, List.length_reverse, List.length_take, List.length_drop, rg_len]); omega)) ?_ | refine opt_of rfl ?_ | refine Br.t rfl ?_ | refine Br.f rfl ?_ | refine Br.t (by decide) ?_ | refine Br.f (by decide) ?_ | refine And.intro (rfl : okE _ _ = true) ?_ | refine And.intro (by decide) ?_ | refine And.intro ⟨rfl, rfl⟩ ?_ | refine And.intro (Eq.refl _) ?_ | refine opt_of at0 ?_ | refine opt_of at1 ?_ | refine And.intro (by omega) ?_ | refine And.intro (by (try simp only [List.length_cons, List.length_nil, List.length_map, List.length_append, List.length_range, List.length_zip, List.length_reverse, List.length_take, List.length_drop]); omega) ?_); conv => whnf)
          rw [cut1, zipD_id]
          (conv => whnf); repeat ((first | refine Sg.mk ?_ | refine Br.t (Nat.ble_eq_true_of_le (by (try simp only [List.length_cons, List.length_nil, List.length_map, List.length_append, List.length_range, List.length_zip, List.length_reverse, List.length_take, List.length_drop, rg_len]); omega)) ?_ | refine opt_of rfl ?_ | refine Br.t rfl ?_ | refine Br.f rfl ?_ | refine Br.t (by decide) ?_ | refine Br.f (by decide) ?_ | refine And.intro (rfl : okE _ _ = true) ?_ | refine And.intro (by decide) ?_ | refine And.intro ⟨rfl, rfl⟩ ?_ | refine And.intro (Eq.refl _) ?_ | refine opt_of at0 ?_ | refine opt_of at1 ?_ | refine And.intro (by omega) ?_ | refine And.intro (by (try simp only [List.length_cons, List.length_nil, List.length_map, List.length_append, List.length_range, List.length_zip, List.length_reverse, List.length_take, List.length_drop]); omega) ?_); conv => whnf)
          refine lc_all _ (fun t : D × D => .bl (!eqB (hdD t.1) (hdD t.2))) (fun t r k ht hk => ?_) ?_
          · obtain ⟨h1, h2⟩ := List.of_mem_zip ht
            obtain ⟨l1, n1, e1, _⟩ := runB_of (List.all_eq_true.mp ha _ h1)
            obtain ⟨l2, n2, e2, _⟩ := runB_of (List.all_eq_true.mp ha _ (List.mem_of_mem_drop h2))
            obtain ⟨t1, t2⟩ := t
            cases e1
            cases e2
            (conv => whnf); repeat ((first | refine Sg.mk ?_ | refine Br.t (Nat.ble_eq_true_of_le (by (try simp only [List.length_cons, List.length_nil, List.length_map, List.length_append, List.length_range, List.length_zip, List.length_reverse, List.length_take, List.length_drop, rg_len]); omega)) ?_ | refine opt_of rfl ?_ | refine Br.t rfl ?_ | refine Br.f rfl ?_ | refine Br.t (by decide) ?_ | refine Br.f (by decide) ?_ | refine And.intro (rfl : okE _ _ = true) ?_ | refine And.intro (by decide) ?_ | refine And.intro ⟨rfl, rfl⟩ ?_ | refine And.intro (Eq.refl _) ?_ | refine opt_of at0 ?_ | refine opt_of at1 ?_ | refine And.intro (by omega) ?_ | refine And.intro (by (try simp only [List.length_cons, List.length_nil, List.length_map, List.length_append, List.length_range, List.length_zip, List.length_reverse, List.length_take, List.length_drop]); omega) ?_); conv => whnf)
            exact hk
          · (conv => whnf); repeat ((first | refine Sg.mk ?_ | refine Br.t (Nat.ble_eq_true_of_le (by (try simp only [List.length_cons, List.length_nil, List.length_map, List.length_append, List.length_range, List.length_zip, List.length_reverse, List.length_take, List.length_drop, rg_len]); omega)) ?_ | refine opt_of rfl ?_ | refine Br.t rfl ?_ | refine Br.f rfl ?_ | refine Br.t (by decide) ?_ | refine Br.f (by decide) ?_ | refine And.intro (rfl : okE _ _ = true) ?_ | refine And.intro (by decide) ?_ | refine And.intro ⟨rfl, rfl⟩ ?_ | refine And.intro (Eq.refl _) ?_ | refine opt_of at0 ?_ | refine opt_of at1 ?_ | refine And.intro (by omega) ?_ | refine And.intro (by (try simp only [List.length_cons, List.length_nil, List.length_map, List.length_append, List.length_range, List.length_zip, List.length_reverse, List.length_take, List.length_drop]); omega) ?_); conv => whnf)
            refine opt_of (all_lc _ _) ?_
            rw [List.all_map]
            exact h
  all_goals
    (conv => whnf); repeat ((first | refine Sg.mk ?_ | refine Br.t (Nat.ble_eq_true_of_le (by (try simp only [List.length_cons, List.length_nil, List.length_map, List.length_append, List.length_range, List.length_zip, List.length_reverse, List.length_take, List.length_drop, rg_len]); omega)) ?_ | refine opt_of rfl ?_ | refine Br.t rfl ?_ | refine Br.f rfl ?_ | refine Br.t (by decide) ?_ | refine Br.f (by decide) ?_ | refine And.intro (rfl : okE _ _ = true) ?_ | refine And.intro (by decide) ?_ | refine And.intro ⟨rfl, rfl⟩ ?_ | refine And.intro (Eq.refl _) ?_ | refine opt_of at0 ?_ | refine opt_of at1 ?_ | refine And.intro (by omega) ?_ | refine And.intro (by (try simp only [List.length_cons, List.length_nil, List.length_map, List.length_append, List.length_range, List.length_zip, List.length_reverse, List.length_take, List.length_drop]); omega) ?_); conv => whnf)
    exact h
theorem d_check_runs {E : Addr} {v : D} (hv : okR v) {Q : Rv → List D → Prop} {Er : Addr → D → List D → Prop} (h : runsB v = true → Q (.sh .non) []) (he : runsB v = false → Er E noFld []) : sp_check_runs E [.sh v] Q Er := by
  unfold sp_check_runs
  (conv => whnf); repeat ((first | refine Sg.mk ?_ | refine Br.t (Nat.ble_eq_true_of_le (by (try simp only [List.length_cons, List.length_nil, List.length_map, List.length_append, List.length_range, List.length_zip, List.length_reverse, List.length_take, List.length_drop, rg_len]); omega)) ?_ | refine opt_of rfl ?_ | refine Br.t rfl ?_ | refine Br.f rfl ?_ | refine Br.t (by decide) ?_ | refine Br.f (by decide) ?_ | refine And.intro (rfl : okE _ _ = true) ?_ | refine And.intro (by decide) ?_ | refine And.intro ⟨rfl, rfl⟩ ?_ | refine And.intro (Eq.refl _) ?_ | refine opt_of at0 ?_ | refine opt_of at1 ?_ | refine And.intro (by omega) ?_ | refine And.intro (by (try simp only [List.length_cons, List.length_nil, List.length_map, List.length_append, List.length_range, List.length_zip, List.length_reverse, List.length_take, List.length_drop]); omega) ?_); conv => whnf)
  refine ⟨?_⟩
  refine d_is_runs hv ?_
  (conv => whnf); repeat ((first | refine Sg.mk ?_ | refine Br.t (Nat.ble_eq_true_of_le (by (try simp only [List.length_cons, List.length_nil, List.length_map, List.length_append, List.length_range, List.length_zip, List.length_reverse, List.length_take, List.length_drop, rg_len]); omega)) ?_ | refine opt_of rfl ?_ | refine Br.t rfl ?_ | refine Br.f rfl ?_ | refine Br.t (by decide) ?_ | refine Br.f (by decide) ?_ | refine And.intro (rfl : okE _ _ = true) ?_ | refine And.intro (by decide) ?_ | refine And.intro ⟨rfl, rfl⟩ ?_ | refine And.intro (Eq.refl _) ?_ | refine opt_of at0 ?_ | refine opt_of at1 ?_ | refine And.intro (by omega) ?_ | refine And.intro (by (try simp only [List.length_cons, List.length_nil, List.length_map, List.length_append, List.length_range, List.length_zip, List.length_reverse, List.length_take, List.length_drop]); omega) ?_); conv => whnf)
  cases hr : runsB v
  · refine Br.t rfl ?_
    (conv => whnf); repeat ((first | refine Sg.mk ?_ | refine Br.t (Nat.ble_eq_true_of_le (by (try simp only [List.length_cons, List.length_nil, List.length_map, List.length_append, List.length_range, List.length_zip, List.length_reverse, List.length_take, List.length_drop, rg_len]); omega)) ?_ | refine opt_of rfl ?_ | refine Br.t rfl ?_ | refine Br.f rfl ?_ | refine Br.t (by decide) ?_ | refine Br.f (by decide) ?_ | refine And.intro (rfl : okE _ _ = true) ?_ | refine And.intro (by decide) ?_ | refine And.intro ⟨rfl, rfl⟩ ?_ | refine And.intro (Eq.refl _) ?_ | refine opt_of at0 ?_ | refine opt_of at1 ?_ | refine And.intro (by omega) ?_ | refine And.intro (by (try simp only [List.length_cons, List.length_nil, List.length_map, List.length_append, List.length_range, List.length_zip, List.length_reverse, List.length_take, List.length_drop]); omega) ?_); conv => whnf)
    exact he hr
  · refine Br.f rfl ?_
    (conv => whnf); repeat ((first | refine Sg.mk ?_ | refine Br.t (Nat.ble_eq_true_of_le (by (try simp only [List.length_cons, List.length_nil, List.length_map, List.length_append, List.length_range, List.length_zip, List.length_reverse, List.length_take, List.length_drop, rg_len]); omega)) ?_ | refine opt_of rfl ?_ | refine Br.t rfl ?_ | refine Br.f rfl ?_ | refine Br.t (by decide) ?_ | refine Br.f (by decide) ?_ | refine And.intro (rfl : okE _ _ = true) ?_ | refine And.intro (by decide) ?_ | refine And.intro ⟨rfl, rfl⟩ ?_ | refine And.intro (Eq.refl _) ?_ | refine opt_of at0 ?_ | refine opt_of at1 ?_ | refine And.intro (by omega) ?_ | refine And.intro (by (try simp only [List.length_cons, List.length_nil, List.length_map, List.length_append, List.length_range, List.length_zip, List.length_reverse, List.length_take, List.length_drop]); omega) ?_); conv => whnf)
    exact h hr
/-- runs -/
abbrev Rs := List (Nat × Int)
def rD (p : Nat × Int) : D := .tup [.str [p.1], .int p.2]
def adjB (rs : Rs) : Bool := (rs.zip (rs.drop 1)).all fun t => !decide (t.1.1 = t.2.1)
structure Rn (rs : Rs) : Prop where
  len : rs.length ≤ 40
  all : ∀ p ∈ rs, (p.1 = 97 ∨ p.1 = 98) ∧ 1 ≤ p.2 ∧ p.2 ≤ 10 ^ 62
  adj : adjB rs = true
theorem rD_run {p : Nat × Int} (h : (p.1 = 97 ∨ p.1 = 98) ∧ 1 ≤ p.2) : runB (rD p) = true := by
  show ((decide ([p.1] = [97]) || decide ([p.1] = [98])) && decide (1 ≤ p.2)) = true
  rcases h.1 with e | e <;> simp [e, h.2]
theorem adj_map (rs : Rs) : (((rs.map rD).zip ((rs.map rD).drop 1)).all fun t => !eqB (hdD t.1) (hdD t.2)) = adjB rs := by
  unfold adjB
  rw [← List.map_drop, List.zip_map, List.all_map]
  refine congrArg _ (funext fun t => ?_)
  show (!decide ([t.1.1] = [t.2.1])) = _
  rw [decide_eq_decide.mpr (show [t.1.1] = [t.2.1] ↔ t.1.1 = t.2.1 by simp)]
theorem Rn.ok {rs : Rs} (z : Bool) (h : Rn rs) : runsB (.lst z (rs.map rD)) = true := by
  show (decide ((rs.map rD).length ≤ 40) && ((rs.map rD).all runB && _)) = true
  rw [adj_map, h.adj, List.length_map, decide_eq_true h.len, List.all_map, show rs.all (runB ∘ rD) = true from List.all_eq_true.mpr fun p hp => rD_run ⟨(h.all p hp).1, (h.all p hp).2.1⟩]
  rfl
theorem rs_okR (z : Bool) (rs : Rs) : okR (.lst z (rs.map rD)) := by
  intro x hx
  obtain ⟨p, _, rfl⟩ := List.mem_map.mp hx
  intro y hy
  simp only [List.mem_cons, List.not_mem_nil, or_false] at hy
  rcases hy with rfl | rfl <;> rfl
def numB (lo : Int) : D → Bool
  | .int n => decide (lo ≤ n)
  | _ => false
theorem d_check_num {E : Addr} {v : D} {lo : Int} (hv : okX v = true) {Q : Rv → List D → Prop} {Er : Addr → D → List D → Prop} (h : numB lo v = true → Q (.sh .non) []) (he : numB lo v = false → Er E noFld []) : sp_check_number E [.sh v, .sh (.int lo), .sh .non] Q Er := by
  unfold sp_check_number
  (conv => whnf); repeat ((first | refine Sg.mk ?_ | refine Br.t (Nat.ble_eq_true_of_le (by (try simp only [List.length_cons, List.length_nil, List.length_map, List.length_append, List.length_range, List.length_zip, List.length_reverse, List.length_take, List.length_drop, rg_len]); omega)) ?_ | refine opt_of rfl ?_ | refine Br.t rfl ?_ | refine Br.f rfl ?_ | refine Br.t (by decide) ?_ | refine Br.f (by decide) ?_ | refine And.intro (rfl : okE _ _ = true) ?_ | refine And.intro (by decide) ?_ | refine And.intro ⟨rfl, rfl⟩ ?_ | refine And.intro (Eq.refl _) ?_ | refine opt_of at0 ?_ | refine opt_of at1 ?_ | refine And.intro (by omega) ?_ | refine And.intro (by (try simp only [List.length_cons, List.length_nil, List.length_map, List.length_append, List.length_range, List.length_zip, List.length_reverse, List.length_take, List.length_drop]); omega) ?_); conv => whnf)
  refine ⟨?_⟩
  refine d_is_integer hv ?_
  cases v <;> first | (cases hv; done) | skip
  case int n =>
    (conv => whnf); repeat ((first | refine Sg.mk ?_ | refine Br.t (Nat.ble_eq_true_of_le (by (try simp only [List.length_cons, List.length_nil, List.length_map, List.length_append, List.length_range, List.length_zip, List.length_reverse, List.length_take, List.length_drop, rg_len]); omega)) ?_ | refine opt_of rfl ?_ | refine Br.t rfl ?_ | refine Br.f rfl ?_ | refine Br.t (by decide) ?_ | refine Br.f (by decide) ?_ | refine And.intro (rfl : okE _ _ = true) ?_ | refine And.intro (by decide) ?_ | refine And.intro ⟨rfl, rfl⟩ ?_ | refine And.intro (Eq.refl _) ?_ | refine opt_of at0 ?_ | refine opt_of at1 ?_ | refine And.intro (by omega) ?_ | refine And.intro (by (try simp only [List.length_cons, List.length_nil, List.length_map, List.length_append, List.length_range, List.length_zip, List.length_reverse, List.length_take, List.length_drop]); omega) ?_); conv => whnf)
    refine Br.d (fun z => ?_) fun z => ?_
    · (conv => whnf); repeat ((first | refine Sg.mk ?_ | refine Br.t (Nat.ble_eq_true_of_le (by (try simp only [List.length_cons, List.length_nil, List.length_map, List.length_append, List.length_range, List.length_zip, List.length_reverse, List.length_take, List.length_drop, rg_len]); omega)) ?_ | refine opt_of rfl ?_ | refine Br.t rfl ?_ | refine Br.f rfl ?_ | refine Br.t (by decide) ?_ | refine Br.f (by decide) ?_ | refine And.intro (rfl : okE _ _ = true) ?_ | refine And.intro (by decide) ?_ | refine And.intro ⟨rfl, rfl⟩ ?_ | refine And.intro (Eq.refl _) ?_ | refine opt_of at0 ?_ | refine opt_of at1 ?_ | refine And.intro (by omega) ?_ | refine And.intro (by (try simp only [List.length_cons, List.length_nil, List.length_map, List.length_append, List.length_range, List.length_zip, List.length_reverse, List.length_take, List.length_drop]); omega) ?_); conv => whnf)
      exact he (decide_eq_false (by have z' : n < lo := z; omega))
    · (conv => whnf); repeat ((first | refine Sg.mk ?_ | refine Br.t (Nat.ble_eq_true_of_le (by (try simp only [List.length_cons, List.length_nil, List.length_map, List.length_append, List.length_range, List.length_zip, List.length_reverse, List.length_take, List.length_drop, rg_len]); omega)) ?_ | refine opt_of rfl ?_ | refine Br.t rfl ?_ | refine Br.f rfl ?_ | refine Br.t (by decide) ?_ | refine Br.f (by decide) ?_ | refine And.intro (rfl : okE _ _ = true) ?_ | refine And.intro (by decide) ?_ | refine And.intro ⟨rfl, rfl⟩ ?_ | refine And.intro (Eq.refl _) ?_ | refine opt_of at0 ?_ | refine opt_of at1 ?_ | refine And.intro (by omega) ?_ | refine And.intro (by (try simp only [List.length_cons, List.length_nil, List.length_map, List.length_append, List.length_range, List.length_zip, List.length_reverse, List.length_take, List.length_drop]); omega) ?_); conv => whnf)
      exact h (decide_eq_true (by have z' : ¬ n < lo := z; omega))
  all_goals
    (conv => whnf); repeat ((first | refine Sg.mk ?_ | refine Br.t (Nat.ble_eq_true_of_le (by (try simp only [List.length_cons, List.length_nil, List.length_map, List.length_append, List.length_range, List.length_zip, List.length_reverse, List.length_take, List.length_drop, rg_len]); omega)) ?_ | refine opt_of rfl ?_ | refine Br.t rfl ?_ | refine Br.f rfl ?_ | refine Br.t (by decide) ?_ | refine Br.f (by decide) ?_ | refine And.intro (rfl : okE _ _ = true) ?_ | refine And.intro (by decide) ?_ | refine And.intro ⟨rfl, rfl⟩ ?_ | refine And.intro (Eq.refl _) ?_ | refine opt_of at0 ?_ | refine opt_of at1 ?_ | refine And.intro (by omega) ?_ | refine And.intro (by (try simp only [List.length_cons, List.length_nil, List.length_map, List.length_append, List.length_range, List.length_zip, List.length_reverse, List.length_take, List.length_drop]); omega) ?_); conv => whnf)
    exact he rfl
def sumR (rs : Rs) : Int := (rs.map (·.2)).sum
def okP (p : Nat × Int) : Prop := (p.1 = 97 ∨ p.1 = 98) ∧ 1 ≤ p.2 ∧ p.2 ≤ 10 ^ 62

end K35
namespace K35
open PySem PySem.Spec PyProof.Rows L2 Vx Dl
def adjR : Rs → Bool
  | p :: q :: r => !decide (p.1 = q.1) && adjR (q :: r)
  | _ => true
theorem adj_eq : ∀ rs : Rs, adjB rs = adjR rs
  | [] => rfl
  | [p] => rfl
  | p :: q :: r => by
    have ih := adj_eq (q :: r)
    unfold adjB at ih ⊢
    rw [show (p :: q :: r).drop 1 = q :: r from rfl, List.zip_cons_cons, List.all_cons]
    rw [show (q :: r).drop 1 = r from rfl] at ih
    rw [ih]
    rfl
theorem adjR_snoc : ∀ (rs : Rs) (p : Nat × Int), adjR rs = true → (∀ q, rs.getLast? = some q → q.1 ≠ p.1) → adjR (rs ++ [p]) = true
  | [], p, _, _ => rfl
  | [a], p, _, h => by
    show (!decide (a.1 = p.1) && true) = true
    rw [decide_eq_false (h a rfl)]; rfl
  | a :: b :: r, p, h1, h2 => by
    have e : adjR (a :: b :: r) = (!decide (a.1 = b.1) && adjR (b :: r)) := rfl
    rw [e, Bool.and_eq_true] at h1
    have ih := adjR_snoc (b :: r) p h1.2 (fun q hq => h2 q (by rw [List.getLast?_cons_cons]; exact hq))
    show (!decide (a.1 = b.1) && adjR (b :: r ++ [p])) = true
    rw [h1.1, ih]; rfl
theorem adjR_no : ∀ (a : Rs) (p q : Nat × Int) (b : Rs), p.1 = q.1 → adjR (a ++ p :: q :: b) = false
  | [], p, q, b, h => by show (!decide (p.1 = q.1) && _) = false; rw [decide_eq_true h]; rfl
  | [c], p, q, b, h => by
    have ih := adjR_no [] p q b h
    rw [List.nil_append] at ih
    show (!decide (c.1 = p.1) && adjR (p :: q :: b)) = false
    rw [ih, Bool.and_false]
  | c :: d :: r, p, q, b, h => by
    have ih := adjR_no (d :: r) p q b h
    show (!decide (c.1 = d.1) && adjR (d :: r ++ p :: q :: b)) = false
    rw [ih, Bool.and_false]
/-- on the way -/
structure GR (M : Int) (rs : Rs) (c : Nat) : Prop where
  all : ∀ p ∈ rs, okP p
  mx : ∀ p ∈ rs, p.2 ≤ M
  adj : adjR rs = true
  c2 : c = 97 ∨ c = 98
  last : ∀ q, rs.getLast? = some q → q.1 ≠ c
def oth (c : Nat) : Nat := if c = 97 then 98 else 97
theorem GR.step {M : Int} {rs : Rs} {c : Nat} (h : GR M rs c) (hM : M ≤ 10 ^ 62) {n : Int} (n1 : 1 ≤ n) (n2 : n ≤ M) : GR M (rs ++ [(c, n)]) (oth c) := by
  refine ⟨fun p hp => ?_, fun p hp => ?_, adjR_snoc rs _ h.adj h.last, ?_, fun q hq => ?_⟩
  · rcases List.mem_append.mp hp with hp | hp
    · exact h.all p hp
    · rw [List.mem_singleton.mp hp]; exact ⟨h.c2, n1, Int.le_trans n2 hM⟩
  · rcases List.mem_append.mp hp with hp | hp
    · exact h.mx p hp
    · rw [List.mem_singleton.mp hp]; exact n2
  · unfold oth; split <;> simp
  · rw [List.getLast?_concat] at hq
    cases hq
    show c ≠ oth c
    unfold oth
    rcases h.c2 with e | e <;> rw [e] <;> decide
theorem GR.rn {M : Int} {rs : Rs} {c : Nat} (h : GR M rs c) (hl : rs.length ≤ 40) : Rn rs := ⟨hl, h.all, by rw [adj_eq]; exact h.adj⟩
theorem dlk_ab {c : Nat} (h : c = 97 ∨ c = 98) : dlk [D.str [97], D.str [98]] [D.str [98], D.str [97]] (D.str [c]) = some (.str [oth c]) := by
  rcases h with rfl | rfl <;> rfl
theorem d_law_runs {n : Nat} {b : D} {many : Nat} {most : Int} (hb : BagD n b) (hn : n ≤ 700000000) (hm : many ≤ 40) (m1 : 4 ≤ most) (m2 : most ≤ 10 ^ 62) {Q : Rv → List D → Prop} {Er} (q : ∀ (rs : Rs) (b' : D), Rn rs → (∀ p ∈ rs, p.2 ≤ most) → rs.length ≤ many → BagD (n + 100) b' → Q (.tm (.lst true (rs.map rD))) [b']) : sp_law_runs [.br b, .sh (.int (many : Int)), .sh (.int most)] Q Er := by
  unfold sp_law_runs
  (conv => whnf); repeat ((first | refine Sg.mk ?_ | refine Br.t (Nat.ble_eq_true_of_le (by (try simp only [List.length_cons, List.length_nil, List.length_map, List.length_append, List.length_range, List.length_zip, List.length_reverse, List.length_take, List.length_drop, rg_len]); omega)) ?_ | refine opt_of rfl ?_ | refine Br.t rfl ?_ | refine Br.f rfl ?_ | refine Br.t (by decide) ?_ | refine Br.f (by decide) ?_ | refine And.intro (rfl : okE _ _ = true) ?_ | refine And.intro (by decide) ?_ | refine And.intro ⟨rfl, rfl⟩ ?_ | refine And.intro (Eq.refl _) ?_ | refine opt_of at0 ?_ | refine opt_of at1 ?_ | refine And.intro (by omega) ?_ | refine And.intro (by (try simp only [List.length_cons, List.length_nil, List.length_map, List.length_append, List.length_range, List.length_zip, List.length_reverse, List.length_take, List.length_drop]); omega) ?_); conv => whnf)
  refine ⟨?_⟩
  refine d_law_draw hb (by omega) (by decide) (b8 (by decide) (by decide)) fun v b1 v0 v1 B1 => ?_
  obtain ⟨c, hc, c2⟩ := pick (xs := [97, 98]) (P := fun c => c = 97 ∨ c = 98) (by simp) v0 (by simpa using v1)
  (conv => whnf); repeat ((first | refine Sg.mk ?_ | refine Br.t (Nat.ble_eq_true_of_le (by (try simp only [List.length_cons, List.length_nil, List.length_map, List.length_append, List.length_range, List.length_zip, List.length_reverse, List.length_take, List.length_drop, rg_len]); omega)) ?_ | refine opt_of rfl ?_ | refine Br.t rfl ?_ | refine Br.f rfl ?_ | refine Br.t (by decide) ?_ | refine Br.f (by decide) ?_ | refine And.intro (rfl : okE _ _ = true) ?_ | refine And.intro (by decide) ?_ | refine And.intro ⟨rfl, rfl⟩ ?_ | refine And.intro (Eq.refl _) ?_ | refine opt_of at0 ?_ | refine opt_of at1 ?_ | refine And.intro (by omega) ?_ | refine And.intro (by (try simp only [List.length_cons, List.length_nil, List.length_map, List.length_append, List.length_range, List.length_zip, List.length_reverse, List.length_take, List.length_drop]); omega) ?_); conv => whnf)
  refine opt_of hc ?_
  (conv => whnf); repeat ((first | refine Sg.mk ?_ | refine Br.t (Nat.ble_eq_true_of_le (by (try simp only [List.length_cons, List.length_nil, List.length_map, List.length_append, List.length_range, List.length_zip, List.length_reverse, List.length_take, List.length_drop, rg_len]); omega)) ?_ | refine opt_of rfl ?_ | refine Br.t rfl ?_ | refine Br.f rfl ?_ | refine Br.t (by decide) ?_ | refine Br.f (by decide) ?_ | refine And.intro (rfl : okE _ _ = true) ?_ | refine And.intro (by decide) ?_ | refine And.intro ⟨rfl, rfl⟩ ?_ | refine And.intro (Eq.refl _) ?_ | refine opt_of at0 ?_ | refine opt_of at1 ?_ | refine And.intro (by omega) ?_ | refine And.intro (by (try simp only [List.length_cons, List.length_nil, List.length_map, List.length_append, List.length_range, List.length_zip, List.length_reverse, List.length_take, List.length_drop]); omega) ?_); conv => whnf)
  refine ⟨?_⟩
  refine d_law_draw B1 (by omega) (by first | decide | omega) (b8 (by first | decide | omega) (by first | decide | omega)) fun t b2 t0 t1 B2 => ?_
  (conv => whnf); repeat ((first | refine Sg.mk ?_ | refine Br.t (Nat.ble_eq_true_of_le (by (try simp only [List.length_cons, List.length_nil, List.length_map, List.length_append, List.length_range, List.length_zip, List.length_reverse, List.length_take, List.length_drop, rg_len]); omega)) ?_ | refine opt_of rfl ?_ | refine Br.t rfl ?_ | refine Br.f rfl ?_ | refine Br.t (by decide) ?_ | refine Br.f (by decide) ?_ | refine And.intro (rfl : okE _ _ = true) ?_ | refine And.intro (by decide) ?_ | refine And.intro ⟨rfl, rfl⟩ ?_ | refine And.intro (Eq.refl _) ?_ | refine opt_of at0 ?_ | refine opt_of at1 ?_ | refine And.intro (by omega) ?_ | refine And.intro (by (try simp only [List.length_cons, List.length_nil, List.length_map, List.length_append, List.length_range, List.length_zip, List.length_reverse, List.length_take, List.length_drop]); omega) ?_); conv => whnf)
  refine ⟨?_⟩
  refine loop_ind (fun ds fr => ∃ (rs : Rs) (c : Nat) (m : Nat) (bg : D) (y6 : Option SV), GR most rs c ∧ rs.length + ds.length ≤ many ∧ m + ds.length * 2 ≤ n + 100 ∧ BagD m bg ∧ fr = ⟨[some (.pa 0), some (.sh (.int (many : Int))), some (.sh (.int most)), some (.ow (.lst true (rs.map rD))), some (.sh (.str [c])), y6], [bg]⟩) ?_ ?_ ⟨[], c, n + 2, b2, none, ⟨(fun _ h => nomatch h), (fun _ h => nomatch h), rfl, c2, (fun _ h => nomatch h)⟩, by rw [rg_len, List.length_nil]; omega, by rw [rg_len]; omega, B2, rfl⟩
  · rintro d ds fr ⟨rs, c, m, bg, y6, G, l1, l2, B, rfl⟩ ih
    rw [List.length_cons] at l1 l2
    (conv => whnf); repeat ((first | refine Sg.mk ?_ | refine Br.t (Nat.ble_eq_true_of_le (by (try simp only [List.length_cons, List.length_nil, List.length_map, List.length_append, List.length_range, List.length_zip, List.length_reverse, List.length_take, List.length_drop, rg_len]); omega)) ?_ | refine opt_of rfl ?_ | refine Br.t rfl ?_ | refine Br.f rfl ?_ | refine Br.t (by decide) ?_ | refine Br.f (by decide) ?_ | refine And.intro (rfl : okE _ _ = true) ?_ | refine And.intro (by decide) ?_ | refine And.intro ⟨rfl, rfl⟩ ?_ | refine And.intro (Eq.refl _) ?_ | refine opt_of at0 ?_ | refine opt_of at1 ?_ | refine And.intro (by omega) ?_ | refine And.intro (by (try simp only [List.length_cons, List.length_nil, List.length_map, List.length_append, List.length_range, List.length_zip, List.length_reverse, List.length_take, List.length_drop]); omega) ?_); conv => whnf)
    refine ⟨?_⟩
    refine d_law_draw B (by omega) (by first | decide | omega) (b8 (by first | decide | omega) (by first | decide | omega)) fun u b3 u0 u1 B3 => ?_
    (conv => whnf); repeat ((first | refine Sg.mk ?_ | refine Br.t (Nat.ble_eq_true_of_le (by (try simp only [List.length_cons, List.length_nil, List.length_map, List.length_append, List.length_range, List.length_zip, List.length_reverse, List.length_take, List.length_drop, rg_len]); omega)) ?_ | refine opt_of rfl ?_ | refine Br.t rfl ?_ | refine Br.f rfl ?_ | refine Br.t (by decide) ?_ | refine Br.f (by decide) ?_ | refine And.intro (rfl : okE _ _ = true) ?_ | refine And.intro (by decide) ?_ | refine And.intro ⟨rfl, rfl⟩ ?_ | refine And.intro (Eq.refl _) ?_ | refine opt_of at0 ?_ | refine opt_of at1 ?_ | refine And.intro (by omega) ?_ | refine And.intro (by (try simp only [List.length_cons, List.length_nil, List.length_map, List.length_append, List.length_range, List.length_zip, List.length_reverse, List.length_take, List.length_drop]); omega) ?_); conv => whnf)
    obtain ⟨k, hk, k1, k2⟩ : ∃ k : Int, atI [D.int 1, .int 4, .int most] u = some (.int k) ∧ 1 ≤ k ∧ k ≤ most := by
      obtain ⟨d, hd, k, rfl, pk⟩ := pick (xs := [D.int 1, .int 4, .int most]) (P := fun d => ∃ k : Int, d = .int k ∧ 1 ≤ k ∧ k ≤ most) (by simp only [List.forall_mem_cons]; exact ⟨⟨1, rfl, by decide, by omega⟩, ⟨4, rfl, by decide, m1⟩, ⟨most, rfl, by omega, Int.le_refl _⟩, fun _ h => nomatch h⟩) u0 (by simpa using u1)
      exact ⟨k, hd, pk⟩
    refine opt_of hk ?_
    (conv => whnf); repeat ((first | refine Sg.mk ?_ | refine Br.t (Nat.ble_eq_true_of_le (by (try simp only [List.length_cons, List.length_nil, List.length_map, List.length_append, List.length_range, List.length_zip, List.length_reverse, List.length_take, List.length_drop, rg_len]); omega)) ?_ | refine opt_of rfl ?_ | refine Br.t rfl ?_ | refine Br.f rfl ?_ | refine Br.t (by decide) ?_ | refine Br.f (by decide) ?_ | refine And.intro (rfl : okE _ _ = true) ?_ | refine And.intro (by decide) ?_ | refine And.intro ⟨rfl, rfl⟩ ?_ | refine And.intro (Eq.refl _) ?_ | refine opt_of at0 ?_ | refine opt_of at1 ?_ | refine And.intro (by omega) ?_ | refine And.intro (by (try simp only [List.length_cons, List.length_nil, List.length_map, List.length_append, List.length_range, List.length_zip, List.length_reverse, List.length_take, List.length_drop]); omega) ?_); conv => whnf)
    refine ⟨?_⟩
    refine d_law_draw B3 (by omega) k1 (Nat.lt_of_le_of_lt (show k.natAbs ≤ 10 ^ 62 by omega) (by decide)) fun w b4 w0 w1 B4 => ?_
    (conv => whnf); repeat ((first | refine Sg.mk ?_ | refine Br.t (Nat.ble_eq_true_of_le (by (try simp only [List.length_cons, List.length_nil, List.length_map, List.length_append, List.length_range, List.length_zip, List.length_reverse, List.length_take, List.length_drop, rg_len]); omega)) ?_ | refine opt_of rfl ?_ | refine Br.t rfl ?_ | refine Br.f rfl ?_ | refine Br.t (by decide) ?_ | refine Br.f (by decide) ?_ | refine And.intro (rfl : okE _ _ = true) ?_ | refine And.intro (by decide) ?_ | refine And.intro ⟨rfl, rfl⟩ ?_ | refine And.intro (Eq.refl _) ?_ | refine opt_of at0 ?_ | refine opt_of at1 ?_ | refine And.intro (by omega) ?_ | refine And.intro (by (try simp only [List.length_cons, List.length_nil, List.length_map, List.length_append, List.length_range, List.length_zip, List.length_reverse, List.length_take, List.length_drop]); omega) ?_); conv => whnf)
    refine opt_of (dlk_ab G.c2) ?_
    (conv => whnf); repeat ((first | refine Sg.mk ?_ | refine Br.t (Nat.ble_eq_true_of_le (by (try simp only [List.length_cons, List.length_nil, List.length_map, List.length_append, List.length_range, List.length_zip, List.length_reverse, List.length_take, List.length_drop, rg_len]); omega)) ?_ | refine opt_of rfl ?_ | refine Br.t rfl ?_ | refine Br.f rfl ?_ | refine Br.t (by decide) ?_ | refine Br.f (by decide) ?_ | refine And.intro (rfl : okE _ _ = true) ?_ | refine And.intro (by decide) ?_ | refine And.intro ⟨rfl, rfl⟩ ?_ | refine And.intro (Eq.refl _) ?_ | refine opt_of at0 ?_ | refine opt_of at1 ?_ | refine And.intro (by omega) ?_ | refine And.intro (by (try simp only [List.length_cons, List.length_nil, List.length_map, List.length_append, List.length_range, List.length_zip, List.length_reverse, List.length_take, List.length_drop]); omega) ?_); conv => whnf)
    refine ih _ ⟨rs ++ [(c, 1 + w)], oth c, m + 2, b4, some (.sh d), G.step m2 (by omega) (by omega), by rw [List.length_append, List.length_singleton]; omega, by omega, B4, ?_⟩
    rw [List.map_append]
    try rfl
  · rintro fr ⟨rs, c, m, bg, y6, G, l1, l2, B, rfl⟩
    rw [List.length_nil] at l1 l2
    (conv => whnf); repeat ((first | refine Sg.mk ?_ | refine Br.t (Nat.ble_eq_true_of_le (by (try simp only [List.length_cons, List.length_nil, List.length_map, List.length_append, List.length_range, List.length_zip, List.length_reverse, List.length_take, List.length_drop, rg_len]); omega)) ?_ | refine opt_of rfl ?_ | refine Br.t rfl ?_ | refine Br.f rfl ?_ | refine Br.t (by decide) ?_ | refine Br.f (by decide) ?_ | refine And.intro (rfl : okE _ _ = true) ?_ | refine And.intro (by decide) ?_ | refine And.intro ⟨rfl, rfl⟩ ?_ | refine And.intro (Eq.refl _) ?_ | refine opt_of at0 ?_ | refine opt_of at1 ?_ | refine And.intro (by omega) ?_ | refine And.intro (by (try simp only [List.length_cons, List.length_nil, List.length_map, List.length_append, List.length_range, List.length_zip, List.length_reverse, List.length_take, List.length_drop]); omega) ?_); conv => whnf)
    exact q rs bg (G.rn (by omega)) G.mx (by omega) (B.more (by omega))

end K35
namespace K35
open PySem PySem.Spec PyProof.Rows L2 Vx Dl
theorem sumR_app (a b : Rs) : sumR (a ++ b) = sumR a + sumR b := by unfold sumR; rw [List.map_append, List.sum_append]
theorem sumR_cons (p : Nat × Int) (b : Rs) : sumR (p :: b) = p.2 + sumR b := by unfold sumR; rw [List.map_cons, List.sum_cons]
theorem sumR_nn {a : Rs} (h : ∀ p ∈ a, okP p) : 0 ≤ sumR a := by
  induction a with
  | nil => decide
  | cons p r ih =>
    have := ih fun q hq => h q (List.mem_cons_of_mem _ hq)
    have := (h p List.mem_cons_self).2.1
    rw [sumR_cons]
    omega
theorem sumR_le {M : Int} {a : Rs} (h : ∀ p ∈ a, p.2 ≤ M) : sumR a ≤ a.length * M := by
  induction a with
  | nil => rw [List.length_nil, Int.natCast_zero, Int.zero_mul]; decide
  | cons p r ih =>
    have := ih fun q hq => h q (List.mem_cons_of_mem _ hq)
    have := h p List.mem_cons_self
    rw [sumR_cons, List.length_cons, Int.natCast_add, Int.add_mul]
    omega
theorem sumR_rev (a : Rs) : sumR a.reverse = sumR a := by unfold sumR; rw [List.map_reverse, List.sum_reverse]
/-- the letter at a place -/
def letAt : Rs → Int → Nat
  | [], _ => 0
  | p :: r, n => if n < p.2 then p.1 else letAt r (n - p.2)
theorem letAt_app {a b : Rs} (h : ∀ p ∈ a, okP p) {n : Int} (hn : sumR a ≤ n) : letAt (a ++ b) n = letAt b (n - sumR a) := by
  induction a generalizing n with
  | nil => rw [List.nil_append, show sumR [] = 0 from rfl, Int.sub_zero]
  | cons p r ih =>
    have h0 := sumR_nn (a := r) fun q hq => h q (List.mem_cons_of_mem _ hq)
    rw [sumR_cons] at hn ⊢
    rw [List.cons_append]
    show (if n < p.2 then p.1 else letAt (r ++ b) (n - p.2)) = _
    rw [if_neg (by omega), ih (fun q hq => h q (List.mem_cons_of_mem _ hq)) (by omega), show n - p.2 - sumR r = n - (p.2 + sumR r) by omega]
theorem letAt_mid {a b : Rs} {p : Nat × Int} (h : ∀ p ∈ a, okP p) {n : Int} (h1 : sumR a ≤ n) (h2 : n < sumR a + p.2) : letAt (a ++ p :: b) n = p.1 := by
  rw [letAt_app h h1]
  show (if _ then _ else _) = _
  rw [if_pos (by omega)]
theorem d_letter_at {EN ER : Addr} {z : Bool} {rs : Rs} (R : Rn rs) {n : Int} (n0 : 0 ≤ n) (n1 : n < sumR rs) {Q : Rv → List D → Prop} {Er : Addr → D → List D → Prop} (h : Q (.sh (.str [letAt rs n])) []) : sp_letter_at EN ER [.sh (.lst z (rs.map rD)), .sh (.int n)] Q Er := by
  unfold sp_letter_at
  have hl := R.len
  (conv => whnf); repeat ((first | refine Sg.mk ?_ | refine Br.t (Nat.ble_eq_true_of_le (by (try simp only [List.length_cons, List.length_nil, List.length_map, List.length_append, List.length_range, List.length_zip, List.length_reverse, List.length_take, List.length_drop, rg_len]); omega)) ?_ | refine opt_of rfl ?_ | refine Br.t rfl ?_ | refine Br.f rfl ?_ | refine Br.t (by decide) ?_ | refine Br.f (by decide) ?_ | refine And.intro (rfl : okE _ _ = true) ?_ | refine And.intro (by decide) ?_ | refine And.intro ⟨rfl, rfl⟩ ?_ | refine And.intro (Eq.refl _) ?_ | refine opt_of at0 ?_ | refine opt_of at1 ?_ | refine And.intro (by omega) ?_ | refine And.intro (by (try simp only [List.length_cons, List.length_nil, List.length_map, List.length_append, List.length_range, List.length_zip, List.length_reverse, List.length_take, List.length_drop]); omega) ?_); conv => whnf)
  refine ⟨?_⟩
  refine d_check_runs (rs_okR z rs) (fun _ => ?_) fun hz => absurd (R.ok z) (by rw [hz]; decide)
  (conv => whnf); repeat ((first | refine Sg.mk ?_ | refine Br.t (Nat.ble_eq_true_of_le (by (try simp only [List.length_cons, List.length_nil, List.length_map, List.length_append, List.length_range, List.length_zip, List.length_reverse, List.length_take, List.length_drop, rg_len]); omega)) ?_ | refine opt_of rfl ?_ | refine Br.t rfl ?_ | refine Br.f rfl ?_ | refine Br.t (by decide) ?_ | refine Br.f (by decide) ?_ | refine And.intro (rfl : okE _ _ = true) ?_ | refine And.intro (by decide) ?_ | refine And.intro ⟨rfl, rfl⟩ ?_ | refine And.intro (Eq.refl _) ?_ | refine opt_of at0 ?_ | refine opt_of at1 ?_ | refine And.intro (by omega) ?_ | refine And.intro (by (try simp only [List.length_cons, List.length_nil, List.length_map, List.length_append, List.length_range, List.length_zip, List.length_reverse, List.length_take, List.length_drop]); omega) ?_); conv => whnf)
  refine ⟨?_⟩
  refine d_check_num rfl (fun hn => ?_) fun hn => absurd (decide_eq_true n0) (by rw [show decide (0 ≤ n) = false from hn]; decide)
  (conv => whnf); repeat ((first | refine Sg.mk ?_ | refine Br.t (Nat.ble_eq_true_of_le (by (try simp only [List.length_cons, List.length_nil, List.length_map, List.length_append, List.length_range, List.length_zip, List.length_reverse, List.length_take, List.length_drop, rg_len]); omega)) ?_ | refine opt_of rfl ?_ | refine Br.t rfl ?_ | refine Br.f rfl ?_ | refine Br.t (by decide) ?_ | refine Br.f (by decide) ?_ | refine And.intro (rfl : okE _ _ = true) ?_ | refine And.intro (by decide) ?_ | refine And.intro ⟨rfl, rfl⟩ ?_ | refine And.intro (Eq.refl _) ?_ | refine opt_of at0 ?_ | refine opt_of at1 ?_ | refine And.intro (by omega) ?_ | refine And.intro (by (try simp only [List.length_cons, List.length_nil, List.length_map, List.length_append, List.length_range, List.length_zip, List.length_reverse, List.length_take, List.length_drop]); omega) ?_); conv => whnf)
  refine ⟨?_⟩
  refine loop_map rD rs (fun done fr => sumR done ≤ n ∧ ∃ y z', fr = ⟨[some (.sh (.lst z (rs.map rD))), some (.sh (.int n)), some (.sh (.int (n - sumR done))), y, z'], []⟩) (fun done p rest fr hd hf ih => ?_) (fun fr hf => ?_) ⟨n0, none, none, by rw [show sumR [] = 0 from rfl, Int.sub_zero]⟩
  · obtain ⟨hs, y, z', rfl⟩ := hf
    (conv => whnf); repeat ((first | refine Sg.mk ?_ | refine Br.t (Nat.ble_eq_true_of_le (by (try simp only [List.length_cons, List.length_nil, List.length_map, List.length_append, List.length_range, List.length_zip, List.length_reverse, List.length_take, List.length_drop, rg_len]); omega)) ?_ | refine opt_of rfl ?_ | refine Br.t rfl ?_ | refine Br.f rfl ?_ | refine Br.t (by decide) ?_ | refine Br.f (by decide) ?_ | refine And.intro (rfl : okE _ _ = true) ?_ | refine And.intro (by decide) ?_ | refine And.intro ⟨rfl, rfl⟩ ?_ | refine And.intro (Eq.refl _) ?_ | refine opt_of at0 ?_ | refine opt_of at1 ?_ | refine And.intro (by omega) ?_ | refine And.intro (by (try simp only [List.length_cons, List.length_nil, List.length_map, List.length_append, List.length_range, List.length_zip, List.length_reverse, List.length_take, List.length_drop]); omega) ?_); conv => whnf)
    refine Br.d (fun hz => ?_) fun hz => ?_
    · have hz' : n - sumR done < p.2 := hz
      rw [hd, letAt_mid (fun q hq => R.all q (by rw [hd]; simp [hq])) hs (by omega)] at h
      (conv => whnf); repeat ((first | refine Sg.mk ?_ | refine Br.t (Nat.ble_eq_true_of_le (by (try simp only [List.length_cons, List.length_nil, List.length_map, List.length_append, List.length_range, List.length_zip, List.length_reverse, List.length_take, List.length_drop, rg_len]); omega)) ?_ | refine opt_of rfl ?_ | refine Br.t rfl ?_ | refine Br.f rfl ?_ | refine Br.t (by decide) ?_ | refine Br.f (by decide) ?_ | refine And.intro (rfl : okE _ _ = true) ?_ | refine And.intro (by decide) ?_ | refine And.intro ⟨rfl, rfl⟩ ?_ | refine And.intro (Eq.refl _) ?_ | refine opt_of at0 ?_ | refine opt_of at1 ?_ | refine And.intro (by omega) ?_ | refine And.intro (by (try simp only [List.length_cons, List.length_nil, List.length_map, List.length_append, List.length_range, List.length_zip, List.length_reverse, List.length_take, List.length_drop]); omega) ?_); conv => whnf)
      exact h
    · (conv => whnf); repeat ((first | refine Sg.mk ?_ | refine Br.t (Nat.ble_eq_true_of_le (by (try simp only [List.length_cons, List.length_nil, List.length_map, List.length_append, List.length_range, List.length_zip, List.length_reverse, List.length_take, List.length_drop, rg_len]); omega)) ?_ | refine opt_of rfl ?_ | refine Br.t rfl ?_ | refine Br.f rfl ?_ | refine Br.t (by decide) ?_ | refine Br.f (by decide) ?_ | refine And.intro (rfl : okE _ _ = true) ?_ | refine And.intro (by decide) ?_ | refine And.intro ⟨rfl, rfl⟩ ?_ | refine And.intro (Eq.refl _) ?_ | refine opt_of at0 ?_ | refine opt_of at1 ?_ | refine And.intro (by omega) ?_ | refine And.intro (by (try simp only [List.length_cons, List.length_nil, List.length_map, List.length_append, List.length_range, List.length_zip, List.length_reverse, List.length_take, List.length_drop]); omega) ?_); conv => whnf)
      refine ih _ ⟨?_, some (.sh (.str [p.1])), some (.sh (.int p.2)), ?_⟩
      · have hz' : ¬ n - sumR done < p.2 := hz
        rw [sumR_app, show sumR [p] = p.2 from by unfold sumR; simp]
        omega
      · rw [sumR_app, show sumR [p] = p.2 from by unfold sumR; simp, show n - (sumR done + p.2) = n - sumR done - p.2 by omega]
        try rfl
  · obtain ⟨hs, _⟩ := hf
    omega
theorem adjR_rev : ∀ rs : Rs, adjR rs = true → adjR rs.reverse = true
  | [], _ => rfl
  | [p], _ => rfl
  | p :: q :: r, h => by
    have e : adjR (p :: q :: r) = (!decide (p.1 = q.1) && adjR (q :: r)) := rfl
    rw [e, Bool.and_eq_true] at h
    rw [List.reverse_cons]
    refine adjR_snoc _ _ (adjR_rev (q :: r) h.2) fun s hs => ?_
    rw [List.reverse_cons, List.getLast?_concat] at hs
    cases hs
    have := h.1
    simp only [Bool.not_eq_true', decide_eq_false_iff_not] at this
    exact fun e => this e.symm
theorem Rn.rev {rs : Rs} (R : Rn rs) : Rn rs.reverse := ⟨by rw [List.length_reverse]; exact R.len, fun p hp => R.all p (List.mem_reverse.mp hp), by
  have := R.adj
  rw [adj_eq] at this ⊢
  exact adjR_rev _ this⟩
def spread (rs : Rs) : List Nat := (rs.map fun p => repN p.2.toNat [p.1]).flatten
theorem spread_len {rs : Rs} (h : ∀ p ∈ rs, okP p) : ((rs.map fun p => repN p.2.toNat [p.1]).map fun x : List Nat => x.length).sum = (sumR rs).toNat := by
  induction rs with
  | nil => rfl
  | cons p r ih =>
    have h1 := ih fun q hq => h q (List.mem_cons_of_mem _ hq)
    have h2 := (h p List.mem_cons_self).2.1
    have h3 := sumR_nn (a := r) fun q hq => h q (List.mem_cons_of_mem _ hq)
    rw [sumR_cons, List.map_cons, List.map_cons, List.sum_cons, h1, repN_length, List.length_singleton]
    omega
theorem spread_length {rs : Rs} (h : ∀ p ∈ rs, okP p) : (spread rs).length = (sumR rs).toNat := by
  rw [← spread_len h]
  unfold spread
  rw [List.length_flatten]
theorem repN_map (c : Nat) (m : Nat) : repN m [c] = (List.range m).map fun _ => c := by
  unfold repN
  induction m with
  | zero => rfl
  | succ m ih => rw [List.replicate_succ', List.flatten_append, ih, List.range_succ, List.map_append]; rfl
theorem spread_at {rs : Rs} (h : ∀ p ∈ rs, okP p) : (List.range (sumR rs).toNat).map (fun i => letAt rs (i : Nat)) = spread rs := by
  induction rs with
  | nil => rfl
  | cons p r ih =>
    have h1 := ih fun q hq => h q (List.mem_cons_of_mem _ hq)
    have h2 := (h p List.mem_cons_self).2.1
    have h3 := sumR_nn (a := r) fun q hq => h q (List.mem_cons_of_mem _ hq)
    rw [sumR_cons, show (p.2 + sumR r).toNat = p.2.toNat + (sumR r).toNat by omega, List.range_add, List.map_append, List.map_map]
    show _ = repN p.2.toNat [p.1] ++ spread r
    rw [← h1, repN_map]
    refine congr (congrArg _ ?_) ?_
    · refine List.map_congr_left fun i hi => ?_
      have := List.mem_range.mp hi
      show (if (i : Int) < p.2 then p.1 else _) = p.1
      rw [if_pos (by omega)]
    · refine List.map_congr_left fun i hi => ?_
      show (if ((p.2.toNat + i : Nat) : Int) < p.2 then p.1 else letAt r (((p.2.toNat + i : Nat) : Int) - p.2)) = letAt r (i : Nat)
      rw [if_neg (by omega), show ((p.2.toNat + i : Nat) : Int) - p.2 = (i : Nat) by omega]

end K35
namespace K35
open PySem PySem.Spec PyProof.Rows L2 Vx Dl
theorem d_law_spread {z : Bool} {rs : Rs} (R : Rn rs) (hs : sumR rs ≤ 200) {Q : Rv → List D → Prop} {Er} (h : Q (.sh (.str (spread rs))) []) : sp_law_spread [.sh (.lst z (rs.map rD))] Q Er := by
  unfold sp_law_spread
  have hl := R.len
  (conv => whnf); repeat ((first | refine Sg.mk ?_ | refine Br.t (Nat.ble_eq_true_of_le (by (try simp only [List.length_cons, List.length_nil, List.length_map, List.length_append, List.length_range, List.length_zip, List.length_reverse, List.length_take, List.length_drop, rg_len]); omega)) ?_ | refine opt_of rfl ?_ | refine Br.t rfl ?_ | refine Br.f rfl ?_ | refine Br.t (by decide) ?_ | refine Br.f (by decide) ?_ | refine And.intro (rfl : okE _ _ = true) ?_ | refine And.intro (by decide) ?_ | refine And.intro ⟨rfl, rfl⟩ ?_ | refine And.intro (Eq.refl _) ?_ | refine opt_of at0 ?_ | refine opt_of at1 ?_ | refine And.intro (by omega) ?_ | refine And.intro (by (try simp only [List.length_cons, List.length_nil, List.length_map, List.length_append, List.length_range, List.length_zip, List.length_reverse, List.length_take, List.length_drop]); omega) ?_); conv => whnf)
  refine lc_all rD (fun p => .str (repN p.2.toNat [p.1])) (fun p r k hp hk => ?_) ?_
  · have h2 := R.all p hp
    have h3 : p.2 ≤ sumR rs := by
      obtain ⟨a, b, e⟩ := List.append_of_mem hp
      have h4 := sumR_nn (a := a) fun q hq => R.all q (by rw [e]; simp [hq])
      have h5 := sumR_nn (a := b) fun q hq => R.all q (by rw [e]; simp [hq])
      rw [e, sumR_app, sumR_cons]
      omega
    (conv => whnf); repeat ((first | refine Sg.mk ?_ | refine Br.t (Nat.ble_eq_true_of_le (by (try simp only [List.length_cons, List.length_nil, List.length_map, List.length_append, List.length_range, List.length_zip, List.length_reverse, List.length_take, List.length_drop, rg_len]); omega)) ?_ | refine opt_of rfl ?_ | refine Br.t rfl ?_ | refine Br.f rfl ?_ | refine Br.t (by decide) ?_ | refine Br.f (by decide) ?_ | refine And.intro (rfl : okE _ _ = true) ?_ | refine And.intro (by decide) ?_ | refine And.intro ⟨rfl, rfl⟩ ?_ | refine And.intro (Eq.refl _) ?_ | refine opt_of at0 ?_ | refine opt_of at1 ?_ | refine And.intro (by omega) ?_ | refine And.intro (by (try simp only [List.length_cons, List.length_nil, List.length_map, List.length_append, List.length_range, List.length_zip, List.length_reverse, List.length_take, List.length_drop]); omega) ?_); conv => whnf)
    exact hk
  · (conv => whnf); repeat ((first | refine Sg.mk ?_ | refine Br.t (Nat.ble_eq_true_of_le (by (try simp only [List.length_cons, List.length_nil, List.length_map, List.length_append, List.length_range, List.length_zip, List.length_reverse, List.length_take, List.length_drop, rg_len]); omega)) ?_ | refine opt_of rfl ?_ | refine Br.t rfl ?_ | refine Br.f rfl ?_ | refine Br.t (by decide) ?_ | refine Br.f (by decide) ?_ | refine And.intro (rfl : okE _ _ = true) ?_ | refine And.intro (by decide) ?_ | refine And.intro ⟨rfl, rfl⟩ ?_ | refine And.intro (Eq.refl _) ?_ | refine opt_of at0 ?_ | refine opt_of at1 ?_ | refine And.intro (by omega) ?_ | refine And.intro (by (try simp only [List.length_cons, List.length_nil, List.length_map, List.length_append, List.length_range, List.length_zip, List.length_reverse, List.length_take, List.length_drop]); omega) ?_); conv => whnf)
    have e1 : List.map (fun p : Nat × Int => D.str (repN p.2.toNat [p.1])) rs = (rs.map fun p => repN p.2.toNat [p.1]).map D.str := by rw [List.map_map]; rfl
    rw [e1]
    refine opt_of (strsOf_map _) (And.intro ?_ ?_)
    · rw [List.length_nil, Nat.mul_zero, Nat.add_zero, spread_len R.all]
      omega
    · rw [joinL_nil]
      exact h
theorem rgD_nat (m : Nat) : Dl.rgD 0 m 1 = (List.range m).map fun i : Nat => D.int (i : Nat) := by
  unfold Dl.rgD
  refine List.map_congr_left fun i _ => ?_
  rw [show (0 : Int) + (i : Nat) * 1 = (i : Nat) by omega]
theorem d_short {EN ER : Addr} {z : Bool} {rs : Rs} (R : Rn rs) (hs : sumR rs ≤ 200) {Q : Rv → List D → Prop} {Er} (h : Q (.sh (.bl true)) []) : sp_law_short_right EN ER [.sh (.lst z (rs.map rD))] Q Er := by
  unfold sp_law_short_right
  (conv => whnf); repeat ((first | refine Sg.mk ?_ | refine Br.t (Nat.ble_eq_true_of_le (by (try simp only [List.length_cons, List.length_nil, List.length_map, List.length_append, List.length_range, List.length_zip, List.length_reverse, List.length_take, List.length_drop, rg_len]); omega)) ?_ | refine opt_of rfl ?_ | refine Br.t rfl ?_ | refine Br.f rfl ?_ | refine Br.t (by decide) ?_ | refine Br.f (by decide) ?_ | refine And.intro (rfl : okE _ _ = true) ?_ | refine And.intro (by decide) ?_ | refine And.intro ⟨rfl, rfl⟩ ?_ | refine And.intro (Eq.refl _) ?_ | refine opt_of at0 ?_ | refine opt_of at1 ?_ | refine And.intro (by omega) ?_ | refine And.intro (by (try simp only [List.length_cons, List.length_nil, List.length_map, List.length_append, List.length_range, List.length_zip, List.length_reverse, List.length_take, List.length_drop]); omega) ?_); conv => whnf)
  refine ⟨?_⟩
  refine d_law_spread R hs ?_
  have hl := spread_length R.all
  have hn := sumR_nn R.all
  (conv => whnf); repeat ((first | refine Sg.mk ?_ | refine Br.t (Nat.ble_eq_true_of_le (by (try simp only [List.length_cons, List.length_nil, List.length_map, List.length_append, List.length_range, List.length_zip, List.length_reverse, List.length_take, List.length_drop, rg_len]); omega)) ?_ | refine opt_of rfl ?_ | refine Br.t rfl ?_ | refine Br.f rfl ?_ | refine Br.t (by decide) ?_ | refine Br.f (by decide) ?_ | refine opt_of at0 ?_ | refine opt_of at1 ?_); conv => whnf)
  refine And.intro (show (spread rs).length ≤ 1000000 by omega) ?_
  (conv => whnf); repeat ((first | refine Sg.mk ?_ | refine Br.t (Nat.ble_eq_true_of_le (by (try simp only [List.length_cons, List.length_nil, List.length_map, List.length_append, List.length_range, List.length_zip, List.length_reverse, List.length_take, List.length_drop, rg_len]); omega)) ?_ | refine opt_of rfl ?_ | refine Br.t rfl ?_ | refine Br.f rfl ?_ | refine Br.t (by decide) ?_ | refine Br.f (by decide) ?_ | refine opt_of at0 ?_ | refine opt_of at1 ?_); conv => whnf)
  refine And.intro ⟨by omega, by omega⟩ ?_
  rw [show ((spread rs).length : Int).toNat = (spread rs).length from rfl, rgD_nat, hl]
  (conv => whnf); repeat ((first | refine Sg.mk ?_ | refine Br.t (Nat.ble_eq_true_of_le (by (try simp only [List.length_cons, List.length_nil, List.length_map, List.length_append, List.length_range, List.length_zip, List.length_reverse, List.length_take, List.length_drop, rg_len]); omega)) ?_ | refine opt_of rfl ?_ | refine Br.t rfl ?_ | refine Br.f rfl ?_ | refine Br.t (by decide) ?_ | refine Br.f (by decide) ?_ | refine And.intro (rfl : okE _ _ = true) ?_ | refine And.intro (by decide) ?_ | refine And.intro ⟨rfl, rfl⟩ ?_ | refine And.intro (Eq.refl _) ?_ | refine opt_of at0 ?_ | refine opt_of at1 ?_ | refine And.intro (by omega) ?_ | refine And.intro (by (try simp only [List.length_cons, List.length_nil, List.length_map, List.length_append, List.length_range, List.length_zip, List.length_reverse, List.length_take, List.length_drop]); omega) ?_); conv => whnf)
  refine lc_all (fun i : Nat => D.int (i : Nat)) (fun i => .str [letAt rs (i : Nat)]) (fun i r k hi hk => ?_) ?_
  · have := List.mem_range.mp hi
    (conv => whnf); repeat ((first | refine Sg.mk ?_ | refine Br.t (Nat.ble_eq_true_of_le (by (try simp only [List.length_cons, List.length_nil, List.length_map, List.length_append, List.length_range, List.length_zip, List.length_reverse, List.length_take, List.length_drop, rg_len]); omega)) ?_ | refine opt_of rfl ?_ | refine Br.t rfl ?_ | refine Br.f rfl ?_ | refine Br.t (by decide) ?_ | refine Br.f (by decide) ?_ | refine And.intro (rfl : okE _ _ = true) ?_ | refine And.intro (by decide) ?_ | refine And.intro ⟨rfl, rfl⟩ ?_ | refine And.intro (Eq.refl _) ?_ | refine opt_of at0 ?_ | refine opt_of at1 ?_ | refine And.intro (by omega) ?_ | refine And.intro (by (try simp only [List.length_cons, List.length_nil, List.length_map, List.length_append, List.length_range, List.length_zip, List.length_reverse, List.length_take, List.length_drop]); omega) ?_); conv => whnf)
    refine ⟨?_⟩
    refine d_letter_at R (by omega) (by omega) ?_
    (conv => whnf); repeat ((first | refine Sg.mk ?_ | refine Br.t (Nat.ble_eq_true_of_le (by (try simp only [List.length_cons, List.length_nil, List.length_map, List.length_append, List.length_range, List.length_zip, List.length_reverse, List.length_take, List.length_drop, rg_len]); omega)) ?_ | refine opt_of rfl ?_ | refine Br.t rfl ?_ | refine Br.f rfl ?_ | refine Br.t (by decide) ?_ | refine Br.f (by decide) ?_ | refine And.intro (rfl : okE _ _ = true) ?_ | refine And.intro (by decide) ?_ | refine And.intro ⟨rfl, rfl⟩ ?_ | refine And.intro (Eq.refl _) ?_ | refine opt_of at0 ?_ | refine opt_of at1 ?_ | refine And.intro (by omega) ?_ | refine And.intro (by (try simp only [List.length_cons, List.length_nil, List.length_map, List.length_append, List.length_range, List.length_zip, List.length_reverse, List.length_take, List.length_drop]); omega) ?_); conv => whnf)
    exact hk
  · (conv => whnf); repeat ((first | refine Sg.mk ?_ | refine Br.t (Nat.ble_eq_true_of_le (by (try simp only [List.length_cons, List.length_nil, List.length_map, List.length_append, List.length_range, List.length_zip, List.length_reverse, List.length_take, List.length_drop, rg_len]); omega)) ?_ | refine opt_of rfl ?_ | refine Br.t rfl ?_ | refine Br.f rfl ?_ | refine Br.t (by decide) ?_ | refine Br.f (by decide) ?_ | refine And.intro (rfl : okE _ _ = true) ?_ | refine And.intro (by decide) ?_ | refine And.intro ⟨rfl, rfl⟩ ?_ | refine And.intro (Eq.refl _) ?_ | refine opt_of at0 ?_ | refine opt_of at1 ?_ | refine And.intro (by omega) ?_ | refine And.intro (by (try simp only [List.length_cons, List.length_nil, List.length_map, List.length_append, List.length_range, List.length_zip, List.length_reverse, List.length_take, List.length_drop]); omega) ?_); conv => whnf)
    have e1 : List.map (fun i : Nat => D.str [letAt rs (i : Nat)]) (List.range (sumR rs).toNat) = ((spread rs).map fun c => [c]).map D.str := by rw [← spread_at R.all, List.map_map, List.map_map]; rfl
    rw [e1]
    refine opt_of (strsOf_map _) (And.intro ?_ ?_)
    · rw [sum1, hl]; omega
    · rw [join1]
      (conv => whnf); repeat ((first | refine Sg.mk ?_ | refine Br.t (Nat.ble_eq_true_of_le (by (try simp only [List.length_cons, List.length_nil, List.length_map, List.length_append, List.length_range, List.length_zip, List.length_reverse, List.length_take, List.length_drop, rg_len]); omega)) ?_ | refine opt_of rfl ?_ | refine Br.t rfl ?_ | refine Br.f rfl ?_ | refine Br.t (by decide) ?_ | refine Br.f (by decide) ?_ | refine And.intro (rfl : okE _ _ = true) ?_ | refine And.intro (by decide) ?_ | refine And.intro ⟨rfl, rfl⟩ ?_ | refine And.intro (Eq.refl _) ?_ | refine opt_of at0 ?_ | refine opt_of at1 ?_ | refine And.intro (by omega) ?_ | refine And.intro (by (try simp only [List.length_cons, List.length_nil, List.length_map, List.length_append, List.length_range, List.length_zip, List.length_reverse, List.length_take, List.length_drop]); omega) ?_); conv => whnf)
      rw [eqB_str_rfl]
      exact h
theorem rD_sz {p : Nat × Int} (h : okP p) : Sz 64 (rD p) 255 1 :=
  (Sz.tup (SzA.cons (Sz.str (B := 64) (a := [p.1]) fun c hc => by rw [List.mem_singleton.mp hc]; rcases h.1 with e | e <;> omega) (SzA.cons (Sz.int (B := 64) (i := p.2) 63 (by decide) (by decide) (by decide) (by have := h.2.1; have := h.2.2; omega)) SzA.nil))).more (by show 1 + 1 + (4 * 63 + 1 + 0) ≤ 255; decide) (by decide)
theorem rs_shw {rs : Rs} (R : Rn rs) : Shw (.lst true (rs.map rD)) := by
  have hl := R.len
  refine Sz.shw (B := 64) (Sz.lst (SzA.all (w := 255) (k := 1) fun v hv => by obtain ⟨p, hp, rfl⟩ := List.mem_map.mp hv; exact rD_sz (R.all p hp))) ?_ (by decide) (by decide) (by rw [List.length_map]; omega)
  refine .inl ?_
  simp only [Dl.plain, Bool.true_or, Bool.and_true]
  exact plains_all fun d hd => by obtain ⟨p, _, rfl⟩ := List.mem_map.mp hd; rfl
theorem map_four {α : Type} {xs : List α} (d : D) (h : xs.length = 4) : xs.map (fun _ => d) = [d, d, d, d] := by
  rw [List.map_const', h]; rfl
theorem four_eq {z : Bool} (l : List Nat) : (!eqB (.lst z [D.str l, .str l, .str l, .str l]) (.lst true (List.replicate (Int.toNat 4) [D.str l]).flatten)) = false := by
  rw [eqB_lst, show (List.replicate (Int.toNat 4) [D.str l]).flatten = [D.str l, .str l, .str l, .str l] from rfl]
  simp only [eqBs, eqB_str_rfl]
  rfl
theorem four_ok {z : Bool} {c : Nat} (h : c < 1114112) : okE (.lst z [D.str [c], .str [c], .str [c], .str [c]]) (.lst true (List.replicate (Int.toNat 4) [D.str [c]]).flatten) = true := by
  have hs : ∀ z, shp (.lst z [D.str [c], .str [c], .str [c], .str [c]]) = true := fun z => (Lay.lst (k := 0) fun d hd => by
    simp only [List.mem_cons, List.not_mem_nil, or_false, or_self] at hd
    subst hd
    exact Lay.str fun x hx => by rw [List.mem_singleton.mp hx]; exact h).shp (by decide)
  exact okE_shp (hs _) (hs _)
theorem d_far {EN ER : Addr} {n : Nat} {b : D} {rs : Rs} (hb : BagD n b) (hn : n ≤ 700000000) (R : Rn rs) {Q : Rv → List D → Prop} {Er} (q : ∀ b', BagD (n + 100) b' → Q (.sh (.bl true)) [b']) : sp_law_far_right EN ER [.br b, .sh (.lst true (rs.map rD))] Q Er := by
  unfold sp_law_far_right
  have hl := R.len
  (conv => whnf); repeat ((first | refine Sg.mk ?_ | refine Br.t (Nat.ble_eq_true_of_le (by (try simp only [List.length_cons, List.length_nil, List.length_map, List.length_append, List.length_range, List.length_zip, List.length_reverse, List.length_take, List.length_drop, rg_len]); omega)) ?_ | refine opt_of rfl ?_ | refine Br.t rfl ?_ | refine Br.f rfl ?_ | refine Br.t (by decide) ?_ | refine Br.f (by decide) ?_ | refine And.intro (rfl : okE _ _ = true) ?_ | refine And.intro (by decide) ?_ | refine And.intro ⟨rfl, rfl⟩ ?_ | refine And.intro (Eq.refl _) ?_ | refine opt_of at0 ?_ | refine opt_of at1 ?_ | refine And.intro (by omega) ?_ | refine And.intro (by (try simp only [List.length_cons, List.length_nil, List.length_map, List.length_append, List.length_range, List.length_zip, List.length_reverse, List.length_take, List.length_drop]); omega) ?_); conv => whnf)
  refine And.intro (rs_shw R) ?_
  (conv => whnf); repeat ((first | refine Sg.mk ?_ | refine Br.t (Nat.ble_eq_true_of_le (by (try simp only [List.length_cons, List.length_nil, List.length_map, List.length_append, List.length_range, List.length_zip, List.length_reverse, List.length_take, List.length_drop, rg_len]); omega)) ?_ | refine opt_of rfl ?_ | refine Br.t rfl ?_ | refine Br.f rfl ?_ | refine Br.t (by decide) ?_ | refine Br.f (by decide) ?_ | refine And.intro (rfl : okE _ _ = true) ?_ | refine And.intro (by decide) ?_ | refine And.intro ⟨rfl, rfl⟩ ?_ | refine And.intro (Eq.refl _) ?_ | refine opt_of at0 ?_ | refine opt_of at1 ?_ | refine And.intro (by omega) ?_ | refine And.intro (by (try simp only [List.length_cons, List.length_nil, List.length_map, List.length_append, List.length_range, List.length_zip, List.length_reverse, List.length_take, List.length_drop]); omega) ?_); conv => whnf)
  refine lc_all rD (fun p => .int p.2) (fun p r k hp hk => ?_) ?_
  · (conv => whnf); repeat ((first | refine Sg.mk ?_ | refine Br.t (Nat.ble_eq_true_of_le (by (try simp only [List.length_cons, List.length_nil, List.length_map, List.length_append, List.length_range, List.length_zip, List.length_reverse, List.length_take, List.length_drop, rg_len]); omega)) ?_ | refine opt_of rfl ?_ | refine Br.t rfl ?_ | refine Br.f rfl ?_ | refine Br.t (by decide) ?_ | refine Br.f (by decide) ?_ | refine And.intro (rfl : okE _ _ = true) ?_ | refine And.intro (by decide) ?_ | refine And.intro ⟨rfl, rfl⟩ ?_ | refine And.intro (Eq.refl _) ?_ | refine opt_of at0 ?_ | refine opt_of at1 ?_ | refine And.intro (by omega) ?_ | refine And.intro (by (try simp only [List.length_cons, List.length_nil, List.length_map, List.length_append, List.length_range, List.length_zip, List.length_reverse, List.length_take, List.length_drop]); omega) ?_); conv => whnf)
    exact hk
  (conv => whnf); repeat ((first | refine Sg.mk ?_ | refine Br.t (Nat.ble_eq_true_of_le (by (try simp only [List.length_cons, List.length_nil, List.length_map, List.length_append, List.length_range, List.length_zip, List.length_reverse, List.length_take, List.length_drop, rg_len]); omega)) ?_ | refine opt_of rfl ?_ | refine Br.t rfl ?_ | refine Br.f rfl ?_ | refine Br.t (by decide) ?_ | refine Br.f (by decide) ?_ | refine And.intro (rfl : okE _ _ = true) ?_ | refine And.intro (by decide) ?_ | refine And.intro ⟨rfl, rfl⟩ ?_ | refine And.intro (Eq.refl _) ?_ | refine opt_of at0 ?_ | refine opt_of at1 ?_ | refine And.intro (by omega) ?_ | refine And.intro (by (try simp only [List.length_cons, List.length_nil, List.length_map, List.length_append, List.length_range, List.length_zip, List.length_reverse, List.length_take, List.length_drop]); omega) ?_); conv => whnf)
  refine opt_of (ints_lc _ _) ?_
  rw [show (rs.map fun x => x.2).sum = sumR rs from rfl]
  generalize hT : sumR rs = T
  generalize hkept : shwn (D.lst true (List.map rD rs)) = kept
  (conv => whnf); repeat ((first | refine Sg.mk ?_ | refine Br.t (Nat.ble_eq_true_of_le (by (try simp only [List.length_cons, List.length_nil, List.length_map, List.length_append, List.length_range, List.length_zip, List.length_reverse, List.length_take, List.length_drop, rg_len]); omega)) ?_ | refine opt_of rfl ?_ | refine Br.t rfl ?_ | refine Br.f rfl ?_ | refine Br.t (by decide) ?_ | refine Br.f (by decide) ?_ | refine And.intro (rfl : okE _ _ = true) ?_ | refine And.intro (by decide) ?_ | refine And.intro ⟨rfl, rfl⟩ ?_ | refine And.intro (Eq.refl _) ?_ | refine opt_of at0 ?_ | refine opt_of at1 ?_ | refine And.intro (by omega) ?_ | refine And.intro (by (try simp only [List.length_cons, List.length_nil, List.length_map, List.length_append, List.length_range, List.length_zip, List.length_reverse, List.length_take, List.length_drop]); omega) ?_); conv => whnf)
  refine ⟨?_⟩
  refine loop_map rD rs (fun done fr => ∃ (bg : D) (y2 y3 y7 y8 y9 : Option SV), BagD (n + done.length) bg ∧ fr = ⟨[some (.pa 0), some (.sh (.lst true (rs.map rD))), y2, y3, some (.sh (.str kept)), some (.sh (.int T)), some (.sh (.int (sumR done))), y7, y8, y9], [bg]⟩) (fun done p rest fr hd hf ih => ?_) (fun fr hf => ?_) ⟨b, none, none, none, none, none, hb, rfl⟩
  · obtain ⟨bg, y2, y3, y7, y8, y9, B, rfl⟩ := hf
    have hp : okP p := R.all p (by rw [hd]; simp)
    have ld : done.length ≤ 40 := by have := congrArg List.length hd; rw [List.length_append] at this; omega
    have hdo : ∀ q ∈ done, okP q := fun q hq => R.all q (by rw [hd]; simp [hq])
    have hre : ∀ q ∈ rest, okP q := fun q hq => R.all q (by rw [hd]; simp [hq])
    have s1 := sumR_nn hdo
    have s2 := sumR_nn hre
    have hT' : T = sumR done + (p.2 + sumR rest) := by rw [← hT, hd, sumR_app, sumR_cons]
    obtain ⟨_, p1, p2⟩ := id hp
    (conv => whnf); repeat ((first | refine Sg.mk ?_ | refine Br.t (Nat.ble_eq_true_of_le (by (try simp only [List.length_cons, List.length_nil, List.length_map, List.length_append, List.length_range, List.length_zip, List.length_reverse, List.length_take, List.length_drop, rg_len]); omega)) ?_ | refine opt_of rfl ?_ | refine Br.t rfl ?_ | refine Br.f rfl ?_ | refine Br.t (by decide) ?_ | refine Br.f (by decide) ?_ | refine And.intro (rfl : okE _ _ = true) ?_ | refine And.intro (by decide) ?_ | refine And.intro ⟨rfl, rfl⟩ ?_ | refine And.intro (Eq.refl _) ?_ | refine opt_of at0 ?_ | refine opt_of at1 ?_ | refine And.intro (by omega) ?_ | refine And.intro (by (try simp only [List.length_cons, List.length_nil, List.length_map, List.length_append, List.length_range, List.length_zip, List.length_reverse, List.length_take, List.length_drop]); omega) ?_); conv => whnf)
    refine And.intro (wide_div (b := 2) (by decide) (by decide) (by decide) (by decide)) ?_
    (conv => whnf); repeat ((first | refine Sg.mk ?_ | refine Br.t (Nat.ble_eq_true_of_le (by (try simp only [List.length_cons, List.length_nil, List.length_map, List.length_append, List.length_range, List.length_zip, List.length_reverse, List.length_take, List.length_drop, rg_len]); omega)) ?_ | refine opt_of rfl ?_ | refine Br.t rfl ?_ | refine Br.f rfl ?_ | refine Br.t (by decide) ?_ | refine Br.f (by decide) ?_ | refine And.intro (rfl : okE _ _ = true) ?_ | refine And.intro (by decide) ?_ | refine And.intro ⟨rfl, rfl⟩ ?_ | refine And.intro (Eq.refl _) ?_ | refine opt_of at0 ?_ | refine opt_of at1 ?_ | refine And.intro (by omega) ?_ | refine And.intro (by (try simp only [List.length_cons, List.length_nil, List.length_map, List.length_append, List.length_range, List.length_zip, List.length_reverse, List.length_take, List.length_drop]); omega) ?_); conv => whnf)
    refine ⟨?_⟩
    refine d_law_draw B (by omega) p1 (Nat.lt_of_le_of_lt (show p.2.natAbs ≤ 10 ^ 62 by omega) (by decide)) fun u b1 u0 u1 B1 => ?_
    obtain ⟨is, hxs, hlen, hv⟩ : ∃ is : List Int, [D.int (sumR done), .int (sumR done + p.2 - 1), .int (sumR done + p.2 / 2), .int (sumR done + u)] = is.map D.int ∧ is.length = 4 ∧ ∀ i ∈ is, sumR done ≤ i ∧ i < sumR done + p.2 := by
      refine ⟨[sumR done, sumR done + p.2 - 1, sumR done + p.2 / 2, sumR done + u], rfl, rfl, ?_⟩
      simp only [List.forall_mem_cons]
      exact ⟨⟨by omega, by omega⟩, ⟨by omega, by omega⟩, ⟨by omega, by omega⟩, ⟨by omega, by omega⟩, fun _ h => nomatch h⟩
    conv => whnf
    refine Br.t rfl ?_
    conv => whnf
    rw [hxs]
    have hc : p.1 < 1114112 := by rcases hp.1 with e | e <;> omega
    have e1 : ∀ i ∈ is, letAt rs i = p.1 := fun i hi => by
      have e := letAt_mid (b := rest) hdo (hv i hi).1 (hv i hi).2
      rw [← hd] at e
      exact e
    have e2 : ∀ i ∈ is, letAt rs.reverse (T - 1 - i) = p.1 := fun i hi => by
      have hi' := hv i hi
      have e := letAt_mid (a := rest.reverse) (b := done.reverse) (p := p) (fun q hq => hre q (List.mem_reverse.mp hq)) (n := T - 1 - i) (by rw [sumR_rev]; omega) (by rw [sumR_rev]; omega)
      rw [hd, List.reverse_append, List.reverse_cons, List.append_assoc]
      exact e
    (conv => whnf); repeat ((first | refine Sg.mk ?_ | refine Br.t (Nat.ble_eq_true_of_le (by (try simp only [List.length_cons, List.length_nil, List.length_map, List.length_append, List.length_range, List.length_zip, List.length_reverse, List.length_take, List.length_drop, rg_len]); omega)) ?_ | refine opt_of rfl ?_ | refine Br.t rfl ?_ | refine Br.f rfl ?_ | refine Br.t (by decide) ?_ | refine Br.f (by decide) ?_ | refine And.intro (rfl : okE _ _ = true) ?_ | refine And.intro (by decide) ?_ | refine And.intro ⟨rfl, rfl⟩ ?_ | refine And.intro (Eq.refl _) ?_ | refine opt_of at0 ?_ | refine opt_of at1 ?_ | refine And.intro (by omega) ?_ | refine And.intro (by (try simp only [List.length_cons, List.length_nil, List.length_map, List.length_append, List.length_range, List.length_zip, List.length_reverse, List.length_take, List.length_drop]); omega) ?_); conv => whnf)
    refine lc_all D.int (fun _ => .str [p.1]) (fun i r k hi hk => ?_) ?_
    · have hi' := hv i hi
      (conv => whnf); repeat ((first | refine Sg.mk ?_ | refine Br.t (Nat.ble_eq_true_of_le (by (try simp only [List.length_cons, List.length_nil, List.length_map, List.length_append, List.length_range, List.length_zip, List.length_reverse, List.length_take, List.length_drop, rg_len]); omega)) ?_ | refine opt_of rfl ?_ | refine Br.t rfl ?_ | refine Br.f rfl ?_ | refine Br.t (by decide) ?_ | refine Br.f (by decide) ?_ | refine And.intro (rfl : okE _ _ = true) ?_ | refine And.intro (by decide) ?_ | refine And.intro ⟨rfl, rfl⟩ ?_ | refine And.intro (Eq.refl _) ?_ | refine opt_of at0 ?_ | refine opt_of at1 ?_ | refine And.intro (by omega) ?_ | refine And.intro (by (try simp only [List.length_cons, List.length_nil, List.length_map, List.length_append, List.length_range, List.length_zip, List.length_reverse, List.length_take, List.length_drop]); omega) ?_); conv => whnf)
      refine ⟨?_⟩
      refine d_letter_at R (by omega) (by omega) ?_
      rw [e1 i hi]
      (conv => whnf); repeat ((first | refine Sg.mk ?_ | refine Br.t (Nat.ble_eq_true_of_le (by (try simp only [List.length_cons, List.length_nil, List.length_map, List.length_append, List.length_range, List.length_zip, List.length_reverse, List.length_take, List.length_drop, rg_len]); omega)) ?_ | refine opt_of rfl ?_ | refine Br.t rfl ?_ | refine Br.f rfl ?_ | refine Br.t (by decide) ?_ | refine Br.f (by decide) ?_ | refine And.intro (rfl : okE _ _ = true) ?_ | refine And.intro (by decide) ?_ | refine And.intro ⟨rfl, rfl⟩ ?_ | refine And.intro (Eq.refl _) ?_ | refine opt_of at0 ?_ | refine opt_of at1 ?_ | refine And.intro (by omega) ?_ | refine And.intro (by (try simp only [List.length_cons, List.length_nil, List.length_map, List.length_append, List.length_range, List.length_zip, List.length_reverse, List.length_take, List.length_drop]); omega) ?_); conv => whnf)
      exact hk
    rw [map_four _ hlen]
    (conv => whnf); repeat ((first | refine Sg.mk ?_ | refine Br.t (Nat.ble_eq_true_of_le (by (try simp only [List.length_cons, List.length_nil, List.length_map, List.length_append, List.length_range, List.length_zip, List.length_reverse, List.length_take, List.length_drop, rg_len]); omega)) ?_ | refine opt_of rfl ?_ | refine Br.t rfl ?_ | refine Br.f rfl ?_ | refine Br.t (by decide) ?_ | refine Br.f (by decide) ?_ | refine And.intro (rfl : okE _ _ = true) ?_ | refine And.intro (by decide) ?_ | refine And.intro ⟨rfl, rfl⟩ ?_ | refine And.intro (Eq.refl _) ?_ | refine opt_of at0 ?_ | refine opt_of at1 ?_ | refine And.intro (by omega) ?_ | refine And.intro (by (try simp only [List.length_cons, List.length_nil, List.length_map, List.length_append, List.length_range, List.length_zip, List.length_reverse, List.length_take, List.length_drop]); omega) ?_); conv => whnf)
    refine And.intro (four_ok hc) ?_
    (conv => whnf); repeat ((first | refine Sg.mk ?_ | refine Br.t (Nat.ble_eq_true_of_le (by (try simp only [List.length_cons, List.length_nil, List.length_map, List.length_append, List.length_range, List.length_zip, List.length_reverse, List.length_take, List.length_drop, rg_len]); omega)) ?_ | refine opt_of rfl ?_ | refine Br.t rfl ?_ | refine Br.f rfl ?_ | refine Br.t (by decide) ?_ | refine Br.f (by decide) ?_ | refine And.intro (rfl : okE _ _ = true) ?_ | refine And.intro (by decide) ?_ | refine And.intro ⟨rfl, rfl⟩ ?_ | refine And.intro (Eq.refl _) ?_ | refine opt_of at0 ?_ | refine opt_of at1 ?_ | refine And.intro (by omega) ?_ | refine And.intro (by (try simp only [List.length_cons, List.length_nil, List.length_map, List.length_append, List.length_range, List.length_zip, List.length_reverse, List.length_take, List.length_drop]); omega) ?_); conv => whnf)
    refine Br.f (four_eq _) ?_
    (conv => whnf); repeat ((first | refine Sg.mk ?_ | refine Br.t (Nat.ble_eq_true_of_le (by (try simp only [List.length_cons, List.length_nil, List.length_map, List.length_append, List.length_range, List.length_zip, List.length_reverse, List.length_take, List.length_drop, rg_len]); omega)) ?_ | refine opt_of rfl ?_ | refine Br.t rfl ?_ | refine Br.f rfl ?_ | refine Br.t (by decide) ?_ | refine Br.f (by decide) ?_ | refine And.intro (rfl : okE _ _ = true) ?_ | refine And.intro (by decide) ?_ | refine And.intro ⟨rfl, rfl⟩ ?_ | refine And.intro (Eq.refl _) ?_ | refine opt_of at0 ?_ | refine opt_of at1 ?_ | refine And.intro (by omega) ?_ | refine And.intro (by (try simp only [List.length_cons, List.length_nil, List.length_map, List.length_append, List.length_range, List.length_zip, List.length_reverse, List.length_take, List.length_drop]); omega) ?_); conv => whnf)
    refine lc_all D.int (fun i => .int (T - 1 - i)) (fun i r k hi hk => ?_) ?_
    · (conv => whnf); repeat ((first | refine Sg.mk ?_ | refine Br.t (Nat.ble_eq_true_of_le (by (try simp only [List.length_cons, List.length_nil, List.length_map, List.length_append, List.length_range, List.length_zip, List.length_reverse, List.length_take, List.length_drop, rg_len]); omega)) ?_ | refine opt_of rfl ?_ | refine Br.t rfl ?_ | refine Br.f rfl ?_ | refine Br.t (by decide) ?_ | refine Br.f (by decide) ?_ | refine And.intro (rfl : okE _ _ = true) ?_ | refine And.intro (by decide) ?_ | refine And.intro ⟨rfl, rfl⟩ ?_ | refine And.intro (Eq.refl _) ?_ | refine opt_of at0 ?_ | refine opt_of at1 ?_ | refine And.intro (by omega) ?_ | refine And.intro (by (try simp only [List.length_cons, List.length_nil, List.length_map, List.length_append, List.length_range, List.length_zip, List.length_reverse, List.length_take, List.length_drop]); omega) ?_); conv => whnf)
      exact hk
    (conv => whnf); repeat ((first | refine Sg.mk ?_ | refine Br.t (Nat.ble_eq_true_of_le (by (try simp only [List.length_cons, List.length_nil, List.length_map, List.length_append, List.length_range, List.length_zip, List.length_reverse, List.length_take, List.length_drop, rg_len]); omega)) ?_ | refine opt_of rfl ?_ | refine Br.t rfl ?_ | refine Br.f rfl ?_ | refine Br.t (by decide) ?_ | refine Br.f (by decide) ?_ | refine And.intro (rfl : okE _ _ = true) ?_ | refine And.intro (by decide) ?_ | refine And.intro ⟨rfl, rfl⟩ ?_ | refine And.intro (Eq.refl _) ?_ | refine opt_of at0 ?_ | refine opt_of at1 ?_ | refine And.intro (by omega) ?_ | refine And.intro (by (try simp only [List.length_cons, List.length_nil, List.length_map, List.length_append, List.length_range, List.length_zip, List.length_reverse, List.length_take, List.length_drop]); omega) ?_); conv => whnf)
    refine lc_all (fun i => .int (T - 1 - i)) (fun _ => .str [p.1]) (fun i r k hi hk => ?_) ?_
    · have hi' := hv i hi
      (conv => whnf); repeat ((first | refine Sg.mk ?_ | refine Br.t (Nat.ble_eq_true_of_le (by (try simp only [List.length_cons, List.length_nil, List.length_map, List.length_append, List.length_range, List.length_zip, List.length_reverse, List.length_take, List.length_drop, rg_len]); omega)) ?_ | refine opt_of rfl ?_ | refine Br.t rfl ?_ | refine Br.f rfl ?_ | refine Br.t (by decide) ?_ | refine Br.f (by decide) ?_ | refine And.intro (rfl : okE _ _ = true) ?_ | refine And.intro (by decide) ?_ | refine And.intro ⟨rfl, rfl⟩ ?_ | refine And.intro (Eq.refl _) ?_ | refine opt_of at0 ?_ | refine opt_of at1 ?_ | refine And.intro (by omega) ?_ | refine And.intro (by (try simp only [List.length_cons, List.length_nil, List.length_map, List.length_append, List.length_range, List.length_zip, List.length_reverse, List.length_take, List.length_drop]); omega) ?_); conv => whnf)
      refine ⟨?_⟩
      rw [← List.map_reverse]
      refine d_letter_at R.rev (by omega) (by rw [sumR_rev]; omega) ?_
      rw [e2 i hi]
      (conv => whnf); repeat ((first | refine Sg.mk ?_ | refine Br.t (Nat.ble_eq_true_of_le (by (try simp only [List.length_cons, List.length_nil, List.length_map, List.length_append, List.length_range, List.length_zip, List.length_reverse, List.length_take, List.length_drop, rg_len]); omega)) ?_ | refine opt_of rfl ?_ | refine Br.t rfl ?_ | refine Br.f rfl ?_ | refine Br.t (by decide) ?_ | refine Br.f (by decide) ?_ | refine And.intro (rfl : okE _ _ = true) ?_ | refine And.intro (by decide) ?_ | refine And.intro ⟨rfl, rfl⟩ ?_ | refine And.intro (Eq.refl _) ?_ | refine opt_of at0 ?_ | refine opt_of at1 ?_ | refine And.intro (by omega) ?_ | refine And.intro (by (try simp only [List.length_cons, List.length_nil, List.length_map, List.length_append, List.length_range, List.length_zip, List.length_reverse, List.length_take, List.length_drop]); omega) ?_); conv => whnf)
      exact hk
    (conv => whnf); repeat ((first | refine Sg.mk ?_ | refine Br.t (Nat.ble_eq_true_of_le (by (try simp only [List.length_cons, List.length_nil, List.length_map, List.length_append, List.length_range, List.length_zip, List.length_reverse, List.length_take, List.length_drop, rg_len]); omega)) ?_ | refine opt_of rfl ?_ | refine Br.t rfl ?_ | refine Br.f rfl ?_ | refine Br.t (by decide) ?_ | refine Br.f (by decide) ?_ | refine And.intro (rfl : okE _ _ = true) ?_ | refine And.intro (by decide) ?_ | refine And.intro ⟨rfl, rfl⟩ ?_ | refine And.intro (Eq.refl _) ?_ | refine opt_of at0 ?_ | refine opt_of at1 ?_ | refine And.intro (by omega) ?_ | refine And.intro (by (try simp only [List.length_cons, List.length_nil, List.length_map, List.length_append, List.length_range, List.length_zip, List.length_reverse, List.length_take, List.length_drop]); omega) ?_); conv => whnf)
    rw [map_four _ hlen]
    refine And.intro (four_ok hc) ?_
    (conv => whnf); repeat ((first | refine Sg.mk ?_ | refine Br.t (Nat.ble_eq_true_of_le (by (try simp only [List.length_cons, List.length_nil, List.length_map, List.length_append, List.length_range, List.length_zip, List.length_reverse, List.length_take, List.length_drop, rg_len]); omega)) ?_ | refine opt_of rfl ?_ | refine Br.t rfl ?_ | refine Br.f rfl ?_ | refine Br.t (by decide) ?_ | refine Br.f (by decide) ?_ | refine And.intro (rfl : okE _ _ = true) ?_ | refine And.intro (by decide) ?_ | refine And.intro ⟨rfl, rfl⟩ ?_ | refine And.intro (Eq.refl _) ?_ | refine opt_of at0 ?_ | refine opt_of at1 ?_ | refine And.intro (by omega) ?_ | refine And.intro (by (try simp only [List.length_cons, List.length_nil, List.length_map, List.length_append, List.length_range, List.length_zip, List.length_reverse, List.length_take, List.length_drop]); omega) ?_); conv => whnf)
    refine Br.f (four_eq _) ?_
    (conv => whnf); repeat ((first | refine Sg.mk ?_ | refine Br.t (Nat.ble_eq_true_of_le (by (try simp only [List.length_cons, List.length_nil, List.length_map, List.length_append, List.length_range, List.length_zip, List.length_reverse, List.length_take, List.length_drop, rg_len]); omega)) ?_ | refine opt_of rfl ?_ | refine Br.t rfl ?_ | refine Br.f rfl ?_ | refine Br.t (by decide) ?_ | refine Br.f (by decide) ?_ | refine And.intro (rfl : okE _ _ = true) ?_ | refine And.intro (by decide) ?_ | refine And.intro ⟨rfl, rfl⟩ ?_ | refine And.intro (Eq.refl _) ?_ | refine opt_of at0 ?_ | refine opt_of at1 ?_ | refine And.intro (by omega) ?_ | refine And.intro (by (try simp only [List.length_cons, List.length_nil, List.length_map, List.length_append, List.length_range, List.length_zip, List.length_reverse, List.length_take, List.length_drop]); omega) ?_); conv => whnf)
    refine ih _ ⟨b1, some (.sh (.str [p.1])), some (.sh (.int p.2)), some (.sh (.lst true (is.map D.int))), some (.sh (.lst false (is.map fun i => .int (T - 1 - i)))), none, ?_, ?_⟩
    · rw [List.length_append, List.length_singleton, ← Nat.add_assoc]; exact B1
    · rw [sumR_app, show sumR [p] = p.2 from by unfold sumR; simp]
      try rfl
  · obtain ⟨bg, y2, y3, y7, y8, y9, B, rfl⟩ := hf
    (conv => whnf); repeat ((first | refine Sg.mk ?_ | refine Br.t (Nat.ble_eq_true_of_le (by (try simp only [List.length_cons, List.length_nil, List.length_map, List.length_append, List.length_range, List.length_zip, List.length_reverse, List.length_take, List.length_drop, rg_len]); omega)) ?_ | refine opt_of rfl ?_ | refine Br.t rfl ?_ | refine Br.f rfl ?_ | refine Br.t (by decide) ?_ | refine Br.f (by decide) ?_ | refine And.intro (rfl : okE _ _ = true) ?_ | refine And.intro (by decide) ?_ | refine And.intro ⟨rfl, rfl⟩ ?_ | refine And.intro (Eq.refl _) ?_ | refine opt_of at0 ?_ | refine opt_of at1 ?_ | refine And.intro (by omega) ?_ | refine And.intro (by (try simp only [List.length_cons, List.length_nil, List.length_map, List.length_append, List.length_range, List.length_zip, List.length_reverse, List.length_take, List.length_drop]); omega) ?_); conv => whnf)
    refine And.intro (rs_shw R) ?_
    rw [hkept]
    (conv => whnf); repeat ((first | refine Sg.mk ?_ | refine Br.t (Nat.ble_eq_true_of_le (by (try simp only [List.length_cons, List.length_nil, List.length_map, List.length_append, List.length_range, List.length_zip, List.length_reverse, List.length_take, List.length_drop, rg_len]); omega)) ?_ | refine opt_of rfl ?_ | refine Br.t rfl ?_ | refine Br.f rfl ?_ | refine Br.t (by decide) ?_ | refine Br.f (by decide) ?_ | refine And.intro (rfl : okE _ _ = true) ?_ | refine And.intro (by decide) ?_ | refine And.intro ⟨rfl, rfl⟩ ?_ | refine And.intro (Eq.refl _) ?_ | refine opt_of at0 ?_ | refine opt_of at1 ?_ | refine And.intro (by omega) ?_ | refine And.intro (by (try simp only [List.length_cons, List.length_nil, List.length_map, List.length_append, List.length_range, List.length_zip, List.length_reverse, List.length_take, List.length_drop]); omega) ?_); conv => whnf)
    rw [eqB_str_rfl]
    exact q _ (B.more (by omega))

end K35
namespace K35
open PySem PySem.Spec PyProof.Rows L2 Vx Dl
theorem list_ab : (List.map (fun c => D.str [c]) [97, 97, 98, 98, 97, 97]) = [D.str [97], .str [97], .str [98], .str [98], .str [97], .str [97]] := rfl
theorem six_ok : okE (D.lst false [D.str [97], .str [97], .str [98], .str [98], .str [97], .str [97]]) (D.lst true (List.map (fun c => D.str [c]) [97, 97, 98, 98, 97, 97])) = true := by decide +kernel
theorem six_eq : (!eqB (D.lst false [D.str [97], .str [97], .str [98], .str [98], .str [97], .str [97]]) (D.lst true [D.str [97], .str [97], .str [98], .str [98], .str [97], .str [97]])) = false := by decide +kernel
theorem sum_le_of {rs : Rs} {m : Nat} {M : Int} (h : ∀ p ∈ rs, p.2 ≤ M) (M0 : 0 ≤ M) (hl : rs.length ≤ m) : sumR rs ≤ m * M := Int.le_trans (sumR_le h) (Int.mul_le_mul_of_nonneg_right (by omega) M0)
set_option maxHeartbeats 1600000 in
theorem law_true (EN ER : Addr) : LawOk (sp_law EN ER) := by
  intro ns hl
  unfold sp_law
  (conv => whnf); repeat ((first | refine Sg.mk ?_ | refine Br.t (Nat.ble_eq_true_of_le (by (try simp only [List.length_cons, List.length_nil, List.length_map, List.length_append, List.length_range, List.length_zip, List.length_reverse, List.length_take, List.length_drop, rg_len]); omega)) ?_ | refine opt_of rfl ?_ | refine Br.t rfl ?_ | refine Br.f rfl ?_ | refine Br.t (by decide) ?_ | refine Br.f (by decide) ?_ | refine And.intro (rfl : okE _ _ = true) ?_ | refine And.intro (by decide) ?_ | refine And.intro ⟨rfl, rfl⟩ ?_ | refine And.intro (Eq.refl _) ?_ | refine opt_of at0 ?_ | refine opt_of at1 ?_ | refine And.intro (by omega) ?_ | refine And.intro (by (try simp only [List.length_cons, List.length_nil, List.length_map, List.length_append, List.length_range, List.length_zip, List.length_reverse, List.length_take, List.length_drop]); omega) ?_); conv => whnf)
  refine ⟨?_⟩
  refine d_law_reel hl fun b hb => ?_
  (conv => whnf); repeat ((first | refine Sg.mk ?_ | refine Br.t (Nat.ble_eq_true_of_le (by (try simp only [List.length_cons, List.length_nil, List.length_map, List.length_append, List.length_range, List.length_zip, List.length_reverse, List.length_take, List.length_drop, rg_len]); omega)) ?_ | refine opt_of rfl ?_ | refine Br.t rfl ?_ | refine Br.f rfl ?_ | refine Br.t (by decide) ?_ | refine Br.f (by decide) ?_ | refine And.intro (rfl : okE _ _ = true) ?_ | refine And.intro (by decide) ?_ | refine And.intro ⟨rfl, rfl⟩ ?_ | refine And.intro (Eq.refl _) ?_ | refine opt_of at0 ?_ | refine opt_of at1 ?_ | refine And.intro (by omega) ?_ | refine And.intro (by (try simp only [List.length_cons, List.length_nil, List.length_map, List.length_append, List.length_range, List.length_zip, List.length_reverse, List.length_take, List.length_drop]); omega) ?_); conv => whnf)
  refine ⟨?_⟩
  refine loop_ind (fun ds fr => ∃ (m : Nat) (bg : D) (y2 y3 : Option SV), m + ds.length * 1000 ≤ 90000 ∧ BagD m bg ∧ fr = ⟨[some (.sh (.scr ns)), some (.ow bg), y2, y3, none, none, none, none], []⟩) ?_ ?_ ⟨0, b, none, none, by rw [rg_len]; omega, hb, rfl⟩
  · rintro d ds fr ⟨m, bg, y2, y3, hm, B, rfl⟩ ih
    rw [List.length_cons] at hm
    (conv => whnf); repeat ((first | refine Sg.mk ?_ | refine Br.t (Nat.ble_eq_true_of_le (by (try simp only [List.length_cons, List.length_nil, List.length_map, List.length_append, List.length_range, List.length_zip, List.length_reverse, List.length_take, List.length_drop, rg_len]); omega)) ?_ | refine opt_of rfl ?_ | refine Br.t rfl ?_ | refine Br.f rfl ?_ | refine Br.t (by decide) ?_ | refine Br.f (by decide) ?_ | refine And.intro (rfl : okE _ _ = true) ?_ | refine And.intro (by decide) ?_ | refine And.intro ⟨rfl, rfl⟩ ?_ | refine And.intro (Eq.refl _) ?_ | refine opt_of at0 ?_ | refine opt_of at1 ?_ | refine And.intro (by omega) ?_ | refine And.intro (by (try simp only [List.length_cons, List.length_nil, List.length_map, List.length_append, List.length_range, List.length_zip, List.length_reverse, List.length_take, List.length_drop]); omega) ?_); conv => whnf)
    refine ⟨?_⟩
    refine d_law_runs (many := 20) B (by omega) (by decide) (by decide) (by decide) fun rs b1 R hM lr B1 => ?_
    (conv => whnf); repeat ((first | refine Sg.mk ?_ | refine Br.t (Nat.ble_eq_true_of_le (by (try simp only [List.length_cons, List.length_nil, List.length_map, List.length_append, List.length_range, List.length_zip, List.length_reverse, List.length_take, List.length_drop, rg_len]); omega)) ?_ | refine opt_of rfl ?_ | refine Br.t rfl ?_ | refine Br.f rfl ?_ | refine Br.t (by decide) ?_ | refine Br.f (by decide) ?_ | refine And.intro (rfl : okE _ _ = true) ?_ | refine And.intro (by decide) ?_ | refine And.intro ⟨rfl, rfl⟩ ?_ | refine And.intro (Eq.refl _) ?_ | refine opt_of at0 ?_ | refine opt_of at1 ?_ | refine And.intro (by omega) ?_ | refine And.intro (by (try simp only [List.length_cons, List.length_nil, List.length_map, List.length_append, List.length_range, List.length_zip, List.length_reverse, List.length_take, List.length_drop]); omega) ?_); conv => whnf)
    refine ⟨?_⟩
    refine d_short R (by have := sum_le_of hM (by decide) lr; omega) ?_
    (conv => whnf); repeat ((first | refine Sg.mk ?_ | refine Br.t (Nat.ble_eq_true_of_le (by (try simp only [List.length_cons, List.length_nil, List.length_map, List.length_append, List.length_range, List.length_zip, List.length_reverse, List.length_take, List.length_drop, rg_len]); omega)) ?_ | refine opt_of rfl ?_ | refine Br.t rfl ?_ | refine Br.f rfl ?_ | refine Br.t (by decide) ?_ | refine Br.f (by decide) ?_ | refine And.intro (rfl : okE _ _ = true) ?_ | refine And.intro (by decide) ?_ | refine And.intro ⟨rfl, rfl⟩ ?_ | refine And.intro (Eq.refl _) ?_ | refine opt_of at0 ?_ | refine opt_of at1 ?_ | refine And.intro (by omega) ?_ | refine And.intro (by (try simp only [List.length_cons, List.length_nil, List.length_map, List.length_append, List.length_range, List.length_zip, List.length_reverse, List.length_take, List.length_drop]); omega) ?_); conv => whnf)
    refine ⟨?_⟩
    refine loop_ind (fun es fr => ∃ (m1 : Nat) (bg1 : D) (y3 : Option SV), (∀ d ∈ es, ∃ k : Int, d = .int k) ∧ m1 + es.length * 200 ≤ m + 900 ∧ BagD m1 bg1 ∧ fr = ⟨[some (.sh (.scr ns)), some (.ow bg1), some (.sh d), y3, none, none, none, none], []⟩) ?_ ?_ ⟨m + 100, b1, y3, (fun d hd => by unfold rgD at hd; obtain ⟨j, _, rfl⟩ := List.mem_map.mp hd; exact ⟨_, rfl⟩), by rw [rg_len]; omega, B1, rfl⟩
    · rintro e es fr ⟨m1, bg1, y3, hk, hm1, B1, rfl⟩ ih1
      rw [List.length_cons] at hm1
      obtain ⟨k, rfl⟩ := hk _ List.mem_cons_self
      have hk' : ∀ d ∈ es, ∃ k : Int, d = .int k := fun d hd => hk d (List.mem_cons_of_mem _ hd)
      obtain ⟨mo, hmo, mo1, mo2⟩ : ∃ mo : Int, atI [D.int (10 ^ Int.toNat 30), .int 9] (k % 2) = some (.int mo) ∧ 4 ≤ mo ∧ mo ≤ 10 ^ 62 := by
        rcases (show k % 2 = 0 ∨ k % 2 = 1 by omega) with e | e <;> rw [e]
        · exact ⟨_, rfl, by decide, by decide⟩
        · exact ⟨9, rfl, by decide, by decide⟩
      (conv => whnf); repeat ((first | refine Sg.mk ?_ | refine Br.t (Nat.ble_eq_true_of_le (by (try simp only [List.length_cons, List.length_nil, List.length_map, List.length_append, List.length_range, List.length_zip, List.length_reverse, List.length_take, List.length_drop, rg_len]); omega)) ?_ | refine opt_of rfl ?_ | refine Br.t rfl ?_ | refine Br.f rfl ?_ | refine Br.t (by decide) ?_ | refine Br.f (by decide) ?_ | refine And.intro (rfl : okE _ _ = true) ?_ | refine And.intro (by decide) ?_ | refine And.intro ⟨rfl, rfl⟩ ?_ | refine And.intro (Eq.refl _) ?_ | refine opt_of at0 ?_ | refine opt_of at1 ?_ | refine And.intro (by omega) ?_ | refine And.intro (by (try simp only [List.length_cons, List.length_nil, List.length_map, List.length_append, List.length_range, List.length_zip, List.length_reverse, List.length_take, List.length_drop]); omega) ?_); conv => whnf)
      refine And.intro ⟨by decide, by decide, by decide⟩ ?_
      (conv => whnf); repeat ((first | refine Sg.mk ?_ | refine Br.t (Nat.ble_eq_true_of_le (by (try simp only [List.length_cons, List.length_nil, List.length_map, List.length_append, List.length_range, List.length_zip, List.length_reverse, List.length_take, List.length_drop, rg_len]); omega)) ?_ | refine opt_of rfl ?_ | refine Br.t rfl ?_ | refine Br.f rfl ?_ | refine Br.t (by decide) ?_ | refine Br.f (by decide) ?_ | refine And.intro (rfl : okE _ _ = true) ?_ | refine And.intro (by decide) ?_ | refine And.intro ⟨rfl, rfl⟩ ?_ | refine And.intro (Eq.refl _) ?_ | refine opt_of at0 ?_ | refine opt_of at1 ?_ | refine And.intro (by omega) ?_ | refine And.intro (by (try simp only [List.length_cons, List.length_nil, List.length_map, List.length_append, List.length_range, List.length_zip, List.length_reverse, List.length_take, List.length_drop]); omega) ?_); conv => whnf)
      refine opt_of hmo ?_
      (conv => whnf); repeat ((first | refine Sg.mk ?_ | refine Br.t (Nat.ble_eq_true_of_le (by (try simp only [List.length_cons, List.length_nil, List.length_map, List.length_append, List.length_range, List.length_zip, List.length_reverse, List.length_take, List.length_drop, rg_len]); omega)) ?_ | refine opt_of rfl ?_ | refine Br.t rfl ?_ | refine Br.f rfl ?_ | refine Br.t (by decide) ?_ | refine Br.f (by decide) ?_ | refine And.intro (rfl : okE _ _ = true) ?_ | refine And.intro (by decide) ?_ | refine And.intro ⟨rfl, rfl⟩ ?_ | refine And.intro (Eq.refl _) ?_ | refine opt_of at0 ?_ | refine opt_of at1 ?_ | refine And.intro (by omega) ?_ | refine And.intro (by (try simp only [List.length_cons, List.length_nil, List.length_map, List.length_append, List.length_range, List.length_zip, List.length_reverse, List.length_take, List.length_drop]); omega) ?_); conv => whnf)
      refine ⟨?_⟩
      refine d_law_runs (many := 40) B1 (by omega) (by decide) mo1 mo2 fun rs2 b2 R2 _ lr2 B2 => ?_
      (conv => whnf); repeat ((first | refine Sg.mk ?_ | refine Br.t (Nat.ble_eq_true_of_le (by (try simp only [List.length_cons, List.length_nil, List.length_map, List.length_append, List.length_range, List.length_zip, List.length_reverse, List.length_take, List.length_drop, rg_len]); omega)) ?_ | refine opt_of rfl ?_ | refine Br.t rfl ?_ | refine Br.f rfl ?_ | refine Br.t (by decide) ?_ | refine Br.f (by decide) ?_ | refine And.intro (rfl : okE _ _ = true) ?_ | refine And.intro (by decide) ?_ | refine And.intro ⟨rfl, rfl⟩ ?_ | refine And.intro (Eq.refl _) ?_ | refine opt_of at0 ?_ | refine opt_of at1 ?_ | refine And.intro (by omega) ?_ | refine And.intro (by (try simp only [List.length_cons, List.length_nil, List.length_map, List.length_append, List.length_range, List.length_zip, List.length_reverse, List.length_take, List.length_drop]); omega) ?_); conv => whnf)
      refine ⟨?_⟩
      refine d_far B2 (by omega) R2 fun b3 B3 => ?_
      (conv => whnf); repeat ((first | refine Sg.mk ?_ | refine Br.t (Nat.ble_eq_true_of_le (by (try simp only [List.length_cons, List.length_nil, List.length_map, List.length_append, List.length_range, List.length_zip, List.length_reverse, List.length_take, List.length_drop, rg_len]); omega)) ?_ | refine opt_of rfl ?_ | refine Br.t rfl ?_ | refine Br.f rfl ?_ | refine Br.t (by decide) ?_ | refine Br.f (by decide) ?_ | refine And.intro (rfl : okE _ _ = true) ?_ | refine And.intro (by decide) ?_ | refine And.intro ⟨rfl, rfl⟩ ?_ | refine And.intro (Eq.refl _) ?_ | refine opt_of at0 ?_ | refine opt_of at1 ?_ | refine And.intro (by omega) ?_ | refine And.intro (by (try simp only [List.length_cons, List.length_nil, List.length_map, List.length_append, List.length_range, List.length_zip, List.length_reverse, List.length_take, List.length_drop]); omega) ?_); conv => whnf)
      exact ih1 _ ⟨m1 + 200, b3, _, hk', by omega, B3.more (by omega), rfl⟩
    · rintro fr ⟨m1, bg1, y3, hk, hm1, B1, rfl⟩
      rw [List.length_nil] at hm1
      exact ih _ ⟨m + 900, bg1, _, y3, by omega, B1.more (by omega), rfl⟩
  · rintro fr ⟨m, bg, y2, y3, hm, B, rfl⟩
    (conv => whnf); repeat ((first | refine Sg.mk ?_ | refine Br.t (Nat.ble_eq_true_of_le (by (try simp only [List.length_cons, List.length_nil, List.length_map, List.length_append, List.length_range, List.length_zip, List.length_reverse, List.length_take, List.length_drop, rg_len]); omega)) ?_ | refine opt_of rfl ?_ | refine Br.t rfl ?_ | refine Br.f rfl ?_ | refine Br.t (by decide) ?_ | refine Br.f (by decide) ?_ | refine And.intro (rfl : okE _ _ = true) ?_ | refine And.intro (by decide) ?_ | refine And.intro ⟨rfl, rfl⟩ ?_ | refine And.intro (Eq.refl _) ?_ | refine opt_of at0 ?_ | refine opt_of at1 ?_ | refine And.intro (by omega) ?_ | refine And.intro (by (try simp only [List.length_cons, List.length_nil, List.length_map, List.length_append, List.length_range, List.length_zip, List.length_reverse, List.length_take, List.length_drop]); omega) ?_); conv => whnf)
    refine And.intro ⟨by decide, by decide, by decide⟩ ?_
    (conv => whnf); repeat ((first | refine Sg.mk ?_ | refine Br.t (Nat.ble_eq_true_of_le (by (try simp only [List.length_cons, List.length_nil, List.length_map, List.length_append, List.length_range, List.length_zip, List.length_reverse, List.length_take, List.length_drop, rg_len]); omega)) ?_ | refine opt_of rfl ?_ | refine Br.t rfl ?_ | refine Br.f rfl ?_ | refine Br.t (by decide) ?_ | refine Br.f (by decide) ?_ | refine And.intro (rfl : okE _ _ = true) ?_ | refine And.intro (by decide) ?_ | refine And.intro ⟨rfl, rfl⟩ ?_ | refine And.intro (Eq.refl _) ?_ | refine opt_of at0 ?_ | refine opt_of at1 ?_ | refine And.intro (by omega) ?_ | refine And.intro (by (try simp only [List.length_cons, List.length_nil, List.length_map, List.length_append, List.length_range, List.length_zip, List.length_reverse, List.length_take, List.length_drop]); omega) ?_); conv => whnf)
    refine And.intro ⟨by decide, by decide, by decide⟩ ?_
    (conv => whnf); repeat ((first | refine Sg.mk ?_ | refine Br.t (Nat.ble_eq_true_of_le (by (try simp only [List.length_cons, List.length_nil, List.length_map, List.length_append, List.length_range, List.length_zip, List.length_reverse, List.length_take, List.length_drop, rg_len]); omega)) ?_ | refine opt_of rfl ?_ | refine Br.t rfl ?_ | refine Br.f rfl ?_ | refine Br.t (by decide) ?_ | refine Br.f (by decide) ?_ | refine And.intro (rfl : okE _ _ = true) ?_ | refine And.intro (by decide) ?_ | refine And.intro ⟨rfl, rfl⟩ ?_ | refine And.intro (Eq.refl _) ?_ | refine opt_of at0 ?_ | refine opt_of at1 ?_ | refine And.intro (by omega) ?_ | refine And.intro (by (try simp only [List.length_cons, List.length_nil, List.length_map, List.length_append, List.length_range, List.length_zip, List.length_reverse, List.length_take, List.length_drop]); omega) ?_); conv => whnf)
    refine ⟨?_⟩
    refine loop_ind (fun ds fr => ∃ (y4 y5 y6 y7 : Option SV), (∀ d ∈ ds, ∃ f : Int, d = .int f ∧ 1 ≤ f ∧ f ≤ 10 ^ 61) ∧ fr = ⟨[some (.sh (.scr ns)), some (.ow bg), y2, y3, y4, y5, y6, y7], []⟩) ?_ ?_ ⟨none, none, none, none, ?_, rfl⟩
    · rintro d ds fr ⟨y4, y5, y6, y7, hk, rfl⟩ ih
      obtain ⟨f, rfl, f1, f2⟩ := hk _ List.mem_cons_self
      have hk' : ∀ d ∈ ds, ∃ f : Int, d = .int f ∧ 1 ≤ f ∧ f ≤ 10 ^ 61 := fun d hd => hk d (List.mem_cons_of_mem _ hd)
      have wm : ∀ c : Int, c.natAbs < 2 ^ 4 → CMulW c f := fun c hc => wide_mul (a := 4) (b := 210) hc (Nat.lt_of_le_of_lt (show f.natAbs ≤ 10 ^ 61 by omega) (by decide)) (by decide) (by decide) (by decide)
      have Rall : ∀ p ∈ [((97 : Nat), f), (98, 2 * f), (97, f)], (p.1 = 97 ∨ p.1 = 98) ∧ 1 ≤ p.2 ∧ p.2 ≤ 10 ^ 62 := fun p hp => by
        rcases List.mem_cons.mp hp with rfl | hp
        · exact ⟨.inl rfl, f1, Int.le_trans f2 (by decide)⟩
        rcases List.mem_cons.mp hp with rfl | hp
        · exact ⟨.inr rfl, by show 1 ≤ 2 * f; omega, by show 2 * f ≤ 10 ^ 62; omega⟩
        rcases List.mem_cons.mp hp with rfl | hp
        · exact ⟨.inl rfl, f1, Int.le_trans f2 (by decide)⟩
        · exact nomatch hp
      have R : Rn [(97, f), (98, 2 * f), (97, f)] := ⟨Nat.le_of_ble_eq_true rfl, Rall, rfl⟩
      have hs : sumR [(97, f), (98, 2 * f), (97, f)] = 4 * f := by unfold sumR; simp; omega
      (conv => whnf); repeat ((first | refine Sg.mk ?_ | refine Br.t (Nat.ble_eq_true_of_le (by (try simp only [List.length_cons, List.length_nil, List.length_map, List.length_append, List.length_range, List.length_zip, List.length_reverse, List.length_take, List.length_drop, rg_len]); omega)) ?_ | refine opt_of rfl ?_ | refine Br.t rfl ?_ | refine Br.f rfl ?_ | refine Br.t (by decide) ?_ | refine Br.f (by decide) ?_ | refine And.intro (rfl : okE _ _ = true) ?_ | refine And.intro (by decide) ?_ | refine And.intro ⟨rfl, rfl⟩ ?_ | refine And.intro (Eq.refl _) ?_ | refine opt_of at0 ?_ | refine opt_of at1 ?_ | refine And.intro (by omega) ?_ | refine And.intro (by (try simp only [List.length_cons, List.length_nil, List.length_map, List.length_append, List.length_range, List.length_zip, List.length_reverse, List.length_take, List.length_drop]); omega) ?_); conv => whnf)
      refine And.intro (wm 2 (by decide)) ?_
      (conv => whnf); repeat ((first | refine Sg.mk ?_ | refine Br.t (Nat.ble_eq_true_of_le (by (try simp only [List.length_cons, List.length_nil, List.length_map, List.length_append, List.length_range, List.length_zip, List.length_reverse, List.length_take, List.length_drop, rg_len]); omega)) ?_ | refine opt_of rfl ?_ | refine Br.t rfl ?_ | refine Br.f rfl ?_ | refine Br.t (by decide) ?_ | refine Br.f (by decide) ?_ | refine And.intro (rfl : okE _ _ = true) ?_ | refine And.intro (by decide) ?_ | refine And.intro ⟨rfl, rfl⟩ ?_ | refine And.intro (Eq.refl _) ?_ | refine opt_of at0 ?_ | refine opt_of at1 ?_ | refine And.intro (by omega) ?_ | refine And.intro (by (try simp only [List.length_cons, List.length_nil, List.length_map, List.length_append, List.length_range, List.length_zip, List.length_reverse, List.length_take, List.length_drop]); omega) ?_); conv => whnf)
      refine And.intro (wm 3 (by decide)) ?_
      (conv => whnf); repeat ((first | refine Sg.mk ?_ | refine Br.t (Nat.ble_eq_true_of_le (by (try simp only [List.length_cons, List.length_nil, List.length_map, List.length_append, List.length_range, List.length_zip, List.length_reverse, List.length_take, List.length_drop, rg_len]); omega)) ?_ | refine opt_of rfl ?_ | refine Br.t rfl ?_ | refine Br.f rfl ?_ | refine Br.t (by decide) ?_ | refine Br.f (by decide) ?_ | refine And.intro (rfl : okE _ _ = true) ?_ | refine And.intro (by decide) ?_ | refine And.intro ⟨rfl, rfl⟩ ?_ | refine And.intro (Eq.refl _) ?_ | refine opt_of at0 ?_ | refine opt_of at1 ?_ | refine And.intro (by omega) ?_ | refine And.intro (by (try simp only [List.length_cons, List.length_nil, List.length_map, List.length_append, List.length_range, List.length_zip, List.length_reverse, List.length_take, List.length_drop]); omega) ?_); conv => whnf)
      refine And.intro (wm 3 (by decide)) ?_
      (conv => whnf); repeat ((first | refine Sg.mk ?_ | refine Br.t (Nat.ble_eq_true_of_le (by (try simp only [List.length_cons, List.length_nil, List.length_map, List.length_append, List.length_range, List.length_zip, List.length_reverse, List.length_take, List.length_drop, rg_len]); omega)) ?_ | refine opt_of rfl ?_ | refine Br.t rfl ?_ | refine Br.f rfl ?_ | refine Br.t (by decide) ?_ | refine Br.f (by decide) ?_ | refine And.intro (rfl : okE _ _ = true) ?_ | refine And.intro (by decide) ?_ | refine And.intro ⟨rfl, rfl⟩ ?_ | refine And.intro (Eq.refl _) ?_ | refine opt_of at0 ?_ | refine opt_of at1 ?_ | refine And.intro (by omega) ?_ | refine And.intro (by (try simp only [List.length_cons, List.length_nil, List.length_map, List.length_append, List.length_range, List.length_zip, List.length_reverse, List.length_take, List.length_drop]); omega) ?_); conv => whnf)
      refine And.intro (wm 4 (by decide)) ?_
      conv => whnf
      refine Br.t rfl ?_
      conv => whnf
      rw [show [D.int 0, D.int (f - 1), D.int f, D.int (3 * f - 1), D.int (3 * f), D.int (4 * f - 1)] = List.map (fun t : Int × Nat => D.int t.1) [(0, 97), (f - 1, 97), (f, 98), (3 * f - 1, 98), (3 * f, 97), (4 * f - 1, 97)] from rfl]
      have hL1 : ∀ t ∈ [((0 : Int), (97 : Nat)), (f - 1, 97), (f, 98), (3 * f - 1, 98), (3 * f, 97), (4 * f - 1, 97)], 0 ≤ t.1 ∧ t.1 < sumR [(97, f), (98, 2 * f), (97, f)] ∧ letAt [(97, f), (98, 2 * f), (97, f)] t.1 = t.2 := by
        rw [hs]
        simp only [List.forall_mem_cons, letAt]
        refine ⟨⟨by omega, by omega, ?_⟩, ⟨by omega, by omega, ?_⟩, ⟨by omega, by omega, ?_⟩, ⟨by omega, by omega, ?_⟩, ⟨by omega, by omega, ?_⟩, ⟨by omega, by omega, ?_⟩, fun _ h => nomatch h⟩
        all_goals (repeat' split) <;> omega
      have hL2 : List.map (fun t : Int × Nat => D.str [t.2]) [((0 : Int), (97 : Nat)), (f - 1, 97), (f, 98), (3 * f - 1, 98), (3 * f, 97), (4 * f - 1, 97)] = [D.str [97], .str [97], .str [98], .str [98], .str [97], .str [97]] := rfl
      have hL3 : [((0 : Int), (97 : Nat)), (f - 1, 97), (f, 98), (3 * f - 1, 98), (3 * f, 97), (4 * f - 1, 97)].length = 6 := rfl
      revert hL1 hL2 hL3
      generalize [((0 : Int), (97 : Nat)), (f - 1, 97), (f, 98), (3 * f - 1, 98), (3 * f, 97), (4 * f - 1, 97)] = L
      intro hL1 hL2 hL3
      refine Br.t (by rw [List.length_map, hL3]; rfl) ?_
      (conv => whnf); repeat ((first | refine Sg.mk ?_ | refine Br.t (Nat.ble_eq_true_of_le (by (try simp only [List.length_cons, List.length_nil, List.length_map, List.length_append, List.length_range, List.length_zip, List.length_reverse, List.length_take, List.length_drop, rg_len]); omega)) ?_ | refine opt_of rfl ?_ | refine Br.t rfl ?_ | refine Br.f rfl ?_ | refine Br.t (by decide) ?_ | refine Br.f (by decide) ?_ | refine And.intro (rfl : okE _ _ = true) ?_ | refine And.intro (by decide) ?_ | refine And.intro ⟨rfl, rfl⟩ ?_ | refine And.intro (Eq.refl _) ?_ | refine opt_of at0 ?_ | refine opt_of at1 ?_ | refine And.intro (by omega) ?_ | refine And.intro (by (try simp only [List.length_cons, List.length_nil, List.length_map, List.length_append, List.length_range, List.length_zip, List.length_reverse, List.length_take, List.length_drop]); omega) ?_); conv => whnf)
      refine lc_allI (fun fr => ∃ y, (y = some (SV.ow (D.lst true [D.tup [D.str [97], D.int f], D.tup [D.str [98], D.int (2 * f)], D.tup [D.str [97], D.int f]])) ∨ y = some (SV.sh (D.lst true [D.tup [D.str [97], D.int f], D.tup [D.str [98], D.int (2 * f)], D.tup [D.str [97], D.int f]]))) ∧ fr = ⟨[some (SV.sh (D.scr ns)), some (SV.ow bg), y2, y3, some (SV.sh (D.int f)), y, some (SV.sh (D.lst true (List.map (fun t => D.int t.fst) L))), none], []⟩) (fun t : Int × Nat => D.int t.1) (fun t => D.str [t.2]) (fun t r k fr ht hf hk => ?_) ⟨_, .inl rfl, rfl⟩ fun fr hf => ?_
      · obtain ⟨t0, t1, te⟩ := hL1 t ht
        obtain ⟨y, hy, rfl⟩ := hf
        rcases hy with rfl | rfl
        all_goals
          (conv => whnf); repeat ((first | refine Sg.mk ?_ | refine Br.t (Nat.ble_eq_true_of_le (by (try simp only [List.length_cons, List.length_nil, List.length_map, List.length_append, List.length_range, List.length_zip, List.length_reverse, List.length_take, List.length_drop, rg_len]); omega)) ?_ | refine opt_of rfl ?_ | refine Br.t rfl ?_ | refine Br.f rfl ?_ | refine Br.t (by decide) ?_ | refine Br.f (by decide) ?_ | refine And.intro (rfl : okE _ _ = true) ?_ | refine And.intro (by decide) ?_ | refine And.intro ⟨rfl, rfl⟩ ?_ | refine And.intro (Eq.refl _) ?_ | refine opt_of at0 ?_ | refine opt_of at1 ?_ | refine And.intro (by omega) ?_ | refine And.intro (by (try simp only [List.length_cons, List.length_nil, List.length_map, List.length_append, List.length_range, List.length_zip, List.length_reverse, List.length_take, List.length_drop]); omega) ?_); conv => whnf)
          refine ⟨?_⟩
          refine d_letter_at (rs := [(97, f), (98, 2 * f), (97, f)]) R t0 t1 ?_
          rw [te]
          (conv => whnf); repeat ((first | refine Sg.mk ?_ | refine Br.t (Nat.ble_eq_true_of_le (by (try simp only [List.length_cons, List.length_nil, List.length_map, List.length_append, List.length_range, List.length_zip, List.length_reverse, List.length_take, List.length_drop, rg_len]); omega)) ?_ | refine opt_of rfl ?_ | refine Br.t rfl ?_ | refine Br.f rfl ?_ | refine Br.t (by decide) ?_ | refine Br.f (by decide) ?_ | refine And.intro (rfl : okE _ _ = true) ?_ | refine And.intro (by decide) ?_ | refine And.intro ⟨rfl, rfl⟩ ?_ | refine And.intro (Eq.refl _) ?_ | refine opt_of at0 ?_ | refine opt_of at1 ?_ | refine And.intro (by omega) ?_ | refine And.intro (by (try simp only [List.length_cons, List.length_nil, List.length_map, List.length_append, List.length_range, List.length_zip, List.length_reverse, List.length_take, List.length_drop]); omega) ?_); conv => whnf)
          exact hk _ ⟨_, .inr rfl, rfl⟩
      obtain ⟨y, hy, rfl⟩ := hf
      rw [hL2]
      (conv => whnf); repeat ((first | refine Sg.mk ?_ | refine Br.t (Nat.ble_eq_true_of_le (by (try simp only [List.length_cons, List.length_nil, List.length_map, List.length_append, List.length_range, List.length_zip, List.length_reverse, List.length_take, List.length_drop, rg_len]); omega)) ?_ | refine opt_of rfl ?_ | refine Br.t rfl ?_ | refine Br.f rfl ?_ | refine Br.t (by decide) ?_ | refine Br.f (by decide) ?_ | refine And.intro (rfl : okE _ _ = true) ?_ | refine And.intro (by decide) ?_ | refine And.intro ⟨rfl, rfl⟩ ?_ | refine And.intro (Eq.refl _) ?_ | refine opt_of at0 ?_ | refine opt_of at1 ?_ | refine And.intro (by omega) ?_ | refine And.intro (by (try simp only [List.length_cons, List.length_nil, List.length_map, List.length_append, List.length_range, List.length_zip, List.length_reverse, List.length_take, List.length_drop]); omega) ?_); conv => whnf)
      refine And.intro six_ok ?_
      rw [list_ab]
      (conv => whnf); repeat ((first | refine Sg.mk ?_ | refine Br.t (Nat.ble_eq_true_of_le (by (try simp only [List.length_cons, List.length_nil, List.length_map, List.length_append, List.length_range, List.length_zip, List.length_reverse, List.length_take, List.length_drop, rg_len]); omega)) ?_ | refine opt_of rfl ?_ | refine Br.t rfl ?_ | refine Br.f rfl ?_ | refine Br.t (by decide) ?_ | refine Br.f (by decide) ?_ | refine And.intro (rfl : okE _ _ = true) ?_ | refine And.intro (by decide) ?_ | refine And.intro ⟨rfl, rfl⟩ ?_ | refine And.intro (Eq.refl _) ?_ | refine opt_of at0 ?_ | refine opt_of at1 ?_ | refine And.intro (by omega) ?_ | refine And.intro (by (try simp only [List.length_cons, List.length_nil, List.length_map, List.length_append, List.length_range, List.length_zip, List.length_reverse, List.length_take, List.length_drop]); omega) ?_); conv => whnf)
      exact ih _ ⟨_, y, _, _, hk', rfl⟩
    · rintro fr ⟨y4, y5, y6, y7, hk, rfl⟩
      (conv => whnf); repeat ((first | refine Sg.mk ?_ | refine Br.t (Nat.ble_eq_true_of_le (by (try simp only [List.length_cons, List.length_nil, List.length_map, List.length_append, List.length_range, List.length_zip, List.length_reverse, List.length_take, List.length_drop, rg_len]); omega)) ?_ | refine opt_of rfl ?_ | refine Br.t rfl ?_ | refine Br.f rfl ?_ | refine Br.t (by decide) ?_ | refine Br.f (by decide) ?_ | refine And.intro (rfl : okE _ _ = true) ?_ | refine And.intro (by decide) ?_ | refine And.intro ⟨rfl, rfl⟩ ?_ | refine And.intro (Eq.refl _) ?_ | refine opt_of at0 ?_ | refine opt_of at1 ?_ | refine And.intro (by omega) ?_ | refine And.intro (by (try simp only [List.length_cons, List.length_nil, List.length_map, List.length_append, List.length_range, List.length_zip, List.length_reverse, List.length_take, List.length_drop]); omega) ?_); conv => whnf)
    · simp only [List.forall_mem_cons]
      exact ⟨⟨_, rfl, by decide, by decide⟩, ⟨_, rfl, by decide, by decide⟩, fun _ h => nomatch h⟩

end K35
namespace K35
open PySem PySem.Spec PyProof.Rows L2 Vx Dl
def spLaw (K : PySem.W.Frag) : Sp := fun vs H Q _ => ∃ (a : Addr) (ns : List Int), vs = [.ref a] ∧ SqL K H a (ns.map V.int) ∧ ns.length ≤ 63 ∧ ∀ H', Q (.bl true) H'
theorem binds_full {K : PySem.W.Frag} {x qual : Str} {params : Arguments} {body : List Stmt} {scope : Scope} {d : V} {f : Addr} {fd : FuncData} {ps : List Str} (F : FunD K x qual params body scope [d] [] f fd) (n : Nat) (hn : n = ps.length)
    (h : ∀ (T : Addr) (kV doc pm : Value) (an : Option Addr) (cdv ct : Value) (us its : List Value), us.length = n → its.length = 1 → ∃ k, bindArgs (PySem.W.fnOf x qual params body scope (.ref T) kV doc pm an cdv ct) ⟨us, []⟩ = seqItems? (.ref T) >>= k ∧ k (some its.toArray) = pure (ps.zip (us ++ its.drop 1))) : L2.Binds K fd ps [] := by
  obtain ⟨ds, vd, b⟩ := F.binds1 n 1 (by simp) (by simpa using hn) h
  have vd2 : Vals [] ds := vd
  cases vd2
  exact b
theorem all_mk {l : PySem.W.OpenLaw} {w : World} {K : PySem.W.Frag} {h : Heap} {mg : Str → Option Value} {fa : Addr} (X : K.In h) (G : h.Ns mainGlobals mg) (hfa : mg "law" = some (.ref fa))
    {ais_integer : Addr} {od_is_integer an_is_integer : Option Addr} {sl_is_integer : Array (Option Value)} {oc_is_integer kV_is_integer dc_is_integer pm_is_integer cd_is_integer ct_is_integer : Value}
    (n_is_integer : PySem.W.nsIn K mainGlobals "is_integer" = some (some (.ref ais_integer))) (l_is_integer : K.lookup ais_integer = some ⟨oc_is_integer, od_is_integer, .func (PySem.W.fnOf "is_integer" "is_integer" (defArgs st_is_integer) (defBody st_is_integer) (defScope st_is_integer) .none kV_is_integer dc_is_integer pm_is_integer an_is_integer cd_is_integer ct_is_integer), sl_is_integer⟩) (c_is_integer : PySem.W.codeIn K cd_is_integer "is_integer" = true) (k_is_integer : PySem.W.keepIn K (.ref ais_integer) = true)
    {acheck_number dT_check_number : Addr} {od_check_number an_check_number : Option Addr} {sl_check_number : Array (Option Value)} {oc_check_number kV_check_number dc_check_number pm_check_number cd_check_number ct_check_number : Value} {cT_check_number : Value} {doT_check_number : Option Addr} {slT_check_number : Array (Option Value)} {nT_check_number : Nat}
    (n_check_number : PySem.W.nsIn K mainGlobals "check_number" = some (some (.ref acheck_number))) (l_check_number : K.lookup acheck_number = some ⟨oc_check_number, od_check_number, .func (PySem.W.fnOf "check_number" "check_number" (defArgs st_check_number) (defBody st_check_number) (defScope st_check_number) (.ref dT_check_number) kV_check_number dc_check_number pm_check_number an_check_number cd_check_number ct_check_number), sl_check_number⟩) (c_check_number : PySem.W.codeIn K cd_check_number "check_number" = true) (k_check_number : PySem.W.keepIn K (.ref acheck_number) = true) (e_check_number : K.lookup dT_check_number = some ⟨cT_check_number, doT_check_number, .seq #[Value.none] nT_check_number, slT_check_number⟩)
    {ais_run : Addr} {od_is_run an_is_run : Option Addr} {sl_is_run : Array (Option Value)} {oc_is_run kV_is_run dc_is_run pm_is_run cd_is_run ct_is_run : Value}
    (n_is_run : PySem.W.nsIn K mainGlobals "_is_run" = some (some (.ref ais_run))) (l_is_run : K.lookup ais_run = some ⟨oc_is_run, od_is_run, .func (PySem.W.fnOf "_is_run" "_is_run" (defArgs st_is_run) (defBody st_is_run) (defScope st_is_run) .none kV_is_run dc_is_run pm_is_run an_is_run cd_is_run ct_is_run), sl_is_run⟩) (c_is_run : PySem.W.codeIn K cd_is_run "_is_run" = true) (k_is_run : PySem.W.keepIn K (.ref ais_run) = true)
    {ais_runs : Addr} {od_is_runs an_is_runs : Option Addr} {sl_is_runs : Array (Option Value)} {oc_is_runs kV_is_runs dc_is_runs pm_is_runs cd_is_runs ct_is_runs : Value}
    (n_is_runs : PySem.W.nsIn K mainGlobals "is_runs" = some (some (.ref ais_runs))) (l_is_runs : K.lookup ais_runs = some ⟨oc_is_runs, od_is_runs, .func (PySem.W.fnOf "is_runs" "is_runs" (defArgs st_is_runs) (defBody st_is_runs) (defScope st_is_runs) .none kV_is_runs dc_is_runs pm_is_runs an_is_runs cd_is_runs ct_is_runs), sl_is_runs⟩) (c_is_runs : PySem.W.codeIn K cd_is_runs "is_runs" = true) (k_is_runs : PySem.W.keepIn K (.ref ais_runs) = true)
    {acheck_runs : Addr} {od_check_runs an_check_runs : Option Addr} {sl_check_runs : Array (Option Value)} {oc_check_runs kV_check_runs dc_check_runs pm_check_runs cd_check_runs ct_check_runs : Value}
    (n_check_runs : PySem.W.nsIn K mainGlobals "check_runs" = some (some (.ref acheck_runs))) (l_check_runs : K.lookup acheck_runs = some ⟨oc_check_runs, od_check_runs, .func (PySem.W.fnOf "check_runs" "check_runs" (defArgs st_check_runs) (defBody st_check_runs) (defScope st_check_runs) .none kV_check_runs dc_check_runs pm_check_runs an_check_runs cd_check_runs ct_check_runs), sl_check_runs⟩) (c_check_runs : PySem.W.codeIn K cd_check_runs "check_runs" = true) (k_check_runs : PySem.W.keepIn K (.ref acheck_runs) = true)
    {aletter_at : Addr} {od_letter_at an_letter_at : Option Addr} {sl_letter_at : Array (Option Value)} {oc_letter_at kV_letter_at dc_letter_at pm_letter_at cd_letter_at ct_letter_at : Value}
    (n_letter_at : PySem.W.nsIn K mainGlobals "letter_at" = some (some (.ref aletter_at))) (l_letter_at : K.lookup aletter_at = some ⟨oc_letter_at, od_letter_at, .func (PySem.W.fnOf "letter_at" "letter_at" (defArgs st_letter_at) (defBody st_letter_at) (defScope st_letter_at) .none kV_letter_at dc_letter_at pm_letter_at an_letter_at cd_letter_at ct_letter_at), sl_letter_at⟩) (c_letter_at : PySem.W.codeIn K cd_letter_at "letter_at" = true) (k_letter_at : PySem.W.keepIn K (.ref aletter_at) = true)
    {alaw_reel : Addr} {od_law_reel an_law_reel : Option Addr} {sl_law_reel : Array (Option Value)} {oc_law_reel kV_law_reel dc_law_reel pm_law_reel cd_law_reel ct_law_reel : Value}
    (n_law_reel : PySem.W.nsIn K mainGlobals "_law_reel" = some (some (.ref alaw_reel))) (l_law_reel : K.lookup alaw_reel = some ⟨oc_law_reel, od_law_reel, .func (PySem.W.fnOf "_law_reel" "_law_reel" (defArgs st_law_reel) (defBody st_law_reel) (defScope st_law_reel) .none kV_law_reel dc_law_reel pm_law_reel an_law_reel cd_law_reel ct_law_reel), sl_law_reel⟩) (c_law_reel : PySem.W.codeIn K cd_law_reel "_law_reel" = true) (k_law_reel : PySem.W.keepIn K (.ref alaw_reel) = true)
    {alaw_draw : Addr} {od_law_draw an_law_draw : Option Addr} {sl_law_draw : Array (Option Value)} {oc_law_draw kV_law_draw dc_law_draw pm_law_draw cd_law_draw ct_law_draw : Value}
    (n_law_draw : PySem.W.nsIn K mainGlobals "_law_draw" = some (some (.ref alaw_draw))) (l_law_draw : K.lookup alaw_draw = some ⟨oc_law_draw, od_law_draw, .func (PySem.W.fnOf "_law_draw" "_law_draw" (defArgs st_law_draw) (defBody st_law_draw) (defScope st_law_draw) .none kV_law_draw dc_law_draw pm_law_draw an_law_draw cd_law_draw ct_law_draw), sl_law_draw⟩) (c_law_draw : PySem.W.codeIn K cd_law_draw "_law_draw" = true) (k_law_draw : PySem.W.keepIn K (.ref alaw_draw) = true)
    {alaw_runs : Addr} {od_law_runs an_law_runs : Option Addr} {sl_law_runs : Array (Option Value)} {oc_law_runs kV_law_runs dc_law_runs pm_law_runs cd_law_runs ct_law_runs : Value}
    (n_law_runs : PySem.W.nsIn K mainGlobals "_law_runs" = some (some (.ref alaw_runs))) (l_law_runs : K.lookup alaw_runs = some ⟨oc_law_runs, od_law_runs, .func (PySem.W.fnOf "_law_runs" "_law_runs" (defArgs st_law_runs) (defBody st_law_runs) (defScope st_law_runs) .none kV_law_runs dc_law_runs pm_law_runs an_law_runs cd_law_runs ct_law_runs), sl_law_runs⟩) (c_law_runs : PySem.W.codeIn K cd_law_runs "_law_runs" = true) (k_law_runs : PySem.W.keepIn K (.ref alaw_runs) = true)
    {alaw_spread : Addr} {od_law_spread an_law_spread : Option Addr} {sl_law_spread : Array (Option Value)} {oc_law_spread kV_law_spread dc_law_spread pm_law_spread cd_law_spread ct_law_spread : Value}
    (n_law_spread : PySem.W.nsIn K mainGlobals "_law_spread" = some (some (.ref alaw_spread))) (l_law_spread : K.lookup alaw_spread = some ⟨oc_law_spread, od_law_spread, .func (PySem.W.fnOf "_law_spread" "_law_spread" (defArgs st_law_spread) (defBody st_law_spread) (defScope st_law_spread) .none kV_law_spread dc_law_spread pm_law_spread an_law_spread cd_law_spread ct_law_spread), sl_law_spread⟩) (c_law_spread : PySem.W.codeIn K cd_law_spread "_law_spread" = true) (k_law_spread : PySem.W.keepIn K (.ref alaw_spread) = true)
    {alaw_short_right : Addr} {od_law_short_right an_law_short_right : Option Addr} {sl_law_short_right : Array (Option Value)} {oc_law_short_right kV_law_short_right dc_law_short_right pm_law_short_right cd_law_short_right ct_law_short_right : Value}
    (n_law_short_right : PySem.W.nsIn K mainGlobals "_law_short_right" = some (some (.ref alaw_short_right))) (l_law_short_right : K.lookup alaw_short_right = some ⟨oc_law_short_right, od_law_short_right, .func (PySem.W.fnOf "_law_short_right" "_law_short_right" (defArgs st_law_short_right) (defBody st_law_short_right) (defScope st_law_short_right) .none kV_law_short_right dc_law_short_right pm_law_short_right an_law_short_right cd_law_short_right ct_law_short_right), sl_law_short_right⟩) (c_law_short_right : PySem.W.codeIn K cd_law_short_right "_law_short_right" = true) (k_law_short_right : PySem.W.keepIn K (.ref alaw_short_right) = true)
    {alaw_far_right : Addr} {od_law_far_right an_law_far_right : Option Addr} {sl_law_far_right : Array (Option Value)} {oc_law_far_right kV_law_far_right dc_law_far_right pm_law_far_right cd_law_far_right ct_law_far_right : Value}
    (n_law_far_right : PySem.W.nsIn K mainGlobals "_law_far_right" = some (some (.ref alaw_far_right))) (l_law_far_right : K.lookup alaw_far_right = some ⟨oc_law_far_right, od_law_far_right, .func (PySem.W.fnOf "_law_far_right" "_law_far_right" (defArgs st_law_far_right) (defBody st_law_far_right) (defScope st_law_far_right) .none kV_law_far_right dc_law_far_right pm_law_far_right an_law_far_right cd_law_far_right ct_law_far_right), sl_law_far_right⟩) (c_law_far_right : PySem.W.codeIn K cd_law_far_right "_law_far_right" = true) (k_law_far_right : PySem.W.keepIn K (.ref alaw_far_right) = true)
    {alaw : Addr} {od_law an_law : Option Addr} {sl_law : Array (Option Value)} {oc_law kV_law dc_law pm_law cd_law ct_law : Value}
    (n_law : PySem.W.nsIn K mainGlobals "law" = some (some (.ref alaw))) (l_law : K.lookup alaw = some ⟨oc_law, od_law, .func (PySem.W.fnOf "law" "law" (defArgs st_law) (defBody st_law) (defScope st_law) .none kV_law dc_law pm_law an_law cd_law ct_law), sl_law⟩) (c_law : PySem.W.codeIn K cd_law "law" = true) (k_law : PySem.W.keepIn K (.ref alaw) = true)
    {E_InvalidNumber : Addr}
    (n_InvalidNumber : PySem.W.nsIn K mainGlobals "InvalidNumber" = some (some (.ref E_InvalidNumber)))
    (xq_InvalidNumber : PySem.W.excIn K E_InvalidNumber [.type "ValueError", .type "Exception", .type "BaseException", .type "object"] "ValueError.__new__" = true)
    (xk_InvalidNumber : PySem.W.keepIn K (.ref E_InvalidNumber) = true)
    (xb_InvalidNumber : PySem.W.subIn K (.ref E_InvalidNumber) (.type "BaseException") = some true)
    (xt_InvalidNumber : PySem.W.typeIn K (.ref E_InvalidNumber) = some (.type "type"))
    {E_InvalidRuns : Addr}
    (n_InvalidRuns : PySem.W.nsIn K mainGlobals "InvalidRuns" = some (some (.ref E_InvalidRuns)))
    (xq_InvalidRuns : PySem.W.excIn K E_InvalidRuns [.type "ValueError", .type "Exception", .type "BaseException", .type "object"] "ValueError.__new__" = true)
    (xk_InvalidRuns : PySem.W.keepIn K (.ref E_InvalidRuns) = true)
    (xb_InvalidRuns : PySem.W.subIn K (.ref E_InvalidRuns) (.type "BaseException") = some true)
    (xt_InvalidRuns : PySem.W.typeIn K (.ref E_InvalidRuns) = some (.type "type"))
    (z_all : PySem.W.nsIn K mainGlobals "all" = some none)
    (z_bool : PySem.W.nsIn K mainGlobals "bool" = some none)
    (z_int : PySem.W.nsIn K mainGlobals "int" = some none)
    (z_isinstance : PySem.W.nsIn K mainGlobals "isinstance" = some none)
    (z_len : PySem.W.nsIn K mainGlobals "len" = some none)
    (z_list : PySem.W.nsIn K mainGlobals "list" = some none)
    (z_min : PySem.W.nsIn K mainGlobals "min" = some none)
    (z_range : PySem.W.nsIn K mainGlobals "range" = some none)
    (z_repr : PySem.W.nsIn K mainGlobals "repr" = some none)
    (z_str : PySem.W.nsIn K mainGlobals "str" = some none)
    (z_sum : PySem.W.nsIn K mainGlobals "sum" = some none)
    (z_tuple : PySem.W.nsIn K mainGlobals "tuple" = some none)
    (z_type : PySem.W.nsIn K mainGlobals "type" = some none)
    (z_zip : PySem.W.nsIn K mainGlobals "zip" = some none)
    {t_MOST_RUNS : Tok} (y_MOST_RUNS : PySem.W.nsIn K mainGlobals "MOST_RUNS" = some (some (.int 40 t_MOST_RUNS)))
    : ∃ fd : FuncData, (∀ (s : Shared) (v : Value), BindsTo s fd ⟨[v], []⟩ [("script", v)]) ∧ ∀ base : Heap, K.In base → base.Ns mainGlobals mg → FnG l.prog w K mg base CX0 7 fa fd ["script"] (spLaw K) := by
  have e := hfa.symm.trans (PySem.W.mg_of X G n_law)
  cases e
  have F_is_integer := fun_mk (st := st_is_integer) l_is_integer c_is_integer k_is_integer
  have b_is_integer := F_is_integer.binds (ps := ["value"]) fun _ _ _ _ _ _ us hl => match us, hl with | [_], _ => rfl
  have g_is_integer := PySem.W.mg_of X G n_is_integer
  have F_check_number : FunD K "check_number" "check_number" (defArgs st_check_number) (defBody st_check_number) (defScope st_check_number) [.non] [] _ _ := ⟨⟨_, _, _, _, _, _, _, _, _, _, rfl, l_check_number, c_check_number, .inr ⟨by simp, dT_check_number, _, [Value.none], nT_check_number, rfl, e_check_number, rfl, .cons rfl .nil⟩, .inl rfl⟩, k_check_number⟩
  have b_check_number := binds_full F_check_number (ps := ["value", "least", "greatest"]) 3 rfl fun _ _ _ _ _ _ _ us its h1 h2 => match us, h1, its, h2 with | [_, _, _], _, [_], _ => ⟨_, rfl, rfl⟩
  obtain ⟨ds_check_number, vd_check_number, bd_check_number⟩ := F_check_number.binds1 (ps := ["value", "least", "greatest"]) 2 0 (by simp) rfl fun _ _ _ _ _ _ _ us its h1 h2 => match us, h1, its, h2 with | [_, _], _, [_], _ => ⟨_, rfl, rfl⟩
  have g_check_number := PySem.W.mg_of X G n_check_number
  have F_is_run := fun_mk (st := st_is_run) l_is_run c_is_run k_is_run
  have b_is_run := F_is_run.binds (ps := ["value"]) fun _ _ _ _ _ _ us hl => match us, hl with | [_], _ => rfl
  have g_is_run := PySem.W.mg_of X G n_is_run
  have F_is_runs := fun_mk (st := st_is_runs) l_is_runs c_is_runs k_is_runs
  have b_is_runs := F_is_runs.binds (ps := ["value"]) fun _ _ _ _ _ _ us hl => match us, hl with | [_], _ => rfl
  have g_is_runs := PySem.W.mg_of X G n_is_runs
  have F_check_runs := fun_mk (st := st_check_runs) l_check_runs c_check_runs k_check_runs
  have b_check_runs := F_check_runs.binds (ps := ["value"]) fun _ _ _ _ _ _ us hl => match us, hl with | [_], _ => rfl
  have g_check_runs := PySem.W.mg_of X G n_check_runs
  have F_letter_at := fun_mk (st := st_letter_at) l_letter_at c_letter_at k_letter_at
  have b_letter_at := F_letter_at.binds (ps := ["runs", "place"]) fun _ _ _ _ _ _ us hl => match us, hl with | [_, _], _ => rfl
  have g_letter_at := PySem.W.mg_of X G n_letter_at
  have F_law_reel := fun_mk (st := st_law_reel) l_law_reel c_law_reel k_law_reel
  have b_law_reel := F_law_reel.binds (ps := ["script"]) fun _ _ _ _ _ _ us hl => match us, hl with | [_], _ => rfl
  have g_law_reel := PySem.W.mg_of X G n_law_reel
  have F_law_draw := fun_mk (st := st_law_draw) l_law_draw c_law_draw k_law_draw
  have b_law_draw := F_law_draw.binds (ps := ["reel", "many"]) fun _ _ _ _ _ _ us hl => match us, hl with | [_, _], _ => rfl
  have g_law_draw := PySem.W.mg_of X G n_law_draw
  have F_law_runs := fun_mk (st := st_law_runs) l_law_runs c_law_runs k_law_runs
  have b_law_runs := F_law_runs.binds (ps := ["reel", "many", "most"]) fun _ _ _ _ _ _ us hl => match us, hl with | [_, _, _], _ => rfl
  have g_law_runs := PySem.W.mg_of X G n_law_runs
  have F_law_spread := fun_mk (st := st_law_spread) l_law_spread c_law_spread k_law_spread
  have b_law_spread := F_law_spread.binds (ps := ["runs"]) fun _ _ _ _ _ _ us hl => match us, hl with | [_], _ => rfl
  have g_law_spread := PySem.W.mg_of X G n_law_spread
  have F_law_short_right := fun_mk (st := st_law_short_right) l_law_short_right c_law_short_right k_law_short_right
  have b_law_short_right := F_law_short_right.binds (ps := ["runs"]) fun _ _ _ _ _ _ us hl => match us, hl with | [_], _ => rfl
  have g_law_short_right := PySem.W.mg_of X G n_law_short_right
  have F_law_far_right := fun_mk (st := st_law_far_right) l_law_far_right c_law_far_right k_law_far_right
  have b_law_far_right := F_law_far_right.binds (ps := ["reel", "runs"]) fun _ _ _ _ _ _ us hl => match us, hl with | [_, _], _ => rfl
  have g_law_far_right := PySem.W.mg_of X G n_law_far_right
  have F_law := fun_mk (st := st_law) l_law c_law k_law
  have m_all := PySem.W.mg_none_of X G z_all
  have m_bool := PySem.W.mg_none_of X G z_bool
  have m_int := PySem.W.mg_none_of X G z_int
  have m_isinstance := PySem.W.mg_none_of X G z_isinstance
  have m_len := PySem.W.mg_none_of X G z_len
  have m_list := PySem.W.mg_none_of X G z_list
  have m_min := PySem.W.mg_none_of X G z_min
  have m_range := PySem.W.mg_none_of X G z_range
  have m_repr := PySem.W.mg_none_of X G z_repr
  have m_str := PySem.W.mg_none_of X G z_str
  have m_sum := PySem.W.mg_none_of X G z_sum
  have m_tuple := PySem.W.mg_none_of X G z_tuple
  have m_type := PySem.W.mg_none_of X G z_type
  have m_zip := PySem.W.mg_none_of X G z_zip
  have g_MOST_RUNS := PySem.W.mg_of X G y_MOST_RUNS
  refine ⟨PySem.W.fnOf "law" "law" (defArgs st_law) (defBody st_law) (defScope st_law) .none kV_law dc_law pm_law an_law cd_law ct_law, fun s v => .of_eq rfl, fun base _ _ => ?_⟩
  have T_InvalidNumber : ErrC K mg "InvalidNumber" E_InvalidNumber := ⟨PySem.W.mg_of X G n_InvalidNumber, xq_InvalidNumber, xk_InvalidNumber, xb_InvalidNumber, xt_InvalidNumber⟩
  have T_InvalidRuns : ErrC K mg "InvalidRuns" E_InvalidRuns := ⟨PySem.W.mg_of X G n_InvalidRuns, xq_InvalidRuns, xk_InvalidRuns, xb_InvalidRuns, xt_InvalidRuns⟩
  have G_is_integer : FnOk l.prog w K mg base (L2N.CX l.prog w) 1 _ _ ["value"] (lift K 1 (sp_is_integer)) := ok_is_integer F_is_integer m_isinstance m_int m_bool
  have G_check_number : FnOk l.prog w K mg base (L2N.CX l.prog w) 2 _ _ ["value", "least", "greatest"] (lift K 3 (sp_check_number _)) := ok_check_number F_check_number F_is_integer G_is_integer b_is_integer g_is_integer T_InvalidNumber
  have G_is_run : FnOk l.prog w K mg base (L2N.CX l.prog w) 2 _ _ ["value"] (lift K 1 (sp_is_run)) := ok_is_run F_is_run F_is_integer G_is_integer b_is_integer g_is_integer m_type m_tuple m_len m_isinstance m_str
  have G_is_runs : FnOk l.prog w K mg base (L2N.CX l.prog w) 3 _ _ ["value"] (lift K 1 (sp_is_runs)) := ok_is_runs F_is_runs F_is_run G_is_run b_is_run g_is_run m_type m_list m_len m_all m_zip g_MOST_RUNS
  have G_check_runs : FnOk l.prog w K mg base (L2N.CX l.prog w) 4 _ _ ["value"] (lift K 1 (sp_check_runs _)) := ok_check_runs F_check_runs F_is_runs G_is_runs b_is_runs g_is_runs T_InvalidRuns g_MOST_RUNS
  have G_letter_at : FnOk l.prog w K mg base (L2N.CX l.prog w) 5 _ _ ["runs", "place"] (lift K 2 (sp_letter_at _ _)) := ok_letter_at F_letter_at F_check_runs G_check_runs b_check_runs g_check_runs F_check_number G_check_number b_check_number g_check_number vd_check_number bd_check_number T_InvalidNumber
  have G_law_reel : FnG l.prog w K mg base (L2N.CX l.prog w) 1 _ _ ["script"] (lift K 1 (sp_law_reel)) := ok_law_reel F_law_reel
  have G_law_draw : FnG l.prog w K mg base (L2N.CX l.prog w) 1 _ _ ["reel", "many"] (lift K 2 (sp_law_draw)) := ok_law_draw F_law_draw m_int m_len
  have G_law_runs : FnG l.prog w K mg base (L2N.CX l.prog w) 2 _ _ ["reel", "many", "most"] (lift K 3 (sp_law_runs)) := ok_law_runs F_law_runs F_law_draw G_law_draw b_law_draw g_law_draw m_range
  have G_law_spread : FnG l.prog w K mg base (L2N.CX l.prog w) 1 _ _ ["runs"] (lift K 1 (sp_law_spread)) := ok_law_spread F_law_spread
  have G_law_short_right : FnG l.prog w K mg base (L2N.CX l.prog w) 6 _ _ ["runs"] (lift K 1 (sp_law_short_right _ _)) := ok_law_short_right F_law_short_right F_law_spread G_law_spread b_law_spread g_law_spread F_letter_at G_letter_at b_letter_at g_letter_at m_len m_range
  have G_law_far_right : FnG l.prog w K mg base (L2N.CX l.prog w) 6 _ _ ["reel", "runs"] (lift K 2 (sp_law_far_right _ _)) := ok_law_far_right F_law_far_right F_law_draw G_law_draw b_law_draw g_law_draw F_letter_at G_letter_at b_letter_at g_letter_at m_sum m_repr
  exact FnG.calm (K35.ok0_law F_law F_law_reel G_law_reel b_law_reel g_law_reel F_law_short_right G_law_short_right b_law_short_right g_law_short_right F_law_runs G_law_runs b_law_runs g_law_runs F_law_far_right G_law_far_right b_law_far_right g_law_far_right F_letter_at G_letter_at b_letter_at g_letter_at m_len m_min m_range m_list) fun vs H Q E q => law_end (law_true _ _) q
end K35
open PySem PySem.W PyProof.Rows
set_option maxHeartbeats 0 in
theorem PySem.Challenge.cw_paircounts_k35_letters_of_runs_holds : PySem.Challenge.rw_paircounts_k35_letters_of_runs.Holds := by
  w_on; o_law; k_head; (case hw => w_witness2)
  k_fill
  refine Vx.walkG (l := PySem.Challenge.rw_paircounts_k35_letters_of_runs) (n := 63) (k := 7) (x := "script") (CX := fun _ => L2.CX0) (sp := fun w => K35.spLaw _) rfl (by decide) rfl ⟨rfl, by decide, by decide⟩ (fun w h Y => PySem.W.kIn_of Y) ?F (fun _ _ a ns hl hS => ⟨a, ns, rfl, hS, hl, fun _ => rfl⟩) (fun _ _ _ _ _ h => h)
  case F =>
    intro w mg fa h KX G hmg
    refine' K35.all_mk KX G hmg ?n_is_integer ?l_is_integer ?c_is_integer ?k_is_integer ?n_check_number ?l_check_number ?c_check_number ?k_check_number ?e_check_number ?n_is_run ?l_is_run ?c_is_run ?k_is_run ?n_is_runs ?l_is_runs ?c_is_runs ?k_is_runs ?n_check_runs ?l_check_runs ?c_check_runs ?k_check_runs ?n_letter_at ?l_letter_at ?c_letter_at ?k_letter_at ?n_law_reel ?l_law_reel ?c_law_reel ?k_law_reel ?n_law_draw ?l_law_draw ?c_law_draw ?k_law_draw ?n_law_runs ?l_law_runs ?c_law_runs ?k_law_runs ?n_law_spread ?l_law_spread ?c_law_spread ?k_law_spread ?n_law_short_right ?l_law_short_right ?c_law_short_right ?k_law_short_right ?n_law_far_right ?l_law_far_right ?c_law_far_right ?k_law_far_right ?n_law ?l_law ?c_law ?k_law ?n_InvalidNumber ?xq_InvalidNumber ?xk_InvalidNumber ?xb_InvalidNumber ?xt_InvalidNumber ?n_InvalidRuns ?xq_InvalidRuns ?xk_InvalidRuns ?xb_InvalidRuns ?xt_InvalidRuns ?z_all ?z_bool ?z_int ?z_isinstance ?z_len ?z_list ?z_min ?z_range ?z_repr ?z_str ?z_sum ?z_tuple ?z_type ?z_zip ?y_MOST_RUNS
    (case n_is_integer => k_is); (case l_is_integer => k_is); (case c_is_integer => k_is); (case k_is_integer => k_is); (case n_check_number => k_is); (case l_check_number => k_is); (case c_check_number => k_is); (case k_check_number => k_is); (case e_check_number => k_is); (case n_is_run => k_is); (case l_is_run => k_is); (case c_is_run => k_is); (case k_is_run => k_is); (case n_is_runs => k_is); (case l_is_runs => k_is); (case c_is_runs => k_is); (case k_is_runs => k_is); (case n_check_runs => k_is); (case l_check_runs => k_is); (case c_check_runs => k_is); (case k_check_runs => k_is); (case n_letter_at => k_is); (case l_letter_at => k_is); (case c_letter_at => k_is); (case k_letter_at => k_is); (case n_law_reel => k_is); (case l_law_reel => k_is); (case c_law_reel => k_is); (case k_law_reel => k_is); (case n_law_draw => k_is); (case l_law_draw => k_is); (case c_law_draw => k_is); (case k_law_draw => k_is); (case n_law_runs => k_is); (case l_law_runs => k_is); (case c_law_runs => k_is); (case k_law_runs => k_is); (case n_law_spread => k_is); (case l_law_spread => k_is); (case c_law_spread => k_is); (case k_law_spread => k_is); (case n_law_short_right => k_is); (case l_law_short_right => k_is); (case c_law_short_right => k_is); (case k_law_short_right => k_is); (case n_law_far_right => k_is); (case l_law_far_right => k_is); (case c_law_far_right => k_is); (case k_law_far_right => k_is); (case n_law => k_is); (case l_law => k_is); (case c_law => k_is); (case k_law => k_is); (case n_InvalidNumber => k_is); (case xq_InvalidNumber => k_exc); (case xk_InvalidNumber => k_is); (case xb_InvalidNumber => k_is); (case xt_InvalidNumber => k_is); (case n_InvalidRuns => k_is); (case xq_InvalidRuns => k_exc); (case xk_InvalidRuns => k_is); (case xb_InvalidRuns => k_is); (case xt_InvalidRuns => k_is); (case z_all => k_is); (case z_bool => k_is); (case z_int => k_is); (case z_isinstance => k_is); (case z_len => k_is); (case z_list => k_is); (case z_min => k_is); (case z_range => k_is); (case z_repr => k_is); (case z_str => k_is); (case z_sum => k_is); (case z_tuple => k_is); (case z_type => k_is); (case z_zip => k_is); (case y_MOST_RUNS => k_is)
