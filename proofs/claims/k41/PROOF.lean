import PyProof.Rows.All
import Wide.All
import OpenK.AllK
import Wide.FinOn
import Lean
import PyProof.EqAt
import PyProof.EqKinds
import PyProof.TupleCall
import KE.LcSums
import PySem.Challenge.RW_rowbetween_k41_shadows
set_option Elab.async false
set_option linter.all false
set_option maxRecDepth 100000
set_option maxHeartbeats 4000000
set_option Elab.async false
set_option linter.all false
set_option maxRecDepth 100000
abbrev Za:=List (Int×Int)
abbrev Zb:=List PySem.Str
abbrev Zc:=List PySem.Value
abbrev Zd:=Option PySem.Value
abbrev Ze:=List Int
local macro_rules | `(tactic| walk_at "or") => `(tactic| (intro d0 R h; rcases d0 with _ | ⟨a, _ | ⟨b, _ | ⟨c, l⟩⟩⟩; exact False.elim h; (cases a <;> first | exact False.elim h | (repeat first | exact ⟨_, rfl, h⟩ | exact ⟨_, _, rfl, h⟩ | exact ⟨_, _, _, rfl, h⟩ | exact .inl ⟨_, rfl, h⟩ | exact .inl ⟨_, _, rfl, h⟩ | exact .inl ⟨_, _, _, rfl, h⟩ | apply Or.inr)); (cases a <;> first | exact False.elim h | (cases b <;> first | exact False.elim h | (repeat first | exact ⟨_, rfl, h⟩ | exact ⟨_, _, rfl, h⟩ | exact ⟨_, _, _, rfl, h⟩ | exact .inl ⟨_, rfl, h⟩ | exact .inl ⟨_, _, rfl, h⟩ | exact .inl ⟨_, _, _, rfl, h⟩ | apply Or.inr))); (cases a <;> first | exact False.elim h | (cases b <;> exact False.elim h))))
local macro_rules | `(tactic| walk_at "v3") => `(tactic| first | exact Or.inl rfl | exact Or.inr (Or.inl rfl) | exact Or.inr (Or.inr rfl))
local macro_rules | `(tactic| walk_at "v2") => `(tactic| first | exact Or.inl rfl | exact Or.inr rfl)
local macro_rules | `(tactic| walk_at "v1") => `(tactic| first | exact .inl rfl | exact .inr rfl | assumption)
def HS:=@List.length_map
def HU:=@PySem.wpAny_bind
def HV:=@List.mem_cons_of_mem
def HW:=@List.mem_map
def HX:=@Nat.le_trans
def HY:=@List.mem_cons_self
def HZ:=@PySem.wpAny_pure
def Ia:=@List.mem_filter
def Ib:=@Nat.le_refl
def Ic:=@Classical.byContradiction
def Ie:=@Bool.false_ne_true
def Ig:=@List.mem_append_right
def Ih:=@List.mem_cons
def Ii:=@List.mem_singleton
def Ij:=@List.length_append
def Ik:=@List.length_cons
def Il:=@List.mem_append_left
def Im:=@List.mem_of_getElem?
def Io:=@if_neg
def Ip:=@List.mem_append
def Iq:=@Option.some.inj
def Ir:=@if_pos
def Iu:=@List.size_toArray
def Iv:=@PySem.PassesOwn.never
def Iw:=@PySem.Heap.lt_size
def Iy:=@List.map_cons
def Iz:=@PySem.intBits_mul_le
def IA:=@List.map_append
def IB:=@Bool.and_eq_true_iff
def IC:=@decide_eq_true
def ID:=@List.take_length
def IE:=@Rat.intCast_mul
def IF:=@List.length_replicate
def IG:=@List.filter_cons_of_neg
def IH:=@List.length_take
def II:=@Nat.ne_of_lt
def IJ:=@PySem.W.mg_none_of
def IK:=@List.length_filter_le
def IL:=@decide_eq_false
def IM:=@Nat.lt_of_lt_of_le
def IN:=@Int.mul_ne_zero
def IP:=@PySem.wpAny_setField_rec
def IQ:=@Array.length_toList
def IR:=@of_decide_eq_true
def IS:=@List.filter_cons_of_pos
def IT:=@List.of_mem_zip
def IU:=@List.map_map
def IV:=@Int.fmod_nonneg_of_pos
def IW:=@Rat.mul_nonneg
def IX:=@List.length_set
def IY:=@List.filterMap_cons
def IZ:=@List.append_nil
def Ja:=@PySem.W.kia_one
def Jb:=@PySem.intBits_fdiv_le
def Jc:=@PySem.Heap.size_push
def Jd:=@Int.mul_comm
def Je:=@Nat.lt_irrefl
def Jf:=@PySem.wpAny_newObj_type
def Jg:=@List.nodup_cons
def Jh:=@List.length_zip
def Ji:=@List.length_range
def Jj:=@Int.mul_left_comm
def Jk:=@List.mem_range
def Jl:=@Int.fmod_lt_of_pos
def Jm:=@List.filter_append
def Jn:=@PyProof.Rows.callWith_type1
def Jo:=@Int.mul_assoc
def Jp:=@List.nodup_append
def Jq:=@Nat.zero_le
def Jr:=@PySem.wpAny_holding
def Js:=@PySem.wpAny_call_entry
def Jt:=@Int.mul_fdiv_cancel_left
def Ju:=@PySem.wpAny_setState_of
def Jv:=@PySem.wpAny_field
def Jw:=@Nat.lt_of_le_of_lt
def Jx:=@Rat.mul_pos
def Jy:=@PySem.wpAny_seqItems
def Jz:=@Rat.intCast_add
def JA:=@PySem.wpAny_mono
def JB:=@List.eq_nil_of_length_eq_zero
def JC:=@Int.dvd_mul_left
def JD:=@List.mem_of_mem_take
def JE:=@List.length_eq_zero_iff
def JF:=@Int.dvd_trans
def JG:=@Nat.le_of_lt
def JH:=@PySem.intBits_add_le
def JI:=@PySem.wpAny_truthy_bool
def JJ:=@Nat.lt_succ_of_lt
def JK:=@congrArg
def JL:=@Rat.intCast_lt_intCast
def JM:=@PySem.F.slot_tuple_iterator_next
def JN:=@List.length_drop
def JO:=@List.mem_flatMap
def JP:=@List.take_append_drop
def JQ:=@List.drop_eq_getElem_cons
def JR:=@PySem.Around.under_plainId
def JS:=@PySem.wpAny_passesOwn
def JT:=@PySem.wpAny_pyIter_list
def JU:=@PySem.wpAny_ite_split
def JV:=@Decidable.not_not
def JW:=@Nat.ne_of_gt
def JX:=@PySem.mem_of_lookup
def JY:=@Int.fdiv_mul_cancel
def JZ:=@List.cons_ne_nil
def J0:=@List.take_of_length_le
def J1:=@PySem.Calls.spliced_cons
def J2:=@PySem.wpAny_Call_Name_kw
def J3:=@PySem.tupleKind_room_in1
def J4:=@Nat.succ.inj
def J5:=@Int.zero_add
def J6:=@Int.dvd_gcd_mul_iff_dvd_mul
def J7:=@PySem.codeAny_builtin
def J8:=@Int.toNat_natCast
def J9:=@List.append_assoc
def Ka:=@Nat.lt_trichotomy
def Kb:=@PySem.W.mg_of
def Kc:=@decide_eq_true_eq
def Ke:=@PySem.Calls.call_function_entry
def Kf:=@PySem.intBits_neg_le
def Kg:=@Nat.lt_succ_self
def Kh:=@List.getElem_mem
def Ki:=@Nat.le_add_right
def Kj:=@PySem.Heap.SameBut.update
def Kk:=@List.length_reverse
def Kl:=@List.filter_sublist
def Km:=@List.flatMap_append
def Ko:=@List.map_nil
def Kq:=@Int.add_zero
def Kr:=@Int.le_of_lt
def Ks:=@Nat.succ_pos
def Kt:=@Bool.eq_iff_iff
def Ku:=@Rat.mul_eq_zero
def Kv:=@Nat.exists_eq_add_of_le
def Kw:=@Option.map_eq_some_iff
def Kx:=@PySem.Calls.callWith_builtin
def Ky:=@List.zipWith_cons_cons
def Kz:=@Ne.symm
def KA:=@PySem.W.kitx_dict
def KB:=@PySem.Calls.spliced_nil
def KC:=@Int.dvd_mul_right
def KD:=@Nat.mul_add
def KF:=@List.foldl_append
def KG:=@List.take_zero
def KH:=@List.Perm.refl
def KI:=@PySem.codeAny_mono
def KJ:=@List.length_singleton
def KL:=@PySem.F.slot_dict_get
def KM:=@Bool.beq_eq_decide_eq
def KN:=@Nat.lt_asymm
def KO:=@Nat.le_div_iff_mul_le
def KP:=@List.filter_cons
def KQ:=@List.map_zipWith
def KR:=@PySem.wpAny_updateSeq_pair
def KS:=@PySem.intBits_le_of_natAbs
def KU:=@List.any_cons
def KW:=@PySem.wpAny_rule
def KY:=@beq_eq_false_iff_ne
def KZ:=@PySem.wpAny_execs_nil
def K0:=@PySem.SeqAt.EqAt.same
def La:=@Nat.le_succ
def Lb:=@PySem.F.slot_zip_next
def Lc:=@Rat.intCast_inj
def Ld:=@Rat.intCast_neg
def Le:=@List.foldl_cons
set_option compiler.extract_closed false
set_option genSizeOf false
set_option bootstrap.genMatcherCode false
set_option hygiene false
local macro_rules|`('b')=>`(by omega)|`('c')=>`(importedModules PySem.Challenge.pw_rowbetween_k41_shadows.main.body)|`('d')=>`(by decide)|`('f')=>`(rows.zip w)|`('g')=>`(by decide +kernel)|`('h')=>`((cW X (tn++caps.map (·.2)) scope cl s2 H2 C fp pn))|`('j')=>`(cnd nm rows ks ps n w)|`('k')=>`(model X.prog X.w)|`('l')=>`(w.withFollow "special-get-raises" false)|`('m')=>`(w.withFollow "special-get-raises" true)|`('p')=>`(by simp)|`('q')=>`(model prog w)|`('u')=>`((relabel scope X.env).names.lookup p.2=some .cell\/(relabel scope X.env).names.lookup p.2=some .free)|`('v')=>`((relabel scope X.env).names.lookup x=some .cell\/(relabel scope X.env).names.lookup x=some .free)|`('w')=>`(pB ks ps)
set_option hygiene true
namespace L2
open PySem
def dw(s:Stmt):Arguments:=match s with
 | .FunctionDef _ a _ _ _ _ _ _ _ _=>a
 | _=>{ posonlyargs:=[],args:=[],vararg:=none,kwonlyargs:=[],kw_defaults:=[],kwarg:=none,defaults:=[] }
def bP(s:Stmt):List Stmt:=match s with
 | .FunctionDef _ _ b _ _ _ _ _ _ _=>b
 | _=>[]
def aq(s:Stmt):Scope:=match s with
 | .FunctionDef _ _ _ _ _ _ sc _ _ _=>sc
 | _=>{ kind:=.function,names:=[],isGenerator:=false,isCoroutine:=false }
end L2
namespace DL
open PySem PySem.Spec PyProof.Rows L2
def txt(D:List (Str×Str)):List (Str×KTD.Dat):=D.map λp=>(p.1,KTD.Dat.flat (.str p.2))
structure FdK(K:PySem.W.Frag)(x:Str)(st:Stmt):Prop where
 ex:∃(f:Addr) (oc:Value) (od an:Option Addr) (sl:Array (Zd)) (kV dc pm cd ct:Value),PySem.W.nsIn K mainGlobals x=some (some (.ref f))/\K.lookup f=some ⟨oc,od,.func (PySem.W.fnOf x x (dw st) (bP st) (aq st) .none kV dc pm an cd ct),sl⟩/\PySem.W.codeIn K cd x=true/\PySem.W.keepIn K (.ref f)=true
end DL
namespace Lw
open PySem L2 DL
def top(i:Nat):Stmt:=PySem.Challenge.pw_rowbetween_k41_shadows.main.body.getD i (.Pass ⟨0,0,0,0⟩)
abbrev s_common_divisor:Stmt:=top 6
abbrev s_made:Stmt:=top 7
abbrev s_plus:Stmt:=top 8
abbrev s_times:Stmt:=top 9
abbrev s_less:Stmt:=top 10
abbrev s_is_row:Stmt:=top 15
abbrev s_mark_names:Stmt:=top 17
abbrev s_names_of:Stmt:=top 18
abbrev s_tops_of:Stmt:=top 19
abbrev s_top_of_sum:Stmt:=top 20
abbrev s_row_is_so:Stmt:=top 21
abbrev s_part_is_so:Stmt:=top 22
abbrev s_is_so:Stmt:=top 23
abbrev s_contrary:Stmt:=top 24
abbrev s_plain_part:Stmt:=top 25
abbrev s_plain:Stmt:=top 26
abbrev s__law_cell:Stmt:=top 53
abbrev s_put_together:Stmt:=top 27
abbrev s_cases_within:Stmt:=top 28
abbrev s_cases:Stmt:=top 29
abbrev s_added:Stmt:=top 35
abbrev s_weight_of:Stmt:=top 36
abbrev s_alone:Stmt:=top 37
abbrev s_shortened:Stmt:=top 38
abbrev s_crossed:Stmt:=top 39
abbrev s_without:Stmt:=top 40
abbrev s_taken_out:Stmt:=top 41
abbrev s_bound_on:Stmt:=top 42
abbrev s_tighter:Stmt:=top 32
abbrev s_number_in:Stmt:=top 33
abbrev s_piece_for:Stmt:=top 43
abbrev s_found_back:Stmt:=top 44
abbrev s_solved:Stmt:=top 45
abbrev s_both_so:Stmt:=top 51
abbrev s_joined:Stmt:=top 16
abbrev s_shadow:Stmt:=top 48
abbrev s_filled:Stmt:=top 49
abbrev s__law_whole:Stmt:=top 56
abbrev s__law_over:Stmt:=top 58
abbrev s__law_total:Stmt:=top 59
abbrev s__law_row_so:Stmt:=top 60
abbrev s__law_number:Stmt:=top 54
abbrev s__law_shaped:Stmt:=top 61
abbrev s__law_so:Stmt:=top 62
abbrev s__law_names:Stmt:=top 63
abbrev s__law_lowest:Stmt:=top 67
abbrev s__law_row:Stmt:=top 55
abbrev s__law_four:Stmt:=top 64
abbrev s__law_mixed:Stmt:=top 66
abbrev s__law_drawn:Stmt:=top 65
abbrev s__law_formed:Stmt:=top 68
abbrev s__law_is_fraction:Stmt:=top 57
abbrev s__law_filled_good:Stmt:=top 69
abbrev s__law_good:Stmt:=top 70
abbrev s_law:Stmt:=top 71
end Lw
namespace Hd
open PySem PySem.W PyProof.Rows
set_option maxRecDepth 100000
set_option maxHeartbeats 0
def kept(i:Nat):Stmt:=PySem.Challenge.pw_rowbetween_k41_shadows.main.body.getD i (.Pass ⟨0,0,0,0⟩)
def vw:Program:={ PySem.Challenge.pw_rowbetween_k41_shadows with main:={ PySem.Challenge.pw_rowbetween_k41_shadows.main with body:=[kept 1,kept 2,kept 3,kept 4,kept 6,kept 7,kept 8,kept 9,kept 10,kept 12,kept 13,kept 14,kept 15,kept 16,kept 17,kept 18,kept 19,kept 20,kept 21,kept 22,kept 23,kept 24,kept 25,kept 26,kept 27,kept 28,kept 29,kept 31,kept 32,kept 33,kept 35,kept 36,kept 37,kept 38,kept 39,kept 40,kept 41,kept 42,kept 43,kept 44,kept 45,kept 47,kept 48,kept 49,kept 51,kept 53,kept 54,kept 55,kept 56,kept 57,kept 58,kept 59,kept 60,kept 61,kept 62,kept 63,kept 64,kept 65,kept 66,kept 67,kept 68,kept 69,kept 70,kept 71] } }
def xt(s:Shared):Bool:=xlAt vw [] s&&recOk (RowW.records (OpenRow.toRowW PySem.Challenge.rw_rowbetween_k41_shadows.row)) s
noncomputable def st0 (w:World) (os:OsState):Shared:=⟨boot_heap w.params,#[],boot_drawn,boot_toks,os⟩
noncomputable def rn (w:World) (os:OsState):=(topRun treeTable PySem.Challenge.pw_rowbetween_k41_shadows w 11 (some (Value.ref 6)) 5672 (st0 w os) (topStub PySem.Challenge.pw_rowbetween_k41_shadows))
theorem said:PySem.W.OpenLaw.wellSaid PySem.Challenge.rw_rowbetween_k41_shadows=true:=by
 rw[PySem.W.Fast.te9446332074065402090]
 kernel_rfl
local macro_rules | `(tactic| walk_at "hf") => `(tactic| (unfold Hd.rn Hd.st0; (try rw [PySem.W.Fast.te14082659384304107361]); (try rw [PySem.W.Fast.te14364793385576792824]); (try rw [PySem.W.Fast.te5160383126252970620]); (try rw [PySem.W.Fast.te10880121769531294198]); (try rw [PySem.W.Fast.te14722251495701143533]); (try rw [PySem.W.Fast.te10994771534591457954]); (try rw [PySem.W.Fast.te479339242167458305]); (try rw [PySem.W.Fast.te16090120013241838585]); (try rw [PySem.W.Fast.te2386780881361962483]); (try rw [PySem.W.Fast.te11698064438423848299]); (try rw [PySem.W.Fast.te7317090234206586261]); (try rw [PySem.W.Fast.te7369524293546568484]); (try rw [PySem.W.Fast.te821141287760084731]); (try rw [PySem.W.Fast.te3399658132070893891]); (try rw [PySem.W.Fast.te7409074990110511671]); (try rw [PySem.W.Fast.te13664370479719496447]); (try rw [PySem.W.Fast.te5991557255702980513]); (try rw [PySem.W.Fast.te3247288618530077131]); (try rw [PySem.W.Fast.te5923862056798008813]); kernel_rfl))
theorem eN{σ α β:Type}{o:Option σ}{f:σ->α}{g:σ->β}{x:α}{y:β}(a:o.map f=some x)(b:o.map g=some y):o.map (λs=>(f s,g s))=some (x,y):=by
 cases o with
 | none=>cases a
 | some s=>cases a;cases b;rfl
theorem qO{σ α β:Type}{o:Option σ}{f:σ->α}{g:σ->β}{x:α}{y:β}(a:o.map (λs=>(f s,g s))=some (x,y)):o.map f=some x:=by
 cases o with
 | none=>cases a
 | some s=>cases a;rfl
theorem i4{σ α β:Type}{o:Option σ}{f:σ->α}{g:σ->β}{x:α}{y:β}(a:o.map (λs=>(f s,g s))=some (x,y)):o.map g=some y:=by
 cases o with
 | none=>cases a
 | some s=>cases a;rfl
theorem left{α:Type}{Yf:Shared->α}{Ya:World->α}(go:∀(w:World) (os:OsState),(rn w os).map (λs=>(staticsOk 'c' (boot_heap w.params) s.heap&&namesBound PySem.Challenge.pw_rowbetween_k41_shadows s.heap&&gensDone s&&laidKept (boot_heap w.params) s.heap,openSeen vw ["OPPOSITES"] 'c' xt true s,Yf s))=some (true,openGood vw ["OPPOSITES"],Ya w)):LeftO PySem.Challenge.pw_rowbetween_k41_shadows vw ["OPPOSITES"] xt Yf Ya 5672 true:=λw=>by
 obtain⟨⟨h,gs,d,k,os⟩,e1,e2⟩:=Kw.mp (boot_open (p:=PySem.Challenge.pw_rowbetween_k41_shadows) (N:=5672) (by kernel_rfl) 'd' (λs=>rfl) w);obtain⟨rfl,rfl,rfl,rfl⟩:h=boot_heap w.params/\gs=#[]/\d=boot_drawn/\k=boot_toks:=by simpa using e2
 have size:((boot_heap w.params).isNs mainGlobals,(boot_heap w.params).objs.size,(boot_heap w.params).nsMap mainGlobals "__annotations__")=(true,11,some (Value.ref 6)):=by kernel_rfl
 simp only[Prod.mk.injEq] at size;obtain⟨z1,z2,z3⟩:=size;obtain⟨s,r1,r2⟩:=Kw.mp (go w os);simp only[Prod.mk.injEq] at r2;obtain⟨l1,l2,l3⟩:=r2;unfold openEnds;rw[e1];show (topFrom treeTable PySem.Challenge.pw_rowbetween_k41_shadows w 5672 (st0 w os)).map _=_;have t:topFrom treeTable PySem.Challenge.pw_rowbetween_k41_shadows w 5672 (st0 w os)=some s:=by
  unfold topFrom;rw[show (st0 w os).heap=boot_heap w.params from rfl,z1,z2,z3];unfold rn at r1;rw[r1];show (match _&&_&&_&&_ with | true=>_ | false=>_)=_;rw[l1]
 rw[t];exact JK some (Prod.ext (by exact l2) (by exact l3))
theorem twoRows{α:Type}{Yf:Shared->α}{Ya:World->α}(row:String)(a:∀(w:World) (os:OsState),(rn (w.withFollow row false) os).map (λs=>(staticsOk 'c' (boot_heap (w.withFollow row false).params) s.heap&&namesBound PySem.Challenge.pw_rowbetween_k41_shadows s.heap&&gensDone s&&laidKept (boot_heap (w.withFollow row false).params) s.heap,openSeen vw ["OPPOSITES"] 'c' xt true s,Yf s))=some (true,openGood vw ["OPPOSITES"],Ya (w.withFollow row false)))(b:∀(w:World) (os:OsState),(rn (w.withFollow row true) os).map (λs=>(staticsOk 'c' (boot_heap (w.withFollow row true).params) s.heap&&namesBound PySem.Challenge.pw_rowbetween_k41_shadows s.heap&&gensDone s&&laidKept (boot_heap (w.withFollow row true).params) s.heap,openSeen vw ["OPPOSITES"] 'c' xt true s,Yf s))=some (true,openGood vw ["OPPOSITES"],Ya (w.withFollow row true))):∀(w:World) (os:OsState),(rn w os).map (λs=>(staticsOk 'c' (boot_heap w.params) s.heap&&namesBound PySem.Challenge.pw_rowbetween_k41_shadows s.heap&&gensDone s&&laidKept (boot_heap w.params) s.heap,openSeen vw ["OPPOSITES"] 'c' xt true s,Yf s))=some (true,openGood vw ["OPPOSITES"],Ya w) :=
 byRow2 row (P:=λw=>∀os:OsState,(rn w os).map (λs=>(staticsOk 'c' (boot_heap w.params) s.heap&&namesBound PySem.Challenge.pw_rowbetween_k41_shadows s.heap&&gensDone s&&laidKept (boot_heap w.params) s.heap,openSeen vw ["OPPOSITES"] 'c' xt true s,Yf s))=some (true,openGood vw ["OPPOSITES"],Ya w)) a b
theorem qJ(w:World)(os:OsState):(rn 'l' os).map (λs=>(staticsOk 'c' (boot_heap 'l'.params) s.heap&&namesBound PySem.Challenge.pw_rowbetween_k41_shadows s.heap&&gensDone s&&laidKept (boot_heap 'l'.params) s.heap,seen ((recsOf vw).map (·.name)) (ownsOf vw) [] { s with gens:=#[] },s.heap.bltView,s.heap.keysOk (looseW vw ["OPPOSITES"]) ((recsOf vw).map (·.name)) ((litsOf vw).map (·.1)) ((clssOf vw (looseW vw ["OPPOSITES"])).map (·.name))&&s.heap.accountedOkI 'c'&&s.heap.isNs mainGlobals&&s.heap.isNs builtinsNs&&tablesOk vw s.heap&&xt s&&(if true then s.gens.size==0 else !leftWithCleanup s.gens)))=some ((true),(expectedOf vw),(bltViewBooted),(true)):=by
 (refine eN ?_ (eN ?_ (eN ?_ ?_)));(focus (walk_at "hf"));(focus (walk_at "hf"));(focus (walk_at "hf"));(focus (walk_at "hf"))
theorem Cv(w:World)(os:OsState):(rn 'l' os).map (λs=>staticsOk 'c' (boot_heap 'l'.params) s.heap&&namesBound PySem.Challenge.pw_rowbetween_k41_shadows s.heap&&gensDone s&&laidKept (boot_heap 'l'.params) s.heap)=some (true):=(qO (qJ w os))
theorem Cy(w:World)(os:OsState):(rn 'l' os).map (λs=>seen ((recsOf vw).map (·.name)) (ownsOf vw) [] { s with gens:=#[] })=some (expectedOf vw):=(qO (i4 (qJ w os)))
theorem BR(w:World)(os:OsState):(rn 'l' os).map (λs=>s.heap.bltView)=some (bltViewBooted):=(qO (i4 (i4 (qJ w os))))
theorem BS(w:World)(os:OsState):(rn 'l' os).map (λs=>s.heap.keysOk (looseW vw ["OPPOSITES"]) ((recsOf vw).map (·.name)) ((litsOf vw).map (·.1)) ((clssOf vw (looseW vw ["OPPOSITES"])).map (·.name))&&s.heap.accountedOkI 'c'&&s.heap.isNs mainGlobals&&s.heap.isNs builtinsNs&&tablesOk vw s.heap&&xt s&&(if true then s.gens.size==0 else !leftWithCleanup s.gens))=some (true):=(i4 (i4 (i4 (qJ w os))))
theorem t4(w:World)(os:OsState):(rn 'l' os).map (λs=>(tabsOk vw s,pinSeenD vw (drecsOf vw) s,plainSeenE vw (looseW vw ["OPPOSITES"]) s))=some ((true),(pinGoodD (drecsOf vw)),(plainGoodE vw (looseW vw ["OPPOSITES"]))):=by
 (refine eN ?_ (eN ?_ ?_));(focus (walk_at "hf"));(focus (walk_at "hf"));(focus (walk_at "hf"))
theorem Ag(w:World)(os:OsState):(rn 'l' os).map (λs=>tabsOk vw s)=some (true):=(qO (t4 w os))
theorem B7(w:World)(os:OsState):(rn 'l' os).map (λs=>pinSeenD vw (drecsOf vw) s)=some (pinGoodD (drecsOf vw)):=(qO (i4 (t4 w os)))
theorem Ct(w:World)(os:OsState):(rn 'l' os).map (λs=>plainSeenE vw (looseW vw ["OPPOSITES"]) s)=some (plainGoodE vw (looseW vw ["OPPOSITES"])):=(i4 (i4 (t4 w os)))
theorem wj(w:World)(os:OsState):(rn 'l' os).map (λs=>(plainSeenD vw ["OPPOSITES"] s,wideSeen vw s,clsSeenW vw ["OPPOSITES"] s))=some ((plainGoodD vw ["OPPOSITES"]),(wideGood vw),(clsGoodW vw ["OPPOSITES"])):=by
 (refine eN ?_ (eN ?_ ?_));(focus (walk_at "hf"));(focus (walk_at "hf"));(focus (walk_at "hf"))
theorem AN(w:World)(os:OsState):(rn 'l' os).map (λs=>plainSeenD vw ["OPPOSITES"] s)=some (plainGoodD vw ["OPPOSITES"]):=(qO (wj w os))
theorem CK(w:World)(os:OsState):(rn 'l' os).map (λs=>wideSeen vw s)=some (wideGood vw):=(qO (i4 (wj w os)))
theorem AO(w:World)(os:OsState):(rn 'l' os).map (λs=>clsSeenW vw ["OPPOSITES"] s)=some (clsGoodW vw ["OPPOSITES"]):=(i4 (i4 (wj w os)))
theorem CN(w:World)(os:OsState):(rn 'l' os).map (λs=>openSeen vw ["OPPOSITES"] 'c' xt true s)=some (openGood vw ["OPPOSITES"]):=(eN (Cy w os) (eN (BR w os) (eN (BS w os) (eN (Ag w os) (eN (B7 w os) (eN (Ct w os) (eN (AN w os) (eN (CK w os) (AO w os)))))))))
theorem all_a{α:Type}{Yf:Shared->α}{Ya:World->α}(h:∀(w:World) (os:OsState),(rn 'l' os).map (λs=>Yf s)=some (Ya 'l'))(w:World)(os:OsState) :
  (rn 'l' os).map (λs=>(staticsOk 'c' (boot_heap 'l'.params) s.heap&&namesBound PySem.Challenge.pw_rowbetween_k41_shadows s.heap&&gensDone s&&laidKept (boot_heap 'l'.params) s.heap,openSeen vw ["OPPOSITES"] 'c' xt true s,Yf s))=some (true,openGood vw ["OPPOSITES"],Ya 'l'):=eN (Cv w os) (eN (CN w os) (h w os))
theorem qM(w:World)(os:OsState):(rn 'm' os).map (λs=>(staticsOk 'c' (boot_heap 'm'.params) s.heap&&namesBound PySem.Challenge.pw_rowbetween_k41_shadows s.heap&&gensDone s&&laidKept (boot_heap 'm'.params) s.heap,seen ((recsOf vw).map (·.name)) (ownsOf vw) [] { s with gens:=#[] },s.heap.bltView,s.heap.keysOk (looseW vw ["OPPOSITES"]) ((recsOf vw).map (·.name)) ((litsOf vw).map (·.1)) ((clssOf vw (looseW vw ["OPPOSITES"])).map (·.name))&&s.heap.accountedOkI 'c'&&s.heap.isNs mainGlobals&&s.heap.isNs builtinsNs&&tablesOk vw s.heap&&xt s&&(if true then s.gens.size==0 else !leftWithCleanup s.gens)))=some ((true),(expectedOf vw),(bltViewBooted),(true)):=by
 (refine eN ?_ (eN ?_ (eN ?_ ?_)));(focus (walk_at "hf"));(focus (walk_at "hf"));(focus (walk_at "hf"));(focus (walk_at "hf"))
theorem Cn(w:World)(os:OsState):(rn 'm' os).map (λs=>staticsOk 'c' (boot_heap 'm'.params) s.heap&&namesBound PySem.Challenge.pw_rowbetween_k41_shadows s.heap&&gensDone s&&laidKept (boot_heap 'm'.params) s.heap)=some (true):=(qO (qM w os))
theorem AV(w:World)(os:OsState):(rn 'm' os).map (λs=>seen ((recsOf vw).map (·.name)) (ownsOf vw) [] { s with gens:=#[] })=some (expectedOf vw):=(qO (i4 (qM w os)))
theorem Cj(w:World)(os:OsState):(rn 'm' os).map (λs=>s.heap.bltView)=some (bltViewBooted):=(qO (i4 (i4 (qM w os))))
theorem As(w:World)(os:OsState):(rn 'm' os).map (λs=>s.heap.keysOk (looseW vw ["OPPOSITES"]) ((recsOf vw).map (·.name)) ((litsOf vw).map (·.1)) ((clssOf vw (looseW vw ["OPPOSITES"])).map (·.name))&&s.heap.accountedOkI 'c'&&s.heap.isNs mainGlobals&&s.heap.isNs builtinsNs&&tablesOk vw s.heap&&xt s&&(if true then s.gens.size==0 else !leftWithCleanup s.gens))=some (true):=(i4 (i4 (i4 (qM w os))))
theorem vc(w:World)(os:OsState):(rn 'm' os).map (λs=>(tabsOk vw s,pinSeenD vw (drecsOf vw) s,plainSeenE vw (looseW vw ["OPPOSITES"]) s))=some ((true),(pinGoodD (drecsOf vw)),(plainGoodE vw (looseW vw ["OPPOSITES"]))):=by
 (refine eN ?_ (eN ?_ ?_));(focus (walk_at "hf"));(focus (walk_at "hf"));(focus (walk_at "hf"))
theorem BL(w:World)(os:OsState):(rn 'm' os).map (λs=>tabsOk vw s)=some (true):=(qO (vc w os))
theorem BG(w:World)(os:OsState):(rn 'm' os).map (λs=>pinSeenD vw (drecsOf vw) s)=some (pinGoodD (drecsOf vw)):=(qO (i4 (vc w os)))
theorem CO(w:World)(os:OsState):(rn 'm' os).map (λs=>plainSeenE vw (looseW vw ["OPPOSITES"]) s)=some (plainGoodE vw (looseW vw ["OPPOSITES"])):=(i4 (i4 (vc w os)))
theorem vF(w:World)(os:OsState):(rn 'm' os).map (λs=>(plainSeenD vw ["OPPOSITES"] s,wideSeen vw s,clsSeenW vw ["OPPOSITES"] s))=some ((plainGoodD vw ["OPPOSITES"]),(wideGood vw),(clsGoodW vw ["OPPOSITES"])):=by
 (refine eN ?_ (eN ?_ ?_));(focus (walk_at "hf"));(focus (walk_at "hf"));(focus (walk_at "hf"))
theorem Bz(w:World)(os:OsState):(rn 'm' os).map (λs=>plainSeenD vw ["OPPOSITES"] s)=some (plainGoodD vw ["OPPOSITES"]):=(qO (vF w os))
theorem Bc(w:World)(os:OsState):(rn 'm' os).map (λs=>wideSeen vw s)=some (wideGood vw):=(qO (i4 (vF w os)))
theorem By(w:World)(os:OsState):(rn 'm' os).map (λs=>clsSeenW vw ["OPPOSITES"] s)=some (clsGoodW vw ["OPPOSITES"]):=(i4 (i4 (vF w os)))
theorem AS(w:World)(os:OsState):(rn 'm' os).map (λs=>openSeen vw ["OPPOSITES"] 'c' xt true s)=some (openGood vw ["OPPOSITES"]):=(eN (AV w os) (eN (Cj w os) (eN (As w os) (eN (BL w os) (eN (BG w os) (eN (CO w os) (eN (Bz w os) (eN (Bc w os) (By w os)))))))))
theorem all_b{α:Type}{Yf:Shared->α}{Ya:World->α}(h:∀(w:World) (os:OsState),(rn 'm' os).map (λs=>Yf s)=some (Ya 'm'))(w:World)(os:OsState) :
  (rn 'm' os).map (λs=>(staticsOk 'c' (boot_heap 'm'.params) s.heap&&namesBound PySem.Challenge.pw_rowbetween_k41_shadows s.heap&&gensDone s&&laidKept (boot_heap 'm'.params) s.heap,openSeen vw ["OPPOSITES"] 'c' xt true s,Yf s))=some (true,openGood vw ["OPPOSITES"],Ya 'm'):=eN (Cn w os) (eN (AS w os) (h w os))
end Hd
structure Hd.Facts(K:PySem.W.Frag):Prop where
 q0:DL.FdK K "common_divisor" Lw.s_common_divisor
 q1:DL.FdK K "made" Lw.s_made
 q2:DL.FdK K "plus" Lw.s_plus
 q3:DL.FdK K "times" Lw.s_times
 q4:DL.FdK K "less" Lw.s_less
 q5:DL.FdK K "is_row" Lw.s_is_row
 q6:DL.FdK K "mark_names" Lw.s_mark_names
 q7:DL.FdK K "names_of" Lw.s_names_of
 q8:DL.FdK K "tops_of" Lw.s_tops_of
 q9:DL.FdK K "top_of_sum" Lw.s_top_of_sum
 q10:DL.FdK K "row_is_so" Lw.s_row_is_so
 q11:DL.FdK K "part_is_so" Lw.s_part_is_so
 q12:DL.FdK K "is_so" Lw.s_is_so
 q13:DL.FdK K "contrary" Lw.s_contrary
 q14:DL.FdK K "plain_part" Lw.s_plain_part
 q15:DL.FdK K "plain" Lw.s_plain
 q16:DL.FdK K "_law_cell" Lw.s__law_cell
 q17:DL.FdK K "put_together" Lw.s_put_together
 q18:DL.FdK K "cases_within" Lw.s_cases_within
 q19:DL.FdK K "cases" Lw.s_cases
 q20:DL.FdK K "added" Lw.s_added
 q21:DL.FdK K "weight_of" Lw.s_weight_of
 q22:DL.FdK K "alone" Lw.s_alone
 q23:DL.FdK K "shortened" Lw.s_shortened
 q24:DL.FdK K "crossed" Lw.s_crossed
 q25:DL.FdK K "without" Lw.s_without
 q26:DL.FdK K "taken_out" Lw.s_taken_out
 q27:DL.FdK K "bound_on" Lw.s_bound_on
 q28:DL.FdK K "tighter" Lw.s_tighter
 q29:DL.FdK K "number_in" Lw.s_number_in
 q30:DL.FdK K "piece_for" Lw.s_piece_for
 q31:DL.FdK K "found_back" Lw.s_found_back
 q32:DL.FdK K "solved" Lw.s_solved
 q33:DL.FdK K "both_so" Lw.s_both_so
 q34:DL.FdK K "joined" Lw.s_joined
 q35:DL.FdK K "shadow" Lw.s_shadow
 q36:DL.FdK K "filled" Lw.s_filled
 q37:DL.FdK K "_law_whole" Lw.s__law_whole
 q38:DL.FdK K "_law_over" Lw.s__law_over
 q39:DL.FdK K "_law_total" Lw.s__law_total
 q40:DL.FdK K "_law_row_so" Lw.s__law_row_so
 q41:DL.FdK K "_law_number" Lw.s__law_number
 q42:DL.FdK K "_law_shaped" Lw.s__law_shaped
 q43:DL.FdK K "_law_so" Lw.s__law_so
 q44:DL.FdK K "_law_names" Lw.s__law_names
 q45:DL.FdK K "_law_lowest" Lw.s__law_lowest
 q46:DL.FdK K "_law_row" Lw.s__law_row
 q47:DL.FdK K "_law_four" Lw.s__law_four
 q48:DL.FdK K "_law_mixed" Lw.s__law_mixed
 q49:DL.FdK K "_law_drawn" Lw.s__law_drawn
 q50:DL.FdK K "_law_formed" Lw.s__law_formed
 q51:DL.FdK K "_law_is_fraction" Lw.s__law_is_fraction
 q52:DL.FdK K "_law_filled_good" Lw.s__law_filled_good
 q53:DL.FdK K "_law_good" Lw.s__law_good
 q54:DL.FdK K "law" Lw.s_law
 z0:PySem.W.nsIn K PySem.mainGlobals "abs"=some none
 z1:PySem.W.nsIn K PySem.mainGlobals "sorted"=some none
 z2:PySem.W.nsIn K PySem.mainGlobals "tuple"=some none
 z3:PySem.W.nsIn K PySem.mainGlobals "len"=some none
 z4:PySem.W.nsIn K PySem.mainGlobals "max"=some none
 z5:PySem.W.nsIn K PySem.mainGlobals "zip"=some none
 z6:PySem.W.nsIn K PySem.mainGlobals "enumerate"=some none
 z7:PySem.W.nsIn K PySem.mainGlobals "range"=some none
 z8:PySem.W.nsIn K PySem.mainGlobals "reversed"=some none
 z9:PySem.W.nsIn K PySem.mainGlobals "dict"=some none
 z10:PySem.W.nsIn K PySem.mainGlobals "all"=some none
 z11:PySem.W.nsIn K PySem.mainGlobals "isinstance"=some none
 z12:PySem.W.nsIn K PySem.mainGlobals "bool"=some none
 z13:PySem.W.nsIn K PySem.mainGlobals "int"=some none
 z14:PySem.W.nsIn K PySem.mainGlobals "set"=some none
 z15:PySem.W.nsIn K PySem.mainGlobals "sum"=some none
 z16:PySem.W.nsIn K PySem.mainGlobals "list"=some none
 g_OPPOSITES:∃ga:PySem.Addr,PySem.W.nsIn K PySem.mainGlobals "OPPOSITES"=some (some (.ref ga))/\PyProof.Rows.KTD.tabLook (PyProof.Rows.KTD.datLooks λb=>K.lookup b) (λb=>K.lookup b) ga (DL.txt [("least","more"),("more","least"),("both","either"),("either","both")])=true
 g_MOST_ROWS:∃ga:PySem.Tok,PySem.W.nsIn K PySem.mainGlobals "MOST_ROWS"=some (some (.int 3 ga))
 g_MOST_CASES:∃ga:PySem.Tok,PySem.W.nsIn K PySem.mainGlobals "MOST_CASES"=some (some (.int 4 ga))
 g_ENDLESS:∃(ga:PySem.Addr) (od:Option PySem.Addr) (n:Nat) (sl:Array (Option PySem.Value)),PySem.W.nsIn K PySem.mainGlobals "ENDLESS"=some (some (.ref ga))/\K.lookup ga=some ⟨.type "tuple",od,.seq #[.none,.bool false] n,sl⟩
 g_ALWAYS_SO:∃(ga ge:PySem.Addr) (od oe:Option PySem.Addr) (n m:Nat) (sl se:Array (Option PySem.Value)) (t u:PySem.Tok),PySem.W.nsIn K PySem.mainGlobals "ALWAYS_SO"=some (some (.ref ga))/\K.lookup ga=some ⟨.type "tuple",od,.seq #[.str "least" t,.ref ge,.int 0 u] n,sl⟩/\K.lookup ge=some ⟨.type "tuple",oe,.seq #[] m,se⟩
section
open PySem PySem.W PyProof.Rows
local macro_rules | `(tactic| o_head $H) => `(tactic| (
 refine PySem.W.holds_open (r:=PySem.Challenge.rw_rowbetween_k41_shadows.row) (q:=Hd.vw) (loose:=["OPPOSITES"]) (Xt:=Hd.xt)
  (XP:=PySem.W.XL Hd.vw []) (Yf:=PySem.W.Hook.obs $H) (Ya:=PySem.W.Hook.val $H) (YP:=PySem.W.Hook.says $H) (N:=5672)
  ?_ (PySem.W.Hook.of $H) (PySem.W.Hook.keeps $H) (λs e=>PySem.W.xl_of s (IB.mp e).1)
  PySem.W.XL.keeps (by rfl) (by rfl) (by rfl) (λs e=>PySem.W.recFacts_of (IB.mp e).2)
  (by rfl) (by first | assumption | decide +kernel) 'g' ⟨rfl,rfl,rfl,rfl,rfl,by decide +kernel⟩ ?_ ?_
 (focus (refine Hd.left ?_;refine Hd.twoRows "special-get-raises" (Hd.all_a ?_) (Hd.all_b ?_);(focus (intro w os;unfold Hd.rn Hd.st0;(try rw[PySem.W.Fast.te14082659384304107361]);(try rw[PySem.W.Fast.te14364793385576792824]);(try rw[PySem.W.Fast.te5160383126252970620]);(try rw[PySem.W.Fast.te10880121769531294198]);(try rw[PySem.W.Fast.te14722251495701143533]);(try rw[PySem.W.Fast.te10994771534591457954]);(try rw[PySem.W.Fast.te479339242167458305]);(try rw[PySem.W.Fast.te16090120013241838585]);(try rw[PySem.W.Fast.te2386780881361962483]);(try rw[PySem.W.Fast.te11698064438423848299]);(try rw[PySem.W.Fast.te7317090234206586261]);(try rw[PySem.W.Fast.te7369524293546568484]);(try rw[PySem.W.Fast.te821141287760084731]);(try rw[PySem.W.Fast.te3399658132070893891]);(try rw[PySem.W.Fast.te7409074990110511671]);(try rw[PySem.W.Fast.te13664370479719496447]);(try rw[PySem.W.Fast.te5991557255702980513]);(try rw[PySem.W.Fast.te3247288618530077131]);(try rw[PySem.W.Fast.te5923862056798008813]);kernel_rfl));(focus (intro w os;unfold Hd.rn Hd.st0;(try rw[PySem.W.Fast.te14082659384304107361]);(try rw[PySem.W.Fast.te14364793385576792824]);(try rw[PySem.W.Fast.te5160383126252970620]);(try rw[PySem.W.Fast.te10880121769531294198]);(try rw[PySem.W.Fast.te14722251495701143533]);(try rw[PySem.W.Fast.te10994771534591457954]);(try rw[PySem.W.Fast.te479339242167458305]);(try rw[PySem.W.Fast.te16090120013241838585]);(try rw[PySem.W.Fast.te2386780881361962483]);(try rw[PySem.W.Fast.te11698064438423848299]);(try rw[PySem.W.Fast.te7317090234206586261]);(try rw[PySem.W.Fast.te7369524293546568484]);(try rw[PySem.W.Fast.te821141287760084731]);(try rw[PySem.W.Fast.te3399658132070893891]);(try rw[PySem.W.Fast.te7409074990110511671]);(try rw[PySem.W.Fast.te13664370479719496447]);(try rw[PySem.W.Fast.te5991557255702980513]);(try rw[PySem.W.Fast.te3247288618530077131]);(try rw[PySem.W.Fast.te5923862056798008813]);kernel_rfl))))
 (focus w_witness2)))
set_option maxRecDepth 100000 in
set_option maxHeartbeats 0 in
theorem Hd.half(F:∀(YP:World->Heap->Prop) (d:DefRec) (K:Params->PySem.W.Frag),(∀(w:World) (h:Heap),YP w h->(K w.params).In h)->d.params.defaults=[]->d.name="law"->(∀w:World,Hd.Facts (K w.params))->PySem.W.WalkO Hd.vw ["OPPOSITES"] (PySem.W.XL Hd.vw []) YP PySem.Challenge.rw_rowbetween_k41_shadows.row.toRowW d [] (λf vs=>PySem.call f vs)):PySem.Challenge.rw_rowbetween_k41_shadows.Holds:=by
 w_on;refine PySem.W.holds_law Hd.said λsaid=>?_;k_head
 k_fill
 refine F _ _ _ (λw h Y=>PySem.W.kIn_of Y) rfl rfl λw=>?_
 constructor
 iterate 55 (focus (exact⟨⟨_,_,_,_,_,_,_,_,_,_,by k_is,by k_is,by k_is,by k_is⟩⟩))
 ·k_is
 ·k_is
 ·k_is
 ·k_is
 ·k_is
 ·k_is
 ·k_is
 ·k_is
 ·k_is
 ·k_is
 ·k_is
 ·k_is
 ·k_is
 ·k_is
 ·k_is
 ·k_is
 ·k_is
 ·exact⟨_,by k_is,by kernel_rfl⟩
 ·exact⟨_,by k_is⟩
 ·exact⟨_,by k_is⟩
 ·exact⟨_,_,_,_,by k_is,by k_is⟩
 ·exact⟨_,_,_,_,_,_,_,_,_,_,by k_is,by k_is,by k_is⟩
end
namespace L2
open PySem PySem.Spec PyProof.Rows
abbrev Ho:=Sum Int Str
def pE:Ho->Value->Bool
 | .inl k,v=>Value.isInt k v
 | .inr x,v=>Value.isStrOf x v
def keyH(w:World):Ho->Int
 | .inl k=>hashInt k
 | .inr x=>hashStr w x
theorem a5:∀ {k:Ho} {v:Value},pE k v=true->(∃i t,k=Sum.inl i/\v=Value.int i t)\/(∃x t,k=Sum.inr x/\v=Value.str x t)
 | .inl i,v,h=>by
  obtain⟨t,e⟩:=Value.isInt_shape (k:=i) (v:=v) h;exact .inl ⟨i,t,rfl,e⟩
 | .inr x,v,h=>by
  obtain⟨t,e⟩:=Value.isStrOf_shape (x:=x) (v:=v) h;exact .inr ⟨x,t,rfl,e⟩
theorem uG(i:Int)(t:Tok):pE (.inl i) (.int i t)=true:=by simp[pE,Value.isInt]
theorem um(x:Str)(t:Tok):pE (.inr x) (.str x t)=true:=by simp[pE,Value.isStrOf]
theorem C6(a b:Int):decide ((Sum.inl a:Ho)=Sum.inl b)=(a==b):=by
 by_cases e:a=b
 ·subst e;simp
 ·have h:¬ (Sum.inl a:Ho)=Sum.inl b:=λq=>e (Sum.inl.inj q)
  rw[IL h];exact(KY.mpr e).symm
theorem E3(a b:Str):decide ((Sum.inr a:Ho)=Sum.inr b)=decide (a=b):=by
 by_cases e:a=b
 ·subst e;simp
 ·have h:¬ (Sum.inr a:Ho)=Sum.inr b:=λq=>e (Sum.inr.inj q)
  rw[IL h,IL e]
theorem Ei(a:Int)(b:Str):decide ((Sum.inl a:Ho)=Sum.inr b)=false:=IL (λq=>nomatch q)
theorem EY(a:Str)(b:Int):decide ((Sum.inr a:Ho)=Sum.inl b)=false:=IL (λq=>nomatch q)
def a9(prog:Program)(w:World):PySem.KeyKind prog w Ho where
 is:=pE
 hash:=keyH w
 inj:=λv a b ha hb=>by
  rcases a5 ha with⟨i,t,rfl,rfl⟩ | ⟨x,t,rfl,rfl⟩
  ·rcases a5 hb with⟨j,u,rfl,e⟩ | ⟨y,u,rfl,e⟩
   ·injection e with e1 _;rw[e1]
   ·exact nomatch e
  ·rcases a5 hb with⟨j,u,rfl,e⟩ | ⟨y,u,rfl,e⟩
   ·exact nomatch e
   ·injection e with e1 _;rw[e1]
 byValue:=λk v h=>by
  rcases a5 h with⟨i,t,rfl,rfl⟩ | ⟨x,t,rfl,rfl⟩<;>rfl
 pyHash:=λhv h=>by
  rcases a5 hv with⟨i,t,rfl,rfl⟩ | ⟨x,t,rfl,rfl⟩
  ·exact wpAny_pyHash_int h
  ·exact wpAny_pyHash_str h
 eqBool:=λhu hv h=>by
  rcases a5 hu with⟨i,t,rfl,rfl⟩ | ⟨x,t,rfl,rfl⟩
  ·rcases a5 hv with⟨j,u,rfl,rfl⟩ | ⟨y,u,rfl,rfl⟩
   ·rw[C6] at h;exact wpAny_eqBool_int h
   ·rw[Ei] at h;exact SeqAt.EqAt.int_str i t y u _ _ _ _ h
  ·rcases a5 hv with⟨j,u,rfl,rfl⟩ | ⟨y,u,rfl,rfl⟩
   ·rw[EY] at h;exact SeqAt.EqAt.str_int x t j u _ _ _ _ h
   ·rw[E3] at h;exact wpAny_eqBool_str h
 «strs»:=λk x t v h=>by
  rcases a5 h with⟨i,u,rfl,e⟩ | ⟨y,u,rfl,e⟩
  ·exact nomatch e
  ·injection e with e1 _
   subst e1
   cases v<;>rfl
theorem oq(prog:Program)(w:World)(i:Int)(t:Tok):(a9 prog w).is (.inl i) (.int i t)=true:=uG i t
theorem oB(prog:Program)(w:World)(x:Str)(t:Tok):(a9 prog w).is (.inr x) (.str x t)=true:=um x t
end L2
namespace L2
open PySem PySem.Spec PyProof.Rows
variable {a b:Addr} {h:Heap}
inductive V where
 | non | bl (b:Bool) | int (i:Int) | str (x:Str) | byt (b:Array UInt8) | flt (b:UInt64) | ref (a:Addr) | ty (n:String)
 deriving DecidableEq
abbrev Zf:=List V
def bE:V->Value->Prop
 | .non,u=>u=Value.none
 | .bl b,u=>u=Value.bool b
 | .int i,u=>∃t,u=Value.int i t
 | .str x,u=>∃t,u=Value.str x t
 | .byt b,u=>∃t,u=Value.bytes b t
 | .flt b,u=>∃t,u=Value.float b t
 | .ref a,u=>u=Value.ref a
 | .ty n,u=>u=Value.type n
abbrev bI:List V->List Value->Prop:=Paired bE
theorem bI.length{xs:Zf}{us:Zc}(r:bI xs us):xs.length=us.length:=Paired.length r
theorem bI.get:∀ {xs:Zf} {us:Zc} {i:Nat} {x:V},bI xs us->xs[i]?=some x->∃u,us[i]?=some u/\bE x u
 | _,_,_,_,.nil,e=>by simp at e
 | _,_,0,_,.cons r _,e=>by simp at e;subst e;exact⟨_,rfl,r⟩
 | _,_,i+1,x,.cons _ t,e=>by
  obtain⟨u,h1,h2⟩:=bI.get (i:=i) (x:=x) t (by simpa using e);exact⟨u,by simpa using h1,h2⟩
theorem bI.append:∀ {xs ys:Zf} {us ws:Zc},bI xs us->bI ys ws->bI (xs++ys) (us++ws)
 | _,_,_,_,.nil,s=>s
 | _,_,_,_,.cons r t,s=>.cons r (bI.append t s)
theorem bI.take:∀ {xs:Zf} {us:Zc} (n:Nat),bI xs us->bI (xs.take n) (us.take n)
 | _,_,0,_=>.nil
 | _,_,_+1,.nil=>.nil
 | _,_,n+1,.cons r t=>.cons r (bI.take n t)
theorem bI.drop:∀ {xs:Zf} {us:Zc} (n:Nat),bI xs us->bI (xs.drop n) (us.drop n)
 | _,_,0,r=>r
 | _,_,_+1,.nil=>.nil
 | _,_,n+1,.cons _ t=>bI.drop n t
def tL:Option V->Zd->Prop
 | some v,some u=>bE v u
 | none,none=>True
 | _,_=>False
def KV{κ:Type}:List (κ×V)->List (κ×Value)->Prop:=Paired λ(p:κ×V) (q:κ×Value)=>p.1=q.1/\bE p.2 q.2
def kV:Ho->V
 | .inl i=>.int i
 | .inr x=>.str x
inductive HO where
 | lst (xs:Zf)
 | tup (xs:Zf)
 | dK (kvs:List (Ho×V)) | dT (kvs:List (List Ho×V))
 | set (S:Int->Bool) (n:Nat)
 | ins (C dx:Addr) (fs:List (Str×V))
 | own (x:Addr)
 | xd (fs:List (Str×V))
 | met (f x:Addr)
 | rng (lo hi:Int)
 | frz (o:Obj) (u:HO)
 | tbl (ps:Array Value)
 | ext (φ:Heap->Prop)
abbrev Hp:=Addr->Option HO
def HL(H:Hp)(a:Addr)(o:HO):Hp:=λb=>if b=a then some o else H b
theorem aG{H:Hp}{o:HO}:HL H a o a=some o:=by unfold HL;rw[Ir rfl]
theorem aJ{H:Hp}{o:HO}(h:b≠a):HL H a o b=H b:=by unfold HL;rw[Io h]
theorem Gm{H:Hp}{o u:HO}(h:H a=some o)(h':H b=some u)(d:o≠u):a≠b:=by
 intro e;subst e;rw[h] at h';exact d (Iq h')
theorem cI{H:Hp}{o:HO}(h:H a=some o)(h':H b=none):a≠b:=by
 intro e;subst e;rw[h] at h';cases h'
section
variable (P:Program) (w:World)
def bQ(H:Hp)(h:Heap)(a:Addr):HO->Prop
 | .lst xs=>xs.length<=sizeLine/\∃(its:Zc) (n:Nat),bI xs its/\h.get? a=some { cls:=.type "list",data:=.seq its.toArray n }
 | .tup xs=>xs.length<=sizeLine/\∃its:Zc,bI xs its/\IsTup h a its.toArray
 | .dK kvs=>kvs.length<=sizeLine/\(a==sysModules)=false/\∃vs,KV kvs vs/\h.DictOf (a9 P w) a vs
 | .dT kvs=>kvs.length<=sizeLine/\(a==sysModules)=false/\∃xs:List (List Ho×Addr×Value),
   Paired (λ(p:List Ho×V) (q:List Ho×Addr×Value)=>p.1=q.1/\H q.2.1=some (.tup (p.1.map kV))/\bE p.2 q.2.2) kvs xs /\
   ∃o es ep,h.get? a=some o/\o.ExactDict/\o.data=.dict es ep/\es.toList=xs.map (entryOfKey (tupleKind (a9 P w)))/\(xs.map (·.1)).Nodup
 | .set S n=>h.SetOf (intKind P w) a S n
 | .ins C dx fs=>H dx=some (.own a)/\fs.length<=1000/\dx≠a/\h.get? a=some (PySem.W.instObj C dx) /\
   ∃mA,h.Ns1 dx mA/\(∀f,tL (fs.lookup f) (mA f))/\PySem.Within mA (fs.map (·.1))
 | .own _=>∃o,h.get? a=some o
 | .xd fs=>∃mA,h.Ns1 a mA/\∀f,tL (fs.lookup f) (mA f)
 | .rng lo hi=>∃t u v,h.get? a=some { cls:=.type "range",data:=.fields #[.int lo t,.int hi u,.int 1 v] }
 | .frz o u=>h.get? a=some o/\bQ H h a u
 | .tbl ps=>h.get? a=some { cls:=.none,data:=.fields ps }
 | .met f x=>h.get? a=some (PySem.W.methodObj (.ref f) (.ref x))
 | .ext φ=>φ h/\(∃o,h.get? a=some o)/\∀h1 h2:Heap,φ h1->(∀o,h1.get? a=some o->h2.get? a=some o)->φ h2
def HH(H:Hp)(h:Heap):Prop:=∀a o,H a=some o->bQ P w H h a o
end
section
variable {P:Program} {w:World} {H H':Hp} {h h':Heap} {a:Addr} {o:HO}
theorem bQ.lt(x:bQ P w H h a o):a<h.objs.size:=by
 cases o with
 | lst xs=>obtain⟨_,_,_,_,e⟩:=x;exact Iw e
 | tup xs=>obtain⟨_,_,_,p⟩:=x;exact p.lt
 | dK kvs=>obtain⟨_,_,_,_,o,_,_,e,_⟩:=x;exact Iw e
 | dT kvs=>obtain⟨_,_,_,_,o,_,_,e,_⟩:=x;exact Iw e
 | set S n=>obtain⟨o,_,_,_,e,_⟩:=x;exact Iw e
 | ins C dx fs=>obtain⟨_,_,_,e,_⟩:=x;exact Iw e
 | own y=>obtain⟨_,e⟩:=x;exact Iw e
 | xd fs=>obtain⟨_,⟨_,_,_,e,_⟩,_⟩:=x;exact Iw e
 | rng lo hi=>obtain⟨_,_,_,e⟩:=x;exact Iw e
 | frz ob u=>obtain⟨e,_⟩:=x;exact Iw e
 | tbl ps=>exact Iw (show h.get? a=some _ from x)
 | met f y=>exact Iw (show h.get? a=some _ from x)
 | ext φ=>obtain⟨_,⟨_,e⟩,_⟩:=x;exact Iw e
theorem Paired.mapP{α β:Type}{F G:α->β->Prop}:∀ {l₁:List α} {l₂:List β},Paired F l₁ l₂->(∀a b,F a b->G a b)->Paired G l₁ l₂
 | _,_,.nil,_=>.nil
 | _,_,.cons r t,f=>.cons (f _ _ r) (Paired.mapP t f)
theorem bQ.stay(x:bQ P w H h a o)(k:∀b u,(b=a\/H b=some (.own a))->h.get? b=some u->h'.get? b=some u)
  (ho:∀b,H b=some (.own a)->H' b=some (.own a)) (ht:∀b xs,H b=some (.tup xs)->H' b=some (.tup xs)):bQ P w H' h' a o:=by
 induction o with
 | lst xs=>obtain⟨z,aa,n,r,e⟩:=x;exact⟨z,aa,n,r,k _ _ (.inl rfl) e⟩
 | tup xs=>obtain⟨z,aa,r,ob,e,c⟩:=x;exact⟨z,aa,r,ob,k _ _ (.inl rfl) e,c⟩
 | dK kvs=>obtain⟨z,y,vs,r,ob,es,ep,e,c⟩:=x;exact⟨z,y,vs,r,ob,es,ep,k _ _ (.inl rfl) e,c⟩
 | dT kvs =>
  obtain⟨z,y,xs,r,ob,es,ep,e,c⟩:=x;exact⟨z,y,xs,Paired.mapP r λp q z=>⟨z.1,ht _ _ z.2.1,z.2.2⟩,ob,es,ep,k _ _ (.inl rfl) e,c⟩
 | set S n=>obtain⟨ob,es,ep,t,e,c⟩:=x;exact⟨ob,es,ep,t,k _ _ (.inl rfl) e,c⟩
 | ins C dx fs =>
  obtain⟨d,z,ne,e,mA,⟨od,es,ep,e2,c⟩,r⟩:=x;exact⟨ho _ d,z,ne,k _ _ (.inl rfl) e,mA,⟨od,es,ep,k _ _ (.inr d) e2,c⟩,r⟩
 | own y=>obtain⟨ob,e⟩:=x;exact⟨ob,k _ _ (.inl rfl) e⟩
 | xd fs=>obtain⟨mA,⟨od,es,ep,e,c⟩,r⟩:=x;exact⟨mA,⟨od,es,ep,k _ _ (.inl rfl) e,c⟩,r⟩
 | rng lo hi=>obtain⟨t,u,v,e⟩:=x;exact⟨t,u,v,k _ _ (.inl rfl) e⟩
 | frz ob u ih=>obtain⟨e,q⟩:=x;exact⟨k _ _ (.inl rfl) e,ih q⟩
 | tbl ps =>
  have e:h.get? a=some { cls:=.none,data:=.fields ps }:=x
  show h'.get? a=some { cls:=.none,data:=.fields ps }
  exact k a _ (.inl rfl) e
 | met f y =>
  have e:h.get? a=some (PySem.W.methodObj (.ref f) (.ref y)):=x
  show h'.get? a=some (PySem.W.methodObj (.ref f) (.ref y))
  exact k a _ (.inl rfl) e
 | ext φ=>obtain⟨p,⟨o,e⟩,st⟩:=x;exact⟨st _ _ p λo q=>k _ _ (.inl rfl) q,⟨o,k _ _ (.inl rfl) e⟩,st⟩
theorem HH.lt(x:HH P w H h)(e:H a=some o):a<h.objs.size:=(x a o e).lt
theorem HH.fresh(x:HH P w H h)(e:h.objs.size<=a):H a=none:=by
 cases q:H a with
 | none=>rfl
 | some u=>exact absurd (IM (x.lt q) e) (Je _)
theorem HH.kept(x:HH P w H h)(k:∀b u,h.get? b=some u->h'.get? b=some u):HH P w H h':=λa o e =>
 (x a o e).stay (λb u _ q=>k b u q) (λ_ q=>q) λ_ _ q=>q
theorem HH.laid(x:HH P w H h)(k:∀b u,h.get? b=some u->h'.get? b=some u)(hp:h.objs.size<=a)(new:bQ P w (HL H a o) h' a o):HH P w (HL H a o) h':=λb u e=>by
 have hn:=x.fresh hp
 by_cases hb:b=a
 ·subst hb;rw[aG] at e;cases e;exact new
 ·rw[aJ hb] at e;exact(x b u e).stay (λc v _ q=>k c v q) (λc q=>by rw[aJ (cI q hn)];exact q) λc xs q=>by rw[aJ (cI q hn)];exact q
end
def Rd(H:Hp)(a:Addr)(u:HO):Prop:=H a=some u\/∃o,H a=some (.frz o u)
theorem Rd.of{H:Hp}{u:HO}(h:H a=some u):Rd H a u:=.inl h
theorem Rd.ok{P:Program}{w:World}{H:Hp}{u:HO}(r:Rd H a u)(x:HH P w H h):bQ P w H h a u:=by
 rcases r with r | ⟨o,r⟩
 ·exact x a u r
 ·obtain⟨_,q⟩:=x a _ r;exact q
def Mut:Option HO->Prop
 | some (.lst _)=>True
 | some (.dK _)=>True
 | some (.dT _)=>True
 | some (.set _ _)=>True
 | some (.ins _ _ _)=>True
 | some (.ext _)=>True
 | _=>False
section
variable {P:Program} {w:World} {H:Hp} {h h':Heap} {x e:Addr} {o':HO}
theorem HH.write(ok:HH P w H h)(mu:Mut (H x))(he:e=x\/H e=some (.own x))(k:∀b u,b≠e->h.get? b=some u->h'.get? b=some u)(heo:∃u,h'.get? e=some u)
  (new:bQ P w (HL H x o') h' x o'):HH P w (HL H x o') h':=λb u q=>by
 have aa:∀c y,H c=some (.own y)->c≠x:=λc y r z=>by subst z;rw[r] at mu;exact mu
 have ab:∀c xs,H c=some (.tup xs)->c≠x:=λc xs r z=>by subst z;rw[r] at mu;exact mu
 by_cases hb:b=x
 ·subst hb;rw[aG] at q;cases q;exact new
 ·rw[aJ hb] at q
  by_cases hbe:b=e
  ·have q':H b=some (.own x):=by
    rcases he with z | z
    ·exact absurd (hbe.trans z) hb
    ·rw[hbe];exact z
   rw[q] at q';cases q';obtain⟨v,hv⟩:=heo;exact⟨v,by rw[hbe];exact hv⟩
  ·refine(ok b u q).stay (λc v hc r=>k c v ?_ r) (λc r=>by rw[aJ (aa c b r)];exact r) λc xs r=>by rw[aJ (ab c xs r)];exact r
   rcases hc with rfl | hc
   ·exact hbe
   ·rintro rfl
    rcases he with z | z
    ·exact aa c b hc z
    ·rw[hc] at z;cases z;exact hb rfl
end
structure Un(fs ex:List Addr)(H H':Hp)(h h':Heap):Prop where
 keep:∀b o,h.get? b=some o->H b=none->b∉fs->b∉ex->h'.get? b=some o
 slot:∀b o,h.get? b=some o->H b=none->b∈fs->b∉ex->∃sl,h'.get? b=some { o with slots:=sl }
 free:∀b o,h.get? b=some o->H b=none->b∉ex->H' b=none
 there:∀b o,h.get? b=some o->b∉ex->∃o',h'.get? b=some o'
 tups:∀b xs,H b=some (.tup xs)->H' b=some (.tup xs)
 frzs:∀b o u,H b=some (.frz o u)->H' b=some (.frz o u)
 tbls:∀b ps,H b=some (.tbl ps)->∃more,H' b=some (.tbl (ps++more))
section
variable {fs fs' ex ex':List Addr} {H H1 H2:Hp} {h h1 h2 h':Heap} {a x e:Addr} {o:HO}
theorem Un.any(u:Un fs ex H H1 h h1){ob:Obj}(q:h.get? b=some ob)(n:H b=none)(hx:b∉ex):∃sl,h1.get? b=some { ob with slots:=sl }:=by
 by_cases hb:b∈fs
 ·exact u.slot b ob q n hb hx
 ·exact⟨ob.slots,u.keep b ob q n hb hx⟩
theorem Un.trans(a:Un fs ex H H1 h h1)(b:Un fs ex H1 H2 h1 h2):Un fs ex H H2 h h2 where
 keep:=λc ob q n hc hx=>b.keep c ob (a.keep c ob q n hc hx) (a.free c ob q n hx) hc hx
 slot:=λc ob q n hc hx=>by
  obtain⟨sl,e1⟩:=a.slot c ob q n hc hx;obtain⟨aa,e2⟩:=b.slot c _ e1 (a.free c ob q n hx) hc hx;exact⟨aa,e2⟩
 free:=λc ob q n hx=>by
  obtain⟨o',e1⟩:=a.there c ob q hx;exact b.free c o' e1 (a.free c ob q n hx) hx
 there:=λc ob q hx=>by
  obtain⟨o',e1⟩:=a.there c ob q hx;exact b.there c o' e1 hx
 tups:=λc xs q=>b.tups c xs (a.tups c xs q)
 frzs:=λc ob xs q=>b.frzs c ob xs (a.frzs c ob xs q)
 tbls:=λc ps q=>by
  obtain⟨m1,e1⟩:=a.tbls c ps q;obtain⟨m2,e2⟩:=b.tbls c _ e1;exact⟨m1++m2,by rw[e2,Array.append_assoc]⟩
theorem Un.kept(k:∀b u,h.get? b=some u->h'.get? b=some u):Un fs ex H H h h' :=
 ⟨λb ob q _ _ _=>k b ob q,λb ob q _ _ _=>⟨ob.slots,k b ob q⟩,λ_ _ _ n _=>n,λb ob q _=>⟨ob,k b ob q⟩,λ_ _ q=>q,λ_ _ _ q=>q,λ_ ps q=>⟨#[],by rw[q];simp⟩⟩
theorem Un.refl:Un fs ex H H h h:=Un.kept λ_ _ q=>q
theorem Un.laid(k:∀b u,h.get? b=some u->h'.get? b=some u)(hp:h.objs.size<=a)(hn:H a=none):Un fs ex H (HL H a o) h h' where
 keep:=λb u q _ _ _=>k b u q
 slot:=λb u q _ _ _=>⟨u.slots,k b u q⟩
 free:=λb u q n _=>by rw[aJ (II (IM (Iw q) hp))];exact n
 there:=λb u q _=>⟨u,k b u q⟩
 tups:=λb xs q=>by rw[aJ (cI q hn)];exact q
 frzs:=λb u xs q=>by rw[aJ (cI q hn)];exact q
 tbls:=λb ps q=>⟨#[],by rw[aJ (cI q hn),q];simp⟩
theorem Un.write(mu:Mut (H x))(he:e=x\/H e=some (.own x))(k:∀b u,b≠e->h.get? b=some u->h'.get? b=some u)(heo:∃u,h'.get? e=some u):Un fs ex H (HL H x o) h h':=by
 have hx:∀b,H b=none->b≠x:=λb n z=>by subst z;rw[n] at mu;exact mu
 have hb:∀b,H b=none->b≠e:=λb n z=>by
  subst z
  rcases he with r | r
  ·exact hx b n r
  ·rw[n] at r;cases r
 have hm:∀b u,H b=some u->¬ Mut (some u)->b≠x:=λb u q nm z=>by subst z;rw[q] at mu;exact nm mu
 refine⟨λb u q n _ _=>k b u (hb b n) q,λb u q n _ _=>⟨u.slots,k b u (hb b n) q⟩,λb u q n _=>by rw[aJ (hx b n)];exact n,λb u q _=>?_,
  λb xs q=>by rw[aJ (hm b _ q λz=>z)];exact q,λb u xs q=>by rw[aJ (hm b _ q λz=>z)];exact q,λb ps q=>⟨#[],by rw[aJ (hm b _ q λz=>z),q];simp⟩⟩
 by_cases hbe:b=e
 ·subst hbe;exact heo
 ·exact⟨u,k b u hbe q⟩
theorem Un.mono(u:Un fs ex H H1 h h1)(hs:∀b∈fs,b∈fs')(hx:∀b∈ex,b∈ex'):Un fs' ex' H H1 h h1 :=
 ⟨λb ob q n hb he=>u.keep b ob q n (λz=>hb (hs b z)) λz=>he (hx b z),λ_ _ q n _ he=>u.any q n λz=>he (hx _ z),λb ob q n he=>u.free b ob q n λz=>he (hx b z),λb ob q he=>u.there b ob q λz=>he (hx b z),u.tups,u.frzs,u.tbls⟩
end
def trk(h:Heap)(H:Hp):List Addr:=(List.range h.objs.size).filter λa=>(H a).isSome
def xz(h:Heap)(H:Hp):Heap:=PySem.W.hideAll h (trk h H)
theorem u9(h:Heap)(H:Hp):(xz h H).objs.size=h.objs.size:=PySem.W.hideAll_size _ _
theorem xW{H:Hp}{o:Obj}(e:h.get? b=some o)(n:H b=none):(xz h H).get? b=some o :=
 PySem.W.hideAll_get _ e λhm=>by
  have q:(H b).isSome=true:=(Ia.mp hm).2
  rw[n] at q;simp at q
theorem AR{H:Hp}{o:Obj}(e:(xz h H).get? b=some o):h.get? b=some o/\H b=none:=by
 have e':h.get? b=some o:=PySem.W.of_hideAll (trk h H) e
 refine⟨e',?_⟩
 cases q:H b with
 | none=>rfl
 | some x =>
  have hm:b∈trk h H:=Ia.mpr ⟨Jk.mpr (Iw e'),by simp[q]⟩
  have z:(xz h H).get? b=none:=PySem.W.hideAll_none (trk h H) hm
  rw[z] at e;cases e
def AB(g h:Heap)(L:Addr):List (Addr×Obj):=(List.range h.objs.size).filterMap λa=>if a=L\/(g.get? a).isSome=true then none else (h.get? a).map λo=>(a,o)
def dA(g h:Heap)(L d:Addr):List (Addr×Obj):=(AB g h L).filter λp=>decide (p.1≠d)
end L2
namespace L2
open PySem PySem.Spec PyProof.Rows
variable {t' i:Nat} {ch:List Addr} {x:Str} {M:Model} {A:Around} {E:Value→Shared→Prop}
structure Mod(K:PySem.W.Frag)(mg:Str->Zd)(base:Heap):Prop where
 kin:K.In base
 glob:base.Ns mainGlobals mg
 blt:∃mb,base.Ns builtinsNs mb/\∀x:Str,x≠"__name__"->mb x=bootBuiltins x
 nolimit:base.NoLimit
structure Cx where
 prog:Program
 w:World
 K:PySem.W.Frag
 mg:Str->Zd
 base:Heap
 A:Around
 N:Zb
 s₀:Shared
 H₀:Hp
 env:Env
 outer:List Env
 stack:List Env
 ex:List Addr
 fn:Str->Bool
 calm:Bool
 pn:List (Addr×Obj)
 xe:Value->Shared->Prop
def frs(l:List Env):List Addr:=l.filterMap (·.frame)
abbrev Cx.fs(X:Cx):List Addr:=frs X.outer
def Vis(sc:Scope)(x:Str):Prop:=sc.names.lookup x=some .local\/sc.names.lookup x=some .cell\/sc.names.lookup x=some .free
def Loc(sc:Scope)(x:Str):Prop:=sc.names.lookup x=some .local\/sc.names.lookup x=some .cell
def Look(env:Env)(h:Heap)(m:Str->Zd)(x:Str)(u:Value):Prop :=
 (env.kindOf x=some .local/\m x=some u)\/((env.kindOf x=some .cell\/env.kindOf x=some .free)/\∃c,env.cells.lookup x=some c/\h.IsCell c (some u))
structure Cx.Ok(X:Cx):Prop where
 mod:Mod X.K X.mg X.base
 kind:X.env.scope.kind=.function
 glob:X.env.globals=mainGlobals
 blt:X.env.builtins=builtinsNs
 above:X.s₀.heap.objs.size<=X.env.locals
 inj:∀x y c,X.env.cells.lookup x=some c->X.env.cells.lookup y=some c->x=y
 has:∀x,(X.env.kindOf x=some .cell\/X.env.kindOf x=some .free)->∃c,X.env.cells.lookup x=some c
 cab:∀x c,X.fn x=true->X.env.cells.lookup x=some c->X.s₀.heap.objs.size<=c
 hd:X.calm=true->X.A.handled=none
 frames:X.A.frames=some X.stack
 stk:X.stack=X.outer\/(X.stack=X.env::X.outer/\X.env.frame=some X.env.locals)
 exf:∀b∈X.ex,b≠X.env.locals/\∀x c,X.env.cells.lookup x=some c->c≠b
 bs:∀b o,X.base.get? b=some o->X.s₀.heap.get? b=some o/\X.H₀ b=none
 bsz:X.base.objs.size<=X.s₀.heap.objs.size
 noex:∀b o,X.base.get? b=some o->b∉X.ex
 exfs:∀b∈X.ex,b∉X.fs
 funs:X.s₀.heap.FunFrames X.base X.outer
 frf:∀b∈X.fs,X.H₀ b=none
structure Inv(X:Cx)(pins:List (Addr×Obj))(σ:List (Option V))(H:Hp)(s:Shared):Prop where
 ok:X.Ok
 os:s.os=X.s₀.os
 bare:AllBare s.gens
 base:Un X.fs X.ex X.H₀ H X.s₀.heap s.heap
 loc:∃m,s.heap.Ns X.env.locals m/\∀(i:Nat) (x:Str) (v:V),X.N[i]?=some x->σ[i]?=some (some v)->Vis X.env.scope x->∃u,bE v u/\Look X.env s.heap m x u
 cell:∀x c,X.env.cells.lookup x=some c->∃v,s.heap.IsCell c v
 free:H X.env.locals=none
 freeC:∀x c,X.env.cells.lookup x=some c->H c=none
 pin:∀p∈X.pn++pins,s.heap.get? p.1=some p.2/\H p.1=none/\p.1≠X.env.locals/\p.1∉X.fs/\∀v,p.2.data≠.cell v
 hok:HH X.prog X.w H s.heap
 len:σ.length=X.N.length
section
variable {X:Cx} {pins:List (Addr×Obj)} {σ:List (Option V)} {H H':Hp} {s:Shared} {h':Heap}
theorem Cx.Ok.nofr(ok:X.Ok){b:Addr}{o:Obj}(e:X.base.get? b=some o):b∉X.fs:=λhb=>by
 have:=(ok.funs.mem hb).1
 rw[e] at this;cases this
theorem Inv.bs(I:Inv X pins σ H s):∀b o,X.base.get? b=some o->s.heap.get? b=some o/\H b=none:=λb o e =>
 ⟨I.base.keep b o (I.ok.bs b o e).1 (I.ok.bs b o e).2 (I.ok.nofr e) (I.ok.noex b o e),I.base.free b o (I.ok.bs b o e).1 (I.ok.bs b o e).2 (I.ok.noex b o e)⟩
theorem Inv.bk(I:Inv X pins σ H s):∀b o,X.base.get? b=some o->s.heap.get? b=some o:=λb o e=>(I.bs b o e).1
theorem Inv.mod(I:Inv X pins σ H s):Mod X.K X.mg X.base:=I.ok.mod
theorem Inv.kIn(I:Inv X pins σ H s):X.K.In s.heap:=I.ok.mod.kin.keeps I.bk
theorem Inv.lt(I:Inv X pins σ H s):X.env.locals<s.heap.objs.size:=let ⟨_,hn,_⟩:=I.loc;hn.lt
theorem Inv.sz(I:Inv X pins σ H s):X.s₀.heap.objs.size<=s.heap.objs.size:=HX I.ok.above (JG I.lt)
theorem Inv.nofs(I:Inv X pins σ H s){a:Addr}(h:s.heap.objs.size<=a):a∉X.fs:=λhb=>by
 obtain⟨_,o,ho,_⟩:=I.ok.funs.mem hb;exact absurd (IM (Iw ho) (HX I.sz h)) (Je _)
theorem Inv.cne(I:Inv X pins σ H s):∀x c,X.env.cells.lookup x=some c->c≠X.env.locals:=λx c e z=>by
 obtain⟨v,o,ho,hd⟩:=I.cell x c e;obtain⟨m,⟨o',es,ep,aa,ab,_⟩,_⟩:=I.loc;rw[z,aa] at ho;cases ho;rw[ab] at hd;cases hd
theorem Inv.funs(I:Inv X pins σ H s):s.heap.FunFrames X.base X.outer:=by
 have all:∀(l:List Env),(∀b∈frs l,b∈X.fs)->X.s₀.heap.FunFrames X.base l->s.heap.FunFrames X.base l:=by
  intro l
  induction l with
  | nil=>intro _ _;trivial
  | cons env r ih =>
   intro hs hl;obtain⟨hk,⟨L,o,hf,hn,ho,hd⟩,hr⟩:=hl;have hL:L∈X.fs:=hs L (by unfold frs;rw[IY,hf];exact HY);obtain⟨sl,e⟩:=I.base.slot L o ho (I.ok.frf L hL) hL λz=>I.ok.exfs L z hL;exact⟨hk,⟨L,_,hf,hn,e,hd⟩,ih (λb hb=>hs b (by unfold frs;rw[IY,hf];exact HV _ hb)) hr⟩
 exact all X.outer (λ_ hb=>hb) I.ok.funs
theorem Inv.stack(I:Inv X pins σ H s):s.heap.FunFrames X.base X.stack:=by
 rcases I.ok.stk with e | ⟨e,hf⟩
 ·rw[e];exact I.funs
 ·rw[e];obtain⟨m,hn,_⟩:=I.loc;refine .cons (by rw[I.ok.kind];decide) hf hn ?_ I.funs;exact Heap.get?_none_of_le (HX I.ok.bsz I.ok.above)
theorem Inv.stkSub(I:Inv X pins σ H s):∀b∈frs X.stack,b∈X.env.locals::X.fs:=λb hb=>by
 rcases I.ok.stk with e | ⟨e,hf⟩
 ·rw[e] at hb;exact HV _ hb
 ·rw[e] at hb;unfold frs at hb;rw[IY,hf] at hb;exact hb
theorem Inv.stkFree(I:Inv X pins σ H s):∀b∈frs X.stack,H b=none:=λb hb=>by
 rcases Ih.mp (I.stkSub b hb) with e | hb
 ·rw[e];exact I.free
 ·obtain⟨_,o,ho,_⟩:=I.ok.funs.mem hb;exact I.base.free b o ho (I.ok.frf b hb) λz=>I.ok.exfs b z hb
theorem Inv.step{g':Array GenState}{d':Drawn}(I:Inv X pins σ H s)
  (hch:∀b∈ch,(b∈X.ex\/X.s₀.heap.objs.size<=b)/\b≠X.env.locals/\(∀x c,X.env.cells.lookup x=some c->c≠b)/\∀p∈X.pn++pins,p.1≠b)
  (keep:∀b o,b≠X.env.locals->b∉X.fs->b∉ch->s.heap.get? b=some o->H b=none->h'.get? b=some o)
  (slot:∀b o,b≠X.env.locals->b∈X.fs->b∉ch->s.heap.get? b=some o->H b=none->∃sl,h'.get? b=some { o with slots:=sl }) (free:∀b o,b∉ch->s.heap.get? b=some o->H b=none->H' b=none)
  (there:∀b o,b∉ch->s.heap.get? b=some o->∃o',h'.get? b=some o')
  (tups:∀b xs,H b=some (.tup xs)->H' b=some (.tup xs)) (frzs:∀b o u,H b=some (.frz o u)->H' b=some (.frz o u)) (tbls:∀b ps,H b=some (.tbl ps)->∃more,H' b=some (.tbl (ps++more)))
  (ns:∀m,s.heap.Ns X.env.locals m->h'.Ns X.env.locals m) (hok:HH X.prog X.w H' h') (hg:AllBare g') :
  Inv X pins σ H' { s with heap:=h',gens:=g',drawn:=d',toks:=t' }:=by
 have ah:∀b o,X.s₀.heap.get? b=some o->b≠X.env.locals:=λb o e=>II (IM (Iw e) I.ok.above)
 have ab:∀b o,X.s₀.heap.get? b=some o->b∉X.ex->b∉ch:=λb o e hx hb=>by
  rcases(hch b hb).1 with z | z
  ·exact hx z
  ·exact absurd (IM (Iw e) z) (Je _)
 have ag:∀x c,X.env.cells.lookup x=some c->∀v,s.heap.IsCell c v->h'.IsCell c v:=λx c e v ⟨o,ho,hd⟩=>by
  have aa:c∉ch:=λz=>(hch c z).2.2.1 x c e rfl
  by_cases hc:c∈X.fs
  ·obtain⟨sl,q⟩:=slot c o (I.cne x c e) hc aa ho (I.freeC x c e);exact⟨_,q,hd⟩
  ·exact⟨o,keep c o (I.cne x c e) hc aa ho (I.freeC x c e),hd⟩
 refine⟨I.ok,I.os,hg,⟨λb o e n hb hx=>?_,λb o e n hb hx=>?_,λb o e n hx=>?_,λb o e hx=>?_,λb xs e=>tups b xs (I.base.tups b xs e),λb o xs e=>frzs b o xs (I.base.frzs b o xs e),λb ps e=>?_⟩,?_,λx c e=>?_,?_,λx c e=>?_,λp hp=>?_,hok,I.len⟩
 ·exact keep b o (ah b o e) hb (ab b o e hx) (I.base.keep b o e n hb hx) (I.base.free b o e n hx)
 ·obtain⟨sl,e1⟩:=I.base.slot b o e n hb hx;obtain⟨ai,e2⟩:=slot b _ (ah b o e) hb (ab b o e hx) e1 (I.base.free b o e n hx);exact⟨ai,e2⟩
 ·obtain⟨o',e1⟩:=I.base.there b o e hx;exact free b o' (ab b o e hx) e1 (I.base.free b o e n hx)
 ·obtain⟨o',e1⟩:=I.base.there b o e hx;exact there b o' (ab b o e hx) e1
 ·obtain⟨m1,e1⟩:=I.base.tbls b ps e;obtain⟨m2,e2⟩:=tbls b _ e1;exact⟨m1++m2,by rw[e2,Array.append_assoc]⟩
 ·obtain⟨m,hn,hl⟩:=I.loc;refine⟨m,ns m hn,λi x v e1 e2 e3=>?_⟩;obtain⟨u,r,l⟩:=hl i x v e1 e2 e3;refine⟨u,r,?_⟩
  rcases l with l | ⟨k,c,e,z⟩
  ·exact .inl l
  ·exact .inr ⟨k,c,e,ag x c e _ z⟩
 ·obtain⟨v,z⟩:=I.cell x c e;exact⟨v,ag x c e v z⟩
 ·obtain⟨m,⟨o,_,_,ho,_⟩,_⟩:=I.loc;exact free _ o (λz=>(hch _ z).2.1 rfl) ho I.free
 ·obtain⟨v,o,ho,hd⟩:=I.cell x c e;exact free c o (λz=>(hch c z).2.2.1 x c e rfl) ho (I.freeC x c e)
 ·obtain⟨e,n,ne,nf,d⟩:=I.pin p hp;have aa:p.1∉ch:=λz=>(hch p.1 z).2.2.2 p hp rfl;exact⟨keep p.1 p.2 ne nf aa e n,free p.1 p.2 aa e n,ne,nf,d⟩
theorem Inv.un(I:Inv X pins σ H s)(u:Un X.fs [] H H' s.heap h')(hok:HH X.prog X.w H' h'):Inv X pins σ H' { s with heap:=h',toks:=t' }:=by
 obtain⟨m,⟨o,es,ep,ho,r⟩,_⟩:=id I.loc;obtain⟨sl,hL⟩:=u.any ho I.free 'p'
 exact I.step (g':=s.gens) (d':=s.drawn) (ch:=[]) (λ_ z=>nomatch z) (λb o _ hb _ e n=>u.keep b o e n hb 'p') (λb o _ hb _ e n=>u.slot b o e n hb 'p') (λb o _ e n=>u.free b o e n 'p') (λb o _ e=>u.there b o e 'p') u.tups u.frzs u.tbls (λm' hm=>by
  obtain⟨o',ab,ag,aa,r'⟩:=hm;rw[ho] at aa;cases aa
  exact⟨_,ab,ag,hL,r'⟩) hok I.bare
theorem Inv.call{g':Array GenState}{d':Drawn}(I:Inv X pins σ H s)(u:Un (frs X.stack) ch H H' s.heap h')(hok:HH X.prog X.w H' h')(hg:AllBare g')
  (hch:∀b∈ch,(b∈X.ex\/X.s₀.heap.objs.size<=b)/\b≠X.env.locals/\(∀x c,X.env.cells.lookup x=some c->c≠b)/\∀p∈X.pn++pins,p.1≠b) :
  Inv X pins σ H' { s with heap:=h',gens:=g',drawn:=d',toks:=t' }:=by
 obtain⟨m,⟨o,es,ep,ho,r⟩,_⟩:=id I.loc;obtain⟨sl,hL⟩:=u.any ho I.free λz=>(hch _ z).2.1 rfl
 exact I.step (ch:=ch) hch (λb o hL hb hc e n=>u.keep b o e n (λz=>(Ih.mp (I.stkSub b z)).elim hL hb) hc) (λb o _ _ hc e n=>u.any e n hc) (λb o hc e n=>u.free b o e n hc) (λb o hc e=>u.there b o e hc) u.tups u.frzs u.tbls (λm' hm=>by
  obtain⟨o',ab,ag,aa,r'⟩:=hm;rw[ho] at aa;cases aa
  exact⟨_,ab,ag,hL,r'⟩) hok hg
theorem Inv.turned{it:Addr}(I:Inv X pins σ H s)(k:∀b o,b≠it->s.heap.get? b=some o->h'.get? b=some o)(hn:H it=none)(hL:it≠X.env.locals)
  (h1:it∈X.ex\/X.s₀.heap.objs.size<=it) (h2:∀x c,X.env.cells.lookup x=some c->c≠it) (h3:∀p∈X.pn++pins,p.1≠it):Inv X pins σ H { s with heap:=h',toks:=t' }:=by
 have aa:∀b u,H b=some u->b≠it:=λb u e z=>by rw[z,hn] at e;cases e
 refine I.step (g':=s.gens) (d':=s.drawn) (ch:=[it]) (λb hb=>?_) (λb o _ _ hc e _=>k b o (λz=>hc (by simp[z])) e) (λb o _ _ hc e _=>⟨o.slots,k b o (λz=>hc (by simp[z])) e⟩) (λ_ _ _ _ n=>n)
  (λb o hc e=>⟨o,k b o (λz=>hc (by simp[z])) e⟩) (λ_ _ e=>e) (λ_ _ _ e=>e) (λb ps e=>⟨#[],by rw[e];simp⟩) (λm hm=>?_) (λb u e=>?_) I.bare
 ·have e:b=it:=by simpa using hb
  subst e;exact⟨h1,hL,h2,h3⟩
 ·obtain⟨o,es,ep,ho,r⟩:=hm;exact⟨o,es,ep,k _ o (Kz hL) ho,r⟩
 ·refine(I.hok b u e).stay (λc v hc q=>k c v ?_ q) (λ_ q=>q) λ_ _ q=>q
  rcases hc with z | z
  ·rw[z];exact aa b u e
  ·exact aa c _ z
theorem Inv.tok(I:Inv X pins σ H s)(t:Nat):Inv X pins σ H { s with toks:=t }:=I.un (h':=s.heap) (t':=t) Un.refl I.hok
theorem Inv.kept(I:Inv X pins σ H s)(k:∀b u,s.heap.get? b=some u->h'.get? b=some u):Inv X pins σ H { s with heap:=h',toks:=t' }:=I.un (Un.kept k) (I.hok.kept k)
theorem Inv.laid{a:Addr}{o:HO}(I:Inv X pins σ H s)(k:∀b u,s.heap.get? b=some u->h'.get? b=some u)(hp:s.heap.objs.size<=a)(new:bQ X.prog X.w (HL H a o) h' a o) :
  Inv X pins σ (HL H a o) { s with heap:=h',toks:=t' }:=I.un (Un.laid k hp (I.hok.fresh hp)) (I.hok.laid k hp new)
theorem Inv.write{x e:Addr}{o:HO}(I:Inv X pins σ H s)(mu:Mut (H x))(he:e=x\/H e=some (.own x))(k:∀b u,b≠e->s.heap.get? b=some u->h'.get? b=some u)(heo:∃u,h'.get? e=some u)
  (new:bQ X.prog X.w (HL H x o) h' x o):Inv X pins σ (HL H x o) { s with heap:=h',toks:=t' }:=I.un (Un.write mu he k heo) (I.hok.write mu he k heo new)
theorem Inv.pins_of{pins':List (Addr×Obj)}(I:Inv X pins σ H s)(h:∀p∈pins',s.heap.get? p.1=some p.2/\H p.1=none/\p.1≠X.env.locals/\p.1∉X.fs/\∀v,p.2.data≠.cell v):Inv X pins' σ H s :=
 ⟨I.ok,I.os,I.bare,I.base,I.loc,I.cell,I.free,I.freeC,λp hp=>(Ip.mp hp).elim (λz=>I.pin p (Il _ z)) (h p),I.hok,I.len⟩
theorem sG{N:Zb}(hN:N.Nodup){j:Nat}(a:N[i]?=some x)(b:N[j]?=some x):i=j:=by
 obtain⟨h1,e1⟩:=List.getElem?_eq_some_iff.mp a;obtain⟨h2,e2⟩:=List.getElem?_eq_some_iff.mp b;exact(List.getElem_inj hN).mp (e1.trans e2.symm)
theorem nZ{v:V}{u:Value}{Q:Unit->Shared->Prop}(I:Inv X pins σ H s)(hN:X.N.Nodup)(hi:X.N[i]?=some x)(hx:Loc X.env.scope x)(r:bE v u)
  (h:∀s',Inv X pins (σ.set i (some v)) H s'->(∃a,Heap.SameBut a s.heap s'.heap/\(a=X.env.locals\/X.env.cells.lookup x=some a))->Q () s') (hf:X.fn x=true\/X.env.scope.names.lookup x=some .local :=by walk_at "v1"):wpAny M A (storeName X.env x u) Q E s:=by
 obtain⟨m,hn,hl⟩:=id I.loc;have aj:(X.env.scope.kind == .class||(X.env.scope.kind == .module&&X.env.locals != X.env.globals))=false:=by rw[I.ok.kind];rfl
 have ai:i<σ.length:=by rw[I.len];exact(List.getElem?_eq_some_iff.mp hi).1
 have cne:=I.cne
 have aa:∀ {a:Addr} {h':Heap},(∃o,s.heap.get? a=some o/\H a=none)->Heap.SameBut a s.heap h'->HH X.prog X.w H h':=λ{a h'} ha hs b ob e=>by
  obtain⟨_,_,ab⟩:=ha;refine(I.hok b ob e).stay (λc w' hc q=>(hs.2 c ?_).trans q) (λ_ q=>q) λ_ _ q=>q;rintro rfl
  rcases hc with rfl | hc
  ·rw[ab] at e;cases e
  ·rw[ab] at hc;cases hc
 rcases hx with hk | hk
 ·refine wpAny_storeName_local hk hn (λh' hn' hs=>?_) aj;obtain⟨oL,_,_,an,_⟩:=id hn;refine h _ ⟨I.ok,I.os,I.bare,⟨λb o e n hb hx=>?_,λb o e n hb hx=>?_,I.base.free,λb o e hx=>?_,I.base.tups,I.base.frzs,I.base.tbls⟩,⟨_,hn',λj y v' e1 e2 e3=>?_⟩,λy c e=>?_,I.free,I.freeC,λp hp=>?_,aa ⟨oL,an,I.free⟩ hs,by simpa using I.len⟩ ⟨_,hs,.inl rfl⟩
  ·exact(hs.2 b (II (IM (Iw e) I.ok.above))).trans (I.base.keep b o e n hb hx)
  ·obtain⟨sl,e1⟩:=I.base.slot b o e n hb hx;exact⟨sl,(hs.2 b (II (IM (Iw e) I.ok.above))).trans e1⟩
  ·obtain⟨o',e1⟩:=I.base.there b o e hx;exact⟨o',(hs.2 b (II (IM (Iw e) I.ok.above))).trans e1⟩
  ·by_cases hj:j=i
   ·subst hj;rw[hi] at e1;cases e1;rw[List.getElem?_set_self ai] at e2
    cases e2
    exact⟨u,r,.inl ⟨hk,by simp⟩⟩
   ·rw[List.getElem?_set_ne (Kz hj)] at e2;obtain⟨u',r',q⟩:=hl j y v' e1 e2 e3;refine⟨u',r',?_⟩
    rcases q with⟨k,e⟩ | ⟨k,c,e,z⟩
    ·refine .inl ⟨k,?_⟩;have:y≠x:=λe=>hj (sG hN e1 (e ▸ hi));simp[this,e]
    ·exact .inr ⟨k,c,e,z.sameBut hs (cne y c e)⟩
  ·obtain⟨w',z⟩:=I.cell y c e;exact⟨w',z.sameBut hs (cne y c e)⟩
  ·obtain⟨e,n,ne,nf,d⟩:=I.pin p hp;exact⟨(hs.2 p.1 ne).trans e,n,ne,nf,d⟩
 ·have ag:X.fn x=true:=by
   rcases hf with z | z
   ·exact z
   ·rw[z] at hk;cases hk
  obtain⟨c,hc⟩:=I.ok.has x (.inl hk);obtain⟨w',z⟩:=I.cell x c hc;refine wpAny_storeName_cell I.ok.kind hk hc z (λh' hc' hs=>?_);obtain⟨oc,ah,al⟩:=id z;refine h { s with heap:=h' } ⟨I.ok,I.os,I.bare,⟨λb o e n hb hx=>?_,λb o e n hb hx=>?_,I.base.free,λb o e hx=>?_,I.base.tups,I.base.frzs,I.base.tbls⟩,⟨m,hn.sameBut hs (Kz (cne x c hc)),λj y v' e1 e2 e3=>?_⟩,λy c' e=>?_,I.free,I.freeC,λp hp=>?_,aa ⟨oc,ah,I.freeC x c hc⟩ hs,by simpa using I.len⟩ ⟨c,hs,.inr hc⟩
  ·exact(hs.2 b (II (IM (Iw e) (I.ok.cab x c ag hc)))).trans (I.base.keep b o e n hb hx)
  ·obtain⟨sl,e1⟩:=I.base.slot b o e n hb hx;exact⟨sl,(hs.2 b (II (IM (Iw e) (I.ok.cab x c ag hc)))).trans e1⟩
  ·obtain⟨o',e1⟩:=I.base.there b o e hx;exact⟨o',(hs.2 b (II (IM (Iw e) (I.ok.cab x c ag hc)))).trans e1⟩
  ·by_cases hj:j=i
   ·subst hj;rw[hi] at e1;cases e1;rw[List.getElem?_set_self ai] at e2
    cases e2
    exact⟨u,r,.inr ⟨.inl hk,c,hc,hc'⟩⟩
   ·rw[List.getElem?_set_ne (Kz hj)] at e2;obtain⟨u',r',q⟩:=hl j y v' e1 e2 e3;refine⟨u',r',?_⟩
    rcases q with q | ⟨k,c',e,z'⟩
    ·exact .inl q
    ·refine .inr ⟨k,c',e,z'.sameBut hs ?_⟩;rintro rfl;exact hj (sG hN e1 (I.ok.inj _ _ _ e hc ▸ hi))
  ·by_cases hcc:c'=c
   ·subst hcc;exact⟨_,hc'⟩
   ·obtain⟨w2,z2⟩:=I.cell y c' e;exact⟨w2,z2.sameBut hs hcc⟩
  ·obtain⟨e,n,ne,nf,d⟩:=I.pin p hp;refine⟨(hs.2 p.1 ?_).trans e,n,ne,nf,d⟩;intro q;rw[q,ah] at e;have q':oc=p.2:=Iq e;exact d w' (by rw[<- q'];exact al)
theorem iV{v:V}{u:Value}{Q:Unit->Shared->Prop}(I:Inv X pins σ H s)(hN:X.N.Nodup)(hi:X.N[i]?=some x)(hx:Loc X.env.scope x)(r:bE v u)
  (h:∀s',Inv X pins (σ.set i (some v)) H s'->Q () s') (hf:X.fn x=true\/X.env.scope.names.lookup x=some .local :=by walk_at "v1"):wpAny M A (storeName X.env x u) Q E s :=
 nZ I hN hi hx r (λs' I' _=>h s' I') hf
theorem Inv.call'{s':Shared}(I:Inv X pins σ H s)(ho:s'.os=s.os)(u:Un (frs X.stack) ch H H' s.heap s'.heap)(hok:HH X.prog X.w H' s'.heap)(hg:AllBare s'.gens)
  (hch:∀b∈ch,(b∈X.ex\/X.s₀.heap.objs.size<=b)/\b≠X.env.locals/\(∀x c,X.env.cells.lookup x=some c->c≠b)/\∀p∈X.pn++pins,p.1≠b):Inv X pins σ H' s':=by
 obtain⟨h',g',d',t',o'⟩:=s';have e:o'=s.os:=ho;subst e;exact I.call (g':=g') (t':=t') (d':=d') u hok hg hch
end
abbrev XK:=Value->Option Addr->Hp->Prop
abbrev St:=List (Option V)
abbrev VK:=V->Hp->Prop
abbrev TE:=St->Hp->VK->Prop
abbrev TT:=St->Hp->(Bool->Hp->Prop)->Prop
abbrev TA:=St->Hp->(List V->Hp->Prop)->Prop
structure Az where
 nx:St->Hp->Prop
 rt:VK
 bk:St->Hp->Prop:=λ_ _=>False
 ct:St->Hp->Prop:=λ_ _=>False
abbrev TS:=Az->St->Hp->Prop
def EP(X:Cx)(pins:List (Addr×Obj))(σ:St)(Q:VK)(u:Value)(s':Shared):Prop:=∃v H',Inv X pins σ H' s'/\bE v u/\Q v H'
def TP(X:Cx)(pins:List (Addr×Obj))(σ:St)(Q:Bool->Hp->Prop)(b:Bool)(s':Shared):Prop:=∃H',Inv X pins σ H' s'/\Q b H'
def AP(X:Cx)(pins:List (Addr×Obj))(σ:St)(Q:Zf->Hp->Prop)(us:Zc)(s':Shared):Prop:=∃vs H',Inv X pins σ H' s'/\bI vs us/\Q vs H'
def SP(X:Cx)(pins:List (Addr×Obj))(D:Az)(f:Flow)(s':Shared):Prop :=
 match f with
 | .next=>∃σ' H',Inv X pins σ' H' s'/\D.nx σ' H'
 | .brk=>∃σ' H',Inv X pins σ' H' s'/\D.bk σ' H'
 | .cont=>∃σ' H',Inv X pins σ' H' s'/\D.ct σ' H'
 | .ret u=>∃v σ' H',Inv X pins σ' H' s'/\bE v u/\D.rt v H'
def PE(X:Cx)(e:Expr)(t:TE):Prop :=
 ∀(pins:List (Addr×Obj)) (s:Shared) (σ:St) (H:Hp) (Q:VK),Inv X pins σ H s->t σ H Q->wpAny 'k' X.A (eval e X.env) (EP X pins σ Q) X.xe s
def PT(X:Cx)(e:Expr)(t:TT):Prop :=
 ∀(pins:List (Addr×Obj)) (s:Shared) (σ:St) (H:Hp) (Q:Bool->Hp->Prop),Inv X pins σ H s->t σ H Q->wpAny 'k' X.A (isTrue e X.env (eval e X.env)) (TP X pins σ Q) X.xe s
def PW(X:Cx)(e:Expr)(t:TT):Prop :=
 ∀(whole:Sem Value) (pins:List (Addr×Obj)) (s:Shared) (σ:St) (H:Hp) (Q:Bool->Hp->Prop),Inv X pins σ H s->t σ H Q->wpAny 'k' X.A (isTrue e X.env whole) (TP X pins σ Q) X.xe s
theorem PW.pt{X:Cx}{e:Expr}{t:TT}(h:PW X e t):PT X e t:=h _
def PA(X:Cx)(es:List Expr)(t:TA):Prop :=
 ∀(pos:Pos) (pins:List (Addr×Obj)) (s:Shared) (σ:St) (H:Hp) (Q:Zf->Hp->Prop),Inv X pins σ H s->t σ H Q->wpAny 'k' X.A (spliced (backTo pos (starEach es X.env))) (AP X pins σ Q) X.xe s
def PS(X:Cx)(st:Stmt)(t:TS):Prop :=
 ∀(pins:List (Addr×Obj)) (s:Shared) (σ:St) (H:Hp) (D:Az),Inv X pins σ H s->t D σ H->wpAny 'k' X.A (exec st X.env) (SP X pins D) X.xe s
def PSs(X:Cx)(st:List Stmt)(t:TS):Prop :=
 ∀(pins:List (Addr×Obj)) (s:Shared) (σ:St) (H:Hp) (D:Az),Inv X pins σ H s->t D σ H->wpAny 'k' X.A (execs st X.env) (SP X pins D) X.xe s
theorem Hm{α:Type}{t:Sem α}{Q Q':α->Shared->Prop}{s:Shared}(h:wpAny M A t Q E s)(hQ:∀a s,Q a s->Q' a s):wpAny M A t Q' E s:=JA h hQ λ_ _ x=>x
end L2
namespace L2
open PySem PySem.Spec PyProof.Rows
variable {pins:List (Addr×Obj)} {s:Shared} {σ:St} {H:Hp} {x:Str} {pos:Pos} {u:Value} {t:TE}
section
variable {X:Cx}
theorem bin{a b:Expr}{ta tb:TE}(ha:PE X a ta)(hb:PE X b tb){R:V->V->Hp->Prop}(I:Inv X pins σ H s)(h:ta σ H λx H1=>tb σ H1 λy H2=>R x y H2)
  {α:Type} {Q:α->Shared->Prop} {f:Value->Value->Sem α}
  (hf:∀v u s2 x y H2,Inv X pins σ H2 s2->bE x v->bE y u->R x y H2->wpAny 'k' X.A (f v u) Q X.xe s2) :
  wpAny 'k' X.A (eval a X.env) (λv s₁=>wpAny 'k' X.A (eval b X.env) (λu s₂=>wpAny 'k' X.A (f v u) Q X.xe s₂) X.xe s₁) X.xe s:=by
 refine Hm (ha pins s σ H _ I h) λv s1 ⟨x,H1,I1,r1,q1⟩=>?_;refine Hm (hb pins s1 σ H1 _ I1 q1) λu s2 ⟨y,H2,I2,r2,q2⟩=>?_;exact hf v u s2 x y H2 I2 r1 r2 q2
def tVar(i:Nat):TE:=λσ H Q=>∃v,σ[i]?=some (some v)/\Q v H
def tC(v:V):TE:=λ_ H Q=>Q v H
theorem dP{i:Nat}(hN:X.N[i]?=some x)(hv:Vis X.env.scope x)(hd:(x==("__debug__":Str))=false:=by decide)(hcd:(x==("__classdict__":Str))=false:=by decide):PE X (.Name x pos) (tVar i):=by
 intro ag s σ H Q I h;obtain⟨v,e,h⟩:=h;obtain⟨m,hn,hl⟩:=I.loc;obtain⟨u,r,l⟩:=hl i x v hN e hv;have ab:EP X ag σ Q u s:=⟨v,H,I,r,h⟩
 rcases l with⟨hk,hm⟩ | ⟨hk,c,hc,aa⟩
 ·exact wpAny_Name (wpAny_loadName_local I.ok.kind hk hn hm ab) hd
 ·rcases hk with hk | hk
  ·exact wpAny_Name (wpAny_loadName_cell I.ok.kind hk hc aa ab) hd
  ·exact wpAny_Name (wpAny_loadName_free I.ok.kind hk hc aa ab hcd) hd
theorem Ab{i j pos}:PE X (.Constant (.int i) j pos) (tC (.int i)):=λ_ _ _ H _ I h=>wpAny_Constant_int ⟨.int i,H,I.tok _,⟨_,rfl⟩,h⟩
theorem Gz{b j pos}:PE X (.Constant (.bool b) j pos) (tC (.bl b)):=λ_ _ _ H _ I h=>Constant_bool ⟨.bl b,H,I,rfl,h⟩
theorem Fj{j pos}:PE X (.Constant .none j pos) (tC .non):=λ_ _ _ H _ I h=>Constant_none ⟨.non,H,I,rfl,h⟩
theorem Dc{x j pos}:PE X (.Constant (.str x) j pos) (tC (.str x)):=λ_ _ _ H _ I h=>Calls.Constant_str ⟨.str x,H,I.tok _,⟨_,rfl⟩,h⟩
def Gl(X:Cx)(x:Str):Prop:=X.env.kindOf x=some .globalImplicit
theorem uw{E:Value->Shared->Prop}{Q:Value->Shared->Prop}(I:Inv X pins σ H s)(hg:Gl X x)(hm:X.mg x=some u)(h:Q u s)
  (hd:(x==("__debug__":Str))=false:=by decide):wpAny 'k' X.A (eval (.Name x pos) X.env) Q E s :=
 Calls.Name_function_global I.ok.kind hg (Calls.loadGlobal_global (by rw[I.ok.glob];exact I.mod.glob.keeps I.bk) hm h) hd
theorem gu{E:Value->Shared->Prop}{Q:Value->Shared->Prop}(I:Inv X pins σ H s)(hg:Gl X x)(hm:X.mg x=none)(hv:bootBuiltins x=some u)(h:Q u s)
  (hn:x≠"__name__":=by decide) (hd:(x==("__debug__":Str))=false:=by decide):wpAny 'k' X.A (eval (.Name x pos) X.env) Q E s:=by
 obtain⟨mb,h1,h2⟩:=I.mod.blt;exact Calls.Name_function_global I.ok.kind hg (Calls.loadGlobal_builtin (by rw[I.ok.glob];exact I.mod.glob.keeps I.bk) hm (by rw[I.ok.blt];exact h1.keeps I.bk) ((h2 x hn).trans hv) h) hd
theorem lF{v:V}(hg:Gl X x)(hm:X.mg x=some u)(r:bE v u)(hd:(x==("__debug__":Str))=false:=by decide):PE X (.Name x pos) (tC v) :=
 λ_ _ _ H _ I h=>uw I hg hm ⟨v,H,I,r,h⟩ hd
theorem Bm{v:V}(hg:Gl X x)(hm:X.mg x=none)(hv:bootBuiltins x=some u)(r:bE v u)(hn:x≠"__name__":=by decide)(hd:(x==("__debug__":Str))=false:=by decide):PE X (.Name x pos) (tC v) :=
 λ_ _ _ H _ I h=>gu I hg hm hv ⟨v,H,I,r,h⟩ hn hd
variable {a b:Expr} {ta tb:TE} {pos:Pos}
def PC(X:Cx)(op:CmpOp)(a b:Expr)(t:TE):Prop :=
 ∀(pins:List (Addr×Obj)) (s:Shared) (σ:St) (H:Hp) (Q:VK),Inv X pins σ H s->t σ H Q ->
  wpAny 'k' X.A (eval a X.env) (λv s₁=>wpAny 'k' X.A (eval b X.env) (λu s₂=>wpAny 'k' X.A (compareOp op v u) (EP X pins σ Q) X.xe s₂) X.xe s₁) X.xe s
def tB(t:TE):TT:=λσ H Q=>t σ H λx H1=>∃c,x=.bl c/\Q c H1
theorem pt_cmp{op:CmpOp}(h:PC X op a b t)(h1:behindInMarks op b=false:=by first | exact nobehind _ 'd' 'd' | rfl):PT X (.Compare a [op] [b] pos) (tB t):=by
 intro aa s σ H Q I hw;refine wpAny_isTrue_Compare1 (Hm (h aa s σ H _ I hw) λv s1 h1=>Hm h1 λu s2 h2=>Hm h2 λc s3 ⟨x,H1,I1,r1,q1⟩=>?_) h1;obtain⟨d,rfl,q⟩:=q1
 cases r1
 exact JI ⟨H1,I1,q⟩
theorem ER{e:Expr}(h:PE X e t)(he:∀whole,isTrue e X.env whole=(do let v<-whole;standAt e.pos;holding [v] (truthy v)):=by intro _;rfl):PT X e (tB t):=by
 intro aa s σ H Q I hw;refine isTrue_plain (Hm (h aa s σ H _ I hw) λv s1 ⟨x,H1,I1,r1,q1⟩=>?_) (he _);obtain⟨d,rfl,q⟩:=q1
 cases r1
 exact JI ⟨H1,I1,q⟩
variable {tA tB':TT} {dA:List Expr}
def tAnd(t u:TT):TT:=λσ H Q=>t σ H λc H1=>if c=true then u σ H1 Q else Q false H1
def tOr(t u:TT):TT:=λσ H Q=>t σ H λc H1=>if c=true then Q true H1 else u σ H1 Q
def tNot(t:TT):TT:=λσ H Q=>t σ H λc H1=>Q (!c) H1
theorem BW(ha:PT X a tA):PW X (.BoolOp .And [a] pos) tA:=by
 intro wh aa s σ H Q I h;refine isTrue_and (Hm (ha aa s σ H Q I h) λc s1 e=>?_)
 cases c with
 | true=>exact isTrue_and_nil e
 | false=>exact e
theorem Fw(ha:PT X a tA):PW X (.BoolOp .Or [a] pos) tA:=by
 intro wh aa s σ H Q I h;refine isTrue_or (Hm (ha aa s σ H Q I h) λc s1 e=>?_)
 cases c with
 | false=>exact isTrue_or_nil e
 | true=>exact e
theorem EV(ha:PT X a tA)(hb:PW X (.BoolOp .And (b::dA) pos) tB'):PW X (.BoolOp .And (a::b::dA) pos) (tAnd tA tB'):=by
 intro wh aa s σ H Q I h;refine isTrue_and (Hm (ha aa s σ H _ I h) λc s1 ⟨H1,I1,q1⟩=>?_)
 cases c with
 | true=>exact hb wh aa s1 σ H1 Q I1 q1
 | false=>exact⟨H1,I1,q1⟩
theorem Ge(ha:PT X a tA)(hb:PW X (.BoolOp .Or (b::dA) pos) tB'):PW X (.BoolOp .Or (a::b::dA) pos) (tOr tA tB'):=by
 intro wh aa s σ H Q I h;refine isTrue_or (Hm (ha aa s σ H _ I h) λc s1 ⟨H1,I1,q1⟩=>?_)
 cases c with
 | true=>exact⟨H1,I1,q1⟩
 | false=>exact hb wh aa s1 σ H1 Q I1 q1
theorem Dq(ha:PT X a tA):PT X (.UnaryOp .Not a pos) (tNot tA):=by
 intro aa s σ H Q I h;exact isTrue_not (ha aa s σ H (λc H1=>Q (!c) H1) I h)
def G1(ta tb:TE):TE:=λσ H Q=>ta σ H λx H1=>∃c,x=.bl c/\if c=true then tb σ H1 Q else Q (.bl false) H1
def tOrV(ta tb:TE):TE:=λσ H Q=>ta σ H λx H1=>∃c,x=.bl c/\if c=true then Q (.bl true) H1 else tb σ H1 Q
def Gp(ta:TE):TE:=λσ H Q=>ta σ H λx H1=>∃c,x=.bl c/\Q (.bl (!c)) H1
theorem Dd{op}(h:PE X a t):PE X (.BoolOp op [a] pos) t:=λpins s σ H Q I hw=>BoolOp_one (h pins s σ H Q I hw)
theorem EM(ha:PE X a ta)(hb:PE X (.BoolOp .And (b::dA) pos) tb):PE X (.BoolOp .And (a::b::dA) pos) (G1 ta tb):=by
 intro aa s σ H Q I h;refine BoolOp_and (Hm (ha aa s σ H _ I h) λv s1 ⟨x,H1,I1,r1,q1⟩=>?_);obtain⟨c,rfl,q1⟩:=q1
 cases r1
 refine JI ?_
 cases c with
 | true=>exact hb aa s1 σ H1 Q I1 q1
 | false=>exact⟨.bl false,H1,I1,rfl,q1⟩
theorem GV(ha:PE X a ta)(hb:PE X (.BoolOp .Or (b::dA) pos) tb):PE X (.BoolOp .Or (a::b::dA) pos) (tOrV ta tb):=by
 intro aa s σ H Q I h;refine BoolOp_or (Hm (ha aa s σ H _ I h) λv s1 ⟨x,H1,I1,r1,q1⟩=>?_);obtain⟨c,rfl,q1⟩:=q1
 cases r1
 refine JI ?_
 cases c with
 | false=>exact hb aa s1 σ H1 Q I1 q1
 | true=>exact⟨.bl true,H1,I1,rfl,q1⟩
theorem DM(ha:PE X a ta):PE X (.UnaryOp .Not a pos) (Gp ta):=by
 intro aa s σ H Q I h;refine UnaryOp_ (Hm (ha aa s σ H _ I h) λv s1 ⟨x,H1,I1,r1,q1⟩=>?_);obtain⟨c,rfl,q1⟩:=q1
 cases r1
 exact not_of (JI ⟨.bl (!c),H1,I1,rfl,q1⟩)
def tIf(t:TT)(ta tb:TE):TE:=λσ H Q=>t σ H λc H1=>if c=true then ta σ H1 Q else tb σ H1 Q
theorem yh{c:Expr}(hc:PT X c tA)(ha:PE X a ta)(hb:PE X b tb):PE X (.IfExp c a b pos) (tIf tA ta tb):=by
 intro aa s σ H Q I h;refine wpAny_IfExp (Hm (hc aa s σ H _ I h) λd s1 ⟨H1,I1,q1⟩=>?_)
 cases d with
 | true=>exact ha aa s1 σ H1 Q I1 q1
 | false=>exact hb aa s1 σ H1 Q I1 q1
end
end L2
namespace L2
open PySem PySem.Spec PyProof.Rows
variable {K:PySem.W.Frag} {s:Shared} {i:Nat} {x:Str} {e tg:Expr} {P:Program} {w:World}
def Ht(K:PySem.W.Frag)(H:Hp)(a:Addr)(xs:Zf):Prop :=
 Rd H a (.lst xs) \/
  ∃(o:Obj) (its:Array Value) (n:Nat),K.lookup a=some o/\o.cls=.type "list"/\o.dict=none/\o.data=.seq its n/\its.size<=sizeLine/\bI xs its.toList
def Hv(K:PySem.W.Frag)(H:Hp)(a:Addr)(xs:Zf):Prop :=
 Rd H a (.tup xs) \/
  ∃(o:Obj) (its:Array Value) (n:Nat),K.lookup a=some o/\o.cls=.type "tuple"/\o.data=.seq its n/\its.size<=sizeLine/\bI xs its.toList
def absV:Value->Option V
 | .none=>some .non
 | .bool b=>some (.bl b)
 | .int i _=>some (.int i)
 | .str x _=>some (.str x)
 | .bytes b _=>some (.byt b)
 | .float b _=>some (.flt b)
 | .ref a=>some (.ref a)
 | .type n=>some (.ty n)
 | _=>none
theorem bE.abs{x:V}{u:Value}(r:bE x u):absV u=some x:=by
 cases x with
 | non=>cases r;rfl
 | bl _=>cases r;rfl
 | int _=>obtain⟨t,rfl⟩:=r;rfl
 | str _=>obtain⟨t,rfl⟩:=r;rfl
 | byt _=>obtain⟨t,rfl⟩:=r;rfl
 | flt _=>obtain⟨t,rfl⟩:=r;rfl
 | ref _=>cases r;rfl
 | ty _=>cases r;rfl
theorem bE.inj{x y:V}{u:Value}(r:bE x u)(q:bE y u):x=y:=Iq (r.abs.symm.trans q.abs)
theorem bI.inj:∀ {xs ys:Zf} {us:Zc},bI xs us->bI ys us->xs=ys
 | _,_,_,.nil,.nil=>rfl
 | _,_,_,.cons r t,.cons r' t'=>by rw[r.inj r',bI.inj t t']
section
variable {X:Cx} {pins:List (Addr×Obj)} {σ:St} {H:Hp} {s:Shared} {a:Addr} {xs ys:Zf}
theorem Ht.of(h:H a=some (.lst xs)):Ht K H a xs:=.inl (.inl h)
theorem Hv.of(h:H a=some (.tup xs)):Hv K H a xs:=.inl (.inl h)
theorem Inv.list(I:Inv X pins σ H s)(h:Ht X.K H a xs):∃its:Zc,bI xs its/\PlainL s.heap a its.toArray/\xs.length<=sizeLine:=by
 rcases h with h | ⟨o,its,n,hk,hc,hd,hs,hz,r⟩
 ·obtain⟨z,its,n,r,e⟩:=h.ok I.hok;exact⟨its,r,⟨_,n,e,rfl,rfl,rfl⟩,z⟩
 ·refine⟨its.toList,r,⟨o,n,I.kIn a o hk,hc,hd,by simpa using hs⟩,?_⟩;have e:=r.length;simp only[Array.length_toList] at e;omega
theorem Inv.tuple(I:Inv X pins σ H s)(h:Hv X.K H a xs):∃its:Zc,bI xs its/\IsTup s.heap a its.toArray/\xs.length<=sizeLine:=by
 rcases h with h | ⟨o,its,n,hk,hc,hs,hz,r⟩
 ·obtain⟨z,its,r,p⟩:=h.ok I.hok;exact⟨its,r,p,z⟩
 ·refine⟨its.toList,r,⟨o,I.kIn a o hk,hc,n,by simpa using hs⟩,?_⟩;have e:=r.length;simp only[Array.length_toList] at e;omega
theorem Inv.list_inj(I:Inv X pins σ H s)(h:Ht X.K H a xs)(h':Ht X.K H a ys):xs=ys:=by
 obtain⟨ab,r,⟨o,n,e,_,_,d⟩,_⟩:=I.list h;obtain⟨aa,r',⟨o',n',e',_,_,d'⟩,_⟩:=I.list h';rw[e] at e';cases e';rw[d] at d'
 injection d' with d1 _
 have:ab=aa:=by simpa using JK Array.toList d1
 subst this;exact r.inj r'
theorem Inv.tuple_inj(I:Inv X pins σ H s)(h:Hv X.K H a xs)(h':Hv X.K H a ys):xs=ys:=by
 obtain⟨ab,r,⟨o,e,_,n,d⟩,_⟩:=I.tuple h;obtain⟨aa,r',⟨o',e',_,n',d'⟩,_⟩:=I.tuple h';rw[e] at e';cases e';rw[d] at d'
 injection d' with d1 _
 have:ab=aa:=by simpa using JK Array.toList d1
 subst this;exact r.inj r'
end
abbrev Cx.wish(X:Cx)(E:Value->Shared->Prop):Cx:={ X with xe:=E }
abbrev Cx.nox(X:Cx):Cx:=X.wish λ_ _=>False
theorem Cx.Ok.wish{X:Cx}(ok:X.Ok)(E:Value->Shared->Prop):(X.wish E).Ok :=
 ⟨ok.mod,ok.kind,ok.glob,ok.blt,ok.above,ok.inj,ok.has,ok.cab,ok.hd,ok.frames,ok.stk,ok.exf,ok.bs,ok.bsz,ok.noex,ok.exfs,ok.funs,ok.frf⟩
theorem Cx.Ok.unwish{X:Cx}{E:Value->Shared->Prop}(ok:(X.wish E).Ok):X.Ok :=
 ⟨ok.mod,ok.kind,ok.glob,ok.blt,ok.above,ok.inj,ok.has,ok.cab,ok.hd,ok.frames,ok.stk,ok.exf,ok.bs,ok.bsz,ok.noex,ok.exfs,ok.funs,ok.frf⟩
section
variable {X:Cx} {pins:List (Addr×Obj)} {σ:St} {H:Hp} {s:Shared} {E:Value→Shared→Prop}
theorem Inv.wish(I:Inv X pins σ H s)(E:Value->Shared->Prop):Inv (X.wish E) pins σ H s:=⟨I.ok.wish E,I.os,I.bare,I.base,I.loc,I.cell,I.free,I.freeC,I.pin,I.hok,I.len⟩
theorem Inv.unwish(I:Inv (X.wish E) pins σ H s):Inv X pins σ H s:=⟨I.ok.unwish,I.os,I.bare,I.base,I.loc,I.cell,I.free,I.freeC,I.pin,I.hok,I.len⟩
theorem SP.unwish{D:Az}{f:Flow}{s':Shared}(h:SP (X.wish E) pins D f s'):SP X pins D f s':=by
 cases f with
 | next=>obtain⟨σ',H',I,q⟩:=h;exact⟨σ',H',I.unwish,q⟩
 | brk=>obtain⟨σ',H',I,q⟩:=h;exact⟨σ',H',I.unwish,q⟩
 | cont=>obtain⟨σ',H',I,q⟩:=h;exact⟨σ',H',I.unwish,q⟩
 | ret u=>obtain⟨v,σ',H',I,r,q⟩:=h;exact⟨v,σ',H',I.unwish,r,q⟩
theorem PSs.nox{st:List Stmt}{t:TS}(h:PSs X.nox st t):PSs X st t:=λpins s σ H D I hw =>
 JA (h pins s σ H D (I.wish _) hw) (λ_ _ q=>q.unwish) λ_ _ z=>False.elim z
end
section
variable {X:Cx} {st:Stmt} {dA:List Stmt} {t u:TS} {e:Expr} {te:TE} {pos:Pos}
def Gq:TS:=λD σ H=>D.nx σ H
def tSeq(t u:TS):TS:=λD σ H=>t { D with nx:=u D } σ H
theorem lM:PSs X [] Gq:=λ_ _ σ H _ I h=>KZ ⟨σ,H,I,h⟩
theorem eM(h1:PS X st t)(h2:PSs X dA u):PSs X (st::dA) (tSeq t u):=by
 intro aa s σ H D I h;refine wpAny_execs_cons (Hm (h1 aa s σ H { D with nx:=u D } I h) λf s1 q=>?_)
 cases f with
 | next =>
  obtain⟨σ',H',I',q⟩:=q;exact h2 aa s1 σ' H' D I' q
 | ret v=>exact q
 | brk=>exact q
 | cont=>exact q
theorem Cp(h1:PS X st t):PSs X [st] t:=by
 intro aa s σ H D I h;refine wpAny_execs_cons (Hm (h1 aa s σ H D I h) λf s1 q=>?_)
 cases f with
 | next=>exact KZ q
 | ret v=>exact q
 | brk=>exact q
 | cont=>exact q
theorem Inv.quiet{pins:List (Addr×Obj)}{σ:St}{H:Hp}(I:Inv X pins σ H s):interactive X.env=false:=by simp[interactive,I.ok.kind]
def FX(te:TE):TS:=λD σ H=>te σ H λ_ H1=>D.nx σ H1
theorem lG(he:PE X e te)(hs:swapsWith e none pos.line X.env=pure false:=by rfl):PS X (.Expr e pos) (FX te):=by
 intro aa s σ H D I h;exact wpAny_Expr_any (Hm (he aa s σ H _ I h) λv s1 ⟨x,H1,I1,r1,q1⟩=>⟨σ,H1,I1,q1⟩) I.quiet hs
def tRet(te:TE):TS:=λD σ H=>te σ H D.rt
theorem vA(he:PE X e te):PS X (.Return (some e) pos) (tRet te):=by
 intro aa s σ H D I h;exact wpAny_Return_some (Hm (he aa s σ H _ I h) λv s1 ⟨x,H1,I1,r1,q1⟩=>⟨x,σ,H1,I1,r1,q1⟩)
def Gc:TS:=λD _ H=>D.rt .non H
theorem Bo:PS X (.Return none pos) Gc:=λ_ _ σ H _ I h=>wpAny_Return_none ⟨.non,σ,H,I,rfl,h⟩
def CV(c:TT)(t u:TS):TS:=λD σ H=>c σ H λb H1=>if b=true then t D σ H1 else u D σ H1
theorem yM{c:Expr}{a b:List Stmt}{tc:TT}(hc:PT X c tc)(ha:PSs X a t)(hb:PSs X b u):PS X (.If c a b pos) (CV tc t u):=by
 intro aa s σ H D I h;refine wpAny_If (Hm (hc aa s σ H _ I h) λd s1 ⟨H1,I1,q1⟩=>?_)
 cases d with
 | true=>exact ha aa s1 σ H1 D I1 q1
 | false=>exact hb aa s1 σ H1 D I1 q1
def yY:TS:=λ_ _ _=>False
theorem xc:PS X st yY:=λ_ _ _ _ _ _ h=>h.elim
theorem jI{sts:List Stmt}:PSs X sts yY:=λ_ _ _ _ _ _ h=>h.elim
end
abbrev TG:=V->St->Hp->(St->Hp->Prop)->Prop
abbrev TGs:=List V->St->Hp->(St->Hp->Prop)->Prop
def PG(X:Cx)(target:Expr)(t:TG):Prop :=
 ∀(pins:List (Addr×Obj)) (s:Shared) (σ:St) (H:Hp) (v:V) (u:Value) (Q:St->Hp->Prop),Inv X pins σ H s->bE v u->t v σ H Q ->
  wpAny 'k' X.A (assign target X.env u) (λ_ s'=>∃σ' H',Inv X pins σ' H' s'/\Q σ' H') X.xe s
def PGs(X:Cx)(ts:List Expr)(t:TGs):Prop :=
 ∀(pins:List (Addr×Obj)) (s:Shared) (σ:St) (H:Hp) (vs:Zf) (us:Zc) (Q:St->Hp->Prop),Inv X pins σ H s->bI vs us->t vs σ H Q ->
  wpAny 'k' X.A (assignInOrder ((assignEach ts X.env).map (·.2)) us) (λ_ s'=>∃σ' H',Inv X pins σ' H' s'/\Q σ' H') X.xe s
section
variable {X:Cx} {pos:Pos}
def vj(i:Nat):TG:=λv σ H Q=>Q (σ.set i (some v)) H
theorem Cl(hN:X.N.Nodup)(hi:X.N[i]?=some x)(hx:Loc X.env.scope x)(hf:X.fn x=true\/X.env.scope.names.lookup x=some .local :=by walk_at "v1"):PG X (.Name x pos) (vj i):=by
 intro aa s σ H v u Q I r h;exact wpAny_assign_Name (iV I hN hi hx r (λs' I'=>⟨_,H,I',h⟩) hf)
def gNil:TGs:=λvs σ H Q=>vs=[]/\Q σ H
def GK(t:TG)(u:TGs):TGs:=λvs σ H Q=>∃v r,vs=v::r/\t v σ H λσ' H'=>u r σ' H' Q
theorem Ce:PGs X [] gNil:=by
 intro aa s σ H vs us Q I r h;obtain⟨e,h⟩:=h;subst e
 cases r
 exact assignInOrder_nil ⟨σ,H,I,h⟩
theorem xG{es:List Expr}{t:TG}{u:TGs}(h1:PG X e t)(h2:PGs X es u)
  (hs:(assignEach (e::es) X.env).map (·.2)=assign e X.env::(assignEach es X.env).map (·.2):=by rfl):PGs X (e::es) (GK t u):=by
 intro aa s σ H vs us Q I r h;obtain⟨v,vr,e1,h⟩:=h;subst e1
 cases r with
 | cons r rr =>
  rw[hs];refine assignInOrder_cons (Hm (h1 aa s σ H _ _ _ I r h) λ_ s1 ⟨σ1,H1,I1,q1⟩=>?_);exact h2 aa s1 σ1 H1 _ _ Q I1 rr q1
def gTup(K:PySem.W.Frag)(n:Nat)(t:TGs):TG:=λv σ H Q=>∃a xs,v=.ref a/\Hv K H a xs/\xs.length=n/\t xs σ H Q
theorem Fy{es:List Expr}{k:Nat}{t:TGs}{n:Nat}(hc:X.calm=true)(h:PGs X es t)
  (hn:(assignEach es X.env).length=n:=by rfl) (hst:(assignEach es X.env).findIdx? (·.1)=none:=by rfl):PG X (.Tuple es k pos) (gTup X.K n t):=by
 intro aa s σ H v u Q I r hw;obtain⟨a,xs,e1,hq,hl,hw⟩:=hw;subst e1
 cases r
 obtain⟨ab,rv,ht,hz⟩:=I.tuple hq;refine assign_Tuple_tuple (I.ok.hd hc) ht (by simp[hn,<- hl,rv.length]) hst λh' hx=>?_;have I1:Inv X aa σ H { s with heap:=h' }:=I.kept (t':=s.toks) λb o e=>hx b o (II (Iw e)) e;exact h aa _ σ H xs _ Q I1 (by simpa using rv) hw
def tAsg(te:TE)(g:TG):TS:=λD σ H=>te σ H λx H1=>g x σ H1 D.nx
theorem CZ{te:TE}{g:TG}(he:PE X e te)(hg:PG X tg g)(hs:swapsWithSole [tg] e pos.line X.env=pure false:=by rfl)(hw:swappedStores [tg] e X.env=pure none:=by rfl)
  (h1:(assignEach [tg] X.env).map (·.2)=[assign tg X.env]:=by rfl):PS X (.Assign [tg] e pos) (tAsg te g):=by
 intro aa s σ H D I h;refine wpAny_Assign_stores (Hm (he aa s σ H _ I h) λv s1 ⟨x,H1,I1,r1,q1⟩=>?_) hs hw;rw[h1];exact Hm (hg aa s1 σ H1 x v _ I1 r1 q1) λ_ s2 q=>q
theorem nD{te:TE}{pos':Pos}(hN:X.N.Nodup)(hi:X.N[i]?=some x)(hx:Loc X.env.scope x)(he:PE X e te)(hs:swapsWith e (some (.Name x pos')) pos.line X.env=pure false:=by rfl)(hf:X.fn x=true\/X.env.scope.names.lookup x=some .local :=by walk_at "v1") :
  PS X (.Assign [.Name x pos'] e pos) (tAsg te (vj i)):=by
 intro aa s σ H D I h;refine wpAny_Assign_Name (Hm (he aa s σ H _ I h) λv s1 ⟨y,H1,I1,r1,q1⟩=>?_) hs;exact iV I1 hN hi hx r1 (λs2 I2=>⟨_,H1,I2,q1⟩) hf
def tPar(i j:Nat)(ta:TA):TS:=λD σ H=>ta σ H λvs H1=>∃v w,vs=[v,w]/\D.nx ((σ.set i (some v)).set j (some w)) H1
theorem EF{j:Nat}{y:Str}{a b:Expr}{ta:TA}{px py pt:Pos}{kt k2 pt2}(hc:X.calm=true)(hN:X.N.Nodup)(hi:X.N[i]?=some x)(hj:X.N[j]?=some y)(hij:i≠j)
  (hx:X.env.scope.names.lookup x=some .local) (hy:X.env.scope.names.lookup y=some .local) (ha:PA X [a,b] ta)
  (hw:swappedStores [.Tuple [.Name x px,.Name y py] kt pt] (.Tuple [a,b] k2 pt2) X.env=pure (some [x,y]))
  (hs:swapsWithSole [.Tuple [.Name x px,.Name y py] kt pt] (.Tuple [a,b] k2 pt2) pos.line X.env=pure false:=by rfl) :
  PS X (.Assign [.Tuple [.Name x px,.Name y py] kt pt] (.Tuple [a,b] k2 pt2) pos) (tPar i j ta):=by
 intro aa s σ H D I h;rw[exec_Assign_arm];refine HU (wpAny_standAt ?_);rw[hs];refine HU (HZ ?_);rw[Io 'd'];refine HU (Tuple_ (Hm (ha _ aa s σ H _ I h) λus s1 ⟨vs,H1,I1,r1,q1⟩=>?_));obtain⟨v,w,e1,q1⟩:=q1;subst e1;obtain⟨u1,u2,rfl,rv,rw'⟩:∃u1 u2,us=[u1,u2]/\bE v u1/\bE w u2:=by
  cases r1 with
  | cons p q =>
   cases q with
   | cons p' q' =>
    cases q'
    exact⟨_,_,rfl,p,p'⟩
 refine Jf ?_ (by show 2<=sizeLine;decide);have I2:Inv X aa σ H1 { s1 with heap:=s1.heap.push { cls:=.type "tuple",data:=.seq [u1,u2].toArray } }:=I1.kept (t':=s1.toks) λb o e=>Heap.get?_push_of_some _ e;rw[hw];refine HU (HZ ?_);show wpAny 'k' X.A (do rule "assign.swapped-stores";let items<-unpackItems (.ref s1.heap.objs.size) 2 none;assignInOrder [λv=>bindName X.env y v,λv=>bindName X.env x v] items.reverse;pure Flow.next) _ _ _;refine HU (KW (HU (unpackItems_tuple (items:=#[u1,u2]) (I.ok.hd hc) (IsTup.new s1.heap _) λh' hx'=>?_)));have I3:=I2.kept (h':=h') (t':=s1.toks) λb o e=>hx' b o (II (Iw e)) e;show wpAny _ _ (assignInOrder [λv=>bindName X.env y v,λv=>bindName X.env x v] [u2,u1] >>= λ_=>pure Flow.next) _ _ _;refine HU (assignInOrder_cons (wpAny_bindName (iV I3 hN hj (.inl hy) rw' (λs2 I4=>?_) (.inr hy))));refine assignInOrder_cons (wpAny_bindName (iV I4 hN hi (.inl hx) rv (λs3 I5=>assignInOrder_nil (HZ ?_)) (.inr hx)));rw[List.set_comm _ _ (Kz hij)] at I5;exact⟨_,H1,I5,q1⟩
end
section
variable {X:Cx} {pos:Pos}
def E8(c:TT)(tb:TS):TS:=λD σ H=>∃W:Nat->St->Hp->Prop,(∃m,W m σ H)/\∀m σ H,W m σ H ->
 c σ H λb H1=>if b=true then ∃N:St->Hp->Prop,(∀σ' H',N σ' H'->∃m',m'<m/\W m' σ' H')/\tb { D with nx:=N,ct:=N,bk:=D.nx } σ H1 else D.nx σ H1
theorem wZ{c:Expr}{body:List Stmt}{tc:TT}{tb:TS}(hp:PassesOwn 'k' X.A X.env X.xe)(hc:PT X c tc)(hb:PSs X body tb):PS X (.While c body [] pos) (E8 tc tb):=by
 intro aa s σ H D I h;obtain⟨W,⟨m0,w0⟩,ab⟩:=h;refine wpAny_While (codeAny_whileLoop (λn s'=>∃σ' H',Inv X aa σ' H' s'/\W n σ' H') ?_ m0 ⟨σ,H,I,w0⟩);rintro n s1 ⟨σ1,H1,I1,w1⟩;refine JS hp (Hm (hc aa s1 σ1 H1 _ I1 (ab n σ1 H1 w1)) λb s2 ⟨H2,I2,q2⟩=>?_)
 cases b with
 | true =>
  obtain⟨N,hN,q2⟩:=q2;rw[Ir rfl];refine JS hp (Hm (hb aa s2 σ1 H2 _ I2 q2) λf s3 q3=>?_)
  cases f with
  | next =>
   obtain⟨σ3,H3,I3,n3⟩:=q3;obtain⟨m',hm,w3⟩:=hN σ3 H3 n3;exact⟨m',hm,σ3,H3,I3,w3⟩
  | cont =>
   obtain⟨σ3,H3,I3,n3⟩:=q3;obtain⟨m',hm,w3⟩:=hN σ3 H3 n3;exact⟨m',hm,σ3,H3,I3,w3⟩
  | brk=>exact q3
  | ret v=>exact q3
 | false =>
  rw[Io Ie];exact KZ ⟨σ1,H2,I2,q2⟩
end
structure It where
 go:Nat->Hp->Prop
 yld:Nat->Hp->V->Hp->Prop
 stop:Nat->Hp->Prop
def xa(X:Cx)(pins:List (Addr×Obj))(H:Hp)(b:Addr):Prop :=
 H b=none/\b≠X.env.locals/\b∉X.fs/\(b∈X.ex\/X.s₀.heap.objs.size<=b)/\(∀x c,X.env.cells.lookup x=some c->c≠b)/\∀p∈X.pn++pins,p.1≠b
theorem Inv.fpOk{X:Cx}{pins:List (Addr×Obj)}{σ:St}{H H':Hp}{b:Addr}(I:Inv X pins σ H s)(hb:s.heap.objs.size<=b)(hn:H' b=none):xa X pins H' b:=by
 refine⟨hn,JW (IM I.lt hb),I.nofs hb,.inr (HX I.sz hb),λx c e z=>?_,λp hp z=>?_⟩
 ·obtain⟨v,q⟩:=I.cell x c e;exact absurd (IM q.lt (by rw[z];exact hb)) (Je _)
 ·exact absurd (IM (Iw (I.pin p hp).1) (by rw[z];exact hb)) (Je _)
structure zk(P:Program)(w:World)(K:PySem.W.Frag)(tg:Expr)(J:It)(fp:List Addr)(it:Addr)(tn:Nat->Heap->Prop):Prop where
 mem:it∈fp
 obj:∀i h,tn i h->∀b∈fp,∃o,h.get? b=some o/\∀v,o.data≠.cell v
 keep:∀i h h',tn i h->(∀b∈fp,∀o,h.get? b=some o->h'.get? b=some o)->tn i h'
 item:∀(X:Cx),X.prog=P->X.w=w->X.K=K->X.calm=true->∀(i:Nat) (pins:List (Addr×Obj)) (s:Shared) (σ:St) (H:Hp) (E:Value->Shared->Prop),Inv X pins σ H s->(∀b∈fp,xa X pins H b)->tn i s.heap->J.go i H ->
  wpAny (model P w) X.A (pyNext (.ref it)) (λr s1=>∃u,r=some u /\
   wpAny (model P w) X.A (letOwnedTupleGo tg (.ref it) u) (λ_ s2=>∃x H',Inv X pins σ H' s2/\bE x u/\J.yld i H x H'/\tn (i+1) s2.heap/\∀b∈fp,H' b=none) E s1) E s
 done:∀(X:Cx),X.prog=P->X.w=w->X.K=K->X.calm=true->∀(i:Nat) (pins:List (Addr×Obj)) (s:Shared) (σ:St) (H:Hp) (E:Value->Shared->Prop),Inv X pins σ H s->(∀b∈fp,xa X pins H b)->tn i s.heap->J.stop i H ->
  wpAny (model P w) X.A (pyNext (.ref it)) (λr s1=>r=none/\Inv X pins σ H s1) E s
 self:∀(A:Around) (i:Nat) (s:Shared) (Q:Value->Shared->Prop) (E:Value->Shared->Prop),tn i s.heap->Q (.ref it) s->wpAny (model P w) A (pyIter (.ref it)) Q E s
abbrev TI:=St->Hp->(It->Hp->Prop)->Prop
def PIE(X:Cx)(pins:List (Addr×Obj))(σ:St)(tg:Expr)(R:It->Hp->Prop)(itv:Value)(s2:Shared):Prop :=
 ∃(it:Addr) (fp:List Addr) (tn:Nat->Heap->Prop) (J:It) (H':Hp),itv=.ref it/\Inv X pins σ H' s2/\zk X.prog X.w X.K tg J fp it tn/\tn 0 s2.heap/\(∀b∈fp,xa X pins H' b)/\R J H'
def PI(X:Cx)(tg iter:Expr)(wi:TI):Prop :=
 ∀(pins:List (Addr×Obj)) (s:Shared) (σ:St) (H:Hp) (R:It->Hp->Prop),Inv X pins σ H s->wi σ H R ->
  wpAny 'k' X.A (eval iter X.env) (λv s1=>wpAny 'k' X.A (pyIter v) (PIE X pins σ tg R) X.xe s1) X.xe s
theorem ug{M:Model}{A:Around}{E:Value->Shared->Prop}{it:Addr}{u:Value}{o:Obj}{n:String}{vs:Array Value}{Q:Unit->Shared->Prop}(ho:s.heap.get? it=some o)(hc:o.cls=.type n)(hd:o.data=.fields vs)
    (hn:["enumerate","zip","dict_itemiterator","dict_reverseitemiterator","odict_iterator","itertools.zip_longest","itertools.pairwise"].contains n=false) (hQ:Q () s):wpAny M A (letOwnedTupleGo tg (.ref it) u) Q E s:=by
  unfold letOwnedTupleGo
  cases tg<;>first
    | exact HZ hQ
    | (cases u<;>first
        | exact HZ hQ
        | (refine HU (wpAny_load ho ?_)
           rw[hc,hd];show wpAny M A (if (["enumerate","zip","dict_itemiterator","dict_reverseitemiterator","odict_iterator","itertools.zip_longest","itertools.pairwise"].contains n&&vs[0]?==some (rawInt _))=true then _ else _) Q E s;rw[Io (by intro h;rw[hn,Bool.false_and] at h;cases h)]
           exact HZ hQ))
def Itl(K:PySem.W.Frag)(a:Addr):It :=
 ⟨λi H=>∃xs x,Ht K H a xs/\xs[i]?=some x,λi H x H'=>H'=H/\∀xs,Ht K H a xs->xs[i]?=some x,λi H=>∃xs,Ht K H a xs/\xs.length<=i⟩
def Itt(K:PySem.W.Frag)(a:Addr):It :=
 ⟨λi H=>∃xs x,Hv K H a xs/\xs[i]?=some x,λi H x H'=>H'=H/\∀xs,Hv K H a xs->xs[i]?=some x,λi H=>∃xs,Hv K H a xs/\xs.length<=i⟩
def Itr(lo:Int)(n:Nat):It:=⟨λi _=>i<n,λi H x H'=>H'=H/\x=.int (lo+i),λi _=>n<=i⟩
theorem nB(a it:Addr):zk P w K tg (Itl K a) [it] it (λi h=>h.IsListIter it a i) where
 mem:=by simp
 obj:=λi h st b hb=>by
  have e:b=it:=by simpa using hb
  subst e;obtain⟨o,e,c,d⟩:=st;exact⟨o,e,λv z=>by rw[d] at z;cases z⟩
 keep:=λi h h' st k=>st.at λo e=>k it 'p' o e
 item:=by
  intro X hP hw hK hc i aa s σ H E I hf st hg;subst hP hw hK;obtain⟨xs,x,hq,hx⟩:=hg;obtain⟨ab,rv,p,hz⟩:=I.list hq;obtain⟨u,hu,ru⟩:=rv.get hx;obtain⟨f0,f1,f2,f3,f4,f5⟩:=hf it 'p';refine wpAny_pyNext_list_item st p.isList (x:=u) (by simpa using hu) λh' st' sb=>?_;have I1:Inv X aa σ H { s with heap:=h' }:=I.turned (t':=s.toks) (λb o hb e=>(sb.2 b hb).trans e) f0 f1 f3 f4 f5;obtain⟨o,e,c,d⟩:=id st';exact⟨u,rfl,ug (s:={ s with heap:=h' }) e c d 'd' ⟨x,H,I1,ru,⟨rfl,λys hy=>by rw[I.list_inj hy hq];exact hx⟩,st',λb hb=>(hf b hb).1⟩⟩
 done:=by
  intro X hP hw hK hc i aa s σ H E I hf st hg;subst hP hw hK;obtain⟨xs,hq,hx⟩:=hg;obtain⟨ab,rv,p,hz⟩:=I.list hq;obtain⟨f0,f1,f2,f3,f4,f5⟩:=hf it 'p';have hl:=rv.length;exact wpAny_pyNext_list_end (I.ok.hd hc) st p.isList (by simp;omega) λh' eb=>⟨rfl,I.turned (t':=s.toks) (λb o hb e=>eb b o hb e) f0 f1 f3 f4 f5⟩
 self:=λ_ _ _ _ _ st h=>wpAny_pyIter_listiter st h
theorem lm(a it:Addr):zk P w K tg (Itt K a) [it] it (λi h=>h.IsTupleIter it a i) where
 mem:=by simp
 obj:=λi h st b hb=>by
  have e:b=it:=by simpa using hb
  subst e;obtain⟨o,e,c,d⟩:=st;exact⟨o,e,λv z=>by rw[d] at z;cases z⟩
 keep:=λi h h' st k=>st.at λo e=>k it 'p' o e
 item:=by
  intro X hP hw hK hc i aa s σ H E I hf st hg;subst hP hw hK;obtain⟨xs,x,hq,hx⟩:=hg;obtain⟨ab,rv,p,hz⟩:=I.tuple hq;obtain⟨u,hu,ru⟩:=rv.get hx;obtain⟨f0,f1,f2,f3,f4,f5⟩:=hf it 'p';refine wpAny_pyNext_tuple_item st (show s.heap.IsTuple a ab.toArray from p) (x:=u) (by simpa using hu) λh' st' sb=>?_;have I1:Inv X aa σ H { s with heap:=h' }:=I.turned (t':=s.toks) (λb o hb e=>(sb.2 b hb).trans e) f0 f1 f3 f4 f5;obtain⟨o,e,c,d⟩:=id st';exact⟨u,rfl,ug (s:={ s with heap:=h' }) e c d 'd' ⟨x,H,I1,ru,⟨rfl,λys hy=>by rw[I.tuple_inj hy hq];exact hx⟩,st',λb hb=>(hf b hb).1⟩⟩
 done:=by
  intro X hP hw hK hc i aa s σ H E I hf st hg;subst hP hw hK;obtain⟨xs,hq,hx⟩:=hg;obtain⟨ab,rv,p,hz⟩:=I.tuple hq;obtain⟨f0,f1,f2,f3,f4,f5⟩:=hf it 'p';have hl:=rv.length;exact wpAny_pyNext_tuple_end (I.ok.hd hc) st (show s.heap.IsTuple a ab.toArray from p) (by simp;omega) λh' eb=>⟨rfl,I.turned (t':=s.toks) (λb o hb e=>eb b o hb e) f0 f1 f3 f4 f5⟩
 self:=λ_ _ _ _ _ st h=>wpAny_pyIter_tupleiter st h
theorem sR(it:Addr)(lo:Int)(n:Nat):zk P w K tg (Itr lo n) [it] it (λi h=>IsRangeIter h it (lo+(i:Nat)*1) ((n:Int)-(i:Nat)) 1) where
 mem:=by simp
 obj:=λi h st b hb=>by
  have e:b=it:=by simpa using hb
  subst e
  exact⟨_,st,λv z=>by
   have z':Data.fields _=Data.cell v:=z
   cases z'⟩
 keep:=λi h h' st k=>k it 'p' _ st
 item:=by
  intro X hP hw hK hc i aa s σ H E I hf st hg;subst hP hw hK;obtain⟨f0,f1,f2,f3,f4,f5⟩:=hf it 'p';have W:=Walks.range (prog:=X.prog) (w:=X.w) (I.ok.hd hc) it lo 1 n;refine W.item i s _ _ hg st λv h' tk hv st' kk=>?_;obtain⟨t,rfl⟩:=hv;have I1:Inv X aa σ H { s with heap:=h',toks:=tk }:=I.turned (λb o hb e=>kk b o (by simpa using hb) e) f0 f1 f3 f4 f5;refine⟨_,rfl,ug (s:={ s with heap:=h',toks:=tk }) (n:="range_iterator") st' rfl rfl 'd' ⟨.int (lo+i),H,I1,⟨t,?_⟩,⟨rfl,rfl⟩,st',λb hb=>(hf b hb).1⟩⟩;rw[Int.mul_one]
 done:=by
  intro X hP hw hK hc i aa s σ H E I hf st hg;subst hP hw hK;obtain⟨f0,f1,f2,f3,f4,f5⟩:=hf it 'p';exact wpAny_pyNext_range_end (I.ok.hd hc) st (by have:n<=i:=hg;omega) λh' eb=>⟨rfl,I.turned (t':=s.toks) (λb o hb e=>eb b o hb e) f0 f1 f3 f4 f5⟩
 self:=λ_ _ _ _ _ st h=>wpAny_pyIter_rangeiter st h
end L2
namespace L2
open PySem PySem.Spec PyProof.Rows
variable {pins:List (Addr×Obj)} {σ:St} {H:Hp} {s:Shared} {fp:List Addr}
section
variable {X:Cx} {tg:Expr}
def GG(K:PySem.W.Frag)(tl:TE):TI:=λσ H R=>tl σ H λx H1=>∃a,x=.ref a/\(∃xs,Ht K H1 a xs)/\R (Itl K a) H1
def iTup(K:PySem.W.Frag)(tl:TE):TI:=λσ H R=>tl σ H λx H1=>∃a,x=.ref a/\(∃xs,Hv K H1 a xs)/\R (Itt K a) H1
theorem vZ{l:Expr}{tl:TE}(hl:PE X l tl):PI X tg l (GG X.K tl):=by
 intro aa s σ H R I h;refine Hm (hl aa s σ H _ I h) λv s1 ⟨x,H1,I1,r1,q1⟩=>?_;obtain⟨a,e,⟨xs,hq⟩,q⟩:=q1;subst e
 cases r1
 obtain⟨ab,rv,p,hz⟩:=I1.list hq;refine JT p.isList ?_;refine⟨s1.heap.objs.size,[s1.heap.objs.size],_,_,H1,rfl,I1.kept (t':=s1.toks) λb o e=>Heap.get?_push_of_some _ e,nB a _,⟨_,Heap.get?_push_size _ rfl,rfl,rfl⟩,λb hb=>?_,q⟩;have e:b=s1.heap.objs.size:=by simpa using hb
 subst e;exact I1.fpOk (Ib _) (I1.hok.fresh (Ib _))
theorem zF{l:Expr}{tl:TE}(hl:PE X l tl):PI X tg l (iTup X.K tl):=by
 intro aa s σ H R I h;refine Hm (hl aa s σ H _ I h) λv s1 ⟨x,H1,I1,r1,q1⟩=>?_;obtain⟨a,e,⟨xs,hq⟩,q⟩:=q1;subst e
 cases r1
 obtain⟨ab,rv,p,hz⟩:=I1.tuple hq;refine wpAny_pyIter_tuple (show s1.heap.IsTuple a ab.toArray from p) ?_;refine⟨s1.heap.objs.size,[s1.heap.objs.size],_,_,H1,rfl,I1.kept (t':=s1.toks) λb o e=>Heap.get?_push_of_some _ e,lm a _,⟨_,Heap.get?_push_size _ rfl,rfl,rfl⟩,λb hb=>?_,q⟩;have e:b=s1.heap.objs.size:=by simpa using hb
 subst e;exact I1.fpOk (Ib _) (I1.hok.fresh (Ib _))
theorem yT{R:It->Hp->Prop}{E:Value->Shared->Prop}{lo hi:Int}{t u v:Tok}{tk:Nat}(I:Inv X pins σ H s)(h1:-(2 ^ 62)<=lo)(h2:lo<2 ^ 62)(h3:-(2 ^ 62)<=hi)(h4:hi<2 ^ 62)
  (q:R (Itr lo (hi-lo).toNat) H):wpAny 'k' X.A (pyIter (.ref s.heap.objs.size)) (PIE X pins σ tg R) E { s with heap:=s.heap.push { cls:=.type "range",data:=.fields #[.int lo t,.int hi u,.int 1 v] },toks:=tk }:=by
 refine wpAny_pyIter_range (IsRange.new ..) (small_one h1 h2 h3 h4) ?_;have I1:Inv X pins σ H { s with heap:=s.heap.push { cls:=.type "range",data:=.fields #[.int lo t,.int hi u,.int 1 v] },toks:=tk }:=I.kept λb o e=>Heap.get?_push_of_some _ e
 refine⟨(s.heap.push { cls:=.type "range",data:=.fields #[.int lo t,.int hi u,.int 1 v] }).objs.size,[(s.heap.push { cls:=.type "range",data:=.fields #[.int lo t,.int hi u,.int 1 v] }).objs.size],_,_,H,rfl,
  I1.kept (t':=tk) λb o e=>Heap.get?_push_of_some _ e,sR _ lo (hi-lo).toNat,?_,λb hb=>?_,q⟩
 ·have e1:lo+((0:Nat):Int)*1=lo:=by simp
  have e2:(((hi-lo).toNat:Nat):Int)-((0:Nat):Int)=Builtin.Range.rangeSize lo hi 1:=by rw[rangeSize_one];split<;>omega
  show IsRangeIter _ _ (lo+((0:Nat):Int)*1) ((((hi-lo).toNat:Nat):Int)-((0:Nat):Int)) 1
  rw[e1,e2];exact Heap.get?_push_size _ rfl
 ·have e:b=(s.heap.push { cls:=.type "range",data:=.fields #[.int lo t,.int hi u,.int 1 v] }).objs.size:=by simpa using hb
  subst e;exact I1.fpOk (Ib _) (I1.hok.fresh (Ib _))
def GB(ta:TA):TI:=λσ H R=>ta σ H λvs H1=>∃j:Int,vs=[.int j]/\-(2 ^ 62)<=j/\j<2 ^ 62/\R (Itr 0 j.toNat) H1
theorem nu{a:Expr}{ta:TA}{p pos:Pos}(hg:Gl X "range")(hm:X.mg "range"=none)(ha:PA X [a] ta)(hs:starEach [a] X.env=[(false,eval a X.env)]:=by rfl):PI X tg (.Call (.Name "range" p) [a] [] pos) (GB ta):=by
 intro aa s σ H R I h;refine Call_ (gu I hg hm boot_range (Jn (Hm (ha pos aa s σ H _ I h) λus s1 ⟨vs,H1,I1,r1,q1⟩=>?_) hs rfl));obtain⟨j,e,q1,q2,q⟩:=q1;subst e
 cases r1 with
 | cons r rr =>
  cases rr
  obtain⟨t,rfl⟩:=r;exact call_range_1 (yT I1 'b' 'b' q1 q2 (by simpa using q))
def tFor(wi:TI)(g:TG)(tb:TS):TS:=λD σ H=>wi σ H λJ H1=>∃W:Nat->Nat->St->Hp->Prop,(∃m,W 0 m σ H1)/\∀i m σ H,W i m σ H ->
 (J.stop i H/\D.nx σ H)\/(J.go i H/\∃N:St->Hp->Prop,(∀σ' H',N σ' H'->∃m',m'<m/\W (i+1) m' σ' H')/\∀x H',J.yld i H x H'->g x σ H' λσ2 H2=>tb { D with nx:=N,ct:=N,bk:=D.nx } σ2 H2)
def mG(fp:List Addr)(h:Heap):List (Addr×Obj):=fp.filterMap λb=>(h.get? b).map λo=>(b,o)
theorem eL{h:Heap}{b:Addr}{o:Obj}(hb:b∈fp)(e:h.get? b=some o):(b,o)∈mG fp h:=List.mem_filterMap.mpr ⟨b,hb,by rw[e];rfl⟩
theorem wE{h:Heap}{p:Addr×Obj}(hp:p∈mG fp h):p.1∈fp/\h.get? p.1=some p.2:=by
 obtain⟨b,hb,e⟩:=List.mem_filterMap.mp hp
 cases q:h.get? b with
 | none=>rw[q] at e;cases e
 | some o =>
  rw[q] at e;have e':(b,o)=p:=Iq e;subst e';exact⟨hb,q⟩
theorem Inv.pinned(I:Inv X pins σ H s)(hf:∀b∈fp,xa X pins H b)(ho:∀b∈fp,∃o,s.heap.get? b=some o/\∀v,o.data≠.cell v):Inv X (pins++mG fp s.heap) σ H s :=
 I.pins_of λp hp=>(Ip.mp hp).elim (λz=>I.pin p (Ig _ z)) λz=>by
  obtain⟨hb,e⟩:=wE z;obtain⟨f0,f1,f2,_⟩:=hf p.1 hb;obtain⟨o,e',d⟩:=ho p.1 hb;rw[e] at e';cases e';exact⟨e,f0,f1,f2,d⟩
theorem Inv.unpinned{pl:List (Addr×Obj)}(I:Inv X (pins++pl) σ H s):Inv X pins σ H s:=I.pins_of λp hp=>I.pin p (Ig _ (Il _ hp))
theorem qA{iter:Expr}{body:List Stmt}{wi:TI}{g:TG}{tb:TS}{pos:Pos}(hp:PassesOwn 'k' X.A X.env X.xe)(hc:X.calm=true)(hi:PI X tg iter wi)(hg:PG X tg g)(hb:PSs X body tb)
  (hs:∀x,foldedSetIterable iter X.env x=pure x:=by intro _;rfl):PS X (.For tg iter body [] pos) (tFor wi g tb):=by
 intro aa s σ H D I h;refine wpAny_For (Hm (hi aa s σ H _ I h) λv s1 h1=>Hm h1 λitv s2 h2=>?_) hs;obtain⟨it,fp,tn,J,H2,e,I2,T,al,f2,W,⟨m0,w0⟩,ai⟩:=h2;subst e;have ab:∀ {H':Hp},(∀b∈fp,H' b=none)->∀b∈fp,xa X aa H' b:=λhn b hb=>⟨hn b hb,(f2 b hb).2⟩;refine codeAny_forLoop_any (λn s'=>∃i σ' H',Inv X aa σ' H' s'/\tn i s'.heap/\(∀b∈fp,H' b=none)/\W i n σ' H') ?_ m0 ⟨0,σ,H2,I2,al,λb hb=>(f2 b hb).1,w0⟩;rintro n s3 ⟨i,σ3,H3,I3,st3,fr3,w3⟩
 rcases ai i n σ3 H3 w3 with⟨ah,qn⟩ | ⟨go,N,hN,step⟩
 ·refine JS hp (Hm (T.done X rfl rfl rfl hc i aa s3 σ3 H3 X.xe I3 (ab fr3) st3 ah) λr s4 ⟨hr,I4⟩=>?_);subst hr;exact KZ ⟨σ3,H3,I4,qn⟩
 ·refine JS hp (Hm (T.item X rfl rfl rfl hc i aa s3 σ3 H3 X.xe I3 (ab fr3) st3 go) λr s4 ⟨u,hr,h4⟩=>?_);subst hr;refine JS hp (Hm h4 λ_ s5 ⟨x,H5,I5,r5,y5,st5,fr5⟩=>?_);have aj:=I5.pinned (ab fr5) (T.obj _ _ st5);refine JS hp (Hm (hg _ s5 σ3 H5 x u _ aj r5 (step x H5 y5)) λ_ s6 ⟨σ6,H6,I6,q6⟩=>?_);refine JS hp (Hm (hb _ s6 σ6 H6 _ I6 q6) λf s7 q7=>?_);have ag:∀ {σ7:St} {H7:Hp},Inv X (aa++mG fp s5.heap) σ7 H7 s7->N σ7 H7->∃m,m<n/\∃i σ' H',Inv X aa σ' H' s7/\tn i s7.heap/\(∀b∈fp,H' b=none)/\W i m σ' H':=λ{σ7 H7} I7 n7=>by
   obtain⟨m',hm,w7⟩:=hN σ7 H7 n7;refine⟨m',hm,i+1,σ7,H7,I7.unpinned,T.keep _ _ _ st5 λb hb o e=>(I7.pin (b,o) (Ig _ (Ig _ (eL hb e)))).1,λb hb=>?_,w7⟩;obtain⟨o,e,d⟩:=T.obj _ _ st5 b hb;exact(I7.pin (b,o) (Ig _ (Ig _ (eL hb e)))).2.1
  cases f with
  | next=>obtain⟨σ7,H7,I7,n7⟩:=q7;exact ag I7 n7
  | cont=>obtain⟨σ7,H7,I7,n7⟩:=q7;exact ag I7 n7
  | brk=>obtain⟨σ7,H7,I7,q7⟩:=q7;exact⟨σ7,H7,I7.unpinned,q7⟩
  | ret v=>obtain⟨x7,σ7,H7,I7,r7,q7⟩:=q7;exact⟨x7,σ7,H7,I7.unpinned,r7,q7⟩
end
theorem vp{lo:Int}{n:Nat}{g:TG}{tb:TS}{D:Az}(Pv:Nat->St->Hp->Prop)(h0:Pv 0 σ H)
  (hs:∀i σ H,i<n->Pv i σ H->g (.int (lo+i)) σ H λσ2 H2=>tb { D with nx:=Pv (i+1),ct:=Pv (i+1),bk:=D.nx } σ2 H2) (hd:∀σ H,Pv n σ H->D.nx σ H) :
  ∃W:Nat->Nat->St->Hp->Prop,(∃m,W 0 m σ H)/\∀i m σ H,W i m σ H ->
   ((Itr lo n).stop i H/\D.nx σ H)\/((Itr lo n).go i H/\∃N:St->Hp->Prop,(∀σ' H',N σ' H'->∃m',m'<m/\W (i+1) m' σ' H')/\∀x H',(Itr lo n).yld i H x H'->g x σ H' λσ2 H2=>tb { D with nx:=N,ct:=N,bk:=D.nx } σ2 H2):=by
 refine⟨λi m σ H=>m=n-i/\i<=n/\Pv i σ H,⟨n,by simp,Jq _,h0⟩,?_⟩;rintro i m σ H ⟨rfl,hi,p⟩
 by_cases hlt:i<n
 ·refine .inr ⟨hlt,Pv (i+1),λσ' H' p'=>⟨n-(i+1),by omega,rfl,hlt,p'⟩,λx H' y=>?_⟩;obtain⟨e,y⟩:=y;subst e y;exact hs i σ _ hlt p
 ·have e:i=n:=by omega
  subst e;exact .inl ⟨Ib _,hd σ H p⟩
end L2
namespace L2
open PySem PySem.Spec PyProof.Rows
variable {f:Value→Value→Sem Value} {op:CmpOp}
abbrev R2:=V->V->Hp->VK->Prop
def HC(X:Cx)(f:Value->Value->Sem Value)(r:R2):Prop :=
 ∀(pins:List (Addr×Obj)) (s:Shared) (σ:St) (H:Hp) (x y:V) (v u:Value) (Q:VK),Inv X pins σ H s->bE x v->bE y u->r x y H Q ->
  wpAny 'k' X.A (f v u) (EP X pins σ Q) X.xe s
def UnR(X:Cx)(f:Value->Sem Value)(r:V->Hp->VK->Prop):Prop :=
 ∀(pins:List (Addr×Obj)) (s:Shared) (σ:St) (H:Hp) (x:V) (v:Value) (Q:VK),Inv X pins σ H s->bE x v->r x H Q ->
  wpAny 'k' X.A (f v) (EP X pins σ Q) X.xe s
def bW(X:Cx)(f:Value)(r:Zf->Hp->VK->Prop):Prop :=
 ∀(pins:List (Addr×Obj)) (s:Shared) (σ:St) (H:Hp) (xs:Zf) (us:Zc) (Q:VK),Inv X pins σ H s->bI xs us->r xs H Q ->
  wpAny 'k' X.A (call f us) (EP X pins σ Q) X.xe s
def tOp(r:R2)(ta tb:TE):TE:=λσ H Q=>ta σ H λx H1=>tb σ H1 λy H2=>r x y H2 Q
def tUn(r:V->Hp->VK->Prop)(ta:TE):TE:=λσ H Q=>ta σ H λx H1=>r x H1 Q
def rI(C:Int->Int->Prop)(g:Int->Int->V):R2:=λx y H Q=>∃i j,x=.int i/\y=.int j/\C i j/\Q (g i j) H
def rI0(g:Int->Int->V):R2:=λx y H Q=>∃i j,x=.int i/\y=.int j/\Q (g i j) H
def rU(g:Int->V):V->Hp->VK->Prop:=λx H Q=>∃i,x=.int i/\Q (g i) H
section
variable {X:Cx} {a b c:Expr} {ta tb tc:TE} {pos:Pos}
theorem binT(ha:PE X a ta)(hb:PE X b tb){pins:List (Addr×Obj)}{s:Shared}{σ:St}{H:Hp}{R:V->V->Hp->Prop}(I:Inv X pins σ H s)
  (h:ta σ H λx H1=>tb σ H1 λy H2=>R x y H2) {Q:Value->Shared->Prop} {f:Value->Value->Sem Value}
  (hf:∀v u s2 x y H2,Inv X pins σ H2 s2->bE x v->bE y u->R x y H2->wpAny 'k' X.A (f v u) Q X.xe s2) :
  wpAny 'k' X.A (eval a X.env) (λv s₁=>wpAny 'k' X.A (eval b X.env) (λu s₂=>wpAny 'k' X.A (f v u) Q X.xe s₂) X.xe s₁) X.xe s:=by
 refine Hm (ha pins s σ H _ I h) λv s1 ⟨x,H1,I1,r1,q1⟩=>?_;refine Hm (hb pins s1 σ H1 _ I1 q1) λu s2 ⟨y,H2,I2,r2,q2⟩=>?_;exact hf v u s2 x y H2 I2 r1 r2 q2
theorem FL{op:Operator}{r:R2}(ho:HC X (binaryOp op) r)(ha:PE X a ta)(hb:PE X b tb):PE X (.BinOp a op b pos) (tOp r ta tb):=by
 intro aa s σ H Q I h;exact wpAny_BinOp (binT ha hb I h λv u s2 x y H2 I2 rx ry q=>ho aa s2 σ H2 x y v u Q I2 rx ry q)
theorem Gh{op:UnaryOp}{r:V->Hp->VK->Prop}(ho:UnR X (unaryOp op) r)(ha:PE X a ta):PE X (.UnaryOp op a pos) (tUn r ta):=by
 intro aa s σ H Q I h;exact UnaryOp_ (Hm (ha aa s σ H _ I h) λv s1 ⟨x,H1,I1,r1,q1⟩=>ho aa s1 σ H1 x v Q I1 r1 q1)
theorem opI{C:Int->Int->Prop}{g:Int->Int->Int}
  (rule:∀(i j:Int) (t u:Tok) (s:Shared) (Q:Value->Shared->Prop) (E:Value->Shared->Prop),C i j->Q (.int (g i j) s.toks) { s with toks:=s.toks+1 }->wpAny 'k' X.A (f (.int i t) (.int j u)) Q E s) :
  HC X f (rI C λi j=>.int (g i j)):=by
 intro aa s σ H x y v u Q I rx ry h;obtain⟨i,j,rfl,rfl,hc,q⟩:=h;obtain⟨t,rfl⟩:=rx;obtain⟨t',rfl⟩:=ry;exact rule i j t t' s _ _ hc ⟨.int (g i j),H,I.tok _,⟨_,rfl⟩,q⟩
theorem ym{g:Int->Int->Int}
  (rule:∀(i j:Int) (t u:Tok) (s:Shared) (Q:Value->Shared->Prop) (E:Value->Shared->Prop),Q (.int (g i j) s.toks) { s with toks:=s.toks+1 }->wpAny 'k' X.A (f (.int i t) (.int j u)) Q E s) :
  HC X f (rI0 λi j=>.int (g i j)):=by
 intro aa s σ H x y v u Q I rx ry h;obtain⟨i,j,rfl,rfl,q⟩:=h;obtain⟨t,rfl⟩:=rx;obtain⟨t',rfl⟩:=ry;exact rule i j t t' s _ _ ⟨.int (g i j),H,I.tok _,⟨_,rfl⟩,q⟩
theorem opB0{g:Int->Int->Bool}
  (rule:∀(i j:Int) (t u:Tok) (s:Shared) (Q:Value->Shared->Prop) (E:Value->Shared->Prop),Q (.bool (g i j)) s->wpAny 'k' X.A (f (.int i t) (.int j u)) Q E s) :
  HC X f (rI0 λi j=>.bl (g i j)):=by
 intro aa s σ H x y v u Q I rx ry h;obtain⟨i,j,rfl,rfl,q⟩:=h;obtain⟨t,rfl⟩:=rx;obtain⟨t',rfl⟩:=ry;exact rule i j t t' s _ _ ⟨.bl (g i j),H,I,rfl,q⟩
def CPow(i j:Int):Prop:=0<=j/\j<=1000000/\i.natAbs<2 ^ 64
def CMul(i j:Int):Prop:=(-(2 ^ 64)<i/\i<2 ^ 64)\/(-(2 ^ 64)<j/\j<2 ^ 64)
theorem CMul.ok{i j:Int}(h:CMul i j):IntMulOk i j:=by
 rcases h with⟨h1,h2⟩ | ⟨h1,h2⟩
 ·exact .of_left (intBits_le_64 h1 h2)
 ·exact .of_right (intBits_le_64 h1 h2)
theorem Ep:HC X (binaryOp .Add) (rI0 λi j=>.int (i+j)):=ym λ_ _ _ _ _ _ _ q=>add_int q
theorem Ej:HC X (binaryOp .Sub) (rI0 λi j=>.int (i-j)):=ym λ_ _ _ _ _ _ _ q=>sub_int q
theorem Cb:HC X (binaryOp .Mod) (rI (λ_ j=>j≠0) λi j=>.int (i.fmod j)):=opI λ_ _ _ _ _ _ _ hc q=>mod_int' hc q
theorem EZ:HC X (binaryOp .Pow) (rI CPow λi j=>.int (i ^ j.toNat)):=opI λ_ _ _ _ _ _ _ hc q=>pow_int_small hc.1 hc.2.1 hc.2.2 q
theorem Dp:HC X (binaryOp .LShift) (rI CPow λi j=>.int (i*2 ^ j.toNat)):=opI λ_ _ _ _ _ _ _ hc q=>lshift_int_small hc.1 hc.2.1 hc.2.2 q
theorem unI{f:Value->Sem Value}{g:Int->Int}
  (rule:∀(i:Int) (t:Tok) (s:Shared) (Q:Value->Shared->Prop) (E:Value->Shared->Prop),Q (.int (g i) s.toks) { s with toks:=s.toks+1 }->wpAny 'k' X.A (f (.int i t)) Q E s) :
  UnR X f (rU λi=>.int (g i)):=by
 intro aa s σ H x v Q I rx h;obtain⟨i,rfl,q⟩:=h;obtain⟨t,rfl⟩:=rx;exact rule i t s _ _ ⟨.int (g i),H,I.tok _,⟨_,rfl⟩,q⟩
theorem DB:UnR X (unaryOp .USub) (rU λi=>.int (-i)):=unI λ_ _ _ _ _ q=>neg_int q
end
def scal:V->V->Bool
 | .non,.non=>true | .non,.int _=>true | .int _,.non=>true | .non,.bl _=>true | .bl _,.non=>true | .non,.str _=>true | .str _,.non=>true
 | .int _,.int _=>true | .bl _,.bl _=>true | .str _,.str _=>true | .byt _,.byt _=>true
 | .int _,.str _=>true | .str _,.int _=>true | .bl _,.str _=>true | .str _,.bl _=>true
 | _,_=>false
def rEq:R2:=λx y H Q=>scal x y=true/\Q (.bl (decide (x=y))) H
def rNe:R2:=λx y H Q=>scal x y=true/\Q (.bl (!decide (x=y))) H
theorem oF{i j:Int}:decide (V.int i=V.int j)=(i==j):=by
 rw[Kt];simp
theorem we{i j:Bool}:decide (V.bl i=V.bl j)=(i==j):=by
 rw[Kt];simp
theorem pW{i j:Str}:decide (V.str i=V.str j)=(i==j):=by
 rw[Kt];simp
theorem ux{i j:Array UInt8}:decide (V.byt i=V.byt j)=(i.toList==j.toList):=by
 rw[Kt]
 cases i
 cases j
 simp
section
variable {X:Cx} {a b c:Expr} {ta tb tc:TE} {pos:Pos}
theorem aU{pins:List (Addr×Obj)}{σ:St}{H:Hp}{s:Shared}{Q:VK}{k k':Bool}(I:Inv X pins σ H s)(q:Q (.bl k) H)(e:k=k'):EP X pins σ Q (.bool k') s:=by
 subst e;exact⟨.bl k,H,I,rfl,q⟩
theorem CC:HC X (compareOp .Eq) rEq:=by
 intro aa s σ H x y v u Q I rx ry h;obtain⟨hs,q⟩:=h
 cases x with
 | non =>
  cases rx
  cases y with
  | non=>cases ry;exact PySem.EqNone.eq_none_none (aU I q 'p')
  | bl j=>cases ry;exact PySem.EqNone.eq_none_bool (aU I q 'p')
  | int j=>obtain⟨t',rfl⟩:=ry;exact PySem.EqNone.eq_none_int (aU I q 'p')
  | str j=>obtain⟨t',rfl⟩:=ry;exact PySem.EqNone.eq_none_str (aU I q 'p')
  | _=>exact absurd (show false=true from hs) Ie
 | bl i =>
  cases rx
  cases y with
  | non=>cases ry;exact PySem.EqNone.eq_bool_none (aU I q 'p')
  | bl j=>cases ry;exact eq_bool (aU I q we)
  | str j=>obtain⟨t',rfl⟩:=ry;exact PySem.EqMixed.eq_bool_str (aU I q 'p')
  | _=>exact absurd (show false=true from hs) Ie
 | int i =>
  obtain⟨t,rfl⟩:=rx
  cases y with
  | non=>cases ry;exact PySem.EqNone.eq_int_none (aU I q 'p')
  | int j=>obtain⟨t',rfl⟩:=ry;exact eq_int (aU I q oF)
  | str j=>obtain⟨t',rfl⟩:=ry;exact PySem.EqMixed.eq_int_str (aU I q 'p')
  | _=>exact absurd (show false=true from hs) Ie
 | str i =>
  obtain⟨t,rfl⟩:=rx
  cases y with
  | non=>cases ry;exact PySem.EqNone.eq_str_none (aU I q 'p')
  | bl j=>cases ry;exact PySem.EqMixed.eq_str_bool (aU I q 'p')
  | int j=>obtain⟨t',rfl⟩:=ry;exact PySem.EqMixed.eq_str_int (aU I q 'p')
  | str j=>obtain⟨t',rfl⟩:=ry;exact eq_str (aU I q pW)
  | _=>exact absurd (show false=true from hs) Ie
 | byt i =>
  obtain⟨t,rfl⟩:=rx
  cases y with
  | byt j=>obtain⟨t',rfl⟩:=ry;exact PySem.W.eq_bytes (aU I q ux)
  | _=>exact absurd (show false=true from hs) Ie
 | _=>cases y<;>exact absurd (show false=true from hs) Ie
theorem BU:HC X (compareOp .NotEq) rNe:=by
 intro aa s σ H x y v u Q I rx ry h;obtain⟨hs,q⟩:=h
 cases x with
 | non =>
  cases rx
  cases y with
  | non=>cases ry;exact PySem.EqNone.ne_none_none (aU I q 'p')
  | bl j=>cases ry;exact PySem.EqNone.ne_none_bool (aU I q 'p')
  | int j=>obtain⟨t',rfl⟩:=ry;exact PySem.EqNone.ne_none_int (aU I q 'p')
  | str j=>obtain⟨t',rfl⟩:=ry;exact PySem.EqNone.ne_none_str (aU I q 'p')
  | _=>exact absurd (show false=true from hs) Ie
 | bl i =>
  cases rx
  cases y with
  | non=>cases ry;exact PySem.EqNone.ne_bool_none (aU I q 'p')
  | bl j=>cases ry;exact ne_bool (aU I q (JK not we))
  | str j=>obtain⟨t',rfl⟩:=ry;exact PySem.EqMixed.ne_bool_str (aU I q 'p')
  | _=>exact absurd (show false=true from hs) Ie
 | int i =>
  obtain⟨t,rfl⟩:=rx
  cases y with
  | non=>cases ry;exact PySem.EqNone.ne_int_none (aU I q 'p')
  | int j=>obtain⟨t',rfl⟩:=ry;exact ne_int (aU I q (JK not oF))
  | str j=>obtain⟨t',rfl⟩:=ry;exact PySem.EqMixed.ne_int_str (aU I q 'p')
  | _=>exact absurd (show false=true from hs) Ie
 | str i =>
  obtain⟨t,rfl⟩:=rx
  cases y with
  | non=>cases ry;exact PySem.EqNone.ne_str_none (aU I q 'p')
  | bl j=>cases ry;exact PySem.EqMixed.ne_str_bool (aU I q 'p')
  | int j=>obtain⟨t',rfl⟩:=ry;exact PySem.EqMixed.ne_str_int (aU I q 'p')
  | str j=>obtain⟨t',rfl⟩:=ry;exact ne_str (aU I q (JK not pW))
  | _=>exact absurd (show false=true from hs) Ie
 | byt i =>
  obtain⟨t,rfl⟩:=rx
  cases y with
  | byt j=>obtain⟨t',rfl⟩:=ry;exact PySem.W.ne_bytes (aU I q (JK not ux))
  | _=>exact absurd (show false=true from hs) Ie
 | _=>cases y<;>exact absurd (show false=true from hs) Ie
theorem GT:HC X (compareOp .Lt) (rI0 λi j=>.bl (decide (i<j))):=opB0 λ_ _ _ _ _ _ _ q=>lt_int q
theorem Hc:HC X (compareOp .LtE) (rI0 λi j=>.bl (decide (i<=j))):=opB0 λ_ _ _ _ _ _ _ q=>le_int q
theorem FV:HC X (compareOp .Gt) (rI0 λi j=>.bl (decide (j<i))):=opB0 λ_ _ _ _ _ _ _ q=>gt_int q
theorem GI:HC X (compareOp .GtE) (rI0 λi j=>.bl (decide (j<=i))):=opB0 λ_ _ _ _ _ _ _ q=>ge_int q
theorem zy:HC X (compareOp .Is) (λx y H Q=>y=.non/\Q (.bl (decide (x=.non))) H):=by
 intro aa s σ H x y v u Q I rx ry h;obtain⟨rfl,q⟩:=h
 cases ry
 refine is_none_gen (aU I q ?_)
 cases x<;>first
  | (cases rx;rfl)
  | (obtain⟨t,rfl⟩:=rx;rfl)
theorem HC.or{r r':R2}(h:HC X f r)(h':HC X f r'):HC X f (λx y H Q=>r x y H Q\/r' x y H Q):=by
 intro aa s σ H x y v u Q I rx ry q
 rcases q with q | q
 ·exact h aa s σ H x y v u Q I rx ry q
 ·exact h' aa s σ H x y v u Q I rx ry q
theorem ay(b:Expr)(h:op≠.In:=by decide)(h2:op≠.NotIn:=by decide):behindInMarks op b=false:=by
 have e1:(op==CmpOp.In)=false:=by cases op<;>first | rfl | exact absurd rfl h
 have e2:(op==CmpOp.NotIn)=false:=by cases op<;>first | rfl | exact absurd rfl h2
 cases b<;>simp[behindInMarks,e1,e2]
theorem Ar{r:R2}(ho:HC X (compareOp op) r)(ha:PE X a ta)(hb:PE X b tb)(hm:behindInMarks op b=false):PE X (.Compare a [op] [b] pos) (tOp r ta tb):=by
 intro aa s σ H Q I h;exact wpAny_Compare1 (binT ha hb I h λv u s2 x y H2 I2 rx ry q=>ho aa s2 σ H2 x y v u Q I2 rx ry q) hm
def F4(t:TE):TT:=λσ H Q=>t σ H λx H'=>∃k,x=.bl k/\Q k H'
theorem Am{r:R2}(ho:HC X (compareOp op) r)(ha:PE X a ta)(hb:PE X b tb)(hm:behindInMarks op b=false):PT X (.Compare a [op] [b] pos) (F4 (tOp r ta tb)):=by
 intro aa s σ H Q I h
 refine wpAny_isTrue_Compare1 (Hm (ha aa s σ H _ I h) λv s1 ⟨x,H1,I1,r1,q1⟩=>Hm (hb aa s1 σ H1 _ I1 q1) λu s2 ⟨y,H2,I2,r2,q2⟩ =>
  Hm (ho aa s2 σ H2 x y v u _ I2 r1 r2 q2) λc s3 ⟨z,H3,I3,r3,k,e,q3⟩=>?_) hm
 subst e
 cases r3
 exact JI ⟨H3,I3,q3⟩
theorem rj:(sizeLine:Nat)<2 ^ 63:=by rw[sizeLine_eq];decide
theorem eU{x:V}{us:Zc}(r:bI [x] us):∃u,us=[u]/\bE x u:=by
 cases r with
 | cons r1 r2=>cases r2;exact⟨_,rfl,r1⟩
theorem Fz{x y:V}{us:Zc}(r:bI [x,y] us):∃u w',us=[u,w']/\bE x u/\bE y w':=by
 cases r with
 | cons r1 r2 =>
  cases r2 with
  | cons r3 r4=>cases r4;exact⟨_,_,rfl,r1,r3⟩
theorem ye:bW X (.builtin "abs") (λxs H Q=>∃i,xs=[.int i]/\Q (.int (if i<0 then -i else i)) H):=by
 intro aa s σ H xs us Q I r h;obtain⟨i,rfl,q⟩:=h;obtain⟨u,rfl,t,rfl⟩:=eU r;exact call_abs_int λu tk=>⟨.int (if i<0 then -i else i),H,I.tok _,⟨_,rfl⟩,q⟩
theorem tZ(hc:X.calm=true):bW X (.builtin "max") (λxs H Q=>∃i j,xs=[.int i,.int j]/\Q (.int (if j>i then j else i)) H):=by
 intro aa s σ H xs us Q I r h;obtain⟨i,j,rfl,q⟩:=h;obtain⟨u,w',rfl,⟨t,rfl⟩,⟨t',rfl⟩⟩:=Fz r;refine max_two_ints (I.ok.hd hc) λh' tk k=>⟨_,H,I.kept k,?_,q⟩
 by_cases hj:j>i
 ·rw[Ir hj,Ir hj];exact⟨_,rfl⟩
 ·rw[Io hj,Io hj];exact⟨_,rfl⟩
theorem wc:bW X (.type "int") (λxs H Q=>(∃i,xs=[.int i]/\Q (.int i) H)\/∃k,xs=[.bl k]/\Q (.int (if k then 1 else 0)) H):=by
 intro aa s σ H xs us Q I r h
 rcases h with⟨i,rfl,q⟩ | ⟨k,rfl,q⟩
 ·obtain⟨u,rfl,t,rfl⟩:=eU r;exact call_int_int ⟨.int i,H,I,⟨_,rfl⟩,q⟩
 ·obtain⟨u,rfl,r1⟩:=eU r
  cases r1
  exact call_int_bool ⟨.int (if k then 1 else 0),H,I.tok _,⟨_,rfl⟩,q⟩
end
end L2
namespace L2
open PySem PySem.Spec PyProof.Rows
structure ObjM(h:Heap)(x dx C:Addr)(mA:Str->Zd):Prop where
 obj:h.get? x=some (PySem.W.instObj C dx)
 ns:h.Ns1 dx mA
 ne:dx≠x
theorem wz{h:Heap}{dx:Addr}{mA:Str->Zd}(n:h.Ns1 dx mA):∃od,h.get? dx=some od/\∀name,PySem.W.lookIn name od=some (mA name):=by
 obtain⟨o,es,ep,ho,hd,hk,_,hm⟩:=n;refine⟨o,ho,λname=>?_⟩;have e:=hm name;unfold nsFind findBy at e;rw[<- Array.find?_toList] at e;unfold PySem.W.lookIn;rw[hd]
 dsimp only
 split
 ·rename_i y q
  rw[q] at e;exact JK some e
 ·rename_i q
  rw[q] at e;have a:es.toList.any (·.refKey)=false:=by
   rw[List.any_eq_false];intro y hy;obtain⟨z,t,aa⟩:=hk y (Array.mem_toList_iff.mp hy);simp[DictEntry.refKey,aa]
  have a':¬ es.toList.any (·.refKey)=true:=by rw[a];exact Ie
  rw[Io a'];exact JK some e
theorem ObjM.look{h:Heap}{x dx C:Addr}{mA:Str->Zd}(I:ObjM h x dx C mA):∃od,PySem.W.InstAt h x (PySem.W.instObj C dx) C (some od)/\∀name,PySem.W.lookIn name od=some (mA name) :=
 let ⟨od,ho,hl⟩:=wz I.ns
 ⟨od,⟨I.obj,rfl,rfl,ho⟩,hl⟩
section
variable {prog:Program} {w:World} {A:Around} {E:Value→Shared→Prop} {s:Shared} {K:PySem.W.Frag} {x dx C f:Addr} {mA:Str→Zd} {name:Str} {v:Value}
end
theorem tL.some_of{v:V}{o:Zd}(r:tL (some v) o):∃u,o=some u/\bE v u:=by
 cases o with
 | none=>exact(show False from r).elim
 | some u=>exact⟨u,rfl,r⟩
section
variable {P:Program} {w:World} {H H':Hp} {h h':Heap} {a C dx:Addr} {fs fs':List (Str×V)}
theorem BD(hok:HH P w H h)(e:H a=some (.ins C dx fs)):∃mA,ObjM h a dx C mA/\(∀f,tL (fs.lookup f) (mA f))/\PySem.Within mA (fs.map (·.1))/\fs.length<=1000/\H dx=some (.own a):=by
 obtain⟨d,z,ne,ob,mA,n,r,q⟩:=(show bQ P w H h a (.ins C dx fs) from hok a _ e);exact⟨mA,⟨ob,n,ne⟩,r,q,z,d⟩
end
structure Cls(K:PySem.W.Frag)(C:Addr):Prop where
 pg:PySem.W.plainGet K C Str.empty=true
 hd:PySem.W.hasDictIn K C=true
 po:PySem.W.plainOver K C=true
 sa:PySem.W.findIn K (.ref C) "__setattr__"=some (some (.builtin "object.__setattr__"))
theorem Cls.get{K:PySem.W.Frag}{C:Addr}(c:Cls K C)(f:Str):PySem.W.plainGet K C f=true:=c.pg
section
variable {X:Cx} {pins:List (Addr×Obj)} {σ:St} {H:Hp} {s:Shared} {a C dx:Addr} {fs:List (Str×V)} {f:Str} {v:V} {A:Around} {E:Value→Shared→Prop}
end
section
variable {X:Cx} {o e value:Expr} {f:Str} {pos pos' tpos:Pos} {ta tv:TE}
end
section
variable {X:Cx} {pins:List (Addr×Obj)} {σ:St} {H:Hp} {s:Shared} {A:Around} {E:Value→Shared→Prop} {Q:Value→Shared→Prop} {c:Value} {b:Bool}
inductive tX(K:PySem.W.Frag)(H:Hp):V->Value->Prop where
 | non:tX K H .non (.type "NoneType")
 | bl (x:Bool):tX K H (.bl x) (.type "bool")
 | int (i:Int):tX K H (.int i) (.type "int")
 | str (x:Str):tX K H (.str x) (.type "str")
 | flt (x:UInt64):tX K H (.flt x) (.type "float")
 | lst {a:Addr} {xs:Zf} (e:H a=some (.lst xs)):tX K H (.ref a) (.type "list")
 | frz {a:Addr} {o:Obj} {xs:Zf} (e:H a=some (.frz o (.lst xs))):tX K H (.ref a) (.type "list")
 | tup {a:Addr} {xs:Zf} (e:H a=some (.tup xs)):tX K H (.ref a) (.type "tuple")
 | dK {a:Addr} {kvs:List (Ho×V)} (e:H a=some (.dK kvs)):tX K H (.ref a) (.type "dict")
 | dT {a:Addr} {kvs:List (List Ho×V)} (e:H a=some (.dT kvs)):tX K H (.ref a) (.type "dict")
 | ins {a C dx:Addr} {fs:List (Str×V)} (e:H a=some (.ins C dx fs)) (cl:Cls K C) (ha:PySem.W.findIn K (.ref C) "__class__"=some (some (.builtin "object.__class__")))
   (hn:PySem.W.specialIn K (.builtin "object.__class__") "__get__"=some (some (.builtin "getset_descriptor.__get__"))) (htk:PySem.W.takesIn K (.builtin "object.__class__")=some true)
   (hm:PySem.W.mroIn K C (.type "object")=some true):tX K H (.ref a) (.ref C)
theorem dF{x:V}{u t:Value}(I:Inv X pins σ H s)(rx:bE x u)(ty:tX X.K H x t)(e:PySem.W.kitOne X.K t c=some b)(h:∀tk,Q (.bool b) { s with toks:=tk }) :
  wpAny 'k' A (call (.builtin "isinstance") [u,c]) Q E s:=by
 cases ty with
 | non=>cases (show u=Value.none from rx);exact Ja PySem.W.kitx_none I.kIn True.intro e (λz=>nomatch z) h
 | bl y=>cases (show u=Value.bool y from rx);exact Ja PySem.W.kitx_bool I.kIn True.intro e (λz=>nomatch z) h
 | int i=>obtain⟨t,q⟩:=(show ∃t,u=Value.int i t from rx);cases q;exact Ja PySem.W.kitx_int I.kIn True.intro e (λz=>nomatch z) h
 | str y=>obtain⟨t,q⟩:=(show ∃t,u=Value.str y t from rx);cases q;exact Ja PySem.W.kitx_str I.kIn True.intro e (λz=>nomatch z) h
 | flt y=>obtain⟨t,q⟩:=(show ∃t,u=Value.float y t from rx);cases q;exact Ja PySem.W.kitx_float I.kIn True.intro e (λz=>nomatch z) h
 | @lst a xs ea =>
  cases (show u=Value.ref a from rx)
  obtain⟨_,_,n,_,h1⟩:=(show bQ X.prog X.w H s.heap a (.lst xs) from I.hok a _ ea);exact Ja PySem.W.kitx_list I.kIn ⟨_,h1,rfl⟩ e (λz=>nomatch z) h
 | @frz a ob xs ea =>
  cases (show u=Value.ref a from rx)
  obtain⟨_,_,_,n,_,h1⟩:=(show bQ X.prog X.w H s.heap a (.frz ob (.lst xs)) from I.hok a _ ea);exact Ja PySem.W.kitx_list I.kIn ⟨_,h1,rfl⟩ e (λz=>nomatch z) h
 | @tup a xs ea =>
  cases (show u=Value.ref a from rx)
  obtain⟨_,_,_,p⟩:=(show bQ X.prog X.w H s.heap a (.tup xs) from I.hok a _ ea);obtain⟨o,h1,h2,_⟩:=p;exact Ja PySem.W.kitx_tuple I.kIn ⟨o,h1,h2⟩ e (λz=>nomatch z) h
 | @dK a kvs ea =>
  cases (show u=Value.ref a from rx)
  obtain⟨_,_,vs,_,p⟩:=(show bQ X.prog X.w H s.heap a (.dK kvs) from I.hok a _ ea);obtain⟨o,es,ep,h1,h2,_⟩:=p;exact Ja KA I.kIn ⟨o,h1,h2.1⟩ e (λz=>nomatch z) h
 | @dT a kvs ea =>
  cases (show u=Value.ref a from rx)
  obtain⟨_,_,xs,_,o,es,ep,h1,h2,_⟩:=(show bQ X.prog X.w H s.heap a (.dT kvs) from I.hok a _ ea);exact Ja KA I.kIn ⟨o,h1,h2.1⟩ e (λz=>nomatch z) h
 | @ins a C dx fs ea cl ha hn htk hm =>
  cases (show u=Value.ref a from rx)
  obtain⟨mA,O,_⟩:=BD I.hok ea;obtain⟨od,J,_⟩:=O.look;exact Ja (PySem.W.kitx_own (cl.get _) cl.hd ha hn htk hm) I.kIn J e (λz=>nomatch z) h
end
end L2
namespace L2
open PySem PySem.Spec PyProof.Rows
variable {k:Nat} {A:Around} {P:Program} {w:World} {K:PySem.W.Frag} {mg:Str→Zd} {base:Heap} {f:Addr} {fd:FuncData} {ps:Zb} {x:Str}
structure gG(k:Nat)(A:Around):Prop where
 hd:A.handled=none
 dp:A.depth+3*k+5<recursionLimit
 un:A.units+16*k+200<cLine
theorem gG.mono{j:Nat}(r:gG k A)(h:j<=k):gG j A:=⟨r.hd,by have:=r.dp;omega,by have:=r.un;omega⟩
theorem gG.deeper(r:gG (k+1) A)(env:Env):gG k (A.deeper env) :=
 ⟨r.hd,by have:=r.dp;show A.depth+1+3*k+5<_;omega,by have:=r.un;show A.units+3+16*k+200<_;omega⟩
theorem gG.depth(r:gG k A):A.depth<recursionLimit:=by have:=r.dp;omega
theorem gG.units(r:gG k A):A.units+64<cLine:=by have:=r.un;omega
def tNil:TA:=λ_ H Q=>Q [] H
def Go(ta:TE)(tr:TA):TA:=λσ H Q=>ta σ H λx H1=>tr σ H1 λxs H2=>Q (x::xs) H2
section
variable {X:Cx} {e:Expr} {es:List Expr} {te:TE} {t:TA} {pos:Pos}
theorem gf:PA X [] tNil:=λ_ _ _ _ H Q I h=>KB ⟨[],H,I,.nil,h⟩
theorem bX(ha:PE X e te)(hr:PA X es t)(hs:starEach (e::es) X.env=(false,eval e X.env)::starEach es X.env:=by rfl):PA X (e::es) (Go te t):=by
 intro pos aa s σ H Q I h;rw[hs];show wpAny _ _ (spliced ((false,eval e X.env)::backTo pos (starEach es X.env))) _ _ s;refine J1 (Hm (ha aa s σ H _ I h) λu s1 ⟨x,H1,I1,r1,q1⟩=>?_);exact Hm (hr pos aa s1 σ H1 _ I1 q1) λus s2 ⟨xs,H2,I2,r2,q2⟩=>⟨x::xs,H2,I2,.cons r1 r2,q2⟩
def tTup(t:TA):TE:=λσ H Q=>t σ H λxs H1=>xs.length<=sizeLine/\∀p,H1 p=none->Q (.ref p) (HL H1 p (.tup xs))
def tLst(t:TA):TE:=λσ H Q=>t σ H λxs H1=>xs.length<=sizeLine/\∀p,H1 p=none->Q (.ref p) (HL H1 p (.lst xs))
theorem Fi{x1}(h:PA X es t):PE X (.Tuple es x1 pos) (tTup t):=by
 intro aa s σ H Q I hq;refine wpAny_Tuple_spliced (Hm (h pos aa s σ H _ I hq) λus s1 ⟨xs,H1,I1,r,z,q⟩=>⟨by rw[<- r.length];exact z,?_⟩);have hf:H1 s1.heap.objs.size=none:=I1.hok.fresh (Ib _);refine⟨.ref s1.heap.objs.size,HL H1 s1.heap.objs.size (.tup xs),I1.laid (t':=s1.toks) (λb u e=>Heap.get?_push_of_some _ e) (Ib _) ?_,rfl,q _ hf⟩;exact⟨z,us,r,⟨_,Heap.get?_push_size _ rfl,rfl,_,rfl⟩⟩
theorem vk(h:PA X es t):PE X (.List es pos) (tLst t):=by
 intro aa s σ H Q I hq;refine wpAny_List_spliced (Hm (h pos aa s σ H _ I hq) λus s1 ⟨xs,H1,I1,r,z,q⟩=>⟨by rw[<- r.length];exact z,?_⟩);have hf:H1 s1.heap.objs.size=none:=I1.hok.fresh (Ib _);refine⟨.ref s1.heap.objs.size,HL H1 s1.heap.objs.size (.lst xs),I1.laid (t':=s1.toks) (λb u e=>Heap.get?_push_of_some _ e) (Ib _) ?_,rfl,q _ hf⟩;exact⟨z,us,0,r,Heap.get?_push_size _ rfl⟩
end
abbrev Sp:=List V->Hp->VK->XK->Prop
abbrev CXT:=List Env->Hp->Shared->XK->Value->Shared->Prop
structure Env0(P:Program)(w:World)(K:PySem.W.Frag)(mg:Str->Zd)(base:Heap)(A:Around)(outer:List Env)(s:Shared)(H:Hp):Prop where
 frames:A.frames=some outer
 mod:Mod K mg base
 bs:∀b o,base.get? b=some o->s.heap.get? b=some o/\H b=none
 bsz:base.objs.size<=s.heap.objs.size
 funs:s.heap.FunFrames base outer
 frf:∀b∈frs outer,H b=none
 hok:HH P w H s.heap
 bare:AllBare s.gens
def CE(outer:List Env)(P:Program)(w:World)(H:Hp)(s:Shared)(Q:VK)(u:Value)(s':Shared):Prop :=
 ∃v H',s'.os=s.os/\AllBare s'.gens/\Un (frs outer) [] H H' s.heap s'.heap/\HH P w H' s'.heap/\bE v u/\Q v H'
def CR(CX:CXT)(outer:List Env)(P:Program)(w:World)(H:Hp)(s:Shared)(Q:VK)(E:XK)(r:Result)(s':Shared):Prop :=
 match r with
 | .ok (.ret u)=>CE outer P w H s Q u s'
 | .ok _=>False
 | .error e=>CX outer H s E e s'
structure ml(P:Program)(w:World)(K:PySem.W.Frag)(mg:Str->Zd)(base:Heap)(CX:CXT)(k:Nat)(f:Addr)(fd:FuncData)(ps:Zb)(sp:Sp):Prop where
 len:∀vs H Q E,sp vs H Q E->vs.length=ps.length
 run:∀(A:Around) (outer:List Env) (s:Shared) (H:Hp) (args:Args) (us:Zc) (vs:Zf) (Q:VK) (E:XK),gG k A->Env0 P w K mg base A outer s H->BindsTo s fd args (ps.zip us)->bI vs us->sp vs H Q E ->
  codeAny (model P w) A (.call (.ref f) args) (CR CX outer P w H s Q E) s
theorem ml.mono{CX:CXT}{j:Nat}{sp:Sp}(F:ml P w K mg base CX j f fd ps sp)(h:j<=k) :
  ml P w K mg base CX k f fd ps sp:=⟨F.len,λA outer s H args us vs Q E hr=>F.run A outer s H args us vs Q E (hr.mono h)⟩
theorem ml.imp{CX:CXT}{sp sp':Sp}(F:ml P w K mg base CX k f fd ps sp)
  (h:∀vs H Q E,sp' vs H Q E->sp vs H Q E):ml P w K mg base CX k f fd ps sp' :=
 ⟨λvs H Q E q=>F.len vs H Q E (h _ _ _ _ q),λA outer s H args us vs Q E hr he hb hv hs=>F.run A outer s H args us vs Q E hr he hb hv (h _ _ _ _ hs)⟩
section
variable {X:Cx} {pins:List (Addr×Obj)} {σ:St} {H:Hp} {s s':Shared}
theorem Inv.env0(I:Inv X pins σ H s):Env0 X.prog X.w X.K X.mg X.base X.A X.stack s H :=
 ⟨I.ok.frames,I.ok.mod,I.bs,HX I.ok.bsz I.sz,I.stack,I.stkFree,I.hok,I.bare⟩
theorem Inv.after{Q:VK}{u:Value}(I:Inv X pins σ H s)(h:CE X.stack X.prog X.w H s Q u s'):EP X pins σ Q u s':=by
 obtain⟨v,H',os,aa,un,ab,r,q⟩:=h;obtain⟨hh,g,d,t,ag⟩:=s';obtain rfl:ag=s.os:=os;exact⟨v,H',I.call (h':=hh) (g':=g) (d':=d) (t':=t) (ch:=[]) un ab aa (λb z=>absurd z 'p'),r,q⟩
end
def GO(sp:Sp)(dvs:Zf)(E:XK)(t:TA):TE:=λσ H Q=>t σ H λvs H1=>sp (vs++dvs) H1 Q E
def mU(K:PySem.W.Frag)(fd:FuncData)(ps:Zb)(ds:Zc):Prop :=
 ∀(s:Shared) (us:Zc),K.In s.heap->(us++ds).length=ps.length->BindsTo s fd ⟨us,[]⟩ (ps.zip (us++ds))
theorem mU.all(h:∀us:Zc,us.length=ps.length->bindArgs fd ⟨us,[]⟩=pure (ps.zip us)):mU K fd ps []:=λs us _ hl=>by
 rw[IZ] at hl ⊢;exact .of_eq (h us hl)
def uO(CX:CXT)(X:Cx)(E:XK):Prop:=∀(pins:List (Addr×Obj)) (σ:St) (H:Hp) (s:Shared) (e:Value) (s':Shared),Inv X pins σ H s->CX X.stack H s E e s'->X.xe e s'
section
variable {X:Cx} {CX:CXT} {k:Nat} {f C:Addr} {fd:FuncData} {ps:Zb} {sp:Sp} {dvs:Zf} {ds:Zc} {E:XK} {x m:Str} {p pos apos:Pos} {e o:Expr} {es:List Expr} {ta:TE} {t:TA}
theorem C3{pins:List (Addr×Obj)}{σ:St}{H:Hp}{s:Shared}{Q:VK}{us:Zc}{vs:Zf}(F:ml X.prog X.w X.K X.mg X.base CX k f fd ps sp)(hr:gG k X.A)(hb:mU X.K fd ps ds)(hd:bI dvs ds)(hx:uO CX X E)
  (I:Inv X pins σ H s) (r:bI vs us) (h:sp (vs++dvs) H Q E):wpAny 'k' X.A (call (.ref f) us) (EP X pins σ Q) X.xe s:=by
 have r2:bI (vs++dvs) (us++ds):=r.append hd
 have hl:(us++ds).length=ps.length:=by rw[<- r2.length];exact F.len _ _ _ _ h
 refine wpAny_call (KI (F.run X.A X.stack s H ⟨us,[]⟩ (us++ds) (vs++dvs) Q E hr I.env0 (hb s us I.kIn hl) r2 h) λr s' hq=>?_)
 cases r with
 | error e=>exact hx pins σ H s e s' I hq
 | ok fl =>
  cases fl with
  | ret u=>exact I.after hq
  | next=>exact False.elim hq
  | brk=>exact False.elim hq
  | cont=>exact False.elim hq
theorem my(F:ml X.prog X.w X.K X.mg X.base CX k f fd ps sp)(hr:gG k X.A)(hg:Gl X x)(hm:X.mg x=some (.ref f))(hk:PySem.W.keepIn X.K (.ref f)=true)(hb:mU X.K fd ps ds)(hd:bI dvs ds)(hx:uO CX X E)
  (ha:PA X (e::es) t) (hdb:(x==("__debug__":Str))=false:=by decide) (he:starEach (e::es) X.env=(false,eval e X.env)::starEach es X.env:=by rfl) (hpl:(backTo pos (starEach es X.env)).any (·.1)=false:=by rfl) :
  PE X (.Call (.Name x p) (e::es) [] pos) (GO sp dvs E t):=by
 intro aa s σ H Q I h;refine J2 (uw I hg hm ?_ hdb);refine PySem.W.callWith_K (h₀:=X.base) I.ok.mod.kin hk (Hm (ha pos aa s σ H _ I h) λus s1 ⟨vs,H1,I1,r,q⟩=>⟨I1.kIn,?_⟩) he hpl;exact C3 F hr hb hd hx I1 r q
end
section
variable {X:Cx} {CX:CXT} {k:Nat} {f C:Addr} {fd:FuncData} {ps ks:Zb} {sp:Sp} {E:XK} {x m:Str} {p pos apos kpos:Pos} {e o:Expr} {es:List Expr} {kws:List Keyword} {te ta:TE} {t tk:TA} {nm:Option Str}
variable {g:Zc→Zc→Zc} {gV:Zf→Zf→Zf}
end
structure ax(N P:Zb)(sc:Scope):Prop where
 kind:sc.kind=.function
 co:sc.isCoroutine=false
 gen:sc.isGenerator=false
 nd:N.Nodup
 pre:N.take P.length=P
 par:∀x∈P,sc.names.lookup x=some .local\/sc.names.lookup x=some .cell
 nofree:∀y∈sc.names,y.2≠.free
theorem nQ{kindOf:Str->Option NameKind}:∀ {binds:List (Str×Value)} {m:Str->Zd},(∀v,(x,v)∉binds)->bindL kindOf binds m x=m x
 | [],_,_=>rfl
 | (n,v)::r,m,h=>by
  unfold bindL;rw[nQ λw hw=>h w (HV _ hw)]
  split
  ·have:x≠n:=by rintro rfl;exact h v HY
   simp[this]
  ·rfl
theorem m5{kindOf:Str->Option NameKind}:∀ {binds:List (Str×Value)} {m:Str->Zd},(∀v,(x,v)∉binds)->bindC kindOf binds m x=m x
 | [],_,_=>rfl
 | (n,v)::r,m,h=>by
  unfold bindC;rw[m5 λw hw=>h w (HV _ hw)]
  split
  ·rfl
  ·have:x≠n:=by rintro rfl;exact h v HY
   simp[this]
theorem n9{kindOf:Str->Option NameKind}{v:Value}:∀ {P:Zb} {vs:Zc} {i:Nat} {m:Str->Zd},P.Nodup->P[i]?=some x->vs[i]?=some v->kindOf x=some .local ->
  bindL kindOf (P.zip vs) m x=some v
 | [],_,_,_,_,h,_,_=>by simp at h
 | _::_,[],_,_,_,_,h,_=>by simp at h
 | p::P,w::vs,0,m,nd,h1,h2,hk=>by
  simp at h1 h2;subst h1;subst h2;show bindL kindOf ((p,w)::P.zip vs) m p=_;unfold bindL;rw[nQ λv hv=>(Jg.mp nd).1 (IT hv).1,Ir hk];simp
 | p::P,w::vs,i+1,m,nd,h1,h2,hk=>by
  show bindL kindOf ((p,w)::P.zip vs) m x=_
  unfold bindL;exact n9 (i:=i) (Jg.mp nd).2 (by simpa using h1) (by simpa using h2) hk
theorem nV{kindOf:Str->Option NameKind}{v:Value}:∀ {P:Zb} {vs:Zc} {i:Nat} {m:Str->Zd},P.Nodup->P[i]?=some x->vs[i]?=some v->kindOf x≠some .local ->
  bindC kindOf (P.zip vs) m x=some v
 | [],_,_,_,_,h,_,_=>by simp at h
 | _::_,[],_,_,_,_,h,_=>by simp at h
 | p::P,w::vs,0,m,nd,h1,h2,hk=>by
  simp at h1 h2;subst h1;subst h2;show bindC kindOf ((p,w)::P.zip vs) m p=_;unfold bindC;rw[m5 λv hv=>(Jg.mp nd).1 (IT hv).1,Io hk];simp
 | p::P,w::vs,i+1,m,nd,h1,h2,hk=>by
  show bindC kindOf ((p,w)::P.zip vs) m x=_
  unfold bindC;exact nV (i:=i) (Jg.mp nd).2 (by simpa using h1) (by simpa using h2) hk
def start(N:Zb)(vs:Zf):St:=vs.map some++List.replicate (N.length-vs.length) none
def wX(CX:CXT)(P:Program)(w:World)(K:PySem.W.Frag)(mg:Str->Zd)(base:Heap)(N:Zb)(qual:Str)(scope:Scope)(f:Addr)(cd:Value)(A:Around)(outer:List Env)(s:Shared)(H:Hp)(E:XK):Cx where
 prog:=P
 w:=w
 K:=K
 mg:=mg
 base:=base
 A:=A.deeper (envOfC qual scope s.heap.objs.size f cd)
 N:=N
 s₀:=s
 H₀:=H
 env:=envOfC qual scope s.heap.objs.size f cd
 outer:=outer
 stack:=envOfC qual scope s.heap.objs.size f cd::outer
 ex:=[]
 calm:=true
 fn:=λ_=>true
 pn:=[]
 xe:=λe s'=>wpAny (model P w) (A.deeper (envOfC qual scope s.heap.objs.size f cd)) (leaving (envOfC qual scope s.heap.objs.size f cd) e) (λ_ s''=>CX outer H s E e s'') (λe' s''=>CX outer H s E e' s'') s'
theorem ls{sc:Scope}{n:Nat}(h:sc.names.lookup x=some .cell):∃c,(cellsFrom n sc.names []).lookup x=some c:=by
 have q:=PySem.W.cellsFrom_some sc.names n [] (.inl h)
 exact Option.isSome_iff_exists.mp q
theorem tY{CX:CXT}{N:Zb}{qual:Str}{scope:Scope}{cd:Value}{outer:List Env}{s s1:Shared}{H:Hp}{E:XK}{us:Zc}{vs:Zf}
  (S:ax N ps scope) (hd:A.handled=none) (e0:Env0 P w K mg base A outer s H) (hl:vs.length=ps.length) (r:bI vs us)
  (x:InCallC s s.heap.objs.size (bindL (envOfC qual scope s.heap.objs.size f cd).kindOf (ps.zip us) λ_=>none) (cellsFrom (s.heap.objs.size+1) scope.names []) (bindC (envOfC qual scope s.heap.objs.size f cd).kindOf (ps.zip us) λ_=>none) s1) :
  Inv (wX CX P w K mg base N qual scope f cd A outer s H E) [] (start N vs) H s1:=by
 have ag:ps.length<=N.length:=by have:=JK List.length S.pre;rw[IH] at this;omega
 obtain⟨h1,tk,rfl,hk⟩:=x.done;have aa:∀b:Addr,b∉(wX CX P w K mg base N qual scope f cd A outer s H E).ex:=λb z=>absurd (show b∈([]:List Addr) from z) 'p'
 refine⟨⟨e0.mod,S.kind,rfl,rfl,Ib _,λy z c h1 h2=>?_,λy hy=>?_,λy c _ h=>?_,λ_=>hd,Around.frames_deeper e0.frames,.inr ⟨rfl,rfl⟩,λb z=>absurd z (aa b),e0.bs,e0.bsz,λb _ _=>aa b,λb z=>absurd z (aa b),e0.funs,e0.frf⟩,
  rfl,e0.bare,Un.kept hk,⟨_,x.toInCall.ns,λi y v h1 h2 h3=>?_⟩,λy c h=>⟨_,x.cell y c h⟩,e0.hok.fresh (Ib _),λy c h=>?_,λp hp=>absurd (show p∈([]:List (Addr×Obj)) from hp) 'p',e0.hok.kept hk,?_⟩
 ·exact name_of_addr x.apart (JX h1) (JX h2)
 ·have hy:scope.names.lookup y=some .cell\/scope.names.lookup y=some .free:=hy
  rcases hy with hy | hy
  ·exact ls hy
  ·exact absurd rfl (S.nofree _ (JX hy))
 ·exact JG (x.above y c (JX h))
 ·have hi:i<vs.length:=by
   unfold start at h2
   by_cases hi:i<vs.length
   ·exact hi
   ·rw[List.getElem?_append_right (by simpa using hi)] at h2;rw[List.getElem?_replicate] at h2
    split at h2<;>cases h2
  have ha:vs[i]?=some v:=by
   unfold start at h2;rw[List.getElem?_append_left (by simpa using hi),List.getElem?_map] at h2
   cases e:vs[i]? with
   | none=>rw[e] at h2;cases h2
   | some a=>rw[e] at h2;cases h2;rfl
  obtain⟨u,hu,rv⟩:=r.get ha;have hp:ps[i]?=some y:=by
   rw[<- S.pre,List.getElem?_take_of_lt 'b'];exact h1
  have ab:ps.Nodup:=by rw[<- S.pre];exact S.nd.sublist (List.take_sublist _ _)
  refine⟨u,rv,?_⟩
  rcases S.par y (Im hp) with k | k
  ·exact .inl ⟨k,n9 ab hp hu k⟩
  ·obtain⟨c,e⟩:=ls (n:=s.heap.objs.size+1) k;refine .inr ⟨.inl k,c,e,?_⟩;have q:=x.cell y c e;rw[nV ab hp hu (by show scope.names.lookup y≠_;rw[k];decide)] at q;exact q
 ·exact e0.hok.fresh (JG (x.above y c (JX h)))
 ·unfold start;show _=N.length;rw[Ij,HS,IF];omega
theorem Gb{CX:CXT}{name qual:Str}{params:Arguments}{body:List Stmt}{scope:Scope}{dV kV doc pm cdv ct oc:Value}{an od:Option Addr}
    {osl:Array (Zd)} {N ps:Zb} {sp:Sp} (lk:K.lookup f=some ⟨oc,od,.func (PySem.W.fnOf name qual params body scope dV kV doc pm an cdv ct),osl⟩) (hcd:PySem.W.codeIn K cdv qual=true) (S:ax N ps scope)
    (len:∀vs H Q E,sp vs H Q E->vs.length=ps.length)
    (hbody:∀(A:Around) (outer:List Env) (s:Shared) (H:Hp) (vs:Zf) (Q:VK) (E:XK),gG k (A.deeper (envOfC qual scope s.heap.objs.size f cdv))->sp vs H Q E ->
      ∃t,PSs (wX CX P w K mg base N qual scope f cdv A outer s H E) body t/\t { nx:=λ_ H'=>Q .non H',rt:=Q } (start N vs) H) :
    ml P w K mg base CX (k+1) f (PySem.W.fnOf name qual params body scope dV kV doc pm an cdv ct) ps sp:=by
  refine⟨len,λA outer s H args us vs Q E hr e0 hb r hsp=>?_⟩;have hl:=len _ _ _ _ hsp;have KX:K.In s.heap:=e0.mod.kin.keeps λb o e=>(e0.bs b o e).1;have ag:s.heap.NoLimit:=e0.mod.nolimit.keeps λb o e=>(e0.bs b o e).1;have aa:∀y∈ps.zip us,scope.names.lookup y.1=some .local\/(scope.names.lookup y.1=some .cell/\((cellsFrom (s.heap.objs.size+1) scope.names []).lookup y.1).isSome=true):=λ⟨n,v⟩ hy=>by
    rcases S.par n (IT hy).1 with q | q
    · exact .inl q
    · exact .inr ⟨q,PySem.W.cellsFrom_some _ _ _ (.inl q)⟩
  refine codeAny_call_function hr.depth (KX _ _ lk) rfl S.co S.gen rfl (PySem.W.codeRec_of KX hcd) (hb _ _ _ _ ?_);refine wpAny_newFunctionEnv_cells S.kind aa λenv he s1 x=>?_;subst he;refine⟨ag.keeps x.toInCall.keep,codeAny_func ?_⟩;obtain⟨t,ht,hq⟩:=hbody A outer s H vs Q E (hr.deeper _) hsp;have I:Inv (wX CX P w K mg base N qual scope f cdv A outer s H E) [] (start N vs) H s1:=tY S hr.hd e0 hl r x;refine JA (ht [] s1 (start N vs) H _ I hq) (λfl s' hs=>?_) λe s' hs=>hs;have ab:∀ {σ':St} {H':Hp} {v:V} {u:Value},Inv (wX CX P w K mg base N qual scope f cdv A outer s H E) [] σ' H' s'->bE v u->Q v H'->CE outer P w H s Q u s' :=
    λ{σ' H' v u} J rv q=>⟨v,H',J.os,J.bare,J.base,J.hok,rv,q⟩
  cases fl with
  | ret u =>
    obtain⟨v,σ',H',J,rv,q⟩:=hs;exact ab J rv q
  | next =>
    obtain⟨σ',H',J,q⟩:=hs;exact ab (v:=V.non) (u:=Value.none) J rfl q
  | brk =>
    obtain⟨_,_,_,q⟩:=hs;exact False.elim q
  | cont =>
    obtain⟨_,_,_,q⟩:=hs;exact False.elim q
end L2
namespace L2
open PySem PySem.Spec PyProof.Rows
section
variable {X:Cx} {x:Str} {p pos:Pos} {e:Expr} {es:List Expr} {t:TA} {id T:String} {r:Zf→Hp→VK→Prop}
def tCB(r:Zf->Hp->VK->Prop)(t:TA):TE:=λσ H Q=>t σ H λvs H1=>r vs H1 Q
theorem l8(hc:bW X (.builtin id) r)(hg:Gl X x)(hm:X.mg x=none)(hv:bootBuiltins x=some (.builtin id))(ha:PA X (e::es) t)(hn:x≠"__name__":=by decide)(hdb:(x==("__debug__":Str))=false:=by decide)
  (he:starEach (e::es) X.env=(false,eval e X.env)::starEach es X.env:=by rfl) (hpl:(backTo pos (starEach es X.env)).any (·.1)=false:=by rfl):PE X (.Call (.Name x p) (e::es) [] pos) (tCB r t):=by
 intro aa s σ H Q I h;refine J2 (gu I hg hm hv ?_ hn hdb);exact PyProof.Rows.callWith_builtin1 (Hm (ha pos aa s σ H _ I h) λus s1 ⟨vs,H1,I1,r1,q1⟩=>hc aa s1 σ H1 vs us Q I1 r1 q1) he hpl
theorem jx(hc:bW X (.type T) r)(hg:Gl X x)(hm:X.mg x=none)(hv:bootBuiltins x=some (.type T))(ha:PA X (e::es) t)(hn:x≠"__name__":=by decide)(hdb:(x==("__debug__":Str))=false:=by decide)
  (he:starEach (e::es) X.env=(false,eval e X.env)::starEach es X.env:=by rfl) (hpl:(backTo pos (starEach es X.env)).any (·.1)=false:=by rfl):PE X (.Call (.Name x p) (e::es) [] pos) (tCB r t):=by
 intro aa s σ H Q I h;refine J2 (gu I hg hm hv ?_ hn hdb);exact Jn (Hm (ha pos aa s σ H _ I h) λus s1 ⟨vs,H1,I1,r1,q1⟩=>hc aa s1 σ H1 vs us Q I1 r1 q1) he hpl
end
end L2
namespace HT
open PySem PyProof.Rows
section
open PySem.SeqAt
open PySem.AutoSeq1 (wpAny_loadPart')
open PySem.MeetsSeq PySem.MeetsSeq2 PySem.MeetsSeq3
end
section
variable {prog:Program} {w:World} {A:Around} {E:Value→Shared→Prop} {s:Shared}
theorem cat_tup{t b:Addr}{vs ws:Zc}{Q:Value->Shared->Prop}(ht:IsTup s.heap t vs.toArray)(hb:IsTup s.heap b ws.toArray)(hv:vs≠[])
  (h1:ws=[]->Q (.ref t) s) (h2:ws≠[]->Q (.ref s.heap.objs.size) { s with heap:=s.heap.push { cls:=.type "tuple",data:=.seq (vs++ws).toArray } })
  (hsz:vs.length+ws.length<=sizeLine):wpAny 'q' A (binaryOp .Add (.ref t) (.ref b)) Q E s:=by
 obtain⟨⟨cls,dd,data,sl⟩,ho,hc,n,hd⟩:=id ht;obtain⟨⟨al,ag,aj,ab⟩,aa,ah,n2,ai⟩:=id hb;simp only at hc hd ah ai;subst hc hd ah ai;have e:vs.toArray++ws.toArray=(vs++ws).toArray:=by simp
 by_cases hw:ws=[]
 ·exact concat_meets ⟨_,ho,rfl⟩ ⟨_,aa,rfl⟩ noFill_tuple_add seq_tuple_add PySem.F.slot_tuple_add PySem.F.entry_tuple_add (PySem.F.args_tuple_add_2 _ _)
   (tuple_addW1 t b vs.toArray ws.toArray n n2 dd ag sl ab (by simpa using hv) (by simp[hw])) ⟨ho,aa,h1 hw⟩
 ·refine concat_meets ⟨_,ho,rfl⟩ ⟨_,aa,rfl⟩ noFill_tuple_add seq_tuple_add PySem.F.slot_tuple_add PySem.F.entry_tuple_add (PySem.F.args_tuple_add_2 _ _)
   (tuple_addW2 t b vs.toArray ws.toArray n n2 dd ag sl ab (by simpa using hv) (by simpa using hw) (by rw[Iu,Iu];exact hsz)) ⟨ho,aa,?_⟩
  rw[e];exact h2 hw
def sIx(n d:Nat):Option Int->Nat
 | none=>d
 | some v=>if v<0 then (v+(n:Int)).toNat else min v.toNat n
theorem sIx_none(n d:Nat):sIx n d none=d:=rfl
theorem sIx_nat(n d k:Nat):sIx n d (some (k:Int))=min k n:=by
 show (if (k:Int)<0 then ((k:Int)+(n:Int)).toNat else min (k:Int).toNat n)=min k n
 rw[Io 'b',J8]
theorem EX(n d:Nat)(hd:d<=n)(o:Option Int):sIx n d o<=n:=by
 cases o with
 | none=>exact hd
 | some v =>
  show (if v<0 then (v+(n:Int)).toNat else min v.toNat n)<=n
  by_cases hv:v<0
  ·rw[Ir hv];omega
  ·rw[Io hv];exact Nat.min_le_right _ _
theorem uC(v:Int)(n d:Nat):(if v<0 then max (v+(n:Int)) 0 else min v (n:Int))=((sIx n d (some v):Nat):Int):=by
 show (if v<0 then max (v+(n:Int)) 0 else min v (n:Int))=(((if v<0 then (v+(n:Int)).toNat else min v.toNat n):Nat):Int)
 by_cases hv:v<0
 ·simp only[if_pos hv];omega
 ·simp only[if_neg hv];omega
theorem tI(lo hi:Option Int)(n:Nat):Builtin.Slice.sliceAdjust lo hi 1 (n:Int)=(((sIx n 0 lo:Nat):Int),((sIx n n hi:Nat):Int)):=by
 have h1:¬ ((1:Int)<0):=by omega
 unfold Builtin.Slice.sliceAdjust;simp only[h1,if_false];refine Prod.ext ?_ ?_
 ·cases lo with
  | none=>rfl
  | some v=>exact uC v n 0
 ·cases hi with
  | none=>rfl
  | some v=>exact uC v n n
theorem tW(i j:Nat):Builtin.Slice.slicePlaces (i:Int) (j:Int) 1=j-i:=by
 unfold Builtin.Slice.slicePlaces;have h1:(1:Int)>0:=by omega
 simp only[h1,if_true,Int.ediv_one]
 split<;>omega
theorem k7{v:Value}{o:Option Int}{Q:Option Int->Shared->Prop}(p:IsPart v o)(h:Q o s):wpAny 'q' A (Builtin.Slice.slicePartIndex v) Q E s:=by
 cases p with
 | none=>exact slicePart_none h
 | int i t=>exact slicePart_int h
theorem iP{sl:Addr}{vl vu:Value}{lo hi:Option Int}{n:Nat}{Q:Int×Int×Nat->Shared->Prop}(hs:s.heap.IsSliceOf sl vl vu .none)(pl:IsPart vl lo)(pu:IsPart vu hi)
  (h:Q (((sIx n 0 lo:Nat):Int),1,sIx n n hi-sIx n 0 lo) s):wpAny 'q' A (Builtin.Slice.sliceApplied (.ref sl) (pure (n:Int))) Q E s:=by
 obtain⟨os,ab,ag,aa⟩:=id hs;unfold Builtin.Slice.sliceApplied Builtin.Slice.sliceFields;refine HU (HU (Jv ab aa (x:=vl) rfl (HU (Jv ab aa (x:=vu) rfl (HU (Jv ab aa (x:=.none) rfl (HZ ?_)))))));refine HU (slicePart_none ?_);show wpAny _ _ (if ((1:Int)==0)=true then _ else _) _ _ s;rw[Io 'd'];refine HU (k7 pl (HU (k7 pu (HU (HZ ?_)))));show wpAny _ _ (match Builtin.Slice.sliceAdjust lo hi 1 (n:Int) with | (lo,hi)=>pure (lo,(1:Int),Builtin.Slice.slicePlaces lo hi 1)) _ _ s;rw[tI lo hi n];show wpAny _ _ (pure (((sIx n 0 lo:Nat):Int),(1:Int),Builtin.Slice.slicePlaces ((sIx n 0 lo:Nat):Int) ((sIx n n hi:Nat):Int) 1)) _ _ s;rw[tW];exact HZ h
theorem yE(xs:Array Value)(i k:Nat):((List.range k).filterMap λ(m:Nat)=>xs[((i:Int)+(m:Int)*1).toNat]?).toArray=((xs.toList.drop i).take k).toArray:=by
 have e:(λ(m:Nat)=>xs[((i:Int)+(m:Int)*1).toNat]?)=λm=>xs[i+m]?:=by
  funext m
  have:((i:Int)+(m:Int)*1).toNat=i+m:=by omega
  rw[this]
 rw[e];have:=pick_run xs i k;rw[List.filterMap_map] at this;have e2:((λx=>xs[x]?) ∘ λx=>i+x)=λm=>xs[i+m]?:=rfl;rw[e2] at this;rw[this]
theorem getItem_tuple_cut{t sl:Addr}{items:Array Value}{vl vu:Value}{lo hi:Option Int}{Q:Value->Shared->Prop}(ht:IsTup s.heap t items)(hs:s.heap.IsSliceOf sl vl vu .none)(pl:IsPart vl lo)(pu:IsPart vu hi)
  (hw:¬ (sIx items.size 0 lo=0/\sIx items.size items.size hi=items.size))
  (h:Q (.ref s.heap.objs.size) { s with heap:=s.heap.push { cls:=.type "tuple",data:=.seq ((items.toList.drop (sIx items.size 0 lo)).take (sIx items.size items.size hi-sIx items.size 0 lo)).toArray } })
  (hsz:items.size<=sizeLine):wpAny 'q' A (getItem (.ref t) (.ref sl)) Q E s:=by
 have aa:sizeOk (.seq ((items.toList.drop (sIx items.size 0 lo)).take (sIx items.size items.size hi-sIx items.size 0 lo)).toArray):=by
  show ((items.toList.drop (sIx items.size 0 lo)).take (sIx items.size items.size hi-sIx items.size 0 lo)).toArray.size<=sizeLine
  rw[Iu,IH,JN,IQ];omega
 have hj:sIx items.size items.size hi<=items.size:=EX _ _ (Ib _) hi
 obtain⟨os,ai,ab,aj⟩:=id hs;have ag:s.TypeIs (.ref sl) "slice":=⟨os,ai,ab⟩;unfold getItem
 try with_reducible refine Jr ?_
 first | refine HU (HZ ?_) | skip
 refine HU (wpAny_sequenceKey ht.typeIs 'd' ?_)
 refine HU (wpAny_callSpecial?_slot (name:=Str.ofString "__getitem__") ht.typeIs PyProof.Rows.slot_tuple_getitem
  (Js PyProof.Rows.slot_tuple_getitem ht.typeIs entry_tuple_getitem ?_ (args_tuple_getitem _ _)))
 show wpAny _ _ (Builtin.Tuple.tupleItemsOf (.ref t) >>= _) _ _ s
 refine HU (tupleItemsOf_ ht ?_);refine HU (wpAny_typeOf ag ?_);rw[Ir 'd'];refine HU (iP hs pl pu ?_);have ah:¬ ((((sIx items.size 0 lo:Nat):Int)==0&&(1:Int)==1&&(sIx items.size items.size hi-sIx items.size 0 lo)==items.size)=true):=by
  intro q;rw[Bool.and_eq_true,Bool.and_eq_true] at q;have q1:((sIx items.size 0 lo:Nat):Int)=0:=eq_of_beq q.1.1;have q2:sIx items.size items.size hi-sIx items.size 0 lo=items.size:=eq_of_beq q.2;exact hw ⟨by omega,by omega⟩
 show wpAny _ _ (if (((sIx items.size 0 lo:Nat):Int)==0&&(1:Int)==1&&(sIx items.size items.size hi-sIx items.size 0 lo)==items.size)=true then _ else _) _ _ s
 rw[Io ah,yE]
 first
  | exact HU (m:=Builtin.Tuple.tupleExact _) (Jf (HZ ⟨_,rfl,HZ h⟩) aa)
  | exact HU (m:=Builtin.Tuple.tupleExact _) (Jf (HU (HZ (HZ ⟨_,rfl,HZ h⟩))) aa)
  | exact HU (HU (m:=Builtin.Tuple.tupleExact _) (Jf (HZ (HZ ⟨_,rfl,HZ h⟩)) aa))
  | exact HU (HU (m:=Builtin.Tuple.tupleExact _) (Jf (HZ ⟨_,rfl,HZ h⟩) aa))
end
end HT
namespace L2
open PySem PySem.Spec PyProof.Rows
abbrev TO:=St->Hp->(Option Int->Hp->Prop)->Prop
def PO(X:Cx)(e:Option Expr)(t:TO):Prop :=
 ∀(pins:List (Addr×Obj)) (s:Shared) (σ:St) (H:Hp) (Q:Option Int->Hp->Prop),Inv X pins σ H s->t σ H Q ->
  wpAny 'k' X.A (evalPart e X.env) (λu s'=>∃o H',Inv X pins σ H' s'/\IsPart u o/\Q o H') X.xe s
def Cc:TO:=λ_ H Q=>Q none H
def GD(t:TE):TO:=λσ H Q=>t σ H λx H1=>∃i,x=.int i/\Q (some i) H1
section
variable {X:Cx} {e:Expr} {te:TE} {lo hi:Option Expr} {tl th:TO} {pos p2:Pos}
theorem AD:PO X none Cc:=by
 intro aa s σ H Q I h;rw[evalPart_none];exact HZ ⟨none,H,I,.none,h⟩
theorem Cz(h:PE X e te):PO X (some e) (GD te):=by
 intro aa s σ H Q I hw;rw[evalPart_some];refine Hm (h aa s σ H _ I hw) λu s1 ⟨x,H1,I1,r1,q1⟩=>?_;obtain⟨i,rfl,q⟩:=q1;obtain⟨t,rfl⟩:=r1;exact⟨some i,H1,I1,.int i t,q⟩
def SlR(X:Cx)(r:V->Option Int->Option Int->Hp->VK->Prop):Prop :=
 ∀(pins:List (Addr×Obj)) (s:Shared) (σ:St) (H:Hp) (x:V) (v vl vu:Value) (lo hi:Option Int) (sl:Addr) (Q:VK),Inv X pins σ H s->bE x v->s.heap.IsSliceOf sl vl vu .none->IsPart vl lo->IsPart vu hi->r x lo hi H Q ->
  ∃T id,typeLookup (.type T) "__getitem__"=pure (some (.builtin id))/\s.TypeIs v T/\wpAny 'k' X.A (getItem v (.ref sl)) (EP X pins σ Q) X.xe s
theorem SlR.or{r r':V->Option Int->Option Int->Hp->VK->Prop}(h:SlR X r)(h':SlR X r'):SlR X (λx lo hi H Q=>r x lo hi H Q\/r' x lo hi H Q):=by
 intro aa s σ H x v vl vu lo hi sl Q I rx hs pl pu q
 rcases q with q | q
 ·exact h aa s σ H x v vl vu lo hi sl Q I rx hs pl pu q
 ·exact h' aa s σ H x v vl vu lo hi sl Q I rx hs pl pu q
def tSl(r:V->Option Int->Option Int->Hp->VK->Prop)(te:TE)(tl th:TO):TE:=λσ H Q=>te σ H λx H1=>tl σ H1 λl H2=>th σ H2 λu H3=>r x l u H3 Q
theorem yH{r:V->Option Int->Option Int->Hp->VK->Prop}(hr:SlR X r)(he:PE X e te)(hl:PO X lo tl)(hu:PO X hi th):PE X (.Subscript e (.Slice lo hi none p2) pos) (tSl r te tl th):=by
 intro aa s σ H Q I h;refine Subscript_ (Hm (he aa s σ H _ I h) λv s1 ⟨x,H1,I1,r1,q1⟩=>?_);refine wpAny_Slice (Hm (hl aa s1 σ H1 _ I1 q1) λvl s2 ⟨l,H2,I2,pl,q2⟩=>Hm (hu aa s2 σ H2 _ I2 q2) λvu s3 ⟨u,H3,I3,pu,q3⟩=>?_);rw[evalPart_none];refine HZ ?_;have I4:Inv X aa σ H3 { s3 with heap:=s3.heap.push { cls:=.type "slice",data:=.fields #[vl,vu,.none] } }:=I3.kept (t':=s3.toks) λb ob q=>Heap.get?_push_of_some _ q;obtain⟨T,id,hT,ht,hg⟩:=hr aa { s3 with heap:=s3.heap.push { cls:=.type "slice",data:=.fields #[vl,vu,.none] } } σ H3 x v vl vu l u s3.heap.objs.size Q I4 r1 (Heap.IsSliceOf.new ..) pl pu q3;show wpAny 'k' X.A (subscriptTail e (.Slice lo hi none p2) v (.ref s3.heap.objs.size)) (EP X aa σ Q) X.xe { s3 with heap:=s3.heap.push { cls:=.type "slice",data:=.fields #[vl,vu,.none] } };exact tail_any (ops:=[.ref s3.heap.objs.size,v]) ht hT hg (by with_unfolding_all rfl)
def uh(xs:Zf)(lo hi:Option Int):Zf:=(xs.drop (HT.sIx xs.length 0 lo)).take (HT.sIx xs.length xs.length hi-HT.sIx xs.length 0 lo)
theorem jT(xs:Zf)(lo hi:Option Int):(uh xs lo hi).length<=xs.length:=by
 unfold uh;rw[IH,JN];omega
def rSlT(K:PySem.W.Frag):V->Option Int->Option Int->Hp->VK->Prop:=λx lo hi H Q=>∃a xs,x=.ref a/\Hv K H a xs /\
 ¬ (HT.sIx xs.length 0 lo=0/\HT.sIx xs.length xs.length hi=xs.length)/\∀p,H p=none->Q (.ref p) (HL H p (.tup (uh xs lo hi)))
theorem DN:SlR X (rSlT X.K):=by
 intro ag s σ H x v vl vu lo hi sl Q I rx hs pl pu h;obtain⟨a,xs,rfl,hx,hw,q⟩:=h
 cases rx
 obtain⟨ab,r,ht,hz⟩:=I.tuple hx;have aa:ab.toArray.size=xs.length:=by rw[Iu];exact r.length.symm
 refine⟨"tuple",_,PyProof.Rows.slot_tuple_getitem.lookup,ht.typeIs,?_⟩;refine HT.getItem_tuple_cut ht hs pl pu (by rw[aa];exact hw) ?_ (by rw[aa];exact hz);rw[aa];refine⟨.ref s.heap.objs.size,_,I.laid (t':=s.toks) (o:=.tup (uh xs lo hi)) (λb ob q=>Heap.get?_push_of_some _ q) (Ib _) ?_,rfl,q _ (I.hok.fresh (Ib _))⟩;exact⟨HX (jT xs lo hi) hz,_,(r.drop (HT.sIx xs.length 0 lo)).take (HT.sIx xs.length xs.length hi-HT.sIx xs.length 0 lo),IsTup.new _ _⟩
def FH(K:PySem.W.Frag):R2:=λx y H Q=>∃a b xs ys,x=.ref a/\y=.ref b/\Hv K H a xs/\Hv K H b ys/\xs≠[]/\xs.length+ys.length<=sizeLine /\
 (ys=[]->Q (.ref a) H)/\(ys≠[]->∀p,H p=none->Q (.ref p) (HL H p (.tup (xs++ys))))
theorem bI.nil_iff{xs:Zf}{us:Zc}(r:bI xs us):us=[]↔xs=[]:=by
 cases r with
 | nil=>simp
 | cons _ _=>simp
theorem CD:HC X (binaryOp .Add) (FH X.K):=by
 intro aa s σ H x y v u Q I rx ry h;obtain⟨a,b,xs,ys,rfl,rfl,ha,hb,hx,hz,q1,q2⟩:=h
 cases rx
 cases ry
 obtain⟨ag,r1,p1,_⟩:=I.tuple ha;obtain⟨ab,r2,p2,_⟩:=I.tuple hb;refine HT.cat_tup p1 p2 (λz=>hx (r1.nil_iff.mp z)) (λz=>⟨.ref a,H,I,rfl,q1 (r2.nil_iff.mp z)⟩) (λz=>?_) (by rw[<- r1.length,<- r2.length];exact hz);refine⟨.ref s.heap.objs.size,_,I.laid (t':=s.toks) (o:=.tup (xs++ys)) (λb ob q=>Heap.get?_push_of_some _ q) (Ib _) ?_,rfl,q2 (λw=>z (r2.nil_iff.mpr w)) _ (I.hok.fresh (Ib _))⟩;exact⟨by rw[Ij];exact hz,_,r1.append r2,IsTup.new _ _⟩
end
end L2
namespace L2
open PySem PySem.Spec PyProof.Rows
def ixN(n:Nat)(i:Int):Option Nat:=if 0<=i then (if i<n then some i.toNat else none) else if -(n:Int)<=i then some (i+n).toNat else none
def Hn{α:Type}(xs:List α)(i:Int):Option α:=(ixN xs.length i).bind λj=>xs[j]?
theorem BY{n:Nat}{i:Int}{j:Nat}(h:ixN n i=some j):seqIndex? i n=some j/\j<n/\-(n:Int)<=i/\i<n:=by
 unfold ixN at h
 by_cases h0:0<=i
 ·rw[Ir h0] at h
  by_cases h1:i<n
  ·rw[Ir h1] at h;have e:i.toNat=j:=Iq h;exact⟨by rw[seqIndex_of h0 h1,e],by omega,by omega,h1⟩
  ·rw[Io h1] at h;cases h
 ·rw[Io h0] at h
  by_cases h1:-(n:Int)<=i
  ·rw[Ir h1] at h;have e:(i+n).toNat=j:=Iq h;exact⟨by rw[seqIndex_neg 'b' h1,e],by omega,h1,by omega⟩
  ·rw[Io h1] at h;cases h
theorem pZ{α:Type}{xs:List α}{i:Int}{v:α}(h:Hn xs i=some v):∃j,seqIndex? i xs.length=some j/\xs[j]?=some v/\j<xs.length/\-(xs.length:Int)<=i/\i<xs.length:=by
 unfold Hn at h
 cases e:ixN xs.length i with
 | none=>rw[e] at h;cases h
 | some j =>
  rw[e] at h;obtain⟨h1,h2,h3,h4⟩:=BY e;exact⟨j,h1,h,h2,h3,h4⟩
theorem yL{α:Type}(xs:List α)(v:α):Hn (xs++[v]) (-1)=some v:=by
 have hl:(xs++[v]).length=xs.length+1:=by simp
 have e:ixN (xs++[v]).length (-1)=some xs.length:=by
  unfold ixN;rw[hl,Io 'd',Ir 'b']
  congr 1
  omega
 unfold Hn;rw[e];show (xs++[v])[xs.length]?=some v;simp
def wI(b:Expr):Prop:=∀o i,subscripted b false o i=operate [o,i] (getItem o i)
def IxR(X:Cx)(r:R2):Prop :=
 ∀(value slice:Expr) (pins:List (Addr×Obj)) (s:Shared) (σ:St) (H:Hp) (x y:V) (v u:Value) (Q:VK),Inv X pins σ H s->bE x v->bE y u->r x y H Q ->
  subscripted slice false v u=operate [v,u] (getItem v u)->wpAny 'k' X.A (subscriptTail value slice v u) (EP X pins σ Q) X.xe s
def MtR(X:Cx)(id:String)(r:V->Zf->Hp->VK->Prop):Prop :=
 ∀(pins:List (Addr×Obj)) (s:Shared) (σ:St) (H:Hp) (x:V) (xs:Zf) (v:Value) (us:Zc) (Q:VK),Inv X pins σ H s->bE x v->bI xs us->r x xs H Q ->
  wpAny 'k' X.A (call (.builtin id) (v::us)) (EP X pins σ Q) X.xe s
section
variable {X:Cx} {a b:Expr} {ta tb:TE} {pos:Pos}
theorem IxR.or{r r':R2}(h:IxR X r)(h':IxR X r'):IxR X (λx y H Q=>r x y H Q\/r' x y H Q):=by
 intro aa ab ag s σ H x y v u Q I rx ry q hs
 rcases q with q | q
 ·exact h aa ab ag s σ H x y v u Q I rx ry q hs
 ·exact h' aa ab ag s σ H x y v u Q I rx ry q hs
theorem GR{r:R2}(hr:IxR X r)(ha:PE X a ta)(hb:PE X b tb)(hs:wI b):PE X (.Subscript a b pos) (tOp r ta tb):=by
 intro aa s σ H Q I h;exact Subscript_ (binT ha hb I h λv u s2 x y H2 I2 rx ry q=>hr a b aa s2 σ H2 x y v u Q I2 rx ry q (hs _ _))
def rIxL(K:PySem.W.Frag):R2:=λx y H Q=>∃p xs i v,x=.ref p/\y=.int i/\Ht K H p xs/\Hn xs i=some v/\Q v H
def rIxT(K:PySem.W.Frag):R2:=λx y H Q=>∃p xs i v,x=.ref p/\y=.int i/\Hv K H p xs/\Hn xs i=some v/\Q v H
def rIxS:R2:=λx y H Q=>∃z i c,x=.str z/\y=.int i/\z.length<=sizeLine/\Hn z.cps.toList i=some c/\Q (.str ⟨#[c]⟩) H
theorem Ch:IxR X (rIxL X.K):=by
 intro ai aj aa s σ H x y v u Q I rx ry h hs;obtain⟨p,xs,i,z,rfl,rfl,hq,he,q⟩:=h
 cases rx
 obtain⟨t,rfl⟩:=ry;obtain⟨ag,r,pl,hz⟩:=I.list hq;obtain⟨j,h1,h2,h3,h4,h5⟩:=pZ he;obtain⟨w,ew,ah⟩:=r.get h2;have hl:=r.length;have hn:=rj;have ab:EP X aa σ Q w s:=⟨z,H,I,ah,q⟩
 by_cases h0:0<=i
 ·have hj:i.toNat=j:=by
   rw[seqIndex_of h0 h5] at h1;exact Iq h1
  exact item_listR pl.isList h0 'b' (by rw[hj];simpa using ew) ab hs
 ·have hj:(i+(ag.toArray.size:Int)).toNat=j:=by
   rw[seqIndex_neg 'b' h4] at h1;rw[Iu,<- hl];exact Iq h1
  exact subscriptTail_builtinR (x:=w) pl.isList.typeIs slot_list_getitem.lookup
   (wpAny_getItem_list_neg (Q:=λr s'=>r=w/\EP X aa σ Q r s') pl.isList 'b' (by rw[Iu]<;>omega) 'b' (by rw[hj];simpa using ew) ⟨rfl,ab⟩) hs
theorem DU:IxR X (rIxT X.K):=by
 intro ah ai aa s σ H x y v u Q I rx ry h hs;obtain⟨p,xs,i,z,rfl,rfl,hq,he,q⟩:=h
 cases rx
 obtain⟨t,rfl⟩:=ry;obtain⟨aj,r,pl,hz⟩:=I.tuple hq;obtain⟨j,h1,h2,h3,h4,h5⟩:=pZ he;obtain⟨w,ew,ag⟩:=r.get h2;have hl:=r.length;have hn:=rj;have ab:EP X aa σ Q w s:=⟨z,H,I,ag,q⟩;exact subscriptTail_builtinR (x:=w) pl.typeIs slot_tuple_getitem.lookup
  (getItem_tuple (j:=j) (Q:=λr s'=>r=w/\EP X aa σ Q r s') pl 'b' 'b' (by rw[Iu,<- hl];exact h1) (by simpa using ew) ⟨rfl,ab⟩) hs
theorem D5:IxR X rIxS:=by
 intro aa ab ag s σ H x y v u Q I rx ry h hs;obtain⟨z,i,c,rfl,rfl,hz,he,q⟩:=h;obtain⟨t,rfl⟩:=rx;obtain⟨t',rfl⟩:=ry;obtain⟨j,h1,h2,h3,h4,h5⟩:=pZ he;have hl:z.cps.toList.length=z.length:=by simp[Str.length]
 rw[hl] at h1 h4 h5;have hn:=rj
 exact tail_any (typeIs_str s z t) slot_str_getitem.lookup (getItem_str (c:=c) (by
  have e1:decide (i < -(2 ^ 63:Int))=false:=IL 'b'
  have e2:decide (i ≥ 2 ^ 63)=false:=IL 'b'
  rw[e1,e2,Bool.or_false]) (by rw[h1];simpa using h2) ⟨.str ⟨#[c]⟩,H,I.tok _,⟨_,rfl⟩,q⟩) hs
def rIx(K:PySem.W.Frag):R2:=λx y H Q=>rIxL K x y H Q\/rIxT K x y H Q\/rIxS x y H Q
theorem EK:IxR X (rIx X.K):=Ch.or (DU.or D5)
theorem Inv.lst{pins:List (Addr×Obj)}{σ:St}{H:Hp}{s:Shared}{p:Addr}{xs:Zf}(I:Inv X pins σ H s)(h:H p=some (.lst xs)) :
  ∃(its:Zc) (n:Nat),bI xs its/\s.heap.get? p=some { cls:=.type "list",data:=.seq its.toArray n }/\xs.length<=sizeLine:=by
 obtain⟨z,its,n,r,e⟩:=I.hok p _ h;exact⟨its,n,r,e,z⟩
theorem nY(lo hi:Option Int)(n:Nat):(sliceBounds lo hi none n).1=((HT.sIx n 0 lo:Nat):Int)/\(sliceBounds lo hi none n).2.1=((HT.sIx n n hi:Nat):Int)/\(sliceBounds lo hi none n).2.2=1:=by
 refine⟨?_,?_,rfl⟩
 ·cases lo with
  | none=>simp[sliceBounds,HT.sIx]
  | some i =>
   simp only[sliceBounds,HT.sIx,Option.getD_none,show (1:Int)>0 by decide,if_true]
   by_cases h:i<0
   ·simp only[h,if_true]<;>omega
   ·simp only[h,if_false]<;>omega
 ·cases hi with
  | none=>simp[sliceBounds,HT.sIx]
  | some i =>
   simp only[sliceBounds,HT.sIx,Option.getD_none,show (1:Int)>0 by decide,if_true]
   by_cases h:i<0
   ·simp only[h,if_true]<;>omega
   ·simp only[h,if_false]<;>omega
theorem mx(its:Zc)(lo hi:Option Int):slicePick its.toArray lo hi none=((its.drop (HT.sIx its.length 0 lo)).take (HT.sIx its.length its.length hi-HT.sIx its.length 0 lo)).toArray:=by
 obtain⟨h1,h2,h3⟩:=nY lo hi its.toArray.size;unfold slicePick;rw[h1,h2,h3];simp only[sliceRange_one,pick_run,List.size_toArray]<;>rfl
def rSlL(K:PySem.W.Frag):V->Option Int->Option Int->Hp->VK->Prop:=λx lo hi H Q=>∃a xs,x=.ref a/\Ht K H a xs/\∀p,H p=none->Q (.ref p) (HL H p (.lst (uh xs lo hi)))
theorem BI:SlR X (rSlL X.K):=by
 intro ab s σ H x v vl vu lo hi sl Q I rx hs pl pu h;obtain⟨a,xs,rfl,hx,q⟩:=h
 cases rx
 obtain⟨ag,r,ht,hz⟩:=I.list hx;have aa:=r.length;refine⟨"list",_,slot_list_getitem.lookup,ht.isList.typeIs,?_⟩;refine wpAny_getItem_list_slice ht.isList hs pl pu .none 'p' ?_ (by rw[Iu]<;>omega)
 rw[mx,<- aa];refine⟨.ref s.heap.objs.size,_,I.laid (t':=s.toks) (o:=.lst (uh xs lo hi)) (λb ob q=>Heap.get?_push_of_some _ q) (Ib _) ?_,rfl,q _ (I.hok.fresh (Ib _))⟩;exact⟨HX (jT xs lo hi) hz,_,0,(r.drop (HT.sIx xs.length 0 lo)).take (HT.sIx xs.length xs.length hi-HT.sIx xs.length 0 lo),Heap.get?_push_size _ rfl⟩
def Fo:V->Bool
 | .non=>true
 | .bl _=>true
 | .int _=>true
 | .str _=>true
 | _=>false
def eqV:V->V->Bool
 | .non,.non=>true
 | .bl a,.bl b=>a==b
 | .bl a,.int b=>(if a then 1 else 0)==b
 | .int a,.bl b=>a==(if b then 1 else 0)
 | .int a,.int b=>a==b
 | .str a,.str b=>a==b
 | _,_=>false
theorem re{A:Around}{s:Shared}{y x:V}{u v:Value}(ry:bE y u)(rx:bE x v)(fy:Fo y=true)(fx:Fo x=true):SeqAt.EqAt A s u v (eqV y x):=by
 cases y with
 | non =>
  cases ry
  cases x with
  | non=>cases rx;exact K0 _
  | bl b=>cases rx;exact SeqAt.EqAt.none_bool b
  | int b=>obtain⟨t,rfl⟩:=rx;exact SeqAt.EqAt.none_int b t
  | str b=>obtain⟨t,rfl⟩:=rx;exact SeqAt.EqAt.none_str b t
  | _=>exact absurd (show false=true from fx) Ie
 | bl a =>
  cases ry
  cases x with
  | non=>cases rx;exact SeqAt.EqAt.bool_none a
  | bl b=>cases rx;exact SeqAt.EqAt.bool_bool a b
  | int b=>obtain⟨t,rfl⟩:=rx;exact SeqAt.EqAt.bool_int a b t
  | str b=>obtain⟨t,rfl⟩:=rx;exact SeqAt.EqAt.bool_str a b t
  | _=>exact absurd (show false=true from fx) Ie
 | int a =>
  obtain⟨t',rfl⟩:=ry
  cases x with
  | non=>cases rx;exact SeqAt.EqAt.int_none a t'
  | bl b=>cases rx;exact SeqAt.EqAt.int_bool a t' b
  | int b=>obtain⟨t,rfl⟩:=rx;exact SeqAt.EqAt.int_int a t' b t
  | str b=>obtain⟨t,rfl⟩:=rx;exact SeqAt.EqAt.int_str a t' b t
  | _=>exact absurd (show false=true from fx) Ie
 | str a =>
  obtain⟨t',rfl⟩:=ry
  cases x with
  | non=>cases rx;exact SeqAt.EqAt.str_none a t'
  | bl b=>cases rx;exact SeqAt.EqAt.str_bool a t' b
  | int b=>obtain⟨t,rfl⟩:=rx;exact SeqAt.EqAt.str_int a t' b t
  | str b=>obtain⟨t,rfl⟩:=rx;exact SeqAt.EqAt.str_str a t' b t
  | _=>exact absurd (show false=true from fx) Ie
 | _=>exact absurd (show false=true from fy) Ie
theorem iE:bW X (.builtin "len") (λxs H Q=>∃p ys,xs=[.ref p]/\(Ht X.K H p ys\/Hv X.K H p ys)/\Q (.int ys.length) H):=by
 intro ag s σ H xs us Q I r h;obtain⟨p,ys,rfl,hq,q⟩:=h;obtain⟨u,rfl,rx⟩:=eU r
 cases rx
 have hn:=rj
 rcases hq with hq | hq
 ·obtain⟨ab,r',pl,hz⟩:=I.list hq;have aa:=r'.length;exact Calls.call_len_list pl.isList (by simp only[List.size_toArray]<;>omega) ⟨.int ys.length,H,I.tok _,⟨s.toks+1,by rw[Iu,aa]⟩,q⟩
 ·obtain⟨ab,r',pl,hz⟩:=I.tuple hq;have aa:=r'.length;exact len_tuple pl (by simp only[List.size_toArray]<;>omega) ⟨.int ys.length,H,I.tok _,⟨s.toks+1,by rw[Iu,aa]⟩,q⟩
theorem mO:bW X (.type "list") (λxs H Q=>∃p ys,xs=[.ref p]/\(Ht X.K H p ys\/Hv X.K H p ys)/\∀l,H l=none->Q (.ref l) (HL H l (.lst ys))):=by
 intro ag s σ H xs us Q I r h;obtain⟨p,ys,rfl,hq,q⟩:=h;obtain⟨u,rfl,rx⟩:=eU r
 cases rx
 have ab:∀(aa:Zc),bI ys aa->ys.length<=sizeLine->∀(h':Heap) (c':Nat),(∀b o',s.heap.get? b=some o'->h'.get? b=some o') ->
   h'.get? s.heap.objs.size=some { cls:=.type "list",dict:=none,data:=.seq aa.toArray c',slots:=#[] }->EP X ag σ Q (.ref s.heap.objs.size) { s with heap:=h' }:=λaa r' hz h' c' kp e =>
  ⟨.ref s.heap.objs.size,_,I.laid (t':=s.toks) kp (Ib _) (show bQ X.prog X.w _ h' _ (.lst ys) from⟨hz,aa,c',r',e⟩),rfl,q _ (I.hok.fresh (Ib _))⟩
 rcases hq with hq | hq
 ·obtain⟨aa,r',pl,hz⟩:=I.list hq;have ah:=r'.length;obtain⟨o,ho,hc,n,hd⟩:=pl.isList;exact call_list_seq p (.inl rfl) ho hc hd (λh' c' kp e=>ab aa r' hz h' c' kp e) (by simp only[List.size_toArray]<;>omega)
 ·obtain⟨aa,r',pl,hz⟩:=I.tuple hq;have ah:=r'.length;obtain⟨o,ho,hc,n,hd⟩:=pl;exact call_list_seq p (.inr rfl) ho hc hd (λh' c' kp e=>ab aa r' hz h' c' kp e) (by simp only[List.size_toArray]<;>omega)
theorem gb:bW X (.type "tuple") (λxs H Q=>∃p ys,xs=[.ref p]/\((Ht X.K H p ys/\∀l,H l=none->Q (.ref l) (HL H l (.tup ys)))\/(Hv X.K H p ys/\Q (.ref p) H))):=by
 intro aa s σ H xs us Q I r h;obtain⟨p,ys,rfl,h⟩:=h;obtain⟨u,rfl,rx⟩:=eU r
 cases rx
 rcases h with⟨hq,q⟩ | ⟨hq,q⟩
 ·obtain⟨ab,r',pl,hz⟩:=I.list hq;have ag:=r'.length;refine call_tuple_list pl.isList (λh' kp=>?_) (by simp only[List.size_toArray]<;>omega)
  have I1:Inv X aa σ H { s with heap:=h' }:=I.kept (t':=s.toks) kp
  have I2:Inv X aa σ (HL H h'.objs.size (.tup ys)) { s with heap:=h'.push { cls:=.type "tuple",data:=.seq ab.toArray } } :=
   I1.laid (t':=s.toks) (λb o e=>Heap.get?_push_of_some _ e) (Ib _) (show bQ X.prog X.w _ _ _ (.tup ys) from⟨hz,ab,r',IsTup.new _ _⟩)
  exact⟨.ref h'.objs.size,_,I2,rfl,q _ (I1.hok.fresh (Ib _))⟩
 ·obtain⟨ab,r',pl,hz⟩:=I.tuple hq;exact call_tuple_same pl ⟨.ref p,H,I,rfl,q⟩
def tyV(K:PySem.W.Frag)(T:String)(x:V)(H:Hp):Prop:=match x with
 | .str _=>T="str"
 | .int _=>T="int"
 | .ref p=>(T="list"/\∃xs,Ht K H p xs)\/(T="tuple"/\∃o,K.lookup p=some o/\o.cls=.type "tuple"/\o.dict=none) \/
   (T="dict"/\((∃kvs,H p=some (.dK kvs))\/∃kvs,H p=some (.dT kvs)))\/(T="set"/\∃S n,H p=some (.set S n))
 | _=>False
theorem zO{pins:List (Addr×Obj)}{σ:St}{H:Hp}{s:Shared}{T:String}{x:V}{v:Value}(I:Inv X pins σ H s)(r:bE x v)(ty:tyV X.K T x H) :
  s.TypeIs v T/\∀a,v=.ref a->∃ob,s.heap.get? a=some ob/\ob.dict=none:=by
 cases x with
 | str z =>
  obtain⟨t,rfl⟩:=r
  cases (show T="str" from ty)
  exact⟨typeIs_str s z t,λ_ e=>nomatch e⟩
 | int i =>
  obtain⟨t,rfl⟩:=r
  cases (show T="int" from ty)
  exact⟨typeIs_int s i t,λ_ e=>nomatch e⟩
 | ref p =>
  cases r
  rcases ty with⟨rfl,xs,hq⟩ | ⟨rfl,o,hk,hc,hd⟩ | ⟨rfl,hk⟩ | ⟨rfl,S,n,hk⟩
  ·obtain⟨aa,_,pl,_⟩:=I.list hq;refine⟨pl.isList.typeIs,λa e=>?_⟩
   cases e
   obtain⟨o,n,e,c,hd,_⟩:=pl;exact⟨o,e,hd⟩
  ·refine⟨⟨o,I.kIn p o hk,hc⟩,λa e=>?_⟩
   cases e
   exact⟨o,I.kIn _ o hk,hd⟩
  ·have z:∃o,s.heap.get? p=some o/\o.ExactDict:=by
    rcases hk with⟨kvs,hk⟩ | ⟨kvs,hk⟩
    ·obtain⟨_,_,_,_,o,_,_,e,ex,_⟩:=I.hok p _ hk;exact⟨o,e,ex⟩
    ·obtain⟨_,_,_,_,o,_,_,e,ex,_⟩:=I.hok p _ hk;exact⟨o,e,ex⟩
   obtain⟨o,e,ex⟩:=z;refine⟨⟨o,e,ex.1⟩,λa e2=>?_⟩
   cases e2
   exact⟨o,e,ex.2.1⟩
  ·obtain⟨o,_,_,_,e,ex,_⟩:=I.hok p _ hk;refine⟨⟨o,e,ex.1⟩,λa e2=>?_⟩
   cases e2
   exact⟨o,e,ex.2.1⟩
 | _=>exact False.elim ty
def tBM0(K:PySem.W.Frag)(T:String)(r:V->Zf->Hp->VK->Prop)(to:TE):TE:=λσ H Q=>to σ H λx H1=>tyV K T x H1/\r x [] H1 Q
def tBM(K:PySem.W.Frag)(T:String)(r:V->Zf->Hp->VK->Prop)(to:TE)(t:TA):TE:=λσ H Q=>to σ H λx H1=>tyV K T x H1/\t σ H1 λxs H2=>r x xs H2 Q
variable {o e:Expr} {es:List Expr} {to:TE} {t:TA} {name:Str} {apos cpos:Pos} {T id:String} {r:V→Zf→Hp→VK→Prop}
theorem D0(pa:PlainAttrs T)(slot:Slot T name id)(hty:typeOf (.builtin id)=pure (.type "method_descriptor"))(hm:MtR X id r)(ho:PE X o to)
  (hbase:attributeBase o name X.env (eval o X.env)=eval o X.env:=by rfl) (hline:(apos.endLine==cpos.line)=true:=by rfl):PE X (.Call (.Attribute o name apos) [] [] cpos) (tBM0 X.K T r to):=by
 intro aa s σ H Q I h;refine wpAny_Call_method0_late hbase hline (Hm (ho aa s σ H _ I h) λv s1 ⟨x,H1,I1,r1,ty,q1⟩=>?_);obtain⟨h1,h2⟩:=zO I1 r1 ty;exact⟨T,id,pa,slot,hty,h1,h2,Kx rfl (PySem.evalArgs_none (hm aa s1 σ H1 x [] v [] Q I1 r1 .nil q1))⟩
theorem Ew(pa:PlainAttrs T)(slot:Slot T name id)(hty:typeOf (.builtin id)=pure (.type "method_descriptor"))(hm:MtR X id r)(ho:PE X o to)(ha:PA X (e::es) t)
    (hbase:attributeBase o name X.env (eval o X.env)=eval o X.env:=by rfl)
    (hfew:((backTo cpos (starEach (e::es) X.env)).all (λx=>!x.1)&&(backToKw cpos (keywordEach [] X.env)).all (λx=>x.1.isSome)
      && decide ((e::es).length+([]:List Keyword).length+(if ([]:List Keyword).isEmpty then 0 else 1)<30))=true:=by rfl)
    (hline:(apos.endLine==cpos.line)=true:=by rfl) (hs:starEach (e::es) X.env=(false,eval e X.env)::starEach es X.env:=by rfl) (hplain:(backTo cpos (starEach es X.env)).any (·.1)=false:=by rfl) :
    PE X (.Call (.Attribute o name apos) (e::es) [] cpos) (tBM X.K T r to t):=by
  intro aa s σ H Q I h;refine wpAny_Call_method_late hbase hfew hline rfl (Hm (ho aa s σ H _ I h) λv s1 ⟨x,H1,I1,r1,ty,q1⟩=>?_);obtain⟨h1,h2⟩:=zO I1 r1 ty;refine⟨T,id,pa,slot,hty,h1,h2,?_⟩;have hA:=ha cpos aa s1 σ H1 _ I1 q1;rw[hs] at hA ⊢;refine Kx (by show (false||(backTo cpos (starEach es X.env)).any (·.1))=false;rw[hplain]<;>rfl) (Calls.evalArgs_plain ?_)
  exact Hm hA λus s2 ⟨vs,H2,I2,r2,q2⟩=>hm aa s2 σ H2 x vs v us Q I2 r1 r2 q2
end
end L2
namespace L2
open PySem PySem.Spec PyProof.Rows
def MtM(X:Cx)(id:String)(r:V->Zf->Hp->VK->Prop):Prop :=
 ∀(pins:List (Addr×Obj)) (s:Shared) (σ:St) (H:Hp) (x:V) (xs:Zf) (v:Value) (us:Zc) (Q:VK),Inv X pins σ H s->bE x v->bI xs us->r x xs H Q ->
  wpAny 'k' X.A (call (.builtin id) (v::us)) (EP X pins σ Q) X.xe s
theorem bI.one:∀ {x:V} {us:Zc},bI [x] us->∃u,us=[u]/\bE x u
 | _,_,.cons r .nil=>⟨_,rfl,r⟩
theorem bI.two:∀ {x y:V} {us:Zc},bI [x,y] us->∃u v,us=[u,v]/\bE x u/\bE y v
 | _,_,_,.cons r (.cons q .nil)=>⟨_,_,rfl,r,q⟩
theorem bI.reverse{xs:Zf}{us:Zc}(h:bI xs us):bI xs.reverse us.reverse:=by
 induction h with
 | nil=>exact .nil
 | cons r t ih=>rw[List.reverse_cons,List.reverse_cons];exact bI.append ih (.cons r .nil)
section
variable {X:Cx} {pins:List (Addr×Obj)} {σ:St} {H:Hp} {s:Shared} {l b:Addr} {xs ys zs:Zf}
theorem Inv.lset{its its':Zc}{n:Nat}{f:Array Value->Array Value}{t':Nat}(I:Inv X pins σ H s)(hH:H l=some (.lst xs))
  (e:s.heap.get? l=some { cls:=.type "list",data:=.seq its.toArray n }) (hf:f its.toArray=its'.toArray) (hv:bI ys its') (hz:ys.length<=sizeLine) :
  Inv X pins σ (HL H l (.lst ys)) { s with heap:=s.heap.update l (Obj.mapSeq f),toks:=t' }:=by
 have q:=PySem.IsL.update e f
 rw[hf] at q;refine I.write (x:=l) (e:=l) (by rw[hH];exact trivial) (.inl rfl) (λb' u hb hu=>(Heap.get?_update_other s.heap (Obj.mapSeq f) (Kz hb)).trans hu) ⟨_,q⟩ ?_;exact⟨hz,its',_,hv,q⟩
theorem Inv.lnew{its:Zc}{t':Nat}(I:Inv X pins σ H s)(hv:bI ys its)(hz:ys.length<=sizeLine) :
  Inv X pins σ (HL H s.heap.objs.size (.lst ys)) { s with heap:=s.heap.push { cls:=.type "list",data:=.seq its.toArray },toks:=t' } :=
 I.laid (λ_ _ q=>Heap.get?_push_of_some _ q) (Ib _) ⟨hz,its,0,hv,Heap.get?_push_size _ rfl⟩
theorem Inv.fresh(I:Inv X pins σ H s):H s.heap.objs.size=none:=I.hok.fresh (Ib _)
theorem Inv.lstM(I:Inv X pins σ H s)(hH:H l=some (.lst xs)):xs.length<=sizeLine/\∃(its:Zc) (n:Nat),bI xs its/\xs.length=its.length/\s.heap.get? l=some { cls:=.type "list",data:=.seq its.toArray n }:=by
 obtain⟨z,its,n,r,e⟩:=I.hok l _ hH;exact⟨z,its,n,r,r.length,e⟩
theorem xg{n:Nat}(h:n<=sizeLine):Builtin.List.listTooLong n=false:=by
 unfold Builtin.List.listTooLong;exact IL 'b'
end
section
variable {X:Cx}
def A8:V->Zf->Hp->VK->Prop:=λx vs H Q=>∃l xs y,x=.ref l/\vs=[y]/\H l=some (.lst xs)/\xs.length<sizeLine/\Q .non (HL H l (.lst (xs++[y])))
theorem mT:MtM X "list.append" A8:=by
 intro ab s σ H x vs v us Q I rx rv h;obtain⟨l,xs,y,rfl,rfl,hH,hz,q⟩:=h
 cases rx
 obtain⟨u,rfl,ru⟩:=rv.one;obtain⟨z,aa,n,r,hl,e⟩:=I.lstM hH;refine call_meets F.slot_list_append ⟨_,e,rfl⟩ F.entry_list_append (F.args_list_append_2 _ _) (PySem.list_append l aa.toArray n u (by rw[Iu];omega)) ⟨e,?_⟩;refine⟨.non,_,I.lset (its':=aa++[u]) hH e 'p' (r.append (.cons ru .nil)) ?_,rfl,q⟩;rw[Ij,KJ];omega
def Bt:V->Zf->Hp->VK->Prop:=λx vs H Q=>∃l b xs zs,x=.ref l/\vs=[.ref b]/\H l=some (.lst xs)/\H b=some (.lst zs)/\xs.length+zs.length<=sizeLine/\Q .non (HL H l (.lst (xs++zs)))
theorem mt_extend:MtM X "list.extend" Bt:=by
 intro ah s σ H x vs v us Q I rx rv h;obtain⟨l,b,xs,zs,rfl,rfl,hH,hB,hz,q⟩:=h
 cases rx
 obtain⟨u,rfl,ru⟩:=rv.one
 cases ru
 obtain⟨z,ab,n,r,hl,e⟩:=I.lstM hH;obtain⟨z2,aa,n2,r2,ai,e2⟩:=I.lstM hB;have hsz:ab.toArray.size+aa.toArray.size<=sizeLine:=by rw[Iu,Iu];omega
 have ag:¬ (!ab.toArray.isEmpty&&Builtin.List.listTooLong (ab.toArray.size+aa.toArray.size))=true:=by
  rw[xg hsz,Bool.and_false];exact Ie
 refine call_meets F.slot_list_extend ⟨_,e,rfl⟩ F.entry_list_extend (F.args_list_extend_2 _ _)
  (AutoSeq1.list_extend_list_list_0 l ab.toArray n b aa.toArray n2 ag (by rw[Iu];omega) 'b') ⟨e,e2,?_⟩
 refine⟨.non,_,I.lset (its':=ab++aa) hH e 'p' (r.append r2) ?_,rfl,q⟩;rw[Ij];omega
def rCat:R2:=λx y H Q=>∃l b xs zs,x=.ref l/\y=.ref b/\H l=some (.lst xs)/\H b=some (.lst zs)/\xs.length+zs.length<=sizeLine/\∀p,H p=none->Q (.ref p) (HL H p (.lst (xs++zs)))
theorem D7:HC X (binaryOp .Add) rCat:=by
 intro ag s σ H x y v u Q I rx ry h;obtain⟨l,b,xs,zs,rfl,rfl,hH,hB,hz,q⟩:=h
 cases rx
 cases ry
 obtain⟨z,ab,n,r,hl,e⟩:=I.lstM hH;obtain⟨z2,aa,n2,r2,ah,e2⟩:=I.lstM hB;refine PySem.P.add_list e e2 ?_ (by rw[Iu,Iu];omega);have ea:ab.toArray++aa.toArray=(ab++aa).toArray:=by simp
 rw[ea];exact⟨.ref _,_,I.lnew (t':=s.toks) (r.append r2) (by rw[Ij];omega),rfl,q _ I.fresh⟩
end
section
variable {prog:Program} {w:World} {A:Around} {E:Value→Shared→Prop} {s:Shared}
set_option maxRecDepth 100000 in
end
section
variable {X:Cx}
end
end L2
namespace L2
open PySem PySem.Spec PyProof.Rows
variable {P:Program} {w:World} {u:Value} {H H':Hp} {xs:List (List Ho×Addr×Value)} {y:V} {kvs:List (Ho×V)} {Q:Value→Shared→Prop} {s:Shared}
section
variable {κ:Type} [DecidableEq κ]
def oU(kvs:List (κ×V))(k:κ):Option V:=(kvs.find? λkv=>decide (kv.1=k)).map (·.2)
def sW(kvs:List (κ×V))(k:κ)(v:V):List (κ×V) :=
 if (kvs.any λkv=>decide (kv.1=k))=true then kvs.map (λkv=>if kv.1=k then (kv.1,v) else kv) else kvs++[(k,v)]
def D8(kvs:List (κ×V))(k:κ):List (κ×V):=kvs.filter λkv=>decide (kv.1≠k)
theorem jc{p:κ×V}{r:List (κ×V)}{k:κ}(e:p.1=k):oU (p::r) k=some p.2:=by simp[oU,List.find?_cons,e]
theorem iY{p:κ×V}{r:List (κ×V)}{k:κ}(e:¬ p.1=k):oU (p::r) k=oU r k:=by simp[oU,List.find?_cons,e]
theorem sw(k:κ):∀kvs:List (κ×V),(kvs.any λkv=>decide (kv.1=k))=(oU kvs k).isSome
 | []=>rfl
 | p::r=>by
  rw[KU]
  by_cases e:p.1=k
  ·simp only[jc e,decide_eq_true e,Bool.true_or,Option.isSome_some]
  ·rw[iY e,IL e,Bool.false_or];exact sw k r
theorem jl(kvs:List (κ×V))(k:κ)(v:V):(sW kvs k v).length<=kvs.length+1:=by
 unfold sW
 split
 ·rw[HS];omega
 ·rw[Ij,Ik,List.length_nil];omega
theorem tL.isSome_eq{o:Option V}{u:Zd}(r:tL o u):o.isSome=u.isSome:=by
 cases o with
 | none=>cases u with
  | none=>rfl
  | some _=>exact(show False from r).elim
 | some _=>cases u with
  | none=>exact(show False from r).elim
  | some _=>rfl
theorem tL.getD{o:Option V}{u:Zd}{d:V}{d':Value}(r:tL o u)(rd:bE d d'):bE (o.getD d) (u.getD d'):=by
 cases o with
 | none=>cases u with
  | none=>exact rd
  | some _=>exact(show False from r).elim
 | some _=>cases u with
  | none=>exact(show False from r).elim
  | some _=>exact r
theorem KV.val{kvs:List (κ×V)}{vs:List (κ×Value)}(r:KV kvs vs)(k:κ):tL (oU kvs k) (valueAt vs k):=by
 unfold KV at r
 induction r with
 | nil=>exact True.intro
 | @cons p q ps qs h t ih =>
  obtain⟨h1,h2⟩:=h
  by_cases e:p.1=k
  ·have e':q.1=k:=h1.symm.trans e
   have b:valueAt (q::qs) k=some q.2:=by simp[valueAt,List.find?_cons,e']
   rw[jc e,b];exact h2
  ·have e':¬ q.1=k:=λz=>e (h1.trans z)
   have b:valueAt (q::qs) k=valueAt qs k:=by simp[valueAt,List.find?_cons,e']
   rw[iY e,b];exact ih
theorem KV.any{kvs:List (κ×V)}{vs:List (κ×Value)}(r:KV kvs vs)(k:κ):(kvs.any λkv=>decide (kv.1=k))=vs.any λkv=>decide (kv.1=k):=by
 unfold KV at r
 induction r with
 | nil=>rfl
 | cons h t ih=>rw[KU,KU,ih,h.1]
theorem KV.repl{kvs:List (κ×V)}{vs:List (κ×Value)}(r:KV kvs vs)(k:κ){y:V}{u:Value}(ry:bE y u) :
  KV (kvs.map λkv=>if kv.1=k then (kv.1,y) else kv) (vs.map λkv=>if kv.1=k then (kv.1,u) else kv):=by
 unfold KV at r ⊢
 induction r with
 | nil=>exact .nil
 | @cons p q ps qs h t ih =>
  rw[Iy,Iy];refine .cons ?_ ih;obtain⟨h1,h2⟩:=h
  by_cases e:p.1=k
  ·rw[Ir e,Ir (h1.symm.trans e)];exact⟨h1,ry⟩
  ·rw[Io e,Io (λz=>e (h1.trans z))];exact⟨h1,h2⟩
theorem KV.put{kvs:List (κ×V)}{vs:List (κ×Value)}(r:KV kvs vs)(k:κ){y:V}{u:Value}(ry:bE y u):KV (sW kvs k y) (stored vs k u):=by
 unfold sW stored;rw[r.any k]
 by_cases e:(vs.any λkv=>decide (kv.1=k))=true
 ·rw[Ir e,Ir e];exact r.repl k ry
 ·rw[Io e,Io e];exact Paired.snoc r ⟨rfl,ry⟩
theorem KV.drop{kvs:List (κ×V)}{vs:List (κ×Value)}(r:KV kvs vs)(k:κ):KV (D8 kvs k) (without vs k):=by
 unfold KV at r ⊢;unfold D8 without
 induction r with
 | nil=>exact .nil
 | @cons p q ps qs h t ih =>
  obtain⟨h1,h2⟩:=h;rw[KP,KP]
  by_cases e:p.1=k
  ·have a:¬ decide (p.1≠k)=true:=by simp[e]
   have b:¬ decide (q.1≠k)=true:=by simp[h1.symm.trans e]
   rw[Io a,Io b];exact ih
  ·have e':¬ q.1=k:=λz=>e (h1.trans z)
   have a:decide (p.1≠k)=true:=by simp[e]
   have b:decide (q.1≠k)=true:=by simp[e']
   rw[Ir a,Ir b];exact .cons ⟨h1,h2⟩ ih
theorem KV.keys{kvs:List (κ×V)}{vs:List (κ×Value)}(r:KV kvs vs):kvs.map (·.1)=vs.map (·.1):=by
 unfold KV at r
 induction r with
 | nil=>rfl
 | cons h t ih=>rw[Iy,Iy,ih,h.1]
theorem KV.length{kvs:List (κ×V)}{vs:List (κ×Value)}(r:KV kvs vs):kvs.length=vs.length:=Paired.length r
end
theorem sJ{k:Ho}(r:bE (kV k) u):(a9 P w).is k u=true:=by
 cases k with
 | inl i=>obtain⟨t,e⟩:=(show ∃t,u=Value.int i t from r);subst e;exact oq P w i t
 | inr x=>obtain⟨t,e⟩:=(show ∃t,u=Value.str x t from r);subst e;exact oB P w x t
theorem ni:∀ {ks:List Ho} {us:Zc},bI (ks.map kV) us->ItemsAre (a9 P w) ks us
 | [],_,r=>by rw[Ko] at r;cases r;exact .nil
 | k::ks,_,r=>by
  rw[Iy] at r
  cases r with
  | cons h t=>exact .cons (sJ h) (ni t)
abbrev KT(H:Hp):List (List Ho×V)->List (List Ho×Addr×Value)->Prop:=Paired λp q=>p.1=q.1/\H q.2.1=some (.tup (p.1.map kV))/\bE p.2 q.2.2
theorem KT.val{kvs:List (List Ho×V)}(r:KT H kvs xs)(k:List Ho):tL (oU kvs k) ((atKey xs k).map (·.2)):=by
 induction r with
 | nil=>exact True.intro
 | @cons p q ps qs h t ih =>
  obtain⟨h1,_,h2⟩:=h
  by_cases e:p.1=k
  ·have e':q.1=k:=h1.symm.trans e
   have b:atKey (q::qs) k=some q.2:=by simp[atKey,List.find?_cons,e']
   rw[jc e,b];exact h2
  ·have e':¬ q.1=k:=λz=>e (h1.trans z)
   have b:atKey (q::qs) k=atKey qs k:=by simp[atKey,List.find?_cons,e']
   rw[iY e,b];exact ih
theorem KT.repl{kvs:List (List Ho×V)}(r:KT H kvs xs)(k:List Ho)(ry:bE y u) :
  KT H (kvs.map λkv=>if kv.1=k then (kv.1,y) else kv) (xs.map (putAt k u)):=by
 induction r with
 | nil=>exact .nil
 | @cons p q ps qs h t ih =>
  rw[Iy,Iy];refine .cons ?_ ih;obtain⟨h1,h2,h3⟩:=h;unfold putAt
  by_cases e:p.1=k
  ·rw[Ir e,Ir (h1.symm.trans e)];exact⟨h1,h2,ry⟩
  ·rw[Io e,Io (λz=>e (h1.trans z))];exact⟨h1,h2,h3⟩
theorem KT.put{kvs:List (List Ho×V)}(r:KT H kvs xs)(k:List Ho){b:Addr}(hb:H b=some (.tup (k.map kV)))(ry:bE y u) :
  KT H (sW kvs k y) (storedH xs k b u):=by
 have e:(kvs.any λkv=>decide (kv.1=k))=(atKey xs k).isSome:=by
  rw[sw,(r.val k).isSome_eq,Option.isSome_map]
 unfold sW storedH;rw[e]
 by_cases q:(atKey xs k).isSome=true
 ·rw[Ir q,Ir q];exact r.repl k ry
 ·rw[Io q,Io q];exact Paired.snoc r ⟨rfl,hb,ry⟩
theorem KT.keeps{kvs:List (List Ho×V)}(r:KT H kvs xs)(ht:∀b ys,H b=some (.tup ys)->H' b=some (.tup ys)):KT H' kvs xs :=
 Paired.mapP r λ_ _ z=>⟨z.1,ht _ _ z.2.1,z.2.2⟩
section
variable {P:Program} {w:World} {H:Hp} {h:Heap} {a:Addr}
theorem El{u:HO}(ok:HH P w H h)(e:Rd H a u):bQ P w H h a u:=e.ok ok
theorem fN(ok:HH P w H h)(e:Rd H a (.dK kvs)):kvs.length<=sizeLine/\(a==sysModules)=false/\∃vs,KV kvs vs/\h.DictOf (a9 P w) a vs :=
 show bQ P w H h a (.dK kvs) from El ok e
theorem uY(ok:HH P w H h)(e:H a=some (.dK kvs)):kvs.length<=sizeLine/\(a==sysModules)=false/\∃vs,KV kvs vs/\h.DictOf (a9 P w) a vs:=fN ok (.inl e)
theorem ln{ks:List Ho}(ok:HH P w H h)(e:H a=some (.tup (ks.map kV))):(tupleKind (a9 P w)).is h ks a:=by
 obtain⟨_,aa,r,o,h1,h2,n,h3⟩:=(show bQ P w H h a (.tup (ks.map kV)) from ok a _ e);exact⟨o,aa.toArray,n,h1,h2,h3,by simpa using ni r⟩
theorem oR{kvs:List (List Ho×V)}(ok:HH P w H h)(e:Rd H a (.dT kvs)):kvs.length<=sizeLine/\(a==sysModules)=false /\
  ∃xs,KT H kvs xs/\h.DictOfH (tupleKind (a9 P w)) a xs:=by
 obtain⟨z,y,xs,r,o,es,ep,h1,h2,h3,h4,h5⟩:=(show bQ P w H h a (.dT kvs) from El ok e);refine⟨z,y,xs,r,o,es,ep,h1,h2,h3,h4,λx hx=>?_,h5⟩;have all:∀ {l:List (List Ho×V)} {m:List (List Ho×Addr×Value)},KT H l m->∀x∈m,(tupleKind (a9 P w)).is h x.1 x.2.1:=by
  intro l m q
  induction q with
  | nil=>intro x hx;exact nomatch hx
  | @cons p q ps qs hq t ih =>
   intro x hx
   rcases Ih.mp hx with e | hx
   ·subst e;exact ln ok (by rw[<- hq.1];exact hq.2.1)
   ·exact ih x hx
 exact all r x hx
theorem GU{kvs:List (List Ho×V)}(ok:HH P w H h)(e:H a=some (.dT kvs)):kvs.length<=sizeLine/\(a==sysModules)=false /\
  ∃xs,KT H kvs xs/\h.DictOfH (tupleKind (a9 P w)) a xs:=oR ok (.inl e)
end
def ph(H:Hp)(a:Addr)(y:V)(r:Option V):Prop :=
 (∃kvs k,Rd H a (.dK kvs)/\y=kV k/\r=oU kvs k)\/∃kvs k b,Rd H a (.dT kvs)/\y=.ref b/\H b=some (.tup (k.map kV))/\r=oU kvs k
def DPut(H:Hp)(a:Addr)(y v:V)(H':Hp):Prop :=
 (∃kvs k,H a=some (.dK kvs)/\y=kV k/\kvs.length<sizeLine/\H'=HL H a (.dK (sW kvs k v))) \/
 ∃kvs k b,H a=some (.dT kvs)/\y=.ref b/\H b=some (.tup (k.map kV))/\kvs.length<sizeLine/\H'=HL H a (.dT (sW kvs k v))
theorem ph.k{H:Hp}{a:Addr}{kvs:List (Ho×V)}{k:Ho}(e:H a=some (.dK kvs)):ph H a (kV k) (oU kvs k):=.inl ⟨kvs,k,.inl e,rfl,rfl⟩
theorem DPut.k{H:Hp}{a:Addr}{kvs:List (Ho×V)}{k:Ho}{v:V}(e:H a=some (.dK kvs))(hl:kvs.length<sizeLine):DPut H a (kV k) v (HL H a (.dK (sW kvs k v))):=.inl ⟨kvs,k,e,rfl,hl,rfl⟩
section
variable {X:Cx} {pins:List (Addr×Obj)} {σ:St} {H:Hp} {s:Shared} {a:Addr} {y v:V} {u r:Value} {o:Option V} {A:Around} {E:Value→Shared→Prop}
theorem Inv.big(I:Inv X pins σ H s):sysModules<s.heap.objs.size:=by
 have h:mainGlobals<s.heap.objs.size:=(I.mod.glob.keeps I.bk).lt
 exact Nat.lt_trans 'd' h
theorem wx(hu:A.units+1<cLine)(I:Inv X pins σ H s)(g:ph H a y (some v))(ry:bE y u)(h:∀w' s',Inv X pins σ H s'->bE v w'->Q w' s') :
  wpAny 'k' A (getItem (.ref a) u) Q E s:=by
 rcases g with⟨kvs,k,e,ey,l⟩ | ⟨kvs,k,b,e,ey,eb,l⟩
 ·subst ey;obtain⟨z,hd,vs,aa,dd⟩:=fN I.hok e;obtain⟨w',hw,ab⟩:=tL.some_of (v:=v) (o:=valueAt vs k) (by rw[l];exact aa.val k);exact wpAny_getItem_of (sJ ry) dd.mapOf hw (h w' _ (I.tok _) ab)
 ·subst ey
  cases (show u=Value.ref b from ry)
  obtain⟨z,hd,xs,aa,dd⟩:=oR I.hok e;obtain⟨w',hw,ab⟩:=tL.some_of (v:=v) (o:=(atKey xs k).map (·.2)) (by rw[l];exact aa.val k);obtain⟨p,hp,ag⟩:=Kw.mp hw;refine wpAny_getItem_heap (J3 hu) (ln I.hok eb) dd hp ?_;rw[ag];exact h w' _ (I.tok _) ab
theorem d_in(hu:A.units+1<cLine)(I:Inv X pins σ H s)(g:ph H a y o)(ry:bE y u)(h:∀s',Inv X pins σ H s'->Q (.bool o.isSome) s') :
  wpAny 'k' A (compareOp .In u (.ref a)) Q E s:=by
 rcases g with⟨kvs,k,e,ey,l⟩ | ⟨kvs,k,b,e,ey,eb,l⟩
 ·subst ey;obtain⟨z,hd,vs,aa,dd⟩:=fN I.hok e;refine wpAny_in_of (sJ ry) hd dd.mapOf ?_;rw[<- (aa.val k).isSome_eq,<- l];exact h _ (I.tok _)
 ·subst ey
  cases (show u=Value.ref b from ry)
  obtain⟨z,hd,xs,aa,dd⟩:=oR I.hok e;refine wpAny_in_heap (J3 hu) (ln I.hok eb) hd dd ?_;have q:=(aa.val k).isSome_eq;rw[Option.isSome_map] at q;rw[<- q,<- l];exact h _ (I.tok _)
theorem Ah(hu:A.units+1<cLine)(I:Inv X pins σ H s)(g:ph H a y o)(ry:bE y u)(h:∀s',Inv X pins σ H s'->Q (.bool (!o.isSome)) s') :
  wpAny 'k' A (compareOp .NotIn u (.ref a)) Q E s:=by
 rcases g with⟨kvs,k,e,ey,l⟩ | ⟨kvs,k,b,e,ey,eb,l⟩
 ·subst ey;obtain⟨z,hd,vs,aa,dd⟩:=fN I.hok e;refine wpAny_notIn_of (sJ ry) hd dd.mapOf ?_;rw[<- (aa.val k).isSome_eq,<- l];exact h _ (I.tok _)
 ·subst ey
  cases (show u=Value.ref b from ry)
  obtain⟨z,hd,xs,aa,dd⟩:=oR I.hok e;refine wpAny_notIn_heap (J3 hu) (ln I.hok eb) hd dd ?_;have q:=(aa.val k).isSome_eq;rw[Option.isSome_map] at q;rw[<- q,<- l];exact h _ (I.tok _)
theorem qd{h':Heap}{t':Nat}{ob:HO}(I:Inv X pins σ H s)(mu:Mut (H a))(hs:Heap.SameBut a s.heap h')(he:∃q,h'.get? a=some q)(new:bQ X.prog X.w (HL H a ob) h' a ob) :
  Inv X pins σ (HL H a ob) { s with heap:=h',toks:=t' } :=
 I.write (x:=a) (e:=a) mu (.inl rfl) (λb q hb z=>(hs.2 b hb).trans z) he new
theorem ud{h':Heap}{vs:List (Ho×Value)}(z:kvs.length<=sizeLine)(hd:(a==sysModules)=false)(rel:KV kvs vs)(dd:h'.DictOf (a9 P w) a vs) :
  bQ P w H' h' a (.dK kvs):=⟨z,hd,vs,rel,dd⟩
theorem wC{Q:Unit->Shared->Prop}(hu:A.units+1<cLine)(I:Inv X pins σ H s)(g:DPut H a y v H')(ry:bE y u)(rv:bE v r)(h:∀s',Inv X pins σ H' s'->Q () s') :
  wpAny 'k' A (setItem (.ref a) u r) Q E s:=by
 rcases g with⟨kvs,k,e,ey,l,eH⟩ | ⟨kvs,k,b,e,ey,eb,l,eH⟩
 ·subst ey eH;obtain⟨z,hd,vs,aa,dd⟩:=uY I.hok e;have hz:vs.length<=sizeLine:=by rw[<- aa.length];exact z
  have hl:(sW kvs k v).length<=sizeLine:=by have:=jl kvs k v;omega
  refine wpAny_setItem_pairs (hsz:=hz) (sJ ry) dd λh' dd' hs=>h _ ?_;have he:∃q,h'.get? a=some q:=let ⟨q,_,_,hq,_⟩:=dd';⟨q,hq⟩;exact qd I (by rw[e];exact True.intro) hs he (ud hl hd (aa.put k rv) dd')
 ·subst ey eH
  cases (show u=Value.ref b from ry)
  obtain⟨z,hd,xs,aa,dd⟩:=GU I.hok e;have hz:xs.length<=sizeLine:=by rw[<- Paired.length aa];exact z
  have hl:(sW kvs k v).length<=sizeLine:=by have:=jl kvs k v;omega
  refine wpAny_setItem_heap (hsz:=hz) (J3 hu) (ln I.hok eb) dd λh' dd' hs=>h _ ?_;obtain⟨q,es,ep,hq,h2,h3,h4,_,h5⟩:=dd';refine qd I (by rw[e];exact True.intro) hs ⟨q,hq⟩ ⟨hl,hd,_,(aa.put k eb rv).keeps λc ys ec=>?_,q,es,ep,hq,h2,h3,h4,h5⟩;rw[aJ (Gm ec e (λz=>nomatch z))];exact ec
end
section
variable {X:Cx} {pins:List (Addr×Obj)} {σ:St} {H:Hp} {s:Shared} {a:Addr} {kvs:List (Ho×V)} {k:Ho} {u:Value} {A:Around} {E:Value→Shared→Prop}
theorem Cs(I:Inv X pins σ H s)(e:H a=some (.dK kvs))(h:∀s',Inv X pins σ (HL H a (.dK [])) s'->Q .none s'):wpAny 'k' A (call (.builtin "dict.clear") [.ref a]) Q E s:=by
 obtain⟨z,hd,vs,aa,dd⟩:=uY I.hok e;refine call_meetsIn PySem.F.slot_dict_clear dd.typeIs PySem.F.entry_dict_clear (PySem.F.args_dict_clear_1 _) (meets_dict_clear (a9 X.prog X.w) a) ⟨vs,dd,by rw[<- aa.length];exact z,λh' dd' hs=>h _ ?_⟩;have he:∃q,h'.get? a=some q:=let ⟨q,_,_,hq,_⟩:=dd';⟨q,hq⟩;exact qd (t':=s.toks) I (by rw[e];exact True.intro) hs he (ud (Jq _) hd .nil dd')
end
def NoSl(i:Expr):Prop:=∀ov iv,subscripted i false ov iv=operate [ov,iv] (getItem ov iv)
theorem Ca{prog:Program}{A:Around}{E:Value->Shared->Prop}{env:Env}{value slice:Expr}{pos:Pos}{T id:String}
  (hl:typeLookup (.type T) "__getitem__"=pure (some (.builtin id))) (hs:NoSl slice)
  (h:wpAny 'q' A (eval value env) (λo s₁=>wpAny 'q' A (eval slice env) (λi s₂=>s₂.TypeIs o T/\wpAny 'q' A (getItem o i) Q E s₂) E s₁) E s) :
  wpAny 'q' A (eval (.Subscript value slice pos) env) Q E s:=by
 refine Subscript_ (JA h (λo s₁ h₁=>JA h₁ (λi s₂ h₂=>?_) λ_ _ x=>x) λ_ _ x=>x);obtain⟨hT,h₂⟩:=h₂;unfold subscriptTail;refine HU ?_;rw[getitemInPython_of_ne hT.not_modules];refine HU (wpAny_specialOf hT hl ?_);have aa:wpAny 'q' A (subscripted slice false o i) (λr s₃=>wpAny 'q' A (letTemporaryGo value o r >>= λ_=>pure r) Q E s₃) E s₂:=by
  rw[hs o i];exact wpAny_operating (JA h₂ (λr s₃ h₃=>HU (wpAny_letTemporaryGo (HZ h₃))) λ_ _ x=>x)
 first
  | exact HZ (HU aa)
  | exact HU (HZ (HU aa))
  | exact HU aa
theorem qk{X:Cx}{pins:List (Addr×Obj)}{σ:St}{a:Addr}{o:Option V}(I:Inv X pins σ H s)(g:ph H a y o):s.TypeIs (.ref a) "dict":=by
 rcases g with⟨kvs,k,e,_,_⟩ | ⟨kvs,k,b,e,_,_,_⟩
 ·obtain⟨_,_,vs,_,dd⟩:=fN I.hok e;exact dd.typeIs
 ·obtain⟨_,_,xs,_,dd⟩:=oR I.hok e;exact dd.typeIs
def Gj(td ty:TE):TE:=λσ H Q=>td σ H λx H1=>ty σ H1 λy H2=>∃a v,x=.ref a/\ph H2 a y (some v)/\Q v H2
def Hb(td ty tv:TE):TS:=λD σ H=>tv σ H λv H1=>td σ H1 λx H2=>ty σ H2 λy H3=>∃a H4,x=.ref a/\DPut H3 a y v H4/\D.nx σ H4
section
variable {X:Cx} {o i e value:Expr} {pos pos' tpos:Pos} {td ty tv:TE}
theorem B4(hu:X.A.units+1<cLine)(ho:PE X o td)(hi:PE X i ty)(hs:NoSl i):PE X (.Subscript o i pos) (Gj td ty):=by
 intro aa s σ H Q I h;refine Ca PySem.F.slot_dict_getitem.lookup hs (Hm (ho aa s σ H _ I h) λu s1 ⟨x,H1,I1,rx,q1⟩=>Hm (hi aa s1 σ H1 _ I1 q1) λiv s2 ⟨y,H2,I2,ry,a,v,ex,g,q2⟩=>?_);subst ex;obtain rfl:u=Value.ref a:=rx;exact⟨qk I2 g,wx hu I2 g ry λw' s3 I3 rw'=>⟨v,H2,I3,rw',q2⟩⟩
theorem CM(hu:X.A.units+1<cLine)(ho:PE X o td)(hi:PE X i ty)(hv:PE X value tv)(hs:swapsWith value (some (.Subscript o i pos')) pos.line X.env=pure false) :
  PS X (.Assign [.Subscript o i pos'] value pos) (Hb td ty tv):=by
 intro aa s σ H D I h;refine wpAny_Assign_Subscript (Hm (hv aa s σ H _ I h) λr s1 ⟨v,H1,I1,rv,q1⟩=>Hm (ho aa s1 σ H1 _ I1 q1) λu s2 ⟨x,H2,I2,rx,q2⟩=>Hm (hi aa s2 σ H2 _ I2 q2) λiv s3 ⟨y,H3,I3,ry,a,H4,ex,g,q3⟩=>?_) hs;subst ex;obtain rfl:u=Value.ref a:=rx;exact wC hu I3 g ry rv λs4 I4=>⟨σ,H4,I4,q3⟩
end
theorem xy(h:Heap)(hb:sysModules<h.objs.size):bQ P w H (h.push { cls:=.type "dict",data:=.dict #[] }) h.objs.size (.dK []) :=
 ⟨Jq _,KY.mpr (Kz (II hb)),[],.nil,Heap.DictOf.new h⟩
def E1:TE:=λ_ H Q=>∀p,H p=none->Q (.ref p) (HL H p (.dK []))
section
variable {X:Cx} {pos:Pos}
theorem rB:PE X (.Dict [] [] pos) E1:=λpins s σ H Q I h =>
 wpAny_Dict_empty ⟨.ref s.heap.objs.size,_,I.laid (a:=s.heap.objs.size) (o:=.dK []) (t':=s.toks) (λ_ _ q=>Heap.get?_push_of_some _ q) (Ib _) (xy s.heap I.big),rfl,h _ (I.hok.fresh (Ib _))⟩
end
structure M2(X:Cx)(o:Expr)(m:Str)(apos:Pos)(e f:Expr)(cpos:Pos):Prop where
 base:attributeBase o m X.env (eval o X.env)=eval o X.env
 few:((backTo cpos (starEach [e,f] X.env)).all (λx=>!x.1)&&(backToKw cpos (keywordEach [] X.env)).all (λx=>x.1.isSome)
  && decide (([e,f]:List Expr).length+([]:List Keyword).length+(if ([]:List Keyword).isEmpty then 0 else 1)<30))=true
 line:(apos.endLine==cpos.line)=true
 trees:backTo cpos (starEach [e,f] X.env)=[(false,eval e X.env),(false,eval f X.env)]
def IsD(H:Hp)(a:Addr):Prop:=(∃kvs,Rd H a (.dK kvs))\/∃kvs,Rd H a (.dT kvs)
theorem EW{X:Cx}{pins:List (Addr×Obj)}{σ:St}{a:Addr}(I:Inv X pins σ H s)(d:IsD H a) :
  s.TypeIs (.ref a) "dict"/\(∀b,Value.ref a=.ref b->∃ob,s.heap.get? b=some ob/\ob.dict=none)/\(a==sysModules)=false:=by
 rcases d with⟨kvs,e⟩ | ⟨kvs,e⟩
 ·obtain⟨_,hd,vs,_,dd⟩:=fN I.hok e;refine⟨dd.typeIs,λb q=>?_,hd⟩
  cases q
  obtain⟨ob,_,_,h1,h2,_⟩:=dd;exact⟨ob,h1,h2.2.1⟩
 ·obtain⟨_,hd,xs,_,dd⟩:=oR I.hok e;refine⟨dd.typeIs,λb q=>?_,hd⟩
  cases q
  obtain⟨ob,_,_,h1,h2,_⟩:=dd;exact⟨ob,h1,h2.2.1⟩
section
variable {X:Cx} {pins:List (Addr×Obj)} {σ:St} {H:Hp} {s:Shared} {a:Addr} {y d:V} {u r:Value} {o:Option V} {A:Around} {E:Value→Shared→Prop}
theorem Dw(hu:A.units+1<cLine)(I:Inv X pins σ H s)(g:ph H a y o)(ry:bE y u)(rd:bE d r)(h:∀w' s',Inv X pins σ H s'->bE (o.getD d) w'->Q w' s') :
  wpAny 'k' A (call (.builtin "dict.get") [.ref a,u,r]) Q E s:=by
 rcases g with⟨kvs,k,e,ey,l⟩ | ⟨kvs,k,b,e,ey,eb,l⟩
 ·subst ey;obtain⟨z,hd,vs,aa,dd⟩:=fN I.hok e;refine call_meetsIn KL dd.typeIs PySem.F.entry_dict_get (PySem.F.args_dict_get_3 _ _ _) (meets_dict_get_default (a9 X.prog X.w) a (sJ ry) hd r) ⟨_,dd.mapOf,h _ _ (I.tok _) ?_⟩;rw[l];exact(aa.val k).getD rd
 ·subst ey
  cases (show u=Value.ref b from ry)
  obtain⟨z,hd,xs,aa,dd⟩:=oR I.hok e;refine call_meetsIn KL dd.typeIs PySem.F.entry_dict_get (PySem.F.args_dict_get_3 _ _ _) (meetsH_dict_get_default (tupleKind (a9 X.prog X.w)) a b hd r) ⟨J3 hu,k,xs,ln I.hok eb,dd,h _ _ (I.tok _) ?_⟩;rw[l];exact(aa.val k).getD rd
end
def Dx(td ty tx:TE):TE:=λσ H Q=>td σ H λx H1=>∃a,x=.ref a/\IsD H1 a/\ty σ H1 λy H2=>tx σ H2 λz H3=>∃o,ph H3 a y o/\Q (o.getD z) H3
section
variable {X:Cx} {o e f:Expr} {apos cpos:Pos} {td ty tx:TE}
theorem rS(hu:X.A.units+1<cLine)(ho:PE X o td)(he:PE X e ty)(hf:PE X f tx)(m:M2 X o "get" apos e f cpos):PE X (.Call (.Attribute o "get" apos) [e,f] [] cpos) (Dx td ty tx):=by
 intro aa s σ H Q I h;refine wpAny_Call_method m.base m.few m.line PySem.F.plainAttrs_dict KL PySem.F.type_dict_get (Hm (ho aa s σ H _ I h) λu s1 ⟨x,H1,I1,rx,a,ex,d,q1⟩=>?_);subst ex;obtain rfl:u=Value.ref a:=rx;obtain⟨t1,t2,_⟩:=EW I1 d;refine⟨t1,t2,?_⟩;rw[m.trees]
 refine Kx rfl (Calls.evalArgs_plain (J1 (Hm (he aa s1 σ H1 _ I1 q1) λiv s2 ⟨y,H2,I2,ry,q2⟩ =>
  J1 (Hm (hf aa s2 σ H2 _ I2 q2) λfv s3 ⟨z,H3,I3,rz,ov,g,q3⟩=>KB ?_))))
 exact Dw hu I3 g ry rz λw' s4 I4 rw'=>⟨_,H3,I4,rw',q3⟩
end
section
variable {X:Cx} {pins:List (Addr×Obj)} {σ:St} {H:Hp} {s:Shared} {a:Addr} {kvs:List (Ho×V)} {A:Around} {E:Value→Shared→Prop}
end
section
variable {X:Cx} {pins:List (Addr×Obj)} {σ:St} {H:Hp} {s:Shared} {a:Addr} {y:V} {u:Value} {A:Around} {E:Value→Shared→Prop}
end
end L2
namespace Att
open PySem PySem.W PySem.Calls PyProof.Rows
theorem kf{P:Params}{h:Heap}:∀(ns:Ze) (vs:Zc),WellAll P h vs (ns.map WData.int)->IntsAre vs ns:=by
 intro ns
 induction ns with
 | nil =>
  intro vs w;rw[Ko] at w
  cases w
  exact .nil
 | cons n ns ih =>
  intro vs w;rw[Iy] at w
  cases w with
  | cons a b =>
   cases a
   exact .cons _ _ (ih _ b)
theorem script_of{l:OpenLaw}{n:Nat}(hn:l.most=some n){P:Params}{h:Heap}{args:List WData}{vals:Zc}
  (hpre:l.row.toRowW.claim.pre args=true) (hwl:WellAll P h vals args) :
  ∃a vs ns,vals=[Value.ref a]/\args=[WData.list (ns.map WData.int)]/\h.get? a=some { cls:=.type "list",data:=.seq vs.toArray }/\IntsAre vs ns/\ns.length<=n:=by
 have ab:WShape.hasAll [] args [.list .int]=true:=(pre_splitW hpre).1
 have hc:l.pre.holds [] { args:=args }=true:=(pre_splitW hpre).2
 obtain⟨d,r,rfl,h1,h2⟩:=hasAllW_cons ab;obtain rfl:=hasAllW_nil h2;obtain⟨xs,rfl,h3⟩:=hasW_list h1;obtain⟨ns,rfl⟩:=items_int h3;have aa:ns.length<=n:=by
  unfold OpenLaw.pre at hc;have h4:(WTm.not (.lt (.lit (.int (n:Int))) (.len (.arg 0)))).holds [] { args:=[.list (ns.map .int)] }=true:=by
   have h4:=(holds_andW hc).1
   rw[hn] at h4;exact h4
  have h5:=condW_of h4 (w_not (w_lt w_lit (w_len_list (w_arg rfl))))
  rw[HS] at h5;refine Nat.le_of_not_lt λq=>?_;have q':(n:Int)<((ns.length:Nat):Int):=by omega
  first
   | (rw[IC q'] at h5;exact absurd h5 'd')
   | (simp at h5;omega)
 cases hwl with
 | cons w1 w2 =>
  cases w2
  cases w1 with
  | list ho hall=>exact⟨_,_,ns,rfl,rfl,ho,kf ns _ hall,aa⟩
theorem post_true(l:OpenLaw)(args:List WData):l.row.toRowW.claim.post args (.bool true) args=true :=
 postW_of (r:=l.row.toRowW) (X:=(true==true))
  (show WShape.has [] (.bool true) .bool=true by first | rfl | decide | simp[WShape.has,WShape.arms,WShape.armsAll])
  (show (WTm.eq .res (.lit (.bool true))).value [] { args:=args,res:=some (.bool true),after:=args }=some (.bool (true==true)) from w_eq_bool (w_res rfl) w_lit) rfl
section
variable {prog:Program} {w:World} {A:Around} {E:Value→Shared→Prop} {s:Shared} {K:Frag}
end
end Att
namespace L2
open PySem PySem.Spec PyProof.Rows
theorem mK:∀ {vs:Zc} {ns:Ze},IntsAre vs ns->bI (ns.map V.int) vs
 | _,_,.nil=>.nil
 | _,_,.cons n t h=>.cons ⟨t,rfl⟩ (mK h)
def Only(H:Hp):Prop:=∀b,H b=none\/∃o xs,H b=some (.frz o (.lst xs))
theorem yg{P:Program}{w:World}{K:PySem.W.Frag}{mg mb:Str->Zd}{CX:CXT}{k:Nat}{fa a:Addr}{fd:FuncData}{x:Str}{sp:Sp}{s₁:Shared}{vs:Zc}{ns:Ze}
  (KX:K.In s₁.heap) (hns:s₁.heap.Ns mainGlobals mg) (hb:s₁.heap.Ns builtinsNs mb) (hbb:∀x:Str,x≠"__name__"->mb x=bootBuiltins x) (hlim:s₁.heap.NoLimit) (hg:s₁.gens=#[])
  (ha:s₁.heap.get? a=some { cls:=.type "list",data:=.seq vs.toArray }) (hi:IntsAre vs ns) (hl:ns.length<=sizeLine) (hr:gG k callerA)
  (F:∀base:Heap,K.In base->base.Ns mainGlobals mg->ml P w K mg base CX k fa fd [x] sp) (hbind:∀(s:Shared) (u:Value),BindsTo s fd ⟨[u],[]⟩ [(x,u)])
  (hsp:∀H:Hp,Only H->Ht K H a (ns.map V.int)->sp [.ref a] H (λv _=>v=.bl true) λ_ _ _=>False)
  (hCX:∀H e s',CX [] H s₁ (λ_ _ _=>False) e s'->False) :
  codeAny (model P w) callerA (.call (.ref fa) ⟨[.ref a],[]⟩) (λr s'=>r=.ok (.ret (.bool true))/\OldK s₁.heap s'.heap/\s'.os=s₁.os/\AllBare s'.gens) s₁:=by
 have rv:=mK hi
 have aj:=hi.length
 have ag:∀H:Hp,Only H->Ht K H a (ns.map V.int)->HH P w H s₁.heap->(∀b,H b≠none->b=a)->(H a≠none->K.lookup a=none) ->
   codeAny (model P w) callerA (.call (.ref fa) ⟨[.ref a],[]⟩) (λr s'=>r=.ok (.ret (.bool true))/\OldK s₁.heap s'.heap/\s'.os=s₁.os/\AllBare s'.gens) s₁:=by
  intro H hO hS ai hA hK;have aa:∀ {b:Addr} {o:Obj},s₁.heap.get? b=some o->H b=none->(xz s₁.heap H).get? b=some o:=λe n=>xW e n;have ao:∀ {b:Addr} {o:Obj} {es:Array DictEntry} {ep:Nat},s₁.heap.get? b=some o->o.data=.dict es ep->H b=none:=λ{b o es ep} e d=>by
   cases q:H b with
   | none=>rfl
   | some u =>
    have e':b=a:=hA b (by rw[q];simp)
    subst e';rw[ha] at e;cases e;have d':Data.seq vs.toArray _=Data.dict es ep:=d
    cases d'
  have ab:∀ {b:Addr} {m:Str->Zd},s₁.heap.Ns b m->(xz s₁.heap H).Ns b m:=λ{b m} ⟨o,es,ep,e,d,r⟩=>⟨o,es,ep,aa e (ao e d),d,r⟩
  have ah:K.In (xz s₁.heap H):=λb o e=>aa (KX b o e) (by
   cases q:H b with
   | none=>rfl
   | some u =>
    have e':b=a:=hA b (by rw[q];simp)
    subst e'
    rw[hK (by rw[q];simp)] at e;cases e)
  have hM:Mod K mg (xz s₁.heap H):=⟨ah,ab hns,⟨mb,ab hb,hbb⟩,let ⟨mc,h1,h2⟩:=hlim;⟨mc,ab h1,h2⟩⟩
  have e0:Env0 P w K mg (xz s₁.heap H) callerA [] s₁ H:=⟨rfl,hM,λb o e=>AR e,Nat.le_of_eq (u9 _ _),trivial,λb hb=>absurd (show b∈([]:List Addr) from hb) 'p',ai,.of_eq hg⟩
  refine KI ((F _ ah (ab hns)).run callerA [] s₁ H ⟨[.ref a],[]⟩ [.ref a] [.ref a] _ _ hr e0 (hbind s₁ (.ref a)) (.cons rfl .nil) (hsp H hO hS)) λr s' h=>?_
  cases r with
  | error e=>exact(hCX H e s' h).elim
  | ok fl =>
   cases fl with
   | next=>exact False.elim h
   | brk=>exact False.elim h
   | cont=>exact False.elim h
   | ret u =>
    obtain⟨v,H',os,an,un,al,r',q⟩:=h;have q':v=.bl true:=q;subst q';obtain rfl:u=Value.bool true:=r';refine⟨rfl,OldK.of_keep λb o e=>?_,os,an⟩
    cases q:H b with
    | none=>exact un.keep b o e q (by intro z;exact absurd (show b∈([]:List Addr) from z) 'p') 'p'
    | some u =>
     rcases hO b with z | ⟨ob,xs,z⟩
     ·rw[q] at z;cases z
     ·have z2:=un.frzs b ob _ z
      obtain⟨e1,_⟩:=ai b _ z;obtain⟨e2,_⟩:=al b _ z2;rw[e] at e1;cases e1;exact e2
 cases hk:K.lookup a with
 | some o =>
  have e:=KX a o hk
  rw[ha] at e
  cases e
  refine ag (λ_=>none) (λ_=>.inl rfl) (.inr ⟨_,vs.toArray,_,hk,rfl,rfl,rfl,by rw[Iu,aj];exact hl,by simpa using rv⟩) (λb u z=>by have z':(none:Option HO)=some u:=z;cases z') (λb z=>absurd rfl z) λz=>absurd rfl z
 | none =>
  refine ag (λb=>if b=a then some (.frz { cls:=.type "list",data:=.seq vs.toArray } (.lst (ns.map V.int))) else none) (λb=>?_) (.inl (.inr ⟨{ cls:=.type "list",data:=.seq vs.toArray },Ir rfl⟩)) (λb u z=>?_) (λb z=>?_) λ_=>hk
  ·by_cases hb:b=a
   ·exact .inr ⟨_,_,Ir hb⟩
   ·exact .inl (Io hb)
  ·by_cases hb:b=a
   ·have z':=(Ir hb).symm.trans z
    cases z'
    subst hb;exact⟨ha,by rw[HS];exact hl,vs,_,rv,ha⟩
   ·have z':=(Io hb).symm.trans z
    cases z'
  ·by_cases hb:b=a
   ·exact hb
   ·exact absurd (Io hb) z
end L2
namespace L2
open PySem PySem.Spec PyProof.Rows
variable {x qual:Str} {st:Stmt} {f:Addr}
abbrev CX0:CXT:=λ_ _ _ _ _ _=>False
abbrev E0:XK:=λ_ _ _=>False
theorem Bg{X:Cx}:uO CX0 X E0:=λ_ _ _ _ _ _ _ h=>h.elim
structure Fun(K:PySem.W.Frag)(x qual:Str)(st:Stmt)(f:Addr)(fd:FuncData):Prop where
 ex:∃(oc:Value) (od:Option Addr) (kV doc pm:Value) (an:Option Addr) (cdv ct:Value) (osl:Array (Zd)),
  fd=PySem.W.fnOf x qual (dw st) (bP st) (aq st) .none kV doc pm an cdv ct/\K.lookup f=some ⟨oc,od,.func fd,osl⟩/\PySem.W.codeIn K cdv qual=true
 kp:PySem.W.keepIn K (.ref f)=true
section
variable {P:Program} {w:World} {K:PySem.W.Frag} {mg:Str→Zd} {base:Heap}
theorem Fun.ok{fd:FuncData}{N ps:Zb}{k:Nat}{sp:Sp}(F:Fun K x qual st f fd)(S:ax N ps (aq st))(len:∀vs H Q E,sp vs H Q E->vs.length=ps.length)
    (hbody:∀(cdv:Value) (A:Around) (outer:List Env) (s:Shared) (H:Hp) (vs:Zf) (Q:VK) (E:XK),gG k (A.deeper (envOfC qual (aq st) s.heap.objs.size f cdv))->sp vs H Q E ->
      ∃t,PSs (wX CX0 P w K mg base N qual (aq st) f cdv A outer s H E).nox (bP st) t/\t { nx:=λ_ H'=>Q .non H',rt:=Q } (start N vs) H):ml P w K mg base CX0 (k+1) f fd ps sp:=by
  obtain⟨oc,od,kV,ab,pm,an,cdv,ct,ag,rfl,lk,aa⟩:=F.ex;refine Gb lk aa S len λA outer s H vs Q E hr hsp=>?_;obtain⟨t,h,q⟩:=hbody cdv A outer s H vs Q E hr hsp;exact⟨t,h.nox,q⟩
theorem Fun.binds{fd:FuncData}{ps:Zb}(F:Fun K x qual st f fd)
  (h:∀(kV doc pm:Value) (an:Option Addr) (cdv ct:Value) (us:Zc),us.length=ps.length->bindArgs (PySem.W.fnOf x qual (dw st) (bP st) (aq st) .none kV doc pm an cdv ct) ⟨us,[]⟩=pure (ps.zip us)):mU K fd ps []:=by
 obtain⟨oc,od,kV,doc,pm,an,cdv,ct,ab,rfl,lk,aa⟩:=F.ex;exact .all (h kV doc pm an cdv ct)
theorem Ac{oc:Value}{od an:Option Addr}{osl:Array (Zd)}{kV doc pm cdv ct:Value}(l:K.lookup f=some ⟨oc,od,.func (PySem.W.fnOf x qual (dw st) (bP st) (aq st) .none kV doc pm an cdv ct),osl⟩)
  (c:PySem.W.codeIn K cdv qual=true) (k:PySem.W.keepIn K (.ref f)=true):Fun K x qual st f (PySem.W.fnOf x qual (dw st) (bP st) (aq st) .none kV doc pm an cdv ct):=⟨⟨oc,od,kV,doc,pm,an,cdv,ct,osl,rfl,l,c⟩,k⟩
end
section
variable {X:Cx}
theorem pv(i:Nat){pos:Pos}(hN:X.N[i]?=some x:=by rfl)(hv:Vis X.env.scope x:=by walk_at "v3")(hd:(x==("__debug__":Str))=false:=by decide)
  (hcd:(x==("__classdict__":Str))=false:=by decide):PE X (.Name x pos) (tVar i):=dP hN hv hd hcd
end
theorem eQ{c A B:Prop}[Decidable c](h1:c->A)(h2:¬ c->B):if c then A else B:=by
 by_cases h:c
 ·rw[Ir h];exact h1 h
 ·rw[Io h];exact h2 h
def bF(H H':Hp):Prop:=∀b o,H b=some o->H' b=some o
theorem bF.refl(H:Hp):bF H H:=λ_ _ h=>h
theorem bF.trans{H H1 H2:Hp}(a:bF H H1)(b:bF H1 H2):bF H H2:=λc o h=>b c o (a c o h)
theorem bF.seq{K:PySem.W.Frag}{H H':Hp}{a:Addr}{xs:Zf}(e:bF H H')(h:Ht K H a xs):Ht K H' a xs:=by
 rcases h with(h | ⟨o,h⟩) | h
 ·exact .inl (.inl (e _ _ h))
 ·exact .inl (.inr ⟨o,e _ _ h⟩)
 ·exact .inr h
section
variable {κ:Type} [DecidableEq κ]
end
end L2
namespace DL
open PySem L2
variable {M:Addr→Prop} {a:Addr} {vs:Zf} {v:V}
inductive D where
 | non | bl (b:Bool) | int (i:Int) | str (x:Str)
 | tup (xs:List D) | lst (xs:List D) | fz (xs:List D) | dct (ks:Zb) (vs:List D) | fd (ks:Zb) (vs:List D) | fo (o:Obj) (ks:Zb) (vs:List D) | exn (c f:Str) (x:D)
abbrev Zg:=D->Prop
abbrev Zh:=List D
mutual
def D.im:D->Bool
 | .tup xs=>D.ims xs
 | .lst _=>false
 | .fz xs=>D.ims xs
 | .dct _ _=>false
 | .fd _ xs=>D.ims xs
 | .fo _ _ xs=>D.ims xs
 | .exn _ _ _=>false
 | .non=>true
 | .bl _=>true
 | .int _=>true
 | .str _=>true
def D.ims:Zh->Bool
 | []=>true
 | x::r=>D.im x&&D.ims r
end
abbrev xob(C:Addr)(dx:Option Addr)(a t:Value):Obj:={ cls:=.ref C,dict:=dx,data:=.fields #[a,t,.none,.none,.bool false,.none] }
def XAt(e C dx:Addr):HO:=.ext λh=>∃a t,h.get? e=some (xob C (some dx) a t)
def XNew(e C dx:Addr):HO:=.ext λh=>∃a,h.get? e=some (xob C (some dx) a .none)
structure Cu(K:PySem.W.Frag)(M:Addr->Prop)(H:Hp)(c f:Str)(v y:V):Prop where
 ex:∃e C dx,v=.ref e/\¬ M e/\¬ M dx/\(H e=some (XAt e C dx)\/H e=some (XNew e C dx))/\H dx=some (.xd [(f,y)])/\PySem.W.nsIn K mainGlobals c=some (some (.ref C))
def aM(ks:Zb)(vs:Zf):List (Ho×V):=(ks.map Sum.inr).zip vs
def H0:Hp:=λ_=>none
def CS(K:PySem.W.Frag)(H:Hp)(a:Addr)(vs:Zf):Prop:=(∃o,H a=some (.frz o (.lst vs)))\/Ht K H0 a vs
mutual
def HP(K:PySem.W.Frag)(M:Addr->Prop)(H:Hp):D->V->Prop
 | .non,v=>v=.non
 | .bl b,v=>v=.bl b
 | .int i,v=>v=.int i
 | .str x,v=>v=.str x
 | .tup ds,v=>∃a vs,v=.ref a/\Hv K H a vs/\Reps K M H ds vs
 | .lst ds,v=>∃a vs,v=.ref a/\¬ M a/\H a=some (.lst vs)/\Reps K M H ds vs
 | .fz ds,v=>∃a vs,v=.ref a/\CS K H a vs/\Reps K M H ds vs
 | .dct ks ds,v=>∃a vs,v=.ref a/\¬ M a/\H a=some (.dK (aM ks vs))/\ks.length=ds.length/\Reps K M H ds vs
 | .fd ks ds,v=>∃a vs o,v=.ref a/\H a=some (.frz o (.dK (aM ks vs)))/\ks.length=ds.length/\Reps K M H ds vs
 | .fo o ks ds,v=>∃a vs,v=.ref a/\H a=some (.frz o (.dK (aM ks vs)))/\ks.length=ds.length/\Reps K M H ds vs
 | .exn c f d,v=>∃y,Cu K M H c f v y/\HP K M H d y
def Reps(K:PySem.W.Frag)(M:Addr->Prop)(H:Hp):Zh->Zf->Prop
 | [],vs=>vs=[]
 | d::ds,vs=>∃v r,vs=v::r/\HP K M H d v/\Reps K M H ds r
end
structure Kp(M:Addr->Prop)(H H':Hp):Prop where
 un:∀b o,H b=some o->¬ M b->H' b=some o
 tu:∀b xs,H b=some (.tup xs)->H' b=some (.tup xs)
 fr:∀b o u,H b=some (.frz o u)->H' b=some (.frz o u)
theorem Kp.of_same{H H':Hp}(h:bF H H'):Kp M H H':=⟨λb o e _=>h b o e,λb xs e=>h b _ e,λb o u e=>h b _ e⟩
theorem Kp.refl{H:Hp}:Kp M H H:=Kp.of_same (bF.refl H)
section
variable {K:PySem.W.Frag} {M M':Addr→Prop} {H H':Hp}
theorem Hv.kp(k:Kp M H H')(h:Hv K H a vs):Hv K H' a vs:=by
 rcases h with(h | ⟨o,h⟩) | h
 ·exact .inl (.inl (k.tu _ _ h))
 ·exact .inl (.inr ⟨o,k.fr _ _ _ h⟩)
 ·exact .inr h
theorem CS.kp(k:Kp M H H')(h:CS K H a vs):CS K H' a vs:=by
 rcases h with⟨o,h⟩ | h
 ·exact .inl ⟨o,k.fr _ _ _ h⟩
 ·exact .inr h
theorem CS.seq(h:CS K H a vs):Ht K H a vs:=by
 rcases h with⟨o,h⟩ | (h | ⟨o,h⟩) | h
 ·exact .inl (.inr ⟨o,h⟩)
 ·cases h
 ·cases h
 ·exact .inr h
theorem Cu.kp{c f:Str}{y:V}(k:Kp M H H')(h:Cu K M H c f v y):Cu K M H' c f v y:=by
 obtain⟨e,C,dx,rfl,n1,n2,h1,h2,h3⟩:=h.ex;exact⟨⟨e,C,dx,rfl,n1,n2,h1.imp (λz=>k.un _ _ z n1) (λz=>k.un _ _ z n1),k.un _ _ h2 n2,h3⟩⟩
theorem Cu.more{c f:Str}{y:V}(hM:∀b,M' b->M b\/H b=none)(h:Cu K M H c f v y):Cu K M' H c f v y:=by
 obtain⟨e,C,dx,rfl,n1,n2,h1,h2,h3⟩:=h.ex;refine⟨⟨e,C,dx,rfl,λz=>(hM _ z).elim n1 λq=>?_,λz=>(hM _ z).elim n2 (λq=>by rw[h2] at q;cases q),h1,h2,h3⟩⟩
 rcases h1 with h1 | h1<;>(rw[h1] at q;cases q)
mutual
theorem HP.kp(k:Kp M H H'):∀(d:D) (v:V),HP K M H d v->HP K M H' d v
 | .non,v,h=>by unfold HP at h ⊢;exact h
 | .bl b,v,h=>by unfold HP at h ⊢;exact h
 | .int i,v,h=>by unfold HP at h ⊢;exact h
 | .str x,v,h=>by unfold HP at h ⊢;exact h
 | .tup ds,v,h=>by
  unfold HP at h ⊢;obtain⟨a,vs,e,q,r⟩:=h;exact⟨a,vs,e,Hv.kp k q,Reps.kp k ds vs r⟩
 | .lst ds,v,h=>by
  unfold HP at h ⊢;obtain⟨a,vs,e,n,q,r⟩:=h;exact⟨a,vs,e,n,k.un _ _ q n,Reps.kp k ds vs r⟩
 | .fz ds,v,h=>by
  unfold HP at h ⊢;obtain⟨a,vs,e,q,r⟩:=h;exact⟨a,vs,e,q.kp k,Reps.kp k ds vs r⟩
 | .dct ks ds,v,h=>by
  unfold HP at h ⊢;obtain⟨a,vs,e,n,q,l,r⟩:=h;exact⟨a,vs,e,n,k.un _ _ q n,l,Reps.kp k ds vs r⟩
 | .fd ks ds,v,h=>by
  unfold HP at h ⊢;obtain⟨a,vs,o,e,q,l,r⟩:=h;exact⟨a,vs,o,e,k.fr _ _ _ q,l,Reps.kp k ds vs r⟩
 | .fo o ks ds,v,h=>by
  unfold HP at h ⊢;obtain⟨a,vs,e,q,l,r⟩:=h;exact⟨a,vs,e,k.fr _ _ _ q,l,Reps.kp k ds vs r⟩
 | .exn c f d,v,h=>by
  unfold HP at h ⊢;obtain⟨y,q,r⟩:=h;exact⟨y,q.kp k,HP.kp k d y r⟩
theorem Reps.kp(k:Kp M H H'):∀(ds:Zh) (vs:Zf),Reps K M H ds vs->Reps K M H' ds vs
 | [],vs,h=>by unfold Reps at h ⊢;exact h
 | d::ds,vs,h=>by
  unfold Reps at h ⊢;obtain⟨v,r,e,q,s⟩:=h;exact⟨v,r,e,HP.kp k d v q,Reps.kp k ds r s⟩
end
mutual
theorem HP.more(hM:∀b,M' b->M b\/H b=none):∀(d:D) (v:V),HP K M H d v->HP K M' H d v
 | .non,v,h=>by unfold HP at h ⊢;exact h
 | .bl b,v,h=>by unfold HP at h ⊢;exact h
 | .int i,v,h=>by unfold HP at h ⊢;exact h
 | .str x,v,h=>by unfold HP at h ⊢;exact h
 | .tup ds,v,h=>by
  unfold HP at h ⊢;obtain⟨a,vs,e,q,r⟩:=h;exact⟨a,vs,e,q,Reps.more hM ds vs r⟩
 | .lst ds,v,h=>by
  unfold HP at h ⊢;obtain⟨a,vs,e,n,q,r⟩:=h;exact⟨a,vs,e,λz=>(hM _ z).elim n (λe=>by rw[q] at e;cases e),q,Reps.more hM ds vs r⟩
 | .fz ds,v,h=>by
  unfold HP at h ⊢;obtain⟨a,vs,e,q,r⟩:=h;exact⟨a,vs,e,q,Reps.more hM ds vs r⟩
 | .dct ks ds,v,h=>by
  unfold HP at h ⊢;obtain⟨a,vs,e,n,q,l,r⟩:=h;exact⟨a,vs,e,λz=>(hM _ z).elim n (λe=>by rw[q] at e;cases e),q,l,Reps.more hM ds vs r⟩
 | .fd ks ds,v,h=>by
  unfold HP at h ⊢;obtain⟨a,vs,o,e,q,l,r⟩:=h;exact⟨a,vs,o,e,q,l,Reps.more hM ds vs r⟩
 | .fo o ks ds,v,h=>by
  unfold HP at h ⊢;obtain⟨a,vs,e,q,l,r⟩:=h;exact⟨a,vs,e,q,l,Reps.more hM ds vs r⟩
 | .exn c f d,v,h=>by
  unfold HP at h ⊢;obtain⟨y,q,r⟩:=h;exact⟨y,q.more hM,HP.more hM d y r⟩
theorem Reps.more(hM:∀b,M' b->M b\/H b=none):∀(ds:Zh) (vs:Zf),Reps K M H ds vs->Reps K M' H ds vs
 | [],vs,h=>by unfold Reps at h ⊢;exact h
 | d::ds,vs,h=>by
  unfold Reps at h ⊢;obtain⟨v,r,e,q,s⟩:=h;exact⟨v,r,e,HP.more hM d v q,Reps.more hM ds r s⟩
end
mutual
theorem HP.im:∀(d:D) (v:V),d.im=true->HP K M H d v->HP K M' H d v
 | .non,v,_,h=>by unfold HP at h ⊢;exact h
 | .bl b,v,_,h=>by unfold HP at h ⊢;exact h
 | .int i,v,_,h=>by unfold HP at h ⊢;exact h
 | .str x,v,_,h=>by unfold HP at h ⊢;exact h
 | .tup ds,v,i,h=>by
  unfold HP at h ⊢;obtain⟨a,vs,e,q,r⟩:=h;unfold D.im at i;exact⟨a,vs,e,q,Reps.im ds vs i r⟩
 | .lst ds,v,i,h=>by unfold D.im at i;cases i
 | .fz ds,v,i,h=>by
  unfold HP at h ⊢;obtain⟨a,vs,e,q,r⟩:=h;unfold D.im at i;exact⟨a,vs,e,q,Reps.im ds vs i r⟩
 | .dct ks ds,v,i,h=>by unfold D.im at i;cases i
 | .fd ks ds,v,i,h=>by
  unfold HP at h ⊢;obtain⟨a,vs,o,e,q,l,r⟩:=h;unfold D.im at i;exact⟨a,vs,o,e,q,l,Reps.im ds vs i r⟩
 | .fo o ks ds,v,i,h=>by
  unfold HP at h ⊢;obtain⟨a,vs,e,q,l,r⟩:=h;unfold D.im at i;exact⟨a,vs,e,q,l,Reps.im ds vs i r⟩
 | .exn c f d,v,i,h=>by unfold D.im at i;cases i
theorem Reps.im:∀(ds:Zh) (vs:Zf),D.ims ds=true->Reps K M H ds vs->Reps K M' H ds vs
 | [],vs,_,h=>by unfold Reps at h ⊢;exact h
 | d::ds,vs,i,h=>by
  unfold Reps at h ⊢;obtain⟨v,r,e,q,s⟩:=h;unfold D.ims at i;obtain⟨i1,i2⟩:=IB.mp i;exact⟨v,r,e,HP.im d v i1 q,Reps.im ds r i2 s⟩
end
theorem Reps.length:∀(ds:Zh) (vs:Zf),Reps K M H ds vs->ds.length=vs.length
 | [],vs,h=>by unfold Reps at h;subst h;rfl
 | d::ds,vs,h=>by
  unfold Reps at h;obtain⟨v,r,rfl,q,s⟩:=h;rw[Ik,Ik,Reps.length ds r s]
theorem Reps.get:∀(ds:Zh) (vs:Zf),Reps K M H ds vs->∀(i:Nat) (d:D),ds[i]?=some d->∃v,vs[i]?=some v/\HP K M H d v
 | [],vs,h,i,d,e=>by simp at e
 | d::ds,vs,h,i,d',e=>by
  unfold Reps at h;obtain⟨v,r,rfl,q,s⟩:=h
  cases i with
  | zero=>simp at e;subst e;exact⟨v,rfl,q⟩
  | succ i=>exact Reps.get ds r s i d' (by simpa using e)
theorem Reps.of:∀(ds:Zh) (vs:Zf),ds.length=vs.length->(∀(i:Nat) d v,ds[i]?=some d->vs[i]?=some v->HP K M H d v)->Reps K M H ds vs
 | [],vs,l,_=>by unfold Reps;exact JE.mp l.symm
 | d::ds,[],l,_=>by cases l
 | d::ds,v::vs,l,h=>by
  unfold Reps;exact⟨v,vs,rfl,h 0 d v rfl rfl,Reps.of ds vs (J4 l) λi d' v' e e'=>h (i+1) d' v' (by simpa using e) (by simpa using e')⟩
theorem Reps.append:∀(ds es:Zh) (vs ws:Zf),Reps K M H ds vs->Reps K M H es ws->Reps K M H (ds++es) (vs++ws)
 | [],es,vs,ws,h,k=>by unfold Reps at h;subst h;exact k
 | d::ds,es,vs,ws,h,k=>by
  unfold Reps at h;obtain⟨v,r,rfl,q,s⟩:=h;show Reps K M H (d::(ds++es)) (v::(r++ws));unfold Reps;exact⟨v,r++ws,rfl,q,Reps.append ds es r ws s k⟩
theorem Reps.one{d:D}(h:HP K M H d v):Reps K M H [d] [v]:=by
 unfold Reps;exact⟨v,[],rfl,h,by unfold Reps;rfl⟩
theorem Reps.nil:Reps K M H [] []:=by unfold Reps;rfl
theorem Reps.cons{d:D}{v:V}{ds:Zh}{vs:Zf}(h:HP K M H d v)(r:Reps K M H ds vs):Reps K M H (d::ds) (v::vs):=by
 unfold Reps;exact⟨v,vs,rfl,h,r⟩
theorem Reps.take:∀(n:Nat) (ds:Zh) (vs:Zf),Reps K M H ds vs->Reps K M H (ds.take n) (vs.take n)
 | 0,ds,vs,h=>by simpa using Reps.nil
 | n+1,[],vs,h=>by unfold Reps at h;subst h;simpa using Reps.nil
 | n+1,d::ds,vs,h=>by
  unfold Reps at h;obtain⟨v,r,rfl,q,s⟩:=h;exact Reps.cons q (Reps.take n ds r s)
theorem Reps.drop:∀(n:Nat) (ds:Zh) (vs:Zf),Reps K M H ds vs->Reps K M H (ds.drop n) (vs.drop n)
 | 0,ds,vs,h=>h
 | n+1,[],vs,h=>by unfold Reps at h;subst h;simpa using Reps.nil
 | n+1,d::ds,vs,h=>by
  unfold Reps at h;obtain⟨v,r,rfl,q,s⟩:=h;exact Reps.drop n ds r s
theorem Reps.ints(ns:Ze):Reps K M H (ns.map D.int) (ns.map V.int):=by
 induction ns with
 | nil=>exact Reps.nil
 | cons n r ih=>exact Reps.cons (by unfold HP;rfl) ih
end
inductive Sl where
 | no | dat (d:D) | own (a:Addr) (d:D)
structure Gf where
 M0:Addr->Prop
 H0:Hp
 Pm:Addr->Prop
def bG(K:PySem.W.Frag)(M:Addr->Prop)(H:Hp)(a:Addr):D->Prop
 | .lst ds=>∃vs,H a=some (.lst vs)/\Reps K M H ds vs
 | .dct ks ds=>∃vs,H a=some (.dK (aM ks vs))/\ks.length=ds.length/\Reps K M H ds vs
 | _=>False
structure Sx(K:PySem.W.Frag)(G:Gf)(A:Addr->Prop)(δ:List Sl)(P:List (D×V))(σ:St)(H:Hp):Prop where
 old:∀b o,G.H0 b=some o->¬ G.Pm b->H b=some o
 stay:∀b,G.H0 b≠none->H b≠none
 m0:∀b,G.M0 b->G.H0 b≠none
 pm:∀b,G.Pm b->G.H0 b≠none/\¬ G.M0 b
 new:∀b,A b->G.H0 b=none\/G.Pm b
 thr:∀b,A b->H b≠none
 len:δ.length=σ.length
 dat:∀(i:Nat) d,δ[i]?=some (.dat d)->∃v,σ[i]?=some (some v)/\HP K (λb=>G.M0 b\/A b) H d v
 own:∀(i:Nat) a d,δ[i]?=some (.own a d)->σ[i]?=some (some (.ref a))/\A a/\bG K (λb=>G.M0 b\/A b) H a d
 inj:∀(i j:Nat) a d e,δ[i]?=some (.own a d)->δ[j]?=some (.own a e)->i=j
 pnd:∀p∈P,HP K (λb=>G.M0 b\/A b) H p.1 p.2
def S(K:PySem.W.Frag)(G:Gf)(δ:List Sl)(P:List (D×V))(σ:St)(H:Hp):Prop:=∃A,Sx K G A δ P σ H
inductive aQ(K:PySem.W.Frag)(f:Zh->(D->Prop)->Prop)(vs:Zf)(H:Hp)(Q:VK):Prop
 | mk (M:Addr->Prop) (ds:Zh) (R:D->Prop) (m:∀b,M b->H b≠none) (rs:Reps K M H ds vs) (h:f ds R) (k:∀d,R d->∀v H',bF H H'->HP K M H' d v->Q v H')
section
variable {K:PySem.W.Frag} {G:Gf} {A:Addr→Prop} {δ:List Sl} {P P':List (D×V)} {σ:St} {H H':Hp}
theorem bG.kp{d:D}(k:Kp M H H')(e:H' a=H a)(h:bG K M H a d):bG K M H' a d:=by
 cases d with
 | lst ds =>
  obtain⟨vs,q,r⟩:=h;exact⟨vs,e.trans q,Reps.kp k _ _ r⟩
 | dct ks ds =>
  obtain⟨vs,q,l,r⟩:=h;exact⟨vs,e.trans q,l,Reps.kp k _ _ r⟩
 | _=>exact h.elim
theorem bG.more{M':Addr->Prop}{d:D}(hM:∀b,M' b->M b\/H b=none)(h:bG K M H a d):bG K M' H a d:=by
 cases d with
 | lst ds =>
  obtain⟨vs,q,r⟩:=h;exact⟨vs,q,Reps.more hM _ _ r⟩
 | dct ks ds =>
  obtain⟨vs,q,l,r⟩:=h;exact⟨vs,q,l,Reps.more hM _ _ r⟩
 | _=>exact h.elim
theorem Sx.sub(s:Sx K G A δ P σ H)(h:∀p∈P',p∈P):Sx K G A δ P' σ H :=
 ⟨s.old,s.stay,s.m0,s.pm,s.new,s.thr,s.len,s.dat,s.own,s.inj,λp hp=>s.pnd p (h p hp)⟩
theorem S.sub(s:S K G δ P σ H)(h:∀p∈P',p∈P):S K G δ P' σ H:=let ⟨A,x⟩:=s;⟨A,x.sub h⟩
theorem Sx.same(s:Sx K G A δ P σ H)(h:bF H H'):Sx K G A δ P σ H' where
 old:=λb o e n=>h b o (s.old b o e n)
 stay:=λb e=>by
  cases q:H b with
  | none=>exact absurd q (s.stay b e)
  | some o=>rw[h b o q];exact λz=>nomatch z
 m0:=s.m0
 pm:=s.pm
 new:=s.new
 thr:=λb e=>by
  cases q:H b with
  | none=>exact absurd q (s.thr b e)
  | some o=>rw[h b o q];exact λz=>nomatch z
 len:=s.len
 dat:=λi d e=>let ⟨v,q,r⟩:=s.dat i d e;⟨v,q,HP.kp (Kp.of_same h) _ _ r⟩
 own:=λi a d e=>by
  obtain⟨q,a1,o⟩:=s.own i a d e;refine⟨q,a1,bG.kp (Kp.of_same h) ?_ o⟩
  cases z:H a with
  | none=>exact absurd z (s.thr a a1)
  | some o=>exact h a o z
 inj:=s.inj
 pnd:=λp hp=>HP.kp (Kp.of_same h) _ _ (s.pnd p hp)
theorem Sx.push(s:Sx K G A δ P σ H){d:D}(h:HP K (λb=>G.M0 b\/A b) H d v):Sx K G A δ ((d,v)::P) σ H :=
 ⟨s.old,s.stay,s.m0,s.pm,s.new,s.thr,s.len,s.dat,s.own,s.inj,λp hp=>by
  rcases Ih.mp hp with rfl | hp
  ·exact h
  ·exact s.pnd p hp⟩
theorem Sx.mem(s:Sx K G A δ P σ H):∀b,(G.M0 b\/A b)->H b≠none:=λb h=>h.elim (λz=>s.stay b (s.m0 b z)) λz=>s.thr b z
theorem Sx.reps(s:Sx K G A δ P σ H):∀(ds:Zh) (vs:Zf),ds.length=vs.length->(∀p∈ds.zip vs,p∈P)->Reps K (λb=>G.M0 b\/A b) H ds vs
 | [],[],_,_=>Reps.nil
 | d::ds,v::vs,l,h=>Reps.cons (s.pnd (d,v) (h _ (HY ..))) (Sx.reps s ds vs (J4 l) λp hp=>h p (HV _ hp))
theorem S.pure{f:Zh->(D->Prop)->Prop}{ds:Zh}{R:D->Prop}{Q:VK}(s:S K G δ P σ H)(hl:ds.length=vs.length)(hp:∀p∈ds.zip vs,p∈P)(hs:∀p∈P',p∈P)(hf:f ds R)
  (h:∀d,R d->∀v H',S K G δ ((d,v)::P') σ H'->Q v H'):aQ K f vs H Q:=by
 obtain⟨A,x⟩:=s;refine⟨λb=>G.M0 b\/A b,ds,R,x.mem,x.reps ds vs hl hp,hf,λd r v H' sm rp=>h d r v H' ⟨A,?_⟩⟩;exact((x.same sm).sub hs).push rp
theorem Sx.set{i:Nat}{d:D}(s:Sx K G A δ P σ H)(hp:(d,v)∈P)(hs:∀p∈P',p∈P):Sx K G A (δ.set i (.dat d)) P' (σ.set i (some v)) H where
 old:=s.old
 stay:=s.stay
 m0:=s.m0
 pm:=s.pm
 new:=s.new
 thr:=s.thr
 len:=by rw[IX,IX,s.len]
 dat:=λj d' e=>by
  by_cases hij:i=j
  ·subst hij
   by_cases hl:i<δ.length
   ·rw[List.getElem?_set_self hl] at e
    cases e
    exact⟨v,by rw[List.getElem?_set_self (by rw[<- s.len];exact hl)],s.pnd _ hp⟩
   ·rw[List.getElem?_eq_none (by rw[IX];omega)] at e
    cases e
  ·rw[List.getElem?_set_ne hij] at e;obtain⟨v',q,r⟩:=s.dat j d' e;exact⟨v',by rw[List.getElem?_set_ne hij];exact q,r⟩
 own:=λj a d' e=>by
  by_cases hij:i=j
  ·subst hij
   by_cases hl:i<δ.length
   ·rw[List.getElem?_set_self hl] at e
    cases e
   ·rw[List.getElem?_eq_none (by rw[IX];omega)] at e
    cases e
  ·rw[List.getElem?_set_ne hij] at e;obtain⟨q,r⟩:=s.own j a d' e;exact⟨by rw[List.getElem?_set_ne hij];exact q,r⟩
 inj:=λj k a d' e' h1 h2=>by
  have hj:δ[j]?=some (.own a d'):=by
   by_cases hij:i=j
   ·subst hij
    by_cases hl:i<δ.length
    ·rw[List.getElem?_set_self hl] at h1;cases h1
    ·rw[List.getElem?_eq_none (by rw[IX];omega)] at h1;cases h1
   ·rw[List.getElem?_set_ne hij] at h1;exact h1
  have hk:δ[k]?=some (.own a e'):=by
   by_cases hij:i=k
   ·subst hij
    by_cases hl:i<δ.length
    ·rw[List.getElem?_set_self hl] at h2;cases h2
    ·rw[List.getElem?_eq_none (by rw[IX];omega)] at h2;cases h2
   ·rw[List.getElem?_set_ne hij] at h2;exact h2
  exact s.inj j k a d' e' hj hk
 pnd:=λp h=>s.pnd p (hs p h)
theorem S.set{i:Nat}{d:D}(s:S K G δ P σ H)(hp:(d,v)∈P)(hs:∀p∈P',p∈P):S K G (δ.set i (.dat d)) P' (σ.set i (some v)) H:=let ⟨A,x⟩:=s;⟨A,x.set hp hs⟩
end
end DL
namespace DL
open PySem L2
variable {i:Nat} {a:Addr} {d:D}
section
variable {K:PySem.W.Frag} {G:Gf} {A:Addr→Prop} {δ:List Sl} {P P':List (D×V)} {σ:St} {H H':Hp}
theorem aX{α:Type}{l:List α}{j:Nat}{x y:α}(h:(l.set i x)[j]?=some y):(i=j/\x=y/\i<l.length)\/(i≠j/\l[j]?=some y):=by
 by_cases e:i=j
 ·subst e
  by_cases hl:i<l.length
  ·rw[List.getElem?_set_self hl] at h;exact .inl ⟨rfl,Iq h,hl⟩
  ·rw[List.getElem?_eq_none (by rw[IX];omega)] at h
   cases h
 ·rw[List.getElem?_set_ne e] at h;exact .inr ⟨e,h⟩
theorem Sx.claim(s:Sx K G A δ P σ H)(hn:H a=none)(hs:bF H H')(ho:bG K (λb=>(G.M0 b\/A b)\/b=a) H' a d)(hP:∀p∈P',p∈P) :
  Sx K G (λb=>A b\/b=a) (δ.set i (.own a d)) P' (σ.set i (some (.ref a))) H':=by
 have x:=s.same hs
 have hM:∀b,(G.M0 b\/(A b\/b=a))->(G.M0 b\/A b)\/H b=none:=λb h=>by
  rcases h with h | h | h
  ·exact .inl (.inl h)
  ·exact .inl (.inr h)
  ·subst h;exact .inr hn
 have ah:∀b,(G.M0 b\/(A b\/b=a))->((G.M0 b\/A b)\/b=a)\/H' b=none:=λb h=>by
  rcases h with h | h | h
  ·exact .inl (.inl (.inl h))
  ·exact .inl (.inl (.inr h))
  ·exact .inl (.inr h)
 have up:∀d v,HP K (λb=>G.M0 b\/A b) H d v->HP K (λb=>G.M0 b\/(A b\/b=a)) H' d v:=λd v r=>HP.kp (Kp.of_same hs) _ _ (HP.more hM _ _ r)
 have na:∀b,A b->b≠a:=λb h e=>s.thr b h (by rw[e];exact hn)
 have h0:G.H0 a=none:=by
  cases q:G.H0 a with
  | none=>rfl
  | some o=>exact absurd hn (s.stay a (by rw[q];exact λz=>nomatch z))
 have ag:H' a≠none:=by
  cases d with
  | lst ds=>obtain⟨vs,q,_⟩:=ho;rw[q];exact λz=>nomatch z
  | dct ks ds=>obtain⟨vs,q,_⟩:=ho;rw[q];exact λz=>nomatch z
  | _=>exact ho.elim
 refine⟨x.old,x.stay,x.m0,x.pm,λb h=>h.elim (s.new b) λe=>.inl (by rw[e];exact h0),λb h=>h.elim (x.thr b) λe=>by rw[e];exact ag,by rw[IX,IX,s.len],λj d' e=>?_,λj b d' e=>?_,
  λj k b d' e' h1 h2=>?_,λp hp=>up _ _ (s.pnd p (hP p hp))⟩
 ·rcases aX e with⟨_,z,_⟩ | ⟨aa,e⟩
  ·cases z
  ·obtain⟨v,q,r⟩:=s.dat j d' e;exact⟨v,by rw[List.getElem?_set_ne aa];exact q,up _ _ r⟩
 ·rcases aX e with⟨aa,z,hl⟩ | ⟨aa,e⟩
  ·cases z
   subst aa;exact⟨by rw[List.getElem?_set_self (by rw[<- s.len];exact hl)],.inr rfl,bG.more ah ho⟩
  ·obtain⟨q,r,o⟩:=s.own j b d' e;refine⟨by rw[List.getElem?_set_ne aa];exact q,.inl r,bG.kp (Kp.of_same hs) ?_ (bG.more hM o)⟩
   cases z:H b with
   | none=>exact absurd z (s.thr b r)
   | some o'=>exact hs b o' z
 ·rcases aX h1 with⟨aa,z,hl⟩ | ⟨aa,e⟩
  ·cases z
   rcases aX h2 with⟨ab,_,_⟩ | ⟨ab,e2⟩
   ·rw[<- aa,<- ab]
   ·exact absurd rfl (na _ (s.own k _ _ e2).2.1)
  ·rcases aX h2 with⟨ab,z,_⟩ | ⟨ab,e2⟩
   ·cases z
    exact absurd rfl (na _ (s.own j _ _ e).2.1)
   ·exact s.inj j k b d' e' e e2
theorem Sx.change{d':D}(s:Sx K G A δ P σ H)(hi:δ[i]?=some (.own a d))(hk:∀b o,b≠a->H b=some o->H' b=some o)(ho:bG K (λb=>G.M0 b\/A b) H' a d') :
  Sx K G A (δ.set i (.own a d')) P σ H':=by
 obtain⟨si,ai,oi⟩:=s.own i a d hi;have ab:(∀xs,H a≠some (.tup xs))/\∀o u,H a≠some (.frz o u):=by
  cases d with
  | lst ds=>obtain⟨vs,q,_⟩:=oi;rw[q];exact⟨λ_ z=>(nomatch z),λ_ _ z=>(nomatch z)⟩
  | dct ks ds=>obtain⟨vs,q,_⟩:=oi;rw[q];exact⟨λ_ z=>(nomatch z),λ_ _ z=>(nomatch z)⟩
  | _=>exact oi.elim
 have ah:H' a≠none:=by
  cases d' with
  | lst ds=>obtain⟨vs,q,_⟩:=ho;rw[q];exact λz=>nomatch z
  | dct ks ds=>obtain⟨vs,q,_⟩:=ho;rw[q];exact λz=>nomatch z
  | _=>exact ho.elim
 have kp:Kp (λb=>G.M0 b\/A b) H H':=⟨λb o e n=>hk b o (λz=>n (.inr (by rw[z];exact ai))) e,λb xs e=>hk b _ (λz=>ab.1 xs (by rw[<- z];exact e)) e,
  λb o u e=>hk b _ (λz=>ab.2 o u (by rw[<- z];exact e)) e⟩
 have stay:∀b,H b≠none->H' b≠none:=λb e=>by
  by_cases z:b=a
  ·rw[z];exact ah
  ·cases q:H b with
   | none=>exact absurd q e
   | some o=>rw[hk b o z q];exact λz=>nomatch z
 have na:∀b o,G.H0 b=some o->¬ G.Pm b->b≠a:=λb o e n z=>(s.new a ai).elim (λq=>by rw[z] at e;rw[e] at q;cases q) λq=>n (by rw[z];exact q)
 refine⟨λb o e n=>hk b o (na b o e n) (s.old b o e n),λb e=>stay b (s.stay b e),s.m0,s.pm,s.new,λb e=>stay b (s.thr b e),by rw[IX,s.len],λj x e=>?_,λj b x e=>?_,λj k b x y h1 h2=>?_,
  λp hp=>HP.kp kp _ _ (s.pnd p hp)⟩
 ·rcases aX e with⟨_,z,_⟩ | ⟨aa,e⟩
  ·cases z
  ·obtain⟨v,q,r⟩:=s.dat j x e;exact⟨v,q,HP.kp kp _ _ r⟩
 ·rcases aX e with⟨aa,z,hl⟩ | ⟨aa,e9⟩
  ·cases z
   subst aa;exact⟨si,ai,ho⟩
  ·clear e;obtain⟨q,r,o⟩:=s.own j b x e9;have hb:b≠a:=λz=>by rw[z] at e9;exact aa (s.inj _ _ _ _ _ hi e9)
   refine⟨q,r,bG.kp kp ?_ o⟩
   cases z:H b with
   | none=>exact absurd z (s.thr b r)
   | some o'=>exact hk b o' hb z
 ·have hj:∃x',δ[j]?=some (.own b x'):=by
   rcases aX h1 with⟨aa,z,hl⟩ | ⟨aa,e⟩
   ·cases z;subst aa;exact⟨_,hi⟩
   ·exact⟨_,e⟩
  have ag:∃x',δ[k]?=some (.own b x'):=by
   rcases aX h2 with⟨aa,z,hl⟩ | ⟨aa,e⟩
   ·cases z;subst aa;exact⟨_,hi⟩
   ·exact⟨_,e⟩
  obtain⟨x1,e1⟩:=hj;obtain⟨x2,e2⟩:=ag;exact s.inj j k b x1 x2 e1 e2
theorem bG.rep{M M':Addr->Prop}(h:bG K M H a d)(n:¬ M' a)(hM:∀b,M' b->M b):HP K M' H d (.ref a):=by
 cases d with
 | lst ds =>
  obtain⟨vs,q,r⟩:=h;unfold HP;exact⟨a,vs,rfl,n,q,Reps.more (λb z=>.inl (hM b z)) _ _ r⟩
 | dct ks ds =>
  obtain⟨vs,q,l,r⟩:=h;unfold HP;exact⟨a,vs,rfl,n,q,l,Reps.more (λb z=>.inl (hM b z)) _ _ r⟩
 | _=>exact h.elim
theorem Sx.freeze(s:Sx K G A δ P σ H)(hi:δ[i]?=some (.own a d))(hp:¬ G.M0 a):Sx K G (λb=>A b/\b≠a) (δ.set i (.dat d)) P σ H:=by
 obtain⟨si,ai,oi⟩:=s.own i a d hi;have hM:∀b,(G.M0 b\/(A b/\b≠a))->(G.M0 b\/A b):=λb h=>h.elim .inl λz=>.inr z.1;have dn:∀d v,HP K (λb=>G.M0 b\/A b) H d v->HP K (λb=>G.M0 b\/(A b/\b≠a)) H d v:=λd v r=>HP.more (λb z=>.inl (hM b z)) _ _ r;refine⟨s.old,s.stay,s.m0,s.pm,λb h=>s.new b h.1,λb h=>s.thr b h.1,by rw[IX,s.len],λj x e=>?_,λj b x e=>?_,λj k b x y h1 h2=>?_,λp hp=>dn _ _ (s.pnd p hp)⟩
 ·rcases aX e with⟨aa,z,_⟩ | ⟨aa,e⟩
  ·cases z;subst aa
   exact⟨.ref a,si,oi.rep (λz=>z.elim hp λq=>q.2 rfl) hM⟩
  ·obtain⟨v,q,r⟩:=s.dat j x e;exact⟨v,q,dn _ _ r⟩
 ·rcases aX e with⟨_,z,_⟩ | ⟨aa,e9⟩
  ·cases z
  ·clear e;obtain⟨q,r,o⟩:=s.own j b x e9;have hb:b≠a:=λz=>by rw[z] at e9;exact aa (s.inj _ _ _ _ _ hi e9)
   exact⟨q,⟨r,hb⟩,bG.more (λb z=>.inl (hM b z)) o⟩
 ·rcases aX h1 with⟨_,z,_⟩ | ⟨_,e1⟩
  ·cases z
  ·rcases aX h2 with⟨_,z,_⟩ | ⟨_,e2⟩
   ·cases z
   ·exact s.inj j k b x y e1 e2
end
end DL
namespace DL
open PySem PySem.Spec PyProof.Rows L2
variable {x d:D} {k:Zh→Prop} {o:Option Sl} {G:Gf} {A:Addr→Prop} {P:List (D×V)} {σ:L2.St} {H:Hp} {i n:Nat} {es:List Expr} {v:V} {p:Pos}
inductive W where
 | d (x:D) | o (i:Nat)
abbrev En:=List Sl
abbrev HQ:=En->(W->En->Prop)->Prop
abbrev HK:=En->(List D->En->Prop)->Prop
abbrev TDT:=En->(Bool->En->Prop)->Prop
structure a7 where
 nx:En->Prop
 rt:D->En->Prop
 bk:En->Prop:=λ_=>False
 ct:En->Prop:=λ_=>False
 ro:D->Prop:=λ_=>False
 tp:Prop:=False
 ex:Str->Str->D->Prop:=λ_ _ _=>False
abbrev TDS:=a7->En->Prop
abbrev TDG:=D->En->(En->Prop)->Prop
abbrev zH:=List D->En->(En->Prop)->Prop
def wd(R:D->En->Prop):W->En->Prop
 | .d x,δ=>R x δ
 | .o _,_=>False
def qB:D->(Bool->Prop)->Prop
 | .bl b,k=>k b
 | _,_=>False
def qI:D->(Int->Prop)->Prop
 | .int b,k=>k b
 | _,_=>False
def qX:D->(Str->Prop)->Prop
 | .str b,k=>k b
 | _,_=>False
def qT:D->(Zh->Prop)->Prop
 | .tup b,k=>k b
 | _,_=>False
def qL:D->(Zh->Prop)->Prop
 | .lst b,k=>k b
 | _,_=>False
def qW:Option Sl->(Addr->D->Prop)->Prop
 | some (.own a d),k=>k a d
 | _,_=>False
def qD:Option Sl->(D->Prop)->Prop
 | some (.dat d),k=>k d
 | _,_=>False
def qWL(o:Option Sl)(k:Addr->Zh->Prop):Prop:=qW o λa d=>qL d λxs=>k a xs
def qG:D->(Zb->Zh->Prop)->Prop
 | .dct ks ds,k=>k ks ds
 | _,_=>False
def qWD(o:Option Sl)(k:Addr->Zb->Zh->Prop):Prop:=qW o λa d=>qG d λks ds=>k a ks ds
def qF:D->(Zb->Zh->Prop)->Prop
 | .fd ks ds,k=>k ks ds
 | _,_=>False
def qV{α:Type}:Option α->(α->Prop)->Prop
 | some a,k=>k a
 | none,_=>False
def qN:Zh->Prop->Prop
 | [],k=>k
 | _::_,_=>False
def qC:Zh->(D->Zh->Prop)->Prop
 | x::r,k=>k x r
 | [],_=>False
def q9:Zh->Prop->Prop
 | [],k=>k
 | [_],k=>k
 | [_,_],k=>k
 | [_,_,_],k=>k
 | [_,_,_,_],k=>k
 | xs,k=>xs.length<=9000/\k
def qWe(o:Option Sl)(k:D->Prop):Prop:=qW o λ_ d=>k d
def BH(o:Option Sl)(k:Zh->Prop):Prop:=qW o λ_ d=>qL d λxs=>k xs
def AU(o:Option Sl)(k:Zb->Zh->Prop):Prop:=qW o λ_ d=>qG d λks ds=>k ks ds
def lH(δ:En)(i:Nat)(x:Sl)(k:En->Prop):Prop:=k (δ.set i x)
def wg:Zh->Nat->Prop->Prop
 | [],0,k=>k
 | _::r,n+1,k=>wg r n k
 | _,_,_=>False
theorem wg.ex{k:Prop}:∀ {xs:Zh} {n:Nat},wg xs n k->xs.length=n/\k
 | [],0,h=>⟨rfl,h⟩
 | _::r,n+1,h=>let ⟨a,b⟩:=wg.ex (xs:=r) (n:=n) h;⟨by rw[Ik,a],b⟩
 | [],_+1,h=>False.elim h
 | _::_,0,h=>False.elim h
def kD(R:W->En->Prop)(δ:En)(d:D):Prop:=R (.d d) δ
theorem qB.ex{k:Bool->Prop}(h:qB x k):∃b,x=.bl b/\k b:=by cases x<;>first | exact False.elim h | exact⟨_,rfl,h⟩
theorem qI.ex{k:Int->Prop}(h:qI x k):∃b,x=.int b/\k b:=by cases x<;>first | exact False.elim h | exact⟨_,rfl,h⟩
theorem qX.ex{k:Str->Prop}(h:qX x k):∃b,x=.str b/\k b:=by cases x<;>first | exact False.elim h | exact⟨_,rfl,h⟩
theorem qT.ex(h:qT x k):∃b,x=.tup b/\k b:=by cases x<;>first | exact False.elim h | exact⟨_,rfl,h⟩
theorem qL.ex(h:qL x k):∃b,x=.lst b/\k b:=by cases x<;>first | exact False.elim h | exact⟨_,rfl,h⟩
theorem qF.ex{k:Zb->Zh->Prop}(h:qF x k):∃ks ds,x=.fd ks ds/\k ks ds:=by cases x<;>first | exact False.elim h | exact⟨_,_,rfl,h⟩
theorem qG.ex{k:Zb->Zh->Prop}(h:qG x k):∃ks ds,x=.dct ks ds/\k ks ds:=by cases x<;>first | exact False.elim h | exact⟨_,_,rfl,h⟩
theorem qW.ex{k:Addr->D->Prop}(h:qW o k):∃a d,o=some (.own a d)/\k a d:=by
 cases o with
 | none=>exact False.elim h
 | some x=>cases x<;>first | exact False.elim h | exact⟨_,_,rfl,h⟩
theorem qD.ex{k:D->Prop}(h:qD o k):∃d,o=some (.dat d)/\k d:=by
 cases o with
 | none=>exact False.elim h
 | some x=>cases x<;>first | exact False.elim h | exact⟨_,rfl,h⟩
theorem qWL.ex{k:Addr->Zh->Prop}(h:qWL o k):∃a d,o=some (.own a (.lst d))/\k a d:=by
 replace h:=qW.ex h;obtain⟨a,d,rfl,h⟩:=h;replace h:=qL.ex h;obtain⟨xs,rfl,h⟩:=h;exact⟨_,_,rfl,h⟩
theorem qWD.ex{k:Addr->Zb->Zh->Prop}(h:qWD o k):∃a ks ds,o=some (.own a (.dct ks ds))/\k a ks ds:=by
 replace h:=qW.ex h;obtain⟨a,d,rfl,h⟩:=h;replace h:=qG.ex h;obtain⟨ks,ds,rfl,h⟩:=h;exact⟨_,_,_,rfl,h⟩
theorem qWe.ex{K:PySem.W.Frag}{δ:En}{a:Addr}{k:D->Prop}(x:Sx K G A δ P σ H)(e:σ[i]?=some (some (.ref a)))(h:qWe δ[i]? k):∃d,δ[i]?=some (.own a d)/\k d:=by
 obtain⟨b,d,hi,h⟩:=qW.ex h;have q:=(x.own i b d hi).1;rw[e] at q
 cases q
 exact⟨_,hi,h⟩
theorem BH.ex{K:PySem.W.Frag}{δ:En}{a:Addr}(x:Sx K G A δ P σ H)(e:σ[i]?=some (some (.ref a)))(h:BH δ[i]? k):∃d,δ[i]?=some (.own a (.lst d))/\k d:=by
 obtain⟨d,hi,h⟩:=qWe.ex (k:=λd=>qL d k) x e h;obtain⟨xs,rfl,h⟩:=qL.ex h;exact⟨_,hi,h⟩
theorem AU.ex{K:PySem.W.Frag}{δ:En}{a:Addr}{k:Zb->Zh->Prop}(x:Sx K G A δ P σ H)(e:σ[i]?=some (some (.ref a)))(h:AU δ[i]? k):∃ks ds,δ[i]?=some (.own a (.dct ks ds))/\k ks ds:=by
 obtain⟨d,hi,h⟩:=qWe.ex (k:=λd=>qG d k) x e h;obtain⟨ks,ds,rfl,h⟩:=qG.ex h;exact⟨_,_,hi,h⟩
theorem qV.ex{α:Type}{o:Option α}{k:α->Prop}(h:qV o k):∃a,o=some a/\k a:=by
 cases o with
 | none=>exact False.elim h
 | some x=>exact⟨_,rfl,h⟩
theorem qV.of{α:Type}{o:Option α}{k:α->Prop}{a:α}(e:o=some a)(h:k a):qV o k:=by rw[e];exact h
theorem qN.ex{x:Zh}{k:Prop}(h:qN x k):x=[]/\k:=by
 cases x with
 | nil=>exact⟨rfl,h⟩
 | cons _ _=>exact False.elim h
theorem qC.ex{x:Zh}{k:D->Zh->Prop}(h:qC x k):∃a r,x=a::r/\k a r:=by
 cases x with
 | nil=>exact False.elim h
 | cons _ _=>exact⟨_,_,rfl,h⟩
theorem q9.ex{x:Zh}{k:Prop}(h:q9 x k):x.length<=9000/\k:=by
 rcases x with _ | ⟨a,_ | ⟨b,_ | ⟨c,_ | ⟨d,_ | ⟨e,l⟩⟩⟩⟩⟩
 ·exact⟨Jq _,h⟩
 ·exact⟨(by simp only[List.length_cons,List.length_nil];omega),h⟩
 ·exact⟨(by simp only[List.length_cons,List.length_nil];omega),h⟩
 ·exact⟨(by simp only[List.length_cons,List.length_nil];omega),h⟩
 ·exact⟨(by simp only[List.length_cons,List.length_nil];omega),h⟩
 ·exact h
inductive Up(K:PySem.W.Frag)(t:HQ)(σ:L2.St)(H:Hp)(Q:VK):Prop
 | mk (G:Gf) (δ:En) (P:List (D×V)) (R:W->En->Prop) (s:S K G δ P σ H) (h:t δ R) (k:(∀x δ',R (.d x) δ'->∀v H',S K G δ' ((x,v)::P) σ H'->Q v H')/\(∀i δ',R (.o i) δ'->∀a d H',S K G δ' P σ H'->δ'[i]?=some (.own a d)->Q (.ref a) H'))
def up(K:PySem.W.Frag)(t:HQ):TE:=Up K t
inductive UpA(K:PySem.W.Frag)(t:HK)(σ:L2.St)(H:Hp)(Q:Zf->Hp->Prop):Prop
 | mk (G:Gf) (δ:En) (P:List (D×V)) (R:Zh->En->Prop) (s:S K G δ P σ H) (h:t δ R) (k:∀ds δ',R ds δ'->∀vs H',ds.length=vs.length->S K G δ' (ds.zip vs++P) σ H'->Q vs H')
def upA(K:PySem.W.Frag)(t:HK):TA:=UpA K t
inductive UpT(K:PySem.W.Frag)(t:TDT)(σ:L2.St)(H:Hp)(Q:Bool->Hp->Prop):Prop
 | mk (G:Gf) (δ:En) (P:List (D×V)) (R:Bool->En->Prop) (s:S K G δ P σ H) (h:t δ R) (k:∀b δ',R b δ'->∀H',S K G δ' P σ H'->Q b H')
def upT(K:PySem.W.Frag)(t:TDT):TT:=UpT K t
inductive UpG(K:PySem.W.Frag)(t:TDG)(v:V)(σ:L2.St)(H:Hp)(Q:L2.St->Hp->Prop):Prop
 | mk (G:Gf) (δ:En) (P:List (D×V)) (d:D) (R:En->Prop) (s:S K G δ ((d,v)::P) σ H) (h:t d δ R) (k:∀δ',R δ'->∀σ' H',S K G δ' P σ' H'->Q σ' H')
def upG(K:PySem.W.Frag)(t:TDG):TG:=UpG K t
inductive UpGs(K:PySem.W.Frag)(t:zH)(vs:Zf)(σ:L2.St)(H:Hp)(Q:L2.St->Hp->Prop):Prop
 | mk (G:Gf) (δ:En) (P:List (D×V)) (ds:Zh) (R:En->Prop) (hl:ds.length=vs.length) (s:S K G δ (ds.zip vs++P) σ H) (h:t ds δ R) (k:∀δ',R δ'->∀σ' H',S K G δ' P σ' H'->Q σ' H')
def upGs(K:PySem.W.Frag)(t:zH):TGs:=UpGs K t
def zP(K:PySem.W.Frag)(G:Gf)(H':Hp)(a:Addr)(d:D):Prop:=(∀b o,G.H0 b=some o->¬ G.Pm b->H' b=some o)/\(G.H0 a=none\/G.Pm a)/\¬ G.M0 a/\bG K (λb=>G.M0 b\/b=a) H' a d
inductive UpS(K:PySem.W.Frag)(W:XK)(t:TDS)(E:Az)(σ:L2.St)(H:Hp):Prop
 | mk (G:Gf) (δ:En) (P:List (D×V)) (R:a7) (s:S K G δ P σ H) (h:t R δ) (k:(∀δ',R.nx δ'->∀σ' H',S K G δ' P σ' H'->E.nx σ' H')/\((∀d δ',R.rt d δ'->∀v σ' H',S K G δ' ((d,v)::P) σ' H'->E.rt v H')/\(∀d,R.ro d->∀a H',zP K G H' a d->E.rt (.ref a) H')/\∀c f d,R.ex c f d->∀e C dx δ' σ' H',S K G δ' ((.exn c f d,.ref e)::P) σ' H'->H' e=some (XAt e C dx)->W (.ref e) (some dx) H') /\
 (∀δ',R.bk δ'->∀σ' H',S K G δ' P σ' H'->E.bk σ' H')/\(∀δ',R.ct δ'->∀σ' H',S K G δ' P σ' H'->E.ct σ' H')/\(R.tp->P=[]/\∀b o,G.H0 b=some o->∃ob xs,o=.frz ob (.lst xs)))
theorem exs{K:PySem.W.Frag}{W:XK}{R:Str->Str->D->Prop}{q:D×V}(k:∀c f d,R c f d->∀e C dx δ' σ' H',S K G δ' ((.exn c f d,.ref e)::P) σ' H'->H' e=some (XAt e C dx)->W (.ref e) (some dx) H') :
  ∀c f d,R c f d->∀e C dx δ' σ' H',S K G δ' ((.exn c f d,.ref e)::q::P) σ' H'->H' e=some (XAt e C dx)->W (.ref e) (some dx) H':=λc f d r e C dx δ' σ' H' s=>k c f d r e C dx δ' σ' H' (s.sub λp hp=>by
 rcases Ih.mp hp with rfl | hp
 ·simp
 ·simp[hp])
def TbOk(h:Heap)(e:Addr)(t:Value):Prop:=t=.none\/∃T oT ts,t=.ref T/\T≠e/\h.get? T=some oT/\oT.data=.fields ts/\ts[3]?=some .none
structure Bn(X:Cx)(pins:List (Addr×Obj))(H':Hp)(e C dx:Addr)(s':Shared):Prop where
 ex:∃(σ:L2.St) (a t:Value),L2.Inv X pins σ H' s'/\s'.heap.get? e=some (xob C (some dx) a t)/\TbOk s'.heap e t /\
  (∀T,t=.ref T->H' T=none/\X.s₀.heap.objs.size<=T/\T≠X.env.locals/\(∀x c,X.env.cells.lookup x=some c->c≠T)/\∀p∈X.pn++pins,p.1≠T)/\H' e=some (XAt e C dx)
def XEs(X:Cx):XK:=λev dxo H'=>∀e C dx pins s',ev=.ref e->dxo=some dx->Bn X pins H' e C dx s'->X.xe (.ref e) s'
def upS(X:Cx)(t:TDS):TS:=UpS X.K (XEs X) t
def DE(X:Cx)(e:Expr)(t:HQ):Prop:=PE X e (up X.K t)
def DA(X:Cx)(es:List Expr)(t:HK):Prop:=PA X es (upA X.K t)
def DT(X:Cx)(e:Expr)(t:TDT):Prop:=PT X e (upT X.K t)
def DW(X:Cx)(e:Expr)(t:TDT):Prop:=PW X e (upT X.K t)
def DG(X:Cx)(e:Expr)(t:TDG):Prop:=PG X e (upG X.K t)
def DGs(X:Cx)(e:List Expr)(t:zH):Prop:=PGs X e (upGs X.K t)
def DS(X:Cx)(st:Stmt)(t:TDS):Prop:=PS X st (upS X t)
def DSs(X:Cx)(st:List Stmt)(t:TDS):Prop:=PSs X st (upS X t)
section
variable {X:Cx} {e:Expr} {pos:Pos}
theorem PE.imp{t t':TE}(h:PE X e t)(i:∀σ H Q,t' σ H Q->t σ H Q):PE X e t':=λpins s σ H Q I q=>h pins s σ H Q I (i σ H Q q)
theorem PT.imp{t t':TT}(h:PT X e t)(i:∀σ H Q,t' σ H Q->t σ H Q):PT X e t':=λpins s σ H Q I q=>h pins s σ H Q I (i σ H Q q)
theorem PW.imp{t t':TT}(h:PW X e t)(i:∀σ H Q,t' σ H Q->t σ H Q):PW X e t':=λwh pins s σ H Q I q=>h wh pins s σ H Q I (i σ H Q q)
theorem PA.imp{t t':TA}(h:PA X es t)(i:∀σ H Q,t' σ H Q->t σ H Q):PA X es t':=λp pins s σ H Q I q=>h p pins s σ H Q I (i σ H Q q)
theorem PS.imp{st:Stmt}{t t':TS}(h:PS X st t)(i:∀E σ H,t' E σ H->t E σ H):PS X st t':=λpins s σ H D I q=>h pins s σ H D I (i D σ H q)
theorem PSs.imp{st:List Stmt}{t t':TS}(h:PSs X st t)(i:∀E σ H,t' E σ H->t E σ H):PSs X st t':=λpins s σ H D I q=>h pins s σ H D I (i D σ H q)
theorem PG.imp{t t':TG}(h:PG X e t)(i:∀v σ H Q,t' v σ H Q->t v σ H Q):PG X e t':=λpins s σ H v u Q I r q=>h pins s σ H v u Q I r (i v σ H Q q)
theorem PGs.imp{t t':TGs}(h:PGs X es t)(i:∀v σ H Q,t' v σ H Q->t v σ H Q):PGs X es t':=λpins s σ H v u Q I r q=>h pins s σ H v u Q I r (i v σ H Q q)
theorem HC.imp{f:Value->Value->Sem Value}{r r':R2}(h:HC X f r)(i:∀x y H Q,r' x y H Q->r x y H Q):HC X f r':=λpins s σ H x y v u Q I rx ry q=>h pins s σ H x y v u Q I rx ry (i x y H Q q)
theorem UnR.imp{f:Value->Sem Value}{r r':V->Hp->VK->Prop}(h:UnR X f r)(i:∀x H Q,r' x H Q->r x H Q):UnR X f r':=λpins s σ H x v Q I rx q=>h pins s σ H x v Q I rx (i x H Q q)
theorem bW.imp{f:Value}{r r':Zf->Hp->VK->Prop}(h:bW X f r)(i:∀xs H Q,r' xs H Q->r xs H Q):bW X f r':=λpins s σ H x v Q I rx q=>h pins s σ H x v Q I rx (i x H Q q)
theorem IxR.imp{r r':R2}(h:IxR X r)(i:∀x y H Q,r' x y H Q->r x y H Q):IxR X r':=λvalue slice pins s σ H x y v u Q I rx ry q hs=>h value slice pins s σ H x y v u Q I rx ry (i x y H Q q) hs
end
section
variable {K:PySem.W.Frag} {G:Gf} {δ:En} {P:List (D×V)} {σ:L2.St} {H:Hp}
theorem up.mk{t:HQ}{R:D->En->Prop}{Q:VK}(s:S K G δ P σ H)(h:t δ (wd R))(k:∀x δ',R x δ'->∀v H',S K G δ' ((x,v)::P) σ H'->Q v H'):up K t σ H Q:=⟨G,δ,P,wd R,s,h,k,λ_ _ z=>z.elim⟩
theorem S.dat(s:S K G δ P σ H)(e:δ[i]?=some (.dat d)):∃v,σ[i]?=some (some v)/\S K G δ ((d,v)::P) σ H:=by
 obtain⟨A,x⟩:=s;obtain⟨v,q,r⟩:=x.dat i d e;exact⟨v,q,A,x.push r⟩
theorem S.own{a:Addr}(s:S K G δ P σ H)(e:δ[i]?=some (.own a d)):σ[i]?=some (some (.ref a)):=let ⟨_,x⟩:=s;(x.own i a d e).1
def sc:D->Option V
 | .non=>some .non
 | .bl b=>some (.bl b)
 | .int i=>some (.int i)
 | .str x=>some (.str x)
 | _=>none
theorem HP.sc{M:Addr->Prop}(h:sc d=some v):HP K M H d v:=by
 cases d<;>simp only[DL.sc,Option.some.injEq,reduceCtorEq] at h<;>subst h<;>unfold HP<;>rfl
theorem S.sc(s:S K G δ P σ H)(h:sc d=some v):S K G δ ((d,v)::P) σ H:=let ⟨A,x⟩:=s;⟨A,x.push (HP.sc h)⟩
end
def dV(i:Nat)(δ:En)(R:W->En->Prop):Prop:=qD δ[i]? λd=>R (.d d) δ
def dC(d:D)(δ:En)(R:W->En->Prop):Prop:=R (.d d) δ
def kOb(f:Zh->(D->Prop)->Prop)(x:D)(R:W->En->Prop):W->En->Prop:=wd λy δ2=>f [x,y] (kD R δ2)
def kOa(f:Zh->(D->Prop)->Prop)(tb:HQ)(R:W->En->Prop):W->En->Prop:=wd λx δ1=>tb δ1 (kOb f x R)
def dOp(f:Zh->(D->Prop)->Prop)(ta tb:HQ)(δ:En)(R:W->En->Prop):Prop:=ta δ (kOa f tb R)
def kUn(f:Zh->(D->Prop)->Prop)(R:W->En->Prop):W->En->Prop:=wd λx δ1=>f [x] (kD R δ1)
def dUn(f:Zh->(D->Prop)->Prop)(ta:HQ)(δ:En)(R:W->En->Prop):Prop:=ta δ (kUn f R)
def Eb(δ:En)(R:Zh->En->Prop):Prop:=R [] δ
def kAd(x:D)(R:Zh->En->Prop)(ds:Zh)(δ:En):Prop:=R (x::ds) δ
def kAc(t:HK)(R:Zh->En->Prop):W->En->Prop:=wd λx δ1=>t δ1 (kAd x R)
def zr(te:HQ)(t:HK)(δ:En)(R:Zh->En->Prop):Prop:=te δ (kAc t R)
def kCa(f:Zh->(D->Prop)->Prop)(R:W->En->Prop)(ds:Zh)(δ:En):Prop:=f ds (kD R δ)
def tq(f:Zh->(D->Prop)->Prop)(t:HK)(δ:En)(R:W->En->Prop):Prop:=t δ (kCa f R)
def kTu(R:W->En->Prop)(ds:Zh)(δ:En):Prop:=q9 ds (R (.d (.tup ds)) δ)
def dTup(t:HK)(δ:En)(R:W->En->Prop):Prop:=t δ (kTu R)
def kLs(R:W->En->Prop)(ds:Zh)(δ:En):Prop:=q9 ds (R (.d (.lst ds)) δ)
def dLst(t:HK)(δ:En)(R:W->En->Prop):Prop:=t δ (kLs R)
def kTs(R:Bool->En->Prop):W->En->Prop:=wd λx δ1=>qB x λb=>R b δ1
def dTst(t:HQ)(δ:En)(R:Bool->En->Prop):Prop:=t δ (kTs R)
def kAn(u:TDT)(R:Bool->En->Prop)(b:Bool)(δ:En):Prop:=if b=true then u δ R else R false δ
def dAnd(t u:TDT)(δ:En)(R:Bool->En->Prop):Prop:=t δ (kAn u R)
def kOr(u:TDT)(R:Bool->En->Prop)(b:Bool)(δ:En):Prop:=if b=true then R true δ else u δ R
def dOr(t u:TDT)(δ:En)(R:Bool->En->Prop):Prop:=t δ (kOr u R)
def kNo(R:Bool->En->Prop)(b:Bool)(δ:En):Prop:=R (!b) δ
def dNot(t:TDT)(δ:En)(R:Bool->En->Prop):Prop:=t δ (kNo R)
def kAV(u:HQ)(R:W->En->Prop):W->En->Prop:=wd λx δ1=>qB x λb=>if b=true then u δ1 R else R (.d (.bl false)) δ1
def ED(t u:HQ)(δ:En)(R:W->En->Prop):Prop:=t δ (kAV u R)
def kOV(u:HQ)(R:W->En->Prop):W->En->Prop:=wd λx δ1=>qB x λb=>if b=true then R (.d (.bl true)) δ1 else u δ1 R
def dOrV(t u:HQ)(δ:En)(R:W->En->Prop):Prop:=t δ (kOV u R)
def kNV(R:W->En->Prop):W->En->Prop:=wd λx δ1=>qB x λb=>R (.d (.bl (!b))) δ1
def Ee(t:HQ)(δ:En)(R:W->En->Prop):Prop:=t δ (kNV R)
def kIE(t u:HQ)(R:W->En->Prop)(b:Bool)(δ:En):Prop:=if b=true then t δ R else u δ R
def dIfE(c:TDT)(t u:HQ)(δ:En)(R:W->En->Prop):Prop:=c δ (kIE t u R)
section
variable {X:Cx} {pos:Pos} {a b c:Expr} {ta tb:HQ} {t:HK} {f:Zh→(D→Prop)→Prop} {es:List Expr}
theorem am(i:Nat){x:Str}(hN:X.N[i]?=some x:=by rfl)(hv:Vis X.env.scope x:=by walk_at "v3")(hd:(x==("__debug__":Str))=false:=by decide)
  (hcd:(x==("__classdict__":Str))=false:=by decide):DE X (.Name x pos) (dV i):=PE.imp (dP hN hv hd hcd) λσ H Q ⟨G,δ,P,R,s,h,k,_⟩=>by
 replace h:=qD.ex h;obtain⟨d,e,h⟩:=h;obtain⟨v,q,s'⟩:=s.dat e;exact⟨v,q,k d δ h v H s'⟩
theorem de_c(h:PE X a (tC v))(hs:sc d=some v):DE X a (dC d):=PE.imp h λσ H Q ⟨G,δ,P,R,s,r,k,_⟩=>k d δ r v H (s.sc hs)
theorem ap{i j pos}:DE X (.Constant (.int i) j pos) (dC (.int i)):=de_c Ab rfl
theorem kh{i j pos}:DE X (.Constant (.bool i) j pos) (dC (.bl i)):=de_c Gz rfl
theorem iu{j pos}:DE X (.Constant .none j pos) (dC .non):=de_c Fj rfl
theorem aw{x j pos}:DE X (.Constant (.str x) j pos) (dC (.str x)):=de_c Dc rfl
theorem aE{op:Operator}(ho:HC X (binaryOp op) λx y=>aQ X.K f [x,y])(ha:DE X a ta)(hb:DE X b tb):DE X (.BinOp a op b pos) (dOp f ta tb) :=
 PE.imp (FL ho ha hb) λσ H Q ⟨G,δ,P,R,s,h,k,_⟩=>up.mk s h λx δ1 h1 v H1 s1=>up.mk s1 h1 λy δ2 h2 u H2 s2 =>
  S.pure (P':=P) (ds:=[x,y]) (vs:=[v,u]) s2 rfl 'p' (λp hp=>by simp[hp]) h2 λd r v' H' s'=>k d δ2 r v' H' s'
theorem cR{op:CmpOp}(ho:HC X (compareOp op) λx y=>aQ X.K f [x,y])(ha:DE X a ta)(hb:DE X b tb)(hm:behindInMarks op b=false):DE X (.Compare a [op] [b] pos) (dOp f ta tb) :=
 PE.imp (Ar ho ha hb hm) λσ H Q ⟨G,δ,P,R,s,h,k,_⟩=>up.mk s h λx δ1 h1 v H1 s1=>up.mk s1 h1 λy δ2 h2 u H2 s2 =>
  S.pure (P':=P) (ds:=[x,y]) (vs:=[v,u]) s2 rfl 'p' (λp hp=>by simp[hp]) h2 λd r v' H' s'=>k d δ2 r v' H' s'
theorem aC{op:CmpOp}(ho:HC X (compareOp op) λx y=>aQ X.K f [x,y])(ha:DE X a ta)(hb:DE X b tb)(hm:behindInMarks op b=false):DT X (.Compare a [op] [b] pos) (dTst (dOp f ta tb)) :=
 PT.imp (Am ho ha hb hm) λσ H Q ⟨G,δ,P,R,s,h,k⟩=>up.mk s h λx δ1 h1 v H1 s1=>up.mk s1 h1 λy δ2 h2 u H2 s2 =>
  S.pure (P':=P) (ds:=[x,y]) (vs:=[v,u]) s2 rfl 'p' (λp hp=>by simp[hp]) h2 λd r v' H' s'=>by
   replace r:=qB.ex r;obtain⟨b,e,r⟩:=r;subst e;have q:=s';obtain⟨A,q⟩:=q;have q2:=q.pnd (.bl b,v') 'p';simp only[HP] at q2;exact⟨b,q2,k b δ2 r H' (s'.sub λp hp=>by simp[hp])⟩
theorem xY{op:UnaryOp}(ho:UnR X (unaryOp op) λx=>aQ X.K f [x])(ha:DE X a ta):DE X (.UnaryOp op a pos) (dUn f ta) :=
 PE.imp (Gh ho ha) λσ H Q ⟨G,δ,P,R,s,h,k,_⟩=>up.mk s h λx δ1 h1 v H1 s1 =>
  S.pure (P':=P) (ds:=[x]) (vs:=[v]) s1 rfl 'p' (λp hp=>by simp[hp]) h1 λd r v' H' s'=>k d δ1 r v' H' s'
theorem br(h:DE X a ta)(he:∀whole,isTrue a X.env whole=(do let v<-whole;standAt a.pos;holding [v] (truthy v)):=by intro _;rfl):DT X a (dTst ta) :=
 PT.imp (ER h he) λσ H Q ⟨G,δ,P,R,s,h,k⟩=>up.mk s h λx δ1 h1 v H1 s1=>by
  replace h1:=qB.ex h1;obtain⟨b,e,r⟩:=h1;subst e;obtain⟨A,q⟩:=id s1;have q2:=q.pnd (.bl b,v) 'p';simp only[HP] at q2;exact⟨b,q2,k b δ1 r H1 (s1.sub λp hp=>by simp[hp])⟩
variable {tA tB':TDT} {dA:List Expr}
theorem DW.dt(h:DW X a tA):DT X a tA:=PW.pt h
theorem fA(ha:DT X a tA):DW X (.BoolOp .And [a] pos) tA:=BW ha
theorem dQ(ha:DT X a tA):DW X (.BoolOp .Or [a] pos) tA:=Fw ha
theorem gg(ha:DT X a tA)(hb:DW X (.BoolOp .And (b::dA) pos) tB'):DW X (.BoolOp .And (a::b::dA) pos) (dAnd tA tB') :=
 PW.imp (EV ha hb) λσ H Q ⟨G,δ,P,R,s,h,k⟩=>⟨G,δ,P,_,s,h,λb δ1 h1 H1 s1=>by
  cases b with
  | true=>exact⟨G,δ1,P,R,s1,h1,k⟩
  | false=>exact k false δ1 h1 H1 s1⟩
theorem eC(ha:DT X a tA)(hb:DW X (.BoolOp .Or (b::dA) pos) tB'):DW X (.BoolOp .Or (a::b::dA) pos) (dOr tA tB') :=
 PW.imp (Ge ha hb) λσ H Q ⟨G,δ,P,R,s,h,k⟩=>⟨G,δ,P,_,s,h,λb δ1 h1 H1 s1=>by
  cases b with
  | true=>exact k true δ1 h1 H1 s1
  | false=>exact⟨G,δ1,P,R,s1,h1,k⟩⟩
theorem dH(ha:DT X a tA):DT X (.UnaryOp .Not a pos) (dNot tA) :=
 PT.imp (Dq ha) λσ H Q ⟨G,δ,P,R,s,h,k⟩=>⟨G,δ,P,_,s,h,λb δ1 h1 H1 s1=>k _ δ1 h1 H1 s1⟩
theorem vV{K:PySem.W.Frag}{δ:En}{b:Bool}(s:S K G δ ((.bl b,v)::P) σ H):v=.bl b:=by
 obtain⟨A,q⟩:=s;have q2:=q.pnd (.bl b,v) 'p';simpa only[HP] using q2
theorem fc{op}(h:DE X a ta):DE X (.BoolOp op [a] pos) ta:=Dd h
theorem kQ(ha:DE X a ta)(hb:DE X (.BoolOp .And (b::dA) pos) tb):DE X (.BoolOp .And (a::b::dA) pos) (ED ta tb) :=
 PE.imp (EM ha hb) λσ H Q ⟨G,δ,P,R,s,h,k,k2⟩=>up.mk s h λx δ1 h1 v H1 s1=>by
  replace h1:=qB.ex h1;obtain⟨b,e,r⟩:=h1;subst e;refine⟨b,vV s1,?_⟩
  cases b with
  | true=>exact⟨G,δ1,P,R,s1.sub λp hp=>by simp[hp],r,k,k2⟩
  | false=>exact k (.bl false) δ1 r _ H1 (by rw[<- vV s1];exact s1)
theorem xx(ha:DE X a ta)(hb:DE X (.BoolOp .Or (b::dA) pos) tb):DE X (.BoolOp .Or (a::b::dA) pos) (dOrV ta tb) :=
 PE.imp (GV ha hb) λσ H Q ⟨G,δ,P,R,s,h,k,k2⟩=>up.mk s h λx δ1 h1 v H1 s1=>by
  replace h1:=qB.ex h1;obtain⟨b,e,r⟩:=h1;subst e;refine⟨b,vV s1,?_⟩
  cases b with
  | false=>exact⟨G,δ1,P,R,s1.sub λp hp=>by simp[hp],r,k,k2⟩
  | true=>exact k (.bl true) δ1 r _ H1 (by rw[<- vV s1];exact s1)
theorem nG(ha:DE X a ta):DE X (.UnaryOp .Not a pos) (Ee ta) :=
 PE.imp (DM ha) λσ H Q ⟨G,δ,P,R,s,h,k,k2⟩=>up.mk s h λx δ1 h1 v H1 s1=>by
  replace h1:=qB.ex h1;obtain⟨b,e,r⟩:=h1;subst e;exact⟨b,vV s1,k _ δ1 r _ H1 ((s1.sub λp hp=>by simp[hp]).sc rfl)⟩
theorem ti(hc:DT X c tA)(ha:DE X a ta)(hb:DE X b tb):DE X (.IfExp c a b pos) (dIfE tA ta tb) :=
 PE.imp (yh hc ha hb) λσ H Q ⟨G,δ,P,R,s,h,k,k2⟩=>⟨G,δ,P,_,s,h,λb δ1 h1 H1 s1=>by
  cases b with
  | true=>exact⟨G,δ1,P,R,s1,h1,k,k2⟩
  | false=>exact⟨G,δ1,P,R,s1,h1,k,k2⟩⟩
theorem ae:DA X [] Eb:=PA.imp gf λσ H Q ⟨G,δ,P,R,s,h,k⟩=>k [] δ h [] H rfl s
theorem ac(ha:DE X a ta)(hr:DA X es t)(hs:starEach (a::es) X.env=(false,eval a X.env)::starEach es X.env:=by rfl):DA X (a::es) (zr ta t) :=
 PA.imp (bX ha hr hs) λσ H Q ⟨G,δ,P,R,s,h,k⟩=>up.mk s h λx δ1 h1 v H1 s1=>⟨G,δ1,(x,v)::P,_,s1,h1,λds δ2 h2 vs H2 hl s2 =>
  k (x::ds) δ2 h2 (v::vs) H2 (by simp[hl]) (s2.sub λp hp=>by
   simp only[List.zip_cons_cons,List.cons_append,List.mem_cons,List.mem_append] at hp ⊢
   rcases hp with h | h | h
   ·exact .inr (.inl h)
   ·exact .inl h
   ·exact .inr (.inr h))⟩
theorem aH{p:Addr}(h:H p=none)(o:HO):bF H (HL H p o):=λb u q=>by rw[aJ (cI q h)];exact q
theorem jL(h:n<=9000):n<sizeLine:=Jw h 'd'
theorem e8(h:n<=9000):n<=sizeLine:=JG (jL h)
theorem aI{x1}(h:DA X es t):DE X (.Tuple es x1 pos) (dTup t) :=
 PE.imp (Fi h) λσ H Q ⟨G,δ,P,R,s,h,k,_⟩=>⟨G,δ,P,_,s,h,λds δ1 h9 vs H1 hl s1=>⟨by rw[<- hl];exact e8 (q9.ex h9).1,λp hp=>by
  have h1:=(q9.ex h9).2
  obtain⟨A,x⟩:=s1;have r:=x.reps ds vs hl (λq hq=>Il _ hq);have x2:=x.same (aH hp (.tup vs));refine k (.tup ds) δ1 h1 (.ref p) _ ⟨A,(x2.sub λq hq=>Ig _ hq).push ?_⟩;unfold HP
  exact⟨p,vs,rfl,Hv.of aG,Reps.kp (Kp.of_same (aH hp _)) _ _ r⟩⟩⟩
theorem a6(h:DA X es t):DE X (.List es pos) (dLst t) :=
 PE.imp (vk h) λσ H Q ⟨G,δ,P,R,s,h,k,_⟩=>⟨G,δ,P,_,s,h,λds δ1 h9 vs H1 hl s1=>⟨by rw[<- hl];exact e8 (q9.ex h9).1,λp hp=>by
  have h1:=(q9.ex h9).2
  obtain⟨A,x⟩:=s1;have r:=x.reps ds vs hl (λq hq=>Il _ hq);have x2:=x.same (aH hp (.lst vs));refine k (.lst ds) δ1 h1 (.ref p) _ ⟨A,(x2.sub λq hq=>Ig _ hq).push ?_⟩;unfold HP
  exact⟨p,vs,rfl,λz=>x.mem p z hp,aG,Reps.kp (Kp.of_same (aH hp _)) _ _ r⟩⟩⟩
theorem gq(hr:IxR X λx y=>aQ X.K f [x,y])(ha:DE X a ta)(hb:DE X b tb)(hs:wI b):DE X (.Subscript a b pos) (dOp f ta tb) :=
 PE.imp (GR hr ha hb hs) λσ H Q ⟨G,δ,P,R,s,h,k,_⟩=>up.mk s h λx δ1 h1 v H1 s1=>up.mk s1 h1 λy δ2 h2 u H2 s2 =>
  S.pure (P':=P) (ds:=[x,y]) (vs:=[v,u]) s2 rfl 'p' (λp hp=>by simp[hp]) h2 λd r v' H' s'=>k d δ2 r v' H' s'
def HN(K:PySem.W.Frag)(f:Zh->(D->Prop)->Prop):Sp:=λvs H Q _=>aQ K f vs H Q
theorem mE{K:PySem.W.Frag}{Q:VK}{f:Zh->(D->Prop)->Prop}(h:up K (tq f t) σ H Q):upA K t σ H λvs H1=>aQ K f vs H1 Q:=by
 obtain⟨G,δ,P,R,s,h,k,_⟩:=h;exact⟨G,δ,P,_,s,h,λds δ1 h1 vs H1 hl s1=>S.pure (P':=P) s1 hl (λp hp=>Il _ hp) (λp hp=>Ig _ hp) h1 λd r v' H' s'=>k d δ1 r v' H' s'⟩
theorem BZ{x:Str}{k:Nat}{g:Addr}{fd:FuncData}{ps:Zb}(F:ml X.prog X.w X.K X.mg X.base CX0 k g fd ps (HN X.K f))(hr:gG k X.A)(hg:Gl X x)(hm:X.mg x=some (.ref g))(hk:PySem.W.keepIn X.K (.ref g)=true)
  (hb:mU X.K fd ps []) (ha:DA X (a::es) t) (hdb:(x==("__debug__":Str))=false:=by decide) (he:starEach (a::es) X.env=(false,eval a X.env)::starEach es X.env:=by rfl) (hpl:(backTo pos (starEach es X.env)).any (·.1)=false:=by rfl) :
  DE X (.Call (.Name x p) (a::es) [] pos) (tq f t) :=
 PE.imp (my F hr hg hm hk hb .nil Bg ha hdb he hpl) λσ H Q h=>by
  show upA X.K t σ H λvs H1=>aQ X.K f (vs++[]) H1 Q
  have q:=mE h
  simpa only[List.append_nil] using q
theorem aL{x:Str}{id:String}(hc:bW X (.builtin id) (aQ X.K f))(hg:Gl X x)(hm:X.mg x=none)(hv:bootBuiltins x=some (.builtin id))(ha:DA X (a::es) t)(hn:x≠"__name__":=by decide)(hdb:(x==("__debug__":Str))=false:=by decide)
  (he:starEach (a::es) X.env=(false,eval a X.env)::starEach es X.env:=by rfl) (hpl:(backTo pos (starEach es X.env)).any (·.1)=false:=by rfl):DE X (.Call (.Name x p) (a::es) [] pos) (tq f t) :=
 PE.imp (l8 hc hg hm hv ha hn hdb he hpl) λσ H Q h=>mE h
theorem cQ{x:Str}{T:String}(hc:bW X (.type T) (aQ X.K f))(hg:Gl X x)(hm:X.mg x=none)(hv:bootBuiltins x=some (.type T))(ha:DA X (a::es) t)(hn:x≠"__name__":=by decide)(hdb:(x==("__debug__":Str))=false:=by decide)
  (he:starEach (a::es) X.env=(false,eval a X.env)::starEach es X.env:=by rfl) (hpl:(backTo pos (starEach es X.env)).any (·.1)=false:=by rfl):DE X (.Call (.Name x p) (a::es) [] pos) (tq f t) :=
 PE.imp (jx hc hg hm hv ha hn hdb he hpl) λσ H Q h=>mE h
end
def Eg(R:a7)(δ:En):Prop:=R.nx δ
def dSeq(t u:TDS)(R:a7)(δ:En):Prop:=t { R with nx:=u R } δ
def EL(t:HQ)(R:a7)(δ:En):Prop:=t δ λ_ δ1=>R.nx δ1
def kRe(R:a7):W->En->Prop:=wd λx δ1=>R.rt x δ1
def dRet(t:HQ)(R:a7)(δ:En):Prop:=t δ (kRe R)
def kIf(t u:En->Prop)(b:Bool)(δ:En):Prop:=if b=true then t δ else u δ
def dIf(c:TDT)(t u:TDS)(R:a7)(δ:En):Prop:=c δ (kIf (t R) (u R))
def vf(_:a7)(_:En):Prop:=False
def kSe(i:Nat)(R:a7):W->En->Prop:=wd λx δ1=>lH δ1 i (.dat x) R.nx
def dSet(i:Nat)(t:HQ)(R:a7)(δ:En):Prop:=t δ (kSe i R)
def kAs(g:TDG)(R:a7):W->En->Prop:=wd λx δ1=>g x δ1 R.nx
def dAsg(t:HQ)(g:TDG)(R:a7)(δ:En):Prop:=t δ (kAs g R)
def dPar(i j:Nat)(t:HK)(R:a7)(δ:En):Prop:=t δ λds δ1=>qC ds λx r=>qC r λy r=>qN r (lH δ1 i (.dat x) λδ2=>lH δ2 j (.dat y) R.nx)
def dD(i:Nat)(x:D)(δ:En)(R:En->Prop):Prop:=lH δ i (.dat x) R
def AT(ds:Zh)(δ:En)(R:En->Prop):Prop:=qN ds (R δ)
def v6(t:TDG)(u:zH)(ds:Zh)(δ:En)(R:En->Prop):Prop:=qC ds λx r=>t x δ λδ1=>u r δ1 R
def m8(n:Nat)(t:zH)(d:D)(δ:En)(R:En->Prop):Prop:=qT d λxs=>wg xs n (t xs δ R)
def Dj(c:TDT)(tb:TDS)(R:a7)(δ:En):Prop:=∃(I:En->Prop) (μ:En->Nat),I δ/\∀δ,I δ->c δ (kIf (tb { R with nx:=λδ'=>I δ'/\μ δ'<μ δ,ct:=λδ'=>I δ'/\μ δ'<μ δ,bk:=R.nx,tp:=False }) R.nx)
def tf(t:HQ)(g:TDG)(tb:TDS)(R:a7)(δ:En):Prop:=t δ (wd λd δ1=>qL d λxs=>∃I:Nat->En->Prop,I 0 δ1 /\
 (∀i x δ',xs[i]?=some x->I i δ'->g x δ' (tb { R with nx:=I (i+1),ct:=I (i+1),bk:=R.nx,tp:=False }))/\∀δ',I xs.length δ'->R.nx δ')
def qm(t:HQ)(g:TDG)(tb:TDS)(R:a7)(δ:En):Prop:=t δ (wd λd δ1=>qT d λxs=>∃I:Nat->En->Prop,I 0 δ1 /\
 (∀i x δ',xs[i]?=some x->I i δ'->g x δ' (tb { R with nx:=I (i+1),ct:=I (i+1),bk:=R.nx,tp:=False }))/\∀δ',I xs.length δ'->R.nx δ')
def Co(t:HK)(g:TDG)(tb:TDS)(R:a7)(δ:En):Prop:=t δ λds δ1=>qC ds λx r=>qN r <| qI x λj=>-(2 ^ 62)<=j/\j<2 ^ 62/\∃I:Nat->En->Prop,I 0 δ1 /\
 (∀i δ',i<j.toNat->I i δ'->g (.int i) δ' (tb { R with nx:=I (i+1),ct:=I (i+1),bk:=R.nx,tp:=False }))/\∀δ',I j.toNat δ'->R.nx δ'
section
variable {X:Cx} {pos:Pos} {a b c e tg:Expr} {ta:HQ} {tA:TDT} {t u:TDS} {st:Stmt} {dA body:List Stmt} {g:TDG} {gs:zH} {tda:HK}
theorem aF:DSs X [] Eg:=PSs.imp lM λE σ H ⟨G,δ,P,R,s,h,k,_⟩=>k δ h σ H s
theorem ad(h1:DS X st t)(h2:DSs X dA u):DSs X (st::dA) (dSeq t u) :=
 PSs.imp (eM h1 h2) λE σ H ⟨G,δ,P,R,s,h,k1,k2,k3,k4⟩=>⟨G,δ,P,{ R with nx:=u R },s,h,λδ' h' σ' H' s'=>⟨G,δ',P,R,s',h',k1,k2,k3,k4⟩,k2,k3,k4⟩
theorem af(h1:DS X st t):DSs X [st] t:=Cp h1
theorem vt(he:DE X e ta)(hs:swapsWith e none pos.line X.env=pure false:=by rfl):DS X (.Expr e pos) (EL ta) :=
 PS.imp (lG he hs) λE σ H ⟨G,δ,P,R,s,h,k,_⟩=>⟨G,δ,P,_,s,h,λx δ1 h1 v H1 s1=>k δ1 h1 σ H1 (s1.sub λp hp=>by simp[hp]),λi δ1 h1 a d H1 s1 _=>k δ1 h1 σ H1 s1⟩
theorem av(he:DE X e ta):DS X (.Return (some e) pos) (dRet ta) :=
 PS.imp (vA he) λE σ H ⟨G,δ,P,R,s,h,_,k,_⟩=>up.mk s h λx δ1 h1 v H1 s1=>k.1 x δ1 h1 v σ H1 s1
theorem aP{aa bb:List Stmt}(hc:DT X c tA)(ha:DSs X aa t)(hb:DSs X bb u):DS X (.If c aa bb pos) (dIf tA t u) :=
 PS.imp (yM hc ha hb) λE σ H ⟨G,δ,P,R,s,h,k1,k2,k3,k4⟩=>⟨G,δ,P,_,s,h,λb δ1 h1 H1 s1=>by
  cases b with
  | true=>exact⟨G,δ1,P,R,s1,h1,k1,k2,k3,k4⟩
  | false=>exact⟨G,δ1,P,R,s1,h1,k1,k2,k3,k4⟩⟩
theorem ds_never:DS X st vf:=PS.imp xc λE σ H ⟨G,δ,P,R,s,h,_⟩=>h
theorem f7:DSs X dA vf:=PSs.imp jI λE σ H ⟨G,δ,P,R,s,h,_⟩=>h
theorem aA(i:Nat){x:Str}{pos':Pos}(hN:X.N.Nodup)(he:DE X e ta)(hi:X.N[i]?=some x:=by rfl)(hx:Loc X.env.scope x:=by walk_at "v2")(hs:swapsWith e (some (.Name x pos')) pos.line X.env=pure false:=by rfl)
  (hf:X.fn x=true\/X.env.scope.names.lookup x=some .local :=by walk_at "v1"):DS X (.Assign [.Name x pos'] e pos) (dSet i ta) :=
 PS.imp (nD hN hi hx he hs hf) λE σ H ⟨G,δ,P,R,s,h,k,_⟩=>up.mk s h λx δ1 h1 v H1 s1=>k _ h1 _ H1 (s1.set (by simp) λp hp=>by simp[hp])
theorem rf(he:DE X e ta)(hg:DG X tg g)(hs:swapsWithSole [tg] e pos.line X.env=pure false:=by rfl)(hw:swappedStores [tg] e X.env=pure none:=by rfl)
  (h1:(assignEach [tg] X.env).map (·.2)=[assign tg X.env]:=by rfl):DS X (.Assign [tg] e pos) (dAsg ta g) :=
 PS.imp (CZ he hg hs hw h1) λE σ H ⟨G,δ,P,R,s,h,k,_⟩=>up.mk s h λx δ1 h1 v H1 s1=>⟨G,δ1,P,x,R.nx,s1,h1,k⟩
theorem ar(i:Nat){x:Str}(hN:X.N.Nodup)(hi:X.N[i]?=some x:=by rfl)(hx:Loc X.env.scope x:=by walk_at "v2")(hf:X.fn x=true\/X.env.scope.names.lookup x=some .local :=by walk_at "v1") :
  DG X (.Name x pos) (dD i):=PG.imp (Cl hN hi hx hf) λv σ H Q ⟨G,δ,P,d,R,s,h,k⟩=>k _ h _ H (s.set (by simp) λp hp=>by simp[hp])
theorem aW:DGs X [] AT:=PGs.imp Ce λvs σ H Q ⟨G,δ,P,ds,R,hl,s,h,k⟩=>by
 replace h:=qN.ex h;obtain⟨e,h⟩:=h;subst e;have:vs=[]:=JE.mp hl.symm;subst this;exact⟨rfl,k δ h σ H s⟩
theorem aB(h1:DG X e g)(h2:DGs X es gs)(hs:(assignEach (e::es) X.env).map (·.2)=assign e X.env::(assignEach es X.env).map (·.2):=by rfl):DGs X (e::es) (v6 g gs) :=
 PGs.imp (xG h1 h2 hs) λvs σ H Q ⟨G,δ,P,ds,R,hl,s,h,k⟩=>by
  replace h:=qC.ex h;obtain⟨x,r,e,h⟩:=h;subst e
  cases vs with
  | nil=>cases hl
  | cons v vs =>
   refine⟨v,vs,rfl,G,δ,r.zip vs++P,x,_,s.sub λp hp=>by simpa using hp,h,λδ1 h1 σ1 H1 s1=>⟨G,δ1,P,r,R,J4 hl,s1,h1,k⟩⟩
theorem bJ{kk:Nat}(hc:X.calm=true)(h:DGs X es gs)(hn:(assignEach es X.env).length=n:=by rfl)(hst:(assignEach es X.env).findIdx? (·.1)=none:=by rfl):DG X (.Tuple es kk pos) (m8 n gs) :=
 PG.imp (Fy hc h hn hst) λv σ H Q ⟨G,δ,P,d,R,s,h,k⟩=>by
  replace h:=qT.ex h;obtain⟨xs,e,h⟩:=h;replace h:=wg.ex h;obtain⟨hl,h⟩:=h;subst e;obtain⟨A,x⟩:=s;have q:=x.pnd (.tup xs,v) 'p';simp only[HP] at q;obtain⟨a,vs,e,sq,r⟩:=q;subst e;refine⟨a,vs,rfl,sq,by rw[<- Reps.length _ _ r];exact hl,G,δ,P,xs,R,Reps.length _ _ r,⟨A,?_⟩,h,k⟩
  exact⟨x.old,x.stay,x.m0,x.pm,x.new,x.thr,x.len,x.dat,x.own,x.inj,λp hp=>by
   rcases Ip.mp hp with hp | hp
   ·obtain⟨i,hi,e⟩:=List.mem_iff_getElem.mp hp;have h1:i<xs.length:=by rw[Jh] at hi;omega
    have h2:i<vs.length:=by rw[Jh] at hi;omega
    obtain⟨v',e',r'⟩:=Reps.get _ _ r i xs[i] (by simp[h1]);have:p=(xs[i],vs[i]):=by rw[<- e,List.getElem_zip]
    rw[this];rw[List.getElem?_eq_getElem h2] at e'
    cases e'
    exact r'
   ·exact x.pnd p (by simp[hp])⟩
theorem zC(i j:Nat){x y:Str}{px py pt pt2:Pos}{kt k2}(hc:X.calm=true)(hN:X.N.Nodup)(hij:i≠j)(ha:DA X [a,b] tda)(hi:X.N[i]?=some x:=by rfl)(hj:X.N[j]?=some y:=by rfl)
  (hx:X.env.scope.names.lookup x=some .local :=by rfl) (hy:X.env.scope.names.lookup y=some .local :=by rfl) (hw:swappedStores [.Tuple [.Name x px,.Name y py] kt pt] (.Tuple [a,b] k2 pt2) X.env=pure (some [x,y]):=by rfl)
  (hs:swapsWithSole [.Tuple [.Name x px,.Name y py] kt pt] (.Tuple [a,b] k2 pt2) pos.line X.env=pure false:=by rfl) :
  DS X (.Assign [.Tuple [.Name x px,.Name y py] kt pt] (.Tuple [a,b] k2 pt2) pos) (dPar i j tda) :=
 PS.imp (EF hc hN hi hj hij hx hy ha hw hs) λE σ H ⟨G,δ,P,R,s,h,k,_⟩=>⟨G,δ,P,_,s,h,λds δ1 h1 vs H1 hl s1=>by
  replace h1:=qC.ex h1;obtain⟨x,r,e,h1⟩:=h1;replace h1:=qC.ex h1;obtain⟨y,r',e',h1⟩:=h1;replace h1:=qN.ex h1;obtain⟨e2,h1⟩:=h1;subst e2 e' e
  match vs,hl with
  | [v,w],_=>exact⟨v,w,rfl,k _ h1 _ H1 ((s1.set (P':=(x,v)::(y,w)::P) (i:=i) (d:=x) (v:=v) (by simp) λp hp=>by simpa using hp).set (by simp) λp hp=>by simp[hp])⟩⟩
theorem lP(hp:PassesOwn 'k' X.A X.env X.xe)(hc:DT X c tA)(hb:DSs X body t):DS X (.While c body [] pos) (Dj tA t) :=
 PS.imp (wZ hp hc hb) λE σ H ⟨G,δ,P,R,s,⟨I,μ,i0,turn⟩,k1,k2,k3,k4⟩=>by
  refine⟨λm σ H=>∃δ,m=μ δ/\I δ/\S X.K G δ P σ H,⟨_,δ,rfl,i0,s⟩,?_⟩;rintro m σ H ⟨δ,rfl,i,s⟩;refine⟨G,δ,P,_,s,turn δ i,λb δ1 h1 H1 s1=>?_⟩
  cases b with
  | false=>exact k1 δ1 h1 σ H1 s1
  | true =>
   refine⟨λσ' H'=>∃δ',(I δ'/\μ δ'<μ δ)/\S X.K G δ' P σ' H',λσ' H' ⟨δ',⟨i',l⟩,s'⟩=>⟨_,l,δ',rfl,i',s'⟩,?_⟩;exact⟨G,δ1,P,_,s1,h1,λδ' h' σ' H' s'=>⟨δ',h',s'⟩,k2,k1,λδ' h' σ' H' s'=>⟨δ',h',s'⟩,λz=>z.elim⟩
theorem bu(hp:PassesOwn 'k' X.A X.env X.xe)(hc:X.calm=true)(hi:DE X e ta)(hg:DG X tg g)(hb:DSs X body t)(hs:∀x,foldedSetIterable e X.env x=pure x:=by intro _;rfl):DS X (.For tg e body [] pos) (tf ta g t) :=
 PS.imp (qA hp hc (vZ hi) hg hb hs) λE σ H ⟨G,δ,P,R,s,h,k1,k2,k3,k4⟩=>up.mk s h λd δ1 h1 v H1 s1=>by
  replace h1:=qL.ex h1;obtain⟨xs,e,I,i0,aa,ai⟩:=h1;subst e;have ah:∀δ σ H,S X.K G δ ((.lst xs,v)::P) σ H->∃a vs,v=.ref a/\Ht X.K H a vs/\vs.length=xs.length:=λδ σ H ⟨A,x⟩=>by
   have q:=x.pnd (.lst xs,v) 'p'
   simp only[HP] at q;obtain⟨a,vs,e,_,l,r⟩:=q;exact⟨a,vs,e,Ht.of l,(Reps.length _ _ r).symm⟩
  have aj:∃a vs,v=.ref a/\Ht X.K H1 a vs/\vs.length=xs.length:=ah _ _ _ s1
  obtain⟨a,ab,rfl,ag,al⟩:=aj;refine⟨a,rfl,⟨ab,ag⟩,λi m σ H=>m=xs.length-i/\i<=xs.length/\∃δ,I i δ/\S X.K G δ ((.lst xs,.ref a)::P) σ H,⟨xs.length,by simp,Jq _,δ1,i0,s1⟩,?_⟩;rintro i m σ H ⟨rfl,hi,δ',ii,s'⟩;obtain⟨A,x⟩:=id s';have q:=x.pnd (.lst xs,.ref a) 'p';simp only[HP] at q;obtain⟨a',vs,e,_,l,r⟩:=q
  cases e
  have l:Ht X.K H a vs:=Ht.of l
  have hl:xs.length=vs.length:=Reps.length _ _ r
  by_cases hlt:i<xs.length
  ·obtain⟨v',e',r'⟩:=Reps.get _ _ r i xs[i] (by simp[hlt]);refine .inr ⟨⟨vs,v',l,e'⟩,λσ' H'=>∃δ',I (i+1) δ'/\S X.K G δ' ((.lst xs,.ref a)::P) σ' H',λσ' H' ⟨δ',p',s'⟩=>⟨xs.length-(i+1),by omega,rfl,hlt,δ',p',s'⟩,λy H' hy=>?_⟩;obtain⟨e,hy⟩:=hy;subst e;have:some y=some v':=(hy vs l).symm.trans e'
   cases this
   refine⟨G,δ',(.lst xs,.ref a)::P,xs[i],_,⟨A,x.push r'⟩,aa i xs[i] δ' (by simp[hlt]) ii,λδ2 h2 σ2 H2 s2=>?_⟩
   refine⟨G,δ2,(.lst xs,.ref a)::P,_,s2,h2,λδ3 h3 σ3 H3 s3=>⟨δ3,h3,s3⟩,⟨λd δ3 h3 v3 σ3 H3 s3=>k2.1 d δ3 h3 v3 σ3 H3 (s3.sub λp hp=>by
    rcases Ih.mp hp with rfl | hp
    ·simp
    ·simp[hp]),k2.2.1,exs k2.2.2⟩,λδ3 h3 σ3 H3 s3=>k1 δ3 h3 σ3 H3 (s3.sub λp hp=>by simp[hp]),λδ3 h3 σ3 H3 s3=>⟨δ3,h3,s3⟩,λz=>z.elim⟩
  ·have e:i=xs.length:=by omega
   subst e;exact .inl ⟨⟨vs,l,by omega⟩,k1 δ' (ai δ' ii) σ H (s'.sub λp hp=>by simp[hp])⟩
theorem gX(hp:PassesOwn 'k' X.A X.env X.xe)(hc:X.calm=true)(hi:DE X e ta)(hg:DG X tg g)(hb:DSs X body t)(hs:∀x,foldedSetIterable e X.env x=pure x:=by intro _;rfl):DS X (.For tg e body [] pos) (qm ta g t) :=
 PS.imp (qA hp hc (zF hi) hg hb hs) λE σ H ⟨G,δ,P,R,s,h,k1,k2,k3,k4⟩=>up.mk s h λd δ1 h1 v H1 s1=>by
  replace h1:=qT.ex h1;obtain⟨xs,e,I,i0,aa,ai⟩:=h1;subst e;have ah:∀δ σ H,S X.K G δ ((.tup xs,v)::P) σ H->∃a vs,v=.ref a/\Hv X.K H a vs/\vs.length=xs.length:=λδ σ H ⟨A,x⟩=>by
   have q:=x.pnd (.tup xs,v) 'p'
   simp only[HP] at q;obtain⟨a,vs,e,l,r⟩:=q;exact⟨a,vs,e,l,(Reps.length _ _ r).symm⟩
  have aj:∃a vs,v=.ref a/\Hv X.K H1 a vs/\vs.length=xs.length:=ah _ _ _ s1
  obtain⟨a,ab,rfl,ag,al⟩:=aj;refine⟨a,rfl,⟨ab,ag⟩,λi m σ H=>m=xs.length-i/\i<=xs.length/\∃δ,I i δ/\S X.K G δ ((.tup xs,.ref a)::P) σ H,⟨xs.length,by simp,Jq _,δ1,i0,s1⟩,?_⟩;rintro i m σ H ⟨rfl,hi,δ',ii,s'⟩;obtain⟨A,x⟩:=id s';have q:=x.pnd (.tup xs,.ref a) 'p';simp only[HP] at q;obtain⟨a',vs,e,l,r⟩:=q
  cases e
  have hl:xs.length=vs.length:=Reps.length _ _ r
  by_cases hlt:i<xs.length
  ·obtain⟨v',e',r'⟩:=Reps.get _ _ r i xs[i] (by simp[hlt]);refine .inr ⟨⟨vs,v',l,e'⟩,λσ' H'=>∃δ',I (i+1) δ'/\S X.K G δ' ((.tup xs,.ref a)::P) σ' H',λσ' H' ⟨δ',p',s'⟩=>⟨xs.length-(i+1),by omega,rfl,hlt,δ',p',s'⟩,λy H' hy=>?_⟩;obtain⟨e,hy⟩:=hy;subst e;have:some y=some v':=(hy vs l).symm.trans e'
   cases this
   refine⟨G,δ',(.tup xs,.ref a)::P,xs[i],_,⟨A,x.push r'⟩,aa i xs[i] δ' (by simp[hlt]) ii,λδ2 h2 σ2 H2 s2=>?_⟩
   refine⟨G,δ2,(.tup xs,.ref a)::P,_,s2,h2,λδ3 h3 σ3 H3 s3=>⟨δ3,h3,s3⟩,⟨λd δ3 h3 v3 σ3 H3 s3=>k2.1 d δ3 h3 v3 σ3 H3 (s3.sub λp hp=>by
    rcases Ih.mp hp with rfl | hp
    ·simp
    ·simp[hp]),k2.2.1,exs k2.2.2⟩,λδ3 h3 σ3 H3 s3=>k1 δ3 h3 σ3 H3 (s3.sub λp hp=>by simp[hp]),λδ3 h3 σ3 H3 s3=>⟨δ3,h3,s3⟩,λz=>z.elim⟩
  ·have e:i=xs.length:=by omega
   subst e;exact .inl ⟨⟨vs,l,by omega⟩,k1 δ' (ai δ' ii) σ H (s'.sub λp hp=>by simp[hp])⟩
theorem wD{pos':Pos}(hp:PassesOwn 'k' X.A X.env X.xe)(hc:X.calm=true)(hgl:Gl X "range")(hm:X.mg "range"=none)(ha:DA X [a] tda)(hg:DG X tg g)(hb:DSs X body t)
  (hse:starEach [a] X.env=[(false,eval a X.env)]:=by rfl) (hs:∀x,foldedSetIterable (.Call (.Name "range" p) [a] [] pos') X.env x=pure x:=by intro _;rfl) :
  DS X (.For tg (.Call (.Name "range" p) [a] [] pos') body [] pos) (Co tda g t) :=
 PS.imp (qA hp hc (nu hgl hm ha hse) hg hb hs) λE σ H ⟨G,δ,P,R,s,h,k1,k2,k3,k4⟩=>⟨G,δ,P,_,s,h,λds δ1 h1 vs H1 hl s1=>by
  replace h1:=qC.ex h1;obtain⟨x,r,e,h1⟩:=h1;replace h1:=qN.ex h1;obtain⟨e',h1⟩:=h1;replace h1:=qI.ex h1;obtain⟨j,e2,h1,h2,I,i0,aa,ab⟩:=h1;subst e2 e' e
  match vs,hl with
  | [v],_ =>
   have q:v=.int j:=by
    obtain⟨A,x⟩:=s1;have q:=x.pnd (.int j,v) 'p';simpa only[HP] using q
   subst q;have s2:S X.K G δ1 P σ H1:=s1.sub λp hp=>by simp[hp]
   refine⟨j,rfl,h1,h2,vp (lo:=0) (n:=j.toNat) (λi σ H=>∃δ,I i δ/\S X.K G δ P σ H) ⟨δ1,i0,s2⟩ (λi σ H hi ⟨δ',ii,s'⟩=>?_) λσ H ⟨δ',ii,s'⟩=>k1 δ' (ab δ' ii) σ H s'⟩;refine⟨G,δ',P,.int (0+i),_,s'.sc rfl,(by have q:=aa i δ' hi ii;rw[J5];exact q),λδ2 h2 σ2 H2 s2=>?_⟩
   exact⟨G,δ2,P,_,s2,h2,λδ3 h3 σ3 H3 s3=>⟨δ3,h3,s3⟩,k2,k1,λδ3 h3 σ3 H3 s3=>⟨δ3,h3,s3⟩,λz=>z.elim⟩⟩
end
end DL
namespace DL
open PySem PySem.Spec PyProof.Rows L2
variable {a:D} {vs:Zf} {i:Int} {v:V} {g:Int→Int→D} {R:D→Prop} {C:Int→Int→Prop} {ds:Zh}
section
variable {K:PySem.W.Frag} {M:Addr→Prop} {H:Hp}
theorem Fa{x:V}(h:Reps K M H [a] [x]):HP K M H a x:=by
 unfold Reps at h;obtain⟨v,r,e,q,_⟩:=h
 cases e
 exact q
theorem bL{b:D}{x y:V}(h:Reps K M H [a,b] [x,y]):HP K M H a x/\HP K M H b y:=by
 unfold Reps at h;obtain⟨v,r,e,q,h⟩:=h
 cases e
 exact⟨q,Fa h⟩
theorem aR(h:Reps K M H [a] vs):∃x,vs=[x]/\HP K M H a x:=by
 unfold Reps at h;obtain⟨v,r,e,q,h⟩:=h;unfold Reps at h;subst h;exact⟨v,e,q⟩
theorem lN{b:D}(h:Reps K M H [a,b] vs):∃x y,vs=[x,y]/\HP K M H a x/\HP K M H b y:=by
 unfold Reps at h;obtain⟨v,r,e,q,h⟩:=h;obtain⟨y,e2,q2⟩:=aR h;subst e2;exact⟨v,y,e,q,q2⟩
theorem aT(h:HP K M H (.int i) v):v=.int i:=by unfold HP at h;exact h
theorem iw{i:Bool}(h:HP K M H (.bl i) v):v=.bl i:=by unfold HP at h;exact h
theorem bv{i:Str}(h:HP K M H (.str i) v):v=.str i:=by unfold HP at h;exact h
end
def fI0(g:Int->Int->D):Zh->(D->Prop)->Prop
 | [.int i,.int j],R=>R (g i j)
 | _,_=>False
def fI(C:Int->Int->Prop)(g:Int->Int->D):Zh->(D->Prop)->Prop
 | [.int i,.int j],R=>C i j/\R (g i j)
 | _,_=>False
def fU(g:Int->D):Zh->(D->Prop)->Prop
 | [.int i],R=>R (g i)
 | _,_=>False
theorem C2{a b:Int}:fI0 g [.int a,.int b] R=R (g a b):=rfl
theorem G7{a b:Int}:fI C g [.int a,.int b] R=(C a b/\R (g a b)):=rfl
theorem F5{g:Int->D}{a:Int}:fU g [.int a] R=R (g a):=rfl
theorem EE(h:fI0 g ds R):∃i j,ds=[.int i,.int j]/\R (g i j):=by
 unfold fI0 at h
 split at h
 ·exact⟨_,_,rfl,h⟩
 ·exact h.elim
theorem FR(h:fI C g ds R):∃i j,ds=[.int i,.int j]/\C i j/\R (g i j):=by
 unfold fI at h
 split at h
 ·exact⟨_,_,rfl,h⟩
 ·exact h.elim
theorem DX{g:Int->D}(h:fU g ds R):∃i,ds=[.int i]/\R (g i):=by
 unfold fU at h
 split at h
 ·exact⟨_,rfl,h⟩
 ·exact h.elim
def CFd(_ j:Int):Prop:=j≠0/\j.natAbs.log2<9000
def CNz(_ j:Int):Prop:=j≠0
section
variable {X:Cx}
theorem ym{f:Value->Value->Sem Value}{g':Int->Int->V}(h:HC X f (rI0 g'))(hs:∀i j,sc (g i j)=some (g' i j)):HC X f λx y=>aQ X.K (fI0 g) [x,y] :=
 HC.imp h λx y H Q ⟨M,ds,R,m,rs,hf,k⟩=>by
  obtain⟨i,j,e,r⟩:=EE hf;subst e;obtain⟨h1,h2⟩:=bL rs;exact⟨i,j,aT h1,aT h2,k _ r _ H (bF.refl H) (HP.sc (hs i j))⟩
theorem opI{f:Value->Value->Sem Value}{C':Int->Int->Prop}{g':Int->Int->V}(h:HC X f (rI C' g'))(hs:∀i j,sc (g i j)=some (g' i j))(hc:∀i j,C i j->C' i j):HC X f λx y=>aQ X.K (fI C g) [x,y] :=
 HC.imp h λx y H Q ⟨M,ds,R,m,rs,hf,k⟩=>by
  obtain⟨i,j,e,c,r⟩:=FR hf;subst e;obtain⟨h1,h2⟩:=bL rs;exact⟨i,j,aT h1,aT h2,hc i j c,k _ r _ H (bF.refl H) (HP.sc (hs i j))⟩
theorem Ha:HC X (binaryOp .Add) λx y=>aQ X.K (fI0 λi j=>.int (i+j)) [x,y]:=ym Ep λ_ _=>rfl
theorem lQ:HC X (binaryOp .Sub) λx y=>aQ X.K (fI0 λi j=>.int (i-j)) [x,y]:=ym Ej λ_ _=>rfl
theorem AH:HC X (binaryOp .Mult) (rI IntMulOk λi j=>.int (i*j)):=L2.opI λ_ _ _ _ _ _ _ hc q=>mul_int q hc
theorem bH:HC X (binaryOp .Mult) λx y=>aQ X.K (fI IntMulOk λi j=>.int (i*j)) [x,y]:=opI AH (λ_ _=>rfl) λ_ _ h=>h
theorem w6:HC X (binaryOp .FloorDiv) (rI CFd λi j=>.int (i.fdiv j)):=L2.opI λ_ _ _ _ _ _ _ hc q=>floordiv_int hc.1 q (.inl (PyProof.noPylong_of_log2 hc.2))
theorem cJ:HC X (binaryOp .FloorDiv) λx y=>aQ X.K (fI CFd λi j=>.int (i.fdiv j)) [x,y]:=opI w6 (λ_ _=>rfl) λ_ _ h=>h
theorem eY:HC X (binaryOp .Mod) λx y=>aQ X.K (fI CNz λi j=>.int (i.fmod j)) [x,y]:=opI Cb (λ_ _=>rfl) λ_ _ h=>h
theorem xf:HC X (binaryOp .Pow) λx y=>aQ X.K (fI CPow λi j=>.int (i ^ j.toNat)) [x,y]:=opI EZ (λ_ _=>rfl) λ_ _ h=>h
theorem zA:HC X (compareOp .Lt) λx y=>aQ X.K (fI0 λi j=>.bl (decide (i<j))) [x,y]:=ym GT λ_ _=>rfl
theorem o_le:HC X (compareOp .LtE) λx y=>aQ X.K (fI0 λi j=>.bl (decide (i<=j))) [x,y]:=ym Hc λ_ _=>rfl
theorem wV:HC X (compareOp .Gt) λx y=>aQ X.K (fI0 λi j=>.bl (decide (j<i))) [x,y]:=ym FV λ_ _=>rfl
theorem o_ge:HC X (compareOp .GtE) λx y=>aQ X.K (fI0 λi j=>.bl (decide (j<=i))) [x,y]:=ym GI λ_ _=>rfl
theorem xO:UnR X (unaryOp .USub) λx=>aQ X.K (fU λi=>.int (-i)) [x] :=
 UnR.imp DB λx H Q ⟨M,ds,R,m,rs,hf,k⟩=>by
  obtain⟨i,e,r⟩:=DX hf;subst e;exact⟨i,aT (Fa rs),k _ r _ H (bF.refl H) (HP.sc rfl)⟩
theorem yV:bW X (.builtin "abs") (aQ X.K (fU λi=>.int (if i<0 then -i else i))) :=
 bW.imp ye λxs H Q ⟨M,ds,R,m,rs,hf,k⟩=>by
  obtain⟨i,e,r⟩:=DX hf;subst e;obtain⟨x,e,q⟩:=aR rs;subst e;exact⟨i,by rw[aT q],k _ r _ H (bF.refl H) (HP.sc rfl)⟩
def CT:Zh->(D->Prop)->Prop
 | [.lst xs],R=>R (.int xs.length)
 | [.fz xs],R=>R (.int xs.length)
 | [.tup xs],R=>R (.int xs.length)
 | _,_=>False
theorem CB:∀ {d0:Zh} {R:D->Prop},CT d0 R->((∃(xs:Zh),d0=[.lst xs]/\R (.int xs.length))\/(∃(xs:Zh),d0=[.fz xs]/\R (.int xs.length))\/(∃(xs:Zh),d0=[.tup xs]/\R (.int xs.length))):=by walk_at "or"
theorem gA:bW X (.builtin "len") (aQ X.K CT) :=
 bW.imp iE λxs H Q ⟨M,ds,R,m,rs,h,k⟩=>by
  have aa:∀n:Nat,R (.int n)->Q (.int n) H:=λn r=>k _ r _ H (bF.refl H) (HP.sc rfl)
  replace h:=CB h
  rcases h with⟨_,rfl,h⟩ | ⟨_,rfl,h⟩ | ⟨_,rfl,h⟩
  ·obtain⟨x,e,q⟩:=aR rs;unfold HP at q;obtain⟨a,vs,e2,_,l,r⟩:=q;subst e e2;exact⟨a,vs,rfl,.inl (Ht.of l),aa _ (by rw[<- Reps.length _ _ r];exact h)⟩
  ·obtain⟨x,e,q⟩:=aR rs;unfold HP at q;obtain⟨a,vs,e2,l,r⟩:=q;subst e e2;exact⟨a,vs,rfl,.inl l.seq,aa _ (by rw[<- Reps.length _ _ r];exact h)⟩
  ·obtain⟨x,e,q⟩:=aR rs;unfold HP at q;obtain⟨a,vs,e2,l,r⟩:=q;subst e e2;exact⟨a,vs,rfl,.inr l,aa _ (by rw[<- Reps.length _ _ r];exact h)⟩
def fInt:Zh->(D->Prop)->Prop
 | [.int i],R=>R (.int i)
 | [.bl b],R=>R (.int (if b then 1 else 0))
 | _,_=>False
theorem BA:∀ {d0:Zh} {R:D->Prop},fInt d0 R->((∃(i:Int),d0=[.int i]/\R (.int i))\/(∃(b:Bool),d0=[.bl b]/\R (.int (if b then 1 else 0)))):=by walk_at "or"
theorem Gr:bW X (.type "int") (aQ X.K fInt) :=
 bW.imp wc λxs H Q ⟨M,ds,R,m,rs,h,k⟩=>by
  replace h:=BA h
  rcases h with⟨_,rfl,h⟩ | ⟨_,rfl,h⟩
  ·obtain⟨x,e,q⟩:=aR rs;subst e;exact .inl ⟨_,by rw[aT q],k _ h _ H (bF.refl H) (HP.sc rfl)⟩
  ·obtain⟨x,e,q⟩:=aR rs;subst e;exact .inr ⟨_,by rw[iw q],k _ h _ H (bF.refl H) (HP.sc rfl)⟩
def qAt(xs:Zh):Int->(D->Prop)->Prop
 | .ofNat n,k=>qV xs[n]? k
 | .negSucc n,k=>qV (Hn xs (.negSucc n)) k
theorem uA{α:Type}{xs:List α}{n:Nat}:Hn xs (.ofNat n)=xs[n]?:=by
 have h0:(0:Int)<=Int.ofNat n:=Int.natCast_nonneg n
 unfold Hn ixN;rw[Ir h0]
 by_cases h:n<xs.length
 ·rw[Ir (show Int.ofNat n<(xs.length:Int) from Int.ofNat_lt.mpr h)];rfl
 ·rw[Io (show ¬ Int.ofNat n<(xs.length:Int) from λz=>h (Int.ofNat_lt.mp z)),List.getElem?_eq_none (Nat.le_of_not_lt h)];rfl
theorem qAt.ex{xs:Zh}{k:D->Prop}(h:qAt xs i k):∃v,Hn xs i=some v/\k v:=by
 cases i with
 | ofNat n=>rw[uA];exact qV.ex h
 | negSucc n=>exact qV.ex h
theorem qAt.of{xs:Zh}{k:D->Prop}{v:D}(e:Hn xs i=some v)(h:k v):qAt xs i k:=by
 cases i with
 | ofNat n=>rw[uA] at e;exact qV.of e h
 | negSucc n=>exact qV.of e h
def fIx:Zh->(D->Prop)->Prop
 | [.tup xs,.int i],R=>qAt xs i R
 | [.lst xs,.int i],R=>qAt xs i R
 | [.fz xs,.int i],R=>qAt xs i R
 | [.str z,.int i],R=>z.length<=9000/\∃c,Hn z.cps.toList i=some c/\R (.str ⟨#[c]⟩)
 | _,_=>False
theorem Dn{d0:Zh}(h:fIx d0 R):(∃(xs:Zh) (i:Int),d0=[.tup xs,.int i]/\∃v,Hn xs i=some v/\R v)\/(∃(xs:Zh) (i:Int),d0=[.lst xs,.int i]/\∃v,Hn xs i=some v/\R v)\/(∃(xs:Zh) (i:Int),d0=[.fz xs,.int i]/\∃v,Hn xs i=some v/\R v)\/(∃(z:Str) (i:Int),d0=[.str z,.int i]/\z.length<=9000/\∃c,Hn z.cps.toList i=some c/\R (.str ⟨#[c]⟩)):=by
 rcases d0 with _ | ⟨a,_ | ⟨b,_ | ⟨c,l⟩⟩⟩
 ·exact False.elim h
 ·cases a<;>exact False.elim h
 ·cases a<;>first | exact False.elim h | (cases b<;>first | exact False.elim h | exact .inl ⟨_,_,rfl,qAt.ex h⟩ | exact .inr (.inl ⟨_,_,rfl,qAt.ex h⟩) | exact .inr (.inr (.inl ⟨_,_,rfl,qAt.ex h⟩)) | exact .inr (.inr (.inr ⟨_,_,rfl,h⟩)))
 ·cases a<;>first | exact False.elim h | (cases b<;>exact False.elim h)
theorem Bq{α β:Type}{xs:List α}{ys:List β}(h:xs.length=ys.length){v:α}(e:Hn xs i=some v):∃j:Nat,xs[j]?=some v/\∀w,ys[j]?=some w->Hn ys i=some w:=by
 unfold Hn at e ⊢;rw[h] at e
 cases q:ixN ys.length i with
 | none=>rw[q] at e;cases e
 | some j=>rw[q] at e;exact⟨j,e,λw z=>z⟩
theorem gl:IxR X λx y=>aQ X.K fIx [x,y] :=
 IxR.imp EK λx y H Q ⟨M,ds,R,m,rs,h,k⟩=>by
  have aa:∀(xs:Zh) (vs:Zf) (i:Int) (d:D),Reps X.K M H xs vs->Hn xs i=some d->R d->∃v,Hn vs i=some v/\Q v H:=λxs vs i d r e q=>by
   obtain⟨j,h1,h2⟩:=Bq (Reps.length _ _ r) e;obtain⟨v,e',r'⟩:=Reps.get _ _ r j d h1;exact⟨v,h2 v e',k d q v H (bF.refl H) r'⟩
  replace h:=Dn h
  rcases h with⟨_,_,rfl,h⟩ | ⟨_,_,rfl,h⟩ | ⟨_,_,rfl,h⟩ | ⟨_,_,rfl,h⟩
  ·obtain⟨d,e,q⟩:=h;obtain⟨h1,h2⟩:=bL rs;unfold HP at h1;obtain⟨a,vs,e2,l,r⟩:=h1;obtain⟨v,e3,q3⟩:=aa _ _ _ _ r e q;exact .inr (.inl ⟨a,vs,_,v,e2,aT h2,l,e3,q3⟩)
  ·obtain⟨d,e,q⟩:=h;obtain⟨h1,h2⟩:=bL rs;unfold HP at h1;obtain⟨a,vs,e2,_,l,r⟩:=h1;obtain⟨v,e3,q3⟩:=aa _ _ _ _ r e q;exact .inl ⟨a,vs,_,v,e2,aT h2,Ht.of l,e3,q3⟩
  ·obtain⟨d,e,q⟩:=h;obtain⟨h1,h2⟩:=bL rs;unfold HP at h1;obtain⟨a,vs,e2,l,r⟩:=h1;obtain⟨v,e3,q3⟩:=aa _ _ _ _ r e q;exact .inl ⟨a,vs,_,v,e2,aT h2,l.seq,e3,q3⟩
  ·obtain⟨hz,c,e,q⟩:=h;obtain⟨h1,h2⟩:=bL rs;exact .inr (.inr ⟨_,_,c,bv h1,aT h2,e8 hz,e,k _ q _ H (bF.refl H) (HP.sc rfl)⟩)
def fCat:Zh->(D->Prop)->Prop
 | [.lst xs,.lst ys],R=>xs.length+ys.length<=9000/\R (.lst (xs++ys))
 | _,_=>False
theorem An:∀ {d0:Zh} {R:D->Prop},fCat d0 R->∃(xs:Zh) (ys:Zh),d0=[.lst xs,.lst ys]/\xs.length+ys.length<=9000/\R (.lst (xs++ys)):=by walk_at "or"
theorem F1:HC X (binaryOp .Add) λx y=>aQ X.K fCat [x,y] :=
 HC.imp D7 λx y H Q ⟨M,ds,R,m,rs,h,k⟩=>by
  replace h:=An h;obtain⟨_,_,rfl,h⟩:=h
  ·obtain⟨hz,q⟩:=h;obtain⟨h1,h2⟩:=bL rs;unfold HP at h1 h2;obtain⟨a,vs,e,_,l,r⟩:=h1;obtain⟨b,ws,e',_,l',r'⟩:=h2;refine⟨a,b,vs,ws,e,e',l,l',e8 (by rw[<- Reps.length _ _ r,<- Reps.length _ _ r'];exact hz),λp hp=>k _ q _ _ (aH hp _) ?_⟩;unfold HP;exact⟨p,vs++ws,rfl,λz=>m p z hp,aG,Reps.kp (Kp.of_same (aH hp _)) _ _ (Reps.append _ _ _ _ r r')⟩
def cut{α:Type}(xs:List α)(lo hi:Option Int):List α:=(xs.drop (HT.sIx xs.length 0 lo)).take (HT.sIx xs.length xs.length hi-HT.sIx xs.length 0 lo)
abbrev TDO:=En->(Option Int->En->Prop)->Prop
inductive UpO(K:PySem.W.Frag)(t:TDO)(σ:L2.St)(H:Hp)(Q:Option Int->Hp->Prop):Prop
 | mk (G:Gf) (δ:En) (P:List (D×V)) (R:Option Int->En->Prop) (s:S K G δ P σ H) (h:t δ R) (k:∀o δ',R o δ'->∀H',S K G δ' P σ H'->Q o H')
def upO(K:PySem.W.Frag)(t:TDO):TO:=UpO K t
def DO(X:Cx)(e:Option Expr)(t:TDO):Prop:=PO X e (upO X.K t)
def vd(δ:En)(R:Option Int->En->Prop):Prop:=R none δ
def Dl(t:HQ)(δ:En)(R:Option Int->En->Prop):Prop:=t δ (wd λx δ1=>qI x λi=>R (some i) δ1)
theorem PO.imp{e:Option Expr}{t t':TO}(h:PO X e t)(i:∀σ H Q,t' σ H Q->t σ H Q):PO X e t':=λpins s σ H Q I q=>h pins s σ H Q I (i σ H Q q)
theorem fG:DO X none vd:=PO.imp AD λσ H Q ⟨G,δ,P,R,s,h,k⟩=>k none δ h H s
theorem cU{e:Expr}{te:HQ}(h:DE X e te):DO X (some e) (Dl te):=PO.imp (Cz h) λσ H Q ⟨G,δ,P,R,s,h,k⟩=>up.mk s h λx δ1 h1 v H1 s1=>by
 replace h1:=qI.ex h1;obtain⟨i,e,r⟩:=h1;subst e;obtain⟨A,q⟩:=id s1;exact⟨i,aT (q.pnd (.int i,v) 'p'),k _ δ1 r H1 (s1.sub λp hp=>by simp[hp])⟩
def fSl:D->Option Int->Option Int->(D->Prop)->Prop
 | .lst xs,lo,hi,R=>R (.lst (cut xs lo hi))
 | .fz xs,lo,hi,R=>R (.lst (cut xs lo hi))
 | .tup xs,lo,hi,R=>¬ (HT.sIx xs.length 0 lo=0/\HT.sIx xs.length xs.length hi=xs.length)/\R (.tup (cut xs lo hi))
 | _,_,_,_=>False
def dSl(te:HQ)(tl th:TDO)(δ:En)(R:W->En->Prop):Prop:=te δ (wd λx δ1=>tl δ1 λl δ2=>th δ2 λu δ3=>fSl x l u λd=>R (.d d) δ3)
theorem Reps.cut{K:PySem.W.Frag}{M:Addr->Prop}{H:Hp}(lo hi:Option Int)(r:Reps K M H ds vs):Reps K M H (DL.cut ds lo hi) (uh vs lo hi):=by
 unfold DL.cut uh;rw[Reps.length _ _ r];exact Reps.take _ _ _ (Reps.drop _ _ _ r)
theorem fZ{e:Expr}{te:HQ}{lo hi:Option Expr}{tl th:TDO}{p2 pos:Pos}(he:DE X e te)(hl:DO X lo tl)(hu:DO X hi th):DE X (.Subscript e (.Slice lo hi none p2) pos) (dSl te tl th) :=
 PE.imp (yH (BI.or DN) he hl hu) λσ H Q ⟨G,δ,P,R,s,h,k,_⟩=>up.mk s h λx δ1 h1 v H1 s1=>⟨G,δ1,(x,v)::P,_,s1,h1,λl δ2 h2 H2 s2=>⟨G,δ2,(x,v)::P,_,s2,h2,λu δ3 h3 H3 s3=>by
  obtain⟨A,q⟩:=id s3;have r:=q.pnd (x,v) 'p'
  cases x with
  | lst xs =>
   have h3:R (.d (.lst (cut xs l u))) δ3:=h3
   simp only[HP] at r;obtain⟨a,vs,e,_,sq,r⟩:=r;refine .inl ⟨a,vs,e,Ht.of sq,λp hp=>?_⟩;have x2:=(q.same (aH hp (.lst (uh vs l u))));refine k _ δ3 h3 (.ref p) _ ⟨A,(x2.sub (P':=P) λp hp=>HV _ hp).push ?_⟩;unfold HP;exact⟨p,_,rfl,λz=>q.mem p z hp,aG,Reps.kp (Kp.of_same (aH hp _)) _ _ (Reps.cut l u r)⟩
  | fz xs =>
   have h3:R (.d (.lst (cut xs l u))) δ3:=h3
   simp only[HP] at r;obtain⟨a,vs,e,sq,r⟩:=r;refine .inl ⟨a,vs,e,sq.seq,λp hp=>?_⟩;have x2:=(q.same (aH hp (.lst (uh vs l u))));refine k _ δ3 h3 (.ref p) _ ⟨A,(x2.sub (P':=P) λp hp=>HV _ hp).push ?_⟩;unfold HP;exact⟨p,_,rfl,λz=>q.mem p z hp,aG,Reps.kp (Kp.of_same (aH hp _)) _ _ (Reps.cut l u r)⟩
  | tup xs =>
   have h3:¬ (HT.sIx xs.length 0 l=0/\HT.sIx xs.length xs.length u=xs.length)/\R (.d (.tup (cut xs l u))) δ3:=h3
   simp only[HP] at r;obtain⟨a,vs,e,sq,r⟩:=r;obtain⟨nf,h3⟩:=h3;refine .inr ⟨a,vs,e,sq,by rw[<- Reps.length _ _ r];exact nf,λp hp=>?_⟩;have x2:=(q.same (aH hp (.tup (uh vs l u))));refine k _ δ3 h3 (.ref p) _ ⟨A,(x2.sub (P':=P) λp hp=>HV _ hp).push ?_⟩;unfold HP;exact⟨p,_,rfl,Hv.of aG,Reps.kp (Kp.of_same (aH hp _)) _ _ (Reps.cut l u r)⟩
  | _=>exact(show False from h3).elim⟩⟩
end
end DL
namespace DL
open PySem PySem.Spec PyProof.Rows L2
variable {f:Zh→(D→Prop)→Prop} {k:Nat} {x:Str} {ps:Zb}
def ir(N:Zb)(ds:Zh):En:=ds.map Sl.dat++List.replicate (N.length-ds.length) Sl.no
theorem vB{K:PySem.W.Frag}{vs:Zf}{H:Hp}{Q:VK}{n:Nat}(h:aQ K f vs H Q)(len:∀ds R,f ds R->ds.length=n):vs.length=n:=by
 obtain⟨M,ds,R,m,rs,hf,k⟩:=h;rw[<- Reps.length _ _ rs];exact len ds R hf
theorem Av{K:PySem.W.Frag}{M:Addr->Prop}{ds:Zh}{vs:Zf}{H:Hp}(N:Zb)(m:∀b,M b->H b≠none)(rs:Reps K M H ds vs):S K ⟨M,H,λ_=>False⟩ (ir N ds) [] (L2.start N vs) H:=by
 have hl:=Reps.length _ _ rs
 refine⟨λ_=>False,λb o e _=>e,λb e=>e,m,λb h=>h.elim,λb h=>h.elim,λb h=>h.elim,?_,λi d e=>?_,λi a d e=>?_,λi j a d e h1 h2=>?_,λp hp=>(nomatch hp)⟩
 ·unfold ir L2.start;rw[Ij,Ij,HS,HS,IF,IF,hl]
 ·unfold ir at e;unfold L2.start
  by_cases hi:i<ds.length
  ·rw[List.getElem?_append_left (by rw[HS];exact hi),List.getElem?_map] at e
   cases hd:ds[i]? with
   | none=>rw[hd] at e;cases e
   | some d' =>
    rw[hd] at e
    cases e
    obtain⟨v,ev,rv⟩:=Reps.get _ _ rs i d hd;refine⟨v,?_,HP.more (λb z=>.inl (z.elim id λq=>q.elim)) _ _ rv⟩;rw[List.getElem?_append_left (by rw[HS];omega),List.getElem?_map,ev];rfl
  ·rw[List.getElem?_append_right (by rw[HS];omega),List.getElem?_replicate] at e
   split at e<;>cases e
 all_goals
  unfold ir at *;exfalso
 ·by_cases hi:i<ds.length
  ·rw[List.getElem?_append_left (by rw[HS];exact hi),List.getElem?_map] at e
   cases hd:ds[i]? with
   | none=>rw[hd] at e;cases e
   | some d'=>rw[hd] at e;cases e
  ·rw[List.getElem?_append_right (by rw[HS];omega),List.getElem?_replicate] at e
   split at e<;>cases e
 ·by_cases hi:i<ds.length
  ·rw[List.getElem?_append_left (by rw[HS];exact hi),List.getElem?_map] at h1
   cases hd:ds[i]? with
   | none=>rw[hd] at h1;cases h1
   | some d'=>rw[hd] at h1;cases h1
  ·rw[List.getElem?_append_right (by rw[HS];omega),List.getElem?_replicate] at h1
   split at h1<;>cases h1
structure Fd(K:PySem.W.Frag)(mg:Str->Zd)(x:Str)(st:Stmt)(ps:Zb):Prop where
 ex:∃(a:Addr) (fd:FuncData),Fun K x x st a fd/\mU K fd ps []/\mg x=some (.ref a)
structure Cal(P:Program)(w:World)(K:PySem.W.Frag)(mg:Str->Zd)(base:Heap)(k:Nat)(x:Str)(ps:Zb)(sp:Sp):Prop where
 ex:∃(a:Addr) (fd:FuncData),ml P w K mg base CX0 k a fd ps sp/\mU K fd ps []/\PySem.W.keepIn K (.ref a)=true/\mg x=some (.ref a)
section
variable {P:Program} {w:World} {K:PySem.W.Frag} {mg:Str→Zd} {base:Heap}
theorem Cal.mono{j:Nat}{sp:Sp}(C:Cal P w K mg base j x ps sp)(h:j<=k):Cal P w K mg base k x ps sp:=by
 obtain⟨a,fd,F,b,kp,m⟩:=C.ex;exact⟨a,fd,F.mono h,b,kp,m⟩
theorem D6{st:Stmt}{N:Zb}{a:Addr}{fd:FuncData}(Fu:Fun K x x st a fd)(Sc:ax N ps (aq st))(len:∀ds R,f ds R->ds.length=ps.length)
    (hbody:∀(cdv:Value) (A:Around) (outer:List Env) (s:Shared) (H:Hp) (E:XK) (ds:Zh) (R:D->Prop),gG k (A.deeper (envOfC x (aq st) s.heap.objs.size a cdv))->f ds R ->
      ∃t,DSs (wX CX0 P w K mg base N x (aq st) a cdv A outer s H E).nox (bP st) t/\t { nx:=λ_=>R .non,rt:=λd _=>R d,ro:=R } (ir N ds)) :
    ml P w K mg base CX0 (k+1) a fd ps (HN K f):=by
  refine Fu.ok Sc (λvs H Q E h=>vB h len) (λcdv A outer s H vs Q E hr h=>?_);obtain⟨M,ds,R,hm,rs,hf,hk⟩:=h;obtain⟨t,ht,hq⟩:=hbody cdv A outer s H E ds R hr hf;refine⟨_,ht,⟨M,H,λ_=>False⟩,ir N ds,[],_,Av N hm rs,hq,λδ' r σ' H' ⟨A',x⟩=>?_,⟨λd δ' r v σ' H' ⟨A',x⟩=>?_,λd r a H' ⟨o1,o2,o3,o4⟩=>hk d r (.ref a) H' (λb o e=>o1 b o e id) (o4.rep o3 λb z=>.inl z),λ_ _ _ z=>z.elim⟩,λ_ h=>h.elim,λ_ h=>h.elim,λz=>z.elim⟩
  · exact hk .non r .non H' (λb o e=>x.old b o e id) (by unfold HP;rfl)
  · exact hk d r v H' (λb o e=>x.old b o e id) (HP.more (λb z=>.inl (.inl z)) _ _ (x.pnd (d,v) 'p'))
theorem cy{st:Stmt}{N:Zb}(F:Fd K mg x st ps)(Sc:ax N ps (aq st))(len:∀ds R,f ds R->ds.length=ps.length)
    (hbody:∀(a:Addr) (cdv:Value) (A:Around) (outer:List Env) (s:Shared) (H:Hp) (E:XK) (ds:Zh) (R:D->Prop),gG k (A.deeper (envOfC x (aq st) s.heap.objs.size a cdv))->f ds R ->
      ∃t,DSs (wX CX0 P w K mg base N x (aq st) a cdv A outer s H E).nox (bP st) t/\t { nx:=λ_=>R .non,rt:=λd _=>R d,ro:=R } (ir N ds)) :
    Cal P w K mg base (k+1) x ps (HN K f):=by
  obtain⟨a,fd,Fu,b,m⟩:=F.ex;exact⟨a,fd,D6 Fu Sc len (hbody a),b,Fu.kp,m⟩
theorem au{X:Cx}{a:Expr}{es:List Expr}{t:HK}{p pos:Pos}(C:Cal X.prog X.w X.K X.mg X.base k x ps (HN X.K f))(hr:gG k X.A)(hg:Gl X x)(ha:DA X (a::es) t)
  (hdb:(x==("__debug__":Str))=false:=by decide) (he:starEach (a::es) X.env=(false,eval a X.env)::starEach es X.env:=by rfl) (hpl:(backTo pos (starEach es X.env)).any (·.1)=false:=by rfl) :
  DE X (.Call (.Name x p) (a::es) [] pos) (tq f t):=by
 obtain⟨g,fd,F,b,kp,m⟩:=C.ex;exact BZ F hr hg m kp b ha hdb he hpl
def AG(K:PySem.W.Frag):Sp:=λvs H Q _=>∃(a:Addr) (ns:Ze),vs=[.ref a]/\Ht K H a (ns.map V.int)/\Only H/\ns.length<=63/\(∀n∈ns,Builtin.Int.intBits n<=1048576)/\∀H',Q (.bl true) H'
def fLaw:Zh->(D->Prop)->Prop:=λds R=>∃ns:Ze,ds=[.fz (ns.map D.int)]/\ns.length<=63/\(∀n∈ns,Builtin.Int.intBits n<=1048576)/\R (.bl true)
theorem C0{a:Addr}{fd:FuncData}(F:ml P w K mg base CX0 k a fd ps (HN K fLaw)):ml P w K mg base CX0 k a fd ps (AG K) :=
 F.imp λvs H Q E ⟨l,ns,e,sq,on,h63,hb,q⟩=>by
  subst e;refine⟨λ_=>False,[.fz (ns.map D.int)],λd=>d=.bl true,λ_ h=>h.elim,Reps.one ?_,⟨ns,rfl,h63,hb,rfl⟩,λd e v H' _ r=>?_⟩
  ·unfold HP;refine⟨l,ns.map V.int,rfl,?_,Reps.ints ns⟩
   rcases sq with(h | ⟨o,h⟩) | h
   ·rcases on l with z | ⟨o,xs,z⟩
    ·rw[z] at h;cases h
    ·rw[z] at h;cases h
   ·exact .inl ⟨o,h⟩
   ·exact .inr (.inr h)
  ·subst e;rw[iw r];exact q H'
end
end DL
namespace DLH
open PySem PySem.W PySem.Calls PyProof.Rows
theorem jG{ns:Ze}(h:WData.layableAll [.list (ns.map .int)]=true):∀n∈ns,Builtin.Int.intBits n<=1048576:=λn hn=>by
 have h1:=layableW_arg h _ (Ii.mpr rfl)
 have h2:=layableW_item h1 (.int n) (HW.mpr ⟨n,hn,rfl⟩)
 have h3:=(layableW_iff.mp h2).2.2
 simpa only[WData.weight,Builtin.Int.intBits] using h3
theorem attach_callB{l:OpenLaw}{n:Nat}{q:Program}{loose:Zb}{XP:(Str->Zd)->Heap->Prop}{YP:World->Heap->Prop}{d:DefRec}
    (hn:l.most=some n) (hdf:d.params.defaults=[])
    (call:∀(w:World) (s₀ s₁:Shared) (mg mb:Str->Zd) (fa:Addr) (o:Obj) (pm cd doc:Value) (a:Addr) (vs:Zc) (ns:Ze),
      Ground q loose [] XP w s₀ mg mb s₁.heap->YP w s₁.heap ->
      s₁.heap.get? fa=some o->o.data=.func (docDef d.name d.params d.body d.scope pm cd doc)->s₁.heap.CodeRec cd d.name->mg d.name=some (.ref fa) ->
      s₁.heap.get? a=some { cls:=.type "list",data:=.seq vs.toArray }->IntsAre vs ns->ns.length<=n->(∀i∈ns,Builtin.Int.intBits i<=1048576)->s₁.gens=#[] ->
      codeAny (model l.prog w) callerA (.call (.ref fa) ⟨[.ref a],[]⟩) (λr s'=>r=.ok (.ret (.bool true))/\OldK s₁.heap s'.heap/\s'.os=s₁.os/\AllBare s'.gens) s₁) :
    WalkO q loose XP YP l.row.toRowW d [] (λf vs=>PySem.call f vs):=by
  intro w s₀ s₁ mg mb G Y fa o pm cd doc dV kV ho hd aj hD al hg args ao as ab ag a0 an az;obtain rfl:dV=.none:=Dflts.none hD hdf;obtain rfl:kV=.none:=Dflts.noKw hD;obtain⟨a,vs,ns,rfl,rfl,ah,aa,ai⟩:=Att.script_of hn ab an;refine enter_call (KI (call w s₀ s₁ mg mb fa o pm cd doc a vs ns G Y ho (fd_plain hd) aj al ah aa ai (jG ag) hg) λr s' hq=>?_);obtain⟨rfl,h2,h3,h4⟩:=hq;exact⟨.inl ⟨.bool true,.bool true,[],rfl,λ_=>rfl,.bool true,Att.post_true l _,λ_=>⟨List.Pairwise.nil,λ_ hm=>(nomatch hm)⟩⟩,h2,h3,h4⟩
end DLH
namespace DL
open PySem PySem.Spec PyProof.Rows L2
theorem walkB{l:PySem.W.OpenLaw}{k:Nat}{q:Program}{loose:Zb}{XP:(Str->Zd)->Heap->Prop}{YP:World->Heap->Prop}{d:DefRec}{K:Params->PySem.W.Frag}{x:Str}
    (hn:l.most=some 63) (hdf:d.params.defaults=[]) (hr:gG k PySem.callerA) (hY:∀(w:World) (h:Heap),YP w h->(K w.params).In h)
    (F:∀(w:World) (mg:Str->Zd) (fa:Addr) (h:Heap),(K w.params).In h->h.Ns mainGlobals mg->mg d.name=some (.ref fa) ->
      ∃fd:FuncData,(∀(s:Shared) (u:Value),BindsTo s fd ⟨[u],[]⟩ [(x,u)])/\∀base:Heap,(K w.params).In base->base.Ns mainGlobals mg->ml l.prog w (K w.params) mg base CX0 k fa fd [x] (AG (K w.params))) :
    PySem.W.WalkO q loose XP YP l.row.toRowW d [] (λf vs=>PySem.call f vs):=by
  refine DLH.attach_callB hn hdf λw s₀ s₁ mg mb fa o pm cd doc a vs ns G Y ho hd hcd hmg hobj hints hlen hbits hg=>?_;have KX:=hY w _ Y;obtain⟨fd,hb,hF⟩:=F w mg fa _ KX G.T.g hmg;exact yg KX G.T.g G.T.b G.T.builtins G.T.nolimit hg hobj hints (HX hlen 'd') hr hF hb (λH hO hS=>⟨a,ns,rfl,hS,hO,hlen,hbits,λ_=>rfl⟩) λH e s' z=>z
end DL
namespace DL
open PySem PySem.Spec PyProof.Rows L2
variable {X:Cx} {elt iter:Expr} {ifs:List Expr} {scope:Scope} {pos:Pos} {cl:List (Str×Addr)} {wi:TI} {g:TG} {tc:TT} {te:TE}
def v5(ifs:List Expr)(env:Env):Sem Bool:=forIn ifs true λc r=>if r=true then do let ok<-isTrue c env (eval c env);pure (ForInStep.yield ok) else pure (ForInStep.yield r)
def PF(X:Cx)(ifs:List Expr)(t:TT):Prop :=
 ∀(pins:List (Addr×Obj)) (s:Shared) (σ:L2.St) (H:Hp) (Q:Bool->Hp->Prop),Inv X pins σ H s->t σ H Q->wpAny 'k' X.A (v5 ifs X.env) (TP X pins σ Q) X.xe s
theorem E5:PF X [] (λ_ H Q=>Q true H):=λ_ _ _ H _ I h=>wpAny_tests_nil ⟨H,I,h⟩
theorem Ey{c:Expr}{t:TT}(h:PT X c t):PF X [c] t:=λpins s σ H Q I q=>wpAny_tests_one (h pins s σ H Q I q)
theorem eT{prog:Program}{w:World}{A:Around}{R:Result->Shared->Prop}{s:Shared}{target:Expr}{it acc:Value}{env:Env}(I:Nat->Shared->Prop)
    (turn:∀n s,I n s->wpAny 'q' A (pyNext it) (λr s₁=>match r with
      | none=>R (.ok .next) s₁
      | some v=>wpAny 'q' A (letOwnedTupleGo target it v) (λ_ s₁'=>wpAny 'q' A (assign target env v) (λ_ s₂ =>
          wpAny 'q' A (v5 ifs env) (λok s₃ =>
            if ok=true then wpAny 'q' A (eval elt env) (λx s₄ =>
              wpAny 'q' A (call (.builtin "list.append") [acc,x]) (λ_ s₅=>∃m,m<n/\I m s₅) (λ_ _=>False) s₄) (λ_ _=>False) s₃
            else ∃m,m<n/\I m s₃) (λ_ _=>False) s₂) (λ_ _=>False) s₁') (λ_ _=>False) s₁) (λ_ _=>False) s)
    (n:Nat) (h:I n s) :
    codeAny 'q' A (.compLoop (.ListComp elt [⟨target,iter,ifs,0⟩] scope pos) 0 it acc env) R s:=by
  refine codeAny_loop rfl I (λn s hI=>?_) n h;show wpAny _ A ((compTurn (.ListComp elt [⟨target,iter,ifs,0⟩] scope pos) 0 it acc env).onRaise (λx=>do noteFrame x env;theTreesLotGoes x)) _ _ s;refine wpAny_noted ?_;rw[compTurn_list];refine HU (wpAny_standAt (HU (JA (turn n s hI) (λr s₁ h₁=>?_) λ_ _ h'=>h'.elim)))
  cases r with
  | none=>exact HZ h₁
  | some v =>
    refine HU (JA h₁ (λ_ s₁' h₁'=>?_) λ_ _ h'=>h'.elim);refine HU (JA h₁' (λ_ s₂ h₂=>HU (JA h₂ (λok s₃ h₃=>?_) λ_ _ h'=>h'.elim)) λ_ _ h'=>h'.elim)
    cases ok with
    | false=>exact HZ ⟨rfl,h₃⟩
    | true =>
      exact HU (HU (JA h₃ (λx s₄ h₄=>HU (JA h₄ (λ_ s₅ h₅=>HZ (HZ ⟨rfl,h₅⟩)) λ_ _ h'=>h'.elim)) λ_ _ h'=>h'.elim))
theorem mF:∀ {names:List (Str×NameKind)} {n:Nat} {acc:List (Str×Addr)},cellsFrom n names acc=cellsFrom n names []++acc
 | [],_,_=>rfl
 | (x,k)::r,n,acc=>by
  unfold cellsFrom
  by_cases h:(k==NameKind.cell)=true
  ·rw[Ir h,Ir h,mF (names:=r) (acc:=(x,n)::acc),mF (names:=r) (acc:=[(x,n)]),J9];rfl
  ·rw[Io h,Io h];exact mF
theorem p9{x:Str}{c:Addr}:∀ {names:List (Str×NameKind)} {n:Nat} {acc:List (Str×Addr)},(x,c)∈cellsFrom n names acc->(x,c)∈acc\/(x,NameKind.cell)∈names
 | [],_,_,h=>.inl h
 | (y,k)::r,n,acc,h=>by
  unfold cellsFrom at h
  by_cases hk:(k==NameKind.cell)=true
  ·rw[Ir hk] at h
   rcases p9 h with z | z
   ·rcases Ih.mp z with e | e
    ·cases e;rw[eq_of_beq hk];exact .inr (HY ..)
    ·exact .inl e
   ·exact .inr (HV _ z)
  ·rw[Io hk] at h;exact(p9 h).imp id (HV _)
theorem xR{M:Model}{A:Around}{E:Value->Shared->Prop}{s:Shared}{globals:Addr}{qual:Str}{func:Option Addr}{code:Value}{outer:Env}{bs:Addr}{Q:Env->Shared->Prop}
    (q:∀h',h'.Ns s.heap.objs.size (λ_=>none)->(∀b o,s.heap.get? b=some o->h'.get? b=some o)->(∀x c,(x,c)∈cellsFrom (s.heap.objs.size+1) scope.names []->h'.IsCell c none/\s.heap.objs.size+1<=c)->((cellsFrom (s.heap.objs.size+1) scope.names []).Pairwise λx y=>x.2≠y.2) ->
      Q (newEnv scope s.heap.objs.size globals (cellsFrom (s.heap.objs.size+1) scope.names []++cl) qual func code (some outer) bs) { s with heap:=h' }):wpAny M A (newFunctionEnv scope globals cl [] qual func code (some outer) bs) Q E s:=by
  unfold newFunctionEnv;refine HU (wpAny_alloc (HU (wpAny_layCells _ (λname kind cells=>by cases hkc:kind==NameKind.cell<;>simp[hkc]) _ _ _ _ ?_)))
  have ok:=cellsFrom_ok scope.names (s.heap.push { cls:=.type "dict",data:=.dict #[] }) (s.heap.objs.size+1) [] ⟨λ_ _ hm=>(nomatch hm),List.Pairwise.nil⟩ (by rw[Jc];exact Ib _)
  rw[Jc] at ok;rw[show ({ s with heap:=s.heap.push { cls:=.type (if (some outer).isSome=true then "dict" else "frame"),data:=.dict #[] } }:Shared).heap.objs.size=s.heap.objs.size+1 from Jc ..,mF];exact HU (HZ (HZ (q _ ((Heap.Ns.new s.heap (.type "dict")).keeps (pushCells_keeps _ _)) (λb o e=>pushCells_keeps _ _ b o (Heap.get?_push_of_some _ e)) (λx c h=>ok.empty x c h) ok.apart)))
def cW(X:Cx)(N':Zb)(scope:Scope)(cl:List (Str×Addr))(s2:Shared)(H2:Hp)(C:Addr)(fp:List Addr)(pn:List (Addr×Obj)):Cx where
 prog:=X.prog
 w:=X.w
 K:=X.K
 mg:=X.mg
 base:=X.base
 A:=X.A
 N:=N'
 s₀:=s2
 H₀:=H2
 env:=compEnvC scope (cellsFrom (C+1) scope.names []++cl) C X.env
 outer:=X.stack
 stack:=X.stack
 ex:=fp
 fn:=λx=>scope.names.lookup x==some .cell
 calm:=X.calm
 pn:=pn
 xe:=λ_ _=>False
def wT(nt:Nat)(caps:List (Nat×Str))(σ:L2.St):L2.St:=List.replicate nt none++caps.map λp=>(σ[p.1]?).join
def BT(wi:TI)(nt:Nat)(caps:List (Nat×Str))(g:TG)(tc:TT)(te:TE):TE:=λσ H Q=>wi σ H λJ H1=>∀p,H1 p=none ->
 ∃W:Nat->Nat->Zf->L2.St->Hp->Prop,(∃m,W 0 m [] (wT nt caps σ) (HL H1 p (.lst [])))/\∀i m xs σ' H',W i m xs σ' H'->(J.stop i H'/\Q (.ref p) H')\/(J.go i H'/\∀x H2,J.yld i H' x H2 ->
  g x σ' H2 λσ2 H3=>tc σ2 H3 λb H4=>if b=true then te σ2 H4 λy H5=>H5 p=some (.lst xs)/\xs.length<sizeLine/\∃m',m'<m/\W (i+1) m' (xs++[y]) σ2 (HL H5 p (.lst (xs++[y]))) else ∃m',m'<m/\W (i+1) m' xs σ2 H4)
theorem rO{tgt:Expr}(tn:Zb)(caps:List (Nat×Str))
    (hcalm:X.calm=true) (hclos:closureFor scope X.env=pure cl) (hcell:∀p∈caps,(p.2,NameKind.cell)∉scope.names) (hkind:scope.kind=.function) (hnames:∀y∈scope.names,y.2=.local->scope.names.lookup y.1=some .local)
    (hcl:∀x c,cl.lookup x=some c->X.env.cells.lookup x=some c) (hhas:∀(n:Nat) x,'v'->∃c,(cellsFrom n scope.names []++cl).lookup x=some c)
    (hcap:∀p∈caps,X.N[p.1]?=some p.2/\X.env.scope.names.lookup p.2=some .cell/\'u')
    (hi:PI X.nox tgt iter wi)
    (hb:∀s2 H2 C fp pn,PG 'h' tgt g/\PF 'h' ifs tc/\PE 'h' elt te)
    (hs:∀x,foldedSetIterable iter X.env x=pure x:=by intro _;rfl)
    {posF:Pos} {use:Option (Value->Sem Unit)} {Qf:Value->Shared->Prop} (pins:List (Addr×Obj)) (s:Shared) (σ:L2.St) (H:Hp) (Q:VK) (I:Inv X.nox pins σ H s) (h:BT wi tn.length caps g tc te σ H Q)
    (fin:∀p C m4 H3 s4,Inv X.nox pins σ H3 s4->s4.heap.Ns C m4->xa X.nox pins H3 C->Q (.ref p) H3->compPost 'k' X.A (λ_ _=>False) use Qf (.ref p) C (.ok .next) s4) :
    wpAny 'k' X.A (comprehension (.ListComp elt [⟨tgt,iter,ifs,0⟩] scope pos) scope X.env posF (newList []) false (eval iter X.env) use) Qf (λ_ _=>False) s:=by
  refine wpAny_comprehension_free (use:=use) rfl hs hclos hkind hnames (JA (hi pins s σ H _ I h) (λx s₁ h₁=>JA h₁ (λitv s₂ h₂=>?_) λ_ _ e=>e) λ_ _ e=>e);obtain⟨it,fp,bi,J,H1,rfl,I1,T,st,ag,q⟩:=h₂;refine Jf (xR λh₁ hns₁ hkp hcs hap=>?_)
  dsimp only at hns₁ hkp hcs hap ⊢
  generalize hH2:s₂.heap.push { cls:=.type "list",dict:=none,data:=.seq ([]:Zc).toArray }=Hq at hns₁ hkp hcs hap ⊢
  have hC:Hq.objs.size=s₂.heap.objs.size+1:=by rw[<- hH2,Jc]
  generalize hCe:Hq.objs.size=C at hns₁ hcs hap hC ⊢
  generalize hpe:s₂.heap.objs.size=p at hC ⊢
  obtain⟨m1,hns₁⟩:∃m,h₁.Ns C m:=⟨_,hns₁⟩;have ct:p≠C:=II (by rw[hC];exact Kg _);have an:∀b,b<s₂.heap.objs.size->b≠C/\b≠p:=λb hb=>⟨II (by rw[hC,<- hpe];exact JJ hb),II (by rw[<- hpe];exact hb)⟩;have az:s₂.heap.objs.size<=p:=Nat.le_of_eq hpe;have ab:s₂.heap.objs.size<=C:=by rw[hC,<- hpe];exact La _
  have al:∀b o,s₂.heap.get? b=some o->h₁.get? b=some o:=λb o e=>hkp b o (hH2 ▸ Heap.get?_push_of_some _ e)
  have b6:h₁.get? p=some { cls:=.type "list",data:=.seq ([]:Zc).toArray 0 }:=by
    refine hkp p _ ?_;rw[<- hpe];exact hH2 ▸ Heap.get?_push_size _ rfl
  generalize hown:cellsFrom (C+1) scope.names []=own at hcs hap ⊢
  have look:∀x c,(own++cl).lookup x=some c->(x,c)∈own\/cl.lookup x=some c:=λx c e=>by
    rw[List.lookup_append] at e
    cases z:own.lookup x with
    | some d=>rw[z] at e;cases e;exact .inl (mem_of_lookup z)
    | none=>rw[z] at e;exact .inr e
  have b7:∀pr∈caps,own.lookup pr.2=none:=λpr hp=>by
    cases z:own.lookup pr.2 with
    | none=>rfl
    | some d =>
      rcases p9 (hown ▸ mem_of_lookup z) with e | e
      · cases e
      · exact absurd e (hcell pr hp)
  have ao:∀x c,(x,c)∈own->C<c:=λx c e=>(hcs x c e).2
  have bb:H1 p=none:=I1.hok.fresh az
  have as:H1 C=none:=I1.hok.fresh ab
  obtain⟨W,⟨m0,w0⟩,b2⟩:=q p bb;have bo:∃X',X'=cW X (tn++caps.map (·.2)) scope cl s₂ H1 C fp (X.pn++pins):=⟨_,rfl⟩;obtain⟨X',aa⟩:=bo;have bc:∀b∈frs X.stack,b=X.env.locals\/b∈X.fs:=λb hb=>Ih.mp (I1.stkSub b hb);have aj:∀b∈fp,b<s₂.heap.objs.size:=λb hb=>let ⟨_,e,_⟩:=T.obj _ _ st b hb;Iw e;have bd:∀b∈fp,b∉frs X.stack:=λb hb z=>(bc b z).elim (λe=>(ag b hb).2.1 e) λe=>(ag b hb).2.2.1 e;have ai:∀x c,cl.lookup x=some c->c<s₂.heap.objs.size/\H1 c=none:=λx c e=>by
    obtain⟨v,hv⟩:=I1.cell x c (hcl x c e);exact⟨hv.lt,I1.freeC x c (hcl x c e)⟩
  have ah:∀x c,(x,c)∈own->∀b,b<s₂.heap.objs.size->c≠b:=λx c e b hb z=>absurd (IM hb ab) (Nat.not_lt.mpr (JG (by rw[<- z];exact ao x c e)))
  have ok:X'.Ok:=by
    subst aa;have o:=I1.ok
    exact { mod:=o.mod
            kind:=by show (relabel scope X.env).kind=.function;exact hkind
            glob:=o.glob
            blt:=o.blt
            above:=ab
            inj:=λx y c h1 h2=>by
              replace h1:=look x c (hown ▸ h1);replace h2:=look y c (hown ▸ h2)
              rcases h1 with h1 | h1<;>rcases h2 with h2 | h2
              · exact name_of_addr hap h1 h2
              · exact absurd rfl (ah x c h1 c (ai y c h2).1)
              · exact absurd rfl (ah y c h2 c (ai x c h1).1)
              · exact o.inj x y c (hcl x c h1) (hcl y c h2)
            has:=λx hx=>hhas _ x hx
            cab:=λx c h1 h2=>by
              obtain⟨d,hd⟩:=ls (sc:=scope) (n:=C+1) (eq_of_beq h1);have h2:(cellsFrom (C+1) scope.names []++cl).lookup x=some c:=h2;rw[List.lookup_append,hd] at h2
              cases h2
              exact HX ab (JG (ao x _ (hown ▸ mem_of_lookup hd)))
            hd:=o.hd
            frames:=o.frames
            stk:=.inl rfl
            exf:=λb hb=>⟨(an b (aj b hb)).1,λx c e=>(look x c (hown ▸ e)).elim (λz=>ah x c z b (aj b hb)) λz=>(ag b hb).2.2.2.2.1 x c (hcl x c z)⟩
            bs:=λb ob e=>I1.bs b ob e
            bsz:=HX o.bsz I1.sz
            noex:=λb ob e hb=>by
              obtain⟨_,_,_,hh,_⟩:=ag b hb
              rcases hh with hh | hh
              · exact o.noex b ob e hh
              · exact absurd (Iw (I1.ok.bs b ob e).1) (Nat.not_lt.mpr hh)
            exfs:=bd
            funs:=I1.stack
            frf:=I1.stkFree }
  have bl:∀(m:Str->Zd) (i:Nat) (x:Str) (v:V),X'.N[i]?=some x->(wT tn.length caps σ)[i]?=some (some v)->Vis X'.env.scope x->∃u,bE v u/\Look X'.env h₁ m x u:=by
    subst aa;intro m i x v hN hσ hv;have hN:(tn++caps.map (·.2))[i]?=some x:=hN;unfold wT at hσ
    by_cases hi:i<tn.length
    · rw[List.getElem?_append_left (by rw[IF];exact hi),List.getElem?_replicate,Ir hi] at hσ
      cases hσ
    · rw[List.getElem?_append_right (by rw[IF];omega),IF] at hσ;rw[List.getElem?_append_right 'b'] at hN;rw[List.getElem?_map] at hσ hN
      cases hc:caps[i-tn.length]? with
      | none=>rw[hc] at hN;cases hN
      | some pr =>
        rw[hc] at hN hσ;have hN:pr.2=x:=Iq hN;have hσ:(σ[pr.1]?).join=some v:=Iq hσ;obtain⟨c1,c2,c3⟩:=hcap pr (Im hc);subst hN;have cd:σ[pr.1]?=some (some v):=by
          cases z:σ[pr.1]? with
          | none=>rw[z] at hσ;cases hσ
          | some o=>rw[z] at hσ;exact JK some hσ
        obtain⟨m1,cz,co⟩:=I1.loc;obtain⟨u,ru,lk⟩:=co pr.1 pr.2 v c1 cd (.inr (.inl c2));refine⟨u,ru,.inr ⟨c3,?_⟩⟩
        rcases lk with⟨k,_⟩ | ⟨_,c,ec,ic⟩
        · have k:X.env.scope.names.lookup pr.2=some .local :=k
          rw[c2] at k
          cases k
        · obtain⟨c',bp⟩:=hhas (C+1) pr.2 c3;have b1:=bp;rw[hown,List.lookup_append,b7 pr (Im hc)] at b1;have e1:=hcl _ _ b1;have ec:X.env.cells.lookup pr.2=some c:=ec;rw[ec] at e1
          cases e1
          exact⟨c,bp,ic.keeps al⟩
  have cp:Un (frs X.stack) fp H1 (HL H1 p (.lst [])) s₂.heap h₁:=Un.laid al az bb
  have I4:∀tk,Inv X' [] (wT tn.length caps σ) (HL H1 p (.lst [])) { s₂ with heap:=h₁,toks:=tk }:=λtk=>by
    have hN:X'.N=tn++caps.map (·.2):=by rw[aa];rfl
    refine⟨ok,?_,I1.bare,?_,⟨m1,?_,λi x v e1 e2 e3=>?_⟩,λx c e=>?_,?_,λx c e=>?_,λpr hp=>?_,?_,?_⟩
    · rw[aa];rfl
    · rw[aa];exact cp
    · rw[aa];exact hns₁
    · exact bl _ i x v e1 e2 e3
    · rw[aa] at e
      rcases look x c (hown ▸ e) with e | e
      · exact⟨_,(hcs x c e).1⟩
      · obtain⟨v,hv⟩:=I1.cell x c (hcl x c e);exact⟨v,hv.keeps al⟩
    · rw[aa];show HL H1 p (.lst []) C=none;rw[aJ (Kz ct)];exact as
    · rw[aa] at e;show HL H1 p (.lst []) c=none
      rcases look x c (hown ▸ e) with e | e
      · have:=ao x c e
        rw[aJ (λz=>Je p (Nat.lt_trans (hC ▸ Kg p) (z ▸ this)))];exact I1.hok.fresh (HX ab (JG this))
      · have hc:=ai x c e
        rw[aJ (an c hc.1).2];exact hc.2
    · rw[aa] at hp;have hp:pr∈(X.pn++pins)++[]:=hp;rw[IZ] at hp;obtain⟨e,n,nl,nf,d⟩:=I1.pin pr hp;have b0:=Iw e;refine⟨al _ _ e,?_,?_,λz=>?_,d⟩
      · rw[aJ (an _ b0).2];exact n
      · rw[aa];exact(an _ b0).1
      · rw[aa] at z;exact(bc _ z).elim nl nf
    · have e1:X'.prog=X.prog:=by rw[aa];rfl
      have e2:X'.w=X.w:=by rw[aa];rfl
      rw[e1,e2];exact I1.hok.laid al az ⟨Jq _,[],0,.nil,b6⟩
    · rw[hN];unfold wT;rw[Ij,Ij,IF,HS,HS]
  have bj:∀H',(∀b∈fp,H' b=none)->∀b∈fp,xa X' [] H' b:=λH' hn b hb=>by
    rw[aa];refine⟨hn b hb,(an b (aj b hb)).1,bd b hb,.inl hb,λx c e=>(look x c (hown ▸ e)).elim (λz=>ah x c z b (aj b hb)) λz=>(ag b hb).2.2.2.2.1 x c (hcl x c z),λpr hp=>?_⟩;have hp:pr∈(X.pn++pins)++[]:=hp;rw[IZ] at hp;exact(ag b hb).2.2.2.2.2 pr hp
  obtain⟨hg,hf,he⟩:=hb s₂ H1 C fp (X.pn++pins);rw[<- aa] at hg hf he;have p1:X'.prog=X.prog:=by rw[aa];rfl
  have p2:X'.w=X.w:=by rw[aa];rfl
  have p3:X'.K=X.K:=by rw[aa];rfl
  have p4:X'.calm=true:=by rw[aa];exact hcalm
  have p5:X'.env=compEnvC scope (own++cl) C X.env:=by rw[aa,<- hown];rfl
  have p6:X'.A=X.A:=by rw[aa];rfl
  have p7:X'.xe=λ_ _=>False:=by rw[aa];rfl
  have bz:bi 0 h₁:=T.keep _ _ _ st λb hb o e=>al b o e
  have b5:∀tk,codeAny 'k' X.A (.compLoop (.ListComp elt [⟨tgt,iter,ifs,0⟩] scope pos) 0 (.ref it) (.ref p) (compEnvC scope (own++cl) C X.env))
      (compPost 'k' X.A (λ_ _=>False) use Qf (.ref p) C) { s₂ with heap:=h₁,toks:=tk }:=λtk=>by
    refine eT (λn s'=>∃i xs σ' H',Inv X' [] σ' H' s'/\bi i s'.heap/\(∀b∈fp,H' b=none)/\W i n xs σ' H') ?_ m0 ⟨0,[],_,_,I4 tk,bz,λb hb=>?_,w0⟩
    · rintro n s3 ⟨i,xs,σ3,H3,I3,st3,fr3,w3⟩
      rcases b2 i n xs σ3 H3 w3 with⟨b3,qn⟩ | ⟨go,step⟩
      · have q1:=T.done X' p1 p2 p3 p4 i [] s3 _ H3 (λ_ _=>False) I3 (bj H3 fr3) st3 b3
        rw[p6] at q1;refine Hm q1 λr s4 ⟨hr,I4'⟩=>?_;subst hr;obtain⟨m4,bw,_⟩:=I4'.loc;rw[p5] at bw;have a4:=I4'.base;rw[aa] at a4;have a4:Un (frs X.stack) fp H1 H3 s₂.heap s4.heap:=a4;have cr:H3 C=none:=by
          have z:=I4'.free
          rw[p5] at z;exact z
        have b4:HH X.prog X.w H3 s4.heap:=by
          have hk:=I4'.hok
          rw[p1,p2] at hk;exact hk
        have cn:s4.os=s₂.os:=by
          have z:=I4'.os
          rw[aa] at z;exact z
        have I9:=I1.call' (s':=s4) (ch:=fp) cn a4 b4 I4'.bare (λb hb=>by
          obtain⟨_,f1,f2,f3,f4,f5⟩:=ag b hb
          exact⟨f3,f1,f4,f5⟩)
        exact fin p C m4 H3 s4 I9 bw ⟨cr,(I1.fpOk ab as).2⟩ qn
      · have q1:=T.item X' p1 p2 p3 p4 i [] s3 _ H3 (λ_ _=>False) I3 (bj H3 fr3) st3 go
        rw[p6] at q1;refine Hm q1 λr s4 ⟨u,hr,h4⟩=>?_;subst hr;refine Hm h4 λ_ s5 ⟨x,H5,I5,r5,y5,st5,fr5⟩=>?_;have cg:=I5.pinned (bj H5 fr5) (T.obj _ _ st5);have q5:=hg _ s5 _ H5 x u _ cg r5 (step x H5 y5);rw[p1,p2,p5,p6,p7] at q5;refine Hm q5 λ_ s6 ⟨σ6,H6,I6,q6⟩=>?_;have q6:=hf _ s6 σ6 H6 _ I6 q6;rw[p1,p2,p5,p6,p7] at q6;refine Hm q6 λb s7 ⟨H7,I7,q7⟩=>?_;have a0:∀ {s8:Shared} {H8:Hp},Inv X' ([]++mG fp s5.heap) σ6 H8 s8->Inv X' [] σ6 H8 s8/\bi (i+1) s8.heap/\(∀b∈fp,H8 b=none):=λ{s8 H8} I8=>by
          refine⟨I8.unpinned,T.keep _ _ _ st5 λb hb o e=>(I8.pin (b,o) (Ig _ (Ig _ (eL hb e)))).1,λb hb=>?_⟩;obtain⟨o,e,d⟩:=T.obj _ _ st5 b hb;exact(I8.pin (b,o) (Ig _ (Ig _ (eL hb e)))).2.1
        cases b with
        | false =>
          obtain⟨m',hm,w7⟩:=q7;obtain⟨a1,a2,a3⟩:=a0 I7;exact⟨m',hm,i+1,xs,σ6,H7,a1,a2,a3,w7⟩
        | true =>
          rw[Ir rfl];have q8:=he _ s7 σ6 H7 _ I7 q7;rw[p1,p2,p5,p6,p7] at q8;refine Hm q8 λy s8 ⟨yv,H8,I8,ry,hac,hsz,m',hm,w8⟩=>?_;have q9:=mT (X:=X') _ s8 σ6 H8 (.ref p) [yv] (.ref p) [y] (λ_ H9=>H9=HL H8 p (.lst (xs++[yv]))) I8 rfl (.cons ry .nil) ⟨p,xs,yv,rfl,rfl,hac,hsz,rfl⟩;rw[p1,p2,p6,p7] at q9;refine Hm q9 λ_ s9 ⟨_,H9,I9,_,e9⟩=>?_;subst e9;obtain⟨a1,a2,a3⟩:=a0 I9;exact⟨m',hm,i+1,xs++[yv],σ6,_,a1,a2,a3,w8⟩
    · rw[aJ (an b (aj b hb)).2];exact(ag b hb).1
  have L0:=b5 s₂.toks
  exact codeAny_compStart_list L0 (T.self _ _ _ _ _ bz L0)
theorem BP{tgt:Expr}(tn:Zb)(caps:List (Nat×Str))
  (hcalm:X.calm=true) (hclos:closureFor scope X.env=pure cl) (hcell:∀p∈caps,(p.2,NameKind.cell)∉scope.names) (hkind:scope.kind=.function) (hnames:∀y∈scope.names,y.2=.local->scope.names.lookup y.1=some .local)
  (hcl:∀x c,cl.lookup x=some c->X.env.cells.lookup x=some c) (hhas:∀(n:Nat) x,'v'->∃c,(cellsFrom n scope.names []++cl).lookup x=some c)
  (hcap:∀p∈caps,X.N[p.1]?=some p.2/\X.env.scope.names.lookup p.2=some .cell/\'u')
  (hi:PI X.nox tgt iter wi)
  (hb:∀s2 H2 C fp pn,PG 'h' tgt g/\PF 'h' ifs tc/\PE 'h' elt te)
  (hs:∀x,foldedSetIterable iter X.env x=pure x:=by intro _;rfl) :
  PE X.nox (.ListComp elt [⟨tgt,iter,ifs,0⟩] scope pos) (BT wi tn.length caps g tc te):=by
 intro aa s σ H Q I h;rw[eval_ListComp];refine rO tn caps hcalm hclos hcell hkind hnames hcl hhas hcap hi hb hs (use:=none) aa s σ H Q I h λp C m4 H3 s4 I9 hm4 hf q=>?_;obtain⟨f0,f1,f2,f3,f4,f5⟩:=hf;exact⟨m4,hm4,λh' hs'=>⟨.ref p,H3,I9.turned (t':=s4.toks) (λb o hb e=>hs'.extBut b o hb e) f0 f1 f3 f4 f5,rfl,q⟩⟩
theorem sC{tgt:Expr}(tn:Zb)(caps:List (Nat×Str))
  (hcalm:X.calm=true) (hclos:closureFor scope X.env=pure cl) (hcell:∀p∈caps,(p.2,NameKind.cell)∉scope.names) (hkind:scope.kind=.function) (hnames:∀y∈scope.names,y.2=.local->scope.names.lookup y.1=some .local)
  (hcl:∀x c,cl.lookup x=some c->X.env.cells.lookup x=some c) (hhas:∀(n:Nat) x,'v'->∃c,(cellsFrom n scope.names []++cl).lookup x=some c)
  (hcap:∀p∈caps,X.N[p.1]?=some p.2/\X.env.scope.names.lookup p.2=some .cell/\'u')
  (hi:PI X.nox tgt iter wi)
  (hb:∀s2 H2 C fp pn,PG 'h' tgt g/\PF 'h' ifs tc/\PE 'h' elt te)
  (hs:∀x,foldedSetIterable iter X.env x=pure x:=by intro _;rfl) {i:Nat} {y:Str} {pos' pos2:Pos} (hN:X.N.Nodup) (hi':X.N[i]?=some y) (hx:Loc X.env.scope y) (hsw:swapsWith (.ListComp elt [⟨tgt,iter,ifs,0⟩] scope pos) (some (.Name y pos')) pos2.line X.env=pure true) (hf:X.fn y=true\/X.env.scope.names.lookup y=some .local) :
  PS X.nox (.Assign [.Name y pos'] (.ListComp elt [⟨tgt,iter,ifs,0⟩] scope pos) pos2) (tAsg (BT wi tn.length caps g tc te) (vj i)):=by
 intro aa s σ H D I h;show wpAny 'k' X.A (exec (.Assign [.Name y pos'] (.ListComp elt [⟨tgt,iter,ifs,0⟩] scope pos) pos2) X.env) _ _ s;rw[exec_Assign_Name_used _ _ _ _ hsw];refine HU (wpAny_standAt (HU ?_));show wpAny _ _ (do let _<-comprehension (.ListComp elt [⟨tgt,iter,ifs,0⟩] scope pos) scope X.env _ (newList []) false (eval iter X.env) (some (assign (.Name y pos') X.env))) _ _ s;refine HU (JA (rO tn caps hcalm hclos hcell hkind hnames hcl hhas hcap hi hb hs (use:=some (assign (.Name y pos') X.env)) (Qf:=λ_ s'=>SP X.nox aa D .next s') aa s σ H _ I h λp C m4 H3 s4 I9 hm4 hfp q=>?_) (λ_ s' hq=>HZ (HZ hq)) λ_ _ e=>e);obtain⟨f0,f1,f2,f3,f4,f5⟩:=hfp;show wpAny _ _ (assign (.Name y pos') X.env (.ref p)) _ _ s4;refine wpAny_assign_Name (nZ (X:=X.nox) I9 hN hi' hx (v:=.ref p) rfl (λs5 I5 ⟨a,sb,ha⟩=>?_) hf);have ab:C≠a:=by
  rcases ha with rfl | ha
  ·exact f1
  ·exact λz=>f4 y a ha z.symm
 refine⟨m4,hm4.sameBut sb ab,λh' hs'=>⟨_,H3,I5.turned (t':=s5.toks) (λb o hb e=>hs'.extBut b o hb e) f0 f1 f3 f4 f5,q⟩⟩
end DL
namespace DL
open PySem PySem.Spec PyProof.Rows L2
variable {i j:Bool} {T:String}
theorem fK:bootBuiltins "len"=some (.builtin "len"):=by decide +kernel
theorem yw:bootBuiltins "abs"=some (.builtin "abs"):=by decide +kernel
theorem m9:bootBuiltins "isinstance"=some (.builtin "isinstance"):=by decide +kernel
theorem Dv:bootBuiltins "max"=some (.builtin "max"):=by decide +kernel
theorem iU:bootBuiltins "sorted"=some (.builtin "sorted"):=by decide +kernel
theorem DY:bootBuiltins "int"=some (.type "int"):=by decide +kernel
theorem Df:bootBuiltins "bool"=some (.type "bool"):=by decide +kernel
theorem cT:bootBuiltins "tuple"=some (.type "tuple"):=by decide +kernel
theorem zK:bootBuiltins "list"=some (.type "list"):=by decide +kernel
theorem y8:bootBuiltins "dict"=some (.type "dict"):=by decide +kernel
theorem He:bootBuiltins "set"=some (.type "set"):=by decide +kernel
section
variable {X:Cx}
def Fc:Zh->(D->Prop)->Prop
 | [.tup xs,.tup ys],R=>xs≠[]/\ys≠[]/\xs.length+ys.length<=9000/\R (.tup (xs++ys))
 | _,_=>False
theorem xl:∀ {d0:Zh} {R:D->Prop},Fc d0 R->∃(xs:Zh) (ys:Zh),d0=[.tup xs,.tup ys]/\xs≠[]/\ys≠[]/\xs.length+ys.length<=9000/\R (.tup (xs++ys)):=by walk_at "or"
theorem Ec:HC X (binaryOp .Add) λx y=>aQ X.K Fc [x,y] :=
 HC.imp CD λx y H Q ⟨M,ds,R,m,rs,h,k⟩=>by
  replace h:=xl h;obtain⟨_,_,rfl,h⟩:=h
  ·obtain⟨n1,n2,hz,q⟩:=h;obtain⟨h1,h2⟩:=bL rs;unfold HP at h1 h2;obtain⟨a,vs,e,l,r⟩:=h1;obtain⟨b,ws,e',l',r'⟩:=h2;have l1:=Reps.length _ _ r;have l2:=Reps.length _ _ r';refine⟨a,b,vs,ws,e,e',l,l',λz=>n1 (JB (by rw[l1,z];rfl)),e8 (by rw[<- l1,<- l2];exact hz),λz=>absurd (JB (by rw[l2,z];rfl)) n2,λ_ p hp=>k _ q _ _ (aH hp _) ?_⟩;unfold HP;exact⟨p,vs++ws,rfl,Hv.of aG,Reps.kp (Kp.of_same (aH hp _)) _ _ (Reps.append _ _ _ _ r r')⟩
def pD:Zh->(D->Prop)->Prop
 | [.int i,.int j],R=>R (.int (i+j))
 | [.lst xs,.lst ys],R=>xs.length+ys.length<=9000/\R (.lst (xs++ys))
 | [.tup xs,.tup ys],R=>xs≠[]/\ys≠[]/\xs.length+ys.length<=9000/\R (.tup (xs++ys))
 | _,_=>False
theorem xS:∀ {d0:Zh} {R:D->Prop},pD d0 R->((∃(i:Int) (j:Int),d0=[.int i,.int j]/\R (.int (i+j)))\/(∃(xs:Zh) (ys:Zh),d0=[.lst xs,.lst ys]/\xs.length+ys.length<=9000/\R (.lst (xs++ys)))\/(∃(xs:Zh) (ys:Zh),d0=[.tup xs,.tup ys]/\xs≠[]/\ys≠[]/\xs.length+ys.length<=9000/\R (.tup (xs++ys)))):=by walk_at "or"
theorem aY:HC X (binaryOp .Add) λx y=>aQ X.K pD [x,y] :=
 HC.imp (HC.or (HC.or Ha F1) Ec) λx y H Q ⟨M,ds,R,m,rs,h,k⟩=>by
  replace h:=xS h
  rcases h with⟨_,_,rfl,h⟩ | ⟨_,_,rfl,h⟩ | ⟨_,_,rfl,h⟩
  ·exact .inl (.inl ⟨M,_,R,m,rs,h,k⟩)
  ·exact .inl (.inr ⟨M,_,R,m,rs,h,k⟩)
  ·exact .inr ⟨M,_,R,m,rs,h,k⟩
mutual
def D.dp:D->Nat
 | .tup xs=>D.dps xs+1
 | .lst xs=>D.dps xs+1
 | .fz xs=>D.dps xs+1
 | .dct _ _=>0
 | .fd _ _=>0
 | .fo _ _ _=>0
 | .exn _ _ _=>0
 | .non=>0
 | .bl _=>0
 | .int _=>0
 | .str _=>0
def D.dps:Zh->Nat
 | []=>0
 | x::r=>max (D.dp x) (D.dps r)
end
mutual
def D.nd:D->Bool
 | .tup xs=>D.nds xs
 | .lst xs=>D.nds xs
 | .fz xs=>D.nds xs
 | .dct _ _=>false
 | .fd _ _=>false
 | .fo _ _ _=>false
 | .exn _ _ _=>false
 | .non=>true
 | .bl _=>true
 | .int _=>true
 | .str _=>true
def D.nds:Zh->Bool
 | []=>true
 | x::r=>D.nd x&&D.nds r
end
theorem b8(A:Around):A.in1.units=A.units+1:=rfl
theorem gD(n:Nat):((List.range n).all λ_=>true)=true:=by simp
section
variable {pins:List (Addr×Obj)} {σ:L2.St} {H:Hp} {s:Shared} {M:Addr→Prop}
mutual
theorem zT(I:Inv X pins σ H s):∀(d:D) (A:Around) (v v':V) (u u':Value),d.nd=true->A.units+d.dp<cLine->HP X.K M H d v->HP X.K M H d v'->bE v u->bE v' u'->SeqAt.EqAt A s u u' true
 | .non,A,v,v',u,u',_,_,r,r',q,q'=>by
  unfold HP at r r';subst r r';have:=re (A:=A) (s:=s) q q' rfl rfl;exact this
 | .bl b,A,v,v',u,u',_,_,r,r',q,q'=>by
  unfold HP at r r';subst r r';have:=re (A:=A) (s:=s) q q' rfl rfl;simpa [eqV] using this
 | .int b,A,v,v',u,u',_,_,r,r',q,q'=>by
  unfold HP at r r';subst r r';have:=re (A:=A) (s:=s) q q' rfl rfl;simpa [eqV] using this
 | .str b,A,v,v',u,u',_,_,r,r',q,q'=>by
  unfold HP at r r';subst r r';have:=re (A:=A) (s:=s) q q' rfl rfl;simpa [eqV] using this
 | .tup ds,A,v,v',u,u',hn,hd,r,r',q,q'=>by
  unfold HP at r r';obtain⟨a,vs,rfl,sq,rs⟩:=r;obtain⟨b,ws,rfl,ah,ag⟩:=r'
  cases q
  cases q'
  unfold D.dp at hd
  by_cases e:a=b
  ·subst e;exact K0 _
  ·obtain⟨ab,r1,t1,_⟩:=I.tuple sq;obtain⟨aa,r2,t2,_⟩:=I.tuple ah;have hs:ab.length=aa.length:=by rw[<- r1.length,<- r2.length,<- Reps.length _ _ rs,<- Reps.length _ _ ag]
   have k:=SeqAt.RcAt.tuples (A:=A) (e:=λ_=>true) t1 t2 'b' (eqAt_Ds I ds A.in1 vs ws ab aa hn (by rw[b8];omega) rs ag r1 r2)
   have z:((List.range (min ab.toArray.size aa.toArray.size)).all (λ_=>true)&&ab.toArray.size==aa.toArray.size)=true:=by simp[hs]
   rw[z] at k;exact SeqAt.EqAt.of_refs e k
 | .lst ds,A,v,v',u,u',hn,hd,r,r',q,q'=>by
  unfold HP at r r';obtain⟨a,vs,rfl,_,sq,rs⟩:=r;obtain⟨b,ws,rfl,_,ah,ag⟩:=r'
  cases q
  cases q'
  unfold D.dp at hd
  by_cases e:a=b
  ·subst e;exact K0 _
  ·obtain⟨ab,r1,t1,_⟩:=I.list (Ht.of sq);obtain⟨aa,r2,t2,_⟩:=I.list (Ht.of ah);have hs:ab.length=aa.length:=by rw[<- r1.length,<- r2.length,<- Reps.length _ _ rs,<- Reps.length _ _ ag]
   have k:=SeqAt.RcAt.lists (A:=A) (e:=λ_=>true) t1.isList t2.isList (by simp[hs]) 'b' (eqAt_Ds I ds A.in1 vs ws ab aa hn (by rw[b8];omega) rs ag r1 r2)
   rw[gD] at k;exact SeqAt.EqAt.of_refs e k
 | .fz ds,A,v,v',u,u',hn,hd,r,r',q,q'=>by
  unfold HP at r r';obtain⟨a,vs,rfl,sq,rs⟩:=r;obtain⟨b,ws,rfl,ah,ag⟩:=r'
  cases q
  cases q'
  unfold D.dp at hd
  by_cases e:a=b
  ·subst e;exact K0 _
  ·obtain⟨ab,r1,t1,_⟩:=I.list sq.seq;obtain⟨aa,r2,t2,_⟩:=I.list ah.seq;have hs:ab.length=aa.length:=by rw[<- r1.length,<- r2.length,<- Reps.length _ _ rs,<- Reps.length _ _ ag]
   have k:=SeqAt.RcAt.lists (A:=A) (e:=λ_=>true) t1.isList t2.isList (by simp[hs]) 'b' (eqAt_Ds I ds A.in1 vs ws ab aa hn (by rw[b8];omega) rs ag r1 r2)
   rw[gD] at k;exact SeqAt.EqAt.of_refs e k
 | .dct ks ds,A,v,v',u,u',hn,_,_,_,_,_=>by unfold D.nd at hn;cases hn
 | .fd ks ds,A,v,v',u,u',hn,_,_,_,_,_=>by unfold D.nd at hn;cases hn
 | .fo o ks ds,A,v,v',u,u',hn,_,_,_,_,_=>by unfold D.nd at hn;cases hn
 | .exn _ _ _,A,v,v',u,u',hn,_,_,_,_,_=>by unfold D.nd at hn;cases hn
theorem eqAt_Ds(I:Inv X pins σ H s):∀(ds:Zh) (A:Around) (vs ws:Zf) (us us':Zc),D.nds ds=true->A.units+D.dps ds<cLine->Reps X.K M H ds vs->Reps X.K M H ds ws->bI vs us->bI ws us' ->
  ∀j (h1:j<us.toArray.size) (h2:j<us'.toArray.size),SeqAt.EqAt A s us.toArray[j] us'.toArray[j] true
 | [],A,vs,ws,us,us',_,_,r,r',q,q',j,h1,h2=>by
  unfold Reps at r;subst r
  cases q
  exact absurd h1 'p'
 | d::ds,A,vs,ws,us,us',hn,hd,r,r',q,q',j,h1,h2=>by
  unfold Reps at r r';obtain⟨v,vr,rfl,rv,rs⟩:=r;obtain⟨w',wr,rfl,ab,aa⟩:=r';unfold D.nds at hn;obtain⟨n1,n2⟩:=IB.mp hn;unfold D.dps at hd
  cases q with
  | @cons _ u0 _ ur qa qb =>
   cases q' with
   | @cons _ u1 _ ur' qa' qb' =>
    cases j with
    | zero=>exact zT I d A v w' _ _ n1 'b' rv ab qa qa'
    | succ j =>
     have z:=eqAt_Ds I ds A vr wr ur ur' n2 'b' rs aa qb qb' j (by simpa using h1) (by simpa using h2)
     simpa using z
end
end
theorem zX{i j:Int}:decide (V.int i=V.int j)=decide (i=j):=by rw[oF];exact KM _ _
theorem Eo:decide (V.bl i=V.bl j)=decide (i=j):=by rw[we];exact KM _ _
theorem zW{i j:Str}:decide (V.str i=V.str j)=decide (i=j):=by rw[pW];exact KM _ _
def fEq:Zh->(D->Prop)->Prop
 | [.int i,.int j],R=>R (.bl (decide (i=j)))
 | [.str x,.str y],R=>R (.bl (decide (x=y)))
 | [.bl a,.bl b],R=>R (.bl (decide (a=b)))
 | [.tup xs,.tup ys],R=>(xs=ys/\D.nds xs=true/\D.dps xs<=60)/\R (.bl true)
 | [.lst xs,.lst ys],R=>((xs=ys/\D.nds xs=true/\D.dps xs<=60)/\R (.bl true))\/(xs.length≠ys.length/\R (.bl false))
 | _,_=>False
theorem EQ:∀ {d0:Zh} {R:D->Prop},fEq d0 R->((∃(i:Int) (j:Int),d0=[.int i,.int j]/\R (.bl (decide (i=j))))\/(∃(x:Str) (y:Str),d0=[.str x,.str y]/\R (.bl (decide (x=y))))\/(∃(a:Bool) (b:Bool),d0=[.bl a,.bl b]/\R (.bl (decide (a=b))))\/(∃(xs:Zh) (ys:Zh),d0=[.tup xs,.tup ys]/\(xs=ys/\D.nds xs=true/\D.dps xs<=60)/\R (.bl true))\/(∃(xs:Zh) (ys:Zh),d0=[.lst xs,.lst ys]/\(((xs=ys/\D.nds xs=true/\D.dps xs<=60)/\R (.bl true))\/(xs.length≠ys.length/\R (.bl false))))):=by walk_at "or"
theorem CL{i j:Int}{R:D->Prop}:fEq [.int i,.int j] R=(R (.bl (decide (i=j)))):=rfl
theorem Bp{i j:Str}{R:D->Prop}:fEq [.str i,.str j] R=(R (.bl (decide (i=j)))):=rfl
theorem Dz{R:D->Prop}:fEq [.bl i,.bl j] R=(R (.bl (decide (i=j)))):=rfl
theorem CJ{i j:Zh}{R:D->Prop}:fEq [.tup i,.tup j] R=((i=j/\D.nds i=true/\D.dps i<=60)/\R (.bl true)):=rfl
theorem dY(hu:X.A.units+64<cLine):HC X (compareOp .Eq) λx y=>aQ X.K fEq [x,y]:=by
 intro ai s σ H x y v u Q I rx ry h;obtain⟨M,ds,R,m,rs,h,k⟩:=h;replace h:=EQ h
 rcases h with⟨_,_,rfl,h⟩ | ⟨_,_,rfl,h⟩ | ⟨_,_,rfl,h⟩ | ⟨_,_,rfl,h⟩ | ⟨_,_,rfl,h⟩
 ·obtain⟨h1,h2⟩:=bL rs
  cases aT h1
  cases aT h2
  refine CC ai s σ H _ _ v u Q I rx ry ⟨rfl,?_⟩;rw[zX];exact k _ h _ H (bF.refl H) (HP.sc rfl)
 ·obtain⟨h1,h2⟩:=bL rs
  cases bv h1
  cases bv h2
  refine CC ai s σ H _ _ v u Q I rx ry ⟨rfl,?_⟩;rw[zW];exact k _ h _ H (bF.refl H) (HP.sc rfl)
 ·obtain⟨h1,h2⟩:=bL rs
  cases iw h1
  cases iw h2
  refine CC ai s σ H _ _ v u Q I rx ry ⟨rfl,?_⟩;rw[Eo];exact k _ h _ H (bF.refl H) (HP.sc rfl)
 ·obtain⟨⟨e,hn,hd⟩,h⟩:=h;subst e;obtain⟨h1,h2⟩:=bL rs;unfold HP at h1 h2;obtain⟨a,vs,rfl,sq,ah⟩:=h1;obtain⟨b,ws,rfl,aj,ag⟩:=h2
  cases rx
  cases ry
  obtain⟨ab,r1,t1,_⟩:=I.tuple sq;obtain⟨aa,r2,t2,_⟩:=I.tuple aj;have hs:ab.length=aa.length:=by rw[<- r1.length,<- r2.length,<- Reps.length _ _ ah,<- Reps.length _ _ ag]
  refine SeqAt.eq_tupleAt (e:=λ_=>true) t1 t2 'b' (eqAt_Ds I _ X.A.in1 vs ws ab aa hn (by rw[b8];omega) ah ag r1 r2) ?_;have z:((List.range (min ab.toArray.size aa.toArray.size)).all (λ_=>true)&&ab.toArray.size==aa.toArray.size)=true:=by simp[hs]
  rw[z];exact⟨.bl true,H,I,rfl,k _ h _ H (bF.refl H) (HP.sc rfl)⟩
 ·obtain⟨h1,h2⟩:=bL rs;unfold HP at h1 h2;obtain⟨a,vs,rfl,_,sq,ah⟩:=h1;obtain⟨b,ws,rfl,_,aj,ag⟩:=h2
  cases rx
  cases ry
  obtain⟨ab,r1,t1,_⟩:=I.list (Ht.of sq);obtain⟨aa,r2,t2,_⟩:=I.list (Ht.of aj)
  rcases h with⟨⟨e,hn,hd⟩,h⟩ | ⟨ne,h⟩
  ·subst e;have hs:ab.length=aa.length:=by rw[<- r1.length,<- r2.length,<- Reps.length _ _ ah,<- Reps.length _ _ ag]
   refine SeqAt.eq_listAt (e:=λ_=>true) t1.isList t2.isList (by simp[hs]) 'b' (eqAt_Ds I _ X.A.in1 vs ws ab aa hn (by rw[b8];omega) ah ag r1 r2) ?_;rw[gD];exact⟨.bl true,H,I,rfl,k _ h _ H (bF.refl H) (HP.sc rfl)⟩
  ·refine SeqAt.eq_list_lengthsAt t1.isList t2.isList ?_ 'b' ⟨.bl false,H,I,rfl,k _ h _ H (bF.refl H) (HP.sc rfl)⟩;have l1:=r1.length;have l2:=r2.length;have l3:=Reps.length _ _ ah;have l4:=Reps.length _ _ ag;simp only[List.size_toArray,bne_iff_ne,ne_eq];omega
def fNe:Zh->(D->Prop)->Prop
 | [.int i,.int j],R=>R (.bl (!decide (i=j)))
 | [.str x,.str y],R=>R (.bl (!decide (x=y)))
 | [.bl a,.bl b],R=>R (.bl (!decide (a=b)))
 | _,_=>False
theorem D9:∀ {d0:Zh} {R:D->Prop},fNe d0 R->((∃(i:Int) (j:Int),d0=[.int i,.int j]/\R (.bl (!decide (i=j))))\/(∃(x:Str) (y:Str),d0=[.str x,.str y]/\R (.bl (!decide (x=y))))\/(∃(a:Bool) (b:Bool),d0=[.bl a,.bl b]/\R (.bl (!decide (a=b))))):=by walk_at "or"
theorem o_ne(_:X.A.units+64<cLine):HC X (compareOp .NotEq) λx y=>aQ X.K fNe [x,y]:=by
 intro aa s σ H x y v u Q I rx ry h;obtain⟨M,ds,R,m,rs,h,k⟩:=h;replace h:=D9 h
 rcases h with⟨_,_,rfl,h⟩ | ⟨_,_,rfl,h⟩ | ⟨_,_,rfl,h⟩
 ·obtain⟨h1,h2⟩:=bL rs
  cases aT h1
  cases aT h2
  refine BU aa s σ H _ _ v u Q I rx ry ⟨rfl,?_⟩;rw[zX];exact k _ h _ H (bF.refl H) (HP.sc rfl)
 ·obtain⟨h1,h2⟩:=bL rs
  cases bv h1
  cases bv h2
  refine BU aa s σ H _ _ v u Q I rx ry ⟨rfl,?_⟩;rw[zW];exact k _ h _ H (bF.refl H) (HP.sc rfl)
 ·obtain⟨h1,h2⟩:=bL rs
  cases iw h1
  cases iw h2
  refine BU aa s σ H _ _ v u Q I rx ry ⟨rfl,?_⟩;rw[Eo];exact k _ h _ H (bF.refl H) (HP.sc rfl)
def fIs:Zh->(D->Prop)->Prop
 | [.bl a,.bl b],R=>R (.bl (decide (a=b)))
 | [.non,.non],R=>R (.bl true)
 | [.tup _,.non],R=>R (.bl false)
 | [.exn _ _ _,.non],R=>R (.bl false)
 | _,_=>False
theorem Do{d0:Zh}{R:D->Prop}(h:fIs d0 R):(∃(a:Bool) (b:Bool),d0=[.bl a,.bl b]/\R (.bl (decide (a=b))))\/(d0=[.non,.non]/\R (.bl true))\/(∃(z1:Zh),d0=[.tup z1,.non]/\R (.bl false))\/(∃(c f:Str) (z1:D),d0=[.exn c f z1,.non]/\R (.bl false)):=by
 rcases d0 with _ | ⟨a,_ | ⟨b,_ | ⟨c,l⟩⟩⟩
 ·exact False.elim h
 ·cases a<;>exact False.elim h
 ·cases a<;>first | exact False.elim h | (cases b<;>first | exact False.elim h | exact .inl ⟨_,_,rfl,h⟩ | exact .inr (.inl ⟨rfl,h⟩) | exact .inr (.inr (.inl ⟨_,rfl,h⟩)) | exact .inr (.inr (.inr ⟨_,_,_,rfl,h⟩)))
 ·cases a<;>first | exact False.elim h | (cases b<;>exact False.elim h)
theorem Fl{R:D->Prop}:fIs [.bl i,.bl j] R=(R (.bl (decide (i=j)))):=rfl
theorem DD:HC X (compareOp .Is) (λx y H Q=>∃a b,x=.bl a/\y=.bl b/\Q (.bl (decide (a=b))) H):=by
 intro aa s σ H x y v u Q I rx ry h;obtain⟨a,b,rfl,rfl,q⟩:=h
 cases rx
 cases ry
 refine wpAny_is_plain rfl ⟨.bl _,H,I,rfl,?_⟩;have e:(Value.bool a==Value.bool b)=decide (a=b):=by cases a<;>cases b<;>rfl
 rw[e];exact q
theorem CU:HC X (compareOp .Is) λx y=>aQ X.K fIs [x,y] :=
  HC.imp (HC.or DD zy) λx y H Q ⟨M,ds,R,m,rs,h,k⟩=>by
    have aa:∀b,R (.bl b)->Q (.bl b) H:=λb r=>k _ r _ H (bF.refl H) (HP.sc rfl)
    replace h:=Do h
    rcases h with⟨_,_,rfl,h⟩ | ⟨rfl,h⟩ | ⟨_,rfl,h⟩ | ⟨_,_,_,rfl,h⟩
    · obtain⟨h1,h2⟩:=bL rs;exact .inl ⟨_,_,iw h1,iw h2,aa _ h⟩
    all_goals first
      | exact h.elim
      | (obtain⟨h1,h2⟩:=bL rs
         unfold HP at h1 h2
         first
           | (subst h1;exact .inr ⟨h2,aa _ h⟩)
           | (obtain⟨a,vs,e,_⟩:=h1;subst e;exact .inr ⟨h2,aa _ h⟩)
           | (obtain⟨y,⟨e,C,dx,e1,_⟩,_⟩:=h1;subst e1;exact .inr ⟨h2,aa _ h⟩))
def tyN:D->String
 | .non=>"NoneType"
 | .bl _=>"bool"
 | .int _=>"int"
 | .str _=>"str"
 | .tup _=>"tuple"
 | .lst _=>"list"
 | .fz _=>"list"
 | .dct _ _=>"dict"
 | .fd _ _=>"dict"
 | .fo _ _ _=>"dict"
 | .exn _ _ _=>"NoneType"
def D.noX:D->Prop
 | .exn _ _ _=>False
 | _=>True
def isT(T n:String):Bool:=n==T||(n=="bool"&&T=="int")
def o8(T:String):Prop:=∀(K:PySem.W.Frag) (n:String),n∈["NoneType","bool","int","str","tuple","list","dict"]->PySem.W.kitOne K (.type n) (.type T)=some (isT T n)
theorem B1(d:D):tyN d∈["NoneType","bool","int","str","tuple","list","dict"]:=by cases d<;>simp[tyN]
theorem Gi{pins:List (Addr×Obj)}{σ:L2.St}{H:Hp}{s:Shared}{A:Around}{E:Value->Shared->Prop}{M:Addr->Prop}{d:D}{v:V}{u:Value}{Q:Value->Shared->Prop}(I:L2.Inv X pins σ H s)(r:HP X.K M H d v)(nx:d.noX)(ru:bE v u)(ht:o8 T)
  (h:∀tk,Q (.bool (isT T (tyN d))) { s with toks:=tk }):wpAny 'k' A (call (.builtin "isinstance") [u,.type T]) Q E s:=by
 have e:=ht X.K (tyN d) (B1 d)
 cases d with
 | non=>unfold HP at r;subst r;exact dF I ru (.non) e h
 | bl b=>unfold HP at r;subst r;exact dF I ru (.bl b) e h
 | int b=>unfold HP at r;subst r;exact dF I ru (.int b) e h
 | str b=>unfold HP at r;subst r;exact dF I ru (.str b) e h
 | tup xs =>
  unfold HP at r;obtain⟨a,vs,rfl,sq,_⟩:=r
  cases ru
  obtain⟨aa,_,⟨o,h1,h2,_⟩,_⟩:=I.tuple sq;exact Ja PySem.W.kitx_tuple I.kIn ⟨o,h1,h2⟩ e (λz=>nomatch z) h
 | lst xs=>unfold HP at r;obtain⟨a,vs,rfl,_,sq,_⟩:=r;exact dF I ru (.lst sq) e h
 | fz xs =>
  unfold HP at r;obtain⟨a,vs,rfl,sq,_⟩:=r
  cases ru
  obtain⟨aa,_,⟨o,n,h1,h2,_⟩,_⟩:=I.list sq.seq;exact Ja PySem.W.kitx_list I.kIn ⟨o,h1,h2⟩ e (λz=>nomatch z) h
 | dct ks xs=>unfold HP at r;obtain⟨a,vs,rfl,_,sq,_⟩:=r;exact dF I ru (.dK sq) e h
 | fd ks xs =>
  unfold HP at r;obtain⟨a,vs,o,rfl,sq,_⟩:=r
  cases ru
  obtain⟨_,_,va,_,da⟩:=fN I.hok (.inr ⟨o,sq⟩);obtain⟨o2,h1,h2⟩:=da.typeIs;exact Ja KA I.kIn ⟨o2,h1,h2⟩ e (λz=>nomatch z) h
 | fo o ks xs =>
  unfold HP at r;obtain⟨a,vs,rfl,sq,_⟩:=r
  cases ru
  obtain⟨_,_,va,_,da⟩:=fN I.hok (.inr ⟨o,sq⟩);obtain⟨o2,h1,h2⟩:=da.typeIs;exact Ja KA I.kIn ⟨o2,h1,h2⟩ e (λz=>nomatch z) h
 | exn c f x=>exact nx.elim
def Hu(T:String):D->(Bool->Prop)->Prop
 | .exn _ _ _,_=>False
 | x,k=>k (isT T (tyN x))
theorem Hu.ex{x:D}{k:Bool->Prop}(h:Hu T x k):x.noX/\k (isT T (tyN x)):=by cases x<;>first | exact False.elim h | exact⟨trivial,h⟩
def kIs(T:String)(R:W->En->Prop):W->En->Prop:=wd λx δ1=>Hu T x λb=>R (.d (.bl b)) δ1
def dIsi(T:String)(t:HQ)(δ:En)(R:W->En->Prop):Prop:=t δ (kIs T R)
def rIsi(K:PySem.W.Frag)(T:String):Zf->Hp->VK->Prop:=λxs H Q=>∃x M d,xs=[x,.ty T]/\HP K M H d x/\d.noX/\Q (.bl (isT T (tyN d))) H
theorem xn(ht:o8 T):bW X (.builtin "isinstance") (rIsi X.K T):=by
 intro ab s σ H xs us Q I r h;obtain⟨x,M,d,rfl,rx,nx,q⟩:=h;obtain⟨u,w',rfl,ru,aa⟩:=Fz r
 cases aa
 exact Gi I rx nx ru ht λtk=>⟨.bl _,H,I.tok _,rfl,q⟩
theorem j3{T:Str}{n:String}{a:Expr}{ta:HQ}{p p2 pos:Pos}(ht:o8 n)(hg:Gl X "isinstance")(hm:X.mg "isinstance"=none)(hgT:Gl X T)(hmT:X.mg T=none)(hvT:bootBuiltins T=some (.type n))(ha:DE X a ta)
  (hnT:T≠"__name__":=by decide) (hdT:(T==("__debug__":Str))=false:=by decide)
  (he:starEach [a,.Name T p2] X.env=(false,eval a X.env)::starEach [.Name T p2] X.env:=by rfl) (he2:starEach [.Name T p2] X.env=(false,eval (.Name T p2) X.env)::starEach [] X.env:=by rfl) (hpl:(backTo pos (starEach [.Name T p2] X.env)).any (·.1)=false:=by rfl) :
  DE X (.Call (.Name "isinstance" p) [a,.Name T p2] [] pos) (dIsi n ta) :=
 PE.imp (l8 (xn ht) hg hm m9 (bX ha (bX (Bm (v:=.ty n) hgT hmT hvT rfl hnT hdT) gf he2) he) 'd' 'd' he hpl) λσ H Q ⟨G,δ,P,R,s,h,k,_⟩=>up.mk s h λd δ1 h1 v H1 s1=>by
  obtain⟨A,q⟩:=id s1;replace h1:=Hu.ex h1;exact⟨v,_,d,rfl,q.pnd (d,v) 'p',h1.1,k _ δ1 h1.2 _ H1 ((s1.sub (P':=P) λp hp=>HV _ hp).sc rfl)⟩
theorem Dg:o8 "int":=λK n hn=>by
 simp only[List.mem_cons,List.not_mem_nil,or_false] at hn
 rcases hn with rfl | rfl | rfl | rfl | rfl | rfl | rfl<;>with_unfolding_all rfl
theorem Bi:o8 "bool":=λK n hn=>by
 simp only[List.mem_cons,List.not_mem_nil,or_false] at hn
 rcases hn with rfl | rfl | rfl | rfl | rfl | rfl | rfl<;>with_unfolding_all rfl
theorem iW:o8 "tuple":=λK n hn=>by
 simp only[List.mem_cons,List.not_mem_nil,or_false] at hn
 rcases hn with rfl | rfl | rfl | rfl | rfl | rfl | rfl<;>with_unfolding_all rfl
theorem Al:o8 "dict":=λK n hn=>by
 simp only[List.mem_cons,List.not_mem_nil,or_false] at hn
 rcases hn with rfl | rfl | rfl | rfl | rfl | rfl | rfl<;>with_unfolding_all rfl
end
end DL
namespace DL
open PySem PySem.Spec PyProof.Rows L2
variable {caps:List (Nat×Str)} {i nt:Nat} {d:D} {xs:Zh} {f:D→Option D} {g:TDG} {tc:TDT} {pos:Pos} {cl:List (Str×Addr)}
section
variable {K:PySem.W.Frag} {G:Gf} {A A':Addr→Prop} {δ:List Sl} {P P':List (D×V)} {σ:L2.St} {H H':Hp}
theorem Sx.addA{p:Addr}(s:Sx K G A δ P σ H)(hn:H p=none)(hs:bF H H')(hp:H' p≠none):Sx K G (λb=>A b\/b=p) δ P σ H':=by
 have x:=s.same hs
 have hM:∀b,(G.M0 b\/(A b\/b=p))->(G.M0 b\/A b)\/H b=none:=λb h=>by
  rcases h with h | h | h
  ·exact .inl (.inl h)
  ·exact .inl (.inr h)
  ·subst h;exact .inr hn
 have up:∀d v,HP K (λb=>G.M0 b\/A b) H d v->HP K (λb=>G.M0 b\/(A b\/b=p)) H' d v:=λd v r=>HP.kp (Kp.of_same hs) _ _ (HP.more hM _ _ r)
 have h0:G.H0 p=none:=by
  cases q:G.H0 p with
  | none=>rfl
  | some o=>exact absurd hn (s.stay p (by rw[q];exact λz=>nomatch z))
 refine⟨x.old,x.stay,x.m0,x.pm,λb h=>h.elim (s.new b) λe=>.inl (by rw[e];exact h0),λb h=>h.elim (x.thr b) λe=>by rw[e];exact hp,s.len,λj d' e=>?_,λj b d' e=>?_,s.inj,λq hq=>up _ _ (s.pnd q hq)⟩
 ·obtain⟨v,q,r⟩:=s.dat j d' e;exact⟨v,q,up _ _ r⟩
 ·obtain⟨q,r,o⟩:=s.own j b d' e;refine⟨q,.inl r,bG.kp (Kp.of_same hs) ?_ (bG.more hM o)⟩
  cases z:H b with
  | none=>exact absurd z (s.thr b r)
  | some o'=>exact hs b o' z
theorem Sx.subA(s:Sx K G A δ P σ H)(hA:∀b,A' b->A b)(ho:∀(i:Nat) a d,δ[i]?=some (.own a d)->A' a):Sx K G A' δ P σ H:=by
 have hM:∀b,(G.M0 b\/A' b)->(G.M0 b\/A b)\/H b=none:=λb h=>.inl (h.elim .inl λz=>.inr (hA b z))
 exact⟨s.old,s.stay,s.m0,s.pm,λb h=>s.new b (hA b h),λb h=>s.thr b (hA b h),s.len,λi d e=>let ⟨v,q,r⟩:=s.dat i d e;⟨v,q,HP.more hM _ _ r⟩,λi a d e=>let ⟨q,_,o⟩:=s.own i a d e;⟨q,ho i a d e,bG.more hM o⟩,s.inj,
  λp hp=>HP.more hM _ _ (s.pnd p hp)⟩
theorem Sx.poke{p:Addr}{vs ws:Zf}(s:Sx K G A δ P σ H)(hp:A p)(hv:H p=some (.lst vs))(hno:∀(i:Nat) d,δ[i]?≠some (.own p d)):Sx K G A δ P σ (HL H p (.lst ws)):=by
 have hk:∀b o,b≠p->H b=some o->HL H p (.lst ws) b=some o:=λb o n e=>by rw[aJ n];exact e
 have kp:Kp (λb=>G.M0 b\/A b) H (HL H p (.lst ws)):=⟨λb o e n=>hk b o (λz=>n (.inr (by rw[z];exact hp))) e,λb xs e=>hk b _ (λz=>by rw[z,hv] at e;cases e) e,λb o u e=>hk b _ (λz=>by rw[z,hv] at e;cases e) e⟩
 have stay:∀b,H b≠none->HL H p (.lst ws) b≠none:=λb e=>by
  by_cases z:b=p
  ·rw[z,aG];exact λz=>nomatch z
  ·rw[aJ z];exact e
 have na:∀b o,G.H0 b=some o->¬ G.Pm b->b≠p:=λb o e n z=>(s.new p hp).elim (λq=>by rw[z] at e;rw[e] at q;cases q) λq=>n (by rw[z];exact q)
 refine⟨λb o e n=>hk b o (na b o e n) (s.old b o e n),λb e=>stay b (s.stay b e),s.m0,s.pm,s.new,λb e=>stay b (s.thr b e),s.len,λi d e=>let ⟨v,q,r⟩:=s.dat i d e;⟨v,q,HP.kp kp _ _ r⟩,λi a d e=>?_,s.inj,λq hq=>HP.kp kp _ _ (s.pnd q hq)⟩;obtain⟨q,r,o⟩:=s.own i a d e;have ne:a≠p:=λz=>by subst z;exact hno i d e
 exact⟨q,r,bG.kp kp (by rw[aJ ne]) o⟩
end
def vP:Option Sl->Sl
 | some (.dat d)=>.dat d
 | _=>.no
def i7(caps:List (Nat×Str))(δ:En):En:=caps.map λp=>vP δ[p.1]?
def oS:Option D->Sl
 | none=>.no
 | some d=>.dat d
def yU:Nat->(List Sl->Prop)->Prop
 | 0,p=>p []
 | n+1,p=>∀t:Option D,yU n λts=>p (oS t::ts)
def okT:Nat->En->En->Prop
 | 0,δ,c=>δ=c
 | n+1,.dat _::r,c=>okT n r c
 | _+1,_,_=>False
abbrev TDC:=En->(List D->En->Prop)->Prop
def xL(src:TDC)(nt:Nat)(caps:List (Nat×Str))(g:TDG)(tc:TDT)(te:HQ)(δ:En)(R:W->En->Prop):Prop:=src δ λxs δ1=>xs.length<=9000/\∃f:D->Option D,
 (∀x∈xs,yU nt λts=>g x (ts++i7 caps δ1) λδ2=>tc δ2 λb δ3=>if b=true then te δ3 (wd λy δ4=>okT nt δ4 (i7 caps δ1)/\f x=some y) else okT nt δ3 (i7 caps δ1)/\f x=none)/\R (.d (.lst (xs.filterMap f))) δ1
theorem rk:∀ {n:Nat} {p:List Sl->Prop},yU n p->∀ts:List (Option D),ts.length=n->p (ts.map oS)
 | 0,p,h,ts,e=>by rw[JE.mp e];exact h
 | n+1,p,h,[],e=>by cases e
 | n+1,p,h,t::ts,e=>rk (h t) ts (J4 e)
theorem pX:∀ {n:Nat} {δ c:En},okT n δ c->∃ts:List (Option D),ts.length=n/\δ=ts.map oS++c
 | 0,δ,c,h=>⟨[],rfl,h⟩
 | n+1,[],c,h=>h.elim
 | n+1,.dat d::r,c,h=>by
  obtain⟨ts,e,q⟩:=pX (n:=n) (δ:=r) h;exact⟨some d::ts,by rw[Ik,e],by rw[q];rfl⟩
 | n+1,.no::r,c,h=>h.elim
 | n+1,.own _ _::r,c,h=>h.elim
section
variable {K:PySem.W.Frag} {G:Gf} {δ:List Sl} {P:List (D×V)} {σ:L2.St}
theorem yl(e:(i7 caps δ)[i]?=some (.dat d)):∃p,caps[i]?=some p/\δ[p.1]?=some (.dat d):=by
 unfold i7 at e;rw[List.getElem?_map] at e
 cases hc:caps[i]? with
 | none=>rw[hc] at e;cases e
 | some p =>
  rw[hc] at e;refine⟨p,rfl,?_⟩;have e:=Iq e
  cases q:δ[p.1]? with
  | none=>simp[q,vP] at e
  | some z =>
   cases z with
   | dat d'=>simp only[q,vP] at e;cases e;rfl
   | no=>simp[q,vP] at e
   | own _ _=>simp[q,vP] at e
theorem me{a:Addr}(e:(i7 caps δ)[i]?=some (.own a d)):False:=by
 unfold i7 at e;rw[List.getElem?_map] at e
 cases hc:caps[i]? with
 | none=>rw[hc] at e;cases e
 | some p =>
  rw[hc] at e;have e:=Iq e
  cases q:δ[p.1]? with
  | none=>simp[q,vP] at e
  | some z=>cases z<;>simp[q,vP] at e
theorem GX{A:Addr->Prop}{H:Hp}(s:Sx K G A δ P σ H):Sx K ⟨λb=>G.M0 b\/A b,H,λ_=>False⟩ (λ_=>False) ((List.replicate nt none).map oS++i7 caps δ) [] (wT nt caps σ) H:=by
 have hM:∀b,((G.M0 b\/A b)\/False)->(G.M0 b\/A b)\/H b=none:=λb h=>h.elim .inl λz=>z.elim
 have hr:(List.replicate nt none).map oS=List.replicate nt Sl.no:=by rw[List.map_replicate];rfl
 rw[hr];refine⟨λb o e _=>e,λb e=>e,s.mem,λb h=>h.elim,λb h=>h.elim,λb h=>h.elim,?_,λi d e=>?_,λi a d e=>?_,λi j a d e h1 _=>?_,λp hp=>(nomatch hp)⟩
 ·unfold i7 wT;rw[Ij,Ij,IF,IF,HS,HS]
 ·by_cases hi:i<nt
  ·rw[List.getElem?_append_left (by rw[IF];exact hi),List.getElem?_replicate,Ir hi] at e
   cases e
  ·rw[List.getElem?_append_right (by rw[IF];omega),IF] at e;obtain⟨p,hp,hd⟩:=yl e;obtain⟨v,q,r⟩:=s.dat _ _ hd;refine⟨v,?_,HP.more hM _ _ r⟩;unfold wT;rw[List.getElem?_append_right (by rw[IF];omega),IF,List.getElem?_map,hp];show some ((σ[p.1]?).join)=_;rw[q];rfl
 all_goals
  exfalso
 ·by_cases hi:i<nt
  ·rw[List.getElem?_append_left (by rw[IF];exact hi),List.getElem?_replicate,Ir hi] at e
   cases e
  ·rw[List.getElem?_append_right (by rw[IF];omega)] at e;exact me e
 ·by_cases hi:i<nt
  ·rw[List.getElem?_append_left (by rw[IF];exact hi),List.getElem?_replicate,Ir hi] at h1
   cases h1
  ·rw[List.getElem?_append_right (by rw[IF];omega)] at h1;exact me h1
theorem zM{ts:List (Option D)}{a:Addr}(e:(ts.map oS++i7 caps δ)[i]?=some (.own a d)):False:=by
 by_cases hi:i<ts.length
 ·rw[List.getElem?_append_left (by rw[HS];exact hi),List.getElem?_map] at e
  cases hc:ts[i]? with
  | none=>rw[hc] at e;cases e
  | some o =>
   rw[hc] at e
   cases o<;>cases e
 ·rw[List.getElem?_append_right (by rw[HS];omega)] at e;exact me e
theorem re_S{M:Addr->Prop}{A2:Addr->Prop}{ts:List (Option D)}{H H5 H6:Hp}{P2:List (D×V)}{σ2:L2.St}(s:Sx K ⟨M,H,λ_=>False⟩ A2 (ts.map oS++i7 caps δ) P2 σ2 H5)(k:Kp M H5 H6)(hm:∀b,M b->H6 b≠none) :
  Sx K ⟨M,H6,λ_=>False⟩ (λ_=>False) (ts.map oS++i7 caps δ) [] σ2 H6:=by
 have hM:∀b,(M b\/False)->(M b\/A2 b)\/H5 b=none:=λb h=>.inl (h.elim .inl λz=>z.elim)
 have k':Kp (λb=>M b\/False) H5 H6:=⟨λb o e n=>k.un b o e λz=>n (.inl z),k.tu,k.fr⟩
 exact⟨λb o e _=>e,λb e=>e,hm,λb h=>h.elim,λb h=>h.elim,λb h=>h.elim,s.len,λi d e=>let ⟨v,q,r⟩:=s.dat i d e;⟨v,q,HP.kp k' _ _ (HP.more hM _ _ r)⟩,λi a d e=>(zM e).elim,
  λi j a d e h1 _=>(zM h1).elim,λp hp=>(nomatch hp)⟩
theorem kM{x:D}(h:xs[i]?=some x):(xs.take (i+1)).filterMap f=(xs.take i).filterMap f++(match f x with | some y=>[y] | none=>[]):=by
 rw[List.take_add_one,h,List.filterMap_append]
 cases e:f x<;>simp[e]
theorem kW{J:It}{te:HQ}{H1:Hp}{Q:VK}(s:S K G δ P σ H1)(hz:xs.length<=9000)
  (hgo:∀A i H,Sx K G A δ P σ H->i<xs.length->J.go i H) (hst:∀A H,Sx K G A δ P σ H->J.stop xs.length H)
  (hyl:∀A i x H H2,Sx K G A δ P σ H->i<xs.length->J.yld i H x H2->bF H H2/\∃d,xs[i]?=some d/\HP K (λb=>G.M0 b\/A b) H2 d x)
  (hf:∀x∈xs,yU nt λts=>g x (ts++i7 caps δ) λδ2=>tc δ2 λb δ3=>if b=true then te δ3 (wd λy δ4=>okT nt δ4 (i7 caps δ)/\f x=some y) else okT nt δ3 (i7 caps δ)/\f x=none)
  (p:Addr) (hp:H1 p=none) (k:∀(A:Addr->Prop) acc H',¬ (G.M0 p\/A p)->(∀(i:Nat) a d,δ[i]?=some (.own a d)->A a)->Sx K G (λb=>A b\/b=p) δ P σ H'->H' p=some (.lst acc)->Reps K (λb=>G.M0 b\/(A b\/b=p)) H' (xs.filterMap f) acc->Q (.ref p) H') :
  ∃W:Nat->Nat->Zf->L2.St->Hp->Prop,(∃m,W 0 m [] (wT nt caps σ) (HL H1 p (.lst [])))/\∀i m acc σ' H',W i m acc σ' H'->(J.stop i H'/\Q (.ref p) H')\/(J.go i H'/\∀x H2,J.yld i H' x H2 ->
   upG K g x σ' H2 λσ2 H3=>upT K tc σ2 H3 λb H4=>if b=true then up K te σ2 H4 λy H5=>H5 p=some (.lst acc)/\acc.length<sizeLine/\∃m',m'<m/\W (i+1) m' (acc++[y]) σ2 (HL H5 p (.lst (acc++[y]))) else ∃m',m'<m/\W (i+1) m' acc σ2 H4):=by
 obtain⟨A0,x0⟩:=s;have ah:¬ (G.M0 p\/A0 p):=λz=>x0.mem p z hp;have a0:∀(i:Nat) d,δ[i]?≠some (.own p d):=λi d e=>ah (.inr (x0.own i p d e).2.1);have x1:=x0.addA hp (aH hp (.lst [])) (by rw[aG];exact λz=>nomatch z)
 refine⟨λi m acc σ' H'=>i<=xs.length/\m=xs.length-i/\acc.length<=i/\H' p=some (.lst acc)/\Sx K G (λb=>A0 b\/b=p) δ P σ H'/\Reps K (λb=>G.M0 b\/(A0 b\/b=p)) H' ((xs.take i).filterMap f) acc /\
  ∃ts:List (Option D),ts.length=nt/\Sx K ⟨λb=>G.M0 b\/(A0 b\/b=p),H',λ_=>False⟩ (λ_=>False) (ts.map oS++i7 caps δ) [] σ' H',⟨xs.length,Jq _,rfl,Ib _,aG,x1,by rw[KG];exact Reps.nil,List.replicate nt none,IF,GX x1⟩,?_⟩
 rintro i m acc σ' H' ⟨hi,rfl,hal,hac,x,rs,ts,hts,sx⟩
 by_cases hlt:i<xs.length
 ·refine .inr ⟨hgo _ i H' x hlt,λv H2 hy=>?_⟩;obtain⟨aa,d,hd,rd⟩:=hyl _ i v H' H2 x hlt hy;replace sx:=re_S sx (Kp.of_same aa) (x.same aa).mem;replace x:=x.same aa;replace hac:=aa _ _ hac;replace rs:=Reps.kp (Kp.of_same aa) _ _ rs;clear aa hy;have al:d∈xs:=Im hd;refine⟨_,ts.map oS++i7 caps δ,[],d,_,⟨_,sx.push (HP.more (λb z=>.inl (z.elim id λq=>q.elim)) _ _ rd)⟩,rk (hf d al) ts hts,λδ2 h2 σ2 H3 s2=>?_⟩;refine⟨_,_,[],_,s2,h2,λb δ3 h3 H4 s3=>?_⟩;have ag:=kM (f:=f) hd;have a1:∀b,(G.M0 b\/(A0 b\/b=p))->H2 b≠none:=x.mem
  cases b with
  | false =>
   obtain⟨an,hn⟩:=h3;rw[hn,IZ] at ag;obtain⟨ao,ai,e3⟩:=pX an;subst e3;obtain⟨A3,y3⟩:=s3;have sm:bF H2 H4:=λb o e=>y3.old b o e id;have x4:=x.same sm;exact⟨xs.length-(i+1),by omega,hlt,rfl,by omega,sm _ _ hac,x4,by rw[ag];exact Reps.kp (Kp.of_same sm) _ _ rs,ao,ai,re_S y3 Kp.refl x4.mem⟩
  | true =>
   refine up.mk (P:=[]) s3 h3 λy δ4 h4 yv H5 s4=>?_;obtain⟨as,hy⟩:=h4;rw[hy] at ag;obtain⟨az,aj,e4⟩:=pX as;subst e4;obtain⟨A4,y4⟩:=s4;have sm:bF H2 H5:=λb o e=>y4.old b o e id;have x5:=x.same sm;have ab:=sm _ _ hac;have ry:HP K (λb=>G.M0 b\/(A0 b\/b=p)) H5 y yv:=HP.more (λb z=>.inl (.inl z)) _ _ (y4.pnd (y,yv) 'p');have x6:=x5.poke (p:=p) (ws:=acc++[yv]) (.inr rfl) ab a0;have kp:Kp (λb=>G.M0 b\/(A0 b\/b=p)) H5 (HL H5 p (.lst (acc++[yv]))):=by
    have hk:∀b o,b≠p->H5 b=some o->HL H5 p (.lst (acc++[yv])) b=some o:=λb o n e=>by rw[aJ n];exact e
    exact⟨λb o e n=>hk b o (λz=>n (.inr (.inr z))) e,λb xs e=>hk b _ (λz=>by rw[z,ab] at e;cases e) e,λb o u e=>hk b _ (λz=>by rw[z,ab] at e;cases e) e⟩
   refine⟨ab,Jw (HX hal hi) (jL hz),xs.length-(i+1),by omega,hlt,rfl,by rw[Ij,KJ];omega,aG,x6,?_,az,aj,re_S y4 kp x6.mem⟩;rw[ag];exact Reps.kp kp _ _ (Reps.append _ _ _ _ (Reps.kp (Kp.of_same sm) _ _ rs) (Reps.one ry))
 ·have e:i=xs.length:=by omega
  subst e;rw[ID] at rs;exact .inl ⟨hst _ H' x,k A0 acc H' ah (λi a d e=>(x0.own i a d e).2.1) x hac rs⟩
theorem mS{J:It}{te:HQ}{H1:Hp}{Q:VK}(s:S K G δ P σ H1)(hz:xs.length<=9000)
  (hgo:∀A i H,Sx K G A δ P σ H->i<xs.length->J.go i H) (hst:∀A H,Sx K G A δ P σ H->J.stop xs.length H)
  (hyl:∀A i x H H2,Sx K G A δ P σ H->i<xs.length->J.yld i H x H2->bF H H2/\∃d,xs[i]?=some d/\HP K (λb=>G.M0 b\/A b) H2 d x)
  (hf:∀x∈xs,yU nt λts=>g x (ts++i7 caps δ) λδ2=>tc δ2 λb δ3=>if b=true then te δ3 (wd λy δ4=>okT nt δ4 (i7 caps δ)/\f x=some y) else okT nt δ3 (i7 caps δ)/\f x=none)
  (k:∀v H',S K G δ ((.lst (xs.filterMap f),v)::P) σ H'->Q v H') (p:Addr) (hp:H1 p=none) :
  ∃W:Nat->Nat->Zf->L2.St->Hp->Prop,(∃m,W 0 m [] (wT nt caps σ) (HL H1 p (.lst [])))/\∀i m acc σ' H',W i m acc σ' H'->(J.stop i H'/\Q (.ref p) H')\/(J.go i H'/\∀x H2,J.yld i H' x H2 ->
   upG K g x σ' H2 λσ2 H3=>upT K tc σ2 H3 λb H4=>if b=true then up K te σ2 H4 λy H5=>H5 p=some (.lst acc)/\acc.length<sizeLine/\∃m',m'<m/\W (i+1) m' (acc++[y]) σ2 (HL H5 p (.lst (acc++[y]))) else ∃m',m'<m/\W (i+1) m' acc σ2 H4) :=
 kW s hz hgo hst hyl hf p hp λA acc H' hA ho x hac rs=>k (.ref p) H' ⟨A,(x.subA (λb z=>.inl z) ho).push (by
  unfold HP
  exact⟨p,acc,rfl,hA,hac,Reps.more (λb z=>.inl (z.elim .inl λq=>.inr (.inl q))) _ _ rs⟩)⟩
end
def FD(t:HQ)(δ:En)(R:Zh->En->Prop):Prop:=t δ (wd λd δ1=>qL d λxs=>R xs δ1)
def Ev(t:HQ)(δ:En)(R:Zh->En->Prop):Prop:=t δ (wd λd δ1=>qT d λxs=>R xs δ1)
def C9(t:HK)(δ:En)(R:Zh->En->Prop):Prop:=t δ λds δ1=>qC ds λx r=>qN r <| qI x λj=>-(2 ^ 62)<=j/\j<2 ^ 62/\R ((List.range j.toNat).map λ(i:Nat)=>D.int (i:Int)) δ1
def CI(X:Cx)(tg it:Expr)(src:TDC):Prop:=∃wi,PI X tg it wi/\∀(G:Gf) (δ:En) (P:List (D×V)) (σ:L2.St) (H:Hp) (R:Zh->En->Prop) (Q:It->Hp->Prop),S X.K G δ P σ H->src δ R ->
  (∀xs δ1,R xs δ1->∀(J:It) (P1:List (D×V)) (H1:Hp),(∀q∈P,q∈P1)->S X.K G δ1 P1 σ H1->(∀A δ σ i H,Sx X.K G A δ P1 σ H->i<xs.length->J.go i H)->(∀A δ σ H,Sx X.K G A δ P1 σ H->J.stop xs.length H) ->
    (∀A δ σ i x H H2,Sx X.K G A δ P1 σ H->i<xs.length->J.yld i H x H2->bF H H2/\∃d,xs[i]?=some d/\HP X.K (λb=>G.M0 b\/A b) H2 d x)->Q J H1)->wi σ H Q
section
variable {X:Cx} {tg e:Expr} {te:HQ} {ta:HK}
theorem dg(h:DE X e te):CI X tg e (FD te):=⟨_,vZ h,λG δ P σ H R Q s hs k=>up.mk s hs λd δ1 h1 v H1 s1=>by
 replace h1:=qL.ex h1;obtain⟨xs,e,r⟩:=h1;subst e;have aa:∀A δ σ H,Sx X.K G A δ ((.lst xs,v)::P) σ H->∃a vs,v=.ref a/\H a=some (.lst vs)/\Reps X.K (λb=>G.M0 b\/A b) H xs vs:=λA δ σ H x=>by
  have q:=x.pnd (.lst xs,v) 'p'
  unfold HP at q;obtain⟨a,vs,e,_,l,r⟩:=q;exact⟨a,vs,e,l,r⟩
 obtain⟨A1,x1⟩:=id s1;obtain⟨a,ab,rfl,l0,_⟩:=aa _ _ _ _ x1;refine⟨a,rfl,⟨ab,Ht.of l0⟩,k xs δ1 r _ _ H1 (λq hq=>by simp[hq]) s1 (λA δ σ i H x hi=>?_) (λA δ σ H x=>?_) λA δ σ i y H H2 x hi hy=>?_⟩
 ·obtain⟨b,vs,e,l,r⟩:=aa _ _ _ _ x
  cases e
  obtain⟨w',hw,_⟩:=Reps.get _ _ r i xs[i] (by simp[hi]);exact⟨vs,w',Ht.of l,hw⟩
 ·obtain⟨b,vs,e,l,r⟩:=aa _ _ _ _ x
  cases e
  exact⟨vs,Ht.of l,by rw[Reps.length _ _ r];exact Ib _⟩
 ·obtain⟨b,vs,e,l,r⟩:=aa _ _ _ _ x
  cases e
  obtain⟨e,hy⟩:=hy;obtain⟨w',hw,ag⟩:=Reps.get _ _ r i xs[i] (by simp[hi]);have z:=hy vs (Ht.of l);rw[hw] at z
  cases z
  subst e
  exact⟨bF.refl _,xs[i],by simp[hi],ag⟩⟩
theorem mQ(h:DE X e te):CI X tg e (Ev te):=⟨_,zF h,λG δ P σ H R Q s hs k=>up.mk s hs λd δ1 h1 v H1 s1=>by
 replace h1:=qT.ex h1;obtain⟨xs,e,r⟩:=h1;subst e;have aa:∀A δ σ H,Sx X.K G A δ ((.tup xs,v)::P) σ H->∃a vs,v=.ref a/\Hv X.K H a vs/\Reps X.K (λb=>G.M0 b\/A b) H xs vs:=λA δ σ H x=>by
  have q:=x.pnd (.tup xs,v) 'p'
  unfold HP at q;exact q
 obtain⟨A1,x1⟩:=id s1;obtain⟨a,ab,rfl,l0,_⟩:=aa _ _ _ _ x1;refine⟨a,rfl,⟨ab,l0⟩,k xs δ1 r _ _ H1 (λq hq=>by simp[hq]) s1 (λA δ σ i H x hi=>?_) (λA δ σ H x=>?_) λA δ σ i y H H2 x hi hy=>?_⟩
 ·obtain⟨b,vs,e,l,r⟩:=aa _ _ _ _ x
  cases e
  obtain⟨w',hw,_⟩:=Reps.get _ _ r i xs[i] (by simp[hi]);exact⟨vs,w',l,hw⟩
 ·obtain⟨b,vs,e,l,r⟩:=aa _ _ _ _ x
  cases e
  exact⟨vs,l,by rw[Reps.length _ _ r];exact Ib _⟩
 ·obtain⟨b,vs,e,l,r⟩:=aa _ _ _ _ x
  cases e
  obtain⟨e,hy⟩:=hy;obtain⟨w',hw,ag⟩:=Reps.get _ _ r i xs[i] (by simp[hi]);have z:=hy vs l;rw[hw] at z
  cases z
  subst e
  exact⟨bF.refl _,xs[i],by simp[hi],ag⟩⟩
theorem jd{a:Expr}{p:Pos}(hg:Gl X "range")(hm:X.mg "range"=none)(ha:DA X [a] ta)(hs:starEach [a] X.env=[(false,eval a X.env)]:=by rfl):CI X tg (.Call (.Name "range" p) [a] [] pos) (C9 ta) :=
 ⟨_,nu hg hm ha hs,λG δ P σ H R Q s hs k=>⟨G,δ,P,_,s,hs,λds δ1 h1 vs H1 hl s1=>by
  replace h1:=qC.ex h1;obtain⟨x,r,e,h1⟩:=h1;replace h1:=qN.ex h1;obtain⟨e',h1⟩:=h1;replace h1:=qI.ex h1;obtain⟨j,e2,h1,h2,r⟩:=h1;subst e2 e' e
  match vs,hl with
  | [v],_ =>
   have q:v=.int j:=by
    obtain⟨A,x⟩:=s1;exact aT (x.pnd (.int j,v) 'p')
   subst q;refine⟨j,rfl,h1,h2,k _ δ1 r _ P H1 (λq hq=>hq) (s1.sub λp hp=>by simp[hp]) (λA δ σ i H x hi=>?_) (λA δ σ H x=>?_) λA δ σ i y H H2 x hi hy=>?_⟩
   ·rw[HS,Ji] at hi;exact hi
   ·rw[HS,Ji];exact Ib _
   ·rw[HS,Ji] at hi;obtain⟨e,hy⟩:=hy;subst e;refine⟨bF.refl _,.int i,by rw[List.getElem?_map,List.getElem?_range hi];rfl,?_⟩;unfold HP
    rw[hy,J5]⟩⟩
def DF(X:Cx)(ifs:List Expr)(t:TDT):Prop:=PF X ifs (upT X.K t)
theorem cD:DF X [] (λδ R=>R true δ):=λpins s σ H Q I ⟨G,δ,P,R,s',h,k⟩=>E5 pins s σ H Q I (k true δ h H s')
theorem ff{c:Expr}{t:TDT}(h:DT X c t):DF X [c] t:=Ey h
theorem bq{elt tgt iter:Expr}{ifs:List Expr}{scope:Scope}{src:TDC}(tn:Zb)(caps:List (Nat×Str))
  (hcalm:X.calm=true) (hclos:closureFor scope X.env=pure cl) (hcell:∀p∈caps,(p.2,NameKind.cell)∉scope.names) (hkind:scope.kind=.function) (hnames:∀y∈scope.names,y.2=.local->scope.names.lookup y.1=some .local)
  (hcl:∀x c,cl.lookup x=some c->X.env.cells.lookup x=some c) (hhas:∀(n:Nat) x,'v'->∃c,(cellsFrom n scope.names []++cl).lookup x=some c)
  (hcap:∀p∈caps,X.N[p.1]?=some p.2/\X.env.scope.names.lookup p.2=some .cell/\'u')
  (hi:CI X.nox tgt iter src)
  (hb:∀s2 H2 C fp pn,DG 'h' tgt g/\DF 'h' ifs tc/\DE 'h' elt te)
  (hs:∀x,foldedSetIterable iter X.env x=pure x:=by intro _;rfl):DE X.nox (.ListComp elt [⟨tgt,iter,ifs,0⟩] scope pos) (xL src tn.length caps g tc te):=by
 obtain⟨wi,hi,hw⟩:=hi;refine PE.imp (BP (g:=upG X.K g) (tc:=upT X.K tc) (te:=up X.K te) tn caps hcalm hclos hcell hkind hnames hcl hhas hcap hi hb hs) λσ H Q ⟨G,δ,P,R,s,h,k,_⟩=>?_;refine hw G δ P σ H _ _ s h λxs δ1 ⟨hz,f,hf,r⟩ J P1 H1 hP s1 hgo hst hyl p hp=>?_
 exact mS s1 hz (λA i H x hi=>hgo A _ _ i H x hi) (λA H x=>hst A _ _ H x) (λA i x H H2 s hi hy=>hyl A _ _ i x H H2 s hi hy) hf (λv H' s'=>k _ δ1 r v H' (s'.sub λq hq=>by
  rcases Ih.mp hq with rfl | hq
  ·simp
  ·exact HV _ (hP q hq))) p hp
theorem yq(hX:X.nox=X){elt tgt iter:Expr}{ifs:List Expr}{scope:Scope}{src:TDC}(tn:Zb)(caps:List (Nat×Str))
  (hcalm:X.calm=true) (hclos:closureFor scope X.env=pure cl) (hcell:∀p∈caps,(p.2,NameKind.cell)∉scope.names) (hkind:scope.kind=.function) (hnames:∀y∈scope.names,y.2=.local->scope.names.lookup y.1=some .local)
  (hcl:∀x c,cl.lookup x=some c->X.env.cells.lookup x=some c) (hhas:∀(n:Nat) x,'v'->∃c,(cellsFrom n scope.names []++cl).lookup x=some c)
  (hcap:∀p∈caps,X.N[p.1]?=some p.2/\X.env.scope.names.lookup p.2=some .cell/\'u')
  (hi:CI X.nox tgt iter src)
  (hb:∀s2 H2 C fp pn,DG 'h' tgt g/\DF 'h' ifs tc/\DE 'h' elt te)
  (hs:∀x,foldedSetIterable iter X.env x=pure x:=by intro _;rfl):DE X (.ListComp elt [⟨tgt,iter,ifs,0⟩] scope pos) (xL src tn.length caps g tc te):=by
 have q:=bq (X:=X) tn caps hcalm hclos hcell hkind hnames hcl hhas hcap hi hb hs (pos:=pos)
 rw[hX] at q;exact q
end
def Dm(cells:List (Str×Addr)):List (Str×Addr)->Prop
 | []=>True
 | y::r=>cells.lookup y.1=some y.2/\Dm cells r
theorem ba{cells:List (Str×Addr)}:∀ {cl:List (Str×Addr)},Dm cells cl->∀x c,cl.lookup x=some c->cells.lookup x=some c
 | [],_,x,c,h=>by cases h
 | y::r,⟨h1,h2⟩,x,c,h=>by
  rw[List.lookup_cons] at h
  cases e:x==y.1 with
  | true =>
   rw[e] at h;have e:=eq_of_beq e
   cases h
   rw[e];exact h1
  | false =>
   rw[e] at h;exact ba h2 x c h
theorem be{names:List (Str×NameKind)}(h:(names.all λy=>!(y.2 == .cell||y.2 == .free)||(cl.lookup y.1).isSome)=true):∀x,(names.lookup x=some .cell\/names.lookup x=some .free)->∃c,cl.lookup x=some c:=λx hx=>by
 have aa:∀(ns:List (Str×NameKind)) k,ns.lookup x=some k->(x,k)∈ns:=λns=>by
  induction ns with
  | nil=>intro k h;cases h
  | cons y r ih =>
   intro k h;rw[List.lookup_cons] at h
   cases e:x==y.1 with
   | true =>
    rw[e] at h;have e:=eq_of_beq e
    cases h
    rw[e];exact HY ..
   | false =>
    rw[e] at h;exact HV _ (ih k h)
 have go:∀k,(k=.cell\/k=.free)->names.lookup x=some k->∃c,cl.lookup x=some c:=λk hk e=>by
  have m:=aa _ _ e
  have q:=List.all_eq_true.mp h _ m
  have hb:((k==NameKind.cell||k == .free))=true:=by rcases hk with rfl | rfl<;>rfl
  simp only[hb,Bool.not_true,Bool.false_or] at q;exact Option.isSome_iff_exists.mp q
 rcases hx with e | e
 ·exact go _ (.inl rfl) e
 ·exact go _ (.inr rfl) e
def zS(p:Nat×Str->Prop):List (Nat×Str)->Prop
 | []=>True
 | y::r=>p y/\zS p r
theorem aN{p:Nat×Str->Prop}:∀ {l:List (Nat×Str)},zS p l->∀y∈l,p y
 | [],_,y,h=>by cases h
 | z::r,⟨h1,h2⟩,y,h=>by
  rcases Ih.mp h with rfl | h
  ·exact h1
  ·exact aN h2 y h
end DL
namespace DL
open PySem PySem.Spec PyProof.Rows L2
variable {x y:Str} {st:Stmt} {ps:Zb} {p:Pos}
abbrev FO:=D->List D->(D->D->Prop)->Prop
def spO(K:PySem.W.Frag)(f:FO):Sp:=λvs H Q _=>∃(M:Addr->Prop) (a:Addr) (d0:D) (vs':Zf) (ds:Zh) (R:D->D->Prop),vs=.ref a::vs'/\(∀b,M b->H b≠none)/\¬ M a/\bG K (λb=>M b\/b=a) H a d0/\Reps K (λb=>M b\/b=a) H ds vs'/\f d0 ds R /\
 ∀r d1,R r d1->∀v H',(∀b o,b≠a->H b=some o->H' b=some o)->bG K (λb=>M b\/b=a) H' a d1->HP K (λb=>M b\/b=a) H' r v->Q v H'
def xM(K:PySem.W.Frag)(f:FO):Sp:=λvs H Q E=>∃v0 v1,vs=[v0,v1]/\spO K f [v1,v0] H Q E
section
variable {P:Program} {w:World} {K:PySem.W.Frag} {mg:Str→Zd} {base:Heap}
theorem eO{f:Zh->(D->Prop)->Prop}(F:Fd K mg x st ps)(k:Nat)(h:∀ds R,¬ f ds R):Cal P w K mg base k x ps (HN K f):=by
 obtain⟨a,fd,Fu,b,m⟩:=F.ex;have no:∀vs H Q E,¬ HN K f vs H Q E:=λvs H Q E ⟨_,ds,R,_,_,hf,_⟩=>h ds R hf;exact⟨a,fd,⟨λvs H Q E h=>absurd h (no vs H Q E),λA outer s H args us vs Q E _ _ _ _ h=>absurd h (no vs H Q E)⟩,b,Fu.kp,m⟩
theorem uE{f:FO}(F:Fd K mg x st ps)(k:Nat)(h:∀d ds R,¬ f d ds R):Cal P w K mg base k x ps (xM K f):=by
 obtain⟨a,fd,Fu,b,m⟩:=F.ex;have no:∀vs H Q E,¬ xM K f vs H Q E:=λvs H Q E ⟨_,_,_,_,_,d0,_,ds,R,_,_,_,_,_,hf,_⟩=>h d0 ds R hf;exact⟨a,fd,⟨λvs H Q E h=>absurd h (no vs H Q E),λA outer s H args us vs Q E _ _ _ _ h=>absurd h (no vs H Q E)⟩,b,Fu.kp,m⟩
theorem qq{M:Addr->Prop}{a:Addr}{d0:D}{ds1 ds2:Zh}{vs1 vs2:Zf}{H:Hp}(N:Zb)(m:∀b,M b->H b≠none)(na:¬ M a)(ow:bG K (λb=>M b\/b=a) H a d0)(r1:Reps K (λb=>M b\/b=a) H ds1 vs1)(r2:Reps K (λb=>M b\/b=a) H ds2 vs2) :
  S K ⟨M,H,λb=>b=a⟩ (ds1.map Sl.dat++Sl.own a d0::(ds2.map Sl.dat++List.replicate (N.length-(ds1.length+1+ds2.length)) Sl.no)) [] (L2.start N (vs1++.ref a::vs2)) H:=by
 have ag:=Reps.length _ _ r1
 have ai:=Reps.length _ _ r2
 have ab:H a≠none:=by
  cases d0 with
  | lst ds=>obtain⟨vs,q,_⟩:=ow;rw[q];exact λz=>nomatch z
  | dct ks ds=>obtain⟨vs,q,_⟩:=ow;rw[q];exact λz=>nomatch z
  | _=>exact ow.elim
 have aa:∀(i:Nat) z,(ds1.map Sl.dat++Sl.own a d0::(ds2.map Sl.dat++List.replicate (N.length-(ds1.length+1+ds2.length)) Sl.no))[i]?=some z ->
   (∃d,ds1[i]?=some d/\z=.dat d)\/(i=ds1.length/\z=.own a d0)\/(∃d,ds1.length+1<=i/\ds2[i-(ds1.length+1)]?=some d/\z=.dat d)\/z=.no:=λi z e=>by
  by_cases h1:i<ds1.length
  ·rw[List.getElem?_append_left (by rw[HS];exact h1),List.getElem?_map] at e
   cases hd:ds1[i]? with
   | none=>rw[hd] at e;cases e
   | some d=>rw[hd] at e;exact .inl ⟨d,rfl,(Iq e).symm⟩
  ·rw[List.getElem?_append_right (by rw[HS];omega),HS] at e
   by_cases h2:i=ds1.length
   ·subst h2;rw[Nat.sub_self,List.getElem?_cons_zero] at e;exact .inr (.inl ⟨rfl,(Iq e).symm⟩)
   ·have e3:i-ds1.length=(i-(ds1.length+1))+1:=by omega
    rw[e3,List.getElem?_cons_succ] at e
    by_cases h3:i-(ds1.length+1)<ds2.length
    ·rw[List.getElem?_append_left (by rw[HS];exact h3),List.getElem?_map] at e
     cases hd:ds2[i-(ds1.length+1)]? with
     | none=>rw[hd] at e;cases e
     | some d=>rw[hd] at e;exact .inr (.inr (.inl ⟨d,by omega,rfl,(Iq e).symm⟩))
    ·rw[List.getElem?_append_right (by rw[HS];omega),List.getElem?_replicate] at e
     split at e
     ·exact .inr (.inr (.inr (Iq e).symm))
     ·cases e
 have st:∀i,i<(vs1++V.ref a::vs2).length->(L2.start N (vs1++.ref a::vs2))[i]?=(vs1++V.ref a::vs2)[i]?.map some:=λi hi=>by
  unfold L2.start;rw[List.getElem?_append_left (by rw[HS];exact hi),List.getElem?_map]
 have hM:∀b,(M b\/b=a)->(M b\/b=a)\/H b=none:=λb h=>.inl h
 refine⟨λb=>b=a,λb o e _=>e,λb e=>e,m,λb h=>⟨by rw[h];exact ab,by rw[h];exact na⟩,λb h=>.inr h,λb h=>by rw[h];exact ab,?_,λi d e=>?_,λi a' d e=>?_,λi j a' d e h1 h2=>?_,λp hp=>(nomatch hp)⟩
 ·unfold L2.start;simp only[List.length_append,List.length_map,List.length_cons,List.length_replicate];omega
 ·rcases aa i _ e with⟨d',hd,z⟩ | ⟨_,z⟩ | ⟨d',hi,hd,z⟩ | z
  ·cases z
   obtain⟨v,ev,rv⟩:=Reps.get _ _ r1 i d hd;have hi:i<vs1.length:=(List.getElem?_eq_some_iff.mp ev).1;exact⟨v,by rw[st i (by rw[Ij];omega),List.getElem?_append_left hi,ev];rfl,rv⟩
  ·cases z
  ·cases z
   obtain⟨v,ev,rv⟩:=Reps.get _ _ r2 _ d hd;have ah:i-(ds1.length+1)<vs2.length:=(List.getElem?_eq_some_iff.mp ev).1;refine⟨v,?_,rv⟩;rw[st i (by rw[Ij,Ik];omega),List.getElem?_append_right 'b',<- ag];have e3:i-ds1.length=(i-(ds1.length+1))+1:=by omega
   rw[e3,List.getElem?_cons_succ,ev];rfl
  ·cases z
 ·rcases aa i _ e with⟨d',hd,z⟩ | ⟨hi,z⟩ | ⟨d',hi,hd,z⟩ | z
  ·cases z
  ·cases z
   subst hi;refine⟨?_,rfl,ow⟩;rw[st _ (by rw[Ij,Ik];omega),List.getElem?_append_right 'b',ag,Nat.sub_self];rfl
  ·cases z
  ·cases z
 ·have u:∀i a' d,(ds1.map Sl.dat++Sl.own a d0::(ds2.map Sl.dat++List.replicate (N.length-(ds1.length+1+ds2.length)) Sl.no))[i]?=some (.own a' d)->i=ds1.length:=λi a' d e=>by
   rcases aa i _ e with⟨d',hd,z⟩ | ⟨hi,z⟩ | ⟨d',hi,hd,z⟩ | z
   ·cases z
   ·exact hi
   ·cases z
   ·cases z
  rw[u i _ _ h1,u j _ _ h2]
theorem jy{M A':Addr->Prop}{a:Addr}{d:D}{H':Hp}(ha:A' a)(o:bG K (λb=>M b\/A' b) H' a d):bG K (λb=>M b\/b=a) H' a d:=bG.more (λb z=>.inl (z.elim .inl λe=>.inr (by rw[e];exact ha))) o
theorem fn_O{N:Zb}{k:Nat}{f:FO}(F:Fd K mg x st ps)(Sc:ax N ps (aq st))(len:∀d ds R,f d ds R->ds.length+1=ps.length)
    (hbody:∀(fa:Addr) (cdv:Value) (A:Around) (outer:List Env) (s:Shared) (H:Hp) (E:XK) (a:Addr) (d0:D) (ds:Zh) (R:D->D->Prop),gG k (A.deeper (envOfC x (aq st) s.heap.objs.size fa cdv))->f d0 ds R ->
      ∃t,DSs (wX CX0 P w K mg base N x (aq st) fa cdv A outer s H E).nox (bP st) t /\
        t { nx:=λδ=>∃d1,δ[0]?=some (.own a d1)/\R .non d1,rt:=λd δ=>∃d1,δ[0]?=some (.own a d1)/\R d d1 } (Sl.own a d0::(ds.map Sl.dat++List.replicate (N.length-(1+ds.length)) Sl.no))) :
    Cal P w K mg base (k+1) x ps (spO K f):=by
  obtain⟨fa,fd,Fu,b,mm⟩:=F.ex;refine⟨fa,fd,Fu.ok Sc (λvs H Q E h=>?_) (λcdv A outer s H vs Q E hr h=>?_),b,Fu.kp,mm⟩
  · obtain⟨M,a,d0,ab,ds,R,rfl,m,na,ow,rs,hf,hk⟩:=h;rw[Ik,<- Reps.length _ _ rs];exact len _ _ _ hf
  · obtain⟨M,a,d0,ab,ds,R,rfl,m,na,ow,rs,hf,hk⟩:=h;obtain⟨t,ht,hq⟩:=hbody fa cdv A outer s H E a d0 ds R hr hf;have ss:=qq (ds1:=[]) (vs1:=[]) N m na ow Reps.nil rs;rw[show ([]:Zh).length+1+ds.length=1+ds.length by simp] at ss;refine⟨_,ht,_,_,[],_,ss,hq,λδ' ⟨d1,e,r⟩ σ' H' ⟨A',x⟩=>?_,⟨λd δ' ⟨d1,e,r⟩ v σ' H' ⟨A',x⟩=>?_,λ_ h=>h.elim,λ_ _ _ z=>z.elim⟩,λ_ h=>h.elim,λ_ h=>h.elim,λz=>z.elim⟩
    · obtain⟨_,aa,oo⟩:=x.own 0 a d1 e;exact hk _ _ r .non H' (λb o n e=>x.old b o e n) (jy aa oo) (by unfold HP;rfl)
    · obtain⟨_,aa,oo⟩:=x.own 0 a d1 e;exact hk _ _ r v H' (λb o n e=>x.old b o e n) (jy aa oo) (HP.more (λb z=>.inl (z.elim .inl λe=>.inr (by rw[e];exact aa))) _ _ (x.pnd (d,v) 'p'))
theorem F8{N:Zb}{k:Nat}{f:FO}(F:Fd K mg x st ps)(Sc:ax N ps (aq st))(hp:ps.length=2)(len:∀d ds R,f d ds R->ds.length=1)
    (hbody:∀(fa:Addr) (cdv:Value) (A:Around) (outer:List Env) (s:Shared) (H:Hp) (E:XK) (a:Addr) (d0 d:D) (R:D->D->Prop),gG k (A.deeper (envOfC x (aq st) s.heap.objs.size fa cdv))->f d0 [d] R ->
      ∃t,DSs (wX CX0 P w K mg base N x (aq st) fa cdv A outer s H E).nox (bP st) t /\
        t { nx:=λδ=>∃d1,δ[1]?=some (.own a d1)/\R .non d1,rt:=λd δ=>∃d1,δ[1]?=some (.own a d1)/\R d d1 } (Sl.dat d::Sl.own a d0::List.replicate (N.length-2) Sl.no)) :
    Cal P w K mg base (k+1) x ps (xM K f):=by
  obtain⟨fa,fd,Fu,b,mm⟩:=F.ex;refine⟨fa,fd,Fu.ok Sc (λvs H Q E h=>?_) (λcdv A outer s H vs Q E hr h=>?_),b,Fu.kp,mm⟩
  · obtain⟨v0,v1,rfl,_⟩:=h;exact hp.symm
  · obtain⟨v0,v1,rfl,M,a,d0,ab,ds,R,e,m,na,ow,rs,hf,hk⟩:=h
    cases e
    have hl:=len _ _ _ hf
    match ds,hl with
    | [d],_ =>
      obtain⟨t,ht,hq⟩:=hbody fa cdv A outer s H E a d0 d R hr hf;have ss:=qq (ds2:=[]) (vs2:=[]) N m na ow rs Reps.nil;refine⟨_,ht,_,_,[],_,ss,hq,λδ' ⟨d1,e,r⟩ σ' H' ⟨A',x⟩=>?_,⟨λd δ' ⟨d1,e,r⟩ v σ' H' ⟨A',x⟩=>?_,λ_ h=>h.elim,λ_ _ _ z=>z.elim⟩,λ_ h=>h.elim,λ_ h=>h.elim,λz=>z.elim⟩
      · obtain⟨_,aa,oo⟩:=x.own 1 a d1 e;exact hk _ _ r .non H' (λb o n e=>x.old b o e n) (jy aa oo) (by unfold HP;rfl)
      · obtain⟨_,aa,oo⟩:=x.own 1 a d1 e;exact hk _ _ r v H' (λb o n e=>x.old b o e n) (jy aa oo) (HP.more (λb z=>.inl (z.elim .inl λe=>.inr (by rw[e];exact aa))) _ _ (x.pnd (d,v) 'p'))
end
def kN(i:Nat)(R:a7)(δ:En)(d:D):Prop:=∀a,lH δ i (.own a d) R.nx
def kO(i:Nat)(a:Addr)(R:W->En->Prop)(δ:En)(r d:D):Prop:=lH δ i (.own a d) (R (.d r))
def Ff(i:Nat)(t:HK)(R:a7)(δ:En):Prop:=t δ λds δ1=>q9 ds (∀a,lH δ1 i (.own a (.lst ds)) R.nx)
def Et(i:Nat)(R:a7)(δ:En):Prop:=∀a,lH δ i (.own a (.dct [] [])) R.nx
def DJ(i:Nat)(R:a7)(δ:En):Prop:=qW δ[i]? λ_ d=>R.ro d
def Fq(t:HK)(R:a7)(δ:En):Prop:=t δ λds _=>q9 ds (R.ro (.lst ds))
def Ed(i:Nat)(δ:En)(R:W->En->Prop):Prop:=qWL δ[i]? λ_ ds=>R (.d (.int ds.length)) δ
def vI(i:Nat)(δ:En)(R:W->En->Prop):Prop:=qWL δ[i]? λ_ ds=>R (.d (.tup ds)) δ
def oy(i:Nat)(t:TDS)(R:a7)(δ:En):Prop:=qW δ[i]? λ_ d=>lH δ i (.dat d) (t R)
def wO(i:Nat)(f:FO)(ta:HQ)(δ:En)(R:W->En->Prop):Prop:=ta δ (wd λz δ1=>qW δ1[i]? λa d0=>f d0 [z] (kO i a R δ1))
def Eu(i:Nat)(ta:HQ)(R:a7)(δ:En):Prop:=qWL δ[i]? λa _=>ta δ (wd λx δ1=>BH δ1[i]? λds=>ds.length<9000/\lH δ1 i (.own a (.lst (ds++[x]))) R.nx)
section
variable {X:Cx} {pos:Pos} {a b e:Expr} {es:List Expr} {ta tb:HQ} {t:HK} {f:Zh→(D→Prop)→Prop}
theorem S.ret{K:PySem.W.Frag}{G:Gf}{δ:En}{P:List (D×V)}{σ:L2.St}{H:Hp}{i:Nat}{a:Addr}{d:D}(s:S K G δ P σ H)(e:δ[i]?=some (.own a d)):zP K G H a d:=by
 obtain⟨A,x⟩:=s;obtain⟨_,aa,oo⟩:=x.own i a d e;exact⟨x.old,x.new a aa,λz=>(x.new a aa).elim (λq=>x.m0 a z q) λq=>(x.pm a q).2 z,jy aa oo⟩
theorem lL(i:Nat)(hN:X.N[i]?=some x:=by rfl)(hv:Vis X.env.scope x:=by walk_at "v3")(hd:(x==("__debug__":Str))=false:=by decide)
  (hcd:(x==("__classdict__":Str))=false:=by decide):DS X (.Return (some (.Name x p)) pos) (DJ i) :=
 PS.imp (vA (dP hN hv hd hcd)) λE σ H ⟨G,δ,P,R,s,h,_,k,_⟩=>let ⟨a,d,e,r⟩:=qW.ex h;⟨.ref a,s.own e,k.2.1 d r a H (s.ret e)⟩
theorem ds_retL(h:DA X es t):DS X (.Return (some (.List es p)) pos) (Fq t) :=
 PS.imp (vA (vk h)) λE σ H ⟨G,δ,P,R,s,h,_,k,_⟩=>⟨G,δ,P,_,s,h,λds δ1 h9 vs H1 hl ⟨A,x⟩=>⟨by rw[<- hl];exact e8 (q9.ex h9).1,λp hp=>k.2.1 _ (q9.ex h9).2 p _ (by
  have rs:=x.reps ds vs hl (λq hq=>Il _ hq)
  have sm:=aH hp (.lst vs)
  have nm:¬ (G.M0 p\/A p):=λz=>x.mem p z hp
  refine⟨λb o e n=>sm b o (x.old b o e n),.inl ?_,λz=>nm (.inl z),vs,aG,Reps.kp (Kp.of_same sm) _ _ (Reps.more (λb z=>?_) _ _ rs)⟩
  ·cases q:G.H0 p with
   | none=>rfl
   | some o=>exact absurd hp (x.stay p (by rw[q];exact λz=>nomatch z))
  ·rcases z with z | z
   ·exact .inl (.inl z)
   ·exact .inr (by rw[z];exact hp))⟩⟩
theorem dz(i:Nat){pos':Pos}(hN:X.N.Nodup)(h:DA X es t)(hi:X.N[i]?=some x:=by rfl)(hx:Loc X.env.scope x:=by walk_at "v2")(hs:swapsWith (.List es p) (some (.Name x pos')) pos.line X.env=pure false:=by rfl)
  (hf:X.fn x=true\/X.env.scope.names.lookup x=some .local :=by walk_at "v1"):DS X (.Assign [.Name x pos'] (.List es p) pos) (Ff i t) :=
 PS.imp (nD hN hi hx (vk h) hs hf) λE σ H ⟨G,δ,P,R,s,h,k,_⟩=>⟨G,δ,P,_,s,h,λds δ1 h9 vs H1 hl ⟨A,x⟩=>⟨by rw[<- hl];exact e8 (q9.ex h9).1,λp hp=>by
  have r:=(q9.ex h9).2
  have rs:=x.reps ds vs hl (λq hq=>Il _ hq)
  have sm:=aH hp (.lst vs)
  refine k _ (r p) _ _ ⟨_,x.claim (P':=P) hp sm ⟨vs,aG,Reps.kp (Kp.of_same sm) _ _ (Reps.more (λb z=>?_) _ _ rs)⟩ λq hq=>Ig _ hq⟩
  rcases z with z | z
  ·exact .inl z
  ·exact .inr (by rw[z];exact hp)⟩⟩
theorem fM(i:Nat){pos':Pos}(hN:X.N.Nodup)(hi:X.N[i]?=some x:=by rfl)(hx:Loc X.env.scope x:=by walk_at "v2")(hs:swapsWith (.Dict [] [] p) (some (.Name x pos')) pos.line X.env=pure false:=by rfl)
  (hf:X.fn x=true\/X.env.scope.names.lookup x=some .local :=by walk_at "v1"):DS X (.Assign [.Name x pos'] (.Dict [] [] p) pos) (Et i) :=
 PS.imp (nD hN hi hx rB hs hf) λE σ H ⟨G,δ,P,R,⟨A,x⟩,h,k,_⟩=>λp hp=>by
  have sm:=aH hp (.dK [])
  exact k _ (h p) _ _ ⟨_,x.claim (P':=P) hp sm ⟨[],by rw[aG];rfl,rfl,Reps.nil⟩ λq hq=>hq⟩
theorem B0{K:PySem.W.Frag}{G:Gf}{A:Addr->Prop}{δ:En}{P P':List (D×V)}{σ:L2.St}{H:Hp}{i:Nat}{a:Addr}{d0:D}{ds:Zh}{vs:Zf}{f:FO}{R:D->D->Prop}{Q:VK}{E:XK}(x:Sx K G A δ P σ H)(hi:δ[i]?=some (.own a d0))(hl:ds.length=vs.length)(hp:∀p∈ds.zip vs,p∈P)
  (hP:∀p∈P',p∈P) (hf:f d0 ds R) (k:∀r d1,R r d1->∀v H',S K G (δ.set i (.own a d1)) ((r,v)::P') σ H'->Q v H'):spO K f (.ref a::vs) H Q E:=by
 obtain⟨_,aa,oo⟩:=x.own i a d0 hi;have e1:∀b,(((G.M0 b\/A b)/\b≠a)\/b=a)->(G.M0 b\/A b):=λb h=>h.elim (λz=>z.1) λz=>.inr (by rw[z];exact aa);have e2:∀b,(G.M0 b\/A b)->(((G.M0 b\/A b)/\b≠a)\/b=a):=λb h=>by
  by_cases z:b=a
  ·exact .inr z
  ·exact .inl ⟨h,z⟩
 refine⟨λb=>(G.M0 b\/A b)/\b≠a,a,d0,vs,ds,R,rfl,λb z=>x.mem b z.1,λz=>z.2 rfl,bG.more (λb z=>.inl (e1 b z)) oo,Reps.more (λb z=>.inl (e1 b z)) _ _ (x.reps ds vs hl hp),hf,λr d1 hr v H' hk ow rp=>k r d1 hr v H' ⟨A,?_⟩⟩;exact((x.change hi hk (bG.more (λb z=>.inl (e2 b z)) ow)).sub hP).push (HP.more (λb z=>.inl (e2 b z)) _ _ rp)
theorem nS(i:Nat){f:FO}{x y:Str}{k:Nat}{ps:Zb}{p p2 pos:Pos}(C:Cal X.prog X.w X.K X.mg X.base k x ps (xM X.K f))(hr:gG k X.A)(hg:Gl X x)(ha:DE X a ta)(hN:X.N[i]?=some y:=by rfl)
  (hv:Vis X.env.scope y:=by walk_at "v3") (hd:(y==("__debug__":Str))=false:=by decide) (hcd:(y==("__classdict__":Str))=false:=by decide) (hdb:(x==("__debug__":Str))=false:=by decide)
  (he:starEach [a,.Name y p2] X.env=(false,eval a X.env)::starEach [.Name y p2] X.env:=by rfl) (he2:starEach [.Name y p2] X.env=(false,eval (.Name y p2) X.env)::starEach [] X.env:=by rfl) (hpl:(backTo pos (starEach [.Name y p2] X.env)).any (·.1)=false:=by rfl) :
  DE X (.Call (.Name x p) [a,.Name y p2] [] pos) (wO i f ta):=by
 obtain⟨g,fd,F,b,kp,m⟩:=C.ex;refine PE.imp (my F hr hg m kp b .nil Bg (bX ha (bX (dP hN hv hd hcd) gf he2) he) hdb he hpl) λσ H Q ⟨G,δ,P,R,s,h,k,_⟩=>up.mk s h λz δ1 h1 v H1 s1=>?_;replace h1:=qW.ex h1;obtain⟨a,d0,hi,hf⟩:=h1;refine⟨.ref a,s1.own hi,?_⟩;show xM X.K f [v,.ref a] H1 Q _;obtain⟨A,x⟩:=s1;exact⟨v,.ref a,rfl,B0 (ds:=[z]) x hi rfl 'p' (P':=P) (λq hq=>HV _ hq) hf λr d1 hr v H' s'=>k r _ hr v H' s'⟩
theorem gL{K:PySem.W.Frag}{G:Gf}{A:Addr->Prop}{δ:En}{P:List (D×V)}{σ:L2.St}{H:Hp}{i:Nat}{a:Addr}{ds:Zh}(x:Sx K G A δ P σ H)(hi:δ[i]?=some (.own a (.lst ds))):σ[i]?=some (some (.ref a))/\A a/\∃vs,H a=some (.lst vs)/\Reps K (λb=>G.M0 b\/A b) H ds vs:=by
 obtain⟨h1,h2,vs,h3,h4⟩:=x.own i a _ hi;exact⟨h1,h2,vs,h3,h4⟩
theorem BF(i:Nat){p2 pos:Pos}(hg:Gl X "len")(hm:X.mg "len"=none)(hv':bootBuiltins "len"=some (.builtin "len"))(hN:X.N[i]?=some y:=by rfl)(hv:Vis X.env.scope y:=by walk_at "v3")
  (hd:(y==("__debug__":Str))=false:=by decide) (hcd:(y==("__classdict__":Str))=false:=by decide) (he:starEach [.Name y p2] X.env=(false,eval (.Name y p2) X.env)::starEach [] X.env:=by rfl) (hpl:(backTo pos (starEach [] X.env)).any (·.1)=false:=by rfl) :
  DE X (.Call (.Name "len" p) [.Name y p2] [] pos) (Ed i) :=
 PE.imp (l8 iE hg hm hv' (bX (dP hN hv hd hcd) gf he) 'd' 'd' he hpl) λσ H Q ⟨G,δ,P,R,s,h,k,_⟩=>by
  replace h:=qWL.ex h;obtain⟨a,ds,e,h⟩:=h;obtain⟨A,x⟩:=id s;obtain⟨h1,aa,vs,ab,rs⟩:=gL x e;exact⟨.ref a,h1,a,vs,rfl,.inl (Ht.of ab),k _ δ h _ H (s.sc (by rw[Reps.length _ _ rs];rfl))⟩
theorem jp(i:Nat){p2 pos:Pos}(hg:Gl X "tuple")(hm:X.mg "tuple"=none)(hv':bootBuiltins "tuple"=some (.type "tuple"))(hN:X.N[i]?=some y:=by rfl)(hv:Vis X.env.scope y:=by walk_at "v3")
  (hd:(y==("__debug__":Str))=false:=by decide) (hcd:(y==("__classdict__":Str))=false:=by decide) (he:starEach [.Name y p2] X.env=(false,eval (.Name y p2) X.env)::starEach [] X.env:=by rfl) (hpl:(backTo pos (starEach [] X.env)).any (·.1)=false:=by rfl) :
  DE X (.Call (.Name "tuple" p) [.Name y p2] [] pos) (vI i) :=
 PE.imp (jx gb hg hm hv' (bX (dP hN hv hd hcd) gf he) 'd' 'd' he hpl) λσ H Q ⟨G,δ,P,R,s,h,k,_⟩=>by
  replace h:=qWL.ex h;obtain⟨a,ds,e,h⟩:=h;obtain⟨A,x⟩:=id s;obtain⟨h1,aa,vs,ab,rs⟩:=gL x e;refine⟨.ref a,h1,a,vs,rfl,.inl ⟨Ht.of ab,λl hl=>k _ δ h _ _ ⟨A,(x.same (aH hl _)).push ?_⟩⟩⟩;unfold HP;exact⟨l,vs,rfl,Hv.of aG,Reps.kp (Kp.of_same (aH hl _)) _ _ rs⟩
theorem a8(i:Nat){apos cpos:Pos}(he:DE X e ta)(hN:X.N[i]?=some y:=by rfl)(hv:Vis X.env.scope y:=by walk_at "v3")
  (hd:(y==("__debug__":Str))=false:=by decide) (hcd:(y==("__classdict__":Str))=false:=by decide)
  (hbase:attributeBase (.Name y p) "append" X.env (eval (.Name y p) X.env)=eval (.Name y p) X.env:=by rfl)
  (hfew:((backTo cpos (starEach [e] X.env)).all (λx=>!x.1)&&(backToKw cpos (keywordEach [] X.env)).all (λx=>x.1.isSome)&&decide ([e].length+([]:List Keyword).length+(if ([]:List Keyword).isEmpty then 0 else 1)<30))=true:=by rfl)
  (hline:(apos.endLine==cpos.line)=true:=by rfl) (hs:starEach [e] X.env=(false,eval e X.env)::starEach [] X.env:=by rfl) (hplain:(backTo cpos (starEach [] X.env)).any (·.1)=false:=by rfl)
  (hsw:swapsWith (.Call (.Attribute (.Name y p) "append" apos) [e] [] cpos) none pos.line X.env=pure false:=by rfl) :
  DS X (.Expr (.Call (.Attribute (.Name y p) "append" apos) [e] [] cpos) pos) (Eu i ta) :=
 PS.imp (lG (Ew PySem.F.plainAttrs_list PySem.F.slot_list_append PySem.F.type_list_append mT (dP hN hv hd hcd) (bX he gf hs) hbase hfew hline hs hplain) hsw) λE σ H ⟨G,δ,P,R,s,h,k,_⟩=>by
  replace h:=qWL.ex h;obtain⟨a,aj,ai,h⟩:=h;obtain⟨A0,x0⟩:=id s;obtain⟨h0,_,ah,ag,_⟩:=gL x0 ai;refine⟨.ref a,h0,.inl ⟨rfl,ah,Ht.of ag⟩,up.mk s h λx δ1 h1 v H1 ⟨A,q⟩=>?_⟩;replace h1:=BH.ex q h0 h1;obtain⟨ds,hi,hz,r⟩:=h1;obtain⟨_,aa,vs,ab,rs⟩:=gL q hi;refine⟨a,vs,v,rfl,rfl,ab,by rw[<- Reps.length _ _ rs];exact jL (JG hz),k _ r _ _ ⟨A,(q.change (d':=.lst (ds++[x])) hi (λb o n e=>by rw[aJ n];exact e) ⟨vs++[v],aG,?_⟩).sub (P':=P) λq hq=>HV _ hq⟩⟩;have kp:Kp (λb=>G.M0 b\/A b) H1 (HL H1 a (.lst (vs++[v]))):=by
   have hk:∀b o,b≠a->H1 b=some o->HL H1 a (.lst (vs++[v])) b=some o:=λb o n e=>by rw[aJ n];exact e
   exact⟨λb o e n=>hk b o (λz=>n (.inr (by rw[z];exact aa))) e,λb xs e=>hk b _ (λz=>by rw[z,ab] at e;cases e) e,λb o u e=>hk b _ (λz=>by rw[z,ab] at e;cases e) e⟩
  exact Reps.kp kp _ _ (Reps.append _ _ _ _ rs (Reps.one (q.pnd (x,v) 'p')))
theorem bB(i:Nat){st:List Stmt}{u:TDS}(h:DSs X st u):DSs X st (oy i u) :=
 PSs.imp h λE σ H ⟨G,δ,P,R,⟨A,x⟩,h,k⟩=>let ⟨a,d,e,h⟩:=qW.ex h;⟨G,_,P,R,⟨_,x.freeze e λz=>(x.new a (x.own i a d e).2.1).elim (λq=>x.m0 a z q) λq=>(x.pm a q).2 z⟩,h,k⟩
end
end DL
namespace DL
open PySem PySem.Spec PyProof.Rows L2
variable {ks:Zb} {x:Str} {vs:Zf} {v:V} {ds:Zh} {R:D→Prop} {g:Bool→Bool} {M:Addr→Prop} {H:Hp} {j:Nat}
def dAt{α:Type}:Zb->List α->Str->Option α
 | k::ks,d::ds,x=>if k=x then some d else dAt ks ds x
 | _,_,_=>none
def om{α:Type}:Zb->List α->Str->α->List α
 | k::ks,d::ds,x,y=>(if k=x then y else d)::om ks ds x y
 | _,ds,_,_=>ds
def jA(ks:Zb)(x:Str):Zb:=if x∈ks then ks else ks++[x]
def mj{α:Type}(ks:Zb)(ds:List α)(x:Str)(y:α):List α:=if x∈ks then om ks ds x y else ds++[y]
theorem r8{α:Type}:∀(ks:Zb) (ds:List α) (x:Str) (y:α),(om ks ds x y).length=ds.length
 | [],ds,_,_=>by cases ds<;>rfl
 | k::ks,[],_,_=>rfl
 | k::ks,d::ds,x,y=>by unfold om;rw[Ik,Ik,r8 ks ds x y]
theorem Ck{α:Type}{ds:List α}{y:α}(h:ks.length=ds.length):(jA ks x).length=(mj ks ds x y).length:=by
 unfold jA mj
 by_cases e:x∈ks
 ·rw[Ir e,Ir e,r8];exact h
 ·rw[Io e,Io e,Ij,Ij,h];rfl
theorem xr(x:Str)(h:ks.length=vs.length):((aM ks vs).any λkv=>decide (kv.1=Sum.inr x))=decide (x∈ks):=by
 induction ks generalizing vs with
 | nil=>rfl
 | cons k ks ih =>
  cases vs with
  | nil=>cases h
  | cons v vs =>
   show ((Sum.inr k,v)::aM ks vs).any _=_
   rw[KU,ih (J4 h)]
   by_cases e:k=x
   ·subst e;simp
   ·have e2:¬ x=k:=λz=>e z.symm
    simp[e,e2]
theorem xu(x:Str)(y:V):(aM ks vs).map (λkv=>if kv.1=Sum.inr x then (kv.1,y) else kv)=aM ks (om ks vs x y):=by
 induction ks generalizing vs with
 | nil=>rfl
 | cons k ks ih =>
  cases vs with
  | nil=>rfl
  | cons v vs =>
   show ((Sum.inr k,v)::aM ks vs).map _=(Sum.inr k,if k=x then y else v)::aM ks (om ks vs x y)
   rw[Iy,ih]
   by_cases e:k=x
   ·subst e;simp
   ·have:¬ (Sum.inr k:Ho)=Sum.inr x:=λz=>e (Sum.inr.inj z)
    simp[e]
theorem A6(x:Str)(y:V)(h:ks.length=vs.length):sW (aM ks vs) (Sum.inr x) y=aM (jA ks x) (mj ks vs x y):=by
 unfold sW;rw[xr x h];unfold jA mj
 by_cases e:x∈ks
 ·rw[IC e,Ir rfl,Ir e,Ir e,xu]
 ·rw[IL e,Io Ie,Io e,Io e];unfold aM;rw[IA,List.zip_append (by rw[HS];exact h)];rfl
theorem dN(x:Str):oU (aM ks vs) (Sum.inr x)=dAt ks vs x:=by
 induction ks generalizing vs with
 | nil=>rfl
 | cons k ks ih =>
  cases vs with
  | nil=>rfl
  | cons v vs =>
   show oU ((Sum.inr k,v)::aM ks vs) _=if k=x then some v else dAt ks vs x
   by_cases e:k=x
   ·subst e;rw[jc rfl,Ir rfl]
   ·rw[iY (λz=>e (Sum.inr.inj z)),Io e,ih]
section
variable {K:PySem.W.Frag} {M:Addr→Prop} {H:Hp}
theorem Reps.rep{d:D}(r:HP K M H d v)(x:Str):∀(ks:Zb) (ds:Zh) (vs:Zf),Reps K M H ds vs->Reps K M H (om ks ds x d) (om ks vs x v)
 | [],ds,vs,h=>by
  have e1:om [] ds x d=ds:=by cases ds<;>rfl
  have e2:om [] vs x v=vs:=by cases vs<;>rfl
  rw[e1,e2];exact h
 | k::ks,[],vs,h=>by unfold Reps at h;subst h;exact Reps.nil
 | k::ks,e::ds,vs,h=>by
  unfold Reps at h;obtain⟨w,rs,rfl,q,s⟩:=h;show Reps K M H ((if k=x then d else e)::om ks ds x d) ((if k=x then v else w)::om ks rs x v);refine Reps.cons ?_ (Reps.rep r x ks ds rs s)
  by_cases z:k=x
  ·rw[Ir z,Ir z];exact r
  ·rw[Io z,Io z];exact q
theorem Reps.put{d:D}(x:Str)(h:Reps K M H ds vs)(r:HP K M H d v):Reps K M H (mj ks ds x d) (mj ks vs x v):=by
 unfold mj
 by_cases e:x∈ks
 ·rw[Ir e,Ir e];exact Reps.rep r x ks ds vs h
 ·rw[Io e,Io e];exact Reps.append _ _ _ _ h (Reps.one r)
theorem Reps.dAt(x:Str):∀(ks:Zb) (ds:Zh) (vs:Zf),Reps K M H ds vs->(∀d,DL.dAt ks ds x=some d->∃v,DL.dAt ks vs x=some v/\HP K M H d v)/\(DL.dAt ks ds x=none->DL.dAt ks vs x=none)
 | [],ds,vs,h=>⟨λd e=>(nomatch e),λ_=>rfl⟩
 | k::ks,[],vs,h=>by unfold Reps at h;subst h;exact⟨λd e=>(nomatch e),λ_=>rfl⟩
 | k::ks,e::ds,vs,h=>by
  unfold Reps at h;obtain⟨w,rs,rfl,q,s⟩:=h;obtain⟨h1,h2⟩:=Reps.dAt x ks ds rs s;show (∀d,(if k=x then some e else DL.dAt ks ds x)=some d->∃v,(if k=x then some w else DL.dAt ks rs x)=some v/\_)/\((if k=x then some e else DL.dAt ks ds x)=none->(if k=x then some w else DL.dAt ks rs x)=none)
  by_cases z:k=x
  ·simp only[if_pos z];exact⟨λd e=>by cases e;exact⟨w,rfl,q⟩,λe=>(nomatch e)⟩
  ·simp only[if_neg z];exact⟨h1,h2⟩
theorem de{α:Type}{ds:List α}(h:ks.length=ds.length):(dAt ks ds x).isSome=decide (x∈ks):=by
 induction ks generalizing ds with
 | nil=>rfl
 | cons k ks ih =>
  cases ds with
  | nil=>cases h
  | cons v vs =>
   show (if k=x then some v else dAt ks vs x).isSome=_
   by_cases e:k=x
   ·subst e;simp
   ·have e2:¬ x=k:=λz=>e z.symm
    rw[Io e,ih (J4 h)];simp[e2]
end
def xC:Zh->(D->Prop)->Prop
 | [.dct ks ds,.str x],R=>∃d,dAt ks ds x=some d/\R d
 | [.fd ks ds,.str x],R=>∃d,dAt ks ds x=some d/\R d
 | _,_=>False
theorem yP:∀ {d0:Zh} {R:D->Prop},xC d0 R->((∃(ks:Zb) (ds:Zh) (x:Str),d0=[.dct ks ds,.str x]/\∃d,dAt ks ds x=some d/\R d)\/(∃(ks:Zb) (ds:Zh) (x:Str),d0=[.fd ks ds,.str x]/\∃d,dAt ks ds x=some d/\R d)):=by walk_at "or"
theorem xv:xC [.fd ks ds,.str x] R=(∃d,dAt ks ds x=some d/\R d):=rfl
theorem xE:xC [.dct ks ds,.str x] R=(∃d,dAt ks ds x=some d/\R d):=rfl
def fIn(g:Bool->Bool):Zh->(D->Prop)->Prop
 | [.str x,.dct ks _],R=>R (.bl (g (decide (x∈ks))))
 | [.str x,.lst ds],R=>∃ss:Zb,ds=ss.map D.str/\R (.bl (g (decide (x∈ss))))
 | _,_=>False
theorem zv{d0:Zh}(h:fIn g d0 R):(∃(x:Str) (ks:Zb) (z1:Zh),d0=[.str x,.dct ks z1]/\R (.bl (g (decide (x∈ks)))))\/(∃(x:Str) (ds:Zh),d0=[.str x,.lst ds]/\∃ss:Zb,ds=ss.map D.str/\R (.bl (g (decide (x∈ss))))):=by
 rcases d0 with _ | ⟨a,_ | ⟨b,_ | ⟨c,l⟩⟩⟩
 ·exact False.elim h
 ·cases a<;>exact False.elim h
 ·cases a<;>first | exact False.elim h | (cases b<;>first | exact False.elim h | exact .inl ⟨_,_,_,rfl,h⟩ | exact .inr ⟨_,_,rfl,h⟩)
 ·cases a<;>first | exact False.elim h | (cases b<;>exact False.elim h)
theorem CA:fIn g [.str x,.dct ks ds] R=(R (.bl (g (decide (x∈ks))))):=rfl
theorem Bw:fIn g [.str x,.lst ds] R=(∃ss:Zb,ds=ss.map D.str/\R (.bl (g (decide (x∈ss))))):=rfl
theorem d7{K:PySem.W.Frag}:∀ {ss:Zb} {vs:Zf},Reps K M H (ss.map D.str) vs->vs=ss.map V.str
 | [],vs,h=>by unfold Reps at h;exact h
 | s::ss,vs,h=>by
  rw[Iy] at h;unfold Reps at h;obtain⟨v,r,rfl,q,t⟩:=h;rw[bv q,d7 t];rfl
theorem cw{K:PySem.W.Frag}:∀(ss:Zb),Reps K M H (ss.map D.str) (ss.map V.str)
 | []=>Reps.nil
 | s::ss=>Reps.cons (by unfold HP;rfl) (cw ss)
theorem dE:∀ {ss:Zb} {us:Zc},bI (ss.map V.str) us->StrsAre us ss
 | [],_,r=>by rw[Ko] at r;cases r;exact .nil
 | s::ss,_,r=>by
  rw[Iy] at r
  cases r with
  | @cons _ u _ us h t =>
   obtain⟨t',e⟩:=(show ∃t,u=Value.str s t from h);subst e;exact .cons _ _ (dE t)
theorem cu:∀ {ss:Zb} {us:Zc},StrsAre us ss->bI (ss.map V.str) us
 | _,_,.nil=>.nil
 | _,_,.cons _ _ h=>.cons ⟨_,rfl⟩ (cu h)
theorem lS(x:Str):∀ {us:Zc} {ss:Zb},StrsAre us ss->us.any (λy=>match y with | .str z _=>z==x | _=>false)=decide (x∈ss)
 | _,_,.nil=>rfl
 | _,_,.cons y t (vs:=us) (ys:=ss) h=>by
  rw[KU,lS x h]
  by_cases e:y=x
  ·subst e;simp
  ·have e2:¬ x=y:=λz=>e z.symm
   simp[e,e2]
theorem sf{us:Zc}{ss:Zb}(h:StrsAre us ss):∀y∈us,∃z t,y=Value.str z t:=by
 induction h with
 | nil=>intro y hy;cases hy
 | cons z t h ih =>
  intro y hy
  rcases Ih.mp hy with rfl | hy
  ·exact⟨z,t,rfl⟩
  ·exact ih y hy
section
variable {X:Cx}
theorem CW(hu:X.A.units+64<cLine):HC X (compareOp .In) λx y=>aQ X.K (fIn id) [x,y]:=by
 intro aa s σ H x y v u Q I rx ry h;obtain⟨M,ds,R,m,rs,h,k⟩:=h;have ab:∀b s',Inv X aa σ H s'->R (.bl b)->EP X aa σ Q (.bool b) s':=λb s' I' r=>⟨.bl b,H,I',rfl,k _ r _ H (bF.refl H) (HP.sc rfl)⟩;replace h:=zv h
 rcases h with⟨_,_,_,rfl,h⟩ | ⟨x0,_,rfl,h⟩
 ·obtain⟨h1,h2⟩:=bL rs
  cases bv h1
  unfold HP at h2;obtain⟨a,vs,rfl,_,e,l,r⟩:=h2
  cases ry
  refine d_in 'b' I (ph.k (k:=Sum.inr _) e) rx λs' I'=>?_;rw[dN,de (by rw[l,Reps.length _ _ r])];exact ab _ _ I' h
 ·obtain⟨ss,rfl,h⟩:=h;obtain⟨h1,h2⟩:=bL rs
  cases bv h1
  unfold HP at h2;obtain⟨a,vs,rfl,_,e,r⟩:=h2
  cases ry
  cases d7 r
  obtain⟨t,rfl⟩:=rx;obtain⟨ag,rv,pl,_⟩:=I.list (Ht.of e);have hs:=dE rv;refine SeqAt.in_listAt (λy=>match y with | .str z _=>z==x0 | _=>false) pl.isList (λy hy=>?_) ?_
  ·obtain⟨z,t',rfl⟩:=sf hs y (by simpa using hy);exact SeqAt.EqAt.str_str z t' x0 t
  ·rw[List.any_toArray,lS x0 hs];exact ab _ _ I h
theorem lC(hu:X.A.units+64<cLine):HC X (compareOp .NotIn) λx y=>aQ X.K (fIn Bool.not) [x,y]:=by
 intro aa s σ H x y v u Q I rx ry h;obtain⟨M,ds,R,m,rs,h,k⟩:=h;have ab:∀b s',Inv X aa σ H s'->R (.bl b)->EP X aa σ Q (.bool b) s':=λb s' I' r=>⟨.bl b,H,I',rfl,k _ r _ H (bF.refl H) (HP.sc rfl)⟩;replace h:=zv h
 rcases h with⟨_,_,_,rfl,h⟩ | ⟨x0,_,rfl,h⟩
 ·obtain⟨h1,h2⟩:=bL rs
  cases bv h1
  unfold HP at h2;obtain⟨a,vs,rfl,_,e,l,r⟩:=h2
  cases ry
  refine Ah 'b' I (ph.k (k:=Sum.inr _) e) rx λs' I'=>?_;rw[dN,de (by rw[l,Reps.length _ _ r])];exact ab _ _ I' h
 ·obtain⟨ss,rfl,h⟩:=h;obtain⟨h1,h2⟩:=bL rs
  cases bv h1
  unfold HP at h2;obtain⟨a,vs,rfl,_,e,r⟩:=h2
  cases ry
  cases d7 r
  obtain⟨t,rfl⟩:=rx;obtain⟨ag,rv,pl,_⟩:=I.list (Ht.of e);have hs:=dE rv;refine SeqAt.notIn_listAt (λy=>match y with | .str z _=>z==x0 | _=>false) pl.isList (λy hy=>?_) ?_
  ·obtain⟨z,t',rfl⟩:=sf hs y (by simpa using hy);exact SeqAt.EqAt.str_str z t' x0 t
  ·rw[List.any_toArray,lS x0 hs];exact ab _ _ I h
def Br:Zh->(D->Prop)->Prop
 | [.int i,.int j],R=>R (.bl (!decide (i=j)))
 | [.str x,.str y],R=>R (.bl (!decide (x=y)))
 | [.bl a,.bl b],R=>R (.bl (!decide (a=b)))
 | [.tup xs,.tup ys],R=>(xs=ys/\D.nds xs=true/\D.dps xs<=60)/\R (.bl false)
 | [.lst xs,.lst ys],R=>(xs=ys/\D.nds xs=true/\D.dps xs<=60)/\R (.bl false)
 | _,_=>False
theorem Be:∀ {d0:Zh} {R:D->Prop},Br d0 R->((∃(i:Int) (j:Int),d0=[.int i,.int j]/\R (.bl (!decide (i=j))))\/(∃(x:Str) (y:Str),d0=[.str x,.str y]/\R (.bl (!decide (x=y))))\/(∃(a:Bool) (b:Bool),d0=[.bl a,.bl b]/\R (.bl (!decide (a=b))))\/(∃(xs:Zh) (ys:Zh),d0=[.tup xs,.tup ys]/\(xs=ys/\D.nds xs=true/\D.dps xs<=60)/\R (.bl false))\/(∃(xs:Zh) (ys:Zh),d0=[.lst xs,.lst ys]/\(xs=ys/\D.nds xs=true/\D.dps xs<=60)/\R (.bl false))):=by walk_at "or"
theorem yR{i j:Int}:Br [.int i,.int j] R=(R (.bl (!decide (i=j)))):=rfl
theorem xh{i j:Str}:Br [.str i,.str j] R=(R (.bl (!decide (i=j)))):=rfl
theorem Bs{i j:Bool}:Br [.bl i,.bl j] R=(R (.bl (!decide (i=j)))):=rfl
theorem xj{xs ys:Zh}:Br [.tup xs,.tup ys] R=((xs=ys/\D.nds xs=true/\D.dps xs<=60)/\R (.bl false)):=rfl
theorem yX{xs ys:Zh}:Br [.lst xs,.lst ys] R=((xs=ys/\D.nds xs=true/\D.dps xs<=60)/\R (.bl false)):=rfl
theorem uj{A:Around}{s:Shared}:∀(kb:List (Ho×Value)) (ka:List (Ho×Value)),(∀(j:Nat) k v,ka[j]?=some (k,v)->∃y,valueAt kb k=some y/\SeqAt.EqAt A s v y true)->PySem.W.KeqHits A s kb ka true
 | kb,[],_=>.nil
 | kb,(k,v)::r,h=>by
  obtain⟨y,hy,he⟩:=h 0 k v rfl;have q:=PySem.W.KeqHits.hit hy he (uj kb r λj k' v' e=>h (j+1) k' v' (by simpa using e));exact q
theorem tF{kb:List (Ho×Value)}(hn:(kb.map (·.1)).Nodup){k:Ho}{y:Value}(e:kb[j]?=some (k,y)):valueAt kb k=some y:=by
 induction kb generalizing j with
 | nil=>simp at e
 | cons p r ih =>
  rw[Iy,Jg] at hn
  cases j with
  | zero=>simp at e;subst e;simp[valueAt]
  | succ j =>
   have e':r[j]?=some (k,y):=by simpa using e
   have ne:¬ p.1=k:=λz=>hn.1 (by rw[z];exact HW.mpr ⟨(k,y),Im e',rfl⟩)
   have q:=ih hn.2 e'
   unfold valueAt at q ⊢;rw[List.find?_cons];simp only[ne,decide_false];exact q
theorem jt{α β:Type}{F:α->β->Prop}:∀ {l₁:List α} {l₂:List β} {j:Nat} {b:β},Paired F l₁ l₂->l₂[j]?=some b->∃a,l₁[j]?=some a/\F a b
 | _,_,_,_,.nil,e=>by simp at e
 | _,_,0,_,.cons h t,e=>by simp at e;subst e;exact⟨_,rfl,h⟩
 | _,_,j+1,_,.cons h t,e=>by
  obtain⟨a,q,f⟩:=jt (j:=j) t (by simpa using e);exact⟨a,by simpa using q,f⟩
theorem u5{α β:Type}{F:α->β->Prop}:∀ {l₁:List α} {l₂:List β} {j:Nat} {a:α},Paired F l₁ l₂->l₁[j]?=some a->∃b,l₂[j]?=some b/\F a b
 | _,_,_,_,.nil,e=>by simp at e
 | _,_,0,_,.cons h t,e=>by simp at e;subst e;exact⟨_,rfl,h⟩
 | _,_,j+1,_,.cons h t,e=>by
  obtain⟨a,q,f⟩:=u5 (j:=j) t (by simpa using e);exact⟨a,by simpa using q,f⟩
theorem wK:∀ {ds:Zh} {j:Nat} {d:D},D.nds ds=true->ds[j]?=some d->d.nd=true
 | [],_,_,_,e=>by simp at e
 | x::r,0,d,h,e=>by
  simp at e;subst e;unfold D.nds at h;exact(IB.mp h).1
 | x::r,j+1,d,h,e=>by
  unfold D.nds at h;exact wK (j:=j) (IB.mp h).2 (by simpa using e)
theorem vS:∀ {ds:Zh} {j:Nat} {d:D},ds[j]?=some d->d.dp<=D.dps ds
 | [],_,_,e=>by simp at e
 | x::r,0,d,e=>by
  simp at e;subst e;unfold D.dps;exact Nat.le_max_left _ _
 | x::r,j+1,d,e=>by
  unfold D.dps;exact HX (vS (j:=j) (by simpa using e)) (Nat.le_max_right _ _)
theorem l9{k:Ho}(e:(aM ks vs)[j]?=some (k,v)):∃x,k=Sum.inr x/\ks[j]?=some x/\vs[j]?=some v:=by
 unfold aM at e;rw[List.getElem?_zip_eq_some] at e;obtain⟨e1,e2⟩:=e;rw[List.getElem?_map] at e1
 cases h:ks[j]? with
 | none=>rw[h] at e1;cases e1
 | some x=>rw[h] at e1;exact⟨x,(Iq e1).symm,rfl,e2⟩
theorem DK(e1:ks[j]?=some x)(e2:vs[j]?=some v):(aM ks vs)[j]?=some (Sum.inr x,v):=by
 unfold aM;rw[List.getElem?_zip_eq_some];exact⟨by rw[List.getElem?_map,e1];rfl,e2⟩
theorem sH{pins:List (Addr×Obj)}{σ:L2.St}{s:Shared}{A:Around}{ws:Zf}{va vb:List (Ho×Value)}(I:L2.Inv X pins σ H s)(nd:ks.Nodup)(hn:D.nds ds=true)(hd:A.units+D.dps ds<cLine)(l1:ks.length=ds.length)
  (rs1:Reps X.K M H ds vs) (rs2:Reps X.K M H ds ws) (ra:KV (aM ks vs) va) (rb:KV (aM ks ws) vb):PySem.W.KeqHits A s vb va true:=by
 have lw:=Reps.length _ _ rs2
 have aa:(vb.map (·.1)).Nodup:=by
  rw[<- rb.keys];have:(aM ks ws).map (·.1)=ks.map Sum.inr:=by unfold aM;rw[List.map_fst_zip (by rw[HS];omega)]
  rw[this];exact List.Pairwise.map _ (λa b ne z=>ne (Sum.inr.inj z)) nd
 refine uj vb va λj k1 v1 e1=>?_;obtain⟨⟨k2,v2⟩,q1,z1,z2⟩:=jt ra e1;obtain⟨x,rfl,kx,vx⟩:=l9 q1;simp only at z1 z2;subst z1;have hj:j<ds.length:=by rw[<- l1];exact(List.getElem?_eq_some_iff.mp kx).1
 have ed:ds[j]?=some ds[j]:=by simp[hj]
 obtain⟨v',ev,rv⟩:=Reps.get _ _ rs1 j _ ed;rw[vx] at ev
 cases ev
 obtain⟨w',ew,ab⟩:=Reps.get _ _ rs2 j _ ed;obtain⟨⟨k3,y⟩,qy,y1,y2⟩:=u5 rb (DK kx ew);simp only at y1 y2;subst y1;exact⟨y,tF aa qy,zT I ds[j] A v2 w' v1 y (wK hn ed) (by have:=vS ed;omega) rv ab z2 y2⟩
theorem fT(hu:X.A.units+64<cLine):HC X (compareOp .NotEq) λx y=>aQ X.K Br [x,y]:=by
 intro ag s σ H x y v u Q I rx ry h;obtain⟨M,ds,R,m,rs,h,k⟩:=h;have al:∀b,R (.bl b)->EP X ag σ Q (.bool b) s:=λb r=>⟨.bl b,H,I,rfl,k _ r _ H (bF.refl H) (HP.sc rfl)⟩;replace h:=Be h
 rcases h with⟨_,_,rfl,h⟩ | ⟨_,_,rfl,h⟩ | ⟨_,_,rfl,h⟩ | ⟨_,_,rfl,h⟩ | ⟨_,_,rfl,h⟩
 ·exact o_ne hu ag s σ H x y v u Q I rx ry ⟨M,_,R,m,rs,h,k⟩
 ·exact o_ne hu ag s σ H x y v u Q I rx ry ⟨M,_,R,m,rs,h,k⟩
 ·exact o_ne hu ag s σ H x y v u Q I rx ry ⟨M,_,R,m,rs,h,k⟩
 ·obtain⟨⟨e,hn,hd⟩,h⟩:=h;subst e;obtain⟨h1,h2⟩:=bL rs;unfold HP at h1 h2;obtain⟨a,vs,rfl,sq,ai⟩:=h1;obtain⟨b,ws,rfl,aj,ah⟩:=h2
  cases rx
  cases ry
  obtain⟨ab,r1,t1,_⟩:=I.tuple sq;obtain⟨aa,r2,t2,_⟩:=I.tuple aj;have hs:ab.length=aa.length:=by rw[<- r1.length,<- r2.length,<- Reps.length _ _ ai,<- Reps.length _ _ ah]
  refine SeqAt.RcNeAt.tuples (e:=λ_=>true) t1 t2 'b' (eqAt_Ds I _ X.A.in1 vs ws ab aa hn (by rw[b8];omega) ai ah r1 r2) _ _ _ _ ?_;have z:((List.range (min ab.toArray.size aa.toArray.size)).all (λ_=>true)&&ab.toArray.size==aa.toArray.size)=true:=by simp[hs]
  rw[z];exact al _ h
 ·obtain⟨⟨e,hn,hd⟩,h⟩:=h;subst e;obtain⟨h1,h2⟩:=bL rs;unfold HP at h1 h2;obtain⟨a,vs,rfl,_,sq,ai⟩:=h1;obtain⟨b,ws,rfl,_,aj,ah⟩:=h2
  cases rx
  cases ry
  obtain⟨ab,r1,t1,_⟩:=I.list (Ht.of sq);obtain⟨aa,r2,t2,_⟩:=I.list (Ht.of aj);have hs:ab.length=aa.length:=by rw[<- r1.length,<- r2.length,<- Reps.length _ _ ai,<- Reps.length _ _ ah]
  refine SeqAt.RcNeAt.lists (e:=λ_=>true) t1.isList t2.isList (by simp[hs]) 'b' (eqAt_Ds I _ X.A.in1 vs ws ab aa hn (by rw[b8];omega) ai ah r1 r2) _ _ _ _ ?_;rw[gD];exact al _ h
end
end DL
namespace DL
open PySem PySem.Spec PyProof.Rows L2
variable {ds xs:Zh} {R:D→Prop}
section
variable {prog:Program} {w:World} {A:Around} {E:Value→Shared→Prop} {s:Shared}
theorem gO{a:Addr}{vs:Zc}{ss:Zb}{n:Nat}{Q:Value->Shared->Prop}(ho:s.heap.get? a=some (seqObj "list" vs.toArray n))(hS:StrsAre vs ss)(h64:vs.length<64)
  (h:∀(out:Array Value) (ss':Zb),StrsAre out.toList ss'->ss'.Perm ss->sortedS ss'=true->Q .none { s with heap:=sortedHeap s.heap a vs out }) :
  wpAny 'q' A (call (.builtin "list.sort") [.ref a]) Q E s:=by
 refine Js slot_list_sort ⟨_,ho,rfl⟩ entry_list_sort (list_sort_treeK strKind_oneLt ho hS.keysOf (λv₁ v₂ dA e=>keyKind_strs (by rw[<- e];exact hS)) h64 λst' hp hs=>?_) (args_list_sort _);obtain⟨ss',h1,h2,h3⟩:=sorted_out_str hS hp hs;exact⟨_,rfl,h _ ss' h1 h2 h3⟩
end
abbrev Srt(ss:List Str):Prop:=sortedS ss=true
def km:Zh->(D->Prop)->Prop
 | [.lst ds],R=>∃ss:Zb,ds=ss.map D.str/\ss.length<64/\∀ss',ss'.Perm ss->Srt ss'->R (.lst (ss'.map D.str))
 | [.dct ks _],R=>ks.length<64/\∀ss',ss'.Perm ks->Srt ss'->R (.lst (ss'.map D.str))
 | [.fd ks _],R=>ks.length<64/\∀ss',ss'.Perm ks->Srt ss'->R (.lst (ss'.map D.str))
 | _,_=>False
theorem sI:∀ {d0:Zh} {R:D->Prop},km d0 R->((∃(ds:Zh),d0=[.lst ds]/\∃ss:Zb,ds=ss.map D.str/\ss.length<64/\∀ss',ss'.Perm ss->Srt ss'->R (.lst (ss'.map D.str)))\/(∃(ks:Zb) (z1:Zh),d0=[.dct ks z1]/\ks.length<64/\∀ss',ss'.Perm ks->Srt ss'->R (.lst (ss'.map D.str)))\/(∃(ks:Zb) (z1:Zh),d0=[.fd ks z1]/\ks.length<64/\∀ss',ss'.Perm ks->Srt ss'->R (.lst (ss'.map D.str)))):=by walk_at "or"
theorem oX:km [.lst ds] R=(∃ss:Zb,ds=ss.map D.str/\ss.length<64/\∀ss',ss'.Perm ss->Srt ss'->R (.lst (ss'.map D.str))):=rfl
theorem sL{ks:Zb}:km [.fd ks ds] R=(ks.length<64/\∀ss',ss'.Perm ks->Srt ss'->R (.lst (ss'.map D.str))):=rfl
theorem qf{ks:Zb}:km [.dct ks ds] R=(ks.length<64/\∀ss',ss'.Perm ks->Srt ss'->R (.lst (ss'.map D.str))):=rfl
theorem jX{P:Program}{w:World}:∀ {ks:Zb} {us:Zc},ks.length=us.length->(∀(j:Nat) v k,us[j]?=some v->ks[j]?=some k->(a9 P w).is (Sum.inr k) v=true)->StrsAre us ks
 | [],[],_,_=>.nil
 | [],_::_,l,_=>by cases l
 | _::_,[],l,_=>by cases l
 | k::ks,u::us,l,h=>by
  have h0:=h 0 u k rfl rfl
  obtain⟨t,rfl⟩:∃t,u=Value.str k t:=by
   have:pE (Sum.inr k) u=true:=h0
   rcases a5 this with⟨i,t,e,_⟩ | ⟨x,t,e,e2⟩
   ·cases e
   ·cases e;exact⟨t,e2⟩
  exact .cons _ _ (jX (J4 l) λj v k' e1 e2=>h (j+1) v k' (by simpa using e1) (by simpa using e2))
section
variable {X:Cx}
theorem lU(hc:X.calm=true):bW X (.builtin "sorted") (aQ X.K km):=by
 intro aa s σ H xs us Q I rv h;obtain⟨M,ds,R,m,rs,h,k⟩:=h;replace h:=sI h
 rcases h with⟨_,rfl,h⟩ | ⟨_,_,rfl,h⟩ | ⟨_,_,rfl,h⟩
 ·obtain⟨ss,rfl,ao,h⟩:=h;obtain⟨x,rfl,q⟩:=aR rs;unfold HP at q;obtain⟨a,vs,rfl,_,e,r⟩:=q;obtain⟨u,rfl,ru⟩:=eU rv
  cases ru
  cases d7 r
  obtain⟨al,an,pl,_⟩:=I.list (Ht.of e);have hs:=dE an;have hl:al.length=ss.length:=by rw[<- an.length,HS]
  refine sorted_strs pl.isList hs (by omega) λout ss' h1 h2 h3=>?_;obtain⟨ep,he⟩:=sortedAll_at s.heap al out;have hz:(ss'.map V.str).length<=sizeLine:=by rw[HS,h2.length_eq];exact e8 'b'
  have I2:L2.Inv X aa σ (HL H (s.heap.objs.size+1) (.lst (ss'.map V.str))) { s with heap:=sortedAll s.heap al out } :=
   I.laid (t':=s.toks) (λb o=>sortedAll_old) (La _) (show bQ X.prog X.w _ _ _ (.lst (ss'.map V.str)) from⟨hz,out.toList,ep,cu h1,he⟩)
  have fr:H (s.heap.objs.size+1)=none:=I.hok.fresh (La _)
  refine⟨.ref _,_,I2,rfl,k _ (h ss' h2 h3) _ _ (aH fr _) ?_⟩;unfold HP;exact⟨_,_,rfl,λz=>m _ z fr,aG,cw ss'⟩
 ·obtain⟨ao,h⟩:=h
  rename_i ks ds
  obtain⟨x,rfl,q⟩:=aR rs;unfold HP at q;obtain⟨a,vs,rfl,_,e,l,r⟩:=q;obtain⟨u,rfl,ru⟩:=eU rv
  cases ru
  obtain⟨hz,lo,va,ra,da⟩:=uY I.hok e;obtain⟨ep,ah⟩:=da.dictAt;have lv:=Reps.length _ _ r;have ab:va.length=ks.length:=by
   rw[<- ra.length];unfold aM;rw[Jh,HS];omega
  refine Ke kind_sorted plain_sorted entry_sorted (args_sorted1 _) ?_;unfold Builtin.«sorted»;refine HU (m:=checkCount "sorted" 1 1 _) (HZ ?_);refine HU (PySem.W.kdu_collect (A:=X.A.in1) (PySem.W.kdl_dict (knd:=a9 X.prog X.w) (kvs:=va) (ep:=ep) lo) (I.ok.hd hc) ah (by rw[ab];exact e8 'b') λh' tk acc hk hacc=>?_);have hl:acc.toList.length=ks.length:=by rw[IQ,<- ab];exact hacc.1
  have hS:StrsAre acc.toList ks:=jX hl.symm λj v k' e1 e2=>by
   obtain⟨k2,x2,h1,h2⟩:=hacc.2 j v (by rw[<- Array.getElem?_toList];exact e1);obtain⟨⟨k3,v3⟩,q1,z1,_⟩:=jt ra h1;obtain⟨x,rfl,kx,_⟩:=l9 q1;simp only at z1;rw[kx] at e2
   cases e2
   rw[z1];exact h2
  refine HU (wpAny_newList ?_ (by rw[hl];exact e8 'b'));have ag:(h'.push { cls:=.type "list",data:=.seq acc.toList.toArray }).get? h'.objs.size=some (seqObj "list" acc.toList.toArray 0):=Heap.get?_push_size _ rfl;refine HU (Jr (gO ag hS (by omega) λout ss' h1 h2 h3=>?_));refine HZ ⟨_,rfl,?_⟩;obtain⟨ai,he⟩:=sortedHeap_at (out:=out) ag;have I1:L2.Inv X aa σ H { s with heap:=h',toks:=tk }:=I.kept (t':=tk) hk;have kp:∀b o,h'.get? b=some o->(sortedHeap (h'.push { cls:=.type "list",data:=.seq acc.toList.toArray }) h'.objs.size acc.toList out).get? b=some o:=λb o e=>by
   have hb:=Iw e
   rw[sortedHeap_old (II hb) (by rw[Jc];exact JJ hb)];exact Heap.get?_push_of_some _ e
  have aj:(ss'.map V.str).length<=sizeLine:=by rw[HS,h2.length_eq];exact e8 'b'
  have I2:L2.Inv X aa σ (HL H h'.objs.size (.lst (ss'.map V.str))) { s with heap:=sortedHeap (h'.push { cls:=.type "list",data:=.seq acc.toList.toArray }) h'.objs.size acc.toList out,toks:=tk } :=
   I1.laid (t':=tk) kp (Ib _) (show bQ X.prog X.w _ _ _ (.lst (ss'.map V.str)) from⟨aj,out.toList,ai,cu h1,he⟩)
  have fr:H h'.objs.size=none:=I1.hok.fresh (Ib _)
  refine⟨.ref _,_,I2,rfl,k _ (h ss' h2 h3) _ _ (aH fr _) ?_⟩;unfold HP;exact⟨_,_,rfl,λz=>m _ z fr,aG,cw ss'⟩
 ·obtain⟨ao,h⟩:=h
  rename_i ks ds
  obtain⟨x,rfl,q⟩:=aR rs;unfold HP at q;obtain⟨a,vs,o9,rfl,e,l,r⟩:=q;obtain⟨u,rfl,ru⟩:=eU rv
  cases ru
  obtain⟨hz,lo,va,ra,da⟩:=fN I.hok (.inr ⟨o9,e⟩);obtain⟨ep,ah⟩:=da.dictAt;have lv:=Reps.length _ _ r;have ab:va.length=ks.length:=by
   rw[<- ra.length];unfold aM;rw[Jh,HS];omega
  refine Ke kind_sorted plain_sorted entry_sorted (args_sorted1 _) ?_;unfold Builtin.«sorted»;refine HU (m:=checkCount "sorted" 1 1 _) (HZ ?_);refine HU (PySem.W.kdu_collect (A:=X.A.in1) (PySem.W.kdl_dict (knd:=a9 X.prog X.w) (kvs:=va) (ep:=ep) lo) (I.ok.hd hc) ah (by rw[ab];exact e8 'b') λh' tk acc hk hacc=>?_);have hl:acc.toList.length=ks.length:=by rw[IQ,<- ab];exact hacc.1
  have hS:StrsAre acc.toList ks:=jX hl.symm λj v k' e1 e2=>by
   obtain⟨k2,x2,h1,h2⟩:=hacc.2 j v (by rw[<- Array.getElem?_toList];exact e1);obtain⟨⟨k3,v3⟩,q1,z1,_⟩:=jt ra h1;obtain⟨x,rfl,kx,_⟩:=l9 q1;simp only at z1;rw[kx] at e2
   cases e2
   rw[z1];exact h2
  refine HU (wpAny_newList ?_ (by rw[hl];exact e8 'b'));have ag:(h'.push { cls:=.type "list",data:=.seq acc.toList.toArray }).get? h'.objs.size=some (seqObj "list" acc.toList.toArray 0):=Heap.get?_push_size _ rfl;refine HU (Jr (gO ag hS (by omega) λout ss' h1 h2 h3=>?_));refine HZ ⟨_,rfl,?_⟩;obtain⟨ai,he⟩:=sortedHeap_at (out:=out) ag;have I1:L2.Inv X aa σ H { s with heap:=h',toks:=tk }:=I.kept (t':=tk) hk;have kp:∀b o,h'.get? b=some o->(sortedHeap (h'.push { cls:=.type "list",data:=.seq acc.toList.toArray }) h'.objs.size acc.toList out).get? b=some o:=λb o e=>by
   have hb:=Iw e
   rw[sortedHeap_old (II hb) (by rw[Jc];exact JJ hb)];exact Heap.get?_push_of_some _ e
  have aj:(ss'.map V.str).length<=sizeLine:=by rw[HS,h2.length_eq];exact e8 'b'
  have I2:L2.Inv X aa σ (HL H h'.objs.size (.lst (ss'.map V.str))) { s with heap:=sortedHeap (h'.push { cls:=.type "list",data:=.seq acc.toList.toArray }) h'.objs.size acc.toList out,toks:=tk } :=
   I1.laid (t':=tk) kp (Ib _) (show bQ X.prog X.w _ _ _ (.lst (ss'.map V.str)) from⟨aj,out.toList,ai,cu h1,he⟩)
  have fr:H h'.objs.size=none:=I1.hok.fresh (Ib _)
  refine⟨.ref _,_,I2,rfl,k _ (h ss' h2 h3) _ _ (aH fr _) ?_⟩;unfold HP;exact⟨_,_,rfl,λz=>m _ z fr,aG,cw ss'⟩
def rH:Zh->(D->Prop)->Prop
 | [.lst xs],R=>R (.tup xs)
 | [.fz xs],R=>R (.tup xs)
 | [.tup xs],R=>R (.tup xs)
 | _,_=>False
theorem uq:∀ {d0:Zh} {R:D->Prop},rH d0 R->((∃(xs:Zh),d0=[.lst xs]/\R (.tup xs))\/(∃(xs:Zh),d0=[.fz xs]/\R (.tup xs))\/(∃(xs:Zh),d0=[.tup xs]/\R (.tup xs))):=by walk_at "or"
theorem sY:rH [.lst xs] R=(R (.tup xs)):=rfl
theorem sP:rH [.tup xs] R=(R (.tup xs)):=rfl
theorem ma:bW X (.type "tuple") (aQ X.K rH) :=
 bW.imp gb λxs H Q ⟨M,ds,R,m,rs,h,k⟩=>by
  replace h:=uq h
  rcases h with⟨_,rfl,h⟩ | ⟨_,rfl,h⟩ | ⟨_,rfl,h⟩
  ·obtain⟨x,rfl,q⟩:=aR rs;unfold HP at q;obtain⟨a,vs,rfl,_,e,r⟩:=q;refine⟨a,vs,rfl,.inl ⟨Ht.of e,λl hl=>k _ h _ _ (aH hl _) ?_⟩⟩;unfold HP;exact⟨l,vs,rfl,Hv.of aG,Reps.kp (Kp.of_same (aH hl _)) _ _ r⟩
  ·obtain⟨x,rfl,q⟩:=aR rs;unfold HP at q;obtain⟨a,vs,rfl,e,r⟩:=q;refine⟨a,vs,rfl,.inl ⟨e.seq,λl hl=>k _ h _ _ (aH hl _) ?_⟩⟩;unfold HP;exact⟨l,vs,rfl,Hv.of aG,Reps.kp (Kp.of_same (aH hl _)) _ _ r⟩
  ·obtain⟨x,rfl,q⟩:=aR rs;have q0:=q;unfold HP at q;obtain⟨a,vs,rfl,e,r⟩:=q;exact⟨a,vs,rfl,.inr ⟨e,k _ h _ _ (bF.refl H) q0⟩⟩
def yo:Zh->(D->Prop)->Prop
 | [.lst xs],R=>R (.lst xs)
 | [.fz xs],R=>R (.lst xs)
 | [.tup xs],R=>R (.lst xs)
 | _,_=>False
theorem xB:∀ {d0:Zh} {R:D->Prop},yo d0 R->((∃(xs:Zh),d0=[.lst xs]/\R (.lst xs))\/(∃(xs:Zh),d0=[.fz xs]/\R (.lst xs))\/(∃(xs:Zh),d0=[.tup xs]/\R (.lst xs))):=by walk_at "or"
theorem vq:yo [.lst xs] R=(R (.lst xs)):=rfl
theorem wq:yo [.tup xs] R=(R (.lst xs)):=rfl
theorem y7:bW X (.type "list") (aQ X.K yo) :=
 bW.imp mO λxs H Q ⟨M,ds,R,m,rs,h,k⟩=>by
  have aa:∀(ds:Zh) (vs:Zf),R (.lst ds)->Reps X.K M H ds vs->∀l,H l=none->Q (.ref l) (HL H l (.lst vs)):=λds vs h r l hl=>k _ h _ _ (aH hl _) (by
   unfold HP
   exact⟨l,vs,rfl,λz=>m l z hl,aG,Reps.kp (Kp.of_same (aH hl _)) _ _ r⟩)
  replace h:=xB h
  rcases h with⟨_,rfl,h⟩ | ⟨_,rfl,h⟩ | ⟨_,rfl,h⟩
  ·obtain⟨x,rfl,q⟩:=aR rs;unfold HP at q;obtain⟨a,vs,rfl,_,e,r⟩:=q;exact⟨a,vs,rfl,.inl (Ht.of e),aa _ _ h r⟩
  ·obtain⟨x,rfl,q⟩:=aR rs;unfold HP at q;obtain⟨a,vs,rfl,e,r⟩:=q;exact⟨a,vs,rfl,.inl e.seq,aa _ _ h r⟩
  ·obtain⟨x,rfl,q⟩:=aR rs;unfold HP at q;obtain⟨a,vs,rfl,e,r⟩:=q;exact⟨a,vs,rfl,.inr e,aa _ _ h r⟩
theorem i8{pos:Pos}:DE X (.Dict [] [] pos) (dC (.dct [] [])) :=
 PE.imp rB λσ H Q ⟨G,δ,P,R,⟨A,x⟩,r,k,_⟩=>λp hp=>by
  refine k _ δ r (.ref p) _ ⟨A,(x.same (aH hp (.dK []))).push ?_⟩;unfold HP;exact⟨p,[],rfl,λz=>x.mem p z hp,aG,rfl,Reps.nil⟩
variable {a b e:Expr} {ta tb:HQ} {pos:Pos}
theorem cB(hu:X.A.units+64<cLine)(ha:DE X a ta)(hb:DE X b tb)(hs:NoSl b):DE X (.Subscript a b pos) (dOp xC ta tb) :=
 PE.imp (B4 'b' ha hb hs) λσ H Q ⟨G,δ,P,R,s,h,k,_⟩=>up.mk s h λx δ1 h1 v H1 s1=>up.mk s1 h1 λy δ2 h2 u H2 s2=>by
  replace h2:=yP h2
  rcases h2 with⟨ks,ds,z,eq,h2⟩ | ⟨ks,ds,z,eq,h2⟩
  ·skip
   cases eq
   obtain⟨d,ed,r⟩:=h2;obtain⟨A,q⟩:=id s2;have p1:=q.pnd (.dct ks ds,v) 'p';have p2:u=.str z:=bv (q.pnd (.str z,u) 'p');unfold HP at p1;obtain⟨a,vs,rfl,_,he,l,rs⟩:=p1;obtain⟨w',hw,aa⟩:=(Reps.dAt z ks ds vs rs).1 d ed;refine⟨a,w',rfl,?_,k d δ2 r w' H2 ⟨A,(q.sub (P':=P) λp hp=>by simp[hp]).push aa⟩⟩;have g:=ph.k (k:=Sum.inr z) he;rw[dN,hw] at g;rw[p2];exact g
  ·skip
   cases eq
   obtain⟨d,ed,r⟩:=h2;obtain⟨A,q⟩:=id s2;have p1:=q.pnd (.fd ks ds,v) 'p';have p2:u=.str z:=bv (q.pnd (.str z,u) 'p');unfold HP at p1;obtain⟨a,vs,o,rfl,he,l,rs⟩:=p1;obtain⟨w',hw,aa⟩:=(Reps.dAt z ks ds vs rs).1 d ed;refine⟨a,w',rfl,?_,k d δ2 r w' H2 ⟨A,(q.sub (P':=P) λp hp=>by simp[hp]).push aa⟩⟩;have g:ph H2 a (kV (Sum.inr z)) (oU (aM ks vs) (Sum.inr z)):=.inl ⟨_,_,.inr ⟨o,he⟩,rfl,rfl⟩;rw[dN,hw] at g;rw[p2];exact g
def EC(i:Nat)(tv tk:HQ)(R:a7)(δ:En):Prop:=tv δ (wd λx δ1=>qW δ1[i]? λa _=>tk δ1 (wd λz δ2=>AU δ2[i]? λks ds=>qX z λy=>ks.length<9000/\lH δ2 i (.own a (.dct (jA ks y) (mj ks ds y x))) R.nx))
theorem eF(i:Nat){y:Str}{p pos':Pos}(hu:X.A.units+64<cLine)(he:DE X e ta)(hb:DE X b tb)(hN:X.N[i]?=some y:=by rfl)(hv:Vis X.env.scope y:=by walk_at "v3")
  (hd:(y==("__debug__":Str))=false:=by decide) (hcd:(y==("__classdict__":Str))=false:=by decide) (hs:swapsWith e (some (.Subscript (.Name y p) b pos')) pos.line X.env=pure false:=by rfl) :
  DS X (.Assign [.Subscript (.Name y p) b pos'] e pos) (EC i ta tb) :=
 PS.imp (CM 'b' (dP hN hv hd hcd) hb he hs) λE σ H ⟨G,δ,P,R,s,h,k,_⟩=>up.mk s h λx δ1 h1 v H1 s1=>let ⟨a,ds0,hi0,h1⟩:=qW.ex h1;⟨.ref a,s1.own hi0,up.mk s1 h1 λz δ2 h2 u H2 ⟨A,q⟩=>by
  replace h2:=AU.ex q (s1.own hi0) h2;obtain⟨ks,ds,hi,h2⟩:=h2;replace h2:=qX.ex h2;obtain⟨y,ez,hz,r⟩:=h2;subst ez;obtain⟨_,aa,vs,ab,l,rs⟩:=q.own i a _ hi;have lv:=Reps.length _ _ rs;have p2:u=.str y:=bv (q.pnd (.str y,u) 'p');have ag:(aM ks vs).length<sizeLine:=by
   unfold aM;rw[Jh,HS];exact jL 'b'
  have g:=DPut.k (k:=Sum.inr y) (v:=v) ab ag
  rw[A6 y v 'b'] at g;refine⟨a,_,rfl,by rw[p2];exact g,k _ r _ _ ⟨A,(q.change (d':=.dct (jA ks y) (mj ks ds y x)) hi (λb o n e=>by rw[aJ n];exact e) ⟨mj ks vs y v,aG,Ck l,?_⟩).sub (P':=P) λq hq=>HV _ (HV _ hq)⟩⟩;have kp:Kp (λb=>G.M0 b\/A b) H2 (HL H2 a (.dK (aM (jA ks y) (mj ks vs y v)))):=by
   have hk:∀b o,b≠a->H2 b=some o->HL H2 a (.dK (aM (jA ks y) (mj ks vs y v))) b=some o:=λb o n e=>by rw[aJ n];exact e
   exact⟨λb o e n=>hk b o (λz=>n (.inr (by rw[z];exact aa))) e,λb xs e=>hk b _ (λz=>by rw[z,ab] at e;cases e) e,λb o u e=>hk b _ (λz=>by rw[z,ab] at e;cases e) e⟩
  exact Reps.kp kp _ _ (Reps.put y rs (q.pnd (x,v) 'p'))⟩
def C5(R:a7)(δ:En):Prop:=R.rt .non δ
theorem At{pos:Pos}:DS X (.Return none pos) C5:=PS.imp Bo λE σ H ⟨G,δ,P,R,s,h,_,k,_⟩=>k.1 .non δ h .non σ H (s.sc rfl)
end
end DL
namespace DL
open PySem PySem.Spec PyProof.Rows L2
section
variable {prog:Program} {w:World} {A:Around} {E:Value→Shared→Prop}
theorem kT{it l:Addr}{us:Zc}(ne:l≠it):∀(dA:Zc) (i:Nat) (s:Shared) (Q:Zc->Shared->Prop),us.drop i=dA->s.heap.IsListIter it l i->s.heap.IsList l us.toArray ->
  (∀h',h'.IsListIter it l (i+dA.length)->Heap.SameBut it s.heap h'->Q dA { s with heap:=h' })->wpAny 'q' A (draw (.ref it) dA.length) Q E s
 | [],i,s,Q,_,si,_,k=>HZ (k s.heap si (Heap.SameBut.refl ..))
 | u::dA,i,s,Q,e,si,sl,k=>by
  have hu:us[i]?=some u:=by
   have:=JK (λz=>z[0]?) e
   simpa using this
  have hr:us.drop (i+1)=dA:=by
   have:=JK List.tail e
   rw[List.tail_drop] at this;simpa using this
  refine HU (wpAny_pyNext_list_item si sl (x:=u) (by simpa using hu) λh1 s1 b1=>HU (Jr ?_));have aa:h1.IsList l us.toArray:=by
   obtain⟨o,ho,r⟩:=sl;exact⟨o,(b1.2 l ne).trans ho,r⟩
  refine kT ne dA (i+1) { s with heap:=h1 } _ hr s1 aa λh2 s2 b2=>HZ ?_;refine k h2 ?_ (b1.trans b2);rw[Ik,Nat.add_comm dA.length 1,<- Nat.add_assoc];exact s2
theorem lK{l:Addr}{us:Zc}{s:Shared}{Q:Zc->Shared->Prop}(hh:A.handled=none)(sl:s.heap.IsList l us.toArray)
  (k:∀h',(∀b o,s.heap.get? b=some o->h'.get? b=some o)->Q us { s with heap:=h' }):wpAny 'q' A (unpackItems (.ref l) us.length none) Q E s:=by
 have aa:l<s.heap.objs.size:=let ⟨_,ho,_⟩:=sl;Iw ho
 have ty:s.TypeIs (.ref l) "list":=let ⟨o,ho,hc,_⟩:=sl;⟨o,ho,hc⟩
 unfold unpackItems notIterableAtAll;refine HU (HU (wpAny_specialOf ty F.slot_list_iter.lookup (HZ ?_)));rw[Io Ie];refine HU (Jr (JT sl (HU (Jr ?_))));have ab:∀o:Obj,(s.heap.push o).IsList l us.toArray:=λo=>let ⟨q,ho,r⟩:=sl;⟨q,Heap.get?_push_of_some _ ho,r⟩;refine kT (us:=us) (II aa) us 0 _ _ (List.drop_zero ..) ⟨_,Heap.get?_push_size _ rfl,rfl,rfl⟩ (ab _) λh1 s1 b1=>?_;rw[Io (Je _)];have ag:h1.IsList l us.toArray:=by
  obtain⟨o,ho,r⟩:=sl;exact⟨o,(b1.2 l (II aa)).trans (Heap.get?_push_of_some _ ho),r⟩
 refine HU (Jr (wpAny_pyNext_list_end hh s1 ag (by simp) λh2 b2=>?_));rw[Io (show ¬ ((none:Zd).isSome=true) from Ie)];refine HZ (k h2 λb o e=>?_);have nb:b≠s.heap.objs.size:=II (Iw e);exact b2 b o nb ((b1.2 b nb).trans (Heap.get?_push_of_some _ e))
end
section
variable {X:Cx} {pos:Pos}
def gLst(K:PySem.W.Frag)(n:Nat)(t:TGs):TG:=λv σ H Q=>∃a xs,v=.ref a/\Ht K H a xs/\xs.length=n/\t xs σ H Q
theorem Dk{es:List Expr}{k:Nat}{t:TGs}{n:Nat}(hc:X.calm=true)(h:PGs X es t)(hn:(assignEach es X.env).length=n:=by rfl)(hst:(assignEach es X.env).findIdx? (·.1)=none:=by rfl):PG X (.Tuple es k pos) (gLst X.K n t):=by
 intro pins s σ H v u Q I r ⟨a,xs,e,hq,hl,hw⟩;subst e
 cases r
 obtain⟨us,rv,pl,_⟩:=I.list hq;rw[arm_assign_Tuple];refine HU (wpAny_standAt ?_);unfold unpack;rw[hst,hn,<- hl,rv.length];exact HU (Jr (lK (I.ok.hd hc) pl.isList λh' kp=>h pins _ σ H xs _ Q (I.kept (t':=s.toks) kp) rv hw))
def Cg(n:Nat)(t:zH)(d:D)(δ:En)(R:En->Prop):Prop:=qL d λxs=>wg xs n (t xs δ R)
theorem Du{es:List Expr}{kk n:Nat}{gs:zH}(hc:X.calm=true)(h:DGs X es gs)(hn:(assignEach es X.env).length=n:=by rfl)(hst:(assignEach es X.env).findIdx? (·.1)=none:=by rfl):DG X (.Tuple es kk pos) (Cg n gs) :=
 PG.imp (Dk hc h hn hst) λv σ H Q ⟨G,δ,P,d,R,⟨A,x⟩,h,k⟩=>by
  replace h:=qL.ex h;obtain⟨xs,e,h⟩:=h;replace h:=wg.ex h;obtain⟨hl,h⟩:=h;subst e;have q:=x.pnd (.lst xs,v) 'p';unfold HP at q;obtain⟨a,vs,e,_,sq,r⟩:=q;subst e;have lv:=Reps.length _ _ r;refine⟨a,vs,rfl,Ht.of sq,by rw[<- lv];exact hl,G,δ,P,xs,R,lv,⟨A,?_⟩,h,k⟩;have aa:∀(ds:Zh) (ws:Zf),Reps X.K (λb=>G.M0 b\/A b) H ds ws->∀p∈ds.zip ws,HP X.K (λb=>G.M0 b\/A b) H p.1 p.2:=by
   intro ds
   induction ds with
   | nil=>intro ws _ p hp;cases hp
   | cons d ds ih =>
    intro ws hr p hp;unfold Reps at hr;obtain⟨w',dA,rfl,q1,q2⟩:=hr
    rcases Ih.mp hp with rfl | hp
    ·exact q1
    ·exact ih dA q2 p hp
  have y:=x.sub (P':=P) λp hp=>HV _ hp
  exact⟨y.old,y.stay,y.m0,y.pm,y.new,y.thr,y.len,y.dat,y.own,y.inj,λp hp=>(Ip.mp hp).elim (aa xs vs r p) (y.pnd p)⟩
end
end DL
namespace DL
open PySem PySem.Spec PyProof.Rows L2
variable {x:Str}
structure GInt(mg:Str->Zd)(x:Str)(i:Int):Prop where
 ex:∃t,mg x=some (.int i t)
structure GTab(K:PySem.W.Frag)(mg:Str->Zd)(x:Str)(D:List (Str×Str)):Prop where
 ex:∃a,mg x=some (.ref a)/\KTD.tabLook (KTD.datLooks λb=>K.lookup b) (λb=>K.lookup b) a (txt D)=true
theorem yZ(k:Str):∀D:List (Str×Str),KTD.datumAt k (txt D)=(KTD.datumAt k D).map λv=>KTD.Dat.flat (.str v)
 | []=>rfl
 | (x,d)::D=>by
  show (if decide (k=x)=true then some (KTD.Dat.flat (.str d)) else KTD.datumAt k (txt D))=(if decide (k=x)=true then some d else KTD.datumAt k D).map _
  rw[yZ k D]
  by_cases h:decide (k=x)=true
  ·rw[Ir h,Ir h];rfl
  ·rw[Io h,Io h]
theorem qR{h:Heap}{k:Str}{P:Value->Prop}:∀(D:List (Str×Str)),(∀v,KTD.datumAt k D=some v->∀t,P (.str v t))->KTD.EachL h k P (txt D)
 | [],_=>trivial
 | (x,d)::D,hq=>by
  show KTD.EachL h k P ((x,KTD.Dat.flat (.str d))::txt D)
  by_cases e:k=x
  ·exact KTD.eachL_hit e (KTD.opened_str λt=>hq d (by show (if decide (k=x)=true then some d else _)=_;rw[Ir (IC e)]) t)
  ·exact KTD.eachL_miss e (qR D λv hv=>hq v (by show (if decide (k=x)=true then some d else _)=_;rw[Io (by simp[e])];exact hv))
section
variable {X:Cx} {b:Expr} {tb:HQ} {pos p:Pos}
theorem vC{i:Int}(hg:Gl X x)(h:GInt X.mg x i)(hd:(x==("__debug__":Str))=false:=by decide):DE X (.Name x pos) (dC (.int i)):=by
 obtain⟨t,e⟩:=h.ex;exact de_c (lF (v:=.int i) hg e ⟨t,rfl⟩ hd) rfl
def EN(D:List (Str×Str))(ty:TE):TE:=λσ H Q=>ty σ H λy H1=>∃k v,y=.str k/\KTD.datumAt k D=some v/\Q (.str v) H1
theorem AK{D:List (Str×Str)}{ty:TE}(hg:Gl X x)(T:GTab X.K X.mg x D)(hb:PE X b ty)(hs:NoSl b)(hd:(x==("__debug__":Str))=false:=by decide):PE X (.Subscript (.Name x p) b pos) (EN D ty):=by
 obtain⟨a,hm,hl⟩:=T.ex;intro aa s σ H Q I h;refine Subscript_ (Hm (lF (v:=.ref a) hg hm rfl hd aa s σ H (λy0 H0=>y0=.ref a/\EN D ty σ H0 Q) I ⟨rfl,h⟩) λu s1 ⟨y0,H0,I0,r0,e0,q0⟩=>?_);subst e0
 cases r0
 refine Hm (hb aa s1 σ H0 _ I0 q0) λiv s2 ⟨y,H1,I1,ry,k,v,ey,ev,q⟩=>?_;subst ey;obtain⟨t,rfl⟩:=ry;have T2:KTD.TextTab s2.heap a (txt D):=PySem.W.kt_text_in I1.kIn hl;refine KTD.item_text (h₀:=s2.heap) (D:=txt D) ⟨T2,λ_ _ e=>e⟩ ?_ (qR D λv' hv t'=>?_) (hs _ _)
 ·rw[<- KTD.isSome_datumAt,yZ,ev];rfl
 ·rw[ev] at hv
  cases hv
  exact⟨.str v,H1,I1.tok _,⟨t',rfl⟩,q⟩
def Fs(D:List (Str×Str))(t:HQ)(δ:En)(R:W->En->Prop):Prop:=t δ (wd λz δ1=>qX z λk=>∃v,KTD.datumAt k D=some v/\R (.d (.str v)) δ1)
theorem wH{D:List (Str×Str)}(hg:Gl X x)(T:GTab X.K X.mg x D)(hb:DE X b tb)(hs:NoSl b)(hd:(x==("__debug__":Str))=false:=by decide):DE X (.Subscript (.Name x p) b pos) (Fs D tb) :=
 PE.imp (AK hg T hb hs hd) λσ H Q ⟨G,δ,P,R,s,h,k,_⟩=>up.mk s h λz δ1 h1 u H1 s1=>by
  replace h1:=qX.ex h1;obtain⟨y,ez,h1⟩:=h1;obtain⟨v,ev,r⟩:=h1;subst ez;obtain⟨A,q⟩:=id s1;exact⟨y,v,bv (q.pnd (.str y,u) 'p'),ev,k _ δ1 r _ H1 ((s1.sub (P':=P) λp hp=>by simp[hp]).sc rfl)⟩
end
end DL
namespace DL
open PySem PySem.Spec PyProof.Rows L2
def fMax:Zh->(D->Prop)->Prop
 | [.int i,.int j],R=>R (.int (max i j))
 | [.lst ds],R=>∃ns:Ze,ds=ns.map D.int/\0<ns.length/\∀M∈ns,(∀a∈ns,a<=M)->R (.int M)
 | _,_=>False
theorem Cm:∀ {d0:Zh} {R:D->Prop},fMax d0 R->((∃(i:Int) (j:Int),d0=[.int i,.int j]/\R (.int (max i j)))\/(∃(ds:Zh),d0=[.lst ds]/\∃ns:Ze,ds=ns.map D.int/\0<ns.length/\∀M∈ns,(∀a∈ns,a<=M)->R (.int M))):=by walk_at "or"
theorem xJ{i j:Int}{R:D->Prop}:fMax [.int i,.int j] R=(R (.int (max i j))):=rfl
theorem yO{ds:Zh}{R:D->Prop}:fMax [.lst ds] R=(∃ns:Ze,ds=ns.map D.int/\0<ns.length/\∀M∈ns,(∀a∈ns,a<=M)->R (.int M)):=rfl
theorem j8{K:PySem.W.Frag}{M:Addr->Prop}{H:Hp}:∀ {ns:Ze} {vs:Zf},Reps K M H (ns.map D.int) vs->vs=ns.map V.int
 | [],vs,h=>by unfold Reps at h;exact h
 | s::ss,vs,h=>by
  rw[Iy] at h;unfold Reps at h;obtain⟨v,r,rfl,q,t⟩:=h;rw[aT q,j8 t];rfl
theorem gM:∀ {ns:Ze} {us:Zc},bI (ns.map V.int) us->IntsAre us ns
 | [],_,r=>by rw[Ko] at r;cases r;exact .nil
 | n::ns,_,r=>by
  rw[Iy] at r
  cases r with
  | @cons _ u _ us h t =>
   obtain⟨t',e⟩:=(show ∃t,u=Value.int n t from h);subst e;exact .cons _ _ (gM t)
theorem DH{X:Cx}(hc:X.calm=true):bW X (.builtin "max") (aQ X.K fMax):=by
 intro ab s σ H xs us Q I rv h;obtain⟨M,ds,R,m,rs,h,k⟩:=h;replace h:=Cm h
 rcases h with⟨i,j,rfl,h⟩ | ⟨_,rfl,h⟩
 ·skip
  refine tZ hc ab s σ H xs us Q I rv ?_;obtain⟨x,y,rfl,h1,h2⟩:=lN rs;refine⟨i,j,by rw[aT h1,aT h2],k _ h _ H (bF.refl H) ?_⟩;unfold HP
  congr 1
  by_cases z:j>i
  ·rw[Ir z];omega
  ·rw[Io z];omega
 ·obtain⟨ns,rfl,ai,h⟩:=h;obtain⟨x,rfl,q⟩:=aR rs;unfold HP at q;obtain⟨a,vs,rfl,_,e,r⟩:=q;obtain⟨u,rfl,ru⟩:=eU rv
  cases ru
  cases j8 r
  obtain⟨aj,ag,pl,_⟩:=I.list (Ht.of e);have hi:=gM ag;obtain⟨ys,ey⟩:=hi.allInts.items;have hn:ys.toList.map (·.1)=ns:=by
   have e1:=nums_intItems ys
   rw[<- ey] at e1;exact e1.symm.trans hi.numsOf
  have hz:ys.size=ns.length:=by rw[<- hn,HS,IQ]
  have hl:=pl.isList
  rw[ey] at hl;refine max_intList (I.ok.hd hc) hl (by omega) λv h' tk hv hk=>?_;obtain⟨t,rfl⟩:=intItems_at hv;obtain⟨h1,h2⟩:=argBest_gt (numAt ys) (ys.size-1);refine⟨.int _,H,I.kept (t':=tk) hk,⟨t,rfl⟩,k _ (h _ ?_ λb hb=>?_) _ H (bF.refl H) (HP.sc rfl)⟩
  ·rw[numAt_eq,hn];have aa:argBest (λi j=>decide (numAt ys i>numAt ys j)) (ys.size-1)<ns.length:=by omega
   rw[List.getD_eq_getElem?_getD,List.getElem?_eq_getElem aa];exact Kh aa
  ·obtain⟨j,hj,ej⟩:=List.getElem_of_mem hb;have:=h2 j 'b';rw[numAt_eq ys j,hn] at this;have ah:ns.getD j 0=b:=by rw[List.getD_eq_getElem?_getD,List.getElem?_eq_getElem hj];exact ej
   rw[ah] at this;exact this
end DL
namespace Mf
variable {b p q:Int}
def gc(a b:Int):Int:=(Int.gcd a b:Nat)
theorem o6(a b:Int):gc b (a.fmod b)=gc a b:=by
 unfold gc;rw[Int.fmod_def,Int.gcd_sub_mul_left_right,Int.gcd_comm]
theorem dr(a b:Int)(hb:b≠0):(a.fmod b).natAbs<b.natAbs:=by
 rcases Int.lt_or_gt_of_ne hb with h | h
 ·have e:a.fmod b=-((-a).fmod (-b)):=by
   have h1:(-a).fdiv (-b)=a.fdiv b:=Int.neg_fdiv_neg a b
   rw[Int.fmod_def,Int.fmod_def,h1,Int.neg_mul];omega
  have h1:=IV (-a) (b:=-b) 'b'
  have h2:=Jl (-a) (b:=-b) 'b'
  rw[e];omega
 ·have h1:=IV a h
  have h2:=Jl a h
  omega
theorem pJ(a:Int):gc a 0=if a<0 then -a else a:=by
 unfold gc;rw[Int.gcd_zero_right]
 split<;>omega
theorem wo(a b:Int):0<=gc a b:=by unfold gc;omega
theorem vz(a:Int)(h:b≠0):0<gc a b:=by
 unfold gc;have:=Int.gcd_pos_of_ne_zero_right a h;omega
theorem fC(a b:Int):gc a b ∣ a:=Int.gcd_dvd_left a b
theorem d4(a b:Int):gc a b ∣ b:=Int.gcd_dvd_right a b
theorem oN(a:Int)(h:b≠0):(gc a b).natAbs<=b.natAbs:=by
 unfold gc;have:=Int.gcd_le_natAbs_right a h;omega
structure Low(p q:Int):Prop where
 pos:0<q
 cop:gc p q=1
theorem Low.cop'(h:Low p q):Int.gcd p q=1:=by have:=h.cop;unfold gc at this;omega
theorem Low.ne(h:Low p q):q≠0:=by have:=h.pos;omega
theorem Low.uniq{p' q':Int}(h:Low p q)(h':Low p' q')(e:p*q'=p'*q):p=p'/\q=q':=by
 have d1:q ∣ q':=by
  have:q ∣ p*q':=⟨p',by rw[e,Jd]⟩
  have g:Int.gcd q p=1:=by rw[Int.gcd_comm];exact h.cop'
  have k:=(J6 (k:=q) (n:=p) (m:=q')).mpr this
  rw[g] at k;simpa using k
 have d2:q' ∣ q:=by
  have:q' ∣ p'*q:=⟨p,by rw[<- e,Jd]⟩
  have g:Int.gcd q' p'=1:=by rw[Int.gcd_comm];exact h'.cop'
  have k:=(J6 (k:=q') (n:=p') (m:=q)).mpr this
  rw[g] at k;simpa using k
 have eq:q=q':=by
  have a1:=Int.le_of_dvd h'.pos d1
  have a2:=Int.le_of_dvd h.pos d2
  omega
 subst eq;exact⟨Int.eq_of_mul_eq_mul_right h.ne e,rfl⟩
def dv(t b:Int):Int:=if b<0 then -(gc t b) else gc t b
def HD(t b:Int):Int:=t.fdiv (dv t b)
def Hf(t b:Int):Int:=b.fdiv (dv t b)
theorem EG(t:Int)(h:b≠0):dv t b≠0:=by
 have:=vz t h
 unfold dv
 split<;>omega
theorem pQ(t b:Int):dv t b ∣ t:=by
 unfold dv
 split
 ·exact(Int.neg_dvd).mpr (fC t b)
 ·exact fC t b
theorem mV(t b:Int):dv t b ∣ b:=by
 unfold dv
 split
 ·exact(Int.neg_dvd).mpr (d4 t b)
 ·exact d4 t b
theorem vY(t b:Int):HD t b*dv t b=t:=JY (pQ t b)
theorem ou(t b:Int):Hf t b*dv t b=b:=JY (mV t b)
theorem mN(t b:Int):(dv t b).natAbs=Int.gcd t b:=by
 unfold dv gc
 split<;>omega
theorem eJ(t:Int)(h:b≠0):Low (HD t b) (Hf t b):=by
 have e1:=vY t b
 have e2:=ou t b
 have hd:=EG t h
 constructor
 ·unfold dv at e2 hd;have gp:=vz t h
  by_cases hb:b<0
  ·rw[Ir hb] at e2;have:Hf t b*gc t b=-b:=by rw[Int.mul_neg] at e2;omega
   exact Int.pos_of_mul_pos_left (by omega) gp |> λz=>z
  ·rw[Io hb] at e2;exact Int.pos_of_mul_pos_left (by omega) gp |> λz=>z
 ·have g:Int.gcd (HD t b*dv t b) (Hf t b*dv t b)=Int.gcd (HD t b) (Hf t b)*(dv t b).natAbs:=Int.gcd_mul_right _ _ _
  rw[e1,e2,mN] at g;have gp:=Int.gcd_pos_of_ne_zero_right t h;unfold gc;have:Int.gcd (HD t b) (Hf t b)=1:=by
   have g2:1*Int.gcd t b=Int.gcd (HD t b) (Hf t b)*Int.gcd t b:=by rw[Nat.one_mul];exact g
   exact(Nat.eq_of_mul_eq_mul_right gp g2).symm
  omega
theorem sj(t b:Int):HD t b*b=t*Hf t b:=by
 have e1:=vY t b
 have e2:=ou t b
 calc HD t b*b=HD t b*(Hf t b*dv t b):=by rw[e2]
  _=(HD t b*dv t b)*Hf t b:=by rw[Jo,Jd (Hf t b)]
  _=t*Hf t b:=by rw[e1]
theorem Bd{t:Int}(hb:b≠0)(h:Low p q)(e:p*b=t*q):HD t b=p/\Hf t b=q:=by
 refine(eJ t hb).uniq h ?_;have c:=sj t b;refine Int.eq_of_mul_eq_mul_right hb ?_
 calc HD t b*q*b=HD t b*b*q:=by rw[Jo,Jd q,<- Jo]
  _=t*Hf t b*q:=by rw[c]
  _=(t*q)*Hf t b:=by rw[Jo,Jd (Hf t b),<- Jo]
  _=p*b*Hf t b:=by rw[e]
  _=p*Hf t b*b:=by rw[Jo,Jd b,<- Jo]
theorem Low.self(h:Low p q):HD p q=p/\Hf p q=q:=Bd h.ne h rfl
end Mf
namespace Mf
open PySem L2 DL
variable {q p:Str→Int} {B C:Int}
def Hl(q:Str->Int):Zb->Int
 | []=>1
 | n::r=>q n*Hl q r
theorem gU(q:Str->Int)(l r:Zb):Hl q (l++r)=Hl q l*Hl q r:=by
 induction l with
 | nil=>show Hl q r=1*Hl q r;rw[Int.one_mul]
 | cons x l ih=>show q x*Hl q (l++r)=q x*Hl q l*Hl q r;rw[ih,Jo]
theorem oK(q:Str->Int)(n:Str):Hl q [n]=q n:=by show q n*1=q n;rw[Int.mul_one]
theorem cN:∀ {l:Zb},(∀n∈l,0<q n)->0<Hl q l
 | [],_=>(by decide:(0:Int)<1)
 | n::r,h=>Int.mul_pos (h n (HY ..)) (cN λm hm=>h m (HV _ hm))
theorem dZ:∀ {l:Zb} {n:Str},n∈l->q n ∣ Hl q l
 | x::r,n,h=>by
  rcases Ih.mp h with rfl | h
  ·exact KC _ _
  ·exact JF (dZ h) (JC _ _)
theorem w5{l r:Zb}(h:l.Perm r):Hl q l=Hl q r:=by
 induction h with
 | nil=>rfl
 | cons x _ ih=>show q x*_=q x*_;rw[ih]
 | swap x y l=>show q y*(q x*Hl q l)=q x*(q y*Hl q l);rw[<- Jo,<- Jo,Jd (q y)]
 | trans _ _ h1 h2=>rw[h1,h2]
def cV(f:Str->Int):List (Str×Int)->Int
 | []=>0
 | t::r=>t.2*f t.1+cV f r
theorem jh(f:Str->Int)(l r:List (Str×Int)):cV f (l++r)=cV f l+cV f r:=by
 induction l with
 | nil=>show cV f r=0+cV f r;rw[J5]
 | cons x l ih=>show x.2*f x.1+cV f (l++r)=x.2*f x.1+cV f l+cV f r;rw[ih,Int.add_assoc]
theorem qv(f:Str->Int)(t:Str×Int):cV f [t]=t.2*f t.1:=by show t.2*f t.1+0=_;rw[Kq]
theorem gY{f g:Str->Int}:∀ {l:List (Str×Int)},(∀t∈l,f t.1=g t.1)->cV f l=cV g l
 | [],_=>rfl
 | t::r,h=>by show t.2*f t.1+_=t.2*g t.1+_;rw[h t (HY ..),gY λu hu=>h u (HV _ hu)]
theorem je(f:Str->Int)(k:Int):∀l:List (Str×Int),k*cV f l=cV (λn=>k*f n) l
 | []=>Int.mul_zero k
 | t::r=>by
  show k*(t.2*f t.1+cV f r)=t.2*(k*f t.1)+_
  rw[Int.mul_add,je f k r,Jj]
def v4(ts:List (Str×Int)):List (Str×Int):=ts.map λt=>(t.1,-t.2)
def ov(p q:Str->Int)(B:Int)(n:Str):Int:=p n*B.fdiv (q n)
theorem yB{n:Str}(h0:q n≠0)(h:q n ∣ B)(h':q n ∣ C):C*ov p q B n=B*ov p q C n:=by
 obtain⟨x,rfl⟩:=h;obtain⟨y,rfl⟩:=h';unfold ov;rw[Jt _ h0,Jt _ h0];rw[Jj,Jj (q n*x),Jo,Jo,Jd y x]
theorem vM{ts:List (Str×Int)}(h:∀t∈ts,q t.1≠0/\q t.1 ∣ B/\q t.1 ∣ C):C*cV (ov p q B) ts=B*cV (ov p q C) ts:=by
 rw[je,je];exact gY λt ht=>yB (h t ht).1 (h t ht).2.1 (h t ht).2.2
theorem yK{ts:List (Str×Int)}{t:Str×Int}(h:∀u∈ts,q u.1≠0/\q u.1 ∣ B)(ht:q t.1≠0) :
  cV (ov p q B) ts*q t.1+t.2*p t.1*B=cV (ov p q (B*q t.1)) (ts++[t]):=by
 rw[jh,qv];have e1:cV (ov p q (B*q t.1)) ts=cV (ov p q B) ts*q t.1:=by
  rw[Jd (cV (ov p q B) ts),je];refine gY λu hu=>?_;obtain⟨h0,x,rfl⟩:=h u hu;unfold ov;rw[Jo,Jt _ h0,Jt _ h0,Jd x,Jj]
 have e2:ov p q (B*q t.1) t.1=p t.1*B:=by
  unfold ov;rw[Jd B,Jt _ ht]
 rw[e1,e2,Jo]
theorem yI{a b s t:Int}(hB:0<B)(hC:0<C)(e:C*s=B*t):(b*B<=s↔b*C<=t):=by
 constructor
 ·intro h;have h1:=Int.mul_le_mul_of_nonneg_left h (Kr hC);rw[e] at h1;have h2:B*(b*C)<=B*t:=by rw[Jj B,Jd B C,Jj b];exact h1
  exact Int.le_of_mul_le_mul_left h2 hB
 ·intro h;have h1:=Int.mul_le_mul_of_nonneg_left h (Kr hB);rw[<- e] at h1;have h2:C*(b*B)<=C*s:=by rw[Jj C,Jd C B,Jj b];exact h1
  exact Int.le_of_mul_le_mul_left h2 hC
theorem xm{b s t:Int}(hB:0<B)(hC:0<C)(e:C*s=B*t):(b*B<s↔b*C<t):=by
 constructor
 ·intro h;have h1:=Int.mul_lt_mul_of_pos_left h hC;rw[e] at h1;have h2:B*(b*C)<B*t:=by rw[Jj B,Jd B C,Jj b];exact h1
  exact Int.lt_of_mul_lt_mul_left h2 (Kr hB)
 ·intro h;have h1:=Int.mul_lt_mul_of_pos_left h hB;rw[<- e] at h1;have h2:C*(b*B)<C*s:=by rw[Jj C,Jd C B,Jj b];exact h1
  exact Int.lt_of_mul_lt_mul_left h2 (Kr hC)
end Mf
namespace DL
open PySem PySem.Spec PyProof.Rows L2
theorem uK{x y:Nat}{r t:List Nat}:ltCps (x::r) (y::t)=if x<y then true else if y<x then false else ltCps r t:=by
 show (decide (x<y)||(x==y&&ltCps r t))=_
 rcases Ka x y with h | h | h
 ·rw[Ir h,IC h];rfl
 ·subst h;rw[Io (Je x),Io (Je x)];simp
 ·rw[Io (KN h),Ir h,IL (KN h)];have:(x==y)=false:=by simp;omega
  rw[this];rfl
theorem rK:∀ {a b:List Nat},ltCps a b=false->ltCps b a=false->a=b
 | [],[],_,_=>rfl
 | [],y::s,h,_=>by simp[ltCps] at h
 | x::r,[],_,h=>by simp[ltCps] at h
 | x::r,y::s,h1,h2=>by
  rw[uK] at h1 h2
  rcases Ka x y with h | h | h
  ·rw[Ir h] at h1;cases h1
  ·subst h;rw[Io (Je x),Io (Je x)] at h1 h2;rw[rK h1 h2]
  ·rw[Ir h] at h2;cases h2
theorem ku:∀ {a b c:List Nat},ltCps b a=false->ltCps c b=false->ltCps c a=false
 | [],b,c,_,_=>by cases c<;>rfl
 | x::r,[],c,h,_=>by simp[ltCps] at h
 | x::r,y::s,[],_,h=>by simp[ltCps] at h
 | x::r,y::s,z::t,h1,h2=>by
  rw[uK] at h1 h2 ⊢
  rcases Ka y x with h | h | h
  ·rw[Ir h] at h1;cases h1
  ·subst h;rw[Io (Je y),Io (Je y)] at h1
   rcases Ka z y with g | g | g
   ·rw[Ir g] at h2;cases h2
   ·subst g;rw[Io (Je z),Io (Je z)] at h2 ⊢;exact ku h1 h2
   ·rw[Io (KN g),Ir g]
  ·rcases Ka z y with g | g | g
   ·rw[Ir g] at h2;cases h2
   ·subst g;rw[Io (KN h),Ir h]
   ·have:x<z:=Nat.lt_trans h g
    rw[Io (KN this),Ir this]
def leS(a b:Str):Prop:=ltCps b.cps.toList a.cps.toList=false
theorem FA{a b:Str}(h1:leS a b)(h2:leS b a):a=b:=by
 have:=rK h2 h1
 cases a;cases b
 simp only[Str.mk.injEq] at *;exact Array.toList_inj.mp this
theorem nH:∀ {ss:Zb},Srt ss->ss.Pairwise leS
 | [],_=>.nil
 | x::r,h=>by
  have h:risingS x r=true:=h
  have aa:∀(r:Zb) (x:Str),risingS x r=true->(∀y∈r,leS x y)/\r.Pairwise leS:=by
   intro r
   induction r with
   | nil=>intro x _;exact⟨λy hy=>(nomatch hy),.nil⟩
   | cons y r ih =>
    intro x h;unfold risingS at h;obtain⟨h1,h2⟩:=IB.mp h;have h1:leS x y:=by unfold leS;cases q:ltCps y.cps.toList x.cps.toList with
     | false=>rfl
     | true=>rw[q] at h1;cases h1
    obtain⟨i1,i2⟩:=ih y h2;refine⟨λz hz=>?_,.cons i1 i2⟩
    rcases Ih.mp hz with rfl | hz
    ·exact h1
    ·exact ku h1 (i1 z hz)
  obtain⟨k1,k2⟩:=aa r x h;exact .cons k1 k2
theorem lX:∀ {as bs:Zb},as.Pairwise leS->bs.Pairwise leS->as.Nodup->bs.Nodup->(∀x,x∈as↔x∈bs)->as=bs
 | [],[],_,_,_,_,_=>rfl
 | [],b::bs,_,_,_,_,h=>by have:=(h b).mpr (HY ..);cases this
 | a::as,[],_,_,_,_,h=>by have:=(h a).mp (HY ..);cases this
 | a::as,b::bs,pa,pb,na,nb,h=>by
  cases pa with
  | cons pa1 pa2 =>
   cases pb with
   | cons pb1 pb2 =>
    have e:a=b:=by
     rcases Ih.mp ((h a).mp (HY ..)) with e | ha
     ·exact e
     ·rcases Ih.mp ((h b).mpr (HY ..)) with e | hb
      ·exact e.symm
      ·exact FA (pa1 b hb) (pb1 a ha)
    subst e;obtain⟨n1,n2⟩:=Jg.mp na;obtain⟨n3,n4⟩:=Jg.mp nb;rw[lX pa2 pb2 n2 n4 λx=>⟨λhx=>?_,λhx=>?_⟩]
    ·rcases Ih.mp ((h x).mp (HV _ hx)) with e | hx'
     ·exact absurd (e ▸ hx) n1
     ·exact hx'
    ·rcases Ih.mp ((h x).mpr (HV _ hx)) with e | hx'
     ·exact absurd (e ▸ hx) n3
     ·exact hx'
end DL
namespace DL
open PySem PySem.Spec PyProof.Rows L2
variable {k l:Bool} {h h':Heap} {it a z p o j b:Addr} {i m:Nat} {xs ys:Array Value} {x:Value} {Q:Value→Shared→Prop} {elts:List Expr} {pos:Pos} {X:Cx} {pins:List (Addr×Obj)} {σ:L2.St} {H:Hp} {s:Shared}
def ItA(k:Bool)(h:Heap)(it a:Addr)(i:Nat):Prop:=match k with | true=>h.IsListIter it a i | false=>h.IsTupleIter it a i
def SqA(k:Bool)(h:Heap)(a:Addr)(xs:Array Value):Prop:=match k with | true=>h.IsList a xs | false=>h.IsTuple a xs
theorem ItA.keep(x:ItA k h it a i)(f:∀o,h.get? it=some o->h'.get? it=some o):ItA k h' it a i:=by
 cases k
 ·exact Heap.IsTupleIter.at x f
 ·exact Heap.IsListIter.at x f
theorem SqA.keep(x:SqA k h a xs)(f:∀o,h.get? a=some o->h'.get? a=some o):SqA k h' a xs:=by
 cases k
 ·exact Heap.IsTuple.at x f
 ·exact Heap.IsList.at x f
theorem ItA.obj(x:ItA k h it a i):∃o,h.get? it=some o/\o.cls=.type (if k then "list_iterator" else "tuple_iterator")/\o.data=.fields #[.ref a,.int i 0]:=by
 cases k
 ·exact x
 ·exact x
theorem SqA.there(x:SqA k h a xs):∃o,h.get? a=some o/\∃n,o.data=.seq xs n:=by
 cases k
 ·obtain⟨o,e,_,d⟩:=x;exact⟨o,e,d⟩
 ·obtain⟨o,e,_,d⟩:=x;exact⟨o,e,d⟩
section
variable {prog:Program} {w:World} {A:Around} {E:Value→Shared→Prop} {s:Shared}
theorem GC{t:Addr}(a1:s.heap.IsTupleIter it t i)(a2:s.heap.IsTuple t xs)(a3:xs[i]?=some x)
  (q:∀h',h'.IsTupleIter it t (i+1)->Heap.SameBut it s.heap h'->Q x { s with heap:=h' }):wpAny 'q' A (Builtin.SmallTypes.nextOf (.ref it)) Q E s:=by
 obtain⟨u,e1,e2,e3⟩:=id a1;obtain⟨ut,f1,_,nn,f2⟩:=a2;unfold Builtin.SmallTypes.nextOf;refine HU (wpAny_callSpecial?_slot (name:=Str.ofString "__next__") a1.typeIs JM (Js JM a1.typeIs F.entry_tuple_iterator_next ?_ (F.args_tuple_iterator_next_1 _)));refine HU (m:=field (.ref it) 0) (Jv e1 e3 (x:=.ref t) rfl ?_);rw[Io (c:=(Value.ref t==Value.none)=true) Ie];refine HU (m:=field (.ref it) 1) (Jv e1 e3 (x:=.int i 0) rfl ?_);refine HU (m:=seqItems? (.ref t)) (Jy f1 f2 ?_);simp only[Int.toNat_natCast,a3];refine HU (wpAny_setField e1 e3 'p' (HZ ⟨x,rfl,HZ (q _ ?_ (Kj ..))⟩));refine⟨_,Heap.get?_update_self _ e1 (Obj.isFreed_of_fields (Obj.data_mapFields e3 _)),(Obj.cls_mapFields ..).trans e2,?_⟩;rw[Obj.data_mapFields e3];simp[rawInt]
theorem vi{t:Addr}(a0:A.handled=none)(a1:s.heap.IsTupleIter it t i)(a2:s.heap.IsTuple t xs)(a3:xs[i]?=none)
  (q:∀h' e,Heap.ExtBut it s.heap h'->(∃o,h'.get? e=some o/\o.cls=.type "StopIteration")->E (.ref e) { s with heap:=h' }):wpAny 'q' A (Builtin.SmallTypes.nextOf (.ref it)) Q E s:=by
 obtain⟨u,e1,e2,e3⟩:=id a1;obtain⟨ut,f1,_,nn,f2⟩:=a2;unfold Builtin.SmallTypes.nextOf;refine HU (wpAny_callSpecial?_slot (name:=Str.ofString "__next__") a1.typeIs JM (Js JM a1.typeIs F.entry_tuple_iterator_next ?_ (F.args_tuple_iterator_next_1 _)));refine HU (m:=field (.ref it) 0) (Jv e1 e3 (x:=.ref t) rfl ?_);rw[Io (c:=(Value.ref t==Value.none)=true) Ie];refine HU (m:=field (.ref it) 1) (Jv e1 e3 (x:=.int i 0) rfl ?_);refine HU (m:=seqItems? (.ref t)) (Jy f1 f2 ?_);simp only[Int.toNat_natCast,a3];refine HU (KW (HU (wpAny_setField e1 e3 'p' ?_)));refine HU (m:=newExc (.type "StopIteration") []) ?_;simp only[newExc,newTuple];refine HU (Jf ?_ (by size_fits));refine HU (m:=firstArgMember _ _) (wpAny_of_eq (a:=Value.none) (by first | rfl | (simp only[firstArgMember];rfl)) ?_);refine Jf ?_ (by size_fits);simp only[raiseNew];refine HU (wpAny_handled ?_)
 first | rw[show A.in1.handled=none from a0] | rw[a0]
 exact HU (HZ (wpAny_throw (q _ _ (((Kj ..).extBut.push _).push _) ⟨_,Heap.get?_push_size _ rfl,rfl⟩)))
theorem xZ(a1:ItA k s.heap it a i)(a2:SqA k s.heap a xs)(a3:xs[i]?=some x)
  (q:∀h',ItA k h' it a (i+1)->Heap.SameBut it s.heap h'->Q x { s with heap:=h' }):wpAny 'q' A (Builtin.SmallTypes.nextOf (.ref it)) Q E s:=by
 cases k
 ·exact GC a1 a2 a3 q
 ·exact wpAny_nextOf_list_item a1 a2 a3 q
theorem jP(a0:A.handled=none)(a1:ItA k s.heap it a i)(a2:SqA k s.heap a xs)(a3:xs[i]?=none)
  (q:∀h' e,Heap.ExtBut it s.heap h'->(∃o,h'.get? e=some o/\o.cls=.type "StopIteration")->E (.ref e) { s with heap:=h' }):wpAny 'q' A (Builtin.SmallTypes.nextOf (.ref it)) Q E s:=by
 cases k
 ·exact vi a0 a1 a2 a3 q
 ·exact wpAny_nextOf_list_end a0 a1 a2 a3 q
theorem sy(a1:SqA k s.heap a xs)
  (q:Q (.ref s.heap.objs.size) { s with heap:=s.heap.push { cls:=.type (if k then "list_iterator" else "tuple_iterator"),data:=.fields #[.ref a,.int 0 0] } }):wpAny 'q' A (pyIter (.ref a)) Q E s:=by
 cases k
 ·exact wpAny_pyIter_tuple a1 q
 ·exact JT a1 q
structure ZAp(z p o i j a b:Addr):Prop where
 zp:p≠z
 zo:o≠z
 zi:i≠z
 zj:j≠z
 po:p≠o
 pi:p≠i
 pj:p≠j
 oi:o≠i
 oj:o≠j
 ij:i≠j
 az:a≠z
 ao:a≠o
 ai:a≠i
 aj:a≠j
 bz:b≠z
 bo:b≠o
 bi:b≠i
 bj:b≠j
structure ZAt(k l:Bool)(h:Heap)(z p o i j a b:Addr)(m:Nat)(xs ys:Array Value):Prop where
 hz:IsZip h z p o .none
 hp:IsPair h p (.ref i) (.ref j)
 ho:∃u v,IsPair h o u v
 hi:ItA k h i a m
 hj:ItA l h j b m
 ha:SqA k h a xs
 hb:SqA l h b ys
theorem GP{i:Addr}{y:Value}{x1}{Q:Unit->Shared->Prop}(D:ZAp z p o i j a b)(Z:ZAt k l s.heap z p o i j a b m xs ys)(hx:xs[m]?=some x)(hy:ys[m]?=some y)
  (q:∀h',ZAt k l h' z p o i j a b (m+1) xs ys->IsPair h' s.heap.objs.size x y->h'.objs.size=s.heap.objs.size+1->(∀c u,c≠z->c≠o->c≠i->c≠j->s.heap.get? c=some u->h'.get? c=some u)->Q () { s with heap:=h' }) :
  wpAny 'q' A (pyNext (.ref z)) (λr s1=>∃u,r=some u/\u=.ref s.heap.objs.size/\wpAny 'q' A (letOwnedTupleGo (.Tuple elts x1 pos) (.ref z) u) Q E s1) E s:=by
 obtain⟨hz,hp,⟨u,v,ho⟩,hi,hj,ha,hb⟩:=Z;have hT:s.TypeIs (.ref z) "zip":=⟨_,hz,rfl⟩;unfold pyNext;refine HU (wpAny_attempt (wpAny_callSpecial?_slot (name:=Str.ofString "__next__") hT Lb (Js Lb hT F.entry_zip_next ?_ (F.args_zip_next_1 _))));refine HU (m:=field (.ref z) 2) (Jv hz rfl (x:=.bool false) rfl ?_);refine HU (m:=field (.ref z) 3) (Jv hz rfl (x:=.ref p) rfl ?_);refine HU (Jy hp rfl ?_);refine HU (m:=Builtin.SmallTypes.ownedTupleIsFree (.ref z)) ?_;unfold Builtin.SmallTypes.ownedTupleIsFree;refine HU (Jv hz rfl (x:=.none) rfl (HZ ?_));simp only[if_true];refine HU (KW (HU (Jv hz rfl (x:=.ref o) rfl (HU (IP hz (by simp) λg1 z1 s1=>?_)))));replace z1:IsZip g1 z p o .ellipsis:=z1;refine HU ?_;simp only[List.zipIdx_cons,List.zipIdx_nil,List.forIn_cons,List.forIn_nil];refine HU (HU (wpAny_onRaise ?_));have k1:∀c u,c≠z->s.heap.get? c=some u->g1.get? c=some u:=λc u n e=>s1.extBut _ _ n e;refine HU (m:=Builtin.SmallTypes.nextOf (.ref i)) (xZ (hi.keep λu e=>k1 _ u D.zi e) (ha.keep λu e=>k1 _ u D.az e) hx λg2 i2 s2=>HZ ?_);have k2:∀c u,c≠i->g1.get? c=some u->g2.get? c=some u:=λc u n e=>s2.extBut _ _ n e;have o2:IsPair g2 o u v:=k2 _ _ D.oi (k1 _ _ D.zo ho);refine HU (Jy o2 rfl (HU (KR o2 λg3 o3 s3=>HU (wpAny_letGo (HZ ?_)))));replace o3:IsPair g3 o x v:=o3;have k3:∀c u,c≠o->g2.get? c=some u->g3.get? c=some u:=λc u n e=>s3.extBut _ _ n e;refine HU (HU (wpAny_onRaise ?_));refine HU (m:=Builtin.SmallTypes.nextOf (.ref j)) (xZ (hj.keep λu e=>k3 _ u D.oj.symm (k2 _ u D.ij.symm (k1 _ u D.zj e))) (hb.keep λu e=>k3 _ u D.bo (k2 _ u D.bi (k1 _ u D.bz e))) hy λg4 j4 s4=>HZ ?_)
 have k4:∀c u,c≠j->g3.get? c=some u->g4.get? c=some u:=λc u n e=>s4.extBut _ _ n e
 have o4:IsPair g4 o x v:=k4 _ _ D.oj o3
 refine HU (Jy o4 rfl (HU (KR o4 λg5 o5 s5=>HU (wpAny_letGo (HZ (HZ ?_))))));replace o5:IsPair g5 o x y:=o5;have k5:∀c u,c≠o->g4.get? c=some u->g5.get? c=some u:=λc u n e=>s5.extBut _ _ n e;refine HU (Jy o5 rfl (HU (wpAny_newTuple ?_)));have hsz:g5.objs.size=s.heap.objs.size:=by rw[s5.1,s4.1,s3.1,s2.1,s1.1]
 have z5:IsZip g5 z p o .ellipsis:=k5 _ _ D.zo.symm (k4 _ _ D.zj.symm (k3 _ _ D.zo.symm (k2 _ _ D.zi.symm z1)))
 have kk:∀c u,c≠z->c≠o->c≠i->c≠j->s.heap.get? c=some u->g5.get? c=some u:=λc u n1 n2 n3 n4 e=>k5 _ _ n2 (k4 _ _ n4 (k3 _ _ n2 (k2 _ _ n3 (k1 _ _ n1 e))))
 have i5:ItA k g5 i a (m+1):=i2.keep λu e=>k5 _ u D.oi.symm (k4 _ u D.ij (k3 _ u D.oi.symm e))
 have j5:ItA l g5 j b (m+1):=j4.keep λu e=>k5 _ u D.oj.symm e
 have lz:=Iw z5
 refine HU (m:=Builtin.SmallTypes.ownedTupleHandOut (.ref z) (.ref g5.objs.size)) ?_;unfold Builtin.SmallTypes.ownedTupleHandOut;have z6:IsZip (g5.push { cls:=.type "tuple",data:=.seq #[x,y] }) z p o .ellipsis:=Heap.get?_push_of_some _ z5;refine HU (IP z6 (by simp) λg7 z7 s7=>?_);replace z7:IsZip g7 z p o (rawInt g5.objs.size):=z7;refine IP z7 (by simp) λg8 z8 s8=>?_;replace z8:IsZip g8 z p o (rawInt g5.objs.size):=z8;have k8:∀c u,c≠z->g5.get? c=some u->g8.get? c=some u:=λc u n e=>s8.extBut _ _ n (s7.extBut _ _ n (Heap.get?_push_of_some _ e));have t8:IsPair g8 g5.objs.size x y:=s8.extBut _ _ (JW lz) (s7.extBut _ _ (JW lz) (Heap.get?_push_size _ rfl));have n8:g8.objs.size=g5.objs.size+1:=by rw[s8.1,s7.1,Jc]
 rw[hsz] at z8 t8 n8;refine HZ ⟨_,rfl,HZ ⟨_,rfl,JK Value.ref hsz,?_⟩⟩;show wpAny 'q' A (letOwnedTupleGo (.Tuple elts x1 pos) (.ref z) (.ref g5.objs.size)) Q E _;rw[hsz];refine wpAny_letOwnedTupleGo_zip z8 λg9 z9 s9=>?_;have k9:∀c u,c≠z->g8.get? c=some u->g9.get? c=some u:=λc u n e=>s9.extBut _ _ n e;have up:∀c u,c≠z->g5.get? c=some u->g9.get? c=some u:=λc u n e=>k9 _ _ n (k8 _ _ n e);refine q g9 ⟨z9,up _ _ D.zp (kk _ _ D.zp D.po D.pi D.pj hp),⟨x,y,up _ _ D.zo o5⟩,i5.keep λu e=>up _ u D.zi e,j5.keep λu e=>up _ u D.zj e,ha.keep λu e=>up _ u D.az (kk _ _ D.az D.ao D.ai D.aj e),hb.keep λu e=>up _ u D.bz (kk _ _ D.bz D.bo D.bi D.bj e)⟩ ?_ ?_ λc u n1 n2 n3 n4 e=>up c u n1 (kk c u n1 n2 n3 n4 e)
 ·exact k9 _ _ (by rw[<- hsz];exact JW lz) t8
 ·rw[s9.1,n8]
theorem GQ{i:Addr}{Q:Zd->Shared->Prop}(a0:A.handled=none)(D:ZAp z p o i j a b)(Z:ZAt k l s.heap z p o i j a b m xs ys)(hend:xs[m]?=none\/ys[m]?=none)
  (q:∀h',(∀c u,c≠z->c≠o->c≠i->c≠j->s.heap.get? c=some u->h'.get? c=some u)->Q none { s with heap:=h' }):wpAny 'q' A (pyNext (.ref z)) Q E s:=by
 obtain⟨hz,hp,⟨u,v,ho⟩,hi,hj,ha,hb⟩:=Z;have hT:s.TypeIs (.ref z) "zip":=⟨_,hz,rfl⟩;unfold pyNext;have ah:∀(g:Heap) (e:Addr),(∀c u,c≠z->c≠o->c≠i->c≠j->s.heap.get? c=some u->g.get? c=some u)->(∃o,g.get? e=some o/\o.cls=.type "StopIteration") ->
   wpAny 'q' A (do if<-isInstance (.ref e) (.type "StopIteration") then pure (none:Zd) else throw (.ref e)) Q E { s with heap:=g }:=λg e kk ⟨oe,h1,h2⟩ =>
  HU (wpAny_isInstance (T:="StopIteration") (b:=true) ⟨oe,h1,h2⟩ isSubtype_stop (HZ (q _ kk)))
 refine HU (wpAny_attempt (wpAny_callSpecial?_slot (name:=Str.ofString "__next__") hT Lb (Js Lb hT F.entry_zip_next ?_ (F.args_zip_next_1 _))));refine HU (m:=field (.ref z) 2) (Jv hz rfl (x:=.bool false) rfl ?_);refine HU (m:=field (.ref z) 3) (Jv hz rfl (x:=.ref p) rfl ?_);refine HU (Jy hp rfl ?_);refine HU (m:=Builtin.SmallTypes.ownedTupleIsFree (.ref z)) ?_;unfold Builtin.SmallTypes.ownedTupleIsFree;refine HU (Jv hz rfl (x:=.none) rfl (HZ ?_));simp only[if_true];refine HU (KW (HU (Jv hz rfl (x:=.ref o) rfl (HU (IP hz (by simp) λg1 z1 s1=>?_)))));replace z1:IsZip g1 z p o .ellipsis:=z1;refine HU ?_;simp only[List.zipIdx_cons,List.zipIdx_nil,List.forIn_cons,List.forIn_nil];refine HU (HU (wpAny_onRaise ?_));have k1:∀c u,c≠z->s.heap.get? c=some u->g1.get? c=some u:=λc u n e=>s1.extBut _ _ n e;have i1:=hi.keep λu e=>k1 _ u D.zi e;have a1:=ha.keep λu e=>k1 _ u D.az e
 cases hx:xs[m]? with
 | none =>
  refine HU (m:=Builtin.SmallTypes.nextOf (.ref i)) (jP a0 i1 a1 hx λg2 e s2 he=>?_);obtain⟨oe,aa,ab⟩:=he;have z2:IsZip g2 z p o .ellipsis:=s2 _ _ D.zi.symm z1;have ag:e≠z:=λx=>by subst x;rw[z2] at aa;cases aa;simp at ab
  exact IP z2 (by simp) λg3 _ s3=>ah g3 e (λc u n1 _ n3 _ x=>s3.extBut _ _ n1 (s2 _ _ n3 (k1 _ _ n1 x))) ⟨oe,s3.extBut _ _ ag aa,ab⟩
 | some x =>
  have hy:ys[m]?=none:=by rcases hend with h | h;rw[hx] at h;cases h;exact h
  refine HU (m:=Builtin.SmallTypes.nextOf (.ref i)) (xZ i1 a1 hx λg2 i2 s2=>HZ ?_);have k2:∀c u,c≠i->g1.get? c=some u->g2.get? c=some u:=λc u n e=>s2.extBut _ _ n e;have o2:IsPair g2 o u v:=k2 _ _ D.oi (k1 _ _ D.zo ho);refine HU (Jy o2 rfl (HU (KR o2 λg3 o3 s3=>HU (wpAny_letGo (HZ ?_)))));have k3:∀c u,c≠o->g2.get? c=some u->g3.get? c=some u:=λc u n e=>s3.extBut _ _ n e;refine HU (HU (wpAny_onRaise ?_));refine HU (m:=Builtin.SmallTypes.nextOf (.ref j)) (jP a0 (hj.keep λu e=>k3 _ u D.oj.symm (k2 _ u D.ij.symm (k1 _ u D.zj e))) (hb.keep λu e=>k3 _ u D.bo (k2 _ u D.bi (k1 _ u D.bz e))) hy λg4 e s4 he=>?_);obtain⟨oe,aa,ab⟩:=he;have z4:IsZip g4 z p o .ellipsis:=s4 _ _ D.zj.symm (k3 _ _ D.zo.symm (k2 _ _ D.zi.symm z1));have ag:e≠z:=λx=>by subst x;rw[z4] at aa;cases aa;simp at ab
  exact IP z4 (by simp) λg5 _ s5=>ah g5 e (λc u n1 n2 n3 n4 x=>s5.extBut _ _ n1 (s4 _ _ n4 (k3 _ _ n2 (k2 _ _ n3 (k1 _ _ n1 x))))) ⟨oe,s5.extBut _ _ ag aa,ab⟩
abbrev zh(k l:Bool)(h:Heap)(a b:Addr):Heap:=((((h.push { cls:=.type (if k then "list_iterator" else "tuple_iterator"),data:=.fields #[.ref a,.int 0 0] }).push { cls:=.type (if l then "list_iterator" else "tuple_iterator"),data:=.fields #[.ref b,.int 0 0] }).push
 { cls:=.type "tuple",data:=.seq #[.ref h.objs.size,.ref (h.objs.size+1)] }).push { cls:=.type "tuple",data:=.seq #[.none,.none] }).push { cls:=.type "zip",data:=.fields #[.none,.bool false,.bool false,.ref (h.objs.size+2),.ref (h.objs.size+3)] }
theorem ES(k l:Bool)(a b:Addr)(xs ys:Array Value):Meets (Builtin.«zip.__new__» ⟨[.type "zip",.ref a,.ref b],[]⟩) (λ_ R s=>SqA k s.heap a xs/\SqA l s.heap b ys/\R (.ok (.ret (.ref (s.heap.objs.size+4)))) { s with heap:=zh k l s.heap a b }) :=
 .of_wp λprog w A R s h=>by
  obtain⟨hp,g,d,tk,os⟩:=s;obtain⟨a1,a2,h⟩:=h;have aa:=sub_zip;have b1:SqA k (Shared.heap ⟨hp,g,d,tk,os⟩) a xs:=a1;have b2:SqA l (Shared.heap ⟨hp.push { cls:=.type (if k then "list_iterator" else "tuple_iterator"),data:=.fields #[.ref a,.int 0 0] },g,d,tk,os⟩) b ys:=SqA.keep a2 λo e=>Heap.get?_push_of_some _ e
  wp_walk using sy b1,sy b2
  refine⟨_,rfl,?_⟩;simp only[Heap.size_push];exact h
theorem FF(a1:SqA k s.heap a xs)(a2:SqA l s.heap b ys)
  (h:ZAt k l (zh k l s.heap a b) (s.heap.objs.size+4) (s.heap.objs.size+2) (s.heap.objs.size+3) s.heap.objs.size (s.heap.objs.size+1) a b 0 xs ys->(∀c o,s.heap.get? c=some o->(zh k l s.heap a b).get? c=some o)->Q (.ref (s.heap.objs.size+4)) { s with heap:=zh k l s.heap a b }) :
  wpAny 'q' A (call (.type "zip") [.ref a,.ref b]) Q E s:=by
 refine callType_new F.called_zip 'd' (F.typeCall_zip_2 _ _) (F.newCall_zip_2 _ _) (λobj=>F.args_object_init_3 obj _ _) F.entry_zip_new (ES k l a b xs ys) ⟨a1,a2,?_⟩;have up:∀c o,s.heap.get? c=some o->(zh k l s.heap a b).get? c=some o:=λc o e=>Heap.get?_push_of_some _ (Heap.get?_push_of_some _ (Heap.get?_push_of_some _ (Heap.get?_push_of_some _ (Heap.get?_push_of_some _ e))));have sz:∀(h:Heap) (o:Obj) (n:Nat),h.objs.size=n->o.isFreed=false->(h.push o).get? n=some o:=λh o n e f=>by rw[<- e];exact Heap.get?_push_size _ f
 have e4:(zh k l s.heap a b).get? (s.heap.objs.size+4)=some _:=sz _ _ _ (by simp only[Heap.size_push]) rfl
 have e3:(zh k l s.heap a b).get? (s.heap.objs.size+3)=some _:=Heap.get?_push_of_some _ (sz _ _ _ (by simp only[Heap.size_push]) rfl)
 have e2:(zh k l s.heap a b).get? (s.heap.objs.size+2)=some _:=Heap.get?_push_of_some _ (Heap.get?_push_of_some _ (sz _ _ _ (by simp only[Heap.size_push]) rfl))
 have e1:(zh k l s.heap a b).get? (s.heap.objs.size+1)=some _:=Heap.get?_push_of_some _ (Heap.get?_push_of_some _ (Heap.get?_push_of_some _ (sz _ _ _ (by simp only[Heap.size_push]) rfl)))
 have e0:(zh k l s.heap a b).get? s.heap.objs.size=some _:=Heap.get?_push_of_some _ (Heap.get?_push_of_some _ (Heap.get?_push_of_some _ (Heap.get?_push_of_some _ (Heap.get?_push_size _ rfl))))
 have i0:ItA k (zh k l s.heap a b) s.heap.objs.size a 0:=by
  cases k
  ·exact⟨_,e0,rfl,rfl⟩
  ·exact⟨_,e0,rfl,rfl⟩
 have i1:ItA l (zh k l s.heap a b) (s.heap.objs.size+1) b 0:=by
  cases l
  ·exact⟨_,e1,rfl,rfl⟩
  ·exact⟨_,e1,rfl,rfl⟩
 exact⟨⟨_,e4,rfl⟩,h ⟨e4,e2,⟨_,_,e3⟩,i0,i1,a1.keep λo e=>up _ o e,a2.keep λo e=>up _ o e⟩ up⟩
theorem ZAp.new{n a b:Nat}(h1:a<n)(h2:b<n):ZAp (n+4) (n+2) (n+3) n (n+1) a b:=by
 constructor<;>(intro e;have e:(_:Nat)=_:=e;omega)
end
theorem lx{t':Nat}{fp:List Addr}(I:Inv X pins σ H s)(k:∀b o,b∉fp->s.heap.get? b=some o->h'.get? b=some o)(hf:∀b∈fp,xa X pins H b) :
  Inv X pins σ H { s with heap:=h',toks:=t' }:=by
 have aa:∀b u,H b=some u->b∉fp:=λb u e z=>by rw[(hf b z).1] at e;cases e
 refine I.step (g':=s.gens) (d':=s.drawn) (ch:=fp) (λb hb=>?_) (λb o _ _ hc e _=>k b o hc e) (λb o _ _ hc e _=>⟨o.slots,k b o hc e⟩) (λ_ _ _ _ n=>n)
  (λb o hc e=>⟨o,k b o hc e⟩) (λ_ _ e=>e) (λ_ _ _ e=>e) (λb ps e=>⟨#[],by rw[e];simp⟩) (λm hm=>?_) (λb u e=>?_) I.bare
 ·obtain⟨f0,f1,f2,f3,f4,f5⟩:=hf b hb;exact⟨f3,f1,f4,f5⟩
 ·obtain⟨o,es,ep,ho,r⟩:=hm;exact⟨o,es,ep,k _ o (λz=>(hf _ z).2.1 rfl) ho,r⟩
 ·refine(I.hok b u e).stay (λc v hc q=>k c v ?_ q) (λ_ q=>q) λ_ _ q=>q
  rcases hc with z | z
  ·rw[z];exact aa b u e
  ·exact aa c _ z
def Hj(k:Bool)(K:PySem.W.Frag)(H:Hp)(a:Addr)(xs:Zf):Prop:=match k with | true=>Ht K H a xs | false=>Hv K H a xs
theorem Hj.at{xs:Zf}(I:Inv X pins σ H s)(h:Hj k X.K H a xs):∃its:Zc,bI xs its/\SqA k s.heap a its.toArray:=by
 cases k
 ·obtain⟨its,r,p,_⟩:=I.tuple h;exact⟨its,r,p⟩
 ·obtain⟨its,r,p,_⟩:=I.list h;exact⟨its,r,p.isList⟩
theorem Hj.inj{xs ys:Zf}(I:Inv X pins σ H s)(h:Hj k X.K H a xs)(h':Hj k X.K H a ys):xs=ys:=by
 cases k
 ·exact I.tuple_inj h h'
 ·exact I.list_inj h h'
def Itz(K:PySem.W.Frag)(k l:Bool)(a b:Addr):It :=
  ⟨λi H=>∃xs ys x y,Hj k K H a xs/\Hj l K H b ys/\xs[i]?=some x/\ys[i]?=some y,
   λi H v H'=>∃T x y,H T=none/\H'=HL H T (.tup [x,y])/\v=.ref T/\(∀xs,Hj k K H a xs->xs[i]?=some x)/\∀ys,Hj l K H b ys->ys[i]?=some y,
   λi H=>∃xs ys,Hj k K H a xs/\Hj l K H b ys/\(xs.length<=i\/ys.length<=i)⟩
structure ZI(k l:Bool)(h:Heap)(z p o i j a b:Addr)(m:Nat):Prop where
 hz:IsZip h z p o .none
 hp:IsPair h p (.ref i) (.ref j)
 ho:∃u v,IsPair h o u v
 hi:ItA k h i a m
 hj:ItA l h j b m
theorem ZAt.zi{i:Addr}(Z:ZAt k l h z p o i j a b m xs ys):ZI k l h z p o i j a b m:=⟨Z.hz,Z.hp,Z.ho,Z.hi,Z.hj⟩
theorem xA{P:Program}{w:World}{K:PySem.W.Frag}{x1}{i:Addr}(D:ZAp z p o i j a b) :
  zk P w K (.Tuple elts x1 pos) (Itz K k l a b) [z,p,o,i,j] z (λm h=>ZI k l h z p o i j a b m) where
 mem:=by simp
 obj:=λm h Z c hc=>by
  simp only[List.mem_cons,List.not_mem_nil,or_false] at hc
  rcases hc with rfl | rfl | rfl | rfl | rfl
  ·exact⟨_,Z.hz,λv=>nofun⟩
  ·exact⟨_,Z.hp,λv=>nofun⟩
  ·obtain⟨u,v,e⟩:=Z.ho;exact⟨_,e,λv=>nofun⟩
  ·obtain⟨q,e,_,d⟩:=Z.hi.obj;exact⟨q,e,λv=>by rw[d];nofun⟩
  ·obtain⟨q,e,_,d⟩:=Z.hj.obj;exact⟨q,e,λv=>by rw[d];nofun⟩
 keep:=λm h h' Z kk=>⟨kk _ 'p' _ Z.hz,kk _ 'p' _ Z.hp,(by obtain⟨u,v,e⟩:=Z.ho;exact⟨u,v,kk _ 'p' _ e⟩),Z.hi.keep λq e=>kk _ (by simp) q e,Z.hj.keep λq e=>kk _ 'p' q e⟩
 item:=by
  intro X hP hw hK hc m aa s σ H E I hf Z hg;subst hP hw hK;obtain⟨xs,ys,x,y,h1,h2,hx,hy⟩:=hg;obtain⟨is,r1,p1⟩:=Hj.at I h1;obtain⟨js,r2,p2⟩:=Hj.at I h2;obtain⟨u,hu,ru⟩:=r1.get hx;obtain⟨v,hv,rv⟩:=r2.get hy;refine Hm (GP (E:=E) (Q:=λ_ s2=>∃x H',Inv X aa σ H' s2/\bE x (.ref s.heap.objs.size)/\(Itz X.K k l a b).yld m H x H'/\ZI k l s2.heap z p o i j a b (m+1)/\∀b∈[z,p,o,i,j],H' b=none) (elts:=elts) (x1:=x1) (pos:=pos) D ⟨Z.hz,Z.hp,Z.ho,Z.hi,Z.hj,p1,p2⟩ (x:=u) (y:=v) (by simpa using hu) (by simpa using hv) λh' Z' t' n' kk=>?_) λr s1 ⟨u',e1,e2,q⟩=>⟨u',e1,by subst e2;exact q⟩;have ab:H s.heap.objs.size=none:=I.hok.fresh (Ib _);have I1:Inv X aa σ (HL H s.heap.objs.size (.tup [x,y])) { s with heap:=s.heap.push { cls:=.type "tuple",data:=.seq #[u,v] } }:=I.laid (t':=s.toks) (λb u e=>Heap.get?_push_of_some _ e) (Ib _) ⟨by show 2<=sizeLine;decide,[u,v],.cons ru (.cons rv .nil),⟨_,Heap.get?_push_size _ rfl,rfl,_,rfl⟩⟩;have lt:∀c∈[z,p,o,i,j],c≠s.heap.objs.size:=λc hc=>by
   have:∃q,s.heap.get? c=some q:=by
    simp only[List.mem_cons,List.not_mem_nil,or_false] at hc
    rcases hc with rfl | rfl | rfl | rfl | rfl
    ·exact⟨_,Z.hz⟩
    ·exact⟨_,Z.hp⟩
    ·obtain⟨u,v,e⟩:=Z.ho;exact⟨_,e⟩
    ·obtain⟨q,e,_⟩:=Z.hi.obj;exact⟨q,e⟩
    ·obtain⟨q,e,_⟩:=Z.hj.obj;exact⟨q,e⟩
   obtain⟨q,e⟩:=this;exact II (Iw e)
  have fr:∀c∈[z,p,o,i,j],HL H s.heap.objs.size (.tup [x,y]) c=none:=λc hc=>by rw[aJ (lt c hc)];exact(hf c hc).1
  have I2:Inv X aa σ (HL H s.heap.objs.size (.tup [x,y])) { s with heap:=h' }:=lx (s:={ s with heap:=s.heap.push { cls:=.type "tuple",data:=.seq #[u,v] } }) (t':=s.toks) (fp:=[z,p,o,i,j]) I1 (λc q hc e=>?_) λc hc=>⟨fr c hc,(hf c hc).2⟩
  ·exact⟨.ref s.heap.objs.size,_,I2,rfl,⟨_,x,y,ab,rfl,rfl,λzs hz=>by rw[Hj.inj I hz h1];exact hx,λzs hz=>by rw[Hj.inj I hz h2];exact hy⟩,Z'.zi,fr⟩
  ·rcases Heap.get?_push_cases e with⟨rfl,rfl⟩ | e
   ·exact t'
   ·exact kk c q (λz=>hc (by simp[z])) (λz=>hc (by simp[z])) (λz=>hc (by simp[z])) (λz=>hc (by simp[z])) e
 done:=by
  intro X hP hw hK hc m aa s σ H E I hf Z hg;subst hP hw hK;obtain⟨xs,ys,h1,h2,hl⟩:=hg;obtain⟨is,r1,p1⟩:=Hj.at I h1;obtain⟨js,r2,p2⟩:=Hj.at I h2;have l1:=r1.length;have l2:=r2.length;refine GQ (I.ok.hd hc) D ⟨Z.hz,Z.hp,Z.ho,Z.hi,Z.hj,p1,p2⟩ (hl.imp (λh=>by simp;omega) λh=>by simp;omega) λh' kk=>⟨rfl,lx (t':=s.toks) (fp:=[z,p,o,i,j]) I (λc q hc e=>?_) hf⟩;exact kk c q (λz=>hc (by simp[z])) (λz=>hc (by simp[z])) (λz=>hc (by simp[z])) (λz=>hc (by simp[z])) e
 self:=λ_ _ _ _ _ Z h=>wpAny_pyIter_zip Z.hz h
section
variable {X:Cx}
def iZip(K:PySem.W.Frag)(k l:Bool)(ta:TA):TI:=λσ H R=>ta σ H λvs H1=>∃a b,vs=[.ref a,.ref b]/\(∃xs,Hj k K H1 a xs)/\(∃ys,Hj l K H1 b ys)/\R (Itz K k l a b) H1
theorem C4{a b:Expr}{ta:TA}{p:Pos}{x1}{pos':Pos}(hg:Gl X "zip")(hm:X.mg "zip"=none)(ha:PA X [a,b] ta)(hs:starEach [a,b] X.env=[(false,eval a X.env),(false,eval b X.env)]:=by rfl)(hs2:starEach [b] X.env=[(false,eval b X.env)]:=by rfl) :
  PI X (.Tuple elts x1 pos') (.Call (.Name "zip" p) [a,b] [] pos) (iZip X.K k l ta):=by
 intro aa s σ H R I h;refine Call_ (gu I hg hm boot_zip (Jn (Hm (ha pos aa s σ H _ I h) λus s1 ⟨vs,H1,I1,r1,q1⟩=>?_) (by rw[hs,hs2]) (by rw[hs2];rfl)));obtain⟨c,d,e,⟨xs,hx⟩,⟨ys,hy⟩,q⟩:=q1;subst e
 cases r1 with
 | cons r rr =>
  cases rr with
  | cons r' rr =>
   cases rr
   cases r
   cases r'
   obtain⟨is,_,p1⟩:=Hj.at I1 hx;obtain⟨js,_,p2⟩:=Hj.at I1 hy;refine FF p1 p2 λZ up=>wpAny_pyIter_zip Z.hz ?_;have lt:∀ {k:Bool} {c:Addr} {zs:Array Value},SqA k s1.heap c zs->c<s1.heap.objs.size:=λh=>let ⟨_,e,_⟩:=h.there;Iw e;refine⟨_,_,_,_,H1,rfl,I1.kept (t':=s1.toks) up,xA (ZAp.new (lt p1) (lt p2)),Z.zi,λb hb=>?_,q⟩;have hb:s1.heap.objs.size<=b:=by
    simp only[List.mem_cons,List.not_mem_nil,or_false] at hb
    rcases hb with rfl | rfl | rfl | rfl | rfl
    ·exact Ki ..
    ·exact Ki ..
    ·exact Ki ..
    ·exact Ib _
    ·exact Ki ..
   exact I1.fpOk hb (I1.hok.fresh hb)
end
def sq(k:Bool)(xs:Zh):D:=match k with | true=>.lst xs | false=>.tup xs
def sK(xs ys:Zh):Zh:=List.zipWith (λx y=>D.tup [x,y]) xs ys
def qS:Bool->D->(Zh->Prop)->Prop
 | true,d,k=>qL d k
 | false,d,k=>qT d k
theorem qS.ex{b:Bool}{d:D}{k:Zh->Prop}(h:qS b d k):∃xs,d=sq b xs/\k xs:=by
 cases b
 ·exact qT.ex h
 ·exact qL.ex h
def Dt(k l:Bool)(t:HK)(δ:En)(R:Zh->En->Prop):Prop:=t δ λds δ1=>qC ds λx r=>qC r λy r=>qN r <| qS k x λxs=>qS l y λys=>R (sK xs ys) δ1
section
variable {X:Cx} {ta:HK}
theorem rP{K:PySem.W.Frag}{M:Addr->Prop}{xs:Zh}{v:V}(h:HP K M H (sq k xs) v):∃a vs,v=.ref a/\Hj k K H a vs/\Reps K M H xs vs:=by
 cases k
 ·unfold sq HP at h;exact h
 ·unfold sq HP at h;obtain⟨a,vs,e,_,l,r⟩:=h;exact⟨a,vs,e,Ht.of l,r⟩
theorem qU(k l:Bool){a b:Expr}{p:Pos}{x1}{pos':Pos}(hg:Gl X "zip")(hm:X.mg "zip"=none)(ha:DA X [a,b] ta)(hs:starEach [a,b] X.env=[(false,eval a X.env),(false,eval b X.env)]:=by rfl)(hs2:starEach [b] X.env=[(false,eval b X.env)]:=by rfl) :
  CI X (.Tuple elts x1 pos') (.Call (.Name "zip" p) [a,b] [] pos) (Dt k l ta) :=
 ⟨_,C4 (k:=k) (l:=l) hg hm ha hs hs2,λG δ P σ H R Q s hs kk=>⟨G,δ,P,_,s,hs,λds δ1 h1 vs H1 hl s1=>by
  replace h1:=qC.ex h1;obtain⟨x,r,e,h1⟩:=h1;replace h1:=qC.ex h1;obtain⟨y,r',e',h1⟩:=h1;replace h1:=qN.ex h1;obtain⟨e2,h1⟩:=h1;replace h1:=qS.ex h1;obtain⟨xs,e3,h1⟩:=h1;replace h1:=qS.ex h1;obtain⟨ys,e4,r⟩:=h1;subst e4 e3 e2 e' e
  match vs,hl with
  | [v,w],_ =>
   have s2:S X.K G δ1 ((sq k xs,v)::(sq l ys,w)::P) σ H1:=s1
   have at1:∀A δ σ H,Sx X.K G A δ ((sq k xs,v)::(sq l ys,w)::P) σ H->∃a vs,v=.ref a/\Hj k X.K H a vs/\Reps X.K (λb=>G.M0 b\/A b) H xs vs:=λA δ σ H x=>rP (x.pnd (sq k xs,v) 'p')
   have at2:∀A δ σ H,Sx X.K G A δ ((sq k xs,v)::(sq l ys,w)::P) σ H->∃a vs,w=.ref a/\Hj l X.K H a vs/\Reps X.K (λb=>G.M0 b\/A b) H ys vs:=λA δ σ H x=>rP (x.pnd (sq l ys,w) 'p')
   obtain⟨A1,x1⟩:=id s2;obtain⟨a,ah,rfl,l0,_⟩:=at1 _ _ _ _ x1;obtain⟨b,ai,rfl,m0,_⟩:=at2 _ _ _ _ x1;have aj:(sK xs ys).length=min xs.length ys.length:=by unfold sK;rw[List.length_zipWith]
   refine⟨a,b,rfl,⟨ah,l0⟩,⟨ai,m0⟩,kk _ δ1 r _ _ H1 (λq hq=>by simp[hq]) s2 (λA δ σ i H x hi=>?_) (λA δ σ H x=>?_) λA δ σ i y H H2 x hi hy=>?_⟩
   ·obtain⟨_,vs,e,l,r⟩:=at1 _ _ _ _ x
    cases e
    obtain⟨_,ws,e,l2,r2⟩:=at2 _ _ _ _ x
    cases e
    obtain⟨v',hv,_⟩:=Reps.get _ _ r i (xs[i]'(by omega)) 'p';obtain⟨w',hw,_⟩:=Reps.get _ _ r2 i (ys[i]'(by omega)) 'p';exact⟨vs,ws,v',w',l,l2,hv,hw⟩
   ·obtain⟨_,vs,e,l,r⟩:=at1 _ _ _ _ x
    cases e
    obtain⟨_,ws,e,l2,r2⟩:=at2 _ _ _ _ x
    cases e
    have:=Reps.length _ _ r
    have:=Reps.length _ _ r2
    exact⟨vs,ws,l,l2,by omega⟩
   ·obtain⟨_,vs,e,l,r⟩:=at1 _ _ _ _ x
    cases e
    obtain⟨_,ws,e,l2,r2⟩:=at2 _ _ _ _ x
    cases e
    obtain⟨T,x',y',hT,rfl,rfl,hx,hy⟩:=hy;have ab:i<xs.length:=by omega
    have aa:i<ys.length:=by omega
    obtain⟨v',hv,rv⟩:=Reps.get _ _ r i xs[i] (by simp[ab]);obtain⟨w',hw,ag⟩:=Reps.get _ _ r2 i ys[i] (by simp[aa]);have e1:=hx vs l;have e2:=hy ws l2;rw[hv] at e1;rw[hw] at e2;have e1:=Iq e1;have e2:=Iq e2;rw[e1] at rv;rw[e2] at ag;have sm:bF H (HL H T (.tup [x',y'])):=aH hT _;refine⟨sm,.tup [xs[i],ys[i]],?_,?_⟩
    ·unfold sK;rw[List.getElem?_zipWith,List.getElem?_eq_getElem ab,List.getElem?_eq_getElem aa]
    ·unfold HP
     exact⟨T,[x',y'],rfl,.inl (.inl aG),Reps.cons (HP.kp (Kp.of_same sm) _ _ rv) (Reps.one (HP.kp (Kp.of_same sm) _ _ ag))⟩⟩⟩
end
def dFor(src:TDC)(g:TDG)(tb:TDS)(R:a7)(δ:En):Prop:=src δ λxs δ1=>∃I:Nat->En->Prop,I 0 δ1 /\
 (∀i x δ',xs[i]?=some x->I i δ'->g x δ' (tb { R with nx:=I (i+1),ct:=I (i+1),bk:=R.nx,tp:=False }))/\∀δ',I xs.length δ'->R.nx δ'
theorem exsP{K:PySem.W.Frag}{G:Gf}{P P1:List (D×V)}{W:XK}{R:Str->Str->D->Prop}(hP:∀p∈P,p∈P1)(k:∀c f d,R c f d->∀e C dx δ' σ' H',S K G δ' ((.exn c f d,.ref e)::P) σ' H'->H' e=some (XAt e C dx)->W (.ref e) (some dx) H') :
  ∀c f d,R c f d->∀e C dx δ' σ' H',S K G δ' ((.exn c f d,.ref e)::P1) σ' H'->H' e=some (XAt e C dx)->W (.ref e) (some dx) H':=λc f d r e C dx δ' σ' H' s=>k c f d r e C dx δ' σ' H' (s.sub λp hp=>by
 rcases Ih.mp hp with rfl | hp
 ·simp
 ·simp[hP p hp])
theorem ia{tg e:Expr}{src:TDC}{g:TDG}{t:TDS}{body:List Stmt}(hp:PassesOwn 'k' X.A X.env X.xe)(hc:X.calm=true)(hi:CI X tg e src)(hg:DG X tg g)(hb:DSs X body t)(hs:∀x,foldedSetIterable e X.env x=pure x:=by intro _;rfl) :
  DS X (.For tg e body [] pos) (dFor src g t):=by
 obtain⟨wi,hi,hw⟩:=hi;refine PS.imp (qA hp hc hi hg hb hs) λE σ H ⟨G,δ,P,R,s,h,k1,k2,k3,k4⟩=>?_;refine hw G δ P σ H _ _ s h λxs δ1 ⟨I,i0,turn,fin⟩ J P1 H1 hP s1 hgo hst hyl=>?_;refine⟨λi m σ H=>m=xs.length-i/\i<=xs.length/\∃δ,I i δ/\S X.K G δ P1 σ H,⟨xs.length,by simp,Jq _,δ1,i0,s1⟩,?_⟩;rintro i m σ H ⟨rfl,hi,δ',ii,s'⟩;obtain⟨A,x⟩:=id s'
 by_cases hlt:i<xs.length
 ·refine .inr ⟨hgo A _ _ i H x hlt,λσ' H'=>∃δ',I (i+1) δ'/\S X.K G δ' P1 σ' H',λσ' H' ⟨δ',p',s'⟩=>⟨xs.length-(i+1),by omega,rfl,hlt,δ',p',s'⟩,λy H' hy=>?_⟩;obtain⟨sm,d,hd,rd⟩:=hyl A _ _ i y H H' x hlt hy;refine⟨G,δ',P1,d,_,⟨A,(x.same sm).push rd⟩,turn i d δ' hd ii,λδ2 h2 σ2 H2 s2=>?_⟩;refine⟨G,δ2,P1,_,s2,h2,λδ3 h3 σ3 H3 s3=>⟨δ3,h3,s3⟩,⟨λd δ3 h3 v3 σ3 H3 s3=>k2.1 d δ3 h3 v3 σ3 H3 (s3.sub λp hp=>?_),k2.2.1,exsP hP k2.2.2⟩,λδ3 h3 σ3 H3 s3=>k1 δ3 h3 σ3 H3 (s3.sub λp hp=>hP p hp),λδ3 h3 σ3 H3 s3=>⟨δ3,h3,s3⟩,λz=>z.elim⟩
  rcases Ih.mp hp with rfl | hp
  ·simp
  ·simp[hP p hp]
 ·have e:i=xs.length:=by omega
  subst e;exact .inl ⟨hst A _ _ H x,k1 δ' (fin δ' ii) σ H (s'.sub λp hp=>hP p hp)⟩
end DL
namespace DL
open PySem PySem.Spec PyProof.Rows L2
section
variable {X:Cx}
def fSum:Zh->(D->Prop)->Prop
 | [.lst ds],R=>∃ns:Ze,ds=ns.map D.int/\R (.int ns.sum)
 | _,_=>False
theorem Af:∀ {d0:Zh} {R:D->Prop},fSum d0 R->∃(ds:Zh),d0=[.lst ds]/\∃ns:Ze,ds=ns.map D.int/\R (.int ns.sum):=by walk_at "or"
theorem xI{ds:Zh}{R:D->Prop}:fSum [.lst ds] R=(∃ns:Ze,ds=ns.map D.int/\R (.int ns.sum)):=rfl
theorem GZ(hc:X.calm=true):bW X (.builtin "sum") (aQ X.K fSum):=by
 intro ab s σ H xs us Q I rv h;obtain⟨M,ds,R,m,rs,h,k⟩:=h;replace h:=Af h;obtain⟨_,rfl,h⟩:=h
 ·obtain⟨ns,rfl,h⟩:=h;obtain⟨x,rfl,q⟩:=aR rs;unfold HP at q;obtain⟨a,vs,rfl,_,e,r⟩:=q;obtain⟨u,rfl,ru⟩:=eU rv
  cases ru
  cases j8 r
  obtain⟨ag,aa,pl,_⟩:=I.list (Ht.of e);have hi:=gM aa;obtain⟨ys,ey⟩:=hi.allInts.items;have hn:ys.toList.map (·.1)=ns:=by
   have e1:=nums_intItems ys
   rw[<- ey] at e1;exact e1.symm.trans hi.numsOf
  have hl:=pl.isList
  rw[ey] at hl;refine sum_intListG (I.ok.hd hc) hl λh' tk t' hk=>?_;refine⟨.int ns.sum,H,I.kept (t':=tk) hk,⟨t',?_⟩,k _ h _ H (bF.refl H) (HP.sc rfl)⟩;rw[preSum_eq,J0 'p',hn]
def E2(i:Nat)(tk tx:HQ)(δ:En)(R:W->En->Prop):Prop:=qWD δ[i]? λ_ _ _=>tk δ (wd λz δ1=>tx δ1 (wd λx δ2=>AU δ2[i]? λks ds=>qX z λy=>R (.d ((dAt ks ds y).getD x)) δ2))
variable {e f:Expr} {ta tb:HQ} {pos:Pos}
theorem AZ(i:Nat){y:Str}{p apos cpos:Pos}(hu:X.A.units+64<cLine)(he:DE X e ta)(hf:DE X f tb)(hN:X.N[i]?=some y:=by rfl)(hv:Vis X.env.scope y:=by walk_at "v3")
  (hd:(y==("__debug__":Str))=false:=by decide) (hcd:(y==("__classdict__":Str))=false:=by decide) (m:M2 X (.Name y p) "get" apos e f cpos:=by exact⟨rfl,rfl,rfl,rfl⟩) :
  DE X (.Call (.Attribute (.Name y p) "get" apos) [e,f] [] cpos) (E2 i ta tb) :=
 PE.imp (rS 'b' (dP hN hv hd hcd) he hf m) λσ H Q ⟨G,δ,P,R,s,h1,k,_⟩=>let ⟨a,ks0,ds0,hi0,h1⟩:=qWD.ex h1;⟨.ref a,s.own hi0,a,rfl,by
  obtain⟨A,q⟩:=id s;obtain⟨_,aa,vs,ab,l,rs⟩:=q.own i a _ hi0;exact .inl ⟨_,.inl ab⟩,up.mk s h1 λz δ1 h2 v H1 s1=>up.mk s1 h2 λx δ2 h3 w H2 ⟨A,q⟩=>by
   replace h3:=AU.ex q (s.own hi0) h3;obtain⟨ks,ds,hi,h3⟩:=h3;replace h3:=qX.ex h3;obtain⟨y,ez,r⟩:=h3;subst ez;obtain⟨_,aa,vs,ab,l,rs⟩:=q.own i a _ hi;have p2:v=.str y:=bv (q.pnd (.str y,v) 'p');have g:=ph.k (k:=Sum.inr y) ab;rw[dN] at g;refine⟨_,by rw[p2];exact g,?_⟩
   cases ed:dAt ks ds y with
   | some d =>
    obtain⟨w',hw,ag⟩:=(Reps.dAt y ks ds vs rs).1 d ed;rw[ed] at r;rw[hw];exact k d δ2 r w' H2 ⟨A,(q.sub (P':=P) λp hp=>by simp[hp]).push ag⟩
   | none =>
    have hw:=(Reps.dAt y ks ds vs rs).2 ed
    rw[ed] at r;rw[hw]
    exact k x δ2 r w H2 ⟨A,q.sub λp hp=>by
     rcases Ih.mp hp with rfl | hp
     ·simp
     ·simp[hp]⟩⟩
end
end DL
namespace DL
open PySem PyProof.Rows
theorem FG:bootBuiltins "sum"=some (.builtin "sum"):=by decide +kernel
open PySem PySem.Spec PyProof.Rows L2
end DL
namespace Mf
open PySem L2 DL
variable {ts:List (Str×Int)} {i X:Nat} {ks:Zb} {x n:Str} {F:Str→Int} {ps:Za}
def Hh(t:Str×Int):D:=.tup [.str t.1,.int t.2]
structure mB(names:Zb)(ts:List (Str×Int)):Prop where
 sub:(ts.map (·.1)).Sublist names
 nz:∀t∈ts,t.2≠0
 bits:∀t∈ts,Builtin.Int.intBits t.2<=10000
theorem dB{d:D}(h:(ts.map Hh)[i]?=some d):∃t,ts[i]?=some t/\d=.tup [.str t.1,.int t.2]:=by
 rw[List.getElem?_map] at h
 cases e:ts[i]? with
 | none=>rw[e] at h;cases h
 | some n=>rw[e] at h;exact⟨n,rfl,(Iq h).symm⟩
theorem aD{α:Type}{l:List α}{x:α}(h:l[i]?=some x):l.take (i+1)=l.take i++[x]:=by rw[List.take_add_one,h];rfl
inductive Kd where
 | least | more
def kdS:Kd->Str
 | .least=>"least"
 | .more=>"more"
def gF(k:Kd)(ts:List (Str×Int))(b:Int):D:=.tup [.str (kdS k),.tup (ts.map Hh),.int b]
theorem vm:∀ts:List (Str×Int),D.nds (ts.map Hh)=true
 | []=>rfl
 | t::r=>by rw[Iy];unfold D.nds;rw[vm r];rfl
theorem vX:∀ts:List (Str×Int),D.dps (ts.map Hh)<=1
 | []=>Jq _
 | t::r=>by
  rw[Iy];unfold D.dps;exact Nat.max_le.mpr ⟨by show 1<=1;decide,vX r⟩
def HM(p:Int×Int):D:=.tup [.int p.1,.int p.2]
def fO(ks:Zb)(ps:Za)(n:Str):Int×Int:=(dAt ks ps n).getD (0,1)
def pT(ks:Zb)(ps:Za)(n:Str):Int:=(fO ks ps n).1
def pB(ks:Zb)(ps:Za)(n:Str):Int:=(fO ks ps n).2
theorem jH{α β:Type}(f:α->β):∀(ks:Zb) (ps:List α) (n:Str),dAt ks (ps.map f) n=(dAt ks ps n).map f
 | [],ps,n=>by cases ps<;>rfl
 | k::ks,[],n=>rfl
 | k::ks,p::ps,n=>by
  show (if k=n then some (f p) else dAt ks (ps.map f) n)=(if k=n then some p else dAt ks ps n).map f
  by_cases e:k=n
  ·rw[Ir e,Ir e];rfl
  ·rw[Io e,Io e];exact jH f ks ps n
theorem kq{α:Type}:∀ {ks:Zb} {ps:List α} {n:Str} {p:α},dAt ks ps n=some p->p∈ps
 | [],ps,n,p,h=>by cases ps<;>cases h
 | k::ks,[],n,p,h=>by cases h
 | k::ks,x::ps,n,p,h=>by
  have h:(if k=n then some x else dAt ks ps n)=some p:=h
  by_cases e:k=n
  ·rw[Ir e] at h;cases h;exact HY ..
  ·rw[Io e] at h;exact HV _ (kq h)
theorem dI{names:Zb}{d:D}(h:(names.map D.str)[i]?=some d):∃n,names[i]?=some n/\d=.str n:=by
 rw[List.getElem?_map] at h
 cases e:names[i]? with
 | none=>rw[e] at h;cases h
 | some n=>rw[e] at h;exact⟨n,rfl,(Iq h).symm⟩
theorem eP(h:x∉ks):jA ks x=ks++[x]:=by unfold jA;rw[Io h]
theorem eR{ds:Zh}{y:D}(h:x∉ks):mj ks ds x y=ds++[y]:=by unfold mj;rw[Io h]
theorem jb{l:Zb}(nd:l.Nodup)(h:l[i]?=some x):x∉l.take i:=by
 intro hm;obtain⟨j,hj,e⟩:=List.getElem_of_mem hm;rw[IH] at hj;rw[List.getElem_take] at e;obtain⟨hi,e2⟩:=List.getElem?_eq_some_iff.mp h;have:=(List.getElem_inj (h₀:=by omega) (h₁:=hi) nd).mp (e.trans e2.symm);omega
theorem uL{l:Zb}(h:l[i]?=some x):x∈l:=Im h
theorem df{α:Type}(f:Str->α):∀ {names:Zb} {n:Str},n∈names->dAt names (names.map f) n=some (f n)
 | x::r,n,h=>by
  show (if x=n then some (f x) else dAt r (r.map f) n)=_
  by_cases e:x=n
  ·rw[Ir e,e]
  ·rw[Io e];exact df f ((Ih.mp h).resolve_left λz=>e z.symm)
abbrev Rw:=Kd×List (Str×Int)×Int
def Hk(r:Rw):D:=gF r.1 r.2.1 r.2.2
def cf:List (Str×Int)->Str->Int
 | [],_=>0
 | t::r,n=>(if t.1=n then t.2 else 0)+cf r n
def cfs:List (Rw×Int)->Str->Int
 | [],_=>0
 | p::r,n=>p.2*cf p.1.2.1 n+cfs r n
def bds:List (Rw×Int)->Int
 | []=>0
 | p::r=>p.2*p.1.2.2+bds r
def isM:Kd->Bool
 | .least=>false
 | .more=>true
def Hw(l:List (Rw×Int)):Bool:=l.any λp=>isM p.1.1&&decide (0<p.2)
def kOf:Bool->Kd
 | true=>.more
 | false=>.least
theorem wf:∀ {a b:List (Str×Int)},cf (a++b) n=cf a n+cf b n
 | [],b=>(J5 _).symm
 | t::a,b=>by show _+cf (a++b) n=_+cf a n+_;rw[wf];omega
theorem uB:∀ {a b:List (Rw×Int)},cfs (a++b) n=cfs a n+cfs b n
 | [],b=>(J5 _).symm
 | t::a,b=>by show _+cfs (a++b) n=_+cfs a n+_;rw[uB];omega
theorem uZ:∀ {a b:List (Rw×Int)},bds (a++b)=bds a+bds b
 | [],b=>(J5 _).symm
 | t::a,b=>by show _+bds (a++b)=_+bds a+_;rw[uZ];omega
theorem vn{a b:List (Rw×Int)}:Hw (a++b)=(Hw a||Hw b):=List.any_append
theorem wv{p:Rw×Int}:Hw [p]=(isM p.1.1&&decide (0<p.2)):=by unfold Hw;simp
theorem kc:∀ {ts:List (Str×Int)},n∉ts.map (·.1)->cf ts n=0
 | [],_=>rfl
 | t::r,h=>by
  rw[Iy,Ih,not_or] at h;show (if t.1=n then t.2 else 0)+cf r n=0;rw[Io (λz=>h.1 z.symm),kc h.2];rfl
structure fL(F:Str->Int)(ts:List (Str×Int)):Prop where
 pw:(ts.map (·.1)).Pairwise leS
 nd:(ts.map (·.1)).Nodup
 val:∀t∈ts,t.2=F t.1/\t.2≠0
 all:∀n,F n≠0->n∈ts.map (·.1)
theorem fL.ext{us:List (Str×Int)}(h1:∀t∈ts,t.2=F t.1)(h2:∀t∈us,t.2=F t.1)(h:ts.map (·.1)=us.map (·.1)):ts=us:=by
 have e:∀ {l:List (Str×Int)},(∀t∈l,t.2=F t.1)->l=(l.map (·.1)).map λn=>(n,F n):=λ{l} hl=>by
  rw[IU]
  conv=>lhs;rw[<- List.map_id l]
  refine List.map_congr_left λt ht=>?_;show t=(t.1,F t.1);rw[<- hl t ht]
 rw[e h1,e h2,h]
theorem fL.uniq{us:List (Str×Int)}(a:fL F ts)(b:fL F us):ts=us:=by
 refine fL.ext (λt h=>(a.val t h).1) (λt h=>(b.val t h).1) (lX a.pw b.pw a.nd b.nd λn=>⟨λh=>b.all n ?_,λh=>a.all n ?_⟩)
 ·obtain⟨t,ht,rfl⟩:=HW.mp h;rw[<- (a.val t ht).1];exact(a.val t ht).2
 ·obtain⟨t,ht,rfl⟩:=HW.mp h;rw[<- (b.val t ht).1];exact(b.val t ht).2
theorem fL.mk'{ns:Zb}(pw:ns.Pairwise leS)(nd:ns.Nodup)(all:∀n,F n≠0->n∈ns):fL F ((ns.filter λn=>decide (F n≠0)).map λn=>(n,F n)):=by
 have e:((ns.filter λn=>decide (F n≠0)).map λn=>(n,F n)).map (·.1)=ns.filter λn=>decide (F n≠0):=by rw[IU];exact List.map_id _
 refine⟨by rw[e];exact pw.filter _,by rw[e];exact nd.filter _,λt ht=>?_,λn hn=>?_⟩
 ·obtain⟨n,h1,rfl⟩:=HW.mp ht;exact⟨rfl,by simpa using (Ia.mp h1).2⟩
 ·rw[e,Ia];exact⟨all n hn,by simpa using hn⟩
theorem rY{f g:Str->D}(h:∀n,n≠x->g n=f n):∀ks:Zb,om ks (ks.map f) x (g x)=ks.map g
 | []=>rfl
 | k::ks=>by
  show (if k=x then g x else f k)::om ks (ks.map f) x (g x)=g k::ks.map g
  rw[rY h ks]
  by_cases e:k=x
  ·rw[Ir e,e]
  ·rw[Io e,h k e]
theorem AC{f g:Str->D}(h:∀n,n≠x->g n=f n):mj ks (ks.map f) x (g x)=(jA ks x).map g:=by
 unfold mj jA
 by_cases e:x∈ks
 ·rw[Ir e,Ir e,rY h]
 ·rw[Io e,Io e,IA]
  congr 1
  exact List.map_congr_left λn hn=>(h n λz=>e (z ▸ hn)).symm
theorem uI(h:ks.Nodup):(jA ks x).Nodup:=by
 unfold jA
 by_cases e:x∈ks
 ·rw[Ir e];exact h
 ·rw[Io e,Jp];exact⟨h,by simp,λa ha b hb z=>by rw[Ii.mp hb] at z;exact e (z ▸ ha)⟩
theorem sE:n∈jA ks x↔n∈ks\/n=x:=by
 unfold jA
 by_cases e:x∈ks
 ·rw[Ir e];exact⟨.inl,λh=>h.elim id λz=>z ▸ e⟩
 ·rw[Io e,Ip,Ii]
theorem gy:∀ {ks nm:Zb},ks.Nodup->(∀n∈ks,n∈nm)->ks.length<=nm.length
 | [],_,_,_=>Jq _
 | k::ks,nm,h,hs=>by
  obtain⟨h1,h2⟩:=Jg.mp h;have hk:=hs k (HY ..);have:=gy (ks:=ks) (nm:=nm.erase k) h2 λn hn=>(List.mem_erase_of_ne (λz=>h1 (by rw[<- z];exact hn))).mpr (hs n (HV _ hn));rw[List.length_erase_of_mem hk] at this;have:0<nm.length:=List.length_pos_of_mem hk;rw[Ik];omega
theorem ql{α:Type}:∀ {ks:Zb} {ds:List α},x∉ks->dAt ks ds x=none
 | [],ds,_=>by cases ds<;>rfl
 | k::ks,[],_=>rfl
 | k::ks,d::ds,h=>by
  rw[Ih,not_or] at h;show (if k=x then some d else dAt ks ds x)=none;rw[Io (λz=>h.1 z.symm)];exact ql h.2
theorem xX(h:x∉ks->F x=0):(dAt ks (ks.map λn=>D.int (F n)) x).getD (.int 0)=.int (F x):=by
 by_cases e:x∈ks
 ·rw[df (λn=>D.int (F n)) e];rfl
 ·rw[ql e,h e];rfl
theorem ya{rows:List Rw}{ws:Ze}:sK (rows.map Hk) (ws.map D.int)=(rows.zip ws).map λp=>D.tup [Hk p.1,.int p.2]:=by
 unfold sK;rw[List.zipWith_map,List.zip,KQ]
theorem vh{nm:Zb}:∀ {l:List (Rw×Int)},(∀p∈l,∀t∈p.1.2.1,t.1∈nm)->cfs l n≠0->n∈nm
 | [],_,h=>absurd rfl h
 | p::r,hp,h=>by
  refine Ic λz=>?_;have h1:cfs r n=0:=Ic λy=>z (vh (λp h=>hp p (HV _ h)) y);have h2:cf p.1.2.1 n=0:=kc λhm=>by
   obtain⟨t,ht,e⟩:=HW.mp hm;exact z (e ▸ hp p (HY ..) t ht)
  refine h ?_;show p.2*cf p.1.2.1 n+cfs r n=0;rw[h1,h2,Int.mul_zero,J5]
structure RwOk(nm:Zb)(B:Nat)(r:Rw):Prop where
 sub:∀t∈r.2.1,t.1∈nm
 bw:∀t∈r.2.1,Builtin.Int.intBits t.2<=B
 bb:Builtin.Int.intBits r.2.2<=B
structure Pt(ks:Zb)(ps:Za)(X:Nat):Prop where
 len:ps.length=ks.length
 low:∀p∈ps,Low p.1 p.2
 b1:∀p∈ps,Builtin.Int.intBits p.1<=X
 b2:∀p∈ps,Builtin.Int.intBits p.2<=X
theorem Pt.at(hp:Pt ks ps X)(h:n∈ks):dAt ks ps n=some (fO ks ps n)/\fO ks ps n∈ps:=by
 have e:=de (ks:=ks) (ds:=ps) (x:=n) hp.len.symm
 rw[IC h] at e
 cases q:dAt ks ps n with
 | none=>rw[q] at e;cases e
 | some p =>
  have:fO ks ps n=p:=by unfold fO;rw[q];rfl
  rw[this];exact⟨rfl,kq q⟩
theorem Pt.D(hp:Pt ks ps X)(h:n∈ks):dAt ks (ps.map HM) n=some (.tup [.int (pT ks ps n),.int (pB ks ps n)]):=by
 rw[jH,(hp.at h).1];rfl
theorem Pt.Low(hp:Pt ks ps X)(h:n∈ks):Low (pT ks ps n) (pB ks ps n):=hp.low _ (hp.at h).2
theorem Pt.pos(hp:Pt ks ps X)(h:n∈ks):0<pB ks ps n:=(hp.low _ (hp.at h).2).pos
theorem Pt.Bb(hp:Pt ks ps X)(h:n∈ks):Builtin.Int.intBits (pB ks ps n)<=X:=hp.b2 _ (hp.at h).2
theorem Pt.Tb(hp:Pt ks ps X)(h:n∈ks):Builtin.Int.intBits (pT ks ps n)<=X:=hp.b1 _ (hp.at h).2
theorem Pt.mono{Y:Nat}(hp:Pt ks ps X)(h:X<=Y):Pt ks ps Y:=⟨hp.len,hp.low,λp hq=>HX (hp.b1 p hq) h,λp hq=>HX (hp.b2 p hq) h⟩
end Mf
namespace DL
open PySem PySem.Spec PyProof.Rows L2
section
variable {X:Cx} {pos:Pos} {a b e:Expr} {es:List Expr} {ta tb:HQ} {t:HK}
theorem tO:bW X (.type "dict") (λxs H Q=>∃a kvs,xs=[.ref a]/\Rd H a (.dK kvs)/\∀l,H l=none->Q (.ref l) (HL H l (.dK kvs))):=by
 intro ab s σ H xs us Q I rv h;obtain⟨a,kvs,rfl,e,k⟩:=h;obtain⟨u,rfl,ru⟩:=eU rv
 cases ru
 obtain⟨hz,lo,va,ra,da⟩:=fN I.hok e;have fr:H s.heap.objs.size=none:=I.hok.fresh (Ib _);refine kt_call_dict lo da (by rw[<- ra.length];exact hz) λh' dd sb=>?_;have kp:∀b o,s.heap.get? b=some o->h'.get? b=some o:=λb o e=>sb.extBut b o (II (Iw e)) (Heap.get?_push_of_some _ e);have aa:(s.heap.objs.size==sysModules)=false:=KY.mpr (JW I.big);exact⟨.ref _,_,I.laid (t':=s.toks) kp (Ib _) (ud hz aa ra dd),rfl,k _ fr⟩
def qZ:D->(Zb->Zh->Prop)->Prop
 | .dct ks ds,k=>k ks ds
 | .fd ks ds,k=>k ks ds
 | _,_=>False
theorem qZ.ex{d:D}{k:Zb->Zh->Prop}(h:qZ d k):∃ks ds,(d=.dct ks ds\/d=.fd ks ds)/\k ks ds:=by
 cases d<;>first | exact False.elim h | exact⟨_,_,.inl rfl,h⟩ | exact⟨_,_,.inr rfl,h⟩
def zt(i:Nat)(te:HQ)(R:a7)(δ:En):Prop:=te δ (wd λd δ1=>qZ d λks ds=>∀a,lH δ1 i (.own a (.dct ks ds)) R.nx)
theorem rN(i:Nat){y:Str}{p pos' pos2:Pos}(hN:X.N.Nodup)(hg:Gl X "dict")(hm:X.mg "dict"=none)(he:DE X e ta)(hi:X.N[i]?=some y:=by rfl)(hx:Loc X.env.scope y:=by walk_at "v2")
  (h2:starEach [e] X.env=(false,eval e X.env)::starEach [] X.env:=by rfl) (hpl:(backTo pos2 (starEach [] X.env)).any (·.1)=false:=by rfl)
  (hs:swapsWith (.Call (.Name "dict" p) [e] [] pos2) (some (.Name y pos')) pos.line X.env=pure false:=by rfl) (hf:X.fn y=true\/X.env.scope.names.lookup y=some .local :=by walk_at "v1") :
  DS X (.Assign [.Name y pos'] (.Call (.Name "dict" p) [e] [] pos2) pos) (zt i ta) :=
 PS.imp (nD hN hi hx (jx tO hg hm y8 (bX he gf h2) 'd' 'd' h2 hpl) hs hf) λE σ H ⟨G,δ,P,R,s,h,k,_⟩=>up.mk s h λd δ1 h1 v H1 ⟨A,q⟩=>by
  replace h1:=qZ.ex h1;obtain⟨ks,ds,ed,r⟩:=h1;have r0:∃a0 vs,v=.ref a0/\Rd H1 a0 (.dK (aM ks vs))/\ks.length=ds.length/\Reps X.K (λb=>G.M0 b\/A b) H1 ds vs:=by
   rcases ed with ed | ed
   ·subst ed;have r0:=q.pnd (.dct ks ds,v) 'p';unfold HP at r0;obtain⟨a0,vs,e,n0,e0,l0,rs⟩:=r0;exact⟨a0,vs,e,.inl e0,l0,rs⟩
   ·subst ed;have r0:=q.pnd (.fd ks ds,v) 'p';unfold HP at r0;obtain⟨a0,vs,o,e,e0,l0,rs⟩:=r0;exact⟨a0,vs,e,.inr ⟨o,e0⟩,l0,rs⟩
  obtain⟨a0,vs,rfl,e0,l0,rs⟩:=r0;refine⟨a0,_,rfl,e0,λl hl=>?_⟩;have sm:=aH hl (.dK (aM ks vs));refine k _ (r l) _ _ ⟨_,q.claim (P':=P) hl sm ⟨vs,aG,l0,Reps.kp (Kp.of_same sm) _ _ (Reps.more (λb z=>?_) _ _ rs)⟩ λq hq=>HV _ hq⟩
  rcases z with z | z
  ·exact .inl z
  ·exact .inr (by rw[z];exact hl)
def FW:V->Zf->Hp->VK->Prop:=λx vs H Q=>∃l xs y,x=.ref l/\vs=[.int 0,y]/\H l=some (.lst xs)/\xs.length<sizeLine/\Q .non (HL H l (.lst (y::xs)))
theorem Ci:MtM X "list.insert" FW:=by
 intro ab s σ H x vs v us Q I rx rv h;obtain⟨l,xs,y,rfl,rfl,hH,hz,q⟩:=h
 cases rx
 cases rv with
 | cons r0 rv =>
  obtain⟨t,rfl⟩:=r0;obtain⟨u,rfl,ru⟩:=eU rv;obtain⟨z,aa,n,r,hl,e⟩:=I.lstM hH;refine call_meets PySem.F.slot_list_insert ⟨_,e,rfl⟩ PySem.F.entry_list_insert (PySem.F.args_list_insert_3 _ _ _) (PySem.AutoSeq1.list_insert_list_int_val_1 l aa.toArray n 0 t u 'd' (by rw[Iu];omega)) ⟨e,?_⟩;refine⟨.non,_,I.lset (its':=u::aa) hH e ?_ (.cons ru r) ?_,rfl,q⟩
  ·apply Array.toList_inj.mp;simp
  ·rw[Ik];omega
def Dh(i:Nat)(te:HQ)(R:a7)(δ:En):Prop:=qWL δ[i]? λa _=>te δ (wd λx δ1=>BH δ1[i]? λds=>ds.length<9000/\lH δ1 i (.own a (.lst (x::ds))) R.nx)
theorem yF(i:Nat){y:Str}{j0}{p p0 apos cpos:Pos}(he:DE X e ta)(hN:X.N[i]?=some y:=by rfl)(hv:Vis X.env.scope y:=by walk_at "v3")
  (hd:(y==("__debug__":Str))=false:=by decide) (hcd:(y==("__classdict__":Str))=false:=by decide)
  (hbase:attributeBase (.Name y p) "insert" X.env (eval (.Name y p) X.env)=eval (.Name y p) X.env:=by rfl)
  (hfew:((backTo cpos (starEach [.Constant (.int 0) j0 p0,e] X.env)).all (λx=>!x.1)&&(backToKw cpos (keywordEach [] X.env)).all (λx=>x.1.isSome)&&decide ([Expr.Constant (.int 0) j0 p0,e].length+([]:List Keyword).length+(if ([]:List Keyword).isEmpty then 0 else 1)<30))=true:=by rfl)
  (hline:(apos.endLine==cpos.line)=true:=by rfl) (hs:starEach [.Constant (.int 0) j0 p0,e] X.env=(false,eval (.Constant (.int 0) j0 p0) X.env)::starEach [e] X.env:=by rfl) (hs2:starEach [e] X.env=(false,eval e X.env)::starEach [] X.env:=by rfl) (hplain:(backTo cpos (starEach [e] X.env)).any (·.1)=false:=by rfl)
  (hsw:swapsWith (.Call (.Attribute (.Name y p) "insert" apos) [.Constant (.int 0) j0 p0,e] [] cpos) none pos.line X.env=pure false:=by rfl) :
  DS X (.Expr (.Call (.Attribute (.Name y p) "insert" apos) [.Constant (.int 0) j0 p0,e] [] cpos) pos) (Dh i ta) :=
 PS.imp (lG (Ew PySem.F.plainAttrs_list PySem.F.slot_list_insert PySem.F.type_list_insert Ci (dP hN hv hd hcd) (bX Ab (bX he gf hs2) hs) hbase hfew hline hs hplain) hsw) λE σ H ⟨G,δ,P,R,s,h,k,_⟩=>by
  replace h:=qWL.ex h;obtain⟨a,aj,ai,h⟩:=h;obtain⟨A0,x0⟩:=id s;obtain⟨h0,_,ah,ag,_⟩:=gL x0 ai;refine⟨.ref a,h0,.inl ⟨rfl,ah,Ht.of ag⟩,up.mk s h λx δ1 h1 v H1 ⟨A,q⟩=>?_⟩;replace h1:=BH.ex q h0 h1;obtain⟨ds,hi,hz,r⟩:=h1;obtain⟨_,aa,vs,ab,rs⟩:=gL q hi;refine⟨a,vs,v,rfl,rfl,ab,by rw[<- Reps.length _ _ rs];exact jL (JG hz),k _ r _ _ ⟨A,(q.change (d':=.lst (x::ds)) hi (λb o n e=>by rw[aJ n];exact e) ⟨v::vs,aG,?_⟩).sub (P':=P) λq hq=>HV _ hq⟩⟩;have kp:Kp (λb=>G.M0 b\/A b) H1 (HL H1 a (.lst (v::vs))):=by
   have hk:∀b o,b≠a->H1 b=some o->HL H1 a (.lst (v::vs)) b=some o:=λb o n e=>by rw[aJ n];exact e
   exact⟨λb o e n=>hk b o (λz=>n (.inr (by rw[z];exact aa))) e,λb xs e=>hk b _ (λz=>by rw[z,ab] at e;cases e) e,λb o u e=>hk b _ (λz=>by rw[z,ab] at e;cases e) e⟩
  exact Reps.kp kp _ _ (Reps.cons (q.pnd (x,v) 'p') rs)
structure GEnd(K:PySem.W.Frag)(mg:Str->Zd)(x:Str):Prop where
 ex:∃a o n,mg x=some (.ref a)/\K.lookup a=some o/\o.cls=.type "tuple"/\o.data=.seq #[.none,.bool false] n
theorem uT{x:Str}(hg:Gl X x)(h:GEnd X.K X.mg x)(hd:(x==("__debug__":Str))=false:=by decide):DE X (.Name x pos) (dC (.tup [.non,.bl false])):=by
 obtain⟨a,o,n,e,h1,h2,h3⟩:=h.ex;refine PE.imp (lF (v:=.ref a) hg e rfl hd) λσ H Q ⟨G,δ,P,R,⟨A,s⟩,h,k,_⟩=>k _ δ h _ H ⟨A,s.push ?_⟩;unfold HP;exact⟨a,[.non,.bl false],rfl,.inr ⟨o,_,n,h1,h2,h3,by show 2<=sizeLine;decide,.cons rfl (.cons rfl .nil)⟩,Reps.cons (by unfold HP;rfl) (Reps.one (by unfold HP;rfl))⟩
end
end DL
namespace DL
open PySem PySem.Spec PyProof.Rows L2
variable {k:Bool} {it a:Addr} {elts:List Expr} {pos p:Pos}
def Ite(K:PySem.W.Frag)(k:Bool)(a:Addr):It :=
  ⟨λi H=>∃xs x,Hj k K H a xs/\xs[i]?=some x,
   λi H v H'=>∃T x,H T=none/\H'=HL H T (.tup [.int (i:Nat),x])/\v=.ref T/\∀xs,Hj k K H a xs->xs[i]?=some x,
   λi H=>∃xs,Hj k K H a xs/\xs.length=i⟩
def EI(k:Bool)(h:Heap)(e it a:Addr)(m:Nat):Prop:=(∃old,IsEnum h e it ((m:Nat):Int) old)/\ItA k h it a m
section
variable {prog:Program} {w:World} {A:Around} {E:Value→Shared→Prop} {s:Shared}
theorem uW{xs:Array Value}(hh:A.handled=none)(hne:a≠it):Draws prog w A it [it,a] xs.size (λi v=>xs[i]?=some v) (λi h=>ItA k h it a i/\SqA k h a xs) where
 live:=λi h z=>let ⟨o,e,_⟩:=z.1.obj;⟨o,e⟩
 frame:=λi h h' z kk=>⟨z.1.keep λo e=>kk it (by simp) o e,z.2.keep λo e=>kk a 'p' o e⟩
 item:=λi s Q E hi z hQ=>xZ z.1 z.2 (Array.getElem?_eq_getElem hi) λh' z' sb=>hQ _ h' s.toks (Array.getElem?_eq_getElem hi) ⟨z',z.2.keep λo e=>sb.extBut _ _ hne e⟩ sb
 done:=λs Q E z hE=>jP hh z.1 z.2 (Array.getElem?_eq_none (Ib _)) hE
def eh(k:Bool)(h:Heap)(a:Addr):Heap:=(h.push { cls:=.type (if k then "list_iterator" else "tuple_iterator"),data:=.fields #[.ref a,.int 0 0] }).push { cls:=.type "enumerate",data:=.fields #[.none,.bool false,.ref h.objs.size,rawInt 0,.none,.none] }
theorem EA(k:Bool)(a:Addr)(xs:Array Value):Meets (Builtin.«enumerate.__new__» ⟨[.type "enumerate",.ref a],[]⟩) (λ_ R s=>SqA k s.heap a xs/\R (.ok (.ret (.ref (s.heap.objs.size+1)))) { s with heap:=eh k s.heap a }) :=
 .of_wp λprog w A R s h=>by
  obtain⟨hp,g,d,tk,os⟩:=s;obtain⟨a1,h⟩:=h;have aa:=sub_enumerate;have b1:SqA k (Shared.heap ⟨hp,g,d,tk,os⟩) a xs:=a1;obtain⟨o,ho,_⟩:=b1.there;have e:(Shared.heap ⟨hp,g,d,tk,os⟩).objs.size+1=(hp.push { cls:=.type (if k then "list_iterator" else "tuple_iterator"),data:=.fields #[.ref a,.int 0 0] }).objs.size:=(Jc ..).symm;rw[e] at h
  wp_walk using wpAny_loadPart' ho
  refine wpAny_stack_any λst=>HZ (by
   split
   ·rename_i c _ _ _ _ _
    cases (c==Value.type "enumerate")<;>(wp_walk using wpAny_loadPart' ho,sy b1)<;>exact⟨_,rfl,h⟩
   ·wp_walk using wpAny_loadPart' ho,sy b1
    exact⟨_,rfl,h⟩)
theorem FN{xs:Array Value}{Q:Value->Shared->Prop}(a1:SqA k s.heap a xs)
  (h:IsEnum (eh k s.heap a) (s.heap.objs.size+1) s.heap.objs.size 0 .none->ItA k (eh k s.heap a) s.heap.objs.size a 0->(∀c o,s.heap.get? c=some o->(eh k s.heap a).get? c=some o)->Q (.ref (s.heap.objs.size+1)) { s with heap:=eh k s.heap a }):wpAny 'q' A (call (.type "enumerate") [.ref a]) Q E s:=by
 refine callType_new F.called_enumerate 'd' (F.typeCall_enumerate_1 _) (F.newCall_enumerate_1 _) (λobj=>F.args_object_init_2 obj _) F.entry_enumerate_new (EA k a xs) ⟨a1,?_⟩;have sz:∀(h:Heap) (o:Obj) (n:Nat),h.objs.size=n->o.isFreed=false->(h.push o).get? n=some o:=λh o n e f=>by rw[<- e];exact Heap.get?_push_size _ f
 have e1:IsEnum (eh k s.heap a) (s.heap.objs.size+1) s.heap.objs.size 0 .none:=sz _ _ _ (Jc ..) rfl
 have e0:(eh k s.heap a).get? s.heap.objs.size=some _:=Heap.get?_push_of_some _ (Heap.get?_push_size _ rfl)
 exact⟨⟨_,e1,rfl⟩,h e1 (by cases k<;>exact⟨_,e0,rfl,rfl⟩) λc o e=>Heap.get?_push_of_some _ (Heap.get?_push_of_some _ e)⟩
end
theorem uU{P:Program}{w:World}{K:PySem.W.Frag}{x1}{e:Addr}(hne:e≠it)(hea:e≠a)(hia:a≠it):zk P w K (.Tuple elts x1 pos) (Ite K k a) [e,it] e (λm h=>EI k h e it a m) where
 mem:=by simp
 obj:=λm h Z c hc=>by
  obtain⟨⟨ab,z⟩,zi⟩:=Z;simp only[List.mem_cons,List.not_mem_nil,or_false] at hc
  rcases hc with rfl | rfl
  ·exact⟨_,z,λv=>nofun⟩
  ·obtain⟨q,x,_,d⟩:=zi.obj;exact⟨q,x,λv=>by rw[d];nofun⟩
 keep:=λm h h' Z kk=>by
  obtain⟨⟨ab,z⟩,zi⟩:=Z;exact⟨⟨ab,kk _ 'p' _ z⟩,zi.keep λo x=>kk _ 'p' o x⟩
 item:=by
  intro X hP hw hK hc m aa s σ H E I hf Z hg;subst hP hw hK;obtain⟨xs,x,h1,hx⟩:=hg;obtain⟨⟨ab,z⟩,zi⟩:=Z;obtain⟨is,r1,p1⟩:=Hj.at I h1;obtain⟨u,hu,ru⟩:=r1.get hx;have hm:m<is.toArray.size:=by rw[Iu];exact(List.getElem?_eq_some_iff.mp hu).1
  refine wpAny_pyNext_enum_itemD (uW (I.ok.hd hc) hia) z ⟨zi,p1⟩ hm hne (by simp[hne,hea]) λy h' tk hy e1 i1 t1 n1 kk=>⟨_,rfl,?_⟩;have ey:y=u:=by rw[List.getElem?_toArray,hu] at hy;exact(Iq hy).symm
  subst ey;refine wpAny_letOwnedTupleGo_enum (s:={ s with heap:=h',toks:=tk+1 }) e1 λh2 e2 s2=>?_;have s2:Heap.SameBut e h' h2:=s2;have ag:H s.heap.objs.size=none:=I.hok.fresh (Ib _);have I1:Inv X aa σ (HL H s.heap.objs.size (.tup [.int (m:Nat),x])) { s with heap:=s.heap.push { cls:=.type "tuple",data:=.seq #[.int (m:Nat) tk,y] },toks:=tk+1 }:=I.laid (t':=tk+1) (λb u e=>Heap.get?_push_of_some _ e) (Ib _) ⟨by show 2<=sizeLine;decide,[.int (m:Nat) tk,y],.cons ⟨_,rfl⟩ (.cons ru .nil),⟨_,Heap.get?_push_size _ rfl,rfl,_,rfl⟩⟩;have ne:∀ {c o},s.heap.get? c=some o->c≠s.heap.objs.size:=λe=>II (Iw e);have le:e≠s.heap.objs.size:=ne z;have li:it≠s.heap.objs.size:=by obtain⟨q,y,_⟩:=zi.obj;exact ne y
  have fr:∀c∈[e,it],HL H s.heap.objs.size (.tup [.int (m:Nat),x]) c=none:=λc hc'=>by
   rw[aJ (by simp only[List.mem_cons,List.not_mem_nil,or_false] at hc';rcases hc' with rfl | rfl;exact le;exact li)];exact(hf c hc').1
  have I2:Inv X aa σ (HL H s.heap.objs.size (.tup [.int (m:Nat),x])) { s with heap:=h2,toks:=tk+1 }:=lx (s:={ s with heap:=s.heap.push { cls:=.type "tuple",data:=.seq #[.int (m:Nat) tk,y] },toks:=tk+1 }) (t':=tk+1) (fp:=[e,it]) I1 (λc q hc ec=>?_) λc hc=>⟨fr c hc,(hf c hc).2⟩
  ·exact⟨.ref s.heap.objs.size,_,I2,rfl,⟨_,x,ag,rfl,rfl,λzs hz=>by rw[Hj.inj I hz h1];exact hx⟩,⟨⟨_,e2⟩,i1.1.keep λo y=>s2.extBut _ _ (Kz hne) y⟩,fr⟩
  ·have n1:c≠e:=λz=>hc (by rw[z];simp)
   have n2:c≠it:=λz=>hc (by rw[z];simp)
   rcases Heap.get?_push_cases ec with⟨rfl,rfl⟩ | ec
   ·exact s2.extBut _ _ n1 t1
   ·exact s2.extBut _ _ n1 (kk c q n1 n2 ec)
 done:=by
  intro X hP hw hK hc m aa s σ H E I hf Z hg;subst hP hw hK;obtain⟨xs,h1,hl⟩:=hg;obtain⟨⟨ab,z⟩,zi⟩:=Z;obtain⟨is,r1,p1⟩:=Hj.at I h1;have l1:=r1.length;have hm:is.toArray.size=m:=by rw[Iu];omega
  subst hm;exact wpAny_pyNext_enum_endD (uW (I.ok.hd hc) hia) z ⟨zi,p1⟩ λh' kk=>⟨rfl,lx (t':=s.toks) (fp:=[e,it]) I (λc q hc e=>kk c q (λz=>hc (by rw[z];simp)) e) hf⟩
 self:=λ_ _ _ _ _ Z h=>wpAny_pyIter_enum Z.1.choose_spec h
section
variable {X:Cx}
def FT(K:PySem.W.Frag)(k:Bool)(ta:TA):TI:=λσ H R=>ta σ H λvs H1=>∃a,vs=[.ref a]/\(∃xs,Hj k K H1 a xs)/\R (Ite K k a) H1
theorem B3{a:Expr}{ta:TA}{x1}{pos':Pos}(hg:Gl X "enumerate")(hm:X.mg "enumerate"=none)(ha:PA X [a] ta)(hs:starEach [a] X.env=[(false,eval a X.env)]:=by rfl) :
  PI X (.Tuple elts x1 pos') (.Call (.Name "enumerate" p) [a] [] pos) (FT X.K k ta):=by
 intro aa s σ H R I h;refine Call_ (gu I hg hm boot_enumerate (Jn (Hm (ha pos aa s σ H _ I h) λus s1 ⟨vs,H1,I1,r1,q1⟩=>?_) (by rw[hs];rfl) rfl));obtain⟨c,e,⟨xs,hx⟩,q⟩:=q1;subst e;obtain⟨u,rfl,ru⟩:=eU r1
 cases ru
 obtain⟨is,_,p1⟩:=Hj.at I1 hx;obtain⟨o,ho,_⟩:=p1.there;have lt:=Iw ho;refine FN p1 λe1 i1 up=>wpAny_pyIter_enum (s:={ s1 with heap:=eh k s1.heap c }) e1 ?_;refine⟨_,[s1.heap.objs.size+1,s1.heap.objs.size],_,_,H1,rfl,I1.kept (t':=s1.toks) up,uU (Nat.succ_ne_self _) (JW (JJ lt)) (II lt),⟨⟨_,e1⟩,i1⟩,λb hb=>?_,q⟩;have hb:s1.heap.objs.size<=b:=by
  simp only[List.mem_cons,List.not_mem_nil,or_false] at hb
  rcases hb with rfl | rfl
  ·exact Ki ..
  ·exact Ib _
 exact I1.fpOk hb (I1.hok.fresh hb)
def enD(xs:Zh):Zh:=xs.mapIdx λi x=>.tup [.int (i:Nat),x]
def zn(k:Bool)(t:HK)(δ:En)(R:Zh->En->Prop):Prop:=t δ λds δ1=>qC ds λx r=>qN r <| qS k x λxs=>R (enD xs) δ1
theorem qj(k:Bool){a:Expr}{ta:HK}{x1}{pos':Pos}(hg:Gl X "enumerate")(hm:X.mg "enumerate"=none)(ha:DA X [a] ta)(hs:starEach [a] X.env=[(false,eval a X.env)]:=by rfl) :
  CI X (.Tuple elts x1 pos') (.Call (.Name "enumerate" p) [a] [] pos) (zn k ta) :=
 ⟨_,B3 (k:=k) hg hm ha hs,λG δ P σ H R Q s hs kk=>⟨G,δ,P,_,s,hs,λds δ1 h1 vs H1 hl s1=>by
  replace h1:=qC.ex h1;obtain⟨x,r,e,h1⟩:=h1;replace h1:=qN.ex h1;obtain⟨e',h1⟩:=h1;replace h1:=qS.ex h1;obtain⟨xs,e2,r⟩:=h1;subst e2 e' e
  match vs,hl with
  | [v],_ =>
   have s2:S X.K G δ1 ((sq k xs,v)::P) σ H1:=s1
   have at1:∀A δ σ H,Sx X.K G A δ ((sq k xs,v)::P) σ H->∃a vs,v=.ref a/\Hj k X.K H a vs/\Reps X.K (λb=>G.M0 b\/A b) H xs vs:=λA δ σ H x=>rP (x.pnd (sq k xs,v) 'p')
   obtain⟨A1,x1⟩:=id s2;obtain⟨a,ab,rfl,l0,_⟩:=at1 _ _ _ _ x1;have ag:(enD xs).length=xs.length:=by unfold enD;rw[List.length_mapIdx]
   refine⟨a,rfl,⟨ab,l0⟩,kk _ δ1 r _ _ H1 (λq hq=>by simp[hq]) s2 (λA δ σ i H x hi=>?_) (λA δ σ H x=>?_) λA δ σ i y H H2 x hi hy=>?_⟩
   ·obtain⟨_,vs,e,l,r⟩:=at1 _ _ _ _ x
    cases e
    obtain⟨v',hv,_⟩:=Reps.get _ _ r i (xs[i]'(by omega)) 'p';exact⟨vs,v',l,hv⟩
   ·obtain⟨_,vs,e,l,r⟩:=at1 _ _ _ _ x
    cases e
    have:=Reps.length _ _ r
    exact⟨vs,l,by omega⟩
   ·obtain⟨_,vs,e,l,r⟩:=at1 _ _ _ _ x
    cases e
    obtain⟨T,x',hT,rfl,rfl,hx⟩:=hy;have aa:i<xs.length:=by omega
    obtain⟨v',hv,rv⟩:=Reps.get _ _ r i xs[i] (by simp[aa]);have e1:=hx vs l;rw[hv] at e1;have e1:=Iq e1;rw[e1] at rv;have sm:bF H (HL H T (.tup [.int (i:Nat),x'])):=aH hT _;refine⟨sm,.tup [.int (i:Nat),xs[i]],?_,?_⟩
    ·unfold enD;rw[List.getElem?_mapIdx,List.getElem?_eq_getElem aa];rfl
    ·unfold HP
     exact⟨T,[.int (i:Nat),x'],rfl,.inl (.inl aG),Reps.cons (by unfold HP;rfl) (Reps.one (HP.kp (Kp.of_same sm) _ _ rv))⟩⟩⟩
end
def Itv(K:PySem.W.Frag)(a:Addr)(n:Nat):It :=
  ⟨λi H=>i<n/\∃xs x,Ht K H a xs/\xs.length=n/\xs[n-1-i]?=some x,
   λi H v H'=>H'=H/\∀xs,Ht K H a xs->xs[n-1-i]?=some v,
   λi _=>i=n⟩
theorem xK{P:Program}{w:World}{K:PySem.W.Frag}{tg:Expr}{n:Nat}:zk P w K tg (Itv K a n) [it] it (λi h=>h.IsRevIter it a ((n:Int)-1-(i:Nat))) where
 mem:=by simp
 obj:=λi h st b hb=>by
  have e:b=it:=by simpa using hb
  subst e;obtain⟨o,ho,_,d⟩:=st;exact⟨o,ho,λv=>by rw[d];nofun⟩
 keep:=λi h h' st k=>st.at λo e=>k it 'p' o e
 item:=by
  intro X hP hw hK hc i aa s σ H E I hf st hg;subst hP hw hK;obtain⟨f0,f1,f2,f3,f4,f5⟩:=hf it 'p';obtain⟨hi,xs,x,h1,hn,hx⟩:=hg;obtain⟨is,r1,p1,_⟩:=I.list h1;obtain⟨u,hu,ru⟩:=r1.get hx;have e:(n:Int)-1-(i:Nat)=((n-1-i:Nat):Int):=by omega
  rw[e] at st;refine wpAny_pyNext_rev_item st p1.isList (by simpa using hu) λh' st' sb=>⟨_,rfl,?_⟩;have e2:((n-1-i:Nat):Int)-1=(n:Int)-1-((i+1:Nat):Int):=by omega
  rw[e2] at st';obtain⟨o,ho,ag,ab⟩:=id st';have I1:Inv X aa σ H { s with heap:=h' }:=I.turned (t':=s.toks) (λb o hb e=>sb.extBut b o hb e) f0 f1 f3 f4 f5;exact ug (s:={ s with heap:=h' }) (n:="list_reverseiterator") ho ag ab 'd' ⟨x,H,I1,ru,⟨rfl,λzs hz=>by rw[I.list_inj hz h1];exact hx⟩,st',λb hb=>(hf b hb).1⟩
 done:=by
  intro X hP hw hK hc i aa s σ H E I hf st hg;subst hP hw hK;obtain⟨f0,f1,f2,f3,f4,f5⟩:=hf it 'p';have hg:i=n:=hg;subst hg;have e:(i:Int)-1-(i:Nat)=-1:=by omega
  rw[e] at st;exact wpAny_pyNext_rev_end (I.ok.hd hc) st λh' eb=>⟨rfl,I.turned (t':=s.toks) (λb o hb e=>eb b o hb e) f0 f1 f3 f4 f5⟩
 self:=λ_ _ _ _ _ st h=>wpAny_pyIter_revIter st h
section
variable {X:Cx} {tg:Expr}
def iRev(K:PySem.W.Frag)(ta:TA):TI:=λσ H R=>ta σ H λvs H1=>∃a xs,vs=[.ref a]/\Ht K H1 a xs/\R (Itv K a xs.length) H1
theorem Da{a:Expr}{ta:TA}(hg:Gl X "reversed")(hm:X.mg "reversed"=none)(ha:PA X [a] ta)(hs:starEach [a] X.env=[(false,eval a X.env)]:=by rfl) :
  PI X tg (.Call (.Name "reversed" p) [a] [] pos) (iRev X.K ta):=by
 intro aa s σ H R I h;refine Call_ (gu I hg hm boot_reversed (Jn (Hm (ha pos aa s σ H _ I h) λus s1 ⟨vs,H1,I1,r1,q1⟩=>?_) (by rw[hs];rfl) rfl));obtain⟨c,xs,e,hx,q⟩:=q1;subst e;obtain⟨u,rfl,ru⟩:=eU r1
 cases ru
 obtain⟨is,rv,p1,_⟩:=I1.list hx;have hl:is.toArray.size=xs.length:=by rw[Iu,rv.length]
 refine call_reversed_list p1.isList ?_;have st:(s1.heap.push (revObj c ((is.toArray.size:Int)-1))).IsRevIter s1.heap.objs.size c ((xs.length:Int)-1-((0:Nat):Int)):=⟨_,Heap.get?_push_size _ rfl,rfl,by show Data.fields #[.ref c,rawInt ((is.toArray.size:Int)-1)]=_;rw[hl,show ((0:Nat):Int)=0 from rfl,Int.sub_zero]⟩;refine wpAny_pyIter_revIter (s:={ s1 with heap:=s1.heap.push (revObj c ((is.toArray.size:Int)-1)) }) st ?_;refine⟨_,[s1.heap.objs.size],_,_,H1,rfl,I1.kept (t':=s1.toks) λb o e=>Heap.get?_push_of_some _ e,xK,st,λb hb=>?_,q⟩;have e:b=s1.heap.objs.size:=by simpa using hb
 subst e;exact I1.fpOk (Ib _) (I1.hok.fresh (Ib _))
def D2(t:HK)(δ:En)(R:Zh->En->Prop):Prop:=t δ λds δ1=>qC ds λx r=>qN r <| qL x λxs=>R xs.reverse δ1
theorem Es{a:Expr}{ta:HK}(hg:Gl X "reversed")(hm:X.mg "reversed"=none)(ha:DA X [a] ta)(hs:starEach [a] X.env=[(false,eval a X.env)]:=by rfl) :
  CI X tg (.Call (.Name "reversed" p) [a] [] pos) (D2 ta) :=
 ⟨_,Da hg hm ha hs,λG δ P σ H R Q s hs kk=>⟨G,δ,P,_,s,hs,λds δ1 h1 vs H1 hl s1=>by
  replace h1:=qC.ex h1;obtain⟨x,r,e,h1⟩:=h1;replace h1:=qN.ex h1;obtain⟨e',h1⟩:=h1;replace h1:=qL.ex h1;obtain⟨xs,e2,r⟩:=h1;subst e2 e' e
  match vs,hl with
  | [v],_ =>
   have s2:S X.K G δ1 ((.lst xs,v)::P) σ H1:=s1
   have at1:∀A δ σ H,Sx X.K G A δ ((.lst xs,v)::P) σ H->∃a vs,v=.ref a/\Ht X.K H a vs/\Reps X.K (λb=>G.M0 b\/A b) H xs vs:=λA δ σ H x=>by
    have q:=x.pnd (.lst xs,v) 'p'
    unfold HP at q;obtain⟨a,vs,e,_,l,r⟩:=q;exact⟨a,vs,e,Ht.of l,r⟩
   obtain⟨A1,x1⟩:=id s2;obtain⟨a,aa,rfl,l0,r0⟩:=at1 _ _ _ _ x1;have ab:=Reps.length _ _ r0;refine⟨a,aa,rfl,l0,kk _ δ1 r _ _ H1 (λq hq=>by simp[hq]) s2 (λA δ σ i H x hi=>?_) (λA δ σ H x=>by show xs.reverse.length=aa.length;rw[Kk,ab]) λA δ σ i y H H2 x hi hy=>?_⟩
   ·rw[Kk] at hi;obtain⟨_,vs,e,l,r⟩:=at1 _ _ _ _ x
    cases e
    have ag:=Reps.length _ _ r
    obtain⟨v',hv,_⟩:=Reps.get _ _ r (aa.length-1-i) (xs[aa.length-1-i]'(by omega)) 'p';exact⟨by omega,vs,v',l,by omega,hv⟩
   ·rw[Kk] at hi;obtain⟨_,vs,e,l,r⟩:=at1 _ _ _ _ x
    cases e
    have ag:=Reps.length _ _ r
    obtain⟨e,hy⟩:=hy;subst e;obtain⟨v',hv,rv⟩:=Reps.get _ _ r (aa.length-1-i) (xs[aa.length-1-i]'(by omega)) 'p';have z:=hy vs l;rw[hv] at z
    cases z
    refine⟨bF.refl _,_,?_,rv⟩;have e9:xs.length-1-i=aa.length-1-i:=by omega
    rw[List.getElem?_reverse 'b',e9]
    exact List.getElem?_eq_getElem _⟩⟩
end
end DL
namespace DL
open PySem PySem.Spec PyProof.Rows L2
variable {k:Str} {t:SetTable} {n:Nat} {a:Addr}
def wW(w:World):Bool:=w.params.followText "set-order"
def sOf:Value->Str
 | .str x _=>x
 | _=>⟨#[]⟩
structure TxS(P:Program)(w:World)(h:Heap)(a:Addr)(es:Array (Int×Value))(ep:Nat)(t:SetTable):Prop where
 ob:∃o,h.get? a=some o/\o.ExactSet/\o.data=.set es ep t
 el:ElemsOf (PySem.strKind P w) es.toList
 nd:(es.toList.map λe=>sOf e.2).Nodup
 few:es.size<scanBound
 fit:t.fits es.size=true
 led:t.led=!wW w
 pl:es.size≠0->t.plain=false
section
variable {P:Program} {w:World} {h h':Heap} {a:Addr} {es:Array (Int×Value)} {ep:Nat} {t:SetTable}
theorem TxS.keep(x:TxS P w h a es ep t)(k:∀o,h.get? a=some o->h'.get? a=some o):TxS P w h' a es ep t:=by
 obtain⟨o,e,r⟩:=x.ob;exact⟨⟨o,k o e,r⟩,x.el,x.nd,x.few,x.fit,x.led,x.pl⟩
theorem zJ{v:Value}(h:(PySem.strKind P w).is k v=true):∃t,v=.str k t:=Value.isStrOf_shape h
theorem zz(he:ElemsOf (PySem.strKind P w) es.toList){e:Int×Value}(h:e∈es.toList):∃t,e.2=.str (sOf e.2) t:=by
 obtain⟨⟨k,hk,_⟩,_⟩:=he e h;obtain⟨t,q⟩:=zJ hk;exact⟨t,by rw[q];rfl⟩
theorem DQ(he:ElemsOf (PySem.strKind P w) es.toList){e:Int×Value}(h:e∈es.toList):(PySem.strKind P w).is k e.2=true↔sOf e.2=k:=by
 obtain⟨t,q⟩:=zz he h
 constructor
 ·intro z;obtain⟨u,z⟩:=zJ z;rw[z];rfl
 ·intro z;rw[q,z];exact PySem.strKind_is P w k t
theorem oW:(t.orStandIn n).led=t.led:=by
 unfold SetTable.orStandIn
 split<;>rfl
theorem tV{x:Value}{n:Int}:(layNew t es n x).2.1.led=t.led:=by
 unfold layNew
 split
 ·exact oW
 ·rfl
theorem uJ:(relayAll t es n).2.1.led=t.led:=by
 unfold relayAll
 split
 ·rename_i t' order e
  unfold SetTable.relaid SetTable.laid at e;simp only[Option.bind_eq_bind,Option.bind_eq_some_iff] at e;obtain⟨ow,_,e⟩:=e;have e:=Iq e;simp only[Prod.mk.injEq] at e;simp only
  split
  ·rw[<- e.1]
  ·rfl
 ·rfl
theorem pU(h:t.plain=false):(relayAll t es n).2.1.plain=false:=by
 unfold relayAll
 split
 ·rename_i t' order e
  unfold SetTable.relaid SetTable.laid at e;simp only[Option.bind_eq_bind,Option.bind_eq_some_iff] at e;obtain⟨ow,_,e⟩:=e;have e:=Iq e;simp only[Prod.mk.injEq] at e;simp only
  split
  ·rw[<- e.1];exact h
  ·rfl
 ·rfl
end
section
variable {prog:Program} {w:World} {A:Around} {E:Value→Shared→Prop} {s:Shared}
theorem rL{h:Heap}{o:Obj}{es es':Array (Int×Value)}{ep:Nat}{t':SetTable}(ho:h.get? a=some o)(hd:o.data=.set es ep t):(h.update a (Obj.putSet es' t')).get? a=some { o with data:=.set es' (ep+1) t' }:=by
 have:=Heap.get?_update_self (Obj.putSet es' t') ho (by rw[putSet_of es' t' hd];rfl)
 rw[putSet_of es' t' hd] at this;exact this
theorem Aw{es:Array (Int×Value)}{ep:Nat}{tk:Tok}{Q:Bool->Shared->Prop}(hS:TxS prog w s.heap a es ep t)(hroom:es.size+1<scanBound)
  (h:∀b h' es' ep' t',Heap.SameBut a s.heap h'->TxS prog w h' a es' ep' t'->(∀y,y∈es'.toList.map (λe=>sOf e.2)↔y∈es.toList.map (λe=>sOf e.2)\/y=k)->es'.size<=es.size+1->Q b { s with heap:=h' }) :
  wpAny 'q' A (setAddHashed a (.str k tk) ((PySem.strKind prog w).hash k)) Q E s:=by
 obtain⟨⟨o,ho,bi,hd⟩,ai,nd,hb,hf,led,pl⟩:=id hS;have a1:=PySem.strKind_is prog w k tk;have az:(Value.str k tk).scannable=true:=rfl;unfold setAddHashed setAddHashedIn;refine Jr (HU (Ju ho hd hf ?_))
 dsimp only
 rw[byScan_of az hb ai];simp only[↓reduceIte];unfold setAddByScan;refine HU (HU (KW (HU (wpAny_setScan_of a1 ho hd hf ai ?_))))
 cases hr:List.findIdx? (λe=>(PySem.strKind prog w).is k e.2) es.toList with
 | some j =>
  dsimp only
  obtain⟨hj,bo,_⟩:=List.findIdx?_eq_some_iff_getElem.mp hr;refine HZ (HZ (h false s.heap es ep t (Heap.SameBut.refl a s.heap) hS (λy=>⟨.inl,λz=>z.elim id λe=>?_⟩) 'b'));rw[e];exact HW.mpr ⟨_,Kh hj,(DQ ai (Kh hj)).mp bo⟩
 | none =>
  dsimp only
  have bl:k∉es.toList.map λe=>sOf e.2:=λhm=>by
   obtain⟨e,he,ek⟩:=HW.mp hm;have:=List.findIdx?_eq_none_iff.mp hr e he;rw[(DQ ai he).mpr ek] at this
   cases this
  have ab:=layNew_perm t es ((PySem.strKind prog w).hash k) (.str k tk)
  have ag:=layNew_fits t es ((PySem.strKind prog w).hash k) (.str k tk)
  have ah:=tV (t:=t) (es:=es) (n:=(PySem.strKind prog w).hash k) (x:=.str k tk)
  generalize layNew t es ((PySem.strKind prog w).hash k) (.str k tk)=L at ab ag ah ⊢
  obtain⟨aa,t1,al,a2⟩:=L
  dsimp only at ab ag ah ⊢
  rw[Array.toList_push] at ab;have a3:ElemsOf (PySem.strKind prog w) aa.toList:=λe he=>by
   rcases Ip.mp (ab.mem_iff.mp he) with he | he
   ·exact ai e he
   ·rw[Ii.mp he];exact⟨⟨k,a1,rfl⟩,az⟩
  have bd:(aa.toList.map λe=>sOf e.2).Perm ((es.toList.map λe=>sOf e.2)++[k]):=(ab.map _).trans (by rw[IA];exact KH _)
  have bj:(aa.toList.map λe=>sOf e.2).Nodup:=bd.nodup_iff.mpr (by
   rw[Jp]
   exact⟨nd,by simp,λx hx y hy e=>by rw[Ii.mp hy] at e;exact bl (e ▸ hx)⟩)
  have hsz:aa.size=es.size+1:=by rw[<- IQ,ab.length_eq,Ij,IQ];rfl
  have an:∀ {aj:Array (Int×Value)},aj.toList.Perm aa.toList->∀y,y∈aj.toList.map (λe=>sOf e.2)↔y∈es.toList.map (λe=>sOf e.2)\/y=k:=λhp y=>by
   rw[((hp.map λe=>sOf e.2).trans bd).mem_iff,Ip,Ii]
  have gw:∀(b:Bool) {s₁:Shared} {Q':Unit->Shared->Prop},Q' () s₁->wpAny 'q' A (match b with | true=>rule "set.scan.the-table-gave-way" | false=>pure ()) Q' E s₁:=λb s₁ Q' q=>by
   cases b
   ·exact HZ q
   ·exact KW q
  refine HU (gw _ ?_)
  have ao:∀t2:SetTable,t2.fits aa.size=true->t2.led=t.led->t2.plain=false->wpAny 'q' A (do
    storeSet a aa t2
    if (!al&&t2.tooFull)=true then do
      (match (relayAll t2 aa (SetTable.grown aa.size)).2.2 with | true=>rule "set.scan.the-table-gave-way" | false=>pure ())
      storeSet a (relayAll t2 aa (SetTable.grown aa.size)).1 (relayAll t2 aa (SetTable.grown aa.size)).2.1
      pure (some true)
     else pure (some true)) (λr s'=>wpAny 'q' A (match r with | some added=>pure added | none=>setAddHashedIn a (.str k tk) ((PySem.strKind prog w).hash k) 99999) Q E s') E s:=λt2 f2 l2 p2=>by
   refine HU (wpAny_storeSet_of ho hd ?_ (fits_of_scanBound 'b'));have as:=rL (es':=aa) (t':=t2) ho hd;have bc:=Kj s.heap a (Obj.putSet aa t2)
   split
   ·have hp:=relayAll_perm t2 aa (SetTable.grown aa.size)
    have a0:=relayAll_fits t2 aa (SetTable.grown aa.size)
    have bb:=uJ (t:=t2) (es:=aa) (n:=SetTable.grown aa.size)
    have a4:=pU (t:=t2) (es:=aa) (n:=SetTable.grown aa.size) p2
    generalize relayAll t2 aa (SetTable.grown aa.size)=Rl at hp a0 bb a4 ⊢
    obtain⟨aj,t3,g2⟩:=Rl
    dsimp only at hp a0 bb a4 ⊢
    have bp:aj.size=aa.size:=by rw[<- IQ,hp.length_eq,IQ]
    refine HU (gw _ ?_);refine HU (wpAny_storeSet_of as rfl ?_ (fits_of_scanBound 'b'));refine HZ (HZ (h true _ aj (ep+1+1) t3 (bc.trans (Kj _ a _)) ⟨⟨_,rL as rfl,bi,rfl⟩,λe he=>a3 e (hp.mem_iff.mp he),((hp.map λe=>sOf e.2).nodup_iff).mpr bj,by omega,a0,by rw[bb,l2,led],λ_=>a4⟩ (an hp) 'b'))
   ·exact HZ (HZ (h true _ aa (ep+1) t2 bc ⟨⟨_,as,bi,rfl⟩,a3,bj,by omega,f2,by rw[l2,led],λ_=>p2⟩ (an (KH _)) 'b'))
  split
  ·rename_i hpl
   refine HU ?_;rw[hashByValue_scannable 8 az];refine HZ ?_;exact ao { t1 with plain:=false } (SetTable.fits_plain_off ag) ah rfl
  ·rename_i hpl
   refine HU (HZ ?_);simp only[↓reduceIte];exact ao t1 ag ah (by simpa using hpl)
end
section
variable {prog:Program} {w:World} {A:Around} {R:Result→Shared→Prop} {I:Addr} {fp wr:List Addr} {G:Array GenState→Array GenState→Prop} {n:Nat} {P:Nat→Value→Prop} {St:Nat→Shared→Prop}
theorem w4(W:WalksS prog w A.in1 I fp wr G n P St)(S:Addr)(hSf:S∉fp)(val:Nat->Str)(hval:∀i v,P i v->∃t,v=.str (val i) t)(hb:n+1<scanBound) :
  ∀(k i:Nat) (s:Shared) (es:Array (Int×Value)) (ep:Nat) (t:SetTable),n-i=k->i<=n->St i s->TxS prog w s.heap S es ep t->(∀y,y∈es.toList.map (λe=>sOf e.2)↔∃j,j<i/\y=val j)->es.size<=i ->
   (∀s' es' ep' t',Moved (S::wr) G s s'->TxS prog w s'.heap S es' ep' t'->(∀y,y∈es'.toList.map (λe=>sOf e.2)↔∃j,j<n/\y=val j)->es'.size<=n->R (.ok (.ret .none)) s') ->
   codeAny 'q' A (.builtin "set.update.loop" ⟨[.ref S,.ref I],[]⟩) R s:=by
 have ag:S∉wr:=λh=>hSf (W.sub _ h)
 have ab:∀b∈wr,b∈S::wr:=λb hb=>HV _ hb
 intro k
 induction k with
 | zero =>
  intro i s es ep t hk hi aa hS hy hz hR;obtain rfl:i=n:=by omega
  refine J7 F.entry_set_update_loop ?_;rw[JR F.plain_set_update_loop _];refine HU (m:=pyNext (.ref I)) (W.done s _ _ aa λs' hm=>?_);exact HZ (hR s' es ep t (hm.mono ab) (hS.keep λo e=>hm.heap S o ag e) hy hz)
 | succ k ih =>
  intro i s es ep t hk hi aa hS hy hz hR;have ah:i<n:=by omega
  refine J7 F.entry_set_update_loop ?_;rw[JR F.plain_set_update_loop _];refine HU (m:=pyNext (.ref I)) (W.item i s _ _ ah aa λv s' hP hst' hm=>?_);obtain⟨u,rfl⟩:=hval i v hP;have ai:TxS prog w s'.heap S es ep t:=hS.keep λo e=>hm.heap S o ag e;refine HU (m:=holding [Value.str (val i) u] (setAdd S (.str (val i) u))) (Jr ?_);unfold setAdd;refine Jr (HU ((PySem.strKind prog w).pyHash (k:=val i) (PySem.strKind_is _ _ _ _) ?_));refine Aw (s:={ s' with toks:=s'.toks+1 }) ai (by omega) λb h' es' ep' t' hsb hS2 hy2 hz2=>?_;refine HZ ⟨plainId_quiet F.plain_set_update_loop _,ih (i+1) _ es' ep' t' 'b' ah (W.frame _ s' _ _ hst' (La _) λb hb o e=>?_) hS2 (λy=>?_) (by omega) λs'' es3 ep3 t3 hm3 hS3 hy3 hz3=>?_⟩
  ·rw[hsb.2 b (λh:b=S=>hSf (by rw[<- h];exact hb))];exact e
  ·rw[hy2 y,hy y]
   constructor
   ·rintro(⟨j,hj,e⟩ | e)
    ·exact⟨j,by omega,e⟩
    ·exact⟨i,by omega,e⟩
   ·rintro⟨j,hj,e⟩
    by_cases hji:j<i
    ·exact .inl ⟨j,hji,e⟩
    ·have:j=i:=by omega
     exact .inr (this ▸ e)
  ·refine hR s'' es3 ep3 t3 (Moved.trans W.gtrans ((hm.mono ab).then_heap (La _) λb o hb e=>?_) hm3) hS3 hy3 hz3;rw[hsb.2 b (λh:b=S=>hb (by rw[h];exact HY))];exact e
end
section
variable {prog:Program} {w:World} {A:Around} {E:Value→Shared→Prop} {s:Shared}
abbrev uR(w:World):Obj:={ cls:=.type "set",dict:=none,data:=.set #[] 0 (.fresh 0 0 (!wW w)) }
theorem Fh(x:Value){Q:Value->Shared->Prop}(h:Q (.ref s.heap.objs.size) { s with heap:=s.heap.push (uR w) }):codeAny 'q' A (.call (.builtin "set.__new__") ⟨[.type "set",x],[]⟩) (wants Q E) s:=by
 refine codeAny_of_tree ?_;refine HU (m:=checkBuiltinCall "set.__new__" ⟨[.type "set",x],[]⟩) (wpAny_of_eq (F.newCall_set_1 x) (HZ ⟨plainId_quiet F.plain_set_new _,J7 F.entry_set_new ?_⟩));rw[JR F.plain_set_new _];unfold Builtin.«set.__new__» Builtin.Frozenset.newClass;have aa:=sub_set_self;obtain⟨hp,g,d,tk,os⟩:=s
 dsimp only
 wp_walk
 refine wpAny_askSetting (HZ ?_)
 dsimp only
 simp only[newObj];exact HU (wpAny_alloc (HZ (HZ h)))
theorem xb{h:Heap}(e:h.get? a=some (uR w)):TxS prog w h a #[] 0 (.fresh 0 0 (!wW w)) :=
 ⟨⟨_,e,⟨rfl,rfl,rfl⟩,rfl⟩,λ_ h=>(nomatch h),List.nodup_nil,by decide,rfl,rfl,λh=>absurd rfl h⟩
set_option maxRecDepth 100000 in
set_option maxHeartbeats 3200000 in
theorem yS{l:Addr}{items:Array Value}{ss:Zb}{Q:Value->Shared->Prop}(hh:A.handled=none)(hl:s.heap.IsList l items)(hi:StrsAre items.toList ss)(hb:items.size+1<scanBound)
  (h:∀h' tk es ep t,TxS prog w h' s.heap.objs.size es ep t->(∀y,y∈es.toList.map (λe=>sOf e.2)↔y∈ss)->es.size<=ss.length->(∀b o,s.heap.get? b=some o->h'.get? b=some o)->Q (.ref s.heap.objs.size) { s with heap:=h',toks:=tk }) :
  wpAny 'q' A (call (.type "set") [.ref l]) Q E s:=by
 have bz:items.size=ss.length:=by rw[<- IQ];exact hi.length
 obtain⟨c,tl,b1⟩:=F.called_set.mro;have bl:=F.called_set.made;have b0:=F.called_set.sub;refine wpAny_call (codeAny_of_tree ?_);show wpAny _ _ (callAny (.type "set") ⟨[.ref l],[]⟩) _ _ _;refine HZ ⟨Code.quiet_builtin _ 'g',J7 F.entry_type_call ?_⟩;rw[Around.under_plain (weight_type_call_type "set" [.ref l] []) rfl];have h1:=F.called_set.notType;have h2:=F.called_set.canCreate;have b5:=F.typeCall_set_1 (.ref l)
 repeat (any_goals (first | assumption | wp_step))
 refine KI (Fh (.ref l) (E:=E) (Q:=λobj s₁=>obj=.ref s.heap.objs.size/\s₁={ s with heap:=s.heap.push (uR w) }) ⟨rfl,rfl⟩) λr s₁ hr=>?_
 cases r with
 | error e=>exact hr
 | ok fl =>
  cases fl with
  | ret obj =>
   obtain⟨rfl,rfl⟩:=hr;have hS:(s.heap.push (uR w)).get? s.heap.objs.size=some (uR w):=Heap.get?_push_size _ rfl;have hT:Shared.TypeIs { s with heap:=s.heap.push (uR w) } (.ref s.heap.objs.size) "set":=⟨_,hS,rfl⟩;have b4:=F.called_set.init.lookup;have b2:=F.called_set.init.bind (.ref s.heap.objs.size)
   repeat (any_goals (first | assumption | wp_step))
   refine KI (codeAny_call_builtin (R:=wants (λr s₂=>r=.none/\∃h' tk es ep t,s₂={ s with heap:=h',toks:=tk }/\TxS prog w h' s.heap.objs.size es ep t/\(∀y,y∈es.toList.map (λe=>sOf e.2)↔y∈ss)/\es.size<=ss.length/\(∀b o,s.heap.get? b=some o->h'.get? b=some o)) E) F.called_set.init.plain F.entry_set_init (check_set_init_1 hT ?_)) λr₂ s₂ hr₂=>?_
   ·obtain⟨ol,ah,aj,nl,ai⟩:=hl;obtain⟨bo,ag,bj,ab⟩:=ol;simp only at aj ai;subst aj;subst ai;have ao:(s.heap.push (uR w)).get? l=some { cls:=.type "list",dict:=ag,data:=.seq items nl,slots:=ab }:=Heap.get?_push_of_some _ ah;have bw:=F.sub_list_set;have bp:=F.sub_list_frozenset;have b3:(Value.type "list"==Value.type "dict")=false:=by decide
    have al:(s.heap.push (uR w)).IsList l items:=⟨_,ao,rfl,nl,rfl⟩
    unfold Builtin.«set.__init__» noKeywords Builtin.Frozenset.updateFrom;generalize hPI:pyIter=PI
    wp_walk
    subst hPI;refine JT al (HU (wpAny_runValue ?_));have an:l<s.heap.objs.size:=Iw ah;have a4:A.in1.in1.in1.handled=none:=by simp[hh]
    have as:l≠(s.heap.push (uR w)).objs.size:=by rw[Jc];exact II (JJ an)
    have bb:s.heap.objs.size∉[(s.heap.push (uR w)).objs.size,l]:=by
     rw[Jc];simp only[List.mem_cons,List.not_mem_nil,or_false,not_or];exact⟨II (Kg _),JW an⟩
    have az:∀(i:Nat) (v:Value),items[i]?=some v->∃t,v=.str ((λi=>ss.getD i ⟨#[]⟩) i) t:=λi v hv=>by
     have hv:items.toList[i]?=some v:=by rw[Array.getElem?_toList];exact hv
     have:∀ {us:Zc} {ss:Zb},StrsAre us ss->∀(i:Nat) (v:Value),us[i]?=some v->∃t,v=.str (ss.getD i ⟨#[]⟩) t:=by
      intro us ss hu
      induction hu with
      | nil=>intro i v e;cases e
      | cons x t _ ih =>
       intro i v e
       cases i with
       | zero=>cases e;exact⟨t,rfl⟩
       | succ i=>exact ih i v (by simpa using e)
     exact this hi i v hv
    refine w4 ((Walks.list a4 _ l as items).toS) s.heap.objs.size bb (λi=>ss.getD i ⟨#[]⟩) az hb (items.size-0) 0 _ #[] 0 _ 'b' (Jq _)
     ⟨⟨_,Heap.get?_push_size _ rfl,rfl,rfl⟩,(al.push _)⟩ (xb (Heap.get?_push_of_some _ hS)) (λy=>⟨λh=>(nomatch h),λ⟨j,hj,_⟩=>absurd hj (Nat.not_lt_zero _)⟩) (Ib _) ?_
    intro s' a1 a3 t' hm aa hy hz;obtain⟨h',g',d',bc,bd⟩:=s';have eg:g'=s.gens:=hm.gens;have ed:d'=s.drawn:=hm.drawn;have eo:bd=s.os:=hm.os;subst eg;subst ed;subst eo;show wpAny _ _ _ _ _ _;refine HZ (HZ ⟨rfl,h',bc,a1,a3,t',rfl,aa,λy=>?_,by omega,λb o e=>?_⟩)
    ·rw[hy y]
     constructor
     ·rintro⟨j,hj,rfl⟩;have:j<ss.length:=by omega
      rw[List.getD_eq_getElem?_getD,List.getElem?_eq_getElem this];exact Kh this
     ·intro hy;obtain⟨j,hj,e⟩:=List.getElem_of_mem hy;exact⟨j,by omega,by rw[List.getD_eq_getElem?_getD,List.getElem?_eq_getElem hj];exact e.symm⟩
    ·have hb:=Iw e
     have a2:b≠s.heap.objs.size:=II hb
     have bi:b≠(s.heap.push (uR w)).objs.size:=by rw[Jc];exact II (JJ hb)
     exact hm.heap b o (by simp only[List.mem_cons,List.not_mem_nil,or_false,not_or];exact⟨a2,bi⟩) (Heap.get?_push_of_some _ (Heap.get?_push_of_some _ e))
   ·cases r₂ with
    | error e=>exact hr₂
    | ok fl₂ =>
     cases fl₂ with
     | ret r =>
      obtain⟨rfl,h',tk,es,ep,t,rfl,aa,hy,hz,a0⟩:=hr₂
      repeat (any_goals (first | assumption | wp_step))
      exact h _ _ _ _ _ aa hy hz a0
     | _=>exact hr₂.elim
  | _=>exact hr.elim
end
end DL
namespace DL
open PySem PySem.Spec PyProof.Rows L2
namespace FS
theorem slot_next:Slot "set_iterator" "__next__" "set_iterator.__next__" :=
 .of (owner:="set_iterator") (n:="__next__") (by rw[typeLookup_type,builtinLookup_eq_fast];kernel_rfl) 'g' 'g' 'g' (by first | exact .inl 'g' | exact .inr 'g') (by rw[isSubtype_type];kernel_rfl)
theorem entry_next:entryFor table "set_iterator.__next__"=some Builtin.«set_iterator.__next__»:=entryFor_of_tree (by kernel_rfl)
theorem rT:Manifest.owners.lookup (String.ofList ['r','o','t','a','r','e','t','i','_','t','e','s'].reverse)=some Manifest.sig_set_iterator:=by kernel_rfl
theorem args_next(a:Value):argsOk "set_iterator.__next__" ⟨[a],[]⟩:=by
 unfold argsOk;rw[signature?_of (id:="set_iterator.__next__") (n:=['_','_','t','x','e','n','_','_']) (o:=['r','o','t','a','r','e','t','i','_','t','e','s']) (by kernel_rfl) rT]
 kernel_rfl
theorem slot_self:Slot "set_iterator" "__iter__" "set_iterator.__iter__" :=
 .of (owner:="set_iterator") (n:="__iter__") (by rw[typeLookup_type,builtinLookup_eq_fast];kernel_rfl) 'g' 'g' 'g' (by first | exact .inl 'g' | exact .inr 'g') (by rw[isSubtype_type];kernel_rfl)
theorem entry_self:entryFor table "set_iterator.__iter__"=some Builtin.«dict_keyiterator.__iter__» :=
 entryFor_alias (id':="dict_keyiterator.__iter__") (by kernel_rfl) (by first | rfl | decide +kernel | (unfold String.splitOn;simp +decide [String.splitOnAux])) 'g' (by kernel_rfl)
theorem args_self(a:Value):argsOk "set_iterator.__iter__" ⟨[a],[]⟩:=by
 unfold argsOk;rw[signature?_of (id:="set_iterator.__iter__") (n:=['_','_','r','e','t','i','_','_']) (o:=['r','o','t','a','r','e','t','i','_','t','e','s']) (by kernel_rfl) rT]
 kernel_rfl
theorem entry_iter:entryFor table "set.__iter__"=some Builtin.«frozenset.__iter__» :=
 entryFor_alias (id':="frozenset.__iter__") (by kernel_rfl) (by first | rfl | decide +kernel | (unfold String.splitOn;simp +decide [String.splitOnAux])) 'g' (by kernel_rfl)
end FS
theorem hZ{α:Type}:∀ {l:List α} {i:Nat} (h:i<l.length),(l[i]::l.eraseIdx i).Perm l
 | x::l,0,h=>KH _
 | x::l,i+1,h=>by
  have h':i<l.length:=Nat.lt_of_succ_lt_succ h
  show (l[i]::x::l.eraseIdx i).Perm (x::l)
  exact(List.Perm.swap _ _ _).trans (List.Perm.cons _ (hZ h'))
section
variable {prog:Program} {w:World} {A:Around} {E:Value→Shared→Prop} {s:Shared}
theorem nR{n:Nat}{Q:Nat->Shared->Prop}(hn:n≠0)(h:∀i d,i<n->Q i { s with drawn:=d }):wpAny 'q' A (choose .order n) Q E s:=λΓ p hΓ=>by
 show Sem.wp 'q' Γ (.choose .order n _) _ _ p s
 rw[Sem.wp_choose];exact⟨hn,h _ _ (Nat.mod_lt _ (Nat.pos_of_ne_zero hn))⟩
theorem iy{α:Type}:∀(n:Nat) (xs:List α) {s:Shared} {Q:List α->Shared->Prop},n=xs.length->(∀ys d,ys.Perm xs->Q ys { s with drawn:=d })->wpAny 'q' A (drawOrder n xs) Q E s
 | 0,xs,s,Q,e,h=>by
  have:xs=[]:=JE.mp e.symm
  subst this;unfold drawOrder;exact HZ (h [] s.drawn (KH _))
 | n+1,[],s,Q,e,h=>by cases e
 | n+1,x::xs,s,Q,e,h=>by
  unfold drawOrder;refine HU (nR (by simp) λi d hi=>?_);have aa:i<(x::xs).length:=hi;rw[List.getElem?_eq_getElem aa]
  dsimp only
  refine HU (iy n ((x::xs).eraseIdx i) (by rw[List.length_eraseIdx_of_lt aa];omega) λys d' hp=>HZ (h _ d' ?_));exact(List.Perm.cons _ hp).trans (hZ aa)
end
theorem jm{α:Type}(next:Nat->Nat):∀(fuel k:Nat) (left:List α) (out:Array α),fuel=left.length->(pickOrder.go next fuel k left out).toList.Perm (out.toList++left)
 | 0,k,left,out,e=>by
  have:left=[]:=JE.mp e.symm
  subst this;unfold pickOrder.go;rw[IZ]
 | n+1,k,[],out,e=>by cases e
 | n+1,k,x::left,out,e=>by
  unfold pickOrder.go;have hi:next k % (x::left).length<(x::left).length:=Nat.mod_lt _ (Ks _);rw[List.getElem?_eq_getElem hi]
  dsimp only
  refine(jm next n (k+1) _ _ (by rw[List.length_eraseIdx_of_lt hi];omega)).trans ?_;rw[Array.toList_push,J9];exact List.Perm.append_left _ (hZ hi)
def CQ(h:Heap)(I S:Addr)(fst:Value)(i n ep:Nat):Prop:=h.get? I=some { cls:=.type "set_iterator",dict:=none,data:=.fields #[fst,rawInt i,.ref S,rawInt n,rawInt ep],slots:=#[] }
inductive Rd3(w:World)(S:Addr)(es:Array (Int×Value))(ep:Nat)(t:SetTable):(Heap->Nat->Value->Prop)->Zc->Prop
 | text (hb:wW w=true):Rd3 w S es ep t (λ_ _ f=>f=rawInt 0) ((pickOrder (w.params.setOrder S ep) es).toList.map (·.2))
 | drawn (hb:wW w=false) (hs:es.size≠0) (T:Addr) (ps:List Nat) (hp:ps.Perm (List.range es.size)):Rd3 w S es ep t (λh _ f=>f=.ref T/\h.get? T=some { cls:=.type "tuple",data:=.seq (ps.map λ(i:Nat)=>rawInt i).toArray }) (ps.filterMap λi=>(es[i]?).map (·.2))
 | one (hb:wW w=false) (hs:es.size<=1):Rd3 w S es ep t (λ_ i f=>f=rawInt (if i=0 then 0 else ((t.place[0]?).getD 0+1:Nat))) (es.toList.map (·.2))
theorem gx{α β:Type}{f:Nat->Option β}{ps:List Nat}(h:∀p∈ps,(f p).isSome=true)(i:Nat):(ps.filterMap f)[i]?=(ps[i]?).bind f:=by
 induction ps generalizing i with
 | nil=>simp
 | cons p ps ih =>
  have hp:=h p (HY ..)
  cases e:f p with
  | none=>rw[e] at hp;cases hp
  | some x =>
   rw[IY,e]
   cases i with
   | zero=>simp[e]
   | succ i=>simpa using ih (λq hq=>h q (HV _ hq)) i
theorem ld(xs:Array Nat):SetTable.below xs 0=0:=by
 unfold SetTable.below;have:∀aa hi,SetTable.below.go xs 0 aa 0 hi=0:=by
  intro aa
  induction aa with
  | zero=>intro hi;rfl
  | succ n ih =>
   intro hi;unfold SetTable.below.go
   split
   ·rw[Io (Nat.not_lt_zero _)];exact ih _
   ·rfl
 exact this _ _
theorem wP{xs:Array Nat}{j:Nat}(h:xs.size=1)(e:xs[0]?=some j):SetTable.below xs (j+1)=1:=by
 unfold SetTable.below;rw[h];unfold SetTable.below.go;have:xs.getD ((0+1) / 2) (j+1)=j:=by
  show xs.getD 0 (j+1)=j
  rw[Array.getD_eq_getD_getElem?,e];rfl
 rw[Ir 'd'];simp only;rw[this,Ir (Kg _)];rfl
section
variable {prog:Program} {w:World} {A:Around} {E:Value→Shared→Prop} {s:Shared} {I S:Addr} {es:Array (Int×Value)} {ep:Nat} {t:SetTable} {F:Heap→Nat→Value→Prop} {vs:Zc}
theorem mv(R:Rd3 w S es ep t F vs):vs.length=es.size:=by
 cases R with
 | text hb =>
  rw[HS];have:=(jm (w.params.setOrder S ep) es.size 0 es.toList #[] 'p').length_eq;unfold pickOrder;simpa using this
 | drawn hb hs T ps hp =>
  have h:∀p∈ps,((es[p]?).map (·.2)).isSome=true:=λp h=>by
   have:=Jk.mp (hp.mem_iff.mp h)
   rw[Array.getElem?_eq_getElem this];rfl
  have e:=hp.length_eq
  rw[Ji] at e;rw[<- e];clear e hp
  induction ps with
  | nil=>rfl
  | cons p ps ih =>
   have hp:=h p (HY ..)
   cases e:(es[p]?).map (·.2) with
   | none=>rw[e] at hp;cases hp
   | some x=>rw[IY,e,Ik,Ik,ih λq hq=>h q (HV _ hq)]
 | one hb hs=>rw[HS,IQ]
theorem yu(R:Rd3 w S es ep t F vs):vs.Perm (es.toList.map (·.2)):=by
 cases R with
 | text hb =>
  refine List.Perm.map _ ?_;have:=jm (w.params.setOrder S ep) es.size 0 es.toList #[] 'p';unfold pickOrder;simpa using this
 | drawn hb hs T ps hp =>
  refine(hp.filterMap _).trans ?_;have:(List.range es.size).filterMap (λi=>(es[i]?).map (·.2))=es.toList.map (·.2):=by
   apply List.ext_getElem?;intro i;rw[gx (α:=Nat) (λp h=>by rw[Array.getElem?_eq_getElem (Jk.mp h)];rfl)];rw[List.getElem?_map]
   by_cases hi:i<es.size
   ·rw[List.getElem?_range hi,Array.getElem?_toList];rfl
   ·rw[List.getElem?_eq_none (l:=List.range es.size) (by rw[Ji];omega),List.getElem?_eq_none (l:=es.toList) (by rw[IQ];omega)];rfl
  rw[this]
 | one hb hs=>exact KH _
theorem lj(h:t.fits es.size=true):t.place.size=es.size:=by
 unfold SetTable.fits at h;simp only[Bool.and_eq_true,beq_iff_eq] at h;exact h.1
theorem gh{Q:Bool->Shared->Prop}(h:Q (wW w) s):wpAny 'q' A setsByText Q E s:=by
 unfold setsByText;exact HU (wpAny_askSetting (HZ h))
theorem mZ(X:TxS prog w s.heap S es ep t)(hb:wW w=true){sl g:Nat}{Q:Option (Value×Nat)->Shared->Prop}(h:Q (((pickOrder (w.params.setOrder S ep) es)[g]?).map λe=>(e.2,sl)) s):wpAny 'q' A (setNext S sl g ep) Q E s:=by
 obtain⟨o,ho,aa,hd⟩:=X.ob;unfold setNext;refine HU (Ju ho hd X.fit (HU (gh ?_)));rw[hb,Ir rfl,Io 'p'];unfold setWalk;refine HU (HU (Ju ho hd X.fit (HU (gh ?_))));rw[hb,Ir rfl];exact HU (wpAny_askSetting (HZ (HZ h)))
theorem rV(X:TxS prog w s.heap S es ep t)(hb:wW w=false)(hs:es.size<=1){sl g:Nat}{Q:Option (Value×Nat)->Shared->Prop}
  (h:Q (match es[SetTable.below t.place sl]?,t.place[SetTable.below t.place sl]? with | some (_,x),some j=>some (x,j+1) | _,_=>none) s):wpAny 'q' A (setNext S sl g ep) Q E s:=by
 obtain⟨o,ho,ab,hd⟩:=X.ob;have hl:t.led=true:=by rw[X.led,hb];rfl
 unfold setNext;refine HU (Ju ho hd X.fit (HU (gh ?_)));rw[hb,Io Ie]
 dsimp only
 have aa:¬ (!t.plain&&decide (es.size>1))=true:=by rw[IL 'b',Bool.and_false];exact Ie
 refine JU (λz=>absurd z aa) λ_=>HU ?_;show wpAny _ _ (if (!t.led && !es.isEmpty)=true then unsupported "set:maker-not-led" else pure ()) _ _ _;rw[hl,Io 'p'];exact HZ (HZ h)
set_option maxHeartbeats 1000000 in
theorem Ga(R:Rd3 w S es ep t F vs)(X:TxS prog w s.heap S es ep t){i:Nat}{f v:Value}(hI:CQ s.heap I S f i es.size ep)(hF:F s.heap i f)(hv:vs[i]?=some v){Q:Zd->Shared->Prop}
  (q:∀h' f',CQ h' I S f' (i+1) es.size ep->(∀h'':Heap,(∀b o,b≠I->s.heap.get? b=some o->h''.get? b=some o)->F h'' (i+1) f')->Heap.SameBut I s.heap h'->Q (some v) { s with heap:=h' }) :
  wpAny 'q' A (pyNext (.ref I)) Q E s:=by
 obtain⟨o,ho,an,hd⟩:=X.ob;have hT:s.TypeIs (.ref I) "set_iterator":=⟨_,hI,rfl⟩;have ao:S≠I:=λe=>by rw[e,hI] at ho;cases ho;cases hd
 have ah:=mv R
 have hi:i<es.size:=by rw[<- ah];exact(List.getElem?_eq_some_iff.mp hv).1
 unfold pyNext;refine HU (wpAny_attempt (wpAny_callSpecial?_slot (name:=Str.ofString "__next__") hT FS.slot_next (Js FS.slot_next hT FS.entry_next ?_ (FS.args_next _))));unfold Builtin.«set_iterator.__next__»;refine HU (m:=slotArgs "__next__" 0 _) (HZ ?_);refine HU (wpAny_fieldsOf hI rfl ?_)
 dsimp only
 refine HU (m:=setEntries S) (HU (Ju ho hd X.fit (HZ ?_)));rw[Io 'p']
 cases R with
 | text hb =>
  subst hF;refine HU (m:=setNext S (0:Int).toNat (i:Int).toNat (ep:Int).toNat) (mZ X hb ?_);have e:(pickOrder (w.params.setOrder S ep) es)[(i:Int).toNat]?=(pickOrder (w.params.setOrder S ep) es).toList[i]?:=by rw[Array.getElem?_toList];rfl
  rw[List.getElem?_map] at hv;rw[e]
  cases z:(pickOrder (w.params.setOrder S ep) es).toList[i]? with
  | none=>rw[z] at hv;cases hv
  | some p =>
   rw[z] at hv;obtain rfl:p.2=v:=Iq hv;refine HU (IP hI (by simp) λh1 e1 s1=>HU (IP e1 (by simp) λh2 e2 s2=>HZ ⟨_,rfl,HZ (q h2 (rawInt 0) e2 (λ_ _=>rfl) (s1.trans s2))⟩))
 | drawn hb hs T ps hp =>
  obtain⟨rfl,aa⟩:=hF;have aj:T≠I:=λe=>by rw[e,hI] at aa;have h9:=JK Obj.cls (Iq aa);simp at h9
  refine HU (m:=seqItems? (.ref T)) (Jy aa rfl ?_)
  dsimp only
  have al:ps.length=es.size:=by rw[hp.length_eq,Ji]
  have ab:i<ps.length:=by omega
  have e:((ps.map λ(i:Nat)=>rawInt i).toArray)[(i:Int).toNat]?=some (rawInt (ps[i]:Nat)):=by
   show ((ps.map λ(i:Nat)=>rawInt i).toArray)[i]?=_
   rw[List.getElem?_toArray,List.getElem?_map,List.getElem?_eq_getElem ab];rfl
  rw[e];have ag:ps[i]<es.size:=Jk.mp (hp.mem_iff.mp (Kh ab));have ai:v=es[ps[i]].2:=by
   rw[gx (α:=Nat) (λp h=>by rw[Array.getElem?_eq_getElem (Jk.mp (hp.mem_iff.mp h))];rfl),List.getElem?_eq_getElem ab] at hv;have hv:(es[ps[i]]?).map (·.2)=some v:=hv;rw[Array.getElem?_eq_getElem ag] at hv;exact(Iq hv).symm
  refine HU (m:=setNextDrawn S ((ps[i]:Nat):Int).toNat (ep:Int).toNat) ?_;unfold setNextDrawn;refine HU (Ju ho hd X.fit ?_)
  dsimp only
  rw[Io 'p'];rw[show es[((ps[i]:Nat):Int).toNat]?=some es[ps[i]] from Array.getElem?_eq_getElem ag];refine HZ ?_;refine HU (IP hI (by simp) λh1 e1 s1=>HZ ⟨_,rfl,HZ ?_⟩);show Q (some es[ps[i]].2) _;rw[<- ai];exact q h1 (.ref T) e1 (λh'' k=>⟨rfl,k _ _ aj aa⟩) s1
 | one hb hs =>
  have hz:i=0:=by omega
  subst hz;subst hF;refine HU (m:=setNext S (0:Int).toNat (0:Int).toNat (ep:Int).toNat) (rV X hb hs ?_);rw[show (0:Int).toNat=0 from rfl,ld];have as:=lj X.fit;rw[Array.getElem?_eq_getElem (show 0<es.size by omega),Array.getElem?_eq_getElem (show 0<t.place.size by omega)];rw[List.getElem?_map,Array.getElem?_toList,Array.getElem?_eq_getElem (show 0<es.size by omega)] at hv;obtain rfl:es[0].2=v:=Iq hv;refine HU (IP hI (by simp) λh1 e1 s1=>HU (IP e1 (by simp) λh2 e2 s2=>HZ ⟨_,rfl,HZ (q h2 (rawInt ((t.place[0]?).getD 0+1:Nat)) ?_ (λ_ _=>rfl) (s1.trans s2))⟩));rw[Array.getElem?_eq_getElem (show 0<t.place.size by omega)];exact e2
theorem fF{α:Type}{Q:α->Shared->Prop}(a0:A.handled=none)(q:∀h' e,(∀b o,s.heap.get? b=some o->h'.get? b=some o)->(∃o,h'.get? e=some o/\o.cls=.type "StopIteration")->E (.ref e) { s with heap:=h' }) :
  wpAny 'q' A (do raiseNew (α:=α) (<- newExc (.type "StopIteration") [])) Q E s:=by
 refine HU ?_;simp only[newExc,newTuple];refine HU (Jf ?_ (by size_fits));refine HU (m:=firstArgMember _ _) (wpAny_of_eq (a:=Value.none) (by first | rfl | (simp only[firstArgMember];rfl)) ?_);refine Jf ?_ (by size_fits);simp only[raiseNew];refine HU (wpAny_handled ?_);rw[a0];exact HU (HZ (wpAny_throw (q _ _ (λb o e=>Heap.get?_push_of_some _ (Heap.get?_push_of_some _ e)) ⟨_,Heap.get?_push_size _ rfl,rfl⟩)))
set_option maxHeartbeats 1000000 in
theorem FE(a0:A.handled=none)(R:Rd3 w S es ep t F vs)(X:TxS prog w s.heap S es ep t){f:Value}(hI:CQ s.heap I S f es.size es.size ep)(hF:F s.heap es.size f){Q:Zd->Shared->Prop}
  (q:∀h',(∀b o,b≠I->s.heap.get? b=some o->h'.get? b=some o)->Q none { s with heap:=h' }) :
  wpAny 'q' A (pyNext (.ref I)) Q E s:=by
 obtain⟨o,ho,ai,hd⟩:=X.ob;have hT:s.TypeIs (.ref I) "set_iterator":=⟨_,hI,rfl⟩;have ab:=mv R;have a1:A.in1.handled=none:=a0;unfold pyNext;have aa:∀(g:Heap) (e:Addr),(∀b o,b≠I->s.heap.get? b=some o->g.get? b=some o)->(∃o,g.get? e=some o/\o.cls=.type "StopIteration") ->
   wpAny 'q' A (do if<-isInstance (.ref e) (.type "StopIteration") then pure (none:Zd) else throw (.ref e)) Q E { s with heap:=g }:=λg e kk ⟨oe,h1,h2⟩ =>
  HU (wpAny_isInstance (T:="StopIteration") (b:=true) ⟨oe,h1,h2⟩ isSubtype_stop (HZ (q _ kk)))
 refine HU (wpAny_attempt (wpAny_callSpecial?_slot (name:=Str.ofString "__next__") hT FS.slot_next (Js FS.slot_next hT FS.entry_next ?_ (FS.args_next _))));unfold Builtin.«set_iterator.__next__»;refine HU (m:=slotArgs "__next__" 0 _) (HZ ?_);refine HU (wpAny_fieldsOf hI rfl ?_)
 dsimp only
 refine HU (m:=setEntries S) (HU (Ju ho hd X.fit (HZ ?_)));rw[Io 'p']
 cases R with
 | text hb =>
  subst hF;rw[HS] at ab;refine HU (m:=setNext S (0:Int).toNat (es.size:Int).toNat (ep:Int).toNat) (mZ X hb ?_);rw[show (pickOrder (w.params.setOrder S ep) es)[(es.size:Int).toNat]?=none from Array.getElem?_eq_none (by rw[<- IQ,ab];exact Ib _)];refine HU (IP hI (by simp) λh1 e1 s1=>fF (s:={ s with heap:=h1 }) a1 λh' e k he=>aa h' e (λb o n x=>k _ _ (s1.extBut _ _ n x)) he)
 | drawn hb hs T ps hp =>
  obtain⟨rfl,ah⟩:=hF;refine HU (m:=seqItems? (.ref T)) (Jy ah rfl ?_)
  dsimp only
  have ag:ps.length=es.size:=by rw[hp.length_eq,Ji]
  rw[show ((ps.map λ(i:Nat)=>rawInt i).toArray)[(es.size:Int).toNat]?=none from Array.getElem?_eq_none (by rw[Iu,HS,ag];exact Ib _)];refine HU (IP hI (by simp) λh1 e1 s1=>HU (IP e1 (by simp) λh2 e2 s2=>fF (s:={ s with heap:=h2 }) a1 λh' e k he=>aa h' e (λb o n x=>k _ _ (s2.extBut _ _ n (s1.extBut _ _ n x))) he))
 | one hb hs =>
  subst hF;have aj:=lj X.fit;have hn:es[SetTable.below t.place (if es.size=0 then 0 else ((t.place[0]?).getD 0+1:Nat))]?=none:=by
   by_cases hz:es.size=0
   ·rw[Ir hz,ld];exact Array.getElem?_eq_none 'b'
   ·rw[Io hz];have h1:t.place.size=1:=by omega
    rw[Array.getElem?_eq_getElem (show 0<t.place.size by omega)];show es[SetTable.below t.place (t.place[0]+1)]?=none;rw[wP h1 (Array.getElem?_eq_getElem 'b')];exact Array.getElem?_eq_none 'b'
  have ec:rawInt ((if es.size=0 then 0 else ((t.place[0]?).getD 0+1:Nat)):Int)=rawInt ((if es.size=0 then 0 else ((t.place[0]?).getD 0+1:Nat):Nat):Int):=by
   by_cases hz:es.size=0
   ·rw[Ir hz,Ir hz];rfl
   ·rw[Io hz,Io hz]
  rw[ec] at hI ⊢;generalize (if es.size=0 then 0 else ((t.place[0]?).getD 0+1:Nat):Nat)=sl at hn hI ⊢;refine HU (m:=setNext S (sl:Int).toNat (es.size:Int).toNat (ep:Int).toNat) (rV X hb hs ?_);rw[J8,hn];refine HU (IP hI (by simp) λh1 e1 s1=>fF (s:={ s with heap:=h1 }) a1 λh' e k he=>aa h' e (λb o n x=>k _ _ (s1.extBut _ _ n x)) he)
theorem Gv(X:TxS prog w s.heap S es ep t){Q:Value->Shared->Prop}
  (q:∀h' d I f F vs,Rd3 w S es ep t F vs->CQ h' I S f 0 es.size ep->F h' 0 f->s.heap.objs.size<=I->(∀b o,s.heap.get? b=some o->h'.get? b=some o)->(∀b,s.heap.objs.size<=b->∀o,h'.get? b=some o->b<=I)->Q (.ref I) { s with heap:=h',drawn:=d }) :
  wpAny 'q' A (pyIter (.ref S)) Q E s:=by
 obtain⟨o,ho,ag,hd⟩:=X.ob;have hT:s.TypeIs (.ref S) "set":=⟨o,ho,ag.1⟩;refine wpAny_pyIter_slot hT PySem.F.slot_set_iter (Js PySem.F.slot_set_iter hT FS.entry_iter ?_ (PySem.F.args_set_iter_1 _));unfold Builtin.«frozenset.__iter__»;refine HU (m:=Builtin.Frozenset.slot0 "__iter__" _) (HZ ?_);refine HU (m:=Builtin.Frozenset.sizeOf S) (HU (m:=setEntries S) (HU (Ju ho hd X.fit (HZ (HZ ?_)))));refine HU (m:=setDrawn S) (HU (Ju ho hd X.fit (HU (gh (HZ ?_)))))
 dsimp only
 have aa:∀(h1:Heap) (d:Drawn) (f:Value) (F:Heap->Nat->Value->Prop) (vs:Zc),Rd3 w S es ep t F vs->(∀o:Obj,F (h1.push o) 0 f)->s.heap.objs.size<=h1.objs.size->(∀b o,s.heap.get? b=some o->h1.get? b=some o) ->
   wpAny 'q' A.in1 (do ret (<- newFields "set_iterator" [f,rawInt 0,.ref S,rawInt es.size,rawInt (<- setEpoch S)]))
    (λfin s'=>∃v,fin=Fin.done (Flow.ret v)/\∃T' r,s'.TypeIs v T'/\typeLookup (.type T') "__next__"=pure (some r)/\Q v s') E { s with heap:=h1,drawn:=d }:=λh1 d f F vs R hF hz hk=>by
  refine HU (wpAny_setEpoch_of (s:={ s with heap:=h1,drawn:=d }) (hk _ _ ho) hd X.fit ?_);refine HU (Jf ?_);refine HZ ⟨_,rfl,"set_iterator",_,⟨_,Heap.get?_push_size _ rfl,rfl⟩,FS.slot_next.lookup,?_⟩;exact q _ d h1.objs.size f F vs R (Heap.get?_push_size _ rfl) (hF _) hz (λb o e=>Heap.get?_push_of_some _ (hk b o e)) λb _ o e=>by
   have:=Iw e
   rw[Jc] at this;exact Nat.le_of_lt_succ this
 cases hb:wW w with
 | true =>
  refine JU (λz=>by simp at z) λ_=>?_;exact HU (HZ (aa s.heap s.drawn _ _ _ (.text hb) (λ_=>rfl) (Ib _) λb o e=>e))
 | false =>
  by_cases hs:es.size<=1
  ·have ab:¬ (!t.plain&&decide (es.size>1))=true:=by rw[IL 'b',Bool.and_false];exact Ie
   refine JU (λz=>absurd (IB.mp z).2 ab) λ_=>?_;exact HU (HZ (aa s.heap s.drawn _ _ _ (.one hb hs) (λ_=>rfl) (Ib _) λb o e=>e))
  ·have ab:(!t.plain&&decide (es.size>1))=true:=by rw[X.pl 'b',IC (show es.size>1 by omega)];rfl
   refine JU (λ_=>?_) λz=>absurd (show (!false&&_)=true from ab) z;refine HU (iy _ _ (by rw[Ji]) λys d hp=>?_);refine HU (wpAny_newTuple ?_ (by rw[HS,hp.length_eq,Ji];exact HX (JG X.few) 'd'))
   ·exact aa _ d _ _ _ (.drawn hb 'b' s.heap.objs.size ys hp) (λ_=>⟨rfl,Heap.get?_push_of_some _ (Heap.get?_push_size _ rfl)⟩) (by rw[Jc];exact La _) λb o e=>Heap.get?_push_of_some _ e
end
end DL
namespace DL
open PySem PySem.Spec PyProof.Rows L2
section
variable {prog:Program} {w:World} {A:Around} {E:Value→Shared→Prop} {s:Shared} {I S:Addr} {es:Array (Int×Value)} {ep:Nat} {t:SetTable} {F:Heap→Nat→Value→Prop} {vs:Zc}
theorem Ea(R:Rd3 w S es ep t F vs):∃fx:List Addr,(∀h h' i f,(∀b∈fx,∀o,h.get? b=some o->h'.get? b=some o)->F h i f->F h' i f)/\∀h i f,F h i f->∀b∈fx,∃o,h.get? b=some o/\o.cls=.type "tuple":=by
 cases R with
 | text hb=>exact⟨[],λ_ _ _ _ _ h=>h,λ_ _ _ _ _ h=>(nomatch h)⟩
 | drawn hb hs T ps hp=>exact⟨[T],λh h' i f k x=>⟨x.1,k T 'p' _ x.2⟩,λh i f x b hb=>by rw[Ii.mp hb];exact⟨_,x.2,rfl⟩⟩
 | one hb hs=>exact⟨[],λ_ _ _ _ _ h=>h,λ_ _ _ _ _ h=>(nomatch h)⟩
theorem uc{f:Value}{i n:Nat}(hI:CQ s.heap I S f i n ep){Q:Value->Shared->Prop}(q:Q (.ref I) s):wpAny 'q' A (pyIter (.ref I)) Q E s:=by
 have hT:s.TypeIs (.ref I) "set_iterator":=⟨_,hI,rfl⟩
 refine wpAny_pyIter_slot hT FS.slot_self (Js FS.slot_self hT FS.entry_self ?_ (FS.args_self _));show wpAny _ _ (ret (.ref I)) _ _ s;exact HZ ⟨_,rfl,"set_iterator",_,hT,FS.slot_next.lookup,q⟩
theorem Fn(a0:A.handled=none)(R:Rd3 w S es ep t F vs){fx:List Addr}(k1:∀h h' i f,(∀b∈fx,∀o,h.get? b=some o->h'.get? b=some o)->F h i f->F h' i f)
  (k2:∀h i f,F h i f->∀b∈fx,∃o,h.get? b=some o/\o.cls=.type "tuple") :
  Walks prog w A I (I::S::fx) [I] es.size (λi v=>vs[i]?=some v) (λi h=>TxS prog w h S es ep t/\∃f,CQ h I S f i es.size ep/\F h i f) where
 sub:=λb hb=>by rw[Ii.mp hb];exact HY ..
 frame:=λi h h' ⟨X,f,hI,hF⟩ k=>⟨X.keep λo e=>k S 'p' o e,f,k I 'p' _ hI,k1 h h' i f (λb hb o e=>k b (by simp[hb]) o e) hF⟩
 item:=λi s Q E hi ⟨X,f,hI,hF⟩ hQ=>by
  have ab:=mv R
  have hv:vs[i]?=some vs[i]:=List.getElem?_eq_getElem 'b'
  obtain⟨o,ho,ag,hd⟩:=X.ob;have aa:S≠I:=λe=>by rw[e,hI] at ho;cases ho;cases hd
  refine Ga R X hI hF hv λh' f' e1 e2 sb=>hQ vs[i] h' s.toks hv ⟨X.keep λo e=>sb.extBut _ _ aa e,f',e1,e2 h' λb o n e=>sb.extBut _ _ n e⟩ λb o hb e=>sb.extBut _ _ (λz=>hb (by simp[z])) e
 done:=λs Q E ⟨X,f,hI,hF⟩ hQ=>FE a0 R X hI hF λh' k=>hQ h' s.toks λb o hb e=>k b o (λz=>hb (by simp[z])) e
 self:=λi s Q E ⟨X,f,hI,hF⟩ hQ=>uc hI hQ
theorem Gn(hT:s.TypeIs (.ref S) "set"){Q:Bool->Shared->Prop}(h:Q false s):wpAny 'q' A (Builtin.List.listLengthHint (.ref S)) Q E s:=by
 unfold Builtin.List.listLengthHint;refine HU (wpAny_specialOf hT PySem.F.slot_set_len.lookup ?_);generalize hid:("set.__len__":String)=id0
 wp_delta
 rw[show splitId id0=some ("set","__len__") from by subst hid;decide +kernel];subst hid;refine HU (wpAny_isInstance (T:="set") (b:=true) hT (by rw[isSubtype_type];kernel_rfl) ?_);refine JU (λz=>absurd z 'd') λ_=>JU (λ_=>?_) λz=>absurd 'g' z;exact HU (wpAny_typeOf hT (HZ h))
set_option maxHeartbeats 2000000 in
theorem xT(a0:A.handled=none)(X:TxS prog w s.heap S es ep t){Q:Zc->Shared->Prop}
  (q:∀h' d tk (ys:Zc),ys.Perm (es.toList.map (·.2))->(∀b o,s.heap.get? b=some o->h'.get? b=some o)->Q ys { s with heap:=h',drawn:=d,toks:=tk }):wpAny 'q' A (collect (.ref S)) Q E s:=by
 obtain⟨o,ho,ai,hd⟩:=X.ob;have ah:S≠s.heap.objs.size:=II (Iw ho);have hn:es.size<=sizeLine:=HX (JG X.few) 'd';unfold collect;refine HU (wpAny_runValue (J7 entry_proto_collect' ?_));rw[JR PySem.F.plain_proto_collect _];show wpAny _ A.in1 (newList [] >>= λl=>again (.builtin "list.__iadd__" ⟨[l,.ref S],[]⟩)) _ _ s;refine HU (Jf (HZ ⟨plainId_quiet PySem.F.plain_list_iadd _,J7 entry_list_iadd' ?_⟩));rw[JR PySem.F.plain_list_iadd _];have hL:(s.heap.push { cls:=.type "list",data:=.seq ([]:Zc).toArray }).get? s.heap.objs.size=some { cls:=.type "list",data:=.seq #[] }:=Heap.get?_push_size _ rfl;have X1:TxS prog w (s.heap.push { cls:=.type "list",data:=.seq ([]:Zc).toArray }) S es ep t:=X.keep λo e=>Heap.get?_push_of_some _ e;have hT:Shared.TypeIs { s with heap:=s.heap.push { cls:=.type "list",data:=.seq ([]:Zc).toArray } } (.ref S) "set":=⟨o,Heap.get?_push_of_some _ ho,ai.1⟩;show wpAny _ A.in1 (Builtin.List.listExtendWith (.ref s.heap.objs.size) (.ref S) (.ref s.heap.objs.size)) _ _ _;unfold Builtin.List.listExtendWith;refine HU (wpAny_typeOf hT ?_);have h1:Builtin.List.listSameRef (.ref s.heap.objs.size) (.ref S)=false:=by simp[Builtin.List.listSameRef,Ne.symm ah]
 have n1:(Value.type "set"==Value.type "list")=false:=by decide
 have n2:(Value.type "set"==Value.type "tuple")=false:=by decide
 simp only[h1,n1,n2,Bool.or_false,Bool.false_eq_true,if_false];refine HU (Gv (s:={ s with heap:=s.heap.push { cls:=.type "list",data:=.seq ([]:Zc).toArray } }) X1 λh' d I f F vs R hI hF aa hk hle=>?_);obtain⟨fx,k1,k2⟩:=Ea R;have ag:=hk _ _ hL;have X2:TxS prog w h' S es ep t:=X1.keep λo e=>hk _ _ e;refine HU (Jr (Gn (s:={ s with heap:=h',drawn:=d }) ⟨o,hk _ _ (Heap.get?_push_of_some _ ho),ai.1⟩ ?_));have aa:s.heap.objs.size<I:=by rw[Jc] at aa;exact aa
 have aj:s.heap.objs.size∉I::S::fx:=λhm=>by
  rcases Ih.mp hm with e | hm
  ·exact Je _ (e ▸ aa)
  ·rcases Ih.mp hm with e | hm
   ·exact ah e.symm
   ·obtain⟨oo,e1,e2⟩:=k2 _ _ _ hF _ hm;rw[ag] at e1
    cases e1
    simp at e2
 have a2:A.in1.handled=none:=a0
 have al:∀(h2:Heap) (c:Nat),(∀b o,b≠s.heap.objs.size->h'.get? b=some o->h2.get? b=some o)->h2.get? s.heap.objs.size=some { cls:=.type "list",data:=.seq #[] c } ->
   codeAny 'q' A (.builtin "list.extend.loop" ⟨[.ref s.heap.objs.size,.ref I,.ref s.heap.objs.size],[]⟩) (λr s'=>match r with
    | .ok (.ret v)=>wpAny 'q' A (match v with | .ref a=>(do match (<- load a).data with | .seq xs _=>pure xs.toList | _=>unsupported "internal:collect") | _=>unsupported "internal:collect") Q E s'
    | .ok _=>False
    | .error e=>E e s') { s with heap:=h2,drawn:=d }:=λh2 c hk2 ab=>by
  refine codeAny_extend_loopS ((Fn a2 R k1 k2).toS) hn s.heap.objs.size aj (.ref s.heap.objs.size) es.size 0 _ #[] c rfl (Jq _) ⟨X2.keep λo e=>hk2 _ _ ah e,f,hk2 _ _ (JW aa) hI,k1 _ _ _ _ (λb hb o e=>hk2 b o (λz=>aj (by rw[<- z];simp[hb])) e) hF⟩ ab (ItemsOf.nil _) λs' acc c' hm hS' hacc=>?_;refine HU (wpAny_load hS' (HZ ?_));rw[Moved.eq_with hm];have hv:acc.toList=vs:=by
   apply List.ext_getElem?;intro j;have hl:=mv R
   by_cases hj:j<es.size
   ·have an:j<acc.size:=by rw[hacc.1];exact hj
    have e1:acc.toList[j]?=some acc[j]:=by rw[Array.getElem?_toList];exact Array.getElem?_eq_getElem an
    rw[e1,hacc.2 j acc[j] (by rw[<- Array.getElem?_toList];exact e1)]
   ·rw[List.getElem?_eq_none (by rw[IQ,hacc.1];omega),List.getElem?_eq_none 'b']
  rw[hv];refine q s'.heap d s'.toks vs (yu R) λb o e=>hm.heap b o (λz=>?_) (hk2 b o (II (Iw e)) (hk b o (Heap.get?_push_of_some _ e)));have hb:=Iw e
  rcases Ih.mp z with z | z
  ·exact Je _ (z ▸ hb)
  ·have z:=Ii.mp z
   rw[z] at hb;exact KN hb aa
 refine JU (λ_=>?_) λz=>absurd 'd' z;refine HU (KW (HU ?_));show wpAny _ _ (updateSeq s.heap.objs.size (·.push .none) >>= λ_=>updateSeq s.heap.objs.size (·.pop)) _ _ _;refine HU (wpAny_updateSeq ag rfl ?_);have ab:=Heap.get?_update_self (Obj.mapSeq (·.push Value.none)) ag rfl;refine wpAny_updateSeq (hz:=by seq_fits) ab rfl ?_;have ao:=Heap.get?_update_self (Obj.mapSeq (·.pop)) ab rfl;refine HZ ⟨plainId_quiet PySem.F.plain_extend_loop _,KI (al _ _ (λb o n e=>?_) ao) λr s' h=>?_⟩
 ·exact(Heap.get?_update_other _ _ (Kz n)).trans ((Heap.get?_update_other _ _ (Kz n)).trans e)
 ·cases r with
  | error e=>exact h
  | ok fl =>
   cases fl with
   | ret v=>exact h
   | _=>exact h.elim
end
theorem m7{es:Array (Int×Value)}{ys:Zc}(he:∀e∈es.toList,∃t,e.2=.str (sOf e.2) t)(hp:ys.Perm (es.toList.map (·.2))):StrsAre ys (ys.map sOf):=by
 have:∀ys:Zc,(∀y∈ys,∃t,y=.str (sOf y) t)->StrsAre ys (ys.map sOf):=by
  intro ys
  induction ys with
  | nil=>intro _;exact .nil
  | cons y ys ih =>
   intro h;obtain⟨t,e⟩:=h y (HY ..);rw[Iy];have:=ih λz hz=>h z (HV _ hz);rw[e];exact .cons _ _ this
 refine this ys λy hy=>?_;obtain⟨e,h1,rfl⟩:=HW.mp (hp.mem_iff.mp hy);exact he e h1
section
variable {X:Cx} {e:Expr} {p p2 pos pos2:Pos} {te:TE}
theorem uz{pins:List (Addr×Obj)}{σ:L2.St}{H:Hp}{s:Shared}(I:L2.Inv X pins σ H s)(d:Drawn):L2.Inv X pins σ H { s with drawn:=d }:=⟨I.ok,I.os,I.bare,I.base,I.loc,I.cell,I.free,I.freeC,I.pin,I.hok,I.len⟩
def tSS(te:TE):TE:=λσ H Q=>te σ H λx H1=>∃(a:Addr) (ss:Zb),x=.ref a/\H1 a=some (.lst (ss.map V.str))/\ss.length<64/\∀(ss':Zb) (b:Addr),ss'.Nodup->(∀y,y∈ss'↔y∈ss)->Srt ss'->H1 b=none->Q (.ref b) (HL H1 b (.lst (ss'.map V.str)))
theorem Gw(hc:X.calm=true)(hg:Gl X "sorted")(hm:X.mg "sorted"=none)(hg2:Gl X "set")(hm2:X.mg "set"=none)(he:PE X e te)
  (hs:starEach [e] X.env=[(false,eval e X.env)]:=by rfl) (hs1:starEach [.Call (.Name "set" p2) [e] [] pos2] X.env=[(false,eval (.Call (.Name "set" p2) [e] [] pos2) X.env)]:=by rfl) :
  PE X (.Call (.Name "sorted" p) [.Call (.Name "set" p2) [e] [] pos2] [] pos) (tSS te):=by
 have ao:PE X (.Call (.Name "set" p2) [e] [] pos2) (λ_ _ _=>False):=λ_ _ _ _ _ _ h=>h.elim
 intro aa s σ H Q I h;refine J2 (gu I hg hm iU ?_);refine PyProof.Rows.callWith_builtin1 ?_ hs1 rfl;rw[hs1];refine J1 ?_;show wpAny _ _ (eval (.Call (.Name "set" p2) [e] [] pos2) X.env) _ _ _;refine J2 (gu I hg2 hm2 He ?_);refine Jn ?_ hs rfl;rw[hs];refine J1 (Hm (he aa s σ H _ I h) λu s1 ⟨x,H1,I1,rx,a,ss,ex,ha,hl,q⟩=>KB ?_);subst ex
 cases rx
 obtain⟨aj,rv,pl,_⟩:=I1.list (Ht.of ha);have al:=dE rv;have hz:aj.length=ss.length:=by rw[<- rv.length,HS]
 refine yS (I1.ok.hd hc) pl.isList (by simpa using al) (by rw[Iu,hz];exact Nat.lt_trans (Nat.succ_lt_succ hl) 'd') λh' tk es ep t X1 hy hn hk=>KB ?_;have I2:L2.Inv X aa σ H1 { s1 with heap:=h',toks:=tk }:=I1.kept (t':=tk) hk;refine Ke kind_sorted plain_sorted entry_sorted (args_sorted1 _) ?_;unfold Builtin.«sorted»;refine HU (m:=checkCount "sorted" 1 1 _) (HZ ?_);refine HU (xT (A:=X.A.in1) (s:={ s1 with heap:=h',toks:=tk }) (I1.ok.hd hc) X1 λh2 d tk2 ys hp hk2=>?_);have hS:=m7 (λe h=>zz X1.el h) hp;have hm:(ys.map sOf).Perm (es.toList.map λe=>sOf e.2):=by
  have:=hp.map sOf
  rwa [IU] at this
 have ag:ys.length<64:=by
  have e0:=hp.length_eq
  rw[HS] at e0;have e1:es.toList.length=es.size:=IQ;omega
 refine HU (wpAny_newList ?_ (e8 'b'));have ab:(h2.push { cls:=.type "list",data:=.seq ys.toArray }).get? h2.objs.size=some (seqObj "list" ys.toArray 0):=Heap.get?_push_size _ rfl;refine HU (Jr (gO (s:={ s1 with heap:=h2.push { cls:=.type "list",data:=.seq ys.toArray },drawn:=d,toks:=tk2 }) ab hS ag λout ss' h1 h2' h3=>?_));refine HZ ⟨_,rfl,?_⟩;obtain⟨ah,an⟩:=sortedHeap_at (out:=out) ab;have I3:L2.Inv X aa σ H1 { s1 with heap:=h2,drawn:=d,toks:=tk2 }:=uz (I2.kept (t':=tk2) hk2) d;have kp:∀b o,h2.get? b=some o->(sortedHeap (h2.push { cls:=.type "list",data:=.seq ys.toArray }) h2.objs.size ys out).get? b=some o:=λb o e=>by
  have hb:=Iw e
  rw[sortedHeap_old (II hb) (by rw[Jc];exact JJ hb)];exact Heap.get?_push_of_some _ e
 have ai:(ss'.map V.str).length<=sizeLine:=by rw[HS,h2'.length_eq,HS];exact e8 'b'
 have I4:L2.Inv X aa σ (HL H1 h2.objs.size (.lst (ss'.map V.str))) { s1 with heap:=sortedHeap (h2.push { cls:=.type "list",data:=.seq ys.toArray }) h2.objs.size ys out,drawn:=d,toks:=tk2 } :=
  I3.laid (t':=tk2) kp (Ib _) (show bQ X.prog X.w _ _ _ (.lst (ss'.map V.str)) from⟨ai,out.toList,ah,cu h1,an⟩)
 have fr:H1 h2.objs.size=none:=I3.hok.fresh (Ib _)
 exact⟨.ref _,_,I4,rfl,q ss' _ ((h2'.trans hm).nodup_iff.mpr X1.nd) (λy=>((h2'.trans hm).mem_iff).trans (hy y)) h3 fr⟩
end
def dSS(te:HQ)(δ:En)(R:W->En->Prop):Prop:=te δ (wd λd δ1=>∃ss:Zb,d=.lst (ss.map D.str)/\ss.length<64/\∀ss',ss'.Nodup->(∀y,y∈ss'↔y∈ss)->Srt ss'->R (.d (.lst (ss'.map D.str))) δ1)
theorem Fm{X:Cx}{e:Expr}{p p2 pos pos2:Pos}{te:HQ}(hc:X.calm=true)(hg:Gl X "sorted")(hm:X.mg "sorted"=none)(hg2:Gl X "set")(hm2:X.mg "set"=none)(he:DE X e te)
  (hs:starEach [e] X.env=[(false,eval e X.env)]:=by rfl) (hs1:starEach [.Call (.Name "set" p2) [e] [] pos2] X.env=[(false,eval (.Call (.Name "set" p2) [e] [] pos2) X.env)]:=by rfl) :
  DE X (.Call (.Name "sorted" p) [.Call (.Name "set" p2) [e] [] pos2] [] pos) (dSS te) :=
 PE.imp (Gw hc hg hm hg2 hm2 he hs hs1) λσ H Q ⟨G,δ,P,R,s,h,k,_⟩=>up.mk s h λd δ1 ⟨ss,e,hl,r⟩ v H1 s1=>by
  subst e;obtain⟨A,x⟩:=id s1;have q:=x.pnd (.lst (ss.map D.str),v) 'p';unfold HP at q;obtain⟨a,vs,rfl,_,ha,rs⟩:=q
  cases d7 rs
  refine⟨a,ss,rfl,ha,hl,λss' b nd hy st hb=>k _ δ1 (r ss' nd hy st) _ _ ⟨A,((x.same (aH hb _)).sub (P':=P) λp hp=>by simp[hp]).push ?_⟩⟩;unfold HP;exact⟨b,_,rfl,λz=>x.mem b z hb,aG,cw ss'⟩
end DL
namespace DL
open PySem PySem.Spec PyProof.Rows L2
variable {a:Addr} {ks:Zb} {o:Obj}
section
variable {K:PySem.W.Frag} {G:Gf} {A:Addr→Prop} {δ:List Sl} {P:List (D×V)} {σ:L2.St} {H:Hp}
theorem Sx.freezeF{i:Nat}{ds:Zh}(s:Sx K G A δ P σ H)(hi:δ[i]?=some (.own a (.dct ks ds)))(hp:¬ G.M0 a) :
  ∃kvs,H a=some (.dK kvs)/\Sx K G (λb=>A b/\b≠a) (δ.set i (.dat (.fd ks ds))) P σ (HL H a (.frz o (.dK kvs))):=by
 obtain⟨si,ai,vs,hH,l,rs⟩:=s.own i a _ hi;refine⟨_,hH,?_⟩;have hk:∀b u,b≠a->H b=some u->HL H a (.frz o (.dK (aM ks vs))) b=some u:=λb u n e=>by rw[aJ n];exact e
 have kp:Kp (λb=>G.M0 b\/A b) H (HL H a (.frz o (.dK (aM ks vs)))) :=
  ⟨λb u e n=>hk b u (λz=>n (.inr (by rw[z];exact ai))) e,λb xs e=>hk b _ (λz=>by rw[z,hH] at e;cases e) e,λb u v e=>hk b _ (λz=>by rw[z,hH] at e;cases e) e⟩
 have hM:∀b,(G.M0 b\/(A b/\b≠a))->(G.M0 b\/A b):=λb h=>h.elim .inl λz=>.inr z.1
 have dn:∀d v,HP K (λb=>G.M0 b\/A b) H d v->HP K (λb=>G.M0 b\/(A b/\b≠a)) (HL H a (.frz o (.dK (aM ks vs)))) d v:=λd v r=>HP.more (λb z=>.inl (hM b z)) _ _ (HP.kp kp _ _ r)
 have stay:∀b,H b≠none->HL H a (.frz o (.dK (aM ks vs))) b≠none:=λb e=>by
  by_cases z:b=a
  ·rw[z,aG];exact λq=>nomatch q
  ·rw[aJ z];exact e
 refine⟨λb u e n=>hk b u (λz=>?_) (s.old b u e n),λb e=>stay b (s.stay b e),s.m0,s.pm,λb h=>s.new b h.1,λb h=>stay b (s.thr b h.1),by rw[IX,s.len],λj x e=>?_,λj b x e=>?_,λj k b x y h1 h2=>?_,λp hp=>dn _ _ (s.pnd p hp)⟩
 ·subst z;exact(s.new b ai).elim (λq=>by rw[q] at e;cases e) λq=>n q
 ·rcases aX e with⟨aa,z,_⟩ | ⟨aa,e⟩
  ·cases z;subst aa
   refine⟨.ref a,si,?_⟩;unfold HP;exact⟨a,vs,o,rfl,aG,l,Reps.more (λb z=>.inl (hM b z)) _ _ (Reps.kp kp _ _ rs)⟩
  ·obtain⟨v,q,r⟩:=s.dat j x e;exact⟨v,q,dn _ _ r⟩
 ·rcases aX e with⟨_,z,_⟩ | ⟨aa,e9⟩
  ·cases z
  ·clear e;obtain⟨q,r,w⟩:=s.own j b x e9;have hb:b≠a:=λz=>by rw[z] at e9;exact aa (s.inj _ _ _ _ _ hi e9)
   exact⟨q,⟨r,hb⟩,bG.more (λb z=>.inl (hM b z)) (bG.kp kp (by rw[aJ hb]) w)⟩
 ·rcases aX h1 with⟨_,z,_⟩ | ⟨_,e1⟩
  ·cases z
  ·rcases aX h2 with⟨_,z,_⟩ | ⟨_,e2⟩
   ·cases z
   ·exact s.inj j k b x y e1 e2
end
def lr(i:Nat)(t:TDS)(R:a7)(δ:En):Prop:=qWD δ[i]? λ_ ks ds=>lH δ i (.dat (.fd ks ds)) (t R)
theorem dM{X:Cx}(i:Nat){st:List Stmt}{u:TDS}(h:DSs X st u):DSs X st (lr i u):=by
 rintro pins s σ H D I ⟨G,δ,P,R,⟨A,x⟩,hu,k⟩;replace hu:=qWD.ex hu;obtain⟨a,ks,ds,e,hu⟩:=hu;have hp:¬ G.M0 a:=λz=>(x.new a (x.own i a _ e).2.1).elim (λq=>x.m0 a z q) λq=>(x.pm a q).2 z;obtain⟨si,ai,vs,hH,l,rs⟩:=x.own i a _ e;obtain⟨hz,lo,va,ra,da⟩:=uY I.hok hH;obtain⟨o,es,ep,ho,r9⟩:=id da;obtain⟨kvs,aa,y⟩:=x.freezeF (o:=o) e hp;rw[hH] at aa
 cases aa
 have I2:L2.Inv X pins σ (HL H a (.frz o (.dK (aM ks vs)))) s:=I.write (x:=a) (e:=a) (t':=s.toks) (h':=s.heap) (by rw[hH];trivial) (.inl rfl) (λb u _ q=>q) ⟨o,ho⟩ ⟨ho,hz,lo,va,ra,da⟩
 exact h pins s σ _ D I2 ⟨G,_,P,R,⟨_,y⟩,hu,k⟩
def Itd(a:Addr)(o:Obj)(ks:Zb):It :=
  ⟨λi H=>i<ks.length/\∃vs,vs.length=ks.length/\H a=some (.frz o (.dK (aM ks vs))),
   λi H v H'=>H'=H/\∃x,ks[i]?=some x/\v=.str x,
   λi H=>i=ks.length/\∃vs,vs.length=ks.length/\H a=some (.frz o (.dK (aM ks vs)))⟩
theorem wL{X:Cx}{pins:List (Addr×Obj)}{σ:L2.St}{H:Hp}{s:Shared}{vs:Zf}{es:Array DictEntry}{ep:Nat}(I:L2.Inv X pins σ H s)(hd:o.data=.dict es ep)(hl:vs.length=ks.length)(e:H a=some (.frz o (.dK (aM ks vs)))) :
  ∃va,KV (aM ks vs) va/\va.length=ks.length/\(a==sysModules)=false/\s.heap.DictAt (a9 X.prog X.w) a va ep:=by
 obtain⟨ho,hz,lo,va,ra,da⟩:=I.hok a _ e;obtain⟨ag,dt⟩:=da.dictAt;obtain⟨o',ab,aa,r1,r2,r3⟩:=id dt;rw[ho] at aa
 cases aa
 rw[hd] at r2
 cases r2
 refine⟨va,ra,?_,lo,dt⟩;rw[<- ra.length];unfold aM;rw[Jh,HS];omega
theorem ui{P:Program}{w:World}{K:PySem.W.Frag}{tg:Expr}{it:Addr}{es:Array DictEntry}{ep:Nat}(hd:o.data=.dict es ep):zk P w K tg (Itd a o ks) [it] it (λi h=>h.IsKeyIter it a i ks.length ep) where
 mem:=by simp
 obj:=λi h st b hb=>by
  have e:b=it:=by simpa using hb
  subst e;obtain⟨o,ho,_,d⟩:=st;exact⟨o,ho,λv=>by rw[d];nofun⟩
 keep:=λi h h' st k=>st.at λo e=>k it 'p' o e
 item:=by
  intro X hP hw hK hc i ab s σ H E I hf st hg;subst hP hw hK;obtain⟨f0,f1,f2,f3,f4,f5⟩:=hf it 'p';obtain⟨hi,vs,hl,e⟩:=hg;obtain⟨va,ra,lv,lo,dt⟩:=wL I hd hl e;rw[<- lv] at st;obtain⟨⟨k,v⟩,hx⟩:∃p,va[i]?=some p:=⟨va[i]'(by omega),by simp[show i<va.length by omega]⟩;obtain⟨⟨k2,v2⟩,q1,z1,_⟩:=jt ra hx;obtain⟨x,rfl,kx,_⟩:=l9 q1;simp only at z1;subst z1;refine wpAny_pyNext_dict_item st dt hx λkey h' aa hit' sb=>⟨_,rfl,?_⟩;rw[lv] at hit';obtain⟨oi,ho,ah,ag⟩:=id hit';have I1:Inv X ab σ H { s with heap:=h' }:=I.turned (t':=s.toks) (λb o hb e=>sb.extBut b o hb e) f0 f1 f3 f4 f5;have aa:Value.isStrOf x key=true:=aa;obtain⟨t,rfl⟩:=Value.isStrOf_shape aa;exact ug (s:={ s with heap:=h' }) (n:="dict_keyiterator") ho ah ag 'd' ⟨.str x,H,I1,⟨t,rfl⟩,⟨rfl,x,kx,rfl⟩,hit',λb hb=>(hf b hb).1⟩
 done:=by
  intro X hP hw hK hc i ab s σ H E I hf st hg;subst hP hw hK;obtain⟨f0,f1,f2,f3,f4,f5⟩:=hf it 'p';obtain⟨hi,vs,hl,e⟩:=hg;obtain⟨va,ra,lv,lo,dt⟩:=wL I hd hl e;rw[<- lv] at st;exact wpAny_pyNext_dict_end (I.ok.hd hc) st dt (by simp;omega) λh' eb=>⟨rfl,I.turned (t':=s.toks) (λb o hb e=>eb b o hb e) f0 f1 f3 f4 f5⟩
 self:=λ_ _ _ _ _ st h=>wpAny_pyIter_keyiter st h
section
variable {X:Cx} {tg e:Expr} {te:HQ}
def F6(te:TE):TI:=λσ H R=>te σ H λx H1=>∃a o ks vs,x=.ref a/\vs.length=ks.length/\H1 a=some (.frz o (.dK (aM ks vs)))/\R (Itd a o ks) H1
theorem Bj{te:TE}(he:PE X e te):PI X tg e (F6 te):=by
 intro ab s σ H R I h;refine Hm (he ab s σ H _ I h) λv s1 ⟨x,H1,I1,r1,q1⟩=>?_;obtain⟨a,o,ks,vs,rfl,hl,e1,q⟩:=q1
 cases r1
 obtain⟨ho,hz,lo,ah,ag,da⟩:=I1.hok a _ e1;obtain⟨o',es,ep,aa,r1,r2,r3⟩:=id da;rw[ho] at aa
 cases aa
 obtain⟨va,ra,lv,lo,dt⟩:=wL I1 r2 hl e1;refine wpAny_pyIter_dict lo dt ?_;refine⟨s1.heap.objs.size,[s1.heap.objs.size],_,_,H1,rfl,I1.kept (t':=s1.toks) λb o e=>Heap.get?_push_of_some _ e,ui r2,⟨_,Heap.get?_push_size _ rfl,rfl,by rw[lv];rfl⟩,λb hb=>?_,q⟩;have e:b=s1.heap.objs.size:=by simpa using hb
 subst e;exact I1.fpOk (Ib _) (I1.hok.fresh (Ib _))
def Ez(t:HQ)(δ:En)(R:Zh->En->Prop):Prop:=t δ (wd λd δ1=>qF d λks _=>R (ks.map D.str) δ1)
theorem zc(h:DE X e te):CI X tg e (Ez te):=⟨_,Bj h,λG δ P σ H R Q s hs k=>up.mk s hs λd δ1 h1 v H1 s1=>by
 replace h1:=qF.ex h1;obtain⟨ks,ds,e,r⟩:=h1;subst e;have ah:∀A δ σ H,Sx X.K G A δ ((.fd ks ds,v)::P) σ H->∃a vs o,v=.ref a/\vs.length=ks.length/\H a=some (.frz o (.dK (aM ks vs))):=λA δ σ H x=>by
  have q:=x.pnd (.fd ks ds,v) 'p'
  unfold HP at q;obtain⟨a,vs,o,e,q,l,r⟩:=q;exact⟨a,vs,o,e,by rw[l,Reps.length _ _ r],q⟩
 obtain⟨A1,x1⟩:=id s1;obtain⟨a,ab,o,rfl,l0,e0⟩:=ah _ _ _ _ x1;have p0:HP X.K (λb=>G.M0 b\/A1 b) H1 (.fo o ks ds) (.ref a):=by
  have q:=x1.pnd (.fd ks ds,.ref a) 'p'
  unfold HP at q ⊢;obtain⟨a',vs,o',e,q,l,r⟩:=q
  cases e
  rw[e0] at q;have hq:o=o'/\aM ks ab=aM ks vs:=by
   have q:=Iq q
   injection q with q1 q2
   injection q2 with q2
   exact⟨q1,q2⟩
  exact⟨a,vs,rfl,by rw[e0,hq.2],l,r⟩
 have aa:∀A δ σ H,Sx X.K G A δ ((.fo o ks ds,.ref a)::P) σ H->∃vs,vs.length=ks.length/\H a=some (.frz o (.dK (aM ks vs))):=λA δ σ H x=>by
  have q:=x.pnd (.fo o ks ds,.ref a) 'p'
  unfold HP at q;obtain⟨a',vs,e,q,l,r⟩:=q
  cases e
  exact⟨vs,by rw[l,Reps.length _ _ r],q⟩
 refine⟨a,o,ks,ab,rfl,l0,e0,k _ δ1 r _ ((.fo o ks ds,.ref a)::P) H1 (λq hq=>by simp[hq]) ⟨A1,(x1.sub (P':=P) λq hq=>by simp[hq]).push p0⟩ (λA δ σ i H x hi=>?_) (λA δ σ H x=>?_) λA δ σ i y H H2 x hi hy=>?_⟩
 ·exact⟨by simpa using hi,aa _ _ _ _ x⟩
 ·exact⟨by simp,aa _ _ _ _ x⟩
 ·obtain⟨rfl,x',ag,rfl⟩:=hy
  exact⟨bF.refl _,.str x',by rw[List.getElem?_map,ag];rfl,by unfold HP;rfl⟩⟩
end
end DL
namespace DL
open PySem PySem.Spec PyProof.Rows L2
variable {R:D→Prop}
def Soft:HO->Prop
 | .tup _=>False
 | .frz _ _=>False
 | .tbl _=>False
 | _=>True
theorem Inv.thaw{X:Cx}{pins:List (Addr×Obj)}{σ:L2.St}{H:Hp}{s:Shared}{a:Addr}{o:Obj}{kvs:List (Ho×V)}(I:L2.Inv X pins σ H s)(e:H a=some (.frz o (.dK kvs)))(n1:∀u,X.H₀ a=some u->Soft u) :
  L2.Inv X pins σ (HL H a (.dK kvs)) s:=by
 have ne:∀b,H b=none->b≠a:=λb n z=>by rw[z,e] at n;cases n
 have n0:∀b u,X.H₀ b=some u->¬ Soft u->b≠a:=λb u hb n z=>n (n1 u (by rw[<- z];exact hb))
 have base:Un X.fs X.ex X.H₀ (HL H a (.dK kvs)) X.s₀.heap s.heap :=
  ⟨I.base.keep,I.base.slot,λb u q n hb=>by have z:=I.base.free b u q n hb;rw[aJ (ne b z)];exact z,I.base.there,λb xs q=>by rw[aJ (n0 b _ q id)];exact I.base.tups b xs q,λb u xs q=>by rw[aJ (n0 b _ q id)];exact I.base.frzs b u xs q,λb ps q=>by
   obtain⟨m,hm⟩:=I.base.tbls b ps q
   exact⟨m,by rw[aJ (n0 b _ q id)];exact hm⟩⟩
 refine⟨I.ok,I.os,I.bare,base,I.loc,I.cell,by rw[aJ (ne _ I.free)];exact I.free,λx c hc=>by rw[aJ (ne _ (I.freeC x c hc))];exact I.freeC x c hc,λp hp=>?_,λb u hb=>?_,I.len⟩
 ·obtain⟨q1,q2,q3⟩:=I.pin p hp;exact⟨q1,by rw[aJ (ne _ q2)];exact q2,q3⟩
 ·by_cases z:b=a
  ·rw[z,aG] at hb
   cases hb
   rw[z];exact(I.hok a _ e).2
  ·rw[aJ z] at hb;refine(I.hok b u hb).stay (λc v _ q=>q) (λc q=>?_) λc xs q=>?_
   ·rw[aJ (λw=>by rw[w,e] at q;cases q)];exact q
   ·rw[aJ (λw=>by rw[w,e] at q;cases q)];exact q
section
variable {X:Cx} {pos:Pos} {e:Expr}
def AJ:V->Zf->Hp->VK->Prop:=λx vs H Q=>∃a kvs,x=.ref a/\vs=[]/\H a=some (.dK kvs)/\Q .non (HL H a (.dK []))
theorem wR:MtM X "dict.clear" AJ:=by
 intro aa s σ H x vs v us Q I rx rv h;obtain⟨a,kvs,rfl,rfl,hH,q⟩:=h
 cases rx
 cases rv
 exact Cs I hH λs' I'=>⟨.non,_,I',rfl,q⟩
end
section
variable {X:Cx} {pos:Pos} {e:Expr} {ta:HQ}
end
section
variable {P:Program} {w:World} {K:PySem.W.Frag} {mg:Str→Zd} {base:Heap}
end
def CP:Zh->(D->Prop)->Prop
 | [.int i,.int j],R=>R (.bl (decide (i=j)))
 | [.str x,.str y],R=>R (.bl (decide (x=y)))
 | [.bl x,.bl y],R=>R (.bl (decide (x=y)))
 | [.tup xs,.tup ys],R=>∃a b c d,xs=[.int a,.int b]/\ys=[.int c,.int d]/\R (.bl (decide ((a,b)=(c,d))))
 | _,_=>False
theorem B2:∀ {d0:Zh} {R:D->Prop},CP d0 R->((∃(i:Int) (j:Int),d0=[.int i,.int j]/\R (.bl (decide (i=j))))\/(∃(x:Str) (y:Str),d0=[.str x,.str y]/\R (.bl (decide (x=y))))\/(∃(x:Bool) (y:Bool),d0=[.bl x,.bl y]/\R (.bl (decide (x=y))))\/(∃(xs:Zh) (ys:Zh),d0=[.tup xs,.tup ys]/\∃a b c d,xs=[.int a,.int b]/\ys=[.int c,.int d]/\R (.bl (decide ((a,b)=(c,d)))))):=by walk_at "or"
theorem BX{a b c d:Int}:CP [.tup [.int a,.int b],.tup [.int c,.int d]] R↔R (.bl (decide ((a,b)=(c,d)))):=by
 constructor
 ·intro h;obtain⟨_,_,_,_,e,e',h⟩:=h
  cases e
  cases e'
  exact h
 ·exact λh=>⟨_,_,_,_,rfl,rfl,h⟩
theorem xk{i j:Int}:CP [.int i,.int j] R=(R (.bl (decide (i=j)))):=rfl
theorem BV{i j:Bool}:CP [.bl i,.bl j] R=(R (.bl (decide (i=j)))):=rfl
theorem yr{i j:Str}:CP [.str i,.str j] R=(R (.bl (decide (i=j)))):=rfl
section
variable {X:Cx}
theorem Bu(hu:X.A.units+64<cLine):HC X (compareOp .Eq) λx y=>aQ X.K CP [x,y]:=by
 intro aa s σ H x y v u Q I rx ry h;obtain⟨M,ds,R,m,rs,h,k⟩:=h;replace h:=B2 h
 rcases h with⟨_,_,rfl,h⟩ | ⟨_,_,rfl,h⟩ | ⟨_,_,rfl,h⟩ | ⟨_,_,rfl,h⟩
 ·exact dY hu aa s σ H x y v u Q I rx ry ⟨M,_,R,m,rs,h,k⟩
 ·exact dY hu aa s σ H x y v u Q I rx ry ⟨M,_,R,m,rs,h,k⟩
 ·exact dY hu aa s σ H x y v u Q I rx ry ⟨M,_,R,m,rs,h,k⟩
 ·obtain⟨i1,i2,j1,j2,rfl,rfl,h⟩:=h;obtain⟨h1,h2⟩:=bL rs;unfold HP at h1 h2;obtain⟨a,vs,rfl,sq,ah⟩:=h1;obtain⟨b,ws,rfl,ag,ab⟩:=h2
  cases rx
  cases ry
  obtain⟨v1,v2,rfl,p1,p2⟩:=lN ah;obtain⟨w1,w2,rfl,p3,p4⟩:=lN ab
  cases aT p1
  cases aT p2
  cases aT p3
  cases aT p4
  obtain⟨aj,r1,t1,_⟩:=I.tuple sq;obtain⟨ai,r2,t2,_⟩:=I.tuple ag
  cases r1 with
  | cons q1 r1 =>
   cases r1 with
   | cons q2 r1 =>
    cases r1
    obtain⟨s1,rfl⟩:=q1;obtain⟨s2,rfl⟩:=q2
    cases r2 with
    | cons q3 r2 =>
     cases r2 with
     | cons q4 r2 =>
      cases r2
      obtain⟨s3,rfl⟩:=q3;obtain⟨s4,rfl⟩:=q4;refine SeqAt.eq_tupleAt (e:=λn=>if n=0 then i1==j1 else i2==j2) t1 t2 'b' (λn h1 h2=>?_) ?_
      ·match n,h1 with
       | 0,_=>exact SeqAt.EqAt.int_int i1 s1 j1 s3
       | 1,_=>exact SeqAt.EqAt.int_int i2 s2 j2 s4
      ·refine⟨.bl _,H,I,rfl,?_⟩;have e1:((List.range (min [Value.int i1 s1,Value.int i2 s2].toArray.size [Value.int j1 s3,Value.int j2 s4].toArray.size)).all (λn=>if n=0 then i1==j1 else i2==j2)&&[Value.int i1 s1,Value.int i2 s2].toArray.size==[Value.int j1 s3,Value.int j2 s4].toArray.size)=decide ((i1,i2)=(j1,j2)):=by
        show ((i1==j1)&&((i2==j2)&&true)&&true)=_
        rw[Kt];simp
       rw[e1];exact k _ h _ H (bF.refl H) (HP.sc rfl)
end
end DL
namespace DL
open PySem PySem.Spec PyProof.Rows L2
section
variable {X:Cx}
end
end DL
namespace DL
open PySem PySem.Spec PyProof.Rows L2
variable {X:Cx} {y:Str} {pos:Pos}
def kI(R:W->En->Prop)(δ:En)(r:D):Prop:=r.im=true/\R (.d r) δ
def zB(i:Nat)(f:Zh->(D->Prop)->Prop)(ta tb:HQ)(δ:En)(R:W->En->Prop):Prop:=ta δ (wd λx δ1=>tb δ1 (wd λy δ2=>qW δ2[i]? λ_ d=>f [x,y,d] (kI R δ2)))
theorem yy{a b:Expr}{ta tb:HQ}{f:Zh->(D->Prop)->Prop}{x:Str}{k:Nat}{ps:Zb}{p p2:Pos}(i:Nat)(C:Cal X.prog X.w X.K X.mg X.base k x ps (HN X.K f))(hr:gG k X.A)(hg:Gl X x)(ha:DE X a ta)(hb:DE X b tb)(hN:X.N[i]?=some y:=by rfl)
  (hv:Vis X.env.scope y:=by walk_at "v3") (hd:(y==("__debug__":Str))=false:=by decide) (hcd:(y==("__classdict__":Str))=false:=by decide)
  (hdb:(x==("__debug__":Str))=false:=by decide) (he:starEach [a,b,.Name y p2] X.env=(false,eval a X.env)::starEach [b,.Name y p2] X.env:=by rfl) (he1:starEach [b,.Name y p2] X.env=(false,eval b X.env)::starEach [.Name y p2] X.env:=by rfl)
  (he2:starEach [.Name y p2] X.env=(false,eval (.Name y p2) X.env)::starEach [] X.env:=by rfl) (hpl:(backTo pos (starEach [b,.Name y p2] X.env)).any (·.1)=false:=by rfl) :
  DE X (.Call (.Name x p) [a,b,.Name y p2] [] pos) (zB i f ta tb):=by
 obtain⟨g,fd,F,b',kp,m⟩:=C.ex;refine PE.imp (my F hr hg m kp b' .nil Bg (bX ha (bX hb (bX (dP hN hv hd hcd) gf he2) he1) he) hdb he hpl) λσ H Q ⟨G,δ,P,R,s,h,k,_⟩=>up.mk s h λz δ1 h1 v H1 s1=>up.mk s1 h1 λz2 δ2 h2 v2 H2 s2=>?_;replace h2:=qW.ex h2;obtain⟨a0,d0,hi,hf⟩:=h2;refine⟨.ref a0,s2.own hi,?_⟩;show aQ X.K f ([v,v2,.ref a0]++[]) H2 Q;rw[IZ];obtain⟨A,q⟩:=s2;obtain⟨_,aa,oo⟩:=q.own i a0 d0 hi;have hM:∀b,((G.M0 b\/A b)/\b≠a0)->(G.M0 b\/A b)\/H2 b=none:=λb h=>.inl h.1;refine⟨λb=>(G.M0 b\/A b)/\b≠a0,[z,z2,d0],λr=>r.im=true/\R (.d r) δ2,λb h=>q.mem b h.1,Reps.cons (HP.more hM _ _ (q.pnd (z,v) 'p')) (Reps.cons (HP.more hM _ _ (q.pnd (z2,v2) 'p')) (Reps.one (oo.rep (λz=>z.2 rfl) λb z=>z.1))),hf,λr ⟨im,hr⟩ u H' sm rp=>?_⟩;exact k r δ2 hr u H' ⟨A,((q.same sm).sub (P':=P) λp hp=>by simp[hp]).push (HP.im _ _ im rp)⟩
theorem Sx.slot{K:PySem.W.Frag}{G:Gf}{A:Addr->Prop}{δ:List Sl}{P P':List (D×V)}{σ:L2.St}{H:Hp}{i:Nat}{p:Addr}{d:D}(s:Sx K G A δ P σ H)(aa:A p)(oo:bG K (λb=>G.M0 b\/A b) H p d)(hno:∀(j:Nat) e,δ[j]?≠some (.own p e))(hP:∀q∈P',q∈P) :
  Sx K G A (δ.set i (.own p d)) P' (σ.set i (some (.ref p))) H:=by
 refine⟨s.old,s.stay,s.m0,s.pm,s.new,s.thr,by rw[IX,IX,s.len],λj d' e=>?_,λj b d' e=>?_,λj k b d' e' h1 h2=>?_,λq hq=>s.pnd q (hP q hq)⟩
 ·rcases aX e with⟨_,z,_⟩ | ⟨ab,e⟩
  ·cases z
  ·obtain⟨v,q,r⟩:=s.dat j d' e;exact⟨v,by rw[List.getElem?_set_ne ab];exact q,r⟩
 ·rcases aX e with⟨ab,z,hl⟩ | ⟨ab,e⟩
  ·cases z
   subst ab;exact⟨by rw[List.getElem?_set_self (by rw[<- s.len];exact hl)],aa,oo⟩
  ·obtain⟨q,r,o⟩:=s.own j b d' e;exact⟨by rw[List.getElem?_set_ne ab];exact q,r,o⟩
 ·rcases aX h1 with⟨ab,z,hl⟩ | ⟨ab,e⟩
  ·cases z
   rcases aX h2 with⟨ag,_,_⟩ | ⟨ag,e2⟩
   ·rw[<- ab,<- ag]
   ·exact absurd e2 (hno k _)
  ·rcases aX h2 with⟨ag,z,_⟩ | ⟨ag,e2⟩
   ·cases z
    exact absurd e (hno j _)
   ·exact s.inj j k b d' e' e e2
def zN(i:Nat)(src:TDC)(nt:Nat)(caps:List (Nat×Str))(g:TDG)(tc:TDT)(te:HQ)(R:a7)(δ:En):Prop:=src δ λxs δ1=>xs.length<=9000/\∃f:D->Option D,
 (∀x∈xs,yU nt λts=>g x (ts++i7 caps δ1) λδ2=>tc δ2 λb δ3=>if b=true then te δ3 (wd λy δ4=>okT nt δ4 (i7 caps δ1)/\f x=some y) else okT nt δ3 (i7 caps δ1)/\f x=none)/\∀a,lH δ1 i (.own a (.lst (xs.filterMap f))) R.nx
theorem xi{elt tgt iter:Expr}{ifs:List Expr}{scope:Scope}{pos2 pos':Pos}{src:TDC}{cl:List (Str×Addr)}{te:HQ}(i:Nat)(hN:X.N.Nodup)(tn:Zb)(caps:List (Nat×Str)){g:TDG}{tc:TDT}
  (hcalm:X.calm=true) (hclos:closureFor scope X.env=pure cl) (hcell:∀p∈caps,(p.2,NameKind.cell)∉scope.names) (hkind:scope.kind=.function) (hnames:∀y∈scope.names,y.2=.local->scope.names.lookup y.1=some .local)
  (hcl:∀x c,cl.lookup x=some c->X.env.cells.lookup x=some c) (hhas:∀(n:Nat) x,'v'->∃c,(cellsFrom n scope.names []++cl).lookup x=some c)
  (hcap:∀p∈caps,X.N[p.1]?=some p.2/\X.env.scope.names.lookup p.2=some .cell/\'u')
  (hi:CI X.nox tgt iter src)
  (hb:∀s2 H2 C fp pn,DG 'h' tgt g/\DF 'h' ifs tc/\DE 'h' elt te)
  (hs:∀x,foldedSetIterable iter X.env x=pure x:=by intro _;rfl) (hi':X.N[i]?=some y:=by rfl) (hx:Loc X.env.scope y:=by walk_at "v2")
  (hsw:swapsWith (.ListComp elt [⟨tgt,iter,ifs,0⟩] scope pos) (some (.Name y pos')) pos2.line X.env=pure true:=by rfl) (hf:X.fn y=true\/X.env.scope.names.lookup y=some .local :=by walk_at "v1") :
  DS X.nox (.Assign [.Name y pos'] (.ListComp elt [⟨tgt,iter,ifs,0⟩] scope pos) pos2) (zN i src tn.length caps g tc te):=by
 obtain⟨wi,hi,hw⟩:=hi;refine PS.imp (sC (g:=upG X.K g) (tc:=upT X.K tc) (te:=up X.K te) tn caps hcalm hclos hcell hkind hnames hcl hhas hcap hi hb hs hN hi' hx hsw hf) λE σ H ⟨G,δ,P,R,s,h,k,_⟩=>?_;refine hw G δ P σ H _ _ s h λxs δ1 ⟨hz,f,hf,r⟩ J P1 H1 hP s1 hgo hst hyl p hp=>?_;refine kW (Q:=λx H1=>vj i x σ H1 E.nx) s1 hz (λA i H x hi=>hgo A _ _ i H x hi) (λA H x=>hst A _ _ H x) (λA i x H H2 s hi hy=>hyl A _ _ i x H H2 s hi hy) hf p hp λA acc H' hA ho x hac rs=>?_;exact k _ (r p) _ H' ⟨_,x.slot (P':=P) (.inr rfl) ⟨acc,hac,rs⟩ (λj e z=>hA (.inr (ho j p e z))) hP⟩
theorem dJ{elt tgt iter:Expr}{ifs:List Expr}{scope:Scope}{pos2 pos':Pos}{src:TDC}{cl:List (Str×Addr)}{te:HQ}(i:Nat)(hN:X.N.Nodup)(tn:Zb)(caps:List (Nat×Str)){g:TDG}{tc:TDT}
  (hcalm:X.calm=true) (hclos:closureFor scope X.env=pure cl) (hcell:∀p∈caps,(p.2,NameKind.cell)∉scope.names) (hkind:scope.kind=.function) (hnames:∀y∈scope.names,y.2=.local->scope.names.lookup y.1=some .local)
  (hcl:∀x c,cl.lookup x=some c->X.env.cells.lookup x=some c) (hhas:∀(n:Nat) x,'v'->∃c,(cellsFrom n scope.names []++cl).lookup x=some c)
  (hcap:∀p∈caps,X.N[p.1]?=some p.2/\X.env.scope.names.lookup p.2=some .cell/\'u')
  (hi:CI X.nox tgt iter src)
  (hb:∀s2 H2 C fp pn,DG 'h' tgt g/\DF 'h' ifs tc/\DE 'h' elt te)
  (hs:∀x,foldedSetIterable iter X.env x=pure x:=by intro _;rfl) (hi':X.N[i]?=some y:=by rfl) (hx:Loc X.env.scope y:=by walk_at "v2")
  (hsw:swapsWith (.ListComp elt [⟨tgt,iter,ifs,0⟩] scope pos) (some (.Name y pos')) pos2.line X.env=pure true:=by rfl) (hf:X.fn y=true\/X.env.scope.names.lookup y=some .local :=by walk_at "v1") :
  DS X.nox (.Assign [.Name y pos'] (.ListComp elt [⟨tgt,iter,ifs,0⟩] scope pos) pos2) (dSet i (xL src tn.length caps g tc te)):=by
 obtain⟨wi,hi,hw⟩:=hi;refine PS.imp (sC (g:=upG X.K g) (tc:=upT X.K tc) (te:=up X.K te) tn caps hcalm hclos hcell hkind hnames hcl hhas hcap hi hb hs hN hi' hx hsw hf) λE σ H ⟨G,δ,P,R,s,h,k,_⟩=>?_;refine hw G δ P σ H _ _ s h λxs δ1 ⟨hz,f,hf,r⟩ J P1 H1 hP s1 hgo hst hyl p hp=>?_
 exact mS (Q:=λx H1=>vj i x σ H1 E.nx) s1 hz (λA i H x hi=>hgo A _ _ i H x hi) (λA H x=>hst A _ _ H x) (λA i x H H2 s hi hy=>hyl A _ _ i x H H2 s hi hy) hf (λv H' s'=>k _ r _ H' ((s'.sub (P':=(.lst (xs.filterMap f),v)::P) λq hq=>by
  rcases Ih.mp hq with rfl | hq
  ·simp
  ·exact HV _ (hP q hq)).set (by simp) λp hp=>by simp[hp])) p hp
section
variable {X:Cx} {tg e:Expr} {te:HQ}
def iSeq(K:PySem.W.Frag)(tl:TE):TI:=λσ H R=>tl σ H λx H1=>(∃a,x=.ref a/\(∃xs,Ht K H1 a xs)/\R (Itl K a) H1)\/∃a,x=.ref a/\(∃xs,Hv K H1 a xs)/\R (Itt K a) H1
theorem DZ{l:Expr}{tl:TE}(hl:PE X l tl):PI X tg l (iSeq X.K tl):=by
 intro aa s σ H R I h;refine Hm (hl aa s σ H _ I h) λv s1 ⟨x,H1,I1,r1,q1⟩=>?_
 rcases q1 with⟨a,e,⟨xs,hq⟩,q⟩ | ⟨a,e,⟨xs,hq⟩,q⟩
 ·subst e
  cases r1
  obtain⟨ab,rv,p,hz⟩:=I1.list hq;refine JT p.isList ?_;refine⟨s1.heap.objs.size,[s1.heap.objs.size],_,_,H1,rfl,I1.kept (t':=s1.toks) λb o e=>Heap.get?_push_of_some _ e,nB a _,⟨_,Heap.get?_push_size _ rfl,rfl,rfl⟩,λb hb=>?_,q⟩;have e:b=s1.heap.objs.size:=by simpa using hb
  subst e;exact I1.fpOk (Ib _) (I1.hok.fresh (Ib _))
 ·subst e
  cases r1
  obtain⟨ab,rv,p,hz⟩:=I1.tuple hq;refine wpAny_pyIter_tuple p ?_;refine⟨s1.heap.objs.size,[s1.heap.objs.size],_,_,H1,rfl,I1.kept (t':=s1.toks) λb o e=>Heap.get?_push_of_some _ e,lm a _,⟨_,Heap.get?_push_size _ rfl,rfl,rfl⟩,λb hb=>?_,q⟩;have e:b=s1.heap.objs.size:=by simpa using hb
  subst e;exact I1.fpOk (Ib _) (I1.hok.fresh (Ib _))
def qY:D->(Zh->Prop)->Prop
 | .lst xs,k=>k xs
 | .tup xs,k=>k xs
 | _,_=>False
theorem qY.ex{d:D}{k:Zh->Prop}(h:qY d k):∃b xs,d=sq b xs/\k xs:=by
 cases d<;>first | exact False.elim h | exact⟨true,_,rfl,h⟩ | exact⟨false,_,rfl,h⟩
def dcSq(t:HQ)(δ:En)(R:Zh->En->Prop):Prop:=t δ (wd λd δ1=>qY d λxs=>R xs δ1)
theorem F3(h:DE X e te):CI X tg e (dcSq te):=⟨_,DZ h,λG δ P σ H R Q s hs k=>up.mk s hs λd δ1 h1 v H1 s1=>by
 replace h1:=qY.ex h1;obtain⟨kk,xs,e,r⟩:=h1;subst e;have aa:∀A δ σ H,Sx X.K G A δ ((sq kk xs,v)::P) σ H->∃a vs,v=.ref a/\Hj kk X.K H a vs/\Reps X.K (λb=>G.M0 b\/A b) H xs vs:=λA δ σ H x=>rP (x.pnd (sq kk xs,v) 'p');obtain⟨A1,x1⟩:=id s1;obtain⟨a,ag,rfl,l0,_⟩:=aa _ _ _ _ x1
 cases kk
 ·refine .inr ⟨a,rfl,⟨ag,l0⟩,k xs δ1 r _ _ H1 (λq hq=>by simp[hq]) s1 (λA δ σ i H x hi=>?_) (λA δ σ H x=>?_) λA δ σ i y H H2 x hi hy=>?_⟩
  ·obtain⟨b,vs,e,l,r⟩:=aa _ _ _ _ x
   cases e
   obtain⟨w',hw,_⟩:=Reps.get _ _ r i xs[i] (by simp[hi]);exact⟨vs,w',l,hw⟩
  ·obtain⟨b,vs,e,l,r⟩:=aa _ _ _ _ x
   cases e
   exact⟨vs,l,by rw[Reps.length _ _ r];exact Ib _⟩
  ·obtain⟨b,vs,e,l,r⟩:=aa _ _ _ _ x
   cases e
   obtain⟨e,hy⟩:=hy;obtain⟨w',hw,ab⟩:=Reps.get _ _ r i xs[i] (by simp[hi]);have z:=hy vs l;rw[hw] at z
   cases z
   subst e;exact⟨bF.refl _,xs[i],by simp[hi],ab⟩
 ·refine .inl ⟨a,rfl,⟨ag,l0⟩,k xs δ1 r _ _ H1 (λq hq=>by simp[hq]) s1 (λA δ σ i H x hi=>?_) (λA δ σ H x=>?_) λA δ σ i y H H2 x hi hy=>?_⟩
  ·obtain⟨b,vs,e,l,r⟩:=aa _ _ _ _ x
   cases e
   obtain⟨w',hw,_⟩:=Reps.get _ _ r i xs[i] (by simp[hi]);exact⟨vs,w',l,hw⟩
  ·obtain⟨b,vs,e,l,r⟩:=aa _ _ _ _ x
   cases e
   exact⟨vs,l,by rw[Reps.length _ _ r];exact Ib _⟩
  ·obtain⟨b,vs,e,l,r⟩:=aa _ _ _ _ x
   cases e
   obtain⟨e,hy⟩:=hy;obtain⟨w',hw,ab⟩:=Reps.get _ _ r i xs[i] (by simp[hi]);have z:=hy vs l;rw[hw] at z
   cases z
   subst e
   exact⟨bF.refl _,xs[i],by simp[hi],ab⟩⟩
end
end DL
namespace DL
open PySem PySem.Spec PyProof.Rows L2
end DL
namespace DL
open PySem PySem.Spec PyProof.Rows L2
section
variable {X:Cx} {pos:Pos} {a b e:Expr} {ta tb:HQ}
theorem Ds:HC X (binaryOp .LShift) λx y=>aQ X.K (fI CPow λi j=>.int (i*2 ^ j.toNat)) [x,y]:=opI Dp (λ_ _=>rfl) λ_ _ h=>h
end
section
variable {K:PySem.W.Frag} {G:Gf} {A A':Addr→Prop} {δ δ':List Sl} {P P':List (D×V)} {σ σ':L2.St} {H H':Hp} {p:Addr}
end
section
variable {X:Cx} {pos:Pos} {a b e:Expr} {ta tb:HQ}
end
end DL
namespace DL
open PySem PySem.Spec PyProof.Rows L2
variable {K:PySem.W.Frag} {x x1 x2:Str} {st:Stmt} {h:Heap} {mg:Str→Zd}
theorem FdK.fd{ps:Zb}(q:FdK K x st)(X:K.In h)(G:h.Ns mainGlobals mg)
  (b:∀(kV doc pm:Value) (an:Option Addr) (cdv ct:Value) (us:Zc),us.length=ps.length->bindArgs (PySem.W.fnOf x x (dw st) (bP st) (aq st) .none kV doc pm an cdv ct) ⟨us,[]⟩=pure (ps.zip us)):Fd K mg x st ps:=by
 obtain⟨f,oc,od,an,sl,kV,dc,pm,cd,ct,a,l,c,k⟩:=q.ex;have F:=Ac (st:=st) l c k;exact⟨_,_,F,F.binds (ps:=ps) b,Kb X G a⟩
theorem iX{α:Type}{l:List α}{n:Nat}(h:l.length=n+1):∃a r,l=a::r/\r.length=n:=by
 cases l with
 | nil=>cases h
 | cons a r=>exact⟨a,r,rfl,J4 h⟩
theorem len1{α:Type}{l:List α}(h:l.length=1):∃a,l=[a]:=by
 obtain⟨a,r,rfl,h1⟩:=iX h;rw[JB h1];exact⟨a,rfl⟩
theorem len2{α:Type}{l:List α}(h:l.length=2):∃a b,l=[a,b]:=by
 obtain⟨a,r,rfl,h1⟩:=iX h;obtain⟨b,rfl⟩:=len1 h1;exact⟨a,b,rfl⟩
theorem len3{α:Type}{l:List α}(h:l.length=3):∃a b c,l=[a,b,c]:=by
 obtain⟨a,r,rfl,h1⟩:=iX h;obtain⟨b,c,rfl⟩:=len2 h1;exact⟨a,b,c,rfl⟩
theorem len4{α:Type}{l:List α}(h:l.length=4):∃a b c d,l=[a,b,c,d]:=by
 obtain⟨a,r,rfl,h1⟩:=iX h;obtain⟨b,c,d,rfl⟩:=len3 h1;exact⟨a,b,c,d,rfl⟩
theorem FdK.fd1(q:FdK K x st)(X:K.In h)(G:h.Ns mainGlobals mg)
  (b:∀(kV doc pm:Value) (an:Option Addr) (cdv ct u1:Value),bindArgs (PySem.W.fnOf x x (dw st) (bP st) (aq st) .none kV doc pm an cdv ct) ⟨[u1],[]⟩=pure [(x1,u1)]):Fd K mg x st [x1] :=
 q.fd X G λkV doc pm an cdv ct us hl=>by
  obtain⟨u1,rfl⟩:=len1 hl;exact b kV doc pm an cdv ct u1
theorem FdK.fd2(q:FdK K x st)(X:K.In h)(G:h.Ns mainGlobals mg)
  (b:∀(kV doc pm:Value) (an:Option Addr) (cdv ct u1 u2:Value),bindArgs (PySem.W.fnOf x x (dw st) (bP st) (aq st) .none kV doc pm an cdv ct) ⟨[u1,u2],[]⟩=pure [(x1,u1),(x2,u2)]):Fd K mg x st [x1,x2] :=
 q.fd X G λkV doc pm an cdv ct us hl=>by
  obtain⟨u1,u2,rfl⟩:=len2 hl;exact b kV doc pm an cdv ct u1 u2
theorem FdK.fd3{x3:Str}(q:FdK K x st)(X:K.In h)(G:h.Ns mainGlobals mg)
  (b:∀(kV doc pm:Value) (an:Option Addr) (cdv ct u1 u2 u3:Value),bindArgs (PySem.W.fnOf x x (dw st) (bP st) (aq st) .none kV doc pm an cdv ct) ⟨[u1,u2,u3],[]⟩=pure [(x1,u1),(x2,u2),(x3,u3)]):Fd K mg x st [x1,x2,x3] :=
 q.fd X G λkV doc pm an cdv ct us hl=>by
  obtain⟨u1,u2,u3,rfl⟩:=len3 hl;exact b kV doc pm an cdv ct u1 u2 u3
theorem FdK.fd4{x3 x4:Str}(q:FdK K x st)(X:K.In h)(G:h.Ns mainGlobals mg)
  (b:∀(kV doc pm:Value) (an:Option Addr) (cdv ct u1 u2 u3 u4:Value),bindArgs (PySem.W.fnOf x x (dw st) (bP st) (aq st) .none kV doc pm an cdv ct) ⟨[u1,u2,u3,u4],[]⟩=pure [(x1,u1),(x2,u2),(x3,u3),(x4,u4)]):Fd K mg x st [x1,x2,x3,x4] :=
 q.fd X G λkV doc pm an cdv ct us hl=>by
  obtain⟨u1,u2,u3,u4,rfl⟩:=len4 hl;exact b kV doc pm an cdv ct u1 u2 u3 u4
theorem rm{j k:Nat}{A:Around}(h:gG k A)(e:j<=k:=by decide):gG j A:=h.mono e
end DL
namespace DL
open PySem PySem.Spec PyProof.Rows L2
def DP(td tk tx:HQ)(δ:En)(R:W->En->Prop):Prop:=td δ (wd λd δ0=>qZ d λks ds=>tk δ0 (wd λz δ1=>qX z λy=>tx δ1 (wd λx δ2=>R (.d ((dAt ks ds y).getD x)) δ2)))
theorem ub{X:Cx}{o e f:Expr}{td ta tb:HQ}{apos cpos:Pos}(hu:X.A.units+64<cLine)(ho:DE X o td)(he:DE X e ta)(hf:DE X f tb)(m:M2 X o "get" apos e f cpos:=by exact⟨rfl,rfl,rfl,rfl⟩) :
  DE X (.Call (.Attribute o "get" apos) [e,f] [] cpos) (DP td ta tb) :=
 PE.imp (rS 'b' ho he hf m) λσ H Q ⟨G,δ,P,R,s,h0,k,_⟩=>up.mk s h0 λd δ0 h1 v H0 s0=>by
  replace h1:=qZ.ex h1;obtain⟨ks,ds,ed,h1⟩:=h1;have rd:∀H':Hp,∀M:Addr->Prop,HP X.K M H' d v->∃a vs,v=.ref a/\Rd H' a (.dK (aM ks vs))/\Reps X.K M H' ds vs:=λH' M r=>by
   rcases ed with rfl | rfl
   ·unfold HP at r;obtain⟨a,vs,e,_,he,l,rs⟩:=r;exact⟨a,vs,e,.inl he,rs⟩
   ·unfold HP at r;obtain⟨a,vs,o,e,he,l,rs⟩:=r;exact⟨a,vs,e,.inr ⟨o,he⟩,rs⟩
  obtain⟨A0,q0⟩:=id s0;obtain⟨a,ab,rfl,e0,_⟩:=rd _ _ (q0.pnd (d,v) 'p');refine⟨a,rfl,.inl ⟨_,e0⟩,up.mk s0 h1 λz δ1 h2 u H1 s1=>?_⟩;replace h2:=qX.ex h2;obtain⟨y,ez,h2⟩:=h2;subst ez;refine up.mk s1 h2 λx δ2 h3 w H2 ⟨A,q⟩=>?_;have p2:u=.str y:=bv (q.pnd (.str y,u) 'p');obtain⟨a',vs,ea,e2,rs⟩:=rd _ _ (q.pnd (d,.ref a) 'p')
  cases ea
  have g:ph H2 a (kV (Sum.inr y)) (oU (aM ks vs) (Sum.inr y)):=.inl ⟨_,_,e2,rfl,rfl⟩
  rw[dN] at g;refine⟨_,by rw[p2];exact g,?_⟩
  cases ed:dAt ks ds y with
  | some d' =>
   obtain⟨w',hw,aa⟩:=(Reps.dAt y ks ds vs rs).1 d' ed;rw[ed] at h3;rw[hw];exact k d' δ2 h3 w' H2 ⟨A,(q.sub (P':=P) λp hp=>by simp[hp]).push aa⟩
  | none =>
   have hw:=(Reps.dAt y ks ds vs rs).2 ed
   rw[ed] at h3;rw[hw]
   exact k x δ2 h3 w H2 ⟨A,q.sub λp hp=>by
    rcases Ih.mp hp with rfl | hp
    ·simp
    ·simp[hp]⟩
end DL
namespace DL
open PySem PySem.Spec PyProof.Rows L2
section
variable {X:Cx}
def fAny:Zh->(D->Prop)->Prop
 | [.lst ds],R=>∃bs:List Bool,ds=bs.map D.bl/\R (.bl (bs.any id))
 | _,_=>False
theorem xw{ds:Zh}{R:D->Prop}:fAny [.lst ds] R=(∃bs:List Bool,ds=bs.map D.bl/\R (.bl (bs.any id))):=rfl
def fAll:Zh->(D->Prop)->Prop
 | [.lst ds],R=>∃bs:List Bool,ds=bs.map D.bl/\R (.bl (bs.all id))
 | _,_=>False
theorem Ak:∀ {d0:Zh} {R:D->Prop},fAll d0 R->∃(ds:Zh),d0=[.lst ds]/\∃bs:List Bool,ds=bs.map D.bl/\R (.bl (bs.all id)):=by walk_at "or"
theorem w9{ds:Zh}{R:D->Prop}:fAll [.lst ds] R=(∃bs:List Bool,ds=bs.map D.bl/\R (.bl (bs.all id))):=rfl
theorem sr{K:PySem.W.Frag}{M:Addr->Prop}{H:Hp}:∀ {ns:List Bool} {vs:Zf},Reps K M H (ns.map D.bl) vs->vs=ns.map V.bl
 | [],_,h=>h
 | n::ns,_,h=>by
  obtain⟨v,r,rfl,q,t⟩:=h;have q:v=.bl n:=q;rw[q,sr t];rfl
theorem Aa:∀ {ns:List Bool} {us:Zc},bI (ns.map V.bl) us->us.length=ns.length/\∀(i:Nat) (v:Value),us[i]?=some v->∃b,ns[i]?=some b/\v=.bool b
 | [],_,r=>by rw[Ko] at r;cases r;exact⟨rfl,λi v e=>by simp at e⟩
 | n::ns,_,r=>by
  rw[Iy] at r
  cases r with
  | @cons _ u _ us h t =>
   have e:u=Value.bool n:=h
   subst e;obtain⟨h1,h2⟩:=Aa t;refine⟨by rw[Ik,Ik,h1],λi v e=>?_⟩
   cases i with
   | zero=>cases e;exact⟨n,rfl,rfl⟩
   | succ i=>exact h2 i v e
theorem GM(hc:X.calm=true):bW X (.builtin "all") (aQ X.K fAll):=by
 intro ag s σ H xs us Q I rv h;obtain⟨M,ds,R,m,rs,h,k⟩:=h;replace h:=Ak h;obtain⟨_,rfl,h⟩:=h;obtain⟨bs,rfl,h⟩:=h;obtain⟨x,rfl,q⟩:=aR rs;unfold HP at q;obtain⟨a,vs,rfl,_,e,r⟩:=q;obtain⟨u,rfl,ru⟩:=eU rv
 cases ru
 cases sr r
 obtain⟨aa,ab,pl,_⟩:=I.list (Ht.of e);obtain⟨hl,hg⟩:=Aa ab;have il:=pl.isList;have lt:a<s.heap.objs.size:=by obtain⟨_,e,_⟩:=il;exact Iw e
 refine call_all_walk (JT il ⟨_,[_,a],_,_,_,_,λi=>(bs[i]?).getD true,rfl,Walks.list (A:=Around.in1 _) (I.ok.hd hc) _ a (II lt) aa.toArray,⟨⟨_,Heap.get?_push_size _ rfl,rfl,rfl⟩,il.push _⟩,λi v s' Q' E' hP hQ=>?_,λh' tk hk=>?_⟩)
 ·obtain⟨b,e,rfl⟩:=hg i v (by simpa using hP);have hQ:Q' ((bs[i]?).getD true) s':=hQ;rw[e] at hQ;exact JI hQ
 ·refine⟨.bl (bs.all id),H,I.kept (t':=tk) (LSm.kept_iter hk),?_,k _ h _ H (bF.refl H) (HP.sc rfl)⟩;show Value.bool _=Value.bool _;rw[Iu,hl,LSm.range_all]
end
theorem Gd:bootBuiltins "all"=some (.builtin "all"):=by decide +kernel
end DL
namespace DL
open PySem PySem.Spec PyProof.Rows L2
variable {R:D→Prop}
def fEqz:Zh->(D->Prop)->Prop
 | [.tup xs,.tup []],R=>R (.bl (decide (xs.length=0)))
 | _,_=>False
theorem BN{d0:Zh}(h:fEqz d0 R):∃xs,d0=[.tup xs,.tup []]/\R (.bl (decide (xs.length=0))):=by
 rcases d0 with _ | ⟨a,_ | ⟨b,_ | ⟨c,l⟩⟩⟩
 ·exact False.elim h
 ·cases a<;>exact False.elim h
 ·cases a<;>first | exact False.elim h | (cases b<;>first | exact False.elim h | (rename_i xs ys;cases ys<;>first | exact False.elim h | exact⟨_,rfl,h⟩))
 ·cases a<;>first | exact False.elim h | (cases b<;>first | exact False.elim h | (rename_i xs ys;cases ys<;>exact False.elim h))
theorem DR{xs:Zh}:fEqz [.tup xs,.tup []] R=R (.bl (decide (xs.length=0))):=rfl
section
variable {X:Cx}
theorem o_eqz(hu:X.A.units+64<cLine):HC X (compareOp .Eq) λx y=>aQ X.K fEqz [x,y]:=by
 intro aj s σ H x y v u Q I rx ry h;obtain⟨M,ds,R,m,rs,h,k⟩:=h;obtain⟨xs,rfl,h⟩:=BN h;obtain⟨h1,h2⟩:=bL rs;unfold HP at h1 h2;obtain⟨a,vs,rfl,sq,ai⟩:=h1;obtain⟨b,ws,rfl,ah,ag⟩:=h2
 cases rx
 cases ry
 obtain⟨ab,r1,t1,_⟩:=I.tuple sq;obtain⟨aa,r2,t2,_⟩:=I.tuple ah;have l1:ab.length=xs.length:=by rw[<- r1.length,<- Reps.length _ _ ai]
 have l2:aa.length=0:=by rw[<- r2.length,<- Reps.length _ _ ag];rfl
 refine SeqAt.eq_tupleAt (e:=λ_=>true) t1 t2 'b' (λn _ h2=>?_) ?_
 ·rw[Iu,l2] at h2;omega
 have z:((List.range (min ab.toArray.size aa.toArray.size)).all (λ_=>true)&&ab.toArray.size==aa.toArray.size)=decide (xs.length=0):=by
  rw[Iu,Iu,l1,l2,Nat.min_zero];rfl
 rw[z];exact⟨.bl _,H,I,rfl,k _ h _ H (bF.refl H) (HP.sc rfl)⟩
def fNez:Zh->(D->Prop)->Prop
 | [.lst xs,.lst []],R=>R (.bl (!decide (xs.length=0)))
 | _,_=>False
theorem Aq{d0:Zh}(h:fNez d0 R):∃xs,d0=[.lst xs,.lst []]/\R (.bl (!decide (xs.length=0))):=by
 rcases d0 with _ | ⟨a,_ | ⟨b,_ | ⟨c,l⟩⟩⟩
 ·exact False.elim h
 ·cases a<;>exact False.elim h
 ·cases a<;>first | exact False.elim h | (cases b<;>first | exact False.elim h | (rename_i xs ys;cases ys<;>first | exact False.elim h | exact⟨_,rfl,h⟩))
 ·cases a<;>first | exact False.elim h | (cases b<;>first | exact False.elim h | (rename_i xs ys;cases ys<;>exact False.elim h))
theorem Fv{xs:Zh}:fNez [.lst xs,.lst []] R=R (.bl (!decide (xs.length=0))):=rfl
theorem GF(hu:X.A.units+64<cLine):HC X (compareOp .NotEq) λx y=>aQ X.K fNez [x,y]:=by
 intro ab s σ H x y v u Q I rx ry h;obtain⟨M,ds,R,m,rs,h,k⟩:=h;replace h:=Aq h;obtain⟨xs,rfl,h⟩:=h;have aa:∀b,R (.bl b)->EP X ab σ Q (.bool b) s:=λb r=>⟨.bl b,H,I,rfl,k _ r _ H (bF.refl H) (HP.sc rfl)⟩;obtain⟨h1,h2⟩:=bL rs;unfold HP at h1 h2;obtain⟨a,vs,rfl,_,sq,al⟩:=h1;obtain⟨b,ws,rfl,_,ai,ah⟩:=h2
 cases rx
 cases ry
 obtain⟨aj,r1,t1,_⟩:=I.list (Ht.of sq);obtain⟨ag,r2,t2,_⟩:=I.list (Ht.of ai);have l1:aj.length=xs.length:=by rw[<- r1.length,<- Reps.length _ _ al]
 have l2:ag.length=0:=by rw[<- r2.length,<- Reps.length _ _ ah];rfl
 by_cases e:xs.length=0
 ·rw[IC e] at h;refine SeqAt.RcNeAt.lists (e:=λ_=>true) t1.isList t2.isList (by rw[Iu,Iu];omega) 'b' (λn h1 _=>?_) _ _ _ _ ?_
  ·rw[Iu] at h1;omega
  ·rw[gD];exact aa _ h
 ·rw[IL e] at h;refine SeqAt.RcNeAt.lists_lengths t1.isList t2.isList ?_ 'b' _ _ _ _ (aa _ h);rw[Iu,Iu,bne_iff_ne];omega
end
end DL
namespace HT
open PySem PyProof.Rows
open PySem.SeqAt
open PySem.AutoSeq1 (wpAny_loadPart')
open PySem.MeetsSeq PySem.MeetsSeq2 PySem.MeetsSeq3
section
variable {prog:Program} {w:World} {A:Around} {E:Value→Shared→Prop} {s:Shared}
end
end HT
namespace DL
open PySem PySem.Spec PyProof.Rows L2
section
variable {X:Cx} {pos:Pos}
end
end DL
namespace DL
open PySem PySem.Spec PyProof.Rows L2
section
variable {X:Cx} {pos:Pos}
structure GAlw(K:PySem.W.Frag)(mg:Str->Zd)(x:Str):Prop where
 ex:∃a e o q n m t u,mg x=some (.ref a)/\K.lookup a=some o/\o.cls=.type "tuple"/\o.data=.seq #[.str "least" t,.ref e,.int 0 u] n/\K.lookup e=some q/\q.cls=.type "tuple"/\q.data=.seq #[] m
theorem Ai{x:Str}(hg:Gl X x)(h:GAlw X.K X.mg x)(hd:(x==("__debug__":Str))=false:=by decide):DE X (.Name x pos) (dC (.tup [.str "least",.tup [],.int 0])):=by
 obtain⟨a,e,o,q,n,m,t,u,h0,h1,h2,h3,h4,h5,h6⟩:=h.ex;refine PE.imp (lF (v:=.ref a) hg h0 rfl hd) λσ H Q ⟨G,δ,P,R,⟨A,s⟩,h,k,_⟩=>k _ δ h _ H ⟨A,s.push ?_⟩;unfold HP;refine⟨a,[.str "least",.ref e,.int 0],rfl,.inr ⟨o,_,n,h1,h2,h3,by show 3<=sizeLine;decide,.cons ⟨t,rfl⟩ (.cons rfl (.cons ⟨u,rfl⟩ .nil))⟩,Reps.cons (by unfold HP;rfl) (Reps.cons ?_ (Reps.one (by unfold HP;rfl)))⟩;unfold HP;exact⟨e,[],rfl,.inr ⟨q,_,m,h4,h5,h6,by show 0<=sizeLine;exact Jq _,.nil⟩,Reps.nil⟩
end
end DL
namespace DL
open PySem PySem.Spec PyProof.Rows L2
variable {R:D→Prop}
def jr:En->Bool
 | []=>true
 | .own _ _::_=>false
 | .dat _::r=>jr r
 | .no::r=>jr r
theorem jr.at:∀ {δ:En} (i:Nat) (a:Addr) (d:D),jr δ=true->δ[i]?≠some (.own a d)
 | [],i,a,d,_,e=>by simp at e
 | .own _ _::_,i,a,d,h,_=>by cases h
 | .dat _::r,i,a,d,h,e=>by
  cases i with
  | zero=>simp at e
  | succ i=>exact jr.at (δ:=r) i a d h (by simpa using e)
 | .no::r,i,a,d,h,e=>by
  cases i with
  | zero=>simp at e
  | succ i=>exact jr.at (δ:=r) i a d h (by simpa using e)
section
variable {K:PySem.W.Frag} {G:Gf} {A:Addr→Prop} {δ:En} {P:List (D×V)} {σ:L2.St} {H H2:Hp}
theorem Sx.hide{i:Nat}{v:Option V}(s:Sx K G A δ P σ H):Sx K G A (δ.set i .no) P (σ.set i v) H:=by
 have aa:∀ {k:Nat} {y:Sl},y≠.no->(δ.set i .no)[k]?=some y->k≠i/\δ[k]?=some y:=λ{k y} hy q=>by
  by_cases z:k=i
  ·subst z
   by_cases hl:k<δ.length
   ·rw[List.getElem?_set_self hl] at q;exact absurd (Iq q).symm hy
   ·rw[List.getElem?_eq_none (by rw[IX];omega)] at q;cases q
  ·rw[List.getElem?_set_ne (Kz z)] at q;exact⟨z,q⟩
 refine⟨s.old,s.stay,s.m0,s.pm,s.new,s.thr,by rw[IX,IX,s.len],λk d q=>?_,λk a d q=>?_,λk l a d e q1 q2=>?_,s.pnd⟩
 ·obtain⟨z,q⟩:=aa (y:=.dat d) (λh=>nomatch h) q;obtain⟨v,h1,h2⟩:=s.dat k d q;exact⟨v,by rw[List.getElem?_set_ne (Kz z)];exact h1,h2⟩
 ·obtain⟨z,q⟩:=aa (y:=.own a d) (λh=>nomatch h) q;obtain⟨h1,h2⟩:=s.own k a d q;exact⟨by rw[List.getElem?_set_ne (Kz z)];exact h1,h2⟩
 ·exact s.inj k l a d e (aa (y:=.own a d) (λh=>nomatch h) q1).2 (aa (y:=.own a e) (λh=>nomatch h) q2).2
theorem Sx.fork(s:Sx K G A δ P σ H)(h:bF H H2)(n:jr δ=true):Sx K ⟨λb=>G.M0 b\/A b,H2,λ_=>False⟩ (λ_=>False) δ P σ H2:=by
 have x:=s.same h
 have rp:∀d v,HP K (λb=>G.M0 b\/A b) H2 d v->HP K (λb=>(G.M0 b\/A b)\/False) H2 d v:=λd v r=>HP.more (λb z=>.inl (z.elim id False.elim)) _ _ r
 exact⟨λb o e _=>e,λb e=>e,λb z=>x.mem b z,λb z=>z.elim,λb z=>z.elim,λb z=>z.elim,x.len,λi d e=>let ⟨v,q,r⟩:=x.dat i d e;⟨v,q,rp _ _ r⟩,λi a d e=>absurd e (jr.at i a d n),λi j a d e q _=>absurd q (jr.at i a d n),λp hp=>rp _ _ (x.pnd p hp)⟩
end
theorem gJ{H1 H:Hp}{b:Addr}{o:HO}(h:bF H1 H)(hb:H1 b=none):bF H1 (HL H b o):=λc u hc=>by
 rw[aJ (λz=>by rw[z,hb] at hc;cases hc)];exact h c u hc
section
variable {X:Cx}
theorem AQ{es:List Expr}{t:TA}(h:PA X es t):PA X es (λσ H Q=>t σ H λvs H1=>(∀b,H1 b=none->∀u,X.H₀ b=some u->Soft u)->Q vs H1):=by
 intro pos aa s σ H Q I hq;refine Hm (h pos aa s σ H _ I hq) λus s1 ⟨vs,H1,I1,r,q⟩=>⟨vs,H1,I1,r,q λb e u z=>?_⟩
 cases u with
 | tup xs=>rw[I1.base.tups b xs z] at e;cases e
 | frz o w=>rw[I1.base.frzs b o w z] at e;cases e
 | tbl ps=>obtain⟨m,h⟩:=I1.base.tbls b ps z;rw[h] at e;cases e
 | _=>trivial
theorem Ft{sts:List Stmt}{t:TS}(h:PSs X sts t):PSs X sts (λD σ H=>t D σ H\/∃a kvs,H a=some (.dK kvs)/\∀o,t D σ (HL H a (.frz o (.dK kvs)))):=by
 rintro pins s σ H D I (q | ⟨a,kvs,hH,q⟩)
 ·exact h pins s σ H D I q
 ·obtain⟨hz,lo,va,ra,da⟩:=uY I.hok hH;obtain⟨o,es,ep,ho,r9⟩:=id da;have I2:L2.Inv X pins σ (HL H a (.frz o (.dK kvs))) s:=(I.write (x:=a) (e:=a) (t':=s.toks) (h':=s.heap) (by rw[hH];trivial) (.inl rfl) (λb u _ q=>q) ⟨o,ho⟩ ⟨ho,hz,lo,va,ra,da⟩);exact h pins s σ _ D I2 (q o)
def Ex(X:Cx)(te:TE):TE:=λσ H Q=>te σ H λx H1=>∃a o kvs,x=.ref a/\H1 a=some (.frz o (.dK kvs))/\(∀u,X.H₀ a=some u->Soft u)/\Q x (HL H1 a (.dK kvs))
theorem xH{e:Expr}{te:TE}(he:PE X e te):PE X e (Ex X te):=by
 intro aa s σ H Q I h;refine Hm (he aa s σ H _ I h) λv s1 ⟨x,H1,I1,r1,a,o,kvs,e1,e2,n,q⟩=>⟨x,_,Inv.thaw I1 e2 n,r1,q⟩
def fInF:Zh->(D->Prop)->Prop
 | [.str x,.fd ks _],R=>R (.bl (decide (x∈ks)))
 | _,_=>False
theorem B8{d0:Zh}(h:fInF d0 R):∃(x:Str) (ks:Zb) (ds:Zh),d0=[.str x,.fd ks ds]/\R (.bl (decide (x∈ks))):=by
 rcases d0 with _ | ⟨a,_ | ⟨b,_ | ⟨c,l⟩⟩⟩
 ·exact False.elim h
 ·cases a<;>exact False.elim h
 ·cases a<;>first | exact False.elim h | (cases b<;>first | exact False.elim h | exact⟨_,_,_,rfl,h⟩)
 ·cases a<;>first | exact False.elim h | (cases b<;>exact False.elim h)
theorem Er{x:Str}{ks:Zb}{ds:Zh}:fInF [.str x,.fd ks ds] R=R (.bl (decide (x∈ks))):=rfl
theorem G4(hu:X.A.units+64<cLine):HC X (compareOp .In) λx y=>aQ X.K fInF [x,y]:=by
 intro aa s σ H x y v u Q I rx ry h;obtain⟨M,ds,R,m,rs,h,k⟩:=h;replace h:=B8 h;obtain⟨_,_,_,rfl,h⟩:=h;obtain⟨h1,h2⟩:=bL rs
 cases bv h1
 unfold HP at h2;obtain⟨a,vs,o,rfl,e,l,r⟩:=h2
 cases ry
 refine d_in 'b' I (.inl ⟨_,Sum.inr _,.inr ⟨o,e⟩,rfl,rfl⟩) rx λs' I'=>?_;rw[dN,de (by rw[l,Reps.length _ _ r])];exact⟨.bl _,H,I',rfl,k _ h _ H (bF.refl H) (HP.sc rfl)⟩
def fIsF:Zh->(D->Prop)->Prop
 | [.non,.non],R=>R (.bl true)
 | [.fd _ _,.non],R=>R (.bl false)
 | _,_=>False
theorem Fp:fIsF [.non,.non] R=R (.bl true):=rfl
theorem E7{ks:Zb}{ds:Zh}:fIsF [.fd ks ds,.non] R=R (.bl false):=rfl
theorem G3:HC X (compareOp .Is) λx y=>aQ X.K fIsF [x,y] :=
 HC.imp zy λx y H Q ⟨M,ds,R,m,rs,h,k⟩=>by
  have aa:∀b,R (.bl b)->Q (.bl b) H:=λb r=>k _ r _ H (bF.refl H) (HP.sc rfl)
  have h0:ds=[.non,.non]/\R (.bl true)\/∃ks vs,ds=[.fd ks vs,.non]/\R (.bl false):=by
   rcases ds with _ | ⟨a,_ | ⟨b,_ | ⟨c,l⟩⟩⟩
   ·exact False.elim h
   ·cases a<;>exact False.elim h
   ·cases a<;>first | exact False.elim h | (cases b<;>first | exact False.elim h | exact .inl ⟨rfl,h⟩ | exact .inr ⟨_,_,rfl,h⟩)
   ·cases a<;>first | exact False.elim h | (cases b<;>exact False.elim h)
  clear h
  rcases h0 with⟨rfl,h⟩ | ⟨ks,vs,rfl,h⟩
  ·obtain⟨h1,h2⟩:=bL rs;unfold HP at h1 h2;subst h1;exact⟨h2,aa _ h⟩
  ·obtain⟨h1,h2⟩:=bL rs;unfold HP at h1 h2;obtain⟨a,_,_,e,_⟩:=h1;subst e;exact⟨h2,aa _ h⟩
def fEqF(b:Bool):Zh->(D->Prop)->Prop:=λd0 R=>∃ks ds,d0=[.fd ks ds,.fd ks ds]/\ks.Nodup/\D.nds ds=true/\D.dps ds<=50/\R (.bl b)
theorem GJ(hu:X.A.units+64<cLine):HC X (compareOp .Eq) λx y=>aQ X.K (fEqF true) [x,y]:=by
 intro ai s σ H x y v u Q I rx ry h;obtain⟨M,ds,R,m,rs,h,k⟩:=h;obtain⟨ks,ds,rfl,nd,hn,hd,h⟩:=h;obtain⟨h1,h2⟩:=bL rs;unfold HP at h1 h2;obtain⟨a,vs,o,rfl,sq,l1,ab⟩:=h1;obtain⟨b,ws,o',rfl,ag,l2,aa⟩:=h2
 cases rx
 cases ry
 obtain⟨_,lo,va,ra,da⟩:=fN I.hok (.inr ⟨o,sq⟩);obtain⟨_,ah,vb,rb,db⟩:=fN I.hok (.inr ⟨o',ag⟩);have e3:va.length=vb.length:=by
  rw[<- ra.length,<- rb.length];unfold aM;rw[Jh,Jh,<- Reps.length _ _ ab,<- Reps.length _ _ aa]
 refine PySem.W.keq_eq (r:=true) lo ah da db 'b' (λ_=>sH I nd hn (by rw[b8];omega) l1 ab aa ra rb) ?_;rw[show (va.length==vb.length)=true by rw[e3];simp];exact⟨.bl true,H,I,rfl,k _ h _ H (bF.refl H) (HP.sc rfl)⟩
theorem FM(hu:X.A.units+64<cLine):HC X (compareOp .NotEq) λx y=>aQ X.K (fEqF false) [x,y]:=by
 intro ai s σ H x y v u Q I rx ry h;obtain⟨M,ds,R,m,rs,h,k⟩:=h;obtain⟨ks,ds,rfl,nd,hn,hd,h⟩:=h;obtain⟨h1,h2⟩:=bL rs;unfold HP at h1 h2;obtain⟨a,vs,o,rfl,sq,l1,ab⟩:=h1;obtain⟨b,ws,o',rfl,ag,l2,aa⟩:=h2
 cases rx
 cases ry
 obtain⟨_,lo,va,ra,da⟩:=fN I.hok (.inr ⟨o,sq⟩);obtain⟨_,ah,vb,rb,db⟩:=fN I.hok (.inr ⟨o',ag⟩);have e3:va.length=vb.length:=by
  rw[<- ra.length,<- rb.length];unfold aM;rw[Jh,Jh,<- Reps.length _ _ ab,<- Reps.length _ _ aa]
 refine PySem.W.keq_ne (r:=true) lo ah da db 'b' (λ_=>sH I nd hn (by rw[b8];omega) l1 ab aa ra rb) ?_;rw[show (va.length==vb.length)=true by rw[e3];simp];exact⟨.bl false,H,I,rfl,k _ h _ H (bF.refl H) (HP.sc rfl)⟩
theorem qK:∀ss:Zb,D.ims (ss.map D.str)=true
 | []=>rfl
 | x::ss=>by rw[Iy];unfold D.ims;rw[qK ss];rfl
def dFil(i:Nat)(f:Zh->(D->Prop)->Prop)(ta:HK)(t5 t6 t7:TDT)(u6 t:TDS)(R:a7)(δ:En):Prop:=ta δ λds δ1=>jr δ1=true/\(∃(x:D) (ss:Zb) (z:D),ds=[x,.lst (ss.map D.str),z]/\x.im=true/\z.im=true)/\i<δ1.length/\f ds λd =>
 (d=.non/\t5 (δ1.set i (.dat .non)) λb δ2=>b=false/\t6 δ2 λb δ3=>b=true/\u6 { R with nx:=λ_=>False } δ3) \/
 ∃ks vs,d=.dct ks vs/\D.ims vs=true/\t5 (δ1.set i (.dat (.fd ks vs))) λb δ2=>b=false/\t6 δ2 λb δ3=>b=false/\t7 δ3 λb _=>b=false/\t R (δ1.set i .no)
theorem Bv(i:Nat){x:Str}{c5 c6 c7 a:Expr}{es:List Expr}{aa5 aa6 aa7 dA:List Stmt}{fx:Str}{k:Nat}{ps:Zb}{f:Zh->(D->Prop)->Prop}{ta:HK}{t5 t6 t7:TDT}{u6 t:TDS}{p cpos p1 p2 p5 p6 p7 p13 p14 p15 p16:Pos}(hN:X.N.Nodup)
  (C:Cal X.prog X.w X.K X.mg X.base k fx ps (HN X.K f)) (hr:gG k X.A) (hg:Gl X fx) (ha:DA X (a::es) ta) (h5:DT X c5 t5) (h6:DT X c6 t6) (hb6:DSs X aa6 u6) (h7:DT X c7 t7) (h:DSs X dA t)
  (hi:X.N[i]?=some x:=by rfl) (hx:X.env.scope.names.lookup x=some .local :=by rfl)
  (hdb:(fx==("__debug__":Str))=false:=by decide) (he:starEach (a::es) X.env=(false,eval a X.env)::starEach es X.env:=by rfl) (hpl:(backTo cpos (starEach es X.env)).any (·.1)=false:=by rfl)
  (hdx:(x==("__debug__":Str))=false:=by decide) (hcx:(x==("__classdict__":Str))=false:=by decide)
  (hs:swapsWith (.Call (.Name fx p) (a::es) [] cpos) (some (.Name x p1)) p2.line X.env=pure false:=by rfl)
  (hb2:attributeBase (.Name x p13) "clear" X.env (eval (.Name x p13) X.env)=eval (.Name x p13) X.env:=by rfl) (hl2:(p14.endLine==p15.line)=true:=by rfl) (hs2:swapsWith (.Call (.Attribute (.Name x p13) "clear" p14) [] [] p15) none p16.line X.env=pure false:=by rfl) :
  DSs X (.Assign [.Name x p1] (.Call (.Name fx p) (a::es) [] cpos) p2 :: .If c5 aa5 [] p5 :: .If c6 aa6 [] p6 :: .If c7 aa7 [] p7 :: .Expr (.Call (.Attribute (.Name x p13) "clear" p14) [] [] p15) p16::dA) (dFil i f ta t5 t6 t7 u6 t):=by
 obtain⟨g,fd,F,b,kp,m⟩:=C.ex;have vx:∀ {q:Pos},PE X (.Name x q) (tVar i):=λ{q}=>dP hi (.inl hx) hdx hcx;have s4:=nD (pos:=p2) (pos':=p1) hN hi (.inl hx) (my F hr hg m kp b .nil (E:=λ_ _ _=>False) (by intro _ _ _ _ _ _ _ z;exact z.elim) (AQ ha) hdb he hpl) hs (.inr hx);have s5:=yM (pos:=p5) h5 (jI (X:=X) (sts:=aa5)) lM;have s6:=yM (pos:=p6) h6 hb6 lM;have s7:=yM (pos:=p7) h7 (jI (X:=X) (sts:=aa7)) lM;have s8:=lG (pos:=p16) (D0 PySem.F.plainAttrs_dict PySem.F.slot_dict_clear PySem.F.type_dict_clear wR (xH (vx (q:=p13))) hb2 hl2) hs2;refine PSs.imp (eM s4 (Ft (eM s5 (eM s6 (eM s7 (eM s8 h)))))) λE σ H hu=>?_;obtain⟨G,δ,P,R,s,hh,kk⟩:=hu;refine⟨G,δ,P,_,s,hh,λds δ1 h1 vs H1 hl st know=>?_⟩;obtain⟨ag,⟨x0,ss,z0,rfl,ix,iz⟩,al,ah⟩:=h1;obtain⟨A,y0⟩:=st;rw[IZ];have ab:=y0.reps _ vs hl λq hq=>Il _ hq;have rs:Reps X.K (λb=>H1 b≠none/\¬ ∃xs,H1 b=some (.lst xs)) H1 [x0,.lst (ss.map D.str),z0] vs:=by
  obtain⟨v1,r1,rfl,q1,v2,r2,rfl,q2,v3,r3,rfl,q3,rfl⟩:=ab;refine Reps.cons (HP.im _ _ ix q1) (Reps.cons ?_ (Reps.one (HP.im _ _ iz q3)));unfold HP at q2 ⊢;obtain⟨la,ws,e,_,e2,r⟩:=q2;exact⟨la,ws,e,λz=>z.2 ⟨ws,e2⟩,e2,Reps.im _ _ (qK ss) r⟩
 refine⟨_,_,_,λb z=>z.1,rs,ah,λd hd v H2 sm rp=>?_⟩;have x1:Sx X.K G A δ1 P σ H1:=y0.sub λq hq=>Ig _ hq;have lσ:δ1.length=σ.length:=x1.len
 rcases hd with⟨rfl,hd⟩ | ⟨ks,ws,rfl,im,hd⟩
 ·have ev:v=.non:=by unfold HP at rp;exact rp
  subst ev;refine .inl ?_;have x3:S X.K G (δ1.set i (.dat .non)) P (σ.set i (some .non)) H2:=⟨_,((x1.same sm).push (d:=.non) (v:=.non) (by unfold HP;rfl)).set (P':=P) (HY ..) λq hq=>HV _ hq⟩;show CV (upT X.K t5) _ _ _ (σ.set i (some .non)) H2;refine⟨_,_,P,_,x3,hd,λb5 δ5 h5 H5 x5=>?_⟩;obtain⟨rfl,h5⟩:=h5;show CV (upT X.K t6) _ _ _ (σ.set i (some .non)) H5;refine⟨_,_,P,_,x5,h5,λb6 δ6 h6 H6 x6=>?_⟩;obtain⟨rfl,h6⟩:=h6;exact⟨G,δ6,P,{ R with nx:=λ_=>False },x6,h6,λ_ z=>z.elim,kk.2⟩
 ·unfold HP at rp;obtain⟨da,us,rfl,nM,eH,l,r⟩:=rp;have fresh:H1 da=none:=by
   cases z:H1 da with
   | none=>rfl
   | some u=>exact absurd ⟨by rw[z];exact(λq=>nomatch q),λ⟨xs,e⟩=>by have:=sm da _ e;rw[eH] at this;cases this⟩ nM
  refine .inr ⟨da,aM ks us,eH,λo=>?_⟩;have aa:bF H1 (HL H2 da (.frz o (.dK (aM ks us)))):=gJ sm fresh;have x2:=x1.fork aa ag;have kp:Kp (λb=>b=da) H2 (HL H2 da (.frz o (.dK (aM ks us)))) :=
   ⟨λb u e n=>by rw[aJ n];exact e,λb xs e=>by rw[aJ (λz=>by rw[z,eH] at e;cases e)];exact e,λb u v e=>by rw[aJ (λz=>by rw[z,eH] at e;cases e)];exact e⟩
  have aj:HP X.K (λb=>(G.M0 b\/A b)\/False) (HL H2 da (.frz o (.dK (aM ks us)))) (.fd ks ws) (.ref da):=by
   unfold HP;exact⟨da,us,o,rfl,aG,l,Reps.im _ _ im (Reps.kp kp _ _ (Reps.im _ _ im r))⟩
  have x3:S X.K ⟨λb=>G.M0 b\/A b,HL H2 da (.frz o (.dK (aM ks us))),λ_=>False⟩ (δ1.set i (.dat (.fd ks ws))) P (σ.set i (some (.ref da))) (HL H2 da (.frz o (.dK (aM ks us)))):=⟨_,(x2.push aj).set (P':=P) (HY ..) λq hq=>HV _ hq⟩
  show CV (upT X.K t5) _ _ _ (σ.set i (some (.ref da))) _
  refine⟨_,_,P,_,x3,hd,λb5 δ5 h5 H5 x5=>?_⟩;obtain⟨rfl,h5⟩:=h5;show CV (upT X.K t6) _ _ _ (σ.set i (some (.ref da))) H5;refine⟨_,_,P,_,x5,h5,λb6 δ6 h6 H6 x6=>?_⟩;obtain⟨rfl,h6⟩:=h6;show CV (upT X.K t7) _ _ _ (σ.set i (some (.ref da))) H6;refine⟨_,_,P,_,x6,h6,λb7 δ7 h7 H7 x7=>?_⟩;obtain⟨rfl,h7⟩:=h7;obtain⟨A7,x7⟩:=x7;have e7:H7 da=some (.frz o (.dK (aM ks us))):=x7.old _ _ aG id;have ai:bF H1 H7:=λb o e=>x7.old b o (aa b o e) id;have gi:(σ.set i (some (V.ref da)))[i]?=some (some (.ref da)):=List.getElem?_set_self 'b';refine⟨.ref da,gi,da,o,_,rfl,e7,know da fresh,.inr (.inr (.inl ⟨rfl,.inl ⟨_,aG⟩⟩)),da,_,rfl,rfl,aG,?_⟩;exact⟨G,_,P,R,⟨A,(x1.same (gJ (o:=.dK []) (gJ (o:=.dK (aM ks us)) ai fresh) fresh)).hide (i:=i) (v:=some (.ref da))⟩,h7,kk⟩
end
end DL
namespace DL
open PySem PySem.Spec PyProof.Rows L2
section
variable {X:Cx} {a:Expr} {ta:HQ} {apos cpos p1:Pos}
end
end DL
namespace Mf
abbrev V:=Nat->Rat
def HA:Nat->V->V->Rat
 | 0,_,_=>0
 | m+1,c,w=>HA m c w+c m*w m
theorem dL(c u v:V)(a b:Rat):∀m,HA m c (λi=>a*u i+b*v i)=a*HA m c u+b*HA m c v
 | 0=>by show (0:Rat)=a*0+b*0;grind
 | m+1=>by show HA m c _+_=a*(HA m c u+_)+b*(HA m c v+_);rw[dL c u v a b m];grind
theorem rZ(e c w:V)(a b:Rat):∀m,HA m (λi=>a*e i+b*c i) w=a*HA m e w+b*HA m c w
 | 0=>by show (0:Rat)=a*0+b*0;grind
 | m+1=>by show HA m _ w+_=a*(HA m e w+_)+b*(HA m c w+_);rw[rZ e c w a b m];grind
theorem jD{c w w':V}:∀ {m},(∀i,i<m->w i=w' i)->HA m c w=HA m c w'
 | 0,_=>rfl
 | m+1,h=>by show HA m c w+_=HA m c w'+_;rw[jD λi hi=>h i 'b',h m 'b']
def sz(m:Nat)(w:V):Nat:=((List.range m).filter λi=>decide (w i≠0)).length
theorem fJ(m:Nat)(w:V):sz (m+1) w=sz m w+if w m=0 then 0 else 1:=by
 unfold sz;rw[List.range_succ,Jm,Ij]
 by_cases h:w m=0<;>simp[h]
theorem yC{w w':V}:∀(m:Nat),(∀i,i<m->w' i≠0->w i≠0)->sz m w'<=sz m w
 | 0,_=>Ib _
 | m+1,h=>by
  rw[fJ,fJ];have:=yC m λi hi=>h i 'b';have:=h m 'b'
  grind
theorem A5{w w':V}{q:Nat}:∀(m:Nat),(∀i,i<m->w' i≠0->w i≠0)->q<m->w q≠0->w' q=0->sz m w'<sz m w
 | 0,_,hq,_,_=>by omega
 | m+1,h,hq,h1,h2=>by
  rw[fJ,fJ];have h3:=yC m λi hi=>h i 'b';have h4:=h m 'b'
  by_cases e:q=m
  ·subst e;grind
  ·have:=A5 m (λi hi=>h i 'b') 'b' h1 h2
   grind
variable {m:Nat} {st:Nat→Bool}
def sat(m:Nat)(st:Nat->Bool)(e w:V):Prop:=0<HA m e w\/(HA m e w=0/\∀i,i<m->0<w i->st i=false)
theorem mD{e u v:V}{a b:Rat}(hu:sat m st e u)(hv:sat m st e v)(ha:0<=a)(hb:0<=b):sat m st e (λi=>a*u i+b*v i):=by
 unfold sat;rw[dL];have aj:0<=HA m e u:=by rcases hu with h | h<;>grind
 have ag:0<=HA m e v:=by rcases hv with h | h<;>grind
 have h1:=IW ha aj
 have h2:=IW hb ag
 by_cases z:0<a*HA m e u+b*HA m e v
 ·exact .inl z
 ·refine .inr ⟨by grind,λi hi hw=>?_⟩;have e1:a*HA m e u=0:=by grind
  have e2:b*HA m e v=0:=by grind
  have pos:0<a*u i\/0<b*v i:=by grind
  rcases pos with p | p
  ·have ai:0<a:=by
    refine Ic λz=>?_;have:a=0:=by grind
    rw[this] at p;grind
   have ab:0<u i:=by
    refine Ic λz=>?_;have:=IW ha (b:=- u i) (by grind)
    grind
   rcases hu with h | h
   ·have:=Jx ai h;grind
   ·exact h.2 i hi ab
  ·have aa:0<b:=by
    refine Ic λz=>?_;have:b=0:=by grind
    rw[this] at p;grind
   have ah:0<v i:=by
    refine Ic λz=>?_;have:=IW hb (b:=- v i) (by grind)
    grind
   rcases hv with h | h
   ·have:=Jx aa h;grind
   ·exact h.2 i hi ah
theorem eG{e w w':V}(h:∀i,i<m->w i=w' i)(s:sat m st e w):sat m st e w':=by
 unfold sat at s ⊢;rw[<- jD h];exact s.imp id λ⟨h1,h2⟩=>⟨h1,λi hi hp=>h2 i hi (by rw[h i hi];exact hp)⟩
theorem oZ:∀(cs:List V) (J:List Nat),J.Nodup->cs.length<J.length->∃d:V,(∀i,d i≠0->i∈J)/\(∃i,d i≠0)/\∀c∈cs,HA m c d=0
 | [],J,nd,h=>by
  cases J with
  | nil=>simp at h
  | cons j J=>exact⟨λi=>if i=j then 1 else 0,λi hi=>by by_cases e:i=j<;>simp_all,⟨j,by simp⟩,λc hc=>nomatch hc⟩
 | c::cs,J,nd,h=>by
  cases J with
  | nil=>simp at h
  | cons j J =>
   have h:cs.length+1<J.length+1:=h
   obtain⟨nj,ag⟩:=Jg.mp nd;obtain⟨d1,a1,⟨i,hi⟩,b1⟩:=oZ cs J ag 'b';have ab:=a1 i hi;obtain⟨d2,a2,⟨k,hk⟩,b2⟩:=oZ cs ((j::J).erase i) (nd.erase i) (by rw[List.length_erase_of_mem (HV _ ab)];simpa using by omega);have aa:d2 i=0:=Ic λz=>((nd.mem_erase_iff).mp (a2 i z)).1 rfl
   by_cases e:HA m c d2=0
   ·refine⟨d2,λi hi=>List.mem_of_mem_erase (a2 i hi),⟨k,hk⟩,λc' hc'=>?_⟩
    rcases Ih.mp hc' with rfl | hc'
    ·exact e
    ·exact b2 c' hc'
   ·refine⟨λi=>HA m c d2*d1 i+(- HA m c d1)*d2 i,λx hx=>?_,⟨i,?_⟩,λc' hc'=>?_⟩
    ·by_cases z1:d1 x=0
     ·by_cases z2:d2 x=0
      ·refine absurd ?_ hx;show _*d1 x+_*d2 x=0;rw[z1,z2];grind
      ·exact List.mem_of_mem_erase (a2 x z2)
     ·exact HV _ (a1 x z1)
    ·show _*d1 i+_*d2 i≠0
     rw[aa];intro z;have:HA m c d2*d1 i=0:=by grind
     rcases Ku.mp this with q | q
     ·exact e q
     ·exact hi q
    ·rw[dL]
     rcases Ih.mp hc' with rfl | hc'
     ·grind
     ·rw[b1 c' hc',b2 c' hc'];grind
theorem BK{w d:V}(hw:∀i,0<=w i)(hd:∀i,d i≠0->0<w i):∀(J:List Nat),(∃i∈J,0<d i)->∃t,0<t/\(∀i∈J,0<=w i-t*d i)/\∃q∈J,0<d q/\w q-t*d q=0
 | [],⟨i,hi,_⟩=>nomatch hi
 | j::J,h=>by
  have one:∀i,0<d i->0<w i / d i/\w i-(w i / d i)*d i=0:=λi hi=>by
   have aa:=hd i (by grind)
   exact⟨by rw[Rat.lt_div_iff hi];grind,by grind⟩
  by_cases hJ:∃i∈J,0<d i
  ·obtain⟨t,t0,h1,q,hq,dq,eq⟩:=BK hw hd J hJ
   by_cases hj:0<=w j-t*d j
   ·refine⟨t,t0,λi hi=>?_,q,HV _ hq,dq,eq⟩
    rcases Ih.mp hi with rfl | hi
    ·exact hj
    ·exact h1 i hi
   ·have dj:0<d j:=by
     refine Ic λz=>hj ?_;have:=IW (a:=t) (b:=- d j) (by grind) (by grind);have:=hw j
     grind
    obtain⟨o1,o2⟩:=one j dj;have lt:w j / d j<t:=by
     refine Ic λz=>hj ?_;have:=IW (a:=w j / d j-t) (b:=d j) (by grind) (by grind)
     grind
    refine⟨w j / d j,o1,λi hi=>?_,j,HY ..,dj,o2⟩
    rcases Ih.mp hi with rfl | hi
    ·grind
    ·by_cases di:0<d i
     ·have:=h1 i hi
      have:=IW (a:=t-w j / d j) (b:=d i) (by grind) (by grind)
      grind
     ·have:=IW (a:=w j / d j) (b:=- d i) (by grind) (by grind)
      have:=hw i
      grind
  ·have dj:0<d j:=by
    obtain⟨i,hi,p⟩:=h
    rcases Ih.mp hi with rfl | hi
    ·exact p
    ·exact absurd ⟨i,hi,p⟩ hJ
   obtain⟨o1,o2⟩:=one j dj;refine⟨w j / d j,o1,λi hi=>?_,j,HY ..,dj,o2⟩
   rcases Ih.mp hi with rfl | hi
   ·grind
   ·have di:¬ 0<d i:=λp=>hJ ⟨i,hi,p⟩
    have:=IW (a:=w j / d j) (b:=- d i) (by grind) (by grind)
    have:=hw i
    grind
structure Nn(m:Nat)(w:V):Prop where
 pos:∀i,0<=w i
 top:∀i,m<=i->w i=0
structure Sub(m:Nat)(cs:List V)(w u:V):Prop where
 nn:Nn m u
 an:∀c∈cs,HA m c u=0
 su:∀i,u i≠0->w i≠0
 lt:sz m u<sz m w
theorem EJ{cs:List V}{w d:V}{p:Nat}(hw:Nn m w)(ha:∀c∈cs,HA m c w=0)(hd:∀i,d i≠0->w i≠0)(da:∀c∈cs,HA m c d=0)(hp:w p≠0)(dp:d p=0)(h:∃i,0<d i) :
  ∃u v a b,0<=a/\0<=b/\(∀i,w i=a*u i+b*v i)/\Sub m cs w u/\Sub m cs w v:=by
 have lt:∀ {i},w i≠0->i<m:=λ{i} h=>Ic λz=>h (hw.top i 'b')
 have pos:∀ {i},w i≠0->0<w i:=λ{i} h=>by have:=hw.pos i;grind
 have mk:∀ {x:V} {a b:Rat},0<=a->(∀i,x i=a*w i+b*d i)->(∀i,i<m->0<=x i)->(∃q,w q≠0/\x q=0)->Sub m cs w x:=λ{x a b} ha0 hx h0 ⟨q,hq,xq⟩=>by
  have su:∀i,x i≠0->w i≠0:=λi hi z=>hi (by
   have:d i=0:=Ic λy=>hd i y z
   rw[hx i,z,this];grind)
  refine⟨⟨λi=>?_,λi hi=>Ic λz=>su i z (hw.top i hi)⟩,λc hc=>?_,su,A5 m (λi _=>su i) (lt hq) hq xq⟩
  ·by_cases hi:i<m
   ·exact h0 i hi
   ·have:x i=0:=Ic λz=>su i z (hw.top i 'b')
    rw[this];exact Rat.le_refl
  ·have:x=λi=>a*w i+b*d i:=funext hx
   rw[this,dL,ha c hc,da c hc];grind
 have hr:∀ {i},d i≠0->i∈List.range m:=λ{i} h=>Jk.mpr (lt (hd i h))
 obtain⟨i,hi⟩:=h;obtain⟨t,t0,h1,q,hq,dq,eq⟩:=BK hw.pos (λi h=>pos (hd i h)) (List.range m) ⟨i,hr (by grind),hi⟩;have s1:Sub m cs w (λi=>w i-t*d i):=mk (a:=1) (b:=-t) (by grind) (λi=>by grind) (λi hi=>h1 i (Jk.mpr hi)) ⟨q,hd q (by grind),eq⟩
 by_cases hn:∃i,0 < - d i
 ·obtain⟨k,hk⟩:=hn;obtain⟨t',ag,aa,q',ah,ai,ab⟩:=BK (d:=λi=>- d i) hw.pos (λi h=>pos (hd i (by grind))) (List.range m) ⟨k,hr (by grind),hk⟩;have s2:Sub m cs w (λi=>w i-t' * - d i):=mk (a:=1) (b:=t') (by grind) (λi=>by grind) (λi hi=>aa i (Jk.mpr hi)) ⟨q',hd q' (by grind),ab⟩;have tt:t+t'≠0:=by grind
  have e1:0<t' / (t+t'):=by rw[Rat.lt_div_iff (by grind)];grind
  have e2:0<t / (t+t'):=by rw[Rat.lt_div_iff (by grind)];grind
  refine⟨_,_,t' / (t+t'),t / (t+t'),by grind,by grind,λi=>?_,s1,s2⟩;have e3:t' / (t+t')+t / (t+t')=1:=by grind
  have e4:t' / (t+t')*t=t / (t+t')*t':=by grind
  grind
 ·have s2:Sub m cs w d:=mk (a:=0) (b:=1) (by grind) (λi=>by grind) (λi hi=>Ic λz=>hn ⟨i,by grind⟩) ⟨p,hp,dp⟩
  exact⟨_,_,1,t,by grind,by grind,λi=>by grind,s1,s2⟩
theorem split{cs:List V}{w:V}(hw:Nn m w)(ha:∀c∈cs,HA m c w=0)(hz:cs.length+1<sz m w) :
  ∃u v a b,0<=a/\0<=b/\(∀i,w i=a*u i+b*v i)/\Sub m cs w u/\Sub m cs w v:=by
 have mem:∀ {i},i∈(List.range m).filter (λi=>decide (w i≠0))↔i<m/\w i≠0:=by simp
 have nd:((List.range m).filter (λi=>decide (w i≠0))).Nodup:=List.nodup_range.filter _
 unfold sz at hz;generalize hJ:(List.range m).filter (λi=>decide (w i≠0))=J at mem nd hz
 cases J with
 | nil=>simp at hz
 | cons p J =>
  obtain⟨np,aa⟩:=Jg.mp nd;obtain⟨d,h1,⟨i,hi⟩,h3⟩:=oZ (m:=m) cs J aa (by simpa using hz);have hd:∀i,d i≠0->w i≠0:=λi h=>(mem.mp (HV _ (h1 i h))).2;have dp:d p=0:=Ic λz=>np (h1 p z);have hp:=(mem.mp (HY ..:p∈p::J)).2
  by_cases s:0<d i
  ·exact EJ hw ha hd h3 hp dp ⟨i,s⟩
  ·have e:(λi=>- d i)=λi=>(-1)*d i+0*d i:=by funext i;grind
   exact EJ (d:=λi=>- d i) hw ha (λi h=>hd i (by grind)) (λc hc=>by rw[e,dL,h3 c hc];grind) hp (by rw[dp];grind) ⟨i,by grind⟩
def vO(v:Rat)(x:Rat×Rat×Bool):Prop:=0<x.1+v*x.2.1\/(x.1+v*x.2.1=0/\x.2.2=false)
theorem maxL:∀(l:List (Rat×Bool)),l≠[]->∃x∈l,∀y∈l,y.1<x.1\/(y.1=x.1/\(y.2=true->x.2=true))
 | [],h=>absurd rfl h
 | z::l,_=>by
  by_cases hl:l=[]
  ·subst hl;exact⟨z,HY ..,λy hy=>by rcases Ih.mp hy with rfl | h;exact .inr ⟨rfl,id⟩;cases h⟩
  ·obtain⟨x,hx,h⟩:=maxL l hl
   by_cases c:z.1<x.1\/(z.1=x.1/\(z.2=true->x.2=true))
   ·refine⟨x,HV _ hx,λy hy=>?_⟩
    rcases Ih.mp hy with rfl | hy
    ·exact c
    ·exact h y hy
   ·refine⟨z,HY ..,λy hy=>?_⟩
    rcases Ih.mp hy with rfl | hy
    ·exact .inr ⟨rfl,id⟩
    ·have:=h y hy
     cases hz2:z.2<;>cases hx2:x.2<;>grind
theorem E6(L:List (Rat×Rat×Bool))(hz:∀x∈L,x.2.1=0->vO 0 x)
  (hp:∀l∈L,∀h∈L,0<l.2.1->h.2.1<0->0<l.1*(- h.2.1)+h.1*l.2.1\/(l.1*(- h.2.1)+h.1*l.2.1=0/\l.2.2=false/\h.2.2=false)):∃v,∀x∈L,vO v x:=by
 have ag:(∀x∈L,¬ 0<x.2.1)\/∃l∈L,0<l.2.1/\∀x∈L,0<x.2.1->-x.1 / x.2.1 < -l.1 / l.2.1\/(-x.1 / x.2.1=-l.1 / l.2.1/\(x.2.2=true->l.2.2=true)):=by
  by_cases h:(L.filter λx=>decide (0<x.2.1)).map (λx=>(-x.1 / x.2.1,x.2.2))=[]
  ·refine .inl λx hx hp=>?_;rw[List.map_eq_nil_iff,List.filter_eq_nil_iff] at h;exact h x hx (by simpa using hp)
  ·obtain⟨y,hy,h⟩:=maxL _ h;obtain⟨l,hl,rfl⟩:=HW.mp hy;obtain⟨hl,aa⟩:=Ia.mp hl;exact .inr ⟨l,hl,by simpa using aa,λx hx hp=>h _ (HW.mpr ⟨x,Ia.mpr ⟨hx,by simpa using hp⟩,rfl⟩)⟩
 have ab:(∀x∈L,¬ x.2.1<0)\/∃l∈L,l.2.1<0/\∀x∈L,x.2.1<0->x.1 / x.2.1<l.1 / l.2.1\/(x.1 / x.2.1=l.1 / l.2.1/\(x.2.2=true->l.2.2=true)):=by
  by_cases h:(L.filter λx=>decide (x.2.1<0)).map (λx=>(x.1 / x.2.1,x.2.2))=[]
  ·refine .inl λx hx hp=>?_;rw[List.map_eq_nil_iff,List.filter_eq_nil_iff] at h;exact h x hx (by simpa using hp)
  ·obtain⟨y,hy,h⟩:=maxL _ h;obtain⟨l,hl,rfl⟩:=HW.mp hy;obtain⟨hl,aa⟩:=Ia.mp hl;exact .inr ⟨l,hl,by simpa using aa,λx hx hp=>h _ (HW.mpr ⟨x,Ia.mpr ⟨hx,by simpa using hp⟩,rfl⟩)⟩
 have lo:∀(x:Rat×Rat×Bool) (v:Rat),0<x.2.1->(-x.1 / x.2.1<v\/(-x.1 / x.2.1=v/\x.2.2=false))->vO v x:=λx v hc h=>by
  have e:x.1=-((-x.1 / x.2.1)*x.2.1):=by grind
  rcases h with h | h
  ·have:=Jx (a:=v-(-x.1 / x.2.1)) (b:=x.2.1) (by grind) hc
   exact .inl (by grind)
  ·exact .inr ⟨by grind,h.2⟩
 have hi:∀(x:Rat×Rat×Bool) (v:Rat),x.2.1<0->(x.1 / x.2.1 < -v\/(x.1 / x.2.1=-v/\x.2.2=false))->vO v x:=λx v hc h=>by
  have e:x.1=(x.1 / x.2.1)*x.2.1:=by grind
  rcases h with h | h
  ·have:=Jx (a:=-v-(x.1 / x.2.1)) (b:=-x.2.1) (by grind) (by grind)
   exact .inl (by grind)
  ·exact .inr ⟨by grind,h.2⟩
 have ze:∀(x:Rat×Rat×Bool) (v:Rat),x∈L->x.2.1=0->vO v x:=λx v hx h=>by
  have:=hz x hx h
  unfold vO at this ⊢;rw[h] at this ⊢
  grind
 have done:∀v,(∀x∈L,0<x.2.1->vO v x)->(∀x∈L,x.2.1<0->vO v x)->∃v,∀x∈L,vO v x:=λv h1 h2=>⟨v,λx hx=>by
  rcases(by grind:x.2.1<0\/x.2.1=0\/0<x.2.1) with c | c | c
  ·exact h2 x hx c
  ·exact ze x v hx c
  ·exact h1 x hx c⟩
 rcases ag with nl | ⟨l,hl,cl,tl⟩
 ·rcases ab with nh | ⟨k,hk,ck,tk⟩
  ·exact done 0 (λx hx h=>absurd h (nl x hx)) λx hx h=>absurd h (nh x hx)
  ·exact done (-(k.1 / k.2.1)-1) (λx hx h=>absurd h (nl x hx)) λx hx h=>hi x _ h (.inl (by have:=tk x hx h;grind))
 ·rcases ab with nh | ⟨k,hk,ck,tk⟩
  ·exact done (-l.1 / l.2.1+1) (λx hx h=>lo x _ h (.inl (by have:=tl x hx h;grind))) λx hx h=>absurd h (nh x hx)
  ·have pr:=hp l hl k hk cl ck
   have e1:l.1=-((-l.1 / l.2.1)*l.2.1):=by grind
   have e2:k.1=(k.1 / k.2.1)*k.2.1:=by grind
   generalize hA:-l.1 / l.2.1=A at *
   generalize hB:k.1 / k.2.1=B at *
   have ah:A < -B\/(A=-B/\l.2.2=false/\k.2.2=false):=by
    have e3:l.1*(-k.2.1)+k.1*l.2.1=(-B-A)*(l.2.1*(-k.2.1)):=by grind
    have pp:=Jx (a:=l.2.1) (b:=-k.2.1) cl (by grind)
    rw[e3] at pr
    rcases pr with p | p
    ·refine .inl (Ic λz=>?_);have:=IW (a:=A+B) (b:=l.2.1 * -k.2.1) (by grind) (by grind)
     grind
    ·rcases Ku.mp p.1 with q | q
     ·exact .inr ⟨by grind,p.2⟩
     ·grind
   refine done ((A-B) / 2) (λx hx h=>lo x _ h ?_) λx hx h=>hi x _ h ?_
   ·have:=tl x hx h
    cases hx2:x.2.2<;>cases aa:l.2.2<;>grind
   ·have:=tk x hx h
    cases hx2:x.2.2<;>cases hk2:k.2.2<;>grind
def Comp(m:Nat)(st:Nat->Bool)(cs:List V)(S:List V):Prop:=∀(I:Nat->Prop) (e:V),(∀s∈S,(∀i,s i≠0->I i)->sat m st e s)->∀w,Nn m w->(∀c∈cs,HA m c w=0)->(∀i,w i≠0->I i)->sat m st e w
def CY(j:Nat):V:=λi=>if i=j then 1 else 0
theorem rE{e w:V}(h:∀i,i<m->w i=0):sat m st e w:=by
 have:HA m e w=0:=by
  rw[jD (w':=λi=>0*w i+0*w i) λi hi=>by rw[h i hi];grind,dL];grind
 exact .inr ⟨this,λi hi hp=>by rw[h i hi] at hp;grind⟩
theorem ul(S:List V)(h:∀j,j<m->CY j∈S):Comp m st [] S:=by
 intro I e hs w hw _ hI;have go:∀k,k<=m->sat m st e (λi=>if i<k then w i else 0):=λk=>by
  induction k with
  | zero=>intro _;exact rE λi _=>by simp
  | succ k ih =>
   intro hk;have h1:=ih 'b'
   by_cases z:w k=0
   ·refine eG (λi hi=>?_) h1
    by_cases e1:i<k
    ·simp[e1,Nat.lt_succ_of_lt e1]
    ·by_cases e2:i=k
     ·subst e2;simp[z]
     ·simp[e1,show ¬ i<k+1 by omega]
   ·have h2:=hs (CY k) (h k 'b') λi hi=>by
     have:i=k:=Ic λy=>hi (by simp[CY,y])
     subst this;exact hI i z
    refine eG (λi hi=>?_) (mD h1 h2 (a:=1) (b:=w k) (by grind) (hw.pos k));unfold CY
    by_cases e1:i<k
    ·simp[e1,Nat.lt_succ_of_lt e1,show i≠k by omega];grind
    ·by_cases e2:i=k
     ·subst e2;simp;grind
     ·simp[e1,e2,show ¬ i<k+1 by omega];grind
 exact eG (λi hi=>by simp[hi]) (go m (Ib m))
structure Kept(m:Nat)(c:V)(most:Nat)(S S':List V):Prop where
 nn:∀s∈S,Nn m s
 zero:∀s∈S,HA m c s=0->s∈S'
 cross:∀l∈S,∀h∈S,0<HA m c l->HA m c h<0->sz m (λi=>(- HA m c h)*l i+HA m c l*h i)<=most->∃u∈S',∃g,0<g/\∀i,g*u i=(- HA m c h)*l i+HA m c l*h i
theorem wB(e c w:V)(v:Rat):sat m st (λi=>1*e i+v*c i) w↔(0<HA m e w+v*HA m c w\/(HA m e w+v*HA m c w=0/\∀i,i<m->0<w i->st i=false)):=by
 unfold sat;rw[rZ];have:1*HA m e w+v*HA m c w=HA m e w+v*HA m c w:=by grind
 rw[this]
open Classical in
theorem vg{cs S S':List V}{c:V}(k:Comp m st cs S)(h:Kept m c (cs.length+2) S S'):Comp m st (c::cs) S':=by
 intro I e hs w hw ha hI;have main:∀n w,sz m w<=n->Nn m w->(∀c'∈c::cs,HA m c' w=0)->(∀i,w i≠0->I i)->sat m st e w:=λn=>by
  induction n with
  | zero =>
   intro w hz hw _ _;refine rE λi hi=>byContradiction λz=>?_;have:=A5 (w:=w) (w':=λ_=>0) m (λi _ h=>absurd rfl h) hi z rfl;omega
  | succ n ih =>
   intro w hz hw ha hI
   by_cases big:(c::cs).length+1<sz m w
   ·obtain⟨u,v,a,b,a0,b0,al,su,sv⟩:=split hw ha big;have h1:=ih u (by have:=su.lt;omega) su.nn su.an λi hi=>hI i (su.su i hi);have h2:=ih v (by have:=sv.lt;omega) sv.nn sv.an λi hi=>hI i (sv.su i hi);exact eG (λi _=>(al i).symm) (mD h1 h2 a0 b0)
   ·have big:sz m w<=cs.length+2:=by simp at big;omega
    have pr:∀l∈S,∀k∈S,(∀i,l i≠0->w i≠0)->(∀i,k i≠0->w i≠0)->0<HA m c l->HA m c k<0->sat m st e (λi=>(- HA m c k)*l i+HA m c l*k i):=λl hl k hk sl sk cl ck=>by
     have su:∀i,(- HA m c k)*l i+HA m c l*k i≠0->w i≠0:=λi hi=>by
      by_cases z:l i=0
      ·by_cases y:k i=0
       ·refine absurd ?_ hi;rw[z,y];grind
       ·exact sk i y
      ·exact sl i z
     obtain⟨u,hu,g,g0,eu⟩:=h.cross l hl k hk cl ck (HX (yC m λi _=>su i) big);have ai:=hs u hu λi hi=>hI i (su i (by rw[<- eu i];intro z;rcases Ku.mp z with q | q;grind;exact hi q));exact eG (λi _=>by rw[<- eu i];grind) (mD ai ai (a:=g) (b:=0) (by grind) (by grind))
    have od:=E6 ((S.filter λs=>decide (∀i,s i≠0->w i≠0)).map λs=>(HA m e s,HA m c s,!decide (∀i,i<m->0<s i->st i=false)))
    have as:=od λx hx h0=>by
     obtain⟨s,aa,rfl⟩:=HW.mp hx;obtain⟨aa,ah⟩:=Ia.mp aa;have:=hs s (h.zero s aa h0) λi hi=>hI i ((by simpa using ah:∀i,¬ s i=0->¬ w i=0) i hi);unfold sat at this;unfold vO;have e0:HA m e s+0*HA m c s=HA m e s:=by grind
     simp only[e0];simpa using this
    have aj:=as λl hl k hk cl ck=>by
     obtain⟨l,ag,rfl⟩:=HW.mp hl;obtain⟨k',ab,rfl⟩:=HW.mp hk;obtain⟨ag,ao⟩:=Ia.mp ag;obtain⟨ab,az⟩:=Ia.mp ab;have:=pr l ag k' ab (by simpa using ao) (by simpa using az) cl ck;unfold sat at this;rw[dL] at this;have e0:(- HA m c k')*HA m e l+HA m c l*HA m e k'=HA m e l*(- HA m c k')+HA m e k'*HA m c l:=by grind
     rw[e0] at this;refine this.imp id λ⟨h1,h2⟩=>⟨h1,?_,?_⟩
     ·simp only[Bool.not_eq_false',decide_eq_true_eq];intro i hi hp;refine h2 i hi ?_;have p1:=Jx (a:=- HA m c k') (b:=l i) (by grind) hp;have p2:=IW (a:=HA m c l) (b:=k' i) (by grind) ((h.nn k' ab).pos i)
      grind
     ·simp only[Bool.not_eq_false',decide_eq_true_eq];intro i hi hp;refine h2 i hi ?_;have p1:=Jx (a:=HA m c l) (b:=k' i) cl hp;have p2:=IW (a:=- HA m c k') (b:=l i) (by grind) ((h.nn l ag).pos i)
      grind
    obtain⟨v,hv⟩:=aj;have all:∀s∈S,(∀i,s i≠0->w i≠0)->sat m st (λi=>1*e i+v*c i) s:=λs aa ah=>by
     have:=hv _ (HW.mpr ⟨s,Ia.mpr ⟨aa,by simpa using ah⟩,rfl⟩)
     rw[wB];unfold vO at this;simpa using this
    have:=k (λi=>w i≠0) _ all w hw (λc' hc'=>ha c' (HV _ hc')) λi hi=>hi
    rw[wB,ha c (HY ..)] at this;unfold sat;have e0:HA m e w+v*0=HA m e w:=by grind
    rw[e0] at this;exact this
 exact main _ w (Ib _) hw ha hI
end Mf
namespace Mf
open PySem L2 DL
variable {x:Str→Rat} {n:Str} {F:Str→Int} {nm:Zb} {rows:List Rw} {w:Ze}
def du(x:Str->Rat):List (Str×Int)->Rat
 | []=>0
 | t::r=>(t.2:Rat)*x t.1+du x r
def HJ(x:Str->Rat)(r:Rw):Prop:=match r.1 with
 | .least=>(r.2.2:Rat)<=du x r.2.1
 | .more=>(r.2.2:Rat)<du x r.2.1
def wU(x:Str->Rat)(n:Str)(v:Rat):Str->Rat:=λk=>if k=n then v else x k
theorem qx{v:Rat}(h:x n=0):∀ts,du (wU x n v) ts=du x ts+v*(cf ts n:Int)
 | []=>by show (0:Rat)=0+v*((0:Int):Rat);rw[show ((0:Int):Rat)=0 from rfl];grind
 | t::r=>by
  show (t.2:Rat)*wU x n v t.1+du (wU x n v) r=(t.2:Rat)*x t.1+du x r+v*(((if t.1=n then t.2 else 0)+cf r n:Int):Rat)
  rw[qx h r,Jz];unfold wU
  by_cases e:t.1=n
  ·rw[Ir e,Ir e,e,h];grind
  ·rw[Io e,Io e,show ((0:Int):Rat)=0 from rfl];grind
theorem kR{y:Str->Rat}:∀ {ts:List (Str×Int)},(∀t∈ts,x t.1=y t.1)->du x ts=du y ts
 | [],_=>rfl
 | t::r,h=>by show _*x t.1+_=_*y t.1+_;rw[h t (HY ..),kR λu hu=>h u (HV _ hu)]
def oO(x:Str->Rat)(F:Str->Int):Zb->Rat
 | []=>0
 | n::r=>(F n:Rat)*x n+oO x F r
theorem mw{G:Str->Int}:∀nm:Zb,oO x (λn=>F n+G n) nm=oO x F nm+oO x G nm
 | []=>by show (0:Rat)=0+0;grind
 | n::r=>by show ((F n+G n:Int):Rat)*x n+_=(F n:Rat)*x n+_+((G n:Rat)*x n+_);rw[mw r,Jz];grind
theorem sg{a:Int}:∀nm:Zb,oO x (λn=>a*F n) nm=a*oO x F nm
 | []=>by show (0:Rat)=a*0;grind
 | n::r=>by show ((a*F n:Int):Rat)*x n+_=a*((F n:Rat)*x n+_);rw[sg r,IE];grind
theorem fX:∀ {nm:Zb},(∀n∈nm,F n=0)->oO x F nm=0
 | [],_=>rfl
 | n::r,h=>by show (F n:Rat)*x n+_=0;rw[fX λk hk=>h k (HV _ hk),h n (HY ..),show ((0:Int):Rat)=0 from rfl];grind
theorem rX{k:Str}{a:Int}:∀ {nm:Zb},nm.Nodup->k∈nm->oO x (λn=>if k=n then a else 0) nm=a*x k
 | n::r,nd,h=>by
  obtain⟨h1,h2⟩:=Jg.mp nd;show ((if k=n then a else 0:Int):Rat)*x n+oO x _ r=_
  by_cases e:k=n
  ·subst e;rw[Ir rfl,fX (F:=λn=>if k=n then a else 0) λm hm=>Io λ(z:k=m)=>h1 (z ▸ hm)];grind
  ·rw[Io e,rX h2 ((Ih.mp h).resolve_left e),show ((0:Int):Rat)=0 from rfl];grind
theorem qE(nd:nm.Nodup):∀ {ts:List (Str×Int)},(∀t∈ts,t.1∈nm)->du x ts=oO x (cf ts) nm
 | [],_=>(fX λ_ _=>rfl).symm
 | t::r,h=>by
  show _+du x r=oO x (λn=>(if t.1=n then t.2 else 0)+cf r n) nm
  rw[mw,rX nd (h t (HY ..)),qE nd λu hu=>h u (HV _ hu)]
theorem mH:∀ {ts:List (Str×Int)} {t:Str×Int},(ts.map (·.1)).Nodup->t∈ts->cf ts t.1=t.2
 | u::r,t,nd,h=>by
  obtain⟨h1,h2⟩:=Jg.mp nd;show (if u.1=t.1 then u.2 else 0)+cf r t.1=t.2
  rcases Ih.mp h with rfl | h
  ·rw[Ir rfl,kc h1,Kq]
  ·rw[Io λe=>h1 (HW.mpr ⟨t,h,e.symm⟩),mH h2 h,J5]
theorem fL.cf{us:List (Str×Int)}(h:fL F us)(n:Str):cf us n=F n:=by
 by_cases e:n∈us.map (·.1)
 ·obtain⟨t,ht,rfl⟩:=HW.mp e;rw[mH h.nd ht,(h.val t ht).1]
 ·rw[kc e];exact(Ic λz=>e (h.all n λy=>z y.symm))
def evl(x:Str->Rat):List (Rw×Int)->Rat
 | []=>0
 | p::r=>(p.2:Rat)*(du x p.1.2.1-(p.1.2.2:Int))+evl x r
theorem vo(nd:nm.Nodup):∀ {l:List (Rw×Int)},(∀p∈l,∀t∈p.1.2.1,t.1∈nm)->evl x l=oO x (cfs l) nm-(bds l:Int)
 | [],_=>by
  show (0:Rat)=_-((0:Int):Rat)
  rw[fX (F:=cfs []) λ_ _=>rfl,show ((0:Int):Rat)=0 from rfl];grind
 | p::r,h=>by
  show (p.2:Rat)*_+evl x r=oO x (λn=>p.2*cf p.1.2.1 n+cfs r n) nm-((p.2*p.1.2.2+bds r:Int):Rat)
  rw[mw,sg,vo nd λq hq=>h q (HV _ hq),qE nd (h p (HY ..)),Jz,IE]
  grind
def smT(nm:Zb)(F:Str->Int):List (Str×Int):=(nm.filter λn=>decide (F n≠0)).map λn=>(n,F n)
def HG(nm:Zb)(rows:List Rw)(w:Ze):Rw:=(kOf (Hw 'f'),smT nm (cfs 'f'),bds 'f')
structure Rws(nm:Zb)(rows:List Rw):Prop where
 pw:nm.Pairwise leS
 nd:nm.Nodup
 sum:∀r∈rows,fL (cf r.2.1) r.2.1
 sub:∀r∈rows,∀t∈r.2.1,t.1∈nm
theorem Rws.cfs(h:Rws nm rows)(e:cfs 'f' n≠0):n∈nm :=
 vh (λp hp=>h.sub p.1 (IT hp).1) e
theorem Rws.smT(h:Rws nm rows)(w:Ze):fL (Mf.cfs 'f') (Mf.smT nm (Mf.cfs 'f')):=fL.mk' h.pw h.nd λ_ e=>h.cfs e
theorem qQ(h:Rws nm rows):HJ x (HG nm rows w)↔(0<evl x 'f'\/(evl x 'f'=0/\Hw 'f'=false)):=by
 have e:=vo (x:=x) h.nd (l:=rows.zip w) λp hp=>h.sub p.1 (IT hp).1
 have e2:du x (Mf.smT nm (Mf.cfs 'f'))=oO x (Mf.cfs 'f') nm:=by
  rw[qE h.nd λt ht=>?_]
  ·congr 1;exact funext λn=>(h.smT w).cf n
  ·obtain⟨n,hn,rfl⟩:=HW.mp ht;exact(Ia.mp hn).1
 rw[e];unfold HJ HG
 cases Hw 'f'
 ·show ((bds _:Int):Rat)<=du x _↔_
  rw[e2];grind
 ·show ((bds _:Int):Rat)<du x _↔_
  rw[e2];grind
def HB(w:Ze):V:=λi=>((w.getD i 0:Int):Rat)
def eV(x:Str->Rat)(rows:List Rw):V:=λi=>match rows[i]? with | some r=>du x r.2.1-(r.2.2:Int) | none=>0
def colV(rows:List Rw)(n:Str):V:=λi=>match rows[i]? with | some r=>((cf r.2.1 n:Int):Rat) | none=>0
def stV(rows:List Rw):Nat->Bool:=λi=>match rows[i]? with | some r=>isM r.1 | none=>false
theorem ko(c w:V):∀m,HA (m+1) c w=c 0*w 0+HA m (λi=>c (i+1)) (λi=>w (i+1))
 | 0=>by show (0:Rat)+c 0*w 0=c 0*w 0+0;grind
 | m+1=>by show HA (m+1) c w+c (m+1)*w (m+1)=_+(HA m _ _+c (m+1)*w (m+1));rw[ko c w m];grind
theorem l5:∀ {rows:List Rw} {w:Ze},w.length=rows.length->evl x 'f'=HA rows.length (eV x rows) (HB w)
 | [],[],_=>rfl
 | r::rows,a::w,h=>by
  rw[Ik,ko];show (a:Rat)*(du x r.2.1-_)+evl x 'f'=(du x r.2.1-_)*(a:Rat)+HA rows.length (eV x rows) (HB w);rw[l5 (by simpa using h)];grind
theorem mh:∀ {rows:List Rw} {w:Ze},w.length=rows.length->((cfs 'f' n:Int):Rat)=HA rows.length (colV rows n) (HB w)
 | [],[],_=>rfl
 | r::rows,a::w,h=>by
  rw[Ik,ko];show ((a*cf r.2.1 n+cfs 'f' n:Int):Rat)=((cf r.2.1 n:Int):Rat)*(a:Rat)+HA rows.length (colV rows n) (HB w);rw[Jz,IE,mh (by simpa using h)];grind
theorem vG{i:Nat}:0<HB w i↔0<w.getD i 0:=Rat.intCast_pos
theorem rR:∀ {rows:List Rw} {w:Ze},w.length=rows.length->(Hw 'f'=false↔∀i,i<rows.length->0<HB w i->stV rows i=false)
 | [],[],_=>⟨λ_ i hi=>absurd hi (Nat.not_lt_zero i),λ_=>rfl⟩
 | r::rows,a::w,h=>by
  have ih:=rR (rows:=rows) (w:=w) (by simpa using h)
  have e:Hw ((r::rows).zip (a::w))=((isM r.1&&decide (0<a))||Hw 'f'):=rfl
  rw[e,Bool.or_eq_false_iff,ih]
  constructor
  ·rintro⟨h1,h2⟩ i hi hp
   cases i with
   | zero =>
    have:0<a:=vG.mp hp
    rw[IC this,Bool.and_true] at h1;exact h1
   | succ i=>exact h2 i (by simpa using hi) hp
  ·intro hh;refine⟨?_,λi hi hp=>hh (i+1) (by simpa using hi) hp⟩
   by_cases ha:0<a
   ·have:isM r.1=false:=hh 0 (Ks _) (vG.mpr ha)
    rw[this,Bool.false_and]
   ·rw[IL ha,Bool.and_false]
theorem FB(h:Rws nm rows)(hl:w.length=rows.length):HJ x (HG nm rows w)↔sat rows.length (stV rows) (eV x rows) (HB w):=by
 rw[qQ h,l5 hl,rR hl];rfl
theorem qH(w:V):∀m,sz (m+1) w=(if w 0=0 then 0 else 1)+sz m λi=>w (i+1)
 | 0=>by rw[fJ];show sz 0 w+_=_+sz 0 _;unfold sz;simp
 | m+1=>by rw[fJ,qH w m,fJ m];omega
def usd(w:Ze):Nat:=(w.filter λa=>decide (0<a)).length
theorem zG:∀ {w:Ze},(∀a∈w,0<=a)->sz w.length (HB w)=usd w
 | [],_=>rfl
 | a::w,h=>by
  rw[Ik,qH];show (if ((a:Int):Rat)=0 then 0 else 1)+sz w.length (HB w)=usd (a::w);rw[zG λb hb=>h b (HV _ hb)];have h0:=h a (HY ..);unfold usd
  by_cases e:0<a
  ·rw[IS (by simpa using e),Io (λz=>by have:a=0:=Lc.mp z;omega),Ik];omega
  ·have:a=0:=by omega
   rw[IG (by simpa using e),Ir (by rw[this];rfl)];omega
theorem vH{m:Nat}(hl:w.length=m)(h:∀a∈w,0<=a):Nn m (HB w):=by
 refine⟨λi=>?_,λi hi=>?_⟩
 ·show (0:Rat)<=((w.getD i 0:Int):Rat)
  refine Rat.intCast_nonneg.mpr ?_;rw[List.getD_eq_getElem?_getD]
  cases e:w[i]? with
  | none=>exact Int.le_refl 0
  | some a=>exact h a (Im e)
 ·show ((w.getD i 0:Int):Rat)=0
  rw[List.getD_eq_getElem?_getD,List.getElem?_eq_none 'b'];rfl
end Mf
namespace Mf
open PySem L2 DL
variable {ws:Ze} {n:Str} {a b:Int} {rows:List Rw} {m:Nat}
def gW(ws:Ze):Int:=ws.foldl gc 0
theorem FU(a b:Int):0<=gc a b/\gc a b ∣ a/\gc a b ∣ b/\(a≠0\/b≠0->gc a b≠0):=by
 refine⟨wo a b,fC a b,d4 a b,λh z=>?_⟩;unfold gc at z;have:=Int.gcd_eq_zero_iff.mp (by omega:Int.gcd a b=0)
 rcases h with h | h
 ·exact h this.1
 ·exact h this.2
theorem pC:∀(ws:Ze) (a:Int),ws.foldl gc a ∣ a/\(∀w∈ws,ws.foldl gc a ∣ w)/\((a≠0\/∃w∈ws,w≠0)->ws.foldl gc a≠0)/\(0<=a->0<=ws.foldl gc a)
 | [],a=>⟨Int.dvd_refl a,λ_ h=>(nomatch h),λh=>h.elim id λ⟨_,h,_⟩=>(nomatch h),id⟩
 | w::ws,a=>by
  obtain⟨h1,h2,h3,h4⟩:=pC ws (gc a w);obtain⟨g0,g1,g2,g3⟩:=FU a w;refine⟨JF h1 g1,λv hv=>?_,λh=>h3 ?_,λ_=>h4 g0⟩
  ·rcases Ih.mp hv with rfl | hv
   ·exact JF h1 g2
   ·exact h2 v hv
  ·rcases h with h | ⟨v,hv,hn⟩
   ·exact .inl (g3 (.inl h))
   ·rcases Ih.mp hv with rfl | hv
    ·exact .inl (g3 (.inr hn))
    ·exact .inr ⟨v,hv,hn⟩
theorem sD(h:∃w∈ws,w≠0):0<gW ws:=by
 obtain⟨_,_,h3,h4⟩:=pC ws 0;have:=h3 (.inr h);have:=h4 (Int.le_refl 0);unfold gW;omega
theorem mR{w:Int}(h:w∈ws):gW ws ∣ w:=(pC ws 0).2.1 w h
def crS(rows:List Rw)(n:Str)(l h:Ze):Ze:=List.zipWith (λa b=>a * -(cfs (rows.zip h) n)+b*cfs (rows.zip l) n) l h
def shW(ws:Ze):Ze:=ws.map λa=>a.fdiv (gW ws)
def crW(rows:List Rw)(n:Str)(l h:Ze):Ze:=shW (crS rows n l h)
def woW(rows:List Rw)(n:Str)(most:Nat)(W:List (List Int)):List (List Int) :=
 (W.filter λw=>decide (cfs 'f' n=0))++(W.filter λw=>decide (0<cfs 'f' n)).flatMap λl =>
  ((W.filter λw=>decide (cfs 'f' n<0)).map (crW rows n l)).filter λu=>decide (usd u<=most)
def unW(m j:Nat):Ze:=(List.range m).map λi=>if i=j then 1 else 0
def wY(m:Nat):List (List Int):=(List.range m).map (unW m)
def Hi(rows:List Rw):Zb->List (List Int)
 | []=>wY rows.length
 | n::ns=>woW rows n (ns.length+2) (Hi rows ns)
structure Wt(m:Nat)(w:Ze):Prop where
 len:w.length=m
 nn:∀a∈w,0<=a
 nz:∃a∈w,a≠0
theorem pV{f:Int->Int->Int}(hf:f 0 0=0):∀ {l h:Ze},l.length=h.length->∀i,HB (List.zipWith f l h) i=((f (l.getD i 0) (h.getD i 0):Int):Rat)
 | [],[],_,i=>by show (0:Rat)=((f 0 0:Int):Rat);rw[hf];rfl
 | a::l,b::h,e,0=>rfl
 | a::l,b::h,e,i+1=>pV hf (by simpa using e) i
theorem oH:∀ {rows:List Rw} {l h:Ze},l.length=rows.length->h.length=rows.length->cfs (rows.zip (List.zipWith (λx y=>x*a+y*b) l h)) n=a*cfs (rows.zip l) n+b*cfs (rows.zip h) n
 | [],[],[],_,_=>by show (0:Int)=a*0+b*0;omega
 | r::rows,x::l,y::h,h1,h2=>by
  show (x*a+y*b)*cf r.2.1 n+cfs (rows.zip (List.zipWith _ l h)) n=a*(x*cf r.2.1 n+cfs (rows.zip l) n)+b*(y*cf r.2.1 n+cfs (rows.zip h) n)
  rw[oH (rows:=rows) (l:=l) (h:=h) (by simpa using h1) (by simpa using h2)];grind
theorem v7(hz:∃w∈ws,w≠0):List.zipWith (λx y=>x*gW ws+y*0) (shW ws) (shW ws)=ws:=by
 unfold shW;have:∀(l:Ze),(∀a∈l,gW ws ∣ a)->List.zipWith (λx y=>x*gW ws+y*0) (l.map λa=>a.fdiv (gW ws)) (l.map λa=>a.fdiv (gW ws))=l:=λl=>by
  induction l with
  | nil=>intro _;rfl
  | cons a l ih =>
   intro h;show (a.fdiv (gW ws)*gW ws+_*0)::_=a::l;rw[ih λb hb=>h b (HV _ hb),JY (h a (HY ..)),Int.mul_zero,Kq]
 exact this ws λa ha=>mR ha
theorem pc:(shW ws).length=ws.length:=HS ..
theorem Fe(hl:ws.length=rows.length)(hz:∃w∈ws,w≠0):gW ws*cfs (rows.zip (shW ws)) n=cfs (rows.zip ws) n:=by
 have e:=oH (rows:=rows) (n:=n) (a:=gW ws) (b:=0) (l:=shW ws) (h:=shW ws) (by rw[pc,hl]) (by rw[pc,hl])
 rw[v7 hz] at e;rw[e];omega
theorem Ef(hz:∃w∈ws,w≠0)(i:Nat):((gW ws:Int):Rat)*HB (shW ws) i=HB ws i:=by
 have e:=pV (f:=λx y=>x*gW ws+y*0) 'b' (l:=shW ws) (h:=shW ws) rfl i
 rw[v7 hz] at e;rw[e];show _*((_:Int):Rat)=_;simp only[Int.mul_zero,Int.add_zero];rw[IE];grind
theorem Gk(hz:∃w∈ws,w≠0)(h:∀a∈ws,0<=a):∀a∈shW ws,0<=a:=λa ha=>by
 obtain⟨b,hb,rfl⟩:=HW.mp ha;obtain⟨c,hc⟩:=mR hb;have g:=sD hz;have aa:=h b hb;have e:b.fdiv (gW ws)*gW ws=b:=JY (mR hb);refine Ic λz=>?_;have:=Int.mul_lt_mul_of_pos_right (show b.fdiv (gW ws)<0 by omega) g;omega
theorem Gs(hz:∃w∈ws,w≠0):∃a∈shW ws,a≠0:=by
 obtain⟨w,hw,hn⟩:=hz;refine⟨_,HW.mpr ⟨w,hw,rfl⟩,λz=>hn ?_⟩;have e:w.fdiv (gW ws)*gW ws=w:=JY (mR hw);rw[z] at e;omega
theorem oz{l h:Ze}(hl:l.length=m)(hh:h.length=m):(crS rows n l h).length=m:=by unfold crS;rw[List.length_zipWith];omega
theorem EH(ha:0<a)(hb:0<b):∀ {l h:Ze},(∀x∈l,0<=x)->(∀x∈h,0<=x)->∀x∈List.zipWith (λx y=>x*a+y*b) l h,0<=x
 | [],_,_,_,x,hx=>by simp at hx
 | _::_,[],_,_,x,hx=>by simp at hx
 | u::l,v::h,h1,h2,x,hx=>by
  rw[Ky] at hx
  rcases Ih.mp hx with rfl | hx
  ·have:=Int.mul_nonneg (h1 u (HY ..)) (Kr ha)
   have:=Int.mul_nonneg (h2 v (HY ..)) (Kr hb)
   omega
  ·exact EH ha hb (λx hx=>h1 x (HV _ hx)) (λx hx=>h2 x (HV _ hx)) x hx
theorem DV(ha:0<a)(hb:0<b):∀ {l h:Ze},l.length=h.length->(∀x∈l,0<=x)->(∀x∈h,0<=x)->(∃x∈l,x≠0)->∃x∈List.zipWith (λx y=>x*a+y*b) l h,x≠0
 | [],_,_,_,_,⟨x,hx,_⟩=>by simp at hx
 | _::_,[],e,_,_,_=>by simp at e
 | u::l,v::h,e,h1,h2,⟨x,hx,hn⟩=>by
  rw[Ky]
  rcases Ih.mp hx with rfl | hx
  ·refine⟨_,HY ..,λz=>?_⟩;have:=Int.mul_pos (a:=x) (b:=a) (by have:=h1 x (HY ..);omega) ha;have:=Int.mul_nonneg (h2 v (HY ..)) (Kr hb);omega
  ·obtain⟨y,hy,aa⟩:=DV ha hb (by simpa using e) (λx hx=>h1 x (HV _ hx)) (λx hx=>h2 x (HV _ hx)) ⟨x,hx,hn⟩;exact⟨y,HV _ hy,aa⟩
section
variable {rows:List Rw} {n:Str} {l h:Ze}
theorem lg(wl:Wt rows.length l)(wh:Wt rows.length h)(cl:0<cfs (rows.zip l) n)(ch:cfs (rows.zip h) n<0):(∀a∈crS rows n l h,0<=a)/\∃a∈crS rows n l h,a≠0 :=
 ⟨EH 'b' cl wl.nn wh.nn,DV 'b' cl (by rw[wl.len,wh.len]) wl.nn wh.nn wl.nz⟩
theorem wJ(wl:Wt rows.length l)(wh:Wt rows.length h)(cl:0<cfs (rows.zip l) n)(ch:cfs (rows.zip h) n<0):Wt rows.length (crW rows n l h):=by
 obtain⟨h1,h2⟩:=lg wl wh cl ch;exact⟨by unfold crW;rw[pc];exact oz wl.len wh.len,Gk h2 h1,Gs h2⟩
theorem BQ{k:Str}(wl:Wt rows.length l)(wh:Wt rows.length h)(cl:0<cfs (rows.zip l) n)(ch:cfs (rows.zip h) n<0):gW (crS rows n l h)*cfs (rows.zip (crW rows n l h)) k=-(cfs (rows.zip h) n)*cfs (rows.zip l) k+cfs (rows.zip l) n*cfs (rows.zip h) k:=by
 obtain⟨h1,h2⟩:=lg wl wh cl ch;unfold crW;rw[Fe (oz wl.len wh.len) h2];exact oH (rows:=rows) wl.len wh.len
theorem vW(wl:Wt rows.length l)(wh:Wt rows.length h)(cl:0<cfs (rows.zip l) n)(ch:cfs (rows.zip h) n<0)(i:Nat):((gW (crS rows n l h):Int):Rat)*HB (crW rows n l h) i=-((cfs (rows.zip h) n:Int):Rat)*HB l i+((cfs (rows.zip l) n:Int):Rat)*HB h i:=by
 obtain⟨h1,h2⟩:=lg wl wh cl ch;unfold crW;rw[Ef h2];unfold crS;rw[pV 'b' (by rw[wl.len,wh.len])];rw[Jz,IE,IE,Ld];unfold HB
 grind
end
theorem ky{most:Nat}{W:List (List Int)}{w:List Int}:w∈woW rows n most W↔(w∈W/\cfs 'f' n=0)\/∃l∈W,0<cfs (rows.zip l) n/\∃h∈W,cfs (rows.zip h) n<0/\w=crW rows n l h/\usd w<=most:=by
 unfold woW;rw[Ip,Ia,JO];refine or_congr 'p' ?_
 constructor
 ·rintro⟨l,hl,hm⟩;obtain⟨ai,aj⟩:=Ia.mp hl;obtain⟨aa,ab⟩:=Ia.mp hm;obtain⟨h,hh,rfl⟩:=HW.mp aa;obtain⟨ag,ah⟩:=Ia.mp hh;exact⟨l,ai,by simpa using aj,h,ag,by simpa using ah,rfl,by simpa using ab⟩
 ·rintro⟨l,hl,cl,h,hh,ch,rfl,hu⟩;exact⟨l,Ia.mpr ⟨hl,by simpa using cl⟩,Ia.mpr ⟨HW.mpr ⟨h,Ia.mpr ⟨hh,by simpa using ch⟩,rfl⟩,by simpa using hu⟩⟩
theorem C7{j:Nat}(h:j<m):Wt m (unW m j):=by
 refine⟨by unfold unW;simp,λa ha=>?_,1,?_,by decide⟩
 ·obtain⟨i,_,rfl⟩:=HW.mp ha
  split<;>decide
 ·exact HW.mpr ⟨j,Jk.mpr h,by simp⟩
theorem Ba{j:Nat}(h:j<m):HB (unW m j)=CY j:=by
 funext i
 unfold HB unW CY;rw[List.getD_eq_getElem?_getD,List.getElem?_map]
 by_cases hi:i<m
 ·rw[List.getElem?_range hi];show (((if i=j then 1 else 0:Int)):Rat)=_
  by_cases e:i=j<;>simp[e]
 ·rw[List.getElem?_eq_none (by simpa using Nat.le_of_not_lt hi)];have:i≠j:=by omega
  simp[this]
theorem ca:∀ {ns:Zb} {w:Ze},w∈Hi rows ns->Wt rows.length w/\∀n∈ns,cfs 'f' n=0
 | [],w,h=>by
  obtain⟨j,hj,rfl⟩:=HW.mp h;exact⟨C7 (Jk.mp hj),λ_ h=>(nomatch h)⟩
 | n::ns,w,h=>by
  rcases ky.mp h with⟨h1,h2⟩ | ⟨l,hl,cl,k,hk,ck,rfl,_⟩
  ·obtain⟨a,b⟩:=ca h1;exact⟨a,λx hx=>(Ih.mp hx).elim (λe=>e ▸ h2) (b x)⟩
  ·obtain⟨a,b⟩:=ca hl;obtain⟨a',b'⟩:=ca hk;refine⟨wJ a a' cl ck,λx hx=>?_⟩;have e:=BQ (k:=x) a a' cl ck;have g:=sD (lg a a' cl ck).2;have:-(cfs (rows.zip k) n)*cfs (rows.zip l) x+cfs (rows.zip l) n*cfs (rows.zip k) x=0:=by
    rcases Ih.mp hx with rfl | hx
    ·grind
    ·rw[b x hx,b' x hx];omega
   rw[this] at e
   rcases Int.mul_eq_zero.mp e with z | z
   ·omega
   ·exact z
theorem yW{ns:Zb}:Kept rows.length (colV rows n) (ns.length+2) ((Hi rows ns).map HB) ((Hi rows (n::ns)).map HB):=by
 have dt:∀ {w},w∈Hi rows ns->HA rows.length (colV rows n) (HB w)=((cfs 'f' n:Int):Rat):=λh=>(mh (ca h).1.len).symm
 constructor
 ·intro s hs;obtain⟨w,hw,rfl⟩:=HW.mp hs;exact vH (ca hw).1.len (ca hw).1.nn
 ·intro s hs h0;obtain⟨w,hw,rfl⟩:=HW.mp hs;rw[dt hw] at h0;exact HW.mpr ⟨w,ky.mpr (.inl ⟨hw,Lc.mp h0⟩),rfl⟩
 ·intro l hl h hh cl ch hz;obtain⟨l,ab,rfl⟩:=HW.mp hl;obtain⟨h,aa,rfl⟩:=HW.mp hh;clear hl hh;have hl:=ab;have hh:=aa;rw[dt hl] at cl hz ⊢;rw[dt hh] at ch hz ⊢;have cl:0<cfs (rows.zip l) n:=Rat.intCast_pos.mp cl;have ch:cfs (rows.zip h) n<0:=Rat.intCast_neg_iff.mp ch;have wl:=(ca hl).1;have wh:=(ca hh).1;have ww:=wJ wl wh cl ch;have g:=sD (lg wl wh cl ch).2;have gr:(0:Rat)<((gW (crS rows n l h):Int):Rat):=Rat.intCast_pos.mpr g;refine⟨_,HW.mpr ⟨crW rows n l h,ky.mpr (.inr ⟨l,hl,cl,h,hh,ch,rfl,?_⟩),rfl⟩,_,gr,λi=>vW wl wh cl ch i⟩;rw[<- zG ww.nn,ww.len];refine HX (yC _ λi _ hi=>?_) hz;rw[<- vW wl wh cl ch i];intro z
  rcases Ku.mp z with q | q
  ·grind
  ·exact hi q
theorem rQ:∀ns:Zb,Comp rows.length (stV rows) (ns.map (colV rows)) ((Hi rows ns).map HB)
 | []=>ul _ λj hj=>HW.mpr ⟨unW rows.length j,HW.mpr ⟨j,Jk.mpr hj,rfl⟩,Ba hj⟩
 | n::ns=>vg (rQ ns) (by rw[HS];exact yW)
end Mf
namespace Mf
open PySem L2 DL
variable {p:Int×Int} {ks:Zb} {ps:Za} {n:Str}
def HF(p:Int×Int):Rat:=(p.1:Rat) / (p.2:Rat)
theorem gn{a:Int}(h:a≠0):((a:Int):Rat)≠0:=λz=>h (Lc.mp z)
theorem kg{a:Int}(h:0<a):(0:Rat)<((a:Int):Rat):=Rat.intCast_pos.mpr h
theorem ik(t:Int){b:Int}(h:b≠0):HF (HD t b,Hf t b)=(t:Rat) / (b:Rat):=by
 have c:=sj t b
 have hB:=(eJ t h).ne
 have c2:((HD t b:Int):Rat)*(b:Rat)=(t:Rat)*((Hf t b:Int):Rat):=by rw[<- IE,<- IE,c]
 have h1:=gn h
 have h2:=gn hB
 show ((HD t b:Int):Rat) / ((Hf t b:Int):Rat)=_
 grind
theorem jU{q:Int×Int}(hp:0<p.2)(hq:0<q.2):HF p<HF q↔p.1*q.2<q.1*p.2:=by
 have h1:=kg hp
 have h2:=kg hq
 have h3:=Jx h1 h2
 have e1:HF p*((p.2:Rat)*(q.2:Rat))=((p.1*q.2:Int):Rat):=by rw[IE];unfold HF;grind
 have e2:HF q*((p.2:Rat)*(q.2:Rat))=((q.1*p.2:Int):Rat):=by rw[IE];unfold HF;grind
 rw[<- JL,<- e1,<- e2]
 constructor
 ·intro h;have:=Jx (a:=HF q-HF p) (by grind) h3
  grind
 ·intro h;refine Ic λz=>?_;have:=IW (a:=HF p-HF q) (b:=(p.2:Rat)*(q.2:Rat)) (by grind) (by grind)
  grind
theorem wF{q:Int×Int}(hp:Low p.1 p.2)(hq:Low q.1 q.2)(e:HF p=HF q):p=q:=by
 have h1:¬ p.1*q.2<q.1*p.2:=λz=>by have:=(jU hp.pos hq.pos).mpr z;grind
 have h2:¬ q.1*p.2<p.1*q.2:=λz=>by have:=(jU hq.pos hp.pos).mpr z;grind
 have:=hp.uniq hq 'b'
 exact Prod.ext this.1 this.2
theorem pP(a:Int):HF (HD a 1,Hf a 1)=(a:Rat):=by
 rw[ik a 'd'];show (a:Rat) / ((1:Int):Rat)=a;rw[show ((1:Int):Rat)=1 from rfl];grind
theorem rF(a:Int):HD a 1=a/\Hf a 1=1:=Low.self ⟨by decide,by unfold gc;simp⟩
theorem C8(h:0<p.2):((p.1.fdiv p.2:Int):Rat)<=HF p/\HF p<((p.1.fdiv p.2+1:Int):Rat):=by
 have m0:=IV p.1 h
 have m1:=Jl p.1 h
 have e:p.2*p.1.fdiv p.2+p.1.fmod p.2=p.1:=by rw[Int.fmod_def];omega
 have hr:=kg h
 generalize hf:p.1.fdiv p.2=f at *
 have e1:((f:Int):Rat)=HF (f,1):=by unfold HF;show _=((f:Int):Rat) / ((1:Int):Rat);rw[show ((1:Int):Rat)=1 from rfl];grind
 have e2:((f+1:Int):Rat)=HF (f+1,1):=by unfold HF;show _=((f+1:Int):Rat) / ((1:Int):Rat);rw[show ((1:Int):Rat)=1 from rfl];grind
 rw[e1,e2]
 constructor
 ·refine Ic λz=>?_;have:=(jU (p:=p) (q:=(f,1)) h Int.one_pos).mp (by grind);simp only at this;have:p.2*f=f*p.2:=Jd ..;omega
 ·refine(jU (p:=p) (q:=(f+1,1)) h Int.one_pos).mpr ?_;simp only;rw[Int.add_mul];have:p.2*f=f*p.2:=Jd ..;omega
def Hx(ks:Zb)(ps:Za):Str->Rat:=λn=>HF (fO ks ps n)
theorem ov_R{K:Int}(h0:0<pB ks ps n)(hd:pB ks ps n ∣ K):((ov (pT ks ps) 'w' K n:Int):Rat)=(K:Rat)*Hx ks ps n:=by
 obtain⟨y,rfl⟩:=hd;have hn:pB ks ps n≠0:=by omega
 unfold ov Hx HF;rw[Jt _ hn,IE,IE];have:=gn hn;show ((pT ks ps n:Int):Rat)*_=((pB ks ps n:Int):Rat)*_*(((pT ks ps n:Int):Rat) / ((pB ks ps n:Int):Rat))
 grind
theorem nP{K:Int}:∀ {ts:List (Str×Int)},(∀t∈ts,0<pB ks ps t.1/\pB ks ps t.1 ∣ K)->((cV (ov (pT ks ps) 'w' K) ts:Int):Rat)=(K:Rat)*du (Hx ks ps) ts
 | [],_=>by show ((0:Int):Rat)=_*0;rw[show ((0:Int):Rat)=0 from rfl];grind
 | t::r,h=>by
  show ((t.2*ov _ _ K t.1+cV _ r:Int):Rat)=_*((t.2:Rat)*_+du _ r)
  obtain⟨h1,h2⟩:=h t (HY ..);rw[Jz,IE,ov_R h1 h2,nP λu hu=>h u (HV _ hu)];grind
def bnd(ks:Zb)(ps:Za)(n:Str)(r:Rw):Int×Int :=
 let o:=r.2.1.filter λt=>decide (t.1≠n)
 let K:=Hl 'w' (o.map (·.1))
 (HD (r.2.2*K-cV (ov (pT ks ps) 'w' K) o) (cf r.2.1 n*K),Hf (r.2.2*K-cV (ov (pT ks ps) 'w' K) o) (cf r.2.1 n*K))
theorem fD{x:Str->Rat}(h:x n=0):∀ts:List (Str×Int),du x (ts.filter λt=>decide (t.1≠n))=du x ts
 | []=>rfl
 | t::r=>by
  by_cases e:t.1=n
  ·rw[IG (by simp[e]),fD h r];show _=(t.2:Rat)*x t.1+_;rw[e,h];grind
  ·rw[IS (by simp[e])];show _+_=_+du x r;rw[fD h r]
theorem Db{r:Rw}(hp:∀t∈r.2.1,t.1≠n->0<pB ks ps t.1)(h0:Hx ks ps n=0)(hc:cf r.2.1 n≠0) :
  Low (bnd ks ps n r).1 (bnd ks ps n r).2/\HF (bnd ks ps n r)=-(du (Hx ks ps) r.2.1-(r.2.2:Int)) / ((cf r.2.1 n:Int):Rat):=by
 unfold bnd;have ho:∀t∈r.2.1.filter (λt=>decide (t.1≠n)),0<pB ks ps t.1:=λt ht=>by
  obtain⟨h1,h2⟩:=Ia.mp ht;exact hp t h1 (by simpa using h2)
 have hs:=fD h0 r.2.1
 generalize ho':r.2.1.filter (λt=>decide (t.1≠n))=o at *
 have hK:0<Hl 'w' (o.map (·.1)):=cN λk hk=>by
  obtain⟨t,ht,rfl⟩:=HW.mp hk;exact ho t ht
 have e:=nP (ks:=ks) (ps:=ps) (K:=Hl 'w' (o.map (·.1))) (ts:=o) λt ht=>⟨ho t ht,dZ (HW.mpr ⟨t,ht,rfl⟩)⟩
 simp only;generalize Hl 'w' (o.map (·.1))=K at *;have aa:cf r.2.1 n*K≠0:=IN hc 'b';refine⟨eJ _ aa,?_⟩;rw[ik _ aa,IE,Rat.intCast_sub,IE,e,hs];have h1:=gn hc;have h2:=gn (show K≠0 by omega)
 grind
abbrev En2:=Option (Int×Int)×Bool
def tgt(lo:Bool)(a b:En2):En2:=match a.1,b.1 with
 | none,_=>b
 | some _,none=>a
 | some p,some q=>if p=q then (some p,a.2&&b.2) else if decide (q.1*p.2<p.1*q.2)=lo then a else b
structure Tgt(lo:Bool)(cs:List ((Int×Int)×Bool))(e:En2):Prop where
 nn:e.1=none->cs=[]
 so:∀p,e.1=some p->Low p.1 p.2/\(∃c∈cs,c.1=p/\c.2=e.2)/\∀c∈cs,(c.1=p/\(e.2=true->c.2=true))\/(c.1≠p/\(if lo then HF c.1<HF p else HF p<HF c.1))
theorem Tgt.nil{lo:Bool}:Tgt lo [] (none,false):=⟨λ_=>rfl,λ_ h=>(nomatch h)⟩
theorem Tgt.step{lo:Bool}{cs:List ((Int×Int)×Bool)}{e:En2}{c:(Int×Int)×Bool}(h:Tgt lo cs e)(hc:Low c.1.1 c.1.2):Tgt lo (cs++[c]) (tgt lo e (some c.1,c.2)):=by
 obtain⟨e1,e2⟩:=e;obtain⟨q,b⟩:=c
 cases e1 with
 | none =>
  have:cs=[]:=h.nn rfl
  subst this;refine⟨λz=>(nomatch z),λp hp=>?_⟩
  cases hp
  exact⟨hc,⟨(q,b),by simp,rfl,rfl⟩,λc hc=>by
   have:c=(q,b):=by simpa using hc
   subst this;exact .inl ⟨rfl,id⟩⟩
 | some p =>
  obtain⟨lp,⟨w,hw,w1,w2⟩,all⟩:=h.so p rfl;show Tgt lo _ (if p=q then (some p,e2&&b) else if decide (q.1*p.2<p.1*q.2)=lo then (some p,e2) else (some q,b));have lt:=jU (p:=q) (q:=p) hc.pos lp.pos;have gt:=jU (p:=p) (q:=q) lp.pos hc.pos
  by_cases e:p=q
  ·rw[Ir e];subst e;refine⟨λz=>(nomatch z),λp' hp=>?_⟩
   cases hp
   refine⟨lp,?_,λc hc'=>?_⟩
   ·cases b
    ·exact⟨(p,false),by simp,rfl,by simp⟩
    ·exact⟨w,Il _ hw,w1,by simpa using w2⟩
   ·rcases Ip.mp hc' with hc' | hc'
    ·rcases all c hc' with⟨a1,a2⟩ | a
     ·exact .inl ⟨a1,λz=>a2 (by simpa using (by simpa using z:e2=true/\b=true).1)⟩
     ·exact .inr a
    ·have:c=(p,b):=by simpa using hc'
     subst this;exact .inl ⟨rfl,λz=>(by simpa using z:e2=true/\b=true).2⟩
  ·rw[Io e];have ne:HF p≠HF q:=λz=>e (wF lp hc z)
   by_cases k:decide (q.1*p.2<p.1*q.2)=lo
   ·rw[Ir k];refine⟨λz=>(nomatch z),λp' hp=>?_⟩
    cases hp
    refine⟨lp,⟨w,Il _ hw,w1,w2⟩,λc hc'=>?_⟩
    rcases Ip.mp hc' with hc' | hc'
    ·exact all c hc'
    ·have:c=(q,b):=by simpa using hc'
     subst this;refine .inr ⟨λz=>e z.symm,?_⟩
     cases lo
     ·have:=(decide_eq_false_iff_not.mp k)
      simp only[Bool.false_eq_true,if_false];have:¬ HF q<HF p:=λz=>this (lt.mp z)
      grind
     ·simp only[if_true];exact lt.mpr (Kc.mp k)
   ·rw[Io k];refine⟨λz=>(nomatch z),λp' hp=>?_⟩
    cases hp
    have pq:if lo then HF p<HF q else HF q<HF p:=by
     cases lo
     ·simp only[Bool.false_eq_true,if_false];simp only[Bool.not_eq_false,decide_eq_true_eq] at k;exact lt.mpr k
     ·simp only[if_true];simp only[decide_eq_true_eq] at k;have:¬ HF q<HF p:=λz=>k (lt.mp z)
      grind
    refine⟨hc,⟨(q,b),by simp,rfl,rfl⟩,λc hc'=>?_⟩
    rcases Ip.mp hc' with hc' | hc'
    ·have x:=all c hc'
     refine .inr ?_
     cases lo
     ·simp only[Bool.false_eq_true,if_false] at x pq ⊢;have:HF q<HF c.1:=by rcases x with x | x;rw[x.1];exact pq;grind
      exact⟨λz=>by rw[z] at this;grind,this⟩
     ·simp only[if_true] at x pq ⊢;have:HF c.1<HF q:=by rcases x with x | x;rw[x.1];exact pq;grind
      exact⟨λz=>by rw[z] at this;grind,this⟩
    ·have:c=(q,b):=by simpa using hc'
     subst this;exact .inl ⟨rfl,id⟩
def nmb(lo hi:Option (Int×Int)):Int×Int:=match lo,hi with
 | none,none=>(0,1)
 | none,some h=>(HD (h.1.fdiv h.2-1) 1,Hf (h.1.fdiv h.2-1) 1)
 | some l,none=>(HD (l.1.fdiv l.2+1) 1,Hf (l.1.fdiv l.2+1) 1)
 | some l,some h =>
  if HD (l.1.fdiv l.2+1) 1*h.2<h.1*Hf (l.1.fdiv l.2+1) 1 then (HD (l.1.fdiv l.2+1) 1,Hf (l.1.fdiv l.2+1) 1)
  else if l=h then l
  else
   let s:Int×Int:=(HD (l.1*h.2+h.1*l.2) (l.2*h.2),Hf (l.1*h.2+h.1*l.2) (l.2*h.2))
   (HD (s.1*1) (s.2*2),Hf (s.1*1) (s.2*2))
theorem Di{lo hi:En2}(h1:∀p,lo.1=some p->Low p.1 p.2)(h2:∀p,hi.1=some p->Low p.1 p.2)(hh:∀p q,lo.1=some p->hi.1=some q->HF p<HF q\/(HF p=HF q/\lo.2=true/\hi.2=true)) :
  Low (nmb lo.1 hi.1).1 (nmb lo.1 hi.1).2/\(∀p,lo.1=some p->HF p<HF (nmb lo.1 hi.1)\/(HF p=HF (nmb lo.1 hi.1)/\lo.2=true))/\∀q,hi.1=some q->HF (nmb lo.1 hi.1)<HF q\/(HF (nmb lo.1 hi.1)=HF q/\hi.2=true):=by
 obtain⟨l,lb⟩:=lo;obtain⟨h,hb⟩:=hi;have L1:∀a,Low (HD a 1) (Hf a 1):=λa=>eJ a 'd'
 cases l with
 | none =>
  cases h with
  | none=>exact⟨(⟨by decide,by unfold gc;decide⟩:Low 0 1),λp z=>(nomatch z),λp z=>(nomatch z)⟩
  | some h =>
   refine⟨L1 _,λp z=>(nomatch z),λp z=>?_⟩
   cases z
   have:=C8 (h2 _ rfl).pos
   refine .inl ?_;show HF (HD _ 1,Hf _ 1)<_;rw[pP,Rat.intCast_sub,show ((1:Int):Rat)=1 from rfl];grind
 | some l =>
  have hl:=h1 _ rfl
  have fl:=C8 hl.pos
  cases h with
  | none =>
   refine⟨L1 _,λp z=>?_,λp z=>(nomatch z)⟩
   cases z
   refine .inl ?_;show _<HF (HD _ 1,Hf _ 1);rw[pP];exact fl.2
  | some h =>
   have hH:=h2 _ rfl
   have c:=hh _ _ rfl rfl
   show Low (nmb (some l) (some h)).1 (nmb (some l) (some h)).2/\(∀p,some l=some p->HF p<HF (nmb (some l) (some h))\/_/\lb=true)/\(∀q,some h=some q->HF (nmb (some l) (some h))<HF q\/_/\hb=true)
   unfold nmb;simp only
   by_cases k:HD (l.1.fdiv l.2+1) 1*h.2<h.1*Hf (l.1.fdiv l.2+1) 1
   ·rw[Ir k];refine⟨L1 _,λp z=>?_,λp z=>?_⟩
    ·cases z;rw[pP];exact .inl fl.2
    ·cases z;exact .inl ((jU (L1 _).pos hH.pos).mpr k)
   ·rw[Io k]
    by_cases e:l=h
    ·rw[Ir e];subst e;have:lb=true/\hb=true:=by rcases c with c | c;grind;exact c.2
     exact⟨hl,λp z=>by cases z;exact .inr ⟨rfl,this.1⟩,λp z=>by cases z;exact .inr ⟨rfl,this.2⟩⟩
    ·rw[Io e];have lt:HF l<HF h:=by
      rcases c with c | c
      ·exact c
      ·exact absurd (wF hl hH c.1) e
     have nz:l.2*h.2≠0:=IN hl.ne hH.ne
     have sl:=eJ (l.1*h.2+h.1*l.2) nz
     have aa:Hf (l.1*h.2+h.1*l.2) (l.2*h.2)*2≠0:=IN sl.ne 'd'
     have e1:HF (HD (l.1*h.2+h.1*l.2) (l.2*h.2),Hf (l.1*h.2+h.1*l.2) (l.2*h.2))=HF l+HF h:=by
      rw[ik _ nz,Jz,IE,IE,IE];have a1:=gn hl.ne;have a2:=gn hH.ne;unfold HF
      grind
     have e2:HF (HD (HD (l.1*h.2+h.1*l.2) (l.2*h.2)*1) (Hf (l.1*h.2+h.1*l.2) (l.2*h.2)*2),Hf (HD (l.1*h.2+h.1*l.2) (l.2*h.2)*1) (Hf (l.1*h.2+h.1*l.2) (l.2*h.2)*2))=(HF l+HF h) / 2:=by
      rw[ik _ aa,<- e1,IE,IE,show ((1:Int):Rat)=1 from rfl,show ((2:Int):Rat)=2 from rfl];have a1:=gn sl.ne;unfold HF
      grind
     refine⟨eJ _ aa,λp z=>?_,λp z=>?_⟩
     ·cases z;rw[e2];exact .inl (by grind)
     ·cases z;rw[e2];exact .inl (by grind)
end Mf
namespace Mf
open PySem L2 DL
variable {nm ks:Zb} {rows:List Rw} {ps:Za} {n:Str}
def cnd(nm:Zb)(rows:List Rw)(ks:Zb)(ps:Za)(n:Str)(w:Ze):(Int×Int)×Bool:=(bnd ks ps n (HG nm rows w),!Hw 'f')
def Hs(nm:Zb)(rows:List Rw)(ks:Zb)(ps:Za)(n:Str)(W:List (List Int)):En2×En2 :=
  W.foldl (λe w =>
    (if 0<cfs 'f' n then tgt true e.1 (some 'j'.1,'j'.2) else e.1,
     if cfs 'f' n<0 then tgt false e.2 (some 'j'.1,'j'.2) else e.2)) ((none,false),(none,false))
theorem AA:∀(W:List (List Int)),(∀w∈W,cfs 'f' n≠0->Low 'j'.1.1 'j'.1.2) ->
    Tgt true ((W.filter λw=>decide (0<cfs 'f' n)).map (cnd nm rows ks ps n)) (Hs nm rows ks ps n W).1/\Tgt false ((W.filter λw=>decide (cfs 'f' n<0)).map (cnd nm rows ks ps n)) (Hs nm rows ks ps n W).2:=by
  intro W;unfold Hs;have:∀(W:List (List Int)) (c1 c2:List ((Int×Int)×Bool)) (e:En2×En2),(∀w∈W,cfs 'f' n≠0->Low 'j'.1.1 'j'.1.2)->Tgt true c1 e.1->Tgt false c2 e.2 ->
      Tgt true (c1++(W.filter λw=>decide (0<cfs 'f' n)).map (cnd nm rows ks ps n)) (W.foldl (λe w =>
    (if 0<cfs 'f' n then tgt true e.1 (some 'j'.1,'j'.2) else e.1,
     if cfs 'f' n<0 then tgt false e.2 (some 'j'.1,'j'.2) else e.2)) e).1 /\
      Tgt false (c2++(W.filter λw=>decide (cfs 'f' n<0)).map (cnd nm rows ks ps n)) (W.foldl (λe w =>
    (if 0<cfs 'f' n then tgt true e.1 (some 'j'.1,'j'.2) else e.1,
     if cfs 'f' n<0 then tgt false e.2 (some 'j'.1,'j'.2) else e.2)) e).2:=λW=>by
    induction W with
    | nil=>intro c1 c2 e _ h1 h2;simpa using ⟨h1,h2⟩
    | cons w W ih =>
      intro c1 c2 e hl h1 h2;have aa:=λw h=>hl w (HV _ h);rw[Le]
      by_cases p:0<cfs 'f' n
      · have q:¬ cfs 'f' n<0:=by omega
        rw[Ir p,Io q,IS (by simpa using p),IG (by simpa using q),Iy,List.append_cons];exact ih (c1++[cnd nm rows ks ps n w]) c2 (tgt true e.1 (some 'j'.1,'j'.2),e.2) aa (h1.step (hl w (HY ..) 'b')) h2
      · by_cases q:cfs 'f' n<0
        · rw[Io p,Ir q,IG (by simpa using p),IS (by simpa using q),Iy,List.append_cons];exact ih c1 (c2++[cnd nm rows ks ps n w]) (e.1,tgt false e.2 (some 'j'.1,'j'.2)) aa h1 (h2.step (hl w (HY ..) 'b'))
        · rw[Io p,Io q,IG (by simpa using p),IG (by simpa using q)];exact ih c1 c2 e aa h1 h2
  intro h;simpa using this W [] [] ((none,false),(none,false)) h .nil .nil
theorem uy{x:Str->Rat}{v:Rat}(h:x n=0):∀l:List (Rw×Int),evl (wU x n v) l=evl x l+v*((cfs l n:Int):Rat)
 | []=>by show (0:Rat)=0+v*((0:Int):Rat);rw[show ((0:Int):Rat)=0 from rfl];grind
 | p::r=>by
  show _*(du (wU x n v) p.1.2.1-_)+evl (wU x n v) r=_*(du x p.1.2.1-_)+evl x r+v*((p.2*cf p.1.2.1 n+cfs r n:Int):Rat)
  rw[qx h,uy h r,Jz,IE];grind
theorem Fg(h:Rws nm rows)(x:Str->Rat)(w:Ze):du x (HG nm rows w).2.1-((HG nm rows w).2.2:Int)=evl x 'f':=by
 rw[vo (x:=x) h.nd (l:=rows.zip w) λp hp=>h.sub p.1 (IT hp).1];have e2:du x (Mf.smT nm (Mf.cfs 'f'))=oO x (Mf.cfs 'f') nm:=by
  rw[qE h.nd λt ht=>?_]
  ·congr 1;exact funext λn=>(h.smT w).cf n
  ·obtain⟨n,hn,rfl⟩:=HW.mp ht;exact(Ia.mp hn).1
 show du x (Mf.smT nm (Mf.cfs 'f'))-_=_
 rw[e2];rfl
theorem dS(h:Rws nm rows)(w:Ze)(n:Str):cf (HG nm rows w).2.1 n=cfs 'f' n:=(h.smT w).cf n
theorem jY{w:Ze}{t:Str×Int}(ht:t∈(HG nm rows w).2.1):t.1∈nm/\cfs 'f' t.1≠0/\t.2=cfs 'f' t.1:=by
 obtain⟨n,hn,rfl⟩:=HW.mp ht;obtain⟨h1,h2⟩:=Ia.mp hn;exact⟨h1,by simpa using h2,rfl⟩
theorem Bl(H:Rws nm rows){ns:Zb}{x:Str->Rat}(hso:∀w∈Hi rows (n::ns),HJ x (HG nm rows w)){l h:Ze}(hl:l∈Hi rows ns)(hh:h∈Hi rows ns)
    (cl:0<cfs (rows.zip l) n) (ch:cfs (rows.zip h) n<0) :
    -(evl x (rows.zip l)) / ((cfs (rows.zip l) n:Int):Rat) < -(evl x (rows.zip h)) / ((cfs (rows.zip h) n:Int):Rat) \/
      (-(evl x (rows.zip l)) / ((cfs (rows.zip l) n:Int):Rat)=-(evl x (rows.zip h)) / ((cfs (rows.zip h) n:Int):Rat)/\Hw (rows.zip l)=false/\Hw (rows.zip h)=false):=by
  obtain⟨wl,al⟩:=ca hl;obtain⟨wh,ah⟩:=ca hh;have nl:=vH wl.len wl.nn;have nh:=vH wh.len wh.nn;have c1:(0:Rat)<((cfs (rows.zip l) n:Int):Rat):=kg cl;have c2:((cfs (rows.zip h) n:Int):Rat)<0:=by have:=JL.mpr ch;simpa using this
  have aa:=rQ (rows:=rows) (n::ns) (λ_=>True) (eV x rows) (λs hs _=>by
    obtain⟨w,hw,rfl⟩:=HW.mp hs
    exact(FB H (ca hw).1.len).mp (hso w hw)) (λi=>-((cfs (rows.zip h) n:Int):Rat)*HB l i+((cfs (rows.zip l) n:Int):Rat)*HB h i)
    ⟨λi=>by
      have a1:=IW (a:=-((cfs (rows.zip h) n:Int):Rat)) (b:=HB l i) (by grind) (nl.pos i)
      have a2:=IW (a:=((cfs (rows.zip l) n:Int):Rat)) (b:=HB h i) (by grind) (nh.pos i)
      grind,λi hi=>by rw[nl.top i hi,nh.top i hi];grind⟩
    (λc hc=>by
      obtain⟨k,hk,rfl⟩:=HW.mp hc;rw[dL,<- mh wl.len,<- mh wh.len]
      rcases Ih.mp hk with rfl | hk
      · grind
      · rw[al k hk,ah k hk,show ((0:Int):Rat)=0 from rfl];grind) (λ_ _=>trivial)
  unfold sat at aa;rw[dL,<- l5 wl.len,<- l5 wh.len] at aa;generalize evl x (rows.zip l)=L at *;generalize evl x (rows.zip h)=R at *;generalize hcl:((cfs (rows.zip l) n:Int):Rat)=a at *;generalize hch:((cfs (rows.zip h) n:Int):Rat)=b at *;have e1:-b*L+a*R=((-R / b)-(-L / a))*(a*(-b)):=by grind
  have pp:=Jx (a:=a) (b:=-b) c1 (by grind)
  rw[e1] at aa
  rcases aa with k | ⟨k,st⟩
  · refine .inl (Ic λz=>?_);have:=IW (a:=(-L / a)-(-R / b)) (b:=a * -b) (by grind) (by grind)
    grind
  · refine .inr ⟨by rcases Ku.mp k with q | q<;>grind,(rR wl.len).mpr λi hi hp=>st i hi ?_,(rR wh.len).mpr λi hi hp=>st i hi ?_⟩
    · have a1:=Jx (a:=-b) (b:=HB l i) (by grind) hp
      have a2:=IW (a:=a) (b:=HB h i) (by grind) (nh.pos i)
      grind
    · have a1:=IW (a:=-b) (b:=HB l i) (by grind) (nl.pos i)
      have a2:=Jx (a:=a) (b:=HB h i) c1 hp
      grind
theorem back(H:Rws nm rows){ns:Zb}(hso:∀w∈Hi rows (n::ns),HJ (Hx ks ps) (HG nm rows w))(h0:Hx ks ps n=0)
  (hp:∀w∈Hi rows ns,∀t∈(HG nm rows w).2.1,t.1≠n->0<pB ks ps t.1) :
  Low (nmb (Hs nm rows ks ps n (Hi rows ns)).1.1 (Hs nm rows ks ps n (Hi rows ns)).2.1).1 (nmb (Hs nm rows ks ps n (Hi rows ns)).1.1 (Hs nm rows ks ps n (Hi rows ns)).2.1).2 /\
   ∀w∈Hi rows ns,HJ (wU (Hx ks ps) n (HF (nmb (Hs nm rows ks ps n (Hi rows ns)).1.1 (Hs nm rows ks ps n (Hi rows ns)).2.1))) (HG nm rows w):=by
 have bo:∀w∈Hi rows ns,cfs 'f' n≠0->Low 'j'.1.1 'j'.1.2/\HF 'j'.1=-(evl (Hx ks ps) 'f') / ((cfs 'f' n:Int):Rat):=λw hw hc=>by
  have:=Db (hp w hw) h0 (by rw[dS H];exact hc)
  rw[Fg H,dS H] at this;exact this
 obtain⟨T1,T2⟩:=AA (nm:=nm) (rows:=rows) (ks:=ks) (ps:=ps) (n:=n) (Hi rows ns) λw hw hc=>(bo w hw hc).1;generalize Hs nm rows ks ps n (Hi rows ns)=e at *;obtain⟨lo,hi⟩:=e;simp only at *;have at1:∀p,lo.1=some p->∃l∈Hi rows ns,0<cfs (rows.zip l) n/\p=(cnd nm rows ks ps n l).1/\lo.2=!Hw (rows.zip l):=λp hp=>by
  obtain⟨_,⟨c,hc,e1,e2⟩,_⟩:=T1.so p hp;obtain⟨l,hl,rfl⟩:=HW.mp hc;obtain⟨ab,ag⟩:=Ia.mp hl;exact⟨l,ab,by simpa using ag,e1.symm,e2.symm⟩
 have at2:∀p,hi.1=some p->∃l∈Hi rows ns,cfs (rows.zip l) n<0/\p=(cnd nm rows ks ps n l).1/\hi.2=!Hw (rows.zip l):=λp hp=>by
  obtain⟨_,⟨c,hc,e1,e2⟩,_⟩:=T2.so p hp;obtain⟨l,hl,rfl⟩:=HW.mp hc;obtain⟨ab,ag⟩:=Ia.mp hl;exact⟨l,ab,by simpa using ag,e1.symm,e2.symm⟩
 obtain⟨ah,v1,v2⟩:=Di (lo:=lo) (hi:=hi) (λp h=>(T1.so p h).1) (λp h=>(T2.so p h).1) λp q hp hq=>by
  obtain⟨l,hl,cl,rfl,sl⟩:=at1 p hp;obtain⟨h,hh,ch,rfl,sh⟩:=at2 q hq;rw[(bo l hl 'b').2,(bo h hh 'b').2]
  rcases Bl H hso hl hh cl ch with k | ⟨k1,k2,k3⟩
  ·exact .inl k
  ·exact .inr ⟨k1,by rw[sl,k2];rfl,by rw[sh,k3];rfl⟩
 refine⟨ah,λw hw=>?_⟩;rw[qQ H,uy h0];generalize HF (nmb lo.1 hi.1)=v at *
 rcases Int.lt_trichotomy (cfs (rows.zip w) n) 0 with c | c | c
 ·obtain⟨_,b2⟩:=bo w hw 'b';have cr:((cfs 'f' n:Int):Rat)<0:=by have:=JL.mpr c;simpa using this
  have hm:cnd nm rows ks ps n w∈((Hi rows ns).filter λw=>decide (cfs 'f' n<0)).map (cnd nm rows ks ps n):=HW.mpr ⟨w,Ia.mpr ⟨hw,by simpa using c⟩,rfl⟩
  cases hlo:hi.1 with
  | none=>rw[T2.nn hlo] at hm;cases hm
  | some p =>
   have vv:=v2 p hlo
   have aa:v<HF 'j'.1\/(v=HF 'j'.1/\Hw 'f'=false):=by
    rcases(T2.so p hlo).2.2 _ hm with⟨z1,z2⟩ | ⟨_,z⟩
    ·rw[z1];refine vv.imp id λ⟨y1,y2⟩=>⟨y1,?_⟩;have:(!Hw 'f')=true:=z2 y2;simpa using this
    ·simp only[Bool.false_eq_true,if_false] at z;exact .inl (by grind)
   rw[b2] at aa;generalize evl (Hx ks ps) 'f'=L at *;generalize ((cfs 'f' n:Int):Rat)=a at *;have e1:L+v*a=((-L / a)-v)*(-a):=by grind
   rw[e1]
   rcases aa with k | k
   ·exact .inl (Jx (by grind) (by grind))
   ·exact .inr ⟨by rw[<- k.1];grind,k.2⟩
 ·have:=hso w (ky.mpr (.inl ⟨hw,c⟩))
  rw[qQ H] at this;rw[c,show ((0:Int):Rat)=0 from rfl];have e:evl (Hx ks ps) 'f'+v*0=evl (Hx ks ps) 'f':=by grind
  rw[e];exact this
 ·obtain⟨_,b2⟩:=bo w hw 'b';have cr:(0:Rat)<((cfs 'f' n:Int):Rat):=kg c;have hm:cnd nm rows ks ps n w∈((Hi rows ns).filter λw=>decide (0<cfs 'f' n)).map (cnd nm rows ks ps n):=HW.mpr ⟨w,Ia.mpr ⟨hw,by simpa using c⟩,rfl⟩
  cases hlo:lo.1 with
  | none=>rw[T1.nn hlo] at hm;cases hm
  | some p =>
   have vv:=v1 p hlo
   have aa:HF 'j'.1<v\/(HF 'j'.1=v/\Hw 'f'=false):=by
    rcases(T1.so p hlo).2.2 _ hm with⟨z1,z2⟩ | ⟨_,z⟩
    ·rw[z1];refine vv.imp id λ⟨y1,y2⟩=>⟨y1,?_⟩;have:(!Hw 'f')=true:=z2 y2;simpa using this
    ·simp only[if_true] at z;exact .inl (by grind)
   rw[b2] at aa;generalize evl (Hx ks ps) 'f'=L at *;generalize ((cfs 'f' n:Int):Rat)=a at *;have e1:L+v*a=(v-(-L / a))*a:=by grind
   rw[e1]
   rcases aa with k | k
   ·exact .inl (Jx (by grind) (by grind))
   ·exact .inr ⟨by rw[<- k.1];grind,k.2⟩
def fbk(nm:Zb)(rows:List Rw):Zb->Zb->Za->Za
 | [],_,ps=>ps
 | n::ns,ks,ps=>fbk nm rows ns (ks++[n]) (ps++[nmb (Hs nm rows ks ps n (Hi rows ns)).1.1 (Hs nm rows ks ps n (Hi rows ns)).2.1])
theorem ri{α:Type}{k:Str}{v:α}:∀ {ks:Zb} {ps:List α},ps.length=ks.length->n∉ks->dAt (ks++[n]) (ps++[v]) k=if k=n then some v else dAt ks ps k
 | [],[],_,_=>by
  show (if n=k then some v else dAt [] [] k)=if k=n then some v else none
  by_cases e:n=k
  ·rw[Ir e,Ir e.symm]
  ·rw[Io e,Io λz=>e z.symm];rfl
 | x::ks,p::ps,h,hn=>by
  rw[Ih,not_or] at hn;show (if x=k then some p else dAt (ks++[n]) (ps++[v]) k)=_;rw[ri (by simpa using h) hn.2]
  by_cases e:x=k
  ·rw[Ir e,Io λz=>hn.1 (z.symm.trans e.symm)];show _=if x=k then some p else dAt ks ps k;rw[Ir e]
  ·rw[Io e];show _=if k=n then some v else if x=k then some p else dAt ks ps k;rw[Io e]
theorem gE{k:Str}{v:Int×Int}(h:ps.length=ks.length)(hn:n∉ks):fO (ks++[n]) (ps++[v]) k=if k=n then v else fO ks ps k:=by
 unfold fO;rw[ri h hn]
 by_cases e:k=n
 ·rw[Ir e,Ir e];rfl
 ·rw[Io e,Io e]
theorem rq{v:Int×Int}(h:ps.length=ks.length)(hn:n∉ks):Hx (ks++[n]) (ps++[v])=wU (Hx ks ps) n (HF v):=by
 funext k
 unfold Hx wU;rw[gE h hn]
 by_cases e:k=n
 ·rw[Ir e,Ir e]
 ·rw[Io e,Io e]
theorem xN(h:n∉ks):fO ks ps n=(0,1):=by
 unfold fO;rw[ql h];rfl
theorem vK(h:n∉ks):Hx ks ps n=0:=by
 unfold Hx HF;rw[xN h,show ((((0,1):Int×Int).1:Int):Rat)=0 from rfl];grind
theorem vT(H:Rws nm rows):∀(ns ks:Zb) (ps:Za),ps.length=ks.length->(∀p∈ps,Low p.1 p.2)->(ks++ns).Nodup->(∀n∈nm,n∈ks\/n∈ns)->(∀w∈Hi rows ns,HJ (Hx ks ps) (HG nm rows w)) ->
  (fbk nm rows ns ks ps).length=(ks++ns).length/\(∀p∈fbk nm rows ns ks ps,Low p.1 p.2)/\ps <+: fbk nm rows ns ks ps/\∀w∈Hi rows [],HJ (Hx (ks++ns) (fbk nm rows ns ks ps)) (HG nm rows w)
 | [],ks,ps,hl,lo,nd,hm,hs=>by
  rw[IZ];exact⟨hl,lo,List.prefix_refl _,hs⟩
 | n::ns,ks,ps,hl,lo,nd,hm,hs=>by
  have nd':(ks++[n]++ns).Nodup:=by simpa using nd
  have hn:n∉ks:=λz=>by
   have:=(Jp.mp nd).2.2 n z n (HY ..)
   exact this rfl
  have hp:∀w∈Hi rows ns,∀t∈(HG nm rows w).2.1,t.1≠n->0<pB ks ps t.1:=λw hw t ht hne=>by
   obtain⟨h1,h2,_⟩:=jY ht;have:t.1∈ks:=by
    rcases hm t.1 h1 with z | z
    ·exact z
    ·rcases Ih.mp z with z | z
     ·exact absurd z hne
     ·exact absurd ((ca hw).2 _ z) h2
   have P:Pt ks ps (ps.foldl (λa p=>a+Builtin.Int.intBits p.1+Builtin.Int.intBits p.2) 0):=⟨hl,lo,λp hp=>?_,λp hp=>?_⟩
   ·exact P.pos this
   ·exact(bits_fold ps 0 p hp).1
   ·exact(bits_fold ps 0 p hp).2
  obtain⟨b1,b2⟩:=back H hs (vK hn) hp
  obtain⟨c1,c2,c3,c4⟩:=vT H ns (ks++[n]) (ps++[_]) (by simp[hl]) (λp hp=>(Ip.mp hp).elim (lo p) λz=>by rw[Ii.mp z];exact b1) nd' (λk hk=>by
   rcases hm k hk with z | z
   ·exact .inl (Il _ z)
   ·rcases Ih.mp z with z | z
    ·exact .inl (Ig _ (Ii.mpr z))
    ·exact .inr z) (λw hw=>by rw[rq hl hn];exact b2 w hw)
  have e:ks++n::ns=ks++[n]++ns:=by simp
  rw[e];exact⟨c1,c2,(List.prefix_append ..).trans c3,c4⟩
where
 bits_fold:∀(l:Za) (a:Nat),∀p∈l,Builtin.Int.intBits p.1<=l.foldl (λa p=>a+Builtin.Int.intBits p.1+Builtin.Int.intBits p.2) a/\Builtin.Int.intBits p.2<=l.foldl (λa p=>a+Builtin.Int.intBits p.1+Builtin.Int.intBits p.2) a
  | q::l,a,p,h=>by
   rw[Le];have mono:∀(l:Za) (a:Nat),a<=l.foldl (λa p=>a+Builtin.Int.intBits p.1+Builtin.Int.intBits p.2) a:=λl=>by
    induction l with
    | nil=>intro a;exact Ib a
    | cons q l ih=>intro a;rw[Le];exact HX 'b' (ih _)
   rcases Ih.mp h with rfl | h
   ·have:=mono l (a+Builtin.Int.intBits p.1+Builtin.Int.intBits p.2)
    omega
   ·exact bits_fold l _ p h
theorem mr(H:Rws nm rows){j:Nat}{r:Rw}(hj:rows[j]?=some r):HG nm rows (unW rows.length j)=r:=by
 have hr:=Im hj
 have ab:j<rows.length:=(List.getElem?_eq_some_iff.mp hj).1
 have z:∀ {i:Nat} {rs:List Rw} (k:Nat),k+rs.length<=i->∀n,cfs (rs.zip ((List.range' k rs.length).map λx=>if x=i then (1:Int) else 0)) n=0/\bds (rs.zip ((List.range' k rs.length).map λx=>if x=i then (1:Int) else 0))=0/\Hw (rs.zip ((List.range' k rs.length).map λx=>if x=i then (1:Int) else 0))=false:=λ{i rs}=>by
  induction rs with
  | nil=>intro k _ n;exact⟨rfl,rfl,rfl⟩
  | cons a rs ih =>
   intro k hk n;rw[Ik] at hk;obtain⟨i1,i2,i3⟩:=ih (k+1) 'b' n;rw[Ik,List.range'_succ,Iy,Io 'b'];refine⟨?_,?_,?_⟩
   ·show 0*cf a.2.1 n+cfs (rs.zip _) n=0
    rw[i1];omega
   ·show 0*a.2.2+bds (rs.zip _)=0
    rw[i2];omega
   ·show ((isM a.1&&decide ((0:Int)<0))||Hw (rs.zip _))=false
    rw[i3];simp
 have z2:∀ {i:Nat} {rs:List Rw} (k:Nat),i<k->∀n,cfs (rs.zip ((List.range' k rs.length).map λx=>if x=i then (1:Int) else 0)) n=0/\bds (rs.zip ((List.range' k rs.length).map λx=>if x=i then (1:Int) else 0))=0/\Hw (rs.zip ((List.range' k rs.length).map λx=>if x=i then (1:Int) else 0))=false:=λ{i rs}=>by
  induction rs with
  | nil=>intro k _ n;exact⟨rfl,rfl,rfl⟩
  | cons a rs ih =>
   intro k hk n;obtain⟨i1,i2,i3⟩:=ih (k+1) 'b' n;rw[Ik,List.range'_succ,Iy,Io 'b'];refine⟨?_,?_,?_⟩
   ·show 0*cf a.2.1 n+cfs (rs.zip _) n=0
    rw[i1];omega
   ·show 0*a.2.2+bds (rs.zip _)=0
    rw[i2];omega
   ·show ((isM a.1&&decide ((0:Int)<0))||Hw (rs.zip _))=false
    rw[i3];simp
 have aa:∀ {rs:List Rw} (k i:Nat),rs[i]?=some r->∀n,cfs (rs.zip ((List.range' k rs.length).map λx=>if x=k+i then (1:Int) else 0)) n=cf r.2.1 n/\bds (rs.zip ((List.range' k rs.length).map λx=>if x=k+i then (1:Int) else 0))=r.2.2/\Hw (rs.zip ((List.range' k rs.length).map λx=>if x=k+i then (1:Int) else 0))=isM r.1:=λ{rs}=>by
  induction rs with
  | nil=>intro k i h;cases h
  | cons a rs ih =>
   intro k i h n;rw[Ik,List.range'_succ,Iy]
   cases i with
   | zero =>
    cases h
    obtain⟨i1,i2,i3⟩:=z2 (i:=k) (rs:=rs) (k+1) 'b' n;rw[Ir 'b'];refine⟨?_,?_,?_⟩
    ·show 1*cf r.2.1 n+cfs (rs.zip _) n=_
     rw[Nat.add_zero,i1];omega
    ·show 1*r.2.2+bds (rs.zip _)=_
     rw[Nat.add_zero,i2];omega
    ·show ((isM r.1&&decide ((0:Int)<1))||Hw (rs.zip _))=_
     rw[Nat.add_zero,i3];simp
   | succ i =>
    obtain⟨i1,i2,i3⟩:=ih (k+1) i h n;rw[Io 'b',show k+(i+1)=k+1+i by omega];refine⟨?_,?_,?_⟩
    ·show 0*cf a.2.1 n+cfs (rs.zip _) n=_
     rw[i1];omega
    ·show 0*a.2.2+bds (rs.zip _)=_
     rw[i2];omega
    ·show ((isM a.1&&decide ((0:Int)<0))||Hw (rs.zip _))=_
     rw[i3];simp
 have k0:=aa (rs:=rows) 0 j hj
 have e:unW rows.length j=(List.range' 0 rows.length).map λx=>if x=0+j then (1:Int) else 0:=by unfold unW;rw[List.range_eq_range',Nat.zero_add]
 rw[<- e] at k0;have f1:(λn=>cfs (rows.zip (unW rows.length j)) n)=cf r.2.1:=funext λn=>(k0 n).1;have s1:=H.smT (unW rows.length j);unfold HG;have t1:Mf.smT nm (Mf.cfs (rows.zip (unW rows.length j)))=r.2.1:=by
  have f2:Mf.cfs (rows.zip (unW rows.length j))=cf r.2.1:=f1
  rw[f2] at s1 ⊢;exact s1.uniq (H.sum r hr)
 rw[t1,(k0 "").2.1,(k0 "").2.2];obtain⟨k,ts,b⟩:=r
 cases k<;>rfl
end Mf
namespace Mf
open PySem L2 DL
variable {n:Str} {c:Nat} {rows:List Rw}
abbrev ib(x:Int):Nat:=Builtin.Int.intBits x
def wb(B m:Nat):Nat->Nat
 | 0=>1
 | k+1=>2*wb B m k+B+m+1
def cb(B m k:Nat):Nat:=wb B m k+B+m
structure RwB(B:Nat)(rows:List Rw):Prop where
 tm:∀r∈rows,∀t∈r.2.1,ib t.2<=B
 bd:∀r∈rows,ib r.2.2<=B
theorem ib0:ib 0=0:=by decide
theorem AW{ts:List (Str×Int)}{B:Nat}(nd:(ts.map (·.1)).Nodup)(h:∀t∈ts,ib t.2<=B):ib (cf ts n)<=B:=by
 by_cases e:n∈ts.map (·.1)
 ·obtain⟨t,ht,rfl⟩:=HW.mp e;rw[mH nd ht];exact h t ht
 ·rw[kc e,ib0];exact Jq _
theorem rD{B W:Nat}{n:Str}:∀ {l:List (Rw×Int)},(∀p∈l,ib (cf p.1.2.1 n)<=B/\ib p.2<=W)->ib (cfs l n)<=W+B+l.length
 | [],_=>by show ib 0<=_;rw[ib0];omega
 | p::r,h=>by
  have h1:=h p (HY ..)
  have:=JH (Iz h1.2 h1.1) (rD (B:=B) (W:=W) (n:=n) λq hq=>h q (HV _ hq))
  show ib (p.2*cf p.1.2.1 n+cfs r n)<=_
  rw[Ik];unfold ib;omega
theorem qp{B W:Nat}:∀ {l:List (Rw×Int)},(∀p∈l,ib p.1.2.2<=B/\ib p.2<=W)->ib (bds l)<=W+B+l.length
 | [],_=>by show ib 0<=_;rw[ib0];omega
 | p::r,h=>by
  have h1:=h p (HY ..)
  have:=JH (Iz h1.2 h1.1) (qp (B:=B) (W:=W) λq hq=>h q (HV _ hq))
  show ib (p.2*p.1.2.2+bds r)<=_
  rw[Ik];unfold ib;omega
section
variable {nm:Zb} {rows:List Rw} {B:Nat}
theorem Rws.cfb(H:Rws nm rows)(hb:RwB B rows){w:Ze}{W:Nat}(hw:∀a∈w,ib a<=W)(n:Str):ib (Mf.cfs 'f' n)<=W+B+rows.length:=by
 refine HX (rD (B:=B) (W:=W) λp hp=>⟨AW (H.sum _ (IT hp).1).nd (hb.tm _ (IT hp).1),hw _ (IT hp).2⟩) ?_;rw[Jh];omega
theorem Rws.bdb(hb:RwB B rows){w:Ze}{W:Nat}(hw:∀a∈w,ib a<=W):ib (Mf.bds 'f')<=W+B+rows.length:=by
 refine HX (qp (B:=B) (W:=W) λp hp=>⟨hb.bd _ (IT hp).1,hw _ (IT hp).2⟩) ?_;rw[Jh];omega
theorem wA{a b:Int}{W C:Nat}(ha:ib a<=C)(hb:ib b<=C):∀ {l h:Ze},(∀x∈l,ib x<=W)->(∀x∈h,ib x<=W)->∀x∈List.zipWith (λx y=>x*a+y*b) l h,ib x<=W+C+1
 | [],_,_,_,x,hx=>by simp at hx
 | _::_,[],_,_,x,hx=>by simp at hx
 | u::l,v::h,h1,h2,x,hx=>by
  rw[Ky] at hx
  rcases Ih.mp hx with rfl | hx
  ·have:=JH (Iz (h1 u (HY ..)) ha) (Iz (h2 v (HY ..)) hb)
   unfold ib;omega
  ·exact wA ha hb (λx hx=>h1 x (HV _ hx)) (λx hx=>h2 x (HV _ hx)) x hx
theorem vR{B m k:Nat}:wb B m k<=wb B m (k+1):=by
 show wb B m k<=2*wb B m k+B+m+1
 omega
theorem lE(H:Rws nm rows)(hb:RwB B rows){l h:Ze}{k:Nat}(hl:∀a∈l,ib a<=wb B rows.length k)(hh:∀a∈h,ib a<=wb B rows.length k):∀a∈crS rows n l h,ib a<=wb B rows.length (k+1):=λa ha=>by
 have:=wA (C:=cb B rows.length k) (Kf (H.cfb hb hh n)) (H.cfb hb hl n) hl hh a ha
 show ib a<=2*wb B rows.length k+B+rows.length+1
 unfold cb at this;omega
theorem dm(H:Rws nm rows)(hb:RwB B rows):∀ {ns:Zb} {w:Ze},w∈Hi rows ns->∀a∈w,ib a<=wb B rows.length ns.length
 | [],w,h,a,ha=>by
  obtain⟨j,hj,rfl⟩:=HW.mp h;obtain⟨i,_,rfl⟩:=HW.mp ha;show ib _<=1
  split<;>decide
 | n::ns,w,h,a,ha=>by
  rw[Ik]
  rcases ky.mp h with⟨h1,h2⟩ | ⟨l,hl,cl,k,hk,ck,rfl,_⟩
  ·exact HX (dm H hb h1 a ha) vR
  ·obtain⟨b,aa,rfl⟩:=HW.mp ha;exact Jb (lE H hb (dm H hb hl) (dm H hb hk) b aa)
end
theorem zab{z a b:Nat}(h1:z+a+b<=c)(h4:4<=c):z+a*b<=c*c / 4:=by
 refine(KO 'd').mpr ?_;have e1:4*(a*b)<=(a+b)*(a+b):=by
  have:(a+b)*(a+b)=a*a+2*(a*b)+b*b:=by rw[Nat.add_mul,KD,KD,Nat.mul_comm b a];omega
  rcases Nat.le_total a b with q | q
  ·obtain⟨d,rfl⟩:=Kv q;have e:(a+d)*(a+d)=a*a+2*(a*d)+d*d:=by rw[Nat.add_mul,KD,KD,Nat.mul_comm d a];omega
   have e':a*(a+d)=a*a+a*d:=KD ..
   omega
  ·obtain⟨d,rfl⟩:=Kv q;have e:(b+d)*(b+d)=b*b+2*(b*d)+d*d:=by rw[Nat.add_mul,KD,KD,Nat.mul_comm d b];omega
   have e':(b+d)*b=b*b+b*d:=by rw[Nat.add_mul,Nat.mul_comm d b]
   omega
 have e2:(a+b)*(a+b)+4*z<=c*c:=by
  obtain⟨t,ht⟩:=Kv (show a+b+z<=c by omega);have hs:c*c=(a+b)*(a+b)+(z+t)*(a+b+c):=by
   have:c=(a+b)+(z+t):=by omega
   generalize hx:a+b=x at *
   generalize hy:z+t=y at *
   subst this
   grind
  rw[hs];have:(z+t)*(a+b+c) ≥ z*4:=Nat.mul_le_mul 'b' 'b';omega
 omega
theorem cnt3{rows:List Rw}{n:Str}:∀W:List (List Int),(W.filter λw=>decide (cfs 'f' n=0)).length+(W.filter λw=>decide (0<cfs 'f' n)).length+(W.filter λw=>decide (cfs 'f' n<0)).length=W.length
 | []=>rfl
 | w::W=>by
  have ih:=cnt3 (rows:=rows) (n:=n) W
  rcases Int.lt_trichotomy (cfs (rows.zip w) n) 0 with q | q | q
  ·rw[IG (by simp;omega),IG (by simp;omega),IS (by simpa using q),Ik,Ik];omega
  ·rw[IS (by simpa using q),IG (by simp;omega),IG (by simp;omega),Ik,Ik];omega
  ·rw[IG (by simp;omega),IS (by simpa using q),IG (by simp;omega),Ik,Ik];omega
theorem lI{rows:List Rw}{n:Str}{most:Nat}(R:List (List Int)):∀L:List (List Int),(L.flatMap λl=>(R.map (crW rows n l)).filter λu=>decide (usd u<=most)).length<=L.length*R.length
 | []=>by simp
 | l::L=>by
  have ih:=lI (rows:=rows) (n:=n) (most:=most) R L
  rw[List.flatMap_cons,Ij,Ik,Nat.succ_mul];have:=IK (λu=>decide (usd u<=most)) (R.map (crW rows n l));rw[HS] at this;omega
theorem yi{most:Nat}{W:List (List Int)}(h:W.length<=c)(h4:4<=c):(woW rows n most W).length<=c*c / 4:=by
 unfold woW;rw[Ij];have h1:=cnt3 (rows:=rows) (n:=n) W;have h2:=lI (rows:=rows) (n:=n) (most:=most) (W.filter λw=>decide (cfs 'f' n<0)) (W.filter λw=>decide (0<cfs 'f' n));exact HX (Nat.add_le_add_left h2 _) (zab 'b' h4)
def cnt:Nat->Nat->Nat
 | c,0=>c
 | c,k+1=>cnt c k*cnt c k / 4
theorem pG(h:rows.length<=c)(h4:4<=c):∀ns:Zb,(Hi rows ns).length<=cnt c ns.length/\4<=cnt c ns.length
 | []=>⟨by show (wY rows.length).length<=c;unfold wY;rw[HS,Ji];exact h,h4⟩
 | n::ns=>by
  obtain⟨h1,h2⟩:=pG h h4 ns;refine⟨yi h1 h2,?_⟩;show 4<=cnt c ns.length*cnt c ns.length / 4;refine(KO 'd').mpr ?_;exact Nat.mul_le_mul h2 h2
theorem oI{p q N z:Int}(h:Low p q)(e:((N:Int):Rat)*HF (p,q)=(z:Int)):q ∣ N:=by
 have hq:=gn h.ne
 have e2:((N*p:Int):Rat)=((z*q:Int):Rat):=by
  rw[IE,IE,<- e];show _=((N:Int):Rat)*(((p:Int):Rat) / ((q:Int):Rat))*_
  grind
 have e3:N*p=z*q:=Lc.mp e2
 have d:q ∣ p*N:=⟨z,by rw[Jd p,e3,Jd]⟩
 have g:Int.gcd q p=1:=by rw[Int.gcd_comm];exact h.cop'
 have k:=(J6 (k:=q) (n:=p) (m:=N)).mpr d
 rw[g] at k;simpa using k
theorem bN{a b:Int}{n:Nat}(h:a ∣ b)(h0:b≠0)(hb:ib b<=n):ib a<=n:=KS (Nat.le_of_dvd 'b' (Int.natAbs_dvd_natAbs.mpr h)) hb
theorem oC{q:Str->Int}:∀ {l ks:Zb},l.Nodup->(∀n∈l,n∈ks)->Hl q l ∣ Hl q ks
 | [],ks,_,_=>⟨Hl q ks,(Int.one_mul _).symm⟩
 | n::l,ks,nd,h=>by
  obtain⟨h1,h2⟩:=Jg.mp nd;have hn:=h n (HY ..);have e:Hl q ks=q n*Hl q (ks.erase n):=w5 (List.perm_cons_erase hn);have:=oC (q:=q) (l:=l) (ks:=ks.erase n) h2 λk hk=>(List.mem_erase_of_ne (λ(z:k=n)=>h1 (z ▸ hk))).mpr (h k (HV _ hk));rw[e];exact Int.mul_dvd_mul (Int.dvd_refl _) this
theorem nE{q q':Str->Int}:∀ {l:Zb},(∀n∈l,q n=q' n)->Hl q l=Hl q' l
 | [],_=>rfl
 | n::l,h=>by show q n*_=q' n*_;rw[h n (HY ..),nE λk hk=>h k (HV _ hk)]
theorem gP{f:Str->Int}{c m:Nat}:∀ {ts:List (Str×Int)},(∀t∈ts,ib t.2<=c/\ib (f t.1)<=m)->ib (cV f ts)<=c+m+ts.length
 | [],_=>by show ib 0<=_;rw[ib0];omega
 | t::r,h=>by
  have h1:=h t (HY ..)
  have h2:=JH (Iz h1.1 h1.2) (gP (c:=c) (m:=m) λu hu=>h u (HV _ hu))
  show ib (t.2*f t.1+cV f r)<=_
  rw[Ik];unfold ib;omega
structure oG(L:Int)(c g κ T:Nat)(p:Int×Int):Prop where
 low:Low p.1 p.2
 bb:ib p.2<=c+g
 tb:ib p.1<=c+T+κ+70
 wh:∃N z:Int,N≠0/\ib N<=c/\((N*L:Int):Rat)*HF p=(z:Int)
theorem yt{ks:Zb}{ps:Za}{r:Rw}{κ g T:Nat}{L:Int}(P:Pt ks ps T)(hκ:ib (Hl 'w' ks)<=κ)(L0:L≠0)(hL:∀k∈ks,pB ks ps k ∣ L)(hg:ib L<=g)(nd:(r.2.1.map (·.1)).Nodup)(hk:ks.length<=60)
  (hp:∀t∈r.2.1,t.1≠n->t.1∈ks) (hc:cf r.2.1 n≠0) (hcb:ib (cf r.2.1 n)<=c) (htb:∀t∈r.2.1,ib t.2<=c) (hbb:ib r.2.2<=c):oG L c g κ T (bnd ks ps n r):=by
 unfold bnd;have ho:∀t∈r.2.1.filter (λt=>decide (t.1≠n)),t.1∈ks/\ib t.2<=c:=λt ht=>by
  obtain⟨h1,h2⟩:=Ia.mp ht;exact⟨hp t h1 (by simpa using h2),htb t h1⟩
 have ag:((r.2.1.filter (λt=>decide (t.1≠n))).map (·.1)).Nodup:=nd.sublist (Kl.map _)
 generalize ho':r.2.1.filter (λt=>decide (t.1≠n))=o at *
 have aa:∀k∈o.map (·.1),k∈ks:=λk hk=>by
  obtain⟨t,ht,rfl⟩:=HW.mp hk;exact(ho t ht).1
 have aj:o.length<=60:=by
  have:=gy ag aa
  rw[HS] at this;omega
 have hK:0<Hl 'w' (o.map (·.1)):=cN λk hk=>P.pos (aa k hk)
 have al:0<Hl (pB ks ps) ks:=cN λk hk=>P.pos hk
 have hd:=oC (q:=pB ks ps) ag aa
 have ab:ib (Hl 'w' (o.map (·.1)))<=κ:=bN hd 'b' hκ
 have ai:ib (cV (ov (pT ks ps) 'w' (Hl 'w' (o.map (·.1)))) o)<=c+(T+κ)+o.length:=gP λt ht=>⟨(ho t ht).2,Iz (P.Tb (ho t ht).1) (Jb ab)⟩
 have r1:=nP (ks:=ks) (ps:=ps) (K:=Hl 'w' (o.map (·.1))) (ts:=o) λt ht=>⟨P.pos (ho t ht).1,dZ (HW.mpr ⟨t,ht,rfl⟩)⟩
 have r2:=nP (ks:=ks) (ps:=ps) (K:=L) (ts:=o) λt ht=>⟨P.pos (ho t ht).1,hL _ (ho t ht).1⟩
 simp only;generalize Hl 'w' (o.map (·.1))=K at *;have ah:cf r.2.1 n*K≠0:=IN hc 'b';have lw:=eJ (r.2.2*K-cV (ov (pT ks ps) 'w' K) o) ah;have wh:((cf r.2.1 n*L:Int):Rat)*HF (HD (r.2.2*K-cV (ov (pT ks ps) 'w' K) o) (cf r.2.1 n*K),Hf (r.2.2*K-cV (ov (pT ks ps) 'w' K) o) (cf r.2.1 n*K))=((r.2.2*L-cV (ov (pT ks ps) 'w' L) o:Int):Rat):=by
  rw[ik _ ah];have h1:=gn hc;have h2:=gn (show K≠0 by omega);simp only[Rat.intCast_mul,Rat.intCast_sub,r1,r2];generalize du (Hx ks ps) o=x at *;generalize ((cf r.2.1 n:Int):Rat)=a at *;generalize ((K:Int):Rat)=b at *;generalize ((L:Int):Rat)=d at *;generalize ((r.2.2:Int):Rat)=e at *
  grind
 refine⟨lw,bN (oI lw wh) (IN hc L0) (Iz hcb hg),?_,?_⟩
 ·have:=intBits_sub_le (Iz hbb ab) ai
  exact HX (Jb this) 'b'
 ·exact⟨cf r.2.1 n,_,hc,hcb,wh⟩
theorem y6{lo:Bool}{Pr:Int×Int->Prop}{a b:En2}(ha:∀p,a.1=some p->Pr p)(hb:∀p,b.1=some p->Pr p):∀p,(tgt lo a b).1=some p->Pr p:=by
 obtain⟨a1,a2⟩:=a;obtain⟨b1,b2⟩:=b;intro p h
 cases a1 with
 | none=>exact hb p h
 | some x =>
  cases b1 with
  | none=>exact ha p h
  | some y =>
   have h:(if x=y then ((some x,a2&&b2):En2) else if decide (y.1*x.2<x.1*y.2)=lo then (some x,a2) else (some y,b2)).1=some p:=h
   split at h
   ·exact ha p h
   ·split at h
    ·exact ha p h
    ·exact hb p h
theorem zL{nm:Zb}{ks:Zb}{ps:Za}{Pr:Int×Int->Prop}:∀ {W:List (List Int)},(∀w∈W,cfs 'f' n≠0->Pr 'j'.1)->(∀p,(Hs nm rows ks ps n W).1.1=some p->Pr p)/\∀p,(Hs nm rows ks ps n W).2.1=some p->Pr p:=by
  intro W;unfold Hs
  have:∀(W:List (List Int)) (e:En2×En2),(∀w∈W,cfs 'f' n≠0->Pr 'j'.1)->(∀p,e.1.1=some p->Pr p)->(∀p,e.2.1=some p->Pr p)->(∀p,(W.foldl (λe w =>
    (if 0<cfs 'f' n then tgt true e.1 (some 'j'.1,'j'.2) else e.1,
     if cfs 'f' n<0 then tgt false e.2 (some 'j'.1,'j'.2) else e.2)) e).1.1=some p->Pr p)/\∀p,(W.foldl (λe w =>
    (if 0<cfs 'f' n then tgt true e.1 (some 'j'.1,'j'.2) else e.1,
     if cfs 'f' n<0 then tgt false e.2 (some 'j'.1,'j'.2) else e.2)) e).2.1=some p->Pr p:=λW=>by
    induction W with
    | nil=>intro e _ h1 h2;exact⟨h1,h2⟩
    | cons w W ih =>
      intro e h h1 h2;rw[Le];refine ih _ (λw hw=>h w (HV _ hw)) ?_ ?_
      · show ∀p,(if 0<cfs 'f' n then tgt true e.1 (some 'j'.1,'j'.2) else e.1).1=some p->Pr p
        by_cases q:0<cfs 'f' n
        · rw[Ir q];exact y6 h1 λp hp=>by cases hp;exact h w (HY ..) 'b'
        · rw[Io q];exact h1
      · show ∀p,(if cfs 'f' n<0 then tgt false e.2 (some 'j'.1,'j'.2) else e.2).1=some p->Pr p
        by_cases q:cfs 'f' n<0
        · rw[Ir q];exact y6 h2 λp hp=>by cases hp;exact h w (HY ..) 'b'
        · rw[Io q];exact h2
  exact λh=>this W _ h (λp hp=>nomatch hp) λp hp=>nomatch hp
theorem yJ{L:Int}{g κ T:Nat}{lo hi:Option (Int×Int)}(h0:L≠0)(hg:ib L<=g)(hgκ:g<=κ)(h1:∀p,lo=some p->oG L c g κ T p)(h2:∀p,hi=some p->oG L c g κ T p) :
  ib (nmb lo hi).1<=2*(c+T+κ+72)+2/\ib (nmb lo hi).2<=2*c+g+2/\∃M:Int,M≠0/\ib M<=2*c+2/\(nmb lo hi).2 ∣ M*L:=by
 have ab:ib (nmb lo hi).1<=2*(c+T+κ+72)+2/\∃M:Int,M≠0/\ib M<=2*c+2/\(nmb lo hi).2 ∣ M*L:=?_
 ·obtain⟨k1,M,m0,mb,md⟩:=ab;refine⟨k1,bN md (IN m0 h0) ?_,M,m0,mb,md⟩;have:=Iz mb hg;unfold ib;omega
 have i1:ib 1=1:=by decide
 have o1:∀a,∃M:Int,M≠0/\ib M<=2*c+2/\Hf a 1 ∣ M*L:=λa=>⟨1,by decide,by omega,by rw[(rF a).2];exact Int.one_dvd _⟩
 have o2:∀ {p:Int×Int} {z:Int},ib p.1<=c+T+κ+70->ib z<=1->ib (HD (p.1.fdiv p.2+z) 1)<=2*(c+T+κ+72)+2:=λ{p z} h hz=>by
  rw[(rF _).1];have:=JH (Jb (y:=p.2) h) hz;unfold ib;omega
 unfold nmb
 cases lo with
 | none =>
  cases hi with
  | none=>exact⟨by show ib 0<=_;rw[ib0];omega,1,by decide,by omega,Int.one_dvd _⟩
  | some h=>exact⟨o2 (p:=h) (z:=-1) (h2 h rfl).tb 'd',o1 _⟩
 | some l =>
  cases hi with
  | none=>exact⟨o2 (p:=l) (z:=1) (h1 l rfl).tb 'd',o1 _⟩
  | some h =>
   have cl:=h1 l rfl
   have ch:=h2 h rfl
   simp only
   by_cases k:HD (l.1.fdiv l.2+1) 1*h.2<h.1*Hf (l.1.fdiv l.2+1) 1
   ·rw[Ir k];exact⟨o2 (p:=l) (z:=1) cl.tb 'd',o1 _⟩
   ·rw[Io k];obtain⟨N1,z1,n1,b1,w1⟩:=cl.wh;obtain⟨N2,z2,n2,b2,w2⟩:=ch.wh
    by_cases e:l=h
    ·rw[Ir e];have b:=cl.tb;exact⟨by omega,N1,n1,by omega,oI (p:=l.1) cl.low w1⟩
    ·rw[Io e];have nz:l.2*h.2≠0:=IN cl.low.ne ch.low.ne;have sl:=eJ (l.1*h.2+h.1*l.2) nz;have aa:Hf (l.1*h.2+h.1*l.2) (l.2*h.2)*2≠0:=IN sl.ne 'd';have e1:HF (HD (l.1*h.2+h.1*l.2) (l.2*h.2),Hf (l.1*h.2+h.1*l.2) (l.2*h.2))=HF l+HF h:=by
      rw[ik _ nz,Jz,IE,IE,IE];have a1:=gn cl.low.ne;have a2:=gn ch.low.ne;unfold HF
      grind
     have e2:HF (HD (HD (l.1*h.2+h.1*l.2) (l.2*h.2)*1) (Hf (l.1*h.2+h.1*l.2) (l.2*h.2)*2),Hf (HD (l.1*h.2+h.1*l.2) (l.2*h.2)*1) (Hf (l.1*h.2+h.1*l.2) (l.2*h.2)*2))=(HF l+HF h) / 2:=by
      rw[ik _ aa,<- e1,IE,IE,show ((1:Int):Rat)=1 from rfl,show ((2:Int):Rat)=2 from rfl];have a1:=gn sl.ne;unfold HF
      grind
     have dv:Hf (HD (l.1*h.2+h.1*l.2) (l.2*h.2)*1) (Hf (l.1*h.2+h.1*l.2) (l.2*h.2)*2) ∣ 2*(N1*N2)*L:=by
      refine oI (z:=N2*z1+N1*z2) (eJ _ aa) ?_;rw[e2];simp only[Rat.intCast_mul,Rat.intCast_add] at w1 w2 ⊢;rw[show ((2:Int):Rat)=2 from rfl]
      grind
     refine⟨?_,2*(N1*N2),IN 'd' (IN n1 n2),?_,dv⟩
     ·have s1:=JH (Iz cl.tb ch.bb) (Iz ch.tb cl.bb)
      have s2:ib (HD (l.1*h.2+h.1*l.2) (l.2*h.2)*1)<=2*(c+T+κ+72)+2:=by
       rw[Int.mul_one];exact HX (Jb s1) 'b'
      exact Jb s2
     ·have:=Iz (show ib 2<=2 by decide) (Iz b1 b2)
      unfold ib;omega
end Mf
namespace Lw
open PySem L2 DL
variable {t u:TDS} {R:a7} {δ:En} {g:TDG} {i j L:Int} {b:Bool} {k:Bool→Prop} {x:Str→Rat} {names ks nm ns kp:Zb} {q:Str→Int} {ts:List (Str×Int)} {rows c d:List Rw} {ps:Za} {n:Str} {A B:List (List Rw)} {r:Rw}
variable {P:Program} {w:World} {K:PySem.W.Frag} {mg:Str→Zd} {base:Heap}
structure Zz where
 P:Program
 w:World
 K:PySem.W.Frag
 mg:Str->Zd
 base:Heap
 x0:Fd K mg "common_divisor" s_common_divisor ["one","other"]
 x1:Fd K mg "made" s_made ["top","bottom"]
 x2:Fd K mg "plus" s_plus ["one","other"]
 x3:Fd K mg "times" s_times ["one","other"]
 x4:Fd K mg "less" s_less ["one","other"]
 x5:Fd K mg "is_row" s_is_row ["saying"]
 x6:Fd K mg "mark_names" s_mark_names ["saying","found"]
 x7:Fd K mg "names_of" s_names_of ["saying"]
 x8:Fd K mg "tops_of" s_tops_of ["names","point"]
 x9:Fd K mg "top_of_sum" s_top_of_sum ["terms","tops"]
 x10:Fd K mg "row_is_so" s_row_is_so ["row","tops","bottom"]
 x11:Fd K mg "part_is_so" s_part_is_so ["saying","tops","bottom"]
 x12:Fd K mg "is_so" s_is_so ["saying","point"]
 x13:Fd K mg "contrary" s_contrary ["row"]
 x14:Fd K mg "plain_part" s_plain_part ["saying","turned"]
 x15:Fd K mg "plain" s_plain ["saying"]
 x16:Fd K mg "_law_cell" s__law_cell ["_law_script","_law_k"]
 x17:Fd K mg "put_together" s_put_together ["one","other"]
 x18:Fd K mg "cases_within" s_cases_within ["part","whole"]
 x19:Fd K mg "cases" s_cases ["saying"]
 x20:Fd K mg "added" s_added ["rows","weights"]
 x21:Fd K mg "weight_of" s_weight_of ["name","row"]
 x22:Fd K mg "alone" s_alone ["rows"]
 x23:Fd K mg "shortened" s_shortened ["weights"]
 x24:Fd K mg "crossed" s_crossed ["low","high","name"]
 x25:Fd K mg "without" s_without ["rows","sums","name","most"]
 x26:Fd K mg "taken_out" s_taken_out ["rows","names"]
 x27:Fd K mg "bound_on" s_bound_on ["name","row","point"]
 x28:Fd K mg "tighter" s_tighter ["one","other","is_low"]
 x29:Fd K mg "number_in" s_number_in ["piece"]
 x30:Fd K mg "piece_for" s_piece_for ["name","sums","point"]
 x31:Fd K mg "found_back" s_found_back ["steps","names","point"]
 x32:Fd K mg "solved" s_solved ["rows","names"]
 x33:Fd K mg "both_so" s_both_so ["one","other"]
 x34:Fd K mg "joined" s_joined ["word","sayings"]
 x35:Fd K mg "shadow" s_shadow ["saying","names"]
 x36:Fd K mg "filled" s_filled ["saying","names","point"]
 x37:Fd K mg "_law_whole" s__law_whole ["_law_found"]
 x38:Fd K mg "_law_over" s__law_over ["_law_one","_law_other"]
 x39:Fd K mg "_law_total" s__law_total ["_law_terms","_law_point"]
 x40:Fd K mg "_law_row_so" s__law_row_so ["_law_row_here","_law_point"]
 x41:Fd K mg "_law_number" s__law_number ["_law_cell_here"]
 x42:Fd K mg "_law_shaped" s__law_shaped ["_law_rows","_law_cell_here"]
 x43:Fd K mg "_law_so" s__law_so ["_law_saying","_law_point"]
 x44:Fd K mg "_law_names" s__law_names ["_law_saying"]
 x45:Fd K mg "_law_lowest" s__law_lowest ["_law_value"]
 x46:Fd K mg "_law_row" s__law_row ["_law_cells"]
 x47:Fd K mg "_law_four" s__law_four ["_law_script"]
 x48:Fd K mg "_law_mixed" s__law_mixed ["_law_one","_law_other","_law_cell_here"]
 x49:Fd K mg "_law_drawn" s__law_drawn ["_law_cells"]
 x50:Fd K mg "_law_formed" s__law_formed ["_law_saying","_law_names_here"]
 x51:Fd K mg "_law_is_fraction" s__law_is_fraction ["_law_found"]
 x52:Fd K mg "_law_filled_good" s__law_filled_good ["_law_saying","_law_kept","_law_point","_law_found"]
 x53:Fd K mg "_law_good" s__law_good ["_law_saying","_law_kept","_law_shade","_law_near"]
 x54:mg "abs"=none
 x55:mg "sorted"=none
 x56:mg "tuple"=none
 x57:mg "len"=none
 x58:mg "max"=none
 x59:mg "zip"=none
 x60:mg "enumerate"=none
 x61:mg "range"=none
 x62:mg "reversed"=none
 x63:mg "dict"=none
 x64:mg "all"=none
 x65:mg "isinstance"=none
 x66:mg "bool"=none
 x67:mg "int"=none
 x68:mg "set"=none
 x69:mg "sum"=none
 x70:mg "list"=none
 g_OPPOSITES:GTab K mg "OPPOSITES" [("least","more"),("more","least"),("both","either"),("either","both")]
 g_MOST_ROWS:GInt mg "MOST_ROWS" 3
 g_MOST_CASES:GInt mg "MOST_CASES" 4
 g_ENDLESS:GEnd K mg "ENDLESS"
 g_ALWAYS_SO:GAlw K mg "ALWAYS_SO"
abbrev Zz.C(Z:Zz)(k:Nat)(x:Str)(ps:List Str)(sp:Sp):Prop:=Cal Z.P Z.w Z.K Z.mg Z.base k x ps sp
local macro_rules | `(tactic| walk_at "sc") => `(tactic| exact ⟨rfl, rfl, rfl, by decide +kernel, rfl, by decide +kernel, by decide +kernel⟩)
open Mf
theorem ak(h:∀K:En->Prop,K=u R->t { R with nx:=K } δ):dSeq t u R δ:=h _ rfl
def lJ(src:TDC)(F:D->a7->En->Prop):TDS:=λR δ=>src δ λxs δ1=>∃I:Nat->En->Prop,I 0 δ1 /\
 (∀i x δ',xs[i]?=some x->I i δ'->F x { R with nx:=I (i+1),ct:=I (i+1),bk:=R.nx,tp:=False } δ')/\∀δ',I xs.length δ'->R.nx δ'
theorem d6{src:TDC}{tb:TDS}(h:∀(F:D->a7->En->Prop) (N:En->Prop),F=(λx R δ=>g x δ λδ2=>tb R δ2)->N=R.nx->lJ src F { R with nx:=N } δ):dFor src g tb R δ:=h _ _ rfl rfl
def ef(t:HQ)(F:D->a7->En->Prop):TDS:=λR δ=>t δ (wd λd δ1=>qL d λxs=>∃I:Nat->En->Prop,I 0 δ1 /\
 (∀i x δ',xs[i]?=some x->I i δ'->F x { R with nx:=I (i+1),ct:=I (i+1),bk:=R.nx,tp:=False } δ')/\∀δ',I xs.length δ'->R.nx δ')
theorem bO{t:HQ}{tb:TDS}(h:∀(F:D->a7->En->Prop) (N:En->Prop),F=(λx R δ=>g x δ λδ2=>tb R δ2)->N=R.nx->ef t F { R with nx:=N } δ):tf t g tb R δ:=h _ _ rfl rfl
def zx(t:HQ)(F:D->a7->En->Prop):TDS:=λR δ=>t δ (wd λd δ1=>qT d λxs=>∃I:Nat->En->Prop,I 0 δ1 /\
 (∀i x δ',xs[i]?=some x->I i δ'->F x { R with nx:=I (i+1),ct:=I (i+1),bk:=R.nx,tp:=False } δ')/\∀δ',I xs.length δ'->R.nx δ')
theorem yD{t:HQ}{tb:TDS}(h:∀(F:D->a7->En->Prop) (N:En->Prop),F=(λx R δ=>g x δ λδ2=>tb R δ2)->N=R.nx->zx t F { R with nx:=N } δ):qm t g tb R δ:=h _ _ rfl rfl
def zu(t:HK)(F:D->a7->En->Prop):TDS:=λR δ=>t δ λds δ1=>qC ds λx r=>qN r <| qI x λj=>-(2 ^ 62)<=j/\j<2 ^ 62/\∃I:Nat->En->Prop,I 0 δ1 /\
 (∀i δ',i<j.toNat->I i δ'->F (.int i) { R with nx:=I (i+1),ct:=I (i+1),bk:=R.nx,tp:=False } δ')/\∀δ',I j.toNat δ'->R.nx δ'
theorem yQ{t:HK}{tb:TDS}(h:∀(F:D->a7->En->Prop) (N:En->Prop),F=(λx R δ=>g x δ λδ2=>tb R δ2)->N=R.nx->zu t F { R with nx:=N } δ):Co t g tb R δ:=h _ _ rfl rfl
theorem cj{x:D}(h:∀K:En->Prop,K=u R->g x δ λδ2=>t { R with nx:=K } δ2):g x δ λδ2=>dSeq t u R δ2:=h _ rfl
theorem aK{α β γ:Type}(f:β->Option γ)(g:α->β)(h:α->γ):∀(l:List α),(∀x∈l,f (g x)=some (h x))->(l.map g).filterMap f=l.map h
 | [],_=>rfl
 | x::l,e=>by rw[Iy,Iy,IY,e x (HY ..),aK f g h l λy hy=>e y (HV _ hy)]
theorem Hz{c A B:Prop}[Decidable c](hc:¬ c)(h:B):if c then A else B:=by rw[Io hc];exact h
theorem ifp{c A B:Prop}[Decidable c](hc:c)(h:A):if c then A else B:=by rw[Ir hc];exact h
theorem at0{α:Type}{x:α}{xs:List α}:Hn (x::xs) 0=some x:=by
 unfold Hn ixN;simp only[List.length_cons];rw[Ir 'b',Ir 'b'];rfl
theorem at1{α:Type}{x y:α}{xs:List α}:Hn (x::y::xs) 1=some y:=by
 unfold Hn ixN;simp only[List.length_cons];rw[Ir 'b',Ir 'b'];rfl
theorem at2{α:Type}{x y z:α}{xs:List α}:Hn (x::y::z::xs) 2=some z:=by
 unfold Hn ixN;simp only[List.length_cons];rw[Ir 'b',Ir 'b'];rfl
theorem atm1{α:Type}{x:α}{xs:List α}:Hn (xs++[x]) (-1)=some x:=yL xs x
theorem ue{R:D->Prop}:pD [.int i,.int j] R=(R (.int (i+j))):=rfl
theorem vD{xs ys:Zh}{R:D->Prop}:pD [.lst xs,.lst ys] R=(xs.length+ys.length<=9000/\R (.lst (xs++ys))):=rfl
theorem xP{xs:Zh}{R:D->Prop}:CT [.lst xs] R=(R (.int xs.length)):=rfl
theorem AY{xs:Zh}{R:D->Prop}:CT [.fz xs] R=(R (.int xs.length)):=rfl
theorem xQ{xs:Zh}{R:D->Prop}:CT [.tup xs] R=(R (.int xs.length)):=rfl
theorem xU{R:D->Prop}:fInt [.int i] R=(R (.int i)):=rfl
theorem B9{R:D->Prop}:fInt [.bl b] R=(R (.int (if b then 1 else 0))):=rfl
theorem Bh{xs:Zh}{R:D->Prop}:fIx [.tup xs,.int i] R=qAt xs i R:=rfl
theorem BO{xs:Zh}{R:D->Prop}:fIx [.lst xs,.int i] R=qAt xs i R:=rfl
theorem EO{xs:Zh}{R:D->Prop}:fIx [.fz xs,.int i] R=qAt xs i R:=rfl
theorem Cd{z:Str}{R:D->Prop}:fIx [.str z,.int i] R=(z.length<=9000/\∃c,Hn z.cps.toList i=some c/\R (.str ⟨#[c]⟩)):=rfl
theorem AE{xs:Zh}{l u:Option Int}{R:D->Prop}:fSl (.lst xs) l u R=(R (.lst (cut xs l u))):=rfl
theorem D1{xs:Zh}{l u:Option Int}{R:D->Prop}:fSl (.fz xs) l u R=(R (.lst (cut xs l u))):=rfl
theorem Nat.cast_ofNat_Int{n:Nat}:((OfNat.ofNat n:Nat):Int)=OfNat.ofNat n:=rfl
theorem ve{xs ys:Zh}{R:D->Prop}:pD [.tup xs,.tup ys] R=(xs≠[]/\ys≠[]/\xs.length+ys.length<=9000/\R (.tup (xs++ys))):=rfl
theorem AX{xs:Zh}{l u:Option Int}{R:D->Prop}:fSl (.tup xs) l u R=(¬ (HT.sIx xs.length 0 l=0/\HT.sIx xs.length xs.length u=xs.length)/\R (.tup (cut xs l u))):=rfl
theorem Bx{R:D->Prop}:fIs [.non,.non] R=(R (.bl true)):=rfl
theorem Au{c f:Str}{d:D}{R:D->Prop}:fIs [.exn c f d,.non] R=(R (.bl false)):=rfl
theorem Bf{xs:Zh}{R:D->Prop}:fIs [.tup xs,.non] R=(R (.bl false)):=rfl
theorem wd_e{R:D->En->Prop}{x:D}:wd R (.d x) δ=R x δ:=rfl
theorem qB_e:qB (.bl b) k=k b:=rfl
theorem qI_e{b:Int}{k:Int->Prop}:qI (.int b) k=k b:=rfl
theorem qX_e{b:Str}{k:Str->Prop}:qX (.str b) k=k b:=rfl
theorem qT_e{b:Zh}{k:Zh->Prop}:qT (.tup b) k=k b:=rfl
theorem qL_e{b:Zh}{k:Zh->Prop}:qL (.lst b) k=k b:=rfl
theorem qY_l{b:Zh}{k:Zh->Prop}:qY (.lst b) k=k b:=rfl
theorem qY_t{b:Zh}{k:Zh->Prop}:qY (.tup b) k=k b:=rfl
theorem F9{l:Zh}{k:Zh->Prop}:qY (sq b l) k=k l:=by cases b<;>rfl
theorem qG_e{b:Zb}{c:Zh}{k:Zb->Zh->Prop}:qG (.dct b c) k=k b c:=rfl
theorem qF_e{b:Zb}{c:Zh}{k:Zb->Zh->Prop}:qF (.fd b c) k=k b c:=rfl
theorem qZ_d{b:Zb}{c:Zh}{k:Zb->Zh->Prop}:qZ (.dct b c) k=k b c:=rfl
theorem qZ_f{b:Zb}{c:Zh}{k:Zb->Zh->Prop}:qZ (.fd b c) k=k b c:=rfl
theorem qV_e{α:Type}{a:α}{k:α->Prop}:qV (some a) k=k a:=rfl
theorem qN_e{k:Prop}:qN [] k=k:=rfl
theorem qC_e{x:D}{r:Zh}{k:D->Zh->Prop}:qC (x::r) k=k x r:=rfl
theorem zd{k:Prop}:wg [] 0 k=k:=rfl
theorem zR{x:D}{r:Zh}{n:Nat}{k:Prop}:wg (x::r) (n+1) k=wg r n k:=rfl
theorem q9_0{k:Prop}:q9 [] k=k:=rfl
theorem q9_1{a:D}{k:Prop}:q9 [a] k=k:=rfl
theorem q9_2{a b:D}{k:Prop}:q9 [a,b] k=k:=rfl
theorem q9_3{a b c:D}{k:Prop}:q9 [a,b,c] k=k:=rfl
theorem q9_4{a b c d:D}{k:Prop}:q9 [a,b,c,d] k=k:=rfl
theorem qW_s{x:Sl}{i:Nat}{k:Addr->D->Prop}:qW (x::δ)[i+1]? k=qW δ[i]? k:=rfl
theorem qW_z{a:Addr}{d:D}{k:Addr->D->Prop}:qW (.own a d::δ)[0]? k=k a d:=rfl
theorem qD_s{x:Sl}{i:Nat}{k:D->Prop}:qD (x::δ)[i+1]? k=qD δ[i]? k:=rfl
theorem qD_z{d:D}{k:D->Prop}:qD (.dat d::δ)[0]? k=k d:=rfl
theorem zI{x y:Sl}{i:Nat}{k:En->Prop}:lH (x::δ) (i+1) y k=lH δ i y λδ'=>k (x::δ'):=rfl
theorem zq{x y:Sl}{k:En->Prop}:lH (x::δ) 0 y k=k (y::δ):=rfl
theorem G6{x:D}{l:Zh}{k:D->Prop}:qAt (x::l) 0 k=k x:=rfl
theorem Gg{x y:D}{l:Zh}{k:D->Prop}:qAt (x::y::l) 1 k=k y:=rfl
theorem FY{x y z:D}{l:Zh}{k:D->Prop}:qAt (x::y::z::l) 2 k=k z:=rfl
theorem G0{x y z u:D}{l:Zh}{k:D->Prop}:qAt (x::y::z::u::l) 3 k=k u:=rfl
theorem qS_t{d:D}{k:Zh->Prop}:qS true d k=qL d k:=rfl
theorem qS_f{d:D}{k:Zh->Prop}:qS false d k=qT d k:=rfl
theorem GY{A B:Prop}:(if true=true then A else B)=A:=rfl
theorem Gy{A B:Prop}:(if false=true then A else B)=B:=rfl
theorem FJ{A B:Prop}:(if (!true)=true then A else B)=B:=rfl
theorem G9{A B:Prop}:(if (!false)=true then A else B)=A:=rfl
theorem E4{p:List Sl->Prop}:yU 0 p=p []:=rfl
theorem Em{n:Nat}{p:List Sl->Prop}:yU (n+1) p=(∀t:Option D,yU n λts=>p (oS t::ts)):=rfl
theorem FI{c:En}:okT 0 δ c=(δ=c):=rfl
theorem F7{n:Nat}{d:D}{c:En}:okT (n+1) (.dat d::δ) c=okT n δ c:=rfl
theorem EB{d:D}:vP (some (.dat d))=.dat d:=rfl
theorem qD_e{d:D}{k:D->Prop}:qD (some (.dat d)) k=k d:=rfl
theorem qW_e{a:Addr}{d:D}{k:Addr->D->Prop}:qW (some (.own a d)) k=k a d:=rfl
theorem D3{x:Sl}{i:Nat}:vP (x::δ)[i+1]?=vP δ[i]?:=rfl
theorem Eh{d:D}:vP (.dat d::δ)[0]?=.dat d:=rfl
theorem sO:Hu "int" .non k=k false:=rfl
theorem wS:Hu "int" (.bl b) k=k true:=rfl
theorem tN{b:Int}:Hu "int" (.int b) k=k true:=rfl
theorem tU{b:Str}:Hu "int" (.str b) k=k false:=rfl
theorem tj{b:Zh}:Hu "int" (.tup b) k=k false:=rfl
theorem sZ{b:Zh}:Hu "int" (.lst b) k=k false:=rfl
theorem wn{b:Zh}:Hu "int" (.fz b) k=k false:=rfl
theorem tJ{b:Zb}{c:Zh}:Hu "int" (.dct b c) k=k false:=rfl
theorem uv{b:Zb}{c:Zh}:Hu "int" (.fd b c) k=k false:=rfl
theorem oP:Hu "bool" .non k=k false:=rfl
theorem tG:Hu "bool" (.bl b) k=k true:=rfl
theorem pS{b:Int}:Hu "bool" (.int b) k=k false:=rfl
theorem qe{b:Str}:Hu "bool" (.str b) k=k false:=rfl
theorem pA{b:Zh}:Hu "bool" (.tup b) k=k false:=rfl
theorem oE{b:Zh}:Hu "bool" (.lst b) k=k false:=rfl
theorem tE{b:Zh}:Hu "bool" (.fz b) k=k false:=rfl
theorem oQ{b:Zb}{c:Zh}:Hu "bool" (.dct b c) k=k false:=rfl
theorem sU{b:Zb}{c:Zh}:Hu "bool" (.fd b c) k=k false:=rfl
theorem nq:Hu "tuple" .non k=k false:=rfl
theorem pO:Hu "tuple" (.bl b) k=k false:=rfl
theorem nr{b:Int}:Hu "tuple" (.int b) k=k false:=rfl
theorem nw{b:Str}:Hu "tuple" (.str b) k=k false:=rfl
theorem mP{b:Zh}:Hu "tuple" (.tup b) k=k true:=rfl
theorem nI{b:Zh}:Hu "tuple" (.lst b) k=k false:=rfl
theorem pH{b:Zh}:Hu "tuple" (.fz b) k=k false:=rfl
theorem nW{b:Zb}{c:Zh}:Hu "tuple" (.dct b c) k=k false:=rfl
theorem oM{b:Zb}{c:Zh}:Hu "tuple" (.fd b c) k=k false:=rfl
theorem pd:Hu "dict" .non k=k false:=rfl
theorem sX:Hu "dict" (.bl b) k=k false:=rfl
theorem qh{b:Int}:Hu "dict" (.int b) k=k false:=rfl
theorem pM{b:Str}:Hu "dict" (.str b) k=k false:=rfl
theorem o7{b:Zh}:Hu "dict" (.tup b) k=k false:=rfl
theorem pY{b:Zh}:Hu "dict" (.lst b) k=k false:=rfl
theorem tz{b:Zh}:Hu "dict" (.fz b) k=k false:=rfl
theorem oJ{b:Zb}{c:Zh}:Hu "dict" (.dct b c) k=k true:=rfl
theorem tK{b:Zb}{c:Zh}:Hu "dict" (.fd b c) k=k true:=rfl
theorem FP{f:Zh->(D->Prop)->Prop}{x y:D}{R:W->En->Prop}:kOb f x R (.d y) δ=f [x,y] (kD R δ):=rfl
theorem GL{f:Zh->(D->Prop)->Prop}{tb:HQ}{x:D}{R:W->En->Prop}:kOa f tb R (.d x) δ=tb δ (kOb f x R):=rfl
theorem GN{f:Zh->(D->Prop)->Prop}{x:D}{R:W->En->Prop}:kUn f R (.d x) δ=f [x] (kD R δ):=rfl
theorem G5{t:HK}{x:D}{R:Zh->En->Prop}:kAc t R (.d x) δ=t δ (kAd x R):=rfl
theorem Gu{R:Bool->En->Prop}:kTs R (.d (.bl b)) δ=R b δ:=rfl
theorem FZ{u:HQ}{R:W->En->Prop}:kAV u R (.d (.bl b)) δ=(if b=true then u δ R else R (.d (.bl false)) δ):=rfl
theorem Gx{u:HQ}{R:W->En->Prop}:kOV u R (.d (.bl b)) δ=(if b=true then R (.d (.bl true)) δ else u δ R):=rfl
theorem G2{R:W->En->Prop}:kNV R (.d (.bl b)) δ=R (.d (.bl (!b))) δ:=rfl
theorem GS{x:D}:kRe R (.d x) δ=R.rt x δ:=rfl
theorem Fx{i:Nat}{x:D}:kSe i R (.d x) δ=lH δ i (.dat x) R.nx:=rfl
theorem Ek{x:D}:kAs g R (.d x) δ=g x δ R.nx:=rfl
theorem GE{T:String}{x:D}{R:W->En->Prop}:kIs T R (.d x) δ=(Hu T x λb=>R (.d (.bl b)) δ):=rfl
theorem Hg(i:Nat){X:Cx}{x:Str}{j}{k:Int}{p p2 pos:Pos}(hN:X.N[i]?=some x:=by rfl)(hv:Vis X.env.scope x:=by walk_at "v3")(hd:(x==("__debug__":Str))=false:=by decide)(hcd:(x==("__classdict__":Str))=false:=by decide):DE X (.Subscript (.Name x p) (.Constant (.int k) j p2) pos) (dOp fIx (dV i) (dC (.int k))):=gq gl (am i hN hv hd hcd) ap (λ_ _=>rfl)
local macro_rules | `(tactic| walk_at "rh") => `(tactic| try simp only [↓kD, ↓kN, ↓kO, ↓kI, ↓wd_e, ↓Fx, ↓Ek, ↓zI, ↓zq, ↓zR, ↓zd, ↓qC_e, ↓qN_e, ↓qT_e, ↓qL_e, ↓m8, ↓Cg, ↓v6, ↓AT, ↓dD, ↓lr, ↓oy, ↓qWD, ↓qW_s, ↓qW_z, ↓qG_e])
local macro_rules | `(tactic| walk_at "") => `(tactic| ((try simp only [ir, List.map_cons, List.map_nil, List.cons_append, List.nil_append, List.append_nil, List.length_cons, List.length_nil, Nat.reduceAdd, Nat.reduceSub, List.replicate]); try simp only [↓FP, ↓GL, ↓GN, ↓G5, ↓Gu, ↓FZ, ↓Gx, ↓G2, ↓GS, ↓Fx, ↓Ek, ↓GE, ↓kAd, ↓kCa, ↓kTu, ↓kLs, ↓kAn, ↓kOr, ↓kNo, ↓kIE, ↓zn, ↓D2, ↓Ez, ↓dcSq, ↓zt, ↓Dh, ↓lr, ↓zB, ↓zN, ↓xv, ↓sL, ↓xk, ↓yr, ↓BV, ↓ve, ↓AX, ↓DR, ↓Fv, ↓Er, ↓Fp, ↓E7, ↓dFil, ↓Bx, ↓Bf, ↓Au, ↓dSS, ↓E2, ↓DP, ↓Dt, ↓xI, ↓xw, ↓w9, ↓Ff, ↓Et, ↓DJ, ↓Fq, ↓wO, ↓Eu, ↓Ed, ↓vI, ↓oy, ↓dSeq, ↓dIf, ↓kIf, ↓dRet, ↓dSet, ↓dV, ↓dC, ↓dOp, ↓dUn, ↓dTst, ↓dAnd, ↓dOr, ↓dNot, ↓ED, ↓dOrV, ↓Ee, ↓dIfE, ↓zr, ↓Eb, ↓tq, ↓kD, ↓kN, ↓kO, ↓kI, ↓dTup, ↓dLst, ↓dPar, ↓Eg, ↓vf, ↓EL, ↓dAsg, ↓dD, ↓AT, ↓v6, ↓m8, ↓Cg, ↓Fs, ↓xJ, ↓yO, ↓dSl, ↓vd, ↓Dl, ↓dIsi, ↓C2, ↓G7, ↓F5, ↓CL, ↓Bp, ↓Dz, ↓CJ, ↓yR, ↓Fl, ↓ue, ↓vD, ↓xP, ↓AY, ↓xQ, ↓xU, ↓B9, ↓Bh, ↓BO, ↓EO, ↓Cd, ↓AE, ↓D1, ↓xh, ↓Bs, ↓xj, ↓yX, ↓EC, ↓xE, ↓CA, ↓Bw, ↓oX, ↓qf, ↓C5, ↓sY, ↓sP, ↓vq, ↓wq, ↓xL, ↓FD, ↓Ev, ↓C9, ↓qWL, ↓qWD, ↓qWe, ↓BH, ↓AU, ↓i7, ↓oS, ↓wd_e, ↓qB_e, ↓qI_e, ↓qX_e, ↓qT_e, ↓qL_e, ↓qY_l, ↓qY_t, ↓qG_e, ↓qF_e, ↓qZ_d, ↓qZ_f, ↓qV_e, ↓qN_e, ↓qC_e, ↓zd, ↓zR, ↓q9_0, ↓q9_1, ↓q9_2, ↓q9_3, ↓q9_4, ↓qW_s, ↓qW_z, ↓qD_s, ↓qD_z, ↓zI, ↓zq, ↓G6, ↓Gg, ↓FY, ↓G0, ↓qS_t, ↓qS_f, ↓GY, ↓Gy, ↓FJ, ↓G9, ↓E4, ↓Em, ↓FI, ↓F7, ↓EB, ↓qD_e, ↓qW_e, ↓D3, ↓Eh, ↓sO, ↓wS, ↓tN, ↓tU, ↓tj, ↓sZ, ↓wn, ↓tJ, ↓uv, ↓oP, ↓tG, ↓pS, ↓qe, ↓pA, ↓oE, ↓tE, ↓oQ, ↓sU, ↓nq, ↓pO, ↓nr, ↓nw, ↓mP, ↓nI, ↓pH, ↓nW, ↓oM, ↓pd, ↓sX, ↓qh, ↓pM, ↓o7, ↓pY, ↓tz, ↓oJ, ↓tK, ↓List.map_cons, ↓List.map_nil, ↓List.cons_append, ↓List.nil_append, ↓List.replicate, F9, D.exn.injEq, BX, ne_eq, List.cons_ne_nil, Sl.own.injEq, exists_const, exists_eq, D.lst.injEq, D.dct.injEq, D.str.injEq, List.length_cons, List.length_nil, List.append_nil, List.getElem?_cons_zero, List.getElem?_cons_succ, List.set_cons_zero, List.set_cons_succ, Option.some.injEq, Sl.dat.injEq, D.int.injEq, D.bl.injEq, D.tup.injEq, List.cons.injEq, and_assoc, and_true, true_and, exists_eq_left', exists_eq_left, exists_eq_right', exists_and_left, Nat.zero_add, Nat.reduceAdd, Nat.reduceSub, Nat.add_zero, Nat.reduceLeDiff, Nat.sub_self, at0, at1, at2, atm1, if_true, if_false, ite_true, ite_false, Int.reduceEq, Int.reduceLT, Nat.cast_ofNat_Int, not_true_eq_false, not_false_eq_true, Bool.false_eq_true, reduceCtorEq, Bool.not_false, Bool.not_true, List.forall_mem_cons, List.mem_cons, List.not_mem_nil, forall_const, false_implies, implies_true, Nat.reduceLT, if_pos, List.filterMap_cons, List.filterMap_nil, decide_eq_true_eq, Bool.not_eq_true', decide_eq_false_iff_not]))
theorem Hy{x y:Int}{m n:Nat}(h1:Builtin.Int.intBits x<=m)(h2:Builtin.Int.intBits y<=n)(h:m+n<=134217728:=by decide):IntMulOk x y:=IntMulOk.of_le h1 h2 h
theorem oA{b:Int}{n:Nat}(h:Builtin.Int.intBits b<=n)(hn:n<=8000):b.natAbs.log2<9000:=by
 have h1:=intBits_le_iff.mp h
 rcases Nat.eq_zero_or_pos b.natAbs with h0 | hp
 ·rw[h0];decide
 ·have h2:b.natAbs.log2<n:=(Nat.log2_lt (JW hp)).mpr h1
  omega
inductive dR(ds:Zh)(R:D->Prop):Prop
 | mk (a b:_) (hh:ds=[.int a,.int b]/\R (.int (gc a b)))
theorem eZ:∀ds R,dR ds R->ds.length=2:=λ_ _ ⟨_,_,e,_⟩=>by rw[e];rfl
theorem bC:ax ["one","other","rest"] ["one","other"] (aq s_common_divisor):=by walk_at "sc"
theorem cY(Z:Zz):Z.C 1 "common_divisor" ["one","other"] (HN Z.K dR):=by
 refine cy Z.x0 bC eZ λfa cdv A outer s H E ds R hr h=>?_;have hU:=hr.units;refine⟨_,(ad (lP Iv (aC (fT hU) (am 1) ap (ay _)) (ad (aA 2 bC.nd (aE eY (am 0) (am 1))) (ad (aA 0 bC.nd (am 1)) (af (aA 1 bC.nd (am 2)))))) (af (av (aL yV rfl Z.x54 yw (ac (am 0) ae))))),?_⟩;obtain⟨x,y,rfl,q⟩:=h;refine⟨λδ=>∃a b t,δ=[.dat (.int a),.dat (.int b),t]/\gc a b=gc x y,λδ=>match δ with | [_,.dat (.int b),_]=>b.natAbs | _=>0,⟨x,y,.no,rfl,rfl⟩,?_⟩;rintro δ ⟨a,b,t,rfl,e⟩;walk_at "";refine eQ (λc=>⟨c,(o6 a b).trans e,dr a b c⟩) (λc=>?_);have c:=JV.mp c;subst c;rw[<- pJ,e];exact q
theorem A9{t b:Int}{n:Nat}(hb:b≠0)(h:Builtin.Int.intBits b<=n):Builtin.Int.intBits (dv t b)<=n:=by
 refine KS ?_ h;rw[mN];exact Int.gcd_le_natAbs_right t hb
inductive za(ds:Zh)(R:D->Prop):Prop
 | mk (t b:_) (hh:ds=[.int t,.int b]/\b≠0/\Builtin.Int.intBits b<=8000/\R (.tup [.int (HD t b),.int (Hf t b)]))
theorem tR:∀ds R,za ds R->ds.length=2:=λ_ _ ⟨_,_,e,_⟩=>by rw[e];rfl
theorem p8:ax ["top","bottom","divisor"] ["top","bottom"] (aq s_made):=by walk_at "sc"
theorem fP(Z:Zz):Z.C 2 "made" ["top","bottom"] (HN Z.K za):=by
 refine cy Z.x1 p8 tR λfa cdv A outer s H E ds R hr h=>?_;have hU:=hr.units;refine⟨_,(ad (aP (aC (dY hU) (am 1) ap (ay _)) f7 aF) (ad (aA 2 p8.nd (au (cY Z) (rm hr) rfl (ac (am 0) (ac (am 1) ae)))) (ad (aP (aC zA (am 1) ap (ay _)) (af (aA 2 p8.nd (xY xO (am 2)))) aF) (af (av (aI (ac (aE cJ (am 0) (am 2)) (ac (aE cJ (am 1) (am 2)) ae)))))))),?_⟩;obtain⟨x,y,rfl,hy,hb,q⟩:=h;walk_at "";rw[Io hy];refine⟨x,y,rfl,?_⟩;walk_at "";have hd:=EG x hy;have hl:=oA (A9 (t:=x) hy hb) (Ib _);unfold HD Hf at q;unfold dv at hd hl q;refine eQ (λc=>?_) (λc=>?_)
 ·simp only[if_pos c] at hd hl q;exact⟨⟨hd,hl⟩,⟨hd,hl⟩,q⟩
 ·simp only[if_neg c] at hd hl q;exact⟨⟨hd,hl⟩,⟨hd,hl⟩,q⟩
inductive zU(ds:Zh)(R:D->Prop):Prop
 | mk (p q:Int×Int) (hh:ds=[HM p,HM q]/\p.2*q.2≠0/\ib p.1<=1000000/\ib q.1<=1000000/\ib p.2<=4000/\ib q.2<=4000/\R (HM (HD (p.1*q.2+q.1*p.2) (p.2*q.2),Hf (p.1*q.2+q.1*p.2) (p.2*q.2))))
theorem sN:∀ds R,zU ds R->ds.length=2:=λ_ _ ⟨_,_,e,_⟩=>by rw[e];rfl
theorem AI:ax ["one","other"] ["one","other"] (aq s_plus):=by walk_at "sc"
theorem xF(Z:Zz):Z.C 3 "plus" ["one","other"] (HN Z.K zU):=by
 refine cy Z.x2 AI sN λfa cdv A outer s H E ds R hr h=>?_;have hU:=hr.units;refine⟨_,(af (av (au (fP Z) (rm hr) rfl (ac (aE aY (aE bH (Hg 0) (Hg 1)) (aE bH (Hg 1) (Hg 0))) (ac (aE bH (Hg 0) (Hg 1)) ae))))),?_⟩;obtain⟨p,q,rfl,nz,b1,b2,b3,b4,k⟩:=h;unfold HM at k ⊢;walk_at "";exact⟨Hy b1 b4,Hy b2 b3,Hy b3 b4,_,_,rfl,nz,HX (Iz b3 b4) 'd',k⟩
inductive wu(ds:Zh)(R:D->Prop):Prop
 | mk (p q:Int×Int) (hh:ds=[HM p,HM q]/\p.2*q.2≠0/\ib p.1<=2000000/\ib q.1<=1000000/\ib p.2<=7990/\ib q.2<=10/\R (HM (HD (p.1*q.1) (p.2*q.2),Hf (p.1*q.1) (p.2*q.2))))
theorem oY:∀ds R,wu ds R->ds.length=2:=λ_ _ ⟨_,_,e,_⟩=>by rw[e];rfl
theorem yp:ax ["one","other"] ["one","other"] (aq s_times):=by walk_at "sc"
theorem vL(Z:Zz):Z.C 3 "times" ["one","other"] (HN Z.K wu):=by
 refine cy Z.x3 yp oY λfa cdv A outer s H E ds R hr h=>?_;have hU:=hr.units;refine⟨_,(af (av (au (fP Z) (rm hr) rfl (ac (aE bH (Hg 0) (Hg 1)) (ac (aE bH (Hg 0) (Hg 1)) ae))))),?_⟩;obtain⟨p,q,rfl,nz,b1,b2,b3,b4,k⟩:=h;unfold HM at k ⊢;walk_at "";exact⟨Hy b1 b2,Hy b3 b4,_,_,rfl,nz,HX (Iz b3 b4) 'd',k⟩
inductive zV(ds:Zh)(R:D->Prop):Prop
 | mk (p q:Int×Int) (hh:ds=[HM p,HM q]/\ib p.1<=2000000/\ib q.1<=2000000/\ib p.2<=8000/\ib q.2<=8000/\R (.bl (decide (p.1*q.2<q.1*p.2))))
theorem sV:∀ds R,zV ds R->ds.length=2:=λ_ _ ⟨_,_,e,_⟩=>by rw[e];rfl
theorem Ap:ax ["one","other"] ["one","other"] (aq s_less):=by walk_at "sc"
theorem sA(Z:Zz):Z.C 1 "less" ["one","other"] (HN Z.K zV):=by
 refine cy Z.x4 Ap sV λfa cdv A outer s H E ds R hr h=>?_;have hU:=hr.units;refine⟨_,(af (av (cR zA (aE bH (Hg 0) (Hg 1)) (aE bH (Hg 1) (Hg 0)) (ay _)))),?_⟩;obtain⟨p,q,rfl,b1,b2,b3,b4,k⟩:=h;unfold HM;walk_at "";exact⟨Hy b1 b4,Hy b2 b3,k⟩
inductive HR where
 | row (k:Kd) (ts:List (Str×Int)) (b:Int)
 | nt (s:HR)
 | bo (s t:HR)
 | ei (s t:HR)
def HR.D:HR->D
 | .row k ts b=>gF k ts b
 | .nt s=>.tup [.str "not",s.D]
 | .bo s t=>.tup [.str "both",s.D,t.D]
 | .ei s t=>.tup [.str "either",s.D,t.D]
def HR.dep:HR->Nat
 | .row _ _ _=>1
 | .nt s=>s.dep+1
 | .bo s t=>max s.dep t.dep+1
 | .ei s t=>max s.dep t.dep+1
def HR.nms:HR->Zb
 | .row _ ts _=>ts.map (·.1)
 | .nt s=>s.nms
 | .bo s t=>s.nms++t.nms
 | .ei s t=>s.nms++t.nms
def HR.ok(names:Zb):HR->Prop
 | .row _ ts b=>mB names ts/\Builtin.Int.intBits b<=10000
 | .nt s=>s.ok names
 | .bo s t=>s.ok names/\t.ok names
 | .ei s t=>s.ok names/\t.ok names
theorem HR.dep_pos:∀s:HR,0<s.dep
 | .row _ _ _=>Nat.one_pos
 | .nt s=>Ks _
 | .bo s t=>Ks _
 | .ei s t=>Ks _
theorem HR.nms_sub:∀ {s:HR},s.ok names->∀n∈s.nms,n∈names
 | .row _ ts _,h,n,hn=>h.1.sub.subset hn
 | .nt s,h,n,hn=>HR.nms_sub (s:=s) h n hn
 | .bo s t,h,n,hn=>(Ip.mp hn).elim (HR.nms_sub h.1 n) (HR.nms_sub h.2 n)
 | .ei s t,h,n,hn=>(Ip.mp hn).elim (HR.nms_sub h.1 n) (HR.nms_sub h.2 n)
def HR.isRow:HR->Bool
 | .row _ _ _=>true
 | _=>false
inductive rC(ds:Zh)(R:D->Prop):Prop
 | mk (s:HR) (hh:ds=[s.D]/\R (.bl s.isRow))
theorem n5:∀ds R,rC ds R->ds.length=1:=λ_ _ ⟨_,e,_⟩=>by rw[e];rfl
theorem uN:ax ["saying"] ["saying"] (aq s_is_row):=by walk_at "sc"
theorem eS(Z:Zz):Z.C 1 "is_row" ["saying"] (HN Z.K rC):=by
 refine cy Z.x5 uN n5 λfa cdv A outer s H E ds R hr h=>?_;have hU:=hr.units;refine⟨_,(af (av (xx (cR (dY hU) (Hg 0) aw (ay _)) (fc (cR (dY hU) (Hg 0) aw (ay _)))))),?_⟩;obtain⟨s,rfl,q⟩:=h;walk_at ""
 cases s with
 | row k ts b =>
  cases k
  ·unfold HR.D gF kdS;walk_at "";exact q
  ·unfold HR.D gF kdS;walk_at "";exact Hz 'd' q
 | nt s=>unfold HR.D;walk_at "";exact Hz 'd' q
 | bo s t=>unfold HR.D;walk_at "";exact Hz 'd' q
 | ei s t=>unfold HR.D;walk_at "";exact Hz 'd' q
def cC(ks:Zb)(l:Zb):Zb:=l.foldl jA ks
def kP(n:Nat):Zh:=List.replicate n (.bl true)
theorem xo{x y:Str}:y∈jA ks x↔y∈ks\/y=x:=by
 unfold jA
 by_cases e:x∈ks
 ·rw[Ir e];exact⟨.inl,λh=>h.elim id λz=>z ▸ e⟩
 ·rw[Io e,Ip,Ii]
theorem gC:∀ {l ks:Zb},ks.Nodup->(cC ks l).Nodup
 | [],_,h=>h
 | _::l,_,h=>gC (l:=l) (uI h)
theorem dG:∀ {l ks:Zb} {y:Str},y∈cC ks l↔y∈ks\/y∈l
 | [],ks,y=>by show y∈ks↔_;simp
 | x::l,ks,y=>by
  show y∈cC (jA ks x) l↔_
  rw[dG,xo,Ih,or_assoc]
theorem fQ{l r:Zb}:cC ks (l++r)=cC (cC ks l) r:=KF ..
theorem nK:∀(ks:Zb) (n:Nat) (x:Str),om ks (kP n) x (D.bl true)=kP n
 | [],n,x=>by cases n<;>rfl
 | k::ks,0,x=>rfl
 | k::ks,n+1,x=>by
  show (if k=x then D.bl true else D.bl true)::om ks (kP n) x (D.bl true)=D.bl true::kP n
  rw[nK ks n x];split<;>rfl
theorem uD{x:Str}:mj ks (kP ks.length) x (D.bl true)=kP (jA ks x).length:=by
 unfold mj jA
 by_cases e:x∈ks
 ·rw[Ir e,Ir e,nK]
 ·rw[Io e,Io e,Ij];show List.replicate _ _++List.replicate 1 _=List.replicate _ _;rw[List.replicate_append_replicate];rfl
def HR.subs:HR->List HR
 | .row _ _ _=>[]
 | .nt s=>[s]
 | .bo s t=>[s,t]
 | .ei s t=>[s,t]
theorem HR.subs_dep{s u:HR}(h:u∈s.subs):u.dep<s.dep:=by
 cases s with
 | row k ts b=>cases h
 | nt s=>rw[Ii.mp h];exact Kg _
 | bo s t =>
  have h:u∈[s,t]:=h
  simp only[List.mem_cons,List.not_mem_nil,or_false] at h;show u.dep<max s.dep t.dep+1
  rcases h with rfl | rfl<;>omega
 | ei s t =>
  have h:u∈[s,t]:=h
  simp only[List.mem_cons,List.not_mem_nil,or_false] at h;show u.dep<max s.dep t.dep+1
  rcases h with rfl | rfl<;>omega
theorem HR.subs_ok{s u:HR}(h:u∈s.subs)(o:s.ok names):u.ok names:=by
 cases s with
 | row k ts b=>cases h
 | nt s=>rw[Ii.mp h];exact o
 | bo s t =>
  have h:u∈[s,t]:=h
  simp only[List.mem_cons,List.not_mem_nil,or_false] at h
  rcases h with rfl | rfl
  ·exact o.1
  ·exact o.2
 | ei s t =>
  have h:u∈[s,t]:=h
  simp only[List.mem_cons,List.not_mem_nil,or_false] at h
  rcases h with rfl | rfl
  ·exact o.1
  ·exact o.2
def HR.word:HR->Str
 | .row k _ _=>kdS k
 | .nt _=>"not"
 | .bo _ _=>"both"
 | .ei _ _=>"either"
theorem HR.D_subs{s:HR}(h:s.isRow=false):s.D=.tup (.str s.word::s.subs.map HR.D):=by
 cases s with
 | row=>cases h
 | nt=>rfl
 | bo=>rfl
 | ei=>rfl
theorem HR.nms_subs{s:HR}(h:s.isRow=false):s.nms=s.subs.flatMap HR.nms:=by
 cases s with
 | row=>cases h
 | nt s=>show s.nms=s.nms++[];rw[IZ]
 | bo s t=>show s.nms++t.nms=s.nms++(t.nms++[]);rw[IZ]
 | ei s t=>show s.nms++t.nms=s.nms++(t.nms++[]);rw[IZ]
theorem i9{α:Type}{x:α}{xs:List α}:cut (x::xs) (some 1) none=xs:=by
 unfold cut;have e1:HT.sIx (x::xs).length 0 (some 1)=1:=by
  have:=HT.sIx_nat (x::xs).length 0 1
  rw[Ik] at this ⊢;rw[show (some (1:Int))=some ((1:Nat):Int) from rfl,this];omega
 rw[e1,HT.sIx_none,Ik,List.drop_one,List.tail_cons,Nat.add_sub_cancel,ID]
inductive bS(n:Nat)(d:D)(ds:Zh)(R:D->D->Prop):Prop
 | mk (names s ks:_) (hh:ds=[HR.D s]/\s.dep<=n/\s.ok names/\names.length<=100/\ks.Nodup/\(∀k∈ks,k∈names)/\d=.dct ks (kP ks.length)/\R .non (.dct (cC ks s.nms) (kP (cC ks s.nms).length)))
theorem iQ(n:Nat):∀d ds R,bS n d ds R->ds.length=1:=λ_ _ _ ⟨_,_,_,e,_⟩=>by rw[e];rfl
theorem gQ:∀d ds R,¬ bS 0 d ds R:=λ_ _ _ ⟨_,s,_,_,h,_⟩=>by have:=s.dep_pos;omega
theorem cH:ax ["saying","found","name","weight","part"] ["saying","found"] (aq s_mark_names):=by walk_at "sc"
theorem jQ(Z:Zz){n:Nat}(nN:Z.C (2+n) "mark_names" ["saying","found"] (xM Z.K (bS n))):Z.C (2+n+1) "mark_names" ["saying","found"] (xM Z.K (bS (n+1))):=by
 refine F8 (k:=2+n) Z.x6 cH rfl (iQ (n+1)) λfa cdv A outer s H E oa d0 d R hr h=>?_;have hU:=hr.units;refine⟨_,(ad (aP (br (au (eS Z) (hr.mono 'b') rfl (ac (am 0) ae))) (ad (gX Iv rfl (Hg 0) (bJ (n:=2) rfl (aB (ar 2 cH.nd) (aB (ar 3 cH.nd) aW))) (af (eF 1 hU kh (am 2)))) (af At)) aF) (af (gX Iv rfl (fZ (am 0) (cU ap) fG) (ar 4 cH.nd) (af (vt (nS 1 nN (hr.mono 'b') rfl (am 4))))))),?_⟩;obtain⟨names,s,ks,e,hd,ok,hl,nd,sub,rfl,q⟩:=h
 cases e
 walk_at "";refine⟨s,rfl,?_⟩;walk_at ""
 cases hrow:s.isRow with
 | true =>
  cases s with
  | row k ts b =>
   refine ifp rfl ?_;walk_at "";simp only[qm];unfold HR.D gF;walk_at "";have ab:∀t∈ts,t.1∈names:=λt h=>ok.1.sub.subset (HW.mpr ⟨t,h,rfl⟩);have aa:∀i,∀x∈cC ks ((ts.take i).map (·.1)),x∈names:=λi x hx=>(dG.mp hx).elim (sub x) λh=>by
    obtain⟨t,h1,rfl⟩:=HW.mp h;exact ab t (JD h1)
   refine⟨λi δ=>∃x y z,δ=[.dat (.tup [.str (kdS k),.tup (ts.map Hh),.int b]),.own oa (.dct (cC ks ((ts.take i).map (·.1))) (kP (cC ks ((ts.take i).map (·.1))).length)),x,y,z],⟨_,_,_,rfl⟩,?_,?_⟩
   ·rintro i d δ hd ⟨x,y,z,rfl⟩;obtain⟨t,hn,rfl⟩:=dB hd;walk_at "";have l1:=gy (gC (l:=(ts.take i).map (·.1)) nd) (aa i);refine⟨by omega,?_⟩;rw[uD,aD hn,IA,fQ];exact⟨rfl,rfl⟩
   ·rintro δ ⟨x,y,z,rfl⟩;rw[HS,ID];exact⟨_,rfl,q⟩
  | nt s=>cases hrow
  | bo s t=>cases hrow
  | ei s t=>cases hrow
 | false =>
  refine Hz Ie ?_;walk_at "";simp only[qm];rw[HR.D_subs hrow];walk_at "";refine⟨λ⟨h,_⟩=>?_,?_⟩
  ·rw[show (some (1:Int))=some ((1:Nat):Int) from rfl,HT.sIx_nat] at h;omega
  rw[i9];have aa:∀i,∀x∈cC ks ((s.subs.take i).flatMap HR.nms),x∈names:=λi x hx=>(dG.mp hx).elim (sub x) λh=>by
   obtain⟨u,h1,h2⟩:=JO.mp h;exact HR.nms_sub (HR.subs_ok (JD h1) ok) x h2
  refine⟨λi δ=>∃x y z,δ=[.dat (.tup (.str s.word::s.subs.map HR.D)),.own oa (.dct (cC ks ((s.subs.take i).flatMap HR.nms)) (kP (cC ks ((s.subs.take i).flatMap HR.nms)).length)),x,y,z],⟨_,_,_,rfl⟩,?_,?_⟩
  ·rintro i d δ hd2 ⟨x,y,z,rfl⟩;rw[List.getElem?_map] at hd2
   cases hu:s.subs[i]? with
   | none=>rw[hu] at hd2;cases hd2
   | some u =>
    rw[hu] at hd2
    cases hd2
    have hm:=Im hu
    have dp:=HR.subs_dep hm
    walk_at "";refine⟨names,u,_,rfl,by omega,HR.subs_ok hm ok,hl,gC nd,aa i,rfl,?_⟩;walk_at "";rw[aD hu,Km,List.flatMap_singleton,fQ];exact⟨rfl,rfl⟩
  ·rintro δ ⟨x,y,z,rfl⟩;rw[HS,ID,<- HR.nms_subs hrow];exact⟨_,rfl,q⟩
theorem kF(Z:Zz):Z.C 62 "mark_names" ["saying","found"] (xM Z.K (bS 60)):=Nat.rec (motive:=λn=>Z.C (2+n) "mark_names" ["saying","found"] (xM Z.K (bS n))) (uE Z.x6 _ gQ) (λ_=>jQ Z) 60
inductive kX(ds:Zh)(R:D->Prop):Prop
 | mk (names s:_) (hh:ds=[HR.D s]/\s.dep<=60/\s.ok names/\names.length<=60/\∀ss:Zb,ss.Nodup->(∀x,x∈ss↔x∈s.nms)->Srt ss->R (.lst (ss.map D.str)))
theorem kE:∀ds R,kX ds R->ds.length=1:=λ_ _ ⟨_,_,e,_⟩=>by rw[e];rfl
theorem ju:ax ["saying","found"] ["saying"] (aq s_names_of):=by walk_at "sc"
theorem dh(Z:Zz):Z.C 63 "names_of" ["saying"] (HN Z.K kX):=by
 refine cy Z.x7 ju kE λfa cdv A outer s H E ds R hr h=>?_;have hU:=hr.units;refine⟨_,(ad (fM 1 ju.nd) (ad (vt (nS 1 (kF Z) (rm hr) rfl (am 0))) (bB 1 (af (av (aL (lU rfl) rfl Z.x55 iU (ac (am 1) ae))))))),?_⟩;obtain⟨names,s,rfl,hd,ok,hl,q⟩:=h;walk_at "";intro a;refine⟨names,s,[],rfl,hd,ok,by omega,List.nodup_nil,λk h=>(nomatch h),rfl,?_⟩;walk_at "";have nd:(cC [] s.nms).Nodup:=gC List.nodup_nil;have sub:∀x∈cC [] s.nms,x∈names:=λx hx=>(dG.mp hx).elim (λh=>(nomatch h)) (HR.nms_sub ok x);refine⟨by have:=gy nd sub;omega,λss hp hs=>q ss (hp.nodup_iff.mpr nd) (λx=>?_) hs⟩;rw[hp.mem_iff,dG];simp
inductive mL(ds:Zh)(R:D->Prop):Prop
 | mk (names ks ps T κ:_) (hh:ds=[.lst (names.map D.str),.dct ks (ps.map HM)]/\names.Nodup/\names.length<=60/\(∀n∈names,n∈ks)/\Pt ks ps T/\T<=1000000/\ib (Hl 'w' ks)<=κ/\κ<=7990 /\
 R (.tup [.dct names (names.map λn=>.int (ov (pT ks ps) 'w' (Hl 'w' names) n)),.int (Hl 'w' names)]))
theorem lq:∀ds R,mL ds R->ds.length=2:=λ_ _ ⟨_,_,_,_,_,e,_⟩=>by rw[e];rfl
theorem nv{l:Zb}{κ:Nat}(nd:l.Nodup)(h:∀n∈l,n∈ks)(hp:∀n∈ks,0<q n)(hb:ib (Hl q ks)<=κ):ib (Hl q l)<=κ:=bN (oC nd h) (by have:=cN hp;omega) hb
theorem ce:ax ["names","point","bottom","name","tops","value"] ["names","point"] (aq s_tops_of):=by walk_at "sc"
theorem jB(Z:Zz):Z.C 1 "tops_of" ["names","point"] (HN Z.K mL):=by
 refine cy Z.x8 ce lq λfa cdv A outer s H E ds R hr h=>?_;have hU:=hr.units;refine⟨_,(ad (aA 2 ce.nd ap) (ad (bu Iv rfl (am 0) (ar 3 ce.nd) (ad (aP (aC (lC hU) (am 3) (am 1) rfl) f7 aF) (af (aA 2 ce.nd (aE bH (am 2) (gq gl (cB hU (am 1) (am 3) (λ_ _=>rfl)) ap (λ_ _=>rfl))))))) (ad (fM 4 ce.nd) (ad (bu Iv rfl (am 0) (ar 3 ce.nd) (ad (aA 5 ce.nd (cB hU (am 1) (am 3) (λ_ _=>rfl))) (af (eF 4 hU (aE bH (Hg 5) (aE cJ (am 2) (Hg 5))) (am 3))))) (bB 4 (af (av (aI (ac (am 4) (ac (am 2) ae)))))))))),?_⟩;obtain⟨names,ks,ps,T,κ,rfl,nd,hl,aa,hp,hT,hb,hκ,q⟩:=h;have pos:∀n∈ks,0<pB ks ps n:=λn hn=>hp.pos hn;have bb:ib (Hl 'w' names)<=κ:=nv nd aa pos hb;have bt:∀i,ib (Hl 'w' (names.take i))<=κ:=λi=>nv (nd.sublist (List.take_sublist ..)) (λn hn=>aa n (JD hn)) pos hb;have b1:∀n∈ks,ib (pB ks ps n)<=κ:=λn hn=>bN (dZ hn) (by have:=cN pos;omega) hb;walk_at "";simp only[tf];walk_at "";refine⟨λi δ=>∃x y z,δ=[.dat (.lst (names.map D.str)),.dat (.dct ks (ps.map HM)),.dat (.int (Hl 'w' (names.take i))),x,y,z],⟨_,_,_,rfl⟩,?_,?_⟩
 ·rintro i d δ hd ⟨x,y,z,rfl⟩;obtain⟨n,hn,rfl⟩:=dI hd;have hk:=aa n (uL hn);walk_at "";refine Hz (λz=>z hk) ?_;refine⟨_,hp.D hk,?_⟩;walk_at "";refine⟨Hy (bt i) (b1 n hk) 'b',?_⟩;rw[aD hn,gU,oK]
 ·rintro δ ⟨x,y,z,rfl⟩;intro a;rw[HS,ID];walk_at "";simp only[tf];walk_at "";refine⟨λi δ=>∃x z,δ=[.dat (.lst (names.map D.str)),.dat (.dct ks (ps.map HM)),.dat (.int (Hl 'w' names)),x,.own a (.dct (names.take i) ((names.take i).map λn=>.int (ov (pT ks ps) 'w' (Hl 'w' names) n))),z],⟨_,_,rfl⟩,?_,?_⟩
  ·rintro i d δ hd ⟨x,z,rfl⟩;obtain⟨n,hn,rfl⟩:=dI hd;have hk:=aa n (uL hn);have ab:=jb nd hn;walk_at "";refine⟨_,hp.D hk,?_⟩;walk_at "";have qn:pB ks ps n≠0:=by have:=hp.pos hk;omega
   refine⟨⟨qn,oA (b1 n hk) 'b'⟩,Hy (hp.Tb hk) (Jb bb) 'b',?_⟩;refine⟨by rw[IH];omega,?_⟩;rw[eP ab,eR ab,aD hn,IA];exact⟨rfl,rfl⟩
  ·rintro δ ⟨x,z,rfl⟩;rw[HS,ID];walk_at "";exact q
inductive ig(ds:Zh)(R:D->Prop):Prop
 | mk (k:Bool) (ts:List (Str×Int)) (ks:Zb) (vs:Zh) (f:Str->Int) (hh:ds=[sq k (ts.map Hh),.dct ks vs]/\(∀t∈ts,dAt ks vs t.1=some (.int (f t.1))/\ib t.2<=60000/\ib (f t.1)<=2000000)/\R (.int (cV f ts)))
theorem iL:∀ds R,ig ds R->ds.length=2:=λ_ _ ⟨_,_,_,_,_,e,_⟩=>by rw[e];rfl
theorem bY:ax ["terms","tops","top","name","weight"] ["terms","tops"] (aq s_top_of_sum):=by walk_at "sc"
theorem fi(Z:Zz):Z.C 1 "top_of_sum" ["terms","tops"] (HN Z.K ig):=by
 refine cy Z.x9 bY iL λfa cdv A outer s H E ds R hr h=>?_;have hU:=hr.units;refine⟨_,(ad (aA 2 bY.nd ap) (ad (ia Iv rfl (F3 (am 0)) (bJ (n:=2) rfl (aB (ar 3 bY.nd) (aB (ar 4 bY.nd) aW))) (af (aA 2 bY.nd (aE aY (am 2) (aE bH (am 4) (cB hU (am 1) (am 3) (λ_ _=>rfl))))))) (af (av (am 2))))),?_⟩;obtain⟨k,ts,ks,vs,f,rfl,ht,q⟩:=h;walk_at "";refine d6 λF N hF hN=>?_;walk_at "";simp only[lJ];walk_at "";refine⟨λi δ=>∃x y,δ=[.dat (sq k (ts.map Hh)),.dat (.dct ks vs),.dat (.int (cV f (ts.take i))),x,y],⟨_,_,rfl⟩,?_,?_⟩
 ·rintro i d δ hd ⟨x,y,rfl⟩;obtain⟨t,hn,rfl⟩:=dB hd;obtain⟨h1,h2,h3⟩:=ht t (Im hn);rw[hF];walk_at "";refine⟨_,h1,?_⟩;walk_at "";refine⟨Hy h2 h3,?_⟩;rw[aD hn,jh,qv]
 ·rintro δ ⟨x,y,rfl⟩;rw[HS,ID,hN];walk_at "";exact q
def pI(k:Kd)(s b:Int):Bool:=match k with
 | .least=>decide (b<=s)
 | .more=>decide (b<s)
def HR.so(f:Str->Int)(B:Int):HR->Bool
 | .row k ts b=>pI k (cV f ts) (b*B)
 | .nt s=>!s.so f B
 | .bo s t=>s.so f B&&t.so f B
 | .ei s t=>s.so f B||t.so f B
def tQ(p q:Str->Int)(k:Kd)(ts:List (Str×Int))(b:Int):Bool:=pI k (cV (ov p q (Hl q (ts.map (·.1)))) ts) (b*Hl q (ts.map (·.1)))
def HR.tv(p q:Str->Int):HR->Bool
 | .row k ts b=>tQ p q k ts b
 | .nt s=>!s.tv p q
 | .bo s t=>s.tv p q&&t.tv p q
 | .ei s t=>s.tv p q||t.tv p q
theorem Fr{p:Str->Int}{B:Int}{k:Kd}{b:Int}(hB:0<B)(h:∀t∈ts,0<q t.1/\q t.1 ∣ B):pI k (cV (ov p q B) ts) (b*B)=tQ p q k ts b:=by
 have hC:0<Hl q (ts.map (·.1)):=cN λn hn=>by
  obtain⟨t,h1,rfl⟩:=HW.mp hn;exact(h t h1).1
 have e:=vM (p:=p) (q:=q) (B:=B) (C:=Hl q (ts.map (·.1))) (ts:=ts) λt h1=>⟨by have:=(h t h1).1;omega,(h t h1).2,dZ (HW.mpr ⟨t,h1,rfl⟩)⟩
 unfold tQ
 cases k with
 | least=>exact decide_eq_decide.mpr (yI (a:=0) hB hC e)
 | more=>exact decide_eq_decide.mpr (xm hB hC e)
theorem HR.so_tv{p:Str->Int}{B:Int}(hB:0<B):∀ {s:HR},(∀n∈s.nms,0<q n/\q n ∣ B)->s.so (ov p q B) B=s.tv p q
 | .row k ts b,h=>Fr hB λt h1=>h t.1 (HW.mpr ⟨t,h1,rfl⟩)
 | .nt s,h=>by show (!s.so _ _)=!s.tv p q;rw[HR.so_tv (s:=s) hB h]
 | .bo s t,h=>by
  show (s.so _ _&&t.so _ _)=(s.tv p q&&t.tv p q)
  rw[HR.so_tv (s:=s) hB λn hn=>h n (Il _ hn),HR.so_tv (s:=t) hB λn hn=>h n (Ig _ hn)]
 | .ei s t,h=>by
  show (s.so _ _||t.so _ _)=(s.tv p q||t.tv p q)
  rw[HR.so_tv (s:=s) hB λn hn=>h n (Il _ hn),HR.so_tv (s:=t) hB λn hn=>h n (Ig _ hn)]
inductive ji(ds:Zh)(R:D->Prop):Prop
 | mk (k:Kd) (ts:List (Str×Int)) (b:Int) (ks:Zb) (vs:Zh) (f:Str->Int) (B:Int) (hh:ds=[gF k ts b,.dct ks vs,.int B]/\(∀t∈ts,dAt ks vs t.1=some (.int (f t.1))/\ib t.2<=60000/\ib (f t.1)<=2000000)/\ib b<=60000/\ib B<=8000/\R (.bl (pI k (cV f ts) (b*B))))
theorem jM:∀ds R,ji ds R->ds.length=3:=λ_ _ ⟨_,_,_,_,_,_,_,e,_⟩=>by rw[e];rfl
theorem eA:ax ["row","tops","bottom","top","bound"] ["row","tops","bottom"] (aq s_row_is_so):=by walk_at "sc"
theorem lD(Z:Zz):Z.C 2 "row_is_so" ["row","tops","bottom"] (HN Z.K ji):=by
 refine cy Z.x10 eA jM λfa cdv A outer s H E ds R hr h=>?_;have hU:=hr.units;refine⟨_,(ad (aA 3 eA.nd (au (fi Z) (rm hr) rfl (ac (Hg 0) (ac (am 1) ae)))) (ad (aA 4 eA.nd (aE bH (Hg 0) (am 2))) (ad (aP (aC (dY hU) (Hg 0) aw (ay _)) (af (av (cR o_ge (am 3) (am 4) (ay _)))) aF) (af (av (cR wV (am 3) (am 4) (ay _))))))),?_⟩;obtain⟨k,ts,b,ks,vs,f,B,rfl,ht,hb,hB,q⟩:=h;unfold gF;walk_at "";refine⟨false,ts,ks,vs,f,rfl,ht,?_⟩;walk_at "";refine⟨Hy hb hB,?_⟩
 cases k with
 | least=>exact ifp rfl q
 | more=>exact Hz 'd' q
inductive bU(n:Nat)(ds:Zh)(R:D->Prop):Prop
 | mk (s:HR) (ks:Zb) (vs:Zh) (f:Str->Int) (B:Int) (names:Zb) (hh:ds=[s.D,.dct ks vs,.int B]/\s.dep<=n/\s.ok names/\(∀x∈s.nms,dAt ks vs x=some (.int (f x))/\Builtin.Int.intBits (f x)<=2000000)/\Builtin.Int.intBits B<=8000/\R (.bl (s.so f B)))
theorem iM(n:Nat):∀ds R,bU n ds R->ds.length=3:=λ_ _ ⟨_,_,_,_,_,_,e,_⟩=>by rw[e];rfl
theorem gH:∀ds R,¬ bU 0 ds R:=λ_ _ ⟨s,_,_,_,_,_,_,h,_⟩=>by have:=s.dep_pos;omega
theorem fW:ax ["saying","tops","bottom","first"] ["saying","tops","bottom"] (aq s_part_is_so):=by walk_at "sc"
theorem jV(Z:Zz){n:Nat}(d5:Z.C (3+n) "part_is_so" ["saying","tops","bottom"] (HN Z.K (bU n))):Z.C (3+n+1) "part_is_so" ["saying","tops","bottom"] (HN Z.K (bU (n+1))):=by
 refine cy (k:=3+n) Z.x11 fW (iM (n+1)) λfa cdv A outer s H E ds R hr h=>?_;have hU:=hr.units;refine⟨_,(ad (aP (br (au (eS Z) (hr.mono 'b') rfl (ac (am 0) ae))) (af (av (au (lD Z) (hr.mono 'b') rfl (ac (am 0) (ac (am 1) (ac (am 2) ae)))))) aF) (ad (aA 3 fW.nd (au d5 (hr.mono 'b') rfl (ac (Hg 0) (ac (am 1) (ac (am 2) ae))))) (ad (aP (aC (dY hU) (Hg 0) aw (ay _)) (af (av (nG (am 3)))) aF) (ad (aP (aC (dY hU) (Hg 0) aw (ay _)) (af (av (kQ (am 3) (fc (au d5 (hr.mono 'b') rfl (ac (Hg 0) (ac (am 1) (ac (am 2) ae)))))))) aF) (af (av (xx (am 3) (fc (au d5 (hr.mono 'b') rfl (ac (Hg 0) (ac (am 1) (ac (am 2) ae)))))))))))),?_⟩;obtain⟨s,ks,vs,f,B,names,rfl,hd,ok,hf,hB,q⟩:=h;refine ak λK1 h1=>?_;walk_at "";refine⟨s,rfl,?_⟩;walk_at ""
 cases s with
 | row k ts b =>
  refine ifp rfl ⟨k,ts,b,ks,vs,f,B,rfl,λt h1=>?_,HX ok.2 'd',hB,q⟩;obtain⟨h2,h3⟩:=hf t.1 (HW.mpr ⟨t,h1,rfl⟩);exact⟨h2,HX (ok.1.bits t h1) 'd',h3⟩
 | nt s =>
  refine Hz Ie ?_;unfold HR.D;rw[h1];refine ak λK2 h2=>?_;walk_at "";have hd:s.dep+1<=n+1:=hd;refine⟨s,ks,vs,f,B,names,rfl,by omega,ok,hf,hB,?_⟩;walk_at "";rw[h2];refine ak λK3 h3=>?_;walk_at "";exact q
 | bo s t =>
  refine Hz Ie ?_;unfold HR.D;rw[h1];refine ak λK2 h2=>?_;walk_at "";have hd:max s.dep t.dep+1<=n+1:=hd;refine⟨s,ks,vs,f,B,names,rfl,by omega,ok.1,λx h=>hf x (Il _ h),hB,?_⟩;walk_at "";rw[h2];refine ak λK3 h3=>?_;walk_at "";refine Hz 'd' ?_;rw[h3];refine ak λK4 h4=>?_;walk_at "";have q:R (.bl (s.so f B&&t.so f B)):=q
  cases e:s.so f B with
  | true =>
   rw[e,Bool.true_and] at q;exact ifp rfl ⟨t,ks,vs,f,B,names,rfl,by omega,ok.2,λx h=>hf x (Ig _ h),hB,q⟩
  | false =>
   rw[e,Bool.false_and] at q;exact Hz Ie q
 | ei s t =>
  refine Hz Ie ?_;unfold HR.D;rw[h1];refine ak λK2 h2=>?_;walk_at "";have hd:max s.dep t.dep+1<=n+1:=hd;refine⟨s,ks,vs,f,B,names,rfl,by omega,ok.1,λx h=>hf x (Il _ h),hB,?_⟩;walk_at "";rw[h2];refine ak λK3 h3=>?_;walk_at "";refine Hz 'd' ?_;rw[h3];refine ak λK4 h4=>?_;walk_at "";refine Hz 'd' ?_;rw[h4];walk_at "";have q:R (.bl (s.so f B||t.so f B)):=q
  cases e:s.so f B with
  | true =>
   rw[e,Bool.true_or] at q;exact ifp rfl q
  | false =>
   rw[e,Bool.false_or] at q;exact Hz Ie ⟨t,ks,vs,f,B,names,rfl,by omega,ok.2,λx h=>hf x (Ig _ h),hB,q⟩
theorem kK(Z:Zz):Z.C 63 "part_is_so" ["saying","tops","bottom"] (HN Z.K (bU 60)):=Nat.rec (motive:=λn=>Z.C (3+n) "part_is_so" ["saying","tops","bottom"] (HN Z.K (bU n))) (eO Z.x11 _ gH) (λ_=>jV Z) 60
inductive uX(ds:Zh)(R:D->Prop):Prop
 | mk (s:HR) (ks:Zb) (ps:Za) (names:Zb) (T κ:Nat) (hh:ds=[s.D,.dct ks (ps.map HM)]/\s.dep<=60/\s.ok names/\names.length<=60/\(∀x∈s.nms,x∈ks)/\Pt ks ps T/\T<=1000000/\ib (Hl 'w' ks)<=κ/\κ<=7990/\R (.bl (s.tv (pT ks ps) 'w')))
theorem pN:∀ds R,uX ds R->ds.length=2:=λ_ _ ⟨_,_,_,_,_,_,e,_⟩=>by rw[e];rfl
theorem rG:ax ["saying","point","known"] ["saying","point"] (aq s_is_so):=by walk_at "sc"
theorem mJ(Z:Zz):Z.C 64 "is_so" ["saying","point"] (HN Z.K uX):=by
 refine cy Z.x12 rG pN λfa cdv A outer s H E ds R hr h=>?_;have hU:=hr.units;refine⟨_,(ad (aA 2 rG.nd (au (jB Z) (rm hr) rfl (ac (au (dh Z) (rm hr) rfl (ac (am 0) ae)) (ac (am 1) ae)))) (af (av (au (kK Z) (rm hr) rfl (ac (am 0) (ac (Hg 2) (ac (Hg 2) ae))))))),?_⟩;obtain⟨s,ks,ps,names,T,κ,rfl,hd,ok,hl,aa,hp,hT,hb,hκ,q⟩:=h;walk_at "";refine⟨names,s,rfl,hd,ok,hl,λss nd hm hs=>?_⟩;have ab:∀n∈ss,n∈ks:=λn hn=>aa n ((hm n).mp hn);have ag:ss.length<=60:=HX (gy nd λk hk=>HR.nms_sub ok k ((hm k).mp hk)) hl;refine⟨ss,ks,ps,T,κ,rfl,nd,by omega,ab,hp,hT,hb,hκ,?_⟩;walk_at "";have bp:=cN (q:=pB ks ps) (l:=ss) λn hn=>hp.pos (ab n hn);have bb:=nv (q:=pB ks ps) nd ab (λn hn=>hp.pos hn) hb;refine⟨s,ss,_,_,_,names,rfl,hd,ok,λx hx=>⟨df (λn=>D.int (ov (pT ks ps) 'w' (Hl 'w' ss) n)) ((hm x).mpr hx),HX (Iz (hp.Tb (aa x hx)) (Jb bb)) 'b'⟩,HX bb 'b',?_⟩;rw[HR.so_tv bp λn hn=>⟨hp.pos (aa n hn),dZ ((hm n).mpr hn)⟩];exact q
def _root_.Mf.Kd.op:Kd->Kd
 | .least=>.more
 | .more=>.least
def opps:List (Str×Str):=[("least","more"),("more","least"),("both","either"),("either","both")]
theorem C1(k:Kd):PyProof.Rows.KTD.datumAt (kdS k) opps=some (kdS k.op):=by cases k<;>decide
def conD(k:Kd)(ts:List (Str×Int))(b:Int):D:=gF k.op (v4 ts) (-b)
inductive kZ(ds:Zh)(R:D->Prop):Prop
 | mk (k:Kd) (ts:List (Str×Int)) (b:Int) (hh:ds=[gF k ts b]/\ts.length<=100/\R (conD k ts b))
theorem kJ:∀ds R,kZ ds R->ds.length=1:=λ_ _ ⟨_,_,_,e,_⟩=>by rw[e];rfl
theorem jO:ax ["row","terms"] ["row"] (aq s_contrary):=by walk_at "sc"
theorem nF(Z:Zz):Z.C 1 "contrary" ["row"] (HN Z.K kZ):=by
 refine cy Z.x13 jO kJ λfa cdv A outer s H E ds R hr h=>?_;have hU:=hr.units;refine⟨_,(ad (aA 1 jO.nd (cQ ma rfl Z.x56 cT (ac (bq ["name","weight"] [] rfl rfl 'g' rfl 'g' (ba trivial) (λ_=>be rfl) (aN trivial) (mQ (Hg 0)) λ_ _ _ _ _=>⟨(bJ (n:=2) rfl (aB (ar 0 (show List.Nodup (["name","weight"]:Zb) by decide +kernel)) (aB (ar 1 (show List.Nodup (["name","weight"]:Zb) by decide +kernel)) aW))),cD,(aI (ac (am 0) (ac (xY xO (am 1)) ae)))⟩) ae))) (af (av (aI (ac (wH rfl Z.g_OPPOSITES (Hg 0) (λ_ _=>rfl)) (ac (am 1) (ac (xY xO (Hg 0)) ae))))))),?_⟩;obtain⟨k,ts,b,rfl,hl,q⟩:=h;unfold gF;walk_at "";refine⟨by rw[HS];omega,λd=>match d with | .tup [.str n,.int w]=>some (.tup [.str n,.int (-w)]) | _=>none,λx hx=>?_,?_⟩
 ·obtain⟨t,_,rfl⟩:=HW.mp hx;unfold Hh;walk_at ""
 ·rw[aK _ Hh (λt=>D.tup [.str t.1,.int (-t.2)]) _ (by intro _ _;rfl)];refine⟨_,C1 k,?_⟩;unfold conD gF v4 at q;rw[IU] at q;exact q
def HR.pl:HR->Bool->HR
 | .row k ts b,t=>if t=true then .row k.op (v4 ts) (-b) else .row k ts b
 | .nt s,t=>s.pl (!t)
 | .bo s u,t=>if t=true then .ei (s.pl t) (u.pl t) else .bo (s.pl t) (u.pl t)
 | .ei s u,t=>if t=true then .bo (s.pl t) (u.pl t) else .ei (s.pl t) (u.pl t)
inductive bR(n:Nat)(ds:Zh)(R:D->Prop):Prop
 | mk (s:HR) (t:Bool) (names:Zb) (hh:ds=[s.D,.bl t]/\s.dep<=n/\s.ok names/\names.length<=100/\R (s.pl t).D)
theorem iH(n:Nat):∀ds R,bR n ds R->ds.length=2:=λ_ _ ⟨_,_,_,e,_⟩=>by rw[e];rfl
theorem gR:∀ds R,¬ bR 0 ds R:=λ_ _ ⟨s,_,_,_,h,_⟩=>by have:=s.dep_pos;omega
theorem wy(h:mB names ts):ts.length<=names.length:=by have:=h.sub.length_le;rw[HS] at this;exact this
theorem fV:ax ["saying","turned","word"] ["saying","turned"] (aq s_plain_part):=by walk_at "sc"
theorem ki(Z:Zz){n:Nat}(et:Z.C (2+n) "plain_part" ["saying","turned"] (HN Z.K (bR n))):Z.C (2+n+1) "plain_part" ["saying","turned"] (HN Z.K (bR (n+1))):=by
 refine cy (k:=2+n) Z.x14 fV (iH (n+1)) λfa cdv A outer s H E ds R hr h=>?_;have hU:=hr.units;refine⟨_,(ad (aP (aC (dY hU) (Hg 0) aw (ay _)) (af (av (au et (hr.mono 'b') rfl (ac (Hg 0) (ac (nG (am 1)) ae))))) aF) (ad (aP (br (au (eS Z) (hr.mono 'b') rfl (ac (am 0) ae))) (af (av (ti (br (am 1)) (au (nF Z) (hr.mono 'b') rfl (ac (am 0) ae)) (am 0)))) aF) (ad (aA 2 fV.nd (ti (br (am 1)) (wH rfl Z.g_OPPOSITES (Hg 0) (λ_ _=>rfl)) (Hg 0))) (af (av (aI (ac (am 2) (ac (au et (hr.mono 'b') rfl (ac (Hg 0) (ac (am 1) ae))) (ac (au et (hr.mono 'b') rfl (ac (Hg 0) (ac (am 1) ae))) ae))))))))),?_⟩;obtain⟨s,t,names,rfl,hd,ok,hl,q⟩:=h;refine ak λK1 h1=>?_
 cases s with
 | row k ts b =>
  have ab:=wy ok.1
  have aa:¬ kdS k=Str.ofString "not":=by cases k<;>decide
  unfold HR.D gF;walk_at "";refine Hz aa ?_;rw[h1];refine ak λK2 h2=>?_;walk_at "";refine⟨.row k ts b,rfl,?_⟩;walk_at "";refine ifp rfl ?_
  cases t with
  | true=>exact ifp rfl ⟨k,ts,b,rfl,by omega,q⟩
  | false=>exact Hz Ie q
 | nt s =>
  unfold HR.D;walk_at "";have hd:s.dep+1<=n+1:=hd;exact⟨s,!t,names,rfl,by omega,ok,hl,q⟩
 | bo s u =>
  unfold HR.D;walk_at "";have hd:max s.dep u.dep+1<=n+1:=hd;refine Hz 'd' ?_;rw[h1];refine ak λK2 h2=>?_;walk_at "";refine⟨.bo s u,rfl,?_⟩;walk_at "";refine Hz Ie ?_;walk_at "";rw[h2];refine ak λK3 h3=>?_;walk_at ""
  cases t with
  | true =>
   refine ifp rfl ⟨"either",by decide,?_⟩;rw[h3];walk_at "";refine⟨s,true,names,rfl,by omega,ok.1,hl,?_⟩;refine⟨u,true,names,rfl,by omega,ok.2,hl,?_⟩;exact q
  | false =>
   refine Hz Ie ?_;rw[h3];walk_at "";refine⟨s,false,names,rfl,by omega,ok.1,hl,?_⟩;refine⟨u,false,names,rfl,by omega,ok.2,hl,?_⟩;exact q
 | ei s u =>
  unfold HR.D;walk_at "";have hd:max s.dep u.dep+1<=n+1:=hd;refine Hz 'd' ?_;rw[h1];refine ak λK2 h2=>?_;walk_at "";refine⟨.ei s u,rfl,?_⟩;walk_at "";refine Hz Ie ?_;walk_at "";rw[h2];refine ak λK3 h3=>?_;walk_at ""
  cases t with
  | true =>
   refine ifp rfl ⟨"both",by decide,?_⟩;rw[h3];walk_at "";refine⟨s,true,names,rfl,by omega,ok.1,hl,?_⟩;refine⟨u,true,names,rfl,by omega,ok.2,hl,?_⟩;exact q
  | false =>
   refine Hz Ie ?_;rw[h3];walk_at "";refine⟨s,false,names,rfl,by omega,ok.1,hl,?_⟩;refine⟨u,false,names,rfl,by omega,ok.2,hl,?_⟩;exact q
theorem kz(Z:Zz):Z.C 62 "plain_part" ["saying","turned"] (HN Z.K (bR 60)):=Nat.rec (motive:=λn=>Z.C (2+n) "plain_part" ["saying","turned"] (HN Z.K (bR n))) (eO Z.x14 _ gR) (λ_=>ki Z) 60
inductive wM(ds:Zh)(R:D->Prop):Prop
 | mk (s:HR) (names:Zb) (hh:ds=[s.D]/\s.dep<=60/\s.ok names/\names.length<=100/\R (s.pl false).D)
theorem qi:∀ds R,wM ds R->ds.length=1:=λ_ _ ⟨_,_,e,_⟩=>by rw[e];rfl
theorem yj:ax ["saying"] ["saying"] (aq s_plain):=by walk_at "sc"
theorem uo(Z:Zz):Z.C 63 "plain" ["saying"] (HN Z.K wM):=by
 refine cy Z.x15 yj qi λfa cdv A outer s H E ds R hr h=>?_;have hU:=hr.units;refine⟨_,(af (av (au (kz Z) (rm hr) rfl (ac (am 0) (ac kh ae))))),?_⟩;obtain⟨s,names,rfl,hd,ok,hl,q⟩:=h;walk_at "";exact⟨s,false,names,rfl,hd,ok,hl,q⟩
theorem tM(ts:List (Str×Int)):(v4 ts).map (·.1)=ts.map (·.1):=by unfold v4;rw[IU];rfl
theorem sT(h:mB names ts):mB names (v4 ts):=by
 refine⟨by rw[tM];exact h.sub,λt ht=>?_,λt ht=>?_⟩
 ·obtain⟨u,hu,rfl⟩:=HW.mp ht;have:=h.nz u hu;show -u.2≠0;omega
 ·obtain⟨u,hu,rfl⟩:=HW.mp ht;exact Kf (h.bits u hu)
theorem HR.pl_ok:∀ {s:HR} {t:Bool},s.ok names->(s.pl t).ok names
 | .row k ts b,true,h=>⟨sT h.1,Kf h.2⟩
 | .row k ts b,false,h=>h
 | .nt s,t,h=>HR.pl_ok (s:=s) h
 | .bo s u,true,h=>⟨HR.pl_ok h.1,HR.pl_ok h.2⟩
 | .bo s u,false,h=>⟨HR.pl_ok h.1,HR.pl_ok h.2⟩
 | .ei s u,true,h=>⟨HR.pl_ok h.1,HR.pl_ok h.2⟩
 | .ei s u,false,h=>⟨HR.pl_ok h.1,HR.pl_ok h.2⟩
theorem HR.pl_dep:∀ {s:HR} {t:Bool},(s.pl t).dep<=s.dep
 | .row k ts b,true=>Ib _
 | .row k ts b,false=>Ib _
 | .nt s,t=>Nat.le_succ_of_le (HR.pl_dep (s:=s))
 | .bo s u,true=>by have:=HR.pl_dep (s:=s) (t:=true);have:=HR.pl_dep (s:=u) (t:=true);show max _ _+1<=max _ _+1;omega
 | .bo s u,false=>by have:=HR.pl_dep (s:=s) (t:=false);have:=HR.pl_dep (s:=u) (t:=false);show max _ _+1<=max _ _+1;omega
 | .ei s u,true=>by have:=HR.pl_dep (s:=s) (t:=true);have:=HR.pl_dep (s:=u) (t:=true);show max _ _+1<=max _ _+1;omega
 | .ei s u,false=>by have:=HR.pl_dep (s:=s) (t:=false);have:=HR.pl_dep (s:=u) (t:=false);show max _ _+1<=max _ _+1;omega
def HR.args:HR->List DL.D
 | .row k ts b=>[.str (kdS k),.tup (ts.map Hh),.int b]
 | .nt s=>[.str "not",s.D]
 | .bo s t=>[.str "both",s.D,t.D]
 | .ei s t=>[.str "either",s.D,t.D]
theorem HR.D_args(s:HR):s.D=.tup s.args:=by cases s<;>rfl
theorem HR.nds:∀s:HR,DL.D.nds s.args=true
 | .row k ts b=>by
  show (true&&(DL.D.nds (ts.map Hh)&&(true&&true)))=true
  rw[vm];rfl
 | .nt s=>by
  show (true&&(DL.D.nd s.D&&true))=true
  rw[s.D_args];show (true&&(DL.D.nds s.args&&true))=true;rw[HR.nds s];rfl
 | .bo s t=>by
  show (true&&(DL.D.nd s.D&&(DL.D.nd t.D&&true)))=true
  rw[s.D_args,t.D_args];show (true&&(DL.D.nds s.args&&(DL.D.nds t.args&&true)))=true;rw[HR.nds s,HR.nds t];rfl
 | .ei s t=>by
  show (true&&(DL.D.nd s.D&&(DL.D.nd t.D&&true)))=true
  rw[s.D_args,t.D_args];show (true&&(DL.D.nds s.args&&(DL.D.nds t.args&&true)))=true;rw[HR.nds s,HR.nds t];rfl
theorem HR.dps:∀s:HR,DL.D.dps s.args<=s.dep+1
 | .row k ts b=>by
  have:=vX ts
  show max 0 (max (DL.D.dps (ts.map Hh)+1) (max 0 0))<=1+1
  omega
 | .nt s=>by
  have:=HR.dps s
  show max 0 (max (DL.D.dp s.D) 0)<=s.dep+1+1
  rw[s.D_args];show max 0 (max (DL.D.dps s.args+1) 0)<=s.dep+1+1;omega
 | .bo s t=>by
  have:=HR.dps s
  have:=HR.dps t
  show max 0 (max (DL.D.dp s.D) (max (DL.D.dp t.D) 0))<=max s.dep t.dep+1+1
  rw[s.D_args,t.D_args];show max 0 (max (DL.D.dps s.args+1) (max (DL.D.dps t.args+1) 0))<=max s.dep t.dep+1+1;omega
 | .ei s t=>by
  have:=HR.dps s
  have:=HR.dps t
  show max 0 (max (DL.D.dp s.D) (max (DL.D.dp t.D) 0))<=max s.dep t.dep+1+1
  rw[s.D_args,t.D_args];show max 0 (max (DL.D.dps s.args+1) (max (DL.D.dps t.args+1) 0))<=max s.dep t.dep+1+1;omega
theorem Dr{s t:HR}{R:D->Prop}(e:s=t)(hd:s.dep<=59)(h:R (.bl true)):fEq [s.D,t.D] R:=by
 subst e;rw[s.D_args];exact⟨⟨rfl,s.nds,by have:=s.dps;omega⟩,h⟩
def cO(ns:Ze)(k:Int):Int:=ns.getD k.toNat 0
inductive jn(ds:Zh)(R:D->Prop):Prop
 | mk (ns:Ze) (k:Int) (hh:ds=[.fz (ns.map D.int),.int k]/\0<=k/\R (.int (cO ns k)))
theorem j9:∀ds R,jn ds R->ds.length=2:=λ_ _ ⟨_,_,e,_⟩=>by rw[e];rfl
theorem uf{α:Type}{xs:List α}{k:Int}(h0:0<=k)(h:k<xs.length):Hn xs k=xs[k.toNat]?:=by
 unfold Hn ixN;rw[Ir h0,Ir h];rfl
theorem nO:ax ["_law_script","_law_k"] ["_law_script","_law_k"] (aq s__law_cell):=by walk_at "sc"
theorem cE(Z:Zz):Z.C 1 "_law_cell" ["_law_script","_law_k"] (HN Z.K jn):=by
 refine cy Z.x16 nO j9 λfa cdv A outer s H E ds R hr h=>?_;have hU:=hr.units;refine⟨_,(ad (aP (aC zA (am 1) (aL gA rfl Z.x57 fK (ac (am 0) ae)) (ay _)) (af (av (gq gl (am 0) (am 1) (λ_ _=>rfl)))) aF) (af (av ap))),?_⟩;obtain⟨ns,k,rfl,h0,q⟩:=h;walk_at "";refine eQ (λc=>?_) (λc=>?_)
 ·rw[HS] at c;refine qAt.of (v:=.int (cO ns k)) ?_ q;rw[uf h0 (by rw[HS];exact c),List.getElem?_map];have:k.toNat<ns.length:=by omega
  unfold cO;rw[List.getD_eq_getElem?_getD,List.getElem?_eq_getElem this];rfl
 ·rw[HS] at c;have:ns.length<=k.toNat:=by omega
  unfold cO at q;rw[List.getD_eq_getElem?_getD,List.getElem?_eq_none this] at q;exact q
theorem Dy{α:Type}{xs:List α}{k:Nat}:cut xs none (some (k:Int))=xs.take k:=by
 unfold cut;rw[HT.sIx_none,HT.sIx_nat,List.drop_zero,Nat.sub_zero]
 by_cases h:k<=xs.length
 ·rw[Nat.min_eq_left h]
 ·rw[Nat.min_eq_right 'b',ID,J0 'b']
theorem Ao{α β:Type}{f:α->β}{xs:List α}{k:Nat}(h:k<xs.length):Hn (xs.map f) (k:Int)=some (f xs[k]):=by
 rw[uf 'b' (by rw[HS];omega),List.getElem?_map,J8,List.getElem?_eq_getElem h];rfl
def HR.cs:HR->List (List HR)
 | .row k ts b=>[[.row k ts b]]
 | .nt _=>[]
 | .bo s t=>s.cs.flatMap λc=>t.cs.map λd=>c++d
 | .ei s t=>s.cs++t.cs
def HR.pn:HR->Bool
 | .row _ _ _=>true
 | .nt _=>false
 | .bo s t=>s.pn&&t.pn
 | .ei s t=>s.pn&&t.pn
def HR.num:HR->Nat
 | .bo s t=>s.num*t.num
 | .ei s t=>s.num+t.num
 | _=>1
def HR.long:HR->Nat
 | .bo s t=>s.long+t.long
 | .ei s t=>max s.long t.long
 | _=>1
theorem HR.num_pos:∀s:HR,0<s.num
 | .row _ _ _=>Nat.one_pos
 | .nt _=>Nat.one_pos
 | .bo s t=>Nat.mul_pos s.num_pos t.num_pos
 | .ei s t=>Nat.add_pos_left s.num_pos _
theorem Cr{α β γ:Type}(f:α->β->γ)(m:List β):∀l:List α,(l.flatMap λc=>m.map λd=>f c d).length=l.length*m.length
 | []=>(Nat.zero_mul _).symm
 | c::l=>by rw[List.flatMap_cons,Ij,HS,Cr f m l,Ik,Nat.succ_mul,Nat.add_comm]
theorem HR.cs_num:∀ {s:HR},s.pn=true->s.cs.length=s.num
 | .row _ _ _,_=>rfl
 | .bo s t,h=>by
  obtain⟨h1,h2⟩:=IB.mp h;show (s.cs.flatMap λc=>t.cs.map λd=>c++d).length=s.num*t.num;rw[Cr,HR.cs_num h1,HR.cs_num h2]
 | .ei s t,h=>by
  obtain⟨h1,h2⟩:=IB.mp h;show (s.cs++t.cs).length=s.num+t.num;rw[Ij,HR.cs_num h1,HR.cs_num h2]
theorem HR.cs_long:∀ {s:HR},s.pn=true->∀c∈s.cs,c.length<=s.long
 | .row _ _ _,_,c,h=>by rw[Ii.mp h];exact Ib 1
 | .bo s t,h,c,hc=>by
  obtain⟨h1,h2⟩:=IB.mp h;obtain⟨x,hx,hy⟩:=JO.mp hc;obtain⟨y,hz,rfl⟩:=HW.mp hy;have:=HR.cs_long h1 x hx;have:=HR.cs_long h2 y hz;rw[Ij];show _<=s.long+t.long;omega
 | .ei s t,h,c,hc=>by
  obtain⟨h1,h2⟩:=IB.mp h;show _<=max s.long t.long
  rcases Ip.mp hc with hc | hc
  ·have:=HR.cs_long h1 c hc;omega
  ·have:=HR.cs_long h2 c hc;omega
theorem HR.pl_pn:∀ {s:HR} {t:Bool},(s.pl t).pn=true
 | .row k ts b,true=>rfl
 | .row k ts b,false=>rfl
 | .nt s,t=>HR.pl_pn (s:=s)
 | .bo s u,true=>by show ((s.pl true).pn&&(u.pl true).pn)=true;rw[HR.pl_pn,HR.pl_pn];rfl
 | .bo s u,false=>by show ((s.pl false).pn&&(u.pl false).pn)=true;rw[HR.pl_pn,HR.pl_pn];rfl
 | .ei s u,true=>by show ((s.pl true).pn&&(u.pl true).pn)=true;rw[HR.pl_pn,HR.pl_pn];rfl
 | .ei s u,false=>by show ((s.pl false).pn&&(u.pl false).pn)=true;rw[HR.pl_pn,HR.pl_pn];rfl
def dU(c:List HR):D:=.lst (c.map HR.D)
def csD(cs:List (List HR)):D:=.lst (cs.map dU)
inductive fh(ds:Zh)(R:D->Prop):Prop
 | mk (A B:List (List HR)) (hh:ds=[csD A,csD B]/\A.length<=20/\B.length<=20/\(∀c∈A,c.length<=20)/\(∀c∈B,c.length<=20)/\R (csD (A.flatMap λc=>B.map λd=>c++d)))
theorem fY:∀ds R,fh ds R->ds.length=2:=λ_ _ ⟨_,_,e,_⟩=>by rw[e];rfl
theorem zm{cs:List (List HR)}{i:Nat}{d:D}(h:(cs.map dU)[i]?=some d):∃c,cs[i]?=some c/\d=.lst (c.map HR.D):=by
 rw[List.getElem?_map] at h
 cases e:cs[i]? with
 | none=>rw[e] at h;cases h
 | some n=>rw[e] at h;exact⟨n,rfl,(Iq h).symm⟩
theorem bV:ax ["one","other","told","first","second"] ["one","other"] (aq s_put_together):=by walk_at "sc"
theorem iN(Z:Zz):Z.C 1 "put_together" ["one","other"] (HN Z.K fh):=by
 refine cy Z.x17 bV fY λfa cdv A outer s H E ds R hr h=>?_;have hU:=hr.units;refine⟨_,(ad (dz 2 bV.nd ae) (ad (bu Iv rfl (am 0) (ar 3 bV.nd) (af (bu Iv rfl (am 1) (ar 4 bV.nd) (af (a8 2 (aE aY (am 3) (am 4))))))) (af (lL 2)))),?_⟩;obtain⟨A,B,rfl,hA,hB,lA,lB,q⟩:=h;unfold csD at q ⊢;walk_at "";intro a;walk_at "";simp only[tf];walk_at "";have fl:∀i,((A.take i).flatMap λc=>B.map λd=>c++d).length<=400:=λi=>by
  rw[Cr,IH];exact Nat.mul_le_mul (show min i A.length<=20 by omega) hB
 refine⟨λi δ=>∃x y,δ=[.dat (.lst (A.map dU)),.dat (.lst (B.map dU)),.own a (.lst (((A.take i).flatMap λc=>B.map λd=>c++d).map dU)),x,y],⟨_,_,rfl⟩,?_,?_⟩
 ·rintro i d δ hd ⟨x,y,rfl⟩;obtain⟨c,hc,rfl⟩:=zm hd;have ab:=lA c (Im hc);have ag:=fl i;walk_at "";refine⟨λj δ=>∃x,δ=[.dat (.lst (A.map dU)),.dat (.lst (B.map dU)),.own a (.lst (((A.take i).flatMap (λc=>B.map λd=>c++d)++(B.take j).map λd=>c++d).map dU)),.dat (.lst (c.map HR.D)),x],⟨_,by rw[KG,Ko,IZ]⟩,?_,?_⟩
  ·rintro j d δ hd ⟨x,rfl⟩;obtain⟨e,he,rfl⟩:=zm hd;have aa:=lB e (Im he);walk_at "";refine⟨by simp only[List.length_map];omega,by simp only[List.length_map,List.length_append,List.length_take];omega,?_⟩;rw[aD he,IA,IA,IA];simp only[dU,List.map_append,List.map_cons,List.map_nil,List.append_assoc]
  ·rintro δ ⟨x,rfl⟩;rw[HS,ID];rw[aD hc,Km,List.flatMap_singleton];exact⟨_,_,rfl⟩
 ·rintro δ ⟨x,y,rfl⟩;rw[HS,ID];walk_at "";exact q
inductive bn(n:Nat)(ds:Zh)(R:D->Prop):Prop
 | mk (s:HR) (w:D) (hh:ds=[s.D,w]/\s.dep<=n/\s.pn=true/\s.num<=4/\s.long<=3/\R (csD s.cs))
theorem fS(n:Nat):∀ds R,bn n ds R->ds.length=2:=λ_ _ ⟨_,_,e,_⟩=>by rw[e];rfl
theorem fH:∀ds R,¬ bn 0 ds R:=λ_ _ ⟨s,_,_,h,_⟩=>by have:=s.dep_pos;omega
theorem ua{cs:List (List HR)}{P:Prop}(h4:cs.length<=4)(h3:∀c∈cs,c.length<=3)(h0:0<cs.length)(q:P):¬ (4:Int)<(cs.map dU).length/\(cs.map dU).length<=9000/\∃f:D->Option D,(∀x∈cs.map dU,CT [x] (kD (wd λy δ4=>okT 1 δ4 []/\f x=some y) [.dat x]))/\∃ns:Ze,(cs.map dU).filterMap f=ns.map D.int/\0<ns.length/\∀M∈ns,(∀a∈ns,a<=M)->if 3<M then False else P:=by
 refine⟨by rw[HS];omega,by rw[HS];omega,λd=>match d with | .lst l=>some (.int l.length) | _=>none,λx hx=>?_,cs.map λc=>(c.length:Int),?_,by rw[HS];exact h0,λM hM _=>?_⟩
 ·obtain⟨c,_,rfl⟩:=HW.mp hx;exact⟨rfl,rfl⟩
 ·rw[aK _ dU (λc=>D.int (c.length:Int)) _ (by intro c _;show some (D.int ((c.map HR.D).length:Int))=_;rw[HS]),IU];rfl
 ·obtain⟨c,hc,rfl⟩:=HW.mp hM;have:=h3 c hc;exact Hz 'b' q
theorem HR.cs_pos{s:HR}(h:s.pn=true):0<s.cs.length:=by rw[HR.cs_num h];exact s.num_pos
theorem b9:ax ["part","whole","one","other","told"] ["part","whole"] (aq s_cases_within):=by walk_at "sc"
theorem gT(Z:Zz){n:Nat}(fj:Z.C (2+n) "cases_within" ["part","whole"] (HN Z.K (bn n))):Z.C (2+n+1) "cases_within" ["part","whole"] (HN Z.K (bn (n+1))):=by
 refine cy (k:=2+n) Z.x18 b9 (fS (n+1)) λfa cdv A outer s H E ds R hr h=>?_;have hU:=hr.units;refine⟨_,(ad (aP (br (au (eS Z) (hr.mono 'b') rfl (ac (am 0) ae))) (af (av (a6 (ac (a6 (ac (am 0) ae)) ae)))) aF) (ad (aA 2 b9.nd (au fj (hr.mono 'b') rfl (ac (Hg 0) (ac (am 1) ae)))) (ad (aA 3 b9.nd (au fj (hr.mono 'b') rfl (ac (Hg 0) (ac (am 1) ae)))) (ad (aA 4 b9.nd (ti (aC (dY hU) (Hg 0) aw (ay _)) (au (iN Z) (hr.mono 'b') rfl (ac (am 2) (ac (am 3) ae))) (aE aY (am 2) (am 3)))) (ad (aP (DW.dt (eC (aC wV (aL gA rfl Z.x57 fK (ac (am 4) ae)) (vC rfl Z.g_MOST_CASES) (ay _)) (dQ (aC wV (aL (DH rfl) rfl Z.x58 Dv (ac (bq ["case"] [] rfl rfl 'g' rfl 'g' (ba trivial) (λ_=>be rfl) (aN trivial) (dg (am 4)) λ_ _ _ _ _=>⟨(ar 0 (show List.Nodup (["case"]:Zb) by decide +kernel)),cD,(aL gA rfl Z.x57 fK (ac (am 0) ae))⟩) ae)) (vC rfl Z.g_MOST_ROWS) (ay _))))) f7 aF) (af (av (am 4)))))))),?_⟩;obtain⟨s,w,rfl,hd,hp,hn,hl,q⟩:=h;walk_at "";refine⟨s,rfl,?_⟩;walk_at ""
 cases s with
 | nt s=>cases hp
 | row k ts b=>exact ifp rfl q
 | bo s t =>
  refine Hz Ie ?_;unfold HR.D;walk_at "";obtain⟨p1,p2⟩:=IB.mp hp;have hd:max s.dep t.dep+1<=n+1:=hd;have aa:s.num*t.num<=4:=hn;have ag:s.long+t.long<=3:=hl;have ah:s.num<=4:=HX (Nat.le_mul_of_pos_right _ t.num_pos) aa;have ab:t.num<=4:=HX (Nat.le_mul_of_pos_left _ s.num_pos) aa;refine⟨s,w,rfl,by omega,p1,ah,by omega,?_⟩;refine⟨t,w,rfl,by omega,p2,ab,by omega,?_⟩;refine⟨s.cs,t.cs,rfl,by rw[HR.cs_num p1];omega,by rw[HR.cs_num p2];omega,λc hc=>by have:=HR.cs_long p1 c hc;omega,λc hc=>by have:=HR.cs_long p2 c hc;omega,?_⟩;have h4:(HR.bo s t).cs.length<=4:=by rw[HR.cs_num hp];exact hn
  have h3:∀c∈(HR.bo s t).cs,c.length<=3:=λc hc=>HX (HR.cs_long hp c hc) hl
  obtain⟨e1,e2⟩:=ua h4 h3 (HR.cs_pos hp) q;show kD _ _ (csD (HR.bo s t).cs);unfold csD;walk_at "";exact Hz e1 e2
 | ei s t =>
  refine Hz Ie ?_;unfold HR.D;walk_at "";obtain⟨p1,p2⟩:=IB.mp hp;have hd:max s.dep t.dep+1<=n+1:=hd;have aa:s.num+t.num<=4:=hn;have ag:max s.long t.long<=3:=hl;refine⟨s,w,rfl,by omega,p1,by omega,by omega,?_⟩;refine⟨t,w,rfl,by omega,p2,by omega,by omega,?_⟩;have h4:(HR.ei s t).cs.length<=4:=by rw[HR.cs_num hp];exact hn
  have h3:∀c∈(HR.ei s t).cs,c.length<=3:=λc hc=>HX (HR.cs_long hp c hc) hl
  obtain⟨e1,e2⟩:=ua h4 h3 (HR.cs_pos hp) q;unfold csD;walk_at "";refine Hz 'd' ?_;have e0:s.cs.map dU++t.cs.map dU=(HR.ei s t).cs.map dU:=(IA ..).symm;rw[e0];have h5:s.cs.length+t.cs.length<=4:=by rw[<- Ij];exact h4
  refine⟨by rw[HS,HS];omega,?_⟩;exact Hz e1 e2
theorem iI(Z:Zz):Z.C 62 "cases_within" ["part","whole"] (HN Z.K (bn 60)):=Nat.rec (motive:=λn=>Z.C (2+n) "cases_within" ["part","whole"] (HN Z.K (bn n))) (eO Z.x18 _ fH) (λ_=>gT Z) 60
inductive uM(ds:Zh)(R:D->Prop):Prop
 | mk (s:HR) (names:Zb) (hh:ds=[s.D]/\s.dep<=60/\s.ok names/\names.length<=100/\(s.pl false).num<=4/\(s.pl false).long<=3/\R (csD (s.pl false).cs))
theorem qc:∀ds R,uM ds R->ds.length=1:=λ_ _ ⟨_,_,e,_⟩=>by rw[e];rfl
theorem yk:ax ["saying"] ["saying"] (aq s_cases):=by walk_at "sc"
theorem fR(Z:Zz):Z.C 64 "cases" ["saying"] (HN Z.K uM):=by
 refine cy Z.x19 yk qc λfa cdv A outer s H E ds R hr h=>?_;have hU:=hr.units;refine⟨_,(af (av (au (iI Z) (rm hr) rfl (ac (au (uo Z) (rm hr) rfl (ac (am 0) ae)) (ac (am 0) ae))))),?_⟩;obtain⟨s,names,rfl,hd,ok,hl,hn,hg,q⟩:=h;walk_at "";refine⟨s,names,rfl,hd,ok,hl,?_⟩;exact⟨s.pl false,s.D,rfl,HX HR.pl_dep hd,HR.pl_pn,hn,hg,q⟩
inductive uF(ds:Zh)(R:D->Prop):Prop
 | mk (rows:List Rw) (ws:Ze) (nm:Zb) (hh:ds=[.lst (rows.map Hk),.tup (ws.map D.int)]/\nm.length<=60/\(∀r∈rows,RwOk nm 60000000 r)/\(∀w∈ws,Builtin.Int.intBits w<=60000000) /\
 ∀ts,fL (cfs (rows.zip ws)) ts->R (gF (kOf (Hw (rows.zip ws))) ts (bds (rows.zip ws))))
theorem pe:∀ds R,uF ds R->ds.length=2:=λ_ _ ⟨_,_,_,e,_⟩=>by rw[e];rfl
theorem bZ:ax ["rows","weights","word","sums","bound","row","often","name","weight","terms"] ["rows","weights"] (aq s_added):=by walk_at "sc"
theorem uu(Z:Zz):Z.C 1 "added" ["rows","weights"] (HN Z.K uF):=by
 refine cy Z.x20 bZ pe λfa cdv A outer s H E ds R hr h=>?_;have hU:=hr.units;refine⟨_,(ad (aA 2 bZ.nd aw) (ad (fM 3 bZ.nd) (ad (aA 4 bZ.nd ap) (ad (ia Iv rfl (qU true false rfl Z.x59 (ac (am 0) (ac (am 1) ae))) (bJ (n:=2) rfl (aB (ar 5 bZ.nd) (aB (ar 6 bZ.nd) aW))) (ad (aP (DW.dt (gg (aC (dY hU) (Hg 5) aw (ay _)) (fA (aC wV (am 6) ap (ay _))))) (af (aA 2 bZ.nd aw)) aF) (ad (gX Iv rfl (Hg 5) (bJ (n:=2) rfl (aB (ar 7 bZ.nd) (aB (ar 8 bZ.nd) aW))) (af (eF 3 hU (aE aY (AZ 3 hU (am 7) ap) (aE bH (am 6) (am 8))) (am 7)))) (af (aA 4 bZ.nd (aE aY (am 4) (aE bH (am 6) (Hg 5)))))))) (bB 3 (ad (aA 9 bZ.nd (cQ ma rfl Z.x56 cT (ac (bq ["name"] [(3,"sums")] rfl rfl 'g' rfl 'g' (ba ⟨rfl,trivial⟩) (λ_=>be rfl) (aN ⟨⟨rfl,rfl,.inl rfl⟩,trivial⟩) (dg (aL (lU rfl) rfl Z.x55 iU (ac (am 3) ae))) λ_ _ _ _ _=>⟨(ar 0 (show List.Nodup (["name","sums"]:Zb) by decide +kernel)),(ff (aC (fT hU) (cB hU (am 1) (am 0) (λ_ _=>rfl)) ap (ay _))),(aI (ac (am 0) (ac (cB hU (am 1) (am 0) (λ_ _=>rfl)) ae)))⟩) ae))) (af (av (aI (ac (am 2) (ac (am 9) (ac (am 4) ae)))))))))))),?_⟩;obtain⟨rows,ws,nm,rfl,al,hr,hw,q⟩:=h;refine ak λK1 h1=>?_;walk_at "";rw[h1];refine ak λK3 h3=>?_;walk_at "";intro da;rw[h3];refine ak λK4 h4=>?_;walk_at "";rw[h4];refine ak λK5 h5=>?_;refine d6 λB N hB hN=>?_;walk_at "";simp only[lJ];walk_at "";rw[ya];generalize hl:rows.zip ws=l at q ⊢;have ai:∀p∈l,RwOk nm 60000000 p.1/\Builtin.Int.intBits p.2<=60000000:=λp hp=>by
  rw[<- hl] at hp;exact⟨hr _ (IT hp).1,hw _ (IT hp).2⟩
 clear hl hr hw
 refine⟨λi δ=>∃ks u v w z y,δ=[.dat (.lst (rows.map Hk)),.dat (.tup (ws.map D.int)),.dat (.str (kdS (kOf (Hw (l.take i))))),.own da (.dct ks (ks.map λn=>.int (cfs (l.take i) n))),.dat (.int (bds (l.take i))),u,v,w,z,y]/\ks.Nodup/\(∀n∈ks,n∈nm)/\∀n,n∉ks->cfs (l.take i) n=0,
  ⟨[],_,_,_,_,_,rfl,List.nodup_nil,λn h=>(nomatch h),λn h=>rfl⟩,?_,?_⟩
 ·rintro i d δ hd ⟨ks,u,v,w,z,y,rfl,nd,hs,h0⟩;rw[List.getElem?_map] at hd
  cases hn:l[i]? with
  | none=>rw[hn] at hd;cases hd
  | some p =>
   rw[hn] at hd
   cases hd
   obtain⟨⟨k,ts,b⟩,c⟩:=p;obtain⟨ok,bc⟩:=ai _ (Im hn);have aa:=aD hn;rw[hB];show m8 _ _ (.tup [.tup [.str (kdS k),.tup (ts.map Hh),.int b],.int c]) _ _;refine cj λK hK=>?_;walk_at "";have go:∀wd,wd=kdS (kOf (Hw (l.take (i+1))))->K [.dat (.lst (rows.map Hk)),.dat (.tup (ws.map D.int)),.dat (.str wd),.own da (.dct ks (ks.map λn=>.int (cfs (l.take i) n))),.dat (.int (bds (l.take i))),.dat (.tup [.str (kdS k),.tup (ts.map Hh),.int b]),.dat (.int c),w,z,y]:=?_
   ·have e:Hw (l.take (i+1))=(Hw (l.take i)||(isM k&&decide (0<c))):=by rw[aa,vn,wv]
    cases k with
    | least =>
     refine Hz 'd' (go _ ?_);rw[e];simp only[isM,Bool.false_and,Bool.or_false]
    | more =>
     refine ifp rfl (eQ (λhc=>go _ ?_) λhc=>go _ ?_)
     ·rw[e,IC hc];simp only[isM,Bool.and_true,Bool.or_true];rfl
     ·rw[e,IL hc];simp only[isM,Bool.and_false,Bool.or_false]
   intro wd aj;rw[hK];refine ak λK2 hK2=>?_;walk_at "";simp only[qm];walk_at ""
   refine⟨λj δ=>∃ks w z y,δ=[.dat (.lst (rows.map Hk)),.dat (.tup (ws.map D.int)),.dat (.str wd),.own da (.dct ks (ks.map λn=>.int (cfs (l.take i) n+c*cf (ts.take j) n))),.dat (.int (bds (l.take i))),.dat (.tup [.str (kdS k),.tup (ts.map Hh),.int b]),.dat (.int c),w,z,y]/\ks.Nodup/\(∀n∈ks,n∈nm)/\∀n,n∉ks->cfs (l.take i) n+c*cf (ts.take j) n=0,
    ⟨ks,w,z,y,by simp only[List.take_zero,cf,Int.mul_zero,Int.add_zero],nd,hs,λn hn=>by rw[h0 n hn,KG];show 0+c*0=0;omega⟩,?_,?_⟩
   ·rintro j d δ hd ⟨ks,w,z,y,rfl,nd,hs,h0⟩;obtain⟨t,ht,rfl⟩:=dB hd;have ag:=Im ht;have hj:=aD ht;walk_at "";rw[xX (h0 t.1)];walk_at "";refine⟨Hy bc (ok.bw t ag),by have:=gy nd hs;omega,?_,uI nd,λn hn=>?_,λn hn=>?_⟩
    ·have e:∀n,cfs (l.take i) n+c*cf (ts.take (j+1)) n=(cfs (l.take i) n+c*cf (ts.take j) n)+c*(if t.1=n then t.2 else 0):=λn=>by
      rw[hj,wf,Int.mul_add];show _+(_+c*((if t.1=n then t.2 else 0)+0))=_;rw[Kq,Int.add_assoc]
     have:=AC (ks:=ks) (x:=t.1) (f:=λn=>D.int (cfs (l.take i) n+c*cf (ts.take j) n)) (g:=λn=>D.int (cfs (l.take i) n+c*cf (ts.take (j+1)) n)) (λn hn=>by rw[e,Io (λz=>hn z.symm),Int.mul_zero,Kq])
     rw[<- this,e,Ir rfl]
    ·rcases sE.mp hn with h | h
     ·exact hs n h
     ·rw[h];exact ok.sub t ag
    ·rw[sE,not_or] at hn;rw[hj,wf,Int.mul_add,<- Int.add_assoc,h0 n hn.1];show 0+c*((if t.1=n then t.2 else 0)+0)=0;rw[Io (λz=>hn.2 z.symm)];omega
   ·rintro δ ⟨ks,w,z,y,rfl,nd,hs,h0⟩;have e1:ts.take (ts.map Hh).length=ts:=by rw[HS,ID]
    rw[e1] at h0 ⊢;rw[hK2];walk_at "";have e2:∀n,cfs (l.take (i+1)) n=cfs (l.take i) n+c*cf ts n:=λn=>by
     rw[aa,uB];show _+(c*cf ts n+0)=_;rw[Kq]
    simp only[e2];rw[aa,uZ];exact⟨Hy bc ok.bb,by rw[<- aa];exact aj,trivial,(by show _=_+(c*b+0);rw[Kq]),nd,hs,λn hn=>h0 n hn⟩
 ·rintro δ ⟨ks,u,v,w,z,y,rfl,nd,hs,h0⟩;rw[HS,ID] at h0 ⊢;rw[hN];show K5 _;rw[h5];walk_at "";have hk:=gy nd hs;refine⟨by omega,λss' pm st=>?_⟩;have ah:=pm.length_eq;refine⟨by rw[HS];omega,λd=>match d with | .str n=>if cfs l n≠0 then some (.tup [.str n,.int (cfs l n)]) else none | _=>none,λx hx=>?_,?_⟩
  ·obtain⟨n,hn,rfl⟩:=HW.mp hx;have ab:n∈ks:=pm.mem_iff.mp hn;walk_at "";refine⟨_,df (λn=>D.int (cfs l n)) ab,?_⟩;walk_at "";refine eQ (λhz=>?_) λhz=>?_
   ·exact⟨_,df (λn=>D.int (cfs l n)) ab,by rw[Ir hz]⟩
   ·rw[Io hz]
  ·have e:(ss'.map D.str).filterMap (λd=>match d with | .str n=>if cfs l n≠0 then some (D.tup [.str n,.int (cfs l n)]) else none | _=>none)=((ss'.filter λn=>decide (cfs l n≠0)).map λn=>(n,cfs l n)).map Hh:=by
    clear ah pm st
    induction ss' with
    | nil=>rfl
    | cons n r ih =>
     rw[Iy,IY];simp only
     by_cases hz:cfs l n≠0
     ·rw[Ir hz,IS (by simpa using hz)];simp only[List.map_cons];rw[ih];rfl
     ·rw[Io hz,IG (by simpa using hz)];exact ih
   rw[e];exact q _ (fL.mk' (nH st) (pm.nodup_iff.mpr nd) λn hn=>pm.mem_iff.mpr (Ic λz=>hn (h0 n z)))
def smD(nm:Zb)(rows:List Rw)(w:Ze):D:=.tup [Hk (HG nm rows w),.tup (w.map D.int)]
inductive jF(ds:Zh)(R:D->Prop):Prop
 | mk (n:Str) (r:Rw) (hh:ds=[.str n,Hk r]/\(r.2.1.map (·.1)).Nodup/\R (.int (cf r.2.1 n)))
theorem jC:∀ds R,jF ds R->ds.length=2:=λ_ _ ⟨_,_,e,_⟩=>by rw[e];rfl
theorem eB:ax ["name","row","found","weight"] ["name","row"] (aq s_weight_of):=by walk_at "sc"
theorem bg(Z:Zz):Z.C 1 "weight_of" ["name","row"] (HN Z.K jF):=by
 refine cy Z.x21 eB jC λfa cdv A outer s H E ds R hr h=>?_;have hU:=hr.units;refine⟨_,(ad (gX Iv rfl (Hg 1) (bJ (n:=2) rfl (aB (ar 2 eB.nd) (aB (ar 3 eB.nd) aW))) (af (aP (aC (dY hU) (am 2) (am 0) (ay _)) (af (av (am 3))) aF))) (af (av ap))),?_⟩;obtain⟨n,⟨k,ts,b⟩,rfl,nd,q⟩:=h;unfold Hk gF;walk_at "";simp only[qm];walk_at "";refine⟨λi δ=>∃x y,δ=[.dat (.str n),.dat (.tup [.str (kdS k),.tup (ts.map Hh),.int b]),x,y]/\n∉(ts.take i).map (·.1),⟨_,_,rfl,by simp⟩,?_,?_⟩
 ·rintro i d δ hd ⟨x,y,rfl,hn⟩;obtain⟨t,ht,rfl⟩:=dB hd;walk_at "";refine eQ (λe=>?_) (λe=>?_)
  ·subst e;have:=mH nd (Im ht);simp only at q this;rw[this] at q;exact q
  ·rw[aD ht,IA,Ip,not_or];exact⟨hn,λz=>e (Ii.mp z).symm⟩
 ·rintro δ ⟨x,y,rfl,hn⟩;rw[HS,ID] at hn;have:=kc hn;simp only at q;rw[this] at q;exact q
theorem zw{α:Type}{f:α->D}{l:List α}{i:Nat}{d:D}(h:(enD (l.map f))[i]?=some d):∃r,l[i]?=some r/\d=.tup [.int (i:Nat),f r]:=by
 unfold enD at h;rw[List.getElem?_mapIdx,List.getElem?_map] at h
 cases e:l[i]? with
 | none=>rw[e] at h;cases h
 | some r=>rw[e] at h;exact⟨r,rfl,(Iq h).symm⟩
theorem zZ{xs:Zh}:(enD xs).length=xs.length:=by unfold enD;rw[List.length_mapIdx]
inductive wa(ds:Zh)(R:D->Prop):Prop
 | mk (rows:List Rw) (nm:Zb) (hh:ds=[.lst (rows.map Hk)]/\Rws nm rows/\rows.length<=60/\R (.lst ((wY rows.length).map (smD nm rows))))
theorem pL:∀ds R,wa ds R->ds.length=1:=λ_ _ ⟨_,_,e,_⟩=>by rw[e];rfl
theorem i6:ax ["rows","told","place","row"] ["rows"] (aq s_alone):=by walk_at "sc"
theorem t9(Z:Zz):Z.C 1 "alone" ["rows"] (HN Z.K wa):=by
 refine cy Z.x22 i6 pL λfa cdv A outer s H E ds R hr h=>?_;have hU:=hr.units;refine⟨_,(ad (dz 1 i6.nd ae) (ad (ia Iv rfl (qj true rfl Z.x60 (ac (am 0) ae)) (bJ (n:=2) rfl (aB (ar 2 i6.nd) (aB (ar 3 i6.nd) aW))) (af (a8 1 (aI (ac (am 3) (ac (cQ ma rfl Z.x56 cT (ac (bq ["other"] [(2,"place")] rfl rfl 'g' rfl 'g' (ba ⟨rfl,trivial⟩) (λ_=>be rfl) (aN ⟨⟨rfl,rfl,.inl rfl⟩,trivial⟩) (jd rfl Z.x61 (ac (aL gA rfl Z.x57 fK (ac (am 0) ae)) ae)) λ_ _ _ _ _=>⟨(ar 0 (show List.Nodup (["other","place"]:Zb) by decide +kernel)),cD,(ti (aC (dY hU) (am 0) (am 1) (ay _)) ap ap)⟩) ae)) ae)))))) (af (lL 1)))),?_⟩;obtain⟨rows,nm,rfl,H,hl,q⟩:=h;walk_at "";intro ta;refine d6 λB N hB hN=>?_;walk_at "";simp only[lJ];walk_at "";refine⟨λi δ=>∃x y,δ=[.dat (.lst (rows.map Hk)),.own ta (.lst (((wY rows.length).take i).map (smD nm rows))),x,y],⟨_,_,rfl⟩,?_,?_⟩
 ·rintro i d δ hd ⟨x,y,rfl⟩;obtain⟨r,hr,rfl⟩:=zw hd;rw[hB];walk_at "";have aa:i<rows.length:=(List.getElem?_eq_some_iff.mp hr).1;rw[HS];refine⟨by omega,by omega,by simp;omega,λd=>match d with | .int o=>some (.int (if o=(i:Int) then 1 else 0)) | _=>none,λx hx=>?_,?_⟩
  ·obtain⟨o,ho,rfl⟩:=HW.mp hx;walk_at "";refine eQ (λe=>?_) (λe=>?_)
   ·rw[Ir e]
   ·rw[Io e]
  ·have e1:((List.range (rows.length:Int).toNat).map λ(k:Nat)=>D.int (k:Int)).filterMap (λd=>match d with | .int o=>some (D.int (if o=(i:Int) then 1 else 0)) | _=>none)=(unW rows.length i).map D.int:=by
    unfold unW;rw[IU,J8];rw[aK _ (λ(k:Nat)=>D.int (k:Int)) (λk=>D.int (if k=i then 1 else 0)) _ λk _=>?_]
    ·rfl
    ·show some (D.int (if (k:Int)=(i:Int) then 1 else 0))=_
     by_cases e:k=i
     ·rw[Ir e,Ir 'b']
     ·rw[Io e,Io 'b']
   have hu:(wY rows.length)[i]?=some (unW rows.length i):=by unfold wY;rw[List.getElem?_map,List.getElem?_range aa];rfl
   rw[e1,aD hu,IA];refine⟨by rw[HS,IH];omega,?_⟩;show _++[D.tup [Hk r,_]]=_++[smD nm rows (unW rows.length i)];unfold smD;rw[mr H hr]
 ·rintro δ ⟨x,y,rfl⟩;rw[zZ,HS,hN];walk_at "";have e:(wY rows.length).take rows.length=wY rows.length:=J0 (by unfold wY;simp);rw[e];exact q
theorem xV{ws:Ze}{i:Nat}{d:D}(h:(ws.map D.int)[i]?=some d):∃a,ws[i]?=some a/\d=.int a:=by
 rw[List.getElem?_map] at h
 cases e:ws[i]? with
 | none=>rw[e] at h;cases h
 | some n=>rw[e] at h;exact⟨n,rfl,(Iq h).symm⟩
theorem AM{ws:Ze}{n:Nat}(hz:∃w∈ws,w≠0)(hb:∀w∈ws,ib w<=n):ib (gW ws)<=n:=by
 obtain⟨w,hw,hn⟩:=hz;exact bN (mR hw) hn (hb w hw)
inductive jS(ds:Zh)(R:D->Prop):Prop
 | mk (ws:Ze) (hh:ds=[.lst (ws.map D.int)]/\ws.length<=60/\(∃w∈ws,w≠0)/\(∀w∈ws,ib w<=8000)/\R (.tup ((shW ws).map D.int)))
theorem jv:∀ds R,jS ds R->ds.length=1:=λ_ _ ⟨_,e,_⟩=>by rw[e];rfl
theorem dk:ax ["weights","divisor","weight"] ["weights"] (aq s_shortened):=by walk_at "sc"
theorem ms(Z:Zz):Z.C 2 "shortened" ["weights"] (HN Z.K jS):=by
 refine cy Z.x23 dk jv λfa cdv A outer s H E ds R hr h=>?_;have hU:=hr.units;refine⟨_,(ad (aA 1 dk.nd ap) (ad (bu Iv rfl (am 0) (ar 2 dk.nd) (af (aA 1 dk.nd (au (cY Z) (rm hr) rfl (ac (am 1) (ac (am 2) ae)))))) (af (av (cQ ma rfl Z.x56 cT (ac (bq ["weight"] [(1,"divisor")] rfl rfl 'g' rfl 'g' (ba ⟨rfl,trivial⟩) (λ_=>be rfl) (aN ⟨⟨rfl,rfl,.inl rfl⟩,trivial⟩) (dg (am 0)) λ_ _ _ _ _=>⟨(ar 0 (show List.Nodup (["weight","divisor"]:Zb) by decide +kernel)),cD,(aE cJ (am 0) (am 1))⟩) ae)))))),?_⟩;obtain⟨ws,rfl,hl,hz,hb,q⟩:=h;walk_at "";simp only[tf];walk_at "";refine⟨λi δ=>∃x,δ=[.dat (.lst (ws.map D.int)),.dat (.int ((ws.take i).foldl gc 0)),x],⟨_,rfl⟩,?_,?_⟩
 ·rintro i d δ hd ⟨x,rfl⟩;obtain⟨a,ha,rfl⟩:=xV hd;walk_at "";refine⟨_,_,rfl,?_⟩;walk_at "";rw[aD ha,KF];rfl
 ·rintro δ ⟨x,rfl⟩;rw[HS,ID];walk_at "";have g:=sD hz;refine⟨by rw[HS];omega,λd=>match d with | .int a=>some (.int (a.fdiv (gW ws))) | _=>none,λx hx=>?_,?_⟩
  ·obtain⟨a,_,rfl⟩:=HW.mp hx;walk_at "";exact⟨⟨by show gW ws≠0;omega,oA (AM hz hb) (Ib _)⟩,rfl⟩
  ·rw[aK _ D.int (λa=>D.int (a.fdiv (gW ws))) _ λk _=>rfl];unfold shW at q;rw[IU] at q;exact q
theorem qw{w:Ze}:smD nm rows w=.tup [Hk (HG nm rows w),.tup (w.map D.int)]:=rfl
theorem ip(H:Rws nm rows)(w:Ze):((HG nm rows w).2.1.map (·.1)).Nodup:=(H.smT w).nd
theorem yA{l h:Ze}:sK (l.map D.int) (h.map D.int)=(l.zip h).map λp=>D.tup [.int p.1,.int p.2]:=by
 unfold sK;rw[List.zipWith_map,List.zip,KQ]
inductive nL(ds:Zh)(R:D->Prop):Prop
 | mk (nm:Zb) (rows:List Rw) (n:Str) (l h:Ze) (hh:ds=[smD nm rows l,smD nm rows h,.str n]/\Rws nm rows/\rows.length<=60/\Wt rows.length l/\Wt rows.length h/\0<cfs (rows.zip l) n/\cfs (rows.zip h) n<0 /\
 ib (cfs (rows.zip l) n)<=8000/\ib (cfs (rows.zip h) n)<=8000/\(∀a∈l,ib a<=8000)/\(∀a∈h,ib a<=8000)/\(∀a∈crS rows n l h,ib a<=8000)/\R (.tup ((crW rows n l h).map D.int)))
theorem lZ:∀ds R,nL ds R->ds.length=3:=λ_ _ ⟨_,_,_,_,_,e,_⟩=>by rw[e];rfl
theorem hV:ax ["low","high","name","low_times","high_times"] ["low","high","name"] (aq s_crossed):=by walk_at "sc"
theorem pR(Z:Zz):Z.C 3 "crossed" ["low","high","name"] (HN Z.K nL):=by
 refine cy Z.x24 hV lZ λfa cdv A outer s H E ds R hr h=>?_;have hU:=hr.units;refine⟨_,(ad (aA 3 hV.nd (xY xO (au (bg Z) (rm hr) rfl (ac (am 2) (ac (Hg 1) ae))))) (ad (aA 4 hV.nd (au (bg Z) (rm hr) rfl (ac (am 2) (ac (Hg 0) ae)))) (af (av (au (ms Z) (rm hr) rfl (ac (bq ["one","other"] [(3,"low_times"),(4,"high_times")] rfl rfl 'g' rfl 'g' (ba ⟨rfl,rfl,trivial⟩) (λ_=>be rfl) (aN ⟨⟨rfl,rfl,.inl rfl⟩,⟨rfl,rfl,.inl rfl⟩,trivial⟩) (qU false false rfl Z.x59 (ac (Hg 0) (ac (Hg 1) ae))) λ_ _ _ _ _=>⟨(bJ (n:=2) rfl (aB (ar 0 (show List.Nodup (["one","other","low_times","high_times"]:Zb) by decide +kernel)) (aB (ar 1 (show List.Nodup (["one","other","low_times","high_times"]:Zb) by decide +kernel)) aW))),cD,(aE aY (aE bH (am 0) (am 2)) (aE bH (am 1) (am 3)))⟩) ae)))))),?_⟩;obtain⟨nm,rows,n,l,h,rfl,H,hm,wl,wh,cl,ch,b1,b2,b3,b4,b5,q⟩:=h;simp only[qw];walk_at "";refine⟨n,HG nm rows h,rfl,ip H h,?_⟩;walk_at "";refine⟨n,HG nm rows l,rfl,ip H l,?_⟩;walk_at "";rw[dS H,dS H,yA];have ll:=wl.len;have lh:=wh.len;refine⟨by rw[HS,Jh];omega,λd=>match d with | .tup [.int a,.int b]=>some (.int (a * -(cfs (rows.zip h) n)+b*cfs (rows.zip l) n)) | _=>none,λx hx=>?_,?_⟩
 ·obtain⟨⟨a,b⟩,hp,rfl⟩:=HW.mp hx;walk_at "";exact⟨Hy (b3 a (IT hp).1) (Kf b2),Hy (b4 b (IT hp).2) b1⟩
 ·obtain⟨_,nz⟩:=lg wl wh cl ch;refine⟨crS rows n l h,?_,by rw[oz ll lh];omega,nz,b5,q⟩;rw[aK _ (λp:Int×Int=>D.tup [.int p.1,.int p.2]) (λp=>D.int (p.1 * -(cfs (rows.zip h) n)+p.2*cfs (rows.zip l) n)) _ λk _=>rfl];unfold crS;rw[KQ,show l.zip h=List.zipWith Prod.mk l h from rfl,KQ]
def vN:D->Ze
 | .tup [_,.tup xs]=>xs.map λx=>match x with | .int a=>a | _=>0
 | _=>[]
theorem qr{w:Ze}:vN (smD nm rows w)=w:=by
 show (w.map D.int).map _=w
 rw[IU];exact List.map_id _
theorem d9(p:List Int->Bool):∀W:List (List Int),(W.map (smD nm rows)).filterMap (λd=>if p (vN d)=true then some d else none)=(W.filter p).map (smD nm rows)
 | []=>rfl
 | w::W=>by
  rw[Iy,IY,qr]
  by_cases h:p w=true
  ·rw[Ir h,IS h,d9 p W];rfl
  ·rw[Io h,IG h,d9 p W]
theorem qz{W:List (List Int)}{i:Nat}{d:D}(h:(W.map (smD nm rows))[i]?=some d):∃w,W[i]?=some w/\d=smD nm rows w:=by
 rw[List.getElem?_map] at h
 cases e:W[i]? with
 | none=>rw[e] at h;cases h
 | some n=>rw[e] at h;exact⟨n,rfl,(Iq h).symm⟩
theorem BM(u:Ze):((u.map D.int).filterMap (λd=>match d with | .int a=>if 0<a then some (D.int a) else none | _=>none)).length=usd u:=by
 unfold usd
 induction u with
 | nil=>rfl
 | cons a u ih =>
  rw[Iy,IY];simp only
  by_cases h:0<a
  ·rw[Ir h,IS (by simpa using h),Ik,Ik,ih]
  ·rw[Io h,IG (by simpa using h),ih]
structure zE(nm:Zb)(rows:List Rw)(B k:Nat)(W:List (List Int)):Prop where
 H:Rws nm rows
 hB:RwB B rows
 m6:rows.length<=60
 n6:nm.length<=60
 wt:∀w∈W,Wt rows.length w
 bits:∀w∈W,∀a∈w,ib a<=wb B rows.length k
 fit:cb B rows.length k<=8000/\wb B rows.length (k+1)<=8000
theorem zE.w8{B k:Nat}{W:List (List Int)}(S:zE nm rows B k W){w:List Int}(hw:w∈W):∀a∈w,ib a<=8000:=λa ha=>by
 have:=S.bits w hw a ha
 have:=S.fit.1
 unfold cb at this;omega
theorem zE.c8{B k:Nat}{W:List (List Int)}(S:zE nm rows B k W){w:List Int}(hw:w∈W)(n:Str):ib (cfs 'f' n)<=8000:=HX (S.H.cfb S.hB (S.bits w hw) n) S.fit.1
theorem zE.rw{B k:Nat}{W:List (List Int)}(S:zE nm rows B k W):∀r∈rows,RwOk nm 60000000 r:=λr hr=>by
 have h8:B<=8000:=by have:=S.fit.1;unfold cb at this;omega
 exact⟨S.H.sub r hr,λt ht=>HX (S.hB.tm r hr t ht) 'b',HX (S.hB.bd r hr) 'b'⟩
inductive ng(ds:Zh)(R:D->Prop):Prop
 | mk (nm:Zb) (rows:List Rw) (n:Str) (W:List (List Int)) (most B k c:Nat) (hh:ds=[.lst (rows.map Hk),.lst (W.map (smD nm rows)),.str n,.int (most:Nat)]/\zE nm rows B k W/\W.length<=c/\4<=c/\c*c / 4<9000/\R (.lst ((woW rows n most W).map (smD nm rows))))
theorem mo:∀ds R,ng ds R->ds.length=4:=λ_ _ ⟨_,_,_,_,_,_,_,_,e,_⟩=>by rw[e];rfl
theorem ci:ax ["rows","sums","name","most","told","lows","highs","low","high","weights"] ["rows","sums","name","most"] (aq s_without):=by walk_at "sc"
theorem ot(Z:Zz):Z.C 4 "without" ["rows","sums","name","most"] (HN Z.K ng):=by
 refine cy Z.x25 ci mo λfa cdv A outer s H E ds R hr h=>?_;have hU:=hr.units;refine⟨_,(ad (xi 4 ci.nd ["held"] [(2,"name")] rfl rfl 'g' rfl 'g' (ba ⟨rfl,trivial⟩) (λ_=>be rfl) (aN ⟨⟨rfl,rfl,.inl rfl⟩,trivial⟩) (dg (am 1)) λ_ _ _ _ _=>⟨(ar 0 (show List.Nodup (["held","name"]:Zb) by decide +kernel)),(ff (aC (dY hU) (au (bg Z) (rm hr) rfl (ac (am 1) (ac (Hg 0) ae))) ap (ay _))),(am 0)⟩) (ad (dJ 5 ci.nd ["held"] [(2,"name")] rfl rfl 'g' rfl 'g' (ba ⟨rfl,trivial⟩) (λ_=>be rfl) (aN ⟨⟨rfl,rfl,.inl rfl⟩,trivial⟩) (dg (am 1)) λ_ _ _ _ _=>⟨(ar 0 (show List.Nodup (["held","name"]:Zb) by decide +kernel)),(ff (aC wV (au (bg Z) (rm hr) rfl (ac (am 1) (ac (Hg 0) ae))) ap (ay _))),(am 0)⟩) (ad (dJ 6 ci.nd ["held"] [(2,"name")] rfl rfl 'g' rfl 'g' (ba ⟨rfl,trivial⟩) (λ_=>be rfl) (aN ⟨⟨rfl,rfl,.inl rfl⟩,trivial⟩) (dg (am 1)) λ_ _ _ _ _=>⟨(ar 0 (show List.Nodup (["held","name"]:Zb) by decide +kernel)),(ff (aC zA (au (bg Z) (rm hr) rfl (ac (am 1) (ac (Hg 0) ae))) ap (ay _))),(am 0)⟩) (ad (bu Iv rfl (am 5) (ar 7 ci.nd) (af (bu Iv rfl (am 6) (ar 8 ci.nd) (ad (aA 9 ci.nd (au (pR Z) (rm hr) rfl (ac (am 7) (ac (am 8) (ac (am 2) ae))))) (af (aP (aC o_le (aL gA rfl Z.x57 fK (ac (bq ["often"] [] rfl rfl 'g' rfl 'g' (ba trivial) (λ_=>be rfl) (aN trivial) (mQ (am 9)) λ_ _ _ _ _=>⟨(ar 0 (show List.Nodup (["often"]:Zb) by decide +kernel)),(ff (aC wV (am 0) ap (ay _))),(am 0)⟩) ae)) (am 3) (ay _)) (af (a8 4 (aI (ac (au (uu Z) (rm hr) rfl (ac (am 0) (ac (am 9) ae))) (ac (am 9) ae))))) aF)))))) (af (lL 4)))))),?_⟩
 obtain⟨nm,rows,n,W,most,B,k,c,rfl,S,hc,h4,ah,q⟩:=h;have c9:c<9000:=by
  have:c<=c*c / 4:=(KO 'd').mpr (Nat.mul_le_mul_left c h4)
  omega
 have aa:=d9 (nm:=nm) (rows:=rows) (λw=>decide (cfs 'f' n=0)) W
 have ag:=d9 (nm:=nm) (rows:=rows) (λw=>decide (0<cfs 'f' n)) W
 have ab:=d9 (nm:=nm) (rows:=rows) (λw=>decide (cfs 'f' n<0)) W
 refine ak λK1 hK1=>?_;walk_at "";refine⟨by rw[HS];omega,λd=>if decide (cfs (rows.zip (vN d)) n=0)=true then some d else none,λx hx=>?_,?_⟩
 ·obtain⟨w,hw,rfl⟩:=HW.mp hx;simp only[qr];simp only[qw];walk_at "";refine⟨n,HG nm rows w,rfl,ip S.H w,?_⟩;rw[dS S.H];walk_at "";refine eQ (λe=>?_) λe=>?_
  ·rw[Ir e]
  ·rw[Io e]
 ·rw[aa];intro ta;rw[hK1];refine ak λK2 hK2=>?_;walk_at "";refine⟨by rw[HS];omega,λd=>if decide (0<cfs (rows.zip (vN d)) n)=true then some d else none,λx hx=>?_,?_⟩
  ·obtain⟨w,hw,rfl⟩:=HW.mp hx;simp only[qr];simp only[qw];walk_at "";refine⟨n,HG nm rows w,rfl,ip S.H w,?_⟩;rw[dS S.H];walk_at "";refine eQ (λe=>?_) λe=>?_
   ·rw[Ir e]
   ·rw[Io e]
  ·rw[ag,hK2];refine ak λK3 hK3=>?_;walk_at "";refine⟨by rw[HS];omega,λd=>if decide (cfs (rows.zip (vN d)) n<0)=true then some d else none,λx hx=>?_,?_⟩
   ·obtain⟨w,hw,rfl⟩:=HW.mp hx;simp only[qr];simp only[qw];walk_at "";refine⟨n,HG nm rows w,rfl,ip S.H w,?_⟩;rw[dS S.H];walk_at "";refine eQ (λe=>?_) λe=>?_
    ·rw[Ir e]
    ·rw[Io e]
   ·rw[ab,hK3];clear aa ag ab;have c3:=cnt3 (rows:=rows) (n:=n) W;unfold woW at q;have hL:∀l∈W.filter (λw=>decide (0<cfs 'f' n)),l∈W/\0<cfs (rows.zip l) n:=λl hl=>⟨(Ia.mp hl).1,by simpa using (Ia.mp hl).2⟩;have hR:∀l∈W.filter (λw=>decide (cfs 'f' n<0)),l∈W/\cfs (rows.zip l) n<0:=λl hl=>⟨(Ia.mp hl).1,by simpa using (Ia.mp hl).2⟩;generalize W.filter (λw=>decide (cfs 'f' n=0))=Z at *;generalize W.filter (λw=>decide (0<cfs 'f' n))=Ls at *;generalize W.filter (λw=>decide (cfs 'f' n<0))=Rs at *;have zb:Z.length+Ls.length*Rs.length<9000:=Jw (zab 'b' h4) ah;refine ak λK4 hK4=>?_;refine bO λF N hF hN=>?_;walk_at "";simp only[ef];walk_at "";refine⟨λi δ=>∃x y z,δ=[.dat (.lst (rows.map Hk)),.dat (.lst (W.map (smD nm rows))),.dat (.str n),.dat (.int (most:Nat)),.own ta (.lst ((Z++(Ls.take i).flatMap λl=>(Rs.map (crW rows n l)).filter λu=>decide (usd u<=most)).map (smD nm rows))),.dat (.lst (Ls.map (smD nm rows))),.dat (.lst (Rs.map (smD nm rows))),x,y,z],⟨_,_,_,by rw[KG,List.flatMap_nil,IZ]⟩,?_,?_⟩
    ·rintro i d δ hd ⟨x,y,z,rfl⟩;obtain⟨l,hl,rfl⟩:=qz hd;obtain⟨lW,cl⟩:=hL l (Im hl);have al:i<Ls.length:=(List.getElem?_eq_some_iff.mp hl).1;rw[hF];walk_at "";refine bO λF2 N2 hF2 hN2=>?_;walk_at "";simp only[ef];walk_at "";refine⟨λj δ=>∃y z,δ=[.dat (.lst (rows.map Hk)),.dat (.lst (W.map (smD nm rows))),.dat (.str n),.dat (.int (most:Nat)),.own ta (.lst ((Z++(Ls.take i).flatMap (λl=>(Rs.map (crW rows n l)).filter λu=>decide (usd u<=most))++((Rs.take j).map (crW rows n l)).filter λu=>decide (usd u<=most)).map (smD nm rows))),.dat (.lst (Ls.map (smD nm rows))),.dat (.lst (Rs.map (smD nm rows))),.dat (smD nm rows l),y,z],⟨_,_,by rw[KG,Ko,List.filter_nil,IZ]⟩,?_,?_⟩
     ·rintro j d δ hd ⟨y,z,rfl⟩;obtain⟨h,hh,rfl⟩:=qz hd;obtain⟨hW,ch⟩:=hR h (Im hh);have an:j<Rs.length:=(List.getElem?_eq_some_iff.mp hh).1;rw[hF2];show dD _ _ _ _;refine cj λK5 hK5=>?_;walk_at "";refine⟨nm,rows,n,l,h,rfl,S.H,S.m6,S.wt l lW,S.wt h hW,cl,ch,S.c8 lW n,S.c8 hW n,S.w8 lW,S.w8 hW,λa ha=>HX (lE S.H S.hB (S.bits l lW) (S.bits h hW) a ha) S.fit.2,?_⟩;walk_at "";rw[hK5];have ww:=wJ (S.wt l lW) (S.wt h hW) cl ch;have aj:∀a∈crW rows n l h,ib a<=60000000:=λa ha=>by
       obtain⟨b,ai,rfl⟩:=HW.mp ha;exact Jb (HX (lE S.H S.hB (S.bits l lW) (S.bits h hW) b ai) (HX S.fit.2 'd'))
      have tk:(((Rs.take (j+1)).map (crW rows n l)).filter λu=>decide (usd u<=most))=(((Rs.take j).map (crW rows n l)).filter λu=>decide (usd u<=most))++if usd (crW rows n l h)<=most then [crW rows n l h] else []:=by
       rw[aD hh,IA,Jm]
       congr 1
       by_cases e:usd (crW rows n l h)<=most
       ·rw[Ir e];simp[e]
       ·rw[Io e];simp[e]
      simp only[tk];generalize crW rows n l h=u at *;walk_at "";refine⟨by rw[HS,ww.len];have:=S.m6;omega,λd=>match d with | .int a=>if 0<a then some (.int a) else none | _=>none,λx hx=>?_,?_⟩
      ·obtain⟨a,_,rfl⟩:=HW.mp hx;walk_at "";refine eQ (λe=>?_) λe=>?_
       ·rw[Ir e]
       ·rw[Io e]
      ·rw[BM];refine eQ (λe=>?_) λe=>?_
       ·have e:usd u<=most:=by omega
        rw[Ir e];refine⟨rows,u,nm,rfl,S.n6,S.rw,aj,λts hts=>?_⟩;have:=hts.uniq (S.H.smT u);subst this;walk_at "";refine⟨?_,?_⟩
        ·rw[HS,Ij,Ij];have f1:=lI (rows:=rows) (n:=n) (most:=most) Rs (Ls.take i);have f2:=IK (λu=>decide (usd u<=most)) ((Rs.take j).map (crW rows n l));rw[HS,IH] at f2;rw[IH,show min i Ls.length=i by omega] at f1;have f3:=Nat.mul_le_mul_right Rs.length (show i+1<=Ls.length from al);rw[Nat.succ_mul] at f3;omega
        ·rw[<- J9,IA (l₂:=[u])];rfl
       ·have e:¬ usd u<=most:=by omega
        rw[Io e,IZ]
     ·rintro δ ⟨y,z,rfl⟩;rw[HS,ID,hN2];walk_at "";rw[aD hl,Km,<- J9];simp only[List.flatMap_cons,List.flatMap_nil,List.append_nil]
      try exact⟨_,_,_,rfl⟩
    ·rintro δ ⟨x,y,z,rfl⟩;rw[HS,ID,hN,hK4];walk_at "";exact q
def og(rows:List Rw):Zb->List (List (List Int))
 | []=>[Hi rows []]
 | n::ns=>Hi rows (n::ns)::og rows ns
def jE(nm:Zb)(rows:List Rw)(W:List (List Int)):D:=.lst (W.map (smD nm rows))
theorem gm:∀ns:Zb,(og rows ns).length=ns.length+1
 | []=>rfl
 | n::ns=>by show (og rows ns).length+1=_;rw[gm ns];rfl
theorem qu:∀(ns:Zb) (j:Nat),j<=ns.length->(og rows ns)[j]?=some (Hi rows (ns.drop j))
 | [],0,_=>rfl
 | n::ns,0,_=>rfl
 | n::ns,j+1,h=>qu ns j (by simpa using h)
theorem Ad{B B' m m':Nat}(h1:B<=B')(h2:m<=m'):∀k,wb B m k<=wb B' m' k
 | 0=>Ib 1
 | k+1=>by have:=Ad h1 h2 k;show 2*wb B m k+B+m+1<=2*wb B' m' k+B'+m'+1;omega
theorem Fk{B m a:Nat}:∀ {b:Nat},a<=b->wb B m a<=wb B m b
 | 0,h=>by rw[Nat.le_zero.mp h];exact Ib _
 | b+1,h=>by
  by_cases e:a=b+1
  ·rw[e];exact Ib _
  ·exact HX (Fk (b:=b) 'b') vR
structure Fit(nm:Zb)(rows:List Rw)(B N:Nat):Prop where
 H:Rws nm rows
 hB:RwB B rows
 m6:rows.length<=6
 n6:nm.length<=60
 n4:N<=4
 wN:wb B 6 (N+1)<=7990
theorem Fit.wk{B N k:Nat}(F:Fit nm rows B N)(h:k<=N+1):wb B rows.length k<=7990:=HX (Ad (Ib B) F.m6 k) (HX (Fk h) F.wN)
theorem Fit.ck{B N k:Nat}(F:Fit nm rows B N)(h:k<=N):cb B rows.length k<=7990:=by
 have:2*wb B rows.length k+B+rows.length+1<=7990:=F.wk (k:=k+1) 'b'
 unfold cb;omega
theorem F0{B m:Nat}(h2:m<=6)(k:Nat):cb B m k<=cb B 6 k:=by have:=Ad (Ib B) h2 k;unfold cb;omega
theorem Fit.sums{B N:Nat}(F:Fit nm rows B N)(h:ns.length<=N):zE nm rows B ns.length (Hi rows ns):=by
 have w1:=F.ck h
 have w2:=F.wk (k:=ns.length+1) 'b'
 have:=F.m6
 exact⟨F.H,F.hB,by omega,F.n6,λw hw=>(ca hw).1,λw hw=>dm F.H F.hB hw,by omega,by omega⟩
inductive jf(ds:Zh)(R:D->Prop):Prop
 | mk (nm:Zb) (rows:List Rw) (B N:Nat) (ns:Zb) (hh:ds=[.lst (rows.map Hk),.lst (ns.map D.str)]/\Fit nm rows B N/\ns.length<=N/\R (.lst ((og rows ns).map (jE nm rows))))
theorem jW:∀ds R,jf ds R->ds.length=2:=λ_ _ ⟨_,_,_,_,_,e,_⟩=>by rw[e];rfl
theorem cnt6:∀ {k:Nat},k<=3->cnt 6 k*cnt 6 k / 4<9000
 | 0,_=>by decide
 | 1,_=>by decide
 | 2,_=>by decide
 | 3,_=>by decide
 | k+4,h=>by omega
theorem B5{i:Nat}{d:D}(h:(ns.map D.str).reverse[i]?=some d):∃n,d=.str n/\i<ns.length/\ns.drop (ns.length-(i+1))=n::ns.drop (ns.length-i):=by
 have hi:i<ns.length:=by
  have:=(List.getElem?_eq_some_iff.mp h).1
  simpa using this
 rw[List.getElem?_reverse (by simpa using hi),HS,List.getElem?_map] at h;have e:ns.length-(i+1)<ns.length:=by omega
 have e1:ns.length-1-i=ns.length-(i+1):=by omega
 rw[e1,List.getElem?_eq_getElem e] at h;refine⟨ns[ns.length-(i+1)],(Iq h).symm,hi,?_⟩;rw[JQ e]
 congr 2
 omega
theorem cv:ax ["rows","names","sums","told","name"] ["rows","names"] (aq s_taken_out):=by walk_at "sc"
theorem dO(Z:Zz):Z.C 5 "taken_out" ["rows","names"] (HN Z.K jf):=by
 refine cy Z.x26 cv jW λfa cdv A outer s H E ds R hr h=>?_;have hU:=hr.units;refine⟨_,(ad (aA 2 cv.nd (au (t9 Z) (rm hr) rfl (ac (am 0) ae))) (ad (dz 3 cv.nd (ac (am 2) ae)) (ad (ia Iv rfl (Es rfl Z.x62 (ac (am 1) ae)) (ar 4 cv.nd) (ad (aA 2 cv.nd (au (ot Z) (rm hr) rfl (ac (am 0) (ac (am 2) (ac (am 4) (ac (aE aY (BF 3 rfl Z.x57 fK) ap) ae)))))) (af (yF 3 (am 2))))) (af (lL 3))))),?_⟩;obtain⟨nm,rows,B,N0,ns,rfl,F,h4,q⟩:=h;have n4:=F.n4;walk_at "";refine⟨rows,nm,rfl,F.H,by have:=F.m6;omega,?_⟩;walk_at "";intro ta;refine d6 λFb N hF hN=>?_;walk_at "";simp only[lJ];walk_at "";refine⟨λi δ=>∃x,δ=[.dat (.lst (rows.map Hk)),.dat (.lst (ns.map D.str)),.dat (jE nm rows (Hi rows (ns.drop (ns.length-i)))),.own ta (.lst ((og rows (ns.drop (ns.length-i))).map (jE nm rows))),x],⟨_,by rw[Nat.sub_zero,List.drop_length];rfl⟩,?_,?_⟩
 ·rintro i d δ hd ⟨x,rfl⟩;obtain⟨n,rfl,hi,aa⟩:=B5 hd;simp only[aa];have hl:(ns.drop (ns.length-i)).length=i:=by rw[JN];omega
  generalize ns.drop (ns.length-i)=l at *
  rw[hF];show dD _ _ _ _;refine cj λK1 hK1=>?_;walk_at "";obtain⟨c1,c2⟩:=pG (rows:=rows) F.m6 'd' l;rw[hl] at c1 c2;refine⟨nm,rows,n,Hi rows l,l.length+2,B,l.length,cnt 6 i,?_,F.sums 'b',c1,c2,cnt6 'b',?_⟩
  ·rw[HS,gm];show [_,jE nm rows (Hi rows l),_,_]=_;unfold jE
   congr 4
  ·walk_at "";rw[hK1];walk_at "";refine⟨by rw[HS,gm];omega,rfl,rfl⟩
 ·rintro δ ⟨x,rfl⟩;rw[Kk,HS,Nat.sub_self,hN];walk_at "";exact q
inductive gK(ds:Zh)(R:D->Prop):Prop
 | mk (n:Str) (r:Rw) (ks:Zb) (ps:Za) (c κ T:Nat) (hh:ds=[.str n,Hk r,.dct ks (ps.map HM)]/\(r.2.1.map (·.1)).Nodup/\ks.length<=60/\(∀t∈r.2.1,t.1≠n->t.1∈ks)/\cf r.2.1 n≠0/\Pt ks ps T/\T<=1000000/\ib (Hl 'w' ks)<=κ/\c+κ<=7990 /\
 ib (cf r.2.1 n)<=c/\(∀t∈r.2.1,ib t.2<=c)/\ib r.2.2<=c/\R (HM (bnd ks ps n r)))
theorem kG:∀ds R,gK ds R->ds.length=3:=λ_ _ ⟨_,_,_,_,_,_,_,e,_⟩=>by rw[e];rfl
theorem ke(p:Str×Int->Bool)(g:D->Option D)(h1:∀t,p t=true->g (Hh t)=some (Hh t))(h2:∀t,p t=false->g (Hh t)=none):∀ts:List (Str×Int),(ts.map Hh).filterMap g=(ts.filter p).map Hh
 | []=>rfl
 | t::ts=>by
  rw[Iy,IY]
  cases e:p t with
  | true=>rw[h1 t e,IS e,ke p g h1 h2 ts];rfl
  | false=>rw[h2 t e,IG (by rw[e];decide),ke p g h1 h2 ts]
theorem fu:ax ["name","row","point","others","known"] ["name","row","point"] (aq s_bound_on):=by walk_at "sc"
theorem iD(Z:Zz):Z.C 3 "bound_on" ["name","row","point"] (HN Z.K gK):=by
 refine cy Z.x27 fu kG λfa cdv A outer s H E ds R hr h=>?_;have hU:=hr.units;refine⟨_,(ad (dJ 3 fu.nd ["term"] [(0,"name")] rfl rfl 'g' rfl 'g' (ba ⟨rfl,trivial⟩) (λ_=>be rfl) (aN ⟨⟨rfl,rfl,.inl rfl⟩,trivial⟩) (mQ (Hg 1)) λ_ _ _ _ _=>⟨(ar 0 (show List.Nodup (["term","name"]:Zb) by decide +kernel)),(ff (aC (fT hU) (Hg 0) (am 1) (ay _))),(am 0)⟩) (ad (aA 4 fu.nd (au (jB Z) (rm hr) rfl (ac (bq ["term"] [] rfl rfl 'g' rfl 'g' (ba trivial) (λ_=>be rfl) (aN trivial) (dg (am 3)) λ_ _ _ _ _=>⟨(ar 0 (show List.Nodup (["term"]:Zb) by decide +kernel)),cD,(Hg 0)⟩) (ac (am 2) ae)))) (af (av (au (fP Z) (rm hr) rfl (ac (aE lQ (aE bH (Hg 1) (Hg 4)) (au (fi Z) (rm hr) rfl (ac (am 3) (ac (Hg 4) ae)))) (ac (aE bH (au (bg Z) (rm hr) rfl (ac (am 0) (ac (am 1) ae))) (Hg 4)) ae))))))),?_⟩;obtain⟨n,⟨k,ts,b⟩,ks,ps,c,κ,T,rfl,nd,hk,hp,hc,P,hT,hκ,ag,b1,b2,b3,q⟩:=h;simp only at nd hp hc b1 b2 b3 q;have lt:ts.length<=61:=by
  have h1:(ts.map (·.1)).length<=(n::ks).length:=gy nd λx hx=>by
   obtain⟨t,ht,rfl⟩:=HW.mp hx
   by_cases e:t.1=n
   ·exact Ih.mpr (.inl e)
   ·exact HV _ (hp t ht e)
  rw[HS,Ik] at h1;omega
 unfold Hk gF;refine ak λK1 hK1=>?_;walk_at "";refine⟨by rw[HS];omega,λd=>match d with | .tup [.str x,w]=>if x≠n then some (.tup [.str x,w]) else none | _=>none,λx hx=>?_,?_⟩
 ·obtain⟨t,_,rfl⟩:=HW.mp hx;unfold Hh;walk_at "";refine eQ (λe=>?_) λe=>?_
  ·simp[e]
  ·simp[e]
 ·rw[ke (λt=>decide (t.1≠n)) _ (λt ht=>by unfold Hh;simp only;rw[Ir (by simpa using ht)]) (λt ht=>by unfold Hh;simp only;rw[Io (by simpa using ht)])];unfold bnd at q;simp only at q;have ho:∀t∈ts.filter (λt=>decide (t.1≠n)),t.1∈ks/\ib t.2<=c:=λt ht=>by
   obtain⟨h1,h2⟩:=Ia.mp ht;exact⟨hp t h1 (by simpa using h2),b2 t h1⟩
  have ab:((ts.filter (λt=>decide (t.1≠n))).map (·.1)).Nodup:=nd.sublist (Kl.map _)
  have ah:=IK (λt:Str×Int=>decide (t.1≠n)) ts
  generalize ts.filter (λt=>decide (t.1≠n))=o at *
  have aa:∀x∈o.map (·.1),x∈ks:=λx hx=>by
   obtain⟨t,ht,rfl⟩:=HW.mp hx;exact(ho t ht).1
  have pos:∀x∈ks,0<pB ks ps x:=λx hx=>P.pos hx
  have bK:=nv ab aa pos hκ
  have pK:=cN (q:=pB ks ps) (l:=o.map (·.1)) λx hx=>pos x (aa x hx)
  rw[hK1];walk_at "";refine⟨by rw[HS];omega,λd=>match d with | .tup (x::_)=>some x | _=>none,λx hx=>?_,?_⟩
  ·obtain⟨t,_,rfl⟩:=HW.mp hx;unfold Hh;walk_at ""
  ·refine⟨o.map (·.1),ks,ps,T,κ,?_,ab,?_,aa,P,hT,hκ,by omega,?_⟩
   ·rw[aK _ Hh (λt=>D.str t.1) _ (by intro _ _;rfl),IU];rfl
   ·have:=gy ab aa
    omega
   ·walk_at "";refine⟨Hy b3 bK (by omega),true,o,_,_,_,rfl,λt ht=>⟨df (λx=>D.int (ov (pT ks ps) 'w' (Hl 'w' (o.map (·.1))) x)) (HW.mpr ⟨t,ht,rfl⟩),HX (ho t ht).2 'b',HX (Iz (P.Tb (ho t ht).1) (Jb bK)) 'b'⟩,?_⟩;walk_at "";refine⟨n,(k,ts,b),rfl,nd,?_⟩;walk_at "";refine⟨Hy b1 bK 'b',_,_,rfl,IN hc 'b',HX (Iz b1 bK) 'b',?_⟩;exact q
def oD:Option (Int×Int)->D
 | none=>.non
 | some p=>HM p
def BB(e:En2):D:=.tup [oD e.1,.bl e.2]
inductive mM(ds:Zh)(R:D->Prop):Prop
 | mk (a b:En2) (lo:Bool) (hh:ds=[BB a,BB b,.bl lo]/\(∀p,a.1=some p->ib p.1<=1000000/\ib p.2<=8000)/\(∀p,b.1=some p->ib p.1<=1000000/\ib p.2<=8000)/\R (BB (tgt lo a b)))
theorem mn:∀ds R,mM ds R->ds.length=3:=λ_ _ ⟨_,_,_,e,_⟩=>by rw[e];rfl
theorem sQ:ax ["one","other","is_low"] ["one","other","is_low"] (aq s_tighter):=by walk_at "sc"
theorem jg(Z:Zz):Z.C 2 "tighter" ["one","other","is_low"] (HN Z.K mM):=by
 refine cy Z.x28 sQ mn λfa cdv A outer s H E ds R hr h=>?_;have hU:=hr.units;refine⟨_,(ad (aP (aC CU (Hg 0) iu (ay _)) (af (av (am 1))) aF) (ad (aP (aC CU (Hg 1) iu (ay _)) (af (av (am 0))) aF) (ad (aP (aC (Bu hU) (Hg 0) (Hg 1) (ay _)) (af (av (aI (ac (Hg 0) (ac (kQ (Hg 0) (fc (Hg 1))) ae))))) aF) (af (av (ti (aC (Bu hU) (au (sA Z) (rm hr) rfl (ac (Hg 1) (ac (Hg 0) ae))) (am 2) (ay _)) (am 0) (am 1))))))),?_⟩;obtain⟨⟨a,ab⟩,⟨b,bb⟩,lo,rfl,ha,hb,q⟩:=h;unfold BB at q ⊢;refine ak λK1 h1=>?_
 cases a with
 | none =>
  unfold oD;walk_at "";exact q
 | some p =>
  rw[show oD (some p)=.tup [.int p.1,.int p.2] from rfl];walk_at "";rw[h1];refine ak λK2 h2=>?_
  cases b with
  | none =>
   unfold oD;walk_at "";exact q
  | some r =>
   obtain⟨p1,p2⟩:=ha p rfl;obtain⟨r1,r2⟩:=hb r rfl;unfold tgt at q;simp only at q;rw[show oD (some r)=.tup [.int r.1,.int r.2] from rfl];walk_at "";rw[h2];refine ak λK3 h3=>?_;walk_at "";refine eQ (λe=>?_) λe=>?_
   ·have e:p=r:=Prod.ext (by simpa using JK Prod.fst e) (by simpa using JK Prod.snd e)
    rw[Ir e] at q
    cases ab with
    | true=>exact ifp rfl q
    | false=>exact Hz Ie q
   ·rw[Io (λz=>e (by rw[z]))] at q;rw[h3];walk_at "";refine⟨r,p,rfl,HX r1 'd',HX p1 'd',r2,p2,?_⟩;walk_at "";refine eQ (λe=>?_) λe=>?_
    ·rw[Ir e] at q;exact q
    ·rw[Io e] at q;exact q
inductive jJ(ds:Zh)(R:D->Prop):Prop
 | mk (lo hi:Option (Int×Int)) (x y:Bool) (hh:ds=[.tup [oD lo,.bl x,oD hi,.bl y]]/\(∀p,lo=some p->p.2≠0/\ib p.1<=1000000/\ib p.2<=3990)/\(∀p,hi=some p->p.2≠0/\ib p.1<=1000000/\ib p.2<=3990)/\R (HM (nmb lo hi)))
theorem jw:∀ds R,jJ ds R->ds.length=1:=λ_ _ ⟨_,_,_,_,e,_⟩=>by rw[e];rfl
theorem dl:ax ["piece","low","high","whole"] ["piece"] (aq s_number_in):=by walk_at "sc"
theorem l7(Z:Zz):Z.C 4 "number_in" ["piece"] (HN Z.K jJ):=by
 refine cy Z.x29 dl jw λfa cdv A outer s H E ds R hr h=>?_;have hU:=hr.units;refine⟨_,(ad (aA 1 dl.nd (Hg 0)) (ad (aA 2 dl.nd (Hg 0)) (ad (aP (DW.dt (gg (aC CU (am 1) iu (ay _)) (fA (aC CU (am 2) iu (ay _))))) (af (av (aI (ac ap (ac ap ae))))) aF) (ad (aP (aC CU (am 1) iu (ay _)) (af (av (au (fP Z) (rm hr) rfl (ac (aE lQ (aE cJ (Hg 2) (Hg 2)) ap) (ac ap ae))))) aF) (ad (aA 3 dl.nd (au (fP Z) (rm hr) rfl (ac (aE aY (aE cJ (Hg 1) (Hg 1)) ap) (ac ap ae)))) (ad (aP (DW.dt (eC (aC CU (am 2) iu (ay _)) (dQ (br (au (sA Z) (rm hr) rfl (ac (am 3) (ac (am 2) ae))))))) (af (av (am 3))) aF) (ad (aP (aC (Bu hU) (am 1) (am 2) (ay _)) (af (av (am 1))) aF) (af (av (au (vL Z) (rm hr) rfl (ac (au (xF Z) (rm hr) rfl (ac (am 1) (ac (am 2) ae))) (ac (aI (ac ap (ac ap ae))) ae)))))))))))),?_⟩;obtain⟨lo,hi,x,y,rfl,hl,hh,q⟩:=h;have m1:∀a:Int,ib (Hf a 1)<=1:=λa=>by rw[(rF a).2];decide
 refine ak λK1 hK1=>?_;walk_at "";rw[hK1];refine ak λK2 hK2=>?_;walk_at "";rw[hK2];refine ak λK3 hK3=>?_
 cases lo with
 | none =>
  cases hi with
  | none =>
   unfold oD;walk_at "";exact q
  | some h =>
   obtain⟨h0,h1,h2⟩:=hh h rfl;unfold oD HM;walk_at "";rw[hK3];refine ak λK4 hK4=>?_;walk_at "";exact⟨⟨h0,oA h2 'd'⟩,_,_,rfl,by decide,by decide,q⟩
 | some l =>
  obtain⟨l0,l1,l2⟩:=hl l rfl;have bt:ib (HD (l.1.fdiv l.2+1) 1)<=1000000+1:=by
   rw[(rF _).1];have:=JH (Jb (y:=l.2) l1) (show ib 1<=1 by decide);unfold ib;omega
  cases hi with
  | none =>
   unfold oD HM;walk_at "";rw[hK3];refine ak λK4 hK4=>?_;walk_at "";rw[hK4];refine ak λK5 hK5=>?_;walk_at "";refine⟨⟨l0,oA l2 'd'⟩,_,_,rfl,by decide,by decide,?_⟩;walk_at "";rw[hK5];refine ak λK6 hK6=>?_;walk_at "";exact q
  | some h =>
   obtain⟨h0,h1,h2⟩:=hh h rfl;unfold nmb at q;simp only at q;unfold oD HM;walk_at "";rw[hK3];refine ak λK4 hK4=>?_;walk_at "";rw[hK4];refine ak λK5 hK5=>?_;walk_at "";refine⟨⟨l0,oA l2 'd'⟩,_,_,rfl,by decide,by decide,?_⟩;walk_at "";rw[hK5];refine ak λK6 hK6=>?_;walk_at "";refine⟨(HD (l.1.fdiv l.2+1) 1,Hf (l.1.fdiv l.2+1) 1),h,rfl,HX bt 'd',HX h1 'd',HX (m1 _) 'd',HX h2 'd',?_⟩;walk_at "";refine eQ (λe=>?_) λe=>?_
   ·rw[Ir e] at q;exact q
   ·rw[Io e] at q;rw[hK6];refine ak λK7 hK7=>?_;walk_at "";refine eQ (λe=>?_) λe=>?_
    ·have e:l=h:=Prod.ext (by simpa using JK Prod.fst e) (by simpa using JK Prod.snd e)
     rw[Ir e] at q;exact q
    ·rw[Io (λz=>e (by rw[z]))] at q;rw[hK7];walk_at "";refine⟨l,h,rfl,IN l0 h0,l1,h1,HX l2 'd',HX h2 'd',?_⟩;have sb:=Iz l2 h2;have st:=JH (Iz l1 h2) (Iz h1 l2);have sl:=eJ (l.1*h.2+h.1*l.2) (IN l0 h0);refine⟨(HD (l.1*h.2+h.1*l.2) (l.2*h.2),Hf (l.1*h.2+h.1*l.2) (l.2*h.2)),(1,2),rfl,IN sl.ne 'd',HX (Jb st) 'd',by decide,HX (Jb sb) 'd',by decide,?_⟩;exact q
theorem yx{l:List (Rw×Int)}:(decide (kdS (kOf (Hw l))=("least":Str)):Bool)=!Hw l:=by cases Hw l<;>rfl
structure Pcs(nm:Zb)(rows:List Rw)(ks:Zb)(ps:Za)(n:Str)(W:List (List Int))(c κ g T:Nat)(L:Int):Prop where
 H:Rws nm rows
 k6:ks.length<=60
 nms:∀w∈W,∀t∈(HG nm rows w).2.1,t.1≠n->t.1∈ks
 P:Pt ks ps T
 hT:c+T+κ+80<=1000000
 hκ:ib (Hl 'w' ks)<=κ
 L0:L≠0
 hL:∀k∈ks,pB ks ps k ∣ L
 hg:ib L<=g
 gκ:g<=κ
 cg:c+g<=3990
 cκ:c+κ<=7990
 cb:∀w∈W,∀x,ib (cfs 'f' x)<=c
 bb:∀w∈W,ib (bds 'f')<=c
theorem Pcs.tb{W:List (List Int)}{c κ g T:Nat}(h:Pcs nm rows ks ps n W c κ g T L){w:List Int}(hw:w∈W):∀t∈(HG nm rows w).2.1,ib t.2<=c:=λt ht=>by
 rw[(jY ht).2.2];exact h.cb w hw _
theorem Pcs.cnd{W:List (List Int)}{c κ g T:Nat}(h:Pcs nm rows ks ps n W c κ g T L){w:List Int}(hw:w∈W)(hc:cfs 'f' n≠0):oG L c g κ T 'j'.1 :=
 yt h.P h.hκ h.L0 h.hL h.hg (ip h.H w) h.k6 (h.nms w hw) (by rw[dS h.H];exact hc) (by rw[dS h.H];exact h.cb w hw n) (h.tb hw) (h.bb w hw)
inductive jo(ds:Zh)(R:D->Prop):Prop
 | mk (nm:Zb) (rows:List Rw) (ks:Zb) (ps:Za) (n:Str) (W:List (List Int)) (c κ g T:Nat) (L:Int) (hh:ds=[.str n,jE nm rows W,.dct ks (ps.map HM)]/\Pcs nm rows ks ps n W c κ g T L /\
 R (.tup [oD (Hs nm rows ks ps n W).1.1,.bl (Hs nm rows ks ps n W).1.2,oD (Hs nm rows ks ps n W).2.1,.bl (Hs nm rows ks ps n W).2.2]))
theorem jR:∀ds R,jo ds R->ds.length=3:=λ_ _ ⟨_,_,_,_,_,_,_,_,_,_,_,e,_⟩=>by rw[e];rfl
theorem xD{W:List (List Int)}{i:Nat}{w:List Int}(h:W[i]?=some w):Hs nm rows ks ps n (W.take (i+1)) =
    (if 0<cfs 'f' n then tgt true (Hs nm rows ks ps n (W.take i)).1 (some 'j'.1,'j'.2) else (Hs nm rows ks ps n (W.take i)).1,
     if cfs 'f' n<0 then tgt false (Hs nm rows ks ps n (W.take i)).2 (some 'j'.1,'j'.2) else (Hs nm rows ks ps n (W.take i)).2):=by
  unfold Hs;rw[aD h,KF];rfl
theorem bf:ax ["name","sums","point","low","high","row","weights","weight"] ["name","sums","point"] (aq s_piece_for):=by walk_at "sc"
theorem mq(Z:Zz):Z.C 4 "piece_for" ["name","sums","point"] (HN Z.K jo):=by
 refine cy Z.x30 bf jR λfa cdv A outer s H E ds R hr h=>?_;have hU:=hr.units;refine⟨_,(ad (aA 3 bf.nd (uT rfl Z.g_ENDLESS)) (ad (aA 4 bf.nd (uT rfl Z.g_ENDLESS)) (ad (bu Iv rfl (am 1) (bJ (n:=2) rfl (aB (ar 5 bf.nd) (aB (ar 6 bf.nd) aW))) (ad (aA 7 bf.nd (au (bg Z) (rm hr) rfl (ac (am 0) (ac (am 5) ae)))) (ad (aP (aC wV (am 7) ap (ay _)) (af (aA 3 bf.nd (au (jg Z) (rm hr) rfl (ac (am 3) (ac (aI (ac (au (iD Z) (rm hr) rfl (ac (am 0) (ac (am 5) (ac (am 2) ae)))) (ac (cR (dY hU) (Hg 5) aw (ay _)) ae))) (ac kh ae)))))) aF) (af (aP (aC zA (am 7) ap (ay _)) (af (aA 4 bf.nd (au (jg Z) (rm hr) rfl (ac (am 4) (ac (aI (ac (au (iD Z) (rm hr) rfl (ac (am 0) (ac (am 5) (ac (am 2) ae)))) (ac (cR (dY hU) (Hg 5) aw (ay _)) ae))) (ac kh ae)))))) aF))))) (af (av (aE aY (am 3) (am 4))))))),?_⟩;obtain⟨nm,rows,ks,ps,n,W,c,κ,g,T,L,rfl,S,q⟩:=h;unfold jE;refine ak λK1 hK1=>?_;walk_at "";rw[hK1];refine ak λK2 hK2=>?_;walk_at "";rw[hK2];refine ak λK3 hK3=>?_;refine bO λF N hF hN=>?_;walk_at "";simp only[ef];walk_at "";refine⟨λi δ=>∃x y z,δ=[.dat (.str n),.dat (.lst (W.map (smD nm rows))),.dat (.dct ks (ps.map HM)),.dat (BB (Hs nm rows ks ps n (W.take i)).1),.dat (BB (Hs nm rows ks ps n (W.take i)).2),x,y,z],⟨_,_,_,rfl⟩,?_,?_⟩
 ·rintro i d δ hd ⟨x,y,z,rfl⟩;obtain⟨w,hw,rfl⟩:=qz hd;have hm:=Im hw;have aa:=zL (nm:=nm) (rows:=rows) (ks:=ks) (ps:=ps) (n:=n) (Pr:=λp=>ib p.1<=1000000/\ib p.2<=8000) (W:=W.take i) λw hw hc=>by
   have k:=S.cnd (JD hw) hc
   have k1:=k.bb
   have k2:=k.tb
   have k3:=S.cg
   have k4:=S.hT
   exact⟨by omega,by omega⟩
  rw[hF];simp only[xD hw];generalize Hs nm rows ks ps n (W.take i)=e at *;obtain⟨lo,hi⟩:=e;show m8 _ _ (.tup [Hk (HG nm rows w),.tup (w.map D.int)]) _ _;refine cj λK4 hK4=>?_;walk_at "";refine⟨n,HG nm rows w,rfl,ip S.H w,?_⟩;walk_at "";rw[dS S.H,hK4];have k6:=S.k6;have bnd:cfs 'f' n≠0->∀R:D->Prop,R (HM 'j'.1)->gK [.str n,Hk (HG nm rows w),.dct ks (ps.map HM)] R:=λhc R r =>
   ⟨n,HG nm rows w,ks,ps,c,κ,T,rfl,ip S.H w,k6,S.nms w hm,by rw[dS S.H];exact hc,S.P,by have:=S.hT;omega,S.hκ,by have:=S.cκ;omega,by rw[dS S.H];exact S.cb w hm n,S.tb hm,S.bb w hm,r⟩
  have cb:cfs 'f' n≠0->∀p,some (cnd nm rows ks ps n w).1=some p->ib p.1<=1000000/\ib p.2<=8000:=λhc p hp=>by
   cases hp
   have k:=S.cnd hm hc
   have k1:=k.bb
   have k2:=k.tb
   have k3:=S.cg
   have k4:=S.hT
   exact⟨by omega,by omega⟩
  have word:∀R:D->Prop,R (.bl 'j'.2)->fIx [Hk (HG nm rows w),.int 0] λd=>fEq [d,.str "least"] R:=λR r=>by
   unfold Hk gF HG;walk_at "";rw[yx];exact r
  generalize cnd nm rows ks ps n w=cn at *
  obtain⟨cp,cs⟩:=cn
  rcases Int.lt_trichotomy (cfs (rows.zip w) n) 0 with hc | hc | hc
  ·refine ak λK5 hK5=>?_;walk_at "";refine Hz 'b' ?_;rw[hK5];walk_at "";refine ifp hc (bnd 'b' _ ?_);walk_at "";refine word _ ?_;refine⟨hi,(some cp,cs),false,rfl,aa.2,cb 'b',?_⟩;simp only[if_neg (show ¬ 0<cfs 'f' n by omega),if_pos hc]
   first | exact⟨_,_,_,rfl⟩ | trivial | rfl
  ·refine ak λK5 hK5=>?_;walk_at "";refine Hz 'b' ?_;rw[hK5];walk_at "";refine Hz 'b' ?_;simp only[if_neg (show ¬ 0<cfs 'f' n by omega),if_neg (show ¬ cfs 'f' n<0 by omega)]
   first | exact⟨_,_,_,rfl⟩ | trivial | rfl
  ·refine ak λK5 hK5=>?_;walk_at "";refine ifp hc (bnd 'b' _ ?_);walk_at "";refine word _ ?_;refine⟨lo,(some cp,cs),true,rfl,aa.1,cb 'b',?_⟩;rw[hK5];walk_at "";refine Hz 'b' ?_;simp only[if_pos hc,if_neg (show ¬ cfs 'f' n<0 by omega)]
   first | exact⟨_,_,_,rfl⟩ | trivial | rfl
 ·rintro δ ⟨x,y,z,rfl⟩;rw[HS,ID,hN,hK3];unfold BB;walk_at "";exact q
def rl(c:Nat->Nat):Nat->Nat->Nat->Nat->Bool
 | 0,κ,_,T=>decide (κ<=7990)&&decide (T<=1000000)
 | k+1,κ,g,T=>(decide (c k+g<=3990)&&decide (c k+κ<=7990))&&(decide (g<=κ)&&decide (c k+T+κ+80<=1000000))&&rl c k (κ+(2*c k+g+2)) (2*c k+2+g) (2*(c k+T+κ+72)+2)
structure St(B:Nat)(nm:Zb)(rows:List Rw)(l ks:Zb)(ps:Za)(κ g T:Nat)(L:Int):Prop where
 P:Pt ks ps T
 hκ:ib (Hl 'w' ks)<=κ
 L0:L≠0
 hL:∀k∈ks,pB ks ps k ∣ L
 hg:ib L<=g
 fq:rl (cb B 6) l.length κ g T=true
 so:∀w∈Hi rows l,HJ (Hx ks ps) (HG nm rows w)
theorem Cq{v:Int×Int}{T T':Nat}(P:Pt ks ps T)(hv:Low v.1 v.2)(hT:T<=T')(h1:ib v.1<=T')(h2:ib v.2<=T'):Pt (ks++[n]) (ps++[v]) T' :=
  ⟨by simp[P.len],λp hp=>(Ip.mp hp).elim (P.low p) λz=>by rw[Ii.mp z];exact hv,λp hp=>(Ip.mp hp).elim (λz=>HX (P.b1 p z) hT) λz=>by rw[Ii.mp z];exact h1,
   λp hp=>(Ip.mp hp).elim (λz=>HX (P.b2 p z) hT) λz=>by rw[Ii.mp z];exact h2⟩
theorem yn{v:Int×Int}(hl:ps.length=ks.length)(hn:n∉ks):Hl (pB (ks++[n]) (ps++[v])) (ks++[n])=Hl 'w' ks*v.2:=by
 rw[gU,oK];have e1:pB (ks++[n]) (ps++[v]) n=v.2:=by unfold pB;rw[gE hl hn,Ir rfl]
 rw[e1]
 congr 1
 refine nE λk hk=>?_;unfold pB;rw[gE hl hn,Io (λ(z:k=n)=>hn (z ▸ hk))]
theorem St.step{B N:Nat}{l:Zb}{κ g T:Nat}(F:Fit nm rows B N)(h:St B nm rows (n::l) ks ps κ g T L)(hnk:n∉ks)(hkl:ks.length<=60)(hcov:∀k∈nm,k∈ks\/k=n\/k∈l) :
  Pcs nm rows ks ps n (Hi rows l) (cb B 6 l.length) κ g T L/\(∀p,(Hs nm rows ks ps n (Hi rows l)).1.1=some p->oG L (cb B 6 l.length) g κ T p)/\(∀p,(Hs nm rows ks ps n (Hi rows l)).2.1=some p->oG L (cb B 6 l.length) g κ T p) /\
  ∃L',St B nm rows l (ks++[n]) (ps++[nmb (Hs nm rows ks ps n (Hi rows l)).1.1 (Hs nm rows ks ps n (Hi rows l)).2.1]) (κ+(2*cb B 6 l.length+g+2)) (2*cb B 6 l.length+2+g) (2*(cb B 6 l.length+T+κ+72)+2) L':=by
 obtain⟨P,hκ,L0,hL,hg,fq,so⟩:=h;have ai:((cb B 6 l.length+g<=3990/\cb B 6 l.length+κ<=7990)/\(g<=κ/\cb B 6 l.length+T+κ+80<=1000000))/\rl (cb B 6) l.length (κ+(2*cb B 6 l.length+g+2)) (2*cb B 6 l.length+2+g) (2*(cb B 6 l.length+T+κ+72)+2)=true:=by
  have:((decide (cb B 6 l.length+g<=3990)&&decide (cb B 6 l.length+κ<=7990))&&(decide (g<=κ)&&decide (cb B 6 l.length+T+κ+80<=1000000))&&rl (cb B 6) l.length (κ+(2*cb B 6 l.length+g+2)) (2*cb B 6 l.length+2+g) (2*(cb B 6 l.length+T+κ+72)+2))=true:=fq
  simpa only[Bool.and_eq_true,decide_eq_true_eq] using this
 obtain⟨⟨⟨f1,ah⟩,f2,ag⟩,f3⟩:=ai;have ab:=F0 (B:=B) F.m6 l.length;have S:Pcs nm rows ks ps n (Hi rows l) (cb B 6 l.length) κ g T L:=by
  refine⟨F.H,hkl,λw hw t ht hne=>?_,P,ag,hκ,L0,hL,hg,f2,f1,ah,λw hw x=>HX (F.H.cfb F.hB (dm F.H F.hB hw) x) ab,λw hw=>HX (Rws.bdb F.hB (dm F.H F.hB hw)) ab⟩;obtain⟨m1,m2,_⟩:=jY ht
  rcases hcov t.1 m1 with z | z | z
  ·exact z
  ·exact absurd z hne
  ·exact absurd ((ca hw).2 _ z) m2
 have aa:=zL (nm:=nm) (rows:=rows) (ks:=ks) (ps:=ps) (n:=n) (Pr:=oG L (cb B 6 l.length) g κ T) (W:=Hi rows l) λw hw hc=>S.cnd hw hc
 have bk:=back F.H so (vK hnk) (λw hw t ht hne=>P.pos (S.nms w hw t ht hne))
 obtain⟨s1,s2,M,m0,mb,md⟩:=yJ L0 hg f2 aa.1 aa.2;refine⟨S,aa.1,aa.2,M*L,Cq P bk.1 'b' s1 (by omega),?_,IN m0 L0,λk hk=>?_,Iz mb hg,f3,λw hw=>?_⟩
 ·rw[yn P.len hnk];exact Iz hκ s2
 ·unfold pB;rw[gE P.len hnk]
  by_cases e:k=n
  ·rw[Ir e];exact md
  ·rw[Io e]
   rcases Ip.mp hk with z | z
   ·exact JF (hL k z) (JC ..)
   ·exact absurd (Ii.mp z) e
 ·rw[rq P.len hnk];exact bk.2 w hw
inductive iC(ds:Zh)(R:D->Prop):Prop
 | mk (nm:Zb) (rows:List Rw) (B N:Nat) (ns ks:Zb) (ps:Za) (κ g T:Nat) (L:Int) (hh:ds=[.lst ((og rows ns).map (jE nm rows)),.lst (ns.map D.str),.dct ks (ps.map HM)]/\Fit nm rows B N/\ns.length<=N/\ks.length<=20/\(ks++ns).Nodup/\(∀n∈nm,n∈ks\/n∈ns)/\St B nm rows ns ks ps κ g T L/\R (.dct (ks++ns) ((fbk nm rows ns ks ps).map HM)))
theorem iR:∀ds R,iC ds R->ds.length=3:=λ_ _ ⟨_,_,_,_,_,_,_,_,_,_,_,e,_⟩=>by rw[e];rfl
theorem GA(o:Option (Int×Int)):D.im (oD o)=true:=by cases o<;>rfl
theorem DI{L:Zh}{i:Nat}{d:D}(h:(sK (ns.map D.str) L)[i]?=some d):∃n e,ns[i]?=some n/\L[i]?=some e/\d=.tup [.str n,e]:=by
 unfold sK at h;rw[List.getElem?_zipWith] at h;rw[List.getElem?_map] at h
 cases e1:ns[i]? with
 | none=>rw[e1] at h;cases h
 | some n =>
  rw[e1] at h
  cases e2:L[i]? with
  | none=>rw[e2] at h;cases h
  | some e=>rw[e2] at h;exact⟨n,e,rfl,rfl,(Iq h).symm⟩
theorem cut1{α:Type}(xs:List α)(h:0<xs.length):cut xs (some 1) none=xs.drop 1:=by
 unfold cut;have e1:HT.sIx xs.length 0 (some 1)=1:=by unfold HT.sIx;simp;omega
 have e2:HT.sIx xs.length xs.length none=xs.length:=rfl
 rw[e1,e2];exact J0 (by rw[JN];omega)
theorem cG:ax ["steps","names","point","told","name","sums"] ["steps","names","point"] (aq s_found_back):=by walk_at "sc"
theorem fg(Z:Zz):Z.C 5 "found_back" ["steps","names","point"] (HN Z.K iC):=by
 refine cy Z.x31 cG iR λfa cdv A outer s H E ds R hr h=>?_;have hU:=hr.units;refine⟨_,(ad (rN 3 cG.nd rfl Z.x63 (am 2)) (ad (ia Iv rfl (qU true true rfl Z.x59 (ac (am 1) (ac (fZ (am 0) (cU ap) fG) ae))) (bJ (n:=2) rfl (aB (ar 4 cG.nd) (aB (ar 5 cG.nd) aW))) (af (eF 3 hU (au (l7 Z) (rm hr) rfl (ac (yy 3 (mq Z) (rm hr) rfl (am 4) (am 5)) ae)) (am 4)))) (bB 3 (af (av (am 3)))))),?_⟩;obtain⟨nm,rows,B,N0,ns,ks,ps,κ,g,T,L,rfl,F,h4,a3,nd,ao,az,q⟩:=h;have n4:=F.n4;refine ak λK1 hK1=>?_;walk_at "";intro da;rw[hK1];refine ak λK2 hK2=>?_;refine d6 λFb N hF hN=>?_;walk_at "";simp only[lJ];walk_at "";rw[cut1 _ (by rw[HS,gm];omega),<- List.map_drop];have zl:(sK (ns.map D.str) (((og rows ns).drop 1).map (jE nm rows))).length=ns.length:=by
  unfold sK;rw[List.length_zipWith,HS,HS,JN,gm];omega
 refine⟨λi δ=>∃(ks':Zb) (ps':Za) (x y:Sl),δ=[.dat (.lst ((og rows ns).map (jE nm rows))),.dat (.lst (ns.map D.str)),.dat (.dct ks (ps.map HM)),.own da (.dct ks' (ps'.map HM)),x,y]/\ks'=ks++ns.take i/\fbk nm rows (ns.drop i) ks' ps'=fbk nm rows ns ks ps/\∃κ g T L,St B nm rows (ns.drop i) ks' ps' κ g T L,⟨ks,ps,_,_,rfl,by simp,rfl,κ,g,T,L,az⟩,?_,?_⟩
 ·rintro i d δ hd ⟨ks',ps',x,y,rfl,rfl,aa,κ',g',T',L',S'⟩;obtain⟨n,e,hn,he,rfl⟩:=DI hd;have a1:i<ns.length:=(List.getElem?_eq_some_iff.mp hn).1;rw[List.getElem?_map,List.getElem?_drop,qu ns (1+i) 'b'] at he;have he:=(Iq he).symm;subst he;have ah:ns.drop i=n::ns.drop (i+1):=by
   rw[JQ a1]
   congr 1
   exact(List.getElem?_eq_some_iff.mp hn).2
  rw[Nat.add_comm 1 i];rw[ah] at aa S';have a2:(ks++ns.take i++n::ns.drop (i+1)).Nodup:=by
   rw[<- ah,J9,JP];exact nd
  have ab:n∉ks++ns.take i:=λz=>(Jp.mp a2).2.2 n z n (HY ..) rfl
  have an:∀k∈nm,k∈ks++ns.take i\/k=n\/k∈ns.drop (i+1):=λk hk=>by
   rcases ao k hk with z | z
   ·exact .inl (Il _ z)
   ·rw[<- JP i ns,ah] at z
    rcases Ip.mp z with z | z
    ·exact .inl (Ig _ z)
    ·rcases Ih.mp z with z | z
     ·exact .inr (.inl z)
     ·exact .inr (.inr z)
  have a0:(ks++ns.take i).length<=60:=by rw[Ij,IH];omega
  have as:ns.take (i+1)=ns.take i++[n]:=aD hn
  simp only[as,<- List.append_assoc];generalize ks++ns.take i=k0 at *;generalize ns.drop (i+1)=l at *;obtain⟨S,aj,al,ai⟩:=S'.step F ab a0 an;rw[hF];show m8 _ _ (.tup [.str n,jE nm rows (Hi rows l)]) _ _;walk_at "";refine⟨nm,rows,k0,ps',n,Hi rows l,_,κ',g',T',L',rfl,S,?_⟩;refine⟨by simp only[D.im,D.ims,GA];rfl,?_⟩;have ag:fbk nm rows l (k0++[n]) (ps'++[nmb (Hs nm rows k0 ps' n (Hi rows l)).1.1 (Hs nm rows k0 ps' n (Hi rows l)).2.1])=fbk nm rows ns ks ps:=aa;clear aa;have cg:=S.cg;have hT:=S.hT;generalize Hs nm rows k0 ps' n (Hi rows l)=e at *;obtain⟨lo,hi⟩:=e;simp only at aj al ai ag ⊢;refine⟨lo.1,hi.1,lo.2,hi.2,rfl,λp hp=>?_,λp hp=>?_,?_⟩
  ·have k:=aj p hp
   have k1:=k.bb
   have k2:=k.tb
   exact⟨k.low.ne,by omega,by omega⟩
  ·have k:=al p hp
   have k1:=k.bb
   have k2:=k.tb
   exact⟨k.low.ne,by omega,by omega⟩
  ·generalize nmb lo.1 hi.1=v at *
   have lk:k0.length<9000:=by omega
   refine⟨lk,?_⟩;rw[eP ab,eR ab];walk_at "";exact⟨ps'++[v],by rw[IA];rfl,ag,_,_,_,ai⟩
 ·rintro δ ⟨ks',ps',x,y,rfl,rfl,aa,_⟩;rw[zl] at aa ⊢;rw[List.drop_length] at aa;rw[ID,hN,hK2];have aa:ps'=fbk nm rows ns ks ps:=aa;rw[aa];walk_at "";exact q
def so0(l:List (Rw×Int)):Bool:=pI (kOf (Hw l)) 0 (bds l)
def HI(nm:Zb)(rows:List Rw)(ns:Zb):D:=match (Hi rows ns).find? (λw=>!so0 'f') with
 | some w=>.tup [.str "weights",.tup (w.map D.int)]
 | none=>.tup [.str "point",.dct ns ((fbk nm rows ns [] []).map HM)]
def None(rows:List Rw):Prop:=∀x:Str->Rat,∃r∈rows,¬ HJ x r
inductive sF(ds:Zh)(R:D->Prop):Prop
 | mk (nm:Zb) (rows:List Rw) (B N:Nat) (ns:Zb) (hh:ds=[.lst (rows.map Hk),.lst (ns.map D.str)]/\Fit nm rows B N/\ns.length<=N/\ns.Nodup/\(∀n∈nm,n∈ns)/\(rl (cb B 6) ns.length 1 1 0=true\/None rows)/\R (HI nm rows ns))
theorem nJ:∀ds R,sF ds R->ds.length=2:=λ_ _ ⟨_,_,_,_,_,e,_⟩=>by rw[e];rfl
theorem v8(hin:∀n∈nm,n∈ns){w:Ze}(hw:w∈Hi rows ns):(HG nm rows w).2.1=[]:=by
 cases e:(HG nm rows w).2.1 with
 | nil=>rfl
 | cons t r =>
  have ht:t∈(HG nm rows w).2.1:=by rw[e];exact HY ..
  obtain⟨h1,h2,_⟩:=jY ht;exact absurd ((ca hw).2 _ (hin _ h1)) h2
theorem Cf(hin:∀n∈nm,n∈ns){w:Ze}(hw:w∈Hi rows ns):Hk (HG nm rows w)=(HR.row (kOf (Hw 'f')) [] (bds 'f')).D:=by
 have e:=v8 hin hw
 show gF _ (HG nm rows w).2.1 _=_
 rw[e];rfl
theorem E9(hin:∀n∈nm,n∈ns){w:Ze}(hw:w∈Hi rows ns)(x:Str->Rat):so0 'f'=true↔HJ x (HG nm rows w):=by
 have e:=v8 hin hw
 unfold HJ so0;rw[e];show _↔(match kOf (Hw 'f') with | .least=>((bds 'f':Int):Rat)<=0 | .more=>((bds 'f':Int):Rat)<0)
 cases Hw 'f'
 ·show decide (bds 'f'<=0)=true↔_
  rw[Kc];exact(Rat.intCast_le_intCast (a:=bds 'f') (b:=0)).symm
 ·show decide (bds 'f'<0)=true↔_
  rw[Kc];exact(JL (a:=bds 'f') (b:=0)).symm
theorem kd{α:Type}{p:α->Bool}{l:List α}{i:Nat}{x:α}(h:l[i]?=some x)(hn:∀y∈l.take i,p y=false)(hp:p x=true):l.find? p=some x:=by
 rw[<- JP i l,List.find?_append];have e1:(l.take i).find? p=none:=List.find?_eq_none.mpr λy hy=>by rw[hn y hy];decide
 have hi:i<l.length:=(List.getElem?_eq_some_iff.mp h).1
 rw[e1,JQ hi,(List.getElem?_eq_some_iff.mp h).2,List.find?_cons_of_pos hp];rfl
theorem GW:∀ {k:Nat},k<=4->rl (cb 64 6) k 1 1 0=true
 | 0,_=>by decide
 | 1,_=>by decide
 | 2,_=>by decide
 | 3,_=>by decide
 | 4,_=>by decide
 | k+5,h=>by omega
theorem DC(H:Rws nm rows)(nd:ns.Nodup)(hin:∀n∈nm,n∈ns)(so:∀w∈Hi rows ns,HJ (Hx [] []) (HG nm rows w)):∀r∈rows,HJ (Hx ns (fbk nm rows ns [] [])) r:=λr hr=>by
 obtain⟨_,_,_,d⟩:=vT H ns [] [] rfl (λ_ h=>nomatch h) (by simpa using nd) (λn hn=>.inr (hin n hn)) so;rw[List.nil_append] at d;obtain⟨j,hj⟩:=List.getElem?_of_mem hr;have:=d (unW rows.length j) (HW.mpr ⟨j,Jk.mpr (List.getElem?_eq_some_iff.mp hj).1,rfl⟩);rw[mr H hj] at this;exact this
theorem St.start{B N:Nat}(F:Fit nm rows B N)(nd:ns.Nodup)(hin:∀n∈nm,n∈ns)(fq:rl (cb B 6) ns.length 1 1 0=true\/None rows)(so:∀w∈Hi rows ns,HJ (Hx [] []) (HG nm rows w)):St B nm rows ns [] [] 1 1 0 1:=by
 refine⟨⟨rfl,(λ_ h=>nomatch h),(λ_ h=>nomatch h),(λ_ h=>nomatch h)⟩,by show ib 1<=1;decide,by decide,(λ_ h=>nomatch h),by decide,?_,so⟩
 rcases fq with h | h
 ·exact h
 ·obtain⟨r,hr,no⟩:=h (Hx ns (fbk nm rows ns [] []));exact absurd (DC F.H nd hin so r hr) no
theorem gB:ax ["rows","names","steps","row","weights"] ["rows","names"] (aq s_solved):=by walk_at "sc"
theorem tT(Z:Zz):Z.C 65 "solved" ["rows","names"] (HN Z.K sF):=by
 refine cy Z.x32 gB nJ λfa cdv A outer s H E ds R hr h=>?_;have hU:=hr.units;refine⟨_,(ad (aA 2 gB.nd (au (dO Z) (rm hr) rfl (ac (am 0) (ac (am 1) ae)))) (ad (bu Iv rfl (Hg 2) (bJ (n:=2) rfl (aB (ar 3 gB.nd) (aB (ar 4 gB.nd) aW))) (af (aP (dH (br (au (mJ Z) (rm hr) rfl (ac (am 3) (ac i8 ae))))) (af (av (aI (ac aw (ac (am 4) ae))))) aF))) (af (av (aI (ac aw (ac (au (fg Z) (rm hr) rfl (ac (am 2) (ac (am 1) (ac i8 ae)))) ae))))))),?_⟩;obtain⟨nm,rows,B,N0,ns,rfl,F,h4,nd,aa,fq,q⟩:=h;refine ak λK1 hK1=>?_;walk_at "";refine⟨nm,rows,B,N0,ns,rfl,F,h4,?_⟩;walk_at "";rw[hK1];have e0:(og rows ns).map (jE nm rows)=jE nm rows (Hi rows ns)::((og rows ns).drop 1).map (jE nm rows):=by
  cases ns<;>rfl
 refine ak λK2 hK2=>?_;refine bO λFb N hF hN=>?_;walk_at "";simp only[ef];rw[e0];walk_at "";rw[<- e0];refine⟨λi δ=>∃x y,δ=[.dat (.lst (rows.map Hk)),.dat (.lst (ns.map D.str)),.dat (.lst ((og rows ns).map (jE nm rows))),x,y]/\∀w∈(Hi rows ns).take i,so0 'f'=true,⟨_,_,rfl,λw hw=>by simp at hw⟩,?_,?_⟩
 ·rintro i d δ hd ⟨x,y,rfl,ho⟩;obtain⟨w,hw,rfl⟩:=qz hd;have hm:=Im hw;rw[hF];show m8 _ _ (.tup [Hk (HG nm rows w),.tup (w.map D.int)]) _ _;walk_at "";have bb:ib (bds 'f')<=10000:=by
   have h1:=Rws.bdb F.hB (dm F.H F.hB hm)
   have h2:=F.ck h4
   unfold cb at h2;omega
  refine⟨HR.row (kOf (Hw 'f')) [] (bds 'f'),[],[],[],0,1,?_,by show 1<=60;decide,⟨⟨by simp,(λ_ h=>nomatch h),(λ_ h=>nomatch h)⟩,bb⟩,by decide,(λ_ h=>nomatch h),⟨rfl,(λ_ h=>nomatch h),(λ_ h=>nomatch h),(λ_ h=>nomatch h)⟩,by decide,by show ib 1<=1;decide,by decide,?_⟩
  ·rw[Cf aa hm];rfl
  ·have e1:(HR.row (kOf (Hw 'f')) [] (bds 'f')).tv (pT [] []) (pB [] [])=so0 'f':=by
    show pI _ 0 (bds 'f'*1)=_
    rw[Int.mul_one];rfl
   rw[e1]
   cases e:so0 'f' with
   | false =>
    have:=kd (p:=λw=>!so0 'f') hw (λy hy=>by rw[ho y hy];rfl) (by rw[e];rfl)
    unfold HI at q;rw[this] at q;exact q
   | true =>
    walk_at "";rw[aD hw];intro u hu
    rcases Ip.mp hu with hu | hu
    ·exact ho u hu
    ·rw[Ii.mp hu];exact e
 ·rintro δ ⟨x,y,rfl,ho⟩;rw[HS,ID] at ho;rw[hN,hK2];have en:(Hi rows ns).find? (λw=>!so0 'f')=none:=List.find?_eq_none.mpr λw hw=>by rw[ho w hw];decide
  unfold HI at q;rw[en] at q;walk_at "";refine⟨nm,rows,B,N0,ns,[],[],1,1,0,1,rfl,F,h4,by decide,by simpa using nd,λn hn=>.inr (aa n hn),St.start F nd aa fq λw hw=>(E9 aa hw _).mp (ho w hw),?_⟩;walk_at "";exact q
theorem r6{ss:Zb}(h1:Srt ss)(n1:ss.Nodup)(h2:nm.Pairwise leS)(n2:nm.Nodup)(h:∀n,n∈ss↔n∈nm):ss=nm:=lX (nH h1) h2 n1 n2 h
def fE(c:Nat->Nat):Nat->Nat×Nat×Nat->Nat×Nat×Nat
 | 0,s=>s
 | k+1,s=>fE c k (s.1+(2*c k+s.2.1+2),2*c k+2+s.2.1,2*(c k+s.2.2+s.1+72)+2)
theorem wm{B N:Nat}(F:Fit nm rows B N):∀(ns ks:Zb) (ps:Za) (κ g T:Nat) (L:Int),St B nm rows ns ks ps κ g T L->(ks++ns).Nodup->(ks++ns).length<=60->(∀n∈nm,n∈ks\/n∈ns) ->
  ∃L',St B nm rows [] (ks++ns) (fbk nm rows ns ks ps) (fE (cb B 6) ns.length (κ,g,T)).1 (fE (cb B 6) ns.length (κ,g,T)).2.1 (fE (cb B 6) ns.length (κ,g,T)).2.2 L'
 | [],ks,ps,κ,g,T,L,S,nd,hl,cov=>by
  rw[IZ];exact⟨L,S⟩
 | n::l,ks,ps,κ,g,T,L,S,nd,hl,cov=>by
  have hnk:n∉ks:=λz=>(Jp.mp nd).2.2 n z n (HY ..) rfl
  obtain⟨_,_,_,L',S'⟩:=S.step F hnk (by rw[Ij] at hl;omega) λk hk=>by
   rcases cov k hk with z | z
   ·exact .inl z
   ·exact .inr (Ih.mp z)
  have e:ks++n::l=ks++[n]++l:=by simp
  rw[e] at nd hl ⊢;exact wm F l (ks++[n]) _ _ _ _ L' S' nd hl λk hk=>by
   rcases cov k hk with z | z
   ·exact .inl (Il _ z)
   ·rcases Ih.mp z with z | z
    ·exact .inl (Ig _ (Ii.mpr z))
    ·exact .inr z
theorem AF{a b c:Rat}(h:0<c):c*a<=c*b↔a<=b :=
 ⟨λz=>Rat.not_lt.mp λy=>absurd (Rat.mul_lt_mul_of_pos_left y h) (Rat.not_lt.mpr z),λz=>Rat.mul_le_mul_of_nonneg_left z (Rat.le_of_lt h)⟩
theorem Ax{k:Kd}{b:Int}(h:∀t∈ts,0<pB ks ps t.1):tQ (pT ks ps) 'w' k ts b=true↔HJ (Hx ks ps) (k,ts,b):=by
 have hK:0<Hl 'w' (ts.map (·.1)):=cN λn hn=>by
  obtain⟨t,h1,rfl⟩:=HW.mp hn;exact h t h1
 have e:=nP (ks:=ks) (ps:=ps) (K:=Hl 'w' (ts.map (·.1))) (ts:=ts) λt ht=>⟨h t ht,dZ (HW.mpr ⟨t,ht,rfl⟩)⟩
 unfold tQ;generalize Hl 'w' (ts.map (·.1))=K at *;have k0:=kg hK;generalize cV (ov (pT ks ps) 'w' K) ts=S at *;have aa:∀x:Rat,(S:Rat)=(K:Rat)*x->(((b:Rat)<=x↔b*K<=S)/\((b:Rat)<x↔b*K<S)):=λx hx=>by
  have e1:((b*K:Int):Rat)=(b:Rat)*(K:Rat):=IE ..
  constructor
  ·rw[<- Rat.intCast_le_intCast,e1,hx,Rat.mul_comm (b:Rat)];exact(AF k0).symm
  ·rw[<- JL,e1,hx,Rat.mul_comm (b:Rat)];exact(Rat.mul_lt_mul_left k0).symm
 obtain⟨k1,k2⟩:=aa _ e
 cases k with
 | least=>show decide (b*K<=S)=true↔_;rw[Kc];exact k1.symm
 | more=>show decide (b*K<S)=true↔_;rw[Kc];exact k2.symm
theorem vJ{ns:Ze}{n:Nat}(hb:∀c∈ns,Builtin.Int.intBits c<=n)(k:Int):Builtin.Int.intBits (cO ns k)<=n:=by
 unfold cO;rw[List.getD_eq_getElem?_getD]
 cases e:ns[k.toNat]? with
 | none=>exact HX (by decide:Builtin.Int.intBits 0<=0) (Jq _)
 | some c=>exact hb c (Im e)
theorem uS{α β:Type}(f:α->β)(l:List α)(lo hi:Option Int):cut (l.map f) lo hi=(cut l lo hi).map f:=by
 unfold cut;rw[HS,List.map_take,List.map_drop]
theorem qg{α:Type}{l:List α}{lo hi:Option Int}{x:α}(h:x∈cut l lo hi):x∈l:=List.mem_of_mem_drop (JD h)
theorem B6{α:Type}{l:List α}(a b:Nat):(cut l (some (a:Int)) (some (b:Int))).length<=b-a:=by
 unfold cut;rw[IH,JN,HT.sIx_nat,HT.sIx_nat];omega
def HR.kr:HR->List (List Rw)
 | .row k ts b=>[[(k,ts,b)]]
 | .nt _=>[]
 | .bo s t=>s.kr.flatMap λc=>t.kr.map λd=>c++d
 | .ei s t=>s.kr++t.kr
def iK(r:Rw):HR:=.row r.1 r.2.1 r.2.2
theorem HR.cs_kr:∀ {s:HR},s.cs=s.kr.map λc=>c.map iK
 | .row _ _ _=>rfl
 | .nt _=>rfl
 | .bo s t=>by
  show (s.cs.flatMap λc=>t.cs.map λd=>c++d)=(s.kr.flatMap λc=>t.kr.map λd=>c++d).map _
  rw[HR.cs_kr (s:=s),HR.cs_kr (s:=t),List.flatMap_map,List.map_flatMap]
  congr 1
  funext c
  rw[IU,IU]
  congr 1
  funext d
  show _=List.map iK (c++d)
  rw[IA];rfl
 | .ei s t=>by
  show s.cs++t.cs=(s.kr++t.kr).map _
  rw[HR.cs_kr (s:=s),HR.cs_kr (s:=t),IA]
def krD(K:List (List Rw)):D:=.lst (K.map λc=>.lst (c.map Hk))
theorem qt{s:HR}:csD s.cs=krD s.kr:=by
 unfold csD krD dU;rw[HR.cs_kr,IU]
 congr 2
 funext c
 show DL.D.lst ((c.map iK).map HR.D)=_
 rw[IU];rfl
theorem HR.kr_num{s:HR}(h:s.pn=true):s.kr.length=s.num:=by rw[<- HR.cs_num h,HR.cs_kr,HS]
theorem HR.kr_long{s:HR}(h:s.pn=true)(hc:c∈s.kr):c.length<=s.long:=by
 have:=HR.cs_long h (c.map iK) (by rw[HR.cs_kr];exact HW.mpr ⟨c,hc,rfl⟩)
 rwa [HS] at this
def HR.bt(B:Nat):HR->Prop
 | .row _ ts b=>(∀t∈ts,ib t.2<=B)/\ib b<=B
 | .nt s=>s.bt B
 | .bo s t=>s.bt B/\t.bt B
 | .ei s t=>s.bt B/\t.bt B
theorem HR.pl_bt{B:Nat}:∀ {s:HR} {t:Bool},s.bt B->(s.pl t).bt B
 | .row k ts b,true,h=>⟨λt ht=>by
   obtain⟨u,hu,rfl⟩:=HW.mp ht
   exact Kf (h.1 u hu),Kf h.2⟩
 | .row k ts b,false,h=>h
 | .nt s,t,h=>HR.pl_bt (s:=s) h
 | .bo s u,true,h=>⟨HR.pl_bt h.1,HR.pl_bt h.2⟩
 | .bo s u,false,h=>⟨HR.pl_bt h.1,HR.pl_bt h.2⟩
 | .ei s u,true,h=>⟨HR.pl_bt h.1,HR.pl_bt h.2⟩
 | .ei s u,false,h=>⟨HR.pl_bt h.1,HR.pl_bt h.2⟩
theorem HR.kr_row{B:Nat}:∀ {s:HR},s.ok names->s.bt B->∀c∈s.kr,∀r∈c,mB names r.2.1/\(∀t∈r.2.1,ib t.2<=B)/\ib r.2.2<=B/\∀n∈r.2.1.map (·.1),n∈s.nms
 | .row k ts b,o,h,c,hc,r,hr=>by
  rw[Ii.mp hc] at hr;rw[Ii.mp hr];exact⟨o.1,h.1,h.2,λn hn=>hn⟩
 | .bo s t,o,h,c,hc,r,hr=>by
  obtain⟨x,hx,hy⟩:=JO.mp hc;obtain⟨y,hz,rfl⟩:=HW.mp hy
  rcases Ip.mp hr with hr | hr
  ·obtain⟨a,b,d,e⟩:=HR.kr_row o.1 h.1 x hx r hr;exact⟨a,b,d,λn hn=>Il _ (e n hn)⟩
  ·obtain⟨a,b,d,e⟩:=HR.kr_row o.2 h.2 y hz r hr;exact⟨a,b,d,λn hn=>Ig _ (e n hn)⟩
 | .ei s t,o,h,c,hc,r,hr=>by
  rcases Ip.mp hc with hc | hc
  ·obtain⟨a,b,d,e⟩:=HR.kr_row o.1 h.1 c hc r hr;exact⟨a,b,d,λn hn=>Il _ (e n hn)⟩
  ·obtain⟨a,b,d,e⟩:=HR.kr_row o.2 h.2 c hc r hr;exact⟨a,b,d,λn hn=>Ig _ (e n hn)⟩
def HR.sx(x:Str->Rat):HR->Prop
 | .row k ts b=>HJ x (k,ts,b)
 | .nt s=>¬ s.sx x
 | .bo s t=>s.sx x/\t.sx x
 | .ei s t=>s.sx x\/t.sx x
theorem rJ:∀ {ts:List (Str×Int)},du x (v4 ts)=-du x ts
 | []=>by show (0:Rat)=-0;grind
 | t::ts=>by
  show ((-t.2:Int):Rat)*x t.1+du x (v4 ts)=-((t.2:Rat)*x t.1+du x ts)
  rw[rJ,Ld];grind
theorem Ay{k:Kd}{b:Int}:HJ x (k.op,v4 ts,-b)↔¬ HJ x (k,ts,b):=by
 have e:=rJ (x:=x) (ts:=ts)
 cases k with
 | least =>
  show (((-b:Int):Rat)<du x (v4 ts))↔¬ ((b:Rat)<=du x ts)
  rw[e,Ld];grind
 | more =>
  show (((-b:Int):Rat)<=du x (v4 ts))↔¬ ((b:Rat)<du x ts)
  rw[e,Ld];grind
theorem HR.pl_sx:∀ {s:HR} {t:Bool},(s.pl t).sx x↔(if t=true then ¬ s.sx x else s.sx x)
 | .row k ts b,true=>by rw[Ir rfl];exact Ay
 | .row k ts b,false=>Iff.rfl
 | .nt s,true=>by show (s.pl false).sx x↔_;rw[HR.pl_sx,Ir rfl];show (if false=true then _ else s.sx x)↔¬ ¬ s.sx x;simp
 | .nt s,false=>by show (s.pl true).sx x↔_;rw[HR.pl_sx];simp[HR.sx]
 | .bo s u,true=>by show ((s.pl true).sx x\/(u.pl true).sx x)↔_;rw[HR.pl_sx,HR.pl_sx];simp only[if_true,HR.sx];exact Classical.not_and_iff_not_or_not.symm
 | .bo s u,false=>by show ((s.pl false).sx x/\(u.pl false).sx x)↔_;rw[HR.pl_sx,HR.pl_sx];simp[HR.sx]
 | .ei s u,true=>by show ((s.pl true).sx x/\(u.pl true).sx x)↔_;rw[HR.pl_sx,HR.pl_sx];simp[HR.sx]
 | .ei s u,false=>by show ((s.pl false).sx x\/(u.pl false).sx x)↔_;rw[HR.pl_sx,HR.pl_sx];simp[HR.sx]
theorem HR.kr_sx:∀ {s:HR},s.pn=true->(s.sx x↔∃c∈s.kr,∀r∈c,HJ x r)
 | .row k ts b,_=>by
  constructor
  ·exact λh=>⟨[(k,ts,b)],Ii.mpr rfl,λr hr=>by rw[Ii.mp hr];exact h⟩
  ·rintro⟨c,hc,h⟩;rw[Ii.mp hc] at h;exact h _ (Ii.mpr rfl)
 | .bo s t,h=>by
  obtain⟨h1,h2⟩:=IB.mp h;show (s.sx x/\t.sx x)↔_;rw[HR.kr_sx h1,HR.kr_sx h2]
  constructor
  ·rintro⟨⟨c,hc,a⟩,d,hd,b⟩;refine⟨c++d,JO.mpr ⟨c,hc,HW.mpr ⟨d,hd,rfl⟩⟩,λr hr=>?_⟩
   rcases Ip.mp hr with hr | hr
   ·exact a r hr
   ·exact b r hr
  ·rintro⟨e,he,a⟩;obtain⟨c,hc,hy⟩:=JO.mp he;obtain⟨d,hd,rfl⟩:=HW.mp hy;exact⟨⟨c,hc,λr hr=>a r (Il _ hr)⟩,d,hd,λr hr=>a r (Ig _ hr)⟩
 | .ei s t,h=>by
  obtain⟨h1,h2⟩:=IB.mp h;show (s.sx x\/t.sx x)↔_;rw[HR.kr_sx h1,HR.kr_sx h2]
  constructor
  ·rintro(⟨c,hc,a⟩ | ⟨c,hc,a⟩)
   ·exact⟨c,Il _ hc,a⟩
   ·exact⟨c,Ig _ hc,a⟩
  ·rintro⟨c,hc,a⟩
   rcases Ip.mp hc with hc | hc
   ·exact .inl ⟨c,hc,a⟩
   ·exact .inr ⟨c,hc,a⟩
theorem HR.tv_sx:∀ {s:HR},(∀n∈s.nms,0<pB ks ps n)->(s.tv (pT ks ps) 'w'=true↔s.sx (Hx ks ps))
 | .row k ts b,h=>Ax λt ht=>h _ (HW.mpr ⟨t,ht,rfl⟩)
 | .nt s,h=>by show (!s.tv _ _)=true↔¬ s.sx _;rw[<- HR.tv_sx (s:=s) h];simp
 | .bo s t,h=>by show (s.tv _ _&&t.tv _ _)=true↔_;rw[IB,HR.tv_sx (s:=s) λn hn=>h n (Il _ hn),HR.tv_sx (s:=t) λn hn=>h n (Ig _ hn)];rfl
 | .ei s t,h=>by show (s.tv _ _||t.tv _ _)=true↔_;rw[Bool.or_eq_true_iff,HR.tv_sx (s:=s) λn hn=>h n (Il _ hn),HR.tv_sx (s:=t) λn hn=>h n (Ig _ hn)];rfl
theorem zQ{x:Str->Rat}:∀ {l:List (Rw×Int)},(∀p∈l,HJ x p.1/\0<=p.2)->0<=evl x l/\(Hw l=true->0<evl x l)
 | [],_=>⟨by show (0:Rat)<=0;grind,λh=>by cases h⟩
 | (⟨k,ts,b⟩,c)::r,h=>by
  obtain⟨i1,i2⟩:=zQ (x:=x) (l:=r) λq hq=>h q (HV _ hq);obtain⟨h1,h2⟩:=h _ (HY ..);have h2:(0:Rat)<=((c:Int):Rat):=Rat.intCast_nonneg.mpr h2;have e:evl x ((⟨k,ts,b⟩,c)::r)=((c:Int):Rat)*(du x ts-((b:Int):Rat))+evl x r:=rfl;have s:Hw ((⟨k,ts,b⟩,c)::r)=((isM k&&decide (0<c))||Hw r):=by rw[<- wv (p:=(⟨k,ts,b⟩,c)),<- vn];rfl
  have ge:((b:Int):Rat)<=du x ts:=by
   cases k with
   | least=>exact h1
   | more=>exact Rat.le_of_lt h1
  have m1:0<=((c:Int):Rat)*(du x ts-((b:Int):Rat)):=IW h2 (by grind)
  rw[e,s];refine⟨by grind,λhs=>?_⟩
  rcases Bool.or_eq_true_iff.mp hs with z | z
  ·obtain⟨z1,z2⟩:=IB.mp z;have c0:=kg (IR z2)
   cases k with
   | least=>cases z1
   | more =>
    have h1:((b:Int):Rat)<du x ts:=h1
    have:=Jx c0 (show 0<du x ts-((b:Int):Rat) by grind)
    grind
  ·have:=i2 z
   grind
def oh:D->Bool
 | .tup [.str w,_]=>decide (w="point")
 | _=>false
def CG:D->D
 | .tup [_,d]=>d
 | d=>d
def prs(A B:List (List Rw)):List (List Rw):=A.flatMap λc=>B.map λd=>c++d
def bth(nm:Zb)(A B:List (List Rw)):D:=match (prs A B).find? (λrows=>oh (HI nm rows nm)) with
 | some rows=>HI nm rows nm
 | none=>.tup [.str "paper",.tup (A.map λc=>.tup (B.map λd=>CG (HI nm (c++d) nm)))]
structure Two(a b:HR)(nm:Zb)(B N:Nat):Prop where
 da:a.dep<=50
 db:b.dep<=50
 oa:a.ok nm
 ob:b.ok nm
 ta:a.bt B
 tb:b.bt B
 na:(a.pl false).num<=4/\(a.pl false).long<=3
 nb:(b.pl false).num<=4/\(b.pl false).long<=3
 pw:nm.Pairwise leS
 nd:nm.Nodup
 mem:∀n,n∈nm↔n∈a.nms\/n∈b.nms
 len:nm.length<=N
 n4:N<=4
 wN:wb B 6 (N+1)<=7990
 fq:rl (cb B 6) nm.length 1 1 0=true\/∀x,¬ (a.sx x/\b.sx x)
theorem yf(pw:nm.Pairwise leS)(nd:nm.Nodup)(h:mB nm ts):fL (cf ts) ts:=by
 have n1:=nd.sublist h.sub
 exact⟨pw.sublist h.sub,n1,λt ht=>⟨(mH n1 ht).symm,h.nz t ht⟩,λn hn=>Ic λz=>hn (kc z)⟩
theorem Two.row{a b:HR}{B N:Nat}(T:Two a b nm B N)(hc:c∈(a.pl false).kr)(hd:d∈(b.pl false).kr):∀r∈c++d,mB nm r.2.1/\(∀t∈r.2.1,ib t.2<=B)/\ib r.2.2<=B:=λr hr=>by
 rcases Ip.mp hr with hr | hr
 ·obtain⟨h1,h2,h3,_⟩:=HR.kr_row (HR.pl_ok T.oa) (HR.pl_bt T.ta) c hc r hr;exact⟨h1,h2,h3⟩
 ·obtain⟨h1,h2,h3,_⟩:=HR.kr_row (HR.pl_ok T.ob) (HR.pl_bt T.tb) d hd r hr;exact⟨h1,h2,h3⟩
theorem Two.lens{a b:HR}{B N:Nat}(T:Two a b nm B N)(hc:c∈(a.pl false).kr)(hd:d∈(b.pl false).kr):c.length<=3/\d.length<=3:=by
 have h1:=HR.kr_long HR.pl_pn hc
 have h2:=HR.kr_long HR.pl_pn hd
 have:=T.na.2
 have:=T.nb.2
 exact⟨by omega,by omega⟩
theorem Two.fit{a b:HR}{B N:Nat}(T:Two a b nm B N)(hc:c∈(a.pl false).kr)(hd:d∈(b.pl false).kr):Fit nm (c++d) B N/\(rl (cb B 6) nm.length 1 1 0=true\/None (c++d)):=by
 have hr:=T.row hc hd
 obtain⟨l1,l2⟩:=T.lens hc hd;have:=T.len;have:=T.n4;refine⟨⟨⟨T.pw,T.nd,λr h=>yf T.pw T.nd (hr r h).1,λr h t ht=>(hr r h).1.sub.subset (HW.mpr ⟨t,ht,rfl⟩)⟩,⟨λr h=>(hr r h).2.1,λr h=>(hr r h).2.2⟩,by rw[Ij];omega,by omega,T.n4,T.wN⟩,?_⟩
 rcases T.fq with h | h
 ·exact .inl h
 ·refine .inr λx=>Ic λz=>h x ?_;have all:∀r∈c++d,HJ x r:=λr hr=>Ic λy=>z ⟨r,hr,y⟩;have e1:(a.pl false).sx x:=(HR.kr_sx HR.pl_pn).mpr ⟨c,hc,λr hr=>all r (Il _ hr)⟩;have e2:(b.pl false).sx x:=(HR.kr_sx HR.pl_pn).mpr ⟨d,hd,λr hr=>all r (Ig _ hr)⟩;rw[HR.pl_sx] at e1 e2;exact⟨by simpa using e1,by simpa using e2⟩
theorem ox{r:List Rw}:r∈prs A B↔∃c∈A,∃d∈B,r=c++d:=by
 unfold prs;rw[JO]
 constructor
 ·rintro⟨c,hc,h⟩;obtain⟨d,hd,rfl⟩:=HW.mp h;exact⟨c,hc,d,hd,rfl⟩
 ·rintro⟨c,hc,d,hd,rfl⟩;exact⟨c,hc,HW.mpr ⟨d,hd,rfl⟩⟩
theorem yz{i j:Nat}(hc:A[i]?=some c)(hd:B[j]?=some d)(h1:∀c∈A.take i,∀d∈B,oh (HI nm (c++d) nm)=false)(h2:∀d∈B.take j,oh (HI nm (c++d) nm)=false)(hp:oh (HI nm (c++d) nm)=true):bth nm A B=HI nm (c++d) nm:=by
 have e:(prs A B).find? (λrows=>oh (HI nm rows nm))=some (c++d):=by
  have e1:prs A B=prs (A.take i) B++((B.map λd=>c++d)++prs (A.drop (i+1)) B):=by
   obtain⟨hi,e2⟩:=List.getElem?_eq_some_iff.mp hc
   conv=>lhs;rw[<- JP i A,JQ hi,e2]
   unfold prs;rw[Km,List.flatMap_cons]
  have n1:(prs (A.take i) B).find? (λrows=>oh (HI nm rows nm))=none:=List.find?_eq_none.mpr λr hr=>by
   obtain⟨c',ab,d',aa,rfl⟩:=ox.mp hr;rw[h1 c' ab d' aa];decide
  have n2:(B.map λd=>c++d).find? (λrows=>oh (HI nm rows nm))=some (c++d):=kd (i:=j) (by rw[List.getElem?_map,hd];rfl) (λy hy=>by
   rw[<- List.map_take] at hy;obtain⟨d',aa,rfl⟩:=HW.mp hy
   exact h2 d' aa) hp
  rw[e1,List.find?_append,n1,List.find?_append,n2];rfl
 unfold bth;rw[e]
theorem yc(h1:∀c∈A,∀d∈B,oh (HI nm (c++d) nm)=false):bth nm A B=.tup [.str "paper",.tup (A.map λc=>.tup (B.map λd=>CG (HI nm (c++d) nm)))]:=by
 have e:(prs A B).find? (λrows=>oh (HI nm rows nm))=none:=List.find?_eq_none.mpr λr hr=>by
  obtain⟨c',aa,d',ab,rfl⟩:=ox.mp hr;rw[h1 c' aa d' ab];decide
 unfold bth;rw[e]
theorem qP{K:List (List Rw)}{i:Nat}{d:D}(h:(K.map λc=>D.lst (c.map Hk))[i]?=some d):∃c,K[i]?=some c/\d=.lst (c.map Hk):=by
 rw[List.getElem?_map] at h
 cases e:K[i]? with
 | none=>rw[e] at h;cases h
 | some n=>rw[e] at h;exact⟨n,rfl,(Iq h).symm⟩
theorem y9:(∃w:Ze,HI nm rows ns=.tup [.str "weights",.tup (w.map D.int)])\/∃ps:Za,HI nm rows ns=.tup [.str "point",.dct ns (ps.map HM)]:=by
 unfold HI
 cases (Hi rows ns).find? (λw=>!so0 'f') with
 | some w=>exact .inl ⟨w,rfl⟩
 | none=>exact .inr ⟨_,rfl⟩
inductive nc(ds:Zh)(R:D->Prop):Prop
 | mk (a b:HR) (nm:Zb) (B N:Nat) (hh:ds=[a.D,b.D]/\Two a b nm B N/\R (bth nm (a.pl false).kr (b.pl false).kr))
theorem ly:∀ds R,nc ds R->ds.length=2:=λ_ _ ⟨_,_,_,_,_,e,_⟩=>by rw[e];rfl
theorem bA:ax ["one","other","firsts","seconds","names","paper","first","line","second","answer"] ["one","other"] (aq s_both_so):=by walk_at "sc"
theorem oV(Z:Zz):Z.C 66 "both_so" ["one","other"] (HN Z.K nc):=by
 refine cy Z.x33 bA ly λfa cdv A outer s H E ds R hr h=>?_;have hU:=hr.units;refine⟨_,(ad (aA 2 bA.nd (au (fR Z) (rm hr) rfl (ac (am 0) ae))) (ad (aA 3 bA.nd (au (fR Z) (rm hr) rfl (ac (am 1) ae))) (ad (aA 4 bA.nd (au (dh Z) (rm hr) rfl (ac (aI (ac aw (ac (am 0) (ac (am 1) ae)))) ae))) (ad (dz 5 bA.nd ae) (ad (bu Iv rfl (am 2) (ar 6 bA.nd) (ad (dz 7 bA.nd ae) (ad (bu Iv rfl (am 3) (ar 8 bA.nd) (ad (aA 9 bA.nd (au (tT Z) (rm hr) rfl (ac (aE aY (am 6) (am 8)) (ac (am 4) ae)))) (ad (aP (aC (dY hU) (Hg 9) aw (ay _)) (af (av (am 9))) aF) (af (a8 7 (Hg 9)))))) (af (a8 5 (jp 7 rfl Z.x56 cT)))))) (af (av (aI (ac aw (ac (jp 5 rfl Z.x56 cT) ae)))))))))),?_⟩;obtain⟨a,b,nm,B,N0,rfl,T,q⟩:=h;have n4:=T.n4;have nl:=T.len;refine ak λK1 hK1=>?_;walk_at "";refine⟨a,nm,rfl,by have:=T.da;omega,T.oa,by omega,T.na.1,T.na.2,?_⟩;walk_at "";rw[qt,hK1];refine ak λK2 hK2=>?_;walk_at "";refine⟨b,nm,rfl,by have:=T.db;omega,T.ob,by omega,T.nb.1,T.nb.2,?_⟩;walk_at "";rw[qt,hK2];refine ak λK3 hK3=>?_;walk_at "";refine⟨nm,.bo a b,rfl,by have:=T.da;have:=T.db;show max _ _+1<=60;omega,⟨T.oa,T.ob⟩,by omega,λss nds hms hs=>?_⟩;have es:=r6 hs nds T.pw T.nd λn=>by rw[hms n,T.mem n];exact Ip
 subst es;walk_at "";rw[hK3];refine ak λK4 hK4=>?_;walk_at "";intro pa;rw[hK4];have na:=T.na;have nb:=T.nb;have kA:(a.pl false).kr.length<=4:=by rw[HR.kr_num HR.pl_pn];omega
 have kB:(b.pl false).kr.length<=4:=by rw[HR.kr_num HR.pl_pn];omega
 have fit:=λ{c d} hc hd=>T.fit (c:=c) (d:=d) hc hd
 have lens:=λ{c d} hc hd=>T.lens (c:=c) (d:=d) hc hd
 generalize (a.pl false).kr=A at *
 generalize (b.pl false).kr=Bk at *
 refine ak λK5 hK5=>?_;refine bO λF N hF hN=>?_;unfold krD;walk_at "";simp only[ef];walk_at "";refine⟨λi δ=>∃x y z u,δ=[.dat a.D,.dat b.D,.dat (.lst (A.map λc=>.lst (c.map Hk))),.dat (.lst (Bk.map λc=>.lst (c.map Hk))),.dat (.lst (ss.map D.str)),.own pa (.lst ((A.take i).map λc=>.tup (Bk.map λd=>CG (HI ss (c++d) ss)))),x,y,z,u]/\∀c∈A.take i,∀d∈Bk,oh (HI ss (c++d) ss)=false,⟨_,_,_,_,rfl,λc hc=>by simp at hc⟩,?_,?_⟩
 ·rintro i d δ hd ⟨x,y,z,u,rfl,no⟩;obtain⟨c,hc,rfl⟩:=qP hd;have ab:=Im hc;have ah:=(List.getElem?_eq_some_iff.mp hc).1;rw[hF];show dD _ _ _ _;refine cj λK6 hK6=>?_;walk_at "";intro la;rw[hK6];refine ak λK7 hK7=>?_;refine bO λF2 N2 hF2 hN2=>?_;walk_at "";simp only[ef];walk_at "";refine⟨λj δ=>∃z u,δ=[.dat a.D,.dat b.D,.dat (.lst (A.map λc=>.lst (c.map Hk))),.dat (.lst (Bk.map λc=>.lst (c.map Hk))),.dat (.lst (ss.map D.str)),.own pa (.lst ((A.take i).map λc=>.tup (Bk.map λd=>CG (HI ss (c++d) ss)))),.dat (.lst (c.map Hk)),.own la (.lst ((Bk.take j).map λd=>CG (HI ss (c++d) ss))),z,u]/\∀d∈Bk.take j,oh (HI ss (c++d) ss)=false,⟨_,_,rfl,λc hc=>by simp at hc⟩,?_,?_⟩
  ·rintro j e δ he ⟨z,u,rfl,no2⟩;obtain⟨d,hd,rfl⟩:=qP he;have aa:=Im hd;have ag:=(List.getElem?_eq_some_iff.mp hd).1;obtain⟨l1,l2⟩:=lens ab aa;obtain⟨ft,fq⟩:=fit ab aa;rw[hF2];show dD _ _ _ _;refine cj λK8 hK8=>?_;walk_at "";rw[<- IA];refine⟨by simp only[List.length_map];omega,ss,c++d,B,N0,ss,rfl,ft,nl,T.nd,λ_ h=>h,fq,?_⟩;rw[hK8];have pf:=λhp=>yz (nm:=ss) hc hd no no2 hp
   rcases y9 (nm:=ss) (rows:=c++d) (ns:=ss) with⟨w,ew⟩ | ⟨ps,ep⟩
   ·have n1:oh (HI ss (c++d) ss)=false:=by rw[ew];show decide (("weights":Str)="point")=false;decide
    have e1:(Bk.take (j+1)).map (λd=>CG (HI ss (c++d) ss))=(Bk.take j).map (λd=>CG (HI ss (c++d) ss))++[.tup (w.map D.int)]:=by
     rw[aD hd,IA,List.map_singleton,ew];rfl
    simp only[e1];rw[ew];walk_at "";refine Hz 'd' ⟨by rw[HS,IH];omega,λd' hd'=>?_⟩;rw[aD hd] at hd'
    rcases Ip.mp hd' with z | z
    ·exact no2 d' z
    ·rw[Ii.mp z];exact n1
   ·have p1:oh (HI ss (c++d) ss)=true:=by rw[ep];rfl
    rw[pf p1] at q;rw[ep] at q ⊢;walk_at "";exact q
  ·rintro δ ⟨z,u,rfl,no2⟩;rw[HS,ID] at no2 ⊢;rw[hN2,hK7];walk_at "";refine⟨by rw[HS,IH];omega,by rw[aD hc,IA];rfl,λc' hc' d' hd'=>?_⟩;rw[aD hc] at hc'
   rcases Ip.mp hc' with z | z
   ·exact no c' z d' hd'
   ·rw[Ii.mp z];exact no2 d' hd'
 ·rintro δ ⟨x,y,z,u,rfl,no⟩;rw[HS,ID] at no ⊢;rw[yc no] at q;rw[hN,hK5];walk_at "";exact q
def join(f:HR->HR->HR):List HR->HR
 | []=>.row .least [] 0
 | s::l=>l.foldl f s
theorem u8:∀(l:List HR) (s:HR),(l.foldl HR.bo s).sx x↔s.sx x/\∀t∈l,t.sx x
 | [],s=>by simp
 | t::l,s=>by
  show (l.foldl HR.bo (.bo s t)).sx x↔_
  rw[u8 l (.bo s t)];show ((s.sx x/\t.sx x)/\_)↔_;simp only[List.mem_cons,forall_eq_or_imp,and_assoc]
theorem wQ:∀(l:List HR) (s:HR),(l.foldl HR.ei s).sx x↔s.sx x\/∃t∈l,t.sx x
 | [],s=>by simp
 | t::l,s=>by
  show (l.foldl HR.ei (.ei s t)).sx x↔_
  rw[wQ l (.ei s t)];show ((s.sx x\/t.sx x)\/_)↔_;simp only[List.mem_cons,exists_eq_or_imp,or_assoc]
theorem uk{l:List HR}(h:l≠[]):(join .bo l).sx x↔∀t∈l,t.sx x:=by
 cases l with
 | nil=>exact absurd rfl h
 | cons s l=>show (l.foldl HR.bo s).sx x↔_;rw[u8];simp only[List.mem_cons,forall_eq_or_imp]
theorem CF{l:List HR}(h:l≠[]):(join .ei l).sx x↔∃t∈l,t.sx x:=by
 cases l with
 | nil=>exact absurd rfl h
 | cons s l=>show (l.foldl HR.ei s).sx x↔_;rw[wQ];simp only[List.mem_cons,exists_eq_or_imp]
inductive mz(ds:Zh)(R:D->Prop):Prop
 | mk (k:Bool) (l:List HR) (hh:ds=[.str (if k=true then "both" else "either"),.lst (l.map HR.D)]/\l≠[]/\R (join (if k=true then .bo else .ei) l).D)
theorem mX:∀ds R,mz ds R->ds.length=2:=λ_ _ ⟨_,_,e,_⟩=>by rw[e];rfl
theorem f6:ax ["word","sayings","told","saying"] ["word","sayings"] (aq s_joined):=by walk_at "sc"
theorem kS(Z:Zz):Z.C 1 "joined" ["word","sayings"] (HN Z.K mz):=by
 refine cy Z.x34 f6 mX λfa cdv A outer s H E ds R hr h=>?_;have hU:=hr.units;refine⟨_,(ad (aA 2 f6.nd (Hg 1)) (ad (bu Iv rfl (fZ (am 1) (cU ap) fG) (ar 3 f6.nd) (af (aA 2 f6.nd (aI (ac (am 0) (ac (am 2) (ac (am 3) ae))))))) (af (av (am 2))))),?_⟩;obtain⟨k,l,rfl,hl,q⟩:=h
 match l,hl with
 | s::l,_=>?_
 refine ak λK1 hK1=>?_;walk_at "";rw[hK1];refine ak λK2 hK2=>?_;refine bO λF N hF hN=>?_;walk_at "";simp only[ef];walk_at "";rw[i9];refine⟨λi δ=>∃x,δ=[.dat (.str (if k=true then "both" else "either")),.dat (.lst (s.D::l.map HR.D)),.dat ((l.take i).foldl (if k=true then HR.bo else HR.ei) s).D,x],⟨_,rfl⟩,?_,?_⟩
 ·rintro i d δ hd ⟨x,rfl⟩;rw[List.getElem?_map] at hd
  cases hn:l[i]? with
  | none=>rw[hn] at hd;cases hd
  | some t =>
   rw[hn] at hd
   cases hd
   rw[hF];walk_at "";rw[aD hn,KF]
   cases k<;>rfl
 ·rintro δ ⟨x,rfl⟩;rw[HS,ID,hN,hK2];walk_at "";exact q
theorem vQ:∀ {a b:Za},a.map HM=b.map HM->a=b
 | [],[],_=>rfl
 | [],_::_,h=>nomatch h
 | _::_,[],h=>nomatch h
 | (x,y)::a,(u,v)::b,h=>by
  rw[Iy,Iy] at h;obtain⟨h1,h2⟩:=List.cons.inj h
  injection h1 with h1
  injection h1 with h3 h4
  injection h4 with h4 _
  injection h3 with h3
  injection h4 with h4
  have h3:x=u:=h3
  have h4:y=v:=h4
  rw[h3,h4,vQ h2]
theorem FQ{a b:HR}{B N:Nat}(T:Two a b nm B N)(fq:rl (cb B 6) nm.length 1 1 0=true)(ep:bth nm (a.pl false).kr (b.pl false).kr=.tup [.str "point",.dct nm (ps.map HM)]) :
  ∃L:Int,L≠0/\(∀n∈nm,pB nm ps n ∣ L)/\ib L<=(fE (cb B 6) nm.length (1,1,0)).2.1/\Pt nm ps (fE (cb B 6) nm.length (1,1,0)).2.2:=by
 unfold bth at ep
 cases e:(prs (a.pl false).kr (b.pl false).kr).find? (λrows=>oh (HI nm rows nm)) with
 | none =>
  rw[e] at ep
  injection ep with ep
  injection ep with ep
  injection ep with ep
  exact absurd ep 'd'
 | some rows =>
  rw[e] at ep;have ep:HI nm rows nm=_:=ep;obtain⟨c,hc,d,hd,rfl⟩:=ox.mp (List.mem_of_find?_eq_some e);have F:=(T.fit hc hd).1;unfold HI at ep
  cases e2:(Hi (c++d) nm).find? (λw=>!so0 ((c++d).zip w)) with
  | some w =>
   rw[e2] at ep
   injection ep with ep
   injection ep with ep
   injection ep with ep
   exact absurd ep 'd'
  | none =>
   rw[e2] at ep
   injection ep with ep
   injection ep with _ ep
   injection ep with ep _
   injection ep with _ ep
   have ep:=vQ ep
   have all:∀w∈Hi (c++d) nm,so0 ((c++d).zip w)=true:=λw hw=>by simpa using List.find?_eq_none.mp e2 w hw
   have n4:=T.n4
   have nl:=T.len
   obtain⟨L,S⟩:=wm F nm [] [] 1 1 0 1 (St.start F T.nd (λ_ h=>h) (.inl fq) λw hw=>(E9 (λ_ h=>h) hw _).mp (all w hw)) (by simpa using T.nd) (by simp;omega) λn hn=>.inr hn;rw[List.nil_append,ep] at S;exact⟨L,S.L0,S.hL,S.hg,S.P⟩
theorem qo(q:Str->Prop)[DecidablePred q]:∀l:Zb,(l.map D.str).filterMap (λd=>match d with | .str n=>if q n then some (.str n) else none | _=>none)=(l.filter λn=>decide (q n)).map D.str
 | []=>rfl
 | n::l=>by simp only[List.map_cons,List.filterMap_cons,List.filter_cons,qo q l];by_cases h:q n<;>simp[h]
theorem Fit.left{B N:Nat}(F:Fit nm (c++d) B N):Fit nm c B N :=
 ⟨⟨F.H.pw,F.H.nd,λr hr=>F.H.sum r (Il _ hr),λr hr=>F.H.sub r (Il _ hr)⟩,⟨λr hr=>F.hB.tm r (Il _ hr),λr hr=>F.hB.bd r (Il _ hr)⟩,by have:=F.m6;rw[Ij] at this;omega,F.n6,F.n4,F.wN⟩
theorem cnt4:∀k,cnt 4 k=4
 | 0=>rfl
 | k+1=>by show cnt 4 k*cnt 4 k / 4=4;rw[cnt4 k]
theorem vU(h:c.length<=3)(ns:Zb):(Hi c ns).length<=4:=by have:=(pG (c:=4) (Nat.le_succ_of_le h) 'd' ns).1;rwa [cnt4] at this
def shR(nm ns:Zb)(c:List Rw):List Rw:=if Hi c ns=[] then [(.least,[],0)] else (Hi c ns).map (HG nm c)
def shC(nm ns:Zb)(c:List Rw):HR:=join .bo ((shR nm ns c).map iK)
def shS(nm ns:Zb)(A:List (List Rw)):HR:=join .ei (A.map (shC nm ns))
def out(nm kp:Zb):Zb:=nm.filter λn=>decide (n∉kp)
inductive lu(ds:Zh)(R:D->Prop):Prop
 | mk (a:HR) (nm kp:Zb) (B N:Nat) (hh:ds=[a.D,.lst (kp.map D.str)]/\Two a a nm B N/\kp.length<=60/\R (shS nm (out nm kp) (a.pl false).kr).D)
theorem mI:∀ds R,lu ds R->ds.length=2:=λ_ _ ⟨_,_,_,_,_,e,_⟩=>by rw[e];rfl
theorem eE:ax ["saying","names","told","others","case","rows"] ["saying","names"] (aq s_shadow):=by walk_at "sc"
theorem kU(Z:Zz):Z.C 65 "shadow" ["saying","names"] (HN Z.K lu):=by
 refine cy Z.x35 eE mI λfa cdv A outer s H E ds R hr h=>?_;have hU:=hr.units;refine⟨_,(ad (dz 2 eE.nd ae) (ad (dJ 3 eE.nd ["name"] [(1,"names")] rfl rfl 'g' rfl 'g' (ba ⟨rfl,trivial⟩) (λ_=>be rfl) (aN ⟨⟨rfl,rfl,.inl rfl⟩,trivial⟩) (dg (au (dh Z) (rm hr) rfl (ac (am 0) ae))) λ_ _ _ _ _=>⟨(ar 0 (show List.Nodup (["name","names"]:Zb) by decide +kernel)),(ff (aC (lC hU) (am 0) (am 1) rfl)),(am 0)⟩) (ad (bu Iv rfl (au (fR Z) (rm hr) rfl (ac (am 0) ae)) (ar 4 eE.nd) (ad (dJ 5 eE.nd ["row","weights"] [] rfl rfl 'g' rfl 'g' (ba trivial) (λ_=>be rfl) (aN trivial) (dg (gq gl (au (dO Z) (rm hr) rfl (ac (am 4) (ac (am 3) ae))) ap (λ_ _=>rfl))) λ_ _ _ _ _=>⟨(bJ (n:=2) rfl (aB (ar 0 (show List.Nodup (["row","weights"]:Zb) by decide +kernel)) (aB (ar 1 (show List.Nodup (["row","weights"]:Zb) by decide +kernel)) aW))),cD,(am 0)⟩) (af (a8 2 (au (kS Z) (rm hr) rfl (ac aw (ac (ti (aC (GF hU) (am 5) (a6 ae) (ay _)) (am 5) (a6 (ac (Ai rfl Z.g_ALWAYS_SO) ae))) ae))))))) (bB 2 (af (av (au (kS Z) (rm hr) rfl (ac aw (ac (am 2) ae))))))))),?_⟩;obtain⟨a,nm,kp,B,N0,rfl,T,hk,q⟩:=h;have nl:=T.len;have n4:=T.n4;refine ak λK1 hK1=>?_;walk_at "";intro ta;rw[hK1];refine ak λK2 hK2=>?_;walk_at "";refine⟨nm,a,rfl,by have:=T.da;omega,T.oa,by omega,λss nds hms hs=>?_⟩;have es:=r6 hs nds T.pw T.nd λn=>by rw[hms n,T.mem n,or_self]
 subst es;walk_at "";refine⟨by rw[HS];omega,λd=>match d with | .str n=>if n∉kp then some (.str n) else none | _=>none,λx hx=>?_,?_⟩
 ·obtain⟨n,hn,rfl⟩:=HW.mp hx;walk_at "";exact⟨kp,rfl,eQ (λz=>Ir z) λz=>Io z⟩
 rw[qo];show K2 [.dat a.D,.dat (.lst (kp.map D.str)),.own ta (.lst []),.dat (.lst ((out ss kp).map D.str)),.no,.no];rw[hK2];have ol:(out ss kp).length<=N0:=HX (IK ..) nl;have kA:(a.pl false).kr.length<=4:=by rw[HR.kr_num HR.pl_pn];exact T.na.1
 have fit:=λ{c} hc=>(T.fit (c:=c) (d:=c) hc hc).1.left
 have l3:∀c∈(a.pl false).kr,c.length<=3:=λc hc=>(T.lens hc hc).1
 have nA:(a.pl false).kr≠[]:=λz=>by have:=HR.kr_num (s:=a.pl false) HR.pl_pn;rw[z] at this;have:=(a.pl false).num_pos;simp at *;omega
 refine ak λK3 hK3=>?_;refine bO λF N hF hN=>?_;walk_at "";refine⟨a,ss,rfl,by have:=T.da;omega,T.oa,by omega,T.na.1,T.na.2,?_⟩;rw[qt];generalize (a.pl false).kr=A at *;unfold krD;walk_at "";refine⟨λi δ=>∃x y,δ=[.dat a.D,.dat (.lst (kp.map D.str)),.own ta (.lst ((A.take i).map λc=>(shC ss (out ss kp) c).D)),.dat (.lst ((out ss kp).map D.str)),x,y],⟨_,_,rfl⟩,?_,?_⟩
 ·rintro i d δ hd ⟨x,y,rfl⟩;obtain⟨c,hc,rfl⟩:=qP hd;have ab:=Im hc;have ag:=(List.getElem?_eq_some_iff.mp hc).1;rw[hF];show dD _ _ _ _;refine cj λK4 hK4=>?_;walk_at "";refine⟨ss,c,B,N0,_,rfl,fit ab,ol,?_⟩;have e0:(og c (out ss kp)).map (jE ss c)=jE ss c (Hi c (out ss kp))::((og c (out ss kp)).drop 1).map (jE ss c):=by
   cases out ss kp<;>rfl
  rw[e0];walk_at "";have sl:=vU (l3 c ab) (out ss kp);unfold jE;walk_at "";refine⟨by rw[HS];omega,λd=>match d with | .tup (x::_)=>some x | _=>none,λx hx=>?_,?_⟩
  ·obtain⟨w,hw,rfl⟩:=HW.mp hx;rfl
  rw[aK _ (smD ss c) (λw=>Hk (HG ss c w)) _ (by intro _ _;rfl),hK4];walk_at "";rw[HS];have go:∀ {l:Zh} {K:D->Prop},l=(shR ss (out ss kp) c).map Hk->shR ss (out ss kp) c≠[]->K (shC ss (out ss kp) c).D->mz [.str "both",.lst l] K:=λe h k=>⟨true,(shR ss (out ss kp) c).map iK,by rw[e,IU];rfl,by simpa using h,k⟩;have aa:((A.take i).map λc=>(shC ss (out ss kp) c).D).length<9000/\(A.take i).map (λc=>(shC ss (out ss kp) c).D)++[(shC ss (out ss kp) c).D]=(A.take (i+1)).map λc=>(shC ss (out ss kp) c).D:=⟨by rw[HS,IH];omega,by rw[aD hc,IA];rfl⟩;refine eQ (λz=>?_) λz=>?_
  ·have e:shR ss (out ss kp) c=(Hi c (out ss kp)).map (HG ss c):=Io λy=>z (by rw[y];rfl)
   refine go (by rw[e,IU];rfl) (by rw[e];intro y;exact z (by rw[List.map_eq_nil_iff.mp y];rfl)) ?_;walk_at "";exact aa
  ·have e:shR ss (out ss kp) c=[(.least,[],0)]:=Ir (JB (JV.mp z))
   refine go (by rw[e];rfl) (by rw[e];exact JZ _ _) ?_;walk_at "";exact aa
 ·rintro δ ⟨x,y,rfl⟩;rw[HS,ID,hN,hK3];walk_at "";exact⟨false,A.map (shC ss (out ss kp)),by rw[IU];rfl,by simpa using nA,q⟩
def HE(nm kp:Zb):Zb:=nm.filter λn=>decide (n∈kp)
def knw(pk:Zb)(pv:Za)(ks:Zb):Za:=ks.map λn=>(pT pk pv n,pB pk pv n)
def flC(nm ns ks:Zb)(ps:Za)(c:List Rw):Bool:=(Hi c ns).all λw=>(iK (HG nm c w)).tv (pT ks ps) 'w'
def fil(nm ns ks:Zb)(ps:Za)(A:List (List Rw)):D:=match A.find? (flC nm ns ks ps) with
 | some c=>.dct (ks++ns) ((fbk nm c ns ks ps).map HM)
 | none=>.non
structure Kn(B k:Nat)(ks:Zb)(ps:Za)(κ g T:Nat)(L:Int):Prop where
 P:Pt ks ps T
 hκ:ib (Hl 'w' ks)<=κ
 L0:L≠0
 hL:∀n∈ks,pB ks ps n ∣ L
 hg:ib L<=g
 fq:rl (cb B 6) k κ g T=true
theorem uP{c:Nat->Nat}{κ g T:Nat}:∀ {k:Nat},rl c k κ g T=true->κ<=7990/\T<=1000000
 | 0,h=>by
  have h:(decide (κ<=7990)&&decide (T<=1000000))=true:=h
  simpa using h
 | k+1,h=>by
  have h:=(IB.mp h).1
  obtain⟨h1,h2⟩:=IB.mp h;have h3:=IR (IB.mp h1).2;have h4:=IR (IB.mp h2).2;exact⟨by omega,by omega⟩
theorem tD{B N:Nat}{w:Ze}(F:Fit nm rows B N)(h:ns.length<=N)(hw:w∈Hi rows ns):(iK (HG nm rows w)).ok nm/\∀x∈(iK (HG nm rows w)).nms,x∈nm/\x∉ns:=by
 have wb:=dm F.H F.hB hw
 have ck:=F.ck h
 unfold cb at ck;have ez:(smT nm (cfs 'f')).map (·.1)=nm.filter λn=>decide (cfs 'f' n≠0):=by unfold smT;rw[IU];exact List.map_id _
 refine⟨⟨⟨?_,λt ht=>?_,λt ht=>?_⟩,?_⟩,λx hx=>?_⟩
 ·show ((smT nm (cfs 'f')).map (·.1)).Sublist nm
  rw[ez];exact Kl
 ·obtain⟨n,hn,rfl⟩:=HW.mp ht;exact IR (Ia.mp hn).2
 ·obtain⟨n,hn,rfl⟩:=HW.mp ht;have:=F.H.cfb F.hB wb n;show ib (cfs 'f' n)<=10000;omega
 ·have:=Rws.bdb F.hB wb
  show ib (bds 'f')<=10000
  omega
 ·have hx:x∈(smT nm (cfs 'f')).map (·.1):=hx
  rw[ez] at hx;obtain⟨h1,h2⟩:=Ia.mp hx;exact⟨h1,λz=>IR h2 ((ca hw).2 x z)⟩
def unI:D->Int
 | .int z=>z
 | _=>0
theorem v9(w:Ze):(w.map D.int).map unI=w:=by rw[IU];exact List.map_id _
inductive rc(ds:Zh)(R:D->Prop):Prop
 | mk (a:HR) (nm kp pk:Zb) (pv:Za) (B N T0 κ g T:Nat) (L:Int) (hh:ds=[a.D,.lst (kp.map D.str),.fd pk (pv.map HM)]/\Two a a nm B N/\kp.length<=60/\Pt pk pv T0/\(∀n∈nm,n∈kp->n∈pk)/\Kn B (out nm kp).length (HE nm kp) (knw pk pv (HE nm kp)) κ g T L/\R (fil nm (out nm kp) (HE nm kp) (knw pk pv (HE nm kp)) (a.pl false).kr))
theorem nU:∀ds R,rc ds R->ds.length=3:=λ_ _ ⟨_,_,_,_,_,_,_,_,_,_,_,_,e,_⟩=>by rw[e];rfl
theorem cM:ax ["saying","names","point","told","others","known","name","case","steps"] ["saying","names","point"] (aq s_filled):=by walk_at "sc"
theorem tP(Z:Zz):Z.C 65 "filled" ["saying","names","point"] (HN Z.K rc):=by
 refine cy Z.x36 cM nU λfa cdv A outer s H E ds R hr h=>?_;have hU:=hr.units;refine⟨_,(ad (aA 3 cM.nd (au (fR Z) (rm hr) rfl (ac (am 0) ae))) (ad (dz 4 cM.nd ae) (ad (fM 5 cM.nd) (ad (bu Iv rfl (au (dh Z) (rm hr) rfl (ac (am 0) ae)) (ar 6 cM.nd) (af (aP (aC (lC hU) (am 6) (am 1) rfl) (af (a8 4 (am 6))) (af (aP (aC (G4 hU) (am 6) (am 2) rfl) (af (eF 5 hU (cB hU (am 2) (am 6) (λ_ _=>rfl)) (am 6))) f7))))) (bB 4 (bB 5 (ad (bu Iv rfl (am 3) (ar 7 cM.nd) (ad (aA 8 cM.nd (au (dO Z) (rm hr) rfl (ac (am 7) (ac (am 4) ae)))) (af (aP (br (aL (GM rfl) rfl Z.x64 Gd (ac (bq ["row","weights"] [(5,"known")] rfl rfl 'g' rfl 'g' (ba ⟨rfl,trivial⟩) (λ_=>be rfl) (aN ⟨⟨rfl,rfl,.inl rfl⟩,trivial⟩) (dg (Hg 8)) λ_ _ _ _ _=>⟨(bJ (n:=2) rfl (aB (ar 0 (show List.Nodup (["row","weights","known"]:Zb) by decide +kernel)) (aB (ar 1 (show List.Nodup (["row","weights","known"]:Zb) by decide +kernel)) aW))),cD,(au (mJ Z) (rm hr) rfl (ac (am 0) (ac (am 2) ae)))⟩) ae))) (af (av (au (fg Z) (rm hr) rfl (ac (am 8) (ac (am 4) (ac (am 5) ae)))))) aF)))) (af (av iu))))))))),?_⟩;obtain⟨a,nm,kp,pk,pv,B,N0,T0,κ,g,T',L,rfl,T,hk,pt,ag,kn,q⟩:=h;have nl:=T.len;have n4:=T.n4;refine ak λK1 hK1=>?_;walk_at "";refine⟨a,nm,rfl,by have:=T.da;omega,T.oa,by omega,T.na.1,T.na.2,?_⟩;rw[qt];walk_at "";rw[hK1];refine ak λK2 hK2=>?_;walk_at "";intro oa;walk_at "";rw[hK2];refine ak λK3 hK3=>?_;walk_at "";intro ka;walk_at "";rw[hK3];refine ak λK4 hK4=>?_;refine bO λF N hF hN=>?_;walk_at ""
 refine⟨nm,a,rfl,by have:=T.da;omega,T.oa,by omega,λss nds hms hs=>?_⟩;have es:=r6 hs nds T.pw T.nd λn=>by rw[hms n,T.mem n,or_self]
 subst es;walk_at "";refine⟨λi δ=>∃x y z,δ=[.dat a.D,.dat (.lst (kp.map D.str)),.dat (.fd pk (pv.map HM)),.dat (krD (a.pl false).kr),.own oa (.lst ((out (ss.take i) kp).map D.str)),.own ka (.dct (HE (ss.take i) kp) ((knw pk pv (HE (ss.take i) kp)).map HM)),x,y,z],⟨_,_,_,rfl⟩,?_,?_⟩
 ·rintro i d δ hd ⟨x,y,z,rfl⟩;obtain⟨n,hn,rfl⟩:=dI hd;have ah:=Im hn;have ai:=(List.getElem?_eq_some_iff.mp hn).1;rw[hF];show dD _ _ _ _;walk_at "";refine⟨kp,rfl,eQ (λh1=>?_) λh1=>?_⟩
  ·have e1:out (ss.take (i+1)) kp=out (ss.take i) kp++[n]:=by unfold out;rw[aD hn,Jm];simp[h1]
   have e2:HE (ss.take (i+1)) kp=HE (ss.take i) kp:=by unfold HE;rw[aD hn,Jm];simp[h1]
   rw[e1,e2,IA];exact⟨by rw[HS];exact Jw (IK ..) (by rw[IH];omega),rfl,rfl,rfl⟩
  ·have h1:n∈kp:=JV.mp h1
   have hp:=ag n ah h1
   have e1:out (ss.take (i+1)) kp=out (ss.take i) kp:=by unfold out;rw[aD hn,Jm];simp[h1]
   have e2:HE (ss.take (i+1)) kp=HE (ss.take i) kp++[n]:=by unfold HE;rw[aD hn,Jm];simp[h1]
   have nn:n∉HE (ss.take i) kp:=λz=>by
    have z:=(Ia.mp z).1
    have nd:=T.nd
    rw[<- JP (i+1) ss,aD hn] at nd;exact(Jp.mp (Jp.mp nd).1).2.2 n z n (Ii.mpr rfl) rfl
   refine ifp hp ⟨_,pt.D hp,Jw (IK ..) (by rw[IH];omega),by rw[e1],by rw[e2,eP nn],?_⟩;rw[e2,eR nn];unfold knw;rw[IA,IA];rfl
 ·rintro δ ⟨x,y,z,rfl⟩;rw[HS,ID,hN,hK4];walk_at "";have ol:(out ss kp).length<=N0:=HX (IK ..) nl;have fit:=λ{c} hc=>(T.fit (c:=c) (d:=c) hc hc).1.left;have l3:∀c∈(a.pl false).kr,c.length<=3:=λc hc=>(T.lens hc hc).1;generalize (a.pl false).kr=A at *;generalize hks:HE ss kp=ks at *;generalize knw pk pv ks=ps at *;generalize hns:out ss kp=ns at *;refine bO λF2 N2 hF2 hN2=>?_;unfold krD;walk_at "";simp only[ef];walk_at "";refine⟨λi δ=>∃x y z,δ=[.dat a.D,.dat (.lst (kp.map D.str)),.dat (.fd pk (pv.map HM)),.dat (.lst (A.map λc=>.lst (c.map Hk))),.dat (.lst (ns.map D.str)),.dat (.dct ks (ps.map HM)),x,y,z]/\∀c∈A.take i,flC ss ns ks ps c=false,⟨_,_,_,rfl,λc hc=>by simp at hc⟩,?_,?_⟩
  ·rintro i d δ hd ⟨x,y,z,rfl,ho⟩;obtain⟨c,hc,rfl⟩:=qP hd;have aa:=Im hc;rw[hF2];show dD _ _ _ _;refine cj λK5 hK5=>?_;walk_at "";refine⟨ss,c,B,N0,_,rfl,fit aa,ol,?_⟩;walk_at "";rw[hK5];have e0:(og c ns).map (jE ss c)=jE ss c (Hi c ns)::((og c ns).drop 1).map (jE ss c):=by cases ns<;>rfl
   rw[e0];walk_at "";rw[<- e0];have sl:=vU (l3 c aa) ns;unfold jE;walk_at "";have nk:∀n,n∈ss->n∉ns->n∈ks:=λn h1 h2=>by rw[<- hks];exact Ia.mpr ⟨h1,IC (Ic λz=>h2 (by rw[<- hns];exact Ia.mpr ⟨h1,IC z⟩))⟩
   have fq:=uP kn.fq
   have pos:∀w∈Hi c ns,∀x∈(iK (HG ss c w)).nms,x∈ks:=λw hw x hx=>nk x ((tD (fit aa) ol hw).2 x hx).1 ((tD (fit aa) ol hw).2 x hx).2
   refine⟨by rw[HS];omega,λd=>match d with | .tup [_,.tup ws]=>some (.bl ((iK (HG ss c (ws.map unI))).tv (pT ks ps) 'w')) | _=>none,λx hx=>?_,(Hi c ns).map (λw=>(iK (HG ss c w)).tv (pT ks ps) 'w'),?_,?_⟩
   ·obtain⟨w,hw,rfl⟩:=HW.mp hx;refine⟨iK (HG ss c w),ks,ps,ss,T',κ,rfl,by show 1<=60;decide,(tD (fit aa) ol hw).1,by omega,pos w hw,kn.P,fq.2,kn.hκ,fq.1,rfl,?_⟩;show some (D.bl ((iK (HG ss c ((w.map D.int).map unI))).tv _ _))=_;rw[v9]
   ·rw[aK _ (smD ss c) (λw=>D.bl ((iK (HG ss c w)).tv (pT ks ps) 'w')) _ (by intro w _;show some (D.bl ((iK (HG ss c ((w.map D.int).map unI))).tv _ _))=_;rw[v9]),IU];rfl
   rw[List.all_map];refine eQ (λh1=>?_) λh1=>?_
   ·have e:flC ss ns ks ps c=true:=h1
    unfold fil at q;rw[kd hc ho e] at q;have kl:ks.length<=4:=by rw[<- hks];exact HX (IK ..) 'b'
    refine⟨ss,c,B,N0,ns,ks,ps,κ,g,T',L,rfl,fit aa,ol,by omega,Jp.mpr ⟨by rw[<- hks];exact T.nd.filter _,by rw[<- hns];exact T.nd.filter _,λx hx y hy z=>?_⟩,λn hn=>?_,⟨kn.P,kn.hκ,kn.L0,kn.hL,kn.hg,kn.fq,λw hw=>?_⟩,q⟩
    ·rw[<- hks] at hx;rw[<- hns,<- z] at hy;exact IR (Ia.mp hy).2 (IR (Ia.mp hx).2)
    ·exact(Classical.em (n∈ns)).elim .inr λz=>.inl (nk n hn z)
    ·have:(iK (HG ss c w)).sx (Hx ks ps):=(HR.tv_sx λn hn=>kn.P.pos (pos w hw n hn)).mp (List.all_eq_true.mp e w hw)
     exact this
   ·have e:flC ss ns ks ps c=false:=Bool.eq_false_iff.mpr h1
    intro c' ab;rw[aD hc] at ab
    rcases Ip.mp ab with z | z
    ·exact ho c' z
    ·rw[Ii.mp z];exact e
  ·rintro δ ⟨x,y,z,rfl,ho⟩;rw[HS,ID] at ho;rw[hN2];walk_at "";have e:A.find? (flC ss ns ks ps)=none:=List.find?_eq_none.mpr λc hc=>by rw[ho c hc];decide
   unfold fil at q;rw[e] at q;exact q
theorem cnz(h:j≠0):CNz i j:=h
theorem mY(h0:j≠0)(h:j.natAbs.log2<9000):CFd i j:=⟨h0,h⟩
inductive iA(ds:Zh)(R:D->Prop):Prop
 | mk (i:Int) (hh:ds=[.int i]/\R (.bl true))
theorem iF:∀ds R,iA ds R->ds.length=1:=λ_ _ ⟨_,e,_⟩=>by rw[e];rfl
theorem mf:ax ["_law_found"] ["_law_found"] (aq s__law_whole):=by walk_at "sc"
theorem cm(Z:Zz):Z.C 1 "_law_whole" ["_law_found"] (HN Z.K iA):=by
 refine cy Z.x37 mf iF λfa cdv A outer s H E ds R hr h=>?_;have hU:=hr.units;refine⟨_,(af (av (kQ (j3 Dg rfl Z.x65 rfl Z.x67 DY (am 0)) (fc (nG (j3 Bi rfl Z.x65 rfl Z.x66 Df (am 0))))))),?_⟩;obtain⟨i,rfl,q⟩:=h;walk_at "";exact q
inductive kj(ds:Zh)(R:D->Prop):Prop
 | mk (a b c d:Int) (hh:ds=[.tup [.int a,.int b],.tup [.int c,.int d]]/\IntMulOk a d/\IntMulOk c b/\R (.int (a*d-c*b)))
theorem jZ:∀ds R,kj ds R->ds.length=2:=λ_ _ ⟨_,_,_,_,e,_⟩=>by rw[e];rfl
theorem nT:ax ["_law_one","_law_other"] ["_law_one","_law_other"] (aq s__law_over):=by walk_at "sc"
theorem lY(Z:Zz):Z.C 1 "_law_over" ["_law_one","_law_other"] (HN Z.K kj):=by
 refine cy Z.x38 nT jZ λfa cdv A outer s H E ds R hr h=>?_;have hU:=hr.units;refine⟨_,(af (av (aE lQ (aE bH (Hg 0) (Hg 1)) (aE bH (Hg 1) (Hg 0))))),?_⟩;obtain⟨a,b,c,d,rfl,h1,h2,q⟩:=h;walk_at "";exact⟨h1,h2,q⟩
structure Pk(ks:Zb)(ps:Za):Prop where
 len:ps.length=ks.length
 low:∀p∈ps,0<p.2
 b1:∀p∈ps,ib p.1<=3000000
 b2:∀p∈ps,ib p.2<=3000000
 κ:ib (Hl 'w' ks)<=70000
theorem Pk.at(hp:Pk ks ps)(h:n∈ks):dAt ks ps n=some (fO ks ps n)/\fO ks ps n∈ps:=by
 have e:=de (ks:=ks) (ds:=ps) (x:=n) hp.len.symm
 rw[IC h] at e
 cases q:dAt ks ps n with
 | none=>rw[q] at e;cases e
 | some p =>
  have:fO ks ps n=p:=by unfold fO;rw[q];rfl
  rw[this];exact⟨rfl,kq q⟩
theorem Pk.D(hp:Pk ks ps)(h:n∈ks):dAt ks (ps.map HM) n=some (.tup [.int (pT ks ps n),.int (pB ks ps n)]):=by
 rw[jH,(hp.at h).1];rfl
theorem Pk.pos(hp:Pk ks ps)(h:n∈ks):0<pB ks ps n:=hp.low _ (hp.at h).2
theorem Pk.Bb(hp:Pk ks ps)(h:n∈ks):ib (pB ks ps n)<=3000000:=hp.b2 _ (hp.at h).2
theorem Pk.Tb(hp:Pk ks ps)(h:n∈ks):ib (pT ks ps n)<=3000000:=hp.b1 _ (hp.at h).2
inductive io(ds:Zh)(R:D->Prop):Prop
  | mk (ts:List (Str×Int)) (ks:Zb) (ps:Za) (hh:ds=[.tup (ts.map Hh),.fd ks (ps.map HM)]/\(ts.map (·.1)).Nodup/\ts.length<=60/\(∀t∈ts,t.1∈ks/\ib t.2<=10000)/\Pk ks ps /\
  (ib (Hl 'w' (ts.map (·.1)))<=70000->ib (cV (ov (pT ks ps) 'w' (Hl 'w' (ts.map (·.1)))) ts)<=3100000->0<Hl 'w' (ts.map (·.1)) ->
  R (.tup [.int (cV (ov (pT ks ps) 'w' (Hl 'w' (ts.map (·.1)))) ts),.int (Hl 'w' (ts.map (·.1)))])))
theorem iS:∀ds R,io ds R->ds.length=2:=λ_ _ ⟨_,_,_,e,_⟩=>by rw[e];rfl
theorem aZ:ax ["_law_terms","_law_point","_law_top","_law_low","_law_name","_law_weight","_law_value"] ["_law_terms","_law_point"] (aq s__law_total):=by walk_at "sc"
theorem kH(Z:Zz):Z.C 1 "_law_total" ["_law_terms","_law_point"] (HN Z.K io):=by
 refine cy Z.x39 aZ iS λfa cdv A outer s H E ds R hr h=>?_;have hU:=hr.units;refine⟨_,(ad (aA 2 aZ.nd ap) (ad (aA 3 aZ.nd ap) (ad (gX Iv rfl (am 0) (bJ (n:=2) rfl (aB (ar 4 aZ.nd) (aB (ar 5 aZ.nd) aW))) (ad (aA 6 aZ.nd (cB hU (am 1) (am 4) (λ_ _=>rfl))) (ad (aA 2 aZ.nd (aE aY (aE bH (am 2) (Hg 6)) (aE bH (aE bH (am 5) (Hg 6)) (am 3)))) (af (aA 3 aZ.nd (aE bH (am 3) (Hg 6))))))) (af (av (aI (ac (am 2) (ac (am 3) ae)))))))),?_⟩;obtain⟨ts,ks,ps,rfl,nd,hl,ht,P,q⟩:=h;walk_at "";simp only[qm];walk_at "";have tk:∀i,∀t∈ts.take i,t∈ts:=λi t h=>JD h
 have tb:∀i,ib (Hl 'w' ((ts.take i).map (·.1)))<=70000:=λi=>nv (nd.sublist ((List.take_sublist i ts).map _)) (λn hn=>by
  obtain⟨t,h1,rfl⟩:=HW.mp hn
  exact(ht t (tk i t h1)).1) (λn hn=>P.pos hn) P.κ
 have ab:∀i,ib (cV (ov (pT ks ps) 'w' (Hl 'w' ((ts.take i).map (·.1)))) (ts.take i))<=3100000:=λi =>
  HX (gP (c:=10000) (m:=3070000) λt h1=>⟨(ht t (tk i t h1)).2,Iz (P.Tb (ht t (tk i t h1)).1) (Jb (tb i))⟩) (by rw[IH];omega)
 refine⟨λi δ=>∃x y z,δ=[.dat (.tup (ts.map Hh)),.dat (.fd ks (ps.map HM)),.dat (.int (cV (ov (pT ks ps) 'w' (Hl 'w' ((ts.take i).map (·.1)))) (ts.take i))),.dat (.int (Hl 'w' ((ts.take i).map (·.1)))),x,y,z],⟨_,_,_,rfl⟩,?_,?_⟩
 ·rintro i d δ hd ⟨x,y,z,rfl⟩;obtain⟨t,hn,rfl⟩:=dB hd;have aa:=Im hn;have hk:=(ht t aa).1;walk_at "";refine⟨_,P.D hk,?_⟩;walk_at "";refine⟨Hy (ab i) (P.Bb hk),Hy (ht t aa).2 (P.Tb hk),Hy (Iz (ht t aa).2 (P.Tb hk)) (tb i),Hy (tb i) (P.Bb hk),?_⟩;rw[aD hn,IA,gU,List.map_singleton,oK];refine⟨yK (λw hw=>⟨?_,dZ (HW.mpr ⟨w,hw,rfl⟩)⟩) ?_,rfl⟩
  ·have:=P.pos (ht w (tk i w hw)).1;omega
  ·have:=P.pos hk;omega
 ·rintro δ ⟨x,y,z,rfl⟩;have e1:ts.take (ts.map Hh).length=ts:=by rw[HS,ID]
  have b1:=tb (ts.map Hh).length
  have b2:=ab (ts.map Hh).length
  rw[e1] at b1 b2 ⊢;walk_at ""
  exact q b1 b2 (cN λn hn=>by
   obtain⟨t,h1,rfl⟩:=HW.mp hn
   exact P.pos (ht t h1).1)
inductive gj(ds:Zh)(R:D->Prop):Prop
 | mk (r:Rw) (ks:Zb) (ps:Za) (hh:ds=[Hk r,.fd ks (ps.map HM)]/\(r.2.1.map (·.1)).Nodup/\r.2.1.length<=60/\ib r.2.2<=10000/\(∀t∈r.2.1,t.1∈ks/\ib t.2<=10000)/\Pk ks ps/\R (.bl (tQ (pT ks ps) 'w' r.1 r.2.1 r.2.2)))
theorem gZ:∀ds R,gj ds R->ds.length=2:=λ_ _ ⟨_,_,_,e,_⟩=>by rw[e];rfl
theorem fb:ax ["_law_row_here","_law_point","_law_found"] ["_law_row_here","_law_point"] (aq s__law_row_so):=by walk_at "sc"
theorem jK(Z:Zz):Z.C 2 "_law_row_so" ["_law_row_here","_law_point"] (HN Z.K gj):=by
 refine cy Z.x40 fb gZ λfa cdv A outer s H E ds R hr h=>?_;have hU:=hr.units;refine⟨_,(ad (aA 2 fb.nd (au (lY Z) (rm hr) rfl (ac (au (kH Z) (rm hr) rfl (ac (Hg 0) (ac (am 1) ae))) (ac (aI (ac (Hg 0) (ac ap ae))) ae)))) (af (av (xx (cR wV (am 2) ap (ay _)) (fc (kQ (cR (dY hU) (am 2) ap (ay _)) (fc (cR (dY hU) (Hg 0) aw (ay _))))))))),?_⟩;obtain⟨⟨k,ts,b⟩,ks,ps,rfl,nd,hl,bb,ht,Pk,q⟩:=h;unfold Hk gF;walk_at "";refine⟨ts,ks,ps,rfl,nd,hl,ht,Pk,λb1 b2 bp=>?_⟩;walk_at "";refine⟨_,_,_,_,rfl,IntMulOk.of_right 'd',Hy bb b1,?_⟩;walk_at "";have q:R (.bl (pI k (cV (ov (pT ks ps) 'w' (Hl 'w' (ts.map (·.1)))) ts) (b*Hl 'w' (ts.map (·.1))))):=q;generalize cV (ov (pT ks ps) 'w' (Hl 'w' (ts.map (·.1)))) ts=T at *;generalize Hl 'w' (ts.map (·.1))=B at *;generalize b*B=C at *;rw[Int.mul_one];refine eQ (λh1=>?_) λh1=>eQ (λh2=>?_) λh2=>?_
 ·cases k with
  | least=>have q:R (.bl (decide (C<=T))):=q;rw[IC 'b'] at q;exact q
  | more=>have q:R (.bl (decide (C<T))):=q;rw[IC 'b'] at q;exact q
 ·cases k with
  | least=>have q:R (.bl (decide (C<=T))):=q;rw[IC 'b'] at q;exact q
  | more=>have q:R (.bl (decide (C<T))):=q;rw[IL 'b'] at q;exact q
 ·cases k with
  | least=>have q:R (.bl (decide (C<=T))):=q;rw[IL 'b'] at q;exact q
  | more=>have q:R (.bl (decide (C<T))):=q;rw[IL 'b'] at q;exact q
theorem lg64{x:Int}(h0:0<x)(h1:x<64):x.natAbs.log2<9000:=by
 refine IM ((Nat.log2_lt 'b').mpr (show x.natAbs<2 ^ 6 by omega)) 'd'
def wG(c:Int):Int:=if c.fmod 5=0 then 0 else if c.fmod 5<4 then (c.fdiv 5).fmod 7-3 else (c.fdiv 5).fmod (2*1000000000+1)-1000000000
theorem nX(c:Int):ib (wG c)<=30:=by
 have bb:∀ {x:Int},-1000000000<=x->x<=1000000000->ib x<=30:=λh0 h1=>intBits_le_iff.mpr (by rw[show (2:Nat) ^ 30=1073741824 by decide +kernel];omega)
 have a0:=IV (c.fdiv 5) (b:=7) 'd'
 have a1:=Jl (c.fdiv 5) (b:=7) 'd'
 have a2:=IV (c.fdiv 5) (b:=2*1000000000+1) 'd'
 have a3:=Jl (c.fdiv 5) (b:=2*1000000000+1) 'd'
 unfold wG
 by_cases h1:c.fmod 5=0
 ·rw[Ir h1];decide
 ·rw[Io h1]
  by_cases h2:c.fmod 5<4
  ·rw[Ir h2];exact bb 'b' 'b'
  ·rw[Io h2];exact bb 'b' 'b'
inductive gz(ds:Zh)(R:D->Prop):Prop
 | mk (c:_) (hh:ds=[.int c]/\ib c<=1048600/\R (.int (wG c)))
theorem gN:∀ds R,gz ds R->ds.length=1:=λ_ _ ⟨_,e,_⟩=>by rw[e];rfl
theorem dy:ax ["_law_cell_here","_law_kind"] ["_law_cell_here"] (aq s__law_number):=by walk_at "sc"
theorem eI(Z:Zz):Z.C 1 "_law_number" ["_law_cell_here"] (HN Z.K gz):=by
 refine cy Z.x41 dy gN λfa cdv A outer s H E ds R hr h=>?_;have hU:=hr.units;refine⟨_,(ad (aA 1 dy.nd (aE eY (am 0) ap)) (ad (aA 0 dy.nd (aE cJ (am 0) ap)) (ad (aP (aC (dY hU) (am 1) ap (ay _)) (af (av ap)) aF) (ad (aP (aC zA (am 1) ap (ay _)) (af (av (aE lQ (aE eY (am 0) ap) ap))) aF) (af (av (aE lQ (aE eY (am 0) (aE aY (aE bH ap (aE xf ap ap)) ap)) (aE xf ap ap)))))))),?_⟩;obtain⟨c,rfl,hc,q⟩:=h;walk_at "";have e9:(10:Int) ^ Int.toNat 9=1000000000:=by decide +kernel
 rw[e9];unfold wG at q;refine⟨cnz 'd',mY 'd' 'g',eQ (λh1=>?_) λh1=>eQ (λh2=>⟨cnz 'd',?_⟩) λh2=>⟨⟨by decide,by decide,by decide⟩,IntMulOk.of_left 'd',cnz 'd',⟨by decide,by decide,by decide⟩,?_⟩⟩
 ·rw[Ir h1] at q;exact q
 ·rw[Io h1,Ir h2] at q;exact q
 ·rw[Io h1,Io h2] at q;exact q
theorem atL{α β:Type}{f:α->β}{xs:List α}{k:Nat}(h:k<xs.length):Hn (xs.map f) (k:Int)=some (f xs[k]):=by
 rw[uf 'b' (by rw[HS];omega),List.getElem?_map,J8,List.getElem?_eq_getElem h];rfl
def S4:Zb:=["a","b","c","d"]
theorem tH:S4.Nodup:=by decide +kernel
theorem FC:S4.Pairwise leS:=by unfold S4 leS;decide +kernel
structure Rg(r:Rw):Prop where
 tm:mB S4 r.2.1
 tb:∀t∈r.2.1,ib t.2<=34
 bb:ib r.2.2<=34
structure Sg(s:HR):Prop where
 dep:s.dep<=10
 ok:s.ok S4
 bt:s.bt 34
 few:(s.pl false).num<=4/\(s.pl false).long<=3
def lf(b:Bool)(r:Rw):HR:=if b=true then .nt (iK r) else iK r
theorem zY(b:Bool)(r:Rw)(t:Bool):((lf b r).pl t).num=1/\((lf b r).pl t).long=1:=by
 unfold lf iK
 cases b<;>cases t<;>exact⟨rfl,rfl⟩
theorem rM(b:Bool)(r:Rw):(lf b r).dep<=2:=by
 cases b
 ·exact(by decide:(1:Nat)<=2)
 ·exact(by decide:(2:Nat)<=2)
theorem yG(h:Rg r):(lf b r).ok S4:=by
 unfold lf iK;have:mB S4 r.2.1/\ib r.2.2<=10000:=⟨h.tm,HX h.bb 'd'⟩
 cases b<;>exact this
theorem yN(h:Rg r):(lf b r).bt 34:=by
 unfold lf iK
 cases b<;>exact⟨h.tb,h.bb⟩
inductive f8(ds:Zh)(R:D->Prop):Prop
 | mk (rows:List Rw) (c:Int) (hh:ds=[.lst (rows.map Hk),.int c]/\rows.length=4/\(∀r∈rows,Rg r)/\∀s:HR,Sg s->R s.D)
theorem hG:∀ds R,f8 ds R->ds.length=2:=λ_ _ ⟨_,_,e,_⟩=>by rw[e];rfl
theorem lf_D(x:Int)(r:Rw):(if x=0 then Hk r else .tup [.str "not",Hk r])=(lf (decide (x≠0)) r).D:=by
 unfold lf
 by_cases h:x=0
 ·rw[Ir h,IL (λz=>z h)];rfl
 ·rw[Io h,IC h];rfl
theorem bD(b:Bool)(r:Rw)(t:Bool):((lf b r).pl t).num=1:=(zY b r t).1
theorem aV(b:Bool)(r:Rw)(t:Bool):((lf b r).pl t).long=1:=(zY b r t).2
theorem GH{x y:D}{m:Int}(h0:0<=m)(h1:m<2):Hn [x,y] m=some (if m=0 then x else y):=by
 have:m=0\/m=1:=by omega
 rcases this with rfl | rfl
 ·rw[Ir rfl];exact at0
 ·rw[Io 'd'];exact at1
theorem aO:ax ["_law_rows","_law_cell_here","_law_r","_law_s","_law_t","_law_u","_law_some"] ["_law_rows","_law_cell_here"] (aq s__law_shaped):=by walk_at "sc"
theorem jj(Z:Zz):Z.C 1 "_law_shaped" ["_law_rows","_law_cell_here"] (HN Z.K f8):=by
 refine cy Z.x42 aO hG λfa cdv A outer s H E ds R hr h=>?_;have hU:=hr.units;refine⟨_,(ad (rf (bq ["_law_k","_law_row_here"] [(1,"_law_cell_here")] rfl rfl 'g' rfl 'g' (ba ⟨rfl,trivial⟩) (λ_=>be rfl) (aN ⟨⟨rfl,rfl,.inl rfl⟩,trivial⟩) (qj true rfl Z.x60 (ac (am 0) ae)) λ_ _ _ _ _=>⟨(bJ (n:=2) rfl (aB (ar 0 (show List.Nodup (["_law_k","_law_row_here","_law_cell_here"]:Zb) by decide +kernel)) (aB (ar 1 (show List.Nodup (["_law_k","_law_row_here","_law_cell_here"]:Zb) by decide +kernel)) aW))),cD,(gq gl (a6 (ac (am 1) (ac (aI (ac aw (ac (am 1) ae))) ae))) (aE eY (aE cJ (aE cJ (am 2) ap) (aE Ds ap (am 0))) ap) (λ_ _=>rfl))⟩) (Du (n:=4) rfl (aB (ar 2 aO.nd) (aB (ar 3 aO.nd) (aB (ar 4 aO.nd) (aB (ar 5 aO.nd) aW)))))) (ad (aA 6 aO.nd (a6 (ac (am 2) (ac (aI (ac aw (ac (am 2) (ac (am 3) ae)))) (ac (aI (ac aw (ac (am 2) (ac (am 3) ae)))) (ac (aI (ac aw (ac (am 2) (ac (aI (ac aw (ac (am 3) (ac (am 4) ae)))) ae)))) (ac (aI (ac aw (ac (aI (ac aw (ac (am 2) (ac (am 3) ae)))) (ac (am 4) ae)))) ae))))))) (ad (aA 6 aO.nd (aE aY (am 6) (a6 (ac (aI (ac aw (ac (aI (ac aw (ac (am 2) (ac (am 3) ae)))) (ac (am 4) ae)))) (ac (aI (ac aw (ac (aI (ac aw (ac (am 2) (ac (am 3) ae)))) (ac (aI (ac aw (ac (am 4) (ac (am 5) ae)))) ae)))) ae))))) (ad (aA 6 aO.nd (aE aY (am 6) (a6 (ac (aI (ac aw (ac (aI (ac aw (ac (am 2) (ac (am 3) ae)))) (ac (aI (ac aw (ac (am 4) (ac (am 5) ae)))) ae)))) (ac (aI (ac aw (ac (aI (ac aw (ac (am 2) (ac (aI (ac aw (ac (am 3) ae))) ae)))) ae))) ae))))) (ad (aA 6 aO.nd (aE aY (am 6) (a6 (ac (aI (ac aw (ac (aI (ac aw (ac (am 2) (ac (aI (ac aw (ac (am 3) (ac (am 4) ae)))) ae)))) ae))) (ac (aI (ac aw (ac (aI (ac aw (ac (aI (ac aw (ac (am 2) (ac (am 3) ae)))) (ac (aI (ac aw (ac (am 4) (ac (am 5) ae)))) ae)))) ae))) ae))))) (af (av (gq gl (am 6) (aE eY (am 1) ap) (λ_ _=>rfl))))))))),?_⟩
 obtain⟨rows,c,rfl,h4,hr,q⟩:=h
 match rows,h4 with
 | [r0,r1,r2,r3],_=>?_
 refine ak λK1 hK1=>?_;walk_at "";refine⟨by rw[zZ];exact(by decide:4<=9000),λd=>match d with | .tup [.int k,r]=>some (if ((c.fdiv 32).fdiv (1*2 ^ k.toNat)).fmod 2=0 then r else .tup [.str "not",r]) | _=>none,λx hx=>?_,?_⟩
 ·have hx:∃(k:Nat) (r:Rw),k<4/\x=.tup [.int (k:Nat),Hk r]:=by
   obtain⟨k,hk⟩:=List.getElem?_of_mem hx;obtain⟨r,h1,h2⟩:=zw (l:=[r0,r1,r2,r3]) (f:=Hk) hk;exact⟨k,r,(List.getElem?_eq_some_iff.mp h1).1,h2⟩
  obtain⟨k,r,k4,rfl⟩:=hx;have p0:(0:Int)<1*2 ^ (k:Int).toNat:=by rw[Int.one_mul];exact Int.pow_pos 'd'
  have p1:(1*2 ^ (k:Int).toNat:Int)<64:=by
   have:k=0\/k=1\/k=2\/k=3:=by omega
   rcases this with rfl | rfl | rfl | rfl<;>decide
  have m0:=IV ((c.fdiv 32).fdiv (1*2 ^ (k:Int).toNat)) (b:=2) 'd'
  have m1:=Jl ((c.fdiv 32).fdiv (1*2 ^ (k:Int).toNat)) (b:=2) 'd'
  refine⟨mY 'd' 'g',⟨by omega,by omega,by decide⟩,mY 'b' (lg64 p0 p1),cnz 'd',qAt.of (GH m0 m1) ?_⟩;walk_at ""
 ·have el:(enD [Hk r0,Hk r1,Hk r2,Hk r3]).filterMap (λd=>match d with | .tup [.int k,r]=>some (if ((c.fdiv 32).fdiv (1*2 ^ k.toNat)).fmod 2=0 then r else .tup [.str "not",r]) | _=>none)=[if ((c.fdiv 32).fdiv (1*2 ^ (0:Nat))).fmod 2=0 then Hk r0 else .tup [.str "not",Hk r0],if ((c.fdiv 32).fdiv (1*2 ^ (1:Nat))).fmod 2=0 then Hk r1 else .tup [.str "not",Hk r1],if ((c.fdiv 32).fdiv (1*2 ^ (2:Nat))).fmod 2=0 then Hk r2 else .tup [.str "not",Hk r2],if ((c.fdiv 32).fdiv (1*2 ^ (3:Nat))).fmod 2=0 then Hk r3 else .tup [.str "not",Hk r3]]:=rfl
  rw[el,lf_D,lf_D,lf_D,lf_D];have g0:=hr r0 'p';have g1:=hr r1 'p';have g2:=hr r2 'p';have g3:=hr r3 'p';generalize decide (((c.fdiv 32).fdiv (1*2 ^ (0:Nat))).fmod 2≠0)=b0;generalize decide (((c.fdiv 32).fdiv (1*2 ^ (1:Nat))).fmod 2≠0)=b1;generalize decide (((c.fdiv 32).fdiv (1*2 ^ (2:Nat))).fmod 2≠0)=b2;generalize decide (((c.fdiv 32).fdiv (1*2 ^ (3:Nat))).fmod 2≠0)=b3;walk_at "";rw[hK1];have d0:=rM b0 r0;have d1:=rM b1 r1;have d2:=rM b2 r2;have d3:=rM b3 r3;have o0:=yG (b:=b0) g0;have o1:=yG (b:=b1) g1;have o2:=yG (b:=b2) g2;have o3:=yG (b:=b3) g3;have t0:=yN (b:=b0) g0;have t1:=yN (b:=b1) g1;have t2:=yN (b:=b2) g2;have t3:=yN (b:=b3) g3;refine ak λK2 hK2=>?_;walk_at "";refine⟨by show 5<=9000;decide,?_⟩;rw[hK2];refine ak λK3 hK3=>?_;walk_at "";rw[hK3];refine ak λK4 hK4=>?_;walk_at "";rw[hK4];refine ak λK5 hK5=>?_;walk_at "";rw[hK5];walk_at "";have m0:=IV c (b:=11) 'd';have m1:=Jl c (b:=11) 'd';refine⟨cnz 'd',?_⟩;generalize c.fmod 11=m at *;have fw:∀s:HR,s.dep<=10->s.ok S4->s.bt 34->(s.pl false).num<=4->(s.pl false).long<=3->R s.D:=λs a b c d e=>q s ⟨a,b,c,d,e⟩;have hm:m=0\/m=1\/m=2\/m=3\/m=4\/m=5\/m=6\/m=7\/m=8\/m=9\/m=10:=by omega
  have aa:∀s:HR,(s.pl false).num<=4->(s.pl false).long<=3->(s.pl false).num<=4/\(s.pl false).long<=3:=λs a b=>⟨a,b⟩
  clear aa
  rcases hm with rfl | rfl | rfl | rfl | rfl | rfl | rfl | rfl | rfl | rfl | rfl
  ·refine fw (lf b0 r0) ?_ o0 t0 ?_ ?_
   ·first | omega | (simp only[HR.dep];omega)
   ·simp[HR.pl,HR.num,HR.long,bD,aV]
   ·simp[HR.pl,HR.num,HR.long,bD,aV]
  ·refine fw (.bo (lf b0 r0) (lf b1 r1)) ?_ ⟨o0,o1⟩ ⟨t0,t1⟩ ?_ ?_
   ·first | omega | (simp only[HR.dep];omega)
   ·simp[HR.pl,HR.num,HR.long,bD,aV]
   ·simp[HR.pl,HR.num,HR.long,bD,aV]
  ·refine fw (.ei (lf b0 r0) (lf b1 r1)) ?_ ⟨o0,o1⟩ ⟨t0,t1⟩ ?_ ?_
   ·first | omega | (simp only[HR.dep];omega)
   ·simp[HR.pl,HR.num,HR.long,bD,aV]
   ·simp[HR.pl,HR.num,HR.long,bD,aV]
  ·refine fw (.bo (lf b0 r0) (.ei (lf b1 r1) (lf b2 r2))) ?_ ⟨o0,⟨o1,o2⟩⟩ ⟨t0,⟨t1,t2⟩⟩ ?_ ?_
   ·first | omega | (simp only[HR.dep];omega)
   ·simp[HR.pl,HR.num,HR.long,bD,aV]
   ·simp[HR.pl,HR.num,HR.long,bD,aV]
  ·refine fw (.ei (.bo (lf b0 r0) (lf b1 r1)) (lf b2 r2)) ?_ ⟨⟨o0,o1⟩,o2⟩ ⟨⟨t0,t1⟩,t2⟩ ?_ ?_
   ·first | omega | (simp only[HR.dep];omega)
   ·simp[HR.pl,HR.num,HR.long,bD,aV]
   ·simp[HR.pl,HR.num,HR.long,bD,aV]
  ·refine fw (.bo (.bo (lf b0 r0) (lf b1 r1)) (lf b2 r2)) ?_ ⟨⟨o0,o1⟩,o2⟩ ⟨⟨t0,t1⟩,t2⟩ ?_ ?_
   ·first | omega | (simp only[HR.dep];omega)
   ·simp[HR.pl,HR.num,HR.long,bD,aV]
   ·simp[HR.pl,HR.num,HR.long,bD,aV]
  ·refine fw (.ei (.ei (lf b0 r0) (lf b1 r1)) (.ei (lf b2 r2) (lf b3 r3))) ?_ ⟨⟨o0,o1⟩,⟨o2,o3⟩⟩ ⟨⟨t0,t1⟩,⟨t2,t3⟩⟩ ?_ ?_
   ·first | omega | (simp only[HR.dep];omega)
   ·simp[HR.pl,HR.num,HR.long,bD,aV]
   ·simp[HR.pl,HR.num,HR.long,bD,aV]
  ·refine fw (.bo (.ei (lf b0 r0) (lf b1 r1)) (.ei (lf b2 r2) (lf b3 r3))) ?_ ⟨⟨o0,o1⟩,⟨o2,o3⟩⟩ ⟨⟨t0,t1⟩,⟨t2,t3⟩⟩ ?_ ?_
   ·first | omega | (simp only[HR.dep];omega)
   ·simp[HR.pl,HR.num,HR.long,bD,aV]
   ·simp[HR.pl,HR.num,HR.long,bD,aV]
  ·refine fw (.nt (.bo (lf b0 r0) (.nt (lf b1 r1)))) ?_ ⟨o0,o1⟩ ⟨t0,t1⟩ ?_ ?_
   ·first | omega | (simp only[HR.dep];omega)
   ·simp[HR.pl,HR.num,HR.long,bD,aV]
   ·simp[HR.pl,HR.num,HR.long,bD,aV]
  ·refine fw (.nt (.ei (lf b0 r0) (.ei (lf b1 r1) (lf b2 r2)))) ?_ ⟨o0,⟨o1,o2⟩⟩ ⟨t0,⟨t1,t2⟩⟩ ?_ ?_
   ·first | omega | (simp only[HR.dep];omega)
   ·simp[HR.pl,HR.num,HR.long,bD,aV]
   ·simp[HR.pl,HR.num,HR.long,bD,aV]
  ·refine fw (.nt (.bo (.ei (lf b0 r0) (lf b1 r1)) (.ei (lf b2 r2) (lf b3 r3)))) ?_ ⟨⟨o0,o1⟩,⟨o2,o3⟩⟩ ⟨⟨t0,t1⟩,⟨t2,t3⟩⟩ ?_ ?_
   ·first | omega | (simp only[HR.dep];omega)
   ·simp[HR.pl,HR.num,HR.long,bD,aV]
   ·simp[HR.pl,HR.num,HR.long,bD,aV]
inductive cA(n:Nat)(ds:Zh)(R:D->Prop):Prop
 | mk (s:HR) (ks:Zb) (ps:Za) (names:Zb) (hh:ds=[s.D,.fd ks (ps.map HM)]/\s.dep<=n/\s.ok names/\names.Nodup/\names.length<=60/\(∀x∈s.nms,x∈ks)/\Pk ks ps/\R (.bl (s.tv (pT ks ps) 'w')))
theorem l6(n:Nat):∀ds R,cA n ds R->ds.length=2:=λ_ _ ⟨_,_,_,_,e,_⟩=>by rw[e];rfl
theorem kL:∀ds R,¬ cA 0 ds R:=λ_ _ ⟨s,_,_,_,_,h,_⟩=>by have:=s.dep_pos;omega
theorem sM:ax ["_law_saying","_law_point"] ["_law_saying","_law_point"] (aq s__law_so):=by walk_at "sc"
theorem mW(Z:Zz){n:Nat}(d8:Z.C (3+n) "_law_so" ["_law_saying","_law_point"] (HN Z.K (cA n))):Z.C (3+n+1) "_law_so" ["_law_saying","_law_point"] (HN Z.K (cA (n+1))):=by
 refine cy (k:=3+n) Z.x43 sM (l6 (n+1)) λfa cdv A outer s H E ds R hr h=>?_;have hU:=hr.units;refine⟨_,(ad (aP (aC (dY hU) (Hg 0) aw (ay _)) (af (av (nG (au d8 (hr.mono 'b') rfl (ac (Hg 0) (ac (am 1) ae)))))) aF) (ad (aP (aC (dY hU) (Hg 0) aw (ay _)) (af (av (kQ (au d8 (hr.mono 'b') rfl (ac (Hg 0) (ac (am 1) ae))) (fc (au d8 (hr.mono 'b') rfl (ac (Hg 0) (ac (am 1) ae))))))) aF) (ad (aP (aC (dY hU) (Hg 0) aw (ay _)) (af (av (xx (au d8 (hr.mono 'b') rfl (ac (Hg 0) (ac (am 1) ae))) (fc (au d8 (hr.mono 'b') rfl (ac (Hg 0) (ac (am 1) ae))))))) aF) (af (av (au (jK Z) (hr.mono 'b') rfl (ac (am 0) (ac (am 1) ae)))))))),?_⟩;obtain⟨s,ks,ps,names,rfl,hd,ok,aa,nl,ab,P,q⟩:=h;refine ak λK1 hK1=>?_
 cases s with
 | row k ts b =>
  unfold HR.D gF;have k1:kdS k≠"not":=by cases k<;>decide
  have k2:kdS k≠"both":=by cases k<;>decide
  have k3:kdS k≠"either":=by cases k<;>decide
  walk_at "";refine Hz k1 ?_;rw[hK1];refine ak λK2 hK2=>?_;walk_at "";refine Hz k2 ?_;rw[hK2];refine ak λK3 hK3=>?_;walk_at "";refine Hz k3 ?_;rw[hK3];walk_at "";refine⟨(k,ts,b),ks,ps,rfl,aa.sublist ok.1.sub,?_,ok.2,λt ht=>⟨ab _ (HW.mpr ⟨t,ht,rfl⟩),ok.1.bits t ht⟩,P,q⟩;have:=ok.1.sub.length_le;rw[HS] at this;show ts.length<=60;omega
 | nt s =>
  unfold HR.D;walk_at "";have hd:s.dep+1<=n+1:=hd;exact⟨s,ks,ps,names,rfl,by omega,ok,aa,nl,ab,P,q⟩
 | bo s t =>
  unfold HR.D;have hd:max s.dep t.dep+1<=n+1:=hd;have q:R (.bl (s.tv (pT ks ps) 'w'&&t.tv (pT ks ps) 'w')):=q;walk_at "";refine Hz 'd' ?_;rw[hK1];refine ak λK2 hK2=>?_;walk_at "";refine⟨s,ks,ps,names,rfl,by omega,ok.1,aa,nl,λx hx=>ab x (Il _ hx),P,?_⟩
  cases e:s.tv (pT ks ps) 'w' with
  | true =>
   rw[e] at q;exact⟨t,ks,ps,names,rfl,by omega,ok.2,aa,nl,λx hx=>ab x (Ig _ hx),P,q⟩
  | false =>
   rw[e] at q;exact q
 | ei s t =>
  unfold HR.D;have hd:max s.dep t.dep+1<=n+1:=hd;have q:R (.bl (s.tv (pT ks ps) 'w'||t.tv (pT ks ps) 'w')):=q;walk_at "";refine Hz 'd' ?_;rw[hK1];refine ak λK2 hK2=>?_;walk_at "";refine Hz 'd' ?_;rw[hK2];refine ak λK3 hK3=>?_;walk_at "";refine⟨s,ks,ps,names,rfl,by omega,ok.1,aa,nl,λx hx=>ab x (Il _ hx),P,?_⟩
  cases e:s.tv (pT ks ps) 'w' with
  | true =>
   rw[e] at q;exact q
  | false =>
   rw[e] at q;exact⟨t,ks,ps,names,rfl,by omega,ok.2,aa,nl,λx hx=>ab x (Ig _ hx),P,q⟩
theorem cL(Z:Zz):Z.C 63 "_law_so" ["_law_saying","_law_point"] (HN Z.K (cA 60)):=Nat.rec (motive:=λn=>Z.C (3+n) "_law_so" ["_law_saying","_law_point"] (HN Z.K (cA n))) (eO Z.x43 _ kL) (λ_=>mW Z) 60
theorem uH{c:TDT}(h:∀A B:En->Prop,A=t R->B=u R->c δ λb δ1=>if b=true then A δ1 else B δ1):dIf c t u R δ:=h _ _ rfl rfl
inductive bT(n:Nat)(ds:Zh)(R:D->Prop):Prop
 | mk (s:HR) (S:Zb) (hh:ds=[s.D]/\s.dep<=n/\s.ok S/\S.Pairwise leS/\S.Nodup/\S.length<=4/\∀ss:Zb,ss.Nodup->(∀y,y∈ss↔y∈s.nms)->ss.Pairwise leS->R (.lst (ss.map D.str)))
theorem iO(n:Nat):∀ds R,bT n ds R->ds.length=1:=λ_ _ ⟨_,_,e,_⟩=>by rw[e];rfl
theorem gI:∀ds R,¬ bT 0 ds R:=λ_ _ ⟨s,_,_,h,_⟩=>by have:=s.dep_pos;omega
theorem lV:ax ["_law_saying"] ["_law_saying"] (aq s__law_names):=by walk_at "sc"
theorem jN(Z:Zz){n:Nat}(eK:Z.C (1+n) "_law_names" ["_law_saying"] (HN Z.K (bT n))):Z.C (1+n+1) "_law_names" ["_law_saying"] (HN Z.K (bT (n+1))):=by
 refine cy (k:=1+n) Z.x44 lV (iO (n+1)) λfa cdv A outer s H E ds R hr h=>?_;have hU:=hr.units;refine⟨_,(ad (aP (aC (dY hU) (Hg 0) aw (ay _)) (af (av (au eK (hr.mono 'b') rfl (ac (Hg 0) ae)))) aF) (ad (aP (DW.dt (eC (aC (dY hU) (Hg 0) aw (ay _)) (dQ (aC (dY hU) (Hg 0) aw (ay _))))) (af (av (Fm rfl rfl Z.x55 rfl Z.x68 (aE aY (au eK (hr.mono 'b') rfl (ac (Hg 0) ae)) (au eK (hr.mono 'b') rfl (ac (Hg 0) ae)))))) aF) (af (av (bq ["_law_name","_law_weight"] [] rfl rfl 'g' rfl 'g' (ba trivial) (λ_=>be rfl) (aN trivial) (mQ (Hg 0)) λ_ _ _ _ _=>⟨(bJ (n:=2) rfl (aB (ar 0 (show List.Nodup (["_law_name","_law_weight"]:Zb) by decide +kernel)) (aB (ar 1 (show List.Nodup (["_law_name","_law_weight"]:Zb) by decide +kernel)) aW))),cD,(am 0)⟩))))),?_⟩;obtain⟨s,S,rfl,hd,ok,pw,nd,hl,q⟩:=h;refine ak λK1 h1=>?_
 cases s with
 | row k ts b =>
  unfold HR.D gF;walk_at "";refine Hz (by cases k<;>decide) ?_
  rw[h1];refine ak λK2 h2=>?_;walk_at "";refine Hz (by cases k<;>decide) (Hz (by cases k<;>decide) ?_)
  rw[h2];walk_at "";have tl:=ok.1.sub.length_le;rw[HS] at tl;refine⟨by rw[HS];omega,λd=>match d with | .tup (x::_)=>some x | _=>none,λx hx=>?_,?_⟩
  ·obtain⟨t,ht,rfl⟩:=HW.mp hx;rfl
  ·rw[aK _ Hh (λt=>D.str t.1) _ (by intro _ _;rfl)];have:=q (ts.map (·.1)) (nd.sublist ok.1.sub) (λy=>Iff.rfl) (pw.sublist ok.1.sub);rw[IU] at this;exact this
 | nt s =>
  have hd:s.dep+1<=n+1:=hd
  unfold HR.D;walk_at "";exact⟨s,S,rfl,by omega,ok,pw,nd,hl,q⟩
 | bo s u =>
  have hd:max s.dep u.dep+1<=n+1:=hd
  unfold HR.D;walk_at "";refine Hz 'd' ?_;rw[h1];refine ak λK2 h2=>?_;walk_at "";refine⟨s,S,rfl,by omega,ok.1,pw,nd,hl,λs1 n1 m1 p1=>⟨u,S,rfl,by omega,ok.2,pw,nd,hl,λs2 n2 m2 p2=>?_⟩⟩;have k1:s1.length<=4:=HX (gy n1 λx hx=>HR.nms_sub ok.1 x ((m1 x).mp hx)) hl;have k2:s2.length<=4:=HX (gy n2 λx hx=>HR.nms_sub ok.2 x ((m2 x).mp hx)) hl;walk_at "";exact⟨by rw[HS,HS];omega,s1++s2,by rw[IA],by rw[Ij];omega,λs3 n3 m3 st=>q s3 n3 (λy=>by rw[m3 y,Ip,m1,m2];exact Ip.symm) (nH st)⟩
 | ei s u =>
  have hd:max s.dep u.dep+1<=n+1:=hd
  unfold HR.D;walk_at "";refine Hz 'd' ?_;rw[h1];refine ak λK2 h2=>?_;walk_at "";refine Hz 'd' ?_;refine⟨s,S,rfl,by omega,ok.1,pw,nd,hl,λs1 n1 m1 p1=>⟨u,S,rfl,by omega,ok.2,pw,nd,hl,λs2 n2 m2 p2=>?_⟩⟩;have k1:s1.length<=4:=HX (gy n1 λx hx=>HR.nms_sub ok.1 x ((m1 x).mp hx)) hl;have k2:s2.length<=4:=HX (gy n2 λx hx=>HR.nms_sub ok.2 x ((m2 x).mp hx)) hl;walk_at "";exact⟨by rw[HS,HS];omega,s1++s2,by rw[IA],by rw[Ij];omega,λs3 n3 m3 st=>q s3 n3 (λy=>by rw[m3 y,Ip,m1,m2];exact Ip.symm) (nH st)⟩
theorem fm(Z:Zz):Z.C 61 "_law_names" ["_law_saying"] (HN Z.K (bT 60)):=Nat.rec (motive:=λn=>Z.C (1+n) "_law_names" ["_law_saying"] (HN Z.K (bT n))) (eO Z.x44 _ gI) (λ_=>jN Z) 60
theorem xp{t b:Int}{n:Nat}(h:Builtin.Int.intBits t<=n):Builtin.Int.intBits (HD t b)<=n:=Jb h
theorem BC{t b:Int}{n:Nat}(hb:b≠0)(h:Builtin.Int.intBits b<=n):Builtin.Int.intBits (gc t b)<=n:=KS (oN t hb) h
inductive f9(ds:Zh)(R:D->Prop):Prop
 | mk (x y:Int) (hh:ds=[.tup [.int x,.int y]]/\0<y/\ib y<=8000/\R (.tup [.int (HD x y),.int (Hf x y)]))
theorem g6:∀ds R,f9 ds R->ds.length=1:=λ_ _ ⟨_,_,e,_⟩=>by rw[e];rfl
theorem cq:ax ["_law_value","_law_one","_law_other"] ["_law_value"] (aq s__law_lowest):=by walk_at "sc"
theorem jz(Z:Zz):Z.C 1 "_law_lowest" ["_law_value"] (HN Z.K f9):=by
 refine cy Z.x45 cq g6 λfa cdv A outer s H E ds R hr h=>?_;have hU:=hr.units;refine⟨_,(ad (rf (am 0) (bJ (n:=2) rfl (aB (ar 1 cq.nd) (aB (ar 2 cq.nd) aW)))) (ad (lP Iv (aC (fT hU) (am 2) ap (ay _)) (af (zC 1 2 rfl cq.nd 'd' (ac (am 2) (ac (aE eY (am 1) (am 2)) ae))))) (af (av (aI (ac (aE cJ (Hg 0) (aL yV rfl Z.x54 yw (ac (am 1) ae))) (ac (aE cJ (Hg 0) (aL yV rfl Z.x54 yw (ac (am 1) ae))) ae))))))),?_⟩;obtain⟨x,y,rfl,y0,yb,q⟩:=h;refine ak λK1 hK1=>?_;walk_at "";rw[hK1];refine ak λK2 hK2=>?_;refine⟨λδ=>∃a b,δ=[.dat (.tup [.int x,.int y]),.dat (.int a),.dat (.int b)]/\gc a b=gc x y,λδ=>match δ with | [_,_,.dat (.int b)]=>b.natAbs | _=>0,⟨x,y,rfl,rfl⟩,?_⟩;rintro δ ⟨a,b,rfl,e⟩;walk_at "";refine eQ (λc=>?_) (λc=>?_)
 ·exact⟨c,(o6 a b).trans e,dr a b c⟩
 ·have c:=JV.mp c
  subst c;rw[pJ] at e;rw[hK2];walk_at "";have e1:dv x y=gc x y:=Io 'b';unfold HD Hf at q;rw[e1] at q;rw[e];have g0:=vz x (b:=y) 'b';have cf:=mY (i:=x) (j:=gc x y) 'b' (oA (BC 'b' yb) 'd');exact⟨cf,cf,q⟩
def lnT(cs:Ze):List (Str×Int):=(S4.zip (cs.map wG)).filter λp=>decide (p.2≠0)
inductive kY(ds:Zh)(R:D->Prop):Prop
 | mk (c1 c2 c3 c4 b:Int) (hh:ds=[.lst [.int 0,.int c1,.int c2,.int c3,.int c4,.int b]]/\(∀c∈[c1,c2,c3,c4,b],ib c<=1048600)/\R (Hk (.least,lnT [c1,c2,c3,c4],wG b)))
theorem kC:∀ds R,kY ds R->ds.length=1:=λ_ _ ⟨_,_,_,_,_,e,_⟩=>by rw[e];rfl
theorem cc:ax ["_law_cells","_law_names_here","_law_terms","_law_k","_law_weight"] ["_law_cells"] (aq s__law_row):=by walk_at "sc"
theorem nC(Z:Zz):Z.C 2 "_law_row" ["_law_cells"] (HN Z.K kY):=by
 refine cy Z.x46 cc kC λfa cdv A outer s H E ds R hr h=>?_;have hU:=hr.units;refine⟨_,(ad (aA 1 cc.nd (a6 (ac aw (ac aw (ac aw (ac aw ae)))))) (ad (aP (aC (dY hU) (aE eY (Hg 0) ap) ap (ay _)) (af (aA 1 cc.nd (a6 (ac aw (ac aw (ac aw (ac aw ae))))))) aF) (ad (dz 2 cc.nd ae) (ad (wD Iv rfl rfl Z.x61 (ac ap ae) (ar 3 cc.nd) (ad (aA 4 cc.nd (au (eI Z) (rm hr) rfl (ac (gq gl (am 0) (aE aY ap (am 3)) (λ_ _=>rfl)) ae))) (af (aP (aC (fT hU) (am 4) ap (ay _)) (af (a8 2 (aI (ac (gq gl (am 1) (am 3) (λ_ _=>rfl)) (ac (am 4) ae))))) aF)))) (af (av (aI (ac (gq gl (a6 (ac aw (ac aw ae))) (aE eY (aE cJ (Hg 0) ap) ap) (λ_ _=>rfl)) (ac (jp 2 rfl Z.x56 cT) (ac (au (eI Z) (rm hr) rfl (ac (Hg 0) ae)) ae)))))))))),?_⟩;obtain⟨c1,c2,c3,c4,b,rfl,hb,q⟩:=h;refine ak λK1 hK1=>?_;walk_at "";rw[hK1];refine ak λK2 hK2=>?_;walk_at "";refine⟨cnz 'd',Hz 'd' ?_⟩;rw[hK2];refine ak λK3 hK3=>?_;walk_at "";intro ta;rw[hK3];refine ak λK4 hK4=>?_;walk_at "";simp only[Co];walk_at "";have cl:∀i:Nat,(h:i<4)->Hn [D.int 0,.int c1,.int c2,.int c3,.int c4,.int b] (1+(i:Int))=some (.int ([c1,c2,c3,c4][i]'h)):=λi h=>by
  match i,h with
  | 0,_=>rfl
  | 1,_=>rfl
  | 2,_=>rfl
  | 3,_=>rfl
 have cn:∀i:Nat,(h:i<4)->Hn [D.str "a",.str "b",.str "c",.str "d"] (i:Int)=some (.str (S4[i]'h)):=λi h=>by
  match i,h with
  | 0,_=>rfl
  | 1,_=>rfl
  | 2,_=>rfl
  | 3,_=>rfl
 have cz:∀i:Nat,(h:i<4)->(S4.zip ([c1,c2,c3,c4].map wG))[i]?=some (S4[i]'h,wG ([c1,c2,c3,c4][i]'h)):=λi h=>by
  match i,h with
  | 0,_=>rfl
  | 1,_=>rfl
  | 2,_=>rfl
  | 3,_=>rfl
 have bb:∀i:Nat,(h:i<4)->ib ([c1,c2,c3,c4][i]'h)<=1048600:=λi h=>hb _ (by
  match i,h with
  | 0,_=>simp
  | 1,_=>simp
  | 2,_=>simp
  | 3,_=>simp)
 refine⟨by decide,by decide,λi δ=>∃x y,δ=[.dat (.lst [.int 0,.int c1,.int c2,.int c3,.int c4,.int b]),.dat (.lst [.str "a",.str "b",.str "c",.str "d"]),.own ta (.lst ((((S4.zip ([c1,c2,c3,c4].map wG)).take i).filter λp=>decide (p.2≠0)).map Hh)),x,y],⟨_,_,rfl⟩,?_,?_⟩
 ·rintro i δ hi ⟨x,y,rfl⟩;have hi:i<4:=hi;have a1:=cl i hi;have a2:=cn i hi;have a4:=bb i hi;have tk:=aD (cz i hi);generalize S4.zip ([c1,c2,c3,c4].map wG)=Z at *;have hl:((Z.take i).filter λp=>decide (p.2≠0)).length<=i:=HX (IK ..) (by rw[IH];omega);walk_at "";refine qAt.of a1 ⟨_,rfl,a4,?_⟩;walk_at "";refine eQ (λhz=>qAt.of a2 ?_) λhz=>?_
  ·walk_at "";refine⟨by rw[HS];exact Jw hl 'b',?_⟩;rw[tk,Jm,IA]
   congr 1
   simp[hz,Hh]
  ·rw[tk,Jm];simp[hz]
 ·rintro δ ⟨x,y,rfl⟩;rw[hK4];walk_at "";exact⟨mY 'd' 'd',cnz 'd',b,rfl,hb b 'p',q⟩
theorem uV{α β:Type}:∀(a:List α) (b:List β),((a.zip b).map (·.1)).Sublist a
 | [],_=>List.Sublist.refl _
 | _::_,[]=>List.nil_sublist _
 | x::a,_::b=>(uV a b).cons₂ x
theorem zD{cs:Ze}:Rg (.least,lnT cs,0):=by
 have h:∀t∈lnT cs,t.2≠0/\ib t.2<=30:=λt ht=>by
  obtain⟨h1,h2⟩:=Ia.mp ht;obtain⟨c,_,e⟩:=HW.mp (IT h1).2;exact⟨IR h2,by rw[<- e];exact nX c⟩
 refine⟨⟨?_,λt ht=>(h t ht).1,λt ht=>HX (h t ht).2 'd'⟩,λt ht=>HX (h t ht).2 'd',by show ib 0<=34;decide⟩;exact(Kl.map _).trans (uV _ _)
def cK(ns:Ze)(k j:Nat):Int:=cO ns (2+6*(k:Int)+(j:Int))
def rw0(ns:Ze)(k:Nat):Rw:=(.least,lnT [cK ns k 0,cK ns k 1,cK ns k 2,cK ns k 3],wG (cK ns k 4))
def rwK(ns:Ze)(k:Nat):Rw:=(if (cO ns (7+6*(k:Int))).fmod 2=0 then .least else .more,(rw0 ns k).2)
inductive jk(ds:Zh)(R:D->Prop):Prop
 | mk (ns:Ze) (hh:ds=[.fz (ns.map D.int)]/\ns.length<=63/\(∀n∈ns,ib n<=1048576)/\∀a:HR,Sg a->R a.D)
theorem j6:∀ds R,jk ds R->ds.length=1:=λ_ _ ⟨_,e,_⟩=>by rw[e];rfl
theorem eD:ax ["_law_script","_law_rows"] ["_law_script"] (aq s__law_four):=by walk_at "sc"
theorem lT(Z:Zz):Z.C 3 "_law_four" ["_law_script"] (HN Z.K jk):=by
 refine cy Z.x47 eD j6 λfa cdv A outer s H E ds R hr h=>?_;have hU:=hr.units;refine⟨_,(ad (aA 1 eD.nd (bq ["_law_k"] [(0,"_law_script")] rfl rfl 'g' rfl 'g' (ba ⟨rfl,trivial⟩) (λ_=>be rfl) (aN ⟨⟨rfl,rfl,.inl rfl⟩,trivial⟩) (jd rfl Z.x61 (ac ap ae)) λ_ _ _ _ _=>⟨(ar 0 (show List.Nodup (["_law_k","_law_script"]:Zb) by decide +kernel)),cD,(au (nC Z) (rm hr) rfl (ac (aE aY (a6 (ac ap ae)) (yq rfl ["_law_j"] [(1,"_law_script"),(0,"_law_k")] rfl rfl 'g' rfl 'g' (ba ⟨rfl,rfl,trivial⟩) (λ_=>be rfl) (aN ⟨⟨rfl,rfl,.inl rfl⟩,⟨rfl,rfl,.inl rfl⟩,trivial⟩) (jd rfl Z.x61 (ac ap ae)) λ_ _ _ _ _=>⟨(ar 0 (show List.Nodup (["_law_j","_law_script","_law_k"]:Zb) by decide +kernel)),cD,(au (cE Z) (rm hr) rfl (ac (am 1) (ac (aE aY (aE aY ap (aE bH ap (am 2))) (am 0)) ae)))⟩)) ae))⟩)) (ad (aA 1 eD.nd (bq ["_law_k"] [(0,"_law_script"),(1,"_law_rows")] rfl rfl 'g' rfl 'g' (ba ⟨rfl,rfl,trivial⟩) (λ_=>be rfl) (aN ⟨⟨rfl,rfl,.inl rfl⟩,⟨rfl,rfl,.inl rfl⟩,trivial⟩) (jd rfl Z.x61 (ac ap ae)) λ_ _ _ _ _=>⟨(ar 0 (show List.Nodup (["_law_k","_law_script","_law_rows"]:Zb) by decide +kernel)),cD,(aE aY (aI (ac (gq gl (a6 (ac aw (ac aw ae))) (aE eY (au (cE Z) (rm hr) rfl (ac (am 1) (ac (aE aY ap (aE bH ap (am 0))) ae))) ap) (λ_ _=>rfl)) ae)) (fZ (gq gl (am 2) (am 0) (λ_ _=>rfl)) (cU ap) fG))⟩)) (af (av (au (jj Z) (rm hr) rfl (ac (am 1) (ac (au (cE Z) (rm hr) rfl (ac (am 0) (ac ap ae))) ae))))))),?_⟩;obtain⟨ns,rfl,aa,hb,q⟩:=h;refine ak λK1 hK1=>?_;walk_at "";have k8:∀k:Nat,k<4->ib (k:Int)<=3:=λk h=>by
  match k,h with
  | 0,_=>decide
  | 1,_=>decide
  | 2,_=>decide
  | 3,_=>decide
 have cb:∀k,ib (cO ns k)<=1048600:=λk=>HX (vJ hb k) 'd'
 refine⟨by decide,by decide,by decide,λd=>match d with | .int k=>some (Hk (rw0 ns k.toNat)) | _=>none,λx hx=>?_,?_⟩
 ·obtain⟨k,hk,rfl⟩:=HW.mp hx;have hk:k<4:=Jk.mp hk;refine⟨by decide,by decide,by decide,λd=>match d with | .int j=>some (.int (cK ns k j.toNat)) | _=>none,λy hy=>?_,?_,?_⟩
  ·obtain⟨j,hj,rfl⟩:=HW.mp hy;walk_at "";exact⟨Hy (m:=3) (n:=3) 'd' (k8 k hk),ns,_,rfl,by omega,rfl,rfl⟩
  ·rw[aK _ (λi:Nat=>D.int (i:Int)) (λj:Nat=>D.int (cK ns k j)) _ (by intro _ _;rfl),HS]
   decide
  ·rw[aK _ (λi:Nat=>D.int (i:Int)) (λj:Nat=>D.int (cK ns k j)) _ (by intro _ _;rfl)];refine⟨cK ns k 0,cK ns k 1,cK ns k 2,cK ns k 3,cK ns k 4,rfl,λc hc=>?_,rfl,rfl⟩;simp only[List.mem_cons,List.not_mem_nil,or_false] at hc
   rcases hc with rfl | rfl | rfl | rfl | rfl<;>exact cb _
 rw[aK _ (λi:Nat=>D.int (i:Int)) (λk:Nat=>Hk (rw0 ns k)) _ (by intro _ _;rfl),hK1];refine ak λK2 hK2=>?_;walk_at "";refine⟨by decide,by decide,by decide,λd=>match d with | .int k=>some (Hk (rwK ns k.toNat)) | _=>none,λx hx=>?_,?_⟩
 ·obtain⟨k,hk,rfl⟩:=HW.mp hx;have hk:k<4:=Jk.mp hk;walk_at "";refine⟨Hy (m:=3) (n:=3) 'd' (k8 k hk),ns,_,rfl,by omega,?_⟩;walk_at "";refine⟨cnz 'd',?_⟩;have m0:=IV (cO ns (7+6*(k:Int))) (b:=2) 'd';have m1:=Jl (cO ns (7+6*(k:Int))) (b:=2) 'd';have gk:Hn ((List.range (Int.toNat 4)).map λk=>Hk (rw0 ns k)) (k:Int)=some (Hk (rw0 ns k)):=by
   rw[atL (f:=λk=>Hk (rw0 ns k)) (xs:=List.range (Int.toNat 4)) (k:=k) (by rw[Ji];exact hk),List.getElem_range]
  rcases(show (cO ns (7+6*(k:Int))).fmod 2=0\/(cO ns (7+6*(k:Int))).fmod 2=1 by omega) with h2 | h2<;>rw[h2]<;>walk_at ""<;>refine qAt.of gk ?_
  ·refine⟨λz=>absurd z.1 (show ¬ HT.sIx 3 0 (some 1)=0 by decide),?_⟩;show pD [.tup [.str "least"],.tup [.tup ((rw0 ns k).2.1.map Hh),.int (rw0 ns k).2.2]] _;refine⟨JZ _ _,JZ _ _,show 1+2<=9000 by decide,rfl,?_⟩;show Hk (rwK ns k)=_;unfold rwK;rw[Ir h2];rfl
  ·refine⟨λz=>absurd z.1 (show ¬ HT.sIx 3 0 (some 1)=0 by decide),?_⟩;show pD [.tup [.str "more"],.tup [.tup ((rw0 ns k).2.1.map Hh),.int (rw0 ns k).2.2]] _;refine⟨JZ _ _,JZ _ _,show 1+2<=9000 by decide,rfl,?_⟩;show Hk (rwK ns k)=_;unfold rwK;rw[Io 'b'];rfl
 rw[aK _ (λi:Nat=>D.int (i:Int)) (λk:Nat=>Hk (rwK ns k)) _ (by intro _ _;rfl),hK2];walk_at "";refine⟨ns,0,rfl,by decide,?_⟩;walk_at "";refine⟨(List.range 4).map (rwK ns),_,by rw[IU];rfl,by rw[HS,Ji],λr hr=>?_,q⟩;obtain⟨k,_,rfl⟩:=HW.mp hr;exact⟨zD.tm,zD.tb,HX (nX _) 'd'⟩
structure P4(i:Nat)(ps:Za)(L:Int)(T:Nat):Prop where
 len:ps.length=i
 ok:∀p∈ps,0<p.2/\p.2 ∣ L/\ib p.1<=T
theorem P4.snoc{i:Nat}{T:Nat}(h:P4 i ps L T){p:Int×Int}(hp:0<p.2/\p.2 ∣ L/\ib p.1<=T):P4 (i+1) (ps++[p]) L T :=
 ⟨by rw[Ij,h.len];rfl,λq hq=>(Ip.mp hq).elim (h.ok q) λz=>by rw[Ii.mp z];exact hp⟩
structure Pl(ks:Zb)(ps:Za)(L:Int)(g T:Nat):Prop where
 P:P4 ks.length ps L T
 L0:L≠0
 Lg:ib L<=g
theorem Pl.get{g T:Nat}(h:Pl ks ps L g T)(n:Str):∃x y:Int,(dAt ks (ps.map HM) n).getD (.tup [.int 0,.int 1])=.tup [.int x,.int y]/\0<y/\y ∣ L/\ib x<=T/\ib y<=g:=by
 have e:=de (ks:=ks) (ds:=ps) (x:=n) h.P.len.symm
 rw[jH]
 cases q:dAt ks ps n with
 | none=>exact⟨0,1,rfl,by decide,Int.one_dvd _,by rw[ib0];omega,HX (bN (Int.one_dvd L) h.L0 (Ib _)) h.Lg⟩
 | some p =>
  have hm:=kq q
  exact⟨p.1,p.2,rfl,(h.P.ok p hm).1,(h.P.ok p hm).2.1,(h.P.ok p hm).2.2,HX (bN (h.P.ok p hm).2.1 h.L0 (Ib _)) h.Lg⟩
theorem qZ.of{d:D}{ds:Zh}{k:Zb->Zh->Prop}(e:d=.fd ks ds\/d=.dct ks ds)(h:k ks ds):qZ d k:=by
 rcases e with rfl | rfl<;>exact h
inductive ie(ds:Zh)(R:D->Prop):Prop
 | mk (d e:D) (c:Int) (k1 k2:Zb) (p1 p2:Za) (L1 L2:Int) (hh:ds=[d,e,.int c]/\(d=.fd k1 (p1.map HM)\/d=.dct k1 (p1.map HM))/\(e=.fd k2 (p2.map HM)\/e=.dct k2 (p2.map HM))/\Pl k1 p1 L1 1300 30000/\Pl k2 p2 L2 40 200/\∀ps,Pl S4 ps (20*L1*L2) 1345 30060->R (.fd S4 (ps.map HM)))
theorem iJ:∀ds R,ie ds R->ds.length=3:=λ_ _ ⟨_,_,_,_,_,_,_,_,_,e,_⟩=>by rw[e];rfl
theorem bm:ax ["_law_one","_law_other","_law_cell_here","_law_share","_law_point","_law_name","_law_here","_law_there","_law_top"] ["_law_one","_law_other","_law_cell_here"] (aq s__law_mixed):=by walk_at "sc"
theorem fk(Z:Zz):Z.C 1 "_law_mixed" ["_law_one","_law_other","_law_cell_here"] (HN Z.K ie):=by
 refine cy Z.x48 bm iJ λfa cdv A outer s H E ds R hr h=>?_;have hU:=hr.units;refine⟨_,(ad (aA 3 bm.nd (aE lQ (aE eY (am 2) ap) ap)) (ad (fM 4 bm.nd) (ad (bu Iv rfl (a6 (ac aw (ac aw (ac aw (ac aw ae))))) (ar 5 bm.nd) (ad (aA 6 bm.nd (ub hU (am 0) (am 5) (aI (ac ap (ac ap ae))))) (ad (aA 7 bm.nd (ub hU (am 1) (am 5) (aI (ac ap (ac ap ae))))) (ad (aA 8 bm.nd (aE aY (aE bH (aE bH (Hg 6) (Hg 7)) (aE lQ ap (am 3))) (aE bH (aE bH (Hg 7) (Hg 6)) (am 3)))) (af (eF 4 hU (aI (ac (am 8) (ac (aE bH (aE bH ap (Hg 6)) (Hg 7)) ae))) (am 5))))))) (dM 4 (af (av (am 4))))))),?_⟩;obtain⟨d,e,c,k1,k2,p1,p2,L1,L2,rfl,ed,ee,hd,he,q⟩:=h;refine ak λK1 h1=>?_;walk_at "";refine⟨cnz 'd',?_⟩;rw[h1];obtain⟨g,hg,g0,g1⟩:∃g,c.fmod 41-10=g/\-10<=g/\g<=30:=by
  have s0:=IV c (b:=41) 'd'
  have s1:=Jl c (b:=41) 'd'
  exact⟨_,rfl,by omega,by omega⟩
 rw[hg];refine ak λK2 h2=>?_;walk_at "";intro pa;rw[h2];refine ak λK3 h3=>?_;refine bO λF N hF hN=>?_;walk_at "";simp only[ef];walk_at "";refine⟨λi δ=>∃ps x y z u,δ=[.dat d,.dat e,.dat (.int c),.dat (.int g),.own pa (.dct (S4.take i) (ps.map HM)),x,y,z,u]/\P4 i ps (20*L1*L2) 30060,⟨[],_,_,_,_,rfl,rfl,λ_ h=>(nomatch h)⟩,?_,?_⟩
 ·rintro i v δ hv ⟨ps,x,y,z,u,rfl,hp⟩;obtain⟨n,hn,rfl⟩:=dI (names:=S4) hv;obtain⟨x1,y1,e1,ao,an,ai,aa⟩:=hd.get n;obtain⟨x2,y2,e2,aj,al,ag,ab⟩:=he.get n;rw[hF];show dD _ _ _ _;refine cj λK4 h4=>?_;walk_at "";refine qZ.of ed ?_;walk_at "";rw[e1,h4];refine ak λK5 h5=>?_;walk_at "";refine qZ.of ee ?_;walk_at "";rw[e2,h5];refine ak λK6 h6=>?_;walk_at "";rw[h6];walk_at "";have ah:=jb tH hn;have sm:∀ {x:Int},-63<=x->x<=63->ib x<=6:=λh0 h1=>intBits_le_iff.mpr 'b';have b1:=Iz ai ab;have b2:=Iz ag aa;have b3:ib (20-g)<=6:=sm 'b' 'b';have b4:ib g<=6:=sm 'b' 'b';have b5:ib (20*y1)<=5+1300:=Iz 'd' aa;refine⟨Hy ai ab,Hy b1 b3,Hy ag aa,Hy b2 b4,Hy (m:=5) 'd' aa,Hy b5 ab,by rw[IH];have:S4.length=4:=rfl;omega,by rw[eP ah,aD hn],ps++[(x1*y2*(20-g)+x2*y1*g,20*y1*y2)],by rw[eR ah,IA];rfl,hp.snoc ⟨Int.mul_pos (Int.mul_pos 'd' ao) aj,Int.mul_dvd_mul (Int.mul_dvd_mul (Int.dvd_refl _) an) al,HX (JH (Iz b1 b3) (Iz b2 b4)) 'd'⟩⟩
 ·rintro δ ⟨ps,x,y,z,u,rfl,hp⟩;rw[hN,h3];walk_at "";exact q ps ⟨hp,IN (IN 'd' hd.L0) he.L0,HX (Iz (Iz (show ib 20<=5 by decide) hd.Lg) he.Lg) 'd'⟩
structure D4(i:Nat)(ps:Za):Prop where
 len:ps.length=i
 ok:∀p∈ps,0<p.2/\ib p.1<=200/\ib p.2<=10
theorem D4.snoc{i:Nat}(h:D4 i ps){p:Int×Int}(hp:0<p.2/\ib p.1<=200/\ib p.2<=10):D4 (i+1) (ps++[p]) :=
 ⟨by rw[Ij,h.len];rfl,λq hq=>(Ip.mp hq).elim (h.ok q) λz=>by rw[Ii.mp z];exact hp⟩
theorem D4.l(h:D4 4 ps):∃L,Pl S4 ps L 40 200:=by
 obtain⟨hl,ho⟩:=h
 match ps,hl with
 | [p,q,r,t],_ =>
  have w:=ho
  simp only[List.forall_mem_cons] at w;obtain⟨⟨a1,_,b1⟩,⟨a2,_,b2⟩,⟨a3,_,b3⟩,⟨a4,_,b4⟩,_⟩:=w;refine⟨p.2*(q.2*(r.2*t.2)),⟨⟨rfl,λx hx=>⟨(ho x hx).1,?_,(ho x hx).2.1⟩⟩,IN 'b' (IN 'b' (IN 'b' 'b')),Iz b1 (Iz b2 (Iz b3 b4))⟩⟩;simp only[List.mem_cons,List.not_mem_nil,or_false] at hx
  rcases hx with rfl | rfl | rfl | rfl
  ·exact KC ..
  ·exact JF (KC ..) (JC ..)
  ·exact JF (JF (KC ..) (JC ..)) (JC ..)
  ·exact JF (JF (JC ..) (JC ..)) (JC ..)
inductive iq(ds:Zh)(R:D->Prop):Prop
 | mk (cs:Ze) (hh:ds=[.lst (cs.map D.int)]/\cs.length=4/\(∀c∈cs,ib c<=1048600)/\∀ps L,Pl S4 ps L 40 200->R (.fd S4 (ps.map HM)))
theorem iG:∀ds R,iq ds R->ds.length=1:=λ_ _ ⟨_,e,_⟩=>by rw[e];rfl
theorem cF:ax ["_law_cells","_law_point","_law_name","_law_cell_here"] ["_law_cells"] (aq s__law_drawn):=by walk_at "sc"
theorem fe(Z:Zz):Z.C 1 "_law_drawn" ["_law_cells"] (HN Z.K iq):=by
 refine cy Z.x49 cF iG λfa cdv A outer s H E ds R hr h=>?_;have hU:=hr.units;refine⟨_,(ad (fM 1 cF.nd) (ad (ia Iv rfl (qU true true rfl Z.x59 (ac (a6 (ac aw (ac aw (ac aw (ac aw ae))))) (ac (am 0) ae))) (bJ (n:=2) rfl (aB (ar 2 cF.nd) (aB (ar 3 cF.nd) aW))) (af (eF 1 hU (aI (ac (aE lQ (aE eY (am 3) (aE aY (aE bH ap (aE xf ap ap)) ap)) (aE xf ap ap)) (ac (aE aY ap (aE eY (aE cJ (am 3) ap) ap)) ae))) (am 2)))) (dM 1 (af (av (am 1)))))),?_⟩;obtain⟨cs,rfl,h4,hc,q⟩:=h;refine ak λK1 h1=>?_;walk_at "";intro pa;rw[h1];refine ak λK2 h2=>?_;refine d6 λF N hF hN=>?_;walk_at "";simp only[lJ];walk_at "";have hz:sK [.str "a",.str "b",.str "c",.str "d"] (cs.map D.int)=(S4.zip cs).map λp=>.tup [.str p.1,.int p.2]:=by
  match cs,h4 with
  | [_,_,_,_],_=>rfl
 rw[hz];refine⟨λi δ=>∃ps x y,δ=[.dat (.lst (cs.map D.int)),.own pa (.dct (S4.take i) (ps.map HM)),x,y]/\D4 i ps,⟨[],_,_,rfl,rfl,λ_ h=>(nomatch h)⟩,?_,?_⟩
 ·rintro i v δ hv ⟨ps,x,y,rfl,hp⟩;rw[List.getElem?_map] at hv
  cases hn:(S4.zip cs)[i]? with
  | none=>rw[hn] at hv;cases hv
  | some p =>
   rw[hn] at hv
   cases hv
   obtain⟨n,c⟩:=p;obtain⟨hn,ab⟩:=List.getElem?_zip_eq_some.mp hn;have bc:=hc c (Im ab);have aa:=jb tH hn;rw[hF];show m8 _ _ (.tup [.str n,.int c]) _ _;walk_at "";have ag:(10:Int) ^ Int.toNat 30=1000000000000000000000000000000:=by decide +kernel
   rw[ag];have a0:=IV c (b:=2*1000000000000000000000000000000+1) 'd';have a1:=Jl c (b:=2*1000000000000000000000000000000+1) 'd';have a2:=IV (c.fdiv 7) (b:=1000) 'd';have a3:=Jl (c.fdiv 7) (b:=1000) 'd';refine⟨⟨by decide,by decide,by decide⟩,Hy (m:=200) (n:=200) 'd' 'g',cnz 'd',⟨by decide,by decide,by decide⟩,mY 'd' 'g',cnz 'd',by rw[IH];have:S4.length=4:=rfl;omega,by rw[eP aa,aD hn],ps++[(_,_)],by rw[eR aa,IA];rfl,hp.snoc ⟨?_,?_,?_⟩⟩
   ·show 0<1+(c.fdiv 7).fmod 1000
    omega
   ·exact HX ((intBits_le_iff (m:=110)).mpr (Jw (m:=1000000000000000000000000000000) (by show (c.fmod (2*1000000000000000000000000000000+1)-1000000000000000000000000000000).natAbs<=_;omega) 'g')) 'd'
   ·exact HX ((intBits_le_iff (m:=10)).mpr (by show (1+(c.fdiv 7).fmod 1000).natAbs<1024;omega)) 'd'
 ·rintro δ ⟨ps,x,y,rfl,hp⟩;have e4:((S4.zip cs).map λp=>D.tup [.str p.1,.int p.2]).length=4:=by rw[HS,Jh,h4];rfl
  rw[e4] at hp ⊢;rw[hN,h2];walk_at "";obtain⟨L,hL⟩:=hp.l;exact q ps L hL
structure Sz(S:Zb)(s:HR):Prop where
 dep:s.dep<=20
 ok:s.ok S
 bt:s.bt 64
 few:(s.pl false).num<=4/\(s.pl false).long<=3
theorem iB{S:Zb}{p:Str->Bool}:∀ {s:HR},s.ok S->(∀n∈s.nms,p n=true)->s.ok (S.filter p)
 | .row k ts b,h,hn=>⟨⟨by
   have e:(ts.map (·.1)).filter p=ts.map (·.1):=List.filter_eq_self.mpr hn
   rw[<- e];exact h.1.sub.filter p,h.1.nz,h.1.bits⟩,h.2⟩
 | .nt s,h,hn=>iB (s:=s) h hn
 | .bo s t,h,hn=>⟨iB h.1 λn z=>hn n (Il _ z),iB h.2 λn z=>hn n (Ig _ z)⟩
 | .ei s t,h,hn=>⟨iB h.1 λn z=>hn n (Il _ z),iB h.2 λn z=>hn n (Ig _ z)⟩
theorem Sz.two{S:Zb}{a b:HR}(ha:Sz S a)(hb:Sz S b)(pw:S.Pairwise leS)(nd:S.Nodup)(h4:S.length=4):∃nm,Two a b nm 64 4:=by
 have mem:∀n,n∈S.filter (λn=>decide (n∈a.nms\/n∈b.nms))↔n∈a.nms\/n∈b.nms:=λn=>by
  rw[Ia,decide_eq_true_iff];exact⟨λh=>h.2,λh=>⟨h.elim (HR.nms_sub ha.ok n) (HR.nms_sub hb.ok n),h⟩⟩
 have l4:(S.filter (λn=>decide (n∈a.nms\/n∈b.nms))).length<=4:=by rw[<- h4];exact IK ..
 exact⟨_,by have:=ha.dep;omega,by have:=hb.dep;omega,iB ha.ok λn h=>IC (.inl h),iB hb.ok λn h=>IC (.inr h),ha.bt,hb.bt,ha.few,hb.few,pw.filter _,nd.filter _,mem,l4,by decide,by decide,.inl (GW l4)⟩
theorem rg{P:HR->Prop}{f:HR->HR->HR}(hf:∀s t,P s->P t->P (f s t)):∀ {l:List HR},l≠[]->(∀s∈l,P s)->P (join f l)
 | [],hl,_=>absurd rfl hl
 | s::l,_,h=>by
  have go:∀(l:List HR) (s:HR),P s->(∀t∈l,P t)->P (l.foldl f s):=λl=>by
   induction l with
   | nil=>exact λs h _=>h
   | cons t l ih=>exact λs h h2=>ih (f s t) (hf s t h (h2 t (HY ..))) λu hu=>h2 u (HV _ hu)
  exact go l s (h s (HY ..)) λt ht=>h t (HV _ ht)
def HR.pts:HR->Nat
 | .row _ _ _=>1
 | .nt s=>s.pts+1
 | .bo s t=>s.pts+t.pts+1
 | .ei s t=>s.pts+t.pts+1
theorem HR.dep_pts:∀s:HR,s.dep<=s.pts
 | .row _ _ _=>Ib 1
 | .nt s=>Nat.succ_le_succ s.dep_pts
 | .bo s t=>by have:=s.dep_pts;have:=t.dep_pts;show max s.dep t.dep+1<=s.pts+t.pts+1;omega
 | .ei s t=>by have:=s.dep_pts;have:=t.dep_pts;show max s.dep t.dep+1<=s.pts+t.pts+1;omega
theorem sB{f:HR->HR->HR}(hf:∀s t,(f s t).pts=s.pts+t.pts+1){n:Nat}:∀ {l:List HR},l≠[]->(∀s∈l,s.pts<=n)->(join f l).pts<=(n+1)*l.length
 | [],hl,_=>absurd rfl hl
 | s::l,_,h=>by
  have go:∀(l:List HR) (s:HR) (m:Nat),s.pts<=m->(∀t∈l,t.pts<=n)->(l.foldl f s).pts<=m+(n+1)*l.length:=λl=>by
   induction l with
   | nil=>exact λs m h _=>h
   | cons t l ih =>
    intro s m h h2;have:=h2 t (HY ..);have:=ih (f s t) (m+(n+1)) (by rw[hf];omega) λu hu=>h2 u (HV _ hu);rw[Ik,Nat.mul_succ];show (l.foldl f (f s t)).pts<=_;omega
  have:=go l s n (h s (HY ..)) λt ht=>h t (HV _ ht)
  rw[Ik,Nat.mul_succ];show (l.foldl f s).pts<=_;omega
theorem ja:∀w:Zb,D.nds (w.map D.str)=true
 | []=>rfl
 | a::w=>by rw[Iy];simp only[D.nds,ja w];rfl
theorem iZ:∀w:Zb,D.dps (w.map D.str)<=60
 | []=>by decide
 | a::w=>by rw[Iy];have:=iZ w;simp only[D.dps,D.dp];omega
theorem BJ{xs ys:Zh}{R:D->Prop}:fEq [.lst xs,.lst ys] R=(((xs=ys/\D.nds xs=true/\D.dps xs<=60)/\R (.bl true))\/(xs.length≠ys.length/\R (.bl false))):=rfl
theorem BE{k l:Kd}(h:kdS k=kdS l):k=l:=by cases k<;>cases l<;>first | rfl | exact absurd h 'd'
theorem vy:∀ {a b:List (Str×Int)},a.map Hh=b.map Hh->a=b
 | [],[],_=>rfl
 | [],_::_,h=>by simp at h
 | _::_,[],h=>by simp at h
 | x::a,y::b,h=>by
  rw[Iy,Iy] at h
  injection h with h1 h2
  unfold Hh at h1;simp only[D.tup.injEq,List.cons.injEq,D.str.injEq,D.int.injEq,and_true] at h1;rw[vy h2,show x=y from Prod.ext h1.1 h1.2]
theorem HR.D_inj:∀ {s t:HR},s.D=t.D->s=t
 | .row k ts b,.row l us c,h=>by
  unfold HR.D gF at h;simp only[DL.D.tup.injEq,List.cons.injEq,DL.D.str.injEq,DL.D.int.injEq,and_true] at h;rw[BE h.1,vy h.2.1,h.2.2]
 | .nt s,.nt t,h=>by
  unfold HR.D at h;simp only[DL.D.tup.injEq,List.cons.injEq,and_true,true_and] at h;rw[HR.D_inj h]
 | .bo s u,.bo t v,h=>by
  unfold HR.D at h;simp only[DL.D.tup.injEq,List.cons.injEq,and_true,true_and] at h;rw[HR.D_inj h.1,HR.D_inj h.2]
 | .ei s u,.ei t v,h=>by
  unfold HR.D at h;simp only[DL.D.tup.injEq,List.cons.injEq,and_true,true_and] at h;rw[HR.D_inj h.1,HR.D_inj h.2]
 | .row k ts b,.nt t,h=>by unfold HR.D gF at h;simp at h
 | .row k ts b,.bo t v,h=>by unfold HR.D gF at h;simp at h;exact absurd h.1 (by cases k<;>decide)
 | .row k ts b,.ei t v,h=>by unfold HR.D gF at h;simp at h;exact absurd h.1 (by cases k<;>decide)
 | .nt t,.row k ts b,h=>by unfold HR.D gF at h;simp at h
 | .bo t v,.row k ts b,h=>by unfold HR.D gF at h;simp at h;exact absurd h.1 (by cases k<;>decide)
 | .ei t v,.row k ts b,h=>by unfold HR.D gF at h;simp at h;exact absurd h.1 (by cases k<;>decide)
 | .nt s,.bo t v,h=>by unfold HR.D at h;simp at h
 | .nt s,.ei t v,h=>by unfold HR.D at h;simp at h
 | .bo t v,.nt s,h=>by unfold HR.D at h;simp at h
 | .ei t v,.nt s,h=>by unfold HR.D at h;simp at h
 | .bo s u,.ei t v,h=>by unfold HR.D at h;simp at h;exact absurd h.1 'd'
 | .ei s u,.bo t v,h=>by unfold HR.D at h;simp at h;exact absurd h.1 'd'
noncomputable def HR.un (d:DL.D):HR:=@Classical.epsilon _ ⟨.row .least [] 0⟩ λs:HR=>s.D=d
theorem HR.un_D(s:HR):HR.un s.D=s:=HR.D_inj (Classical.epsilon_spec (p:=λt:HR=>t.D=s.D) ⟨s,rfl⟩)
theorem HR.two{s:HR}:(∃k ts b,s=.row k ts b)\/(∃u,s=.nt u)\/∃(w:Str) (u t:HR),(w="both"\/w="either")/\s.D=.tup [.str w,u.D,t.D]/\s.dep=max u.dep t.dep+1/\s.pts=u.pts+t.pts+1/\s.nms=u.nms++t.nms/\∀S,s.ok S->u.ok S/\t.ok S:=by
 cases s with
 | row k ts b=>exact .inl ⟨k,ts,b,rfl⟩
 | nt u=>exact .inr (.inl ⟨u,rfl⟩)
 | bo u t=>exact .inr (.inr ⟨_,u,t,.inl rfl,rfl,rfl,rfl,rfl,λ_ h=>h⟩)
 | ei u t=>exact .inr (.inr ⟨_,u,t,.inr rfl,rfl,rfl,rfl,rfl,λ_ h=>h⟩)
inductive bx(n:Nat)(ds:Zh)(R:D->Prop):Prop
 | mk (s:HR) (S tw:Zb) (hh:ds=[s.D,.lst (tw.map D.str)]/\s.dep<=n/\s.ok S/\S.Pairwise leS/\S.Nodup/\S.length<=4/\(∀x∈s.nms,x∈tw)/\R (.lst [.int s.pts,.int s.dep]))
theorem gS(n:Nat):∀ds R,bx n ds R->ds.length=2:=λ_ _ ⟨_,_,_,e,_⟩=>by rw[e];rfl
theorem gv:∀ds R,¬ bx 0 ds R:=λ_ _ ⟨s,_,_,_,h,_⟩=>by have:=s.dep_pos;omega
theorem bM:ax ["_law_saying","_law_names_here","_law_told","_law_term","_law_good_here","_law_within"] ["_law_saying","_law_names_here"] (aq s__law_formed):=by walk_at "sc"
theorem iT(Z:Zz){n:Nat}(mi:Z.C (2+n) "_law_formed" ["_law_saying","_law_names_here"] (HN Z.K (bx n))):Z.C (2+n+1) "_law_formed" ["_law_saying","_law_names_here"] (HN Z.K (bx (n+1))):=by
 refine cy (k:=2+n) Z.x50 bM (gS (n+1)) λfa cdv A outer s H E ds R hr h=>?_;have hU:=hr.units;refine⟨_,(ad (aP (DW.dt (eC (dH (br (j3 iW rfl Z.x65 rfl Z.x56 cT (am 0)))) (dQ (aC zA (aL gA rfl Z.x57 fK (ac (am 0) ae)) ap (ay _))))) (af (av (a6 (ac ap (ac ap ae))))) aF) (ad (aP (DW.dt (gg (aC (CW hU) (Hg 0) (a6 (ac aw (ac aw ae))) rfl) (gg (aC (dY hU) (aL gA rfl Z.x57 fK (ac (am 0) ae)) ap (ay _)) (gg (br (j3 iW rfl Z.x65 rfl Z.x56 cT (Hg 0))) (fA (br (au (cm Z) (hr.mono 'b') rfl (ac (Hg 0) ae)))))))) (ad (dz 2 bM.nd ae) (ad (gX Iv rfl (Hg 0) (ar 3 bM.nd) (ad (aP (DW.dt (eC (dH (br (j3 iW rfl Z.x65 rfl Z.x56 cT (am 3)))) (eC (aC (fT hU) (aL gA rfl Z.x57 fK (ac (am 3) ae)) ap (ay _)) (eC (dH (br (au (cm Z) (hr.mono 'b') rfl (ac (Hg 3) ae)))) (dQ (aC (dY hU) (Hg 3) ap (ay _))))))) (af (av (a6 (ac ap (ac ap ae))))) aF) (af (a8 2 (Hg 3))))) (bB 2 (ad (aA 4 bM.nd (cR (dY hU) (aL gA rfl Z.x57 fK (ac (bq ["_law_name"] [(1,"_law_names_here")] rfl rfl 'g' rfl 'g' (ba ⟨rfl,trivial⟩) (λ_=>be rfl) (aN ⟨⟨rfl,rfl,.inl rfl⟩,trivial⟩) (dg (am 2)) λ_ _ _ _ _=>⟨(ar 0 (show List.Nodup (["_law_name","_law_names_here"]:Zb) by decide +kernel)),(ff (aC (CW hU) (am 0) (am 1) rfl)),(am 0)⟩) ae)) (aL gA rfl Z.x57 fK (ac (am 2) ae)) (ay _))) (af (av (a6 (ac (gq gl (a6 (ac ap (ac ap ae))) (cQ Gr rfl Z.x67 DY (ac (kQ (am 4) (fc (cR (dY hU) (am 2) (Fm rfl rfl Z.x55 rfl Z.x68 (am 2)) (ay _)))) ae)) (λ_ _=>rfl)) (ac ap ae))))))))) aF) (ad (aP (DW.dt (eC (DW.dt (gg (aC (dY hU) (Hg 0) aw (ay _)) (fA (aC (fT hU) (aL gA rfl Z.x57 fK (ac (am 0) ae)) ap (ay _))))) (dQ (DW.dt (gg (aC (CW hU) (Hg 0) (a6 (ac aw (ac aw ae))) rfl) (fA (aC (fT hU) (aL gA rfl Z.x57 fK (ac (am 0) ae)) ap (ay _)))))))) (af (av (a6 (ac ap (ac ap ae))))) aF) (ad (aP (aC (lC hU) (Hg 0) (a6 (ac aw (ac aw (ac aw ae)))) rfl) (af (av (a6 (ac ap (ac ap ae))))) aF) (ad (dJ 5 bM.nd ["_law_part"] [(1,"_law_names_here")] rfl rfl 'g' rfl 'g' (ba ⟨rfl,trivial⟩) (λ_=>be rfl) (aN ⟨⟨rfl,rfl,.inl rfl⟩,trivial⟩) (mQ (fZ (am 0) (cU ap) fG)) λ_ _ _ _ _=>⟨(ar 0 (show List.Nodup (["_law_part","_law_names_here"]:Zb) by decide +kernel)),cD,(au mi (hr.mono 'b') rfl (ac (am 0) (ac (am 1) ae)))⟩) (af (av (a6 (ac (aE aY ap (aL (GZ rfl) rfl Z.x69 FG (ac (bq ["_law_row_here"] [] rfl rfl 'g' rfl 'g' (ba trivial) (λ_=>be rfl) (aN trivial) (dg (am 5)) λ_ _ _ _ _=>⟨(ar 0 (show List.Nodup (["_law_row_here"]:Zb) by decide +kernel)),cD,(Hg 0)⟩) ae))) (ac (aE aY ap (aL (DH rfl) rfl Z.x58 Dv (ac (bq ["_law_row_here"] [] rfl rfl 'g' rfl 'g' (ba trivial) (λ_=>be rfl) (aN trivial) (dg (am 5)) λ_ _ _ _ _=>⟨(ar 0 (show List.Nodup (["_law_row_here"]:Zb) by decide +kernel)),cD,(Hg 0)⟩) ae))) ae)))))))))),?_⟩
 obtain⟨s,S,tw,rfl,hd,ok,pw,nd,hl,aa,q⟩:=h;refine ak λK1 h1=>?_
 rcases s.two with⟨k,ts,b,rfl⟩ | ⟨s,rfl⟩ | ⟨w,u,t,hw,e,e1,e2,e3,e4⟩
 ·have tl:=ok.1.sub.length_le
  rw[HS] at tl;unfold HR.D gF;walk_at "";refine Hz 'd' ?_;rw[h1];refine ak λK2 h2=>?_;refine uH λI1 I2 hI1 hI2=>?_;walk_at "";refine⟨["least","more"],rfl,ifp (by cases k<;>decide) (ifp rfl ⟨b,rfl,?_⟩)⟩
  walk_at "";rw[hI1];refine ak λK3 h3=>?_;walk_at "";intro ta;rw[h3];refine ak λK4 h4=>?_;refine yD λF N hF hN=>?_;walk_at "";simp only[zx];walk_at "";refine⟨λi δ=>∃x,δ=[.dat (.tup [.str (kdS k),.tup (ts.map Hh),.int b]),.dat (.lst (tw.map D.str)),.own ta (.lst ((ts.take i).map λt=>.str t.1)),x,.no,.no],⟨_,rfl⟩,?_,?_⟩
  ·rintro i d δ hd ⟨x,rfl⟩;obtain⟨t,ht,rfl⟩:=dB hd;have ab:=Im ht;rw[hF];walk_at "";refine Hz (λz=>z rfl) ⟨t.2,rfl,?_⟩;walk_at "";refine Hz (ok.1.nz t ab) ⟨by rw[HS,IH];omega,?_⟩;rw[aD ht,IA];rfl
  ·rintro δ ⟨x,rfl⟩;rw[HS,ID,hN,h4];walk_at "";refine⟨by rw[HS];omega,some,λx hx=>?_,?_⟩
   ·obtain⟨t,ht,rfl⟩:=HW.mp hx;walk_at "";exact⟨tw,rfl,ifp (IC (aa _ (HW.mpr ⟨t,ht,rfl⟩))) trivial⟩
   ·refine ifp (by rw[List.filterMap_some]) ⟨ts.map (·.1),by rw[IU];rfl,by rw[HS];omega,λss' n' m' st=>?_⟩;have es:=r6 st n' (pw.sublist ok.1.sub) (nd.sublist ok.1.sub) m';subst es;rw[BJ,List.filterMap_some,IC rfl,show ts.map (λt=>D.str t.1)=(ts.map (·.1)).map D.str by rw[IU];rfl];refine .inl ⟨⟨rfl,ja _,iZ _⟩,?_⟩;walk_at "";exact q
 ·unfold HR.D;walk_at "";refine Hz 'd' ?_;rw[h1];refine ak λK2 h2=>?_;refine uH λI1 I2 hI1 hI2=>?_;walk_at "";refine⟨["least","more"],rfl,Hz 'd' ?_⟩;rw[hI2];walk_at "";rw[h2];refine ak λK3 h3=>?_;walk_at "";refine Hz (λz=>z rfl) ⟨["both","either"],rfl,Hz 'd' ?_⟩;rw[h3];refine ak λK4 h4=>?_;walk_at "";refine⟨["not","both","either"],rfl,Hz 'd' ?_⟩;rw[h4];refine ak λK5 h5=>?_;walk_at "";rw[i9];refine⟨λz=>absurd z.1 'd',by show 1<=9000;decide,λd=>some (.lst [.int (HR.un d).pts,.int (HR.un d).dep]),λx hx=>?_,?_⟩
  ·rw[Ii.mp hx];refine⟨s,S,tw,rfl,Nat.le_of_succ_le_succ hd,ok,pw,nd,hl,aa,rfl,by simp only[HR.un_D]⟩
  rw[h5];simp only[List.filterMap_cons,List.filterMap_nil,HR.un_D];walk_at "";refine⟨λd=>match d with | .lst (x::_)=>some x | _=>none,λx hx=>?_,[(s.pts:Int)],rfl,λd=>match d with | .lst [_,y]=>some y | _=>none,λx hx=>?_,[(s.dep:Int)],rfl,Ks _,λM hM hM2=>?_⟩
  ·rcases hx with rfl | hx
   ·walk_at ""
   ·exact hx.elim
  ·rcases hx with rfl | hx
   ·walk_at ""
   ·exact hx.elim
  have:M=s.dep:=by simpa using hM
  have e1:1+[(s.pts:Int)].sum=((s.pts+1:Nat):Int):=by simp;omega
  have e2:1+M=((s.dep+1:Nat):Int):=by omega
  rw[e1,e2];exact q
 ·rw[e];have w1:w≠"least"/\w≠"more"/\w≠"not":=by rcases hw with rfl | rfl<;>decide
  walk_at "";refine Hz 'd' ?_;rw[h1];refine ak λK2 h2=>?_;refine uH λI1 I2 hI1 hI2=>?_;walk_at "";refine⟨["least","more"],rfl,Hz (λz=>by simp[w1] at z) ?_⟩;rw[hI2];walk_at "";rw[h2];refine ak λK3 h3=>?_;walk_at "";refine Hz w1.2.2 ⟨["both","either"],rfl,ifp (by simpa using hw) (Hz (λz=>z rfl) ?_)⟩;rw[h3];refine ak λK4 h4=>?_;walk_at "";refine⟨["not","both","either"],rfl,Hz (by rcases hw with rfl | rfl<;>decide) ?_⟩
  rw[h4];refine ak λK5 h5=>?_;walk_at "";rw[i9];refine⟨λz=>absurd z.1 'd',by show 2<=9000;decide,λd=>some (.lst [.int (HR.un d).pts,.int (HR.un d).dep]),λx hx=>?_,?_⟩
  ·have:=e4 _ ok
   rw[e3] at aa
   rcases Ih.mp hx with rfl | hx
   ·refine⟨u,S,tw,rfl,by omega,this.1,pw,nd,hl,λx hx=>aa x (Il _ hx),rfl,by simp only[HR.un_D]⟩
   ·rw[Ii.mp hx];refine⟨t,S,tw,rfl,by omega,this.2,pw,nd,hl,λx hx=>aa x (Ig _ hx),rfl,by simp only[HR.un_D]⟩
  rw[h5];simp only[List.filterMap_cons,List.filterMap_nil,HR.un_D];walk_at "";refine⟨λd=>match d with | .lst (x::_)=>some x | _=>none,λx hx=>?_,[(u.pts:Int),(t.pts:Int)],rfl,λd=>match d with | .lst [_,y]=>some y | _=>none,λx hx=>?_,[(u.dep:Int),(t.dep:Int)],rfl,Ks _,λM hM hM2=>?_⟩
  ·rcases hx with rfl | rfl | hx
   ·walk_at ""
   ·walk_at ""
   ·exact hx.elim
  ·rcases hx with rfl | rfl | hx
   ·walk_at ""
   ·walk_at ""
   ·exact hx.elim
  have h1:=hM2 u.dep 'p'
  have h2:=hM2 t.dep 'p'
  have:M=u.dep\/M=t.dep:=by simpa using hM
  have e5:1+[(u.pts:Int),(t.pts:Int)].sum=((s.pts:Nat):Int):=by rw[e2];simp;omega
  have e6:1+M=((s.dep:Nat):Int):=by rw[e1];omega
  rw[e5,e6];exact q
theorem j7(Z:Zz):Z.C 62 "_law_formed" ["_law_saying","_law_names_here"] (HN Z.K (bx 60)):=Nat.rec (motive:=λn=>Z.C (2+n) "_law_formed" ["_law_saying","_law_names_here"] (HN Z.K (bx n))) (eO Z.x50 _ gv) (λ_=>iT Z) 60
inductive cX(ds:Zh)(R:D->Prop):Prop
 | mk (p:Int×Int) (hh:ds=[HM p]/\Low p.1 p.2/\R (.bl true))
theorem dW:∀ds R,cX ds R->ds.length=1:=λ_ _ ⟨_,e,_⟩=>by rw[e];rfl
theorem bh:ax ["_law_found","_law_one","_law_other"] ["_law_found"] (aq s__law_is_fraction):=by walk_at "sc"
theorem eW(Z:Zz):Z.C 2 "_law_is_fraction" ["_law_found"] (HN Z.K cX):=by
 refine cy Z.x51 bh dW λfa cdv A outer s H E ds R hr h=>?_;have hU:=hr.units;refine⟨_,(ad (aP (DW.dt (eC (dH (br (j3 iW rfl Z.x65 rfl Z.x56 cT (am 0)))) (eC (aC (fT hU) (aL gA rfl Z.x57 fK (ac (am 0) ae)) ap (ay _)) (eC (dH (br (au (cm Z) (rm hr) rfl (ac (Hg 0) ae)))) (dQ (dH (br (au (cm Z) (rm hr) rfl (ac (Hg 0) ae))))))))) (af (av kh)) aF) (ad (aP (aC zA (Hg 0) ap (ay _)) (af (av kh)) aF) (ad (rf (am 0) (bJ (n:=2) rfl (aB (ar 1 bh.nd) (aB (ar 2 bh.nd) aW)))) (ad (lP Iv (aC (fT hU) (am 2) ap (ay _)) (af (zC 1 2 rfl bh.nd 'd' (ac (am 2) (ac (aE eY (am 1) (am 2)) ae))))) (af (av (cR (dY hU) (aL yV rfl Z.x54 yw (ac (am 1) ae)) ap (ay _)))))))),?_⟩;obtain⟨⟨x,y⟩,rfl,lo,q⟩:=h;have y0:0<y:=lo.pos;unfold HM;refine ak λK1 hK1=>?_;walk_at "";refine Hz (λz=>z rfl) ⟨x,rfl,?_⟩;walk_at "";refine⟨y,rfl,?_⟩;walk_at "";rw[hK1];refine ak λK2 hK2=>?_;walk_at "";refine Hz 'b' ?_;rw[hK2];refine ak λK3 hK3=>?_;walk_at "";rw[hK3];refine⟨λδ=>∃a b,δ=[.dat (.tup [.int x,.int y]),.dat (.int a),.dat (.int b)]/\gc a b=gc x y,λδ=>match δ with | [_,_,.dat (.int b)]=>b.natAbs | _=>0,⟨x,y,rfl,rfl⟩,?_⟩;rintro δ ⟨a,b,rfl,e⟩;walk_at "";refine eQ (λc=>?_) (λc=>?_)
 ·exact⟨c,(o6 a b).trans e,dr a b c⟩
 ·have c:=JV.mp c
  subst c;rw[pJ,lo.cop] at e;rw[IC e];exact q
inductive cZ(ds:Zh)(R:D->Prop):Prop
 | mk (a:HR) (nm kp pk ks:Zb) (pv ps:Za) (T0 T1:Nat) (hh:ds=[a.D,.lst (kp.map D.str),.fd pk (pv.map HM),.fd ks (ps.map HM)]/\a.dep<=50/\a.ok nm/\nm.Pairwise leS/\nm.Nodup/\nm.length<=4/\ks.Nodup/\(∀n,n∈ks↔n∈a.nms)/\Pt pk pv T0/\Pt ks ps T1/\Pk ks ps/\(∀n∈ks,n∈kp->n∈pk/\fO ks ps n=fO pk pv n)/\a.tv (pT ks ps) 'w'=true/\R (.bl true))
theorem dX:∀ds R,cZ ds R->ds.length=4:=λ_ _ ⟨_,_,_,_,_,_,_,_,_,e,_⟩=>by rw[e];rfl
theorem cS:ax ["_law_saying","_law_kept","_law_point","_law_found","_law_name"] ["_law_saying","_law_kept","_law_point","_law_found"] (aq s__law_filled_good):=by walk_at "sc"
theorem eX(Z:Zz):Z.C 64 "_law_filled_good" ["_law_saying","_law_kept","_law_point","_law_found"] (HN Z.K cZ):=by
 refine cy Z.x52 cS dX λfa cdv A outer s H E ds R hr h=>?_;have hU:=hr.units;refine⟨_,(ad (aP (DW.dt (eC (dH (br (j3 Al rfl Z.x65 rfl Z.x63 y8 (am 3)))) (dQ (aC (fT hU) (aL (lU rfl) rfl Z.x55 iU (ac (am 3) ae)) (au (fm Z) (rm hr) rfl (ac (am 0) ae)) (ay _))))) (af (av kh)) aF) (ad (ia Iv rfl (zc (am 3)) (ar 4 cS.nd) (af (aP (DW.dt (eC (dH (br (au (eW Z) (rm hr) rfl (ac (cB hU (am 3) (am 4) (λ_ _=>rfl)) ae)))) (dQ (DW.dt (gg (aC (CW hU) (am 4) (am 1) rfl) (fA (aC (fT hU) (cB hU (am 3) (am 4) (λ_ _=>rfl)) (cB hU (am 2) (am 4) (λ_ _=>rfl)) (ay _)))))))) (af (av kh)) aF))) (af (av (au (cL Z) (rm hr) rfl (ac (am 0) (ac (am 3) ae))))))),?_⟩;obtain⟨a,nm,kp,pk,ks,pv,ps,T0,T1,rfl,dep,ok,pw,nd,n4,ab,mem,P0,P1,ag,same,so,q⟩:=h;have kl:ks.length<=4:=HX (gy ab λx hx=>HR.nms_sub ok x ((mem x).mp hx)) n4;refine ak λK1 hK1=>?_;walk_at "";refine⟨by omega,λs0 pm st=>⟨a,nm,rfl,by omega,ok,pw,nd,n4,λs1 n1 m1 p1=>?_⟩⟩;have es:s0=s1:=lX (nH st) p1 (pm.nodup_iff.mpr ab) n1 λn=>by rw[pm.mem_iff,mem n,m1 n]
 walk_at "";refine⟨by rw[es],ja _,iZ _,?_⟩;rw[hK1];refine ak λK2 hK2=>?_;refine d6 λFb N hF hN=>?_;walk_at "";simp only[lJ];walk_at "";refine⟨λi δ=>∃y,δ=[.dat a.D,.dat (.lst (kp.map D.str)),.dat (.fd pk (pv.map HM)),.dat (.fd ks (ps.map HM)),y],⟨_,rfl⟩,?_,?_⟩
 ·rintro i d δ hd ⟨y,rfl⟩;obtain⟨n,hn,rfl⟩:=dI hd;have aa:=Im hn;rw[hF];walk_at "";refine⟨_,P1.D aa,(pT ks ps n,pB ks ps n),rfl,P1.Low aa,?_⟩;walk_at "";refine⟨kp,rfl,eQ (λh1=>?_) λh1=>⟨_,rfl⟩⟩;obtain⟨h2,h3⟩:=same n aa (IR h1);refine⟨_,P1.D aa,_,P0.D h2,?_⟩;have e1:pT ks ps n=pT pk pv n:=by unfold pT;rw[h3]
  have e2:pB ks ps n=pB pk pv n:=by unfold pB;rw[h3]
  rw[e1,e2];walk_at "";exact⟨rfl,by show max 0 (max 0 0)<=60;decide,_,rfl⟩
 ·rintro δ ⟨y,rfl⟩;rw[hN,hK2];walk_at "";refine⟨a,ks,ps,nm,rfl,by omega,ok,nd,by omega,λx hx=>(mem x).mpr hx,ag,?_⟩;rw[so];exact q
theorem yd{y:Str->Rat}(h:∀t∈r.2.1,x t.1=y t.1):HJ x r↔HJ y r:=by unfold HJ;rw[kR h]
theorem rA{w:Ze}{y:Str->Rat}(hw:w∈Hi rows ns)(h:∀n∈nm,n∉ns->x n=y n):HJ x (HG nm rows w)↔HJ y (HG nm rows w) :=
 yd λt ht=>let ⟨h1,h2,_⟩:=jY ht;h _ h1 λz=>h2 ((ca hw).2 _ z)
theorem CH(H:Rws nm rows)(h:∀r∈rows,HJ x r){w:Ze}(hw:w∈Hi rows ns):HJ x (HG nm rows w):=by
 obtain⟨e1,e2⟩:=zQ (x:=x) (l:=rows.zip w) λp hp=>⟨h _ (IT hp).1,(ca hw).1.nn _ (IT hp).2⟩;refine(qQ H).mpr ?_
 cases e:Hw 'f' with
 | true=>exact .inl (e2 e)
 | false =>
  by_cases z:evl x 'f'=0
  ·exact .inr ⟨z,rfl⟩
  ·exact .inl (by grind)
theorem AL(hA:A≠[]):(shS nm ns A).sx x↔∃c∈A,∀w∈Hi c ns,HJ x (HG nm c w):=by
 have hc:∀c,(shC nm ns c).sx x↔∀w∈Hi c ns,HJ x (HG nm c w):=λc=>by
  unfold shC shR
  by_cases z:Hi c ns=[]
  ·rw[Ir z,uk 'p',z];refine⟨λ_ w h=>(nomatch h),λ_ t ht=>?_⟩;obtain⟨r,hr,rfl⟩:=HW.mp ht;rw[Ii.mp hr];show HJ x (.least,[],0);unfold HJ;exact Rat.le_refl
  ·rw[Io z,uk (by simpa using z)]
   constructor
   ·exact λh w hw=>h _ (HW.mpr ⟨_,HW.mpr ⟨w,hw,rfl⟩,rfl⟩)
   ·intro h t ht;obtain⟨r,hr,rfl⟩:=HW.mp ht;obtain⟨w,hw,rfl⟩:=HW.mp hr;exact h w hw
 unfold shS;rw[CF (by simpa using hA)]
 constructor
 ·rintro⟨t,ht,h⟩;obtain⟨c,aa,rfl⟩:=HW.mp ht;exact⟨c,aa,(hc c).mp h⟩
 ·rintro⟨c,aa,h⟩;exact⟨_,HW.mpr ⟨c,aa,rfl⟩,(hc c).mpr h⟩
theorem vE{α:Type}{l:Zb}{q:List α}:∀ {ks:Zb} {ps:List α},ps.length=ks.length->n∈ks->dAt (ks++l) (ps++q) n=dAt ks ps n
 | [],_,_,h=>nomatch h
 | k::ks,[],h,_=>nomatch h
 | k::ks,p::ps,h,hn=>by
  show (if k=n then some p else dAt (ks++l) (ps++q) n)=if k=n then some p else dAt ks ps n
  by_cases e:k=n
  ·rw[Ir e,Ir e]
  ·rw[Io e,Io e];exact vE (by simpa using h) ((Ih.mp hn).resolve_left λz=>e z.symm)
def lwn(ps:Za)(n:Str):Int×Int:=(HD (pT S4 ps n) (pB S4 ps n),Hf (pT S4 ps n) (pB S4 ps n))
theorem jq{f:Str->Int×Int}(h:n∈ks):fO ks (ks.map f) n=f n:=by unfold fO;rw[df f h];rfl
theorem Pl.at{g T:Nat}(h:Pl S4 ps L g T)(hn:n∈S4):0<pB S4 ps n/\pB S4 ps n ∣ L/\ib (pT S4 ps n)<=T:=by
 have e:=de (ks:=S4) (ds:=ps) (x:=n) h.P.len.symm
 rw[IC hn] at e;unfold pB pT fO
 cases q:dAt S4 ps n with
 | none=>rw[q] at e;cases e
 | some p=>exact h.P.ok p (kq q)
theorem rW{g T:Nat}(h:Pl S4 ps L g T)(hn:n∈S4):Low (lwn ps n).1 (lwn ps n).2/\(lwn ps n).2 ∣ L/\ib (lwn ps n).1<=T/\ib (lwn ps n).2<=g/\HF (lwn ps n)=HF (fO S4 ps n):=by
 obtain⟨h1,h2,h3⟩:=h.at hn;have hd:(lwn ps n).2 ∣ L:=JF ⟨_,(ou (pT S4 ps n) (pB S4 ps n)).symm⟩ h2;exact⟨eJ _ 'b',hd,xp h3,HX (bN hd h.L0 (Ib _)) h.Lg,ik _ 'b'⟩
theorem Cw{g T:Nat}(h:Pl S4 ps L g T)(hg:g<=T)(hk:∀n∈ks,n∈S4):Pt ks (ks.map (lwn ps)) T:=by
 refine⟨HS _,λp hp=>?_,λp hp=>?_,λp hp=>?_⟩<;>obtain⟨n,hn,rfl⟩:=HW.mp hp<;>obtain⟨a,_,b,c,_⟩:=rW h (hk n hn)
 ·exact a
 ·exact b
 ·exact HX c hg
theorem lw_R{g T:Nat}(h:Pl S4 ps L g T)(hn:n∈ks)(hS:n∈S4):Hx ks (ks.map (lwn ps)) n=Hx S4 ps n:=by
 unfold Hx;rw[jq hn];exact(rW h hS).2.2.2.2
theorem lR{q:Str->Int}{g:Nat}:∀ {l:Zb},(∀n∈l,ib (q n)<=g)->ib (Hl q l)<=g*l.length+1
 | [],_=>by show ib 1<=1;decide
 | n::l,h=>by
  have:=Iz (h n (HY ..)) (lR (q:=q) (l:=l) λk hk=>h k (HV _ hk))
  show ib (q n*Hl q l)<=g*(l.length+1)+1
  rw[Nat.mul_succ];unfold ib;omega
theorem pF{kp:Zb}:∀l:Zb,(out l kp).length+(HE l kp).length=l.length
 | []=>rfl
 | n::l=>by
  have:=pF (kp:=kp) l
  unfold out HE at *;rw[KP,KP]
  by_cases h:n∈kp
  ·simp only[h,not_true_eq_false,decide_false,decide_true,if_true,List.length_cons];simp only[Bool.false_eq_true,if_false];omega
  ·simp only[h,not_false_eq_true,decide_false,decide_true,if_true,List.length_cons];simp only[Bool.false_eq_true,if_false];omega
theorem Ae:∀ {l:Nat},l<=4->rl (cb 34 6) l 1 1 0=true
 | 0,_=>by decide
 | 1,_=>by decide
 | 2,_=>by decide
 | 3,_=>by decide
 | 4,_=>by decide
theorem fitK:∀ {l k:Nat},l+(k+1)<=4->rl (cb 34 6) l (1345*(k+1)+1) 1345 30060=true
 | 0,0,_=>by decide
 | 0,1,_=>by decide
 | 0,2,_=>by decide
 | 0,3,_=>by decide
 | 1,0,_=>by decide
 | 1,1,_=>by decide
 | 1,2,_=>by decide
 | 2,0,_=>by decide
 | 2,1,_=>by decide
 | 3,0,_=>by decide
 | 0,k+4,h=>absurd h 'b'
 | 1,k+3,h=>absurd h 'b'
 | 2,k+2,h=>absurd h 'b'
 | 3,k+1,h=>absurd h 'b'
 | l+4,k,h=>absurd h 'b'
theorem ET(h:Pl S4 ps L 1345 30060)(hS:∀n∈nm,n∈S4)(l4:nm.length<=4):∃κ g T L',Kn 34 (out nm kp).length (HE nm kp) ((HE nm kp).map (lwn ps)) κ g T L':=by
 have hk:∀n∈HE nm kp,n∈S4:=λn hn=>hS n (Ia.mp hn).1
 have ol:=pF (kp:=kp) nm
 cases e:HE nm kp with
 | nil =>
  rw[e] at ol;exact⟨1,1,0,1,⟨rfl,λ_ h=>(nomatch h),λ_ h=>(nomatch h),λ_ h=>(nomatch h)⟩,by show ib 1<=1;decide,by decide,λ_ h=>(nomatch h),by decide,Ae 'b'⟩
 | cons n r =>
  rw[e] at ol hk;rw[Ik] at ol;refine⟨_,1345,30060,L,Cw h 'd' hk,lR (g:=1345) λk hkk=>?_,h.L0,λk hkk=>?_,h.Lg,fitK (l:=(out nm kp).length) (k:=r.length) 'b'⟩
  ·unfold pB;rw[jq hkk];exact(rW h (hk k hkk)).2.2.2.1
  ·unfold pB;rw[jq hkk];exact(rW h (hk k hkk)).2.1
theorem De{a:HR}(T:Two a a nm 34 4)(hS:∀n∈nm,n∈S4)(h:Pl S4 ps L 1345 30060) :
  (fil nm (out nm kp) (HE nm kp) ((HE nm kp).map (lwn ps)) (a.pl false).kr=.non/\¬ (shS nm (out nm kp) (a.pl false).kr).sx (Hx S4 ps)) \/
  ∃q,fil nm (out nm kp) (HE nm kp) ((HE nm kp).map (lwn ps)) (a.pl false).kr=.dct (HE nm kp++out nm kp) (q.map HM)/\(shS nm (out nm kp) (a.pl false).kr).sx (Hx S4 ps)/\Pt (HE nm kp++out nm kp) q 1000000/\ib (Hl (pB (HE nm kp++out nm kp) q) (HE nm kp++out nm kp))<=7990/\(∀n∈HE nm kp,fO (HE nm kp++out nm kp) q n=lwn ps n)/\a.sx (Hx (HE nm kp++out nm kp) q):=by
 obtain⟨κ,g,T',L',kn⟩:=ET (kp:=kp) h hS (HX T.len T.n4);have nA:(a.pl false).kr≠[]:=λz=>by have:=HR.kr_num (s:=a.pl false) HR.pl_pn;rw[z] at this;have:=(a.pl false).num_pos;simp at *;omega
 have fit:=λ{c} hc=>(T.fit (c:=c) (d:=c) hc hc).1.left
 have n4:=T.n4
 have nl:=T.len
 have ol:(out nm kp).length<=4:=HX (IK ..) nl
 have nk:∀n,n∈nm->n∉out nm kp->n∈HE nm kp:=λn h1 h2=>Ia.mpr ⟨h1,IC (Ic λz=>h2 (Ia.mpr ⟨h1,IC z⟩))⟩
 have ag:∀n∈nm,n∉out nm kp->Hx (HE nm kp) ((HE nm kp).map (lwn ps)) n=Hx S4 ps n:=λn h1 h2=>lw_R h (nk n h1 h2) (hS n h1)
 have fl:∀c∈(a.pl false).kr,flC nm (out nm kp) (HE nm kp) ((HE nm kp).map (lwn ps)) c=true↔∀w∈Hi c (out nm kp),HJ (Hx S4 ps) (HG nm c w):=λc hc=>by
  unfold flC;rw[List.all_eq_true];refine forall_congr' λw=>forall_congr' λhw=>?_;rw[HR.tv_sx λn hn=>kn.P.pos (nk n ((tD (fit hc) ol hw).2 n hn).1 ((tD (fit hc) ol hw).2 n hn).2)];exact rA hw ag
 unfold fil
 cases e:(a.pl false).kr.find? (flC nm (out nm kp) (HE nm kp) ((HE nm kp).map (lwn ps))) with
 | none =>
  refine .inl ⟨rfl,λz=>?_⟩;obtain⟨c,hc,w⟩:=(AL nA).mp z;exact List.find?_eq_none.mp e c hc ((fl c hc).mpr w)
 | some c =>
  have hc:=List.mem_of_find?_eq_some e
  have hf:flC nm (out nm kp) (HE nm kp) ((HE nm kp).map (lwn ps)) c=true:=by have:=List.find?_some e;exact this
  have so:=(fl c hc).mp hf
  have ab:∀w∈Hi c (out nm kp),HJ (Hx (HE nm kp) ((HE nm kp).map (lwn ps))) (HG nm c w):=λw hw=>(rA hw ag).mpr (so w hw)
  have nd:(HE nm kp++out nm kp).Nodup:=Jp.mpr ⟨T.nd.filter _,T.nd.filter _,λx hx y hy z=>by rw[<- z] at hy;exact IR (Ia.mp hy).2 (IR (Ia.mp hx).2)⟩
  have aa:∀n∈nm,n∈HE nm kp\/n∈out nm kp:=λn hn=>(Classical.em (n∈out nm kp)).elim .inr λz=>.inl (nk n hn z)
  obtain⟨L2,S⟩:=wm (fit hc) (out nm kp) (HE nm kp) _ κ g T' L' ⟨kn.P,kn.hκ,kn.L0,kn.hL,kn.hg,kn.fq,ab⟩ nd (by have:=pF (kp:=kp) nm;rw[Ij];omega) aa;have hq:=uP S.fq;obtain⟨_,_,⟨dA,er⟩,d⟩:=vT (fit hc).H (out nm kp) (HE nm kp) _ kn.P.len kn.P.low nd aa ab;refine .inr ⟨_,rfl,(AL nA).mpr ⟨c,hc,so⟩,S.P.mono hq.2,HX S.hκ hq.1,λn hn=>?_,?_⟩
  ·rw[<- er];unfold fO;rw[vE kn.P.len hn,df _ hn];rfl
  ·have all:∀r∈c,HJ (Hx (HE nm kp++out nm kp) (fbk nm c (out nm kp) (HE nm kp) ((HE nm kp).map (lwn ps)))) r:=λr hr=>by
    obtain⟨j,hj⟩:=List.getElem?_of_mem hr;have:=d (unW c.length j) (HW.mpr ⟨j,Jk.mpr (List.getElem?_eq_some_iff.mp hj).1,rfl⟩)
    rwa [mr (fit hc).H hj] at this
   have e1:(a.pl false).sx _:=(HR.kr_sx HR.pl_pn).mpr ⟨c,hc,all⟩
   rw[HR.pl_sx] at e1;simpa using e1
theorem pz:∀ps:Za,D.ims (ps.map HM)=true
 | []=>rfl
 | p::r=>by rw[Iy];unfold D.ims;rw[pz r];rfl
theorem uQ:∀ts:List (Str×Int),D.ims (ts.map Hh)=true
 | []=>rfl
 | p::r=>by rw[Iy];unfold D.ims;rw[uQ r];rfl
theorem HR.im:∀s:HR,DL.D.im s.D=true
 | .row k ts b=>by
  show D.im (.tup [.str (kdS k),.tup (ts.map Hh),.int b])=true
  simp only[D.im,D.ims,uQ];rfl
 | .nt s=>by show D.im (.tup [.str "not",s.D])=true;simp only[D.im,D.ims,HR.im s];rfl
 | .bo s t=>by show D.im (.tup [.str "both",s.D,t.D])=true;simp only[D.im,D.ims,HR.im s,HR.im t];rfl
 | .ei s t=>by show D.im (.tup [.str "either",s.D,t.D])=true;simp only[D.im,D.ims,HR.im s,HR.im t];rfl
theorem lO:∀ps:Za,D.nds (ps.map HM)=true
 | []=>rfl
 | p::r=>by rw[Iy];unfold D.nds;rw[lO r];rfl
theorem u7:∀ps:Za,D.dps (ps.map HM)<=1
 | []=>Jq _
 | p::r=>by
  rw[Iy];unfold D.dps;exact Nat.max_le.mpr ⟨by show 1<=1;decide,u7 r⟩
def pkF(kp:Zb)(ps:Za)(l:Zb):Zb:=l.filter λn=>decide (n∈kp\/(pT S4 ps n).fmod 3=0)
inductive fB(ds:Zh)(R:D->Prop):Prop
 | mk (a:HR) (nm kp:Zb) (ps:Za) (L:Int) (hh:ds=[a.D,.lst (kp.map D.str),(shS nm (out nm kp) (a.pl false).kr).D,.fd S4 (ps.map HM)]/\Two a a nm 34 4/\(∀n∈nm,n∈S4)/\kp.length<=5/\Pl S4 ps L 1345 30060/\(shS nm (out nm kp) (a.pl false).kr).ok nm/\(shS nm (out nm kp) (a.pl false).kr).dep<=50/\R (.bl true))
theorem kw:∀ds R,fB ds R->ds.length=4:=λ_ _ ⟨_,_,_,_,_,e,_⟩=>by rw[e];rfl
theorem cx:ax ["_law_saying","_law_kept","_law_shade","_law_near","_law_point","_law_name","_law_handed","_law_found"] ["_law_saying","_law_kept","_law_shade","_law_near"] (aq s__law_good):=by walk_at "sc"
theorem mC(Z:Zz):Z.C 66 "_law_good" ["_law_saying","_law_kept","_law_shade","_law_near"] (HN Z.K fB):=by
 refine cy Z.x53 cx kw λfa cdv A outer s H E ds R hr h=>?_;have hU:=hr.units;refine⟨_,(ad (fM 4 cx.nd) (ad (ia Iv rfl (zc (am 3)) (ar 5 cx.nd) (af (aP (DW.dt (eC (aC (CW hU) (am 5) (am 1) rfl) (dQ (aC (dY hU) (aE eY (gq gl (cB hU (am 3) (am 5) (λ_ _=>rfl)) ap (λ_ _=>rfl)) ap) ap (ay _))))) (af (eF 4 hU (au (jz Z) (rm hr) rfl (ac (cB hU (am 3) (am 5) (λ_ _=>rfl)) ae)) (am 5))) aF))) (ad (aP (DW.dt (gg (br (au (cL Z) (rm hr) rfl (ac (am 0) (ac (am 3) ae)))) (fA (dH (br (au (cL Z) (rm hr) rfl (ac (am 2) (ac (am 3) ae)))))))) (af (av kh)) aF) (dM 4 (ad (rN 6 cx.nd rfl Z.x63 (am 4)) (dM 6 (Bv 7 cx.nd (tP Z) (rm hr) rfl (ac (am 0) (ac (cQ y7 rfl Z.x70 zK (ac (am 1) ae)) (ac (am 6) ae))) (aC (FM hU) (am 6) (am 4) (ay _)) (aC G3 (am 7) iu (ay _)) (af (av (nG (au (cL Z) (rm hr) rfl (ac (am 2) (ac (am 3) ae)))))) (DW.dt (eC (dH (br (au (cL Z) (rm hr) rfl (ac (am 2) (ac (am 3) ae))))) (dQ (dH (br (au (eX Z) (rm hr) rfl (ac (am 0) (ac (am 1) (ac (am 4) (ac (am 7) ae)))))))))) (af (av (cR (GJ hU) (am 6) (am 4) (ay _))))))))))),?_⟩;obtain⟨a,nm,kp,ps,L,rfl,T,hS,k5,pl,so,sd,q⟩:=h;have nl:=T.len;have n4:=T.n4;refine ak λK1 hK1=>?_;walk_at "";intro pa;rw[hK1];refine ak λK2 hK2=>?_;refine d6 λFb N hF hN=>?_;walk_at "";simp only[lJ];walk_at "";refine⟨λi δ=>∃x,δ=[.dat a.D,.dat (.lst (kp.map D.str)),.dat (shS nm (out nm kp) (a.pl false).kr).D,.dat (.fd S4 (ps.map HM)),.own pa (.dct (pkF kp ps (S4.take i)) (((pkF kp ps (S4.take i)).map (lwn ps)).map HM)),x,.no,.no]/\jr [x]=true,⟨_,rfl,rfl⟩,?_,?_⟩
 ·rintro i d δ hd ⟨x,rfl,_⟩;obtain⟨n,hn,rfl⟩:=dI (names:=S4) hd;have ai:=Im hn;obtain⟨p0,p1,p2⟩:=pl.at ai;rw[hF];walk_at "";have lt:(pkF kp ps (S4.take i)).length<9000:=Jw (IK ..) (by rw[IH];have:S4.length=4:=rfl;omega);have nn:n∉pkF kp ps (S4.take i):=λz=>jb tH hn (Ia.mp z).1;have ny:ib (pB S4 ps n)<=8000:=HX (bN p1 pl.L0 (Ib _)) (HX pl.Lg 'd');have dn:dAt S4 (ps.map HM) n=some (.tup [.int (pT S4 ps n),.int (pB S4 ps n)]):=by
   have e:=de (ks:=S4) (ds:=ps) (x:=n) pl.P.len.symm
   rw[IC ai] at e;rw[jH];unfold pT pB fO
   cases q:dAt S4 ps n with
   | none=>rw[q] at e;cases e
   | some p=>rfl
  have put:(n∈kp\/(pT S4 ps n).fmod 3=0)->jA (pkF kp ps (S4.take i)) n=pkF kp ps (S4.take (i+1))/\mj (pkF kp ps (S4.take i)) (((pkF kp ps (S4.take i)).map (lwn ps)).map HM) n (.tup [.int (HD (pT S4 ps n) (pB S4 ps n)),.int (Hf (pT S4 ps n) (pB S4 ps n))])=((pkF kp ps (S4.take (i+1))).map (lwn ps)).map HM:=λhc=>by
   have e:pkF kp ps (S4.take (i+1))=pkF kp ps (S4.take i)++[n]:=by unfold pkF;rw[aD hn,Jm];simp[hc]
   rw[eP nn,eR nn,e,IA,IA];exact⟨rfl,rfl⟩
  refine⟨kp,rfl,eQ (λh1=>?_) λh1=>?_⟩
  ·refine⟨_,dn,_,_,rfl,p0,ny,?_⟩;walk_at "";obtain⟨e1,e2⟩:=put (.inl (IR h1));exact⟨lt,e1,e2,rfl⟩
  ·refine⟨_,dn,?_⟩;walk_at "";refine⟨cnz 'd',eQ (λh2=>?_) λh2=>?_⟩
   ·refine⟨_,dn,_,_,rfl,p0,ny,?_⟩;walk_at "";obtain⟨e1,e2⟩:=put (.inr h2);exact⟨lt,e1,e2,rfl⟩
   ·have e:pkF kp ps (S4.take (i+1))=pkF kp ps (S4.take i):=by unfold pkF;rw[aD hn,Jm];have:n∉kp:=λz=>h1 (IC z);simp[this,h2]
    rw[e];exact⟨rfl,rfl,rfl⟩
 ·rintro δ ⟨x,rfl,hxo⟩;rw[HS,ID,hN,hK2]
  dsimp only
  have pos:∀n∈S4,0<pB S4 ps n:=λn hn=>(pl.at hn).1
  have aS:∀n∈a.nms,n∈S4:=λn hn=>hS n (HR.nms_sub T.oa n hn)
  have sS:∀n∈(shS nm (out nm kp) (a.pl false).kr).nms,n∈S4:=λn hn=>hS n (HR.nms_sub so n hn)
  have tA:=HR.tv_sx (ks:=S4) (ps:=ps) (s:=a) λn hn=>pos n (aS n hn)
  have tS:=HR.tv_sx (ks:=S4) (ps:=ps) (s:=shS nm (out nm kp) (a.pl false).kr) λn hn=>pos n (sS n hn)
  have nA:(a.pl false).kr≠[]:=λz=>by have:=HR.kr_num (s:=a.pl false) HR.pl_pn;rw[z] at this;have:=(a.pl false).num_pos;simp at *;omega
  have imp:a.sx (Hx S4 ps)->(shS nm (out nm kp) (a.pl false).kr).sx (Hx S4 ps):=λh=>by
   have h1:(a.pl false).sx (Hx S4 ps):=by rw[HR.pl_sx];simpa using h
   obtain⟨c,hc,all⟩:=(HR.kr_sx HR.pl_pn).mp h1;exact(AL nA).mpr ⟨c,hc,λw hw=>CH (T.fit hc hc).1.left.H all hw⟩
  have b1:∀n∈S4,ib (pB S4 ps n)<=1345:=λn hn=>HX (bN (pl.at hn).2.1 pl.L0 (Ib _)) pl.Lg
  have ah:Pk S4 ps:=⟨pl.P.len,λp hp=>(pl.P.ok p hp).1,λp hp=>HX (pl.P.ok p hp).2.2 (by decide),λp hp=>HX (HX (bN (pl.P.ok p hp).2.1 pl.L0 (Ib _)) pl.Lg) 'd',HX (lR (g:=1345) b1) 'd'⟩
  have al:∀ {K:D->Prop},K (.bl (a.tv (pT S4 ps) (pB S4 ps)))->cA 60 [a.D,.fd S4 (ps.map HM)] K:=λk=>⟨a,S4,ps,nm,rfl,by have:=T.da;omega,T.oa,T.nd,by omega,aS,ah,k⟩
  have aa:∀ {K:D->Prop},K (.bl ((shS nm (out nm kp) (a.pl false).kr).tv (pT S4 ps) (pB S4 ps)))->cA 60 [(shS nm (out nm kp) (a.pl false).kr).D,.fd S4 (ps.map HM)] K:=λk=>⟨_,S4,ps,nm,rfl,by omega,so,T.nd,by omega,sS,ah,k⟩
  have dA:=De (kp:=kp) T hS pl
  generalize shS nm (out nm kp) (a.pl false).kr=sh at *
  refine ak λK3 hK3=>?_;walk_at "";refine al ?_;have go:K3 [.dat a.D,.dat (.lst (kp.map D.str)),.dat sh.D,.dat (.fd S4 (ps.map HM)),.own pa (.dct (pkF kp ps S4) (((pkF kp ps S4).map (lwn ps)).map HM)),x,.no,.no]:=by
   rw[hK3];walk_at "";obtain⟨κ,g,T',L',kn⟩:=ET (kp:=kp) pl hS (HX nl n4);have aj:∀n∈pkF kp ps S4,n∈S4:=λn hn=>(Ia.mp hn).1;have ab:∀n∈nm,n∈kp->n∈pkF kp ps S4:=λn h1 h2=>Ia.mpr ⟨hS n h1,IC (.inl h2)⟩;have ek:knw (pkF kp ps S4) ((pkF kp ps S4).map (lwn ps)) (HE nm kp)=(HE nm kp).map (lwn ps):=List.map_congr_left λn hn=>by
    show fO _ _ n=_
    exact jq (ab n (Ia.mp hn).1 (IR (Ia.mp hn).2))
   have ag:(pkF kp ps S4).Nodup:=tH.filter _
   have dp:D.dps (((pkF kp ps S4).map (lwn ps)).map HM)<=50:=HX (u7 _) 'd'
   refine⟨(by cases x<;>first | rfl | cases hxo),⟨kp,rfl,a.im,pz _⟩,a,nm,kp,pkF kp ps S4,(pkF kp ps S4).map (lwn ps),34,4,30060,κ,g,T',L',rfl,T,by omega,Cw pl 'd' aj,ab,by rw[ek];exact kn,?_⟩
   rw[ek]
   rcases dA with⟨e,no⟩ | ⟨q',e,an,P,κb,keep,as⟩
   ·rw[e];refine .inl ⟨rfl,_,_,rfl,ag,lO _,dp,?_⟩;walk_at "";refine aa ?_;rw[show sh.tv (pT S4 ps) (pB S4 ps)=false from Bool.eq_false_iff.mpr λz=>no (tS.mp z)];walk_at "";exact q
   ·rw[e];refine .inr ⟨_,_,rfl,pz _,_,_,rfl,ag,lO _,dp,?_⟩;walk_at "";refine aa ?_;rw[tS.mpr an];walk_at "";have mem:∀n,n∈HE nm kp++out nm kp↔n∈nm:=λn=>by
     rw[Ip]
     constructor
     ·exact λz=>z.elim (λz=>(Ia.mp z).1) λz=>(Ia.mp z).1
     ·exact λz=>(Classical.em (n∈kp)).elim (λy=>.inl (Ia.mpr ⟨z,IC y⟩)) λy=>.inr (Ia.mpr ⟨z,IC y⟩)
    have nd:(HE nm kp++out nm kp).Nodup:=Jp.mpr ⟨T.nd.filter _,T.nd.filter _,λx hx y hy z=>by rw[<- z] at hy;exact IR (Ia.mp hy).2 (IR (Ia.mp hx).2)⟩
    refine⟨a,nm,kp,pkF kp ps S4,HE nm kp++out nm kp,(pkF kp ps S4).map (lwn ps),q',30060,1000000,rfl,T.da,T.oa,T.pw,T.nd,by omega,nd,λn=>by rw[mem n,T.mem n,or_self],Cw pl 'd' aj,P,⟨P.len,λp hp=>(P.low p hp).pos,λp hp=>HX (P.b1 p hp) (by decide),λp hp=>HX (P.b2 p hp) 'd',HX κb 'd'⟩,λn h1 h2=>?_,(HR.tv_sx λn hn=>P.pos ((mem n).mpr (HR.nms_sub T.oa n hn))).mpr as,?_⟩
    ·have h3:=(mem n).mp h1
     exact⟨ab n h3 h2,by rw[keep n (Ia.mpr ⟨h3,IC h2⟩),jq (ab n h3 h2)]⟩
    ·walk_at "";exact⟨_,_,rfl,ag,lO _,dp,q⟩
  cases e1:a.tv (pT S4 ps) (pB S4 ps) with
  | false =>
   walk_at "";exact go
  | true =>
   walk_at "";refine aa ?_;rw[tS.mpr (imp (tA.mp e1))];walk_at "";exact go
theorem FK{a:HR}(T:Two a a nm 34 4):(shS nm (out nm kp) (a.pl false).kr).ok nm/\(∀x∈(shS nm (out nm kp) (a.pl false).kr).nms,x∈nm/\x∉out nm kp)/\(shS nm (out nm kp) (a.pl false).kr).pts<=36:=by
 have nA:(a.pl false).kr≠[]:=λz=>by have:=HR.kr_num (s:=a.pl false) HR.pl_pn;rw[z] at this;have:=(a.pl false).num_pos;simp at *;omega
 have kA:(a.pl false).kr.length<=4:=by rw[HR.kr_num HR.pl_pn];exact T.na.1
 have ol:(out nm kp).length<=4:=HX (IK ..) T.len
 have ab:∀c∈(a.pl false).kr,shR nm (out nm kp) c≠[]/\(shR nm (out nm kp) c).length<=4/\∀r∈shR nm (out nm kp) c,(iK r).ok nm/\∀x∈(iK r).nms,x∈nm/\x∉out nm kp:=λc hc=>by
  have sl:=vU (T.lens hc hc).1 (out nm kp)
  unfold shR
  by_cases z:Hi c (out nm kp)=[]
  ·rw[Ir z];refine⟨JZ _ _,by decide,λr hr=>?_⟩;rw[Ii.mp hr];exact⟨⟨⟨List.nil_sublist _,λ_ h=>(nomatch h),λ_ h=>(nomatch h)⟩,by show ib 0<=10000;decide⟩,λ_ h=>(nomatch h)⟩
  ·rw[Io z];refine⟨by simpa using z,by rw[HS];exact sl,λr hr=>?_⟩;obtain⟨w,hw,rfl⟩:=HW.mp hr;exact tD (T.fit hc hc).1.left ol hw
 have aa:∀ {f:HR->HR->HR},f=.bo\/f=.ei->∀s t:HR,(s.ok nm/\∀x∈s.nms,x∈nm/\x∉out nm kp)->(t.ok nm/\∀x∈t.nms,x∈nm/\x∉out nm kp)->((f s t).ok nm/\∀x∈(f s t).nms,x∈nm/\x∉out nm kp):=λhf s t h1 h2=>by
  rcases hf with rfl | rfl<;>exact⟨⟨h1.1,h2.1⟩,λx hx=>(Ip.mp hx).elim (h1.2 x) (h2.2 x)⟩
 have hC:∀c∈(a.pl false).kr,((shC nm (out nm kp) c).ok nm/\∀x∈(shC nm (out nm kp) c).nms,x∈nm/\x∉out nm kp)/\(shC nm (out nm kp) c).pts<=8:=λc hc=>by
  obtain⟨h1,h2,h3⟩:=ab c hc;have ne:(shR nm (out nm kp) c).map iK≠[]:=by simpa using h1
  refine⟨rg (P:=λs=>s.ok nm/\∀x∈s.nms,x∈nm/\x∉out nm kp) (aa (.inl rfl)) ne λs hs=>?_,?_⟩
  ·obtain⟨r,hr,rfl⟩:=HW.mp hs;exact h3 r hr
  ·have:=sB (f:=.bo) (λ_ _=>rfl) (n:=1) ne λs hs=>by
    obtain⟨r,hr,rfl⟩:=HW.mp hs;exact Ib 1
   rw[HS] at this;unfold shC;omega
 have ne:(a.pl false).kr.map (shC nm (out nm kp))≠[]:=by simpa using nA
 have h:=rg (f:=.ei) (P:=λs=>s.ok nm/\∀x∈s.nms,x∈nm/\x∉out nm kp) (aa (.inr rfl)) ne λs hs=>by
  obtain⟨c,hc,rfl⟩:=HW.mp hs;exact(hC c hc).1
 have p:=sB (f:=.ei) (λ_ _=>rfl) (n:=8) ne λs hs=>by
  obtain⟨c,hc,rfl⟩:=HW.mp hs;exact(hC c hc).2
 rw[HS] at p;exact⟨h.1,h.2,by unfold shS;omega⟩
theorem Pl.mono{g T g' T':Nat}(h:Pl ks ps L g T)(hg:g<=g')(hT:T<=T'):Pl ks ps L g' T':=⟨⟨h.P.len,λp hp=>⟨(h.P.ok p hp).1,(h.P.ok p hp).2.1,HX (h.P.ok p hp).2.2 hT⟩⟩,h.L0,HX h.Lg hg⟩
theorem Sg.one{a:HR}(h:Sg a):∃nm,Two a a nm 34 4/\∀n∈nm,n∈S4:=by
 have mem:∀n,n∈S4.filter (λn=>decide (n∈a.nms))↔n∈a.nms\/n∈a.nms:=λn=>by
  rw[Ia,decide_eq_true_iff,or_self];exact⟨λh=>h.2,λz=>⟨HR.nms_sub h.ok n z,z⟩⟩
 have l4:(S4.filter (λn=>decide (n∈a.nms))).length<=4:=IK ..
 have ok:=iB (p:=λn=>decide (n∈a.nms)) h.ok λn z=>IC z
 exact⟨_,⟨by have:=h.dep;omega,by have:=h.dep;omega,ok,ok,h.bt,h.bt,h.few,h.few,FC.filter _,tH.filter _,mem,l4,by decide,by decide,.inl (Ae l4)⟩,λn hn=>(Ia.mp hn).1⟩
theorem zf{f:D->Option D}:∀l:Zh,(∀x∈l,f x=none\/∃s,f x=some (.str s))->∃ks:Zb,l.filterMap f=ks.map D.str/\ks.length<=l.length
 | [],_=>⟨[],rfl,Ib _⟩
 | x::l,h=>by
  obtain⟨ks,e,hl⟩:=zf l λy hy=>h y (HV _ hy)
  rcases h x (HY ..) with z | ⟨s,z⟩
  ·exact⟨ks,by rw[IY,z];exact e,Nat.le_succ_of_le hl⟩
  ·exact⟨s::ks,by rw[IY,z,e];rfl,Nat.succ_le_succ hl⟩
def kpF(ns:Ze):D->Option D
 | .tup [.int k,x]=>if ((cO ns 1).fdiv (1*2 ^ k.toNat)).fmod 2=1 then some x else none
 | _=>none
theorem zg{P:Int×Int->Prop}:∀ {ks:Zb} {ps:Za},ps.length=ks.length->ks.Nodup->(∀n∈ks,P (fO ks ps n))->∀p∈ps,P p
 | [],[],_,_,_,p,hp=>nomatch hp
 | [],_::_,h,_,_,_,_=>nomatch h
 | _::_,[],_,_,_,p,hp=>nomatch hp
 | k::ks,x::ps,hl,nd,h,p,hp=>by
  obtain⟨n1,n2⟩:=Jg.mp nd;have e:∀n,fO (k::ks) (x::ps) n=if k=n then x else fO ks ps n:=λn=>by
   unfold fO;show (if k=n then some x else dAt ks ps n).getD (0,1)=_
   by_cases z:k=n
   ·rw[Ir z,Ir z];rfl
   ·rw[Io z,Io z]
  rcases Ih.mp hp with rfl | hp
  ·have:=h k (HY ..)
   rwa [e,Ir rfl] at this
  ·refine zg (by simpa using hl) n2 (λn hn=>?_) p hp;have:=h n (HV _ hn)
   rwa [e,Io (λz=>n1 (by rw[z];exact hn))] at this
theorem fE34:∀ {l:Nat},l<=4->(fE (cb 34 6) l (1,1,0)).2.1<=1300/\(fE (cb 34 6) l (1,1,0)).2.2<=30000
 | 0,_=>by decide
 | 1,_=>by decide
 | 2,_=>by decide
 | 3,_=>by decide
 | 4,_=>by decide
theorem Pl.none{g T:Nat}(hg:1<=g):Pl [] [] 1 g T:=⟨⟨rfl,λ_ h=>nomatch h⟩,by decide,HX (show ib 1<=1 by decide) hg⟩
def Hr(d:D):Prop:=∃k1 p1 L1,d=.dct k1 (p1.map HM)/\Pl k1 p1 L1 1300 30000
theorem G8{a:HR}(T:Two a a nm 34 4):∃w d,bth nm (a.pl false).kr (a.pl false).kr=.tup [.str w,d]/\((w="point"/\Hr d)\/w="paper"):=by
 have l4:=HX T.len T.n4
 cases e:(prs (a.pl false).kr (a.pl false).kr).find? (λrows=>oh (HI nm rows nm)) with
 | none=>exact⟨_,_,by unfold bth;rw[e],.inr rfl⟩
 | some rows =>
  have eb:bth nm (a.pl false).kr (a.pl false).kr=HI nm rows nm:=by unfold bth;rw[e]
  rcases y9 (nm:=nm) (rows:=rows) (ns:=nm) with⟨w,ew⟩ | ⟨ps,ep⟩
  ·have hp:oh (HI nm rows nm)=true:=by have:=List.find?_some e;exact this
   rw[ew] at hp;exact absurd hp (by show ¬ decide (("weights":Str)="point")=true;decide)
  ·rw[ep] at eb;obtain⟨L,h1,h2,h3,h4⟩:=FQ T (Ae l4) eb;exact⟨_,_,eb,.inl ⟨rfl,nm,ps,L,rfl,⟨⟨h4.len,λp hp=>⟨(h4.low p hp).pos,zg (P:=λp=>p.2 ∣ L) h4.len T.nd h2 p hp,HX (h4.b1 p hp) (fE34 l4).2⟩⟩,h1,HX h3 (fE34 l4).1⟩⟩⟩
theorem EU{α:Type}{xs:List α}{i:Nat}(h:i+4<=xs.length):(cut xs (some (i:Int)) (some ((i:Int)+4))).length=4:=by
 unfold cut;rw[show (i:Int)+4=((i+4:Nat):Int) by omega,HT.sIx_nat,HT.sIx_nat,IH,JN];omega
def Nr(d:D):Prop:=∃ps L,d=.fd S4 (ps.map HM)/\Pl S4 ps L 1345 30060
theorem cP:ax ["_law_script","_law_saying","_law_kept","_law_handed","_law_shade","_law_size","_law_sort","_law_here","_law_cells","_law_points","_law_k","_law_there","_law_near"] ["_law_script"] (aq s_law):=by walk_at "sc"
theorem Aj(Z:Zz){fa:Addr}{fd:FuncData}(F:Fun Z.K "law" "law" s_law fa fd):ml Z.P Z.w Z.K Z.mg Z.base CX0 67 fa fd ["_law_script"] (HN Z.K fLaw):=by
 refine D6 F cP (λds R ⟨ns,e,_⟩=>by rw[e];rfl) λcdv A outer s H E ds R hr h=>?_;have hU:=hr.units;refine⟨_,(ad (aA 1 cP.nd (au (lT Z) (rm hr) rfl (ac (am 0) ae))) (ad (dJ 2 cP.nd ["_law_k","_law_name"] [(0,"_law_script")] rfl rfl 'g' rfl 'g' (ba ⟨rfl,trivial⟩) (λ_=>be rfl) (aN ⟨⟨rfl,rfl,.inl rfl⟩,trivial⟩) (qj true rfl Z.x60 (ac (a6 (ac aw (ac aw (ac aw (ac aw (ac aw ae)))))) ae)) λ_ _ _ _ _=>⟨(bJ (n:=2) rfl (aB (ar 0 (show List.Nodup (["_law_k","_law_name","_law_script"]:Zb) by decide +kernel)) (aB (ar 1 (show List.Nodup (["_law_k","_law_name","_law_script"]:Zb) by decide +kernel)) aW))),(ff (aC (dY hU) (aE eY (aE cJ (au (cE Z) (rm hr) rfl (ac (am 2) (ac ap ae))) (aE Ds ap (am 0))) ap) ap (ay _))),(am 1)⟩) (ad (aA 2 cP.nd (fZ (am 2) fG (cU ap))) (ad (aA 3 cP.nd (cQ y7 rfl Z.x70 zK (ac (am 2) ae))) (ad (aA 4 cP.nd (au (kU Z) (rm hr) rfl (ac (am 1) (ac (am 3) ae)))) (ad (aA 5 cP.nd (au (j7 Z) (rm hr) rfl (ac (am 4) (ac (bq ["_law_name"] [(1,"_law_saying")] rfl rfl 'g' rfl 'g' (ba ⟨rfl,trivial⟩) (λ_=>be rfl) (aN ⟨⟨rfl,rfl,.inl rfl⟩,trivial⟩) (dg (am 2)) λ_ _ _ _ _=>⟨(ar 0 (show List.Nodup (["_law_name","_law_saying"]:Zb) by decide +kernel)),(ff (aC (CW hU) (am 0) (au (fm Z) (rm hr) rfl (ac (am 1) ae)) rfl)),(am 0)⟩) ae)))) (ad (aP (DW.dt (eC (aC (fT hU) (am 3) (am 2) (ay _)) (eC (aC wV (Hg 5) ap (ay _)) (dQ (aC wV (Hg 5) ap (ay _)))))) (af (av kh)) aF) (ad (rf (au (oV Z) (rm hr) rfl (ac (am 1) (ac (am 1) ae))) (bJ (n:=2) rfl (aB (ar 6 cP.nd) (aB (ar 7 cP.nd) aW)))) (ad (aP (aC (fT hU) (am 6) aw (ay _)) (af (aA 7 cP.nd i8)) aF) (ad (aA 8 cP.nd (fZ (am 0) (cU ap) (cU ap))) (ad (dz 9 cP.nd (ac (au (fk Z) (rm hr) rfl (ac (am 7) (ac i8 (ac ap ae)))) (ac (au (fe Z) (rm hr) rfl (ac (a6 (ac ap (ac ap (ac ap (ac ap ae))))) ae)) ae))) (ad (wD Iv rfl rfl Z.x61 (ac (aE lQ (aL gA rfl Z.x57 fK (ac (am 8) ae)) ap) ae) (ar 10 cP.nd) (ad (aA 11 cP.nd (au (fe Z) (rm hr) rfl (ac (fZ (am 8) (cU (am 10)) (cU (aE aY (am 10) ap))) ae))) (ad (a8 9 (au (fk Z) (rm hr) rfl (ac (am 7) (ac (am 11) (ac (aE cJ (gq gl (am 8) (am 10) (λ_ _=>rfl)) ap) ae))))) (af (a8 9 (am 11)))))) (bB 9 (ad (bu Iv rfl (fZ (am 9) fG (cU ap)) (ar 12 cP.nd) (af (aP (dH (br (au (mC Z) (rm hr) rfl (ac (am 1) (ac (am 2) (ac (am 4) (ac (am 12) ae))))))) (af (av kh)) aF))) (af (av (cR (dY hU) (au (kU Z) (rm hr) rfl (ac (am 1) (ac (am 3) ae))) (am 4) (ay _)))))))))))))))))),?_⟩
 obtain⟨ns,rfl,aa,hb,q⟩:=h;refine ak λK1 hK1=>?_;walk_at "";refine⟨ns,rfl,aa,hb,λa ga=>?_⟩;walk_at "";rw[hK1];refine ak λK2 hK2=>?_;walk_at "";obtain⟨kp0,ek0,lk0⟩:∃kp0:Zb,(enD [D.str "d",.str "b",.str "a",.str "c",.str "q"]).filterMap (kpF ns)=kp0.map D.str/\kp0.length<=5:=zf _ λx hx=>by
  unfold enD at hx;obtain⟨k,hk,rfl⟩:=List.mem_mapIdx.mp hx;unfold kpF;have hk:k<5:=hk;have hs:∃s,[D.str "d",.str "b",.str "a",.str "c",.str "q"][k]=D.str s:=by
   match k,hk with
   | 0,_=>exact⟨_,rfl⟩
   | 1,_=>exact⟨_,rfl⟩
   | 2,_=>exact⟨_,rfl⟩
   | 3,_=>exact⟨_,rfl⟩
   | 4,_=>exact⟨_,rfl⟩
  obtain⟨s,hs⟩:=hs;rw[hs]
  by_cases z:((cO ns 1).fdiv (1*2 ^ Int.toNat (k:Nat))).fmod 2=1
  ·exact .inr ⟨s,Ir z⟩
  ·exact .inl (Io z)
 refine⟨by decide,by decide,kpF ns,λx hx=>?_,?_⟩
 ·unfold enD at hx;obtain⟨k,hk,rfl⟩:=List.mem_mapIdx.mp hx;have hk:k<5:=hk;walk_at "";refine⟨ns,1,rfl,by decide,?_⟩;walk_at "";have p0:(0:Int)<1*2 ^ (k:Int).toNat:=by rw[Int.one_mul];exact Int.pow_pos 'd'
  have p1:(1*2 ^ (k:Int).toNat:Int)<64:=by
   match k,hk with
   | 0,_=>decide
   | 1,_=>decide
   | 2,_=>decide
   | 3,_=>decide
   | 4,_=>decide
  refine⟨by first | exact⟨by omega,by omega⟩ | exact⟨by decide,by omega,by omega⟩,mY 'b' (lg64 p0 p1),cnz 'd',eQ (λz=>?_) λz=>?_⟩
  ·exact Ir z
  ·exact Io z
 rw[ek0,hK2];refine ak λK3 hK3=>?_;walk_at "";rw[show (4:Int)=((4:Nat):Int) from rfl,Dy,<- List.map_take,hK3];have lk:(kp0.take 4).length<=4:=by rw[IH];omega
 generalize kp0.take 4=kp at lk ⊢
 refine ak λK4 hK4=>?_;walk_at "";rw[hK4];obtain⟨nm,T,hS⟩:=ga.one;obtain⟨so,sn,sp⟩:=FK (kp:=kp) T;have sd:=HR.dep_pts (shS nm (out nm kp) (a.pl false).kr);refine ak λK5 hK5=>?_;walk_at "";refine⟨a,nm,kp,34,4,rfl,T,by omega,?_⟩;walk_at "";rw[hK5];refine ak λK6 hK6=>?_;walk_at "";refine⟨by rw[HS];omega,λd=>match d with | .str n=>if n∈a.nms then some (.str n) else none | _=>none,λx hx=>?_,?_⟩
 ·obtain⟨n,hn,rfl⟩:=HW.mp hx;walk_at "";refine⟨a,S4,rfl,by have:=ga.dep;omega,ga.ok,FC,tH,by decide,λs2 n2 m2 p2=>?_⟩;walk_at "";refine⟨s2,rfl,eQ (λz=>?_) λz=>?_⟩
  ·rw[Ir ((m2 n).mp (IR z))]
  ·rw[Io λy=>z (IC ((m2 n).mpr y))]
 rw[qo];refine⟨_,nm,_,rfl,by omega,so,T.pw,T.nd,by have:=T.len;omega,λx hx=>?_,?_⟩
 ·obtain⟨h1,h2⟩:=sn x hx;refine Ia.mpr ⟨Ic λz=>h2 (Ia.mpr ⟨h1,IC z⟩),IC ?_⟩;have:=(T.mem x).mp h1
  rwa [or_self] at this
 walk_at "";rw[hK6];refine ak λK7 hK7=>?_;walk_at "";refine⟨ja _,iZ _,Hz 'b' (Hz 'b' ?_)⟩;rw[hK7];have ab:∀ {K:D->Prop},K (shS nm (out nm kp) (a.pl false).kr).D->lu [a.D,.lst (kp.map D.str)] K:=λh=>⟨a,nm,kp,34,4,rfl,T,by omega,h⟩;have gd:∀ {x:D} {K:D->Prop},Nr x->K (.bl true)->fB [a.D,.lst (kp.map D.str),(shS nm (out nm kp) (a.pl false).kr).D,x] K:=λ⟨ps,L,e,h⟩ k=>by rw[e];exact⟨a,nm,kp,ps,L,rfl,T,hS,by omega,h,so,by omega,k⟩
 obtain⟨w,d,eb,hw⟩:=G8 T;generalize hsh:shS nm (out nm kp) (a.pl false).kr=sh at *;generalize D.lst [.int sh.pts,.int sh.dep]=sz;refine ak λK8 hK8=>?_;walk_at "";refine⟨a,a,nm,34,4,rfl,T,?_⟩;rw[eb];walk_at "";rw[hK8];refine ak λK9 hK9=>?_;walk_at "";have go:∀d,Hr d->K9 [.dat (.fz (ns.map D.int)),.dat a.D,.dat (.lst (kp.map D.str)),.dat (.lst (kp.map D.str)),.dat sh.D,.dat sz,.dat (.str w),.dat d,.no,.no,.no,.no,.no]:=by
  rintro d ⟨k1,p1,L1,rfl,hd⟩;rw[hK9];have lc:(cut ns (some 28) (some 48)).length<=48-28:=B6 28 48;have bc:∀c∈cut ns (some 28) (some 48),ib c<=1048600:=λc hc=>HX (hb c (qg hc)) 'd';refine ak λK10 hK10=>?_;walk_at "";rw[uS,hK10];generalize cut ns (some 28) (some 48)=cs at lc bc ⊢;refine ak λK11 hK11=>?_;walk_at "";refine⟨_,_,10,k1,[],p1,[],L1,1,rfl,.inr rfl,.inr rfl,hd,Pl.none (by decide),λps0 hp0=>?_⟩;walk_at "";refine⟨[0,1,2,3],rfl,rfl,by decide,λps1 L3 hp1=>?_⟩;walk_at "";intro pa;rw[hK11];have n0:∀x∈[D.fd S4 (ps0.map HM),.fd S4 (ps1.map HM)],Nr x:=λx hx=>by
   simp only[List.mem_cons,List.not_mem_nil,or_false] at hx
   rcases hx with rfl | rfl
   ·exact⟨ps0,_,rfl,hp0⟩
   ·exact⟨ps1,_,rfl,hp1.mono 'd' 'd'⟩
  generalize hl0:[D.fd S4 (ps0.map HM),.fd S4 (ps1.map HM)]=l0 at n0 ⊢
  have ag:l0.length=2:=by rw[<- hl0];rfl
  refine ak λK12 hK12=>?_;refine yQ λF N hF hN=>?_;walk_at "";simp only[zu];walk_at "";rw[HS];refine⟨by omega,by omega,λi δ=>∃l x y z,δ=[.dat (.fz (ns.map D.int)),.dat a.D,.dat (.lst (kp.map D.str)),.dat (.lst (kp.map D.str)),.dat sh.D,.dat sz,.dat (.str w),.dat (.dct k1 (p1.map HM)),.dat (.lst (cs.map D.int)),.own pa (.lst l),x,y,z]/\(∀x∈l,Nr x)/\l.length<=2+2*i,⟨l0,_,_,_,rfl,n0,by omega⟩,?_,?_⟩
  ·rintro i δ hi ⟨l,x,y,z,rfl,hn,hl⟩;have hi:i+3<cs.length:=by omega
   rw[hF];show dD _ _ _ _;refine cj λK13 hK13=>?_;walk_at "";rw[uS];refine⟨cut cs (some (i:Int)) (some ((i:Int)+4)),rfl,EU (by omega),λc hc=>bc c (qg hc),λps2 L2 hp2=>?_⟩;walk_at "";rw[hK13];refine ak λK14 hK14=>?_;walk_at "";refine qAt.of (Ao 'b') ?_;walk_at "";refine⟨mY 'd' (by decide),_,_,_,k1,S4,p1,ps2,L1,L2,rfl,.inr rfl,.inl rfl,hd,hp2,λps3 hp3=>?_⟩;walk_at "";refine⟨by omega,?_⟩;rw[hK14];walk_at "";refine⟨by rw[Ij,KJ];omega,λx hx=>?_,by simp only[List.length_append,List.length_singleton];omega⟩
   rcases Ip.mp hx with hx | hx
   ·rcases Ip.mp hx with hx | hx
    ·exact hn x hx
    ·rw[Ii.mp hx];exact⟨ps3,_,rfl,hp3⟩
   ·rw[Ii.mp hx];exact⟨ps2,_,rfl,hp2.mono 'd' 'd'⟩
  ·rintro δ ⟨l,x,y,z,rfl,hn,hl⟩;rw[hN,hK12];walk_at "";refine bO λF2 N2 hF2 hN2=>?_;walk_at "";simp only[ef];walk_at "";refine⟨λi δ=>∃z,δ=[.dat (.fz (ns.map D.int)),.dat a.D,.dat (.lst (kp.map D.str)),.dat (.lst (kp.map D.str)),.dat sh.D,.dat sz,.dat (.str w),.dat (.dct k1 (p1.map HM)),.dat (.lst (cs.map D.int)),.dat (.lst l),x,y,z],⟨_,rfl⟩,?_,?_⟩
   ·rintro i d δ hd ⟨z,rfl⟩;have hx:=hn d (qg (Im hd));rw[hF2];show dD _ _ _ _;walk_at "";refine gd hx ?_;walk_at "";exact⟨_,rfl⟩
   ·rintro δ ⟨z,rfl⟩;rw[hN2];walk_at "";refine ab ?_;walk_at "";exact Dr rfl 'b' q
 refine eQ (λz=>?_) λz=>?_
 ·exact go _ ⟨[],[],1,rfl,Pl.none 'd'⟩
 ·rcases hw with⟨_,h⟩ | h
  ·exact go _ h
  ·exact absurd (JV.mp z) (by rw[h];decide)
end Lw
namespace Lw
open PySem L2 DL
theorem all_mk{l:PySem.W.OpenLaw}{w:World}{K:PySem.W.Frag}{h:Heap}{mg:Str->Zd}{fa:Addr}(X:K.In h)(G:h.Ns mainGlobals mg)(hfa:mg "law"=some (.ref fa))(f:Hd.Facts K):∃fd:FuncData,(∀(s:Shared) (v:Value),BindsTo s fd ⟨[v],[]⟩ [("_law_script",v)])/\∀base:Heap,K.In base->base.Ns mainGlobals mg->ml l.prog w K mg base CX0 67 fa fd ["_law_script"] (AG K):=by
 obtain⟨⟨_,_,_,_,_,_,_,_,_,_,a,l1,c,k⟩⟩:=f.q54;obtain⟨_,ai,ag⟩:=f.g_OPPOSITES;obtain⟨_,al⟩:=f.g_MOST_ROWS;obtain⟨_,aa⟩:=f.g_MOST_CASES;obtain⟨_,_,_,_,ao,an⟩:=f.g_ENDLESS;obtain⟨_,_,_,_,_,_,_,_,_,_,ab,ah,aj⟩:=f.g_ALWAYS_SO;have e:=hfa.symm.trans (Kb X G a)
 cases e
 have F:=Ac (st:=s_law) l1 c k
 refine⟨_,?_,λbase _ _=>by exact C0 (Aj ⟨l.prog,w,K,mg,base,f.q0.fd2 X G λ_ _ _ _ _ _ _ _=>rfl,f.q1.fd2 X G λ_ _ _ _ _ _ _ _=>rfl,f.q2.fd2 X G λ_ _ _ _ _ _ _ _=>rfl,f.q3.fd2 X G λ_ _ _ _ _ _ _ _=>rfl,f.q4.fd2 X G λ_ _ _ _ _ _ _ _=>rfl,f.q5.fd1 X G λ_ _ _ _ _ _ _=>rfl,f.q6.fd2 X G λ_ _ _ _ _ _ _ _=>rfl,f.q7.fd1 X G λ_ _ _ _ _ _ _=>rfl,f.q8.fd2 X G λ_ _ _ _ _ _ _ _=>rfl,f.q9.fd2 X G λ_ _ _ _ _ _ _ _=>rfl,f.q10.fd3 X G λ_ _ _ _ _ _ _ _ _=>rfl,f.q11.fd3 X G λ_ _ _ _ _ _ _ _ _=>rfl,f.q12.fd2 X G λ_ _ _ _ _ _ _ _=>rfl,f.q13.fd1 X G λ_ _ _ _ _ _ _=>rfl,f.q14.fd2 X G λ_ _ _ _ _ _ _ _=>rfl,f.q15.fd1 X G λ_ _ _ _ _ _ _=>rfl,f.q16.fd2 X G λ_ _ _ _ _ _ _ _=>rfl,f.q17.fd2 X G λ_ _ _ _ _ _ _ _=>rfl,f.q18.fd2 X G λ_ _ _ _ _ _ _ _=>rfl,f.q19.fd1 X G λ_ _ _ _ _ _ _=>rfl,f.q20.fd2 X G λ_ _ _ _ _ _ _ _=>rfl,f.q21.fd2 X G λ_ _ _ _ _ _ _ _=>rfl,f.q22.fd1 X G λ_ _ _ _ _ _ _=>rfl,f.q23.fd1 X G λ_ _ _ _ _ _ _=>rfl,f.q24.fd3 X G λ_ _ _ _ _ _ _ _ _=>rfl,f.q25.fd4 X G λ_ _ _ _ _ _ _ _ _ _=>rfl,f.q26.fd2 X G λ_ _ _ _ _ _ _ _=>rfl,f.q27.fd3 X G λ_ _ _ _ _ _ _ _ _=>rfl,f.q28.fd3 X G λ_ _ _ _ _ _ _ _ _=>rfl,f.q29.fd1 X G λ_ _ _ _ _ _ _=>rfl,f.q30.fd3 X G λ_ _ _ _ _ _ _ _ _=>rfl,f.q31.fd3 X G λ_ _ _ _ _ _ _ _ _=>rfl,f.q32.fd2 X G λ_ _ _ _ _ _ _ _=>rfl,f.q33.fd2 X G λ_ _ _ _ _ _ _ _=>rfl,f.q34.fd2 X G λ_ _ _ _ _ _ _ _=>rfl,f.q35.fd2 X G λ_ _ _ _ _ _ _ _=>rfl,f.q36.fd3 X G λ_ _ _ _ _ _ _ _ _=>rfl,f.q37.fd1 X G λ_ _ _ _ _ _ _=>rfl,f.q38.fd2 X G λ_ _ _ _ _ _ _ _=>rfl,f.q39.fd2 X G λ_ _ _ _ _ _ _ _=>rfl,f.q40.fd2 X G λ_ _ _ _ _ _ _ _=>rfl,f.q41.fd1 X G λ_ _ _ _ _ _ _=>rfl,f.q42.fd2 X G λ_ _ _ _ _ _ _ _=>rfl,f.q43.fd2 X G λ_ _ _ _ _ _ _ _=>rfl,f.q44.fd1 X G λ_ _ _ _ _ _ _=>rfl,f.q45.fd1 X G λ_ _ _ _ _ _ _=>rfl,f.q46.fd1 X G λ_ _ _ _ _ _ _=>rfl,f.q47.fd1 X G λ_ _ _ _ _ _ _=>rfl,f.q48.fd3 X G λ_ _ _ _ _ _ _ _ _=>rfl,f.q49.fd1 X G λ_ _ _ _ _ _ _=>rfl,f.q50.fd2 X G λ_ _ _ _ _ _ _ _=>rfl,f.q51.fd1 X G λ_ _ _ _ _ _ _=>rfl,f.q52.fd4 X G λ_ _ _ _ _ _ _ _ _ _=>rfl,f.q53.fd4 X G λ_ _ _ _ _ _ _ _ _ _=>rfl,IJ X G f.z0,IJ X G f.z1,IJ X G f.z2,IJ X G f.z3,IJ X G f.z4,IJ X G f.z5,IJ X G f.z6,IJ X G f.z7,IJ X G f.z8,IJ X G f.z9,IJ X G f.z10,IJ X G f.z11,IJ X G f.z12,IJ X G f.z13,IJ X G f.z14,IJ X G f.z15,IJ X G f.z16,⟨⟨_,Kb X G ai,ag⟩⟩,⟨⟨_,Kb X G al⟩⟩,⟨⟨_,Kb X G aa⟩⟩,⟨⟨_,_,_,Kb X G ao,an,rfl,rfl⟩⟩,⟨⟨_,_,_,_,_,_,_,_,Kb X G ab,ah,rfl,rfl,aj,rfl,rfl⟩⟩⟩ F)⟩
 exact λs v=>.of_eq rfl
end Lw
open PySem PySem.W PyProof.Rows
theorem PySem.Challenge.cw_rowbetween_k41_shadows_holds : PySem.Challenge.rw_rowbetween_k41_shadows.Holds := by
 refine Hd.half λYP d K hY hdf hdn f=>?_;refine DL.walkB (l:=PySem.Challenge.rw_rowbetween_k41_shadows) (k:=67) (x:="_law_script") rfl hdf ⟨rfl,by decide,by decide⟩ hY λw mg fa h KX G hmg=>?_;rw[hdn] at hmg;exact Lw.all_mk KX G hmg (f w)
#print axioms PySem.Challenge.cw_rowbetween_k41_shadows_holds
