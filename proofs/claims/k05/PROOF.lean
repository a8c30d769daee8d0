import PyProof.Rows.All
import Wide.All
import OpenK.AllK
import Wide.FinOn
import Lean
import PyProof.EqAt
import PyProof.EqKinds
import PyProof.TupleCall
import PySem.Challenge.RW_rowbetween_k05_no_quotient
set_option Elab.async false
set_option linter.all false
set_option maxRecDepth 100000
set_option maxHeartbeats 4000000
set_option Elab.async false
set_option linter.all false
set_option maxRecDepth 100000
def mn := @List.length_map
def mo := @List.mem_cons_of_mem
def mq := @Nat.le_trans
def mr := @PySem.Heap.get?_push_of_some
def ms := @List.mem_cons_self
def mv := @List.mem_cons
def mw := @List.mem_append_right
def mx := @List.mem_append_left
def my := @List.length_append
def mz := @List.getElem?_eq_some_iff
def mB := @List.length_cons
def mC := @List.getElem?_map
def mD := @List.mem_singleton
def mE := @List.size_toArray
def mF := @List.getElem?_append_right
def mG := @List.getElem?_append_left
def mH := @PySem.Heap.get?_push_size
local macro_rules | `(tactic| walk_at "v1") => `(tactic| first | exact .inl rfl | exact .inr rfl | assumption)
namespace L2
open PySem
def aD (s:Stmt):Arguments:=match s with
 | .FunctionDef _ a _ _ _ _ _ _ _ _=>a
 | _=>{ posonlyargs:=[],args:=[],vararg:=none,kwonlyargs:=[],kw_defaults:=[],kwarg:=none,defaults:=[] }
def au (s:Stmt):List Stmt:=match s with
 | .FunctionDef _ _ b _ _ _ _ _ _ _=>b
 | _=>[]
def ae (s:Stmt):Scope:=match s with
 | .FunctionDef _ _ _ _ _ _ sc _ _ _=>sc
 | _=>{ kind:=.function,names:=[],isGenerator:=false,isCoroutine:=false }
def dy (s:Stmt) (j:Nat):Stmt:=match s with
 | .ClassDef _ _ _ body _ _ _ _ _ _ _=>body.getD j (.Pass ⟨0,0,0,0⟩)
 | _=>.Pass ⟨0,0,0,0⟩
end L2
namespace DL
open PySem PySem.Spec PyProof.Rows L2
structure FdK (K:PySem.W.Frag) (x:Str) (st:Stmt):Prop where
 ex:∃ (f:Addr) (oc:Value) (od an:Option Addr) (sl:Array (Option Value)) (kV dc pm cd ct:Value),PySem.W.nsIn K mainGlobals x=some (some (.ref f))∧K.lookup f=some ⟨oc,od,.func (PySem.W.fnOf x x (aD st) (au st) (ae st) .none kV dc pm an cd ct),sl⟩∧PySem.W.codeIn K cd x=true∧PySem.W.keepIn K (.ref f)=true
abbrev bmV:List Value:=[.type "ValueError",.type "Exception",.type "BaseException",.type "object"]
def cp (K:PySem.W.Frag) (N:Addr):Bool:=match K.lookup N with
 | some ⟨_,_,.dict es _,_⟩=>es.toList.all fun e=>match e.key with | .str _ _=>true | _=>false
 | _=>false
structure KCls (K:PySem.W.Frag) (C N:Addr) (mro:List Value):Prop where
 ex:∃ nm q bs sn sub ab col dd k0 k1 k2 k3 k5,K.lookup C=some (excClassObj nm q C N bs mro true sn sub ab col dd k0 k1 k2 k3 k5 "ValueError.__new__")
structure RcK (K:PySem.W.Frag) (xR:Str) (R NR:Addr):Prop where
 at_:PySem.W.nsIn K mainGlobals xR=some (some (.ref R))
 cl:KCls K R NR bmV
 ns:cp K NR=true
 ini:PySem.W.nsIn K NR "__init__"=some none
 sa:PySem.W.nsIn K NR "__setattr__"=some none
 kp:PySem.W.keepIn K (.ref R)=true
 sp:PySem.W.specialIn K (.ref R) "__getattribute__"=some (some (.builtin "type.__getattribute__"))
 rd:PySem.W.readsIn K R (.type "type")=true
 fc:PySem.W.findCls K (.ref R) (.type "type") "__init__"=some (.val (.builtin "ValueError.__init__"))
structure XcK (K:PySem.W.Frag) (x f:Str) (R NR:Addr) (q:Str) (st:Stmt):Prop where
 ex:∃ C N fI,PySem.W.nsIn K mainGlobals x=some (some (.ref C))∧KCls K C N (.ref R :: bmV)∧cp K N=true∧PySem.W.nsIn K N "__init__"=some (some (.ref fI))∧PySem.W.nsIn K N "__setattr__"=some none∧PySem.W.nsIn K N f=some none∧PySem.W.nsIn K NR f=some none ∧
  PySem.W.keepIn K (.ref C)=true∧∃ od kV dc pm an cd ct sl,K.lookup fI=some ⟨.type "function",od,.func (PySem.W.fnOf "__init__" q (aD st) (au st) (ae st) .none kV dc pm an cd ct),sl⟩∧PySem.W.codeIn K cd q=true∧PySem.W.keepIn K (.ref fI)=true
def b6:List (Str×Str):=[("NoQuotient","top"),("NoName","name"),("TooMany","saying")]
def xgB (K:PySem.W.Frag) (C:Addr):Bool :=
 PySem.W.findIn K (.ref C) "__getattribute__" == some (some (.builtin "BaseException.__getattribute__")) && PySem.W.findIn K (.ref C) "__getattr__" == some none && PySem.W.mroIn K C (.type "BaseException") == some true && PySem.W.mroIn K C (.type "object") == some true && PySem.W.hasDictIn K C &&
 PySem.W.findIn K (.ref C) "__class__" == some (some (.builtin "object.__class__")) && PySem.W.specialIn K (.builtin "object.__class__") "__get__" == some (some (.builtin "getset_descriptor.__get__")) && PySem.W.takesIn K (.builtin "object.__class__") == some true
def excB (K:PySem.W.Frag):Bool:=b6.all fun p=>match PySem.W.nsIn K mainGlobals p.1 with
 | some (some (.ref C))=>xgB K C && PySem.W.findIn K (.ref C) p.2 == some none && PySem.W.kitOne K (.ref C) (.type "ValueError") == some true && PySem.W.kitOne K (.type "NoneType") (.ref C) == some false &&
  b6.all fun r=>match PySem.W.nsIn K mainGlobals r.1 with
   | some (some (.ref C'))=>PySem.W.kitOne K (.ref C) (.ref C') == some (p.1 == r.1)
   | _=>false
 | _=>false
structure ErF (K:PySem.W.Frag) (s1 s2 s3:Stmt):Prop where
 ex:∃ R NR,RcK K "RowError" R NR∧xgB K R=true∧PySem.W.kitOne K (.ref R) (.type "ValueError")=some true∧excB K=true∧XcK K "NoQuotient" "top" R NR "NoQuotient.__init__" s1∧XcK K "NoName" "name" R NR "NoName.__init__" s2∧XcK K "TooMany" "saying" R NR "TooMany.__init__" s3
end DL
namespace Lw
open PySem L2 DL
def top (i:Nat):Stmt:=PySem.Challenge.pw_rowbetween_k05_no_quotient.main.body.getD i (.Pass ⟨0,0,0,0⟩)
abbrev s_common_divisor:Stmt:=top 6
abbrev s_made:Stmt:=top 7
abbrev s__law_common:Stmt:=top 10
abbrev s__law_number:Stmt:=top 11
abbrev s__law_fraction:Stmt:=top 12
abbrev s_over:Stmt:=top 8
abbrev s__law_caught:Stmt:=top 13
abbrev s__law_refused:Stmt:=top 14
abbrev s__law_made:Stmt:=top 15
abbrev s_law:Stmt:=top 16
abbrev i_NoQuotient:Stmt:=dy (top 2) 0
abbrev i_NoName:Stmt:=dy (top 3) 0
abbrev i_TooMany:Stmt:=dy (top 4) 0
end Lw
namespace Hd
open PySem PySem.W PyProof.Rows
set_option maxRecDepth 100000
set_option maxHeartbeats 0
def kept (i:Nat):Stmt:=PySem.Challenge.pw_rowbetween_k05_no_quotient.main.body.getD i (.Pass ⟨0,0,0,0⟩)
def vw:Program:={ PySem.Challenge.pw_rowbetween_k05_no_quotient with main:={ PySem.Challenge.pw_rowbetween_k05_no_quotient.main with body:=[kept 1,kept 2,kept 3,kept 4,kept 6,kept 7,kept 8,kept 10,kept 11,kept 12,kept 13,kept 14,kept 15,kept 16] } }
def xt (s:Shared):Bool:=xlAt vw [] s && recOk (RowW.records (OpenRow.toRowW PySem.Challenge.rw_rowbetween_k05_no_quotient.row)) s
noncomputable def st0 (w:World) (os:OsState):Shared:=⟨boot_heap w.params,#[],boot_drawn,boot_toks,os⟩
noncomputable def rn (w:World) (os:OsState):=(topRun treeTable PySem.Challenge.pw_rowbetween_k05_no_quotient w 11 (some (Value.ref 6)) 2642 (st0 w os) (topStub PySem.Challenge.pw_rowbetween_k05_no_quotient))
theorem said:PySem.W.OpenLaw.wellSaid PySem.Challenge.rw_rowbetween_k05_no_quotient=true:=by
 rw [PySem.W.Fast.te9446332074065402090]
 kernel_rfl
local macro_rules | `(tactic| walk_at "hf") => `(tactic| (unfold Hd.rn Hd.st0; (try rw [PySem.W.Fast.te14082659384304107361]); (try rw [PySem.W.Fast.te14364793385576792824]); (try rw [PySem.W.Fast.te5160383126252970620]); (try rw [PySem.W.Fast.te10880121769531294198]); (try rw [PySem.W.Fast.te14722251495701143533]); (try rw [PySem.W.Fast.te10994771534591457954]); (try rw [PySem.W.Fast.te479339242167458305]); (try rw [PySem.W.Fast.te16090120013241838585]); (try rw [PySem.W.Fast.te2386780881361962483]); (try rw [PySem.W.Fast.te11698064438423848299]); (try rw [PySem.W.Fast.te7317090234206586261]); (try rw [PySem.W.Fast.te7369524293546568484]); (try rw [PySem.W.Fast.te821141287760084731]); (try rw [PySem.W.Fast.te3399658132070893891]); (try rw [PySem.W.Fast.te7409074990110511671]); (try rw [PySem.W.Fast.te13664370479719496447]); (try rw [PySem.W.Fast.te5991557255702980513]); (try rw [PySem.W.Fast.te3247288618530077131]); (try rw [PySem.W.Fast.te5923862056798008813]); kernel_rfl))
theorem pair {σ α β:Type} {o:Option σ} {f:σ→α} {g:σ→β} {x:α} {y:β} (a:o.map f=some x) (b:o.map g=some y):o.map (fun s=>(f s,g s))=some (x,y):=by
 cases o with
 | none=>cases a
 | some s=>cases a;cases b;rfl
theorem pFst {σ α β:Type} {o:Option σ} {f:σ→α} {g:σ→β} {x:α} {y:β} (a:o.map (fun s=>(f s,g s))=some (x,y)):o.map f=some x:=by
 cases o with
 | none=>cases a
 | some s=>cases a;rfl
theorem pSnd {σ α β:Type} {o:Option σ} {f:σ→α} {g:σ→β} {x:α} {y:β} (a:o.map (fun s=>(f s,g s))=some (x,y)):o.map g=some y:=by
 cases o with
 | none=>cases a
 | some s=>cases a;rfl
theorem left {α:Type} {Yf:Shared→α} {Ya:World→α} (go:∀ (w:World) (os:OsState),(rn w os).map (fun s=>(staticsOk (importedModules PySem.Challenge.pw_rowbetween_k05_no_quotient.main.body) (boot_heap w.params) s.heap && namesBound PySem.Challenge.pw_rowbetween_k05_no_quotient s.heap && gensDone s && laidKept (boot_heap w.params) s.heap,openSeen vw [] (importedModules PySem.Challenge.pw_rowbetween_k05_no_quotient.main.body) xt true s,Yf s))=some (true,openGood vw [],Ya w)):LeftO PySem.Challenge.pw_rowbetween_k05_no_quotient vw [] xt Yf Ya 2642 true:=fun w=>by
 obtain ⟨⟨h,gs,d,k,os⟩,e1,e2⟩:=Option.map_eq_some_iff.mp (boot_open (p:=PySem.Challenge.pw_rowbetween_k05_no_quotient) (N:=2642) (by kernel_rfl) (by decide) (fun s=>rfl) w)
 obtain ⟨rfl,rfl,rfl,rfl⟩:h=boot_heap w.params∧gs=#[]∧d=boot_drawn∧k=boot_toks:=by simpa using e2
 have size:((boot_heap w.params).isNs mainGlobals,(boot_heap w.params).objs.size,(boot_heap w.params).nsMap mainGlobals "__annotations__")=(true,11,some (Value.ref 6)):=by kernel_rfl
 simp only [Prod.mk.injEq] at size
 obtain ⟨z1,z2,z3⟩:=size
 obtain ⟨s,r1,r2⟩:=Option.map_eq_some_iff.mp (go w os)
 simp only [Prod.mk.injEq] at r2
 obtain ⟨l1,l2,l3⟩:=r2
 unfold openEnds
 rw [e1]
 show (topFrom treeTable PySem.Challenge.pw_rowbetween_k05_no_quotient w 2642 (st0 w os)).map _=_
 have t:topFrom treeTable PySem.Challenge.pw_rowbetween_k05_no_quotient w 2642 (st0 w os)=some s:=by
  unfold topFrom
  rw [show (st0 w os).heap=boot_heap w.params from rfl,z1,z2,z3]
  unfold rn at r1
  rw [r1]
  show (match _ && _ && _ && _ with | true=>_ | false=>_)=_
  rw [l1]
 rw [t]
 exact congrArg some (Prod.ext (by exact l2) (by exact l3))
theorem dZ (w:World) (os:OsState):(rn w os).map (fun s=>(staticsOk (importedModules PySem.Challenge.pw_rowbetween_k05_no_quotient.main.body) (boot_heap w.params) s.heap && namesBound PySem.Challenge.pw_rowbetween_k05_no_quotient s.heap && gensDone s && laidKept (boot_heap w.params) s.heap,seen ((recsOf vw).map (·.name)) (ownsOf vw) [] { s with gens:=#[] },s.heap.bltView,s.heap.keysOk (looseW vw []) ((recsOf vw).map (·.name)) ((litsOf vw).map (·.1)) ((clssOf vw (looseW vw [])).map (·.name)) && s.heap.accountedOkI (importedModules PySem.Challenge.pw_rowbetween_k05_no_quotient.main.body) && s.heap.isNs mainGlobals && s.heap.isNs builtinsNs && tablesOk vw s.heap && xt s && (if true then s.gens.size == 0 else !leftWithCleanup s.gens)))=some ((true),(expectedOf vw),(bltViewBooted),(true)):=by
 (refine pair ?_ (pair ?_ (pair ?_ ?_)));(focus (walk_at "hf"));(focus (walk_at "hf"));(focus (walk_at "hf"));(focus (walk_at "hf"))
theorem ja (w:World) (os:OsState):(rn w os).map (fun s=>staticsOk (importedModules PySem.Challenge.pw_rowbetween_k05_no_quotient.main.body) (boot_heap w.params) s.heap && namesBound PySem.Challenge.pw_rowbetween_k05_no_quotient s.heap && gensDone s && laidKept (boot_heap w.params) s.heap)=some (true):=(pFst (dZ w os))
theorem iW (w:World) (os:OsState):(rn w os).map (fun s=>seen ((recsOf vw).map (·.name)) (ownsOf vw) [] { s with gens:=#[] })=some (expectedOf vw):=(pFst (pSnd (dZ w os)))
theorem i7 (w:World) (os:OsState):(rn w os).map (fun s=>s.heap.bltView)=some (bltViewBooted):=(pFst (pSnd (pSnd (dZ w os))))
theorem iP (w:World) (os:OsState):(rn w os).map (fun s=>s.heap.keysOk (looseW vw []) ((recsOf vw).map (·.name)) ((litsOf vw).map (·.1)) ((clssOf vw (looseW vw [])).map (·.name)) && s.heap.accountedOkI (importedModules PySem.Challenge.pw_rowbetween_k05_no_quotient.main.body) && s.heap.isNs mainGlobals && s.heap.isNs builtinsNs && tablesOk vw s.heap && xt s && (if true then s.gens.size == 0 else !leftWithCleanup s.gens))=some (true):=(pSnd (pSnd (pSnd (dZ w os))))
theorem e7 (w:World) (os:OsState):(rn w os).map (fun s=>(tabsOk vw s,pinSeenD vw (drecsOf vw) s,plainSeenE vw (looseW vw []) s))=some ((true),(pinGoodD (drecsOf vw)),(plainGoodE vw (looseW vw []))):=by
 (refine pair ?_ (pair ?_ ?_));(focus (walk_at "hf"));(focus (walk_at "hf"));(focus (walk_at "hf"))
theorem iR (w:World) (os:OsState):(rn w os).map (fun s=>tabsOk vw s)=some (true):=(pFst (e7 w os))
theorem jz (w:World) (os:OsState):(rn w os).map (fun s=>pinSeenD vw (drecsOf vw) s)=some (pinGoodD (drecsOf vw)):=(pFst (pSnd (e7 w os)))
theorem jB (w:World) (os:OsState):(rn w os).map (fun s=>plainSeenE vw (looseW vw []) s)=some (plainGoodE vw (looseW vw [])):=(pSnd (pSnd (e7 w os)))
theorem gb (w:World) (os:OsState):(rn w os).map (fun s=>(plainSeenD vw [] s,wideSeen vw s,clsSeenW vw [] s))=some ((plainGoodD vw []),(wideGood vw),(clsGoodW vw [])):=by
 (refine pair ?_ (pair ?_ ?_));(focus (walk_at "hf"));(focus (walk_at "hf"));(focus (walk_at "hf"))
theorem iD (w:World) (os:OsState):(rn w os).map (fun s=>plainSeenD vw [] s)=some (plainGoodD vw []):=(pFst (gb w os))
theorem je (w:World) (os:OsState):(rn w os).map (fun s=>wideSeen vw s)=some (wideGood vw):=(pFst (pSnd (gb w os)))
theorem jK (w:World) (os:OsState):(rn w os).map (fun s=>clsSeenW vw [] s)=some (clsGoodW vw []):=(pSnd (pSnd (gb w os)))
theorem jb (w:World) (os:OsState):(rn w os).map (fun s=>openSeen vw [] (importedModules PySem.Challenge.pw_rowbetween_k05_no_quotient.main.body) xt true s)=some (openGood vw []):=(pair (iW w os) (pair (i7 w os) (pair (iP w os) (pair (iR w os) (pair (jz w os) (pair (jB w os) (pair (iD w os) (pair (je w os) (jK w os)))))))))
theorem all_a {α:Type} {Yf:Shared→α} {Ya:World→α} (h:∀ (w:World) (os:OsState),(rn w os).map (fun s=>Yf s)=some (Ya w)) (w:World) (os:OsState) :
  (rn w os).map (fun s=>(staticsOk (importedModules PySem.Challenge.pw_rowbetween_k05_no_quotient.main.body) (boot_heap w.params) s.heap && namesBound PySem.Challenge.pw_rowbetween_k05_no_quotient s.heap && gensDone s && laidKept (boot_heap w.params) s.heap,openSeen vw [] (importedModules PySem.Challenge.pw_rowbetween_k05_no_quotient.main.body) xt true s,Yf s))=some (true,openGood vw [],Ya w):=pair (ja w os) (pair (jb w os) (h w os))
end Hd
structure Hd.Facts (K:PySem.W.Frag):Prop where
 q0:DL.FdK K "common_divisor" Lw.s_common_divisor
 q1:DL.FdK K "made" Lw.s_made
 q2:DL.FdK K "_law_common" Lw.s__law_common
 q3:DL.FdK K "_law_number" Lw.s__law_number
 q4:DL.FdK K "_law_fraction" Lw.s__law_fraction
 q5:DL.FdK K "over" Lw.s_over
 q6:DL.FdK K "_law_caught" Lw.s__law_caught
 q7:DL.FdK K "_law_refused" Lw.s__law_refused
 q8:DL.FdK K "_law_made" Lw.s__law_made
 q9:DL.FdK K "law" Lw.s_law
 z0:PySem.W.nsIn K PySem.mainGlobals "abs"=some none
 z1:PySem.W.nsIn K PySem.mainGlobals "isinstance"=some none
 z2:PySem.W.nsIn K PySem.mainGlobals "ValueError"=some none
 z3:PySem.W.nsIn K PySem.mainGlobals "range"=some none
 z4:PySem.W.nsIn K PySem.mainGlobals "len"=some none
 ef:DL.ErF K Lw.i_NoQuotient Lw.i_NoName Lw.i_TooMany
section
open PySem PySem.W PyProof.Rows
local macro_rules | `(tactic| o_head $H) => `(tactic| (
 refine PySem.W.holds_open (r:=PySem.Challenge.rw_rowbetween_k05_no_quotient.row) (q:=Hd.vw) (loose:=[]) (Xt:=Hd.xt)
  (XP:=PySem.W.XL Hd.vw []) (Yf:=PySem.W.Hook.obs $H) (Ya:=PySem.W.Hook.val $H) (YP:=PySem.W.Hook.says $H) (N:=2642)
  ?_ (PySem.W.Hook.of $H) (PySem.W.Hook.keeps $H) (fun s e=>PySem.W.xl_of s (Bool.and_eq_true_iff.mp e).1)
  PySem.W.XL.keeps (by rfl) (by rfl) (by rfl) (fun s e=>PySem.W.recFacts_of (Bool.and_eq_true_iff.mp e).2)
  (by rfl) (by first | assumption | decide +kernel) (by decide +kernel) ⟨rfl,rfl,rfl,rfl,rfl,by decide +kernel⟩ ?_ ?_
 (focus (refine Hd.left ?_;refine Hd.all_a ?_;(focus (intro w os;unfold Hd.rn Hd.st0;(try rw [PySem.W.Fast.te14082659384304107361]);(try rw [PySem.W.Fast.te14364793385576792824]);(try rw [PySem.W.Fast.te5160383126252970620]);(try rw [PySem.W.Fast.te10880121769531294198]);(try rw [PySem.W.Fast.te14722251495701143533]);(try rw [PySem.W.Fast.te10994771534591457954]);(try rw [PySem.W.Fast.te479339242167458305]);(try rw [PySem.W.Fast.te16090120013241838585]);(try rw [PySem.W.Fast.te2386780881361962483]);(try rw [PySem.W.Fast.te11698064438423848299]);(try rw [PySem.W.Fast.te7317090234206586261]);(try rw [PySem.W.Fast.te7369524293546568484]);(try rw [PySem.W.Fast.te821141287760084731]);(try rw [PySem.W.Fast.te3399658132070893891]);(try rw [PySem.W.Fast.te7409074990110511671]);(try rw [PySem.W.Fast.te13664370479719496447]);(try rw [PySem.W.Fast.te5991557255702980513]);(try rw [PySem.W.Fast.te3247288618530077131]);(try rw [PySem.W.Fast.te5923862056798008813]);kernel_rfl))))
 (focus w_witness2)))
set_option maxRecDepth 100000 in
set_option maxHeartbeats 0 in
theorem Hd.half (F:∀ (YP:World→Heap→Prop) (d:DefRec) (K:Params→PySem.W.Frag),(∀ (w:World) (h:Heap),YP w h→(K w.params).In h)→d.params.defaults=[]→d.name="law"→(∀ w:World,Hd.Facts (K w.params))→PySem.W.WalkO Hd.vw [] (PySem.W.XL Hd.vw []) YP PySem.Challenge.rw_rowbetween_k05_no_quotient.row.toRowW d [] (fun f vs=>PySem.call f vs)):PySem.Challenge.rw_rowbetween_k05_no_quotient.Holds:=by
 w_on;refine PySem.W.holds_law Hd.said fun said=>?_;k_head
 k_fill
 refine F _ _ _ (fun w h Y=>PySem.W.kIn_of Y) rfl rfl fun w=>?_
 refine' ⟨?_,?_,?_,?_,?_,?_,?_,?_,?_,?_,?_,?_,?_,?_,?_,?_⟩
 ·exact⟨⟨_,_,_,_,_,_,_,_,_,_,by k_is,by k_is,by k_is,by k_is⟩⟩
 ·exact⟨⟨_,_,_,_,_,_,_,_,_,_,by k_is,by k_is,by k_is,by k_is⟩⟩
 ·exact⟨⟨_,_,_,_,_,_,_,_,_,_,by k_is,by k_is,by k_is,by k_is⟩⟩
 ·exact⟨⟨_,_,_,_,_,_,_,_,_,_,by k_is,by k_is,by k_is,by k_is⟩⟩
 ·exact⟨⟨_,_,_,_,_,_,_,_,_,_,by k_is,by k_is,by k_is,by k_is⟩⟩
 ·exact⟨⟨_,_,_,_,_,_,_,_,_,_,by k_is,by k_is,by k_is,by k_is⟩⟩
 ·exact⟨⟨_,_,_,_,_,_,_,_,_,_,by k_is,by k_is,by k_is,by k_is⟩⟩
 ·exact⟨⟨_,_,_,_,_,_,_,_,_,_,by k_is,by k_is,by k_is,by k_is⟩⟩
 ·exact⟨⟨_,_,_,_,_,_,_,_,_,_,by k_is,by k_is,by k_is,by k_is⟩⟩
 ·exact⟨⟨_,_,_,_,_,_,_,_,_,_,by k_is,by k_is,by k_is,by k_is⟩⟩
 ·k_is
 ·k_is
 ·k_is
 ·k_is
 ·k_is
 ·exact⟨⟨_,_,⟨by k_is,⟨⟨_,_,_,_,_,_,_,_,_,_,_,_,_,by k_is⟩⟩,by kernel_rfl,by k_is,by k_is,by k_is,by k_is,by k_is,by k_is⟩,by kernel_rfl,by kernel_rfl,by kernel_rfl,⟨⟨_,_,_,by k_is,⟨⟨_,_,_,_,_,_,_,_,_,_,_,_,_,by k_is⟩⟩,by kernel_rfl,by k_is,by k_is,by k_is,by k_is,by k_is,_,_,_,_,_,_,_,_,by k_is,by k_is,by k_is⟩⟩,⟨⟨_,_,_,by k_is,⟨⟨_,_,_,_,_,_,_,_,_,_,_,_,_,by k_is⟩⟩,by kernel_rfl,by k_is,by k_is,by k_is,by k_is,by k_is,_,_,_,_,_,_,_,_,by k_is,by k_is,by k_is⟩⟩,⟨⟨_,_,_,by k_is,⟨⟨_,_,_,_,_,_,_,_,_,_,_,_,_,by k_is⟩⟩,by kernel_rfl,by k_is,by k_is,by k_is,by k_is,by k_is,_,_,_,_,_,_,_,_,by k_is,by k_is,by k_is⟩⟩⟩⟩
end
namespace L2
open PySem PySem.Spec PyProof.Rows
abbrev Key:=Sum Int Str
def ei:Key→Value→Bool
 | .inl k,v=>Value.isInt k v
 | .inr x,v=>Value.isStrOf x v
def keyH (w:World):Key→Int
 | .inl k=>hashInt k
 | .inr x=>hashStr w x
theorem ar:∀ {k:Key} {v:Value},ei k v=true→(∃ i t,k=Sum.inl i∧v=Value.int i t)∨(∃ x t,k=Sum.inr x∧v=Value.str x t)
 | .inl i,v,h=>by
  obtain ⟨t,e⟩:=Value.isInt_shape (k:=i) (v:=v) h
  exact .inl ⟨i,t,rfl,e⟩
 | .inr x,v,h=>by
  obtain ⟨t,e⟩:=Value.isStrOf_shape (x:=x) (v:=v) h
  exact .inr ⟨x,t,rfl,e⟩
theorem fB (i:Int) (t:Tok):ei (.inl i) (.int i t)=true:=by simp [ei,Value.isInt]
theorem f8 (x:Str) (t:Tok):ei (.inr x) (.str x t)=true:=by simp [ei,Value.isStrOf]
theorem jY (a b:Int):decide ((Sum.inl a:Key)=Sum.inl b)=(a == b):=by
 by_cases e:a=b
 ·subst e;simp
 ·have h:¬ (Sum.inl a:Key)=Sum.inl b:=fun q=>e (Sum.inl.inj q)
  rw [decide_eq_false h]
  exact (beq_eq_false_iff_ne.mpr e).symm
theorem kl (a b:Str):decide ((Sum.inr a:Key)=Sum.inr b)=decide (a=b):=by
 by_cases e:a=b
 ·subst e;simp
 ·have h:¬ (Sum.inr a:Key)=Sum.inr b:=fun q=>e (Sum.inr.inj q)
  rw [decide_eq_false h,decide_eq_false e]
theorem lB (a:Int) (b:Str):decide ((Sum.inl a:Key)=Sum.inr b)=false:=decide_eq_false (fun q=>nomatch q)
theorem kT (a:Str) (b:Int):decide ((Sum.inr a:Key)=Sum.inl b)=false:=decide_eq_false (fun q=>nomatch q)
def aU (prog:Program) (w:World):PySem.KeyKind prog w Key where
 is:=ei
 hash:=keyH w
 inj:=fun v a b ha hb=>by
  rcases ar ha with ⟨i,t,rfl,rfl⟩ | ⟨x,t,rfl,rfl⟩
  ·rcases ar hb with ⟨j,u,rfl,e⟩ | ⟨y,u,rfl,e⟩
   ·injection e with e1 _;rw [e1]
   ·exact nomatch e
  ·rcases ar hb with ⟨j,u,rfl,e⟩ | ⟨y,u,rfl,e⟩
   ·exact nomatch e
   ·injection e with e1 _;rw [e1]
 byValue:=fun k v h=>by
  rcases ar h with ⟨i,t,rfl,rfl⟩ | ⟨x,t,rfl,rfl⟩<;>rfl
 pyHash:=fun hv h=>by
  rcases ar hv with ⟨i,t,rfl,rfl⟩ | ⟨x,t,rfl,rfl⟩
  ·exact wpAny_pyHash_int h
  ·exact wpAny_pyHash_str h
 eqBool:=fun hu hv h=>by
  rcases ar hu with ⟨i,t,rfl,rfl⟩ | ⟨x,t,rfl,rfl⟩
  ·rcases ar hv with ⟨j,u,rfl,rfl⟩ | ⟨y,u,rfl,rfl⟩
   ·rw [jY] at h;exact wpAny_eqBool_int h
   ·rw [lB] at h;exact SeqAt.EqAt.int_str i t y u _ _ _ _ h
  ·rcases ar hv with ⟨j,u,rfl,rfl⟩ | ⟨y,u,rfl,rfl⟩
   ·rw [kT] at h;exact SeqAt.EqAt.str_int x t j u _ _ _ _ h
   ·rw [kl] at h;exact wpAny_eqBool_str h
 «strs»:=fun k x t v h=>by
  rcases ar h with ⟨i,u,rfl,e⟩ | ⟨y,u,rfl,e⟩
  ·exact nomatch e
  ·injection e with e1 _
   subst e1
   cases v<;>rfl
theorem cW (prog:Program) (w:World) (i:Int) (t:Tok):(aU prog w).is (.inl i) (.int i t)=true:=fB i t
theorem dB (prog:Program) (w:World) (x:Str) (t:Tok):(aU prog w).is (.inr x) (.str x t)=true:=f8 x t
end L2
namespace L2
open PySem PySem.Spec PyProof.Rows
inductive V where
 | non | bl (b:Bool) | int (i:Int) | str (x:Str) | byt (b:Array UInt8) | flt (b:UInt64) | ref (a:Addr) | ty (n:String)
 deriving DecidableEq
def RelV:V→Value→Prop
 | .non,u=>u=Value.none
 | .bl b,u=>u=Value.bool b
 | .int i,u=>∃ t,u=Value.int i t
 | .str x,u=>∃ t,u=Value.str x t
 | .byt b,u=>∃ t,u=Value.bytes b t
 | .flt b,u=>∃ t,u=Value.float b t
 | .ref a,u=>u=Value.ref a
 | .ty n,u=>u=Value.type n
abbrev Vals:List V→List Value→Prop:=Paired RelV
theorem Vals.length {xs:List V} {us:List Value} (r:Vals xs us):xs.length=us.length:=Paired.length r
theorem Vals.get:∀ {xs:List V} {us:List Value} {i:Nat} {x:V},Vals xs us→xs[i]?=some x→∃ u,us[i]?=some u∧RelV x u
 | _,_,_,_,.nil,e=>by simp at e
 | _,_,0,_,.cons r _,e=>by simp at e;subst e;exact⟨_,rfl,r⟩
 | _,_,i + 1,x,.cons _ t,e=>by
  obtain ⟨u,h1,h2⟩:=Vals.get (i:=i) (x:=x) t (by simpa using e)
  exact⟨u,by simpa using h1,h2⟩
theorem Vals.append:∀ {xs ys:List V} {us ws:List Value},Vals xs us→Vals ys ws→Vals (xs++ys) (us++ws)
 | _,_,_,_,.nil,s=>s
 | _,_,_,_,.cons r t,s=>.cons r (Vals.append t s)
theorem Vals.take:∀ {xs:List V} {us:List Value} (n:Nat),Vals xs us→Vals (xs.take n) (us.take n)
 | _,_,0,_=>.nil
 | _,_,_ + 1,.nil=>.nil
 | _,_,n + 1,.cons r t=>.cons r (Vals.take n t)
theorem Vals.drop:∀ {xs:List V} {us:List Value} (n:Nat),Vals xs us→Vals (xs.drop n) (us.drop n)
 | _,_,0,r=>r
 | _,_,_ + 1,.nil=>.nil
 | _,_,n + 1,.cons _ t=>Vals.drop n t
def RelO:Option V→Option Value→Prop
 | some v,some u=>RelV v u
 | none,none=>True
 | _,_=>False
def KV {κ:Type}:List (κ×V)→List (κ×Value)→Prop:=Paired fun (p:κ×V) (q:κ×Value)=>p.1=q.1∧RelV p.2 q.2
def kV:Key→V
 | .inl i=>.int i
 | .inr x=>.str x
inductive HO where
 | lst (xs:List V)
 | tup (xs:List V)
 | dK (kvs:List (Key×V)) | dT (kvs:List (List Key×V))
 | set (S:Int→Bool) (n:Nat)
 | ins (C dx:Addr) (fs:List (Str×V))
 | own (x:Addr)
 | xd (fs:List (Str×V))
 | met (f x:Addr)
 | rng (lo hi:Int)
 | frz (o:Obj) (u:HO)
 | tbl (ps:Array Value)
 | ext (φ:Heap→Prop)
abbrev Hp:=Addr→Option HO
def upd (H:Hp) (a:Addr) (o:HO):Hp:=fun b=>if b=a then some o else H b
theorem af {H:Hp} {a:Addr} {o:HO}:upd H a o a=some o:=by unfold upd;rw [if_pos rfl]
theorem ai {H:Hp} {a b:Addr} {o:HO} (h:b≠a):upd H a o b=H b:=by unfold upd;rw [if_neg h]
theorem aK {H:Hp} {a b:Addr} {o:HO} (h:H a=some o) (h':H b=none):a≠b:=by
 intro e;subst e;rw [h] at h';cases h'
section
variable (P:Program) (w:World)
def aW (H:Hp) (h:Heap) (a:Addr):HO→Prop
 | .lst xs=>xs.length≤sizeLine∧∃ (its:List Value) (n:Nat),Vals xs its∧h.get? a=some { cls:=.type "list",data:=.seq its.toArray n }
 | .tup xs=>xs.length≤sizeLine∧∃ its:List Value,Vals xs its∧IsTup h a its.toArray
 | .dK kvs=>kvs.length≤sizeLine∧(a == sysModules)=false∧∃ vs,KV kvs vs∧h.DictOf (aU P w) a vs
 | .dT kvs=>kvs.length≤sizeLine∧(a == sysModules)=false∧∃ xs:List (List Key×Addr×Value),
   Paired (fun (p:List Key×V) (q:List Key×Addr×Value)=>p.1=q.1∧H q.2.1=some (.tup (p.1.map kV))∧RelV p.2 q.2.2) kvs xs ∧
   ∃ o es ep,h.get? a=some o∧o.ExactDict∧o.data=.dict es ep∧es.toList=xs.map (entryOfKey (tupleKind (aU P w)))∧(xs.map (·.1)).Nodup
 | .set S n=>h.SetOf (intKind P w) a S n
 | .ins C dx fs=>H dx=some (.own a)∧fs.length≤1000∧dx≠a∧h.get? a=some (PySem.W.instObj C dx) ∧
   ∃ mA,h.Ns1 dx mA∧(∀ f,RelO (fs.lookup f) (mA f))∧PySem.Within mA (fs.map (·.1))
 | .own _=>∃ o,h.get? a=some o
 | .xd fs=>∃ mA,h.Ns1 a mA∧∀ f,RelO (fs.lookup f) (mA f)
 | .rng lo hi=>∃ t u v,h.get? a=some { cls:=.type "range",data:=.fields #[.int lo t,.int hi u,.int 1 v] }
 | .frz o u=>h.get? a=some o∧aW H h a u
 | .tbl ps=>h.get? a=some { cls:=.none,data:=.fields ps }
 | .met f x=>h.get? a=some (PySem.W.methodObj (.ref f) (.ref x))
 | .ext φ=>φ h∧(∃ o,h.get? a=some o)∧∀ h1 h2:Heap,φ h1→(∀ o,h1.get? a=some o→h2.get? a=some o)→φ h2
def HOk (H:Hp) (h:Heap):Prop:=∀ a o,H a=some o→aW P w H h a o
end
section
variable {P:Program} {w:World} {H H':Hp} {h h':Heap} {a:Addr} {o:HO}
theorem aW.lt (x:aW P w H h a o):a < h.objs.size:=by
 cases o with
 | lst xs=>obtain ⟨_,_,_,_,e⟩:=x;exact Heap.lt_size e
 | tup xs=>obtain ⟨_,_,_,p⟩:=x;exact p.lt
 | dK kvs=>obtain ⟨_,_,_,_,o,_,_,e,_⟩:=x;exact Heap.lt_size e
 | dT kvs=>obtain ⟨_,_,_,_,o,_,_,e,_⟩:=x;exact Heap.lt_size e
 | set S n=>obtain ⟨o,_,_,_,e,_⟩:=x;exact Heap.lt_size e
 | ins C dx fs=>obtain ⟨_,_,_,e,_⟩:=x;exact Heap.lt_size e
 | own y=>obtain ⟨_,e⟩:=x;exact Heap.lt_size e
 | xd fs=>obtain ⟨_,⟨_,_,_,e,_⟩,_⟩:=x;exact Heap.lt_size e
 | rng lo hi=>obtain ⟨_,_,_,e⟩:=x;exact Heap.lt_size e
 | frz ob u=>obtain ⟨e,_⟩:=x;exact Heap.lt_size e
 | tbl ps=>exact Heap.lt_size (show h.get? a=some _ from x)
 | met f y=>exact Heap.lt_size (show h.get? a=some _ from x)
 | ext φ=>obtain ⟨_,⟨_,e⟩,_⟩:=x;exact Heap.lt_size e
theorem Paired.mapP {α β:Type} {F G:α→β→Prop}:∀ {l₁:List α} {l₂:List β},Paired F l₁ l₂→(∀ a b,F a b→G a b)→Paired G l₁ l₂
 | _,_,.nil,_=>.nil
 | _,_,.cons r t,f=>.cons (f _ _ r) (Paired.mapP t f)
theorem aW.stay (x:aW P w H h a o) (k:∀ b u,(b=a∨H b=some (.own a))→h.get? b=some u→h'.get? b=some u)
  (ho:∀ b,H b=some (.own a)→H' b=some (.own a)) (ht:∀ b xs,H b=some (.tup xs)→H' b=some (.tup xs)):aW P w H' h' a o:=by
 induction o with
 | lst xs=>obtain ⟨z,its,n,r,e⟩:=x;exact⟨z,its,n,r,k _ _ (.inl rfl) e⟩
 | tup xs=>obtain ⟨z,its,r,ob,e,c⟩:=x;exact⟨z,its,r,ob,k _ _ (.inl rfl) e,c⟩
 | dK kvs=>obtain ⟨z,y,vs,r,ob,es,ep,e,c⟩:=x;exact⟨z,y,vs,r,ob,es,ep,k _ _ (.inl rfl) e,c⟩
 | dT kvs =>
  obtain ⟨z,y,xs,r,ob,es,ep,e,c⟩:=x
  exact⟨z,y,xs,Paired.mapP r fun p q z=>⟨z.1,ht _ _ z.2.1,z.2.2⟩,ob,es,ep,k _ _ (.inl rfl) e,c⟩
 | set S n=>obtain ⟨ob,es,ep,t,e,c⟩:=x;exact⟨ob,es,ep,t,k _ _ (.inl rfl) e,c⟩
 | ins C dx fs =>
  obtain ⟨d,z,ne,e,mA,⟨od,es,ep,e2,c⟩,r⟩:=x
  exact⟨ho _ d,z,ne,k _ _ (.inl rfl) e,mA,⟨od,es,ep,k _ _ (.inr d) e2,c⟩,r⟩
 | own y=>obtain ⟨ob,e⟩:=x;exact⟨ob,k _ _ (.inl rfl) e⟩
 | xd fs=>obtain ⟨mA,⟨od,es,ep,e,c⟩,r⟩:=x;exact⟨mA,⟨od,es,ep,k _ _ (.inl rfl) e,c⟩,r⟩
 | rng lo hi=>obtain ⟨t,u,v,e⟩:=x;exact⟨t,u,v,k _ _ (.inl rfl) e⟩
 | frz ob u ih=>obtain ⟨e,q⟩:=x;exact⟨k _ _ (.inl rfl) e,ih q⟩
 | tbl ps =>
  have e:h.get? a=some { cls:=.none,data:=.fields ps }:=x
  show h'.get? a=some { cls:=.none,data:=.fields ps }
  exact k a _ (.inl rfl) e
 | met f y =>
  have e:h.get? a=some (PySem.W.methodObj (.ref f) (.ref y)):=x
  show h'.get? a=some (PySem.W.methodObj (.ref f) (.ref y))
  exact k a _ (.inl rfl) e
 | ext φ=>obtain ⟨p,⟨o,e⟩,st⟩:=x;exact⟨st _ _ p fun o q=>k _ _ (.inl rfl) q,⟨o,k _ _ (.inl rfl) e⟩,st⟩
theorem HOk.lt (x:HOk P w H h) (e:H a=some o):a < h.objs.size:=(x a o e).lt
theorem HOk.fresh (x:HOk P w H h) (e:h.objs.size≤a):H a=none:=by
 cases q:H a with
 | none=>rfl
 | some u=>exact absurd (Nat.lt_of_lt_of_le (x.lt q) e) (Nat.lt_irrefl _)
theorem HOk.kept (x:HOk P w H h) (k:∀ b u,h.get? b=some u→h'.get? b=some u):HOk P w H h':=fun a o e =>
 (x a o e).stay (fun b u _ q=>k b u q) (fun _ q=>q) fun _ _ q=>q
theorem HOk.laid (x:HOk P w H h) (k:∀ b u,h.get? b=some u→h'.get? b=some u) (hp:h.objs.size≤a) (new:aW P w (upd H a o) h' a o):HOk P w (upd H a o) h':=fun b u e=>by
 have hn:=x.fresh hp
 by_cases hb:b=a
 ·subst hb;rw [af] at e;cases e;exact new
 ·rw [ai hb] at e
  exact (x b u e).stay (fun c v _ q=>k c v q) (fun c q=>by rw [ai (aK q hn)];exact q) fun c xs q=>by rw [ai (aK q hn)];exact q
end
def Rd (H:Hp) (a:Addr) (u:HO):Prop:=H a=some u∨∃ o,H a=some (.frz o u)
theorem Rd.of {H:Hp} {a:Addr} {u:HO} (h:H a=some u):Rd H a u:=.inl h
theorem Rd.ok {P:Program} {w:World} {H:Hp} {h:Heap} {a:Addr} {u:HO} (r:Rd H a u) (x:HOk P w H h):aW P w H h a u:=by
 rcases r with r | ⟨o,r⟩
 ·exact x a u r
 ·obtain ⟨_,q⟩:=x a _ r
  exact q
def Mut:Option HO→Prop
 | some (.lst _)=>True
 | some (.dK _)=>True
 | some (.dT _)=>True
 | some (.set _ _)=>True
 | some (.ins _ _ _)=>True
 | some (.ext _)=>True
 | _=>False
section
variable {P:Program} {w:World} {H:Hp} {h h':Heap} {x e:Addr} {o':HO}
theorem HOk.write (ok:HOk P w H h) (mu:Mut (H x)) (he:e=x∨H e=some (.own x)) (k:∀ b u,b≠e→h.get? b=some u→h'.get? b=some u) (heo:∃ u,h'.get? e=some u)
  (new:aW P w (upd H x o') h' x o'):HOk P w (upd H x o') h':=fun b u q=>by
 have nown:∀ c y,H c=some (.own y)→c≠x:=fun c y r z=>by subst z;rw [r] at mu;exact mu
 have ntup:∀ c xs,H c=some (.tup xs)→c≠x:=fun c xs r z=>by subst z;rw [r] at mu;exact mu
 by_cases hb:b=x
 ·subst hb;rw [af] at q;cases q;exact new
 ·rw [ai hb] at q
  by_cases hbe:b=e
  ·have q':H b=some (.own x):=by
    rcases he with z | z
    ·exact absurd (hbe.trans z) hb
    ·rw [hbe];exact z
   rw [q] at q';cases q'
   obtain ⟨v,hv⟩:=heo
   exact⟨v,by rw [hbe];exact hv⟩
  ·refine (ok b u q).stay (fun c v hc r=>k c v ?_ r) (fun c r=>by rw [ai (nown c b r)];exact r) fun c xs r=>by rw [ai (ntup c xs r)];exact r
   rcases hc with rfl | hc
   ·exact hbe
   ·rintro rfl
    rcases he with z | z
    ·exact nown c b hc z
    ·rw [hc] at z;cases z;exact hb rfl
end
structure Un (fs ex:List Addr) (H H':Hp) (h h':Heap):Prop where
 keep:∀ b o,h.get? b=some o→H b=none→b∉fs→b∉ex→h'.get? b=some o
 slot:∀ b o,h.get? b=some o→H b=none→b∈fs→b∉ex→∃ sl,h'.get? b=some { o with slots:=sl }
 free:∀ b o,h.get? b=some o→H b=none→b∉ex→H' b=none
 there:∀ b o,h.get? b=some o→b∉ex→∃ o',h'.get? b=some o'
 tups:∀ b xs,H b=some (.tup xs)→H' b=some (.tup xs)
 frzs:∀ b o u,H b=some (.frz o u)→H' b=some (.frz o u)
 tbls:∀ b ps,H b=some (.tbl ps)→∃ more,H' b=some (.tbl (ps++more))
section
variable {fs fs' ex ex':List Addr} {H H1 H2:Hp} {h h1 h2 h':Heap} {a x e:Addr} {o:HO}
theorem Un.any (u:Un fs ex H H1 h h1) {b:Addr} {ob:Obj} (q:h.get? b=some ob) (n:H b=none) (hx:b∉ex):∃ sl,h1.get? b=some { ob with slots:=sl }:=by
 by_cases hb:b∈fs
 ·exact u.slot b ob q n hb hx
 ·exact⟨ob.slots,u.keep b ob q n hb hx⟩
theorem Un.trans (a:Un fs ex H H1 h h1) (b:Un fs ex H1 H2 h1 h2):Un fs ex H H2 h h2 where
 keep:=fun c ob q n hc hx=>b.keep c ob (a.keep c ob q n hc hx) (a.free c ob q n hx) hc hx
 slot:=fun c ob q n hc hx=>by
  obtain ⟨sl,e1⟩:=a.slot c ob q n hc hx
  obtain ⟨sl',e2⟩:=b.slot c _ e1 (a.free c ob q n hx) hc hx
  exact⟨sl',e2⟩
 free:=fun c ob q n hx=>by
  obtain ⟨o',e1⟩:=a.there c ob q hx
  exact b.free c o' e1 (a.free c ob q n hx) hx
 there:=fun c ob q hx=>by
  obtain ⟨o',e1⟩:=a.there c ob q hx
  exact b.there c o' e1 hx
 tups:=fun c xs q=>b.tups c xs (a.tups c xs q)
 frzs:=fun c ob xs q=>b.frzs c ob xs (a.frzs c ob xs q)
 tbls:=fun c ps q=>by
  obtain ⟨m1,e1⟩:=a.tbls c ps q
  obtain ⟨m2,e2⟩:=b.tbls c _ e1
  exact⟨m1++m2,by rw [e2,Array.append_assoc]⟩
theorem Un.kept (k:∀ b u,h.get? b=some u→h'.get? b=some u):Un fs ex H H h h' :=
 ⟨fun b ob q _ _ _=>k b ob q,fun b ob q _ _ _=>⟨ob.slots,k b ob q⟩,fun _ _ _ n _=>n,fun b ob q _=>⟨ob,k b ob q⟩,fun _ _ q=>q,fun _ _ _ q=>q,fun _ ps q=>⟨#[],by rw [q];simp⟩⟩
theorem Un.refl:Un fs ex H H h h:=Un.kept fun _ _ q=>q
theorem Un.laid (k:∀ b u,h.get? b=some u→h'.get? b=some u) (hp:h.objs.size≤a) (hn:H a=none):Un fs ex H (upd H a o) h h' where
 keep:=fun b u q _ _ _=>k b u q
 slot:=fun b u q _ _ _=>⟨u.slots,k b u q⟩
 free:=fun b u q n _=>by rw [ai (Nat.ne_of_lt (Nat.lt_of_lt_of_le (Heap.lt_size q) hp))];exact n
 there:=fun b u q _=>⟨u,k b u q⟩
 tups:=fun b xs q=>by rw [ai (aK q hn)];exact q
 frzs:=fun b u xs q=>by rw [ai (aK q hn)];exact q
 tbls:=fun b ps q=>⟨#[],by rw [ai (aK q hn),q];simp⟩
theorem Un.write (mu:Mut (H x)) (he:e=x∨H e=some (.own x)) (k:∀ b u,b≠e→h.get? b=some u→h'.get? b=some u) (heo:∃ u,h'.get? e=some u):Un fs ex H (upd H x o) h h':=by
 have hx:∀ b,H b=none→b≠x:=fun b n z=>by subst z;rw [n] at mu;exact mu
 have hb:∀ b,H b=none→b≠e:=fun b n z=>by
  subst z
  rcases he with r | r
  ·exact hx b n r
  ·rw [n] at r;cases r
 have hm:∀ b u,H b=some u→¬ Mut (some u)→b≠x:=fun b u q nm z=>by subst z;rw [q] at mu;exact nm mu
 refine⟨fun b u q n _ _=>k b u (hb b n) q,fun b u q n _ _=>⟨u.slots,k b u (hb b n) q⟩,fun b u q n _=>by rw [ai (hx b n)];exact n,fun b u q _=>?_,
  fun b xs q=>by rw [ai (hm b _ q fun z=>z)];exact q,fun b u xs q=>by rw [ai (hm b _ q fun z=>z)];exact q,fun b ps q=>⟨#[],by rw [ai (hm b _ q fun z=>z),q];simp⟩⟩
 by_cases hbe:b=e
 ·subst hbe;exact heo
 ·exact⟨u,k b u hbe q⟩
end
def trk (h:Heap) (H:Hp):List Addr:=(List.range h.objs.size).filter fun a=>(H a).isSome
def hidT (h:Heap) (H:Hp):Heap:=PySem.W.hideAll h (trk h H)
theorem f7 (h:Heap) (H:Hp):(hidT h H).objs.size=h.objs.size:=PySem.W.hideAll_size _ _
theorem gB {h:Heap} {H:Hp} {b:Addr} {o:Obj} (e:h.get? b=some o) (n:H b=none):(hidT h H).get? b=some o :=
 PySem.W.hideAll_get _ e fun hm=>by
  have q:(H b).isSome=true:=(List.mem_filter.mp hm).2
  rw [n] at q;simp at q
theorem iI {h:Heap} {H:Hp} {b:Addr} {o:Obj} (e:(hidT h H).get? b=some o):h.get? b=some o∧H b=none:=by
 have e':h.get? b=some o:=PySem.W.of_hideAll (trk h H) e
 refine⟨e',?_⟩
 cases q:H b with
 | none=>rfl
 | some x =>
  have hm:b∈trk h H:=List.mem_filter.mpr ⟨List.mem_range.mpr (Heap.lt_size e'),by simp [q]⟩
  have z:(hidT h H).get? b=none:=PySem.W.hideAll_none (trk h H) hm
  rw [z] at e;cases e
def jf (g h:Heap) (L:Addr):List (Addr×Obj):=(List.range h.objs.size).filterMap fun a=>if a=L∨(g.get? a).isSome=true then none else (h.get? a).map fun o=>(a,o)
def rest (g h:Heap) (L d:Addr):List (Addr×Obj):=(jf g h L).filter fun p=>decide (p.1≠d)
end L2
namespace L2
open PySem PySem.Spec PyProof.Rows
structure Mod (K:PySem.W.Frag) (mg:Str→Option Value) (base:Heap):Prop where
 kin:K.In base
 glob:base.Ns mainGlobals mg
 blt:∃ mb,base.Ns builtinsNs mb∧∀ x:Str,x≠"__name__"→mb x=bootBuiltins x
 nolimit:base.NoLimit
structure Cx where
 prog:Program
 w:World
 K:PySem.W.Frag
 mg:Str→Option Value
 base:Heap
 A:Around
 N:List Str
 s₀:Shared
 H₀:Hp
 env:Env
 outer:List Env
 stack:List Env
 ex:List Addr
 fn:Str→Bool
 calm:Bool
 pn:List (Addr×Obj)
 xe:Value→Shared→Prop
def frs (l:List Env):List Addr:=l.filterMap (·.frame)
abbrev Cx.fs (X:Cx):List Addr:=frs X.outer
def Vis (sc:Scope) (x:Str):Prop:=sc.names.lookup x=some .local∨sc.names.lookup x=some .cell∨sc.names.lookup x=some .free
def Loc (sc:Scope) (x:Str):Prop:=sc.names.lookup x=some .local∨sc.names.lookup x=some .cell
def Look (env:Env) (h:Heap) (m:Str→Option Value) (x:Str) (u:Value):Prop :=
 (env.kindOf x=some .local∧m x=some u)∨((env.kindOf x=some .cell∨env.kindOf x=some .free)∧∃ c,env.cells.lookup x=some c∧h.IsCell c (some u))
structure Cx.Ok (X:Cx):Prop where
 mod:Mod X.K X.mg X.base
 kind:X.env.scope.kind=.function
 glob:X.env.globals=mainGlobals
 blt:X.env.builtins=builtinsNs
 above:X.s₀.heap.objs.size≤X.env.locals
 inj:∀ x y c,X.env.cells.lookup x=some c→X.env.cells.lookup y=some c→x=y
 has:∀ x,(X.env.kindOf x=some .cell∨X.env.kindOf x=some .free)→∃ c,X.env.cells.lookup x=some c
 cab:∀ x c,X.fn x=true→X.env.cells.lookup x=some c→X.s₀.heap.objs.size≤c
 hd:X.calm=true→X.A.handled=none
 frames:X.A.frames=some X.stack
 stk:X.stack=X.outer∨(X.stack=X.env :: X.outer∧X.env.frame=some X.env.locals)
 exf:∀ b∈X.ex,b≠X.env.locals∧∀ x c,X.env.cells.lookup x=some c→c≠b
 bs:∀ b o,X.base.get? b=some o→X.s₀.heap.get? b=some o∧X.H₀ b=none
 bsz:X.base.objs.size≤X.s₀.heap.objs.size
 noex:∀ b o,X.base.get? b=some o→b∉X.ex
 exfs:∀ b∈X.ex,b∉X.fs
 funs:X.s₀.heap.FunFrames X.base X.outer
 frf:∀ b∈X.fs,X.H₀ b=none
structure Inv (X:Cx) (pins:List (Addr×Obj)) (σ:List (Option V)) (H:Hp) (s:Shared):Prop where
 ok:X.Ok
 os:s.os=X.s₀.os
 bare:AllBare s.gens
 base:Un X.fs X.ex X.H₀ H X.s₀.heap s.heap
 loc:∃ m,s.heap.Ns X.env.locals m∧∀ (i:Nat) (x:Str) (v:V),X.N[i]?=some x→σ[i]?=some (some v)→Vis X.env.scope x→∃ u,RelV v u∧Look X.env s.heap m x u
 cell:∀ x c,X.env.cells.lookup x=some c→∃ v,s.heap.IsCell c v
 free:H X.env.locals=none
 freeC:∀ x c,X.env.cells.lookup x=some c→H c=none
 pin:∀ p∈X.pn++pins,s.heap.get? p.1=some p.2∧H p.1=none∧p.1≠X.env.locals∧p.1∉X.fs∧∀ v,p.2.data≠.cell v
 hok:HOk X.prog X.w H s.heap
 len:σ.length=X.N.length
section
variable {X:Cx} {pins:List (Addr×Obj)} {σ:List (Option V)} {H H':Hp} {s:Shared} {h':Heap}
theorem Cx.Ok.nofr (ok:X.Ok) {b:Addr} {o:Obj} (e:X.base.get? b=some o):b∉X.fs:=fun hb=>by
 have:=(ok.funs.mem hb).1
 rw [e] at this;cases this
theorem Inv.bs (I:Inv X pins σ H s):∀ b o,X.base.get? b=some o→s.heap.get? b=some o∧H b=none:=fun b o e =>
 ⟨I.base.keep b o (I.ok.bs b o e).1 (I.ok.bs b o e).2 (I.ok.nofr e) (I.ok.noex b o e),I.base.free b o (I.ok.bs b o e).1 (I.ok.bs b o e).2 (I.ok.noex b o e)⟩
theorem Inv.bk (I:Inv X pins σ H s):∀ b o,X.base.get? b=some o→s.heap.get? b=some o:=fun b o e=>(I.bs b o e).1
theorem Inv.mod (I:Inv X pins σ H s):Mod X.K X.mg X.base:=I.ok.mod
theorem Inv.kIn (I:Inv X pins σ H s):X.K.In s.heap:=I.ok.mod.kin.keeps I.bk
theorem Inv.lt (I:Inv X pins σ H s):X.env.locals < s.heap.objs.size:=let ⟨_,hn,_⟩:=I.loc;hn.lt
theorem Inv.sz (I:Inv X pins σ H s):X.s₀.heap.objs.size≤s.heap.objs.size:=mq I.ok.above (Nat.le_of_lt I.lt)
theorem Inv.nofs (I:Inv X pins σ H s) {a:Addr} (h:s.heap.objs.size≤a):a∉X.fs:=fun hb=>by
 obtain ⟨_,o,ho,_⟩:=I.ok.funs.mem hb
 exact absurd (Nat.lt_of_lt_of_le (Heap.lt_size ho) (mq I.sz h)) (Nat.lt_irrefl _)
theorem Inv.cne (I:Inv X pins σ H s):∀ x c,X.env.cells.lookup x=some c→c≠X.env.locals:=fun x c e z=>by
 obtain ⟨v,o,ho,hd⟩:=I.cell x c e
 obtain ⟨m,⟨o',es,ep,ho',hd',_⟩,_⟩:=I.loc
 rw [z,ho'] at ho;cases ho;rw [hd'] at hd;cases hd
theorem Inv.funs (I:Inv X pins σ H s):s.heap.FunFrames X.base X.outer:=by
 have all:∀ (l:List Env),(∀ b∈frs l,b∈X.fs)→X.s₀.heap.FunFrames X.base l→s.heap.FunFrames X.base l:=by
  intro l
  induction l with
  | nil=>intro _ _;trivial
  | cons env r ih =>
   intro hs hl
   obtain ⟨hk,⟨L,o,hf,hn,ho,hd⟩,hr⟩:=hl
   have hL:L∈X.fs:=hs L (by unfold frs;rw [List.filterMap_cons,hf];exact ms)
   obtain ⟨sl,e⟩:=I.base.slot L o ho (I.ok.frf L hL) hL fun z=>I.ok.exfs L z hL
   exact⟨hk,⟨L,_,hf,hn,e,hd⟩,ih (fun b hb=>hs b (by unfold frs;rw [List.filterMap_cons,hf];exact mo _ hb)) hr⟩
 exact all X.outer (fun _ hb=>hb) I.ok.funs
theorem Inv.stack (I:Inv X pins σ H s):s.heap.FunFrames X.base X.stack:=by
 rcases I.ok.stk with e | ⟨e,hf⟩
 ·rw [e];exact I.funs
 ·rw [e]
  obtain ⟨m,hn,_⟩:=I.loc
  refine .cons (by rw [I.ok.kind];decide) hf hn ?_ I.funs
  exact Heap.get?_none_of_le (mq I.ok.bsz I.ok.above)
theorem Inv.stkSub (I:Inv X pins σ H s):∀ b∈frs X.stack,b∈X.env.locals :: X.fs:=fun b hb=>by
 rcases I.ok.stk with e | ⟨e,hf⟩
 ·rw [e] at hb;exact mo _ hb
 ·rw [e] at hb
  unfold frs at hb
  rw [List.filterMap_cons,hf] at hb
  exact hb
theorem Inv.stkFree (I:Inv X pins σ H s):∀ b∈frs X.stack,H b=none:=fun b hb=>by
 rcases mv.mp (I.stkSub b hb) with e | hb
 ·rw [e];exact I.free
 ·obtain ⟨_,o,ho,_⟩:=I.ok.funs.mem hb
  exact I.base.free b o ho (I.ok.frf b hb) fun z=>I.ok.exfs b z hb
theorem Inv.step {g':Array GenState} {t':Nat} {d':Drawn} {ch:List Addr} (I:Inv X pins σ H s)
  (hch:∀ b∈ch,(b∈X.ex∨X.s₀.heap.objs.size≤b)∧b≠X.env.locals∧(∀ x c,X.env.cells.lookup x=some c→c≠b)∧∀ p∈X.pn++pins,p.1≠b)
  (keep:∀ b o,b≠X.env.locals→b∉X.fs→b∉ch→s.heap.get? b=some o→H b=none→h'.get? b=some o)
  (slot:∀ b o,b≠X.env.locals→b∈X.fs→b∉ch→s.heap.get? b=some o→H b=none→∃ sl,h'.get? b=some { o with slots:=sl }) (free:∀ b o,b∉ch→s.heap.get? b=some o→H b=none→H' b=none)
  (there:∀ b o,b∉ch→s.heap.get? b=some o→∃ o',h'.get? b=some o')
  (tups:∀ b xs,H b=some (.tup xs)→H' b=some (.tup xs)) (frzs:∀ b o u,H b=some (.frz o u)→H' b=some (.frz o u)) (tbls:∀ b ps,H b=some (.tbl ps)→∃ more,H' b=some (.tbl (ps++more)))
  (ns:∀ m,s.heap.Ns X.env.locals m→h'.Ns X.env.locals m) (hok:HOk X.prog X.w H' h') (hg:AllBare g') :
  Inv X pins σ H' { s with heap:=h',gens:=g',drawn:=d',toks:=t' }:=by
 have neL:∀ b o,X.s₀.heap.get? b=some o→b≠X.env.locals:=fun b o e=>Nat.ne_of_lt (Nat.lt_of_lt_of_le (Heap.lt_size e) I.ok.above)
 have neC:∀ b o,X.s₀.heap.get? b=some o→b∉X.ex→b∉ch:=fun b o e hx hb=>by
  rcases (hch b hb).1 with z | z
  ·exact hx z
  ·exact absurd (Nat.lt_of_lt_of_le (Heap.lt_size e) z) (Nat.lt_irrefl _)
 have cellK:∀ x c,X.env.cells.lookup x=some c→∀ v,s.heap.IsCell c v→h'.IsCell c v:=fun x c e v ⟨o,ho,hd⟩=>by
  have nch:c∉ch:=fun z=>(hch c z).2.2.1 x c e rfl
  by_cases hc:c∈X.fs
  ·obtain ⟨sl,q⟩:=slot c o (I.cne x c e) hc nch ho (I.freeC x c e)
   exact⟨_,q,hd⟩
  ·exact⟨o,keep c o (I.cne x c e) hc nch ho (I.freeC x c e),hd⟩
 refine⟨I.ok,I.os,hg,⟨fun b o e n hb hx=>?_,fun b o e n hb hx=>?_,fun b o e n hx=>?_,fun b o e hx=>?_,fun b xs e=>tups b xs (I.base.tups b xs e),fun b o xs e=>frzs b o xs (I.base.frzs b o xs e),fun b ps e=>?_⟩,?_,fun x c e=>?_,?_,fun x c e=>?_,fun p hp=>?_,hok,I.len⟩
 ·exact keep b o (neL b o e) hb (neC b o e hx) (I.base.keep b o e n hb hx) (I.base.free b o e n hx)
 ·obtain ⟨sl,e1⟩:=I.base.slot b o e n hb hx
  obtain ⟨sl',e2⟩:=slot b _ (neL b o e) hb (neC b o e hx) e1 (I.base.free b o e n hx)
  exact⟨sl',e2⟩
 ·obtain ⟨o',e1⟩:=I.base.there b o e hx
  exact free b o' (neC b o e hx) e1 (I.base.free b o e n hx)
 ·obtain ⟨o',e1⟩:=I.base.there b o e hx
  exact there b o' (neC b o e hx) e1
 ·obtain ⟨m1,e1⟩:=I.base.tbls b ps e
  obtain ⟨m2,e2⟩:=tbls b _ e1
  exact⟨m1++m2,by rw [e2,Array.append_assoc]⟩
 ·obtain ⟨m,hn,hl⟩:=I.loc
  refine⟨m,ns m hn,fun i x v e1 e2 e3=>?_⟩
  obtain ⟨u,r,l⟩:=hl i x v e1 e2 e3
  refine⟨u,r,?_⟩
  rcases l with l | ⟨k,c,e,z⟩
  ·exact .inl l
  ·exact .inr ⟨k,c,e,cellK x c e _ z⟩
 ·obtain ⟨v,z⟩:=I.cell x c e
  exact⟨v,cellK x c e v z⟩
 ·obtain ⟨m,⟨o,_,_,ho,_⟩,_⟩:=I.loc
  exact free _ o (fun z=>(hch _ z).2.1 rfl) ho I.free
 ·obtain ⟨v,o,ho,hd⟩:=I.cell x c e
  exact free c o (fun z=>(hch c z).2.2.1 x c e rfl) ho (I.freeC x c e)
 ·obtain ⟨e,n,ne,nf,d⟩:=I.pin p hp
  have nch:p.1∉ch:=fun z=>(hch p.1 z).2.2.2 p hp rfl
  exact⟨keep p.1 p.2 ne nf nch e n,free p.1 p.2 nch e n,ne,nf,d⟩
theorem Inv.un {t':Nat} (I:Inv X pins σ H s) (u:Un X.fs [] H H' s.heap h') (hok:HOk X.prog X.w H' h'):Inv X pins σ H' { s with heap:=h',toks:=t' }:=by
 obtain ⟨m,⟨o,es,ep,ho,r⟩,_⟩:=id I.loc
 obtain ⟨sl,hL⟩:=u.any ho I.free (by simp)
 exact I.step (g':=s.gens) (d':=s.drawn) (ch:=[]) (fun _ z=>nomatch z) (fun b o _ hb _ e n=>u.keep b o e n hb (by simp)) (fun b o _ hb _ e n=>u.slot b o e n hb (by simp)) (fun b o _ e n=>u.free b o e n (by simp)) (fun b o _ e=>u.there b o e (by simp)) u.tups u.frzs u.tbls (fun m' hm=>by
  obtain ⟨o',es',ep',ho',r'⟩:=hm
  rw [ho] at ho';cases ho'
  exact⟨_,es',ep',hL,r'⟩) hok I.bare
theorem Inv.call {g':Array GenState} {t':Nat} {d':Drawn} {ch:List Addr} (I:Inv X pins σ H s) (u:Un (frs X.stack) ch H H' s.heap h') (hok:HOk X.prog X.w H' h') (hg:AllBare g')
  (hch:∀ b∈ch,(b∈X.ex∨X.s₀.heap.objs.size≤b)∧b≠X.env.locals∧(∀ x c,X.env.cells.lookup x=some c→c≠b)∧∀ p∈X.pn++pins,p.1≠b) :
  Inv X pins σ H' { s with heap:=h',gens:=g',drawn:=d',toks:=t' }:=by
 obtain ⟨m,⟨o,es,ep,ho,r⟩,_⟩:=id I.loc
 obtain ⟨sl,hL⟩:=u.any ho I.free fun z=>(hch _ z).2.1 rfl
 exact I.step (ch:=ch) hch (fun b o hL hb hc e n=>u.keep b o e n (fun z=>(mv.mp (I.stkSub b z)).elim hL hb) hc) (fun b o _ _ hc e n=>u.any e n hc) (fun b o hc e n=>u.free b o e n hc) (fun b o hc e=>u.there b o e hc) u.tups u.frzs u.tbls (fun m' hm=>by
  obtain ⟨o',es',ep',ho',r'⟩:=hm
  rw [ho] at ho';cases ho'
  exact⟨_,es',ep',hL,r'⟩) hok hg
theorem Inv.turned {t':Nat} {it:Addr} (I:Inv X pins σ H s) (k:∀ b o,b≠it→s.heap.get? b=some o→h'.get? b=some o) (hn:H it=none) (hL:it≠X.env.locals)
  (h1:it∈X.ex∨X.s₀.heap.objs.size≤it) (h2:∀ x c,X.env.cells.lookup x=some c→c≠it) (h3:∀ p∈X.pn++pins,p.1≠it):Inv X pins σ H { s with heap:=h',toks:=t' }:=by
 have nit:∀ b u,H b=some u→b≠it:=fun b u e z=>by rw [z,hn] at e;cases e
 refine I.step (g':=s.gens) (d':=s.drawn) (ch:=[it]) (fun b hb=>?_) (fun b o _ _ hc e _=>k b o (fun z=>hc (by simp [z])) e) (fun b o _ _ hc e _=>⟨o.slots,k b o (fun z=>hc (by simp [z])) e⟩) (fun _ _ _ _ n=>n)
  (fun b o hc e=>⟨o,k b o (fun z=>hc (by simp [z])) e⟩) (fun _ _ e=>e) (fun _ _ _ e=>e) (fun b ps e=>⟨#[],by rw [e];simp⟩) (fun m hm=>?_) (fun b u e=>?_) I.bare
 ·have e:b=it:=by simpa using hb
  subst e
  exact⟨h1,hL,h2,h3⟩
 ·obtain ⟨o,es,ep,ho,r⟩:=hm
  exact⟨o,es,ep,k _ o (Ne.symm hL) ho,r⟩
 ·refine (I.hok b u e).stay (fun c v hc q=>k c v ?_ q) (fun _ q=>q) fun _ _ q=>q
  rcases hc with z | z
  ·rw [z];exact nit b u e
  ·exact nit c _ z
theorem Inv.tok (I:Inv X pins σ H s) (t:Nat):Inv X pins σ H { s with toks:=t }:=I.un (h':=s.heap) (t':=t) Un.refl I.hok
theorem Inv.kept {t':Nat} (I:Inv X pins σ H s) (k:∀ b u,s.heap.get? b=some u→h'.get? b=some u):Inv X pins σ H { s with heap:=h',toks:=t' }:=I.un (Un.kept k) (I.hok.kept k)
theorem Inv.laid {a:Addr} {o:HO} {t':Nat} (I:Inv X pins σ H s) (k:∀ b u,s.heap.get? b=some u→h'.get? b=some u) (hp:s.heap.objs.size≤a) (new:aW X.prog X.w (upd H a o) h' a o) :
  Inv X pins σ (upd H a o) { s with heap:=h',toks:=t' }:=I.un (Un.laid k hp (I.hok.fresh hp)) (I.hok.laid k hp new)
theorem Inv.write {x e:Addr} {o:HO} {t':Nat} (I:Inv X pins σ H s) (mu:Mut (H x)) (he:e=x∨H e=some (.own x)) (k:∀ b u,b≠e→s.heap.get? b=some u→h'.get? b=some u) (heo:∃ u,h'.get? e=some u)
  (new:aW X.prog X.w (upd H x o) h' x o):Inv X pins σ (upd H x o) { s with heap:=h',toks:=t' }:=I.un (Un.write mu he k heo) (I.hok.write mu he k heo new)
theorem Inv.pins_of {pins':List (Addr×Obj)} (I:Inv X pins σ H s) (h:∀ p∈pins',s.heap.get? p.1=some p.2∧H p.1=none∧p.1≠X.env.locals∧p.1∉X.fs∧∀ v,p.2.data≠.cell v):Inv X pins' σ H s :=
 ⟨I.ok,I.os,I.bare,I.base,I.loc,I.cell,I.free,I.freeC,fun p hp=>(List.mem_append.mp hp).elim (fun z=>I.pin p (mx _ z)) (h p),I.hok,I.len⟩
theorem cx {N:List Str} (hN:N.Nodup) {i j:Nat} {x:Str} (a:N[i]?=some x) (b:N[j]?=some x):i=j:=by
 obtain ⟨h1,e1⟩:=mz.mp a
 obtain ⟨h2,e2⟩:=mz.mp b
 exact (List.getElem_inj hN).mp (e1.trans e2.symm)
theorem fS {M:Model} {A:Around} {E:Value→Shared→Prop} {i:Nat} {x:Str} {v:V} {u:Value} {Q:Unit→Shared→Prop} (I:Inv X pins σ H s) (hN:X.N.Nodup) (hi:X.N[i]?=some x) (hx:Loc X.env.scope x) (r:RelV v u)
  (h:∀ s',Inv X pins (σ.set i (some v)) H s'→(∃ a,Heap.SameBut a s.heap s'.heap∧(a=X.env.locals∨X.env.cells.lookup x=some a))→Q () s') (hf:X.fn x=true∨X.env.scope.names.lookup x=some .local :=by walk_at "v1"):wpAny M A (storeName X.env x u) Q E s:=by
 obtain ⟨m,hn,hl⟩:=id I.loc
 have hcls:(X.env.scope.kind == .class || (X.env.scope.kind == .module && X.env.locals != X.env.globals))=false:=by rw [I.ok.kind];rfl
 have hiσ:i < σ.length:=by rw [I.len];exact (mz.mp hi).1
 have cne:=I.cne
 have tracked:∀ {a:Addr} {h':Heap},(∃ o,s.heap.get? a=some o∧H a=none)→Heap.SameBut a s.heap h'→HOk X.prog X.w H h':=fun {a h'} ha hs b ob e=>by
  obtain ⟨_,_,hfree⟩:=ha
  refine (I.hok b ob e).stay (fun c w' hc q=>(hs.2 c ?_).trans q) (fun _ q=>q) fun _ _ q=>q
  rintro rfl
  rcases hc with rfl | hc
  ·rw [hfree] at e;cases e
  ·rw [hfree] at hc;cases hc
 rcases hx with hk | hk
 ·refine wpAny_storeName_local hk hn (fun h' hn' hs=>?_) hcls
  obtain ⟨oL,_,_,hoL,_⟩:=id hn
  refine h _ ⟨I.ok,I.os,I.bare,⟨fun b o e n hb hx=>?_,fun b o e n hb hx=>?_,I.base.free,fun b o e hx=>?_,I.base.tups,I.base.frzs,I.base.tbls⟩,⟨_,hn',fun j y v' e1 e2 e3=>?_⟩,fun y c e=>?_,I.free,I.freeC,fun p hp=>?_,tracked ⟨oL,hoL,I.free⟩ hs,by simpa using I.len⟩ ⟨_,hs,.inl rfl⟩
  ·exact (hs.2 b (Nat.ne_of_lt (Nat.lt_of_lt_of_le (Heap.lt_size e) I.ok.above))).trans (I.base.keep b o e n hb hx)
  ·obtain ⟨sl,e1⟩:=I.base.slot b o e n hb hx
   exact⟨sl,(hs.2 b (Nat.ne_of_lt (Nat.lt_of_lt_of_le (Heap.lt_size e) I.ok.above))).trans e1⟩
  ·obtain ⟨o',e1⟩:=I.base.there b o e hx
   exact⟨o',(hs.2 b (Nat.ne_of_lt (Nat.lt_of_lt_of_le (Heap.lt_size e) I.ok.above))).trans e1⟩
  ·by_cases hj:j=i
   ·subst hj
    rw [hi] at e1;cases e1
    rw [List.getElem?_set_self hiσ] at e2
    cases e2
    exact⟨u,r,.inl ⟨hk,by simp⟩⟩
   ·rw [List.getElem?_set_ne (Ne.symm hj)] at e2
    obtain ⟨u',r',q⟩:=hl j y v' e1 e2 e3
    refine⟨u',r',?_⟩
    rcases q with ⟨k,e⟩ | ⟨k,c,e,z⟩
    ·refine .inl ⟨k,?_⟩
     have:y≠x:=fun e=>hj (cx hN e1 (e ▸ hi))
     simp [this,e]
    ·exact .inr ⟨k,c,e,z.sameBut hs (cne y c e)⟩
  ·obtain ⟨w',z⟩:=I.cell y c e
   exact⟨w',z.sameBut hs (cne y c e)⟩
  ·obtain ⟨e,n,ne,nf,d⟩:=I.pin p hp
   exact⟨(hs.2 p.1 ne).trans e,n,ne,nf,d⟩
 ·have hfn:X.fn x=true:=by
   rcases hf with z | z
   ·exact z
   ·rw [z] at hk;cases hk
  obtain ⟨c,hc⟩:=I.ok.has x (.inl hk)
  obtain ⟨w',z⟩:=I.cell x c hc
  refine wpAny_storeName_cell I.ok.kind hk hc z (fun h' hc' hs=>?_)
  obtain ⟨oc,hoc,hocd⟩:=id z
  refine h { s with heap:=h' } ⟨I.ok,I.os,I.bare,⟨fun b o e n hb hx=>?_,fun b o e n hb hx=>?_,I.base.free,fun b o e hx=>?_,I.base.tups,I.base.frzs,I.base.tbls⟩,⟨m,hn.sameBut hs (Ne.symm (cne x c hc)),fun j y v' e1 e2 e3=>?_⟩,fun y c' e=>?_,I.free,I.freeC,fun p hp=>?_,tracked ⟨oc,hoc,I.freeC x c hc⟩ hs,by simpa using I.len⟩ ⟨c,hs,.inr hc⟩
  ·exact (hs.2 b (Nat.ne_of_lt (Nat.lt_of_lt_of_le (Heap.lt_size e) (I.ok.cab x c hfn hc)))).trans (I.base.keep b o e n hb hx)
  ·obtain ⟨sl,e1⟩:=I.base.slot b o e n hb hx
   exact⟨sl,(hs.2 b (Nat.ne_of_lt (Nat.lt_of_lt_of_le (Heap.lt_size e) (I.ok.cab x c hfn hc)))).trans e1⟩
  ·obtain ⟨o',e1⟩:=I.base.there b o e hx
   exact⟨o',(hs.2 b (Nat.ne_of_lt (Nat.lt_of_lt_of_le (Heap.lt_size e) (I.ok.cab x c hfn hc)))).trans e1⟩
  ·by_cases hj:j=i
   ·subst hj
    rw [hi] at e1;cases e1
    rw [List.getElem?_set_self hiσ] at e2
    cases e2
    exact⟨u,r,.inr ⟨.inl hk,c,hc,hc'⟩⟩
   ·rw [List.getElem?_set_ne (Ne.symm hj)] at e2
    obtain ⟨u',r',q⟩:=hl j y v' e1 e2 e3
    refine⟨u',r',?_⟩
    rcases q with q | ⟨k,c',e,z'⟩
    ·exact .inl q
    ·refine .inr ⟨k,c',e,z'.sameBut hs ?_⟩
     rintro rfl
     exact hj (cx hN e1 (I.ok.inj _ _ _ e hc ▸ hi))
  ·by_cases hcc:c'=c
   ·subst hcc;exact⟨_,hc'⟩
   ·obtain ⟨w2,z2⟩:=I.cell y c' e
    exact⟨w2,z2.sameBut hs hcc⟩
  ·obtain ⟨e,n,ne,nf,d⟩:=I.pin p hp
   refine⟨(hs.2 p.1 ?_).trans e,n,ne,nf,d⟩
   intro q
   rw [q,hoc] at e
   have q':oc=p.2:=Option.some.inj e
   exact d w' (by rw [← q'];exact hocd)
theorem bc {M:Model} {A:Around} {E:Value→Shared→Prop} {i:Nat} {x:Str} {v:V} {u:Value} {Q:Unit→Shared→Prop} (I:Inv X pins σ H s) (hN:X.N.Nodup) (hi:X.N[i]?=some x) (hx:Loc X.env.scope x) (r:RelV v u)
  (h:∀ s',Inv X pins (σ.set i (some v)) H s'→Q () s') (hf:X.fn x=true∨X.env.scope.names.lookup x=some .local :=by walk_at "v1"):wpAny M A (storeName X.env x u) Q E s :=
 fS I hN hi hx r (fun s' I' _=>h s' I') hf
theorem Inv.call' {s':Shared} {ch:List Addr} (I:Inv X pins σ H s) (ho:s'.os=s.os) (u:Un (frs X.stack) ch H H' s.heap s'.heap) (hok:HOk X.prog X.w H' s'.heap) (hg:AllBare s'.gens)
  (hch:∀ b∈ch,(b∈X.ex∨X.s₀.heap.objs.size≤b)∧b≠X.env.locals∧(∀ x c,X.env.cells.lookup x=some c→c≠b)∧∀ p∈X.pn++pins,p.1≠b):Inv X pins σ H' s':=by
 obtain ⟨h',g',d',t',o'⟩:=s'
 have e:o'=s.os:=ho
 subst e
 exact I.call (g':=g') (t':=t') (d':=d') u hok hg hch
end
abbrev XK:=Value→Option Addr→Hp→Prop
abbrev St:=List (Option V)
abbrev VK:=V→Hp→Prop
abbrev TE:=St→Hp→VK→Prop
abbrev TT:=St→Hp→(Bool→Hp→Prop)→Prop
abbrev TA:=St→Hp→(List V→Hp→Prop)→Prop
structure Ends where
 nx:St→Hp→Prop
 rt:VK
 bk:St→Hp→Prop:=fun _ _=>False
 ct:St→Hp→Prop:=fun _ _=>False
abbrev TS:=Ends→St→Hp→Prop
def EP (X:Cx) (pins:List (Addr×Obj)) (σ:St) (Q:VK) (u:Value) (s':Shared):Prop:=∃ v H',Inv X pins σ H' s'∧RelV v u∧Q v H'
def TP (X:Cx) (pins:List (Addr×Obj)) (σ:St) (Q:Bool→Hp→Prop) (b:Bool) (s':Shared):Prop:=∃ H',Inv X pins σ H' s'∧Q b H'
def AP (X:Cx) (pins:List (Addr×Obj)) (σ:St) (Q:List V→Hp→Prop) (us:List Value) (s':Shared):Prop:=∃ vs H',Inv X pins σ H' s'∧Vals vs us∧Q vs H'
def SP (X:Cx) (pins:List (Addr×Obj)) (D:Ends) (f:Flow) (s':Shared):Prop :=
 match f with
 | .next=>∃ σ' H',Inv X pins σ' H' s'∧D.nx σ' H'
 | .brk=>∃ σ' H',Inv X pins σ' H' s'∧D.bk σ' H'
 | .cont=>∃ σ' H',Inv X pins σ' H' s'∧D.ct σ' H'
 | .ret u=>∃ v σ' H',Inv X pins σ' H' s'∧RelV v u∧D.rt v H'
def PE (X:Cx) (e:Expr) (t:TE):Prop :=
 ∀ (pins:List (Addr×Obj)) (s:Shared) (σ:St) (H:Hp) (Q:VK),Inv X pins σ H s→t σ H Q→wpAny (model X.prog X.w) X.A (eval e X.env) (EP X pins σ Q) X.xe s
def PT (X:Cx) (e:Expr) (t:TT):Prop :=
 ∀ (pins:List (Addr×Obj)) (s:Shared) (σ:St) (H:Hp) (Q:Bool→Hp→Prop),Inv X pins σ H s→t σ H Q→wpAny (model X.prog X.w) X.A (isTrue e X.env (eval e X.env)) (TP X pins σ Q) X.xe s
def PW (X:Cx) (e:Expr) (t:TT):Prop :=
 ∀ (whole:Sem Value) (pins:List (Addr×Obj)) (s:Shared) (σ:St) (H:Hp) (Q:Bool→Hp→Prop),Inv X pins σ H s→t σ H Q→wpAny (model X.prog X.w) X.A (isTrue e X.env whole) (TP X pins σ Q) X.xe s
theorem PW.pt {X:Cx} {e:Expr} {t:TT} (h:PW X e t):PT X e t:=h _
def PA (X:Cx) (es:List Expr) (t:TA):Prop :=
 ∀ (pos:Pos) (pins:List (Addr×Obj)) (s:Shared) (σ:St) (H:Hp) (Q:List V→Hp→Prop),Inv X pins σ H s→t σ H Q→wpAny (model X.prog X.w) X.A (spliced (backTo pos (starEach es X.env))) (AP X pins σ Q) X.xe s
def PS (X:Cx) (st:Stmt) (t:TS):Prop :=
 ∀ (pins:List (Addr×Obj)) (s:Shared) (σ:St) (H:Hp) (D:Ends),Inv X pins σ H s→t D σ H→wpAny (model X.prog X.w) X.A (exec st X.env) (SP X pins D) X.xe s
def PSs (X:Cx) (st:List Stmt) (t:TS):Prop :=
 ∀ (pins:List (Addr×Obj)) (s:Shared) (σ:St) (H:Hp) (D:Ends),Inv X pins σ H s→t D σ H→wpAny (model X.prog X.w) X.A (execs st X.env) (SP X pins D) X.xe s
theorem thn {α:Type} {t:Sem α} {Q Q':α→Shared→Prop} {M:Model} {A:Around} {E:Value→Shared→Prop} {s:Shared} (h:wpAny M A t Q E s) (hQ:∀ a s,Q a s→Q' a s):wpAny M A t Q' E s:=wpAny_mono h hQ fun _ _ x=>x
end L2
namespace L2
open PySem PySem.Spec PyProof.Rows
section
variable {X:Cx}
theorem bin {a b:Expr} {ta tb:TE} (ha:PE X a ta) (hb:PE X b tb) {pins:List (Addr×Obj)} {s:Shared} {σ:St} {H:Hp} {R:V→V→Hp→Prop} (I:Inv X pins σ H s) (h:ta σ H fun x H1=>tb σ H1 fun y H2=>R x y H2)
  {α:Type} {Q:α→Shared→Prop} {f:Value→Value→Sem α}
  (hf:∀ v u s2 x y H2,Inv X pins σ H2 s2→RelV x v→RelV y u→R x y H2→wpAny (model X.prog X.w) X.A (f v u) Q X.xe s2) :
  wpAny (model X.prog X.w) X.A (eval a X.env) (fun v s₁=>wpAny (model X.prog X.w) X.A (eval b X.env) (fun u s₂=>wpAny (model X.prog X.w) X.A (f v u) Q X.xe s₂) X.xe s₁) X.xe s:=by
 refine thn (ha pins s σ H _ I h) fun v s1 ⟨x,H1,I1,r1,q1⟩=>?_
 refine thn (hb pins s1 σ H1 _ I1 q1) fun u s2 ⟨y,H2,I2,r2,q2⟩=>?_
 exact hf v u s2 x y H2 I2 r1 r2 q2
def tVar (i:Nat):TE:=fun σ H Q=>∃ v,σ[i]?=some (some v)∧Q v H
def tC (v:V):TE:=fun _ H Q=>Q v H
theorem a7 {i:Nat} {x:Str} {pos:Pos} (hN:X.N[i]?=some x) (hv:Vis X.env.scope x) (hd:(x == ("__debug__":Str))=false:=by decide) (hcd:(x == ("__classdict__":Str))=false:=by decide):PE X (.Name x pos) (tVar i):=by
 intro pins s σ H Q I h
 obtain ⟨v,e,h⟩:=h
 obtain ⟨m,hn,hl⟩:=I.loc
 obtain ⟨u,r,l⟩:=hl i x v hN e hv
 have fin:EP X pins σ Q u s:=⟨v,H,I,r,h⟩
 rcases l with ⟨hk,hm⟩ | ⟨hk,c,hc,hcell⟩
 ·exact wpAny_Name (wpAny_loadName_local I.ok.kind hk hn hm fin) hd
 ·rcases hk with hk | hk
  ·exact wpAny_Name (wpAny_loadName_cell I.ok.kind hk hc hcell fin) hd
  ·exact wpAny_Name (wpAny_loadName_free I.ok.kind hk hc hcell fin hcd) hd
theorem kr {i j pos}:PE X (.Constant (.int i) j pos) (tC (.int i)):=fun _ _ _ H _ I h=>wpAny_Constant_int ⟨.int i,H,I.tok _,⟨_,rfl⟩,h⟩
theorem lP {b j pos}:PE X (.Constant (.bool b) j pos) (tC (.bl b)):=fun _ _ _ H _ I h=>Constant_bool ⟨.bl b,H,I,rfl,h⟩
theorem lr {j pos}:PE X (.Constant .none j pos) (tC .non):=fun _ _ _ H _ I h=>Constant_none ⟨.non,H,I,rfl,h⟩
theorem dX {x j pos}:PE X (.Constant (.str x) j pos) (tC (.str x)):=fun _ _ _ H _ I h=>Calls.Constant_str ⟨.str x,H,I.tok _,⟨_,rfl⟩,h⟩
def Gl (X:Cx) (x:Str):Prop:=X.env.kindOf x=some .globalImplicit
theorem bv {E:Value→Shared→Prop} {pins:List (Addr×Obj)} {s:Shared} {σ:St} {H:Hp} {x:Str} {u:Value} {pos:Pos} {Q:Value→Shared→Prop} (I:Inv X pins σ H s) (hg:Gl X x) (hm:X.mg x=some u) (h:Q u s)
  (hd:(x == ("__debug__":Str))=false:=by decide):wpAny (model X.prog X.w) X.A (eval (.Name x pos) X.env) Q E s :=
 Calls.Name_function_global I.ok.kind hg (Calls.loadGlobal_global (by rw [I.ok.glob];exact I.mod.glob.keeps I.bk) hm h) hd
theorem e4 {E:Value→Shared→Prop} {pins:List (Addr×Obj)} {s:Shared} {σ:St} {H:Hp} {x:Str} {u:Value} {pos:Pos} {Q:Value→Shared→Prop} (I:Inv X pins σ H s) (hg:Gl X x) (hm:X.mg x=none) (hv:bootBuiltins x=some u) (h:Q u s)
  (hn:x≠"__name__":=by decide) (hd:(x == ("__debug__":Str))=false:=by decide):wpAny (model X.prog X.w) X.A (eval (.Name x pos) X.env) Q E s:=by
 obtain ⟨mb,h1,h2⟩:=I.mod.blt
 exact Calls.Name_function_global I.ok.kind hg (Calls.loadGlobal_builtin (by rw [I.ok.glob];exact I.mod.glob.keeps I.bk) hm (by rw [I.ok.blt];exact h1.keeps I.bk) ((h2 x hn).trans hv) h) hd
theorem cZ {x:Str} {v:V} {u:Value} {pos:Pos} (hg:Gl X x) (hm:X.mg x=some u) (r:RelV v u) (hd:(x == ("__debug__":Str))=false:=by decide):PE X (.Name x pos) (tC v) :=
 fun _ _ _ H _ I h=>bv I hg hm ⟨v,H,I,r,h⟩ hd
theorem fF {x:Str} {v:V} {u:Value} {pos:Pos} (hg:Gl X x) (hm:X.mg x=none) (hv:bootBuiltins x=some u) (r:RelV v u) (hn:x≠"__name__":=by decide) (hd:(x == ("__debug__":Str))=false:=by decide):PE X (.Name x pos) (tC v) :=
 fun _ _ _ H _ I h=>e4 I hg hm hv ⟨v,H,I,r,h⟩ hn hd
variable {a b:Expr} {ta tb:TE} {pos:Pos}
def PC (X:Cx) (op:CmpOp) (a b:Expr) (t:TE):Prop :=
 ∀ (pins:List (Addr×Obj)) (s:Shared) (σ:St) (H:Hp) (Q:VK),Inv X pins σ H s→t σ H Q →
  wpAny (model X.prog X.w) X.A (eval a X.env) (fun v s₁=>wpAny (model X.prog X.w) X.A (eval b X.env) (fun u s₂=>wpAny (model X.prog X.w) X.A (compareOp op v u) (EP X pins σ Q) X.xe s₂) X.xe s₁) X.xe s
def tB (t:TE):TT:=fun σ H Q=>t σ H fun x H1=>∃ c,x=.bl c∧Q c H1
theorem pt_cmp {op:CmpOp} {t:TE} (h:PC X op a b t) (h1:behindInMarks op b=false:=by first | exact nobehind _ (by decide) (by decide) | rfl):PT X (.Compare a [op] [b] pos) (tB t):=by
 intro pins s σ H Q I hw
 refine wpAny_isTrue_Compare1 (thn (h pins s σ H _ I hw) fun v s1 h1=>thn h1 fun u s2 h2=>thn h2 fun c s3 ⟨x,H1,I1,r1,q1⟩=>?_) h1
 obtain ⟨d,rfl,q⟩:=q1
 cases r1
 exact wpAny_truthy_bool ⟨H1,I1,q⟩
theorem lc {e:Expr} {t:TE} (h:PE X e t) (he:∀ whole,isTrue e X.env whole=(do let v←whole;standAt e.pos;holding [v] (truthy v)):=by intro _;rfl):PT X e (tB t):=by
 intro pins s σ H Q I hw
 refine isTrue_plain (thn (h pins s σ H _ I hw) fun v s1 ⟨x,H1,I1,r1,q1⟩=>?_) (he _)
 obtain ⟨d,rfl,q⟩:=q1
 cases r1
 exact wpAny_truthy_bool ⟨H1,I1,q⟩
variable {tA tB':TT} {rest:List Expr}
def tAnd (t u:TT):TT:=fun σ H Q=>t σ H fun c H1=>if c=true then u σ H1 Q else Q false H1
def tOr (t u:TT):TT:=fun σ H Q=>t σ H fun c H1=>if c=true then Q true H1 else u σ H1 Q
def tNot (t:TT):TT:=fun σ H Q=>t σ H fun c H1=>Q (!c) H1
theorem ir (ha:PT X a tA):PW X (.BoolOp .And [a] pos) tA:=by
 intro wh pins s σ H Q I h
 refine isTrue_and (thn (ha pins s σ H Q I h) fun c s1 e=>?_)
 cases c with
 | true=>exact isTrue_and_nil e
 | false=>exact e
theorem jT (ha:PT X a tA):PW X (.BoolOp .Or [a] pos) tA:=by
 intro wh pins s σ H Q I h
 refine isTrue_or (thn (ha pins s σ H Q I h) fun c s1 e=>?_)
 cases c with
 | false=>exact isTrue_or_nil e
 | true=>exact e
theorem lh (ha:PT X a tA) (hb:PW X (.BoolOp .And (b :: rest) pos) tB'):PW X (.BoolOp .And (a :: b :: rest) pos) (tAnd tA tB'):=by
 intro wh pins s σ H Q I h
 refine isTrue_and (thn (ha pins s σ H _ I h) fun c s1 ⟨H1,I1,q1⟩=>?_)
 cases c with
 | true=>exact hb wh pins s1 σ H1 Q I1 q1
 | false=>exact⟨H1,I1,q1⟩
theorem lE (ha:PT X a tA) (hb:PW X (.BoolOp .Or (b :: rest) pos) tB'):PW X (.BoolOp .Or (a :: b :: rest) pos) (tOr tA tB'):=by
 intro wh pins s σ H Q I h
 refine isTrue_or (thn (ha pins s σ H _ I h) fun c s1 ⟨H1,I1,q1⟩=>?_)
 cases c with
 | true=>exact⟨H1,I1,q1⟩
 | false=>exact hb wh pins s1 σ H1 Q I1 q1
theorem li (ha:PT X a tA):PT X (.UnaryOp .Not a pos) (tNot tA):=by
 intro pins s σ H Q I h
 exact isTrue_not (ha pins s σ H (fun c H1=>Q (!c) H1) I h)
def me (ta tb:TE):TE:=fun σ H Q=>ta σ H fun x H1=>∃ c,x=.bl c∧if c=true then tb σ H1 Q else Q (.bl false) H1
theorem kS {op} {t:TE} (h:PE X a t):PE X (.BoolOp op [a] pos) t:=fun pins s σ H Q I hw=>BoolOp_one (h pins s σ H Q I hw)
theorem ll (ha:PE X a ta) (hb:PE X (.BoolOp .And (b :: rest) pos) tb):PE X (.BoolOp .And (a :: b :: rest) pos) (me ta tb):=by
 intro pins s σ H Q I h
 refine BoolOp_and (thn (ha pins s σ H _ I h) fun v s1 ⟨x,H1,I1,r1,q1⟩=>?_)
 obtain ⟨c,rfl,q1⟩:=q1
 cases r1
 refine wpAny_truthy_bool ?_
 cases c with
 | true=>exact hb pins s1 σ H1 Q I1 q1
 | false=>exact⟨.bl false,H1,I1,rfl,q1⟩
end
end L2
namespace L2
open PySem PySem.Spec PyProof.Rows
def SqL (K:PySem.W.Frag) (H:Hp) (a:Addr) (xs:List V):Prop :=
 Rd H a (.lst xs) ∨
  ∃ (o:Obj) (its:Array Value) (n:Nat),K.lookup a=some o∧o.cls=.type "list"∧o.dict=none∧o.data=.seq its n∧its.size≤sizeLine∧Vals xs its.toList
def SqT (K:PySem.W.Frag) (H:Hp) (a:Addr) (xs:List V):Prop :=
 Rd H a (.tup xs) ∨
  ∃ (o:Obj) (its:Array Value) (n:Nat),K.lookup a=some o∧o.cls=.type "tuple"∧o.data=.seq its n∧its.size≤sizeLine∧Vals xs its.toList
section
variable {X:Cx} {pins:List (Addr×Obj)} {σ:St} {H:Hp} {s:Shared} {a:Addr} {xs ys:List V}
theorem SqL.of {K:PySem.W.Frag} (h:H a=some (.lst xs)):SqL K H a xs:=.inl (.inl h)
theorem SqT.of {K:PySem.W.Frag} (h:H a=some (.tup xs)):SqT K H a xs:=.inl (.inl h)
theorem Inv.list (I:Inv X pins σ H s) (h:SqL X.K H a xs):∃ its:List Value,Vals xs its∧PlainL s.heap a its.toArray∧xs.length≤sizeLine:=by
 rcases h with h | ⟨o,its,n,hk,hc,hd,hs,hz,r⟩
 ·obtain ⟨z,its,n,r,e⟩:=h.ok I.hok
  exact⟨its,r,⟨_,n,e,rfl,rfl,rfl⟩,z⟩
 ·refine⟨its.toList,r,⟨o,n,I.kIn a o hk,hc,hd,by simpa using hs⟩,?_⟩
  have e:=r.length
  simp only [Array.length_toList] at e
  omega
theorem Inv.tuple (I:Inv X pins σ H s) (h:SqT X.K H a xs):∃ its:List Value,Vals xs its∧IsTup s.heap a its.toArray∧xs.length≤sizeLine:=by
 rcases h with h | ⟨o,its,n,hk,hc,hs,hz,r⟩
 ·obtain ⟨z,its,r,p⟩:=h.ok I.hok
  exact⟨its,r,p,z⟩
 ·refine⟨its.toList,r,⟨o,I.kIn a o hk,hc,n,by simpa using hs⟩,?_⟩
  have e:=r.length
  simp only [Array.length_toList] at e
  omega
end
abbrev Cx.wish (X:Cx) (E:Value→Shared→Prop):Cx:={ X with xe:=E }
abbrev Cx.nox (X:Cx):Cx:=X.wish fun _ _=>False
theorem Cx.Ok.wish {X:Cx} (ok:X.Ok) (E:Value→Shared→Prop):(X.wish E).Ok :=
 ⟨ok.mod,ok.kind,ok.glob,ok.blt,ok.above,ok.inj,ok.has,ok.cab,ok.hd,ok.frames,ok.stk,ok.exf,ok.bs,ok.bsz,ok.noex,ok.exfs,ok.funs,ok.frf⟩
theorem Cx.Ok.unwish {X:Cx} {E:Value→Shared→Prop} (ok:(X.wish E).Ok):X.Ok :=
 ⟨ok.mod,ok.kind,ok.glob,ok.blt,ok.above,ok.inj,ok.has,ok.cab,ok.hd,ok.frames,ok.stk,ok.exf,ok.bs,ok.bsz,ok.noex,ok.exfs,ok.funs,ok.frf⟩
section
variable {X:Cx} {pins:List (Addr×Obj)} {σ:St} {H:Hp} {s:Shared} {E:Value→Shared→Prop}
theorem Inv.wish (I:Inv X pins σ H s) (E:Value→Shared→Prop):Inv (X.wish E) pins σ H s:=⟨I.ok.wish E,I.os,I.bare,I.base,I.loc,I.cell,I.free,I.freeC,I.pin,I.hok,I.len⟩
theorem Inv.unwish (I:Inv (X.wish E) pins σ H s):Inv X pins σ H s:=⟨I.ok.unwish,I.os,I.bare,I.base,I.loc,I.cell,I.free,I.freeC,I.pin,I.hok,I.len⟩
theorem SP.unwish {D:Ends} {f:Flow} {s':Shared} (h:SP (X.wish E) pins D f s'):SP X pins D f s':=by
 cases f with
 | next=>obtain ⟨σ',H',I,q⟩:=h;exact⟨σ',H',I.unwish,q⟩
 | brk=>obtain ⟨σ',H',I,q⟩:=h;exact⟨σ',H',I.unwish,q⟩
 | cont=>obtain ⟨σ',H',I,q⟩:=h;exact⟨σ',H',I.unwish,q⟩
 | ret u=>obtain ⟨v,σ',H',I,r,q⟩:=h;exact⟨v,σ',H',I.unwish,r,q⟩
theorem PSs.nox {st:List Stmt} {t:TS} (h:PSs X.nox st t):PSs X st t:=fun pins s σ H D I hw =>
 wpAny_mono (h pins s σ H D (I.wish _) hw) (fun _ _ q=>q.unwish) fun _ _ z=>False.elim z
end
section
variable {X:Cx} {st:Stmt} {rest:List Stmt} {t u:TS} {e:Expr} {te:TE} {pos:Pos}
def lX:TS:=fun D σ H=>D.nx σ H
def tSeq (t u:TS):TS:=fun D σ H=>t { D with nx:=u D } σ H
theorem jo:PSs X [] lX:=fun _ _ σ H _ I h=>wpAny_execs_nil ⟨σ,H,I,h⟩
theorem bH (h1:PS X st t) (h2:PSs X rest u):PSs X (st :: rest) (tSeq t u):=by
 intro pins s σ H D I h
 refine wpAny_execs_cons (thn (h1 pins s σ H { D with nx:=u D } I h) fun f s1 q=>?_)
 cases f with
 | next =>
  obtain ⟨σ',H',I',q⟩:=q
  exact h2 pins s1 σ' H' D I' q
 | ret v=>exact q
 | brk=>exact q
 | cont=>exact q
theorem bN (h1:PS X st t):PSs X [st] t:=by
 intro pins s σ H D I h
 refine wpAny_execs_cons (thn (h1 pins s σ H D I h) fun f s1 q=>?_)
 cases f with
 | next=>exact wpAny_execs_nil q
 | ret v=>exact q
 | brk=>exact q
 | cont=>exact q
theorem Inv.quiet {pins:List (Addr×Obj)} {σ:St} {H:Hp} {s:Shared} (I:Inv X pins σ H s):interactive X.env=false:=by simp [interactive,I.ok.kind]
def jw (te:TE):TS:=fun D σ H=>te σ H fun _ H1=>D.nx σ H1
theorem cm (he:PE X e te) (hs:swapsWith e none pos.line X.env=pure false:=by rfl):PS X (.Expr e pos) (jw te):=by
 intro pins s σ H D I h
 exact wpAny_Expr_any (thn (he pins s σ H _ I h) fun v s1 ⟨x,H1,I1,r1,q1⟩=>⟨σ,H1,I1,q1⟩) I.quiet hs
def tRet (te:TE):TS:=fun D σ H=>te σ H D.rt
theorem ig (he:PE X e te):PS X (.Return (some e) pos) (tRet te):=by
 intro pins s σ H D I h
 exact wpAny_Return_some (thn (he pins s σ H _ I h) fun v s1 ⟨x,H1,I1,r1,q1⟩=>⟨x,σ,H1,I1,r1,q1⟩)
def tIfS (c:TT) (t u:TS):TS:=fun D σ H=>c σ H fun b H1=>if b=true then t D σ H1 else u D σ H1
theorem lT {c:Expr} {a b:List Stmt} {tc:TT} (hc:PT X c tc) (ha:PSs X a t) (hb:PSs X b u):PS X (.If c a b pos) (tIfS tc t u):=by
 intro pins s σ H D I h
 refine wpAny_If (thn (hc pins s σ H _ I h) fun d s1 ⟨H1,I1,q1⟩=>?_)
 cases d with
 | true=>exact ha pins s1 σ H1 D I1 q1
 | false=>exact hb pins s1 σ H1 D I1 q1
def lb:TS:=fun _ _ _=>False
theorem ps_never:PS X st lb:=fun _ _ _ _ _ _ h=>h.elim
end
abbrev TG:=V→St→Hp→(St→Hp→Prop)→Prop
def PG (X:Cx) (target:Expr) (t:TG):Prop :=
 ∀ (pins:List (Addr×Obj)) (s:Shared) (σ:St) (H:Hp) (v:V) (u:Value) (Q:St→Hp→Prop),Inv X pins σ H s→RelV v u→t v σ H Q →
  wpAny (model X.prog X.w) X.A (assign target X.env u) (fun _ s'=>∃ σ' H',Inv X pins σ' H' s'∧Q σ' H') X.xe s
section
variable {X:Cx} {pos:Pos}
def kb (i:Nat):TG:=fun v σ H Q=>Q (σ.set i (some v)) H
theorem iU {i:Nat} {x:Str} (hN:X.N.Nodup) (hi:X.N[i]?=some x) (hx:Loc X.env.scope x) (hf:X.fn x=true∨X.env.scope.names.lookup x=some .local :=by walk_at "v1"):PG X (.Name x pos) (kb i):=by
 intro pins s σ H v u Q I r h
 exact wpAny_assign_Name (bc I hN hi hx r (fun s' I'=>⟨_,H,I',h⟩) hf)
def tAsg (te:TE) (g:TG):TS:=fun D σ H=>te σ H fun x H1=>g x σ H1 D.nx
theorem hG {i:Nat} {x:Str} {e:Expr} {te:TE} {pos':Pos} (hN:X.N.Nodup) (hi:X.N[i]?=some x) (hx:Loc X.env.scope x) (he:PE X e te) (hs:swapsWith e (some (.Name x pos')) pos.line X.env=pure false:=by rfl) (hf:X.fn x=true∨X.env.scope.names.lookup x=some .local :=by walk_at "v1") :
  PS X (.Assign [.Name x pos'] e pos) (tAsg te (kb i)):=by
 intro pins s σ H D I h
 refine wpAny_Assign_Name (thn (he pins s σ H _ I h) fun v s1 ⟨y,H1,I1,r1,q1⟩=>?_) hs
 exact bc I1 hN hi hx r1 (fun s2 I2=>⟨_,H1,I2,q1⟩) hf
def tPar (i j:Nat) (ta:TA):TS:=fun D σ H=>ta σ H fun vs H1=>∃ v w,vs=[v,w]∧D.nx ((σ.set i (some v)).set j (some w)) H1
theorem kA {i j:Nat} {x y:Str} {a b:Expr} {ta:TA} {px py pt:Pos} {kt k2 pt2} (hc:X.calm=true) (hN:X.N.Nodup) (hi:X.N[i]?=some x) (hj:X.N[j]?=some y) (hij:i≠j)
  (hx:X.env.scope.names.lookup x=some .local) (hy:X.env.scope.names.lookup y=some .local) (ha:PA X [a,b] ta)
  (hw:swappedStores [.Tuple [.Name x px,.Name y py] kt pt] (.Tuple [a,b] k2 pt2) X.env=pure (some [x,y]))
  (hs:swapsWithSole [.Tuple [.Name x px,.Name y py] kt pt] (.Tuple [a,b] k2 pt2) pos.line X.env=pure false:=by rfl) :
  PS X (.Assign [.Tuple [.Name x px,.Name y py] kt pt] (.Tuple [a,b] k2 pt2) pos) (tPar i j ta):=by
 intro pins s σ H D I h
 rw [exec_Assign_arm]
 refine wpAny_bind (wpAny_standAt ?_)
 rw [hs]
 refine wpAny_bind (wpAny_pure ?_)
 rw [if_neg (by decide)]
 refine wpAny_bind (Tuple_ (thn (ha _ pins s σ H _ I h) fun us s1 ⟨vs,H1,I1,r1,q1⟩=>?_))
 obtain ⟨v,w,e1,q1⟩:=q1
 subst e1
 obtain ⟨u1,u2,rfl,rv,rw'⟩:∃ u1 u2,us=[u1,u2]∧RelV v u1∧RelV w u2:=by
  cases r1 with
  | cons p q =>
   cases q with
   | cons p' q' =>
    cases q'
    exact⟨_,_,rfl,p,p'⟩
 refine wpAny_newObj_type ?_ (by show 2≤sizeLine;decide)
 have I2:Inv X pins σ H1 { s1 with heap:=s1.heap.push { cls:=.type "tuple",data:=.seq [u1,u2].toArray } }:=I1.kept (t':=s1.toks) fun b o e=>mr _ e
 rw [hw]
 refine wpAny_bind (wpAny_pure ?_)
 show wpAny (model X.prog X.w) X.A (do rule "assign.swapped-stores";let items←unpackItems (.ref s1.heap.objs.size) 2 none;assignInOrder [fun v=>bindName X.env y v,fun v=>bindName X.env x v] items.reverse;pure Flow.next) _ _ _
 refine wpAny_bind (wpAny_rule (wpAny_bind (unpackItems_tuple (items:=#[u1,u2]) (I.ok.hd hc) (IsTup.new s1.heap _) fun h' hx'=>?_)))
 have I3:=I2.kept (h':=h') (t':=s1.toks) fun b o e=>hx' b o (Nat.ne_of_lt (Heap.lt_size e)) e
 show wpAny _ _ (assignInOrder [fun v=>bindName X.env y v,fun v=>bindName X.env x v] [u2,u1] >>= fun _=>pure Flow.next) _ _ _
 refine wpAny_bind (assignInOrder_cons (wpAny_bindName (bc I3 hN hj (.inl hy) rw' (fun s2 I4=>?_) (.inr hy))))
 refine assignInOrder_cons (wpAny_bindName (bc I4 hN hi (.inl hx) rv (fun s3 I5=>assignInOrder_nil (wpAny_pure ?_)) (.inr hx)))
 rw [List.set_comm _ _ (Ne.symm hij)] at I5
 exact⟨_,H1,I5,q1⟩
end
section
variable {X:Cx} {pos:Pos}
def kF (c:TT) (tb:TS):TS:=fun D σ H=>∃ W:Nat→St→Hp→Prop,(∃ m,W m σ H)∧∀ m σ H,W m σ H →
 c σ H fun b H1=>if b=true then ∃ N:St→Hp→Prop,(∀ σ' H',N σ' H'→∃ m',m' < m∧W m' σ' H')∧tb { D with nx:=N,ct:=N,bk:=D.nx } σ H1 else D.nx σ H1
theorem gA {c:Expr} {body:List Stmt} {tc:TT} {tb:TS} (hp:PassesOwn (model X.prog X.w) X.A X.env X.xe) (hc:PT X c tc) (hb:PSs X body tb):PS X (.While c body [] pos) (kF tc tb):=by
 intro pins s σ H D I h
 obtain ⟨W,⟨m0,w0⟩,turn⟩:=h
 refine wpAny_While (codeAny_whileLoop (fun n s'=>∃ σ' H',Inv X pins σ' H' s'∧W n σ' H') ?_ m0 ⟨σ,H,I,w0⟩)
 rintro n s1 ⟨σ1,H1,I1,w1⟩
 refine wpAny_passesOwn hp (thn (hc pins s1 σ1 H1 _ I1 (turn n σ1 H1 w1)) fun b s2 ⟨H2,I2,q2⟩=>?_)
 cases b with
 | true =>
  obtain ⟨N,hN,q2⟩:=q2
  rw [if_pos rfl]
  refine wpAny_passesOwn hp (thn (hb pins s2 σ1 H2 _ I2 q2) fun f s3 q3=>?_)
  cases f with
  | next =>
   obtain ⟨σ3,H3,I3,n3⟩:=q3
   obtain ⟨m',hm,w3⟩:=hN σ3 H3 n3
   exact⟨m',hm,σ3,H3,I3,w3⟩
  | cont =>
   obtain ⟨σ3,H3,I3,n3⟩:=q3
   obtain ⟨m',hm,w3⟩:=hN σ3 H3 n3
   exact⟨m',hm,σ3,H3,I3,w3⟩
  | brk=>exact q3
  | ret v=>exact q3
 | false =>
  rw [if_neg Bool.false_ne_true]
  exact wpAny_execs_nil ⟨σ1,H2,I2,q2⟩
end
structure It where
 go:Nat→Hp→Prop
 yld:Nat→Hp→V→Hp→Prop
 stop:Nat→Hp→Prop
def FpOk (X:Cx) (pins:List (Addr×Obj)) (H:Hp) (b:Addr):Prop :=
 H b=none∧b≠X.env.locals∧b∉X.fs∧(b∈X.ex∨X.s₀.heap.objs.size≤b)∧(∀ x c,X.env.cells.lookup x=some c→c≠b)∧∀ p∈X.pn++pins,p.1≠b
theorem Inv.fpOk {X:Cx} {pins:List (Addr×Obj)} {σ:St} {H H':Hp} {s:Shared} {b:Addr} (I:Inv X pins σ H s) (hb:s.heap.objs.size≤b) (hn:H' b=none):FpOk X pins H' b:=by
 refine⟨hn,Nat.ne_of_gt (Nat.lt_of_lt_of_le I.lt hb),I.nofs hb,.inr (mq I.sz hb),fun x c e z=>?_,fun p hp z=>?_⟩
 ·obtain ⟨v,q⟩:=I.cell x c e
  exact absurd (Nat.lt_of_lt_of_le q.lt (by rw [z];exact hb)) (Nat.lt_irrefl _)
 ·exact absurd (Nat.lt_of_lt_of_le (Heap.lt_size (I.pin p hp).1) (by rw [z];exact hb)) (Nat.lt_irrefl _)
structure Turn (P:Program) (w:World) (K:PySem.W.Frag) (tg:Expr) (J:It) (fp:List Addr) (it:Addr) (tn:Nat→Heap→Prop):Prop where
 mem:it∈fp
 obj:∀ i h,tn i h→∀ b∈fp,∃ o,h.get? b=some o∧∀ v,o.data≠.cell v
 keep:∀ i h h',tn i h→(∀ b∈fp,∀ o,h.get? b=some o→h'.get? b=some o)→tn i h'
 item:∀ (X:Cx),X.prog=P→X.w=w→X.K=K→X.calm=true→∀ (i:Nat) (pins:List (Addr×Obj)) (s:Shared) (σ:St) (H:Hp) (E:Value→Shared→Prop),Inv X pins σ H s→(∀ b∈fp,FpOk X pins H b)→tn i s.heap→J.go i H →
  wpAny (model P w) X.A (pyNext (.ref it)) (fun r s1=>∃ u,r=some u ∧
   wpAny (model P w) X.A (letOwnedTupleGo tg (.ref it) u) (fun _ s2=>∃ x H',Inv X pins σ H' s2∧RelV x u∧J.yld i H x H'∧tn (i + 1) s2.heap∧∀ b∈fp,H' b=none) E s1) E s
 done:∀ (X:Cx),X.prog=P→X.w=w→X.K=K→X.calm=true→∀ (i:Nat) (pins:List (Addr×Obj)) (s:Shared) (σ:St) (H:Hp) (E:Value→Shared→Prop),Inv X pins σ H s→(∀ b∈fp,FpOk X pins H b)→tn i s.heap→J.stop i H →
  wpAny (model P w) X.A (pyNext (.ref it)) (fun r s1=>r=none∧Inv X pins σ H s1) E s
 self:∀ (A:Around) (i:Nat) (s:Shared) (Q:Value→Shared→Prop) (E:Value→Shared→Prop),tn i s.heap→Q (.ref it) s→wpAny (model P w) A (pyIter (.ref it)) Q E s
abbrev TI:=St→Hp→(It→Hp→Prop)→Prop
def PIE (X:Cx) (pins:List (Addr×Obj)) (σ:St) (tg:Expr) (R:It→Hp→Prop) (itv:Value) (s2:Shared):Prop :=
 ∃ (it:Addr) (fp:List Addr) (tn:Nat→Heap→Prop) (J:It) (H':Hp),itv=.ref it∧Inv X pins σ H' s2∧Turn X.prog X.w X.K tg J fp it tn∧tn 0 s2.heap∧(∀ b∈fp,FpOk X pins H' b)∧R J H'
def PI (X:Cx) (tg iter:Expr) (wi:TI):Prop :=
 ∀ (pins:List (Addr×Obj)) (s:Shared) (σ:St) (H:Hp) (R:It→Hp→Prop),Inv X pins σ H s→wi σ H R →
  wpAny (model X.prog X.w) X.A (eval iter X.env) (fun v s1=>wpAny (model X.prog X.w) X.A (pyIter v) (PIE X pins σ tg R) X.xe s1) X.xe s
theorem l8 {M:Model} {A:Around} {E:Value→Shared→Prop} {s:Shared} {tg:Expr} {it:Addr} {u:Value} {o:Obj} {n:String} {vs:Array Value} {Q:Unit→Shared→Prop} (ho:s.heap.get? it=some o) (hc:o.cls=.type n) (hd:o.data=.fields vs)
    (hn:["enumerate","zip","dict_itemiterator","dict_reverseitemiterator","odict_iterator","itertools.zip_longest","itertools.pairwise"].contains n=false) (hQ:Q () s):wpAny M A (letOwnedTupleGo tg (.ref it) u) Q E s:=by
  unfold letOwnedTupleGo
  cases tg<;>first
    | exact wpAny_pure hQ
    | (cases u<;>first
        | exact wpAny_pure hQ
        | (refine wpAny_bind (wpAny_load ho ?_)
           rw [hc,hd]
           show wpAny M A (if (["enumerate","zip","dict_itemiterator","dict_reverseitemiterator","odict_iterator","itertools.zip_longest","itertools.pairwise"].contains n && vs[0]? == some (rawInt _))=true then _ else _) Q E s
           rw [if_neg (by intro h;rw [hn,Bool.false_and] at h;cases h)]
           exact wpAny_pure hQ))
def Itr (lo:Int) (n:Nat):It:=⟨fun i _=>i < n,fun i H x H'=>H'=H∧x=.int (lo + i),fun i _=>n≤i⟩
theorem eE {P:Program} {w:World} {K:PySem.W.Frag} {tg:Expr} (it:Addr) (lo:Int) (n:Nat):Turn P w K tg (Itr lo n) [it] it (fun i h=>IsRangeIter h it (lo + (i:Nat) * 1) ((n:Int) - (i:Nat)) 1) where
 mem:=by simp
 obj:=fun i h st b hb=>by
  have e:b=it:=by simpa using hb
  subst e
  exact⟨_,st,fun v z=>by
   have z':Data.fields _=Data.cell v:=z
   cases z'⟩
 keep:=fun i h h' st k=>k it (by simp) _ st
 item:=by
  intro X hP hw hK hc i pins s σ H E I hf st hg
  subst hP hw hK
  obtain ⟨f0,f1,f2,f3,f4,f5⟩:=hf it (by simp)
  have W:=Walks.range (prog:=X.prog) (w:=X.w) (I.ok.hd hc) it lo 1 n
  refine W.item i s _ _ hg st fun v h' tk hv st' kk=>?_
  obtain ⟨t,rfl⟩:=hv
  have I1:Inv X pins σ H { s with heap:=h',toks:=tk }:=I.turned (fun b o hb e=>kk b o (by simpa using hb) e) f0 f1 f3 f4 f5
  refine⟨_,rfl,l8 (s:={ s with heap:=h',toks:=tk }) (n:="range_iterator") st' rfl rfl (by decide) ⟨.int (lo + i),H,I1,⟨t,?_⟩,⟨rfl,rfl⟩,st',fun b hb=>(hf b hb).1⟩⟩
  rw [Int.mul_one]
 done:=by
  intro X hP hw hK hc i pins s σ H E I hf st hg
  subst hP hw hK
  obtain ⟨f0,f1,f2,f3,f4,f5⟩:=hf it (by simp)
  exact wpAny_pyNext_range_end (I.ok.hd hc) st (by have:n≤i:=hg;omega) fun h' eb=>⟨rfl,I.turned (t':=s.toks) (fun b o hb e=>eb b o hb e) f0 f1 f3 f4 f5⟩
 self:=fun _ _ _ _ _ st h=>wpAny_pyIter_rangeiter st h
end L2
namespace L2
open PySem PySem.Spec PyProof.Rows
section
variable {X:Cx} {tg:Expr}
theorem gI {pins:List (Addr×Obj)} {σ:St} {H:Hp} {s:Shared} {R:It→Hp→Prop} {E:Value→Shared→Prop} {lo hi:Int} {t u v:Tok} {tk:Nat} (I:Inv X pins σ H s) (h1:-(2 ^ 62)≤lo) (h2:lo < 2 ^ 62) (h3:-(2 ^ 62)≤hi) (h4:hi < 2 ^ 62)
  (q:R (Itr lo (hi - lo).toNat) H):wpAny (model X.prog X.w) X.A (pyIter (.ref s.heap.objs.size)) (PIE X pins σ tg R) E { s with heap:=s.heap.push { cls:=.type "range",data:=.fields #[.int lo t,.int hi u,.int 1 v] },toks:=tk }:=by
 refine wpAny_pyIter_range (IsRange.new ..) (small_one h1 h2 h3 h4) ?_
 have I1:Inv X pins σ H { s with heap:=s.heap.push { cls:=.type "range",data:=.fields #[.int lo t,.int hi u,.int 1 v] },toks:=tk }:=I.kept fun b o e=>mr _ e
 refine⟨(s.heap.push { cls:=.type "range",data:=.fields #[.int lo t,.int hi u,.int 1 v] }).objs.size,[(s.heap.push { cls:=.type "range",data:=.fields #[.int lo t,.int hi u,.int 1 v] }).objs.size],_,_,H,rfl,
  I1.kept (t':=tk) fun b o e=>mr _ e,eE _ lo (hi - lo).toNat,?_,fun b hb=>?_,q⟩
 ·have e1:lo + ((0:Nat):Int) * 1=lo:=by simp
  have e2:(((hi - lo).toNat:Nat):Int) - ((0:Nat):Int)=Builtin.Range.rangeSize lo hi 1:=by rw [rangeSize_one];split<;>omega
  show IsRangeIter _ _ (lo + ((0:Nat):Int) * 1) ((((hi - lo).toNat:Nat):Int) - ((0:Nat):Int)) 1
  rw [e1,e2]
  exact mH _ rfl
 ·have e:b=(s.heap.push { cls:=.type "range",data:=.fields #[.int lo t,.int hi u,.int 1 v] }).objs.size:=by simpa using hb
  subst e
  exact I1.fpOk (Nat.le_refl _) (I1.hok.fresh (Nat.le_refl _))
def lY (ta:TA):TI:=fun σ H R=>ta σ H fun vs H1=>∃ j:Int,vs=[.int j]∧-(2 ^ 62)≤j∧j < 2 ^ 62∧R (Itr 0 j.toNat) H1
theorem fe {a:Expr} {ta:TA} {p pos:Pos} (hg:Gl X "range") (hm:X.mg "range"=none) (ha:PA X [a] ta) (hs:starEach [a] X.env=[(false,eval a X.env)]:=by rfl):PI X tg (.Call (.Name "range" p) [a] [] pos) (lY ta):=by
 intro pins s σ H R I h
 refine Call_ (e4 I hg hm boot_range (PyProof.Rows.callWith_type1 (thn (ha pos pins s σ H _ I h) fun us s1 ⟨vs,H1,I1,r1,q1⟩=>?_) hs rfl))
 obtain ⟨j,e,q1,q2,q⟩:=q1
 subst e
 cases r1 with
 | cons r rr =>
  cases rr
  obtain ⟨t,rfl⟩:=r
  exact call_range_1 (gI I1 (by omega) (by omega) q1 q2 (by simpa using q))
def tFor (wi:TI) (g:TG) (tb:TS):TS:=fun D σ H=>wi σ H fun J H1=>∃ W:Nat→Nat→St→Hp→Prop,(∃ m,W 0 m σ H1)∧∀ i m σ H,W i m σ H →
 (J.stop i H∧D.nx σ H)∨(J.go i H∧∃ N:St→Hp→Prop,(∀ σ' H',N σ' H'→∃ m',m' < m∧W (i + 1) m' σ' H')∧∀ x H',J.yld i H x H'→g x σ H' fun σ2 H2=>tb { D with nx:=N,ct:=N,bk:=D.nx } σ2 H2)
def ee (fp:List Addr) (h:Heap):List (Addr×Obj):=fp.filterMap fun b=>(h.get? b).map fun o=>(b,o)
theorem ce {fp:List Addr} {h:Heap} {b:Addr} {o:Obj} (hb:b∈fp) (e:h.get? b=some o):(b,o)∈ee fp h:=List.mem_filterMap.mpr ⟨b,hb,by rw [e];rfl⟩
theorem fu {fp:List Addr} {h:Heap} {p:Addr×Obj} (hp:p∈ee fp h):p.1∈fp∧h.get? p.1=some p.2:=by
 obtain ⟨b,hb,e⟩:=List.mem_filterMap.mp hp
 cases q:h.get? b with
 | none=>rw [q] at e;cases e
 | some o =>
  rw [q] at e
  have e':(b,o)=p:=Option.some.inj e
  subst e'
  exact⟨hb,q⟩
theorem Inv.pinned {pins:List (Addr×Obj)} {σ:St} {H:Hp} {s:Shared} {fp:List Addr} (I:Inv X pins σ H s) (hf:∀ b∈fp,FpOk X pins H b) (ho:∀ b∈fp,∃ o,s.heap.get? b=some o∧∀ v,o.data≠.cell v):Inv X (pins++ee fp s.heap) σ H s :=
 I.pins_of fun p hp=>(List.mem_append.mp hp).elim (fun z=>I.pin p (mw _ z)) fun z=>by
  obtain ⟨hb,e⟩:=fu z
  obtain ⟨f0,f1,f2,_⟩:=hf p.1 hb
  obtain ⟨o,e',d⟩:=ho p.1 hb
  rw [e] at e';cases e'
  exact⟨e,f0,f1,f2,d⟩
theorem Inv.unpinned {pins pl:List (Addr×Obj)} {σ:St} {H:Hp} {s:Shared} (I:Inv X (pins++pl) σ H s):Inv X pins σ H s:=I.pins_of fun p hp=>I.pin p (mw _ (mx _ hp))
theorem jR {iter:Expr} {body:List Stmt} {wi:TI} {g:TG} {tb:TS} {pos:Pos} (hp:PassesOwn (model X.prog X.w) X.A X.env X.xe) (hc:X.calm=true) (hi:PI X tg iter wi) (hg:PG X tg g) (hb:PSs X body tb)
  (hs:∀ x,foldedSetIterable iter X.env x=pure x:=by intro _;rfl):PS X (.For tg iter body [] pos) (tFor wi g tb):=by
 intro pins s σ H D I h
 refine wpAny_For (thn (hi pins s σ H _ I h) fun v s1 h1=>thn h1 fun itv s2 h2=>?_) hs
 obtain ⟨it,fp,tn,J,H2,e,I2,T,st2,f2,W,⟨m0,w0⟩,turn⟩:=h2
 subst e
 have stat:∀ {H':Hp},(∀ b∈fp,H' b=none)→∀ b∈fp,FpOk X pins H' b:=fun hn b hb=>⟨hn b hb,(f2 b hb).2⟩
 refine codeAny_forLoop_any (fun n s'=>∃ i σ' H',Inv X pins σ' H' s'∧tn i s'.heap∧(∀ b∈fp,H' b=none)∧W i n σ' H') ?_ m0 ⟨0,σ,H2,I2,st2,fun b hb=>(f2 b hb).1,w0⟩
 rintro n s3 ⟨i,σ3,H3,I3,st3,fr3,w3⟩
 rcases turn i n σ3 H3 w3 with ⟨stop,qn⟩ | ⟨go,N,hN,step⟩
 ·refine wpAny_passesOwn hp (thn (T.done X rfl rfl rfl hc i pins s3 σ3 H3 X.xe I3 (stat fr3) st3 stop) fun r s4 ⟨hr,I4⟩=>?_)
  subst hr
  exact wpAny_execs_nil ⟨σ3,H3,I4,qn⟩
 ·refine wpAny_passesOwn hp (thn (T.item X rfl rfl rfl hc i pins s3 σ3 H3 X.xe I3 (stat fr3) st3 go) fun r s4 ⟨u,hr,h4⟩=>?_)
  subst hr
  refine wpAny_passesOwn hp (thn h4 fun _ s5 ⟨x,H5,I5,r5,y5,st5,fr5⟩=>?_)
  have I5':=I5.pinned (stat fr5) (T.obj _ _ st5)
  refine wpAny_passesOwn hp (thn (hg _ s5 σ3 H5 x u _ I5' r5 (step x H5 y5)) fun _ s6 ⟨σ6,H6,I6,q6⟩=>?_)
  refine wpAny_passesOwn hp (thn (hb _ s6 σ6 H6 _ I6 q6) fun f s7 q7=>?_)
  have again:∀ {σ7:St} {H7:Hp},Inv X (pins++ee fp s5.heap) σ7 H7 s7→N σ7 H7→∃ m,m < n∧∃ i σ' H',Inv X pins σ' H' s7∧tn i s7.heap∧(∀ b∈fp,H' b=none)∧W i m σ' H':=fun {σ7 H7} I7 n7=>by
   obtain ⟨m',hm,w7⟩:=hN σ7 H7 n7
   refine⟨m',hm,i + 1,σ7,H7,I7.unpinned,T.keep _ _ _ st5 fun b hb o e=>(I7.pin (b,o) (mw _ (mw _ (ce hb e)))).1,fun b hb=>?_,w7⟩
   obtain ⟨o,e,d⟩:=T.obj _ _ st5 b hb
   exact (I7.pin (b,o) (mw _ (mw _ (ce hb e)))).2.1
  cases f with
  | next=>obtain ⟨σ7,H7,I7,n7⟩:=q7;exact again I7 n7
  | cont=>obtain ⟨σ7,H7,I7,n7⟩:=q7;exact again I7 n7
  | brk=>obtain ⟨σ7,H7,I7,q7⟩:=q7;exact⟨σ7,H7,I7.unpinned,q7⟩
  | ret v=>obtain ⟨x7,σ7,H7,I7,r7,q7⟩:=q7;exact⟨x7,σ7,H7,I7.unpinned,r7,q7⟩
end
theorem fR {lo:Int} {n:Nat} {g:TG} {tb:TS} {D:Ends} {σ:St} {H:Hp} (Pv:Nat→St→Hp→Prop) (h0:Pv 0 σ H)
  (hs:∀ i σ H,i < n→Pv i σ H→g (.int (lo + i)) σ H fun σ2 H2=>tb { D with nx:=Pv (i + 1),ct:=Pv (i + 1),bk:=D.nx } σ2 H2) (hd:∀ σ H,Pv n σ H→D.nx σ H) :
  ∃ W:Nat→Nat→St→Hp→Prop,(∃ m,W 0 m σ H)∧∀ i m σ H,W i m σ H →
   ((Itr lo n).stop i H∧D.nx σ H)∨((Itr lo n).go i H∧∃ N:St→Hp→Prop,(∀ σ' H',N σ' H'→∃ m',m' < m∧W (i + 1) m' σ' H')∧∀ x H',(Itr lo n).yld i H x H'→g x σ H' fun σ2 H2=>tb { D with nx:=N,ct:=N,bk:=D.nx } σ2 H2):=by
 refine⟨fun i m σ H=>m=n - i∧i≤n∧Pv i σ H,⟨n,by simp,Nat.zero_le _,h0⟩,?_⟩
 rintro i m σ H ⟨rfl,hi,p⟩
 by_cases hlt:i < n
 ·refine .inr ⟨hlt,Pv (i + 1),fun σ' H' p'=>⟨n - (i + 1),by omega,rfl,hlt,p'⟩,fun x H' y=>?_⟩
  obtain ⟨e,y⟩:=y
  subst e y
  exact hs i σ _ hlt p
 ·have e:i=n:=by omega
  subst e
  exact .inl ⟨Nat.le_refl _,hd σ H p⟩
end L2
namespace L2
open PySem PySem.Spec PyProof.Rows
abbrev R2:=V→V→Hp→VK→Prop
def OpR (X:Cx) (f:Value→Value→Sem Value) (r:R2):Prop :=
 ∀ (pins:List (Addr×Obj)) (s:Shared) (σ:St) (H:Hp) (x y:V) (v u:Value) (Q:VK),Inv X pins σ H s→RelV x v→RelV y u→r x y H Q →
  wpAny (model X.prog X.w) X.A (f v u) (EP X pins σ Q) X.xe s
def UnR (X:Cx) (f:Value→Sem Value) (r:V→Hp→VK→Prop):Prop :=
 ∀ (pins:List (Addr×Obj)) (s:Shared) (σ:St) (H:Hp) (x:V) (v:Value) (Q:VK),Inv X pins σ H s→RelV x v→r x H Q →
  wpAny (model X.prog X.w) X.A (f v) (EP X pins σ Q) X.xe s
def bm (X:Cx) (f:Value) (r:List V→Hp→VK→Prop):Prop :=
 ∀ (pins:List (Addr×Obj)) (s:Shared) (σ:St) (H:Hp) (xs:List V) (us:List Value) (Q:VK),Inv X pins σ H s→Vals xs us→r xs H Q →
  wpAny (model X.prog X.w) X.A (call f us) (EP X pins σ Q) X.xe s
def tOp (r:R2) (ta tb:TE):TE:=fun σ H Q=>ta σ H fun x H1=>tb σ H1 fun y H2=>r x y H2 Q
def tUn (r:V→Hp→VK→Prop) (ta:TE):TE:=fun σ H Q=>ta σ H fun x H1=>r x H1 Q
def rI (C:Int→Int→Prop) (g:Int→Int→V):R2:=fun x y H Q=>∃ i j,x=.int i∧y=.int j∧C i j∧Q (g i j) H
def rI0 (g:Int→Int→V):R2:=fun x y H Q=>∃ i j,x=.int i∧y=.int j∧Q (g i j) H
def rU (g:Int→V):V→Hp→VK→Prop:=fun x H Q=>∃ i,x=.int i∧Q (g i) H
section
variable {X:Cx} {a b c:Expr} {ta tb tc:TE} {pos:Pos}
theorem binT (ha:PE X a ta) (hb:PE X b tb) {pins:List (Addr×Obj)} {s:Shared} {σ:St} {H:Hp} {R:V→V→Hp→Prop} (I:Inv X pins σ H s)
  (h:ta σ H fun x H1=>tb σ H1 fun y H2=>R x y H2) {Q:Value→Shared→Prop} {f:Value→Value→Sem Value}
  (hf:∀ v u s2 x y H2,Inv X pins σ H2 s2→RelV x v→RelV y u→R x y H2→wpAny (model X.prog X.w) X.A (f v u) Q X.xe s2) :
  wpAny (model X.prog X.w) X.A (eval a X.env) (fun v s₁=>wpAny (model X.prog X.w) X.A (eval b X.env) (fun u s₂=>wpAny (model X.prog X.w) X.A (f v u) Q X.xe s₂) X.xe s₁) X.xe s:=by
 refine thn (ha pins s σ H _ I h) fun v s1 ⟨x,H1,I1,r1,q1⟩=>?_
 refine thn (hb pins s1 σ H1 _ I1 q1) fun u s2 ⟨y,H2,I2,r2,q2⟩=>?_
 exact hf v u s2 x y H2 I2 r1 r2 q2
theorem lS {op:Operator} {r:R2} (ho:OpR X (binaryOp op) r) (ha:PE X a ta) (hb:PE X b tb):PE X (.BinOp a op b pos) (tOp r ta tb):=by
 intro pins s σ H Q I h
 exact wpAny_BinOp (binT ha hb I h fun v u s2 x y H2 I2 rx ry q=>ho pins s2 σ H2 x y v u Q I2 rx ry q)
theorem lQ {op:UnaryOp} {r:V→Hp→VK→Prop} (ho:UnR X (unaryOp op) r) (ha:PE X a ta):PE X (.UnaryOp op a pos) (tUn r ta):=by
 intro pins s σ H Q I h
 exact UnaryOp_ (thn (ha pins s σ H _ I h) fun v s1 ⟨x,H1,I1,r1,q1⟩=>ho pins s1 σ H1 x v Q I1 r1 q1)
theorem opI {f:Value→Value→Sem Value} {C:Int→Int→Prop} {g:Int→Int→Int}
  (rule:∀ (i j:Int) (t u:Tok) (s:Shared) (Q:Value→Shared→Prop) (E:Value→Shared→Prop),C i j→Q (.int (g i j) s.toks) { s with toks:=s.toks + 1 }→wpAny (model X.prog X.w) X.A (f (.int i t) (.int j u)) Q E s) :
  OpR X f (rI C fun i j=>.int (g i j)):=by
 intro pins s σ H x y v u Q I rx ry h
 obtain ⟨i,j,rfl,rfl,hc,q⟩:=h
 obtain ⟨t,rfl⟩:=rx
 obtain ⟨t',rfl⟩:=ry
 exact rule i j t t' s _ _ hc ⟨.int (g i j),H,I.tok _,⟨_,rfl⟩,q⟩
theorem opI0 {f:Value→Value→Sem Value} {g:Int→Int→Int}
  (rule:∀ (i j:Int) (t u:Tok) (s:Shared) (Q:Value→Shared→Prop) (E:Value→Shared→Prop),Q (.int (g i j) s.toks) { s with toks:=s.toks + 1 }→wpAny (model X.prog X.w) X.A (f (.int i t) (.int j u)) Q E s) :
  OpR X f (rI0 fun i j=>.int (g i j)):=by
 intro pins s σ H x y v u Q I rx ry h
 obtain ⟨i,j,rfl,rfl,q⟩:=h
 obtain ⟨t,rfl⟩:=rx
 obtain ⟨t',rfl⟩:=ry
 exact rule i j t t' s _ _ ⟨.int (g i j),H,I.tok _,⟨_,rfl⟩,q⟩
theorem opB0 {f:Value→Value→Sem Value} {g:Int→Int→Bool}
  (rule:∀ (i j:Int) (t u:Tok) (s:Shared) (Q:Value→Shared→Prop) (E:Value→Shared→Prop),Q (.bool (g i j)) s→wpAny (model X.prog X.w) X.A (f (.int i t) (.int j u)) Q E s) :
  OpR X f (rI0 fun i j=>.bl (g i j)):=by
 intro pins s σ H x y v u Q I rx ry h
 obtain ⟨i,j,rfl,rfl,q⟩:=h
 obtain ⟨t,rfl⟩:=rx
 obtain ⟨t',rfl⟩:=ry
 exact rule i j t t' s _ _ ⟨.bl (g i j),H,I,rfl,q⟩
def CPow (i j:Int):Prop:=0≤j∧j≤1000000∧i.natAbs < 2 ^ 64
def CMul (i j:Int):Prop:=(-(2 ^ 64) < i∧i < 2 ^ 64)∨(-(2 ^ 64) < j∧j < 2 ^ 64)
theorem CMul.ok {i j:Int} (h:CMul i j):IntMulOk i j:=by
 rcases h with ⟨h1,h2⟩ | ⟨h1,h2⟩
 ·exact .of_left (intBits_le_64 h1 h2)
 ·exact .of_right (intBits_le_64 h1 h2)
theorem kK:OpR X (binaryOp .Add) (rI0 fun i j=>.int (i + j)):=opI0 fun _ _ _ _ _ _ _ q=>add_int q
theorem ky:OpR X (binaryOp .Sub) (rI0 fun i j=>.int (i - j)):=opI0 fun _ _ _ _ _ _ _ q=>sub_int q
theorem im:OpR X (binaryOp .Mod) (rI (fun _ j=>j≠0) fun i j=>.int (i.fmod j)):=opI fun _ _ _ _ _ _ _ hc q=>mod_int' hc q
theorem jQ:OpR X (binaryOp .Pow) (rI CPow fun i j=>.int (i ^ j.toNat)):=opI fun _ _ _ _ _ _ _ hc q=>pow_int_small hc.1 hc.2.1 hc.2.2 q
theorem unI {f:Value→Sem Value} {g:Int→Int}
  (rule:∀ (i:Int) (t:Tok) (s:Shared) (Q:Value→Shared→Prop) (E:Value→Shared→Prop),Q (.int (g i) s.toks) { s with toks:=s.toks + 1 }→wpAny (model X.prog X.w) X.A (f (.int i t)) Q E s) :
  UnR X f (rU fun i=>.int (g i)):=by
 intro pins s σ H x v Q I rx h
 obtain ⟨i,rfl,q⟩:=h
 obtain ⟨t,rfl⟩:=rx
 exact rule i t s _ _ ⟨.int (g i),H,I.tok _,⟨_,rfl⟩,q⟩
theorem kX:UnR X (unaryOp .USub) (rU fun i=>.int (-i)):=unI fun _ _ _ _ _ q=>neg_int q
end
def scal:V→V→Bool
 | .non,.non=>true | .non,.int _=>true | .int _,.non=>true | .non,.bl _=>true | .bl _,.non=>true | .non,.str _=>true | .str _,.non=>true
 | .int _,.int _=>true | .bl _,.bl _=>true | .str _,.str _=>true | .byt _,.byt _=>true
 | .int _,.str _=>true | .str _,.int _=>true | .bl _,.str _=>true | .str _,.bl _=>true
 | _,_=>false
def rEq:R2:=fun x y H Q=>scal x y=true∧Q (.bl (decide (x=y))) H
def rNe:R2:=fun x y H Q=>scal x y=true∧Q (.bl (!decide (x=y))) H
theorem dL {i j:Int}:decide (V.int i=V.int j)=(i == j):=by
 rw [Bool.eq_iff_iff]
 simp
theorem fK {i j:Bool}:decide (V.bl i=V.bl j)=(i == j):=by
 rw [Bool.eq_iff_iff]
 simp
theorem dI {i j:Str}:decide (V.str i=V.str j)=(i == j):=by
 rw [Bool.eq_iff_iff]
 simp
theorem fm {i j:Array UInt8}:decide (V.byt i=V.byt j)=(i.toList == j.toList):=by
 rw [Bool.eq_iff_iff]
 cases i
 cases j
 simp
section
variable {X:Cx} {a b c:Expr} {ta tb tc:TE} {pos:Pos}
theorem am {pins:List (Addr×Obj)} {σ:St} {H:Hp} {s:Shared} {Q:VK} {k k':Bool} (I:Inv X pins σ H s) (q:Q (.bl k) H) (e:k=k'):EP X pins σ Q (.bool k') s:=by
 subst e
 exact⟨.bl k,H,I,rfl,q⟩
theorem js:OpR X (compareOp .Eq) rEq:=by
 intro pins s σ H x y v u Q I rx ry h
 obtain ⟨hs,q⟩:=h
 cases x with
 | non =>
  cases rx
  cases y with
  | non=>cases ry;exact PySem.EqNone.eq_none_none (am I q (by simp))
  | bl j=>cases ry;exact PySem.EqNone.eq_none_bool (am I q (by simp))
  | int j=>obtain ⟨t',rfl⟩:=ry;exact PySem.EqNone.eq_none_int (am I q (by simp))
  | str j=>obtain ⟨t',rfl⟩:=ry;exact PySem.EqNone.eq_none_str (am I q (by simp))
  | _=>exact absurd (show false=true from hs) Bool.false_ne_true
 | bl i =>
  cases rx
  cases y with
  | non=>cases ry;exact PySem.EqNone.eq_bool_none (am I q (by simp))
  | bl j=>cases ry;exact eq_bool (am I q fK)
  | str j=>obtain ⟨t',rfl⟩:=ry;exact PySem.EqMixed.eq_bool_str (am I q (by simp))
  | _=>exact absurd (show false=true from hs) Bool.false_ne_true
 | int i =>
  obtain ⟨t,rfl⟩:=rx
  cases y with
  | non=>cases ry;exact PySem.EqNone.eq_int_none (am I q (by simp))
  | int j=>obtain ⟨t',rfl⟩:=ry;exact eq_int (am I q dL)
  | str j=>obtain ⟨t',rfl⟩:=ry;exact PySem.EqMixed.eq_int_str (am I q (by simp))
  | _=>exact absurd (show false=true from hs) Bool.false_ne_true
 | str i =>
  obtain ⟨t,rfl⟩:=rx
  cases y with
  | non=>cases ry;exact PySem.EqNone.eq_str_none (am I q (by simp))
  | bl j=>cases ry;exact PySem.EqMixed.eq_str_bool (am I q (by simp))
  | int j=>obtain ⟨t',rfl⟩:=ry;exact PySem.EqMixed.eq_str_int (am I q (by simp))
  | str j=>obtain ⟨t',rfl⟩:=ry;exact eq_str (am I q dI)
  | _=>exact absurd (show false=true from hs) Bool.false_ne_true
 | byt i =>
  obtain ⟨t,rfl⟩:=rx
  cases y with
  | byt j=>obtain ⟨t',rfl⟩:=ry;exact PySem.W.eq_bytes (am I q fm)
  | _=>exact absurd (show false=true from hs) Bool.false_ne_true
 | _=>cases y<;>exact absurd (show false=true from hs) Bool.false_ne_true
theorem iA:OpR X (compareOp .NotEq) rNe:=by
 intro pins s σ H x y v u Q I rx ry h
 obtain ⟨hs,q⟩:=h
 cases x with
 | non =>
  cases rx
  cases y with
  | non=>cases ry;exact PySem.EqNone.ne_none_none (am I q (by simp))
  | bl j=>cases ry;exact PySem.EqNone.ne_none_bool (am I q (by simp))
  | int j=>obtain ⟨t',rfl⟩:=ry;exact PySem.EqNone.ne_none_int (am I q (by simp))
  | str j=>obtain ⟨t',rfl⟩:=ry;exact PySem.EqNone.ne_none_str (am I q (by simp))
  | _=>exact absurd (show false=true from hs) Bool.false_ne_true
 | bl i =>
  cases rx
  cases y with
  | non=>cases ry;exact PySem.EqNone.ne_bool_none (am I q (by simp))
  | bl j=>cases ry;exact ne_bool (am I q (congrArg not fK))
  | str j=>obtain ⟨t',rfl⟩:=ry;exact PySem.EqMixed.ne_bool_str (am I q (by simp))
  | _=>exact absurd (show false=true from hs) Bool.false_ne_true
 | int i =>
  obtain ⟨t,rfl⟩:=rx
  cases y with
  | non=>cases ry;exact PySem.EqNone.ne_int_none (am I q (by simp))
  | int j=>obtain ⟨t',rfl⟩:=ry;exact ne_int (am I q (congrArg not dL))
  | str j=>obtain ⟨t',rfl⟩:=ry;exact PySem.EqMixed.ne_int_str (am I q (by simp))
  | _=>exact absurd (show false=true from hs) Bool.false_ne_true
 | str i =>
  obtain ⟨t,rfl⟩:=rx
  cases y with
  | non=>cases ry;exact PySem.EqNone.ne_str_none (am I q (by simp))
  | bl j=>cases ry;exact PySem.EqMixed.ne_str_bool (am I q (by simp))
  | int j=>obtain ⟨t',rfl⟩:=ry;exact PySem.EqMixed.ne_str_int (am I q (by simp))
  | str j=>obtain ⟨t',rfl⟩:=ry;exact ne_str (am I q (congrArg not dI))
  | _=>exact absurd (show false=true from hs) Bool.false_ne_true
 | byt i =>
  obtain ⟨t,rfl⟩:=rx
  cases y with
  | byt j=>obtain ⟨t',rfl⟩:=ry;exact PySem.W.ne_bytes (am I q (congrArg not fm))
  | _=>exact absurd (show false=true from hs) Bool.false_ne_true
 | _=>cases y<;>exact absurd (show false=true from hs) Bool.false_ne_true
theorem lR:OpR X (compareOp .Lt) (rI0 fun i j=>.bl (decide (i < j))):=opB0 fun _ _ _ _ _ _ _ q=>lt_int q
theorem OpR.or {f:Value→Value→Sem Value} {r r':R2} (h:OpR X f r) (h':OpR X f r'):OpR X f (fun x y H Q=>r x y H Q∨r' x y H Q):=by
 intro pins s σ H x y v u Q I rx ry q
 rcases q with q | q
 ·exact h pins s σ H x y v u Q I rx ry q
 ·exact h' pins s σ H x y v u Q I rx ry q
theorem aQ (b:Expr) {op:CmpOp} (h:op≠.In:=by decide) (h2:op≠.NotIn:=by decide):behindInMarks op b=false:=by
 have e1:(op == CmpOp.In)=false:=by cases op<;>first | rfl | exact absurd rfl h
 have e2:(op == CmpOp.NotIn)=false:=by cases op<;>first | rfl | exact absurd rfl h2
 cases b<;>simp [behindInMarks,e1,e2]
theorem i4 {op:CmpOp} {r:R2} (ho:OpR X (compareOp op) r) (ha:PE X a ta) (hb:PE X b tb) (hm:behindInMarks op b=false):PE X (.Compare a [op] [b] pos) (tOp r ta tb):=by
 intro pins s σ H Q I h
 exact wpAny_Compare1 (binT ha hb I h fun v u s2 x y H2 I2 rx ry q=>ho pins s2 σ H2 x y v u Q I2 rx ry q) hm
def ma (t:TE):TT:=fun σ H Q=>t σ H fun x H'=>∃ k,x=.bl k∧Q k H'
theorem jd {op:CmpOp} {r:R2} (ho:OpR X (compareOp op) r) (ha:PE X a ta) (hb:PE X b tb) (hm:behindInMarks op b=false):PT X (.Compare a [op] [b] pos) (ma (tOp r ta tb)):=by
 intro pins s σ H Q I h
 refine wpAny_isTrue_Compare1 (thn (ha pins s σ H _ I h) fun v s1 ⟨x,H1,I1,r1,q1⟩=>thn (hb pins s1 σ H1 _ I1 q1) fun u s2 ⟨y,H2,I2,r2,q2⟩ =>
  thn (ho pins s2 σ H2 x y v u _ I2 r1 r2 q2) fun c s3 ⟨z,H3,I3,r3,k,e,q3⟩=>?_) hm
 subst e
 cases r3
 exact wpAny_truthy_bool ⟨H3,I3,q3⟩
theorem d3:(sizeLine:Nat) < 2 ^ 63:=by rw [sizeLine_eq];decide
theorem ki {x:V} {us:List Value} (r:Vals [x] us):∃ u,us=[u]∧RelV x u:=by
 cases r with
 | cons r1 r2=>cases r2;exact⟨_,rfl,r1⟩
theorem gD {x y:V} {us:List Value} (r:Vals [x,y] us):∃ u w',us=[u,w']∧RelV x u∧RelV y w':=by
 cases r with
 | cons r1 r2 =>
  cases r2 with
  | cons r3 r4=>cases r4;exact⟨_,_,rfl,r1,r3⟩
theorem gv:bm X (.builtin "abs") (fun xs H Q=>∃ i,xs=[.int i]∧Q (.int (if i < 0 then -i else i)) H):=by
 intro pins s σ H xs us Q I r h
 obtain ⟨i,rfl,q⟩:=h
 obtain ⟨u,rfl,t,rfl⟩:=ki r
 exact call_abs_int fun u tk=>⟨.int (if i < 0 then -i else i),H,I.tok _,⟨_,rfl⟩,q⟩
end
end L2
namespace L2
open PySem PySem.Spec PyProof.Rows
theorem eY {h:Heap} {dx:Addr} {mA:Str→Option Value} (n:h.Ns1 dx mA):∃ od,h.get? dx=some od∧∀ name,PySem.W.lookIn name od=some (mA name):=by
 obtain ⟨o,es,ep,ho,hd,hk,_,hm⟩:=n
 refine⟨o,ho,fun name=>?_⟩
 have e:=hm name
 unfold nsFind findBy at e
 rw [← Array.find?_toList] at e
 unfold PySem.W.lookIn
 rw [hd]
 dsimp only
 split
 ·rename_i y q
  rw [q] at e
  exact congrArg some e
 ·rename_i q
  rw [q] at e
  have a:es.toList.any (·.refKey)=false:=by
   rw [List.any_eq_false]
   intro y hy
   obtain ⟨z,t,hkey⟩:=hk y (Array.mem_toList_iff.mp hy)
   simp [DictEntry.refKey,hkey]
  have a':¬ es.toList.any (·.refKey)=true:=by rw [a];exact Bool.false_ne_true
  rw [if_neg a']
  exact congrArg some e
section
variable {prog:Program} {w:World} {A:Around} {E:Value→Shared→Prop} {s:Shared} {K:PySem.W.Frag} {x dx C f:Addr} {mA:Str→Option Value} {name:Str} {v:Value}
end
theorem RelO.some_of {v:V} {o:Option Value} (r:RelO (some v) o):∃ u,o=some u∧RelV v u:=by
 cases o with
 | none=>exact (show False from r).elim
 | some u=>exact⟨u,rfl,r⟩
theorem e8 {v:V} {u:Value} (r:RelV v u):PySem.W.handedIn u=true:=by
 cases v with
 | non=>cases (show u=Value.none from r);rfl
 | bl b=>cases (show u=Value.bool b from r);rfl
 | int i=>obtain ⟨t,e⟩:=(show ∃ t,u=Value.int i t from r);cases e;rfl
 | str x=>obtain ⟨t,e⟩:=(show ∃ t,u=Value.str x t from r);cases e;rfl
 | byt b=>obtain ⟨t,e⟩:=(show ∃ t,u=Value.bytes b t from r);cases e;rfl
 | flt b=>obtain ⟨t,e⟩:=(show ∃ t,u=Value.float b t from r);cases e;rfl
 | ref a=>cases (show u=Value.ref a from r);rfl
 | ty n=>cases (show u=Value.type n from r);rfl
section
variable {P:Program} {w:World} {H H':Hp} {h h':Heap} {a C dx:Addr} {fs fs':List (Str×V)}
end
section
variable {X:Cx} {pins:List (Addr×Obj)} {σ:St} {H:Hp} {s:Shared} {a C dx:Addr} {fs:List (Str×V)} {f:Str} {v:V} {A:Around} {E:Value→Shared→Prop}
theorem iy {prog:Program} {w:World} {env:Env} {e:Expr} {f:Str} {pos:Pos} {s:Shared} {Q:Value→Shared→Prop} (hb:attributeBase e f env (eval e env)=eval e env)
  (h:wpAny (model prog w) A (eval e env) (fun o s₁=>wpAny (model prog w) A (getAttr o f true) Q E s₁) E s):wpAny (model prog w) A (eval (.Attribute e f pos) env) Q E s :=
 Attribute_any_ h (by rw [arm_eval_Attribute,hb])
end
section
variable {X:Cx} {o e value:Expr} {f:Str} {pos pos' tpos:Pos} {ta tv:TE}
end
section
variable {X:Cx} {pins:List (Addr×Obj)} {σ:St} {H:Hp} {s:Shared} {A:Around} {E:Value→Shared→Prop} {Q:Value→Shared→Prop} {c:Value} {b:Bool}
end
end L2
namespace L2
open PySem PySem.Spec PyProof.Rows
structure Room (k:Nat) (A:Around):Prop where
 hd:A.handled=none
 dp:A.depth + 3 * k + 5 < recursionLimit
 un:A.units + 16 * k + 200 < cLine
theorem Room.mono {j k:Nat} {A:Around} (r:Room k A) (h:j≤k):Room j A:=⟨r.hd,by have:=r.dp;omega,by have:=r.un;omega⟩
theorem Room.deeper {k:Nat} {A:Around} (r:Room (k + 1) A) (env:Env):Room k (A.deeper env) :=
 ⟨r.hd,by have:=r.dp;show A.depth + 1 + 3 * k + 5 < _;omega,by have:=r.un;show A.units + 3 + 16 * k + 200 < _;omega⟩
theorem eV {A:Around} {C:Addr} {us:List Value} {kw:List (Str×Value)}:(A.under (.builtin "type.__call__" ⟨.ref C :: us,kw⟩)).depth=A.depth + 1:=by
 first | rfl | simp [Around.under,Code.weight,Code.isCreation,Code.isGuard,Code.isCaller,Code.frames,Code.isFrame,guardIds]
theorem eS {A:Around} {C:Addr} {us:List Value} {kw:List (Str×Value)}:(A.under (.builtin "type.__call__" ⟨.ref C :: us,kw⟩)).units=A.units + 1:=by
 first | rfl | simp [Around.under,Code.cUnits,Code.frames,Code.isFrame]
theorem Room.make {k:Nat} {A:Around} (r:Room (k + 1) A) (C:Addr) (us:List Value) (kw:List (Str×Value)):Room k (A.under (.builtin "type.__call__" ⟨.ref C :: us,kw⟩)) :=
 ⟨r.hd,by have:=r.dp;rw [eV];omega,by have:=r.un;rw [eS];omega⟩
theorem Room.depth {k:Nat} {A:Around} (r:Room k A):A.depth < recursionLimit:=by have:=r.dp;omega
theorem Room.units {k:Nat} {A:Around} (r:Room k A):A.units + 64 < cLine:=by have:=r.un;omega
def tNil:TA:=fun _ H Q=>Q [] H
def fP (ta:TE) (tr:TA):TA:=fun σ H Q=>ta σ H fun x H1=>tr σ H1 fun xs H2=>Q (x :: xs) H2
section
variable {X:Cx} {e:Expr} {es:List Expr} {te:TE} {t:TA} {pos:Pos}
theorem a8:PA X [] tNil:=fun _ _ _ _ H Q I h=>Calls.spliced_nil ⟨[],H,I,.nil,h⟩
theorem ao (ha:PE X e te) (hr:PA X es t) (hs:starEach (e :: es) X.env=(false,eval e X.env) :: starEach es X.env:=by rfl):PA X (e :: es) (fP te t):=by
 intro pos pins s σ H Q I h
 rw [hs]
 show wpAny _ _ (spliced ((false,eval e X.env) :: backTo pos (starEach es X.env))) _ _ s
 refine Calls.spliced_cons (thn (ha pins s σ H _ I h) fun u s1 ⟨x,H1,I1,r1,q1⟩=>?_)
 exact thn (hr pos pins s1 σ H1 _ I1 q1) fun us s2 ⟨xs,H2,I2,r2,q2⟩=>⟨x :: xs,H2,I2,.cons r1 r2,q2⟩
def tTup (t:TA):TE:=fun σ H Q=>t σ H fun xs H1=>xs.length≤sizeLine∧∀ p,H1 p=none→Q (.ref p) (upd H1 p (.tup xs))
def tLst (t:TA):TE:=fun σ H Q=>t σ H fun xs H1=>xs.length≤sizeLine∧∀ p,H1 p=none→Q (.ref p) (upd H1 p (.lst xs))
theorem ik {x1} (h:PA X es t):PE X (.Tuple es x1 pos) (tTup t):=by
 intro pins s σ H Q I hq
 refine wpAny_Tuple_spliced (thn (h pos pins s σ H _ I hq) fun us s1 ⟨xs,H1,I1,r,z,q⟩=>⟨by rw [← r.length];exact z,?_⟩)
 have hf:H1 s1.heap.objs.size=none:=I1.hok.fresh (Nat.le_refl _)
 refine⟨.ref s1.heap.objs.size,upd H1 s1.heap.objs.size (.tup xs),I1.laid (t':=s1.toks) (fun b u e=>mr _ e) (Nat.le_refl _) ?_,rfl,q _ hf⟩
 exact⟨z,us,r,⟨_,mH _ rfl,rfl,_,rfl⟩⟩
theorem lq (h:PA X es t):PE X (.List es pos) (tLst t):=by
 intro pins s σ H Q I hq
 refine wpAny_List_spliced (thn (h pos pins s σ H _ I hq) fun us s1 ⟨xs,H1,I1,r,z,q⟩=>⟨by rw [← r.length];exact z,?_⟩)
 have hf:H1 s1.heap.objs.size=none:=I1.hok.fresh (Nat.le_refl _)
 refine⟨.ref s1.heap.objs.size,upd H1 s1.heap.objs.size (.lst xs),I1.laid (t':=s1.toks) (fun b u e=>mr _ e) (Nat.le_refl _) ?_,rfl,q _ hf⟩
 exact⟨z,us,0,r,mH _ rfl⟩
end
abbrev Sp:=List V→Hp→VK→XK→Prop
abbrev CXT:=List Env→Hp→Shared→XK→Value→Shared→Prop
structure Env0 (P:Program) (w:World) (K:PySem.W.Frag) (mg:Str→Option Value) (base:Heap) (A:Around) (outer:List Env) (s:Shared) (H:Hp):Prop where
 frames:A.frames=some outer
 mod:Mod K mg base
 bs:∀ b o,base.get? b=some o→s.heap.get? b=some o∧H b=none
 bsz:base.objs.size≤s.heap.objs.size
 funs:s.heap.FunFrames base outer
 frf:∀ b∈frs outer,H b=none
 hok:HOk P w H s.heap
 bare:AllBare s.gens
def CE (outer:List Env) (P:Program) (w:World) (H:Hp) (s:Shared) (Q:VK) (u:Value) (s':Shared):Prop :=
 ∃ v H',s'.os=s.os∧AllBare s'.gens∧Un (frs outer) [] H H' s.heap s'.heap∧HOk P w H' s'.heap∧RelV v u∧Q v H'
def CR (CX:CXT) (outer:List Env) (P:Program) (w:World) (H:Hp) (s:Shared) (Q:VK) (E:XK) (r:Result) (s':Shared):Prop :=
 match r with
 | .ok (.ret u)=>CE outer P w H s Q u s'
 | .ok _=>False
 | .error e=>CX outer H s E e s'
structure FnOk (P:Program) (w:World) (K:PySem.W.Frag) (mg:Str→Option Value) (base:Heap) (CX:CXT) (k:Nat) (f:Addr) (fd:FuncData) (ps:List Str) (sp:Sp):Prop where
 len:∀ vs H Q E,sp vs H Q E→vs.length=ps.length
 run:∀ (A:Around) (outer:List Env) (s:Shared) (H:Hp) (args:Args) (us:List Value) (vs:List V) (Q:VK) (E:XK),Room k A→Env0 P w K mg base A outer s H→BindsTo s fd args (ps.zip us)→Vals vs us→sp vs H Q E →
  codeAny (model P w) A (.call (.ref f) args) (CR CX outer P w H s Q E) s
theorem FnOk.imp {P:Program} {w:World} {K:PySem.W.Frag} {mg:Str→Option Value} {base:Heap} {CX:CXT} {k:Nat} {f:Addr} {fd:FuncData} {ps:List Str} {sp sp':Sp} (F:FnOk P w K mg base CX k f fd ps sp)
  (h:∀ vs H Q E,sp' vs H Q E→sp vs H Q E):FnOk P w K mg base CX k f fd ps sp' :=
 ⟨fun vs H Q E q=>F.len vs H Q E (h _ _ _ _ q),fun A outer s H args us vs Q E hr he hb hv hs=>F.run A outer s H args us vs Q E hr he hb hv (h _ _ _ _ hs)⟩
theorem Env0.make {P:Program} {w:World} {K:PySem.W.Frag} {mg:Str→Option Value} {base:Heap} {A:Around} {outer:List Env} {s:Shared} {H:Hp} (e:Env0 P w K mg base A outer s H) (C:Addr) (us:List Value) (kw:List (Str×Value)) :
  Env0 P w K mg base (A.under (.builtin "type.__call__" ⟨.ref C :: us,kw⟩)) outer s H:=⟨by first | exact e.frames | (simpa [Around.under,Code.envs,Code.isFrame,pushEnvs] using e.frames),e.mod,e.bs,e.bsz,e.funs,e.frf,e.hok,e.bare⟩
section
variable {X:Cx} {pins:List (Addr×Obj)} {σ:St} {H:Hp} {s s':Shared}
theorem Inv.env0 (I:Inv X pins σ H s):Env0 X.prog X.w X.K X.mg X.base X.A X.stack s H :=
 ⟨I.ok.frames,I.ok.mod,I.bs,mq I.ok.bsz I.sz,I.stack,I.stkFree,I.hok,I.bare⟩
theorem Inv.after {Q:VK} {u:Value} (I:Inv X pins σ H s) (h:CE X.stack X.prog X.w H s Q u s'):EP X pins σ Q u s':=by
 obtain ⟨v,H',os,bare,un,hok,r,q⟩:=h
 obtain ⟨hh,g,d,t,os'⟩:=s'
 obtain rfl:os'=s.os:=os
 exact⟨v,H',I.call (h':=hh) (g':=g) (d':=d) (t':=t) (ch:=[]) un hok bare (fun b z=>absurd z (by simp)),r,q⟩
end
def jJ (sp:Sp) (dvs:List V) (E:XK) (t:TA):TE:=fun σ H Q=>t σ H fun vs H1=>sp (vs++dvs) H1 Q E
def bi (K:PySem.W.Frag) (fd:FuncData) (ps:List Str) (ds:List Value):Prop :=
 ∀ (s:Shared) (us:List Value),K.In s.heap→(us++ds).length=ps.length→BindsTo s fd ⟨us,[]⟩ (ps.zip (us++ds))
theorem bi.all {K:PySem.W.Frag} {fd:FuncData} {ps:List Str} (h:∀ us:List Value,us.length=ps.length→bindArgs fd ⟨us,[]⟩=pure (ps.zip us)):bi K fd ps []:=fun s us _ hl=>by
 rw [List.append_nil] at hl ⊢
 exact .of_eq (h us hl)
def dP (CX:CXT) (X:Cx) (E:XK):Prop:=∀ (pins:List (Addr×Obj)) (σ:St) (H:Hp) (s:Shared) (e:Value) (s':Shared),Inv X pins σ H s→CX X.stack H s E e s'→X.xe e s'
section
variable {X:Cx} {CX:CXT} {k:Nat} {f C:Addr} {fd:FuncData} {ps:List Str} {sp:Sp} {dvs:List V} {ds:List Value} {E:XK} {x m:Str} {p pos apos:Pos} {e o:Expr} {es:List Expr} {ta:TE} {t:TA}
theorem j6 {pins:List (Addr×Obj)} {σ:St} {H:Hp} {s:Shared} {Q:VK} {us:List Value} {vs:List V} (F:FnOk X.prog X.w X.K X.mg X.base CX k f fd ps sp) (hr:Room k X.A) (hb:bi X.K fd ps ds) (hd:Vals dvs ds) (hx:dP CX X E)
  (I:Inv X pins σ H s) (r:Vals vs us) (h:sp (vs++dvs) H Q E):wpAny (model X.prog X.w) X.A (call (.ref f) us) (EP X pins σ Q) X.xe s:=by
 have r2:Vals (vs++dvs) (us++ds):=r.append hd
 have hl:(us++ds).length=ps.length:=by rw [← r2.length];exact F.len _ _ _ _ h
 refine wpAny_call (codeAny_mono (F.run X.A X.stack s H ⟨us,[]⟩ (us++ds) (vs++dvs) Q E hr I.env0 (hb s us I.kIn hl) r2 h) fun r s' hq=>?_)
 cases r with
 | error e=>exact hx pins σ H s e s' I hq
 | ok fl =>
  cases fl with
  | ret u=>exact I.after hq
  | next=>exact False.elim hq
  | brk=>exact False.elim hq
  | cont=>exact False.elim hq
theorem gi (F:FnOk X.prog X.w X.K X.mg X.base CX k f fd ps sp) (hr:Room k X.A) (hg:Gl X x) (hm:X.mg x=some (.ref f)) (hk:PySem.W.keepIn X.K (.ref f)=true) (hb:bi X.K fd ps ds) (hd:Vals dvs ds) (hx:dP CX X E)
  (ha:PA X (e :: es) t) (hdb:(x == ("__debug__":Str))=false:=by decide) (he:starEach (e :: es) X.env=(false,eval e X.env) :: starEach es X.env:=by rfl) (hpl:(backTo pos (starEach es X.env)).any (·.1)=false:=by rfl) :
  PE X (.Call (.Name x p) (e :: es) [] pos) (jJ sp dvs E t):=by
 intro pins s σ H Q I h
 refine wpAny_Call_Name_kw (bv I hg hm ?_ hdb)
 refine PySem.W.callWith_K (h₀:=X.base) I.ok.mod.kin hk (thn (ha pos pins s σ H _ I h) fun us s1 ⟨vs,H1,I1,r,q⟩=>⟨I1.kIn,?_⟩) he hpl
 exact j6 F hr hb hd hx I1 r q
end
section
variable {X:Cx} {CX:CXT} {k:Nat} {f C:Addr} {fd:FuncData} {ps ks:List Str} {sp:Sp} {E:XK} {x m:Str} {p pos apos kpos:Pos} {e o:Expr} {es:List Expr} {kws:List Keyword} {te ta:TE} {t tk:TA} {nm:Option Str}
variable {g:List Value→List Value→List Value} {gV:List V→List V→List V}
end
structure aw (N P:List Str) (sc:Scope):Prop where
 kind:sc.kind=.function
 co:sc.isCoroutine=false
 gen:sc.isGenerator=false
 nd:N.Nodup
 pre:N.take P.length=P
 par:∀ x∈P,sc.names.lookup x=some .local∨sc.names.lookup x=some .cell
 nofree:∀ y∈sc.names,y.2≠.free
theorem cP {kindOf:Str→Option NameKind} {x:Str}:∀ {binds:List (Str×Value)} {m:Str→Option Value},(∀ v,(x,v)∉binds)→bindL kindOf binds m x=m x
 | [],_,_=>rfl
 | (n,v) :: r,m,h=>by
  unfold bindL
  rw [cP fun w hw=>h w (mo _ hw)]
  split
  ·have:x≠n:=by rintro rfl;exact h v ms
   simp [this]
  ·rfl
theorem cH {kindOf:Str→Option NameKind} {x:Str}:∀ {binds:List (Str×Value)} {m:Str→Option Value},(∀ v,(x,v)∉binds)→bindC kindOf binds m x=m x
 | [],_,_=>rfl
 | (n,v) :: r,m,h=>by
  unfold bindC
  rw [cH fun w hw=>h w (mo _ hw)]
  split
  ·rfl
  ·have:x≠n:=by rintro rfl;exact h v ms
   simp [this]
theorem cM {kindOf:Str→Option NameKind} {x:Str} {v:Value}:∀ {P:List Str} {vs:List Value} {i:Nat} {m:Str→Option Value},P.Nodup→P[i]?=some x→vs[i]?=some v→kindOf x=some .local →
  bindL kindOf (P.zip vs) m x=some v
 | [],_,_,_,_,h,_,_=>by simp at h
 | _ :: _,[],_,_,_,_,h,_=>by simp at h
 | p :: P,w :: vs,0,m,nd,h1,h2,hk=>by
  simp at h1 h2;subst h1;subst h2
  show bindL kindOf ((p,w) :: P.zip vs) m p=_
  unfold bindL
  rw [cP fun v hv=>(List.nodup_cons.mp nd).1 (List.of_mem_zip hv).1,if_pos hk]
  simp
 | p :: P,w :: vs,i + 1,m,nd,h1,h2,hk=>by
  show bindL kindOf ((p,w) :: P.zip vs) m x=_
  unfold bindL
  exact cM (i:=i) (List.nodup_cons.mp nd).2 (by simpa using h1) (by simpa using h2) hk
theorem cI {kindOf:Str→Option NameKind} {x:Str} {v:Value}:∀ {P:List Str} {vs:List Value} {i:Nat} {m:Str→Option Value},P.Nodup→P[i]?=some x→vs[i]?=some v→kindOf x≠some .local →
  bindC kindOf (P.zip vs) m x=some v
 | [],_,_,_,_,h,_,_=>by simp at h
 | _ :: _,[],_,_,_,_,h,_=>by simp at h
 | p :: P,w :: vs,0,m,nd,h1,h2,hk=>by
  simp at h1 h2;subst h1;subst h2
  show bindC kindOf ((p,w) :: P.zip vs) m p=_
  unfold bindC
  rw [cH fun v hv=>(List.nodup_cons.mp nd).1 (List.of_mem_zip hv).1,if_neg hk]
  simp
 | p :: P,w :: vs,i + 1,m,nd,h1,h2,hk=>by
  show bindC kindOf ((p,w) :: P.zip vs) m x=_
  unfold bindC
  exact cI (i:=i) (List.nodup_cons.mp nd).2 (by simpa using h1) (by simpa using h2) hk
def start (N:List Str) (vs:List V):St:=vs.map some++List.replicate (N.length - vs.length) none
def cxOf (CX:CXT) (P:Program) (w:World) (K:PySem.W.Frag) (mg:Str→Option Value) (base:Heap) (N:List Str) (qual:Str) (scope:Scope) (f:Addr) (cd:Value) (A:Around) (outer:List Env) (s:Shared) (H:Hp) (E:XK):Cx where
 prog:=P
 w:=w
 K:=K
 mg:=mg
 base:=base
 A:=A.deeper (envOfC qual scope s.heap.objs.size f cd)
 N:=N
 s₀:=s
 H₀:=H
 env:=envOfC qual scope s.heap.objs.size f cd
 outer:=outer
 stack:=envOfC qual scope s.heap.objs.size f cd :: outer
 ex:=[]
 calm:=true
 fn:=fun _=>true
 pn:=[]
 xe:=fun e s'=>wpAny (model P w) (A.deeper (envOfC qual scope s.heap.objs.size f cd)) (leaving (envOfC qual scope s.heap.objs.size f cd) e) (fun _ s''=>CX outer H s E e s'') (fun e' s''=>CX outer H s E e' s'') s'
theorem d9 {sc:Scope} {n:Nat} {x:Str} (h:sc.names.lookup x=some .cell):∃ c,(cellsFrom n sc.names []).lookup x=some c:=by
 have q:=PySem.W.cellsFrom_some sc.names n [] (.inl h)
 exact Option.isSome_iff_exists.mp q
theorem e5 {CX:CXT} {P:Program} {w:World} {K:PySem.W.Frag} {mg:Str→Option Value} {base:Heap} {N ps:List Str} {qual:Str} {scope:Scope} {f:Addr} {cd:Value} {A:Around} {outer:List Env} {s s1:Shared} {H:Hp} {E:XK} {us:List Value} {vs:List V}
  (S:aw N ps scope) (hd:A.handled=none) (e0:Env0 P w K mg base A outer s H) (hl:vs.length=ps.length) (r:Vals vs us)
  (x:InCallC s s.heap.objs.size (bindL (envOfC qual scope s.heap.objs.size f cd).kindOf (ps.zip us) fun _=>none) (cellsFrom (s.heap.objs.size + 1) scope.names []) (bindC (envOfC qual scope s.heap.objs.size f cd).kindOf (ps.zip us) fun _=>none) s1) :
  Inv (cxOf CX P w K mg base N qual scope f cd A outer s H E) [] (start N vs) H s1:=by
 have hpl:ps.length≤N.length:=by have:=congrArg List.length S.pre;rw [List.length_take] at this;omega
 obtain ⟨h1,tk,rfl,hk⟩:=x.done
 have noA:∀ b:Addr,b∉(cxOf CX P w K mg base N qual scope f cd A outer s H E).ex:=fun b z=>absurd (show b∈([]:List Addr) from z) (by simp)
 refine⟨⟨e0.mod,S.kind,rfl,rfl,Nat.le_refl _,fun y z c h1 h2=>?_,fun y hy=>?_,fun y c _ h=>?_,fun _=>hd,Around.frames_deeper e0.frames,.inr ⟨rfl,rfl⟩,fun b z=>absurd z (noA b),e0.bs,e0.bsz,fun b _ _=>noA b,fun b z=>absurd z (noA b),e0.funs,e0.frf⟩,
  rfl,e0.bare,Un.kept hk,⟨_,x.toInCall.ns,fun i y v h1 h2 h3=>?_⟩,fun y c h=>⟨_,x.cell y c h⟩,e0.hok.fresh (Nat.le_refl _),fun y c h=>?_,fun p hp=>absurd (show p∈([]:List (Addr×Obj)) from hp) (by simp),e0.hok.kept hk,?_⟩
 ·exact name_of_addr x.apart (PySem.mem_of_lookup h1) (PySem.mem_of_lookup h2)
 ·have hy:scope.names.lookup y=some .cell∨scope.names.lookup y=some .free:=hy
  rcases hy with hy | hy
  ·exact d9 hy
  ·exact absurd rfl (S.nofree _ (PySem.mem_of_lookup hy))
 ·exact Nat.le_of_lt (x.above y c (PySem.mem_of_lookup h))
 ·have hi:i < vs.length:=by
   unfold start at h2
   by_cases hi:i < vs.length
   ·exact hi
   ·rw [mF (by simpa using hi)] at h2
    rw [List.getElem?_replicate] at h2
    split at h2<;>cases h2
  have ha:vs[i]?=some v:=by
   unfold start at h2
   rw [mG (by simpa using hi),mC] at h2
   cases e:vs[i]? with
   | none=>rw [e] at h2;cases h2
   | some a=>rw [e] at h2;cases h2;rfl
  obtain ⟨u,hu,rv⟩:=r.get ha
  have hp:ps[i]?=some y:=by
   rw [← S.pre,List.getElem?_take_of_lt (by omega)];exact h1
  have ndP:ps.Nodup:=by rw [← S.pre];exact S.nd.sublist (List.take_sublist _ _)
  refine⟨u,rv,?_⟩
  rcases S.par y (List.mem_of_getElem? hp) with k | k
  ·exact .inl ⟨k,cM ndP hp hu k⟩
  ·obtain ⟨c,e⟩:=d9 (n:=s.heap.objs.size + 1) k
   refine .inr ⟨.inl k,c,e,?_⟩
   have q:=x.cell y c e
   rw [cI ndP hp hu (by show scope.names.lookup y≠_;rw [k];decide)] at q
   exact q
 ·exact e0.hok.fresh (Nat.le_of_lt (x.above y c (PySem.mem_of_lookup h)))
 ·unfold start
  show _=N.length
  rw [my,mn,List.length_replicate]
  omega
theorem lj {CX:CXT} {P:Program} {w:World} {K:PySem.W.Frag} {mg:Str→Option Value} {base:Heap} {k:Nat} {f:Addr} {name qual:Str} {params:Arguments} {body:List Stmt} {scope:Scope} {dV kV doc pm cdv ct oc:Value} {an od:Option Addr}
    {osl:Array (Option Value)} {N ps:List Str} {sp:Sp} (lk:K.lookup f=some ⟨oc,od,.func (PySem.W.fnOf name qual params body scope dV kV doc pm an cdv ct),osl⟩) (hcd:PySem.W.codeIn K cdv qual=true) (S:aw N ps scope)
    (len:∀ vs H Q E,sp vs H Q E→vs.length=ps.length)
    (hbody:∀ (A:Around) (outer:List Env) (s:Shared) (H:Hp) (vs:List V) (Q:VK) (E:XK),Room k (A.deeper (envOfC qual scope s.heap.objs.size f cdv))→sp vs H Q E →
      ∃ t,PSs (cxOf CX P w K mg base N qual scope f cdv A outer s H E) body t∧t { nx:=fun _ H'=>Q .non H',rt:=Q } (start N vs) H) :
    FnOk P w K mg base CX (k + 1) f (PySem.W.fnOf name qual params body scope dV kV doc pm an cdv ct) ps sp:=by
  refine⟨len,fun A outer s H args us vs Q E hr e0 hb r hsp=>?_⟩
  have hl:=len _ _ _ _ hsp
  have KX:K.In s.heap:=e0.mod.kin.keeps fun b o e=>(e0.bs b o e).1
  have lim:s.heap.NoLimit:=e0.mod.nolimit.keeps fun b o e=>(e0.bs b o e).1
  have hkind:∀ y∈ps.zip us,scope.names.lookup y.1=some .local∨(scope.names.lookup y.1=some .cell∧((cellsFrom (s.heap.objs.size + 1) scope.names []).lookup y.1).isSome=true):=fun ⟨n,v⟩ hy=>by
    rcases S.par n (List.of_mem_zip hy).1 with q | q
    · exact .inl q
    · exact .inr ⟨q,PySem.W.cellsFrom_some _ _ _ (.inl q)⟩
  refine codeAny_call_function hr.depth (KX _ _ lk) rfl S.co S.gen rfl (PySem.W.codeRec_of KX hcd) (hb _ _ _ _ ?_)
  refine wpAny_newFunctionEnv_cells S.kind hkind fun env he s1 x=>?_
  subst he
  refine⟨lim.keeps x.toInCall.keep,codeAny_func ?_⟩
  obtain ⟨t,ht,hq⟩:=hbody A outer s H vs Q E (hr.deeper _) hsp
  have I:Inv (cxOf CX P w K mg base N qual scope f cdv A outer s H E) [] (start N vs) H s1:=e5 S hr.hd e0 hl r x
  refine wpAny_mono (ht [] s1 (start N vs) H _ I hq) (fun fl s' hs=>?_) fun e s' hs=>hs
  have fin:∀ {σ':St} {H':Hp} {v:V} {u:Value},Inv (cxOf CX P w K mg base N qual scope f cdv A outer s H E) [] σ' H' s'→RelV v u→Q v H'→CE outer P w H s Q u s' :=
    fun {σ' H' v u} J rv q=>⟨v,H',J.os,J.bare,J.base,J.hok,rv,q⟩
  cases fl with
  | ret u =>
    obtain ⟨v,σ',H',J,rv,q⟩:=hs
    exact fin J rv q
  | next =>
    obtain ⟨σ',H',J,q⟩:=hs
    exact fin (v:=V.non) (u:=Value.none) J rfl q
  | brk =>
    obtain ⟨_,_,_,q⟩:=hs
    exact False.elim q
  | cont =>
    obtain ⟨_,_,_,q⟩:=hs
    exact False.elim q
end L2
namespace L2
open PySem PySem.Spec PyProof.Rows
section
variable {X:Cx} {x:Str} {p pos:Pos} {e:Expr} {es:List Expr} {t:TA} {id T:String} {r:List V→Hp→VK→Prop}
def tCB (r:List V→Hp→VK→Prop) (t:TA):TE:=fun σ H Q=>t σ H fun vs H1=>r vs H1 Q
theorem bu (hc:bm X (.builtin id) r) (hg:Gl X x) (hm:X.mg x=none) (hv:bootBuiltins x=some (.builtin id)) (ha:PA X (e :: es) t) (hn:x≠"__name__":=by decide) (hdb:(x == ("__debug__":Str))=false:=by decide)
  (he:starEach (e :: es) X.env=(false,eval e X.env) :: starEach es X.env:=by rfl) (hpl:(backTo pos (starEach es X.env)).any (·.1)=false:=by rfl):PE X (.Call (.Name x p) (e :: es) [] pos) (tCB r t):=by
 intro pins s σ H Q I h
 refine wpAny_Call_Name_kw (e4 I hg hm hv ?_ hn hdb)
 exact PyProof.Rows.callWith_builtin1 (thn (ha pos pins s σ H _ I h) fun us s1 ⟨vs,H1,I1,r1,q1⟩=>hc pins s1 σ H1 vs us Q I1 r1 q1) he hpl
end
end L2
namespace HT
open PySem PyProof.Rows
section
open PySem.SeqAt
open PySem.AutoSeq1 (wpAny_loadPart')
open PySem.MeetsSeq PySem.MeetsSeq2 PySem.MeetsSeq3
end
section
variable {prog:Program} {w:World} {A:Around} {E:Value→Shared→Prop} {s:Shared}
theorem cat_tup {t b:Addr} {vs ws:List Value} {Q:Value→Shared→Prop} (ht:IsTup s.heap t vs.toArray) (hb:IsTup s.heap b ws.toArray) (hv:vs≠[])
  (h1:ws=[]→Q (.ref t) s) (h2:ws≠[]→Q (.ref s.heap.objs.size) { s with heap:=s.heap.push { cls:=.type "tuple",data:=.seq (vs++ws).toArray } })
  (hsz:vs.length + ws.length≤sizeLine):wpAny (model prog w) A (binaryOp .Add (.ref t) (.ref b)) Q E s:=by
 obtain ⟨⟨cls,dd,data,sl⟩,ho,hc,n,hd⟩:=id ht
 obtain ⟨⟨cls2,dd2,data2,sl2⟩,ho2,hc2,n2,hd2⟩:=id hb
 simp only at hc hd hc2 hd2
 subst hc hd hc2 hd2
 have e:vs.toArray++ws.toArray=(vs++ws).toArray:=by simp
 by_cases hw:ws=[]
 ·exact concat_meets ⟨_,ho,rfl⟩ ⟨_,ho2,rfl⟩ noFill_tuple_add seq_tuple_add PySem.F.slot_tuple_add PySem.F.entry_tuple_add (PySem.F.args_tuple_add_2 _ _)
   (tuple_addW1 t b vs.toArray ws.toArray n n2 dd dd2 sl sl2 (by simpa using hv) (by simp [hw])) ⟨ho,ho2,h1 hw⟩
 ·refine concat_meets ⟨_,ho,rfl⟩ ⟨_,ho2,rfl⟩ noFill_tuple_add seq_tuple_add PySem.F.slot_tuple_add PySem.F.entry_tuple_add (PySem.F.args_tuple_add_2 _ _)
   (tuple_addW2 t b vs.toArray ws.toArray n n2 dd dd2 sl sl2 (by simpa using hv) (by simpa using hw) (by rw [mE,mE];exact hsz)) ⟨ho,ho2,?_⟩
  rw [e]
  exact h2 hw
def sIx (n d:Nat):Option Int→Nat
 | none=>d
 | some v=>if v < 0 then (v + (n:Int)).toNat else min v.toNat n
theorem sIx_none (n d:Nat):sIx n d none=d:=rfl
theorem sIx_nat (n d k:Nat):sIx n d (some (k:Int))=min k n:=by
 show (if (k:Int) < 0 then ((k:Int) + (n:Int)).toNat else min (k:Int).toNat n)=min k n
 rw [if_neg (by omega),Int.toNat_natCast]
theorem kf (n d:Nat) (hd:d≤n) (o:Option Int):sIx n d o≤n:=by
 cases o with
 | none=>exact hd
 | some v =>
  show (if v < 0 then (v + (n:Int)).toNat else min v.toNat n)≤n
  by_cases hv:v < 0
  ·rw [if_pos hv];omega
  ·rw [if_neg hv];exact Nat.min_le_right _ _
theorem f6 (v:Int) (n d:Nat):(if v < 0 then max (v + (n:Int)) 0 else min v (n:Int))=((sIx n d (some v):Nat):Int):=by
 show (if v < 0 then max (v + (n:Int)) 0 else min v (n:Int))=(((if v < 0 then (v + (n:Int)).toNat else min v.toNat n):Nat):Int)
 by_cases hv:v < 0
 ·simp only [if_pos hv];omega
 ·simp only [if_neg hv];omega
theorem eM (lo hi:Option Int) (n:Nat):Builtin.Slice.sliceAdjust lo hi 1 (n:Int)=(((sIx n 0 lo:Nat):Int),((sIx n n hi:Nat):Int)):=by
 have h1:¬ ((1:Int) < 0):=by omega
 unfold Builtin.Slice.sliceAdjust
 simp only [h1,if_false]
 refine Prod.ext ?_ ?_
 ·cases lo with
  | none=>rfl
  | some v=>exact f6 v n 0
 ·cases hi with
  | none=>rfl
  | some v=>exact f6 v n n
theorem eU (i j:Nat):Builtin.Slice.slicePlaces (i:Int) (j:Int) 1=j - i:=by
 unfold Builtin.Slice.slicePlaces
 have h1:(1:Int) > 0:=by omega
 simp only [h1,if_true,Int.ediv_one]
 split<;>omega
theorem cj {v:Value} {o:Option Int} {Q:Option Int→Shared→Prop} (p:IsPart v o) (h:Q o s):wpAny (model prog w) A (Builtin.Slice.slicePartIndex v) Q E s:=by
 cases p with
 | none=>exact slicePart_none h
 | int i t=>exact slicePart_int h
theorem bF {sl:Addr} {vl vu:Value} {lo hi:Option Int} {n:Nat} {Q:Int×Int×Nat→Shared→Prop} (hs:s.heap.IsSliceOf sl vl vu .none) (pl:IsPart vl lo) (pu:IsPart vu hi)
  (h:Q (((sIx n 0 lo:Nat):Int),1,sIx n n hi - sIx n 0 lo) s):wpAny (model prog w) A (Builtin.Slice.sliceApplied (.ref sl) (pure (n:Int))) Q E s:=by
 obtain ⟨os,hos,hcs,hds⟩:=id hs
 unfold Builtin.Slice.sliceApplied Builtin.Slice.sliceFields
 refine wpAny_bind (wpAny_bind (wpAny_field hos hds (x:=vl) rfl (wpAny_bind (wpAny_field hos hds (x:=vu) rfl (wpAny_bind (wpAny_field hos hds (x:=.none) rfl (wpAny_pure ?_)))))))
 refine wpAny_bind (slicePart_none ?_)
 show wpAny _ _ (if ((1:Int) == 0)=true then _ else _) _ _ s
 rw [if_neg (by decide)]
 refine wpAny_bind (cj pl (wpAny_bind (cj pu (wpAny_bind (wpAny_pure ?_)))))
 show wpAny _ _ (match Builtin.Slice.sliceAdjust lo hi 1 (n:Int) with | (lo,hi)=>pure (lo,(1:Int),Builtin.Slice.slicePlaces lo hi 1)) _ _ s
 rw [eM lo hi n]
 show wpAny _ _ (pure (((sIx n 0 lo:Nat):Int),(1:Int),Builtin.Slice.slicePlaces ((sIx n 0 lo:Nat):Int) ((sIx n n hi:Nat):Int) 1)) _ _ s
 rw [eU]
 exact wpAny_pure h
theorem gQ (xs:Array Value) (i k:Nat):((List.range k).filterMap fun (m:Nat)=>xs[((i:Int) + (m:Int) * 1).toNat]?).toArray=((xs.toList.drop i).take k).toArray:=by
 have e:(fun (m:Nat)=>xs[((i:Int) + (m:Int) * 1).toNat]?)=fun m=>xs[i + m]?:=by
  funext m
  have:((i:Int) + (m:Int) * 1).toNat=i + m:=by omega
  rw [this]
 rw [e]
 have:=pick_run xs i k
 rw [List.filterMap_map] at this
 have e2:((fun x=>xs[x]?) ∘ fun x=>i + x)=fun m=>xs[i + m]?:=rfl
 rw [e2] at this
 rw [this]
theorem getItem_tuple_cut {t sl:Addr} {items:Array Value} {vl vu:Value} {lo hi:Option Int} {Q:Value→Shared→Prop} (ht:IsTup s.heap t items) (hs:s.heap.IsSliceOf sl vl vu .none) (pl:IsPart vl lo) (pu:IsPart vu hi)
  (hw:¬ (sIx items.size 0 lo=0∧sIx items.size items.size hi=items.size))
  (h:Q (.ref s.heap.objs.size) { s with heap:=s.heap.push { cls:=.type "tuple",data:=.seq ((items.toList.drop (sIx items.size 0 lo)).take (sIx items.size items.size hi - sIx items.size 0 lo)).toArray } })
  (hsz:items.size≤sizeLine):wpAny (model prog w) A (getItem (.ref t) (.ref sl)) Q E s:=by
 have htake:sizeOk (.seq ((items.toList.drop (sIx items.size 0 lo)).take (sIx items.size items.size hi - sIx items.size 0 lo)).toArray):=by
  show ((items.toList.drop (sIx items.size 0 lo)).take (sIx items.size items.size hi - sIx items.size 0 lo)).toArray.size≤sizeLine
  rw [mE,List.length_take,List.length_drop,Array.length_toList]
  omega
 have hj:sIx items.size items.size hi≤items.size:=kf _ _ (Nat.le_refl _) hi
 obtain ⟨os,hos,hcs,hds⟩:=id hs
 have hTs:s.TypeIs (.ref sl) "slice":=⟨os,hos,hcs⟩
 unfold getItem
 try with_reducible refine wpAny_holding ?_
 first | refine wpAny_bind (wpAny_pure ?_) | skip
 refine wpAny_bind (wpAny_sequenceKey ht.typeIs (by decide) ?_)
 refine wpAny_bind (wpAny_callSpecial?_slot (name:=Str.ofString "__getitem__") ht.typeIs PyProof.Rows.slot_tuple_getitem
  (wpAny_call_entry PyProof.Rows.slot_tuple_getitem ht.typeIs entry_tuple_getitem ?_ (args_tuple_getitem _ _)))
 show wpAny _ _ (Builtin.Tuple.tupleItemsOf (.ref t) >>= _) _ _ s
 refine wpAny_bind (tupleItemsOf_ ht ?_)
 refine wpAny_bind (wpAny_typeOf hTs ?_)
 rw [if_pos (by decide)]
 refine wpAny_bind (bF hs pl pu ?_)
 have hno:¬ ((((sIx items.size 0 lo:Nat):Int) == 0 && (1:Int) == 1 && (sIx items.size items.size hi - sIx items.size 0 lo) == items.size)=true):=by
  intro q
  rw [Bool.and_eq_true,Bool.and_eq_true] at q
  have q1:((sIx items.size 0 lo:Nat):Int)=0:=eq_of_beq q.1.1
  have q2:sIx items.size items.size hi - sIx items.size 0 lo=items.size:=eq_of_beq q.2
  exact hw ⟨by omega,by omega⟩
 show wpAny _ _ (if (((sIx items.size 0 lo:Nat):Int) == 0 && (1:Int) == 1 && (sIx items.size items.size hi - sIx items.size 0 lo) == items.size)=true then _ else _) _ _ s
 rw [if_neg hno,gQ]
 first
  | exact wpAny_bind (m:=Builtin.Tuple.tupleExact _) (wpAny_newObj_type (wpAny_pure ⟨_,rfl,wpAny_pure h⟩) htake)
  | exact wpAny_bind (m:=Builtin.Tuple.tupleExact _) (wpAny_newObj_type (wpAny_bind (wpAny_pure (wpAny_pure ⟨_,rfl,wpAny_pure h⟩))) htake)
  | exact wpAny_bind (wpAny_bind (m:=Builtin.Tuple.tupleExact _) (wpAny_newObj_type (wpAny_pure (wpAny_pure ⟨_,rfl,wpAny_pure h⟩)) htake))
  | exact wpAny_bind (wpAny_bind (m:=Builtin.Tuple.tupleExact _) (wpAny_newObj_type (wpAny_pure ⟨_,rfl,wpAny_pure h⟩) htake))
end
end HT
namespace L2
open PySem PySem.Spec PyProof.Rows
abbrev TO:=St→Hp→(Option Int→Hp→Prop)→Prop
def PO (X:Cx) (e:Option Expr) (t:TO):Prop :=
 ∀ (pins:List (Addr×Obj)) (s:Shared) (σ:St) (H:Hp) (Q:Option Int→Hp→Prop),Inv X pins σ H s→t σ H Q →
  wpAny (model X.prog X.w) X.A (evalPart e X.env) (fun u s'=>∃ o H',Inv X pins σ H' s'∧IsPart u o∧Q o H') X.xe s
def jq:TO:=fun _ H Q=>Q none H
def lH (t:TE):TO:=fun σ H Q=>t σ H fun x H1=>∃ i,x=.int i∧Q (some i) H1
section
variable {X:Cx} {e:Expr} {te:TE} {lo hi:Option Expr} {tl th:TO} {pos p2:Pos}
theorem iC:PO X none jq:=by
 intro pins s σ H Q I h
 rw [evalPart_none]
 exact wpAny_pure ⟨none,H,I,.none,h⟩
theorem ji (h:PE X e te):PO X (some e) (lH te):=by
 intro pins s σ H Q I hw
 rw [evalPart_some]
 refine thn (h pins s σ H _ I hw) fun u s1 ⟨x,H1,I1,r1,q1⟩=>?_
 obtain ⟨i,rfl,q⟩:=q1
 obtain ⟨t,rfl⟩:=r1
 exact⟨some i,H1,I1,.int i t,q⟩
def SlR (X:Cx) (r:V→Option Int→Option Int→Hp→VK→Prop):Prop :=
 ∀ (pins:List (Addr×Obj)) (s:Shared) (σ:St) (H:Hp) (x:V) (v vl vu:Value) (lo hi:Option Int) (sl:Addr) (Q:VK),Inv X pins σ H s→RelV x v→s.heap.IsSliceOf sl vl vu .none→IsPart vl lo→IsPart vu hi→r x lo hi H Q →
  ∃ T id,typeLookup (.type T) "__getitem__"=pure (some (.builtin id))∧s.TypeIs v T∧wpAny (model X.prog X.w) X.A (getItem v (.ref sl)) (EP X pins σ Q) X.xe s
theorem SlR.or {r r':V→Option Int→Option Int→Hp→VK→Prop} (h:SlR X r) (h':SlR X r'):SlR X (fun x lo hi H Q=>r x lo hi H Q∨r' x lo hi H Q):=by
 intro pins s σ H x v vl vu lo hi sl Q I rx hs pl pu q
 rcases q with q | q
 ·exact h pins s σ H x v vl vu lo hi sl Q I rx hs pl pu q
 ·exact h' pins s σ H x v vl vu lo hi sl Q I rx hs pl pu q
def tSl (r:V→Option Int→Option Int→Hp→VK→Prop) (te:TE) (tl th:TO):TE:=fun σ H Q=>te σ H fun x H1=>tl σ H1 fun l H2=>th σ H2 fun u H3=>r x l u H3 Q
theorem gY {r:V→Option Int→Option Int→Hp→VK→Prop} (hr:SlR X r) (he:PE X e te) (hl:PO X lo tl) (hu:PO X hi th):PE X (.Subscript e (.Slice lo hi none p2) pos) (tSl r te tl th):=by
 intro pins s σ H Q I h
 refine Subscript_ (thn (he pins s σ H _ I h) fun v s1 ⟨x,H1,I1,r1,q1⟩=>?_)
 refine wpAny_Slice (thn (hl pins s1 σ H1 _ I1 q1) fun vl s2 ⟨l,H2,I2,pl,q2⟩=>thn (hu pins s2 σ H2 _ I2 q2) fun vu s3 ⟨u,H3,I3,pu,q3⟩=>?_)
 rw [evalPart_none]
 refine wpAny_pure ?_
 have I4:Inv X pins σ H3 { s3 with heap:=s3.heap.push { cls:=.type "slice",data:=.fields #[vl,vu,.none] } }:=I3.kept (t':=s3.toks) fun b ob q=>mr _ q
 obtain ⟨T,id,hT,ht,hg⟩:=hr pins { s3 with heap:=s3.heap.push { cls:=.type "slice",data:=.fields #[vl,vu,.none] } } σ H3 x v vl vu l u s3.heap.objs.size Q I4 r1 (Heap.IsSliceOf.new ..) pl pu q3
 show wpAny (model X.prog X.w) X.A (subscriptTail e (.Slice lo hi none p2) v (.ref s3.heap.objs.size)) (EP X pins σ Q) X.xe { s3 with heap:=s3.heap.push { cls:=.type "slice",data:=.fields #[vl,vu,.none] } }
 exact tail_any (ops:=[.ref s3.heap.objs.size,v]) ht hT hg (by with_unfolding_all rfl)
def cutV (xs:List V) (lo hi:Option Int):List V:=(xs.drop (HT.sIx xs.length 0 lo)).take (HT.sIx xs.length xs.length hi - HT.sIx xs.length 0 lo)
theorem b4 (xs:List V) (lo hi:Option Int):(cutV xs lo hi).length≤xs.length:=by
 unfold cutV
 rw [List.length_take,List.length_drop]
 omega
def rSlT (K:PySem.W.Frag):V→Option Int→Option Int→Hp→VK→Prop:=fun x lo hi H Q=>∃ a xs,x=.ref a∧SqT K H a xs ∧
 ¬ (HT.sIx xs.length 0 lo=0∧HT.sIx xs.length xs.length hi=xs.length)∧∀ p,H p=none→Q (.ref p) (upd H p (.tup (cutV xs lo hi)))
theorem km:SlR X (rSlT X.K):=by
 intro pins s σ H x v vl vu lo hi sl Q I rx hs pl pu h
 obtain ⟨a,xs,rfl,hx,hw,q⟩:=h
 cases rx
 obtain ⟨its,r,ht,hz⟩:=I.tuple hx
 have hlen:its.toArray.size=xs.length:=by rw [mE];exact r.length.symm
 refine⟨"tuple",_,PyProof.Rows.slot_tuple_getitem.lookup,ht.typeIs,?_⟩
 refine HT.getItem_tuple_cut ht hs pl pu (by rw [hlen];exact hw) ?_ (by rw [hlen];exact hz)
 rw [hlen]
 refine⟨.ref s.heap.objs.size,_,I.laid (t':=s.toks) (o:=.tup (cutV xs lo hi)) (fun b ob q=>mr _ q) (Nat.le_refl _) ?_,rfl,q _ (I.hok.fresh (Nat.le_refl _))⟩
 exact⟨mq (b4 xs lo hi) hz,_,(r.drop (HT.sIx xs.length 0 lo)).take (HT.sIx xs.length xs.length hi - HT.sIx xs.length 0 lo),IsTup.new _ _⟩
def lU (K:PySem.W.Frag):R2:=fun x y H Q=>∃ a b xs ys,x=.ref a∧y=.ref b∧SqT K H a xs∧SqT K H b ys∧xs≠[]∧xs.length + ys.length≤sizeLine ∧
 (ys=[]→Q (.ref a) H)∧(ys≠[]→∀ p,H p=none→Q (.ref p) (upd H p (.tup (xs++ys))))
theorem Vals.nil_iff {xs:List V} {us:List Value} (r:Vals xs us):us=[]↔xs=[]:=by
 cases r with
 | nil=>simp
 | cons _ _=>simp
theorem jk:OpR X (binaryOp .Add) (lU X.K):=by
 intro pins s σ H x y v u Q I rx ry h
 obtain ⟨a,b,xs,ys,rfl,rfl,ha,hb,hx,hz,q1,q2⟩:=h
 cases rx
 cases ry
 obtain ⟨its,r1,p1,_⟩:=I.tuple ha
 obtain ⟨its2,r2,p2,_⟩:=I.tuple hb
 refine HT.cat_tup p1 p2 (fun z=>hx (r1.nil_iff.mp z)) (fun z=>⟨.ref a,H,I,rfl,q1 (r2.nil_iff.mp z)⟩) (fun z=>?_) (by rw [← r1.length,← r2.length];exact hz)
 refine⟨.ref s.heap.objs.size,_,I.laid (t':=s.toks) (o:=.tup (xs++ys)) (fun b ob q=>mr _ q) (Nat.le_refl _) ?_,rfl,q2 (fun w=>z (r2.nil_iff.mpr w)) _ (I.hok.fresh (Nat.le_refl _))⟩
 exact⟨by rw [my];exact hz,_,r1.append r2,IsTup.new _ _⟩
end
end L2
namespace L2
open PySem PySem.Spec PyProof.Rows
def ixN (n:Nat) (i:Int):Option Nat:=if 0≤i then (if i < n then some i.toNat else none) else if -(n:Int)≤i then some (i + n).toNat else none
def atI {α:Type} (xs:List α) (i:Int):Option α:=(ixN xs.length i).bind fun j=>xs[j]?
theorem ju {n:Nat} {i:Int} {j:Nat} (h:ixN n i=some j):seqIndex? i n=some j∧j < n∧-(n:Int)≤i∧i < n:=by
 unfold ixN at h
 by_cases h0:0≤i
 ·rw [if_pos h0] at h
  by_cases h1:i < n
  ·rw [if_pos h1] at h
   have e:i.toNat=j:=Option.some.inj h
   exact⟨by rw [seqIndex_of h0 h1,e],by omega,by omega,h1⟩
  ·rw [if_neg h1] at h;cases h
 ·rw [if_neg h0] at h
  by_cases h1:-(n:Int)≤i
  ·rw [if_pos h1] at h
   have e:(i + n).toNat=j:=Option.some.inj h
   exact⟨by rw [seqIndex_neg (by omega) h1,e],by omega,h1,by omega⟩
  ·rw [if_neg h1] at h;cases h
theorem dz {α:Type} {xs:List α} {i:Int} {v:α} (h:atI xs i=some v):∃ j,seqIndex? i xs.length=some j∧xs[j]?=some v∧j < xs.length∧-(xs.length:Int)≤i∧i < xs.length:=by
 unfold atI at h
 cases e:ixN xs.length i with
 | none=>rw [e] at h;cases h
 | some j =>
  rw [e] at h
  obtain ⟨h1,h2,h3,h4⟩:=ju e
  exact⟨j,h1,h,h2,h3,h4⟩
theorem gT {α:Type} (xs:List α) (v:α):atI (xs++[v]) (-1)=some v:=by
 have hl:(xs++[v]).length=xs.length + 1:=by simp
 have e:ixN (xs++[v]).length (-1)=some xs.length:=by
  unfold ixN
  rw [hl,if_neg (by decide),if_pos (by omega)]
  congr 1
  omega
 unfold atI
 rw [e]
 show (xs++[v])[xs.length]?=some v
 simp
def fA (b:Expr):Prop:=∀ o i,subscripted b false o i=operate [o,i] (getItem o i)
def IxR (X:Cx) (r:R2):Prop :=
 ∀ (value slice:Expr) (pins:List (Addr×Obj)) (s:Shared) (σ:St) (H:Hp) (x y:V) (v u:Value) (Q:VK),Inv X pins σ H s→RelV x v→RelV y u→r x y H Q →
  subscripted slice false v u=operate [v,u] (getItem v u)→wpAny (model X.prog X.w) X.A (subscriptTail value slice v u) (EP X pins σ Q) X.xe s
section
variable {X:Cx} {a b:Expr} {ta tb:TE} {pos:Pos}
theorem IxR.or {r r':R2} (h:IxR X r) (h':IxR X r'):IxR X (fun x y H Q=>r x y H Q∨r' x y H Q):=by
 intro value slice pins s σ H x y v u Q I rx ry q hs
 rcases q with q | q
 ·exact h value slice pins s σ H x y v u Q I rx ry q hs
 ·exact h' value slice pins s σ H x y v u Q I rx ry q hs
theorem mi {r:R2} (hr:IxR X r) (ha:PE X a ta) (hb:PE X b tb) (hs:fA b):PE X (.Subscript a b pos) (tOp r ta tb):=by
 intro pins s σ H Q I h
 exact Subscript_ (binT ha hb I h fun v u s2 x y H2 I2 rx ry q=>hr a b pins s2 σ H2 x y v u Q I2 rx ry q (hs _ _))
def rIxL (K:PySem.W.Frag):R2:=fun x y H Q=>∃ p xs i v,x=.ref p∧y=.int i∧SqL K H p xs∧atI xs i=some v∧Q v H
def rIxT (K:PySem.W.Frag):R2:=fun x y H Q=>∃ p xs i v,x=.ref p∧y=.int i∧SqT K H p xs∧atI xs i=some v∧Q v H
def rIxS:R2:=fun x y H Q=>∃ z i c,x=.str z∧y=.int i∧z.length≤sizeLine∧atI z.cps.toList i=some c∧Q (.str ⟨#[c]⟩) H
theorem io:IxR X (rIxL X.K):=by
 intro value slice pins s σ H x y v u Q I rx ry h hs
 obtain ⟨p,xs,i,z,rfl,rfl,hq,he,q⟩:=h
 cases rx
 obtain ⟨t,rfl⟩:=ry
 obtain ⟨its,r,pl,hz⟩:=I.list hq
 obtain ⟨j,h1,h2,h3,h4,h5⟩:=dz he
 obtain ⟨w,ew,rw'⟩:=r.get h2
 have hl:=r.length
 have hn:=d3
 have fin:EP X pins σ Q w s:=⟨z,H,I,rw',q⟩
 by_cases h0:0≤i
 ·have hj:i.toNat=j:=by
   rw [seqIndex_of h0 h5] at h1
   exact Option.some.inj h1
  exact item_listR pl.isList h0 (by omega) (by rw [hj];simpa using ew) fin hs
 ·have hj:(i + (its.toArray.size:Int)).toNat=j:=by
   rw [seqIndex_neg (by omega) h4] at h1
   rw [mE,← hl]
   exact Option.some.inj h1
  exact subscriptTail_builtinR (x:=w) pl.isList.typeIs slot_list_getitem.lookup
   (wpAny_getItem_list_neg (Q:=fun r s'=>r=w∧EP X pins σ Q r s') pl.isList (by omega) (by rw [mE]<;>omega) (by omega) (by rw [hj];simpa using ew) ⟨rfl,fin⟩) hs
theorem kL:IxR X (rIxT X.K):=by
 intro value slice pins s σ H x y v u Q I rx ry h hs
 obtain ⟨p,xs,i,z,rfl,rfl,hq,he,q⟩:=h
 cases rx
 obtain ⟨t,rfl⟩:=ry
 obtain ⟨its,r,pl,hz⟩:=I.tuple hq
 obtain ⟨j,h1,h2,h3,h4,h5⟩:=dz he
 obtain ⟨w,ew,rw'⟩:=r.get h2
 have hl:=r.length
 have hn:=d3
 have fin:EP X pins σ Q w s:=⟨z,H,I,rw',q⟩
 exact subscriptTail_builtinR (x:=w) pl.typeIs slot_tuple_getitem.lookup
  (getItem_tuple (j:=j) (Q:=fun r s'=>r=w∧EP X pins σ Q r s') pl (by omega) (by omega) (by rw [mE,← hl];exact h1) (by simpa using ew) ⟨rfl,fin⟩) hs
theorem ka:IxR X rIxS:=by
 intro value slice pins s σ H x y v u Q I rx ry h hs
 obtain ⟨z,i,c,rfl,rfl,hz,he,q⟩:=h
 obtain ⟨t,rfl⟩:=rx
 obtain ⟨t',rfl⟩:=ry
 obtain ⟨j,h1,h2,h3,h4,h5⟩:=dz he
 have hl:z.cps.toList.length=z.length:=by simp [Str.length]
 rw [hl] at h1 h4 h5
 have hn:=d3
 exact tail_any (typeIs_str s z t) slot_str_getitem.lookup (getItem_str (c:=c) (by
  have e1:decide (i < -(2 ^ 63:Int))=false:=decide_eq_false (by omega)
  have e2:decide (i ≥ 2 ^ 63)=false:=decide_eq_false (by omega)
  rw [e1,e2,Bool.or_false]) (by rw [h1];simpa using h2) ⟨.str ⟨#[c]⟩,H,I.tok _,⟨_,rfl⟩,q⟩) hs
def rIx (K:PySem.W.Frag):R2:=fun x y H Q=>rIxL K x y H Q∨rIxT K x y H Q∨rIxS x y H Q
theorem kZ:IxR X (rIx X.K):=io.or (kL.or ka)
theorem Inv.lst {pins:List (Addr×Obj)} {σ:St} {H:Hp} {s:Shared} {p:Addr} {xs:List V} (I:Inv X pins σ H s) (h:H p=some (.lst xs)) :
  ∃ (its:List Value) (n:Nat),Vals xs its∧s.heap.get? p=some { cls:=.type "list",data:=.seq its.toArray n }∧xs.length≤sizeLine:=by
 obtain ⟨z,its,n,r,e⟩:=I.hok p _ h
 exact⟨its,n,r,e,z⟩
theorem cL (lo hi:Option Int) (n:Nat):(sliceBounds lo hi none n).1=((HT.sIx n 0 lo:Nat):Int)∧(sliceBounds lo hi none n).2.1=((HT.sIx n n hi:Nat):Int)∧(sliceBounds lo hi none n).2.2=1:=by
 refine⟨?_,?_,rfl⟩
 ·cases lo with
  | none=>simp [sliceBounds,HT.sIx]
  | some i =>
   simp only [sliceBounds,HT.sIx,Option.getD_none,show (1:Int) > 0 by decide,if_true]
   by_cases h:i < 0
   ·simp only [h,if_true]<;>omega
   ·simp only [h,if_false]<;>omega
 ·cases hi with
  | none=>simp [sliceBounds,HT.sIx]
  | some i =>
   simp only [sliceBounds,HT.sIx,Option.getD_none,show (1:Int) > 0 by decide,if_true]
   by_cases h:i < 0
   ·simp only [h,if_true]<;>omega
   ·simp only [h,if_false]<;>omega
theorem cw (its:List Value) (lo hi:Option Int):slicePick its.toArray lo hi none=((its.drop (HT.sIx its.length 0 lo)).take (HT.sIx its.length its.length hi - HT.sIx its.length 0 lo)).toArray:=by
 obtain ⟨h1,h2,h3⟩:=cL lo hi its.toArray.size
 unfold slicePick
 rw [h1,h2,h3]
 simp only [sliceRange_one,pick_run,mE]<;>rfl
def rSlL (K:PySem.W.Frag):V→Option Int→Option Int→Hp→VK→Prop:=fun x lo hi H Q=>∃ a xs,x=.ref a∧SqL K H a xs∧∀ p,H p=none→Q (.ref p) (upd H p (.lst (cutV xs lo hi)))
theorem jx:SlR X (rSlL X.K):=by
 intro pins s σ H x v vl vu lo hi sl Q I rx hs pl pu h
 obtain ⟨a,xs,rfl,hx,q⟩:=h
 cases rx
 obtain ⟨its,r,ht,hz⟩:=I.list hx
 have hlen:=r.length
 refine⟨"list",_,slot_list_getitem.lookup,ht.isList.typeIs,?_⟩
 refine wpAny_getItem_list_slice ht.isList hs pl pu .none (by simp) ?_ (by rw [mE]<;>omega)
 rw [cw,← hlen]
 refine⟨.ref s.heap.objs.size,_,I.laid (t':=s.toks) (o:=.lst (cutV xs lo hi)) (fun b ob q=>mr _ q) (Nat.le_refl _) ?_,rfl,q _ (I.hok.fresh (Nat.le_refl _))⟩
 exact⟨mq (b4 xs lo hi) hz,_,0,(r.drop (HT.sIx xs.length 0 lo)).take (HT.sIx xs.length xs.length hi - HT.sIx xs.length 0 lo),mH _ rfl⟩
def kG:V→Bool
 | .non=>true
 | .bl _=>true
 | .int _=>true
 | .str _=>true
 | _=>false
def eqV:V→V→Bool
 | .non,.non=>true
 | .bl a,.bl b=>a == b
 | .bl a,.int b=>(if a then 1 else 0) == b
 | .int a,.bl b=>a == (if b then 1 else 0)
 | .int a,.int b=>a == b
 | .str a,.str b=>a == b
 | _,_=>false
theorem dR {A:Around} {s:Shared} {y x:V} {u v:Value} (ry:RelV y u) (rx:RelV x v) (fy:kG y=true) (fx:kG x=true):SeqAt.EqAt A s u v (eqV y x):=by
 cases y with
 | non =>
  cases ry
  cases x with
  | non=>cases rx;exact SeqAt.EqAt.same _
  | bl b=>cases rx;exact SeqAt.EqAt.none_bool b
  | int b=>obtain ⟨t,rfl⟩:=rx;exact SeqAt.EqAt.none_int b t
  | str b=>obtain ⟨t,rfl⟩:=rx;exact SeqAt.EqAt.none_str b t
  | _=>exact absurd (show false=true from fx) Bool.false_ne_true
 | bl a =>
  cases ry
  cases x with
  | non=>cases rx;exact SeqAt.EqAt.bool_none a
  | bl b=>cases rx;exact SeqAt.EqAt.bool_bool a b
  | int b=>obtain ⟨t,rfl⟩:=rx;exact SeqAt.EqAt.bool_int a b t
  | str b=>obtain ⟨t,rfl⟩:=rx;exact SeqAt.EqAt.bool_str a b t
  | _=>exact absurd (show false=true from fx) Bool.false_ne_true
 | int a =>
  obtain ⟨t',rfl⟩:=ry
  cases x with
  | non=>cases rx;exact SeqAt.EqAt.int_none a t'
  | bl b=>cases rx;exact SeqAt.EqAt.int_bool a t' b
  | int b=>obtain ⟨t,rfl⟩:=rx;exact SeqAt.EqAt.int_int a t' b t
  | str b=>obtain ⟨t,rfl⟩:=rx;exact SeqAt.EqAt.int_str a t' b t
  | _=>exact absurd (show false=true from fx) Bool.false_ne_true
 | str a =>
  obtain ⟨t',rfl⟩:=ry
  cases x with
  | non=>cases rx;exact SeqAt.EqAt.str_none a t'
  | bl b=>cases rx;exact SeqAt.EqAt.str_bool a t' b
  | int b=>obtain ⟨t,rfl⟩:=rx;exact SeqAt.EqAt.str_int a t' b t
  | str b=>obtain ⟨t,rfl⟩:=rx;exact SeqAt.EqAt.str_str a t' b t
  | _=>exact absurd (show false=true from fx) Bool.false_ne_true
 | _=>exact absurd (show false=true from fy) Bool.false_ne_true
theorem cQ:bm X (.builtin "len") (fun xs H Q=>∃ p ys,xs=[.ref p]∧(SqL X.K H p ys∨SqT X.K H p ys)∧Q (.int ys.length) H):=by
 intro pins s σ H xs us Q I r h
 obtain ⟨p,ys,rfl,hq,q⟩:=h
 obtain ⟨u,rfl,rx⟩:=ki r
 cases rx
 have hn:=d3
 rcases hq with hq | hq
 ·obtain ⟨its,r',pl,hz⟩:=I.list hq
  have hlen:=r'.length
  exact Calls.call_len_list pl.isList (by simp only [mE]<;>omega) ⟨.int ys.length,H,I.tok _,⟨s.toks + 1,by rw [mE,hlen]⟩,q⟩
 ·obtain ⟨its,r',pl,hz⟩:=I.tuple hq
  have hlen:=r'.length
  exact len_tuple pl (by simp only [mE]<;>omega) ⟨.int ys.length,H,I.tok _,⟨s.toks + 1,by rw [mE,hlen]⟩,q⟩
variable {o e:Expr} {es:List Expr} {to:TE} {t:TA} {name:Str} {apos cpos:Pos} {T id:String} {r:V→List V→Hp→VK→Prop}
end
end L2
namespace L2
open PySem PySem.Spec PyProof.Rows
def MtM (X:Cx) (id:String) (r:V→List V→Hp→VK→Prop):Prop :=
 ∀ (pins:List (Addr×Obj)) (s:Shared) (σ:St) (H:Hp) (x:V) (xs:List V) (v:Value) (us:List Value) (Q:VK),Inv X pins σ H s→RelV x v→Vals xs us→r x xs H Q →
  wpAny (model X.prog X.w) X.A (call (.builtin id) (v :: us)) (EP X pins σ Q) X.xe s
theorem Vals.one:∀ {x:V} {us:List Value},Vals [x] us→∃ u,us=[u]∧RelV x u
 | _,_,.cons r .nil=>⟨_,rfl,r⟩
section
variable {X:Cx} {pins:List (Addr×Obj)} {σ:St} {H:Hp} {s:Shared} {l b:Addr} {xs ys zs:List V}
theorem Inv.lset {its its':List Value} {n:Nat} {f:Array Value→Array Value} {t':Nat} (I:Inv X pins σ H s) (hH:H l=some (.lst xs))
  (e:s.heap.get? l=some { cls:=.type "list",data:=.seq its.toArray n }) (hf:f its.toArray=its'.toArray) (hv:Vals ys its') (hz:ys.length≤sizeLine) :
  Inv X pins σ (upd H l (.lst ys)) { s with heap:=s.heap.update l (Obj.mapSeq f),toks:=t' }:=by
 have q:=PySem.IsL.update e f
 rw [hf] at q
 refine I.write (x:=l) (e:=l) (by rw [hH];exact trivial) (.inl rfl) (fun b' u hb hu=>(Heap.get?_update_other s.heap (Obj.mapSeq f) (Ne.symm hb)).trans hu) ⟨_,q⟩ ?_
 exact⟨hz,its',_,hv,q⟩
theorem Inv.lnew {its:List Value} {t':Nat} (I:Inv X pins σ H s) (hv:Vals ys its) (hz:ys.length≤sizeLine) :
  Inv X pins σ (upd H s.heap.objs.size (.lst ys)) { s with heap:=s.heap.push { cls:=.type "list",data:=.seq its.toArray },toks:=t' } :=
 I.laid (fun _ _ q=>mr _ q) (Nat.le_refl _) ⟨hz,its,0,hv,mH _ rfl⟩
theorem Inv.fresh (I:Inv X pins σ H s):H s.heap.objs.size=none:=I.hok.fresh (Nat.le_refl _)
theorem Inv.lstM (I:Inv X pins σ H s) (hH:H l=some (.lst xs)):xs.length≤sizeLine∧∃ (its:List Value) (n:Nat),Vals xs its∧xs.length=its.length∧s.heap.get? l=some { cls:=.type "list",data:=.seq its.toArray n }:=by
 obtain ⟨z,its,n,r,e⟩:=I.hok l _ hH
 exact⟨z,its,n,r,r.length,e⟩
theorem g6 {n:Nat} (h:n≤sizeLine):Builtin.List.listTooLong n=false:=by
 unfold Builtin.List.listTooLong
 exact decide_eq_false (by omega)
end
section
variable {X:Cx}
def iM:V→List V→Hp→VK→Prop:=fun x vs H Q=>∃ l b xs zs,x=.ref l∧vs=[.ref b]∧H l=some (.lst xs)∧H b=some (.lst zs)∧xs.length + zs.length≤sizeLine∧Q .non (upd H l (.lst (xs++zs)))
theorem mt_extend:MtM X "list.extend" iM:=by
 intro pins s σ H x vs v us Q I rx rv h
 obtain ⟨l,b,xs,zs,rfl,rfl,hH,hB,hz,q⟩:=h
 cases rx
 obtain ⟨u,rfl,ru⟩:=rv.one
 cases ru
 obtain ⟨z,its,n,r,hl,e⟩:=I.lstM hH
 obtain ⟨z2,its2,n2,r2,hl2,e2⟩:=I.lstM hB
 have hsz:its.toArray.size + its2.toArray.size≤sizeLine:=by rw [mE,mE];omega
 have hlong:¬ (!its.toArray.isEmpty && Builtin.List.listTooLong (its.toArray.size + its2.toArray.size))=true:=by
  rw [g6 hsz,Bool.and_false]
  exact Bool.false_ne_true
 refine call_meets F.slot_list_extend ⟨_,e,rfl⟩ F.entry_list_extend (F.args_list_extend_2 _ _)
  (AutoSeq1.list_extend_list_list_0 l its.toArray n b its2.toArray n2 hlong (by rw [mE];omega) (by omega)) ⟨e,e2,?_⟩
 refine⟨.non,_,I.lset (its':=its++its2) hH e (by simp) (r.append r2) ?_,rfl,q⟩
 rw [my]
 omega
def rCat:R2:=fun x y H Q=>∃ l b xs zs,x=.ref l∧y=.ref b∧H l=some (.lst xs)∧H b=some (.lst zs)∧xs.length + zs.length≤sizeLine∧∀ p,H p=none→Q (.ref p) (upd H p (.lst (xs++zs)))
theorem k8:OpR X (binaryOp .Add) rCat:=by
 intro pins s σ H x y v u Q I rx ry h
 obtain ⟨l,b,xs,zs,rfl,rfl,hH,hB,hz,q⟩:=h
 cases rx
 cases ry
 obtain ⟨z,its,n,r,hl,e⟩:=I.lstM hH
 obtain ⟨z2,its2,n2,r2,hl2,e2⟩:=I.lstM hB
 refine PySem.P.add_list e e2 ?_ (by rw [mE,mE];omega)
 have ea:its.toArray++its2.toArray=(its++its2).toArray:=by simp
 rw [ea]
 exact⟨.ref _,_,I.lnew (t':=s.toks) (r.append r2) (by rw [my];omega),rfl,q _ I.fresh⟩
end
section
variable {prog:Program} {w:World} {A:Around} {E:Value→Shared→Prop} {s:Shared}
set_option maxRecDepth 100000 in
end
section
variable {X:Cx}
end
end L2
namespace L2
open PySem PySem.Spec PyProof.Rows
section
variable {κ:Type} [DecidableEq κ]
def valV (kvs:List (κ×V)) (k:κ):Option V:=(kvs.find? fun kv=>decide (kv.1=k)).map (·.2)
def putK (kvs:List (κ×V)) (k:κ) (v:V):List (κ×V) :=
 if (kvs.any fun kv=>decide (kv.1=k))=true then kvs.map (fun kv=>if kv.1=k then (kv.1,v) else kv) else kvs++[(k,v)]
theorem dY {p:κ×V} {r:List (κ×V)} {k:κ} (e:p.1=k):valV (p :: r) k=some p.2:=by simp [valV,List.find?_cons,e]
theorem d4 {p:κ×V} {r:List (κ×V)} {k:κ} (e:¬ p.1=k):valV (p :: r) k=valV r k:=by simp [valV,List.find?_cons,e]
theorem RelO.isSome_eq {o:Option V} {u:Option Value} (r:RelO o u):o.isSome=u.isSome:=by
 cases o with
 | none=>cases u with
  | none=>rfl
  | some _=>exact (show False from r).elim
 | some _=>cases u with
  | none=>exact (show False from r).elim
  | some _=>rfl
theorem RelO.getD {o:Option V} {u:Option Value} {d:V} {d':Value} (r:RelO o u) (rd:RelV d d'):RelV (o.getD d) (u.getD d'):=by
 cases o with
 | none=>cases u with
  | none=>exact rd
  | some _=>exact (show False from r).elim
 | some _=>cases u with
  | none=>exact (show False from r).elim
  | some _=>exact r
theorem KV.val {kvs:List (κ×V)} {vs:List (κ×Value)} (r:KV kvs vs) (k:κ):RelO (valV kvs k) (valueAt vs k):=by
 unfold KV at r
 induction r with
 | nil=>exact True.intro
 | @cons p q ps qs h t ih =>
  obtain ⟨h1,h2⟩:=h
  by_cases e:p.1=k
  ·have e':q.1=k:=h1.symm.trans e
   have b:valueAt (q :: qs) k=some q.2:=by simp [valueAt,List.find?_cons,e']
   rw [dY e,b];exact h2
  ·have e':¬ q.1=k:=fun z=>e (h1.trans z)
   have b:valueAt (q :: qs) k=valueAt qs k:=by simp [valueAt,List.find?_cons,e']
   rw [d4 e,b];exact ih
theorem KV.length {kvs:List (κ×V)} {vs:List (κ×Value)} (r:KV kvs vs):kvs.length=vs.length:=Paired.length r
end
theorem j7 {P:Program} {w:World} {k:Key} {u:Value} (r:RelV (kV k) u):(aU P w).is k u=true:=by
 cases k with
 | inl i=>obtain ⟨t,e⟩:=(show ∃ t,u=Value.int i t from r);subst e;exact cW P w i t
 | inr x=>obtain ⟨t,e⟩:=(show ∃ t,u=Value.str x t from r);subst e;exact dB P w x t
theorem cK {P:Program} {w:World}:∀ {ks:List Key} {us:List Value},Vals (ks.map kV) us→ItemsAre (aU P w) ks us
 | [],_,r=>by rw [List.map_nil] at r;cases r;exact .nil
 | k :: ks,_,r=>by
  rw [List.map_cons] at r
  cases r with
  | cons h t=>exact .cons (j7 h) (cK t)
abbrev KT (H:Hp):List (List Key×V)→List (List Key×Addr×Value)→Prop:=Paired fun p q=>p.1=q.1∧H q.2.1=some (.tup (p.1.map kV))∧RelV p.2 q.2.2
theorem KT.val {H:Hp} {kvs:List (List Key×V)} {xs:List (List Key×Addr×Value)} (r:KT H kvs xs) (k:List Key):RelO (valV kvs k) ((atKey xs k).map (·.2)):=by
 induction r with
 | nil=>exact True.intro
 | @cons p q ps qs h t ih =>
  obtain ⟨h1,_,h2⟩:=h
  by_cases e:p.1=k
  ·have e':q.1=k:=h1.symm.trans e
   have b:atKey (q :: qs) k=some q.2:=by simp [atKey,List.find?_cons,e']
   rw [dY e,b];exact h2
  ·have e':¬ q.1=k:=fun z=>e (h1.trans z)
   have b:atKey (q :: qs) k=atKey qs k:=by simp [atKey,List.find?_cons,e']
   rw [d4 e,b];exact ih
theorem KT.keeps {H H':Hp} {kvs:List (List Key×V)} {xs:List (List Key×Addr×Value)} (r:KT H kvs xs) (ht:∀ b ys,H b=some (.tup ys)→H' b=some (.tup ys)):KT H' kvs xs :=
 Paired.mapP r fun _ _ z=>⟨z.1,ht _ _ z.2.1,z.2.2⟩
section
variable {P:Program} {w:World} {H:Hp} {h:Heap} {a:Addr}
theorem kh {u:HO} (ok:HOk P w H h) (e:Rd H a u):aW P w H h a u:=e.ok ok
theorem lZ {kvs:List (Key×V)} (ok:HOk P w H h) (e:Rd H a (.dK kvs)):kvs.length≤sizeLine∧(a == sysModules)=false∧∃ vs,KV kvs vs∧h.DictOf (aU P w) a vs :=
 show aW P w H h a (.dK kvs) from kh ok e
theorem hJ {ks:List Key} (ok:HOk P w H h) (e:H a=some (.tup (ks.map kV))):(tupleKind (aU P w)).is h ks a:=by
 obtain ⟨_,its,r,o,h1,h2,n,h3⟩:=(show aW P w H h a (.tup (ks.map kV)) from ok a _ e)
 exact⟨o,its.toArray,n,h1,h2,h3,by simpa using cK r⟩
theorem l5 {kvs:List (List Key×V)} (ok:HOk P w H h) (e:Rd H a (.dT kvs)):kvs.length≤sizeLine∧(a == sysModules)=false ∧
  ∃ xs,KT H kvs xs∧h.DictOfH (tupleKind (aU P w)) a xs:=by
 obtain ⟨z,y,xs,r,o,es,ep,h1,h2,h3,h4,h5⟩:=(show aW P w H h a (.dT kvs) from kh ok e)
 refine⟨z,y,xs,r,o,es,ep,h1,h2,h3,h4,fun x hx=>?_,h5⟩
 have all:∀ {l:List (List Key×V)} {m:List (List Key×Addr×Value)},KT H l m→∀ x∈m,(tupleKind (aU P w)).is h x.1 x.2.1:=by
  intro l m q
  induction q with
  | nil=>intro x hx;exact nomatch hx
  | @cons p q ps qs hq t ih =>
   intro x hx
   rcases mv.mp hx with e | hx
   ·subst e
    exact hJ ok (by rw [← hq.1];exact hq.2.1)
   ·exact ih x hx
 exact all r x hx
end
def DGet (H:Hp) (a:Addr) (y:V) (r:Option V):Prop :=
 (∃ kvs k,Rd H a (.dK kvs)∧y=kV k∧r=valV kvs k)∨∃ kvs k b,Rd H a (.dT kvs)∧y=.ref b∧H b=some (.tup (k.map kV))∧r=valV kvs k
def DPut (H:Hp) (a:Addr) (y v:V) (H':Hp):Prop :=
 (∃ kvs k,H a=some (.dK kvs)∧y=kV k∧kvs.length < sizeLine∧H'=upd H a (.dK (putK kvs k v))) ∨
 ∃ kvs k b,H a=some (.dT kvs)∧y=.ref b∧H b=some (.tup (k.map kV))∧kvs.length < sizeLine∧H'=upd H a (.dT (putK kvs k v))
theorem DGet.t {H:Hp} {a b:Addr} {kvs:List (List Key×V)} {k:List Key} (e:H a=some (.dT kvs)) (eb:H b=some (.tup (k.map kV))):DGet H a (.ref b) (valV kvs k):=.inr ⟨kvs,k,b,.inl e,rfl,eb,rfl⟩
theorem DPut.t {H:Hp} {a b:Addr} {kvs:List (List Key×V)} {k:List Key} {v:V} (e:H a=some (.dT kvs)) (eb:H b=some (.tup (k.map kV))) (hl:kvs.length < sizeLine) :
  DPut H a (.ref b) v (upd H a (.dT (putK kvs k v))):=.inr ⟨kvs,k,b,e,rfl,eb,hl,rfl⟩
section
variable {X:Cx} {pins:List (Addr×Obj)} {σ:St} {H:Hp} {s:Shared} {a:Addr} {y v:V} {u r:Value} {o:Option V} {A:Around} {E:Value→Shared→Prop}
theorem d_in {Q:Value→Shared→Prop} (hu:A.units + 1 < cLine) (I:Inv X pins σ H s) (g:DGet H a y o) (ry:RelV y u) (h:∀ s',Inv X pins σ H s'→Q (.bool o.isSome) s') :
  wpAny (model X.prog X.w) A (compareOp .In u (.ref a)) Q E s:=by
 rcases g with ⟨kvs,k,e,ey,l⟩ | ⟨kvs,k,b,e,ey,eb,l⟩
 ·subst ey
  obtain ⟨z,hd,vs,rel,dd⟩:=lZ I.hok e
  refine wpAny_in_of (j7 ry) hd dd.mapOf ?_
  rw [← (rel.val k).isSome_eq,← l]
  exact h _ (I.tok _)
 ·subst ey
  cases (show u=Value.ref b from ry)
  obtain ⟨z,hd,xs,rel,dd⟩:=l5 I.hok e
  refine wpAny_in_heap (tupleKind_room_in1 hu) (hJ I.hok eb) hd dd ?_
  have q:=(rel.val k).isSome_eq
  rw [Option.isSome_map] at q
  rw [← q,← l]
  exact h _ (I.tok _)
end
section
variable {X:Cx} {pins:List (Addr×Obj)} {σ:St} {H:Hp} {s:Shared} {a:Addr} {kvs:List (Key×V)} {k:Key} {u:Value} {A:Around} {E:Value→Shared→Prop}
end
section
variable {X:Cx} {o i e value:Expr} {pos pos' tpos:Pos} {td ty tv:TE}
end
section
variable {X:Cx} {pos:Pos}
end
section
variable {X:Cx} {pins:List (Addr×Obj)} {σ:St} {H:Hp} {s:Shared} {a:Addr} {y d:V} {u r:Value} {o:Option V} {A:Around} {E:Value→Shared→Prop}
end
section
variable {X:Cx} {o e f:Expr} {apos cpos:Pos} {td ty tx:TE}
end
section
variable {X:Cx} {pins:List (Addr×Obj)} {σ:St} {H:Hp} {s:Shared} {a:Addr} {kvs:List (Key×V)} {A:Around} {E:Value→Shared→Prop}
end
section
variable {X:Cx} {pins:List (Addr×Obj)} {σ:St} {H:Hp} {s:Shared} {a:Addr} {y:V} {u:Value} {A:Around} {E:Value→Shared→Prop}
end
end L2
namespace Att
open PySem PySem.W PySem.Calls PyProof.Rows
theorem bT {P:Params} {h:Heap}:∀ (ns:List Int) (vs:List Value),WellAll P h vs (ns.map WData.int)→IntsAre vs ns:=by
 intro ns
 induction ns with
 | nil =>
  intro vs w
  rw [List.map_nil] at w
  cases w
  exact .nil
 | cons n ns ih =>
  intro vs w
  rw [List.map_cons] at w
  cases w with
  | cons a b =>
   cases a
   exact .cons _ _ (ih _ b)
theorem script_of {l:OpenLaw} {n:Nat} (hn:l.most=some n) {P:Params} {h:Heap} {args:List WData} {vals:List Value}
  (hpre:l.row.toRowW.claim.pre args=true) (hwl:WellAll P h vals args) :
  ∃ a vs ns,vals=[Value.ref a]∧args=[WData.list (ns.map WData.int)]∧h.get? a=some { cls:=.type "list",data:=.seq vs.toArray }∧IntsAre vs ns∧ns.length≤n:=by
 have hsh:WShape.hasAll [] args [.list .int]=true:=(pre_splitW hpre).1
 have hc:l.pre.holds [] { args:=args }=true:=(pre_splitW hpre).2
 obtain ⟨d,r,rfl,h1,h2⟩:=hasAllW_cons hsh
 obtain rfl:=hasAllW_nil h2
 obtain ⟨xs,rfl,h3⟩:=hasW_list h1
 obtain ⟨ns,rfl⟩:=items_int h3
 have hlen:ns.length≤n:=by
  unfold OpenLaw.pre at hc
  have h4:(WTm.not (.lt (.lit (.int (n:Int))) (.len (.arg 0)))).holds [] { args:=[.list (ns.map .int)] }=true:=by
   have h4:=(holds_andW hc).1
   rw [hn] at h4
   exact h4
  have h5:=condW_of h4 (w_not (w_lt w_lit (w_len_list (w_arg rfl))))
  rw [mn] at h5
  refine Nat.le_of_not_lt fun q=>?_
  have q':(n:Int) < ((ns.length:Nat):Int):=by omega
  first
   | (rw [decide_eq_true q'] at h5;exact absurd h5 (by decide))
   | (simp at h5;omega)
 cases hwl with
 | cons w1 w2 =>
  cases w2
  cases w1 with
  | list ho hall=>exact⟨_,_,ns,rfl,rfl,ho,bT ns _ hall,hlen⟩
theorem post_true (l:OpenLaw) (args:List WData):l.row.toRowW.claim.post args (.bool true) args=true :=
 postW_of (r:=l.row.toRowW) (X:=(true == true))
  (show WShape.has [] (.bool true) .bool=true by first | rfl | decide | simp [WShape.has,WShape.arms,WShape.armsAll])
  (show (WTm.eq .res (.lit (.bool true))).value [] { args:=args,res:=some (.bool true),after:=args }=some (.bool (true == true)) from w_eq_bool (w_res rfl) w_lit) rfl
section
variable {prog:Program} {w:World} {A:Around} {E:Value→Shared→Prop} {s:Shared} {K:Frag}
end
end Att
namespace L2
open PySem PySem.Spec PyProof.Rows
theorem cF:∀ {vs:List Value} {ns:List Int},IntsAre vs ns→Vals (ns.map V.int) vs
 | _,_,.nil=>.nil
 | _,_,.cons n t h=>.cons ⟨t,rfl⟩ (cF h)
def Only (H:Hp):Prop:=∀ b,H b=none∨∃ o xs,H b=some (.frz o (.lst xs))
theorem g4 {P:Program} {w:World} {K:PySem.W.Frag} {mg mb:Str→Option Value} {CX:CXT} {k:Nat} {fa a:Addr} {fd:FuncData} {x:Str} {sp:Sp} {s₁:Shared} {vs:List Value} {ns:List Int}
  (KX:K.In s₁.heap) (hns:s₁.heap.Ns mainGlobals mg) (hb:s₁.heap.Ns builtinsNs mb) (hbb:∀ x:Str,x≠"__name__"→mb x=bootBuiltins x) (hlim:s₁.heap.NoLimit) (hg:s₁.gens=#[])
  (ha:s₁.heap.get? a=some { cls:=.type "list",data:=.seq vs.toArray }) (hi:IntsAre vs ns) (hl:ns.length≤sizeLine) (hr:Room k callerA)
  (F:∀ base:Heap,K.In base→base.Ns mainGlobals mg→FnOk P w K mg base CX k fa fd [x] sp) (hbind:∀ (s:Shared) (u:Value),BindsTo s fd ⟨[u],[]⟩ [(x,u)])
  (hsp:∀ H:Hp,Only H→SqL K H a (ns.map V.int)→sp [.ref a] H (fun v _=>v=.bl true) fun _ _ _=>False)
  (hCX:∀ H e s',CX [] H s₁ (fun _ _ _=>False) e s'→False) :
  codeAny (model P w) callerA (.call (.ref fa) ⟨[.ref a],[]⟩) (fun r s'=>r=.ok (.ret (.bool true))∧OldK s₁.heap s'.heap∧s'.os=s₁.os∧AllBare s'.gens) s₁:=by
 have rv:=cF hi
 have lenV:=hi.length
 have core:∀ H:Hp,Only H→SqL K H a (ns.map V.int)→HOk P w H s₁.heap→(∀ b,H b≠none→b=a)→(H a≠none→K.lookup a=none) →
   codeAny (model P w) callerA (.call (.ref fa) ⟨[.ref a],[]⟩) (fun r s'=>r=.ok (.ret (.bool true))∧OldK s₁.heap s'.heap∧s'.os=s₁.os∧AllBare s'.gens) s₁:=by
  intro H hO hS hok hA hK
  have base_of:∀ {b:Addr} {o:Obj},s₁.heap.get? b=some o→H b=none→(hidT s₁.heap H).get? b=some o:=fun e n=>gB e n
  have noA:∀ {b:Addr} {o:Obj} {es:Array DictEntry} {ep:Nat},s₁.heap.get? b=some o→o.data=.dict es ep→H b=none:=fun {b o es ep} e d=>by
   cases q:H b with
   | none=>rfl
   | some u =>
    have e':b=a:=hA b (by rw [q];simp)
    subst e'
    rw [ha] at e;cases e
    have d':Data.seq vs.toArray _=Data.dict es ep:=d
    cases d'
  have nsK:∀ {b:Addr} {m:Str→Option Value},s₁.heap.Ns b m→(hidT s₁.heap H).Ns b m:=fun {b m} ⟨o,es,ep,e,d,r⟩=>⟨o,es,ep,base_of e (noA e d),d,r⟩
  have hKb:K.In (hidT s₁.heap H):=fun b o e=>base_of (KX b o e) (by
   cases q:H b with
   | none=>rfl
   | some u =>
    have e':b=a:=hA b (by rw [q];simp)
    subst e'
    rw [hK (by rw [q];simp)] at e;cases e)
  have hM:Mod K mg (hidT s₁.heap H):=⟨hKb,nsK hns,⟨mb,nsK hb,hbb⟩,let ⟨mc,h1,h2⟩:=hlim;⟨mc,nsK h1,h2⟩⟩
  have e0:Env0 P w K mg (hidT s₁.heap H) callerA [] s₁ H:=⟨rfl,hM,fun b o e=>iI e,Nat.le_of_eq (f7 _ _),trivial,fun b hb=>absurd (show b∈([]:List Addr) from hb) (by simp),hok,.of_eq hg⟩
  refine codeAny_mono ((F _ hKb (nsK hns)).run callerA [] s₁ H ⟨[.ref a],[]⟩ [.ref a] [.ref a] _ _ hr e0 (hbind s₁ (.ref a)) (.cons rfl .nil) (hsp H hO hS)) fun r s' h=>?_
  cases r with
  | error e=>exact (hCX H e s' h).elim
  | ok fl =>
   cases fl with
   | next=>exact False.elim h
   | brk=>exact False.elim h
   | cont=>exact False.elim h
   | ret u =>
    obtain ⟨v,H',os,bare,un,hok',r',q⟩:=h
    have q':v=.bl true:=q
    subst q'
    obtain rfl:u=Value.bool true:=r'
    refine⟨rfl,OldK.of_keep fun b o e=>?_,os,bare⟩
    cases q:H b with
    | none=>exact un.keep b o e q (by intro z;exact absurd (show b∈([]:List Addr) from z) (by simp)) (by simp)
    | some u =>
     rcases hO b with z | ⟨ob,xs,z⟩
     ·rw [q] at z;cases z
     ·have z2:=un.frzs b ob _ z
      obtain ⟨e1,_⟩:=hok b _ z
      obtain ⟨e2,_⟩:=hok' b _ z2
      rw [e] at e1;cases e1
      exact e2
 cases hk:K.lookup a with
 | some o =>
  have e:=KX a o hk
  rw [ha] at e
  cases e
  refine core (fun _=>none) (fun _=>.inl rfl) (.inr ⟨_,vs.toArray,_,hk,rfl,rfl,rfl,by rw [mE,lenV];exact hl,by simpa using rv⟩) (fun b u z=>by have z':(none:Option HO)=some u:=z;cases z') (fun b z=>absurd rfl z) fun z=>absurd rfl z
 | none =>
  refine core (fun b=>if b=a then some (.frz { cls:=.type "list",data:=.seq vs.toArray } (.lst (ns.map V.int))) else none) (fun b=>?_) (.inl (.inr ⟨{ cls:=.type "list",data:=.seq vs.toArray },if_pos rfl⟩)) (fun b u z=>?_) (fun b z=>?_) fun _=>hk
  ·by_cases hb:b=a
   ·exact .inr ⟨_,_,if_pos hb⟩
   ·exact .inl (if_neg hb)
  ·by_cases hb:b=a
   ·have z':=(if_pos hb).symm.trans z
    cases z'
    subst hb
    exact⟨ha,by rw [mn];exact hl,vs,_,rv,ha⟩
   ·have z':=(if_neg hb).symm.trans z
    cases z'
  ·by_cases hb:b=a
   ·exact hb
   ·exact absurd (if_neg hb) z
end L2
namespace L2
open PySem PySem.Spec PyProof.Rows
end L2
namespace L2
open PySem PySem.Spec PyProof.Rows
abbrev CX0:CXT:=fun _ _ _ _ _ _=>False
abbrev E0:XK:=fun _ _ _=>False
theorem lV {X:Cx}:dP CX0 X E0:=fun _ _ _ _ _ _ _ h=>h.elim
structure Fun (K:PySem.W.Frag) (x qual:Str) (st:Stmt) (f:Addr) (fd:FuncData):Prop where
 ex:∃ (oc:Value) (od:Option Addr) (kV doc pm:Value) (an:Option Addr) (cdv ct:Value) (osl:Array (Option Value)),
  fd=PySem.W.fnOf x qual (aD st) (au st) (ae st) .none kV doc pm an cdv ct∧K.lookup f=some ⟨oc,od,.func fd,osl⟩∧PySem.W.codeIn K cdv qual=true
 kp:PySem.W.keepIn K (.ref f)=true
section
variable {P:Program} {w:World} {K:PySem.W.Frag} {mg:Str→Option Value} {base:Heap}
theorem Fun.ok {x qual:Str} {st:Stmt} {f:Addr} {fd:FuncData} {N ps:List Str} {k:Nat} {sp:Sp} (F:Fun K x qual st f fd) (S:aw N ps (ae st)) (len:∀ vs H Q E,sp vs H Q E→vs.length=ps.length)
    (hbody:∀ (cdv:Value) (A:Around) (outer:List Env) (s:Shared) (H:Hp) (vs:List V) (Q:VK) (E:XK),Room k (A.deeper (envOfC qual (ae st) s.heap.objs.size f cdv))→sp vs H Q E →
      ∃ t,PSs (cxOf CX0 P w K mg base N qual (ae st) f cdv A outer s H E).nox (au st) t∧t { nx:=fun _ H'=>Q .non H',rt:=Q } (start N vs) H):FnOk P w K mg base CX0 (k + 1) f fd ps sp:=by
  obtain ⟨oc,od,kV,doc,pm,an,cdv,ct,osl,rfl,lk,hcd⟩:=F.ex
  refine lj lk hcd S len fun A outer s H vs Q E hr hsp=>?_
  obtain ⟨t,h,q⟩:=hbody cdv A outer s H vs Q E hr hsp
  exact⟨t,h.nox,q⟩
theorem Fun.binds {x qual:Str} {st:Stmt} {f:Addr} {fd:FuncData} {ps:List Str} (F:Fun K x qual st f fd)
  (h:∀ (kV doc pm:Value) (an:Option Addr) (cdv ct:Value) (us:List Value),us.length=ps.length→bindArgs (PySem.W.fnOf x qual (aD st) (au st) (ae st) .none kV doc pm an cdv ct) ⟨us,[]⟩=pure (ps.zip us)):bi K fd ps []:=by
 obtain ⟨oc,od,kV,doc,pm,an,cdv,ct,osl,rfl,lk,hcd⟩:=F.ex
 exact .all (h kV doc pm an cdv ct)
theorem hZ {x qual:Str} {st:Stmt} {f:Addr} {oc:Value} {od an:Option Addr} {osl:Array (Option Value)} {kV doc pm cdv ct:Value} (l:K.lookup f=some ⟨oc,od,.func (PySem.W.fnOf x qual (aD st) (au st) (ae st) .none kV doc pm an cdv ct),osl⟩)
  (c:PySem.W.codeIn K cdv qual=true) (k:PySem.W.keepIn K (.ref f)=true):Fun K x qual st f (PySem.W.fnOf x qual (aD st) (au st) (ae st) .none kV doc pm an cdv ct):=⟨⟨oc,od,kV,doc,pm,an,cdv,ct,osl,rfl,l,c⟩,k⟩
end
section
variable {X:Cx}
end
theorem ite2 {c A B:Prop} [Decidable c] (h1:c→A) (h2:¬ c→B):if c then A else B:=by
 by_cases h:c
 ·rw [if_pos h]
  exact h1 h
 ·rw [if_neg h]
  exact h2 h
def Same (H H':Hp):Prop:=∀ b o,H b=some o→H' b=some o
theorem Same.refl (H:Hp):Same H H:=fun _ _ h=>h
theorem Same.trans {H H1 H2:Hp} (a:Same H H1) (b:Same H1 H2):Same H H2:=fun c o h=>b c o (a c o h)
section
variable {κ:Type} [DecidableEq κ]
end
end L2
namespace DL
open PySem L2
inductive D where
 | non | bl (b:Bool) | int (i:Int) | str (x:Str)
 | tup (xs:List D) | lst (xs:List D) | fz (xs:List D) | dct (ks:List Str) (vs:List D) | fd (ks:List Str) (vs:List D) | fo (o:Obj) (ks:List Str) (vs:List D) | exn (c f:Str) (x:D)
abbrev xob (C:Addr) (dx:Option Addr) (a t:Value):Obj:={ cls:=.ref C,dict:=dx,data:=.fields #[a,t,.none,.none,.bool false,.none] }
def XAt (e C dx:Addr):HO:=.ext fun h=>∃ a t,h.get? e=some (xob C (some dx) a t)
def XNew (e C dx:Addr):HO:=.ext fun h=>∃ a,h.get? e=some (xob C (some dx) a .none)
structure XRep (K:PySem.W.Frag) (M:Addr→Prop) (H:Hp) (c f:Str) (v y:V):Prop where
 ex:∃ e C dx,v=.ref e∧¬ M e∧¬ M dx∧(H e=some (XAt e C dx)∨H e=some (XNew e C dx))∧H dx=some (.xd [(f,y)])∧PySem.W.nsIn K mainGlobals c=some (some (.ref C))
def gr (ks:List Str) (vs:List V):List (Key×V):=(ks.map Sum.inr).zip vs
def H0:Hp:=fun _=>none
def FzAt (K:PySem.W.Frag) (H:Hp) (a:Addr) (vs:List V):Prop:=(∃ o,H a=some (.frz o (.lst vs)))∨SqL K H0 a vs
mutual
def Rep (K:PySem.W.Frag) (M:Addr→Prop) (H:Hp):D→V→Prop
 | .non,v=>v=.non
 | .bl b,v=>v=.bl b
 | .int i,v=>v=.int i
 | .str x,v=>v=.str x
 | .tup ds,v=>∃ a vs,v=.ref a∧SqT K H a vs∧Reps K M H ds vs
 | .lst ds,v=>∃ a vs,v=.ref a∧¬ M a∧H a=some (.lst vs)∧Reps K M H ds vs
 | .fz ds,v=>∃ a vs,v=.ref a∧FzAt K H a vs∧Reps K M H ds vs
 | .dct ks ds,v=>∃ a vs,v=.ref a∧¬ M a∧H a=some (.dK (gr ks vs))∧ks.length=ds.length∧Reps K M H ds vs
 | .fd ks ds,v=>∃ a vs o,v=.ref a∧H a=some (.frz o (.dK (gr ks vs)))∧ks.length=ds.length∧Reps K M H ds vs
 | .fo o ks ds,v=>∃ a vs,v=.ref a∧H a=some (.frz o (.dK (gr ks vs)))∧ks.length=ds.length∧Reps K M H ds vs
 | .exn c f d,v=>∃ y,XRep K M H c f v y∧Rep K M H d y
def Reps (K:PySem.W.Frag) (M:Addr→Prop) (H:Hp):List D→List V→Prop
 | [],vs=>vs=[]
 | d :: ds,vs=>∃ v r,vs=v :: r∧Rep K M H d v∧Reps K M H ds r
end
structure Kp (M:Addr→Prop) (H H':Hp):Prop where
 un:∀ b o,H b=some o→¬ M b→H' b=some o
 tu:∀ b xs,H b=some (.tup xs)→H' b=some (.tup xs)
 fr:∀ b o u,H b=some (.frz o u)→H' b=some (.frz o u)
theorem Kp.of_same {M:Addr→Prop} {H H':Hp} (h:Same H H'):Kp M H H':=⟨fun b o e _=>h b o e,fun b xs e=>h b _ e,fun b o u e=>h b _ e⟩
section
variable {K:PySem.W.Frag} {M M':Addr→Prop} {H H':Hp}
theorem SqT.kp {a:Addr} {vs:List V} (k:Kp M H H') (h:SqT K H a vs):SqT K H' a vs:=by
 rcases h with (h | ⟨o,h⟩) | h
 ·exact .inl (.inl (k.tu _ _ h))
 ·exact .inl (.inr ⟨o,k.fr _ _ _ h⟩)
 ·exact .inr h
theorem FzAt.kp {a:Addr} {vs:List V} (k:Kp M H H') (h:FzAt K H a vs):FzAt K H' a vs:=by
 rcases h with ⟨o,h⟩ | h
 ·exact .inl ⟨o,k.fr _ _ _ h⟩
 ·exact .inr h
theorem FzAt.seq {a:Addr} {vs:List V} (h:FzAt K H a vs):SqL K H a vs:=by
 rcases h with ⟨o,h⟩ | (h | ⟨o,h⟩) | h
 ·exact .inl (.inr ⟨o,h⟩)
 ·cases h
 ·cases h
 ·exact .inr h
theorem XRep.kp {c f:Str} {v y:V} (k:Kp M H H') (h:XRep K M H c f v y):XRep K M H' c f v y:=by
 obtain ⟨e,C,dx,rfl,n1,n2,h1,h2,h3⟩:=h.ex
 exact⟨⟨e,C,dx,rfl,n1,n2,h1.imp (fun z=>k.un _ _ z n1) (fun z=>k.un _ _ z n1),k.un _ _ h2 n2,h3⟩⟩
theorem XRep.more {c f:Str} {v y:V} (hM:∀ b,M' b→M b∨H b=none) (h:XRep K M H c f v y):XRep K M' H c f v y:=by
 obtain ⟨e,C,dx,rfl,n1,n2,h1,h2,h3⟩:=h.ex
 refine⟨⟨e,C,dx,rfl,fun z=>(hM _ z).elim n1 fun q=>?_,fun z=>(hM _ z).elim n2 (fun q=>by rw [h2] at q;cases q),h1,h2,h3⟩⟩
 rcases h1 with h1 | h1<;>(rw [h1] at q;cases q)
mutual
theorem Rep.kp (k:Kp M H H'):∀ (d:D) (v:V),Rep K M H d v→Rep K M H' d v
 | .non,v,h=>by unfold Rep at h ⊢;exact h
 | .bl b,v,h=>by unfold Rep at h ⊢;exact h
 | .int i,v,h=>by unfold Rep at h ⊢;exact h
 | .str x,v,h=>by unfold Rep at h ⊢;exact h
 | .tup ds,v,h=>by
  unfold Rep at h ⊢
  obtain ⟨a,vs,e,q,r⟩:=h
  exact⟨a,vs,e,SqT.kp k q,Reps.kp k ds vs r⟩
 | .lst ds,v,h=>by
  unfold Rep at h ⊢
  obtain ⟨a,vs,e,n,q,r⟩:=h
  exact⟨a,vs,e,n,k.un _ _ q n,Reps.kp k ds vs r⟩
 | .fz ds,v,h=>by
  unfold Rep at h ⊢
  obtain ⟨a,vs,e,q,r⟩:=h
  exact⟨a,vs,e,q.kp k,Reps.kp k ds vs r⟩
 | .dct ks ds,v,h=>by
  unfold Rep at h ⊢
  obtain ⟨a,vs,e,n,q,l,r⟩:=h
  exact⟨a,vs,e,n,k.un _ _ q n,l,Reps.kp k ds vs r⟩
 | .fd ks ds,v,h=>by
  unfold Rep at h ⊢
  obtain ⟨a,vs,o,e,q,l,r⟩:=h
  exact⟨a,vs,o,e,k.fr _ _ _ q,l,Reps.kp k ds vs r⟩
 | .fo o ks ds,v,h=>by
  unfold Rep at h ⊢
  obtain ⟨a,vs,e,q,l,r⟩:=h
  exact⟨a,vs,e,k.fr _ _ _ q,l,Reps.kp k ds vs r⟩
 | .exn c f d,v,h=>by
  unfold Rep at h ⊢
  obtain ⟨y,q,r⟩:=h
  exact⟨y,q.kp k,Rep.kp k d y r⟩
theorem Reps.kp (k:Kp M H H'):∀ (ds:List D) (vs:List V),Reps K M H ds vs→Reps K M H' ds vs
 | [],vs,h=>by unfold Reps at h ⊢;exact h
 | d :: ds,vs,h=>by
  unfold Reps at h ⊢
  obtain ⟨v,r,e,q,s⟩:=h
  exact⟨v,r,e,Rep.kp k d v q,Reps.kp k ds r s⟩
end
mutual
theorem Rep.more (hM:∀ b,M' b→M b∨H b=none):∀ (d:D) (v:V),Rep K M H d v→Rep K M' H d v
 | .non,v,h=>by unfold Rep at h ⊢;exact h
 | .bl b,v,h=>by unfold Rep at h ⊢;exact h
 | .int i,v,h=>by unfold Rep at h ⊢;exact h
 | .str x,v,h=>by unfold Rep at h ⊢;exact h
 | .tup ds,v,h=>by
  unfold Rep at h ⊢
  obtain ⟨a,vs,e,q,r⟩:=h
  exact⟨a,vs,e,q,Reps.more hM ds vs r⟩
 | .lst ds,v,h=>by
  unfold Rep at h ⊢
  obtain ⟨a,vs,e,n,q,r⟩:=h
  exact⟨a,vs,e,fun z=>(hM _ z).elim n (fun e=>by rw [q] at e;cases e),q,Reps.more hM ds vs r⟩
 | .fz ds,v,h=>by
  unfold Rep at h ⊢
  obtain ⟨a,vs,e,q,r⟩:=h
  exact⟨a,vs,e,q,Reps.more hM ds vs r⟩
 | .dct ks ds,v,h=>by
  unfold Rep at h ⊢
  obtain ⟨a,vs,e,n,q,l,r⟩:=h
  exact⟨a,vs,e,fun z=>(hM _ z).elim n (fun e=>by rw [q] at e;cases e),q,l,Reps.more hM ds vs r⟩
 | .fd ks ds,v,h=>by
  unfold Rep at h ⊢
  obtain ⟨a,vs,o,e,q,l,r⟩:=h
  exact⟨a,vs,o,e,q,l,Reps.more hM ds vs r⟩
 | .fo o ks ds,v,h=>by
  unfold Rep at h ⊢
  obtain ⟨a,vs,e,q,l,r⟩:=h
  exact⟨a,vs,e,q,l,Reps.more hM ds vs r⟩
 | .exn c f d,v,h=>by
  unfold Rep at h ⊢
  obtain ⟨y,q,r⟩:=h
  exact⟨y,q.more hM,Rep.more hM d y r⟩
theorem Reps.more (hM:∀ b,M' b→M b∨H b=none):∀ (ds:List D) (vs:List V),Reps K M H ds vs→Reps K M' H ds vs
 | [],vs,h=>by unfold Reps at h ⊢;exact h
 | d :: ds,vs,h=>by
  unfold Reps at h ⊢
  obtain ⟨v,r,e,q,s⟩:=h
  exact⟨v,r,e,Rep.more hM d v q,Reps.more hM ds r s⟩
end
theorem Reps.length:∀ (ds:List D) (vs:List V),Reps K M H ds vs→ds.length=vs.length
 | [],vs,h=>by unfold Reps at h;subst h;rfl
 | d :: ds,vs,h=>by
  unfold Reps at h
  obtain ⟨v,r,rfl,q,s⟩:=h
  rw [mB,mB,Reps.length ds r s]
theorem Reps.get:∀ (ds:List D) (vs:List V),Reps K M H ds vs→∀ (i:Nat) (d:D),ds[i]?=some d→∃ v,vs[i]?=some v∧Rep K M H d v
 | [],vs,h,i,d,e=>by simp at e
 | d :: ds,vs,h,i,d',e=>by
  unfold Reps at h
  obtain ⟨v,r,rfl,q,s⟩:=h
  cases i with
  | zero=>simp at e;subst e;exact⟨v,rfl,q⟩
  | succ i=>exact Reps.get ds r s i d' (by simpa using e)
theorem Reps.of:∀ (ds:List D) (vs:List V),ds.length=vs.length→(∀ (i:Nat) d v,ds[i]?=some d→vs[i]?=some v→Rep K M H d v)→Reps K M H ds vs
 | [],vs,l,_=>by unfold Reps;exact List.length_eq_zero_iff.mp l.symm
 | d :: ds,[],l,_=>by cases l
 | d :: ds,v :: vs,l,h=>by
  unfold Reps
  exact⟨v,vs,rfl,h 0 d v rfl rfl,Reps.of ds vs (Nat.succ.inj l) fun i d' v' e e'=>h (i + 1) d' v' (by simpa using e) (by simpa using e')⟩
theorem Reps.append:∀ (ds es:List D) (vs ws:List V),Reps K M H ds vs→Reps K M H es ws→Reps K M H (ds++es) (vs++ws)
 | [],es,vs,ws,h,k=>by unfold Reps at h;subst h;exact k
 | d :: ds,es,vs,ws,h,k=>by
  unfold Reps at h
  obtain ⟨v,r,rfl,q,s⟩:=h
  show Reps K M H (d :: (ds++es)) (v :: (r++ws))
  unfold Reps
  exact⟨v,r++ws,rfl,q,Reps.append ds es r ws s k⟩
theorem Reps.one {d:D} {v:V} (h:Rep K M H d v):Reps K M H [d] [v]:=by
 unfold Reps
 exact⟨v,[],rfl,h,by unfold Reps;rfl⟩
theorem Reps.nil:Reps K M H [] []:=by unfold Reps;rfl
theorem Reps.cons {d:D} {v:V} {ds:List D} {vs:List V} (h:Rep K M H d v) (r:Reps K M H ds vs):Reps K M H (d :: ds) (v :: vs):=by
 unfold Reps
 exact⟨v,vs,rfl,h,r⟩
theorem Reps.take:∀ (n:Nat) (ds:List D) (vs:List V),Reps K M H ds vs→Reps K M H (ds.take n) (vs.take n)
 | 0,ds,vs,h=>by simpa using Reps.nil
 | n + 1,[],vs,h=>by unfold Reps at h;subst h;simpa using Reps.nil
 | n + 1,d :: ds,vs,h=>by
  unfold Reps at h
  obtain ⟨v,r,rfl,q,s⟩:=h
  exact Reps.cons q (Reps.take n ds r s)
theorem Reps.drop:∀ (n:Nat) (ds:List D) (vs:List V),Reps K M H ds vs→Reps K M H (ds.drop n) (vs.drop n)
 | 0,ds,vs,h=>h
 | n + 1,[],vs,h=>by unfold Reps at h;subst h;simpa using Reps.nil
 | n + 1,d :: ds,vs,h=>by
  unfold Reps at h
  obtain ⟨v,r,rfl,q,s⟩:=h
  exact Reps.drop n ds r s
theorem Reps.ints (ns:List Int):Reps K M H (ns.map D.int) (ns.map V.int):=by
 induction ns with
 | nil=>exact Reps.nil
 | cons n r ih=>exact Reps.cons (by unfold Rep;rfl) ih
end
inductive Sl where
 | no | dat (d:D) | own (a:Addr) (d:D)
structure Gf where
 M0:Addr→Prop
 H0:Hp
 Pm:Addr→Prop
def cq (K:PySem.W.Frag) (M:Addr→Prop) (H:Hp) (a:Addr):D→Prop
 | .lst ds=>∃ vs,H a=some (.lst vs)∧Reps K M H ds vs
 | .dct ks ds=>∃ vs,H a=some (.dK (gr ks vs))∧ks.length=ds.length∧Reps K M H ds vs
 | _=>False
structure Sx (K:PySem.W.Frag) (G:Gf) (A:Addr→Prop) (δ:List Sl) (P:List (D×V)) (σ:St) (H:Hp):Prop where
 old:∀ b o,G.H0 b=some o→¬ G.Pm b→H b=some o
 stay:∀ b,G.H0 b≠none→H b≠none
 m0:∀ b,G.M0 b→G.H0 b≠none
 pm:∀ b,G.Pm b→G.H0 b≠none∧¬ G.M0 b
 new:∀ b,A b→G.H0 b=none∨G.Pm b
 thr:∀ b,A b→H b≠none
 len:δ.length=σ.length
 dat:∀ (i:Nat) d,δ[i]?=some (.dat d)→∃ v,σ[i]?=some (some v)∧Rep K (fun b=>G.M0 b∨A b) H d v
 own:∀ (i:Nat) a d,δ[i]?=some (.own a d)→σ[i]?=some (some (.ref a))∧A a∧cq K (fun b=>G.M0 b∨A b) H a d
 inj:∀ (i j:Nat) a d e,δ[i]?=some (.own a d)→δ[j]?=some (.own a e)→i=j
 pnd:∀ p∈P,Rep K (fun b=>G.M0 b∨A b) H p.1 p.2
def S (K:PySem.W.Frag) (G:Gf) (δ:List Sl) (P:List (D×V)) (σ:St) (H:Hp):Prop:=∃ A,Sx K G A δ P σ H
inductive aC (K:PySem.W.Frag) (f:List D→(D→Prop)→Prop) (vs:List V) (H:Hp) (Q:VK):Prop
 | mk (M:Addr→Prop) (ds:List D) (R:D→Prop) (m:∀ b,M b→H b≠none) (rs:Reps K M H ds vs) (h:f ds R) (k:∀ d,R d→∀ v H',Same H H'→Rep K M H' d v→Q v H')
section
variable {K:PySem.W.Frag} {G:Gf} {A:Addr→Prop} {δ:List Sl} {P P':List (D×V)} {σ:St} {H H':Hp}
theorem cq.kp {M:Addr→Prop} {a:Addr} {d:D} (k:Kp M H H') (e:H' a=H a) (h:cq K M H a d):cq K M H' a d:=by
 cases d with
 | lst ds =>
  obtain ⟨vs,q,r⟩:=h
  exact⟨vs,e.trans q,Reps.kp k _ _ r⟩
 | dct ks ds =>
  obtain ⟨vs,q,l,r⟩:=h
  exact⟨vs,e.trans q,l,Reps.kp k _ _ r⟩
 | _=>exact h.elim
theorem Sx.sub (s:Sx K G A δ P σ H) (h:∀ p∈P',p∈P):Sx K G A δ P' σ H :=
 ⟨s.old,s.stay,s.m0,s.pm,s.new,s.thr,s.len,s.dat,s.own,s.inj,fun p hp=>s.pnd p (h p hp)⟩
theorem S.sub (s:S K G δ P σ H) (h:∀ p∈P',p∈P):S K G δ P' σ H:=let ⟨A,x⟩:=s;⟨A,x.sub h⟩
theorem Sx.same (s:Sx K G A δ P σ H) (h:Same H H'):Sx K G A δ P σ H' where
 old:=fun b o e n=>h b o (s.old b o e n)
 stay:=fun b e=>by
  cases q:H b with
  | none=>exact absurd q (s.stay b e)
  | some o=>rw [h b o q];exact fun z=>nomatch z
 m0:=s.m0
 pm:=s.pm
 new:=s.new
 thr:=fun b e=>by
  cases q:H b with
  | none=>exact absurd q (s.thr b e)
  | some o=>rw [h b o q];exact fun z=>nomatch z
 len:=s.len
 dat:=fun i d e=>let ⟨v,q,r⟩:=s.dat i d e;⟨v,q,Rep.kp (Kp.of_same h) _ _ r⟩
 own:=fun i a d e=>by
  obtain ⟨q,a1,o⟩:=s.own i a d e
  refine⟨q,a1,cq.kp (Kp.of_same h) ?_ o⟩
  cases z:H a with
  | none=>exact absurd z (s.thr a a1)
  | some o=>exact h a o z
 inj:=s.inj
 pnd:=fun p hp=>Rep.kp (Kp.of_same h) _ _ (s.pnd p hp)
theorem Sx.push (s:Sx K G A δ P σ H) {d:D} {v:V} (h:Rep K (fun b=>G.M0 b∨A b) H d v):Sx K G A δ ((d,v) :: P) σ H :=
 ⟨s.old,s.stay,s.m0,s.pm,s.new,s.thr,s.len,s.dat,s.own,s.inj,fun p hp=>by
  rcases mv.mp hp with rfl | hp
  ·exact h
  ·exact s.pnd p hp⟩
theorem Sx.mem (s:Sx K G A δ P σ H):∀ b,(G.M0 b∨A b)→H b≠none:=fun b h=>h.elim (fun z=>s.stay b (s.m0 b z)) fun z=>s.thr b z
theorem Sx.reps (s:Sx K G A δ P σ H):∀ (ds:List D) (vs:List V),ds.length=vs.length→(∀ p∈ds.zip vs,p∈P)→Reps K (fun b=>G.M0 b∨A b) H ds vs
 | [],[],_,_=>Reps.nil
 | d :: ds,v :: vs,l,h=>Reps.cons (s.pnd (d,v) (h _ (ms ..))) (Sx.reps s ds vs (Nat.succ.inj l) fun p hp=>h p (mo _ hp))
theorem S.pure {f:List D→(D→Prop)→Prop} {ds:List D} {vs:List V} {R:D→Prop} {Q:VK} (s:S K G δ P σ H) (hl:ds.length=vs.length) (hp:∀ p∈ds.zip vs,p∈P) (hs:∀ p∈P',p∈P) (hf:f ds R)
  (h:∀ d,R d→∀ v H',S K G δ ((d,v) :: P') σ H'→Q v H'):aC K f vs H Q:=by
 obtain ⟨A,x⟩:=s
 refine⟨fun b=>G.M0 b∨A b,ds,R,x.mem,x.reps ds vs hl hp,hf,fun d r v H' sm rp=>h d r v H' ⟨A,?_⟩⟩
 exact ((x.same sm).sub hs).push rp
theorem Sx.set {i:Nat} {d:D} {v:V} (s:Sx K G A δ P σ H) (hp:(d,v)∈P) (hs:∀ p∈P',p∈P):Sx K G A (δ.set i (.dat d)) P' (σ.set i (some v)) H where
 old:=s.old
 stay:=s.stay
 m0:=s.m0
 pm:=s.pm
 new:=s.new
 thr:=s.thr
 len:=by rw [List.length_set,List.length_set,s.len]
 dat:=fun j d' e=>by
  by_cases hij:i=j
  ·subst hij
   by_cases hl:i < δ.length
   ·rw [List.getElem?_set_self hl] at e
    cases e
    exact⟨v,by rw [List.getElem?_set_self (by rw [← s.len];exact hl)],s.pnd _ hp⟩
   ·rw [List.getElem?_eq_none (by rw [List.length_set];omega)] at e
    cases e
  ·rw [List.getElem?_set_ne hij] at e
   obtain ⟨v',q,r⟩:=s.dat j d' e
   exact⟨v',by rw [List.getElem?_set_ne hij];exact q,r⟩
 own:=fun j a d' e=>by
  by_cases hij:i=j
  ·subst hij
   by_cases hl:i < δ.length
   ·rw [List.getElem?_set_self hl] at e
    cases e
   ·rw [List.getElem?_eq_none (by rw [List.length_set];omega)] at e
    cases e
  ·rw [List.getElem?_set_ne hij] at e
   obtain ⟨q,r⟩:=s.own j a d' e
   exact⟨by rw [List.getElem?_set_ne hij];exact q,r⟩
 inj:=fun j k a d' e' h1 h2=>by
  have hj:δ[j]?=some (.own a d'):=by
   by_cases hij:i=j
   ·subst hij
    by_cases hl:i < δ.length
    ·rw [List.getElem?_set_self hl] at h1;cases h1
    ·rw [List.getElem?_eq_none (by rw [List.length_set];omega)] at h1;cases h1
   ·rw [List.getElem?_set_ne hij] at h1;exact h1
  have hk:δ[k]?=some (.own a e'):=by
   by_cases hij:i=k
   ·subst hij
    by_cases hl:i < δ.length
    ·rw [List.getElem?_set_self hl] at h2;cases h2
    ·rw [List.getElem?_eq_none (by rw [List.length_set];omega)] at h2;cases h2
   ·rw [List.getElem?_set_ne hij] at h2;exact h2
  exact s.inj j k a d' e' hj hk
 pnd:=fun p h=>s.pnd p (hs p h)
theorem S.set {i:Nat} {d:D} {v:V} (s:S K G δ P σ H) (hp:(d,v)∈P) (hs:∀ p∈P',p∈P):S K G (δ.set i (.dat d)) P' (σ.set i (some v)) H:=let ⟨A,x⟩:=s;⟨A,x.set hp hs⟩
end
end DL
namespace DL
open PySem L2
section
variable {K:PySem.W.Frag} {G:Gf} {A:Addr→Prop} {δ:List Sl} {P P':List (D×V)} {σ:St} {H H':Hp}
theorem cq.rep {M M':Addr→Prop} {a:Addr} {d:D} (h:cq K M H a d) (n:¬ M' a) (hM:∀ b,M' b→M b):Rep K M' H d (.ref a):=by
 cases d with
 | lst ds =>
  obtain ⟨vs,q,r⟩:=h
  unfold Rep
  exact⟨a,vs,rfl,n,q,Reps.more (fun b z=>.inl (hM b z)) _ _ r⟩
 | dct ks ds =>
  obtain ⟨vs,q,l,r⟩:=h
  unfold Rep
  exact⟨a,vs,rfl,n,q,l,Reps.more (fun b z=>.inl (hM b z)) _ _ r⟩
 | _=>exact h.elim
end
end DL
namespace DL
open PySem PySem.Spec PyProof.Rows L2
inductive W where
 | d (x:D) | o (i:Nat)
abbrev En:=List Sl
abbrev TDE:=En→(W→En→Prop)→Prop
abbrev TDA:=En→(List D→En→Prop)→Prop
abbrev TDT:=En→(Bool→En→Prop)→Prop
structure le where
 nx:En→Prop
 rt:D→En→Prop
 bk:En→Prop:=fun _=>False
 ct:En→Prop:=fun _=>False
 ro:D→Prop:=fun _=>False
 tp:Prop:=False
 ex:Str→Str→D→Prop:=fun _ _ _=>False
abbrev TDS:=le→En→Prop
abbrev TDG:=D→En→(En→Prop)→Prop
abbrev TDGs:=List D→En→(En→Prop)→Prop
def wd (R:D→En→Prop):W→En→Prop
 | .d x,δ=>R x δ
 | .o _,_=>False
inductive Up (K:PySem.W.Frag) (t:TDE) (σ:L2.St) (H:Hp) (Q:VK):Prop
 | mk (G:Gf) (δ:En) (P:List (D×V)) (R:W→En→Prop) (s:S K G δ P σ H) (h:t δ R) (k:(∀ x δ',R (.d x) δ'→∀ v H',S K G δ' ((x,v) :: P) σ H'→Q v H')∧(∀ i δ',R (.o i) δ'→∀ a d H',S K G δ' P σ H'→δ'[i]?=some (.own a d)→Q (.ref a) H'))
def up (K:PySem.W.Frag) (t:TDE):TE:=Up K t
inductive UpA (K:PySem.W.Frag) (t:TDA) (σ:L2.St) (H:Hp) (Q:List V→Hp→Prop):Prop
 | mk (G:Gf) (δ:En) (P:List (D×V)) (R:List D→En→Prop) (s:S K G δ P σ H) (h:t δ R) (k:∀ ds δ',R ds δ'→∀ vs H',ds.length=vs.length→S K G δ' (ds.zip vs++P) σ H'→Q vs H')
def upA (K:PySem.W.Frag) (t:TDA):TA:=UpA K t
inductive UpT (K:PySem.W.Frag) (t:TDT) (σ:L2.St) (H:Hp) (Q:Bool→Hp→Prop):Prop
 | mk (G:Gf) (δ:En) (P:List (D×V)) (R:Bool→En→Prop) (s:S K G δ P σ H) (h:t δ R) (k:∀ b δ',R b δ'→∀ H',S K G δ' P σ H'→Q b H')
def upT (K:PySem.W.Frag) (t:TDT):TT:=UpT K t
inductive UpG (K:PySem.W.Frag) (t:TDG) (v:V) (σ:L2.St) (H:Hp) (Q:L2.St→Hp→Prop):Prop
 | mk (G:Gf) (δ:En) (P:List (D×V)) (d:D) (R:En→Prop) (s:S K G δ ((d,v) :: P) σ H) (h:t d δ R) (k:∀ δ',R δ'→∀ σ' H',S K G δ' P σ' H'→Q σ' H')
def upG (K:PySem.W.Frag) (t:TDG):TG:=UpG K t
def lf (K:PySem.W.Frag) (G:Gf) (H':Hp) (a:Addr) (d:D):Prop:=(∀ b o,G.H0 b=some o→¬ G.Pm b→H' b=some o)∧(G.H0 a=none∨G.Pm a)∧¬ G.M0 a∧cq K (fun b=>G.M0 b∨b=a) H' a d
inductive UpS (K:PySem.W.Frag) (W:XK) (t:TDS) (E:Ends) (σ:L2.St) (H:Hp):Prop
 | mk (G:Gf) (δ:En) (P:List (D×V)) (R:le) (s:S K G δ P σ H) (h:t R δ) (k:(∀ δ',R.nx δ'→∀ σ' H',S K G δ' P σ' H'→E.nx σ' H')∧((∀ d δ',R.rt d δ'→∀ v σ' H',S K G δ' ((d,v) :: P) σ' H'→E.rt v H')∧(∀ d,R.ro d→∀ a H',lf K G H' a d→E.rt (.ref a) H')∧∀ c f d,R.ex c f d→∀ e C dx δ' σ' H',S K G δ' ((.exn c f d,.ref e) :: P) σ' H'→H' e=some (XAt e C dx)→W (.ref e) (some dx) H') ∧
 (∀ δ',R.bk δ'→∀ σ' H',S K G δ' P σ' H'→E.bk σ' H')∧(∀ δ',R.ct δ'→∀ σ' H',S K G δ' P σ' H'→E.ct σ' H')∧(R.tp→P=[]∧∀ b o,G.H0 b=some o→∃ ob xs,o=.frz ob (.lst xs)))
def TbOk (h:Heap) (e:Addr) (t:Value):Prop:=t=.none∨∃ T oT ts,t=.ref T∧T≠e∧h.get? T=some oT∧oT.data=.fields ts∧ts[3]?=some .none
structure dn (X:Cx) (pins:List (Addr×Obj)) (H':Hp) (e C dx:Addr) (s':Shared):Prop where
 ex:∃ (σ:L2.St) (a t:Value),L2.Inv X pins σ H' s'∧s'.heap.get? e=some (xob C (some dx) a t)∧TbOk s'.heap e t ∧
  (∀ T,t=.ref T→H' T=none∧X.s₀.heap.objs.size≤T∧T≠X.env.locals∧(∀ x c,X.env.cells.lookup x=some c→c≠T)∧∀ p∈X.pn++pins,p.1≠T)∧H' e=some (XAt e C dx)
def XEs (X:Cx):XK:=fun ev dxo H'=>∀ e C dx pins s',ev=.ref e→dxo=some dx→dn X pins H' e C dx s'→X.xe (.ref e) s'
def upS (X:Cx) (t:TDS):TS:=UpS X.K (XEs X) t
def DE (X:Cx) (e:Expr) (t:TDE):Prop:=PE X e (up X.K t)
def DA (X:Cx) (es:List Expr) (t:TDA):Prop:=PA X es (upA X.K t)
def DT (X:Cx) (e:Expr) (t:TDT):Prop:=PT X e (upT X.K t)
def DW (X:Cx) (e:Expr) (t:TDT):Prop:=PW X e (upT X.K t)
def DG (X:Cx) (e:Expr) (t:TDG):Prop:=PG X e (upG X.K t)
def DS (X:Cx) (st:Stmt) (t:TDS):Prop:=PS X st (upS X t)
def DSs (X:Cx) (st:List Stmt) (t:TDS):Prop:=PSs X st (upS X t)
section
variable {X:Cx} {e:Expr} {pos:Pos}
theorem PE.imp {t t':TE} (h:PE X e t) (i:∀ σ H Q,t' σ H Q→t σ H Q):PE X e t':=fun pins s σ H Q I q=>h pins s σ H Q I (i σ H Q q)
theorem PT.imp {t t':TT} (h:PT X e t) (i:∀ σ H Q,t' σ H Q→t σ H Q):PT X e t':=fun pins s σ H Q I q=>h pins s σ H Q I (i σ H Q q)
theorem PW.imp {t t':TT} (h:PW X e t) (i:∀ σ H Q,t' σ H Q→t σ H Q):PW X e t':=fun wh pins s σ H Q I q=>h wh pins s σ H Q I (i σ H Q q)
theorem PA.imp {es:List Expr} {t t':TA} (h:PA X es t) (i:∀ σ H Q,t' σ H Q→t σ H Q):PA X es t':=fun p pins s σ H Q I q=>h p pins s σ H Q I (i σ H Q q)
theorem PS.imp {st:Stmt} {t t':TS} (h:PS X st t) (i:∀ E σ H,t' E σ H→t E σ H):PS X st t':=fun pins s σ H D I q=>h pins s σ H D I (i D σ H q)
theorem PSs.imp {st:List Stmt} {t t':TS} (h:PSs X st t) (i:∀ E σ H,t' E σ H→t E σ H):PSs X st t':=fun pins s σ H D I q=>h pins s σ H D I (i D σ H q)
theorem PG.imp {t t':TG} (h:PG X e t) (i:∀ v σ H Q,t' v σ H Q→t v σ H Q):PG X e t':=fun pins s σ H v u Q I r q=>h pins s σ H v u Q I r (i v σ H Q q)
theorem OpR.imp {f:Value→Value→Sem Value} {r r':R2} (h:OpR X f r) (i:∀ x y H Q,r' x y H Q→r x y H Q):OpR X f r':=fun pins s σ H x y v u Q I rx ry q=>h pins s σ H x y v u Q I rx ry (i x y H Q q)
theorem UnR.imp {f:Value→Sem Value} {r r':V→Hp→VK→Prop} (h:UnR X f r) (i:∀ x H Q,r' x H Q→r x H Q):UnR X f r':=fun pins s σ H x v Q I rx q=>h pins s σ H x v Q I rx (i x H Q q)
theorem bm.imp {f:Value} {r r':List V→Hp→VK→Prop} (h:bm X f r) (i:∀ xs H Q,r' xs H Q→r xs H Q):bm X f r':=fun pins s σ H x v Q I rx q=>h pins s σ H x v Q I rx (i x H Q q)
theorem IxR.imp {r r':R2} (h:IxR X r) (i:∀ x y H Q,r' x y H Q→r x y H Q):IxR X r':=fun value slice pins s σ H x y v u Q I rx ry q hs=>h value slice pins s σ H x y v u Q I rx ry (i x y H Q q) hs
end
section
variable {K:PySem.W.Frag} {G:Gf} {δ:En} {P:List (D×V)} {σ:L2.St} {H:Hp}
theorem up.mk {t:TDE} {R:D→En→Prop} {Q:VK} (s:S K G δ P σ H) (h:t δ (wd R)) (k:∀ x δ',R x δ'→∀ v H',S K G δ' ((x,v) :: P) σ H'→Q v H'):up K t σ H Q:=⟨G,δ,P,wd R,s,h,k,fun _ _ z=>z.elim⟩
theorem S.dat {i:Nat} {d:D} (s:S K G δ P σ H) (e:δ[i]?=some (.dat d)):∃ v,σ[i]?=some (some v)∧S K G δ ((d,v) :: P) σ H:=by
 obtain ⟨A,x⟩:=s
 obtain ⟨v,q,r⟩:=x.dat i d e
 exact⟨v,q,A,x.push r⟩
theorem S.own {i:Nat} {a:Addr} {d:D} (s:S K G δ P σ H) (e:δ[i]?=some (.own a d)):σ[i]?=some (some (.ref a)):=let ⟨_,x⟩:=s;(x.own i a d e).1
def sc:D→Option V
 | .non=>some .non
 | .bl b=>some (.bl b)
 | .int i=>some (.int i)
 | .str x=>some (.str x)
 | _=>none
theorem Rep.sc {M:Addr→Prop} {d:D} {v:V} (h:sc d=some v):Rep K M H d v:=by
 cases d<;>simp only [DL.sc,Option.some.injEq,reduceCtorEq] at h<;>subst h<;>unfold Rep<;>rfl
theorem S.sc {d:D} {v:V} (s:S K G δ P σ H) (h:sc d=some v):S K G δ ((d,v) :: P) σ H:=let ⟨A,x⟩:=s;⟨A,x.push (Rep.sc h)⟩
end
def dV (i:Nat):TDE:=fun δ R=>∃ d,δ[i]?=some (.dat d)∧R (.d d) δ
def dC (d:D):TDE:=fun δ R=>R (.d d) δ
def dOp (f:List D→(D→Prop)→Prop) (ta tb:TDE):TDE:=fun δ R=>ta δ (wd fun x δ1=>tb δ1 (wd fun y δ2=>f [x,y] fun d=>R (.d d) δ2))
def dUn (f:List D→(D→Prop)→Prop) (ta:TDE):TDE:=fun δ R=>ta δ (wd fun x δ1=>f [x] fun d=>R (.d d) δ1)
def lC:TDA:=fun δ R=>R [] δ
def g7 (te:TDE) (t:TDA):TDA:=fun δ R=>te δ (wd fun x δ1=>t δ1 fun ds δ2=>R (x :: ds) δ2)
def fi (f:List D→(D→Prop)→Prop) (t:TDA):TDE:=fun δ R=>t δ fun ds δ1=>f ds fun d=>R (.d d) δ1
def dTup (t:TDA):TDE:=fun δ R=>t δ fun ds δ1=>ds.length≤9000∧R (.d (.tup ds)) δ1
def dLst (t:TDA):TDE:=fun δ R=>t δ fun ds δ1=>ds.length≤9000∧R (.d (.lst ds)) δ1
def dTst (t:TDE):TDT:=fun δ R=>t δ (wd fun x δ1=>∃ b,x=.bl b∧R b δ1)
def dAnd (t u:TDT):TDT:=fun δ R=>t δ fun b δ1=>if b=true then u δ1 R else R false δ1
def dOr (t u:TDT):TDT:=fun δ R=>t δ fun b δ1=>if b=true then R true δ1 else u δ1 R
def dNot (t:TDT):TDT:=fun δ R=>t δ fun b δ1=>R (!b) δ1
def kj (t u:TDE):TDE:=fun δ R=>t δ (wd fun x δ1=>∃ b,x=.bl b∧if b=true then u δ1 R else R (.d (.bl false)) δ1)
section
variable {X:Cx} {pos:Pos} {a b c:Expr} {ta tb:TDE} {t:TDA} {f:List D→(D→Prop)→Prop} {es:List Expr}
theorem de_v (i:Nat) {x:Str} (hN:X.N[i]?=some x:=by rfl) (hv:Vis X.env.scope x:=by first | exact Or.inl rfl | exact Or.inr (Or.inl rfl) | exact Or.inr (Or.inr rfl)) (hd:(x == ("__debug__":Str))=false:=by decide)
  (hcd:(x == ("__classdict__":Str))=false:=by decide):DE X (.Name x pos) (dV i):=PE.imp (a7 hN hv hd hcd) fun σ H Q ⟨G,δ,P,R,s,⟨d,e,r⟩,k,_⟩=>by
 obtain ⟨v,q,s'⟩:=s.dat e
 exact⟨v,q,k d δ r v H s'⟩
theorem de_c {v:V} {d:D} (h:PE X a (tC v)) (hs:sc d=some v):DE X a (dC d):=PE.imp h fun σ H Q ⟨G,δ,P,R,s,r,k,_⟩=>k d δ r v H (s.sc hs)
theorem ag {i j pos}:DE X (.Constant (.int i) j pos) (dC (.int i)):=de_c kr rfl
theorem eh {i j pos}:DE X (.Constant (.bool i) j pos) (dC (.bl i)):=de_c lP rfl
theorem jS {j pos}:DE X (.Constant .none j pos) (dC .non):=de_c lr rfl
theorem cz {x j pos}:DE X (.Constant (.str x) j pos) (dC (.str x)):=de_c dX rfl
theorem aG {op:Operator} (ho:OpR X (binaryOp op) fun x y=>aC X.K f [x,y]) (ha:DE X a ta) (hb:DE X b tb):DE X (.BinOp a op b pos) (dOp f ta tb) :=
 PE.imp (lS ho ha hb) fun σ H Q ⟨G,δ,P,R,s,h,k,_⟩=>up.mk s h fun x δ1 h1 v H1 s1=>up.mk s1 h1 fun y δ2 h2 u H2 s2 =>
  S.pure (P':=P) (ds:=[x,y]) (vs:=[v,u]) s2 rfl (by simp) (fun p hp=>by simp [hp]) h2 fun d r v' H' s'=>k d δ2 r v' H' s'
theorem ib {op:CmpOp} (ho:OpR X (compareOp op) fun x y=>aC X.K f [x,y]) (ha:DE X a ta) (hb:DE X b tb) (hm:behindInMarks op b=false):DE X (.Compare a [op] [b] pos) (dOp f ta tb) :=
 PE.imp (i4 ho ha hb hm) fun σ H Q ⟨G,δ,P,R,s,h,k,_⟩=>up.mk s h fun x δ1 h1 v H1 s1=>up.mk s1 h1 fun y δ2 h2 u H2 s2 =>
  S.pure (P':=P) (ds:=[x,y]) (vs:=[v,u]) s2 rfl (by simp) (fun p hp=>by simp [hp]) h2 fun d r v' H' s'=>k d δ2 r v' H' s'
theorem aX {op:CmpOp} (ho:OpR X (compareOp op) fun x y=>aC X.K f [x,y]) (ha:DE X a ta) (hb:DE X b tb) (hm:behindInMarks op b=false):DT X (.Compare a [op] [b] pos) (dTst (dOp f ta tb)) :=
 PT.imp (jd ho ha hb hm) fun σ H Q ⟨G,δ,P,R,s,h,k⟩=>up.mk s h fun x δ1 h1 v H1 s1=>up.mk s1 h1 fun y δ2 h2 u H2 s2 =>
  S.pure (P':=P) (ds:=[x,y]) (vs:=[v,u]) s2 rfl (by simp) (fun p hp=>by simp [hp]) h2 fun d r v' H' s'=>by
   obtain ⟨b,e,r⟩:=r
   subst e
   have q:=s'
   obtain ⟨A,q⟩:=q
   have q2:=q.pnd (.bl b,v') (by simp)
   simp only [Rep] at q2
   exact⟨b,q2,k b δ2 r H' (s'.sub fun p hp=>by simp [hp])⟩
theorem ml {op:UnaryOp} (ho:UnR X (unaryOp op) fun x=>aC X.K f [x]) (ha:DE X a ta):DE X (.UnaryOp op a pos) (dUn f ta) :=
 PE.imp (lQ ho ha) fun σ H Q ⟨G,δ,P,R,s,h,k,_⟩=>up.mk s h fun x δ1 h1 v H1 s1 =>
  S.pure (P':=P) (ds:=[x]) (vs:=[v]) s1 rfl (by simp) (fun p hp=>by simp [hp]) h1 fun d r v' H' s'=>k d δ1 r v' H' s'
theorem b9 (h:DE X a ta) (he:∀ whole,isTrue a X.env whole=(do let v←whole;standAt a.pos;holding [v] (truthy v)):=by intro _;rfl):DT X a (dTst ta) :=
 PT.imp (lc h he) fun σ H Q ⟨G,δ,P,R,s,h,k⟩=>up.mk s h fun x δ1 h1 v H1 s1=>by
  obtain ⟨b,e,r⟩:=h1
  subst e
  obtain ⟨A,q⟩:=id s1
  have q2:=q.pnd (.bl b,v) (by simp)
  simp only [Rep] at q2
  exact⟨b,q2,k b δ1 r H1 (s1.sub fun p hp=>by simp [hp])⟩
variable {tA tB':TDT} {rest:List Expr}
theorem DW.dt (h:DW X a tA):DT X a tA:=PW.pt h
theorem jc (ha:DT X a tA):DW X (.BoolOp .And [a] pos) tA:=ir ha
theorem fh (ha:DT X a tA):DW X (.BoolOp .Or [a] pos) tA:=jT ha
theorem lp (ha:DT X a tA) (hb:DW X (.BoolOp .And (b :: rest) pos) tB'):DW X (.BoolOp .And (a :: b :: rest) pos) (dAnd tA tB') :=
 PW.imp (lh ha hb) fun σ H Q ⟨G,δ,P,R,s,h,k⟩=>⟨G,δ,P,_,s,h,fun b δ1 h1 H1 s1=>by
  cases b with
  | true=>exact⟨G,δ1,P,R,s1,h1,k⟩
  | false=>exact k false δ1 h1 H1 s1⟩
theorem gn (ha:DT X a tA) (hb:DW X (.BoolOp .Or (b :: rest) pos) tB'):DW X (.BoolOp .Or (a :: b :: rest) pos) (dOr tA tB') :=
 PW.imp (lE ha hb) fun σ H Q ⟨G,δ,P,R,s,h,k⟩=>⟨G,δ,P,_,s,h,fun b δ1 h1 H1 s1=>by
  cases b with
  | true=>exact k true δ1 h1 H1 s1
  | false=>exact⟨G,δ1,P,R,s1,h1,k⟩⟩
theorem cO (ha:DT X a tA):DT X (.UnaryOp .Not a pos) (dNot tA) :=
 PT.imp (li ha) fun σ H Q ⟨G,δ,P,R,s,h,k⟩=>⟨G,δ,P,_,s,h,fun b δ1 h1 H1 s1=>k _ δ1 h1 H1 s1⟩
theorem kY {K:PySem.W.Frag} {G:Gf} {δ:En} {P:List (D×V)} {σ:L2.St} {H:Hp} {b:Bool} {v:V} (s:S K G δ ((.bl b,v) :: P) σ H):v=.bl b:=by
 obtain ⟨A,q⟩:=s
 have q2:=q.pnd (.bl b,v) (by simp)
 simpa only [Rep] using q2
theorem kB {op} (h:DE X a ta):DE X (.BoolOp op [a] pos) ta:=kS h
theorem kO (ha:DE X a ta) (hb:DE X (.BoolOp .And (b :: rest) pos) tb):DE X (.BoolOp .And (a :: b :: rest) pos) (kj ta tb) :=
 PE.imp (ll ha hb) fun σ H Q ⟨G,δ,P,R,s,h,k,k2⟩=>up.mk s h fun x δ1 h1 v H1 s1=>by
  obtain ⟨b,e,r⟩:=h1
  subst e
  refine⟨b,kY s1,?_⟩
  cases b with
  | true=>exact⟨G,δ1,P,R,s1.sub fun p hp=>by simp [hp],r,k,k2⟩
  | false=>exact k (.bl false) δ1 r _ H1 (by rw [← kY s1];exact s1)
theorem al:DA X [] lC:=PA.imp a8 fun σ H Q ⟨G,δ,P,R,s,h,k⟩=>k [] δ h [] H rfl s
theorem ac (ha:DE X a ta) (hr:DA X es t) (hs:starEach (a :: es) X.env=(false,eval a X.env) :: starEach es X.env:=by rfl):DA X (a :: es) (g7 ta t) :=
 PA.imp (ao ha hr hs) fun σ H Q ⟨G,δ,P,R,s,h,k⟩=>up.mk s h fun x δ1 h1 v H1 s1=>⟨G,δ1,(x,v) :: P,_,s1,h1,fun ds δ2 h2 vs H2 hl s2 =>
  k (x :: ds) δ2 h2 (v :: vs) H2 (by simp [hl]) (s2.sub fun p hp=>by
   simp only [List.zip_cons_cons,List.cons_append,mv,List.mem_append] at hp ⊢
   rcases hp with h | h | h
   ·exact .inr (.inl h)
   ·exact .inl h
   ·exact .inr (.inr h))⟩
theorem ak {H:Hp} {p:Addr} (h:H p=none) (o:HO):Same H (upd H p o):=fun b u q=>by rw [ai (aK q h)];exact q
theorem iJ {n:Nat} (h:n≤9000):n < sizeLine:=Nat.lt_of_le_of_lt h (by decide)
theorem gq {n:Nat} (h:n≤9000):n≤sizeLine:=Nat.le_of_lt (iJ h)
theorem bE {x1} (h:DA X es t):DE X (.Tuple es x1 pos) (dTup t) :=
 PE.imp (ik h) fun σ H Q ⟨G,δ,P,R,s,h,k,_⟩=>⟨G,δ,P,_,s,h,fun ds δ1 ⟨hz,h1⟩ vs H1 hl s1=>⟨by rw [← hl];exact gq hz,fun p hp=>by
  obtain ⟨A,x⟩:=s1
  have r:=x.reps ds vs hl (fun q hq=>mx _ hq)
  have x2:=x.same (ak hp (.tup vs))
  refine k (.tup ds) δ1 h1 (.ref p) _ ⟨A,(x2.sub fun q hq=>mw _ hq).push ?_⟩
  unfold Rep
  exact⟨p,vs,rfl,SqT.of af,Reps.kp (Kp.of_same (ak hp _)) _ _ r⟩⟩⟩
theorem hI (h:DA X es t):DE X (.List es pos) (dLst t) :=
 PE.imp (lq h) fun σ H Q ⟨G,δ,P,R,s,h,k,_⟩=>⟨G,δ,P,_,s,h,fun ds δ1 ⟨hz,h1⟩ vs H1 hl s1=>⟨by rw [← hl];exact gq hz,fun p hp=>by
  obtain ⟨A,x⟩:=s1
  have r:=x.reps ds vs hl (fun q hq=>mx _ hq)
  have x2:=x.same (ak hp (.lst vs))
  refine k (.lst ds) δ1 h1 (.ref p) _ ⟨A,(x2.sub fun q hq=>mw _ hq).push ?_⟩
  unfold Rep
  exact⟨p,vs,rfl,fun z=>x.mem p z hp,af,Reps.kp (Kp.of_same (ak hp _)) _ _ r⟩⟩⟩
theorem bR (hr:IxR X fun x y=>aC X.K f [x,y]) (ha:DE X a ta) (hb:DE X b tb) (hs:fA b):DE X (.Subscript a b pos) (dOp f ta tb) :=
 PE.imp (mi hr ha hb hs) fun σ H Q ⟨G,δ,P,R,s,h,k,_⟩=>up.mk s h fun x δ1 h1 v H1 s1=>up.mk s1 h1 fun y δ2 h2 u H2 s2 =>
  S.pure (P':=P) (ds:=[x,y]) (vs:=[v,u]) s2 rfl (by simp) (fun p hp=>by simp [hp]) h2 fun d r v' H' s'=>k d δ2 r v' H' s'
def spD (K:PySem.W.Frag) (f:List D→(D→Prop)→Prop):Sp:=fun vs H Q _=>aC K f vs H Q
theorem d5 {K:PySem.W.Frag} {σ:L2.St} {H:Hp} {Q:VK} {f:List D→(D→Prop)→Prop} (h:up K (fi f t) σ H Q):upA K t σ H fun vs H1=>aC K f vs H1 Q:=by
 obtain ⟨G,δ,P,R,s,h,k,_⟩:=h
 exact⟨G,δ,P,_,s,h,fun ds δ1 h1 vs H1 hl s1=>S.pure (P':=P) s1 hl (fun p hp=>mx _ hp) (fun p hp=>mw _ hp) h1 fun d r v' H' s'=>k d δ1 r v' H' s'⟩
theorem ip {x:Str} {k:Nat} {g:Addr} {fd:FuncData} {ps:List Str} {p:Pos} (F:FnOk X.prog X.w X.K X.mg X.base CX0 k g fd ps (spD X.K f)) (hr:Room k X.A) (hg:Gl X x) (hm:X.mg x=some (.ref g)) (hk:PySem.W.keepIn X.K (.ref g)=true)
  (hb:bi X.K fd ps []) (ha:DA X (a :: es) t) (hdb:(x == ("__debug__":Str))=false:=by decide) (he:starEach (a :: es) X.env=(false,eval a X.env) :: starEach es X.env:=by rfl) (hpl:(backTo pos (starEach es X.env)).any (·.1)=false:=by rfl) :
  DE X (.Call (.Name x p) (a :: es) [] pos) (fi f t) :=
 PE.imp (gi F hr hg hm hk hb .nil lV ha hdb he hpl) fun σ H Q h=>by
  show upA X.K t σ H fun vs H1=>aC X.K f (vs++[]) H1 Q
  have q:=d5 h
  simpa only [List.append_nil] using q
theorem bK {x:Str} {id:String} {p:Pos} (hc:bm X (.builtin id) (aC X.K f)) (hg:Gl X x) (hm:X.mg x=none) (hv:bootBuiltins x=some (.builtin id)) (ha:DA X (a :: es) t) (hn:x≠"__name__":=by decide) (hdb:(x == ("__debug__":Str))=false:=by decide)
  (he:starEach (a :: es) X.env=(false,eval a X.env) :: starEach es X.env:=by rfl) (hpl:(backTo pos (starEach es X.env)).any (·.1)=false:=by rfl):DE X (.Call (.Name x p) (a :: es) [] pos) (fi f t) :=
 PE.imp (bu hc hg hm hv ha hn hdb he hpl) fun σ H Q h=>d5 h
end
def lA:TDS:=fun R δ=>R.nx δ
def dSeq (t u:TDS):TDS:=fun R δ=>t { R with nx:=u R } δ
def dRet (t:TDE):TDS:=fun R δ=>t δ (wd fun x δ1=>R.rt x δ1)
def dIf (c:TDT) (t u:TDS):TDS:=fun R δ=>c δ fun b δ1=>if b=true then t R δ1 else u R δ1
def dSet (i:Nat) (t:TDE):TDS:=fun R δ=>t δ (wd fun x δ1=>R.nx (δ1.set i (.dat x)))
def dPar (i j:Nat) (t:TDA):TDS:=fun R δ=>t δ fun ds δ1=>∃ x y,ds=[x,y]∧R.nx ((δ1.set i (.dat x)).set j (.dat y))
def g8 (i:Nat):TDG:=fun x δ R=>R (δ.set i (.dat x))
def kI (c:TDT) (tb:TDS):TDS:=fun R δ=>∃ (I:En→Prop) (μ:En→Nat),I δ∧∀ δ,I δ→c δ fun b δ1 =>
 if b=true then tb { R with nx:=fun δ'=>I δ'∧μ δ' < μ δ,ct:=fun δ'=>I δ'∧μ δ' < μ δ,bk:=R.nx,tp:=False } δ1 else R.nx δ1
def jZ (t:TDA) (g:TDG) (tb:TDS):TDS:=fun R δ=>t δ fun ds δ1=>∃ j:Int,ds=[.int j]∧-(2 ^ 62)≤j∧j < 2 ^ 62∧∃ I:Nat→En→Prop,I 0 δ1 ∧
 (∀ i δ',i < j.toNat→I i δ'→g (.int i) δ' fun δ2=>tb { R with nx:=I (i + 1),ct:=I (i + 1),bk:=R.nx,tp:=False } δ2)∧∀ δ',I j.toNat δ'→R.nx δ'
section
variable {X:Cx} {pos:Pos} {a b c e tg:Expr} {ta:TDE} {tA:TDT} {t u:TDS} {st:Stmt} {rest body:List Stmt} {g:TDG} {gs:TDGs} {tda:TDA}
theorem aR:DSs X [] lA:=PSs.imp jo fun E σ H ⟨G,δ,P,R,s,h,k,_⟩=>k δ h σ H s
theorem ah (h1:DS X st t) (h2:DSs X rest u):DSs X (st :: rest) (dSeq t u) :=
 PSs.imp (bH h1 h2) fun E σ H ⟨G,δ,P,R,s,h,k1,k2,k3,k4⟩=>⟨G,δ,P,{ R with nx:=u R },s,h,fun δ' h' σ' H' s'=>⟨G,δ',P,R,s',h',k1,k2,k3,k4⟩,k2,k3,k4⟩
theorem aj (h1:DS X st t):DSs X [st] t:=bN h1
theorem aN (he:DE X e ta):DS X (.Return (some e) pos) (dRet ta) :=
 PS.imp (ig he) fun E σ H ⟨G,δ,P,R,s,h,_,k,_⟩=>up.mk s h fun x δ1 h1 v H1 s1=>k.1 x δ1 h1 v σ H1 s1
theorem bL {aa bb:List Stmt} (hc:DT X c tA) (ha:DSs X aa t) (hb:DSs X bb u):DS X (.If c aa bb pos) (dIf tA t u) :=
 PS.imp (lT hc ha hb) fun E σ H ⟨G,δ,P,R,s,h,k1,k2,k3,k4⟩=>⟨G,δ,P,_,s,h,fun b δ1 h1 H1 s1=>by
  cases b with
  | true=>exact⟨G,δ1,P,R,s1,h1,k1,k2,k3,k4⟩
  | false=>exact⟨G,δ1,P,R,s1,h1,k1,k2,k3,k4⟩⟩
theorem aY (i:Nat) {x:Str} {pos':Pos} (hN:X.N.Nodup) (he:DE X e ta) (hi:X.N[i]?=some x:=by rfl) (hx:Loc X.env.scope x:=by first | exact Or.inl rfl | exact Or.inr rfl) (hs:swapsWith e (some (.Name x pos')) pos.line X.env=pure false:=by rfl)
  (hf:X.fn x=true∨X.env.scope.names.lookup x=some .local :=by walk_at "v1"):DS X (.Assign [.Name x pos'] e pos) (dSet i ta) :=
 PS.imp (hG hN hi hx he hs hf) fun E σ H ⟨G,δ,P,R,s,h,k,_⟩=>up.mk s h fun x δ1 h1 v H1 s1=>k _ h1 _ H1 (s1.set (by simp) fun p hp=>by simp [hp])
theorem iO (i:Nat) {x:Str} (hN:X.N.Nodup) (hi:X.N[i]?=some x:=by rfl) (hx:Loc X.env.scope x:=by first | exact Or.inl rfl | exact Or.inr rfl) (hf:X.fn x=true∨X.env.scope.names.lookup x=some .local :=by walk_at "v1") :
  DG X (.Name x pos) (g8 i):=PG.imp (iU hN hi hx hf) fun v σ H Q ⟨G,δ,P,d,R,s,h,k⟩=>k _ h _ H (s.set (by simp) fun p hp=>by simp [hp])
theorem kU (i j:Nat) {x y:Str} {px py pt pt2:Pos} {kt k2} (hc:X.calm=true) (hN:X.N.Nodup) (hij:i≠j) (ha:DA X [a,b] tda) (hi:X.N[i]?=some x:=by rfl) (hj:X.N[j]?=some y:=by rfl)
  (hx:X.env.scope.names.lookup x=some .local :=by rfl) (hy:X.env.scope.names.lookup y=some .local :=by rfl) (hw:swappedStores [.Tuple [.Name x px,.Name y py] kt pt] (.Tuple [a,b] k2 pt2) X.env=pure (some [x,y]):=by rfl)
  (hs:swapsWithSole [.Tuple [.Name x px,.Name y py] kt pt] (.Tuple [a,b] k2 pt2) pos.line X.env=pure false:=by rfl) :
  DS X (.Assign [.Tuple [.Name x px,.Name y py] kt pt] (.Tuple [a,b] k2 pt2) pos) (dPar i j tda) :=
 PS.imp (kA hc hN hi hj hij hx hy ha hw hs) fun E σ H ⟨G,δ,P,R,s,h,k,_⟩=>⟨G,δ,P,_,s,h,fun ds δ1 ⟨x,y,e,h1⟩ vs H1 hl s1=>by
  subst e
  match vs,hl with
  | [v,w],_=>exact⟨v,w,rfl,k _ h1 _ H1 ((s1.set (P':=(x,v) :: (y,w) :: P) (i:=i) (d:=x) (v:=v) (by simp) fun p hp=>by simpa using hp).set (by simp) fun p hp=>by simp [hp])⟩⟩
theorem d7 (hp:PassesOwn (model X.prog X.w) X.A X.env X.xe) (hc:DT X c tA) (hb:DSs X body t):DS X (.While c body [] pos) (kI tA t) :=
 PS.imp (gA hp hc hb) fun E σ H ⟨G,δ,P,R,s,⟨I,μ,i0,turn⟩,k1,k2,k3,k4⟩=>by
  refine⟨fun m σ H=>∃ δ,m=μ δ∧I δ∧S X.K G δ P σ H,⟨_,δ,rfl,i0,s⟩,?_⟩
  rintro m σ H ⟨δ,rfl,i,s⟩
  refine⟨G,δ,P,_,s,turn δ i,fun b δ1 h1 H1 s1=>?_⟩
  cases b with
  | false=>exact k1 δ1 h1 σ H1 s1
  | true =>
   refine⟨fun σ' H'=>∃ δ',(I δ'∧μ δ' < μ δ)∧S X.K G δ' P σ' H',fun σ' H' ⟨δ',⟨i',l⟩,s'⟩=>⟨_,l,δ',rfl,i',s'⟩,?_⟩
   exact⟨G,δ1,P,_,s1,h1,fun δ' h' σ' H' s'=>⟨δ',h',s'⟩,k2,k1,fun δ' h' σ' H' s'=>⟨δ',h',s'⟩,fun z=>z.elim⟩
theorem iz {p pos':Pos} (hp:PassesOwn (model X.prog X.w) X.A X.env X.xe) (hc:X.calm=true) (hgl:Gl X "range") (hm:X.mg "range"=none) (ha:DA X [a] tda) (hg:DG X tg g) (hb:DSs X body t)
  (hse:starEach [a] X.env=[(false,eval a X.env)]:=by rfl) (hs:∀ x,foldedSetIterable (.Call (.Name "range" p) [a] [] pos') X.env x=pure x:=by intro _;rfl) :
  DS X (.For tg (.Call (.Name "range" p) [a] [] pos') body [] pos) (jZ tda g t) :=
 PS.imp (jR hp hc (fe hgl hm ha hse) hg hb hs) fun E σ H ⟨G,δ,P,R,s,h,k1,k2,k3,k4⟩=>⟨G,δ,P,_,s,h,fun ds δ1 h1 vs H1 hl s1=>by
  obtain ⟨j,e,h1,h2,I,i0,turn,fin⟩:=h1
  subst e
  match vs,hl with
  | [v],_ =>
   have q:v=.int j:=by
    obtain ⟨A,x⟩:=s1
    have q:=x.pnd (.int j,v) (by simp)
    simpa only [Rep] using q
   subst q
   have s2:S X.K G δ1 P σ H1:=s1.sub fun p hp=>by simp [hp]
   refine⟨j,rfl,h1,h2,fR (lo:=0) (n:=j.toNat) (fun i σ H=>∃ δ,I i δ∧S X.K G δ P σ H) ⟨δ1,i0,s2⟩ (fun i σ H hi ⟨δ',ii,s'⟩=>?_) fun σ H ⟨δ',ii,s'⟩=>k1 δ' (fin δ' ii) σ H s'⟩
   refine⟨G,δ',P,.int (0 + i),_,s'.sc rfl,(by have q:=turn i δ' hi ii;rw [Int.zero_add];exact q),fun δ2 h2 σ2 H2 s2=>?_⟩
   exact⟨G,δ2,P,_,s2,h2,fun δ3 h3 σ3 H3 s3=>⟨δ3,h3,s3⟩,k2,k1,fun δ3 h3 σ3 H3 s3=>⟨δ3,h3,s3⟩,fun z=>z.elim⟩⟩
end
end DL
namespace DL
open PySem PySem.Spec PyProof.Rows L2
section
variable {K:PySem.W.Frag} {M:Addr→Prop} {H:Hp}
theorem ku {a:D} {x:V} (h:Reps K M H [a] [x]):Rep K M H a x:=by
 unfold Reps at h
 obtain ⟨v,r,e,q,_⟩:=h
 cases e
 exact q
theorem a9 {a b:D} {x y:V} (h:Reps K M H [a,b] [x,y]):Rep K M H a x∧Rep K M H b y:=by
 unfold Reps at h
 obtain ⟨v,r,e,q,h⟩:=h
 cases e
 exact⟨q,ku h⟩
theorem bJ {a:D} {vs:List V} (h:Reps K M H [a] vs):∃ x,vs=[x]∧Rep K M H a x:=by
 unfold Reps at h
 obtain ⟨v,r,e,q,h⟩:=h
 unfold Reps at h
 subst h
 exact⟨v,e,q⟩
theorem az {i:Int} {v:V} (h:Rep K M H (.int i) v):v=.int i:=by unfold Rep at h;exact h
theorem cC {i:Bool} {v:V} (h:Rep K M H (.bl i) v):v=.bl i:=by unfold Rep at h;exact h
theorem bZ {i:Str} {v:V} (h:Rep K M H (.str i) v):v=.str i:=by unfold Rep at h;exact h
end
def fI0 (g:Int→Int→D):List D→(D→Prop)→Prop:=fun ds R=>∃ i j,ds=[.int i,.int j]∧R (g i j)
def fI (C:Int→Int→Prop) (g:Int→Int→D):List D→(D→Prop)→Prop:=fun ds R=>∃ i j,ds=[.int i,.int j]∧C i j∧R (g i j)
def fU (g:Int→D):List D→(D→Prop)→Prop:=fun ds R=>∃ i,ds=[.int i]∧R (g i)
theorem kd {g:Int→Int→D} {a b:Int} {R:D→Prop}:fI0 g [.int a,.int b] R↔R (g a b):=by
 unfold fI0
 constructor
 ·rintro ⟨i,j,e,r⟩;cases e;exact r
 ·exact fun r=>⟨a,b,rfl,r⟩
theorem lK {C:Int→Int→Prop} {g:Int→Int→D} {a b:Int} {R:D→Prop}:fI C g [.int a,.int b] R↔C a b∧R (g a b):=by
 unfold fI
 constructor
 ·rintro ⟨i,j,e,r⟩;cases e;exact r
 ·exact fun r=>⟨a,b,rfl,r⟩
theorem lW {g:Int→D} {a:Int} {R:D→Prop}:fU g [.int a] R↔R (g a):=by
 unfold fU
 constructor
 ·rintro ⟨i,e,r⟩;cases e;exact r
 ·exact fun r=>⟨a,rfl,r⟩
def CFd (_ j:Int):Prop:=j≠0∧j.natAbs.log2 < 9000
def CNz (_ j:Int):Prop:=j≠0
section
variable {X:Cx}
theorem opI0 {f:Value→Value→Sem Value} {g':Int→Int→V} {g:Int→Int→D} (h:OpR X f (rI0 g')) (hs:∀ i j,sc (g i j)=some (g' i j)):OpR X f fun x y=>aC X.K (fI0 g) [x,y] :=
 OpR.imp h fun x y H Q ⟨M,ds,R,m,rs,⟨i,j,e,r⟩,k⟩=>by
  subst e
  obtain ⟨h1,h2⟩:=a9 rs
  exact⟨i,j,az h1,az h2,k _ r _ H (Same.refl H) (Rep.sc (hs i j))⟩
theorem opI {f:Value→Value→Sem Value} {C C':Int→Int→Prop} {g':Int→Int→V} {g:Int→Int→D} (h:OpR X f (rI C' g')) (hs:∀ i j,sc (g i j)=some (g' i j)) (hc:∀ i j,C i j→C' i j):OpR X f fun x y=>aC X.K (fI C g) [x,y] :=
 OpR.imp h fun x y H Q ⟨M,ds,R,m,rs,⟨i,j,e,c,r⟩,k⟩=>by
  subst e
  obtain ⟨h1,h2⟩:=a9 rs
  exact⟨i,j,az h1,az h2,hc i j c,k _ r _ H (Same.refl H) (Rep.sc (hs i j))⟩
theorem l7:OpR X (binaryOp .Add) fun x y=>aC X.K (fI0 fun i j=>.int (i + j)) [x,y]:=opI0 kK fun _ _=>rfl
theorem iK:OpR X (binaryOp .Sub) fun x y=>aC X.K (fI0 fun i j=>.int (i - j)) [x,y]:=opI0 ky fun _ _=>rfl
theorem iN:OpR X (binaryOp .Mult) (rI IntMulOk fun i j=>.int (i * j)):=L2.opI fun _ _ _ _ _ _ _ hc q=>mul_int q hc
theorem gJ:OpR X (binaryOp .Mult) fun x y=>aC X.K (fI IntMulOk fun i j=>.int (i * j)) [x,y]:=opI iN (fun _ _=>rfl) fun _ _ h=>h
theorem g5:OpR X (binaryOp .FloorDiv) (rI CFd fun i j=>.int (i.fdiv j)):=L2.opI fun _ _ _ _ _ _ _ hc q=>floordiv_int hc.1 q (.inl (PyProof.noPylong_of_log2 hc.2))
theorem cb:OpR X (binaryOp .FloorDiv) fun x y=>aC X.K (fI CFd fun i j=>.int (i.fdiv j)) [x,y]:=opI g5 (fun _ _=>rfl) fun _ _ h=>h
theorem fD:OpR X (binaryOp .Mod) fun x y=>aC X.K (fI CNz fun i j=>.int (i.fmod j)) [x,y]:=opI im (fun _ _=>rfl) fun _ _ h=>h
theorem ke:OpR X (binaryOp .Pow) fun x y=>aC X.K (fI CPow fun i j=>.int (i ^ j.toNat)) [x,y]:=opI jQ (fun _ _=>rfl) fun _ _ h=>h
theorem o_lt:OpR X (compareOp .Lt) fun x y=>aC X.K (fI0 fun i j=>.bl (decide (i < j))) [x,y]:=opI0 lR fun _ _=>rfl
theorem lF:UnR X (unaryOp .USub) fun x=>aC X.K (fU fun i=>.int (-i)) [x] :=
 UnR.imp kX fun x H Q ⟨M,ds,R,m,rs,⟨i,e,r⟩,k⟩=>by
  subst e
  exact⟨i,az (ku rs),k _ r _ H (Same.refl H) (Rep.sc rfl)⟩
theorem i9:bm X (.builtin "abs") (aC X.K (fU fun i=>.int (if i < 0 then -i else i))) :=
 bm.imp gv fun xs H Q ⟨M,ds,R,m,rs,⟨i,e,r⟩,k⟩=>by
  subst e
  obtain ⟨x,e,q⟩:=bJ rs
  subst e
  exact⟨i,by rw [az q],k _ r _ H (Same.refl H) (Rep.sc rfl)⟩
def fLen:List D→(D→Prop)→Prop
 | [.lst xs],R=>R (.int xs.length)
 | [.fz xs],R=>R (.int xs.length)
 | [.tup xs],R=>R (.int xs.length)
 | _,_=>False
theorem iX {d0:List D} {R:D→Prop} (h:fLen d0 R):(∃ (xs:List D),d0=[.lst xs]∧R (.int xs.length))∨(∃ (xs:List D),d0=[.fz xs]∧R (.int xs.length))∨(∃ (xs:List D),d0=[.tup xs]∧R (.int xs.length)):=by
 rcases d0 with _ | ⟨a,_ | ⟨b,l⟩⟩
 ·exact False.elim h
 ·cases a<;>first | exact False.elim h | exact .inl ⟨_,rfl,h⟩ | exact .inr (.inl ⟨_,rfl,h⟩) | exact .inr (.inr ⟨_,rfl,h⟩)
 ·cases a<;>exact False.elim h
theorem lO:bm X (.builtin "len") (aC X.K fLen) :=
 bm.imp cQ fun xs H Q ⟨M,ds,R,m,rs,h,k⟩=>by
  have fin:∀ n:Nat,R (.int n)→Q (.int n) H:=fun n r=>k _ r _ H (Same.refl H) (Rep.sc rfl)
  replace h:=iX h
  rcases h with ⟨_,rfl,h⟩ | ⟨_,rfl,h⟩ | ⟨_,rfl,h⟩
  ·obtain ⟨x,e,q⟩:=bJ rs
   unfold Rep at q
   obtain ⟨a,vs,e2,_,l,r⟩:=q
   subst e e2
   exact⟨a,vs,rfl,.inl (SqL.of l),fin _ (by rw [← Reps.length _ _ r];exact h)⟩
  ·obtain ⟨x,e,q⟩:=bJ rs
   unfold Rep at q
   obtain ⟨a,vs,e2,l,r⟩:=q
   subst e e2
   exact⟨a,vs,rfl,.inl l.seq,fin _ (by rw [← Reps.length _ _ r];exact h)⟩
  ·obtain ⟨x,e,q⟩:=bJ rs
   unfold Rep at q
   obtain ⟨a,vs,e2,l,r⟩:=q
   subst e e2
   exact⟨a,vs,rfl,.inr l,fin _ (by rw [← Reps.length _ _ r];exact h)⟩
def fInt:List D→(D→Prop)→Prop
 | [.int i],R=>R (.int i)
 | [.bl b],R=>R (.int (if b then 1 else 0))
 | _,_=>False
def fIx:List D→(D→Prop)→Prop
 | [.tup xs,.int i],R=>∃ v,atI xs i=some v∧R v
 | [.lst xs,.int i],R=>∃ v,atI xs i=some v∧R v
 | [.fz xs,.int i],R=>∃ v,atI xs i=some v∧R v
 | [.str z,.int i],R=>z.length≤9000∧∃ c,atI z.cps.toList i=some c∧R (.str ⟨#[c]⟩)
 | _,_=>False
theorem kq {d0:List D} {R:D→Prop} (h:fIx d0 R):(∃ (xs:List D) (i:Int),d0=[.tup xs,.int i]∧∃ v,atI xs i=some v∧R v)∨(∃ (xs:List D) (i:Int),d0=[.lst xs,.int i]∧∃ v,atI xs i=some v∧R v)∨(∃ (xs:List D) (i:Int),d0=[.fz xs,.int i]∧∃ v,atI xs i=some v∧R v)∨(∃ (z:Str) (i:Int),d0=[.str z,.int i]∧z.length≤9000∧∃ c,atI z.cps.toList i=some c∧R (.str ⟨#[c]⟩)):=by
 rcases d0 with _ | ⟨a,_ | ⟨b,_ | ⟨c,l⟩⟩⟩
 ·exact False.elim h
 ·cases a<;>exact False.elim h
 ·cases a<;>first | exact False.elim h | (cases b<;>first | exact False.elim h | exact .inl ⟨_,_,rfl,h⟩ | exact .inr (.inl ⟨_,_,rfl,h⟩) | exact .inr (.inr (.inl ⟨_,_,rfl,h⟩)) | exact .inr (.inr (.inr ⟨_,_,rfl,h⟩)))
 ·cases a<;>first | exact False.elim h | (cases b<;>exact False.elim h)
theorem jt {α β:Type} {xs:List α} {ys:List β} (h:xs.length=ys.length) {i:Int} {v:α} (e:atI xs i=some v):∃ j:Nat,xs[j]?=some v∧∀ w,ys[j]?=some w→atI ys i=some w:=by
 unfold atI at e ⊢
 rw [h] at e
 cases q:ixN ys.length i with
 | none=>rw [q] at e;cases e
 | some j=>rw [q] at e;exact⟨j,e,fun w z=>z⟩
theorem bS:IxR X fun x y=>aC X.K fIx [x,y] :=
 IxR.imp kZ fun x y H Q ⟨M,ds,R,m,rs,h,k⟩=>by
  have fin:∀ (xs:List D) (vs:List V) (i:Int) (d:D),Reps X.K M H xs vs→atI xs i=some d→R d→∃ v,atI vs i=some v∧Q v H:=fun xs vs i d r e q=>by
   obtain ⟨j,h1,h2⟩:=jt (Reps.length _ _ r) e
   obtain ⟨v,e',r'⟩:=Reps.get _ _ r j d h1
   exact⟨v,h2 v e',k d q v H (Same.refl H) r'⟩
  replace h:=kq h
  rcases h with ⟨_,_,rfl,h⟩ | ⟨_,_,rfl,h⟩ | ⟨_,_,rfl,h⟩ | ⟨_,_,rfl,h⟩
  ·obtain ⟨d,e,q⟩:=h
   obtain ⟨h1,h2⟩:=a9 rs
   unfold Rep at h1
   obtain ⟨a,vs,e2,l,r⟩:=h1
   obtain ⟨v,e3,q3⟩:=fin _ _ _ _ r e q
   exact .inr (.inl ⟨a,vs,_,v,e2,az h2,l,e3,q3⟩)
  ·obtain ⟨d,e,q⟩:=h
   obtain ⟨h1,h2⟩:=a9 rs
   unfold Rep at h1
   obtain ⟨a,vs,e2,_,l,r⟩:=h1
   obtain ⟨v,e3,q3⟩:=fin _ _ _ _ r e q
   exact .inl ⟨a,vs,_,v,e2,az h2,SqL.of l,e3,q3⟩
  ·obtain ⟨d,e,q⟩:=h
   obtain ⟨h1,h2⟩:=a9 rs
   unfold Rep at h1
   obtain ⟨a,vs,e2,l,r⟩:=h1
   obtain ⟨v,e3,q3⟩:=fin _ _ _ _ r e q
   exact .inl ⟨a,vs,_,v,e2,az h2,l.seq,e3,q3⟩
  ·obtain ⟨hz,c,e,q⟩:=h
   obtain ⟨h1,h2⟩:=a9 rs
   exact .inr (.inr ⟨_,_,c,bZ h1,az h2,gq hz,e,k _ q _ H (Same.refl H) (Rep.sc rfl)⟩)
def fCat:List D→(D→Prop)→Prop
 | [.lst xs,.lst ys],R=>xs.length + ys.length≤9000∧R (.lst (xs++ys))
 | _,_=>False
theorem iT {d0:List D} {R:D→Prop} (h:fCat d0 R):∃ (xs:List D) (ys:List D),d0=[.lst xs,.lst ys]∧xs.length + ys.length≤9000∧R (.lst (xs++ys)):=by
 rcases d0 with _ | ⟨a,_ | ⟨b,_ | ⟨c,l⟩⟩⟩
 ·exact False.elim h
 ·cases a<;>exact False.elim h
 ·cases a<;>first | exact False.elim h | (cases b<;>first | exact False.elim h | exact⟨_,_,rfl,h⟩)
 ·cases a<;>first | exact False.elim h | (cases b<;>exact False.elim h)
theorem lI:OpR X (binaryOp .Add) fun x y=>aC X.K fCat [x,y] :=
 OpR.imp k8 fun x y H Q ⟨M,ds,R,m,rs,h,k⟩=>by
  replace h:=iT h
  obtain ⟨_,_,rfl,h⟩:=h
  ·obtain ⟨hz,q⟩:=h
   obtain ⟨h1,h2⟩:=a9 rs
   unfold Rep at h1 h2
   obtain ⟨a,vs,e,_,l,r⟩:=h1
   obtain ⟨b,ws,e',_,l',r'⟩:=h2
   refine⟨a,b,vs,ws,e,e',l,l',gq (by rw [← Reps.length _ _ r,← Reps.length _ _ r'];exact hz),fun p hp=>k _ q _ _ (ak hp _) ?_⟩
   unfold Rep
   exact⟨p,vs++ws,rfl,fun z=>m p z hp,af,Reps.kp (Kp.of_same (ak hp _)) _ _ (Reps.append _ _ _ _ r r')⟩
def cut {α:Type} (xs:List α) (lo hi:Option Int):List α:=(xs.drop (HT.sIx xs.length 0 lo)).take (HT.sIx xs.length xs.length hi - HT.sIx xs.length 0 lo)
abbrev TDO:=En→(Option Int→En→Prop)→Prop
inductive UpO (K:PySem.W.Frag) (t:TDO) (σ:L2.St) (H:Hp) (Q:Option Int→Hp→Prop):Prop
 | mk (G:Gf) (δ:En) (P:List (D×V)) (R:Option Int→En→Prop) (s:S K G δ P σ H) (h:t δ R) (k:∀ o δ',R o δ'→∀ H',S K G δ' P σ H'→Q o H')
def upO (K:PySem.W.Frag) (t:TDO):TO:=UpO K t
def DO (X:Cx) (e:Option Expr) (t:TDO):Prop:=PO X e (upO X.K t)
def fJ:TDO:=fun δ R=>R none δ
def kM (t:TDE):TDO:=fun δ R=>t δ (wd fun x δ1=>∃ i,x=.int i∧R (some i) δ1)
theorem PO.imp {e:Option Expr} {t t':TO} (h:PO X e t) (i:∀ σ H Q,t' σ H Q→t σ H Q):PO X e t':=fun pins s σ H Q I q=>h pins s σ H Q I (i σ H Q q)
theorem jN:DO X none fJ:=PO.imp iC fun σ H Q ⟨G,δ,P,R,s,h,k⟩=>k none δ h H s
theorem i5 {e:Expr} {te:TDE} (h:DE X e te):DO X (some e) (kM te):=PO.imp (ji h) fun σ H Q ⟨G,δ,P,R,s,h,k⟩=>up.mk s h fun x δ1 h1 v H1 s1=>by
 obtain ⟨i,e,r⟩:=h1
 subst e
 obtain ⟨A,q⟩:=id s1
 exact⟨i,az (q.pnd (.int i,v) (by simp)),k _ δ1 r H1 (s1.sub fun p hp=>by simp [hp])⟩
def fSl:D→Option Int→Option Int→(D→Prop)→Prop
 | .lst xs,lo,hi,R=>R (.lst (cut xs lo hi))
 | .fz xs,lo,hi,R=>R (.lst (cut xs lo hi))
 | .tup xs,lo,hi,R=>¬ (HT.sIx xs.length 0 lo=0∧HT.sIx xs.length xs.length hi=xs.length)∧R (.tup (cut xs lo hi))
 | _,_,_,_=>False
def dSl (te:TDE) (tl th:TDO):TDE:=fun δ R=>te δ (wd fun x δ1=>tl δ1 fun l δ2=>th δ2 fun u δ3=>fSl x l u fun d=>R (.d d) δ3)
theorem Reps.cut {K:PySem.W.Frag} {M:Addr→Prop} {H:Hp} {ds:List D} {vs:List V} (lo hi:Option Int) (r:Reps K M H ds vs):Reps K M H (DL.cut ds lo hi) (cutV vs lo hi):=by
 unfold DL.cut cutV
 rw [Reps.length _ _ r]
 exact Reps.take _ _ _ (Reps.drop _ _ _ r)
theorem jW {e:Expr} {te:TDE} {lo hi:Option Expr} {tl th:TDO} {p2 pos:Pos} (he:DE X e te) (hl:DO X lo tl) (hu:DO X hi th):DE X (.Subscript e (.Slice lo hi none p2) pos) (dSl te tl th) :=
 PE.imp (gY (jx.or km) he hl hu) fun σ H Q ⟨G,δ,P,R,s,h,k,_⟩=>up.mk s h fun x δ1 h1 v H1 s1=>⟨G,δ1,(x,v) :: P,_,s1,h1,fun l δ2 h2 H2 s2=>⟨G,δ2,(x,v) :: P,_,s2,h2,fun u δ3 h3 H3 s3=>by
  obtain ⟨A,q⟩:=id s3
  have r:=q.pnd (x,v) (by simp)
  cases x with
  | lst xs =>
   have h3:R (.d (.lst (cut xs l u))) δ3:=h3
   simp only [Rep] at r
   obtain ⟨a,vs,e,_,sq,r⟩:=r
   refine .inl ⟨a,vs,e,SqL.of sq,fun p hp=>?_⟩
   have x2:=(q.same (ak hp (.lst (cutV vs l u))))
   refine k _ δ3 h3 (.ref p) _ ⟨A,(x2.sub (P':=P) fun p hp=>mo _ hp).push ?_⟩
   unfold Rep
   exact⟨p,_,rfl,fun z=>q.mem p z hp,af,Reps.kp (Kp.of_same (ak hp _)) _ _ (Reps.cut l u r)⟩
  | fz xs =>
   have h3:R (.d (.lst (cut xs l u))) δ3:=h3
   simp only [Rep] at r
   obtain ⟨a,vs,e,sq,r⟩:=r
   refine .inl ⟨a,vs,e,sq.seq,fun p hp=>?_⟩
   have x2:=(q.same (ak hp (.lst (cutV vs l u))))
   refine k _ δ3 h3 (.ref p) _ ⟨A,(x2.sub (P':=P) fun p hp=>mo _ hp).push ?_⟩
   unfold Rep
   exact⟨p,_,rfl,fun z=>q.mem p z hp,af,Reps.kp (Kp.of_same (ak hp _)) _ _ (Reps.cut l u r)⟩
  | tup xs =>
   have h3:¬ (HT.sIx xs.length 0 l=0∧HT.sIx xs.length xs.length u=xs.length)∧R (.d (.tup (cut xs l u))) δ3:=h3
   simp only [Rep] at r
   obtain ⟨a,vs,e,sq,r⟩:=r
   obtain ⟨nf,h3⟩:=h3
   refine .inr ⟨a,vs,e,sq,by rw [← Reps.length _ _ r];exact nf,fun p hp=>?_⟩
   have x2:=(q.same (ak hp (.tup (cutV vs l u))))
   refine k _ δ3 h3 (.ref p) _ ⟨A,(x2.sub (P':=P) fun p hp=>mo _ hp).push ?_⟩
   unfold Rep
   exact⟨p,_,rfl,SqT.of af,Reps.kp (Kp.of_same (ak hp _)) _ _ (Reps.cut l u r)⟩
  | _=>exact (show False from h3).elim⟩⟩
end
end DL
namespace DL
open PySem PySem.Spec PyProof.Rows L2
def bh (N:List Str) (ds:List D):En:=ds.map Sl.dat++List.replicate (N.length - ds.length) Sl.no
theorem fE {K:PySem.W.Frag} {f:List D→(D→Prop)→Prop} {vs:List V} {H:Hp} {Q:VK} {n:Nat} (h:aC K f vs H Q) (len:∀ ds R,f ds R→ds.length=n):vs.length=n:=by
 obtain ⟨M,ds,R,m,rs,hf,k⟩:=h
 rw [← Reps.length _ _ rs]
 exact len ds R hf
theorem fX {K:PySem.W.Frag} {M:Addr→Prop} {ds:List D} {vs:List V} {H:Hp} (N:List Str) (m:∀ b,M b→H b≠none) (rs:Reps K M H ds vs):S K ⟨M,H,fun _=>False⟩ (bh N ds) [] (L2.start N vs) H:=by
 have hl:=Reps.length _ _ rs
 refine⟨fun _=>False,fun b o e _=>e,fun b e=>e,m,fun b h=>h.elim,fun b h=>h.elim,fun b h=>h.elim,?_,fun i d e=>?_,fun i a d e=>?_,fun i j a d e h1 h2=>?_,fun p hp=>(nomatch hp)⟩
 ·unfold bh L2.start
  rw [my,my,mn,mn,List.length_replicate,List.length_replicate,hl]
 ·unfold bh at e
  unfold L2.start
  by_cases hi:i < ds.length
  ·rw [mG (by rw [mn];exact hi),mC] at e
   cases hd:ds[i]? with
   | none=>rw [hd] at e;cases e
   | some d' =>
    rw [hd] at e
    cases e
    obtain ⟨v,ev,rv⟩:=Reps.get _ _ rs i d hd
    refine⟨v,?_,Rep.more (fun b z=>.inl (z.elim id fun q=>q.elim)) _ _ rv⟩
    rw [mG (by rw [mn];omega),mC,ev]
    rfl
  ·rw [mF (by rw [mn];omega),List.getElem?_replicate] at e
   split at e<;>cases e
 all_goals
  unfold bh at *
  exfalso
 ·by_cases hi:i < ds.length
  ·rw [mG (by rw [mn];exact hi),mC] at e
   cases hd:ds[i]? with
   | none=>rw [hd] at e;cases e
   | some d'=>rw [hd] at e;cases e
  ·rw [mF (by rw [mn];omega),List.getElem?_replicate] at e
   split at e<;>cases e
 ·by_cases hi:i < ds.length
  ·rw [mG (by rw [mn];exact hi),mC] at h1
   cases hd:ds[i]? with
   | none=>rw [hd] at h1;cases h1
   | some d'=>rw [hd] at h1;cases h1
  ·rw [mF (by rw [mn];omega),List.getElem?_replicate] at h1
   split at h1<;>cases h1
structure Fd (K:PySem.W.Frag) (mg:Str→Option Value) (x:Str) (st:Stmt) (ps:List Str):Prop where
 ex:∃ (a:Addr) (fd:FuncData),Fun K x x st a fd∧bi K fd ps []∧mg x=some (.ref a)
structure Cal (P:Program) (w:World) (K:PySem.W.Frag) (mg:Str→Option Value) (base:Heap) (k:Nat) (x:Str) (ps:List Str) (sp:Sp):Prop where
 ex:∃ (a:Addr) (fd:FuncData),FnOk P w K mg base CX0 k a fd ps sp∧bi K fd ps []∧PySem.W.keepIn K (.ref a)=true∧mg x=some (.ref a)
section
variable {P:Program} {w:World} {K:PySem.W.Frag} {mg:Str→Option Value} {base:Heap}
theorem la {x:Str} {st:Stmt} {N ps:List Str} {k:Nat} {a:Addr} {fd:FuncData} {f:List D→(D→Prop)→Prop} (Fu:Fun K x x st a fd) (Sc:aw N ps (ae st)) (len:∀ ds R,f ds R→ds.length=ps.length)
    (hbody:∀ (cdv:Value) (A:Around) (outer:List Env) (s:Shared) (H:Hp) (E:XK) (ds:List D) (R:D→Prop),Room k (A.deeper (envOfC x (ae st) s.heap.objs.size a cdv))→f ds R →
      ∃ t,DSs (cxOf CX0 P w K mg base N x (ae st) a cdv A outer s H E).nox (au st) t∧t { nx:=fun _=>R .non,rt:=fun d _=>R d,ro:=R } (bh N ds)) :
    FnOk P w K mg base CX0 (k + 1) a fd ps (spD K f):=by
  refine Fu.ok Sc (fun vs H Q E h=>fE h len) (fun cdv A outer s H vs Q E hr h=>?_)
  obtain ⟨M,ds,R,hm,rs,hf,hk⟩:=h
  obtain ⟨t,ht,hq⟩:=hbody cdv A outer s H E ds R hr hf
  refine⟨_,ht,⟨M,H,fun _=>False⟩,bh N ds,[],_,fX N hm rs,hq,fun δ' r σ' H' ⟨A',x⟩=>?_,⟨fun d δ' r v σ' H' ⟨A',x⟩=>?_,fun d r a H' ⟨o1,o2,o3,o4⟩=>hk d r (.ref a) H' (fun b o e=>o1 b o e id) (o4.rep o3 fun b z=>.inl z),fun _ _ _ z=>z.elim⟩,fun _ h=>h.elim,fun _ h=>h.elim,fun z=>z.elim⟩
  · exact hk .non r .non H' (fun b o e=>x.old b o e id) (by unfold Rep;rfl)
  · exact hk d r v H' (fun b o e=>x.old b o e id) (Rep.more (fun b z=>.inl (.inl z)) _ _ (x.pnd (d,v) (by simp)))
theorem fn_D {x:Str} {st:Stmt} {N ps:List Str} {k:Nat} {f:List D→(D→Prop)→Prop} (F:Fd K mg x st ps) (Sc:aw N ps (ae st)) (len:∀ ds R,f ds R→ds.length=ps.length)
    (hbody:∀ (a:Addr) (cdv:Value) (A:Around) (outer:List Env) (s:Shared) (H:Hp) (E:XK) (ds:List D) (R:D→Prop),Room k (A.deeper (envOfC x (ae st) s.heap.objs.size a cdv))→f ds R →
      ∃ t,DSs (cxOf CX0 P w K mg base N x (ae st) a cdv A outer s H E).nox (au st) t∧t { nx:=fun _=>R .non,rt:=fun d _=>R d,ro:=R } (bh N ds)) :
    Cal P w K mg base (k + 1) x ps (spD K f):=by
  obtain ⟨a,fd,Fu,b,m⟩:=F.ex
  exact⟨a,fd,la Fu Sc len (hbody a),b,Fu.kp,m⟩
theorem ba {X:Cx} {a:Expr} {es:List Expr} {t:TDA} {f:List D→(D→Prop)→Prop} {x:Str} {k:Nat} {ps:List Str} {p pos:Pos} (C:Cal X.prog X.w X.K X.mg X.base k x ps (spD X.K f)) (hr:Room k X.A) (hg:Gl X x) (ha:DA X (a :: es) t)
  (hdb:(x == ("__debug__":Str))=false:=by decide) (he:starEach (a :: es) X.env=(false,eval a X.env) :: starEach es X.env:=by rfl) (hpl:(backTo pos (starEach es X.env)).any (·.1)=false:=by rfl) :
  DE X (.Call (.Name x p) (a :: es) [] pos) (fi f t):=by
 obtain ⟨g,fd,F,b,kp,m⟩:=C.ex
 exact ip F hr hg m kp b ha hdb he hpl
def iH (K:PySem.W.Frag):Sp:=fun vs H Q _=>∃ (a:Addr) (ns:List Int),vs=[.ref a]∧SqL K H a (ns.map V.int)∧Only H∧ns.length≤63∧(∀ n∈ns,Builtin.Int.intBits n≤1048576)∧∀ H',Q (.bl true) H'
def fLaw:List D→(D→Prop)→Prop:=fun ds R=>∃ ns:List Int,ds=[.fz (ns.map D.int)]∧ns.length≤63∧(∀ n∈ns,Builtin.Int.intBits n≤1048576)∧R (.bl true)
theorem lD {k:Nat} {ps:List Str} {a:Addr} {fd:FuncData} (F:FnOk P w K mg base CX0 k a fd ps (spD K fLaw)):FnOk P w K mg base CX0 k a fd ps (iH K) :=
 F.imp fun vs H Q E ⟨l,ns,e,sq,on,h63,hb,q⟩=>by
  subst e
  refine⟨fun _=>False,[.fz (ns.map D.int)],fun d=>d=.bl true,fun _ h=>h.elim,Reps.one ?_,⟨ns,rfl,h63,hb,rfl⟩,fun d e v H' _ r=>?_⟩
  ·unfold Rep
   refine⟨l,ns.map V.int,rfl,?_,Reps.ints ns⟩
   rcases sq with (h | ⟨o,h⟩) | h
   ·rcases on l with z | ⟨o,xs,z⟩
    ·rw [z] at h;cases h
    ·rw [z] at h;cases h
   ·exact .inl ⟨o,h⟩
   ·exact .inr (.inr h)
  ·subst e
   rw [cC r]
   exact q H'
end
end DL
namespace DLH
open PySem PySem.W PySem.Calls PyProof.Rows
theorem bU {ns:List Int} (h:WData.layableAll [.list (ns.map .int)]=true):∀ n∈ns,Builtin.Int.intBits n≤1048576:=fun n hn=>by
 have h1:=layableW_arg h _ (mD.mpr rfl)
 have h2:=layableW_item h1 (.int n) (List.mem_map.mpr ⟨n,hn,rfl⟩)
 have h3:=(layableW_iff.mp h2).2.2
 simpa only [WData.weight,Builtin.Int.intBits] using h3
theorem attach_callB {l:OpenLaw} {n:Nat} {q:Program} {loose:List Str} {XP:(Str→Option Value)→Heap→Prop} {YP:World→Heap→Prop} {d:DefRec}
    (hn:l.most=some n) (hdf:d.params.defaults=[])
    (call:∀ (w:World) (s₀ s₁:Shared) (mg mb:Str→Option Value) (fa:Addr) (o:Obj) (pm cd doc:Value) (a:Addr) (vs:List Value) (ns:List Int),
      Ground q loose [] XP w s₀ mg mb s₁.heap→YP w s₁.heap →
      s₁.heap.get? fa=some o→o.data=.func (docDef d.name d.params d.body d.scope pm cd doc)→s₁.heap.CodeRec cd d.name→mg d.name=some (.ref fa) →
      s₁.heap.get? a=some { cls:=.type "list",data:=.seq vs.toArray }→IntsAre vs ns→ns.length≤n→(∀ i∈ns,Builtin.Int.intBits i≤1048576)→s₁.gens=#[] →
      codeAny (model l.prog w) callerA (.call (.ref fa) ⟨[.ref a],[]⟩) (fun r s'=>r=.ok (.ret (.bool true))∧OldK s₁.heap s'.heap∧s'.os=s₁.os∧AllBare s'.gens) s₁) :
    WalkO q loose XP YP l.row.toRowW d [] (fun f vs=>PySem.call f vs):=by
  intro w s₀ s₁ mg mb G Y fa o pm cd doc dV kV ho hd hcd hD hmg hg args vals as hpre hlay hrd hwl hlo
  obtain rfl:dV=.none:=Dflts.none hD hdf
  obtain rfl:kV=.none:=Dflts.noKw hD
  obtain ⟨a,vs,ns,rfl,rfl,hobj,hints,hlen⟩:=Att.script_of hn hpre hwl
  refine enter_call (codeAny_mono (call w s₀ s₁ mg mb fa o pm cd doc a vs ns G Y ho (fd_plain hd) hcd hmg hobj hints hlen (bU hlay) hg) fun r s' hq=>?_)
  obtain ⟨rfl,h2,h3,h4⟩:=hq
  exact⟨.inl ⟨.bool true,.bool true,[],rfl,fun _=>rfl,.bool true,Att.post_true l _,fun _=>⟨List.Pairwise.nil,fun _ hm=>(nomatch hm)⟩⟩,h2,h3,h4⟩
end DLH
namespace DL
open PySem PySem.Spec PyProof.Rows L2
theorem walkB {l:PySem.W.OpenLaw} {k:Nat} {q:Program} {loose:List Str} {XP:(Str→Option Value)→Heap→Prop} {YP:World→Heap→Prop} {d:DefRec} {K:Params→PySem.W.Frag} {x:Str}
    (hn:l.most=some 63) (hdf:d.params.defaults=[]) (hr:Room k PySem.callerA) (hY:∀ (w:World) (h:Heap),YP w h→(K w.params).In h)
    (F:∀ (w:World) (mg:Str→Option Value) (fa:Addr) (h:Heap),(K w.params).In h→h.Ns mainGlobals mg→mg d.name=some (.ref fa) →
      ∃ fd:FuncData,(∀ (s:Shared) (u:Value),BindsTo s fd ⟨[u],[]⟩ [(x,u)])∧∀ base:Heap,(K w.params).In base→base.Ns mainGlobals mg→FnOk l.prog w (K w.params) mg base CX0 k fa fd [x] (iH (K w.params))) :
    PySem.W.WalkO q loose XP YP l.row.toRowW d [] (fun f vs=>PySem.call f vs):=by
  refine DLH.attach_callB hn hdf fun w s₀ s₁ mg mb fa o pm cd doc a vs ns G Y ho hd hcd hmg hobj hints hlen hbits hg=>?_
  have KX:=hY w _ Y
  obtain ⟨fd,hb,hF⟩:=F w mg fa _ KX G.T.g hmg
  exact g4 KX G.T.g G.T.b G.T.builtins G.T.nolimit hg hobj hints (mq hlen (by decide)) hr hF hb (fun H hO hS=>⟨a,ns,rfl,hS,hO,hlen,hbits,fun _=>rfl⟩) fun H e s' z=>z
end DL
namespace DL
open PySem PySem.Spec PyProof.Rows L2
end DL
namespace DL
open PySem PySem.Spec PyProof.Rows L2
theorem l0:bootBuiltins "len"=some (.builtin "len"):=by decide +kernel
theorem iv:bootBuiltins "abs"=some (.builtin "abs"):=by decide +kernel
theorem aS:bootBuiltins "isinstance"=some (.builtin "isinstance"):=by decide +kernel
section
variable {X:Cx}
def ld:List D→(D→Prop)→Prop
 | [.tup xs,.tup ys],R=>xs≠[]∧ys≠[]∧xs.length + ys.length≤9000∧R (.tup (xs++ys))
 | _,_=>False
theorem gz {d0:List D} {R:D→Prop} (h:ld d0 R):∃ (xs:List D) (ys:List D),d0=[.tup xs,.tup ys]∧xs≠[]∧ys≠[]∧xs.length + ys.length≤9000∧R (.tup (xs++ys)):=by
 rcases d0 with _ | ⟨a,_ | ⟨b,_ | ⟨c,l⟩⟩⟩
 ·exact False.elim h
 ·cases a<;>exact False.elim h
 ·cases a<;>first | exact False.elim h | (cases b<;>first | exact False.elim h | exact⟨_,_,rfl,h⟩)
 ·cases a<;>first | exact False.elim h | (cases b<;>exact False.elim h)
theorem kN:OpR X (binaryOp .Add) fun x y=>aC X.K ld [x,y] :=
 OpR.imp jk fun x y H Q ⟨M,ds,R,m,rs,h,k⟩=>by
  replace h:=gz h
  obtain ⟨_,_,rfl,h⟩:=h
  ·obtain ⟨n1,n2,hz,q⟩:=h
   obtain ⟨h1,h2⟩:=a9 rs
   unfold Rep at h1 h2
   obtain ⟨a,vs,e,l,r⟩:=h1
   obtain ⟨b,ws,e',l',r'⟩:=h2
   have l1:=Reps.length _ _ r
   have l2:=Reps.length _ _ r'
   refine⟨a,b,vs,ws,e,e',l,l',fun z=>n1 (List.eq_nil_of_length_eq_zero (by rw [l1,z];rfl)),gq (by rw [← l1,← l2];exact hz),fun z=>absurd (List.eq_nil_of_length_eq_zero (by rw [l2,z];rfl)) n2,fun _ p hp=>k _ q _ _ (ak hp _) ?_⟩
   unfold Rep
   exact⟨p,vs++ws,rfl,SqT.of af,Reps.kp (Kp.of_same (ak hp _)) _ _ (Reps.append _ _ _ _ r r')⟩
def fN:List D→(D→Prop)→Prop
 | [.int i,.int j],R=>R (.int (i + j))
 | [.lst xs,.lst ys],R=>xs.length + ys.length≤9000∧R (.lst (xs++ys))
 | [.tup xs,.tup ys],R=>xs≠[]∧ys≠[]∧xs.length + ys.length≤9000∧R (.tup (xs++ys))
 | _,_=>False
theorem gS {d0:List D} {R:D→Prop} (h:fN d0 R):(∃ (i:Int) (j:Int),d0=[.int i,.int j]∧R (.int (i + j)))∨(∃ (xs:List D) (ys:List D),d0=[.lst xs,.lst ys]∧xs.length + ys.length≤9000∧R (.lst (xs++ys)))∨(∃ (xs:List D) (ys:List D),d0=[.tup xs,.tup ys]∧xs≠[]∧ys≠[]∧xs.length + ys.length≤9000∧R (.tup (xs++ys))):=by
 rcases d0 with _ | ⟨a,_ | ⟨b,_ | ⟨c,l⟩⟩⟩
 ·exact False.elim h
 ·cases a<;>exact False.elim h
 ·cases a<;>first | exact False.elim h | (cases b<;>first | exact False.elim h | exact .inl ⟨_,_,rfl,h⟩ | exact .inr (.inl ⟨_,_,rfl,h⟩) | exact .inr (.inr ⟨_,_,rfl,h⟩))
 ·cases a<;>first | exact False.elim h | (cases b<;>exact False.elim h)
theorem cN:OpR X (binaryOp .Add) fun x y=>aC X.K fN [x,y] :=
 OpR.imp (OpR.or (OpR.or l7 lI) kN) fun x y H Q ⟨M,ds,R,m,rs,h,k⟩=>by
  replace h:=gS h
  rcases h with ⟨_,_,rfl,h⟩ | ⟨_,_,rfl,h⟩ | ⟨_,_,rfl,h⟩
  ·exact .inl (.inl ⟨M,_,R,m,rs,⟨_,_,rfl,h⟩,k⟩)
  ·exact .inl (.inr ⟨M,_,R,m,rs,h,k⟩)
  ·exact .inr ⟨M,_,R,m,rs,h,k⟩
mutual
def D.dp:D→Nat
 | .tup xs=>D.dps xs + 1
 | .lst xs=>D.dps xs + 1
 | .fz xs=>D.dps xs + 1
 | .dct _ _=>0
 | .fd _ _=>0
 | .fo _ _ _=>0
 | .exn _ _ _=>0
 | .non=>0
 | .bl _=>0
 | .int _=>0
 | .str _=>0
def D.dps:List D→Nat
 | []=>0
 | x :: r=>max (D.dp x) (D.dps r)
end
mutual
def D.nd:D→Bool
 | .tup xs=>D.nds xs
 | .lst xs=>D.nds xs
 | .fz xs=>D.nds xs
 | .dct _ _=>false
 | .fd _ _=>false
 | .fo _ _ _=>false
 | .exn _ _ _=>false
 | .non=>true
 | .bl _=>true
 | .int _=>true
 | .str _=>true
def D.nds:List D→Bool
 | []=>true
 | x :: r=>D.nd x && D.nds r
end
theorem aM (A:Around):A.in1.units=A.units + 1:=rfl
theorem bI (n:Nat):((List.range n).all fun _=>true)=true:=by simp
section
variable {pins:List (Addr×Obj)} {σ:L2.St} {H:Hp} {s:Shared} {M:Addr→Prop}
mutual
theorem kg (I:Inv X pins σ H s):∀ (d:D) (A:Around) (v v':V) (u u':Value),d.nd=true→A.units + d.dp < cLine→Rep X.K M H d v→Rep X.K M H d v'→RelV v u→RelV v' u'→SeqAt.EqAt A s u u' true
 | .non,A,v,v',u,u',_,_,r,r',q,q'=>by
  unfold Rep at r r';subst r r'
  have:=dR (A:=A) (s:=s) q q' rfl rfl
  exact this
 | .bl b,A,v,v',u,u',_,_,r,r',q,q'=>by
  unfold Rep at r r';subst r r'
  have:=dR (A:=A) (s:=s) q q' rfl rfl
  simpa [eqV] using this
 | .int b,A,v,v',u,u',_,_,r,r',q,q'=>by
  unfold Rep at r r';subst r r'
  have:=dR (A:=A) (s:=s) q q' rfl rfl
  simpa [eqV] using this
 | .str b,A,v,v',u,u',_,_,r,r',q,q'=>by
  unfold Rep at r r';subst r r'
  have:=dR (A:=A) (s:=s) q q' rfl rfl
  simpa [eqV] using this
 | .tup ds,A,v,v',u,u',hn,hd,r,r',q,q'=>by
  unfold Rep at r r'
  obtain ⟨a,vs,rfl,sq,rs⟩:=r
  obtain ⟨b,ws,rfl,sq',rs'⟩:=r'
  cases q
  cases q'
  unfold D.dp at hd
  by_cases e:a=b
  ·subst e;exact SeqAt.EqAt.same _
  ·obtain ⟨its,r1,t1,_⟩:=I.tuple sq
   obtain ⟨its',r2,t2,_⟩:=I.tuple sq'
   have hs:its.length=its'.length:=by rw [← r1.length,← r2.length,← Reps.length _ _ rs,← Reps.length _ _ rs']
   have k:=SeqAt.RcAt.tuples (A:=A) (e:=fun _=>true) t1 t2 (by omega) (eqAt_Ds I ds A.in1 vs ws its its' hn (by rw [aM];omega) rs rs' r1 r2)
   have z:((List.range (min its.toArray.size its'.toArray.size)).all (fun _=>true) && its.toArray.size == its'.toArray.size)=true:=by simp [hs]
   rw [z] at k
   exact SeqAt.EqAt.of_refs e k
 | .lst ds,A,v,v',u,u',hn,hd,r,r',q,q'=>by
  unfold Rep at r r'
  obtain ⟨a,vs,rfl,_,sq,rs⟩:=r
  obtain ⟨b,ws,rfl,_,sq',rs'⟩:=r'
  cases q
  cases q'
  unfold D.dp at hd
  by_cases e:a=b
  ·subst e;exact SeqAt.EqAt.same _
  ·obtain ⟨its,r1,t1,_⟩:=I.list (SqL.of sq)
   obtain ⟨its',r2,t2,_⟩:=I.list (SqL.of sq')
   have hs:its.length=its'.length:=by rw [← r1.length,← r2.length,← Reps.length _ _ rs,← Reps.length _ _ rs']
   have k:=SeqAt.RcAt.lists (A:=A) (e:=fun _=>true) t1.isList t2.isList (by simp [hs]) (by omega) (eqAt_Ds I ds A.in1 vs ws its its' hn (by rw [aM];omega) rs rs' r1 r2)
   rw [bI] at k
   exact SeqAt.EqAt.of_refs e k
 | .fz ds,A,v,v',u,u',hn,hd,r,r',q,q'=>by
  unfold Rep at r r'
  obtain ⟨a,vs,rfl,sq,rs⟩:=r
  obtain ⟨b,ws,rfl,sq',rs'⟩:=r'
  cases q
  cases q'
  unfold D.dp at hd
  by_cases e:a=b
  ·subst e;exact SeqAt.EqAt.same _
  ·obtain ⟨its,r1,t1,_⟩:=I.list sq.seq
   obtain ⟨its',r2,t2,_⟩:=I.list sq'.seq
   have hs:its.length=its'.length:=by rw [← r1.length,← r2.length,← Reps.length _ _ rs,← Reps.length _ _ rs']
   have k:=SeqAt.RcAt.lists (A:=A) (e:=fun _=>true) t1.isList t2.isList (by simp [hs]) (by omega) (eqAt_Ds I ds A.in1 vs ws its its' hn (by rw [aM];omega) rs rs' r1 r2)
   rw [bI] at k
   exact SeqAt.EqAt.of_refs e k
 | .dct ks ds,A,v,v',u,u',hn,_,_,_,_,_=>by unfold D.nd at hn;cases hn
 | .fd ks ds,A,v,v',u,u',hn,_,_,_,_,_=>by unfold D.nd at hn;cases hn
 | .fo o ks ds,A,v,v',u,u',hn,_,_,_,_,_=>by unfold D.nd at hn;cases hn
 | .exn _ _ _,A,v,v',u,u',hn,_,_,_,_,_=>by unfold D.nd at hn;cases hn
theorem eqAt_Ds (I:Inv X pins σ H s):∀ (ds:List D) (A:Around) (vs ws:List V) (us us':List Value),D.nds ds=true→A.units + D.dps ds < cLine→Reps X.K M H ds vs→Reps X.K M H ds ws→Vals vs us→Vals ws us' →
  ∀ j (h1:j < us.toArray.size) (h2:j < us'.toArray.size),SeqAt.EqAt A s us.toArray[j] us'.toArray[j] true
 | [],A,vs,ws,us,us',_,_,r,r',q,q',j,h1,h2=>by
  unfold Reps at r
  subst r
  cases q
  exact absurd h1 (by simp)
 | d :: ds,A,vs,ws,us,us',hn,hd,r,r',q,q',j,h1,h2=>by
  unfold Reps at r r'
  obtain ⟨v,vr,rfl,rv,rs⟩:=r
  obtain ⟨w',wr,rfl,rw',rs'⟩:=r'
  unfold D.nds at hn
  obtain ⟨n1,n2⟩:=Bool.and_eq_true_iff.mp hn
  unfold D.dps at hd
  cases q with
  | @cons _ u0 _ ur qa qb =>
   cases q' with
   | @cons _ u1 _ ur' qa' qb' =>
    cases j with
    | zero=>exact kg I d A v w' _ _ n1 (by omega) rv rw' qa qa'
    | succ j =>
     have z:=eqAt_Ds I ds A vr wr ur ur' n2 (by omega) rs rs' qb qb' j (by simpa using h1) (by simpa using h2)
     simpa using z
end
end
theorem g9 {i j:Int}:decide (V.int i=V.int j)=decide (i=j):=by rw [dL];exact Bool.beq_eq_decide_eq _ _
theorem lm {i j:Bool}:decide (V.bl i=V.bl j)=decide (i=j):=by rw [fK];exact Bool.beq_eq_decide_eq _ _
theorem ij {i j:Str}:decide (V.str i=V.str j)=decide (i=j):=by rw [dI];exact Bool.beq_eq_decide_eq _ _
def fEq:List D→(D→Prop)→Prop
 | [.int i,.int j],R=>R (.bl (decide (i=j)))
 | [.str x,.str y],R=>R (.bl (decide (x=y)))
 | [.bl a,.bl b],R=>R (.bl (decide (a=b)))
 | [.tup xs,.tup ys],R=>(xs=ys∧D.nds xs=true∧D.dps xs≤60)∧R (.bl true)
 | [.lst xs,.lst ys],R=>((xs=ys∧D.nds xs=true∧D.dps xs≤60)∧R (.bl true))∨(xs.length≠ys.length∧R (.bl false))
 | _,_=>False
theorem ko {d0:List D} {R:D→Prop} (h:fEq d0 R):(∃ (i:Int) (j:Int),d0=[.int i,.int j]∧R (.bl (decide (i=j))))∨(∃ (x:Str) (y:Str),d0=[.str x,.str y]∧R (.bl (decide (x=y))))∨(∃ (a:Bool) (b:Bool),d0=[.bl a,.bl b]∧R (.bl (decide (a=b))))∨(∃ (xs:List D) (ys:List D),d0=[.tup xs,.tup ys]∧(xs=ys∧D.nds xs=true∧D.dps xs≤60)∧R (.bl true))∨(∃ (xs:List D) (ys:List D),d0=[.lst xs,.lst ys]∧(((xs=ys∧D.nds xs=true∧D.dps xs≤60)∧R (.bl true))∨(xs.length≠ys.length∧R (.bl false)))):=by
 rcases d0 with _ | ⟨a,_ | ⟨b,_ | ⟨c,l⟩⟩⟩
 ·exact False.elim h
 ·cases a<;>exact False.elim h
 ·cases a<;>first | exact False.elim h | (cases b<;>first | exact False.elim h | exact .inl ⟨_,_,rfl,h⟩ | exact .inr (.inl ⟨_,_,rfl,h⟩) | exact .inr (.inr (.inl ⟨_,_,rfl,h⟩)) | exact .inr (.inr (.inr (.inl ⟨_,_,rfl,h⟩))) | exact .inr (.inr (.inr (.inr ⟨_,_,rfl,h⟩))))
 ·cases a<;>first | exact False.elim h | (cases b<;>exact False.elim h)
theorem iZ {i j:Int} {R:D→Prop}:fEq [.int i,.int j] R↔R (.bl (decide (i=j))):=Iff.rfl
theorem iG {i j:Str} {R:D→Prop}:fEq [.str i,.str j] R↔R (.bl (decide (i=j))):=Iff.rfl
theorem lg {i j:Bool} {R:D→Prop}:fEq [.bl i,.bl j] R↔R (.bl (decide (i=j))):=Iff.rfl
theorem jg {i j:List D} {R:D→Prop}:fEq [.tup i,.tup j] R↔(i=j∧D.nds i=true∧D.dps i≤60)∧R (.bl true):=Iff.rfl
theorem o_eq (hu:X.A.units + 64 < cLine):OpR X (compareOp .Eq) fun x y=>aC X.K fEq [x,y]:=by
 intro pins s σ H x y v u Q I rx ry h
 obtain ⟨M,ds,R,m,rs,h,k⟩:=h
 replace h:=ko h
 rcases h with ⟨_,_,rfl,h⟩ | ⟨_,_,rfl,h⟩ | ⟨_,_,rfl,h⟩ | ⟨_,_,rfl,h⟩ | ⟨_,_,rfl,h⟩
 ·obtain ⟨h1,h2⟩:=a9 rs
  cases az h1
  cases az h2
  refine js pins s σ H _ _ v u Q I rx ry ⟨rfl,?_⟩
  rw [g9]
  exact k _ h _ H (Same.refl H) (Rep.sc rfl)
 ·obtain ⟨h1,h2⟩:=a9 rs
  cases bZ h1
  cases bZ h2
  refine js pins s σ H _ _ v u Q I rx ry ⟨rfl,?_⟩
  rw [ij]
  exact k _ h _ H (Same.refl H) (Rep.sc rfl)
 ·obtain ⟨h1,h2⟩:=a9 rs
  cases cC h1
  cases cC h2
  refine js pins s σ H _ _ v u Q I rx ry ⟨rfl,?_⟩
  rw [lm]
  exact k _ h _ H (Same.refl H) (Rep.sc rfl)
 ·obtain ⟨⟨e,hn,hd⟩,h⟩:=h
  subst e
  obtain ⟨h1,h2⟩:=a9 rs
  unfold Rep at h1 h2
  obtain ⟨a,vs,rfl,sq,rs1⟩:=h1
  obtain ⟨b,ws,rfl,sq',rs2⟩:=h2
  cases rx
  cases ry
  obtain ⟨its,r1,t1,_⟩:=I.tuple sq
  obtain ⟨its',r2,t2,_⟩:=I.tuple sq'
  have hs:its.length=its'.length:=by rw [← r1.length,← r2.length,← Reps.length _ _ rs1,← Reps.length _ _ rs2]
  refine SeqAt.eq_tupleAt (e:=fun _=>true) t1 t2 (by omega) (eqAt_Ds I _ X.A.in1 vs ws its its' hn (by rw [aM];omega) rs1 rs2 r1 r2) ?_
  have z:((List.range (min its.toArray.size its'.toArray.size)).all (fun _=>true) && its.toArray.size == its'.toArray.size)=true:=by simp [hs]
  rw [z]
  exact⟨.bl true,H,I,rfl,k _ h _ H (Same.refl H) (Rep.sc rfl)⟩
 ·obtain ⟨h1,h2⟩:=a9 rs
  unfold Rep at h1 h2
  obtain ⟨a,vs,rfl,_,sq,rs1⟩:=h1
  obtain ⟨b,ws,rfl,_,sq',rs2⟩:=h2
  cases rx
  cases ry
  obtain ⟨its,r1,t1,_⟩:=I.list (SqL.of sq)
  obtain ⟨its',r2,t2,_⟩:=I.list (SqL.of sq')
  rcases h with ⟨⟨e,hn,hd⟩,h⟩ | ⟨ne,h⟩
  ·subst e
   have hs:its.length=its'.length:=by rw [← r1.length,← r2.length,← Reps.length _ _ rs1,← Reps.length _ _ rs2]
   refine SeqAt.eq_listAt (e:=fun _=>true) t1.isList t2.isList (by simp [hs]) (by omega) (eqAt_Ds I _ X.A.in1 vs ws its its' hn (by rw [aM];omega) rs1 rs2 r1 r2) ?_
   rw [bI]
   exact⟨.bl true,H,I,rfl,k _ h _ H (Same.refl H) (Rep.sc rfl)⟩
  ·refine SeqAt.eq_list_lengthsAt t1.isList t2.isList ?_ (by omega) ⟨.bl false,H,I,rfl,k _ h _ H (Same.refl H) (Rep.sc rfl)⟩
   have l1:=r1.length
   have l2:=r2.length
   have l3:=Reps.length _ _ rs1
   have l4:=Reps.length _ _ rs2
   simp only [mE,bne_iff_ne,ne_eq]
   omega
def fNe:List D→(D→Prop)→Prop
 | [.int i,.int j],R=>R (.bl (!decide (i=j)))
 | [.str x,.str y],R=>R (.bl (!decide (x=y)))
 | [.bl a,.bl b],R=>R (.bl (!decide (a=b)))
 | _,_=>False
theorem kW {d0:List D} {R:D→Prop} (h:fNe d0 R):(∃ (i:Int) (j:Int),d0=[.int i,.int j]∧R (.bl (!decide (i=j))))∨(∃ (x:Str) (y:Str),d0=[.str x,.str y]∧R (.bl (!decide (x=y))))∨(∃ (a:Bool) (b:Bool),d0=[.bl a,.bl b]∧R (.bl (!decide (a=b)))):=by
 rcases d0 with _ | ⟨a,_ | ⟨b,_ | ⟨c,l⟩⟩⟩
 ·exact False.elim h
 ·cases a<;>exact False.elim h
 ·cases a<;>first | exact False.elim h | (cases b<;>first | exact False.elim h | exact .inl ⟨_,_,rfl,h⟩ | exact .inr (.inl ⟨_,_,rfl,h⟩) | exact .inr (.inr ⟨_,_,rfl,h⟩))
 ·cases a<;>first | exact False.elim h | (cases b<;>exact False.elim h)
theorem o_ne (_:X.A.units + 64 < cLine):OpR X (compareOp .NotEq) fun x y=>aC X.K fNe [x,y]:=by
 intro pins s σ H x y v u Q I rx ry h
 obtain ⟨M,ds,R,m,rs,h,k⟩:=h
 replace h:=kW h
 rcases h with ⟨_,_,rfl,h⟩ | ⟨_,_,rfl,h⟩ | ⟨_,_,rfl,h⟩
 ·obtain ⟨h1,h2⟩:=a9 rs
  cases az h1
  cases az h2
  refine iA pins s σ H _ _ v u Q I rx ry ⟨rfl,?_⟩
  rw [g9]
  exact k _ h _ H (Same.refl H) (Rep.sc rfl)
 ·obtain ⟨h1,h2⟩:=a9 rs
  cases bZ h1
  cases bZ h2
  refine iA pins s σ H _ _ v u Q I rx ry ⟨rfl,?_⟩
  rw [ij]
  exact k _ h _ H (Same.refl H) (Rep.sc rfl)
 ·obtain ⟨h1,h2⟩:=a9 rs
  cases cC h1
  cases cC h2
  refine iA pins s σ H _ _ v u Q I rx ry ⟨rfl,?_⟩
  rw [lm]
  exact k _ h _ H (Same.refl H) (Rep.sc rfl)
def fIs:List D→(D→Prop)→Prop
 | [.bl a,.bl b],R=>R (.bl (decide (a=b)))
 | [.non,.non],R=>R (.bl true)
 | [.tup _,.non],R=>R (.bl false)
 | [.exn _ _ _,.non],R=>R (.bl false)
 | _,_=>False
theorem kC {i j:Bool} {R:D→Prop}:fIs [.bl i,.bl j] R↔R (.bl (decide (i=j))):=Iff.rfl
def tyN:D→String
 | .non=>"NoneType"
 | .bl _=>"bool"
 | .int _=>"int"
 | .str _=>"str"
 | .tup _=>"tuple"
 | .lst _=>"list"
 | .fz _=>"list"
 | .dct _ _=>"dict"
 | .fd _ _=>"dict"
 | .fo _ _ _=>"dict"
 | .exn _ _ _=>"NoneType"
def isT (T n:String):Bool:=n == T || (n == "bool" && T == "int")
end
end DL
namespace DL
open PySem PySem.Spec PyProof.Rows L2
section
variable {K:PySem.W.Frag} {G:Gf} {A A':Addr→Prop} {δ:List Sl} {P P':List (D×V)} {σ:L2.St} {H H':Hp}
end
section
variable {K:PySem.W.Frag} {G:Gf} {δ:List Sl} {P:List (D×V)} {σ:L2.St}
end
section
variable {X:Cx} {tg e:Expr} {te:TDE} {ta:TDA}
end
end DL
namespace DL
open PySem PySem.Spec PyProof.Rows L2
def spN (K:PySem.W.Frag) (f:List D→(D→Prop)→Prop):Sp:=fun vs H Q _=>∃ (M:Addr→Prop) (ds:List D) (R:D→Prop),(∀ b,M b→H b≠none)∧Reps K M H ds vs∧f ds R ∧
 ∀ d,R d→∀ a H',Same H H'→H a=none→cq K (fun b=>M b∨b=a) H' a d→Q (.ref a) H'
theorem jj {K:PySem.W.Frag} {f:List D→(D→Prop)→Prop} {vs:List V} {H:Hp} {Q:VK} {E:XK} (h:spD K f vs H Q E):spN K f vs H Q E:=by
 obtain ⟨M,ds,R,m,rs,hf,k⟩:=h
 exact⟨M,ds,R,m,rs,hf,fun d r a H' sm fr ow=>k d r (.ref a) H' sm (ow.rep (fun z=>m a z fr) fun b z=>.inl z)⟩
section
variable {P:Program} {w:World} {K:PySem.W.Frag} {mg:Str→Option Value} {base:Heap}
theorem Cal.imp {k:Nat} {x:Str} {ps:List Str} {sp sp':Sp} (C:Cal P w K mg base k x ps sp) (h:∀ vs H Q E,sp' vs H Q E→sp vs H Q E):Cal P w K mg base k x ps sp':=by
 obtain ⟨a,fd,F,b,kp,m⟩:=C.ex
 exact⟨a,fd,F.imp h,b,kp,m⟩
theorem Cal.pure {k:Nat} {x:Str} {ps:List Str} {f:List D→(D→Prop)→Prop} (C:Cal P w K mg base k x ps (spN K f)):Cal P w K mg base k x ps (spD K f):=C.imp fun _ _ _ _ h=>jj h
end
section
variable {X:Cx} {pos:Pos} {a b e:Expr} {es:List Expr} {ta tb:TDE} {t:TDA} {f:List D→(D→Prop)→Prop}
end
end DL
namespace DL
open PySem PySem.Spec PyProof.Rows L2
def dAt {α:Type}:List Str→List α→Str→Option α
 | k :: ks,d :: ds,x=>if k=x then some d else dAt ks ds x
 | _,_,_=>none
section
variable {K:PySem.W.Frag} {M:Addr→Prop} {H:Hp}
end
def kE:List D→(D→Prop)→Prop
 | [.dct ks ds,.str x],R=>∃ d,dAt ks ds x=some d∧R d
 | [.fd ks ds,.str x],R=>∃ d,dAt ks ds x=some d∧R d
 | _,_=>False
theorem gK {ks:List Str} {ds:List D} {x:Str} {R:D→Prop}:kE [.fd ks ds,.str x] R↔∃ d,dAt ks ds x=some d∧R d:=Iff.rfl
theorem gw {ks:List Str} {ds:List D} {x:Str} {R:D→Prop}:kE [.dct ks ds,.str x] R↔∃ d,dAt ks ds x=some d∧R d:=Iff.rfl
section
variable {X:Cx}
def fNeq:List D→(D→Prop)→Prop
 | [.int i,.int j],R=>R (.bl (!decide (i=j)))
 | [.str x,.str y],R=>R (.bl (!decide (x=y)))
 | [.bl a,.bl b],R=>R (.bl (!decide (a=b)))
 | [.tup xs,.tup ys],R=>(xs=ys∧D.nds xs=true∧D.dps xs≤60)∧R (.bl false)
 | [.lst xs,.lst ys],R=>(xs=ys∧D.nds xs=true∧D.dps xs≤60)∧R (.bl false)
 | _,_=>False
theorem iF {d0:List D} {R:D→Prop} (h:fNeq d0 R):(∃ (i:Int) (j:Int),d0=[.int i,.int j]∧R (.bl (!decide (i=j))))∨(∃ (x:Str) (y:Str),d0=[.str x,.str y]∧R (.bl (!decide (x=y))))∨(∃ (a:Bool) (b:Bool),d0=[.bl a,.bl b]∧R (.bl (!decide (a=b))))∨(∃ (xs:List D) (ys:List D),d0=[.tup xs,.tup ys]∧(xs=ys∧D.nds xs=true∧D.dps xs≤60)∧R (.bl false))∨(∃ (xs:List D) (ys:List D),d0=[.lst xs,.lst ys]∧(xs=ys∧D.nds xs=true∧D.dps xs≤60)∧R (.bl false)):=by
 rcases d0 with _ | ⟨a,_ | ⟨b,_ | ⟨c,l⟩⟩⟩
 ·exact False.elim h
 ·cases a<;>exact False.elim h
 ·cases a<;>first | exact False.elim h | (cases b<;>first | exact False.elim h | exact .inl ⟨_,_,rfl,h⟩ | exact .inr (.inl ⟨_,_,rfl,h⟩) | exact .inr (.inr (.inl ⟨_,_,rfl,h⟩)) | exact .inr (.inr (.inr (.inl ⟨_,_,rfl,h⟩))) | exact .inr (.inr (.inr (.inr ⟨_,_,rfl,h⟩))))
 ·cases a<;>first | exact False.elim h | (cases b<;>exact False.elim h)
theorem gU {i j:Int} {R:D→Prop}:fNeq [.int i,.int j] R↔R (.bl (!decide (i=j))):=Iff.rfl
theorem gu {i j:Str} {R:D→Prop}:fNeq [.str i,.str j] R↔R (.bl (!decide (i=j))):=Iff.rfl
theorem iE {i j:Bool} {R:D→Prop}:fNeq [.bl i,.bl j] R↔R (.bl (!decide (i=j))):=Iff.rfl
theorem gX {xs ys:List D} {R:D→Prop}:fNeq [.tup xs,.tup ys] R↔(xs=ys∧D.nds xs=true∧D.dps xs≤60)∧R (.bl false):=Iff.rfl
theorem gZ {xs ys:List D} {R:D→Prop}:fNeq [.lst xs,.lst ys] R↔(xs=ys∧D.nds xs=true∧D.dps xs≤60)∧R (.bl false):=Iff.rfl
theorem dM (hu:X.A.units + 64 < cLine):OpR X (compareOp .NotEq) fun x y=>aC X.K fNeq [x,y]:=by
 intro pins s σ H x y v u Q I rx ry h
 obtain ⟨M,ds,R,m,rs,h,k⟩:=h
 have fin:∀ b,R (.bl b)→EP X pins σ Q (.bool b) s:=fun b r=>⟨.bl b,H,I,rfl,k _ r _ H (Same.refl H) (Rep.sc rfl)⟩
 replace h:=iF h
 rcases h with ⟨_,_,rfl,h⟩ | ⟨_,_,rfl,h⟩ | ⟨_,_,rfl,h⟩ | ⟨_,_,rfl,h⟩ | ⟨_,_,rfl,h⟩
 ·exact o_ne hu pins s σ H x y v u Q I rx ry ⟨M,_,R,m,rs,h,k⟩
 ·exact o_ne hu pins s σ H x y v u Q I rx ry ⟨M,_,R,m,rs,h,k⟩
 ·exact o_ne hu pins s σ H x y v u Q I rx ry ⟨M,_,R,m,rs,h,k⟩
 ·obtain ⟨⟨e,hn,hd⟩,h⟩:=h
  subst e
  obtain ⟨h1,h2⟩:=a9 rs
  unfold Rep at h1 h2
  obtain ⟨a,vs,rfl,sq,rs1⟩:=h1
  obtain ⟨b,ws,rfl,sq',rs2⟩:=h2
  cases rx
  cases ry
  obtain ⟨its,r1,t1,_⟩:=I.tuple sq
  obtain ⟨its',r2,t2,_⟩:=I.tuple sq'
  have hs:its.length=its'.length:=by rw [← r1.length,← r2.length,← Reps.length _ _ rs1,← Reps.length _ _ rs2]
  refine SeqAt.RcNeAt.tuples (e:=fun _=>true) t1 t2 (by omega) (eqAt_Ds I _ X.A.in1 vs ws its its' hn (by rw [aM];omega) rs1 rs2 r1 r2) _ _ _ _ ?_
  have z:((List.range (min its.toArray.size its'.toArray.size)).all (fun _=>true) && its.toArray.size == its'.toArray.size)=true:=by simp [hs]
  rw [z]
  exact fin _ h
 ·obtain ⟨⟨e,hn,hd⟩,h⟩:=h
  subst e
  obtain ⟨h1,h2⟩:=a9 rs
  unfold Rep at h1 h2
  obtain ⟨a,vs,rfl,_,sq,rs1⟩:=h1
  obtain ⟨b,ws,rfl,_,sq',rs2⟩:=h2
  cases rx
  cases ry
  obtain ⟨its,r1,t1,_⟩:=I.list (SqL.of sq)
  obtain ⟨its',r2,t2,_⟩:=I.list (SqL.of sq')
  have hs:its.length=its'.length:=by rw [← r1.length,← r2.length,← Reps.length _ _ rs1,← Reps.length _ _ rs2]
  refine SeqAt.RcNeAt.lists (e:=fun _=>true) t1.isList t2.isList (by simp [hs]) (by omega) (eqAt_Ds I _ X.A.in1 vs ws its its' hn (by rw [aM];omega) rs1 rs2 r1 r2) _ _ _ _ ?_
  rw [bI]
  exact fin _ h
end
end DL
namespace DL
open PySem PySem.Spec PyProof.Rows L2
section
variable {prog:Program} {w:World} {A:Around} {E:Value→Shared→Prop} {s:Shared}
end
section
variable {X:Cx}
variable {a b e:Expr} {ta tb:TDE} {pos:Pos}
end
end DL
namespace DL
open PySem PySem.Spec PyProof.Rows L2
section
variable {prog:Program} {w:World} {A:Around} {E:Value→Shared→Prop}
end
section
variable {X:Cx} {pos:Pos}
end
end DL
namespace DL
open PySem PySem.Spec PyProof.Rows L2
section
variable {X:Cx} {b:Expr} {tb:TDE} {pos p:Pos}
end
end DL
namespace DL
open PySem PySem.Spec PyProof.Rows L2
end DL
namespace Mf
def gc (a b:Int):Int:=(Int.gcd a b:Nat)
theorem ff (a b:Int):gc b (a.fmod b)=gc a b:=by
 unfold gc
 rw [Int.fmod_def,Int.gcd_sub_mul_left_right,Int.gcd_comm]
theorem bf (a b:Int) (hb:b≠0):(a.fmod b).natAbs < b.natAbs:=by
 rcases Int.lt_or_gt_of_ne hb with h | h
 ·have e:a.fmod b=-((-a).fmod (-b)):=by
   have h1:(-a).fdiv (-b)=a.fdiv b:=Int.neg_fdiv_neg a b
   rw [Int.fmod_def,Int.fmod_def,h1,Int.neg_mul]
   omega
  have h1:=Int.fmod_nonneg_of_pos (-a) (b:=-b) (by omega)
  have h2:=Int.fmod_lt_of_pos (-a) (b:=-b) (by omega)
  rw [e]
  omega
 ·have h1:=Int.fmod_nonneg_of_pos a h
  have h2:=Int.fmod_lt_of_pos a h
  omega
theorem fZ (a:Int):gc a 0=if a < 0 then -a else a:=by
 unfold gc
 rw [Int.gcd_zero_right]
 split<;>omega
theorem ge (a:Int) {b:Int} (h:b≠0):0 < gc a b:=by
 unfold gc
 have:=Int.gcd_pos_of_ne_zero_right a h
 omega
theorem bW (a b:Int):gc a b ∣ a:=Int.gcd_dvd_left a b
theorem bD (a b:Int):gc a b ∣ b:=Int.gcd_dvd_right a b
theorem dH (a:Int) {b:Int} (h:b≠0):(gc a b).natAbs≤b.natAbs:=by
 unfold gc
 have:=Int.gcd_le_natAbs_right a h
 omega
structure Low (p q:Int):Prop where
 pos:0 < q
 cop:gc p q=1
theorem Low.cop' {p q:Int} (h:Low p q):Int.gcd p q=1:=by have:=h.cop;unfold gc at this;omega
theorem Low.ne {p q:Int} (h:Low p q):q≠0:=by have:=h.pos;omega
theorem Low.uniq {p q p' q':Int} (h:Low p q) (h':Low p' q') (e:p * q'=p' * q):p=p'∧q=q':=by
 have d1:q ∣ q':=by
  have:q ∣ p * q':=⟨p',by rw [e,Int.mul_comm]⟩
  have g:Int.gcd q p=1:=by rw [Int.gcd_comm];exact h.cop'
  have k:=(Int.dvd_gcd_mul_iff_dvd_mul (k:=q) (n:=p) (m:=q')).mpr this
  rw [g] at k
  simpa using k
 have d2:q' ∣ q:=by
  have:q' ∣ p' * q:=⟨p,by rw [← e,Int.mul_comm]⟩
  have g:Int.gcd q' p'=1:=by rw [Int.gcd_comm];exact h'.cop'
  have k:=(Int.dvd_gcd_mul_iff_dvd_mul (k:=q') (n:=p') (m:=q)).mpr this
  rw [g] at k
  simpa using k
 have eq:q=q':=by
  have a1:=Int.le_of_dvd h'.pos d1
  have a2:=Int.le_of_dvd h.pos d2
  omega
 subst eq
 exact⟨Int.eq_of_mul_eq_mul_right h.ne e,rfl⟩
def dv (t b:Int):Int:=if b < 0 then -(gc t b) else gc t b
def mkT (t b:Int):Int:=t.fdiv (dv t b)
def mkB (t b:Int):Int:=b.fdiv (dv t b)
theorem j4 (t:Int) {b:Int} (h:b≠0):dv t b≠0:=by
 have:=ge t h
 unfold dv
 split<;>omega
theorem dF (t b:Int):dv t b ∣ t:=by
 unfold dv
 split
 ·exact (Int.neg_dvd).mpr (bW t b)
 ·exact bW t b
theorem cD (t b:Int):dv t b ∣ b:=by
 unfold dv
 split
 ·exact (Int.neg_dvd).mpr (bD t b)
 ·exact bD t b
theorem gj (t b:Int):mkT t b * dv t b=t:=Int.fdiv_mul_cancel (dF t b)
theorem fq (t b:Int):mkB t b * dv t b=b:=Int.fdiv_mul_cancel (cD t b)
theorem cJ (t b:Int):(dv t b).natAbs=Int.gcd t b:=by
 unfold dv gc
 split<;>omega
theorem hV (t:Int) {b:Int} (h:b≠0):Low (mkT t b) (mkB t b):=by
 have e1:=gj t b
 have e2:=fq t b
 have hd:=j4 t h
 constructor
 ·unfold dv at e2 hd
  have gp:=ge t h
  by_cases hb:b < 0
  ·rw [if_pos hb] at e2
   have:mkB t b * gc t b=-b:=by rw [Int.mul_neg] at e2;omega
   exact Int.pos_of_mul_pos_left (by omega) gp |> fun z=>z
  ·rw [if_neg hb] at e2
   exact Int.pos_of_mul_pos_left (by omega) gp |> fun z=>z
 ·have g:Int.gcd (mkT t b * dv t b) (mkB t b * dv t b)=Int.gcd (mkT t b) (mkB t b) * (dv t b).natAbs:=Int.gcd_mul_right _ _ _
  rw [e1,e2,cJ] at g
  have gp:=Int.gcd_pos_of_ne_zero_right t h
  unfold gc
  have:Int.gcd (mkT t b) (mkB t b)=1:=by
   have g2:1 * Int.gcd t b=Int.gcd (mkT t b) (mkB t b) * Int.gcd t b:=by rw [Nat.one_mul];exact g
   exact (Nat.eq_of_mul_eq_mul_right gp g2).symm
  omega
theorem gC (t b:Int):mkT t b * b=t * mkB t b:=by
 have e1:=gj t b
 have e2:=fq t b
 calc mkT t b * b=mkT t b * (mkB t b * dv t b):=by rw [e2]
  _=(mkT t b * dv t b) * mkB t b:=by rw [Int.mul_assoc,Int.mul_comm (mkB t b)]
  _=t * mkB t b:=by rw [e1]
theorem i6 {t b p q:Int} (hb:b≠0) (h:Low p q) (e:p * b=t * q):mkT t b=p∧mkB t b=q:=by
 refine (hV t hb).uniq h ?_
 have c:=gC t b
 refine Int.eq_of_mul_eq_mul_right hb ?_
 calc mkT t b * q * b=mkT t b * b * q:=by rw [Int.mul_assoc,Int.mul_comm q,← Int.mul_assoc]
  _=t * mkB t b * q:=by rw [c]
  _=(t * q) * mkB t b:=by rw [Int.mul_assoc,Int.mul_comm (mkB t b),← Int.mul_assoc]
  _=p * b * mkB t b:=by rw [e]
  _=p * mkB t b * b:=by rw [Int.mul_assoc,Int.mul_comm b,← Int.mul_assoc]
end Mf
namespace Mf
open PySem L2 DL
end Mf
namespace DL
open PySem PySem.Spec PyProof.Rows L2
end DL
namespace DL
open PySem PySem.Spec PyProof.Rows L2
def ItA (k:Bool) (h:Heap) (it a:Addr) (i:Nat):Prop:=match k with | true=>h.IsListIter it a i | false=>h.IsTupleIter it a i
section
variable {prog:Program} {w:World} {A:Around} {E:Value→Shared→Prop} {s:Shared}
end
section
variable {X:Cx}
end
def sq (k:Bool) (xs:List D):D:=match k with | true=>.lst xs | false=>.tup xs
section
variable {X:Cx} {ta:TDA}
end
end DL
namespace DL
open PySem PySem.Spec PyProof.Rows L2
section
variable {X:Cx}
variable {e f:Expr} {ta tb:TDE} {pos:Pos}
end
end DL
namespace DL
open PySem PyProof.Rows
end DL
namespace DL
open PySem PySem.Spec PyProof.Rows L2
end DL
namespace Mf
open PySem L2 DL
def cf:List (Str×Int)→Str→Int
 | [],_=>0
 | t :: r,n=>(if t.1=n then t.2 else 0) + cf r n
theorem IsSum.ext {F:Str→Int} {ts us:List (Str×Int)} (h1:∀ t∈ts,t.2=F t.1) (h2:∀ t∈us,t.2=F t.1) (h:ts.map (·.1)=us.map (·.1)):ts=us:=by
 have e:∀ {l:List (Str×Int)},(∀ t∈l,t.2=F t.1)→l=(l.map (·.1)).map fun n=>(n,F n):=fun {l} hl=>by
  rw [List.map_map]
  conv=>lhs;rw [← List.map_id l]
  refine List.map_congr_left fun t ht=>?_
  show t=(t.1,F t.1)
  rw [← hl t ht]
 rw [e h1,e h2,h]
end Mf
namespace DL
open PySem PySem.Spec PyProof.Rows L2
section
variable {X:Cx} {pos:Pos} {a b e:Expr} {es:List Expr} {ta tb:TDE} {t:TDA}
end
end DL
namespace DL
open PySem PySem.Spec PyProof.Rows L2
section
variable {X:Cx}
end
section
variable {X:Cx} {tg:Expr}
end
end DL
namespace DL
open PySem PySem.Spec PyProof.Rows L2
section
variable {P:Program} {w:World} {h h':Heap} {a:Addr} {es:Array (Int×Value)} {ep:Nat} {t:SetTable}
end
section
variable {prog:Program} {w:World} {A:Around} {E:Value→Shared→Prop} {s:Shared}
end
section
variable {prog:Program} {w:World} {A:Around} {R:Result→Shared→Prop} {I:Addr} {fp wr:List Addr} {G:Array GenState→Array GenState→Prop} {n:Nat} {P:Nat→Value→Prop} {St:Nat→Shared→Prop}
end
section
variable {prog:Program} {w:World} {A:Around} {E:Value→Shared→Prop} {s:Shared}
set_option maxRecDepth 100000 in
set_option maxHeartbeats 3200000 in
end
end DL
namespace DL
open PySem PySem.Spec PyProof.Rows L2
namespace FS
end FS
section
variable {prog:Program} {w:World} {A:Around} {E:Value→Shared→Prop} {s:Shared}
end
section
variable {prog:Program} {w:World} {A:Around} {E:Value→Shared→Prop} {s:Shared} {I S:Addr} {es:Array (Int×Value)} {ep:Nat} {t:SetTable} {F:Heap→Nat→Value→Prop} {vs:List Value}
set_option maxHeartbeats 1000000 in
set_option maxHeartbeats 1000000 in
end
end DL
namespace DL
open PySem PySem.Spec PyProof.Rows L2
section
variable {prog:Program} {w:World} {A:Around} {E:Value→Shared→Prop} {s:Shared} {I S:Addr} {es:Array (Int×Value)} {ep:Nat} {t:SetTable} {F:Heap→Nat→Value→Prop} {vs:List Value}
set_option maxHeartbeats 2000000 in
end
section
variable {X:Cx} {e:Expr} {p p2 pos pos2:Pos} {te:TE}
end
end DL
namespace DL
open PySem PySem.Spec PyProof.Rows L2
section
variable {K:PySem.W.Frag} {G:Gf} {A:Addr→Prop} {δ:List Sl} {P:List (D×V)} {σ:L2.St} {H:Hp}
end
section
variable {X:Cx} {tg e:Expr} {te:TDE}
end
end DL
namespace DL
open PySem PySem.Spec PyProof.Rows L2
section
variable {X:Cx} {pos:Pos} {e:Expr}
end
section
variable {X:Cx} {pos:Pos} {e:Expr} {ta:TDE}
end
section
variable {P:Program} {w:World} {K:PySem.W.Frag} {mg:Str→Option Value} {base:Heap}
end
section
variable {X:Cx}
end
end DL
namespace DL
open PySem PySem.Spec PyProof.Rows L2
section
variable {X:Cx}
end
end DL
namespace DL
open PySem PySem.Spec PyProof.Rows L2
section
variable {X:Cx} {tg e:Expr} {te:TDE}
end
end DL
namespace DL
open PySem PySem.Spec PyProof.Rows L2
end DL
namespace DL
open PySem PySem.Spec PyProof.Rows L2
section
variable {X:Cx} {pos:Pos} {a b e:Expr} {ta tb:TDE}
end
section
variable {K:PySem.W.Frag} {G:Gf} {A A':Addr→Prop} {δ δ':List Sl} {P P':List (D×V)} {σ σ':L2.St} {H H':Hp} {p:Addr}
end
section
variable {X:Cx} {pos:Pos} {a b e:Expr} {ta tb:TDE}
end
end DL
namespace DL
open PySem PySem.Spec PyProof.Rows L2
theorem FdK.fd {K:PySem.W.Frag} {x:Str} {st:Stmt} {h:Heap} {mg:Str→Option Value} {ps:List Str} (q:FdK K x st) (X:K.In h) (G:h.Ns mainGlobals mg)
  (b:∀ (kV doc pm:Value) (an:Option Addr) (cdv ct:Value) (us:List Value),us.length=ps.length→bindArgs (PySem.W.fnOf x x (aD st) (au st) (ae st) .none kV doc pm an cdv ct) ⟨us,[]⟩=pure (ps.zip us)):Fd K mg x st ps:=by
 obtain ⟨f,oc,od,an,sl,kV,dc,pm,cd,ct,a,l,c,k⟩:=q.ex
 have F:=hZ (st:=st) l c k
 exact⟨_,_,F,F.binds (ps:=ps) b,PySem.W.mg_of X G a⟩
theorem dU {α:Type} {l:List α} {n:Nat} (h:l.length=n + 1):∃ a r,l=a :: r∧r.length=n:=by
 cases l with
 | nil=>cases h
 | cons a r=>exact⟨a,r,rfl,Nat.succ.inj h⟩
theorem len1 {α:Type} {l:List α} (h:l.length=1):∃ a,l=[a]:=by
 obtain ⟨a,r,rfl,h1⟩:=dU h
 rw [List.eq_nil_of_length_eq_zero h1]
 exact⟨a,rfl⟩
theorem len2 {α:Type} {l:List α} (h:l.length=2):∃ a b,l=[a,b]:=by
 obtain ⟨a,r,rfl,h1⟩:=dU h
 obtain ⟨b,rfl⟩:=len1 h1
 exact⟨a,b,rfl⟩
theorem FdK.fd1 {K:PySem.W.Frag} {x x1:Str} {st:Stmt} {h:Heap} {mg:Str→Option Value} (q:FdK K x st) (X:K.In h) (G:h.Ns mainGlobals mg)
  (b:∀ (kV doc pm:Value) (an:Option Addr) (cdv ct u1:Value),bindArgs (PySem.W.fnOf x x (aD st) (au st) (ae st) .none kV doc pm an cdv ct) ⟨[u1],[]⟩=pure [(x1,u1)]):Fd K mg x st [x1] :=
 q.fd X G fun kV doc pm an cdv ct us hl=>by
  obtain ⟨u1,rfl⟩:=len1 hl
  exact b kV doc pm an cdv ct u1
theorem FdK.fd2 {K:PySem.W.Frag} {x x1 x2:Str} {st:Stmt} {h:Heap} {mg:Str→Option Value} (q:FdK K x st) (X:K.In h) (G:h.Ns mainGlobals mg)
  (b:∀ (kV doc pm:Value) (an:Option Addr) (cdv ct u1 u2:Value),bindArgs (PySem.W.fnOf x x (aD st) (au st) (ae st) .none kV doc pm an cdv ct) ⟨[u1,u2],[]⟩=pure [(x1,u1),(x2,u2)]):Fd K mg x st [x1,x2] :=
 q.fd X G fun kV doc pm an cdv ct us hl=>by
  obtain ⟨u1,u2,rfl⟩:=len2 hl
  exact b kV doc pm an cdv ct u1 u2
theorem rm {j k:Nat} {A:Around} (h:Room k A) (e:j≤k:=by decide):Room j A:=h.mono e
end DL
namespace DL
open PySem PySem.Spec PyProof.Rows L2
structure C2 (h:Heap) (C N R NR:Addr) (mN mR:Str→Option Value):Prop where
 hC:∃ nm q bs sn sub ab col dd k0 k1 k2 k3 k5,h.get? C=some (excClassObj nm q C N bs (.ref R :: bmV) true sn sub ab col dd k0 k1 k2 k3 k5 "ValueError.__new__")
 hR:∃ nm q bs sn sub ab col dd k0 k1 k2 k3 k5,h.get? R=some (excClassObj nm q R NR bs bmV true sn sub ab col dd k0 k1 k2 k3 k5 "ValueError.__new__")
 nN:h.Ns N mN
 nR:h.Ns NR mR
 ini:mR "__init__"=none
theorem C2.keep {h h':Heap} {C N R NR:Addr} {mN mR:Str→Option Value} (c:C2 h C N R NR mN mR) (k:∀ b o,h.get? b=some o→h'.get? b=some o):C2 h' C N R NR mN mR:=by
 obtain ⟨⟨nm,q,bs,sn,sub,ab,col,dd,k0,k1,k2,k3,k5,hC⟩,⟨nm',q',bs',sn',sub',ab',col',dd',j0,j1,j2,j3,j5,hR⟩,nN,nR,i⟩:=c
 exact⟨⟨nm,q,bs,sn,sub,ab,col,dd,k0,k1,k2,k3,k5,k _ _ hC⟩,⟨nm',q',bs',sn',sub',ab',col',dd',j0,j1,j2,j3,j5,k _ _ hR⟩,nN.keeps k,nR.keeps k,i⟩
theorem C2.tail {h:Heap} {C N R NR:Addr} {mN mR:Str→Option Value} (c:C2 h C N R NR mN mR):OwnTail h bmV (.ref R :: bmV):=by
 obtain ⟨_,⟨nm',q',bs',sn',sub',ab',col',dd',j0,j1,j2,j3,j5,hR⟩,nN,nR,i⟩:=c
 exact .own hR nR i .base
section
variable {prog:Program} {w:World} {A:Around} {E:Value→Shared→Prop} {h:Heap} {g:Array GenState} {d:Drawn} {t:Nat} {os:OsState} {C N R NR:Addr} {mN mR:Str→Option Value}
theorem kJ {M:Model} {name:Str} {y:Option Value} {Q:Option Value→Shared→Prop} (c:C2 h C N R NR mN mR) (hB:typeLookup (.type "ValueError") name=pure y)
  (hq:Q (match mN name with | some v=>some v | none=>match mR name with | some v=>some v | none=>y) ⟨h,g,d,t,os⟩):wpAny M A (typeLookup (.ref C) name) Q E ⟨h,g,d,t,os⟩:=by
 obtain ⟨⟨nm,q,bs,sn,sub,ab,col,dd,k0,k1,k2,k3,k5,hC⟩,⟨nm',q',bs',sn',sub',ab',col',dd',j0,j1,j2,j3,j5,hR⟩,nN,nR,i⟩:=c
 have hrest:lookupAlong bmV name=pure y:=by rw [typeLookup_eq,PySem.F.excBase_ValueError.mroIs] at hB;exact hB
 rw [typeLookup_eq]
 refine wpAny_bind (wpAny_mroOf_exc hC ?_)
 rw [lookupAlong_cons]
 refine wpAny_bind (wpAny_classOwn_exc hC nN ?_)
 cases hv:mN name with
 | some v=>rw [hv] at hq;exact wpAny_pure hq
 | none =>
  rw [hv] at hq
  show wpAny _ _ (lookupAlong (.ref R :: bmV) name) _ _ _
  rw [lookupAlong_cons]
  refine wpAny_bind (wpAny_classOwn_cls hR nR ?_)
  cases hu:mR name with
  | some v=>rw [hu] at hq;exact wpAny_pure hq
  | none =>
   rw [hu] at hq
   show wpAny _ _ (lookupAlong bmV name) _ _ _
   rw [hrest]
   exact wpAny_pure hq
set_option maxHeartbeats 2000000 in
theorem lN {rest:List Value} {fI:Addr} {oI:Obj} {Q:Value→Shared→Prop} (c:C2 h C N R NR mN mR) (hi:mN "__init__"=some (.ref fI)) (hfI:h.get? fI=some oI) (hfc:oI.cls=.type "function")
  (hq:∀ h' e,h.objs.size≤e→Heap.MadeExcOf h h' e (.ref C) rest→wpAny (model prog w) (A.under (.builtin "type.__call__" ⟨.ref C :: rest,[]⟩)) (call (.ref fI) (.ref e :: rest)) (fun r s'=>r=.none∧Q (.ref e) s') E ⟨h',g,d,t,os⟩) (hrest:rest.length≤sizeLine) :
  wpAny (model prog w) A (call (.ref C) rest) Q E ⟨h,g,d,t,os⟩:=by
 obtain ⟨nm,q,bs,sn,sub,ab,col,dd,k0,k1,k2,k3,k5,hC⟩:=c.hC
 have F:=PySem.F.excBase_ValueError
 have T:=c.tail
 have f1:=tc_lookup
 have f2:=tc_bind (.ref C)
 have hT:(⟨h,g,d,t,os⟩:Shared).TypeIs (.ref C) "type":=⟨_,hC,rfl⟩
 refine wpAny_call (codeAny_of_tree ?_)
 show wpAny _ _ (callAny (.ref C) ⟨rest,[]⟩) _ _ _
 repeat (any_goals (first | assumption | with_reducible refine wpAny_loadPart_at hC ?_ | wp_step))
 refine⟨rfl,codeAny_call_builtin_at (Code.quiet_builtin _ (by decide +kernel)) entry_typeCall (wpAny_check_type_call_sub hC ?_)⟩
 repeat (first | with_reducible refine wpAny_loadPart_at hC ?_ | with_reducible refine wpAny_madeBy_exc hC ?_ | wp_step)
 refine codeAny_call_builtin_code (Code.quiet_builtin _ F.quiet) (wpAny_check_new_subT F T hC (codeAny_exc_new_subT F T hC ?_ hrest))
 show wpAny _ _ _ _ _ _
 have hup:∀ b o,h.get? b=some o→((h.push { cls:=.type "tuple",data:=.seq rest.toArray }).push { cls:=.ref C,data:=.fields #[.ref h.objs.size,.none,.none,.none,.bool false,.none] }).get? b=some o:=fun b o e=>mr _ (mr _ e)
 have c1:=c.keep hup
 have hC1:=hup _ _ hC
 have hfI1:=hup _ _ hfI
 have hget:((h.push { cls:=.type "tuple",data:=.seq rest.toArray }).push { cls:=.ref C,data:=.fields #[.ref h.objs.size,.none,.none,.none,.bool false,.none] }).get? (h.objs.size + 1)=some { cls:=.ref C,data:=.fields #[.ref h.objs.size,.none,.none,.none,.bool false,.none] }:=by heap_get
 unfold isInstance
 repeat (first | with_reducible refine wpAny_loadPart_at hget ?_ | wp_step)
 show wpAny _ _ (isSubtype (.ref C) (.ref C)) _ _ _
 refine wpAny_isSubtype_exc hC1 ?_
 rw [show (Value.ref C :: (Value.ref R :: bmV)).contains (.ref C)=true by simp]
 repeat (first | with_reducible refine wpAny_loadPart_at hget ?_ | wp_step)
 show wpAny _ _ (typeLookup (.ref C) _) _ _ _
 refine kJ c1 F.init.lookup ?_
 rw [hi]
 refine wpAny_holding (wpAny_bind ?_)
 unfold bindSpecial
 refine wpAny_bind (wpAny_typeOf (T:="function") ⟨_,hfI1,hfc⟩ ?_)
 rw [if_pos (by decide)]
 refine wpAny_pure (wpAny_bind (wpAny_mono (hq _ (h.objs.size + 1) (Nat.le_succ _) ⟨hup,Heap.get?_none_of_le (Nat.le_succ _),h.objs.size,hget,Heap.get?_none_of_le (Nat.le_refl _),?_⟩) (fun r s' hr=>?_) fun _ _ x=>x))
 ·exact mr _ (Heap.get?_push_at rfl rfl)
 ·obtain ⟨rfl,hQ⟩:=hr
  wp_walk
  exact hQ
theorem lM {e:Addr} {rest:List Value} {a0:Value} {Q:Value→Shared→Prop} (c:C2 h C N R NR mN mR) (he:h.get? e=some (xob C none a0 .none))
  (hq:∀ h' a,h'.get? e=some (xob C none a .none)→(∀ b o,b≠e→h.get? b=some o→h'.get? b=some o)→Q .none ⟨h',g,d,t,os⟩) (hrest:rest.length≤sizeLine) :
  wpAny (model prog w) A (call (.builtin "ValueError.__init__") (.ref e :: rest)) Q E ⟨h,g,d,t,os⟩:=by
 obtain ⟨nm,q,bs,sn,sub,ab,col,dd,k0,k1,k2,k3,k5,hC⟩:=c.hC
 have F:=PySem.F.excBase_ValueError
 refine wpAny_call (codeAny_call_builtin F.init.plain F.initEntry (wpAny_check_init_subT F c.tail hC he rfl ?_))
 wp_walk
 have hget:((h.push { cls:=.type "tuple",data:=.seq rest.toArray }).update e (Obj.mapFields fun x=>x.setIfInBounds 0 (Value.ref h.objs.size))).get? e=some (xob C none (.ref h.objs.size) .none):=Heap.get?_update_self (Obj.mapFields fun x=>x.setIfInBounds 0 (Value.ref h.objs.size)) (mr _ he) rfl
 have fin:=hq _ (.ref h.objs.size) hget fun b o hb ho=>by
  rw [Heap.get?_update_other _ _ (Ne.symm hb)]
  exact mr _ ho
 have key:∀ {Q':Unit→Shared→Prop} {E':Value→Shared→Prop} {s':Shared},Q' () s'→wpAny (model prog w) A.in1 (match #[a0,Value.none,Value.none,Value.none,Value.bool false,Value.none][0] with | Value.ref a=>letGo [#[a0,Value.none,Value.none,Value.none,Value.bool false,Value.none][0]] | x=>pure ()) Q' E' s':=fun {Q' E' s'} q=>by
  show wpAny _ _ (match a0 with | Value.ref a=>letGo [a0] | x=>pure ()) _ _ _
  cases a0<;>first | exact wpAny_letGo q | exact wpAny_pure q
 refine key ?_
 wp_walk
 exact fin
end
section
variable {prog:Program} {w:World} {A:Around} {E:Value→Shared→Prop} {h:Heap} {g:Array GenState} {d:Drawn} {t:Nat} {os:OsState} {C N R NR:Addr} {mN mR:Str→Option Value}
open Builtin Builtin.ObjectAttr in
theorem jX {e:Addr} {name:Str} {a v:Value} {Q:Unit→Shared→Prop} {sa owner:String} (SF:StoreFacts "ValueError" bmV sa owner) (c:C2 h C N R NR mN mR) (n1:mN "__setattr__"=none) (n2:mR "__setattr__"=none) (n3:mN name=none) (n4:mR name=none)
  (hB:typeLookup (.type "ValueError") name=pure none) (he:h.get? e=some (xob C none a .none))
  (hq:∀ h' tk' dx,h.objs.size≤dx→h'.get? e=some (xob C (some dx) a .none)→h'.Ns1 dx (fun y=>if y=name then some v else none)→(∀ b o,b≠e→h.get? b=some o→h'.get? b=some o)→Q () ⟨h',g,d,tk',os⟩) :
  wpAny (model prog w) A (setAttr (.ref e) name v) Q E ⟨h,g,d,t,os⟩:=by
 obtain ⟨nm,q,bs,sn,sub,ab,col,dd,k0,k1,k2,k3,k5,hC⟩:=c.hC
 have f3:=SF.slot.bind (.ref e)
 have hpass:=SF.passes (.ref e)
 have ha:∀ tk,argsOk sa ⟨[.ref e,.str name tk,v],[]⟩:=fun tk=>SF.args (.ref e) (.str name tk) v
 have hcB:(Value.ref C :: (Value.ref R :: bmV)).contains (.type owner)=true:=by rw [List.contains_cons,List.contains_cons,SF.hasOwner,Bool.or_true,Bool.or_true]
 have lk:∀ {M:Model} {A':Around} {E':Value→Shared→Prop} {tk:Nat} {Q':Option Value→Shared→Prop} {nme:Str} {y:Option Value},mN nme=none→mR nme=none→typeLookup (.type "ValueError") nme=pure y→Q' y ⟨h,g,d,tk,os⟩→wpAny M A' (typeLookup (.ref C) nme) Q' E' ⟨h,g,d,tk,os⟩:=fun a1 a2 a3 q'=>kJ c a3 (by rw [a1,a2];exact q')
 unfold setAttr callSpecial? specialOf
 repeat (any_goals (first | assumption | (with_reducible refine wpAny_loadPart_at he ?_) | (with_reducible refine lk n1 n2 SF.slot.lookup ?_) | wp_step))
 refine codeAny_call_builtin SF.slot.plain SF.entry ?_
 simp only [checkBuiltinCall,SF.kind,SF.split]
 show wpAny _ _ _ _ _ _
 refine wpAny_bind ?_
 unfold isInstance
 repeat (first | (with_reducible refine wpAny_loadPart_at he ?_) | (with_reducible refine wpAny_isSubtype_exc hC ?_;rw [hcB]) | wp_step)
 have body:∀ {Q':Fin→Shared→Prop} {E':Value→Shared→Prop} {tk:Nat} {A':Around},(∀ h' tk' dx,h.objs.size≤dx→h'.get? e=some (xob C (some dx) a .none)→h'.Ns1 dx (fun y=>if y=name then some v else none)→(∀ b o,b≠e→h.get? b=some o→h'.get? b=some o)→Q' (.done (.ret .none)) ⟨h',g,d,tk',os⟩) →
   wpAny (model prog w) A' (Builtin.«object.__setattr__» ⟨[.ref e,.str name t,v],[]⟩) Q' E' ⟨h,g,d,tk,os⟩:=fun {Q' E' tk A'} hq=>by
  have hxs:e≠h.objs.size:=Nat.ne_of_lt (Heap.lt_size he)
  have fin:∀ h' tk',h'.get? e=some (xob C (some h.objs.size) a .none)→h'.Ns1 h.objs.size (fun y=>if y=name then some v else none)→(∀ b o,b≠e→h.get? b=some o→h'.get? b=some o)→Q' (.done (.ret .none)) ⟨h',g,d,tk',os⟩:=fun h' tk' a1 a2 a3=>hq h' tk' _ (Nat.le_refl _) a1 a2 a3
  clear hq
  generalize hO:xob C none a .none=o at he
  have hc:o.cls=.ref C:=by rw [← hO]
  have hdn:o.dict=none:=by rw [← hO]
  have hnc:∀ c,o.data≠.cls c:=fun c z=>by rw [← hO] at z;cases z
  have hOd:({ cls:=o.cls,dict:=some h.objs.size,data:=o.data,slots:=o.slots }:Obj)=xob C (some h.objs.size) a .none:=by rw [← hO]
  unfold Builtin.«object.__setattr__»
  repeat (first | rw [refuse_eq] | (rw [refuseLoop_ref,refuseLoop_ref,hpass]) | (with_reducible refine wpAny_loadPart_at he ?_;rw [hc]) | with_reducible refine wpAny_mroOf_exc hC ?_ | (with_reducible refine lk n3 n4 hB ?_) | wp_step)
  rw [hdn,if_neg (by simp [typeHasDict])]
  split
  ·rename_i hcd
   cases hcd
  split
  ·rename_i c hcd
   exact absurd hcd (hnc c)
  have hx₁:(h.push { cls:=.type "dict",data:=.dict #[] }).get? e=some o:=mr _ he
  refine wpAny_bind (wpAny_alloc' ?_)
  refine wpAny_bind (wpAny_update' hx₁ ?_)
  refine wpAny_pure ?_
  have hgd:((h.push { cls:=.type "dict",data:=.dict #[] }).update e fun o=>{ cls:=o.cls,dict:=some h.objs.size,data:=o.data,slots:=o.slots }).get? h.objs.size=some { cls:=.type "dict",data:=.dict #[] } :=
   (Heap.get?_update_ne _ _ _ _ hxs.symm).trans (Heap.get?_push_at rfl rfl)
  have hnd:((h.push { cls:=.type "dict",data:=.dict #[] }).update e fun o=>{ cls:=o.cls,dict:=some h.objs.size,data:=o.data,slots:=o.slots }).Ns h.objs.size (fun _=>none) :=
   ⟨_,#[],_,hgd,rfl,fun e he=>absurd he (by simp),fun _=>rfl⟩
  show wpAny _ _ (storeInDict h.objs.size (.str name t) name v) _ _ _
  unfold storeInDict newKeyGuard
  refine wpAny_bind (wpAny_pure (wpAny_bind (wpAny_nsSet1 (Heap.Ns1.of_empty hnd) fun h' hn' hs=>?_)))
  obtain ⟨oD,esD,epD,hoD,hdD,hcD⟩:=hn'.count (Within.cons name v Within.nil)
  refine wpAny_bind (wpAny_lookBehind hoD (by rw [hdD];exact pastItsLine_dict (mq hcD (by rw [mB,List.length_nil,sizeLine_eq];omega))) ?_)
  wp_walk
  refine fin h' _ ?_ hn' fun b ob hbx hb=>?_
  ·rw [← hOd]
   refine (hs.2 e hxs).trans (Heap.get?_update_self _ hx₁ ?_)
   rw [← hO];rfl
  ·exact (hs.2 b (Nat.ne_of_lt (Heap.lt_size hb))).trans ((Heap.get?_update_ne _ _ _ _ hbx).trans (mr _ hb))
 have hch:∀ {Q':Unit→Shared→Prop} {E':Value→Shared→Prop} {s':Shared} {A':Around},Q' () s'→wpAny (model prog w) A' (match Manifest.signature? sa with | some sig=>Bind.checkArgs sa sig ⟨[.ref e,.str name t,v],[]⟩ | _=>pure ()) Q' E' s':=fun {Q' E' s' A'} q'=>by
  have ha:=ha t
  cases hsig:Manifest.signature? sa with
  | none=>exact wpAny_pure q'
  | some sig =>
   simp only [argsOk,hsig] at ha
   have h2:Bind.checkArgs sa sig ⟨[.ref e,.str name t,v],[]⟩=pure ():=ha
   show wpAny _ _ (Bind.checkArgs sa sig ⟨[.ref e,.str name t,v],[]⟩) _ _ _
   rw [h2];exact wpAny_pure q'
 refine hch (body fun h' tk' dx a0 a1 a2 a3=>?_)
 exact wpAny_pure (wpAny_pure (hq h' tk' dx a0 a1 a2 a3))
end
def XRaw (e C:Addr):HO:=.ext fun h=>∃ a,h.get? e=some (xob C none a .none)
structure EK (K:PySem.W.Frag) (C R:Addr) (fld:Str):Prop where
 ex:∃ N NR mN mR,(∀ h,K.In h→C2 h C N R NR mN mR)∧mN "__setattr__"=none∧mR "__setattr__"=none∧mN fld=none∧mR fld=none
 fb:typeLookup (.type "ValueError") fld=pure none
structure RK (K:PySem.W.Frag) (R:Addr):Prop where
 sp:PySem.W.specialIn K (.ref R) "__getattribute__"=some (some (.builtin "type.__getattribute__"))
 rd:∃ mc,PySem.W.readsIn K R mc=true∧PySem.W.findCls K (.ref R) mc "__init__"=some (.val (.builtin "ValueError.__init__"))
section
variable {X:Cx} {pins:List (Addr×Obj)} {σ:L2.St} {H:Hp} {s:Shared} {C R e:Addr} {fld:Str}
theorem jU {o:HO} (h:H e=some o):upd H e o=H:=funext fun b=>by
 by_cases z:b=e
 ·rw [z,af,h]
 ·rw [ai z]
theorem dq (I:L2.Inv X pins σ H s) (h:H e=some (XRaw e C)):∃ a,s.heap.get? e=some (xob C none a .none):=(I.hok e _ h).1
theorem cX {P:Program} {w:World} {H:Hp} {h':Heap} {a:Value} (g:h'.get? e=some (xob C none a .none)):aW P w H h' e (XRaw e C) :=
 ⟨⟨a,g⟩,⟨_,g⟩,fun h1 h2 p k=>by obtain ⟨a,p⟩:=p;exact⟨a,k _ p⟩⟩
theorem jy {P:Program} {w:World} {H:Hp} {h':Heap} {a:Value} {dx:Addr} (g:h'.get? e=some (xob C (some dx) a .none)):aW P w H h' e (XNew e C dx) :=
 ⟨⟨a,g⟩,⟨_,g⟩,fun h1 h2 p k=>by obtain ⟨a,p⟩:=p;exact⟨a,k _ p⟩⟩
def jD (C:Addr) (t:TA):TE:=fun σ H Q=>t σ H fun vs H1=>∃ e y,vs=[.ref e,y]∧H1 e=some (XRaw e C)∧Q .non H1
theorem c6 {xR:Str} {pR apos pos:Pos} {a1 a2:Expr} {t:TA} {pl:Sem Bool} (rk:RK X.K R) (ek:EK X.K C R fld) (hg:Gl X xR) (hm:X.mg xR=some (.ref R)) (ha:PA X [a1,a2] t) (hdb:(xR == ("__debug__":Str))=false:=by decide)
    (hst:starEach [a1,a2] X.env=(false,eval a1 X.env) :: starEach [a2] X.env:=by rfl) (hpl:(backTo pos (starEach [a2] X.env)).any (·.1)=false:=by rfl)
    (ht:eval (.Call (.Attribute (.Name xR pR) "__init__" apos) [a1,a2] [] pos) X.env=(do
      let ov←eval (.Name xR pR) X.env
      standAt apos.atName
      let (f,first)←holding [ov] (getMethod ov "__init__" pl)
      callWith pos f first (backTo pos (starEach [a1,a2] X.env)) (backToKw pos (keywordEach [] X.env))):=by rfl) :
    PE X (.Call (.Attribute (.Name xR pR) "__init__" apos) [a1,a2] [] pos) (jD C t):=by
  intro pins s σ H Q I h
  obtain ⟨mc,hrd,hfc⟩:=rk.rd
  refine PySem.W.methodCall_KW (pl:=pl) (bv I hg hm ?_ hdb) ht
  refine PySem.W.method_cls I.kIn rk.sp (PySem.W.cls_value I.kIn hrd hfc (by rfl) ?_)
  have I1:=I.tok (s.toks + 1)
  have hA:=ha pos pins _ σ H _ I1 h
  rw [hst] at hA
  show wpAny _ _ (callWith pos (.builtin "ValueError.__init__") [] (backTo pos (starEach [a1,a2] X.env)) (backToKw pos (keywordEach [] X.env))) _ _ _
  rw [hst]
  refine Calls.callWith_builtin (by show (false || (backTo pos (starEach [a2] X.env)).any (·.1))=false;rw [hpl]<;>rfl) (Calls.evalArgs_plain ?_)
  refine thn hA fun us s2 hs2=>?_
  obtain ⟨vs,H2,I2,r2,e,y,rfl,hX,q2⟩:=hs2
  cases r2 with
  | cons r0 r2 =>
    cases r2 with
    | cons r1 r2 =>
      cases r2
      cases r0
      obtain ⟨N,NR,mN,mR,c2,_⟩:=ek.ex
      obtain ⟨a,he⟩:=dq I2 hX
      obtain ⟨hh,g,d,tk,os⟩:=s2
      refine lM (c2 _ I2.kIn) he (fun h' a' g1 g2=>?_) (by show 1≤sizeLine;decide)
      have I3:=I2.write (t':=tk) (x:=e) (e:=e) (o:=XRaw e C) (h':=h') (by rw [hX];trivial) (.inl rfl) g2 ⟨_,g1⟩ (cX g1)
      rw [jU hX] at I3
      exact⟨.non,H2,I3,rfl,q2⟩
end
end DL
namespace DL
open PySem PySem.Spec PyProof.Rows L2
structure Lft (fs:List Addr) (h h':Heap) (e:Addr) (t:Value) (C:Addr) (dx:Option Addr) (a:Value) (T:Addr):Prop where
 ex:h'.get? e=some (xob C dx a (.ref T))
 tb:TbOk h' e (.ref T)
 new:h.objs.size≤T
 keep:∀ b o,h.get? b=some o→b≠e→t≠.ref b→b∉fs→h'.get? b=some o
 slot:∀ b o,h.get? b=some o→b≠e→t≠.ref b→∃ sl,h'.get? b=some { o with slots:=sl }
 there:∀ b o,h.get? b=some o→∃ o',h'.get? b=some o'
section
variable {M:Model} {A:Around} {E:Value→Shared→Prop} {s:Shared} {base:Heap} {env:Env} {outer:List Env} {L e C:Addr} {dx:Option Addr} {a t:Value} {Q:Unit→Shared→Prop}
theorem entry {head:Value} {had:Bool} (hfr:A.frames=some (env :: outer)) (hl:s.heap.FunFrames base (env :: outer)) (hf:env.frame=some L) (he:s.heap.get? e=some (xob C dx a t))
  (h:∀ h' T,h'.get? e=some (xob C dx a (.ref T))→TbOk h' e (.ref T)→s.heap.objs.size≤T→(∀ b o,s.heap.get? b=some o→b≠e→b∉frs (env :: outer)→h'.get? b=some o)→(∀ b o,s.heap.get? b=some o→b≠e→∃ sl,h'.get? b=some { o with slots:=sl })→Q () { s with heap:=h' }) :
  wpAny M A (do let a←frameOf env;let pl←entryPlaceOf L had;let b←EntryCells.newEntry head a .none (rawInt L) .none pl;setField (.ref e) 1 b) (fun _ s'=>wpAny M A (setFlight (.ref e) none) Q E s') E s:=by
 have hene:e∉(env :: outer).filterMap (·.frame):=fun hm=>by
  obtain ⟨_,o,ho,hnf⟩:=hl.mem hm
  rw [he] at ho;injection ho with ho;subst ho;exact hnf _ rfl
 refine wpAny_bind (wpAny_frameOf_fun hfr hl hf fun h₁ hs₁=>?_)
 refine wpAny_bind (wpAny_entryPlaceOf fun pl hpl=>?_)
 unfold EntryCells.newEntry newFields
 refine wpAny_bind (wpAny_newObj_type ?_ (hpl.sizeOk5 _ _ _ _ _))
 have he₁:h₁.get? e=some (xob C dx a t):=(hs₁.2.1 e hene).trans he
 generalize hO:({ cls:=.type "traceback",dict:=none,data:=.fields ([head,.ref L,.none,rawInt L,.none]++(if pl.isEmpty then List.replicate 6 Value.none else pl)).toArray }:Obj)=O
 have hOd:O.data=.fields ([head,.ref L,.none,rawInt L,.none]++(if pl.isEmpty then List.replicate 6 Value.none else pl)).toArray:=by rw [← hO]
 have hOf:O.isFreed=false:=by rw [← hO];rfl
 have he₂:=mr (h:=h₁) O he₁
 refine wpAny_setField he₂ rfl (by simp) ?_
 have hTe:h₁.objs.size≠e:=Nat.ne_of_gt (Heap.lt_size he₁)
 have he₃:((h₁.push O).update e (Obj.mapFields (·.setIfInBounds 1 (Value.ref h₁.objs.size)))).get? e=some (xob C dx a (.ref h₁.objs.size)):=Heap.get?_update_self (Obj.mapFields (·.setIfInBounds 1 (Value.ref h₁.objs.size))) he₂ rfl
 have hT₃:((h₁.push O).update e (Obj.mapFields (·.setIfInBounds 1 (Value.ref h₁.objs.size)))).get? h₁.objs.size=some O:=(Heap.get?_update_other _ _ (Ne.symm hTe)).trans (mH h₁ hOf)
 unfold setFlight
 refine wpAny_bind (wpAny_field he₃ rfl (x:=.ref h₁.objs.size) rfl ?_)
 rw [if_pos (show (Value.ref h₁.objs.size != Value.none)=true from by simp)]
 have hsz:3 < ([head,.ref L,.none,rawInt L,.none]++(if pl.isEmpty then List.replicate 6 Value.none else pl)).toArray.size:=by simp only [mE,my,mB,List.length_nil]<;>omega
 have hne:∀ b o,h₁.get? b=some o→h₁.objs.size≠b:=fun b o hb=>Nat.ne_of_gt (Heap.lt_size hb)
 have keep:∀ b o,b≠e→h₁.get? b=some o→(((h₁.push O).update e (Obj.mapFields (·.setIfInBounds 1 (Value.ref h₁.objs.size)))).update h₁.objs.size (Obj.mapFields (·.setIfInBounds 3 ((none:Option Addr).elim Value.none fun f=>rawInt f)))).get? b=some o:=fun b o hbe hb=>by
  rw [Heap.get?_update_other _ _ (hne b o hb),Heap.get?_update_other _ _ (Ne.symm hbe)]
  exact mr _ hb
 refine wpAny_setField hT₃ hOd hsz (h _ h₁.objs.size ?_ ?_ ?_ (fun b o hb hbe hbf=>keep b o hbe ((hs₁.2.1 b hbf).trans hb)) fun b o hb hbe=>?_)
 ·rw [Heap.get?_update_other _ _ hTe];exact he₃
 ·exact .inr ⟨_,_,_,rfl,hTe,Heap.get?_update_self _ hT₃ (Obj.isFreed_of_fields (Obj.data_mapFields hOd _)),Obj.data_mapFields hOd _,by simp [hsz]⟩
 ·rw [hs₁.1];exact Nat.le_refl _
 ·obtain ⟨sl,hs⟩:=hs₁.2.2 b o hb
  exact⟨sl,keep b _ hbe hs⟩
theorem note (hfr:A.frames=some (env :: outer)) (hl:s.heap.FunFrames base (env :: outer)) (hf:env.frame=some L) (he:s.heap.get? e=some (xob C dx a t)) (ht:TbOk s.heap e t)
  (h:∀ h' T,Lft (frs (env :: outer)) s.heap h' e t C dx a T→Q () { s with heap:=h' }) :
  wpAny M A (noteFrame (.ref e) env) (fun _ s'=>wpAny M A (setFlight (.ref e) none) Q E s') E s:=by
 unfold noteFrame
 simp only [hf]
 refine wpAny_bind (wpAny_field he rfl (x:=t) rfl ?_)
 rcases ht with rfl | ⟨T,oT,ts,rfl,hTe,hT,hdT,h3⟩
 ·rw [if_neg (by decide)]
  refine entry hfr hl hf he fun h' T h1 h2 h3 h4 h5=>h h' T ⟨h1,h2,h3,fun b o hb hbe _=>h4 b o hb hbe,fun b o hb hbe _=>h5 b o hb hbe,fun b o hb=>?_⟩
  by_cases z:b=e
  ·exact⟨_,by rw [z];exact h1⟩
  ·obtain ⟨sl,q⟩:=h5 b o hb z;exact⟨_,q⟩
 ·rw [if_pos (show (Value.ref T != Value.none)=true from by simp)]
  refine wpAny_bind (wpAny_field hT hdT h3 ?_)
  rw [if_neg (show ¬ ((Value.none == rawInt L)=true) from by simp [rawInt])]
  refine wpAny_bind (wpAny_setField hT hdT (Array.getElem?_eq_some_iff.mp h3).1 ?_)
  have other:∀ b,b≠T→(s.heap.update T (Obj.mapFields (·.setIfInBounds 3 Value.none))).get? b=s.heap.get? b:=fun b hb=>Heap.get?_update_other _ _ (Ne.symm hb)
  have noRecord:∀ b o,s.heap.get? b=some o→(∀ vs,o.data≠.fields vs)→b≠T:=fun b o hb hnf q=>by
   rw [q,hT] at hb;injection hb with hb;subst hb;exact hnf ts hdT
  have hT2:=Heap.get?_update_self (Obj.mapFields (·.setIfInBounds 3 Value.none)) hT (Obj.isFreed_of_fields (Obj.data_mapFields hdT _))
  refine entry (s:={ s with heap:=s.heap.update T (Obj.mapFields (·.setIfInBounds 3 Value.none)) }) hfr (hl.of_keeps fun b o hb hnf=>⟨o,(other b (noRecord b o hb hnf)).trans hb,rfl⟩) hf ((other e (Ne.symm hTe)).trans he)
   fun h' T' h1 h2 h3 h4 h5=>h h' T' ⟨h1,h2,by rw [← Heap.size_after_update];exact h3,fun b o hb hbe hbt=>h4 b o ((other b fun z=>hbt (by rw [z])).trans hb) hbe,fun b o hb hbe hbt=>h5 b o ((other b fun z=>hbt (by rw [z])).trans hb) hbe,fun b o hb=>?_⟩
  by_cases z:b=e
  ·exact⟨_,by rw [z];exact h1⟩
  ·by_cases z2:b=T
   ·subst z2
    obtain ⟨sl,q⟩:=h5 b _ hT2 z;exact⟨_,q⟩
   ·obtain ⟨sl,q⟩:=h5 b o ((other b z2).trans hb) z;exact⟨_,q⟩
theorem l6 (hfr:A.frames=some (env :: outer)) (hl:s.heap.FunFrames base (env :: outer)) (hf:env.frame=some L) (he:s.heap.get? e=some (xob C dx a t)) (ht:TbOk s.heap e t)
  (h:∀ h' T,Lft (frs (env :: outer)) s.heap h' e t C dx a T→Q () { s with heap:=h' }):wpAny M A (leaving env (.ref e)) Q E s:=by
 unfold leaving
 exact wpAny_bind (note hfr hl hf he ht h)
end
inductive CXE (P:Program) (w:World) (outer:List Env) (H:Hp) (s:Shared) (E:XK) (v:Value) (s':Shared):Prop
 | mk (e C dx:Addr) (a t:Value) (H':Hp) (hv:v=.ref e) (os:s'.os=s.os) (bare:AllBare s'.gens) (un:Un (frs outer) [] H H' s.heap s'.heap) (hok:HOk P w H' s'.heap)
  (he:s'.heap.get? e=some (xob C (some dx) a t)) (ht:TbOk s'.heap e t) (hT:∀ T,t=.ref T→H' T=none∧s.heap.objs.size≤T) (hX:H' e=some (XAt e C dx)) (hE:E (.ref e) (some dx) H')
section
variable {P:Program} {w:World} {K:PySem.W.Frag} {mg:Str→Option Value} {base:Heap} {N:List Str} {qual:Str} {scope:Scope} {f:Addr} {cd:Value} {A:Around} {outer:List Env} {s:Shared} {H:Hp} {E:XK}
theorem Lft.hok {fs:List Addr} {h h':Heap} {e C dx T:Addr} {a t:Value} {H':Hp} (l:Lft fs h h' e t C (some dx) a T) (hok:HOk P w H' h) (hX:H' e=some (XAt e C dx)) (hT:∀ T,t=.ref T→H' T=none) (hfs:∀ b∈fs,H' b=none):HOk P w H' h':=fun b o q=>by
 have kp:∀ c u v,H' c=some v→c≠e→h.get? c=some u→h'.get? c=some u:=fun c u v hc hce hu=>l.keep c u hu hce (fun z=>by rw [hT c z] at hc;cases hc) fun z=>by rw [hfs c z] at hc;cases hc
 by_cases hb:b=e
 ·subst hb
  rw [hX] at q
  cases q
  refine⟨⟨_,_,l.ex⟩,⟨_,l.ex⟩,fun h1 h2 p k=>?_⟩
  obtain ⟨a,t,p⟩:=p
  exact⟨a,t,k _ p⟩
 ·refine (hok b o q).stay (fun c u hc hu=>?_) (fun _ r=>r) fun _ _ r=>r
  rcases hc with rfl | hc
  ·exact kp _ _ _ q hb hu
  ·exact kp _ _ _ hc (fun z=>by rw [z,hX] at hc;cases hc) hu
end
end DL
namespace DL
open PySem PySem.Spec PyProof.Rows L2
section
variable {X:Cx} {pins:List (Addr×Obj)} {σ:L2.St} {H:Hp} {s:Shared} {C R e:Addr} {fld:Str}
theorem gW {f:Str} {y:V} {u:Value} (r:RelV y u) (f':Str):RelO (([(f,y)]:List (Str×V)).lookup f') (if f'=f then some u else none):=by
 by_cases z:f'=f
 ·subst z
  rw [if_pos rfl]
  simp only [List.lookup,beq_self_eq_true]
  exact r
 ·rw [if_neg z]
  have:(f' == f)=false:=beq_eq_false_iff_ne.mpr z
  simp only [List.lookup,this]
  exact True.intro
theorem Inv.xput {h':Heap} {dx:Addr} {a u:Value} {y:V} {t':Nat} (I:L2.Inv X pins σ H s) (hX:H e=some (XRaw e C)) (hdx:s.heap.objs.size≤dx) (r:RelV y u) (g1:h'.get? e=some (xob C (some dx) a .none)) (g2:h'.Ns1 dx (fun z=>if z=fld then some u else none))
  (g3:∀ b o,b≠e→s.heap.get? b=some o→h'.get? b=some o):L2.Inv X pins σ (upd (upd H dx (.xd [(fld,y)])) e (XNew e C dx)) { s with heap:=h',toks:=t' }:=by
 have hn:H dx=none:=I.hok.fresh hdx
 have hne:dx≠e:=fun z=>by rw [z,hX] at hn;cases hn
 have at':∀ b,b≠e→b≠dx→upd (upd H dx (.xd [(fld,y)])) e (XNew e C dx) b=H b:=fun b z1 z2=>by rw [ai z1,ai z2]
 have ndx:∀ b o,s.heap.get? b=some o→b≠dx:=fun b o hb z=>by
  have:=Heap.lt_size hb
  rw [z] at this
  exact absurd (Nat.lt_of_lt_of_le this hdx) (Nat.lt_irrefl _)
 have nH:∀ b v,H b=some v→b≠dx:=fun b v hb z=>by rw [z,hn] at hb;cases hb
 have nX:∀ b v,H b=some v→v≠XRaw e C→b≠e:=fun b v hb hv z=>by rw [z,hX] at hb;exact hv (Option.some.inj hb).symm
 refine I.un ⟨fun b o hb hu _ _=>g3 b o (fun z=>by rw [z,hX] at hu;cases hu) hb,fun b o hb hu _ _=>⟨o.slots,g3 b o (fun z=>by rw [z,hX] at hu;cases hu) hb⟩,fun b o hb hu _=>?_,fun b o hb _=>?_,fun b xs hb=>?_,fun b o u hb=>?_,fun b ps hb=>⟨#[],?_⟩⟩ fun b o q=>?_
 ·rw [at' b (fun z=>by rw [z,hX] at hu;cases hu) (ndx b o hb)];exact hu
 ·by_cases z:b=e
  ·exact⟨_,by rw [z];exact g1⟩
  ·exact⟨o,g3 b o z hb⟩
 ·rw [at' b (nX b _ hb (by unfold XRaw;exact fun z=>nomatch z)) (nH b _ hb)];exact hb
 ·rw [at' b (nX b _ hb (by unfold XRaw;exact fun z=>nomatch z)) (nH b _ hb)];exact hb
 ·rw [at' b (nX b _ hb (by unfold XRaw;exact fun z=>nomatch z)) (nH b _ hb),hb,Array.append_empty]
 ·by_cases z:b=e
  ·subst z
   rw [af] at q
   cases q
   exact jy g1
  ·by_cases z2:b=dx
   ·subst z2
    rw [ai z,af] at q
    cases q
    exact⟨_,g2,gW r⟩
   ·rw [at' b z z2] at q
    refine (I.hok b o q).stay (fun c v hc hv=>?_) (fun c hc=>?_) fun c xs hc=>?_
    ·refine g3 c v ?_ hv
     rcases hc with rfl | hc
     ·exact z
     ·exact nX c _ hc (by unfold XRaw;exact fun z=>nomatch z)
    ·rw [at' c (nX c _ hc (by unfold XRaw;exact fun z=>nomatch z)) (nH c _ hc)];exact hc
    ·rw [at' c (nX c _ hc (by unfold XRaw;exact fun z=>nomatch z)) (nH c _ hc)];exact hc
def jp (C:Addr) (f:Str) (ta tv:TE):TS:=fun D σ H=>tv σ H fun y H1=>ta σ H1 fun x H2=>∃ e,x=.ref e∧H2 e=some (XRaw e C)∧∀ dx,H2 dx=none→dx≠e→D.nx σ (upd (upd H2 dx (.xd [(f,y)])) e (XNew e C dx))
theorem c9 {o value:Expr} {pos' pos:Pos} {ta tv:TE} (ek:EK X.K C R fld) (ha:PE X o ta) (hv:PE X value tv) (hs:swapsWith value (some (.Attribute o fld pos')) pos.line X.env=pure false:=by rfl):PS X (.Assign [.Attribute o fld pos'] value pos) (jp C fld ta tv):=by
 intro pins s σ H D I h
 refine plainObj_wpAny_Assign_Attribute (thn (hv pins s σ H _ I h) fun u s1 hs1=>?_) hs
 obtain ⟨y,H1,I1,ry,q⟩:=hs1
 refine thn (ha pins s1 σ H1 _ I1 q) fun ov s2 hs2=>?_
 obtain ⟨x,H2,I2,rx,e,rfl,hX,q2⟩:=hs2
 cases rx
 obtain ⟨N,NR,mN,mR,c2,n1,n2,n3,n4⟩:=ek.ex
 obtain ⟨a,he⟩:=dq I2 hX
 obtain ⟨hh,g,d,tk,os⟩:=s2
 refine jX PySem.F.store_ValueError (c2 _ I2.kIn) n1 n2 n3 n4 ek.fb he fun h' tk' dx hdx g1 g2 g3=>?_
 have hn:H2 dx=none:=I2.hok.fresh hdx
 exact⟨σ,_,Inv.xput (t':=tk') I2 hX hdx ry g1 g2 g3,q2 dx hn fun z=>by rw [z,hX] at hn;cases hn⟩
end
structure EM (K:PySem.W.Frag) (C R fI:Addr):Prop where
 ex:∃ N NR mN mR,(∀ h,K.In h→C2 h C N R NR mN mR)∧mN "__init__"=some (.ref fI)
 kp:PySem.W.keepIn K (.ref C)=true
 fn:∃ o,K.lookup fI=some o∧o.cls=.type "function"
def pyB:Bool→V→Prop
 | false,_=>True
 | true,v=>∃ x,v=.str x∧x.length≤100
def spI (C:Addr) (fld:Str) (b:Bool):Sp:=fun vs H Q _=>∃ e y,vs=[.ref e,y]∧pyB b y∧H e=some (XRaw e C)∧∀ dx,H dx=none→dx≠e→Q .non (upd (upd H dx (.xd [(fld,y)])) e (XNew e C dx))
theorem upd3 {H:Hp} {e dx:Addr} {a b c:HO}:upd (upd (upd H e a) dx b) e c=upd (upd H dx b) e c:=funext fun z=>by
 by_cases h:z=e
 ·rw [h,af,af]
 ·rw [ai h,ai h]
  by_cases h2:z=dx
  ·rw [h2,af,af]
  ·rw [ai h2,ai h2,ai h]
section
variable {X:Cx} {pins:List (Addr×Obj)} {σ:L2.St} {H:Hp} {s:Shared} {C R fI:Addr} {fld:Str} {k:Nat} {fd:FuncData} {ps:List Str} {Q:VK} {b:Bool}
theorem gd {y:V} {u:Value} (em:EM X.K C R fI) (F:FnOk X.prog X.w X.K X.mg X.base CX0 k fI fd ps (spI C fld b)) (hr:Room (k + 1) X.A) (hb:bi X.K fd ps []) (I:L2.Inv X pins σ H s) (r:RelV y u) (hy:pyB b y)
  (h:∀ e dx,H e=none→H dx=none→dx≠e→Q (.ref e) (upd (upd H dx (.xd [(fld,y)])) e (XNew e C dx))):wpAny (model X.prog X.w) X.A (call (.ref C) [u]) (EP X pins σ Q) X.xe s:=by
 obtain ⟨N,NR,mN,mR,c2,hi⟩:=em.ex
 obtain ⟨o,lk,hc⟩:=em.fn
 obtain ⟨hh,g,d,tk,os⟩:=s
 refine lN (c2 _ I.kIn) hi (I.kIn _ _ lk) hc (fun h' e hs M=>?_) (by show 1≤sizeLine;decide)
 obtain ⟨t,he,_⟩:=M.there
 have I2:=I.laid (t':=tk) (a:=e) (o:=XRaw e C) M.keeps hs (cX he)
 have hn:H e=none:=I.hok.fresh hs
 have sp:spI C fld b [.ref e,y] (upd H e (XRaw e C)) (fun v H2=>v=.non∧Q (.ref e) H2) E0:=⟨e,y,rfl,hy,af,fun dx hdx hne=>⟨rfl,by
  rw [upd3]
  exact h e dx hn (by rw [ai hne] at hdx;exact hdx) hne⟩⟩
 have r2:Vals [V.ref e,y] [Value.ref e,u]:=.cons rfl (.cons r .nil)
 have hl:([Value.ref e,u]++[]).length=ps.length:=by
  have:=F.len _ _ _ _ sp
  exact this
 refine wpAny_call (codeAny_mono (F.run _ X.stack _ _ ⟨[Value.ref e,u],[]⟩ [Value.ref e,u] [V.ref e,y] _ E0 (hr.make C [u] []) (I2.env0.make C [u] []) (hb _ [Value.ref e,u] I2.kIn hl) r2 sp) fun r s' hq'=>?_)
 cases r with
 | error e=>exact False.elim hq'
 | ok fl =>
  cases fl with
  | ret u' =>
   obtain ⟨v,H',I3,rv,ev,q3⟩:=I2.after hq'
   subst ev
   exact⟨rv,⟨V.ref e,H',I3,rfl,q3⟩⟩
  | next=>exact False.elim hq'
  | brk=>exact False.elim hq'
  | cont=>exact False.elim hq'
def ia (C:Addr) (fld:Str) (b:Bool) (t:TA):TE:=fun σ H Q=>t σ H fun vs H1=>∃ y,vs=[y]∧pyB b y∧∀ e dx,H1 e=none→H1 dx=none→dx≠e→Q (.ref e) (upd (upd H1 dx (.xd [(fld,y)])) e (XNew e C dx))
theorem dS {x:Str} {p pos:Pos} {a:Expr} {t:TA} (em:EM X.K C R fI) (F:FnOk X.prog X.w X.K X.mg X.base CX0 k fI fd ps (spI C fld b)) (hr:Room (k + 1) X.A) (hg:Gl X x) (hm:X.mg x=some (.ref C)) (hb:bi X.K fd ps []) (ha:PA X [a] t)
  (hdb:(x == ("__debug__":Str))=false:=by decide) (he:starEach [a] X.env=(false,eval a X.env) :: starEach [] X.env:=by rfl) (hpl:(backTo pos (starEach [] X.env)).any (·.1)=false:=by rfl) :
  PE X (.Call (.Name x p) [a] [] pos) (ia C fld b t):=by
 intro pins s σ H Q I h
 refine wpAny_Call_Name_kw (bv I hg hm ?_ hdb)
 refine PySem.W.callWith_K (h₀:=X.base) I.ok.mod.kin em.kp (thn (ha pos pins s σ H _ I h) fun us s1 hs1=>?_) he hpl
 obtain ⟨vs,H1,I1,r,y,rfl,hy,q⟩:=hs1
 refine⟨I1.kIn,?_⟩
 cases r with
 | cons r0 r =>
  cases r
  exact gd em F hr hb I1 r0 hy q
end
theorem kQ {M:Model} {A:Around} {E:Value→Shared→Prop} {s:Shared} {env:Env} {x:Sem Value} {Q:Flow→Shared→Prop} {C N R NR:Addr} {mN mR:Str→Option Value} (hh:A.handled=none)
  (h:wpAny M A x (fun v s₁=>∃ e dx a,v=.ref e∧C2 s₁.heap C N R NR mN mR∧s₁.heap.get? e=some (xob C dx a .none)∧E (.ref e) s₁) E s):wpAny M A (raiseStmt env (some x) none) Q E s:=by
 unfold raiseStmt
 refine wpAny_bind (wpAny_mono h (fun v s₁ h₁=>?_) fun _ _ x=>x)
 obtain ⟨e,dx,a,rfl,c,he,hE⟩:=h₁
 obtain ⟨nm,q,bs,sn,sub,ab,col,dd,k0,k1,k2,k3,k5,hC⟩:=c.hC
 have hcB:(Value.ref C :: (Value.ref R :: bmV)).contains (.type "BaseException")=true:=by rw [List.contains_cons,List.contains_cons,show bmV.contains (.type "BaseException")=true by decide +kernel,Bool.or_true,Bool.or_true]
 obtain ⟨hp,g,d,tk,os⟩:=s₁
 repeat (first | with_reducible refine wpAny_loadPart_at he ?_ | with_reducible refine wpAny_loadPart_at hC ?_ | (with_reducible refine wpAny_isSubtype_exc hC ?_;rw [hcB]) | wp_step)
 exact wpAny_raiseNew_none hh hE
section
variable {P:Program} {w:World} {K:PySem.W.Frag} {mg:Str→Option Value} {base:Heap} {N:List Str} {qual:Str} {scope:Scope} {f:Addr} {cd:Value} {A:Around} {outer:List Env} {s:Shared} {H:Hp} {E:XK} {C R e dx:Addr} {fld:Str}
end
end DL
namespace DL
open PySem PySem.Spec PyProof.Rows L2
section
variable {X:Cx} {pins:List (Addr×Obj)} {σ:L2.St} {H:Hp} {s:Shared}
theorem fk {M:Model} {A:Around} {E:Value→Shared→Prop} {i:Nat} {x:Str} {v:V} {Q:Unit→Shared→Prop} (I:L2.Inv X pins σ H s) (hN:X.N.Nodup) (hi:X.N[i]?=some x) (hk:X.env.scope.names.lookup x=some .local) (hv:σ[i]?=some (some v))
  (h:∀ s',L2.Inv X pins (σ.set i none) H s'→Q () s'):wpAny M A (unbindName X.env x) Q E s:=by
 obtain ⟨m,hn,hl⟩:=id I.loc
 have hcls:(X.env.scope.kind == .class || (X.env.scope.kind == .module && X.env.locals != X.env.globals))=false:=by rw [I.ok.kind];rfl
 have hiσ:i < σ.length:=by rw [I.len];exact (mz.mp hi).1
 have cne:=I.cne
 obtain ⟨u,r,q⟩:=hl i x v hi hv (.inl hk)
 have hm:m x=some u:=by
  rcases q with ⟨_,e⟩ | ⟨k,_⟩
  ·exact e
  ·rcases k with k | k
   ·rw [show X.env.kindOf x=X.env.scope.names.lookup x from rfl,hk] at k;cases k
   ·rw [show X.env.kindOf x=X.env.scope.names.lookup x from rfl,hk] at k;cases k
 refine wpAny_unbindName_local hk hn hm hcls fun h' u' hn' hs=>?_
 obtain ⟨oL,_,_,hoL,_⟩:=id hn
 have tracked:HOk X.prog X.w H h':=fun b ob e=>by
  refine (I.hok b ob e).stay (fun c w' hc q=>(hs.2 c ?_).trans q) (fun _ q=>q) fun _ _ q=>q
  rintro rfl
  rcases hc with rfl | hc
  ·rw [I.free] at e;cases e
  ·rw [I.free] at hc;cases hc
 refine h _ ⟨I.ok,I.os,I.bare,⟨fun b o e n hb hx=>?_,fun b o e n hb hx=>?_,I.base.free,fun b o e hx=>?_,I.base.tups,I.base.frzs,I.base.tbls⟩,⟨_,hn',fun j y v' e1 e2 e3=>?_⟩,fun y c e=>?_,I.free,I.freeC,fun p hp=>?_,tracked,by simpa using I.len⟩
 ·exact (hs.2 b (Nat.ne_of_lt (Nat.lt_of_lt_of_le (Heap.lt_size e) I.ok.above))).trans (I.base.keep b o e n hb hx)
 ·obtain ⟨sl,e1⟩:=I.base.slot b o e n hb hx
  exact⟨sl,(hs.2 b (Nat.ne_of_lt (Nat.lt_of_lt_of_le (Heap.lt_size e) I.ok.above))).trans e1⟩
 ·obtain ⟨o',e1⟩:=I.base.there b o e hx
  exact⟨o',(hs.2 b (Nat.ne_of_lt (Nat.lt_of_lt_of_le (Heap.lt_size e) I.ok.above))).trans e1⟩
 ·by_cases hj:j=i
  ·subst hj
   rw [List.getElem?_set_self hiσ] at e2
   cases e2
  ·rw [List.getElem?_set_ne (Ne.symm hj)] at e2
   obtain ⟨u',r',q⟩:=hl j y v' e1 e2 e3
   refine⟨u',r',?_⟩
   rcases q with ⟨k,e⟩ | ⟨k,c,e,z⟩
   ·refine .inl ⟨k,?_⟩
    have:y≠x:=fun e=>hj (cx hN e1 (e ▸ hi))
    simp [this,e]
   ·exact .inr ⟨k,c,e,z.sameBut hs (cne y c e)⟩
 ·obtain ⟨w',z⟩:=I.cell y c e
  exact⟨w',z.sameBut hs (cne y c e)⟩
 ·obtain ⟨e,n,ne,nf,d⟩:=I.pin p hp
  exact⟨(hs.2 p.1 ne).trans e,n,ne,nf,d⟩
abbrev _root_.L2.Cx.inTry (X:Cx) (pins:List (Addr×Obj)) (E:Value→Shared→Prop):Cx:={ X with pn:=X.pn++pins,xe:=E }
theorem gH {E:Value→Shared→Prop} (ok:X.Ok):(X.inTry pins E).Ok:=⟨ok.mod,ok.kind,ok.glob,ok.blt,ok.above,ok.inj,ok.has,ok.cab,ok.hd,ok.frames,ok.stk,ok.exf,ok.bs,ok.bsz,ok.noex,ok.exfs,ok.funs,ok.frf⟩
theorem gE {E:Value→Shared→Prop} (ok:(X.inTry pins E).Ok):X.Ok:=⟨ok.mod,ok.kind,ok.glob,ok.blt,ok.above,ok.inj,ok.has,ok.cab,ok.hd,ok.frames,ok.stk,ok.exf,ok.bs,ok.bsz,ok.noex,ok.exfs,ok.funs,ok.frf⟩
theorem lJ {E:Value→Shared→Prop} (I:L2.Inv X pins σ H s):L2.Inv (X.inTry pins E) [] σ H s:=⟨gH I.ok,I.os,I.bare,I.base,I.loc,I.cell,I.free,I.freeC,fun p hp=>I.pin p (by simpa using hp),I.hok,I.len⟩
theorem e6 {E:Value→Shared→Prop} {q:List (Addr×Obj)} (I:L2.Inv (X.inTry pins E) q σ H s):L2.Inv X pins σ H s:=⟨gE I.ok,I.os,I.bare,I.base,I.loc,I.cell,I.free,I.freeC,fun p hp=>I.pin p (mx _ hp),I.hok,I.len⟩
inductive cc (X:Cx) (pins:List (Addr×Obj)) (Ex:XK) (v:Value) (s':Shared):Prop
 | mk (σ:L2.St) (H':Hp) (e C dx:Addr) (a t:Value) (hv:v=.ref e) (I:L2.Inv X pins σ H' s') (he:s'.heap.get? e=some (xob C (some dx) a t)) (ht:TbOk s'.heap e t)
  (hT:∀ T,t=.ref T→H' T=none∧X.s₀.heap.objs.size≤T∧T≠X.env.locals∧(∀ x c,X.env.cells.lookup x=some c→c≠T)∧∀ p∈X.pn++pins,p.1≠T) (hX:H' e=some (XAt e C dx)) (hE:Ex (.ref e) (some dx) H')
end
section
variable {X:Cx} {pins:List (Addr×Obj)} {Ex:XK} {v:Value} {s:Shared} {M:Model} {A:Around} {E:Value→Shared→Prop} {Q:Unit→Shared→Prop}
theorem bY {fs:List Addr} {h h':Heap} {e C dx:Addr} {H':Hp} (hX:H' e=some (XAt e C dx)) (ch:List Addr) (keep:∀ b o,h.get? b=some o→b≠e→b∉ch→b∉fs→h'.get? b=some o)
  (slot:∀ b o,h.get? b=some o→b≠e→b∉ch→∃ sl,h'.get? b=some { o with slots:=sl }) (there:∀ b o,h.get? b=some o→∃ o',h'.get? b=some o'):Un fs ch H' H' h h' :=
 ⟨fun b o hb hn hf hx=>keep b o hb (fun z=>by rw [z,hX] at hn;cases hn) hx hf,fun b o hb hn _ hx=>slot b o hb (fun z=>by rw [z,hX] at hn;cases hn) hx,fun _ _ _ hn _=>hn,fun b o hb _=>there b o hb,fun _ _ q=>q,fun _ _ _ q=>q,fun b ps q=>⟨#[],by rw [Array.append_empty];exact q⟩⟩
def trk:Value→List Addr
 | .ref T=>[T]
 | _=>[]
theorem fM {t:Value} {b:Addr} (h:b∉trk t):t≠.ref b:=fun z=>h (by rw [z];exact mD.mpr rfl)
theorem kD {t:Value} {b:Addr} (h:b∈trk t):t=.ref b:=by
 cases t with
 | ref T=>rw [mD.mp h]
 | _=>cases h
theorem gf (hst:X.stack=X.env :: X.outer∧X.env.frame=some X.env.locals) (hA:A.frames=some X.stack) (L:cc X pins Ex v s) (h:∀ h',cc X pins Ex v { s with heap:=h' }→Q () { s with heap:=h' }) :
  wpAny M A (noteFrame v X.env) (fun _ s2=>wpAny M A (setFlight v none) Q E s2) E s:=by
 obtain ⟨σ,H',e,C,dx,a,t,rfl,I,he,ht,hT,hX,hE⟩:=L
 have st:=I.stack
 have sf:=I.stkFree
 rw [hst.1] at hA st
 refine note hA st hst.2 he ht fun h' T l=>h h' ⟨σ,H',e,C,dx,a,.ref T,rfl,?_,l.ex,l.tb,fun T' z=>?_,hX,hE⟩
 ·refine I.call' (s':={ s with heap:=h' }) (ch:=trk t) rfl (bY hX _ (fun b o hb hbe hc hf=>l.keep b o hb hbe (fM hc) (by rw [← hst.1];exact hf)) (fun b o hb hbe hc=>l.slot b o hb hbe (fM hc)) l.there) (l.hok I.hok hX (fun T z=>(hT T z).1) (by rw [← hst.1];exact sf)) I.bare fun b hb=>?_
  obtain ⟨_,z2,z3,z4,z5⟩:=hT b (kD hb)
  exact⟨.inr z2,z3,z4,z5⟩
 ·cases z
  have fr:s.heap.objs.size≤T:=l.new
  refine⟨I.hok.fresh fr,mq I.sz fr,fun y=>?_,fun x c hxc y=>?_,fun p hp y=>?_⟩
  ·exact absurd (Nat.lt_of_lt_of_le I.lt fr) (by rw [y];exact Nat.lt_irrefl _)
  ·obtain ⟨w',o,ho,_⟩:=I.cell x c hxc
   exact absurd (Nat.lt_of_lt_of_le (Heap.lt_size ho) fr) (by rw [y];exact Nat.lt_irrefl _)
  ·exact absurd (Nat.lt_of_lt_of_le (Heap.lt_size (I.pin p hp).1) fr) (by rw [y];exact Nat.lt_irrefl _)
theorem dA (L:cc X pins Ex v s) (h:∀ h',cc X pins Ex v { s with heap:=h' }→Q () { s with heap:=h' }):wpAny M A (setFlight v none) Q E s:=by
 obtain ⟨σ,H',e,C,dx,a,t,rfl,I,he,ht,hT,hX,hE⟩:=L
 unfold setFlight
 refine wpAny_bind (wpAny_field he rfl (x:=t) rfl ?_)
 have ht0:=ht
 rcases ht with rfl | ⟨T,oT,ts,rfl,hTe,hg,hd,h3⟩
 ·rw [if_neg (by decide)]
  exact wpAny_pure (h s.heap ⟨σ,H',e,C,dx,a,.none,rfl,I,he,ht0,hT,hX,hE⟩)
 ·rw [if_pos (show (Value.ref T != Value.none)=true from by simp)]
  have hsz:3 < ts.size:=(Array.getElem?_eq_some_iff.mp h3).1
  have other:∀ b,b≠T→(s.heap.update T (Obj.mapFields (·.setIfInBounds 3 ((none:Option Addr).elim Value.none fun f=>rawInt f)))).get? b=s.heap.get? b:=fun b hb=>Heap.get?_update_other _ _ (Ne.symm hb)
  have self:=Heap.get?_update_self (Obj.mapFields (·.setIfInBounds 3 ((none:Option Addr).elim Value.none fun f=>rawInt f))) hg (Obj.isFreed_of_fields (Obj.data_mapFields hd _))
  refine wpAny_setField hg hd hsz (h _ ⟨σ,H',e,C,dx,a,.ref T,rfl,?_,(other e (Ne.symm hTe)).trans he,.inr ⟨T,_,_,rfl,hTe,self,Obj.data_mapFields hd _,by simp [hsz]⟩,hT,hX,hE⟩)
  obtain ⟨z1,z2,z3,z4,z5⟩:=hT T rfl
  refine I.call' (ch:=[T]) rfl (bY hX _ (fun b o hb _ hc _=>(other b fun z=>hc (by rw [z];exact mD.mpr rfl)).trans hb) (fun b o hb _ hc=>⟨o.slots,(other b fun z=>hc (by rw [z];exact mD.mpr rfl)).trans hb⟩) fun b o hb=>?_) (fun b o q=>?_) I.bare fun b hb=>?_
  ·by_cases z:b=T
   ·exact⟨_,by rw [z];exact self⟩
   ·exact⟨o,(other b z).trans hb⟩
  ·refine (I.hok b o q).stay (fun c u hc hu=>(other c fun z=>?_).trans hu) (fun _ r=>r) fun _ _ r=>r
   rcases hc with rfl | hc
   ·rw [z,z1] at q;cases q
   ·rw [z,z1] at hc;cases hc
  ·rw [mD.mp hb]
   exact⟨.inr z2,z3,z4,z5⟩
theorem kc {h:Heap} {g:Array GenState} {d:Drawn} {t:Nat} {os:OsState} {e C N R NR:Addr} {mN mR:Str→Option Value} {dx:Option Addr} {a tb:Value} {Q:Bool→Shared→Prop} (c:C2 h C N R NR mN mR) (he:h.get? e=some (xob C dx a tb)) (hq:Q true ⟨h,g,d,t,os⟩) :
  wpAny M A (excMatches (.ref e) (.ref R)) Q E ⟨h,g,d,t,os⟩:=by
 obtain ⟨⟨nm,q,bs,sn,sub,ab,col,dd,k0,k1,k2,k3,k5,hC⟩,⟨nm',q',bs',sn',sub',ab',col',dd',j0,j1,j2,j3,j5,hR⟩,_⟩:=c
 have hcB:(Value.ref R :: bmV).contains (.type "BaseException")=true:=by rw [List.contains_cons,show bmV.contains (.type "BaseException")=true by decide +kernel,Bool.or_true]
 have hcC:(Value.ref C :: (Value.ref R :: bmV)).contains (.ref R)=true:=by simp
 have f:=tc_notTuple
 unfold excMatches
 repeat (first | (with_reducible refine wpAny_loadPart_at he ?_) | with_reducible refine wpAny_loadPart_at hR ?_ | (with_reducible refine wpAny_isSubtype_exc hR ?_;rw [hcB]) | (with_reducible refine wpAny_isSubtype_exc hC ?_;rw [hcC]) | wp_step)
 exact hq
end
abbrev _root_.L2.Cx.hdl (X:Cx) (A':Around) (E:Value→Shared→Prop):Cx:={ X with A:=A',calm:=false,xe:=E }
section
variable {X:Cx} {pins:List (Addr×Obj)} {σ:L2.St} {H:Hp} {s:Shared}
theorem k9 {A':Around} {E:Value→Shared→Prop} (hA:A'.frames=some X.stack) (I:L2.Inv X pins σ H s):L2.Inv (X.hdl A' E) pins σ H s :=
 ⟨⟨I.ok.mod,I.ok.kind,I.ok.glob,I.ok.blt,I.ok.above,I.ok.inj,I.ok.has,I.ok.cab,(fun z=>nomatch z),hA,I.ok.stk,I.ok.exf,I.ok.bs,I.ok.bsz,I.ok.noex,I.ok.exfs,I.ok.funs,I.ok.frf⟩,I.os,I.bare,I.base,I.loc,I.cell,I.free,I.freeC,I.pin,I.hok,I.len⟩
theorem lL {A':Around} {E:Value→Shared→Prop} (ok:X.Ok) (I:L2.Inv (X.hdl A' E) pins σ H s):L2.Inv X pins σ H s:=⟨ok,I.os,I.bare,I.base,I.loc,I.cell,I.free,I.freeC,I.pin,I.hok,I.len⟩
def sTry (X:Cx) (R:Addr) (j:Nat) (tb:List (Addr×Obj)→(Value→Shared→Prop)→TS) (ts:TS):TS:=fun D σ H=>∃ Ex:XK,(∀ e C dx H',H' e=some (XAt e C dx)→Ex (.ref e) (some dx) H'→∃ N NR mN mR,∀ h,X.K.In h→C2 h C N R NR mN mR)∧(∀ pins E,(∀ v s',cc X pins Ex v s'→E v s')→tb pins E D σ H) ∧
 ∀ (σ':L2.St) (H':Hp) (e C dx:Addr),σ'.length=σ.length→H' e=some (XAt e C dx)→Ex (.ref e) (some dx) H'→ts { nx:=fun σ2 H2=>D.nx (σ2.set j none) H2,rt:=fun _ _=>False } (σ'.set j (some (.ref e))) H'
theorem ln {R:Addr} {body:List Stmt} {st:Stmt} {n xR:Str} {j:Nat} {np hpos pos:Pos} {tb:List (Addr×Obj)→(Value→Shared→Prop)→TS} {ts:TS} (hst:X.stack=X.env :: X.outer∧X.env.frame=some X.env.locals) (hN:X.N.Nodup) (hj:X.N[j]?=some n) (hk:X.env.scope.names.lookup n=some .local)
  (hg:Gl X xR) (hm:X.mg xR=some (.ref R))
  (hb:∀ (pins:List (Addr×Obj)) (E:Value→Shared→Prop),PSs (X.inTry pins E) body (tb pins E)) (hs:∀ A' E',PSs (X.hdl A' E') [st] ts) (hdb:(xR == ("__debug__":Str))=false:=by decide) :
  PS X (.Try body [.ExceptHandler (some (.Name xR np)) (some n) [st] hpos] [] [] pos) (sTry X R j tb ts):=by
 intro pins s σ H D I h
 obtain ⟨Ex,hcl,h1,h2⟩:=h
 rw [arm_exec_Try]
 refine wpAny_bind (wpAny_standAt (wpAny_tryStmt_except ?_))
 have key:∀ v s',cc X pins Ex v s'→(fun v s₁=>wpAny (model X.prog X.w) X.A (noteFrame v X.env) (fun _ s₂=>wpAny (model X.prog X.w) X.A (setFlight v none) (fun _ s₃=>wpAny (model X.prog X.w) X.A (handleBy v X.env [.ExceptHandler (some (.Name xR np)) (some n) [st] hpos]) (SP X pins D) X.xe s₃) X.xe s₂) X.xe s₁) v s':=fun v s' L=>?_
 refine wpAny_mono (hb pins _ [] s σ H D (lJ I) (h1 pins _ key)) (fun f s1 q=>?_) fun _ _ q=>q
 ·cases f with
  | next =>
   obtain ⟨σ',H',I',q⟩:=q
   exact wpAny_execs_nil ⟨σ',H',e6 I',q⟩
  | brk=>obtain ⟨σ',H',I',q⟩:=q;exact⟨σ',H',e6 I',q⟩
  | cont=>obtain ⟨σ',H',I',q⟩:=q;exact⟨σ',H',e6 I',q⟩
  | ret u=>obtain ⟨v,σ',H',I',r,q⟩:=q;exact⟨v,σ',H',e6 I',r,q⟩
 ·refine gf hst I.ok.frames L fun h' L=>?_
  obtain ⟨σ1,H1,e,C,dx,a,t,rfl,I1,he,ht,hT,hX,hE⟩:=id L
  have hA:(X.A.mark (some (.ref e))).frames=some X.stack:=I.ok.frames
  obtain ⟨N,NR,mN,mR,c2⟩:=hcl e C dx _ hX hE
  refine wpAny_handleBy_cons (codeAny_handlers_test (bv (X:=X.hdl (X.A.mark (some (.ref e))) X.xe) (k9 hA I1) hg hm ?_ hdb)) (by intro q;cases q)
  refine kc (c2 _ I1.kIn) he ?_
  show codeAny _ _ (.handlers (.ref e) [.ExceptHandler none (some n) [st] hpos] X.env) _ _
  refine codeAny_handlers_suite_as (dA L fun h2' L2=>?_)
  obtain ⟨σ2,H2,e2,C2',dx2,a2,t2,hv2,I2,he2,ht2,hT2,hX2,hE2⟩:=L2
  cases hv2
  refine bc I2 hN hj (.inl hk) (v:=.ref e) rfl (fun s3 I3=>?_) (.inr hk)
  refine wpAny_mono (hs (X.A.mark (some (.ref e))) _ pins s3 _ H2 _ (k9 hA I3) (h2 σ2 H2 e C2' dx2 (by rw [I2.len,I.len]) hX2 hE2)) (fun f s4 q=>?_) fun _ _ z=>z
  cases f with
  | next =>
   obtain ⟨σ4,H4,I4,q4⟩:=q
   have I5:=lL I.ok I4
   refine wpAny_bind (wpAny_bindName (bc I5 hN hj (.inl hk) (v:=.non) rfl (fun s5 I6=>?_) (.inr hk)))
   unfold unbindBehindTheSuite
   have hl:j < σ4.length:=by rw [I5.len];exact (mz.mp hj).1
   refine wpAny_onRaise (fk I6 hN hj hk (v:=.non) (by rw [List.getElem?_set_self hl]) fun s6 I7=>?_)
   rw [List.set_set] at I7
   exact⟨_,H4,I7,q4⟩
  | brk=>obtain ⟨σ',H',I',q⟩:=q;exact q.elim
  | cont=>obtain ⟨σ',H',I',q⟩:=q;exact q.elim
  | ret u=>obtain ⟨v,σ',H',I',r,q⟩:=q;exact q.elim
end
end DL
namespace DL
open PySem PySem.Spec PyProof.Rows L2
def md (L:Addr) (h:Heap) (e:Addr) (t:Value):Prop:=∃ T oT ts,t=.ref T∧T≠e∧h.get? T=some oT∧oT.data=.fields ts∧ts[3]?=some (rawInt L)
section
variable {M:Model} {A:Around} {E:Value→Shared→Prop} {s:Shared} {base:Heap} {env:Env} {outer:List Env} {L e C:Addr} {dx:Option Addr} {a t:Value} {Q:Unit→Shared→Prop}
end
inductive jP (X:Cx) (E:XK) (v:Value) (s':Shared):Prop
 | mk (σ:L2.St) (H':Hp) (e C dx:Addr) (a t:Value) (hv:v=.ref e) (I:L2.Inv X [] σ H' s') (he:s'.heap.get? e=some (xob C (some dx) a t)) (ht:TbOk s'.heap e t∨md X.env.locals s'.heap e t)
  (hT:∀ T,t=.ref T→H' T=none∧X.s₀.heap.objs.size≤T∧T≠X.env.locals∧(∀ x c,X.env.cells.lookup x=some c→c≠T)∧∀ p∈X.pn++[],p.1≠T) (hX:H' e=some (XAt e C dx)) (hE:E (.ref e) (some dx) H')
abbrev _root_.L2.Cx.lx (X:Cx) (E:XK):Cx:={ X with xe:=jP X E }
section
variable {X:Cx} {E:XK} {pins:List (Addr×Obj)} {σ:L2.St} {H:Hp} {s:Shared}
theorem mj {e:Value→Shared→Prop} (ok:X.Ok):({ X with xe:=e }:Cx).Ok:=⟨ok.mod,ok.kind,ok.glob,ok.blt,ok.above,ok.inj,ok.has,ok.cab,ok.hd,ok.frames,ok.stk,ok.exf,ok.bs,ok.bsz,ok.noex,ok.exfs,ok.funs,ok.frf⟩
theorem toLx {e:Value→Shared→Prop} (I:L2.Inv X pins σ H s):L2.Inv { X with xe:=e } pins σ H s:=⟨mj I.ok,I.os,I.bare,I.base,I.loc,I.cell,I.free,I.freeC,I.pin,I.hok,I.len⟩
theorem ofLx {e:Value→Shared→Prop} (I:L2.Inv { X with xe:=e } pins σ H s):L2.Inv X pins σ H s:=toLx (X:={ X with xe:=e }) (e:=X.xe) I
theorem ly (I:L2.Inv X pins σ H s):L2.Inv X [] σ H s:=⟨I.ok,I.os,I.bare,I.base,I.loc,I.cell,I.free,I.freeC,fun p hp=>I.pin p (by rw [List.append_nil] at hp;exact mx _ hp),I.hok,I.len⟩
theorem gN {H':Hp} {e C dx:Addr} {s':Shared} (L:dn (X.lx E) pins H' e C dx s') (hE:E (.ref e) (some dx) H'):jP X E (.ref e) s':=by
 obtain ⟨σ,a,t,I,he,ht,hT,hX⟩:=L.ex
 refine⟨σ,H',e,C,dx,a,t,rfl,ly (ofLx I),he,.inl ht,fun T z=>?_,hX,hE⟩
 obtain ⟨z1,z2,z3,z4,z5⟩:=hT T z
 exact⟨z1,z2,z3,z4,fun p hp=>z5 p (by rw [List.append_nil] at hp;exact mx _ hp)⟩
theorem fL {fl:Value} {Q:Unit→Shared→Prop} {M:Model} {A:Around} {W:Value→Shared→Prop} {H':Hp} {e C dx T:Addr} {a:Value} {oT:Obj} {ts:Array Value} (I:L2.Inv X [] σ H' s) (he:s.heap.get? e=some (xob C (some dx) a (.ref T))) (hTe:T≠e) (hg:s.heap.get? T=some oT) (hd:oT.data=.fields ts) (h3:3 < ts.size)
  (hT:H' T=none∧X.s₀.heap.objs.size≤T∧T≠X.env.locals∧(∀ x c,X.env.cells.lookup x=some c→c≠T)∧∀ p∈X.pn++[],p.1≠T) (hX:H' e=some (XAt e C dx))
  (h:∀ h',L2.Inv X [] σ H' { s with heap:=h' }→h'.get? e=some (xob C (some dx) a (.ref T))→(∃ oT ts,h'.get? T=some oT∧oT.data=.fields ts∧ts[3]?=some fl)→Q () { s with heap:=h' }):wpAny M A (setField (.ref T) 3 fl) Q W s:=by
 have other:∀ b,b≠T→(s.heap.update T (Obj.mapFields (·.setIfInBounds 3 fl))).get? b=s.heap.get? b:=fun b hb=>Heap.get?_update_other _ _ (Ne.symm hb)
 have self:=Heap.get?_update_self (Obj.mapFields (·.setIfInBounds 3 fl)) hg (Obj.isFreed_of_fields (Obj.data_mapFields hd _))
 obtain ⟨z1,z2,z3,z4,z5⟩:=hT
 refine wpAny_setField hg hd h3 (h _ ?_ ((other e (Ne.symm hTe)).trans he) ⟨_,_,self,Obj.data_mapFields hd _,by simp [h3]⟩)
 refine I.call' (ch:=[T]) rfl (bY hX _ (fun b o hb _ hc _=>(other b fun z=>hc (by rw [z];exact mD.mpr rfl)).trans hb) (fun b o hb _ hc=>⟨o.slots,(other b fun z=>hc (by rw [z];exact mD.mpr rfl)).trans hb⟩) fun b o hb=>?_) (fun b o q=>?_) I.bare fun b hb=>?_
 ·by_cases z:b=T
  ·exact⟨_,by rw [z];exact self⟩
  ·exact⟨o,(other b z).trans hb⟩
 ·refine (I.hok b o q).stay (fun c u hc hu=>(other c fun z=>?_).trans hu) (fun _ r=>r) fun _ _ r=>r
  rcases hc with rfl | hc
  ·rw [z,z1] at q;cases q
  ·rw [z,z1] at hc;cases hc
 ·rw [mD.mp hb]
  exact⟨.inr z2,z3,z4,z5⟩
end
end DL
namespace DL
open PySem PySem.Spec PyProof.Rows L2
section
variable {X:Cx} {pins:List (Addr×Obj)}
theorem l9:dP (CXE X.prog X.w) X (XEs X):=by
 intro pins σ H s v s' I hc
 obtain ⟨e,C,dx,a,t,H',rfl,os,bare,un,hok,he,ht,hT,hX,hx⟩:=hc
 have lo:∀ T,t=.ref T→s.heap.objs.size≤T:=fun T z=>(hT T z).2
 refine hx e C dx pins s' rfl rfl ⟨σ,a,t,I.call' (ch:=[]) os un hok bare (fun b z=>absurd z (by simp)),he,ht,fun T z=>⟨(hT T z).1,mq I.sz (lo T z),fun y=>?_,fun x c hxc y=>?_,fun p hp y=>?_⟩,hX⟩
 ·exact absurd (Nat.lt_of_lt_of_le I.lt (lo T z)) (by rw [y];exact Nat.lt_irrefl _)
 ·obtain ⟨w',o,ho,_⟩:=I.cell x c hxc
  exact absurd (Nat.lt_of_lt_of_le (Heap.lt_size ho) (lo T z)) (by rw [y];exact Nat.lt_irrefl _)
 ·have:=(I.pin p hp).1
  exact absurd (Nat.lt_of_lt_of_le (Heap.lt_size this) (lo T z)) (by rw [y];exact Nat.lt_irrefl _)
end
section
variable {P:Program} {w:World} {K:PySem.W.Frag} {mg:Str→Option Value} {base:Heap} {N:List Str} {qual:Str} {scope:Scope} {f:Addr} {cd:Value} {A:Around} {outer:List Env} {s:Shared} {H:Hp} {E:XK}
theorem mm {pins:List (Addr×Obj)} {H':Hp} {e C dx:Addr} {s':Shared} (L:dn (cxOf (CXE P w) P w K mg base N qual scope f cd A outer s H E) pins H' e C dx s') (hE:E (.ref e) (some dx) H'):(cxOf (CXE P w) P w K mg base N qual scope f cd A outer s H E).xe (.ref e) s':=by
 obtain ⟨σ,a,t,I',he,ht,hT,hX⟩:=L.ex
 show wpAny _ _ _ _ _ _
 refine l6 I'.ok.frames I'.stack rfl he ht fun h' T l=>?_
 have hTn:∀ T,t=.ref T→H' T=none:=fun T z=>(hT T z).1
 refine⟨e,C,dx,a,.ref T,H',rfl,I'.os,I'.bare,?_,l.hok I'.hok hX hTn I'.stkFree,l.ex,l.tb,fun T' z=>?_,hX,hE⟩
 ·have old:∀ b o,s.heap.get? b=some o→t≠.ref b:=fun b o hb z=>absurd (Nat.lt_of_lt_of_le (Heap.lt_size hb) (hT b z).2.1) (Nat.lt_irrefl _)
  have nfr:∀ b o,s.heap.get? b=some o→b≠s.heap.objs.size:=fun b o hb=>Nat.ne_of_lt (Heap.lt_size hb)
  have ne:∀ b,H' b=none→b≠e:=fun b z q=>by rw [q,hX] at z;cases z
  refine⟨fun b o hb hn hf hx=>?_,fun b o hb hn hf hx=>?_,fun b o hb hn hx=>?_,fun b o hb hx=>?_,I'.base.tups,I'.base.frzs,I'.base.tbls⟩
  ·exact l.keep b o (I'.base.keep b o hb hn hf hx) (ne b (I'.base.free b o hb hn hx)) (old b o hb) fun z=>by
    rcases mv.mp (show b∈s.heap.objs.size :: frs outer from z) with z | z
    ·exact nfr b o hb z
    ·exact hf z
  ·obtain ⟨sl,q⟩:=I'.base.slot b o hb hn hf hx
   obtain ⟨sl',q'⟩:=l.slot b _ q (ne b (I'.base.free b o hb hn hx)) (old b o hb)
   exact⟨sl',q'⟩
  ·exact I'.base.free b o hb hn hx
  ·obtain ⟨o',q⟩:=I'.base.there b o hb hx
   exact l.there b o' q
 ·cases z
  have fr:s'.heap.objs.size≤T:=l.new
  exact⟨I'.hok.fresh fr,mq I'.sz fr⟩
theorem mh {v:Value} {s':Shared} (L:jP (cxOf (CXE P w) P w K mg base N qual scope f cd A outer s H E) E v s'):(cxOf (CXE P w) P w K mg base N qual scope f cd A outer s H E).xe v s':=by
 obtain ⟨σ,H',e,C,dx,a,t,rfl,I',he,ht,hT,hX,hE⟩:=L
 rcases ht with ht | hN
 ·exact mm (pins:=[]) ⟨σ,a,t,I',he,ht,hT,hX⟩ hE
 ·obtain ⟨T,oT,ts,rfl,hTe,hg,hd,h3⟩:=hN
  show wpAny _ _ (leaving _ _) _ _ _
  unfold leaving noteFrame
  refine wpAny_bind ?_
  show wpAny _ _ (do let head←field (Value.ref e) 1;_) _ _ _
  refine wpAny_bind (wpAny_field he rfl (x:=.ref T) rfl ?_)
  rw [if_pos (show (Value.ref T != Value.none)=true from by simp)]
  refine wpAny_bind (wpAny_field hg hd h3 ?_)
  rw [if_pos (by simp;rfl)]
  refine wpAny_pure ?_
  unfold setFlight
  refine wpAny_bind (wpAny_field he rfl (x:=.ref T) rfl ?_)
  rw [if_pos (show (Value.ref T != Value.none)=true from by simp)]
  refine fL I' he hTe hg hd (Array.getElem?_eq_some_iff.mp h3).1 (hT T rfl) hX fun h' I2 he2 hr=>?_
  obtain ⟨oT',ts',g1,g2,g3⟩:=hr
  refine⟨e,C,dx,a,.ref T,H',rfl,I2.os,I2.bare,I2.base,I2.hok,he2,.inr ⟨T,oT',ts',rfl,hTe,g1,g2,g3⟩,fun T' z=>?_,hX,hE⟩
  cases z
  exact⟨(hT T rfl).1,(hT T rfl).2.1⟩
end
theorem PSs.lx {X:Cx} {W:Value→Shared→Prop} {st:List Stmt} {t:TS} (h:PSs { X with xe:=W } st t) (hW:∀ v s',W v s'→X.xe v s'):PSs X st t:=fun pins s σ H D I hw =>
 wpAny_mono (h pins s σ H D (toLx I) hw) (fun f s' q=>by
  cases f with
  | next=>obtain ⟨σ',H',I',q⟩:=q;exact⟨σ',H',ofLx I',q⟩
  | brk=>obtain ⟨σ',H',I',q⟩:=q;exact⟨σ',H',ofLx I',q⟩
  | cont=>obtain ⟨σ',H',I',q⟩:=q;exact⟨σ',H',ofLx I',q⟩
  | ret u=>obtain ⟨v,σ',H',I',r,q⟩:=q;exact⟨v,σ',H',ofLx I',r,q⟩) hW
abbrev FE:=List D→(D→Prop)→(Str→Str→D→Prop)→Prop
inductive spE (K:PySem.W.Frag) (f:FE) (vs:List V) (H:Hp) (Q:VK) (E:XK):Prop
 | mk (M:Addr→Prop) (ds:List D) (R:D→Prop) (RE:Str→Str→D→Prop) (m:∀ b,M b→H b≠none) (rs:Reps K M H ds vs) (h:f ds R RE) (k:∀ d,R d→∀ v H',Same H H'→Rep K M H' d v→Q v H')
  (kx:∀ c fl d,RE c fl d→∀ e C dx H',Same H H'→H' e=some (XAt e C dx)→Rep K M H' (.exn c fl d) (.ref e)→E (.ref e) (some dx) H')
structure CalE (P:Program) (w:World) (K:PySem.W.Frag) (mg:Str→Option Value) (base:Heap) (k:Nat) (x:Str) (ps:List Str) (f:FE):Prop where
 ex:∃ (a:Addr) (fd:FuncData),FnOk P w K mg base (CXE P w) k a fd ps (spE K f)∧bi K fd ps []∧PySem.W.keepIn K (.ref a)=true∧mg x=some (.ref a)
section
variable {P:Program} {w:World} {K:PySem.W.Frag} {mg:Str→Option Value} {base:Heap}
theorem fn_E {x:Str} {st:Stmt} {N ps:List Str} {k:Nat} {f:FE} (F:Fd K mg x st ps) (Sc:aw N ps (ae st)) (len:∀ ds R RE,f ds R RE→ds.length=ps.length)
    (hbody:∀ (a:Addr) (cdv:Value) (A:Around) (outer:List Env) (s:Shared) (H:Hp) (E:XK) (ds:List D) (R:D→Prop) (RE:Str→Str→D→Prop),Room k (A.deeper (envOfC x (ae st) s.heap.objs.size a cdv))→f ds R RE →
      ∃ t,DSs ((cxOf (CXE P w) P w K mg base N x (ae st) a cdv A outer s H E).lx E) (au st) t∧t { nx:=fun _=>R .non,rt:=fun d _=>R d,ro:=R,ex:=RE } (bh N ds)) :
    CalE P w K mg base (k + 1) x ps f:=by
  obtain ⟨a,fd,Fu,b,m⟩:=F.ex
  refine⟨a,fd,?_,b,Fu.kp,m⟩
  obtain ⟨oc,od,kV,doc,pm,an,cdv,ct,osl,rfl,lk,hcd⟩:=Fu.ex
  refine lj lk hcd Sc (fun vs H Q E h=>?_) fun A outer s H vs Q E hr h=>?_
  · obtain ⟨M,ds,R,RE,_,rs,hf,_,_⟩:=h
    rw [← Reps.length _ _ rs]
    exact len _ _ _ hf
  · obtain ⟨M,ds,R,RE,hm,rs,hf,hk,hkx⟩:=h
    obtain ⟨t,ht,hq⟩:=hbody a cdv A outer s H E ds R RE hr hf
    refine⟨_,PSs.lx ht (fun _ _=>mh),⟨M,H,fun _=>False⟩,bh N ds,[],_,fX N hm rs,hq,fun δ' r σ' H' hs=>?_,⟨fun d δ' r v σ' H' hs=>?_,fun d r a H' hs=>?_,fun c fl d r e C dx δ' σ' H' hs hX=>?_⟩,fun _ h=>h.elim,fun _ h=>h.elim,fun z=>z.elim⟩
    · obtain ⟨A',x⟩:=hs
      exact hk .non r .non H' (fun b o e=>x.old b o e id) (by unfold Rep;rfl)
    · obtain ⟨A',x⟩:=hs
      exact hk d r v H' (fun b o e=>x.old b o e id) (Rep.more (fun b z=>.inl (.inl z)) _ _ (x.pnd (d,v) (by simp)))
    · obtain ⟨o1,o2,o3,o4⟩:=hs
      exact hk d r (.ref a) H' (fun b o e=>o1 b o e id) (o4.rep o3 fun b z=>.inl z)
    · obtain ⟨A',x⟩:=hs
      intro e' C' dx' pins s' hC hd L
      cases hC
      cases hd
      refine gN L ?_
      exact hkx c fl d r e C dx H' (fun b o q=>x.old b o q id) hX (Rep.more (fun b z=>.inl (.inl z)) _ _ (x.pnd (.exn c fl d,.ref e) (by simp)))
end
section
variable {X:Cx} {pos:Pos} {a:Expr} {es:List Expr} {ta:TDE} {t:TDA} {f:FE}
theorem cR {K:PySem.W.Frag} {G:Gf} {δ:En} {P:List (D×V)} {σ:L2.St} {H:Hp} {Q:VK} {Wx:XK} {Rv:D→En→Prop} {RE:Str→Str→D→Prop} (s:S K G δ P σ H) (h:t δ fun ds δ1=>f ds (fun d=>Rv d δ1) RE)
  (k:∀ d δ',Rv d δ'→∀ v H',S K G δ' ((d,v) :: P) σ H'→Q v H') (kx:∀ c fl d,RE c fl d→∀ e C dx δ' σ' H',S K G δ' ((.exn c fl d,.ref e) :: P) σ' H'→H' e=some (XAt e C dx)→Wx (.ref e) (some dx) H') :
  jJ (spE K f) [] Wx (upA K t) σ H Q:=by
 refine⟨G,δ,P,_,s,h,fun ds δ1 h1 vs H1 hl s1=>?_⟩
 obtain ⟨A,x⟩:=s1
 rw [List.append_nil]
 refine⟨fun b=>G.M0 b∨A b,ds,_,RE,x.mem,x.reps ds vs hl (fun q hq=>mx _ hq),h1,fun d r v H' sm rp=>k d δ1 r v H' ⟨A,((x.same sm).sub (P':=P) fun q hq=>mw _ hq).push rp⟩,fun c fl d r e C dx H' sm hX rp=>kx c fl d r e C dx δ1 σ H' ⟨A,((x.same sm).sub (P':=P) fun q hq=>mw _ hq).push rp⟩ hX⟩
def lz (f:FE) (t:TDA):TDS:=fun R δ=>t δ fun ds δ1=>f ds (fun d=>R.rt d δ1) R.ex
def ic (f:FE) (t:TDA):TDS:=fun R δ=>t δ fun ds δ1=>f ds (fun _=>R.nx δ1) R.ex
theorem dQ {x:Str} {k:Nat} {ps:List Str} {p:Pos} (C:CalE X.prog X.w X.K X.mg X.base k x ps f) (hr:Room k X.A) (hg:Gl X x) (ha:DA X (a :: es) t) (hdb:(x == ("__debug__":Str))=false:=by decide)
  (he:starEach (a :: es) X.env=(false,eval a X.env) :: starEach es X.env:=by rfl) (hpl:(backTo pos (starEach es X.env)).any (·.1)=false:=by rfl):PE X (.Call (.Name x p) (a :: es) [] pos) (jJ (spE X.K f) [] (XEs X) (upA X.K t)):=by
 obtain ⟨g,fd,F,b,kp,m⟩:=C.ex
 exact gi F hr hg m kp b .nil l9 ha hdb he hpl
theorem jA {x:Str} {k:Nat} {ps:List Str} {p cpos:Pos} (C:CalE X.prog X.w X.K X.mg X.base k x ps f) (hr:Room k X.A) (hg:Gl X x) (ha:DA X (a :: es) t) (hdb:(x == ("__debug__":Str))=false:=by decide)
  (he:starEach (a :: es) X.env=(false,eval a X.env) :: starEach es X.env:=by rfl) (hpl:(backTo cpos (starEach es X.env)).any (·.1)=false:=by rfl):DS X (.Return (some (.Call (.Name x p) (a :: es) [] cpos)) pos) (lz f t) :=
 PS.imp (ig (dQ C hr hg ha hdb he hpl)) fun E σ H hu=>by
  obtain ⟨G,δ,P,R,s,h,k1,k2,_⟩:=hu
  exact cR (Rv:=fun d δ1=>R.rt d δ1) s h (fun d δ' r v H' s1=>k2.1 d δ' r v σ H' s1) k2.2.2
theorem dO {x:Str} {k:Nat} {ps:List Str} {p cpos:Pos} (C:CalE X.prog X.w X.K X.mg X.base k x ps f) (hr:Room k X.A) (hg:Gl X x) (ha:DA X (a :: es) t) (hdb:(x == ("__debug__":Str))=false:=by decide)
  (he:starEach (a :: es) X.env=(false,eval a X.env) :: starEach es X.env:=by rfl) (hpl:(backTo cpos (starEach es X.env)).any (·.1)=false:=by rfl) (hs:swapsWith (.Call (.Name x p) (a :: es) [] cpos) none pos.line X.env=pure false:=by rfl) :
  DS X (.Expr (.Call (.Name x p) (a :: es) [] cpos) pos) (ic f t) :=
 PS.imp (cm (dQ C hr hg ha hdb he hpl) hs) fun E σ H hu=>by
  obtain ⟨G,δ,P,R,s,h,k1,k2,_⟩:=hu
  exact cR (Rv:=fun _ δ1=>R.nx δ1) s h (fun d δ' r v H' s1=>k1 _ r _ H' (s1.sub fun p hp=>by simp [hp])) k2.2.2
variable {C R fI:Addr} {fld:Str} {k:Nat} {fd:FuncData} {ps:List Str} {x:Str} {p cpos:Pos} {b:Bool}
theorem Rep.made {K:PySem.W.Frag} {G:Gf} {δ:En} {P P':List (D×V)} {σ:L2.St} {H:Hp} {c:Str} {d:D} {v:V} {e dx:Addr} {o:HO} (s:S K G δ P σ H) (hp:(d,v)∈P) (hs:∀ q∈P',q∈P) (he:H e=none) (hdx:H dx=none) (hne:dx≠e) (ho:o=XAt e C dx∨o=XNew e C dx)
  (hns:PySem.W.nsIn K mainGlobals c=some (some (.ref C))):S K G δ ((.exn c fld d,.ref e) :: P') σ (upd (upd H dx (.xd [(fld,v)])) e o):=by
 obtain ⟨A,x⟩:=s
 have sm:Same H (upd (upd H dx (.xd [(fld,v)])) e o):=Same.trans (ak hdx _) (ak (by rw [ai (Ne.symm hne)];exact he) _)
 refine⟨A,((x.same sm).sub hs).push ?_⟩
 unfold Rep
 refine⟨v,⟨⟨e,C,dx,rfl,fun z=>x.mem e z he,fun z=>x.mem dx z hdx,?_,?_,hns⟩⟩,Rep.kp (Kp.of_same sm) _ _ (x.pnd (d,v) hp)⟩
 ·rw [af]
  exact ho.imp (fun z=>by rw [z]) fun z=>by rw [z]
 ·rw [ai hne,af]
def pdB:Bool→D→Prop
 | false,_=>True
 | true,d=>∃ x,d=.str x∧x.length≤100
theorem pdB.rep {K:PySem.W.Frag} {M:Addr→Prop} {H:Hp} {b:Bool} {d:D} {v:V} (h:pdB b d) (r:Rep K M H d v):pyB b v:=by
 cases b with
 | false=>trivial
 | true =>
  obtain ⟨x,rfl,l⟩:=h
  unfold Rep at r
  exact⟨x,r,l⟩
theorem S.pd {K:PySem.W.Frag} {G:Gf} {δ:En} {P:List (D×V)} {σ:L2.St} {H:Hp} {b:Bool} {d:D} {v:V} (s:S K G δ ((d,v) :: P) σ H) (h:pdB b d):pyB b v:=let ⟨_,x⟩:=s;h.rep (x.pnd (d,v) (ms ..))
def dXm (c f:Str) (b:Bool) (ta:TDE):TDE:=fun δ R=>ta δ (wd fun d δ1=>pdB b d∧R (.d (.exn c f d)) δ1)
theorem lG (em:EM X.K C R fI) (F:FnOk X.prog X.w X.K X.mg X.base CX0 k fI fd ps (spI C fld b)) (hr:Room (k + 1) X.A) (hg:Gl X x) (hm:X.mg x=some (.ref C)) (hb:bi X.K fd ps []) (hns:PySem.W.nsIn X.K mainGlobals x=some (some (.ref C))) (ha:DE X a ta)
  (hdb:(x == ("__debug__":Str))=false:=by decide) (he:starEach [a] X.env=(false,eval a X.env) :: starEach [] X.env:=by rfl) (hpl:(backTo cpos (starEach [] X.env)).any (·.1)=false:=by rfl) :
  DE X (.Call (.Name x p) [a] [] cpos) (dXm x fld b ta) :=
 PE.imp (dS em F hr hg hm hb (ao ha a8 he) hdb he hpl) fun σ H Q hu=>by
  obtain ⟨G,δ,P,R',s,h,k,_⟩:=hu
  refine up.mk s h fun d δ1 h1 v H1 s1=>⟨v,rfl,s1.pd h1.1,fun e dx he hdx hne=>?_⟩
  exact k _ δ1 h1.2 _ _ (Rep.made s1 (by simp) (fun q hq=>by simp [hq]) he hdx hne (.inr rfl) hns)
end
theorem upd2 {H:Hp} {e:Addr} {a b:HO}:upd (upd H e a) e b=upd H e b:=funext fun z=>by
 by_cases h:z=e
 ·rw [h,af,af]
 ·rw [ai h,ai h,ai h]
section
variable {X:Cx} {pos:Pos} {a:Expr} {ta:TDE} {C R fI:Addr} {fld:Str} {k:Nat} {fd:FuncData} {ps:List Str} {x:Str} {p cpos:Pos} {t:TA} {b:Bool}
def iV (X:Cx) (C:Addr) (fld:Str) (b:Bool) (t:TA):TS:=fun _ σ H=>ia C fld b t σ H fun v H3=>∃ e dx y H2,v=.ref e∧H3=upd (upd H2 dx (.xd [(fld,y)])) e (XNew e C dx)∧XEs X (.ref e) (some dx) (upd (upd H2 dx (.xd [(fld,y)])) e (XAt e C dx))
theorem fg (ek:EK X.K C R fld) (em:EM X.K C R fI) (F:FnOk X.prog X.w X.K X.mg X.base CX0 k fI fd ps (spI C fld b)) (hr:Room (k + 1) X.A) (hg:Gl X x) (hm:X.mg x=some (.ref C)) (hb:bi X.K fd ps []) (ha:PA X [a] t) (hc:X.calm=true)
  (hdb:(x == ("__debug__":Str))=false:=by decide) (he:starEach [a] X.env=(false,eval a X.env) :: starEach [] X.env:=by rfl) (hpl:(backTo cpos (starEach [] X.env)).any (·.1)=false:=by rfl) :
  PS X (.Raise (some (.Call (.Name x p) [a] [] cpos)) none pos) (iV X C fld b t):=by
 intro pins s1 σ H1 D I h
 obtain ⟨Nn,NR,mN,mR,c2,_⟩:=ek.ex
 rw [arm_exec_Raise]
 refine wpAny_bind (wpAny_standAt (kQ (C:=C) (N:=Nn) (R:=R) (NR:=NR) (mN:=mN) (mR:=mR) (I.ok.hd hc) (wpAny_bind (thn (dS em F hr hg hm hb ha hdb he hpl pins s1 σ H1 _ I h) fun v s2 hs2=>?_))))
 obtain ⟨v',H3,I3,r,e,dx,y,H2,rfl,rfl,hE⟩:=hs2
 cases r
 obtain ⟨a',he'⟩:=(I3.hok e _ af).1
 obtain ⟨hh,g,d,tk,os⟩:=s2
 have I4:=I3.write (t':=tk) (x:=e) (e:=e) (o:=XAt e C dx) (h':=hh) (by rw [af];trivial) (.inl rfl) (fun _ _ _ q=>q) ⟨_,he'⟩ ⟨⟨a',.none,he'⟩,⟨_,he'⟩,fun h1 h2 p k=>by obtain ⟨a,t,p⟩:=p;exact⟨a,t,k _ p⟩⟩
 rw [upd2] at I4
 exact wpAny_bind (wpAny_standAt (wpAny_pure ⟨e,some dx,a',rfl,c2 _ I3.kIn,he',hE e C dx pins _ rfl rfl ⟨σ,a',.none,I4,he',.inl rfl,(fun T z=>nomatch z),af⟩⟩))
def fC (c f:Str) (b:Bool) (ta:TDE):TDS:=fun R δ=>ta δ (wd fun d _=>pdB b d∧R.ex c f d)
theorem gL (ek:EK X.K C R fld) (em:EM X.K C R fI) (F:FnOk X.prog X.w X.K X.mg X.base CX0 k fI fd ps (spI C fld b)) (hr:Room (k + 1) X.A) (hg:Gl X x) (hm:X.mg x=some (.ref C)) (hb:bi X.K fd ps []) (hns:PySem.W.nsIn X.K mainGlobals x=some (some (.ref C))) (ha:DE X a ta) (hc:X.calm=true:=by rfl)
  (hdb:(x == ("__debug__":Str))=false:=by decide) (he:starEach [a] X.env=(false,eval a X.env) :: starEach [] X.env:=by rfl) (hpl:(backTo cpos (starEach [] X.env)).any (·.1)=false:=by rfl) :
  DS X (.Raise (some (.Call (.Name x p) [a] [] cpos)) none pos) (fC x fld b ta) :=
 PS.imp (fg ek em F hr hg hm hb (ao ha a8 he) hc hdb he hpl) fun E σ H hu=>by
  obtain ⟨G,δ,P,R',s,h,k1,k2,_⟩:=hu
  refine up.mk s h fun d δ1 h1 v H1 s1=>⟨v,rfl,s1.pd h1.1,fun e dx he hdx hne=>⟨e,dx,v,H1,rfl,rfl,?_⟩⟩
  exact k2.2.2 x fld d h1.2 e C dx δ1 σ _ (Rep.made s1 (by simp) (fun q hq=>by simp [hq]) he hdx hne (.inl rfl) hns) af
end
end DL
namespace DL
open PySem PySem.Spec PyProof.Rows L2
structure XG (K:PySem.W.Frag) (C:Addr):Prop where
 ga:PySem.W.findIn K (.ref C) "__getattribute__"=some (some (.builtin "BaseException.__getattribute__"))
 gh:PySem.W.findIn K (.ref C) "__getattr__"=some none
 be:PySem.W.mroIn K C (.type "BaseException")=some true
 ob:PySem.W.mroIn K C (.type "object")=some true
 hd:PySem.W.hasDictIn K C=true
 cl:PySem.W.findIn K (.ref C) "__class__"=some (some (.builtin "object.__class__"))
 cg:PySem.W.specialIn K (.builtin "object.__class__") "__get__"=some (some (.builtin "getset_descriptor.__get__"))
 ct:PySem.W.takesIn K (.builtin "object.__class__")=some true
section
variable {prog:Program} {w:World} {A:Around} {E:Value→Shared→Prop} {s:Shared} {K:PySem.W.Frag} {x C:Addr} {ox:Obj} {od:Option Obj} {name:Str}
theorem jm {tk:Tok} {v:Value} {Q:Fin→Shared→Prop} (X:K.In s.heap) (I:PySem.W.InstAt s.heap x ox C od) (hf:PySem.W.findObj K C od name=some (.value v)) (h:Q (.done (.ret v)) s) :
  wpAny (model prog w) A (Builtin.«object.__getattribute__» ⟨[.ref x,.str name tk],[]⟩) Q E s:=by
 obtain ⟨hh,g,d,t,os⟩:=s
 have L0:=I.type (M:=model prog w)
 have L1:=PySem.W.looks_find (M:=model prog w) X I hf
 refine wpAny_bind (wpAny_pure (wpAny_bind (wpAny_pure (wpAny_bind (L0.at (wpAny_bind (L1.at ?_)))))))
 exact wpAny_pure h
theorem jI {tk:Tok} {Q:Fin→Shared→Prop} (X:K.In s.heap) (g:XG K C) (I:PySem.W.InstAt s.heap x ox C od) (h:Q (.done (.ret (.ref C))) s) :
  wpAny (model prog w) A (Builtin.«object.__getattribute__» ⟨[.ref x,.str "__class__" tk],[]⟩) Q E s:=by
 have hf:PySem.W.findObj K C od "__class__"=some (.bind (.builtin "getset_descriptor.__get__") (.builtin "object.__class__")):=by
  obtain ⟨cd,hc,_⟩:=PySem.W.any_some g.hd
  unfold PySem.W.findObj
  rw [hc,Option.bind_some,g.cl,Option.bind_some]
  simp [g.cg,g.ct]
 have L0:=I.type (M:=model prog w)
 have L1:=PySem.W.looks_find (M:=model prog w) X I hf
 obtain ⟨hh,gg,d,t,os⟩:=s
 refine wpAny_bind (wpAny_pure (wpAny_bind (wpAny_pure (wpAny_bind (L0.at (wpAny_bind (L1.at ?_)))))))
 show wpAny _ _ (holding [Value.builtin "object.__class__"] (call (.builtin "getset_descriptor.__get__") [.builtin "object.__class__",.ref x,.ref C]) >>= ret) _ _ _
 exact wpAny_bind (wpAny_holding (wpAny_call (PySem.W.class_get (s:=⟨hh,gg,d,t,os⟩) X I g.ob (wpAny_pure h))))
theorem fj {M:Model} {nameV:Value} {Q:Unit→Shared→Prop} (X:K.In s.heap) (g:XG K C) (I:PySem.W.InstAt s.heap x ox C od) (hq:Q () s):wpAny M A (checkBuiltinCall "BaseException.__getattribute__" ⟨[.ref x,nameV],[]⟩) Q E s:=by
 obtain ⟨hh,gg,d,t,os⟩:=s
 have L0:=I.type (M:=M)
 have L3:=PySem.W.looks_mroIn (M:=M) X g.be
 have hk:builtinKind "BaseException.__getattribute__"=some .slot:=by decide +kernel
 have hsplit:splitId "BaseException.__getattribute__"=some ("BaseException","__getattribute__"):=by decide +kernel
 have ha:=PySem.F.args_bexc_ga (.ref x) nameV
 simp only [checkBuiltinCall,hk,hsplit]
 refine wpAny_bind ?_
 unfold isInstance
 repeat (first | (with_reducible refine L0.at ?_) | (with_reducible refine L3.at ?_) | wp_step)
 exact hq
theorem ie {tk:Tok} {v:Value} {fill expr:Bool} {Q:Value→Shared→Prop} (X:K.In s.heap) (g:XG K C) (I:PySem.W.InstAt s.heap x ox C od) (hv:PySem.W.handedIn v=true)
  (body:∀ (A:Around) (E:Value→Shared→Prop) (Q:Fin→Shared→Prop),Q (.done (.ret v)) s→wpAny (model prog w) A (Builtin.«object.__getattribute__» ⟨[.ref x,.str name tk],[]⟩) Q E s) (h:Q v s) :
  wpAny (model prog w) A (getAttrBy (.ref x) (.str name tk) fill expr) Q E s:=by
 obtain ⟨hh,gg,d,t,os⟩:=s
 have L0:=I.type (M:=model prog w)
 have L1:=PySem.W.looks_findIn (M:=model prog w) X g.ga
 have L2:=PySem.W.looks_findIn (M:=model prog w) X g.gh
 have f3:=PySem.F.attrBase_ValueError.ga.bind (.ref x)
 have hx0:(expr && onTheHeap (Value.builtin "BaseException.__getattribute__"))=false:=by cases expr<;>rfl
 have hx2:(Value.builtin "BaseException.__getattribute__" == Value.builtin "object.__getattribute__")=false:=by decide +kernel
 have hx1:(onTheHeap (Value.ref C) && Value.builtin "BaseException.__getattribute__" == Value.builtin "object.__getattribute__")=false:=by rw [hx2];rfl
 repeat (any_goals (first | assumption | (with_reducible refine L0.at ?_) | (with_reducible refine L1.at ?_) | (with_reducible refine L2.at ?_) | wp_step))
 refine codeAny_call_builtin PySem.F.attrBase_ValueError.ga.plain PySem.F.entry_bexc_ga (fj X g I (body _ _ _ ?_))
 show wpAny _ _ (handedOut v) _ _ _
 rw [PySem.W.handedOut_of hv]
 exact wpAny_pure h
theorem xget {v:Value} {expr:Bool} {Q:Value→Shared→Prop} (X:K.In s.heap) (g:XG K C) (I:PySem.W.InstAt s.heap x ox C od) (hv:PySem.W.handedIn v=true)
  (body:∀ (A:Around) (E:Value→Shared→Prop) (Q:Fin→Shared→Prop),Q (.done (.ret v)) { s with toks:=s.toks + 1 }→wpAny (model prog w) A (Builtin.«object.__getattribute__» ⟨[.ref x,.str name s.toks],[]⟩) Q E { s with toks:=s.toks + 1 })
  (h:Q v { s with toks:=s.toks + 1 }):wpAny (model prog w) A (getAttr (.ref x) name expr) Q E s:=by
 unfold getAttr
 exact wpAny_bind (wpAny_mkText (ie (s:={ s with toks:=s.toks + 1 }) X g I hv body h))
theorem xget? {v:Value} {Q:Option Value→Shared→Prop} (X:K.In s.heap) (g:XG K C) (I:PySem.W.InstAt s.heap x ox C od) (hv:PySem.W.handedIn v=true)
  (body:∀ (A:Around) (E:Value→Shared→Prop) (Q:Fin→Shared→Prop),Q (.done (.ret v)) { s with toks:=s.toks + 1 }→wpAny (model prog w) A (Builtin.«object.__getattribute__» ⟨[.ref x,.str name s.toks],[]⟩) Q E { s with toks:=s.toks + 1 })
  (h:Q (some v) { s with toks:=s.toks + 1 }):wpAny (model prog w) A (getAttr? (.ref x) name) Q E s:=by
 unfold getAttr? getAttrBy?
 exact wpAny_bind (wpAny_mkText (wpAny_bind (wpAny_attempt (ie (s:={ s with toks:=s.toks + 1 }) X g I hv body (wpAny_pure h)))))
end
end DL
namespace DL
open PySem PySem.Spec PyProof.Rows L2
theorem jh (n:Nat):∃ h:Heap,h.objs.size=n:=by
 induction n with
 | zero=>exact⟨{ objs:=#[] },rfl⟩
 | succ n ih =>
  obtain ⟨h,e⟩:=ih
  exact⟨h.push { cls:=.type "tuple",data:=.seq #[] },by rw [Heap.size_push,e]⟩
theorem jL {e C dx C' dx':Addr} (h:XAt e C dx=XAt e C' dx'∨XAt e C dx=XNew e C' dx'):C=C'∧dx=dx':=by
 obtain ⟨g,hg⟩:=jh e
 have q:(g.push (xob C (some dx) .none .none)).get? e=some (xob C (some dx) .none .none):=by
  rw [← hg]
  exact mH g rfl
 have p:∃ a t,(g.push (xob C (some dx) .none .none)).get? e=some (xob C' (some dx') a t):=by
  rcases h with h | h
  ·have z:=congrFun (HO.ext.inj h) (g.push (xob C (some dx) .none .none))
   exact z.mp ⟨_,_,q⟩
  ·have z:=congrFun (HO.ext.inj h) (g.push (xob C (some dx) .none .none))
   obtain ⟨a,r⟩:=z.mp ⟨_,_,q⟩
   exact⟨a,.none,r⟩
 obtain ⟨a,t,r⟩:=p
 rw [q] at r
 have r:=Option.some.inj r
 exact⟨Value.ref.inj (congrArg Obj.cls r),Option.some.inj (congrArg Obj.dict r)⟩
section
variable {K:PySem.W.Frag} {G:Gf} {A:Addr→Prop} {δ:En} {P:List (D×V)} {σ σ':L2.St} {H:Hp} {i j n:Nat} {c f:Str} {d:D} {e:Addr}
theorem Sx.raised (s:Sx K G A δ ((.exn c f d,.ref e) :: P) σ H) (hl:σ'.length=n) (hij:i≠j) (hn:i < n):Sx K G A ((List.replicate n .no).set i (.dat (.exn c f d))) P (((σ'.set j (some (.ref e))).set i (some (.ref e))).set j none) H:=by
 have key:∀ (k:Nat) (y:Sl),y≠.no→((List.replicate n Sl.no).set i (.dat (.exn c f d)))[k]?=some y→i=k∧y=.dat (.exn c f d):=fun k y hy q=>by
  by_cases hk:i=k
  ·subst hk
   rw [List.getElem?_set_self (by simpa using hn)] at q
   exact⟨rfl,(Option.some.inj q).symm⟩
  ·rw [List.getElem?_set_ne hk,List.getElem?_replicate] at q
   split at q
   ·exact absurd (Option.some.inj q).symm hy
   ·cases q
 refine⟨s.old,s.stay,s.m0,s.pm,s.new,s.thr,by simp [hl],fun k d' q=>?_,fun k a d' q=>?_,fun k l a d' e' q _=>?_,fun p hp=>s.pnd p (mo _ hp)⟩
 ·obtain ⟨rfl,z⟩:=key k _ (by simp) q
  cases z
  refine⟨.ref e,?_,s.pnd _ (ms ..)⟩
  rw [List.getElem?_set_ne (Ne.symm hij),List.getElem?_set_self (by simp [hl,hn])]
 ·obtain ⟨_,z⟩:=key k _ (by simp) q
  cases z
 ·obtain ⟨_,z⟩:=key k _ (by simp) q
  cases z
end
def dTry (cs:List Str) (i j:Nat) (tb:TDS):TDS:=fun R δ=>(i < δ.length∧j < δ.length)∧tb { R with ex:=fun c f d=>c∈cs∧R.nx ((List.replicate δ.length .no).set i (.dat (.exn c f d))) } δ
def dj (K:PySem.W.Frag) (R:Addr) (cs:List Str):Prop:=∀ c∈cs,∀ C,PySem.W.nsIn K mainGlobals c=some (some (.ref C))→∃ N NR mN mR,∀ h,K.In h→C2 h C N R NR mN mR
section
variable {X:Cx}
theorem kn {R:Addr} {body:List Stmt} {n xR y:Str} {np hpos pos p1 p2 p3:Pos} {tb:TDS} {cs:List Str} (i j:Nat) (hst:X.stack=X.env :: X.outer∧X.env.frame=some X.env.locals) (hN:X.N.Nodup) (hij:i≠j) (hg:Gl X xR) (hm:X.mg xR=some (.ref R)) (hcs:dj X.K R cs)
  (hb:∀ (pins:List (Addr×Obj)) (E:Value→Shared→Prop),DSs (X.inTry pins E) body tb) (hj:X.N[j]?=some n:=by rfl) (hk:X.env.scope.names.lookup n=some .local :=by rfl) (hi:X.N[i]?=some y:=by rfl) (hki:X.env.scope.names.lookup y=some .local :=by rfl)
  (hdb:(xR == ("__debug__":Str))=false:=by decide) (hd:(n == ("__debug__":Str))=false:=by decide) (hcd:(n == ("__classdict__":Str))=false:=by decide)
  (hs:∀ A' E',swapsWith (.Name n p2) (some (.Name y p1)) p3.line (X.hdl A' E').env=pure false:=by intro _ _;rfl) :
  DS X (.Try body [.ExceptHandler (some (.Name xR np)) (some n) [.Assign [.Name y p1] (.Name n p2) p3] hpos] [] [] pos) (dTry cs i j tb) :=
 PS.imp (ln (tb:=fun pins E=>upS (X.inTry pins E) tb) hst hN hj hk hg hm hb (fun A' E'=>bN (hG (X:=X.hdl A' E') (i:=i) hN hi (.inl hki) (a7 (X:=X.hdl A' E') (i:=j) hj (.inl hk) hd hcd) (hs A' E') (.inr hki))) hdb) fun E σ H hu=>by
  obtain ⟨G,δ,P,R0,s,⟨⟨hiδ,hjδ⟩,h⟩,k1,k2,k3,k4,k5⟩:=hu
  have hlen:δ.length=σ.length:=let ⟨_,x⟩:=s;x.len
  refine⟨fun ev dxo H'=>∃ c f d e C dx δ' σ',ev=.ref e∧dxo=some dx∧c∈cs∧R0.nx ((List.replicate δ.length .no).set i (.dat (.exn c f d)))∧S X.K G δ' ((.exn c f d,.ref e) :: P) σ' H'∧H' e=some (XAt e C dx),?_,?_,?_⟩
  ·rintro e C dx H' hX ⟨c,f,d,e',C',dx',δ',σ',q1,q2,hc,_,⟨A,x⟩,hX'⟩
   cases q1
   cases q2
   have rp:=x.pnd (.exn c f d,.ref e) (ms ..)
   unfold Rep at rp
   obtain ⟨y,xr,_⟩:=rp
   obtain ⟨e2,C2,dx2,q,_,_,ho,_,hns⟩:=xr.ex
   cases q
   have z:=jL (ho.imp (fun z=>Option.some.inj (hX.symm.trans z)) fun z=>Option.some.inj (hX.symm.trans z))
   rw [z.1]
   exact hcs c hc C2 hns
  ·intro pins E1 hE
   refine⟨G,δ,P,_,s,h,k1,⟨k2.1,k2.2.1,fun c f d hcn e C dx δ' σ' H' s' hX=>?_⟩,k3,k4,k5⟩
   intro e' C' dx' pins' s1 q1 q2 L
   cases q1
   cases q2
   obtain ⟨σ1,a,t,I1,he,ht,hT,hX1⟩:=L.ex
   refine hE _ _ ⟨σ1,H',e,C',dx,a,t,rfl,e6 I1,he,ht,fun T z=>?_,hX1,c,f,d,e,C,dx,δ',σ',rfl,rfl,hcn.1,hcn.2,s',hX⟩
   obtain ⟨z1,z2,z3,z4,z5⟩:=hT T z
   exact⟨z1,z2,z3,z4,fun p hp=>z5 p (mx _ hp)⟩
  ·rintro σ' H' e C dx hl hX ⟨c,f,d,e',C',dx',δ',σ'',q1,q2,hc,hn,⟨A,x⟩,hX'⟩
   cases q1
   cases q2
   refine⟨.ref e,?_,?_⟩
   ·rw [List.getElem?_set_self (by rw [hl,← hlen];exact hjδ)]
   ·exact k1 _ hn _ H' ⟨A,x.raised (by rw [hl,hlen]) hij hiδ⟩
end
end DL
namespace DL
open PySem PySem.Spec PyProof.Rows L2
def tFs (te:TE):TE:=fun σ H Q=>te σ H fun v H1=>∃ x,v=.str x∧x.length≤100∧∀ y,Q (.str y) H1
section
variable {X:Cx}
theorem iQ {c:Str} {j} {e:Expr} {p1 p2 pos:Pos} {te:TE} (he:PE X e te) (hc:c.length≤1000:=by decide +kernel):PE X (.JoinedStr [.Constant (.str c) j p1,.FormattedValue e (-1) none p2] pos) (tFs te):=by
 intro pins s σ H Q I h
 have ec:(Str.empty++c).length≤1000:=by rw [strLen_append];exact mq (Nat.le_of_eq (by rw [show Str.empty.length=0 from rfl,Nat.zero_add])) hc
 refine JoinedStr_many (joinParts_cons (thn (dX (x:=c) (j:=j) (pos:=p1) pins s σ H (fun v H1=>v=.str c∧tFs te σ H1 Q) I ⟨rfl,h⟩) fun u s1 hs1=>?_))
 obtain ⟨v,H1,I1,r,rfl,h1⟩:=hs1
 obtain ⟨t,rfl⟩:=r
 refine⟨mq ec (by decide),joinParts_cons (FormattedValue_plain (thn (he pins s1 σ H1 _ I1 h1) fun u2 s2 hs2=>?_))⟩
 obtain ⟨v2,H2,I2,r2,x,rfl,hx,q⟩:=hs2
 obtain ⟨t2,rfl⟩:=r2
 refine formatField_str (fun t' tk=>?_) (mq hx (by decide))
 have e2:(Str.empty++c++x).length≤2000:=by rw [strLen_append];omega
 exact⟨mq e2 (by decide),joinParts_nil ⟨.str _,H2,(I2.tok tk).tok _,⟨_,rfl⟩,q _⟩ (mq e2 (by decide))⟩
end
structure Exc (P:Program) (w:World) (K:PySem.W.Frag) (mg:Str→Option Value) (base:Heap) (k:Nat) (x f:Str) (b:Bool):Prop where
 ex:∃ (C R fI:Addr) (fd:FuncData) (ps:List Str),EK K C R f∧EM K C R fI∧FnOk P w K mg base CX0 k fI fd ps (spI C f b)∧bi K fd ps []∧mg x=some (.ref C)∧PySem.W.nsIn K mainGlobals x=some (some (.ref C))
section
variable {X:Cx} {pos:Pos} {a:Expr} {ta:TDE} {f:Str} {k:Nat} {x:Str} {p cpos:Pos} {b:Bool}
theorem de_x (E:Exc X.prog X.w X.K X.mg X.base k x f b) (hr:Room (k + 1) X.A) (hg:Gl X x) (ha:DE X a ta)
  (hdb:(x == ("__debug__":Str))=false:=by decide) (he:starEach [a] X.env=(false,eval a X.env) :: starEach [] X.env:=by rfl) (hpl:(backTo cpos (starEach [] X.env)).any (·.1)=false:=by rfl) :
  DE X (.Call (.Name x p) [a] [] cpos) (dXm x f b ta):=by
 obtain ⟨C,R,fI,fd,ps,ek,em,F,hb,hm,hns⟩:=E.ex
 exact lG em F hr hg hm hb hns ha hdb he hpl
theorem ds_x (E:Exc X.prog X.w X.K X.mg X.base k x f b) (hr:Room (k + 1) X.A) (hg:Gl X x) (ha:DE X a ta) (hc:X.calm=true:=by rfl)
  (hdb:(x == ("__debug__":Str))=false:=by decide) (he:starEach [a] X.env=(false,eval a X.env) :: starEach [] X.env:=by rfl) (hpl:(backTo cpos (starEach [] X.env)).any (·.1)=false:=by rfl) :
  DS X (.Raise (some (.Call (.Name x p) [a] [] cpos)) none pos) (fC x f b ta):=by
 obtain ⟨C,R,fI,fd,ps,ek,em,F,hb,hm,hns⟩:=E.ex
 exact gL ek em F hr hg hm hb hns ha hc hdb he hpl
end
def mNs (K:PySem.W.Frag) (N:Addr):Str→Option Value:=fun x=>match K.lookup N with
 | some ⟨_,_,.dict es _,_⟩=>nsFind es x
 | _=>none
theorem cp.ns {K:PySem.W.Frag} {N:Addr} {h:Heap} (q:cp K N=true) (X:K.In h):h.Ns N (mNs K N):=by
 unfold cp at q
 split at q
 ·rename_i c d es n sl e
  refine⟨_,es,n,X _ _ e,rfl,fun en hen=>?_,fun name=>?_⟩
  ·have:=List.all_eq_true.mp q en (by simpa using hen)
   split at this
   ·rename_i y t z
    exact⟨y,t,z⟩
   ·cases this
  ·unfold mNs
   rw [e]
 ·cases q
theorem bO {K:PySem.W.Frag} {N:Addr} {x:Str} {r:Option Value} (q:PySem.W.nsIn K N x=some r):mNs K N x=r:=by
 unfold PySem.W.nsIn at q
 unfold mNs
 split at q
 ·rename_i c d es n sl e
  rw [e]
  show nsFind es x=r
  unfold nsFind findBy
  rw [← Array.find?_toList]
  split at q
  ·rename_i en he
   rw [he]
   cases q
   rfl
  ·rename_i he
   rw [he]
   split at q
   ·cases q
   ·cases q
    rfl
 ·cases q
theorem RcK.rk {K:PySem.W.Frag} {xR:Str} {R NR:Addr} (r:RcK K xR R NR):RK K R:=⟨r.sp,_,r.rd,r.fc⟩
section
variable {K:PySem.W.Frag} {x f xR q:Str} {R NR:Addr} {st:Stmt}
theorem KCls.c2 {C N:Addr} (c:KCls K C N (.ref R :: bmV)) (r:RcK K xR R NR) (ns:cp K N=true):∀ h,K.In h→C2 h C N R NR (mNs K N) (mNs K NR):=fun h X=>by
 obtain ⟨nm,q,bs,sn,sub,ab,col,dd,k0,k1,k2,k3,k5,hC⟩:=c.ex
 obtain ⟨nm',q',bs',sn',sub',ab',col',dd',j0,j1,j2,j3,j5,hR⟩:=r.cl.ex
 exact⟨⟨nm,q,bs,sn,sub,ab,col,dd,k0,k1,k2,k3,k5,X _ _ hC⟩,⟨nm',q',bs',sn',sub',ab',col',dd',j0,j1,j2,j3,j5,X _ _ hR⟩,cp.ns ns X,cp.ns r.ns X,bO r.ini⟩
theorem XcK.exc {P:Program} {w:World} {mg:Str→Option Value} {base h:Heap} {k:Nat} {b:Bool} {ps:List Str} (e:XcK K x f R NR q st) (r:RcK K xR R NR) (X:K.In h) (G:h.Ns mainGlobals mg) (fb:typeLookup (.type "ValueError") f=pure none)
  (hini:∀ (C fI:Addr) (fd:FuncData),Fun K "__init__" q st fI fd→EK K C R f→RK K R→mg xR=some (.ref R)→FnOk P w K mg base CX0 k fI fd ps (spI C f b))
  (hb:∀ (kV doc pm:Value) (an:Option Addr) (cdv ct:Value) (us:List Value),us.length=ps.length→bindArgs (PySem.W.fnOf "__init__" q (aD st) (au st) (ae st) .none kV doc pm an cdv ct) ⟨us,[]⟩=pure (ps.zip us)) :
  Exc P w K mg base k x f b:=by
 obtain ⟨C,N,fI,h1,h2,h3,h4,h5,h6,h7,h8,od,kV,dc,pm,an,cd,ct,sl,h9,h10,h11⟩:=e.ex
 have F:Fun K "__init__" q st fI (PySem.W.fnOf "__init__" q (aD st) (au st) (ae st) .none kV dc pm an cd ct):=⟨⟨_,od,kV,dc,pm,an,cd,ct,sl,rfl,h9,h10⟩,h11⟩
 have ek:EK K C R f:=⟨⟨N,NR,mNs K N,mNs K NR,h2.c2 r h3,bO h5,bO r.sa,bO h6,bO h7⟩,fb⟩
 exact⟨C,R,fI,_,ps,ek,⟨⟨N,NR,mNs K N,mNs K NR,h2.c2 r h3,bO h4⟩,h8,_,h9,rfl⟩,hini C fI _ F ek r.rk (PySem.W.mg_of X G r.at_),F.binds hb,PySem.W.mg_of X G h1,h1⟩
theorem XcK.under (e:XcK K x f R NR q st) (r:RcK K xR R NR):dj K R [x]:=fun c hc C hC=>by
 obtain ⟨C',N,fI,h1,h2,h3,_⟩:=e.ex
 cases mD.mp hc
 rw [h1] at hC
 cases hC
 exact⟨N,NR,_,_,h2.c2 r h3⟩
theorem dj.app {cs ds:List Str} (h:dj K R cs) (h':dj K R ds):dj K R (cs++ds):=fun c hc=>(List.mem_append.mp hc).elim (h c) (h' c)
end
end DL
namespace DL
open PySem PySem.Spec PyProof.Rows L2
theorem xgB.xg {K:PySem.W.Frag} {C:Addr} (h:xgB K C=true):XG K C:=by
 unfold xgB at h
 simp only [Bool.and_eq_true,beq_iff_eq] at h
 obtain ⟨⟨⟨⟨⟨⟨⟨h1,h2⟩,h3⟩,h4⟩,h5⟩,h6⟩,h7⟩,h8⟩:=h
 exact⟨h1,h2,h3,h4,h5,h6,h7,h8⟩
theorem excB.at {K:PySem.W.Frag} {x f:Str} {C:Addr} (h:excB K=true) (hx:(x,f)∈b6) (hC:PySem.W.nsIn K mainGlobals x=some (some (.ref C))) :
  XG K C∧PySem.W.findIn K (.ref C) f=some none∧PySem.W.kitOne K (.ref C) (.type "ValueError")=some true∧PySem.W.kitOne K (.type "NoneType") (.ref C)=some false ∧
   ∀ y g C',(y,g)∈b6→PySem.W.nsIn K mainGlobals y=some (some (.ref C'))→PySem.W.kitOne K (.ref C) (.ref C')=some (x == y):=by
 have q:=List.all_eq_true.mp h (x,f) hx
 simp only [hC,Bool.and_eq_true,beq_iff_eq] at q
 obtain ⟨⟨⟨⟨q1,q2⟩,q3⟩,q4⟩,q5⟩:=q
 refine⟨xgB.xg q1,q2,q3,q4,fun y g C' hy hC'=>?_⟩
 have z:=List.all_eq_true.mp q5 (y,g) hy
 simp only [hC',beq_iff_eq] at z
 exact z
def aP:List Str:=["NoQuotient","NoName","TooMany"]
theorem aB {x:Str} (h:x∈aP):∃ f,(x,f)∈b6:=by
 simp only [aP,mv,List.not_mem_nil,or_false] at h
 rcases h with rfl | rfl | rfl
 ·exact⟨"top",by simp [b6]⟩
 ·exact⟨"name",by simp [b6]⟩
 ·exact⟨"saying",by simp [b6]⟩
def xis (c:Str→Bool):D→Option Bool
 | .exn x _ _=>if aP.contains x then some (c x) else none
 | .non=>some false
 | _=>none
def dIsx (c:Str→Bool) (t:TDE):TDE:=fun δ R=>t δ (wd fun x δ1=>∃ b,xis c x=some b∧R (.d (.bl b)) δ1)
theorem cn {K:PySem.W.Frag} {e C:Addr} (g:XG K C):PySem.W.KitX K (.ref e) (.ref C) (fun h=>∃ ox od,PySem.W.InstAt h e ox C od) where
 ty:=fun _ _ _ ⟨_,_,I⟩=>I.type
 it:=fun _ _ X _=>by
  obtain ⟨cdD,hcD,_⟩:=PySem.W.any_some g.hd
  unfold PySem.W.clsIn at hcD
  split at hcD
  ·rename_i c' d' cd' sl' ho
   intro A' Q' E' s' k q
   unfold isType loadHead
   exact wpAny_bind (wpAny_loadPart (k _ _ (X _ _ ho)) (wpAny_pure q))
  ·cases hcD
 ne:=fun h tp dd its n sl X htp=>by
  obtain ⟨cdD,hcD,_⟩:=PySem.W.any_some g.hd
  refine Bool.eq_false_iff.mpr fun q=>?_
  have e:C=tp:=Value.ref.inj (beq_iff_eq.mp q)
  subst e
  unfold PySem.W.clsIn at hcD
  split at hcD
  ·rename_i c' d' cd' sl' ho
   have z:=(X _ _ ho).symm.trans htp
   cases z
  ·cases hcD
 ca:=fun {prog w A E Q s} X ⟨ox,od,I⟩ k=>xget? X g I rfl (fun A E Q h=>jI (s:={ s with toks:=s.toks + 1 }) X g I h) k
section
variable {X:Cx} {pins:List (Addr×Obj)} {σ:L2.St} {H:Hp} {s:Shared} {M:Addr→Prop} {d:D} {v y:V} {u:Value} {c f:Str} {A:Around} {E:Value→Shared→Prop}
theorem bP (I:L2.Inv X pins σ H s) (r:XRep X.K M H c f v y):∃ e C ox od,v=.ref e∧PySem.W.nsIn X.K mainGlobals c=some (some (.ref C))∧PySem.W.InstAt s.heap e ox C (some od)∧∃ u,PySem.W.lookIn f od=some (some u)∧RelV y u:=by
 obtain ⟨e,C,dx,rfl,_,_,h1,h2,h3⟩:=r.ex
 have ho:∃ a t,s.heap.get? e=some (xob C (some dx) a t):=by
  rcases h1 with h1 | h1
  ·exact (I.hok e _ h1).1
  ·obtain ⟨a,q⟩:=(I.hok e _ h1).1
   exact⟨a,.none,q⟩
 obtain ⟨a,t,ho⟩:=ho
 obtain ⟨mA,ns,rel⟩:=I.hok dx _ h2
 obtain ⟨od,hod,hl⟩:=eY ns
 have rf:=rel f
 simp only [List.lookup,beq_self_eq_true] at rf
 obtain ⟨u,hu,ru⟩:=RelO.some_of (v:=y) (o:=mA f) rf
 exact⟨e,C,_,od,rfl,h3,⟨ho,rfl,rfl,hod⟩,u,by rw [hl,hu],ru⟩
theorem ft {k:Str→Bool} {cv:Value} {b:Bool} {Q:Value→Shared→Prop} (tab:excB X.K=true) (I:L2.Inv X pins σ H s) (r:Rep X.K M H d v) (ru:RelV v u) (hb:xis k d=some b)
  (h1:∀ x∈aP,∀ C,PySem.W.nsIn X.K mainGlobals x=some (some (.ref C))→PySem.W.kitOne X.K (.ref C) cv=some (k x)) (h2:PySem.W.kitOne X.K (.type "NoneType") cv=some false) (h:∀ tk,Q (.bool b) { s with toks:=tk }) :
  wpAny (model X.prog X.w) A (call (.builtin "isinstance") [u,cv]) Q E s:=by
 unfold xis at hb
 split at hb
 ·rename_i x f x'
  split at hb
  ·rename_i hx
   cases hb
   have hx:x∈aP:=by simpa using hx
   unfold Rep at r
   obtain ⟨y,xr,_⟩:=r
   obtain ⟨e,C,ox,od,rfl,hns,J,_⟩:=bP I xr
   cases ru
   obtain ⟨f',hf⟩:=aB hx
   exact PySem.W.kia_one (cn (excB.at tab hf hns).1) I.kIn ⟨_,_,J⟩ (h1 x hx C hns) (fun z=>nomatch z) h
  ·cases hb
 ·cases hb
  unfold Rep at r
  subst r
  cases ru
  exact PySem.W.kia_one PySem.W.kitx_none I.kIn True.intro h2 (fun z=>nomatch z) h
 ·cases hb
theorem iL {k:Str→Bool} {c1 c2:Value} {b:Bool} {tp:Addr} {dd:Option Addr} {n:Nat} {sl:Array (Option Value)} {Q:Value→Shared→Prop} (tab:excB X.K=true) (I:L2.Inv X pins σ H s) (r:Rep X.K M H d v) (ru:RelV v u) (hb:xis k d=some b)
  (htp:s.heap.get? tp=some ⟨.type "tuple",dd,.seq ([c1,c2]:List Value).toArray n,sl⟩)
  (h1:∀ x∈aP,∀ C,PySem.W.nsIn X.K mainGlobals x=some (some (.ref C))→PySem.W.kitAny X.K (.ref C) [c1,c2]=some (k x)) (h2:PySem.W.kitAny X.K (.type "NoneType") [c1,c2]=some false) (h:∀ tk,Q (.bool b) { s with toks:=tk }) :
  wpAny (model X.prog X.w) A (call (.builtin "isinstance") [u,.ref tp]) Q E s:=by
 unfold xis at hb
 split at hb
 ·rename_i x f x'
  split at hb
  ·rename_i hx
   cases hb
   have hx:x∈aP:=by simpa using hx
   unfold Rep at r
   obtain ⟨y,xr,_⟩:=r
   obtain ⟨e,C,ox,od,rfl,hns,J,_⟩:=bP I xr
   cases ru
   obtain ⟨f',hf⟩:=aB hx
   exact PySem.W.kia_tup (cn (excB.at tab hf hns).1) I.kIn ⟨_,_,J⟩ htp (h1 x hx C hns) (fun z=>nomatch z) h
  ·cases hb
 ·cases hb
  unfold Rep at r
  subst r
  cases ru
  exact PySem.W.kia_tup PySem.W.kitx_none I.kIn True.intro htp h2 (fun z=>nomatch z) h
 ·cases hb
end
section
variable {X:Cx} {a:Expr} {ta:TDE} {p p2 p3 p4 pos:Pos}
def rIsx (K:PySem.W.Frag) (c:Str→Bool) (T:V→Hp→Prop):List V→Hp→VK→Prop:=fun vs H Q=>∃ x y M d b,vs=[x,y]∧T y H∧Rep K M H d x∧xis c d=some b∧Q (.bl b) H
theorem ls (K:PySem.W.Frag):PySem.W.kitOne K (.type "NoneType") (.type "ValueError")=some false:=by with_unfolding_all rfl
theorem bC:bootBuiltins "ValueError"=some (.type "ValueError"):=by decide +kernel
theorem jH (tab:excB X.K=true) (hg:Gl X "isinstance") (hm:X.mg "isinstance"=none) (hgT:Gl X "ValueError") (hmT:X.mg "ValueError"=none) (ha:DE X a ta)
  (he:starEach [a,.Name "ValueError" p2] X.env=(false,eval a X.env) :: starEach [.Name "ValueError" p2] X.env:=by rfl) (he2:starEach [.Name "ValueError" p2] X.env=(false,eval (.Name "ValueError" p2) X.env) :: starEach [] X.env:=by rfl)
  (hpl:(backTo pos (starEach [.Name "ValueError" p2] X.env)).any (·.1)=false:=by rfl) :
  DE X (.Call (.Name "isinstance" p) [a,.Name "ValueError" p2] [] pos) (dIsx (fun _=>true) ta):=by
 have cr:bm X (.builtin "isinstance") (rIsx X.K (fun _=>true) fun y _=>y=.ty "ValueError"):=by
  intro pins s σ H xs us Q I r h
  obtain ⟨x,y,M,d,b,rfl,rfl,rx,hb,q⟩:=h
  obtain ⟨u,w',rfl,ru,rw'⟩:=gD r
  cases rw'
  exact ft tab I rx ru hb (fun x hx C hC=>let ⟨f,hf⟩:=aB hx;(excB.at tab hf hC).2.2.1) (ls _) fun tk=>⟨.bl _,H,I.tok _,rfl,q⟩
 exact PE.imp (bu cr hg hm aS (ao ha (ao (fF (v:=.ty "ValueError") hgT hmT bC rfl) a8 he2) he) (by decide) (by decide) he hpl) fun σ H Q ⟨G,δ,P,R,s,h,k,_⟩=>up.mk s h fun d δ1 h1 v H1 s1=>by
  obtain ⟨A,q⟩:=id s1
  obtain ⟨b,hb,hR⟩:=h1
  exact⟨v,_,_,d,b,rfl,rfl,q.pnd (d,v) (by simp),hb,k _ δ1 hR _ H1 ((s1.sub (P':=P) fun p hp=>mo _ hp).sc rfl)⟩
structure XAd (K:PySem.W.Frag) (mg:Str→Option Value) (x:Str) (C:Addr):Prop where
 mg:mg x=some (.ref C)
 ns:PySem.W.nsIn K mainGlobals x=some (some (.ref C))
 mem:x∈aP
theorem jE {y:Str} (tab:excB X.K=true) (hg:Gl X "isinstance") (hm:X.mg "isinstance"=none) (hgT:Gl X y) (hC:∃ C,XAd X.K X.mg y C) (ha:DE X a ta) (hdT:(y == ("__debug__":Str))=false:=by decide)
  (he:starEach [a,.Name y p2] X.env=(false,eval a X.env) :: starEach [.Name y p2] X.env:=by rfl) (he2:starEach [.Name y p2] X.env=(false,eval (.Name y p2) X.env) :: starEach [] X.env:=by rfl) (hpl:(backTo pos (starEach [.Name y p2] X.env)).any (·.1)=false:=by rfl) :
  DE X (.Call (.Name "isinstance" p) [a,.Name y p2] [] pos) (dIsx (fun x=>x == y) ta):=by
 obtain ⟨C,hC⟩:=hC
 have cr:bm X (.builtin "isinstance") (rIsx X.K (fun x=>x == y) fun z _=>z=.ref C):=by
  intro pins s σ H xs us Q I r h
  obtain ⟨x,z,M,d,b,rfl,rfl,rx,hb,q⟩:=h
  obtain ⟨u,w',rfl,ru,rw'⟩:=gD r
  cases rw'
  obtain ⟨g,hg⟩:=aB hC.mem
  exact ft tab I rx ru hb (fun x hx C' hC'=>let ⟨f,hf⟩:=aB hx;(excB.at tab hf hC').2.2.2.2 y g C hg hC.ns) (excB.at tab hg hC.ns).2.2.2.1 fun tk=>⟨.bl _,H,I.tok _,rfl,q⟩
 exact PE.imp (bu cr hg hm aS (ao ha (ao (cZ (v:=.ref C) hgT hC.mg rfl hdT) a8 he2) he) (by decide) (by decide) he hpl) fun σ H Q ⟨G,δ,P,R,s,h,k,_⟩=>up.mk s h fun d δ1 h1 v H1 s1=>by
  obtain ⟨A,q⟩:=id s1
  obtain ⟨b,hb,hR⟩:=h1
  exact⟨v,_,_,d,b,rfl,rfl,q.pnd (d,v) (by simp),hb,k _ δ1 hR _ H1 ((s1.sub (P':=P) fun p hp=>mo _ hp).sc rfl)⟩
theorem fW {K:PySem.W.Frag} {t c1 c2:Value} {b1 b2:Bool} (h1:PySem.W.kitOne K t c1=some b1) (h2:PySem.W.kitOne K t c2=some b2):PySem.W.kitAny K t [c1,c2]=some (b1 || b2):=by
 unfold PySem.W.kitAny
 rw [h1]
 cases b1 with
 | true=>rfl
 | false =>
  show PySem.W.kitAny K t [c2]=_
  unfold PySem.W.kitAny
  rw [h2]
  cases b2<;>rfl
theorem jG {y z:Str} {kt} (tab:excB X.K=true) (hg:Gl X "isinstance") (hm:X.mg "isinstance"=none) (hgy:Gl X y) (hgz:Gl X z) (hC:∃ C,XAd X.K X.mg y C) (hC':∃ C,XAd X.K X.mg z C) (ha:DE X a ta) (hdy:(y == ("__debug__":Str))=false:=by decide) (hdz:(z == ("__debug__":Str))=false:=by decide)
  (he:starEach [a,.Tuple [.Name y p2,.Name z p3] kt p4] X.env=(false,eval a X.env) :: starEach [.Tuple [.Name y p2,.Name z p3] kt p4] X.env:=by rfl)
  (he2:starEach [.Tuple [.Name y p2,.Name z p3] kt p4] X.env=(false,eval (.Tuple [.Name y p2,.Name z p3] kt p4) X.env) :: starEach [] X.env:=by rfl) (hpl:(backTo pos (starEach [.Tuple [.Name y p2,.Name z p3] kt p4] X.env)).any (·.1)=false:=by rfl)
  (he3:starEach [.Name y p2,.Name z p3] X.env=(false,eval (.Name y p2) X.env) :: starEach [.Name z p3] X.env:=by rfl) (he4:starEach [.Name z p3] X.env=(false,eval (.Name z p3) X.env) :: starEach [] X.env:=by rfl) :
  DE X (.Call (.Name "isinstance" p) [a,.Tuple [.Name y p2,.Name z p3] kt p4] [] pos) (dIsx (fun x=>x == y || x == z) ta):=by
 obtain ⟨C,hC⟩:=hC
 obtain ⟨C',hC'⟩:=hC'
 have cr:bm X (.builtin "isinstance") (rIsx X.K (fun x=>x == y || x == z) fun t H=>∃ tp,t=.ref tp∧H tp=some (.tup [.ref C,.ref C'])):=by
  intro pins s σ H xs us Q I r h
  obtain ⟨x,t,M,d,b,rfl,⟨tp,rfl,htp⟩,rx,hb,q⟩:=h
  obtain ⟨u,w',rfl,ru,rw'⟩:=gD r
  cases rw'
  obtain ⟨_,its,vs,o,ho,hc,n,hd⟩:=(show aW X.prog X.w H s.heap tp (.tup [.ref C,.ref C']) from I.hok tp _ htp)
  obtain ⟨g,hg⟩:=aB hC.mem
  obtain ⟨g',hg'⟩:=aB hC'.mem
  have hits:its=[.ref C,.ref C']:=by
   cases vs with
   | cons r0 vs =>
    cases vs with
    | cons r1 vs =>
     cases vs
     cases r0
     cases r1
     rfl
  subst hits
  obtain ⟨cls,dct,dat,sl⟩:=o
  cases hc
  cases hd
  exact iL tab I rx ru hb ho (fun x hx C'' hC''=>let ⟨f,hf⟩:=aB hx;fW ((excB.at tab hf hC'').2.2.2.2 y g C hg hC.ns) ((excB.at tab hf hC'').2.2.2.2 z g' C' hg' hC'.ns)) (fW (excB.at tab hg hC.ns).2.2.2.1 (excB.at tab hg' hC'.ns).2.2.2.1) fun tk=>⟨.bl _,H,I.tok _,rfl,q⟩
 exact PE.imp (bu cr hg hm aS (ao ha (ao (ik (ao (cZ (v:=.ref C) hgy hC.mg rfl hdy) (ao (cZ (v:=.ref C') hgz hC'.mg rfl hdz) a8 he4) he3)) a8 he2) he) (by decide) (by decide) he hpl) fun σ H Q ⟨G,δ,P,R,s,h,k,_⟩=>up.mk s h fun d δ1 h1 v H1 s1=>by
  refine⟨by show 2≤sizeLine;decide,fun tp htp=>?_⟩
  obtain ⟨b,hb,hR⟩:=h1
  obtain ⟨A,x⟩:=s1
  have x2:=x.same (ak htp (.tup [.ref C,.ref C']))
  exact⟨v,_,_,d,b,rfl,⟨tp,rfl,af⟩,x2.pnd (d,v) (by simp),hb,k _ δ1 hR _ _ (S.sc (S.sub ⟨A,x2⟩ (P':=P) fun p hp=>mo _ hp) rfl)⟩
def tXf (K:PySem.W.Frag) (f:Str) (ta:TE):TE:=fun σ H Q=>ta σ H fun v H1=>∃ M c y,XRep K M H1 c f v y∧(c,f)∈b6∧Q y H1
theorem mf {f:Str} {e:Expr} {te:TE} (tab:excB X.K=true) (he:PE X e te) (hb:attributeBase e f X.env (eval e X.env)=eval e X.env):PE X (.Attribute e f pos) (tXf X.K f te):=by
 intro pins s σ H Q I h
 refine iy hb (thn (he pins s σ H _ I h) fun u s1 hs1=>?_)
 obtain ⟨v,H1,I1,r,M,c,y,xr,hc,q⟩:=hs1
 obtain ⟨e,C,ox,od,rfl,hns,J,u',hl,ru⟩:=bP I1 xr
 cases r
 obtain ⟨g,hf,_⟩:=excB.at tab hc hns
 refine xget I1.kIn g J (e8 ru) (fun A E Q h=>jm (s:={ s1 with toks:=s1.toks + 1 }) I1.kIn J (PySem.W.findObj_own g.hd hf rfl hl) h) ?_
 exact⟨y,H1,I1.tok _,ru,q⟩
def dXf (f:Str) (t:TDE):TDE:=fun δ R=>t δ (wd fun x δ1=>∃ c d,x=.exn c f d∧(c,f)∈b6∧R (.d d) δ1)
theorem gk {f:Str} (tab:excB X.K=true) (ha:DE X a ta) (hb:attributeBase a f X.env (eval a X.env)=eval a X.env:=by rfl):DE X (.Attribute a f pos) (dXf f ta) :=
 PE.imp (mf tab ha hb) fun σ H Q ⟨G,δ,P,R,s,h,k,_⟩=>up.mk s h fun x δ1 h1 v H1 s1=>by
  obtain ⟨c,d,rfl,hc,hR⟩:=h1
  obtain ⟨A,x⟩:=s1
  have rp:=x.pnd (.exn c f d,v) (by simp)
  unfold Rep at rp
  obtain ⟨y,xr,ry⟩:=rp
  exact⟨_,c,y,xr,hc,k _ δ1 hR y H1 ⟨A,(x.sub (P':=P) fun p hp=>mo _ hp).push ry⟩⟩
end
theorem gm {P:Program} {w:World} {H:Hp} {h:Heap} {a:Addr} {o:HO} (x:aW P w H h a o):∃ u,h.get? a=some u:=by
 cases o with
 | lst xs=>obtain ⟨_,_,_,_,e⟩:=x;exact⟨_,e⟩
 | tup xs=>obtain ⟨_,_,_,o,e,_⟩:=x;exact⟨_,e⟩
 | dK kvs=>obtain ⟨_,_,_,_,o,_,_,e,_⟩:=x;exact⟨_,e⟩
 | dT kvs=>obtain ⟨_,_,_,_,o,_,_,e,_⟩:=x;exact⟨_,e⟩
 | set S n=>obtain ⟨o,_,_,_,e,_⟩:=x;exact⟨_,e⟩
 | ins C dx fs=>obtain ⟨_,_,_,e,_⟩:=x;exact⟨_,e⟩
 | own _=>exact x
 | xd fs=>obtain ⟨_,⟨o,_,_,e,_⟩,_⟩:=x;exact⟨_,e⟩
 | met f x'=>exact⟨_,x⟩
 | rng lo hi=>obtain ⟨_,_,_,e⟩:=x;exact⟨_,e⟩
 | frz o u=>exact⟨_,x.1⟩
 | tbl ps=>exact⟨_,x⟩
 | ext φ=>exact x.2.1
section
variable {X:Cx} {pins:List (Addr×Obj)} {σ:L2.St} {H:Hp} {s:Shared} {R NR:Addr} {xR:Str} {Q:VK} {a:Expr} {ta:TDE} {p p2 p3 p4 pos cpos:Pos}
theorem iY {u:Value} (rc:RcK X.K xR R NR) (I:L2.Inv X pins σ H s) (h:∀ e,H e=none→Q (.ref e) (upd H e (XRaw e R))):wpAny (model X.prog X.w) X.A (call (.ref R) [u]) (EP X pins σ Q) X.xe s:=by
 obtain ⟨nm,q,bs,sn,sub,ab,col,dd,k0,k1,k2,k3,k5,hC⟩:=rc.cl.ex
 obtain ⟨hh,g,d,tk,os⟩:=s
 refine wpAny_call_exc_sub PySem.F.excBase_ValueError (I.kIn _ _ hC) (cp.ns rc.ns I.kIn) (bO rc.ini) (fun h' e M=>?_) (by show 1≤sizeLine;decide)
 obtain ⟨t,he,_⟩:=M.there
 have hn:H e=none:=by
  cases z:H e with
  | none=>rfl
  | some o =>
   obtain ⟨u,hu⟩:=gm (I.hok e _ z)
   rw [M.new] at hu
   cases hu
 have ne:∀ b o,hh.get? b=some o→b≠e:=fun b o hb z=>by rw [z,M.new] at hb;cases hb
 have nH:∀ b v,H b=some v→b≠e:=fun b v hb z=>by rw [z,hn] at hb;cases hb
 have I2:L2.Inv X pins σ (upd H e (XRaw e R)) ⟨h',g,d,tk,os⟩:=I.un (h':=h') (t':=tk) ⟨fun b o hb _ _ _=>M.keeps b o hb,fun b o hb _ _ _=>⟨o.slots,M.keeps b o hb⟩,fun b o hb hu _=>by rw [ai (ne b o hb)];exact hu,fun b o hb _=>⟨o,M.keeps b o hb⟩,
   fun b xs hb=>by rw [ai (nH b _ hb)];exact hb,fun b o u hb=>by rw [ai (nH b _ hb)];exact hb,fun b ps hb=>⟨#[],by rw [ai (nH b _ hb),hb,Array.append_empty]⟩⟩ fun b o z=>by
  by_cases hb:b=e
  ·subst hb
   rw [af] at z
   cases z
   exact cX he
  ·rw [ai hb] at z
   exact (I.hok b o z).stay (fun c v _ hv=>M.keeps c v hv) (fun c hc=>by rw [ai (nH c _ hc)];exact hc) fun c xs hc=>by rw [ai (nH c _ hc)];exact hc
 exact⟨.ref e,_,I2,rfl,h e hn⟩
def tRaw (R:Addr) (t:TA):TE:=fun σ H Q=>t σ H fun vs H1=>∃ y,vs=[y]∧∀ e,H1 e=none→Q (.ref e) (upd H1 e (XRaw e R))
theorem lv {t:TA} (rc:RcK X.K xR R NR) (hg:Gl X xR) (hm:X.mg xR=some (.ref R)) (ha:PA X [a] t)
  (hdb:(xR == ("__debug__":Str))=false:=by decide) (he:starEach [a] X.env=(false,eval a X.env) :: starEach [] X.env:=by rfl) (hpl:(backTo cpos (starEach [] X.env)).any (·.1)=false:=by rfl) :
  PE X (.Call (.Name xR p) [a] [] cpos) (tRaw R t):=by
 intro pins s σ H Q I h
 refine wpAny_Call_Name_kw (bv I hg hm ?_ hdb)
 refine PySem.W.callWith_K (h₀:=X.base) I.ok.mod.kin rc.kp (thn (ha cpos pins s σ H _ I h) fun us s1 hs1=>?_) he hpl
 obtain ⟨vs,H1,I1,r,y,rfl,q⟩:=hs1
 refine⟨I1.kIn,?_⟩
 cases r with
 | cons r0 r =>
  cases r
  exact iY rc I1 q
def dRaw (t:TDE):TDE:=fun δ R=>t δ (wd fun _ δ1=>R (.d (.bl true)) δ1)
theorem kP (rc:RcK X.K xR R NR) (gR:XG X.K R) (kR:PySem.W.kitOne X.K (.ref R) (.type "ValueError")=some true) (hg:Gl X "isinstance") (hm:X.mg "isinstance"=none) (hgR:Gl X xR) (hmR:X.mg xR=some (.ref R)) (hgT:Gl X "ValueError") (hmT:X.mg "ValueError"=none) (ha:DE X a ta)
  (hdb:(xR == ("__debug__":Str))=false:=by decide) (he0:starEach [a] X.env=(false,eval a X.env) :: starEach [] X.env:=by rfl) (hpl0:(backTo cpos (starEach [] X.env)).any (·.1)=false:=by rfl)
  (he:starEach [.Call (.Name xR p3) [a] [] cpos,.Name "ValueError" p2] X.env=(false,eval (.Call (.Name xR p3) [a] [] cpos) X.env) :: starEach [.Name "ValueError" p2] X.env:=by rfl) (he2:starEach [.Name "ValueError" p2] X.env=(false,eval (.Name "ValueError" p2) X.env) :: starEach [] X.env:=by rfl)
  (hpl:(backTo pos (starEach [.Name "ValueError" p2] X.env)).any (·.1)=false:=by rfl) :
  DE X (.Call (.Name "isinstance" p) [.Call (.Name xR p3) [a] [] cpos,.Name "ValueError" p2] [] pos) (dRaw ta):=by
 have cr:bm X (.builtin "isinstance") (fun vs H Q=>∃ e,vs=[.ref e,.ty "ValueError"]∧H e=some (XRaw e R)∧Q (.bl true) H):=by
  intro pins s σ H xs us Q I r h
  obtain ⟨e,rfl,hX,q⟩:=h
  obtain ⟨u,w',rfl,ru,rw'⟩:=gD r
  cases rw'
  cases ru
  obtain ⟨a',he'⟩:=dq I hX
  exact PySem.W.kia_one (cn gR) I.kIn ⟨_,none,⟨he',rfl,rfl,True.intro⟩⟩ kR (fun z=>nomatch z) fun tk=>⟨.bl _,H,I.tok _,rfl,q⟩
 exact PE.imp (bu cr hg hm aS (ao (lv rc hgR hmR (ao ha a8 he0) hdb he0 hpl0) (ao (fF (v:=.ty "ValueError") hgT hmT bC rfl) a8 he2) he) (by decide) (by decide) he hpl) fun σ H Q ⟨G,δ,P,R',s,h,k,_⟩=>up.mk s h fun d δ1 h1 v H1 s1=>by
  refine⟨v,rfl,fun e hn=>⟨e,rfl,af,?_⟩⟩
  obtain ⟨A,x⟩:=s1
  have x2:=x.same (ak hn (XRaw e R))
  exact k _ δ1 h1 _ _ (S.sc (S.sub ⟨A,x2⟩ (P':=P) fun p hp=>mo _ hp) rfl)
end
end DL
namespace DL
open PySem PySem.Spec PyProof.Rows L2
structure Er (P:Program) (w:World) (K:PySem.W.Frag) (mg:Str→Option Value) (base:Heap) (R NR:Addr):Prop where
 rc:RcK K "RowError" R NR
 mR:mg "RowError"=some (.ref R)
 gR:XG K R
 kR:PySem.W.kitOne K (.ref R) (.type "ValueError")=some true
 tab:excB K=true
 un:dj K R aP
 q:Exc P w K mg base 1 "NoQuotient" "top" false
 n:Exc P w K mg base 1 "NoName" "name" true
 t:Exc P w K mg base 1 "TooMany" "saying" false
 aq:∃ C,XAd K mg "NoQuotient" C
 an:∃ C,XAd K mg "NoName" C
 a_t:∃ C,XAd K mg "TooMany" C
abbrev eu (P:Program) (w:World) (K:PySem.W.Frag) (mg:Str→Option Value) (base:Heap) (q p f:Str) (b:Bool) (st:Stmt):Prop :=
 ∀ (R C fI:Addr) (fd:FuncData),Fun K "__init__" q st fI fd→EK K C R f→RK K R→mg "RowError"=some (.ref R)→FnOk P w K mg base CX0 1 fI fd ["self",p] (spI C f b)
abbrev IniB (q p:Str) (st:Stmt):Prop:=∀ (kV doc pm:Value) (an:Option Addr) (cdv ct:Value) (us:List Value),us.length=2→bindArgs (PySem.W.fnOf "__init__" q (aD st) (au st) (ae st) .none kV doc pm an cdv ct) ⟨us,[]⟩=pure ((["self",p]:List Str).zip us)
theorem j9:typeLookup (.type "ValueError") "top"=pure none:=by rw [typeLookup_type,builtinLookup_eq_fast];kernel_rfl
theorem iw:typeLookup (.type "ValueError") "name"=pure none:=by rw [typeLookup_type,builtinLookup_eq_fast];kernel_rfl
theorem gl:typeLookup (.type "ValueError") "saying"=pure none:=by rw [typeLookup_type,builtinLookup_eq_fast];kernel_rfl
theorem XcK.ad {K:PySem.W.Frag} {x f q:Str} {R NR:Addr} {st:Stmt} {h:Heap} {mg:Str→Option Value} (e:XcK K x f R NR q st) (X:K.In h) (G:h.Ns mainGlobals mg) (hx:x∈aP):∃ C,XAd K mg x C:=by
 obtain ⟨C,N,fI,h1,_⟩:=e.ex
 exact⟨C,PySem.W.mg_of X G h1,h1,hx⟩
theorem ErF.er {P:Program} {w:World} {K:PySem.W.Frag} {mg:Str→Option Value} {base h:Heap} {s1 s2 s3:Stmt} (e:ErF K s1 s2 s3) (X:K.In h) (G:h.Ns mainGlobals mg)
  (i1:eu P w K mg base "NoQuotient.__init__" "top" "top" false s1) (b1:IniB "NoQuotient.__init__" "top" s1) (i2:eu P w K mg base "NoName.__init__" "name" "name" true s2) (b2:IniB "NoName.__init__" "name" s2)
  (i3:eu P w K mg base "TooMany.__init__" "saying" "saying" false s3) (b3:IniB "TooMany.__init__" "saying" s3):∃ R NR,Er P w K mg base R NR:=by
 obtain ⟨R,NR,rc,gR,kR,tab,x1,x2,x3⟩:=e.ex
 refine⟨R,NR,rc,PySem.W.mg_of X G rc.at_,xgB.xg gR,kR,tab,(x1.under rc).app ((x2.under rc).app (x3.under rc)),x1.exc rc X G j9 (i1 R) b1,x2.exc rc X G iw (i2 R) b2,x3.exc rc X G gl (i3 R) b3,x1.ad X G ?_,x2.ad X G ?_,x3.ad X G ?_⟩<;>decide
theorem c7 {C:Addr} {f p:Str} {b:Bool}:∀ vs H Q E,spI C f b vs H Q E→vs.length=(["self",p]:List Str).length:=fun vs H Q E ⟨e,y,h,_⟩=>by rw [h];rfl
theorem fw {C:Addr} {f p:Str} {b:Bool} {x:V} {vs:List V} {H:Hp} {Q:VK} {E:XK} (h:spI C f b vs H Q E) :
  tSeq (jw (jD C (fP (tVar 0) (fP (tC x) tNil)))) (jp C f (tVar 0) (tVar 1)) { nx:=fun _ H'=>Q .non H',rt:=Q } (start ["self",p] vs) H:=by
 obtain ⟨e,y,rfl,_,hX,h⟩:=h
 exact⟨.ref e,rfl,e,x,rfl,hX,y,rfl,.ref e,rfl,e,rfl,hX,h⟩
theorem gx {C:Addr} {f p:Str} {vs:List V} {H:Hp} {Q:VK} {E:XK} (h:spI C f true vs H Q E) :
  tSeq (jw (jD C (fP (tVar 0) (fP (tFs (tVar 1)) tNil)))) (jp C f (tVar 0) (tVar 1)) { nx:=fun _ H'=>Q .non H',rt:=Q } (start ["self",p] vs) H:=by
 obtain ⟨e,y,rfl,⟨t,rfl,ht⟩,hX,h⟩:=h
 exact⟨.ref e,rfl,.str t,rfl,t,rfl,ht,fun z=>⟨e,.str z,rfl,hX,.str t,rfl,.ref e,rfl,e,rfl,hX,h⟩⟩
theorem CalE.pure {P:Program} {w:World} {K:PySem.W.Frag} {mg:Str→Option Value} {base:Heap} {k:Nat} {x:Str} {ps:List Str} {f:FE} (C:CalE P w K mg base k x ps f):Cal P w K mg base k x ps (spD K fun ds R=>f ds R fun _ _ _=>False):=by
 obtain ⟨a,fd,F,b,kp,m⟩:=C.ex
 refine⟨a,fd,⟨fun vs H Q E h=>?_,fun A outer s H args us vs Q E hr he hb hv h=>?_⟩,b,kp,m⟩
 ·obtain ⟨M,ds,R,m,rs,h,k⟩:=h
  exact F.len vs H Q (fun _ _ _=>False) ⟨M,ds,R,fun _ _ _=>False,m,rs,h,k,fun _ _ _ z=>z.elim⟩
 ·obtain ⟨M,ds,R,m,rs,h,k⟩:=h
  refine codeAny_mono (F.run A outer s H args us vs Q (fun _ _ _=>False) hr he hb hv ⟨M,ds,R,fun _ _ _=>False,m,rs,h,k,fun _ _ _ z=>z.elim⟩) fun r s' q=>?_
  cases r with
  | error e =>
   obtain ⟨_,_,_,_,_,_,_,_,_,_,_,_,_,_,_,z⟩:=q
   exact z.elim
  | ok fl=>cases fl<;>exact q
end DL
namespace DL
open PySem PySem.Spec PyProof.Rows L2
section
variable {K:PySem.W.Frag} {G:Gf} {A:Addr→Prop} {δ:En} {P:List (D×V)} {σ:L2.St} {H H2:Hp}
end
section
variable {X:Cx} {i j:Nat}
end
end DL
namespace Lw
open PySem L2 DL
variable {P:Program} {w:World} {K:PySem.W.Frag} {mg:Str→Option Value} {base:Heap}
open Mf
theorem sq_t {xs:List D}:sq true xs=.lst xs:=rfl
theorem sq_f {xs:List D}:sq false xs=.tup xs:=rfl
theorem ifn {c A B:Prop} [Decidable c] (hc:¬ c) (h:B):if c then A else B:=by rw [if_neg hc];exact h
theorem ifp {c A B:Prop} [Decidable c] (hc:c) (h:A):if c then A else B:=by rw [if_pos hc];exact h
theorem at0 {α:Type} {x:α} {xs:List α}:atI (x :: xs) 0=some x:=by
 unfold atI ixN
 simp only [mB]
 rw [if_pos (by omega),if_pos (by omega)]
 rfl
theorem at1 {α:Type} {x y:α} {xs:List α}:atI (x :: y :: xs) 1=some y:=by
 unfold atI ixN
 simp only [mB]
 rw [if_pos (by omega),if_pos (by omega)]
 rfl
theorem at2 {α:Type} {x y z:α} {xs:List α}:atI (x :: y :: z :: xs) 2=some z:=by
 unfold atI ixN
 simp only [mB]
 rw [if_pos (by omega),if_pos (by omega)]
 rfl
theorem atm1 {α:Type} {x:α} {xs:List α}:atI (xs++[x]) (-1)=some x:=gT xs x
theorem fQ {i j:Int} {R:D→Prop}:fN [.int i,.int j] R↔R (.int (i + j)):=Iff.rfl
theorem fO {xs ys:List D} {R:D→Prop}:fN [.lst xs,.lst ys] R↔xs.length + ys.length≤9000∧R (.lst (xs++ys)):=Iff.rfl
theorem gO {xs:List D} {R:D→Prop}:fLen [.lst xs] R↔R (.int xs.length):=Iff.rfl
theorem jF {xs:List D} {R:D→Prop}:fLen [.fz xs] R↔R (.int xs.length):=Iff.rfl
theorem gy {xs:List D} {R:D→Prop}:fLen [.tup xs] R↔R (.int xs.length):=Iff.rfl
theorem gP {i:Int} {R:D→Prop}:fInt [.int i] R↔R (.int i):=Iff.rfl
theorem iu {b:Bool} {R:D→Prop}:fInt [.bl b] R↔R (.int (if b then 1 else 0)):=Iff.rfl
theorem il {xs:List D} {i:Int} {R:D→Prop}:fIx [.tup xs,.int i] R↔∃ v,atI xs i=some v∧R v:=Iff.rfl
theorem ix {xs:List D} {i:Int} {R:D→Prop}:fIx [.lst xs,.int i] R↔∃ v,atI xs i=some v∧R v:=Iff.rfl
theorem k7 {xs:List D} {i:Int} {R:D→Prop}:fIx [.fz xs,.int i] R↔∃ v,atI xs i=some v∧R v:=Iff.rfl
theorem jn {z:Str} {i:Int} {R:D→Prop}:fIx [.str z,.int i] R↔z.length≤9000∧∃ c,atI z.cps.toList i=some c∧R (.str ⟨#[c]⟩):=Iff.rfl
theorem jM {xs:List D} {l u:Option Int} {R:D→Prop}:fSl (.lst xs) l u R↔R (.lst (cut xs l u)):=Iff.rfl
theorem lu {xs:List D} {l u:Option Int} {R:D→Prop}:fSl (.fz xs) l u R↔R (.lst (cut xs l u)):=Iff.rfl
theorem Nat.cast_ofNat_Int {n:Nat}:((OfNat.ofNat n:Nat):Int)=OfNat.ofNat n:=rfl
theorem eJ:isT "int" (tyN .non)=false:=rfl
theorem fG {b:Bool}:isT "int" (tyN (.bl b))=true:=rfl
theorem et {i:Int}:isT "int" (tyN (.int i))=true:=rfl
theorem eQ {x:Str}:isT "int" (tyN (.str x))=false:=rfl
theorem eO {xs:List D}:isT "int" (tyN (.tup xs))=false:=rfl
theorem ez {xs:List D}:isT "int" (tyN (.lst xs))=false:=rfl
theorem fT {xs:List D}:isT "int" (tyN (.fz xs))=false:=rfl
theorem eG {ks:List Str} {vs:List D}:isT "int" (tyN (.dct ks vs))=false:=rfl
theorem di:isT "bool" (tyN .non)=false:=rfl
theorem eK {b:Bool}:isT "bool" (tyN (.bl b))=true:=rfl
theorem dJ {i:Int}:isT "bool" (tyN (.int i))=false:=rfl
theorem c8 {x:Str}:isT "bool" (tyN (.str x))=false:=rfl
theorem dk {xs:List D}:isT "bool" (tyN (.tup xs))=false:=rfl
theorem dm {xs:List D}:isT "bool" (tyN (.lst xs))=false:=rfl
theorem eX {xs:List D}:isT "bool" (tyN (.fz xs))=false:=rfl
theorem de {ks:List Str} {vs:List D}:isT "bool" (tyN (.dct ks vs))=false:=rfl
theorem cG:isT "tuple" (tyN .non)=false:=rfl
theorem dG {b:Bool}:isT "tuple" (tyN (.bl b))=false:=rfl
theorem cS {i:Int}:isT "tuple" (tyN (.int i))=false:=rfl
theorem cB {x:Str}:isT "tuple" (tyN (.str x))=false:=rfl
theorem cE {xs:List D}:isT "tuple" (tyN (.tup xs))=true:=rfl
theorem cT {xs:List D}:isT "tuple" (tyN (.lst xs))=false:=rfl
theorem dh {xs:List D}:isT "tuple" (tyN (.fz xs))=false:=rfl
theorem cA {ks:List Str} {vs:List D}:isT "tuple" (tyN (.dct ks vs))=false:=rfl
theorem cY:isT "list" (tyN .non)=false:=rfl
theorem eD {b:Bool}:isT "list" (tyN (.bl b))=false:=rfl
theorem c3 {i:Int}:isT "list" (tyN (.int i))=false:=rfl
theorem c4 {x:Str}:isT "list" (tyN (.str x))=false:=rfl
theorem dg {xs:List D}:isT "list" (tyN (.tup xs))=false:=rfl
theorem dr {xs:List D}:isT "list" (tyN (.lst xs))=true:=rfl
theorem eH {xs:List D}:isT "list" (tyN (.fz xs))=true:=rfl
theorem db {ks:List Str} {vs:List D}:isT "list" (tyN (.dct ks vs))=false:=rfl
theorem eR:isT "str" (tyN .non)=false:=rfl
theorem fY {b:Bool}:isT "str" (tyN (.bl b))=false:=rfl
theorem eF {i:Int}:isT "str" (tyN (.int i))=false:=rfl
theorem eo {x:Str}:isT "str" (tyN (.str x))=true:=rfl
theorem el {xs:List D}:isT "str" (tyN (.tup xs))=false:=rfl
theorem ej {xs:List D}:isT "str" (tyN (.lst xs))=false:=rfl
theorem fH {xs:List D}:isT "str" (tyN (.fz xs))=false:=rfl
theorem eP {ks:List Str} {vs:List D}:isT "str" (tyN (.dct ks vs))=false:=rfl
theorem c5:isT "dict" (tyN .non)=false:=rfl
theorem eB {b:Bool}:isT "dict" (tyN (.bl b))=false:=rfl
theorem dD {i:Int}:isT "dict" (tyN (.int i))=false:=rfl
theorem da {x:Str}:isT "dict" (tyN (.str x))=false:=rfl
theorem df {xs:List D}:isT "dict" (tyN (.tup xs))=false:=rfl
theorem dE {xs:List D}:isT "dict" (tyN (.lst xs))=false:=rfl
theorem eW {xs:List D}:isT "dict" (tyN (.fz xs))=false:=rfl
theorem dw {ks:List Str} {vs:List D}:isT "dict" (tyN (.dct ks vs))=true:=rfl
theorem f9 {xs ys:List D} {R:D→Prop}:fN [.tup xs,.tup ys] R↔xs≠[]∧ys≠[]∧xs.length + ys.length≤9000∧R (.tup (xs++ys)):=Iff.rfl
theorem iq {xs:List D} {l u:Option Int} {R:D→Prop}:fSl (.tup xs) l u R↔¬ (HT.sIx xs.length 0 l=0∧HT.sIx xs.length xs.length u=xs.length)∧R (.tup (cut xs l u)):=Iff.rfl
theorem iB {R:D→Prop}:fIs [.non,.non] R↔R (.bl true):=Iff.rfl
theorem iS {c f:Str} {d:D} {R:D→Prop}:fIs [.exn c f d,.non] R↔R (.bl false):=Iff.rfl
theorem jl {xs:List D} {R:D→Prop}:fIs [.tup xs,.non] R↔R (.bl false):=Iff.rfl
theorem fv {ks:List Str} {vs:List D}:isT "int" (tyN (.fd ks vs))=false:=rfl
theorem eT {ks:List Str} {vs:List D}:isT "bool" (tyN (.fd ks vs))=false:=rfl
theorem du {ks:List Str} {vs:List D}:isT "tuple" (tyN (.fd ks vs))=false:=rfl
theorem eL {ks:List Str} {vs:List D}:isT "list" (tyN (.fd ks vs))=false:=rfl
theorem eZ {ks:List Str} {vs:List D}:isT "str" (tyN (.fd ks vs))=false:=rfl
theorem eA {ks:List Str} {vs:List D}:isT "dict" (tyN (.fd ks vs))=true:=rfl
local macro_rules | `(tactic| walk_at "rd") => `(tactic| try simp only [dTry, dIsx, dXm, fC, dXf, dRaw, lz, ic, pdB, D.exn.injEq, gK, f9, iq, iB, jl, iS, fv, eT, du, eL, eZ, eA, ne_eq, List.cons_ne_nil, sq_t, sq_f, Sl.own.injEq, exists_const, exists_eq, D.lst.injEq, D.dct.injEq, D.str.injEq, dSeq, dIf, dRet, dSet, dV, dC, dOp, dUn, wd, dTst, dAnd, dOr, dNot, kj, g7, lC, fi, dTup, dLst, dPar, lA, g8, dSl, fJ, kM, kd, lK, lW, iZ, iG, lg, jg, gU, kC, fQ, fO, gO, jF, gy, gP, iu, il, ix, k7, jn, jM, lu, gu, iE, gX, gZ, gw, bh, eJ, fG, et, eQ, eO, ez, fT, eG, di, eK, dJ, c8, dk, dm, eX, de, cG, dG, cS, cB, cE, cT, dh, cA, cY, eD, c3, c4, dg, dr, eH, db, eR, fY, eF, eo, el, ej, fH, eP, c5, eB, dD, da, df, dE, eW, dw, List.map_cons, List.map_nil, mB, List.length_nil, List.replicate, List.cons_append, List.nil_append, List.append_nil, List.getElem?_cons_zero, List.getElem?_cons_succ, List.set_cons_zero, List.set_cons_succ, Option.some.injEq, Sl.dat.injEq, D.int.injEq, D.bl.injEq, D.tup.injEq, List.cons.injEq, and_assoc, and_true, true_and, exists_eq_left', exists_eq_left, exists_eq_right', exists_and_left, Nat.zero_add, Nat.reduceAdd, Nat.reduceSub, Nat.add_zero, Nat.reduceLeDiff, Nat.sub_self, at0, at1, at2, atm1, if_true, if_false, ite_true, ite_false, Int.reduceEq, Int.reduceLT, Nat.cast_ofNat_Int, not_true_eq_false, not_false_eq_true, Bool.false_eq_true, reduceCtorEq, Bool.not_false, Bool.not_true, List.forall_mem_cons, mv, List.not_mem_nil, forall_const, false_implies, implies_true, Nat.reduceLT, if_pos, List.filterMap_cons, List.filterMap_nil, decide_eq_true_eq, Bool.not_eq_true', decide_eq_false_iff_not])
inductive ax (ds:List D) (R:D→Prop):Prop
 | mk (a b:_) (hh:ds=[.int a,.int b]∧R (.int (gc a b)))
theorem aH:∀ ds R,ax ds R→ds.length=2:=fun _ _ ⟨_,_,e,_⟩=>by rw [e];rfl
theorem av:aw ["one","other","rest"] ["one","other"] (ae s_common_divisor):=⟨rfl,rfl,rfl,by decide +kernel,rfl,by decide +kernel,by decide +kernel⟩
theorem bt (F:Fd K mg "common_divisor" s_common_divisor ["one","other"]) (cy:mg "abs"=none):Cal P w K mg base 1 "common_divisor" ["one","other"] (spD K ax):=by
 refine fn_D F av aH fun fa cdv A outer s H E ds R hr h=>?_
 have hU:=hr.units
 refine⟨_,(ah (d7 PassesOwn.never (aX (dM hU) (de_v 1) ag (aQ _)) (ah (aY 2 av.nd (aG fD (de_v 0) (de_v 1))) (ah (aY 0 av.nd (de_v 1)) (aj (aY 1 av.nd (de_v 2)))))) (aj (aN (bK i9 rfl cy iv (ac (de_v 0) al))))),?_⟩
 obtain ⟨x,y,rfl,q⟩:=h
 refine⟨fun δ=>∃ a b t,δ=[.dat (.int a),.dat (.int b),t]∧gc a b=gc x y,fun δ=>match δ with | [_,.dat (.int b),_]=>b.natAbs | _=>0,⟨x,y,.no,rfl,rfl⟩,?_⟩
 rintro δ ⟨a,b,t,rfl,e⟩
 walk_at "rd"
 refine ite2 (fun c=>⟨c,(ff a b).trans e,bf a b c⟩) (fun c=>?_)
 have c:=Decidable.not_not.mp c
 subst c
 rw [← fZ,e]
 exact q
theorem kH {b:Int} {n:Nat} (h:Builtin.Int.intBits b≤n) (hn:n≤8000):b.natAbs.log2 < 9000:=by
 have h1:=intBits_le_iff.mp h
 rcases Nat.eq_zero_or_pos b.natAbs with h0 | hp
 ·rw [h0];decide
 ·have h2:b.natAbs.log2 < n:=(Nat.log2_lt (Nat.ne_of_gt hp)).mpr h1
  omega
theorem jC {t b:Int} {n:Nat} (hb:b≠0) (h:Builtin.Int.intBits b≤n):Builtin.Int.intBits (dv t b)≤n:=by
 refine intBits_le_of_natAbs ?_ h
 rw [cJ]
 exact Int.gcd_le_natAbs_right t hb
def dW:FE:=fun ds R RE=>∃ t b,ds=[.int t,.int b]∧Builtin.Int.intBits b≤8000∧(b=0→RE "NoQuotient" "top" (.int t))∧(b≠0→R (.tup [.int (mkT t b),.int (mkB t b)]))
theorem eC:∀ ds R RE,dW ds R RE→ds.length=2:=fun _ _ _ ⟨_,_,e,_⟩=>by rw [e];rfl
theorem dl:aw ["top","bottom","divisor"] ["top","bottom"] (ae s_made):=⟨rfl,rfl,rfl,by decide +kernel,rfl,by decide +kernel,by decide +kernel⟩
theorem gG (F:Fd K mg "made" s_made ["top","bottom"]) {R NR:Addr} (er:Er P w K mg base R NR) (aF:Cal P w K mg base 1 "common_divisor" ["one","other"] (spD K (ax))):CalE P w K mg base 3 "made" ["top","bottom"] dW:=by
 refine fn_E F dl eC fun fa cdv A outer s H E ds R RE hr h=>?_
 have hU:=hr.units
 refine⟨_,(ah (bL (aX (o_eq hU) (de_v 1) ag (aQ _)) (aj (ds_x er.q (rm hr) rfl (de_v 0))) aR) (ah (aY 2 dl.nd (ba aF (rm hr) rfl (ac (de_v 0) (ac (de_v 1) al)))) (ah (bL (aX o_lt (de_v 1) ag (aQ _)) (aj (aY 2 dl.nd (ml lF (de_v 2)))) aR) (aj (aN (bE (ac (aG cb (de_v 0) (de_v 2)) (ac (aG cb (de_v 1) (de_v 2)) al)))))))),?_⟩
 obtain ⟨x,y,rfl,hb,q0,q⟩:=h
 walk_at "rd"
 refine ite2 (fun z=>q0 z) fun hy=>?_
 have q:=q hy
 refine⟨x,y,rfl,?_⟩
 walk_at "rd"
 have hd:=j4 x hy
 have hl:=kH (jC (t:=x) hy hb) (Nat.le_refl _)
 unfold mkT mkB at q
 unfold dv at hd hl q
 refine ite2 (fun c=>?_) (fun c=>?_)
 ·simp only [if_pos c] at hd hl q
  exact⟨⟨hd,hl⟩,⟨hd,hl⟩,q⟩
 ·simp only [if_neg c] at hd hl q
  exact⟨⟨hd,hl⟩,⟨hd,hl⟩,q⟩
theorem k6 {α:Type} {xs:List α} {k:Int} (h0:0≤k) (h:k < xs.length):atI xs k=xs[k.toNat]?:=by
 unfold atI ixN
 rw [if_pos h0,if_pos h]
 rfl
abbrev a6:=ax
theorem bx:∀ ds R,a6 ds R→ds.length=2:=aH
theorem bg:aw ["_law_one","_law_other"] ["_law_one","_law_other"] (ae s__law_common):=⟨rfl,rfl,rfl,by decide +kernel,rfl,by decide +kernel,by decide +kernel⟩
theorem b5 (F:Fd K mg "_law_common" s__law_common ["_law_one","_law_other"]) (cy:mg "abs"=none):Cal P w K mg base 1 "_law_common" ["_law_one","_law_other"] (spD K a6):=by
 refine fn_D F bg bx fun fa cdv A outer s H E ds R hr h=>?_
 have hU:=hr.units
 refine⟨_,(ah (d7 PassesOwn.never (aX (dM hU) (de_v 1) ag (aQ _)) (aj (kU 0 1 rfl bg.nd (by decide) (ac (de_v 1) (ac (aG fD (de_v 0) (de_v 1)) al))))) (aj (aN (bK i9 rfl cy iv (ac (de_v 0) al))))),?_⟩
 obtain ⟨x,y,rfl,q⟩:=h
 refine⟨fun δ=>∃ a b,δ=[.dat (.int a),.dat (.int b)]∧gc a b=gc x y,fun δ=>match δ with | [_,.dat (.int b)]=>b.natAbs | _=>0,⟨x,y,rfl,rfl⟩,?_⟩
 rintro δ ⟨a,b,rfl,e⟩
 walk_at "rd"
 refine ite2 (fun c=>?_) (fun c=>?_)
 ·exact⟨c,(ff a b).trans e,bf a b c⟩
 ·have c:=Decidable.not_not.mp c
  subst c
  rw [← fZ,e]
  exact q
def num (c:Int):Int:=if c.fmod 3=0 then (c.fdiv 3).fmod 25 - 12 else (c.fdiv 3 * 27182818284590452353602874713526624977572470936999595749669).fmod (2 * 10 ^ 59 + 1) - 10 ^ 59
inductive a4 (ds:List D) (R:D→Prop):Prop
 | mk (c:_) (hh:ds=[.int c]∧Builtin.Int.intBits c≤1048576∧R (.int (num c)))
theorem bA:∀ ds R,a4 ds R→ds.length=1:=fun _ _ ⟨_,e,_⟩=>by rw [e];rfl
theorem cnz {i j:Int} (h:j≠0):CNz i j:=h
theorem kz:CPow 10 59:=⟨by decide,by decide,by decide⟩
theorem jV (c:Int) (hc:Builtin.Int.intBits c≤1048576):IntMulOk (c.fdiv 3) 27182818284590452353602874713526624977572470936999595749669 :=
 IntMulOk.of_le (n:=200) (intBits_fdiv_le hc) (intBits_le_iff.mpr (by decide +kernel)) (by decide)
theorem ed (c:Int):Builtin.Int.intBits (num c)≤196:=by
 refine intBits_le_iff.mpr ?_
 have h2:(2:Nat) ^ 196=100433627766186892221372630771322662657637687111424552206336:=by decide +kernel
 rw [h2]
 unfold num
 split
 ·have h1:=Int.fmod_nonneg_of_pos (c.fdiv 3) (b:=25) (by decide)
  have h3:=Int.fmod_lt_of_pos (c.fdiv 3) (b:=25) (by decide)
  omega
 ·generalize c.fdiv 3 * 27182818284590452353602874713526624977572470936999595749669=z
  have h1:=Int.fmod_nonneg_of_pos z (b:=2 * 10 ^ 59 + 1) (by decide)
  have h3:=Int.fmod_lt_of_pos z (b:=2 * 10 ^ 59 + 1) (by decide)
  have h4:(10:Int) ^ 59=100000000000000000000000000000000000000000000000000000000000:=by decide +kernel
  rw [h4] at h1 h3 ⊢
  omega
theorem bd:aw ["_law_cell","_law_far"] ["_law_cell"] (ae s__law_number):=⟨rfl,rfl,rfl,by decide +kernel,rfl,by decide +kernel,by decide +kernel⟩
theorem bQ (F:Fd K mg "_law_number" s__law_number ["_law_cell"]):Cal P w K mg base 1 "_law_number" ["_law_cell"] (spD K a4):=by
 refine fn_D F bd bA fun fa cdv A outer s H E ds R hr h=>?_
 have hU:=hr.units
 refine⟨_,(ah (bL (aX (o_eq hU) (aG fD (de_v 0) ag) ag (aQ _)) (aj (aN (aG iK (aG fD (aG cb (de_v 0) ag) ag) ag))) aR) (ah (aY 1 bd.nd (aG cN (aG gJ ag (aG ke ag ag)) ag)) (aj (aN (aG iK (aG fD (aG gJ (aG cb (de_v 0) ag) ag) (de_v 1)) (aG ke ag ag)))))),?_⟩
 obtain ⟨c,rfl,hc,q⟩:=h
 walk_at "rd"
 have h3:(3:Int)≠0∧(3:Int).natAbs.log2 < 9000:=⟨by decide,by decide +kernel⟩
 refine⟨cnz (by decide),?_⟩
 unfold num at q
 refine ite2 (fun c0=>?_) (fun c0=>?_)
 ·rw [if_pos c0] at q
  exact⟨h3,cnz (by decide),q⟩
 ·rw [if_neg c0] at q
  exact⟨kz,IntMulOk.of_left (by decide),h3,jV c hc,cnz (by decide +kernel),kz,q⟩
theorem gM {t b:Int} {n:Nat} (h:Builtin.Int.intBits t≤n):Builtin.Int.intBits (mkT t b)≤n:=intBits_fdiv_le h
theorem gt {t b:Int} {n:Nat} (h:Builtin.Int.intBits b≤n):Builtin.Int.intBits (mkB t b)≤n:=intBits_fdiv_le h
theorem e9 {t b:Int} (hb:0 < b):t.fdiv (gc t b)=mkT t b∧b.fdiv (gc t b)=mkB t b:=by
 unfold mkT mkB dv
 rw [if_neg (by omega)]
 exact⟨rfl,rfl⟩
theorem jv {t b:Int} {n:Nat} (hb:b≠0) (h:Builtin.Int.intBits b≤n):Builtin.Int.intBits (gc t b)≤n:=intBits_le_of_natAbs (dH t hb) h
inductive aO (ds:List D) (R:D→Prop):Prop
 | mk (a b:_) (hh:ds=[.int a,.int b]∧Builtin.Int.intBits a≤1048576∧Builtin.Int.intBits b≤1048576∧∀ p r,Low p r→Builtin.Int.intBits p≤200→Builtin.Int.intBits r≤200→R (.tup [.int p,.int r]))
theorem bj:∀ ds R,aO ds R→ds.length=2:=fun _ _ ⟨_,_,e,_⟩=>by rw [e];rfl
theorem ay:aw ["_law_one","_law_other","_law_top","_law_bottom","_law_share"] ["_law_one","_law_other"] (ae s__law_fraction):=⟨rfl,rfl,rfl,by decide +kernel,rfl,by decide +kernel,by decide +kernel⟩
theorem bw (F:Fd K mg "_law_fraction" s__law_fraction ["_law_one","_law_other"]) (aI:Cal P w K mg base 1 "_law_number" ["_law_cell"] (spD K (a4))) (a5:Cal P w K mg base 1 "_law_common" ["_law_one","_law_other"] (spD K (a6))) (cy:mg "abs"=none):Cal P w K mg base 2 "_law_fraction" ["_law_one","_law_other"] (spD K aO):=by
 refine fn_D F ay bj fun fa cdv A outer s H E ds R hr h=>?_
 have hU:=hr.units
 refine⟨_,(ah (aY 2 ay.nd (ba aI (rm hr) rfl (ac (de_v 0) al))) (ah (aY 3 ay.nd (aG cN ag (bK i9 rfl cy iv (ac (ba aI (rm hr) rfl (ac (de_v 1) al)) al)))) (ah (aY 4 ay.nd (ba a5 (rm hr) rfl (ac (de_v 2) (ac (de_v 3) al)))) (aj (aN (bE (ac (aG cb (de_v 2) (de_v 4)) (ac (aG cb (de_v 3) (de_v 4)) al)))))))),?_⟩
 obtain ⟨x,y,rfl,hx,hy,q⟩:=h
 walk_at "rd"
 refine⟨_,rfl,hx,?_⟩
 have n1:=ed x
 have n2:=ed y
 generalize num x=t at n1 ⊢
 walk_at "rd"
 refine⟨_,rfl,hy,?_⟩
 generalize num y=u at n2 ⊢
 walk_at "rd"
 have hu:0 < 1 + (if u < 0 then -u else u):=by split<;>omega
 have hb:Builtin.Int.intBits (1 + (if u < 0 then -u else u))≤200:=by
  refine mq (intBits_add_le (m:=1) (n:=196) (by decide) ?_) (by decide)
  split
  ·exact intBits_neg_le n2
  ·exact n2
 generalize 1 + (if u < 0 then -u else u)=b at hu hb ⊢
 have hb0:b≠0:=by omega
 refine⟨_,_,rfl,?_⟩
 walk_at "rd"
 obtain ⟨e1,e2⟩:=e9 (t:=t) hu
 have cf:gc t b≠0∧(gc t b).natAbs.log2 < 9000:=⟨by have:=ge t hb0;omega,kH (jv hb0 hb) (by decide)⟩
 refine⟨cf,cf,?_⟩
 rw [e1,e2]
 exact q _ _ (hV t hb0) (gM (by omega)) (gt hb)
theorem mo2 {x y:Int} {m n:Nat} (h1:Builtin.Int.intBits x≤m) (h2:Builtin.Int.intBits y≤n) (h:m + n≤134217728:=by decide):IntMulOk x y:=IntMulOk.of_le h1 h2 h
theorem j8 {α:Type} {xs:List α} {k:Nat}:cut xs none (some (k:Int))=xs.take k:=by
 unfold cut
 rw [HT.sIx_none,HT.sIx_nat,List.drop_zero,Nat.sub_zero]
 by_cases h:k≤xs.length
 ·rw [Nat.min_eq_left h]
 ·rw [Nat.min_eq_right (by omega),List.take_length,List.take_of_length_le (by omega)]
theorem fV {α β:Type} {f:α→β} {xs:List α} {k:Nat} (h:k < xs.length):atI (xs.map f) (k:Int)=some (f xs[k]):=by
 rw [k6 (by omega) (by rw [mn];omega),mC,Int.toNat_natCast,List.getElem?_eq_getElem h]
 rfl
def d6:FE:=fun ds R RE=>∃ a b c d,ds=[.tup [.int a,.int b],.tup [.int c,.int d]]∧b≠0∧Builtin.Int.intBits a≤1000∧Builtin.Int.intBits b≤1000∧Builtin.Int.intBits c≤1000∧Builtin.Int.intBits d≤1000∧(c=0→RE "NoQuotient" "top" (.tup [.int a,.int b]))∧(c≠0→R (.tup [.int (mkT (a * d) (b * c)),.int (mkB (a * d) (b * c))]))
theorem eI:∀ ds R RE,d6 ds R RE→ds.length=2:=fun _ _ _ ⟨_,_,_,_,e,_⟩=>by rw [e];rfl
theorem jr:aw ["one","other"] ["one","other"] (ae s_over):=⟨rfl,rfl,rfl,by decide +kernel,rfl,by decide +kernel,by decide +kernel⟩
theorem gF (F:Fd K mg "over" s_over ["one","other"]) {R NR:Addr} (er:Er P w K mg base R NR) (ck:CalE P w K mg base 3 "made" ["top","bottom"] (dW)):CalE P w K mg base 4 "over" ["one","other"] d6:=by
 refine fn_E F jr eI fun fa cdv A outer s H E ds R RE hr h=>?_
 have hU:=hr.units
 refine⟨_,(ah (bL (aX (o_eq hU) (bR bS (de_v 1) ag (fun _ _=>rfl)) ag (aQ _)) (aj (ds_x er.q (rm hr) rfl (de_v 0))) aR) (aj (jA ck (rm hr) rfl (ac (aG gJ (bR bS (de_v 0) ag (fun _ _=>rfl)) (bR bS (de_v 1) ag (fun _ _=>rfl))) (ac (aG gJ (bR bS (de_v 0) ag (fun _ _=>rfl)) (bR bS (de_v 1) ag (fun _ _=>rfl))) al))))),?_⟩
 obtain ⟨a,b,c,d,rfl,b0,ha,hb,hc,hd,q0,q⟩:=h
 walk_at "rd"
 refine ite2 (fun z=>q0 z) fun c0=>⟨mo2 ha hd,mo2 hb hc,_,_,rfl,mq (intBits_mul_le hb hc) (by decide),fun z=>absurd z (Int.mul_ne_zero b0 c0),fun _=>q c0⟩
inductive aZ (ds:List D) (R:D→Prop):Prop
 | mk (w a b:_) (hh:ds=[.int w,.tup [.int a,.int b]]∧b≠0∧Builtin.Int.intBits a≤200∧Builtin.Int.intBits b≤200∧(w=0∧R (.exn "NoQuotient" "top" (.int a))∨w=1∧R (.exn "NoQuotient" "top" (.tup [.int a,.int b]))))
theorem bz:∀ ds R,aZ ds R→ds.length=2:=fun _ _ ⟨_,_,_,e,_⟩=>by rw [e];rfl
theorem aT:aw ["_law_way","_law_one","_law_caught_here","_law_e"] ["_law_way","_law_one"] (ae s__law_caught):=⟨rfl,rfl,rfl,by decide +kernel,rfl,by decide +kernel,by decide +kernel⟩
theorem bV (F:Fd K mg "_law_caught" s__law_caught ["_law_way","_law_one"]) {R NR:Addr} (er:Er P w K mg base R NR) (ck:CalE P w K mg base 3 "made" ["top","bottom"] (dW)) (ci:CalE P w K mg base 4 "over" ["one","other"] (d6)):Cal P w K mg base 5 "_law_caught" ["_law_way","_law_one"] (spD K aZ):=by
 refine fn_D F aT bz fun fa cdv A outer s H E ds R hr h=>?_
 have hU:=hr.units
 refine⟨_,(ah (aY 2 aT.nd jS) (ah (kn (cs:=aP) 2 3 ⟨rfl,rfl⟩ aT.nd (by decide) rfl er.mR er.un fun pins E=>(ah (bL (aX (o_eq hU) (de_v 0) ag (aQ _)) (aj (dO ck (rm hr) rfl (ac (bR bS (de_v 1) ag (fun _ _=>rfl)) (ac ag al)))) aR) (aj (bL (aX (o_eq hU) (de_v 0) ag (aQ _)) (aj (dO ci (rm hr) rfl (ac (de_v 1) (ac (bE (ac ag (ac ag al))) al)))) aR)))) (aj (aN (de_v 2))))),?_⟩
 obtain ⟨w,a,b,rfl,b0,ha,hb,q⟩:=h
 walk_at "rd"
 rcases q with ⟨rfl,q⟩ | ⟨rfl,q⟩
 ·exact ifp rfl ⟨a,0,rfl,by decide,fun _=>⟨by decide,q⟩,fun z=>absurd rfl z⟩
 ·exact ifn (by decide) (ifp rfl ⟨a,b,0,1,rfl,b0,mq ha (by decide),mq hb (by decide),by decide,by decide,fun _=>⟨by decide,q⟩,fun z=>absurd rfl z⟩)
inductive aV (ds:List D) (R:D→Prop):Prop
 | mk (d:_) (hh:ds=[.exn "NoQuotient" "top" d,d]∧((∃ i,d=.int i)∨∃ i j,d=.tup [.int i,.int j])∧R (.bl true))
theorem bq:∀ ds R,aV ds R→ds.length=2:=fun _ _ ⟨_,e,_⟩=>by rw [e];rfl
theorem bX:aw ["_law_e","_law_due"] ["_law_e","_law_due"] (ae s__law_refused):=⟨rfl,rfl,rfl,by decide +kernel,rfl,by decide +kernel,by decide +kernel⟩
theorem bG (F:Fd K mg "_law_refused" s__law_refused ["_law_e","_law_due"]) {R NR:Addr} (er:Er P w K mg base R NR) (ap:mg "isinstance"=none) (aA:mg "ValueError"=none):Cal P w K mg base 3 "_law_refused" ["_law_e","_law_due"] (spD K aV):=by
 refine fn_D F bX bq fun fa cdv A outer s H E ds R hr h=>?_
 have hU:=hr.units
 refine⟨_,(ah (bL (DW.dt (gn (cO (b9 (jE er.tab rfl ap rfl er.aq (de_v 0)))) (gn (cO (b9 (jH er.tab rfl ap rfl aA (de_v 0)))) (fh (b9 (jG er.tab rfl ap rfl rfl er.an er.a_t (de_v 0))))))) (aj (aN eh)) aR) (aj (aN (ib (o_eq hU) (gk er.tab (de_v 0)) (de_v 1) (aQ _))))),?_⟩
 obtain ⟨d,rfl,hd,q⟩:=h
 walk_at "rd"
 refine⟨true,rfl,ifn (by decide) ⟨true,rfl,ifn (by decide) ⟨false,rfl,ifn (by decide) ⟨by decide,?_⟩⟩⟩⟩
 rcases hd with ⟨i,rfl⟩ | ⟨i,j,rfl⟩
 ·walk_at "rd"
  rw [decide_true]
  exact q
 ·walk_at "rd"
  exact⟨rfl,Nat.zero_le _,q⟩
inductive bo (ds:List D) (R:D→Prop):Prop
 | mk (i a b:_) (hh:ds=[.int i,.tup [.int a,.int b]]∧R (.bl true))
theorem bM:∀ ds R,bo ds R→ds.length=2:=fun _ _ ⟨_,_,_,e,_⟩=>by rw [e];rfl
theorem bB:aw ["_law_number_here","_law_one","_law_saying"] ["_law_number_here","_law_one"] (ae s__law_made):=⟨rfl,rfl,rfl,by decide +kernel,rfl,by decide +kernel,by decide +kernel⟩
theorem cu (F:Fd K mg "_law_made" s__law_made ["_law_number_here","_law_one"]) {R NR:Addr} (er:Er P w K mg base R NR) (ap:mg "isinstance"=none) (aA:mg "ValueError"=none):Cal P w K mg base 3 "_law_made" ["_law_number_here","_law_one"] (spD K bo):=by
 refine fn_D F bB bM fun fa cdv A outer s H E ds R hr h=>?_
 have hU:=hr.units
 refine⟨_,(ah (aY 2 bB.nd (bE (ac cz (ac (bE (ac (bE (ac cz (ac ag al))) al)) (ac (de_v 0) al))))) (ah (bL (DW.dt (gn (aX (dM hU) (gk er.tab (de_x er.q (rm hr) rfl (de_v 0))) (de_v 0) (aQ _)) (gn (aX (dM hU) (gk er.tab (de_x er.q (rm hr) rfl (de_v 1))) (de_v 1) (aQ _)) (fh (aX (dM hU) (gk er.tab (de_x er.n (rm hr) rfl cz)) cz (aQ _)))))) (aj (aN eh)) aR) (aj (aN (kO (ib (o_eq hU) (gk er.tab (de_x er.t (rm hr) rfl (de_v 2))) (de_v 2) (aQ _)) (kB (kP er.rc er.gR er.kR rfl ap rfl er.mR rfl aA cz))))))),?_⟩
 obtain ⟨i,a,b,rfl,q⟩:=h
 walk_at "rd"
 exact⟨by decide,by decide,rfl,Nat.zero_le _,by decide,by decide,by decide,rfl,Nat.le_of_ble_eq_true rfl,q⟩
theorem d8:aw ["_law_script","_law_cells","_law_k","_law_one"] ["_law_script"] (ae s_law):=⟨rfl,rfl,rfl,by decide +kernel,rfl,by decide +kernel,by decide +kernel⟩
theorem i8 {fa:Addr} {fd:FuncData} (F:Fun K "law" "law" s_law fa fd) (aL:Cal P w K mg base 2 "_law_fraction" ["_law_one","_law_other"] (spD K (aO))) (aE:Cal P w K mg base 3 "_law_refused" ["_law_e","_law_due"] (spD K (aV))) (aJ:Cal P w K mg base 5 "_law_caught" ["_law_way","_law_one"] (spD K (aZ))) (ci:CalE P w K mg base 4 "over" ["one","other"] (d6)) (bn:Cal P w K mg base 3 "_law_made" ["_law_number_here","_law_one"] (spD K (bo))) (cV:mg "range"=none) (jO:mg "len"=none):FnOk P w K mg base CX0 6 fa fd ["_law_script"] (spD K fLaw):=by
 refine la F d8 (fun ds R ⟨ns,e,_⟩=>by rw [e];rfl) fun cdv A outer s H E ds R hr h=>?_
 have hU:=hr.units
 refine⟨_,(ah (aY 1 d8.nd (aG cN (aG cN (hI (ac ag al)) (jW (de_v 0) jN (i5 ag))) (hI (ac ag al)))) (ah (iz PassesOwn.never rfl rfl cV (ac (aG iK (bK lO rfl jO l0 (ac (de_v 1) al)) ag) al) (iO 2 d8.nd) (ah (aY 3 d8.nd (ba aL (rm hr) rfl (ac (bR bS (de_v 1) (de_v 2) (fun _ _=>rfl)) (ac (bR bS (de_v 1) (aG cN (de_v 2) ag) (fun _ _=>rfl)) al)))) (ah (bL (DW.dt (gn (cO (b9 (ba aE (rm hr) rfl (ac (ba aJ (rm hr) rfl (ac ag (ac (de_v 3) al))) (ac (bR bS (de_v 3) ag (fun _ _=>rfl)) al))))) (fh (cO (b9 (ba aE (rm hr) rfl (ac (ba aJ (rm hr) rfl (ac ag (ac (de_v 3) al))) (ac (de_v 3) al)))))))) (aj (aN eh)) aR) (ah (bL (DW.dt (lp (aX (dM hU) (bR bS (de_v 3) ag (fun _ _=>rfl)) ag (aQ _)) (jc (aX (dM hU) (ba ci.pure (rm hr) rfl (ac (bE (ac ag (ac ag al))) (ac (de_v 3) al))) (bE (ac ag (ac ag al))) (aQ _))))) (aj (aN eh)) aR) (aj (bL (cO (b9 (ba bn (rm hr) rfl (ac (bR bS (de_v 3) ag (fun _ _=>rfl)) (ac (de_v 3) al))))) (aj (aN eh)) aR)))))) (aj (aN eh)))),?_⟩
 obtain ⟨ns,rfl,h63,hb,q⟩:=h
 walk_at "rd"
 have hc:cut (ns.map D.int) none (some 62)=(ns.take 62).map D.int:=by rw [show (62:Int)=((62:Nat):Int) from rfl,j8,List.map_take]
 rw [hc]
 have hlen:(ns.take 62).length≤62:=by rw [List.length_take];omega
 refine⟨by rw [mn];omega,by rw [mn];omega,?_⟩
 have hcs:D.int 0 :: ((ns.take 62).map D.int++[D.int 2])=(0 :: (ns.take 62++[2])).map D.int:=by simp
 rw [hcs]
 have hcb:∀ n∈(0 :: (ns.take 62++[2])),Builtin.Int.intBits n≤1048576:=fun n hn=>by
  rcases mv.mp hn with rfl | hn
  ·decide
  ·rcases List.mem_append.mp hn with hn | hn
   ·exact hb n (List.mem_of_mem_take hn)
   ·rw [mD.mp hn];decide
 have hl2:(0 :: (ns.take 62++[2])).length≤64:=by simp only [mB,my,List.length_nil];omega
 have hl3:2≤(0 :: (ns.take 62++[2])).length:=by simp only [mB,my,List.length_nil];omega
 generalize (0 :: (ns.take 62++[2]))=cs at hcb hl2 hl3 ⊢
 simp only [jZ]
 walk_at "rd"
 rw [mn]
 refine⟨by omega,by omega,fun i δ=>∃ a b,δ=[.dat (.fz (ns.map D.int)),.dat (.lst (cs.map D.int)),a,b],⟨_,_,rfl⟩,?_,fun δ ⟨a,b,e⟩=>q⟩
 rintro i δ hi ⟨a,b,rfl⟩
 have hi1:i + 1 < cs.length:=by omega
 walk_at "rd"
 have g0:atI (cs.map D.int) (i:Int)=some (.int cs[i]):=fV (by omega)
 have g1:atI (cs.map D.int) ((i:Int) + 1)=some (.int cs[i + 1]):=fV (k:=i + 1) hi1
 refine⟨_,g0,_,g1,_,_,rfl,hcb _ (List.getElem_mem _),hcb _ (List.getElem_mem _),fun p r lw bp br=>?_⟩
 refine⟨0,p,r,rfl,lw.ne,bp,br,.inl ⟨rfl,?_⟩⟩
 walk_at "rd"
 refine⟨.int p,rfl,.inl ⟨_,rfl⟩,?_⟩
 walk_at "rd"
 refine⟨1,p,r,rfl,lw.ne,bp,br,.inr ⟨rfl,?_⟩⟩
 refine⟨.tup [.int p,.int r],rfl,.inr ⟨_,_,rfl⟩,?_⟩
 walk_at "rd"
 refine ite2 (fun c=>?_) fun c=>?_
 ·refine⟨0,1,p,r,rfl,by decide,by decide,by decide,mq bp (by decide),mq br (by decide),fun z=>absurd z c,fun _=>?_⟩
  obtain ⟨u1,u2⟩:=i6 (t:=0 * r) (b:=1 * p) (by omega) (⟨by decide,by decide⟩:Low 0 1) (by grind)
  rw [u1,u2]
  walk_at "rd"
  refine⟨rfl,Nat.zero_le _,p,p,r,rfl,?_⟩
  walk_at "rd"
  exact⟨_,rfl⟩
 ·refine⟨p,p,r,rfl,?_⟩
  walk_at "rd"
  exact⟨_,rfl⟩
theorem b7:eu P w K mg base "NoQuotient.__init__" "top" "top" false i_NoQuotient:=fun R C fI fd F ek rk m=>F.ok (N:=["self","top"]) ⟨rfl,rfl,rfl,by decide +kernel,rfl,by decide +kernel,by decide +kernel⟩ c7 fun cdv A outer s H vs Q E hr h=>⟨_,bH (cm (c6 rk ek rfl m (ao (a7 (i:=0) rfl (.inl rfl)) (ao dX a8)))) (bN (c9 ek (a7 (i:=0) rfl (.inl rfl)) (a7 (i:=1) rfl (.inl rfl)))),fw h⟩
theorem b8:IniB "NoQuotient.__init__" "top" i_NoQuotient:=fun _ _ _ _ _ _ us hl=>match us,hl with | [_,_],_=>rfl
theorem eg:eu P w K mg base "NoName.__init__" "name" "name" true i_NoName:=fun R C fI fd F ek rk m=>F.ok (N:=["self","name"]) ⟨rfl,rfl,rfl,by decide +kernel,rfl,by decide +kernel,by decide +kernel⟩ c7 fun cdv A outer s H vs Q E hr h=>⟨_,bH (cm (c6 rk ek rfl m (ao (a7 (i:=0) rfl (.inl rfl)) (ao (iQ (a7 (i:=1) rfl (.inl rfl))) a8)))) (bN (c9 ek (a7 (i:=0) rfl (.inl rfl)) (a7 (i:=1) rfl (.inl rfl)))),gx h⟩
theorem eN:IniB "NoName.__init__" "name" i_NoName:=fun _ _ _ _ _ _ us hl=>match us,hl with | [_,_],_=>rfl
theorem dN:eu P w K mg base "TooMany.__init__" "saying" "saying" false i_TooMany:=fun R C fI fd F ek rk m=>F.ok (N:=["self","saying"]) ⟨rfl,rfl,rfl,by decide +kernel,rfl,by decide +kernel,by decide +kernel⟩ c7 fun cdv A outer s H vs Q E hr h=>⟨_,bH (cm (c6 rk ek rfl m (ao (a7 (i:=0) rfl (.inl rfl)) (ao dX a8)))) (bN (c9 ek (a7 (i:=0) rfl (.inl rfl)) (a7 (i:=1) rfl (.inl rfl)))),fw h⟩
theorem cU:IniB "TooMany.__init__" "saying" i_TooMany:=fun _ _ _ _ _ _ us hl=>match us,hl with | [_,_],_=>rfl
theorem all_mk {l:PySem.W.OpenLaw} {w:World} {K:PySem.W.Frag} {h:Heap} {mg:Str→Option Value} {fa f:Addr} (X:K.In h) (G:h.Ns mainGlobals mg) (hfa:mg "law"=some (.ref fa))
  {od an:Option Addr} {sl:Array (Option Value)} {oc kV dc pm cd ct:Value}
  (q0:FdK K "common_divisor" s_common_divisor)
  (q1:FdK K "made" s_made)
  (q2:FdK K "_law_common" s__law_common)
  (q3:FdK K "_law_number" s__law_number)
  (q4:FdK K "_law_fraction" s__law_fraction)
  (q5:FdK K "over" s_over)
  (q6:FdK K "_law_caught" s__law_caught)
  (q7:FdK K "_law_refused" s__law_refused)
  (q8:FdK K "_law_made" s__law_made)
  (a:PySem.W.nsIn K mainGlobals "law"=some (some (.ref f))) (l1:K.lookup f=some ⟨oc,od,.func (PySem.W.fnOf "law" "law" (aD s_law) (au s_law) (ae s_law) .none kV dc pm an cd ct),sl⟩) (c:PySem.W.codeIn K cd "law"=true) (k:PySem.W.keepIn K (.ref f)=true)
  (z0:PySem.W.nsIn K mainGlobals "abs"=some none)
  (z1:PySem.W.nsIn K mainGlobals "isinstance"=some none)
  (z2:PySem.W.nsIn K mainGlobals "ValueError"=some none)
  (z3:PySem.W.nsIn K mainGlobals "range"=some none)
  (z4:PySem.W.nsIn K mainGlobals "len"=some none)
  (ef:ErF K i_NoQuotient i_NoName i_TooMany)
  : ∃ fd:FuncData,(∀ (s:Shared) (v:Value),BindsTo s fd ⟨[v],[]⟩ [("_law_script",v)])∧∀ base:Heap,K.In base→base.Ns mainGlobals mg→FnOk l.prog w K mg base CX0 6 fa fd ["_law_script"] (iH K):=by
 have e:=hfa.symm.trans (PySem.W.mg_of X G a)
 cases e
 have cy:=PySem.W.mg_none_of X G z0
 have ap:=PySem.W.mg_none_of X G z1
 have aA:=PySem.W.mg_none_of X G z2
 have cV:=PySem.W.mg_none_of X G z3
 have jO:=PySem.W.mg_none_of X G z4
 have F:=hZ (st:=s_law) l1 c k
 refine⟨PySem.W.fnOf "law" "law" (aD s_law) (au s_law) (ae s_law) .none kV dc pm an cd ct,fun s v=>.of_eq rfl,fun base _ _=>?_⟩
 obtain ⟨R,NR,er⟩:=ef.er (P:=l.prog) (w:=w) (base:=base) X G b7 b8 eg eN dN cU
 have aF:=bt (P:=l.prog) (w:=w) (base:=base) (q0.fd2 X G fun _ _ _ _ _ _ _ _=>rfl) cy
 have ck:=gG (P:=l.prog) (w:=w) (base:=base) (q1.fd2 X G fun _ _ _ _ _ _ _ _=>rfl) er aF
 have a5:=b5 (P:=l.prog) (w:=w) (base:=base) (q2.fd2 X G fun _ _ _ _ _ _ _ _=>rfl) cy
 have aI:=bQ (P:=l.prog) (w:=w) (base:=base) (q3.fd1 X G fun _ _ _ _ _ _ _=>rfl)
 have aL:=bw (P:=l.prog) (w:=w) (base:=base) (q4.fd2 X G fun _ _ _ _ _ _ _ _=>rfl) aI a5 cy
 have ci:=gF (P:=l.prog) (w:=w) (base:=base) (q5.fd2 X G fun _ _ _ _ _ _ _ _=>rfl) er ck
 have aJ:=bV (P:=l.prog) (w:=w) (base:=base) (q6.fd2 X G fun _ _ _ _ _ _ _ _=>rfl) er ck ci
 have aE:=bG (P:=l.prog) (w:=w) (base:=base) (q7.fd2 X G fun _ _ _ _ _ _ _ _=>rfl) er ap aA
 have bn:=cu (P:=l.prog) (w:=w) (base:=base) (q8.fd2 X G fun _ _ _ _ _ _ _ _=>rfl) er ap aA
 exact lD (i8 F aL aE aJ ci bn cV jO)
end Lw
open PySem PySem.W PyProof.Rows
theorem PySem.Challenge.cw_rowbetween_k05_no_quotient_holds : PySem.Challenge.rw_rowbetween_k05_no_quotient.Holds := by
 refine Hd.half fun YP d K hY hdf hdn f=>?_
 refine DL.walkB (l:=PySem.Challenge.rw_rowbetween_k05_no_quotient) (k:=6) (x:="_law_script") rfl hdf ⟨rfl,by decide,by decide⟩ hY fun w mg fa h KX G hmg=>?_
 rw [hdn] at hmg
 obtain ⟨⟨_,_,_,_,_,_,_,_,_,_,a,l1,c,k⟩⟩:=(f w).q9
 exact Lw.all_mk KX G hmg (f w).q0 (f w).q1 (f w).q2 (f w).q3 (f w).q4 (f w).q5 (f w).q6 (f w).q7 (f w).q8 a l1 c k (f w).z0 (f w).z1 (f w).z2 (f w).z3 (f w).z4 (f w).ef
#print axioms PySem.Challenge.cw_rowbetween_k05_no_quotient_holds
