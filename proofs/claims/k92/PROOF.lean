import PyProof.Rows.All
import Wide.All
import OpenK.AllK
import Wide.FinOn
import Lean
import PyProof.EqAt
import PyProof.EqKinds
import PyProof.TupleCall
import PyProof.AttrMissSeq
import KE.KDictOf
import KE.KIntText
import PySem.Challenge.RW_neveragain_k92_desk_refused
set_option genSizeOf false
set_option bootstrap.genMatcherCode false
set_option compiler.extract_closed false
open PySem.Challenge (pw_neveragain_k92_desk_refused)
open List (Pairwise Perm all_cons all_eq_true all_map any_cons append_nil cons_append contains_cons drop_zero filter_cons find?_cons flatten_cons foldl foldl_cons forIn_cons forIn_nil getElem?_append_left getElem?_append_right getElem?_eq_getElem getElem?_map getElem?_range getElem_mem length_append length_cons length_drop length_map length_nil length_range length_replicate length_reverse length_take lookup_cons lookup_cons_self map_append map_cons map_id map_map map_nil mem_append mem_append_left mem_append_right mem_cons mem_cons_of_mem mem_cons_self mem_filter mem_filterMap mem_flatMap mem_map mem_of_getElem? mem_range mem_singleton nil_append nodup_cons not_mem_nil of_mem_zip pairwise_cons range range' range_succ replicate replicate_succ size_toArray sum_cons take_add_one take_of_length_le zipWith)
open Nat (le_of_eq le_of_lt le_succ lt_irrefl lt_of_lt_of_le lt_succ_self lt_trans ne_of_gt ne_of_lt sub_self toDigits zero_le)
open Bool (and_eq_true false_eq_true or_eq_true)
open Int (emod_nonneg toNat toNat_natCast)
open Option (isSome_iff_exists)
open Array (length_toList size_eq_one_iff)
open PySem.Heap (DictOf ExtBut MadeExcOf SameBut get?_none_of_le get?_push_of_some get?_push_size get?_update_other get?_update_self lt_size)
open PySem.W (Looks callWith_K cellsFrom_some emptyDict excIn exmOne hideAll hideAll_get hideAll_none instObj isFn isNs_of_in keepIn kia_one kitOne kp_binds lookIn makesIn methodObj mg_of notCls nsIn of_hideAll plainGet plainGet_of takerIn)
open PySem.Str (ofString)
open PySem.Txt (count mul startswith)
open PySem.StrLaws (glued_eq_join occBody subAt_eq subAt_one)
abbrev L2.Fg:=PySem.W.Frag
theorem L2.tI:True:=True.intro
set_option Elab.async false
set_option linter.all false
set_option maxRecDepth 100000
set_option maxHeartbeats 4000000
namespace L2
open PySem
def bF (s:Stmt):Arguments:=match s with
 | .FunctionDef _ a _ _ _ _ _ _ _ _=>a
 |_=>{posonlyargs:=[],args:=[],vararg:=none,kwonlyargs:=[],kw_defaults:=[],kwarg:=none,defaults:=[]}
def aK (s:Stmt):List Stmt:=match s with
 | .FunctionDef _ _ b _ _ _ _ _ _ _=>b
 |_=>[]
def aF (s:Stmt):Scope:=match s with
 | .FunctionDef _ _ _ _ _ _ sc _ _ _=>sc
 |_=>{kind:=.function,names:=[],isGenerator:=false,isCoroutine:=false}
end L2
namespace L2.Na.K92
open PySem
def top (i:Nat):Stmt:=pw_neveragain_k92_desk_refused.main.body.getD i (.Pass ⟨0,0,0,0⟩)
def cm (i j:Nat):Stmt:=match top i with| .ClassDef _ _ _ b _ _ _ _ _ _ _=>b.getD j (.Pass ⟨0,0,0,0⟩)|s=>s
end L2.Na.K92
namespace L2.Hd
open PySem PySem.Calls PyProof.Rows PySem.W
open L2 (bF aK aF)
open L2.Na.K92 (top cm)
noncomputable def env (p:Program):Env:={scope:=p.main.scope,locals:=mainNs,globals:=mainNs,cells:=[],code:=.ref 13,frame:=some 14}
noncomputable def cd (p:Program):Code:=.body (behindTheImports p) (env p)
noncomputable abbrev p0:Pos:=⟨0,0,0,0⟩
noncomputable abbrev p1:Pos:=⟨525,0,541,96⟩
noncomputable abbrev B:List Frame:=[topFrame p0]
noncomputable def toT (s:Shared):SharedT:=⟨(s.heap.objs.toList.foldl (λ(a:BT × Nat) o=>(a.1.ins a.2 o,a.2+1)) (BT.nil,0)).1,s.heap.objs.size,s.heap.life,s.gens,s.drawn,s.toks,s.os⟩
noncomputable def prA (x:Option (Shared × Thread)):SharedT:=match x with
 |some (s,_)=>toT s
 |none=>⟨BT.nil,0,{},#[],boot_drawn,0,{}⟩
noncomputable def prS (x:Option (Flow × SharedT × Code × Pos)):SharedT:=match x with
 |some (_,s,_)=>s
 |none=>⟨BT.nil,0,{},#[],boot_drawn,0,{}⟩
noncomputable abbrev ann:Option Value:=some (.ref 6)
noncomputable def goA (tb:String->Option Builtin) (p:Program) (w:World) (os:OsState):Option (Shared × Thread):=topGo tb p w 11 ann 12 ⟨boot_heap w.params,#[],boot_drawn,boot_toks,os⟩ (topStub p)
noncomputable def goB (tb:String->Option Builtin) (p:Program) (w:World) (os:OsState):Option (Flow × SharedT × Code × Pos):=segRunT tb p w 11 ann 1 4646 (prA (goA tb p w os)) (piecesOf (behindTheImports p) (env p) (cd p) p0 B)
theorem l1:(λ(w:World) (os:OsState)=>goA treeTable pw_neveragain_k92_desk_refused w os)=λw os=>some ((prA (goA treeTable pw_neveragain_k92_desk_refused w os)).abs,Thread.mk (denote treeTable (cd pw_neveragain_k92_desk_refused)) (cd pw_neveragain_k92_desk_refused) p0 B):=by
 unfold goA;rw[PySem.W.Fast.te15667345088766844465,PySem.W.Fast.te14364793385576792824,PySem.W.Fast.te11892475500146522536];kernel_rfl
theorem l2:(λ(w:World) (os:OsState)=>segRun treeTable pw_neveragain_k92_desk_refused w 11 ann 1 1 (prA (goA treeTable pw_neveragain_k92_desk_refused w os)).abs (blockOf (behindTheImports pw_neveragain_k92_desk_refused) (env pw_neveragain_k92_desk_refused) (cd pw_neveragain_k92_desk_refused) p0 B))=λw os=>some (.next,(prA (goA treeTable pw_neveragain_k92_desk_refused w os)).abs,cd pw_neveragain_k92_desk_refused,p0):=by
 unfold goA;rw[PySem.W.Fast.te15667345088766844465,PySem.W.Fast.te14364793385576792824,PySem.W.Fast.te14374325043358763698];kernel_rfl
theorem l3:(λ(w:World) (os:OsState)=>goB treeTable pw_neveragain_k92_desk_refused w os)=λw os=>some (.next,prS (goB treeTable pw_neveragain_k92_desk_refused w os),cd pw_neveragain_k92_desk_refused,p1):=by
 unfold goB goA;rw[PySem.W.Fast.te10110043849684766642,PySem.W.Fast.te15667345088766844465,PySem.W.Fast.te14364793385576792824];kernel_rfl
theorem l4:(λ(w:World) (os:OsState)=>topRun treeTable pw_neveragain_k92_desk_refused w 11 ann 2 (prS (goB treeTable pw_neveragain_k92_desk_refused w os)).abs ⟨doneF .next,cd pw_neveragain_k92_desk_refused,p1,B⟩)=λw os=>some (prS (goB treeTable pw_neveragain_k92_desk_refused w os)).abs:=by
 unfold goB goA;rw[PySem.W.Fast.te14082659384304107361,PySem.W.Fast.te10110043849684766642,PySem.W.Fast.te15667345088766844465,PySem.W.Fast.te14364793385576792824];kernel_rfl
noncomputable def lo:List Str:=pw_neveragain_k92_desk_refused.main.body.flatMap bindsAtTop
noncomputable def dk (P:Params) (x:Str) (n:Nat) (v:Value):DictEntry:={hash:=PyData.keyHash P x,key:=.str x n,val:=v}
noncomputable def tp (a:Array Value):Obj:={cls:=.type "tuple",data:=.seq a}
noncomputable def fo (x:Str) (i:Nat) (m:Value) (c:Nat):Obj:={cls:=.type "function",data:=.func {name:=x,qualname:=x,params:=bF (top i),body:=.stmts (aK (top i)),scope:=aF (top i),globals:=3,closure:=[],defaults:=.none,kwdefaults:=.none,pyModule:=m,code:=.ref c}}
noncomputable def fm (x y:Str) (s:Stmt) (m:Value) (c:Nat):Obj:={cls:=.type "function",data:=.func {name:=x,qualname:=y,params:=bF s,body:=.stmts (aK s),scope:=aF s,globals:=3,closure:=[],defaults:=.none,kwdefaults:=.none,pyModule:=m,code:=.ref c}}
noncomputable def cx (x y:Str) (n:Nat) (L a:Int) (r:Nat) (u v:Value) (z t:Nat):Obj:={cls:=.type "code",data:=.fields #[.str x n,.str y (n+1),.str "/claim/cut.py" (n+2),.int L 0,.int a 0,.int 0 0,.int 0 0,.int 3 0,.ref r,.bool true,.int 181 0,.ref (r+1),.none,u,v,.ref z,.int t 0,.int L 0,.str "/claim/cut.py" (t+1)]}
noncomputable def cb (x y:Str) (n:Nat) (L a:Int) (r t:Nat):Obj:=cx x y n L a r .none .none (r+2) t
noncomputable def co (x y:Str) (n:Nat) (L a:Int) (r t:Nat):Obj:=cx x y n L a r (.ref (r+2)) (.ref (r+3)) (r+4) t
noncomputable def sv:Nat->List Str->List Value
 |_,[]=>[]
 |n,x::l=>.str x n::sv (n+1) l
noncomputable def tq (n:Nat) (l:List Str):Obj:=tp (sv n l).toArray
noncomputable def dr (P:Params) (x:Str) (n r:Nat):DictEntry:=dk P x n (.ref r)
noncomputable def c1 (x:Str) (n:Nat) (L a:Int) (r t:Nat):Obj:=cb x x n L a r t
noncomputable def c2 (x:Str) (n:Nat) (L a:Int) (r t:Nat):Obj:=co x x n L a r t
noncomputable def m0:Value:=.str "neveragain.words" 187
noncomputable def m1:Value:=.str "neveragain.counts" 204
noncomputable def m2:Value:=.str "neveragain.rules" 406
noncomputable def m3:Value:=.str "neveragain.places" 439
noncomputable def m4:Value:=.str "neveragain.pieces" 512
noncomputable def m5:Value:=.str "neveragain.again" 546
noncomputable def m6:Value:=.str "neveragain.repeats" 649
noncomputable def m7:Value:=.str "neveragain.keeping" 681
noncomputable def m8:Value:=.str "neveragain.shares" 715
noncomputable def m9:Value:=.str "neveragain.desk" 765
noncomputable def m10:Value:=.str "law_neveragain_k92_desk_refused" 911
noncomputable def xc (x:Str) (c r n:Nat):Obj:={cls:=.type "type",data:=.cls {name:=x,bases:=[.ref 80],mro:=[.ref (c+1),.ref 80,.type "ValueError",.type "Exception",.type "BaseException",.type "object"],ns:=c,qualname:=x},slots:=#[some (.ref r),none,some (.str x n),some (.str x (n+8)),some (.builtin "ValueError.__new__"),some (.bool true)]}
noncomputable def xn (P:Params) (n:Nat) (l:Int) (s:Nat):Obj:={cls:=.type "dict",data:=.dict #[dk P "__module__" n (.str "neveragain.errors" 265),dk P "__firstlineno__" (n+4) (.int l (n+3)),dr P "__static_attributes__" (n+5) s,dk P "__doc__" (n+6) .none] 2}
noncomputable def K:Params->Frag:=λP=>
 (nat_lit 2,{cls:=.none,data:=Data.dict #[]})::
 (nat_lit 3,{cls:=.type "dict",data:=Data.dict #[dk P "__name__" 165 (.str "law_neveragain_k92_desk_refused" 911),dk P "__doc__" 166 .none,dk P "__package__" 167 .none,dk P "__loader__" 168 (.builtin "__main__.__loader__#opaque"),dk P "__spec__" 169 .none,dr P "__annotations__" 170 6,dr P "__builtins__" 171 4,dk P "__file__" 173 (.str "/claim/cut.py" 172),dk P "__cached__" 174 .none,dk P "LETTERS" 190 (.str "abcd" 189),dr P "letters" 197 21,dr P "is_word" 203 26,dr P "counts" 211 31,dr P "table" 217 36,dr P "counts_behind" 229 43,dr P "sizes" 240 50,dr P "counts_once" 246 55,dr P "sizes_once" 252 60,dr P "signs_behind" 258 65,dr P "added" 264 70,dr P "WordError" 284 80,dr P "NoRule" 300 93,dr P "NoStart" 316 105,dr P "NoPiece" 332 117,dr P "NotMixed" 348 129,dr P "NoShares" 364 141,dr P "NoRow" 380 153,dr P "TooGreat" 405 173,dk P "MOST_LETTERS" 409 (.int 4 408),dk P "MOST_SIGNS_IN_TEXT" 411 (.int 12 410),dr P "read_rule" 419 182,dr P "is_rule_up_to" 425 187,dr P "put" 431 192,dr P "words_by_letter" 438 199,dk P "MOST_TURNS" 442 (.int 400 441),dr P "grows" 451 206,dr P "figures" 469 213,dr P "letter_at" 479 220,dr P "stretch_at" 485 225,dr P "counts_to" 499 232,dr P "sizes_until" 511 239,dk P "MOST_PIECES" 515 (.int 300 514),dr P "pieces" 521 244,dr P "counts_ahead" 539 251,dr P "pieces_of_image" 545 256,dk P "ENOUGH_TURNS" 549 (.int 10 548),dr P "Sight" 586 273,dr P "mixes" 592 282,dr P "distance" 598 287,dr P "widest" 610 294,dr P "sight_of_one" 617 301,dr P "sight_turned" 623 306,dr P "joined" 632 313,dr P "widen" 641 320,dr P "letters_in" 648 327,dr P "repeat_in" 660 334,dr P "repeat_at_end" 671 341,dr P "least_length" 680 348,dr P "DOUBLES" 685 349,dk P "MOST_SIGNS_KEPT" 687 (.int 12 686),dk P "MOST_LOOKED_AT" 689 (.int 800 688),dr P "looked_length" 695 354,dr P "keeps" 701 359,dr P "one_sign_more" 707 364,dr P "double_in" 714 371,dr P "shares" 722 376,dr P "of_one_size" 728 381,dr P "lacks_of" 734 386,dr P "without" 740 391,dr P "determinant" 746 396,dr P "in_lowest_terms" 755 403,dr P "greatest_divisor" 764 410,dk P "RULE_AHEAD" 768 (.str "rule " 767),dk P "FIGURES" 770 (.str "0123456789" 769),dk P "MOST_FIGURES" 772 (.int 30 771),dk P "MOST_SIGNS_TOLD" 774 (.int 200 773),dk P "MOST_LENGTH" 776 (.int 20 775),dk P "MOST_SIGNS_OF_PIECE" 778 (.int 12 777),dk P "MOST_SIGNS_OF_WORD" 780 (.int 300 779),dk P "MOST_TOP" 782 (.int 100 781),dk P "ALL_LETTERS" 784 (.int 4 783),dr P "Desk" 838 448,dr P "words_of_row" 846 459,dr P "is_row" 854 466,dr P "is_word_up_to" 862 473,dr P "is_number" 868 478,dr P "is_within" 876 485,dr P "is_limit" 883 492,dr P "told_repeat" 892 499,dr P "told_of_rule" 898 504,dr P "told_of_endless_word" 904 509,dr P "in_a_row" 910 514,dr P "_law_raw" 920 521,dr P "_law_mix" 929 528,dr P "_law_mixed" 938 535,dr P "_law_whole" 945 542,dr P "_law_same" 955 549,dr P "_law_caught" 964 556,dr P "_law_bad" 972 563,dr P "_law_no_rule" 980 570,dr P "_law_answer" 990 577,dr P "_law_refused" 996 582,dr P "_law_stands" 1006 589,dr P "_law_rows" 1017 596,dr P "_law_of_word" 1025 603,dr P "_law_without" 1034 610,dr P "_law_slow" 1043 617,dr P "_law_mosts" 1050 624,dr P "law" 1062 631] 109})::
 (nat_lit 20,c2 "letters" 191 3 1 15 195)::
 (nat_lit 21,fo "letters" 2 m0 20)::
 (nat_lit 25,c1 "is_word" 198 5 2 22 201)::
 (nat_lit 26,fo "is_word" 3 m0 25)::
 (nat_lit 30,c1 "counts" 206 11 2 27 209)::
 (nat_lit 31,fo "counts" 5 m1 30)::
 (nat_lit 35,c1 "table" 212 13 1 32 215)::
 (nat_lit 36,fo "table" 6 m1 35)::
 (nat_lit 42,c2 "counts_behind" 218 15 3 37 227)::
 (nat_lit 43,fo "counts_behind" 7 m1 42)::
 (nat_lit 49,c2 "sizes" 230 21 2 44 238)::
 (nat_lit 50,fo "sizes" 8 m1 49)::
 (nat_lit 54,c1 "counts_once" 241 27 2 51 244)::
 (nat_lit 55,fo "counts_once" 9 m1 54)::
 (nat_lit 59,c1 "sizes_once" 247 32 2 56 250)::
 (nat_lit 60,fo "sizes_once" 10 m1 59)::
 (nat_lit 64,c1 "signs_behind" 253 34 2 61 256)::
 (nat_lit 65,fo "signs_behind" 11 m1 64)::
 (nat_lit 69,c1 "added" 259 36 2 66 262)::
 (nat_lit 70,fo "added" 12 m1 69)::
 (nat_lit 79,{cls:=.type "dict",data:=Data.dict #[dk P "__module__" 274 (.str "neveragain.errors" 265),dk P "__firstlineno__" 278 (.int 39 277),dr P "__static_attributes__" 279 78,dr P "__weakref__" 281 81,dk P "__doc__" 282 .none] 3})::
 (nat_lit 80,{cls:=.type "type",data:=Data.cls {name:="WordError",bases:=[.type "ValueError"],mro:=[.ref 80,.type "ValueError",.type "Exception",.type "BaseException",.type "object"],ns:=79,qualname:="WordError",subclasses:=[.ref 93,.ref 105,.ref 117,.ref 129,.ref 141,.ref 153,.ref 173]},slots:=#[some (.ref 71),none,some (.str "WordError" 267),some (.str "WordError" 275),some (.builtin "ValueError.__new__"),some (.bool true)]})::
 (nat_lit 92,xn P 292 41 91)::
 (nat_lit 93,xc "NoRule" 92 84 285)::
 (nat_lit 104,xn P 308 43 103)::
 (nat_lit 105,xc "NoStart" 104 96 301)::
 (nat_lit 116,xn P 324 45 115)::
 (nat_lit 117,xc "NoPiece" 116 108 317)::
 (nat_lit 128,xn P 340 47 127)::
 (nat_lit 129,xc "NotMixed" 128 120 333)::
 (nat_lit 140,xn P 356 49 139)::
 (nat_lit 141,xc "NoShares" 140 132 349)::
 (nat_lit 152,xn P 372 51 151)::
 (nat_lit 153,xc "NoRow" 152 144 365)::
 (nat_lit 163,tp #[.none])::
 (nat_lit 169,co "__init__" "TooGreat.__init__" 393 55 2 164 398)::
 (nat_lit 170,{cls:=.type "function",data:=Data.func {name:="__init__",qualname:="TooGreat.__init__",params:=bF (cm 21 0),body:=FuncBody.stmts (aK (cm 21 0)),scope:=aF (cm 21 0),globals:=3,closure:=[],defaults:=.ref 163,kwdefaults:=.none,pyModule:=.str "neveragain.errors" 265,code:=.ref 169}})::
 (nat_lit 172,{cls:=.type "dict",data:=Data.dict #[dk P "__module__" 388 (.str "neveragain.errors" 265),dk P "__firstlineno__" 392 (.int 53 391),dr P "__init__" 400 170,dr P "__static_attributes__" 402 171,dk P "__doc__" 403 .none] 2})::
 (nat_lit 173,xc "TooGreat" 172 156 381)::
 (nat_lit 181,c2 "read_rule" 412 60 1 176 417)::
 (nat_lit 182,fo "read_rule" 25 m2 181)::
 (nat_lit 186,c1 "is_rule_up_to" 420 67 2 183 423)::
 (nat_lit 187,fo "is_rule_up_to" 26 m2 186)::
 (nat_lit 191,c1 "put" 426 74 2 188 429)::
 (nat_lit 192,fo "put" 27 m2 191)::
 (nat_lit 198,c2 "words_by_letter" 432 77 1 193 436)::
 (nat_lit 199,fo "words_by_letter" 28 m2 198)::
 (nat_lit 205,c2 "grows" 443 81 2 200 449)::
 (nat_lit 206,fo "grows" 31 m3 205)::
 (nat_lit 212,c2 "figures" 452 84 3 207 467)::
 (nat_lit 213,fo "figures" 32 m3 212)::
 (nat_lit 219,c2 "letter_at" 470 100 3 214 477)::
 (nat_lit 220,fo "letter_at" 33 m3 219)::
 (nat_lit 224,c1 "stretch_at" 480 105 4 221 483)::
 (nat_lit 225,fo "stretch_at" 34 m3 224)::
 (nat_lit 231,c2 "counts_to" 486 113 3 226 497)::
 (nat_lit 232,fo "counts_to" 35 m3 231)::
 (nat_lit 238,c2 "sizes_until" 500 121 3 233 509)::
 (nat_lit 239,fo "sizes_until" 36 m3 238)::
 (nat_lit 250,c2 "counts_ahead" 522 137 3 245 537)::
 (nat_lit 251,fo "counts_ahead" 40 m4 250)::
 (nat_lit 255,c1 "pieces_of_image" 540 154 2 252 543)::
 (nat_lit 256,fo "pieces_of_image" 41 m4 255)::
 (nat_lit 281,c1 "mixes" 587 167 1 278 590)::
 (nat_lit 282,fo "mixes" 45 m5 281)::
 (nat_lit 286,c1 "distance" 593 173 3 283 596)::
 (nat_lit 287,fo "distance" 46 m5 286)::
 (nat_lit 326,c2 "letters_in" 642 218 1 321 646)::
 (nat_lit 327,fo "letters_in" 52 m5 326)::
 (nat_lit 333,c2 "repeat_in" 651 221 2 328 658)::
 (nat_lit 334,fo "repeat_in" 54 m6 333)::
 (nat_lit 340,c2 "repeat_at_end" 661 227 2 335 669)::
 (nat_lit 341,fo "repeat_at_end" 55 m6 340)::
 (nat_lit 347,c2 "least_length" 672 236 2 342 678)::
 (nat_lit 348,fo "least_length" 56 m6 347)::
 (nat_lit 375,c1 "shares" 717 275 1 372 720)::
 (nat_lit 376,fo "shares" 66 m8 375)::
 (nat_lit 380,c1 "of_one_size" 723 282 1 377 726)::
 (nat_lit 381,fo "of_one_size" 67 m8 380)::
 (nat_lit 423,co "__init__" "Desk.__init__" 797 326 1 418 801)::
 (nat_lit 424,fm "__init__" "Desk.__init__" (cm 83 0) (.str "neveragain.desk" 765) 423)::
 (nat_lit 430,co "say" "Desk.say" 804 330 2 425 810)::
 (nat_lit 431,fm "say" "Desk.say" (cm 83 1) (.str "neveragain.desk" 765) 430)::
 (nat_lit 437,co "keep_rule" "Desk.keep_rule" 813 346 2 432 818)::
 (nat_lit 438,fm "keep_rule" "Desk.keep_rule" (cm 83 2) (.str "neveragain.desk" 765) 437)::
 (nat_lit 444,co "keep_start" "Desk.keep_start" 821 351 2 439 826)::
 (nat_lit 445,fm "keep_start" "Desk.keep_start" (cm 83 3) (.str "neveragain.desk" 765) 444)::
 (nat_lit 447,{cls:=.type "dict",data:=Data.dict #[dk P "__module__" 792 (.str "neveragain.desk" 765),dk P "__firstlineno__" 796 (.int 324 795),dr P "__init__" 803 424,dr P "say" 812 431,dr P "keep_rule" 820 438,dr P "keep_start" 828 445,dr P "__static_attributes__" 831 446,dr P "__dict__" 833 449,dr P "__weakref__" 835 450,dk P "__doc__" 836 .none] 4})::
 (nat_lit 448,{cls:=.type "type",data:=Data.cls {name:="Desk",bases:=[.type "object"],mro:=[.ref 448,.type "object"],ns:=447,qualname:="Desk"},slots:=#[none,none,some (.str "Desk" 785),some (.str "Desk" 793),some (.builtin "object.__new__"),some (.bool true)]})::
 (nat_lit 458,c2 "words_of_row" 839 356 1 453 844)::
 (nat_lit 459,fo "words_of_row" 84 m9 458)::
 (nat_lit 465,c2 "is_row" 847 365 2 460 852)::
 (nat_lit 466,fo "is_row" 85 m9 465)::
 (nat_lit 472,c2 "is_word_up_to" 855 381 2 467 860)::
 (nat_lit 473,fo "is_word_up_to" 86 m9 472)::
 (nat_lit 477,c1 "is_number" 863 383 1 474 866)::
 (nat_lit 478,fo "is_number" 87 m9 477)::
 (nat_lit 484,c2 "is_within" 869 389 2 479 874)::
 (nat_lit 485,fo "is_within" 88 m9 484)::
 (nat_lit 491,c2 "is_limit" 877 391 1 486 881)::
 (nat_lit 492,fo "is_limit" 89 m9 491)::
 (nat_lit 498,c2 "told_repeat" 884 395 1 493 890)::
 (nat_lit 499,fo "told_repeat" 90 m9 498)::
 (nat_lit 503,c1 "told_of_rule" 893 401 2 500 896)::
 (nat_lit 504,fo "told_of_rule" 91 m9 503)::
 (nat_lit 508,c1 "told_of_endless_word" 899 410 3 505 902)::
 (nat_lit 509,fo "told_of_endless_word" 92 m9 508)::
 (nat_lit 513,c1 "in_a_row" 905 421 1 510 908)::
 (nat_lit 514,fo "in_a_row" 93 m9 513)::
 (nat_lit 520,c2 "_law_raw" 913 424 2 515 918)::
 (nat_lit 521,fo "_law_raw" 95 m10 520)::
 (nat_lit 527,c2 "_law_mix" 921 428 2 522 927)::
 (nat_lit 528,fo "_law_mix" 96 m10 527)::
 (nat_lit 534,c2 "_law_mixed" 930 433 2 529 936)::
 (nat_lit 535,fo "_law_mixed" 97 m10 534)::
 (nat_lit 541,c2 "_law_whole" 939 436 1 536 943)::
 (nat_lit 542,fo "_law_whole" 98 m10 541)::
 (nat_lit 548,c2 "_law_same" 946 438 2 543 953)::
 (nat_lit 549,fo "_law_same" 99 m10 548)::
 (nat_lit 555,c2 "_law_caught" 956 455 1 550 962)::
 (nat_lit 556,fo "_law_caught" 100 m10 555)::
 (nat_lit 562,c2 "_law_bad" 965 462 1 557 970)::
 (nat_lit 563,fo "_law_bad" 101 m10 562)::
 (nat_lit 569,c2 "_law_no_rule" 973 477 1 564 978)::
 (nat_lit 570,fo "_law_no_rule" 102 m10 569)::
 (nat_lit 576,c2 "_law_answer" 981 480 2 571 988)::
 (nat_lit 577,fo "_law_answer" 103 m10 576)::
 (nat_lit 581,c1 "_law_refused" 991 487 4 578 994)::
 (nat_lit 582,fo "_law_refused" 104 m10 581)::
 (nat_lit 588,c2 "_law_stands" 997 489 2 583 1004)::
 (nat_lit 589,fo "_law_stands" 105 m10 588)::
 (nat_lit 595,c2 "_law_rows" 1007 494 3 590 1015)::
 (nat_lit 596,fo "_law_rows" 106 m10 595)::
 (nat_lit 602,c2 "_law_of_word" 1018 504 1 597 1023)::
 (nat_lit 603,fo "_law_of_word" 107 m10 602)::
 (nat_lit 609,c2 "_law_without" 1026 507 2 604 1032)::
 (nat_lit 610,fo "_law_without" 108 m10 609)::
 (nat_lit 616,c2 "_law_slow" 1035 512 2 611 1041)::
 (nat_lit 617,fo "_law_slow" 109 m10 616)::
 (nat_lit 623,c2 "_law_mosts" 1044 523 1 618 1048)::
 (nat_lit 624,fo "_law_mosts" 110 m10 623)::
 (nat_lit 630,c2 "law" 1051 525 1 625 1060)::
 (nat_lit 631,fo "law" 111 m10 630)::[]
noncomputable def ads:List Addr:=[2,3,20,21,25,26,30,31,35,36,42,43,49,50,54,55,59,60,64,65,69,70,79,80,92,93,104,105,116,117,128,129,140,141,152,153,163,169,170,172,173,181,182,186,187,191,192,198,199,205,206,212,213,219,220,224,225,231,232,238,239,250,251,255,256,281,282,286,287,326,327,333,334,340,341,347,348,375,376,380,381,423,424,430,431,437,438,444,445,447,448,458,459,465,466,472,473,477,478,484,485,491,492,498,499,503,504,508,509,513,514,520,521,527,528,534,535,541,542,548,549,555,556,562,563,569,570,576,577,581,582,588,589,595,596,602,603,609,610,616,617,623,624,630,631]
noncomputable def q (p:Program):Program:=view p [111]
noncomputable abbrev fin (w:World) (os:OsState):Shared:=(prS (goB treeTable pw_neveragain_k92_desk_refused w os)).abs
theorem run (w:World) (os:OsState):topRun treeTable pw_neveragain_k92_desk_refused w 11 ann (12+(1+(4646+2))) ⟨boot_heap w.params,#[],boot_drawn,boot_toks,os⟩ (topStub pw_neveragain_k92_desk_refused)=some (fin w os):=by
 refine go_top (congrFun (congrFun l1 w) os) (piece_block (congrFun (congrFun l2 w) os) ?_);have h:=piece_app (rest:=[]) (segRun_of (congrFun (congrFun l3 w) os)) (piece_nil (congrFun (congrFun l4 w) os));rw[append_nil] at h;exact h
theorem k1:(λ(w:World) (os:OsState)=>ads.map (fin w os).heap.get?)=λw _=>(K w.params).map λp=>some p.2:=by
 unfold fin goB goA;rw[PySem.W.Fast.te10110043849684766642,PySem.W.Fast.te15667345088766844465,PySem.W.Fast.te14364793385576792824];kernel_rfl
theorem k2:(λ(w:World) (os:OsState)=>staticsOk (importedModules pw_neveragain_k92_desk_refused.main.body) (boot_heap w.params) (fin w os).heap&&namesBound pw_neveragain_k92_desk_refused (fin w os).heap&&gensDone (fin w os)&&laidKept (boot_heap w.params) (fin w os).heap)=λ_ _=>true:=by
 unfold fin goB goA;rw[PySem.W.Fast.te10110043849684766642,PySem.W.Fast.te15667345088766844465,PySem.W.Fast.te14364793385576792824];kernel_rfl
theorem left_run {p v:Program} {lo:List Str} {X:Shared->Bool} {α:Type} {f:Shared->α} {g:World->α} {N:Nat} {H:Params->Heap} {gs:Array GenState} {d:Drawn} {k m M:Nat} {an:Option Value} {z:World->OsState->Shared}
  (ho:∀w:World,(fencedOpening treeTable p w N).map (λs=>(s.heap,s.gens,s.drawn,s.toks))=some (H w.params,gs,d,k))
  (hs:∀w:World,((H w.params).isNs mainGlobals&&gs.size==0,(H w.params).objs.size,(H w.params).nsMap mainGlobals "__annotations__")=(true,m,an))
  (hr:∀w os,topRun treeTable p w m an M ⟨H w.params,gs,d,k,os⟩ (topStub p)=some (z w os)) (hM:M<=N)
  (h1:∀w os,(staticsOk (importedModules p.main.body) (H w.params) (z w os).heap&&namesBound p (z w os).heap&&gensDone (z w os)&&laidKept (H w.params) (z w os).heap)=true)
  (h2:∀w os,openSeen v lo (importedModules p.main.body) X true (z w os)=openGood v lo) (h3:∀w os,f (z w os)=g w):LeftO p v lo X f g N:=by
 intro w;have a:=ho w;cases e:fencedOpening treeTable p w N with
 |none=>rw[e] at a;cases a
 |some s=>
  rw[e] at a;obtain ⟨hh,hg,hd,hk,os⟩:=s;have b:=Option.some.inj a;have b1:hh=H w.params:=congrArg (·.1) b;have b2:hg=gs:=congrArg (·.2.1) b;have b3:hd=d:=congrArg (·.2.2.1) b;have b4:hk=k:=congrArg (·.2.2.2) b;subst b1 b2 b3 b4;have s1:=congrArg (·.1) (hs w);have s2:=congrArg (·.2.1) (hs w);have s3:=congrArg (·.2.2) (hs w);have r:=topRun_mono (N - M) _ _ _ _ (hr w os);rw[Nat.add_sub_cancel' hM] at r;have t:topFrom treeTable p w N ⟨H w.params,hg,hd,hk,os⟩=some (z w os):=by
   simp only [topFrom];dsimp only at s1 s2 s3;rw[s1,s2,s3,r];simp only [Option.bind,h1 w os]
  simp only [openEnds,e,Option.bind];show (topFrom treeTable p w N _).map _=_;rw[t];exact congrArg some (Prod.ext (h2 w os) (h3 w os))
theorem k3:(λ(w:World) (os:OsState)=>openSeen (q pw_neveragain_k92_desk_refused) L2.Hd.lo (importedModules pw_neveragain_k92_desk_refused.main.body) (λs=>xlAt (q pw_neveragain_k92_desk_refused) [] s&&recOk (RowW.records (OpenRow.toRowW PySem.Challenge.rw_neveragain_k92_desk_refused.row)) s) true (fin w os))=λ_ _=>openGood (q pw_neveragain_k92_desk_refused) L2.Hd.lo:=by
 unfold fin goB goA lo;rw[PySem.W.Fast.te4187177175401517315,PySem.W.Fast.te10110043849684766642,PySem.W.Fast.te15667345088766844465,PySem.W.Fast.te14364793385576792824];kernel_rfl
theorem k4:(λ(w:World)=>((boot_heap w.params).isNs mainGlobals&&(#[]:Array GenState).size==0,(boot_heap w.params).objs.size,(boot_heap w.params).nsMap mainGlobals "__annotations__"))=λ_=>(true,11,ann):=by kernel_rfl
theorem k5:opening pw_neveragain_k92_desk_refused=plainProg pw_neveragain_k92_desk_refused.main.scope.names:=by kernel_rfl
theorem k6:(λs=>fenceModules? pw_neveragain_k92_desk_refused s)=λs=>some s:=by kernel_rfl
theorem left:LeftO pw_neveragain_k92_desk_refused (q pw_neveragain_k92_desk_refused) L2.Hd.lo (λs=>xlAt (q pw_neveragain_k92_desk_refused) [] s&&recOk (RowW.records (OpenRow.toRowW PySem.Challenge.rw_neveragain_k92_desk_refused.row)) s) (λs=>ads.map s.heap.get?) (λw=>(K w.params).map λp=>some p.2) 4700:=
 left_run (boot_open k5 (by decide) (λs=>congrFun k6 s)) (λw=>congrFun k4 w) run (by decide) (λw os=>congrFun (congrFun k2 w) os) (λw os=>congrFun (congrFun k3 w) os) (λw os=>congrFun (congrFun k1 w) os)
theorem he (P:Params):ads=(K P).map (·.1):=by kernel_rfl
theorem ws:PySem.Challenge.rw_neveragain_k92_desk_refused.wellSaid=true:=by
 unfold OpenLaw.wellSaid OpenRow.wellSaid OpenRow.partSaid looksOpen
 repeat' (with_reducible refine look_both ?_ ?_)
 all_goals decide +kernel
theorem ol (h:PySem.Challenge.rw_neveragain_k92_desk_refused.row.wellSaid=true->PySem.Challenge.rw_neveragain_k92_desk_refused.row.Holds):PySem.Challenge.rw_neveragain_k92_desk_refused.Holds:=holds_law ws h
end L2.Hd
namespace L2
open PySem PySem.Spec PyProof.Rows
abbrev Key:=Sum Int Str
def oP:Key->Value->Bool
 | .inl k,v=>Value.isInt k v
 | .inr x,v=>Value.isStrOf x v
def Qa (w:World):Key->Int
 | .inl k=>hashInt k
 | .inr x=>hashStr w x
theorem aW:∀{k:Key} {v:Value},oP k v=true->(∃i t,k=Sum.inl i/\v=Value.int i t)\/(∃x t,k=Sum.inr x/\v=Value.str x t)
 | .inl i,v,h=>by
  obtain ⟨t,e⟩:=Value.isInt_shape (k:=i) (v:=v) h;exact .inl ⟨i,t,rfl,e⟩
 | .inr x,v,h=>by
  obtain ⟨t,e⟩:=Value.isStrOf_shape (x:=x) (v:=v) h;exact .inr ⟨x,t,rfl,e⟩
theorem IZ (i:Int) (t:Tok):oP (.inl i) (.int i t)=true:=by simp [oP,Value.isInt]
theorem uZ (x:Str) (t:Tok):oP (.inr x) (.str x t)=true:=by simp [oP,Value.isStrOf]
theorem Ds (a b:Int):decide ((Sum.inl a:Key)=Sum.inl b)=(a==b):=by
 by_cases e:a=b
 ·subst e;simp
 ·have h:¬(Sum.inl a:Key)=Sum.inl b:=λq=>e (Sum.inl.inj q);rw[decide_eq_false h];exact (beq_eq_false_iff_ne.mpr e).symm
theorem Dp (a b:Str):decide ((Sum.inr a:Key)=Sum.inr b)=decide (a=b):=by
 by_cases e:a=b
 ·subst e;simp
 ·have h:¬(Sum.inr a:Key)=Sum.inr b:=λq=>e (Sum.inr.inj q);rw[decide_eq_false h,decide_eq_false e]
theorem Dr (a:Int) (b:Str):decide ((Sum.inl a:Key)=Sum.inr b)=false:=decide_eq_false (λq=>nomatch q)
theorem Dq (a:Str) (b:Int):decide ((Sum.inr a:Key)=Sum.inl b)=false:=decide_eq_false (λq=>nomatch q)
def aU (prog:Program) (w:World):PySem.KeyKind prog w Key where
 is:=oP
 hash:=Qa w
 inj:=λv a b ha hb=>by
  rcases aW ha with ⟨i,t,rfl,rfl⟩|⟨x,t,rfl,rfl⟩
  ·rcases aW hb with ⟨j,u,rfl,e⟩|⟨y,u,rfl,e⟩
   ·injection e with e1 _;rw[e1]
   ·exact nomatch e
  ·rcases aW hb with ⟨j,u,rfl,e⟩|⟨y,u,rfl,e⟩
   ·exact nomatch e
   ·injection e with e1 _;rw[e1]
 byValue:=λk v h=>by
  rcases aW h with ⟨i,t,rfl,rfl⟩|⟨x,t,rfl,rfl⟩<;>rfl
 pyHash:=λhv h=>by
  rcases aW hv with ⟨i,t,rfl,rfl⟩|⟨x,t,rfl,rfl⟩
  ·exact wpAny_pyHash_int h
  ·exact wpAny_pyHash_str h
 eqBool:=λhu hv h=>by
  rcases aW hu with ⟨i,t,rfl,rfl⟩|⟨x,t,rfl,rfl⟩
  ·rcases aW hv with ⟨j,u,rfl,rfl⟩|⟨y,u,rfl,rfl⟩
   ·rw[Ds] at h;exact wpAny_eqBool_int h
   ·rw[Dr] at h;exact SeqAt.EqAt.int_str i t y u _ _ _ _ h
  ·rcases aW hv with ⟨j,u,rfl,rfl⟩|⟨y,u,rfl,rfl⟩
   ·rw[Dq] at h;exact SeqAt.EqAt.str_int x t j u _ _ _ _ h
   ·rw[Dp] at h;exact wpAny_eqBool_str h
 «strs»:=λk x t v h=>by
  rcases aW h with ⟨i,u,rfl,e⟩|⟨y,u,rfl,e⟩
  ·exact nomatch e
  ·injection e with e1 _
   subst e1;cases v<;>rfl
theorem AL (prog:Program) (w:World) (i:Int) (t:Tok):(aU prog w).is (.inl i) (.int i t)=true:=IZ i t
theorem AK (prog:Program) (w:World) (x:Str) (t:Tok):(aU prog w).is (.inr x) (.str x t)=true:=uZ x t
inductive V where
 |non|bl (b:Bool)|int (i:Int)|str (x:Str)|byt (b:Array UInt8)|flt (b:UInt64)|ref (a:Addr)|ty (n:String)
 deriving DecidableEq
def RelV:V->Value->Prop
 | .non,u=>u=Value.none
 | .bl b,u=>u=Value.bool b
 | .int i,u=>∃t,u=Value.int i t
 | .str x,u=>∃t,u=Value.str x t
 | .byt b,u=>∃t,u=Value.bytes b t
 | .flt b,u=>∃t,u=Value.float b t
 | .ref a,u=>u=Value.ref a
 | .ty n,u=>u=Value.type n
abbrev Vals:List V->List Value->Prop:=Paired RelV
theorem Vals.length {xs:List V} {us:List Value} (r:Vals xs us):xs.length=us.length:=Paired.length r
theorem Vals.get:∀{xs:List V} {us:List Value} {i:Nat} {x:V},Vals xs us->xs[i]?=some x->∃u,us[i]?=some u/\RelV x u
 |_,_,_,_,.nil,e=>by simp at e
 |_,_,0,_,.cons r _,e=>by simp at e;subst e;exact ⟨_,rfl,r⟩
 |_,_,i+1,x,.cons _ t,e=>by
  obtain ⟨u,h1,h2⟩:=Vals.get (i:=i) (x:=x) t (by simpa using e);exact ⟨u,by simpa using h1,h2⟩
theorem Vals.set {x:V} {u:Value} (r:RelV x u):∀{xs:List V} {us:List Value} (i:Nat),Vals xs us->Vals (xs.set i x) (us.set i u)
 |_,_,_,.nil=>.nil
 |_,_,0,.cons _ t=>.cons r t
 |_,_,i+1,.cons q t=>.cons q (Vals.set r i t)
theorem Vals.append:∀{xs ys:List V} {us ws:List Value},Vals xs us->Vals ys ws->Vals (xs++ys) (us++ws)
 |_,_,_,_,.nil,s=>s
 |_,_,_,_,.cons r t,s=>.cons r (Vals.append t s)
theorem Vals.take:∀{xs:List V} {us:List Value} (n:Nat),Vals xs us->Vals (xs.take n) (us.take n)
 |_,_,0,_=>.nil
 |_,_,_+1,.nil=>.nil
 |_,_,n+1,.cons r t=>.cons r (Vals.take n t)
theorem Vals.drop:∀{xs:List V} {us:List Value} (n:Nat),Vals xs us->Vals (xs.drop n) (us.drop n)
 |_,_,0,r=>r
 |_,_,_+1,.nil=>.nil
 |_,_,n+1,.cons _ t=>Vals.drop n t
def eX:Option V->Option Value->Prop
 |some v,some u=>RelV v u
 |none,none=>True
 |_,_=>False
def KV {κ:Type}:List (κ × V)->List (κ × Value)->Prop:=Paired λ(p:κ × V) (q:κ × Value)=>p.1=q.1/\RelV p.2 q.2
def kV:Key->V
 | .inl i=>.int i
 | .inr x=>.str x
inductive HO where
  
 |lst (xs:List V)
  
 |tup (xs:List V)
  
 |dK (kvs:List (Key × V))|dT (kvs:List (List Key × V))
  
 |set (S:Int->Bool) (n:Nat)
  
 |ins (C dx:Addr) (fs:List (Str × V))
  
 |own (x:Addr)
  
 |xd (fs:List (Str × V))
  
 |met (f x:Addr)
  
 |rng (lo hi:Int)
  
 |frz (o:Obj) (u:HO)
  
 |tbl (ps:Array Value)
  
 |ext (φ:Heap->Prop)
abbrev Hp:=Addr->Option HO
def upd (H:Hp) (a:Addr) (o:HO):Hp:=λb=>if b=a then some o else H b
theorem aA:upd H a o a=some o:=by unfold upd;rw[if_pos rfl]
theorem aE (h:b≠a):upd H a o b=H b:=by unfold upd;rw[if_neg h]
theorem EL:upd (upd H a o) a u=upd H a u:=by
 funext b;unfold upd;split<;>rfl
theorem Kk {H:Hp} {a b:Addr} {o u:HO} (h:H a=some o) (h':H b=some u) (d:o≠u):a≠b:=by
 intro e;subst e;rw[h] at h';exact d (Option.some.inj h')
theorem aD {H:Hp} {a b:Addr} {o:HO} (h:H a=some o) (h':H b=none):a≠b:=by
 intro e;subst e;rw[h] at h';cases h'
section
variable (P:Program) (w:World)
def aX (H:Hp) (h:Heap) (a:Addr):HO->Prop
 | .lst xs=>xs.length<=sizeLine/\∃(its:List Value) (n:Nat),Vals xs its/\h.get? a=some {cls:=.type "list",data:=.seq its.toArray n}
 | .tup xs=>xs.length<=sizeLine/\∃its:List Value,Vals xs its/\IsTup h a its.toArray
 | .dK kvs=>kvs.length<=sizeLine/\(a==sysModules)=false/\∃vs,KV kvs vs/\h.DictOf (aU P w) a vs
 | .dT kvs=>kvs.length<=sizeLine/\(a==sysModules)=false/\∃xs:List (List Key × Addr × Value),
   Paired (λ(p:List Key × V) (q:List Key × Addr × Value)=>p.1=q.1/\H q.2.1=some (.tup (p.1.map kV))/\RelV p.2 q.2.2) kvs xs/\
   ∃o es ep,h.get? a=some o/\o.ExactDict/\o.data=.dict es ep/\es.toList=xs.map (entryOfKey (tupleKind (aU P w)))/\(xs.map (·.1)).Nodup
 | .set S n=>h.SetOf (intKind P w) a S n
 | .ins C dx fs=>H dx=some (.own a)/\fs.length<=1000/\dx≠a/\h.get? a=some (instObj C dx)/\
   ∃mA,h.Ns1 dx mA/\(∀f,eX (fs.lookup f) (mA f))/\PySem.Within mA (fs.map (·.1))
 | .own _=>∃o,h.get? a=some o
 | .xd fs=>∃mA,h.Ns1 a mA/\∀f,eX (fs.lookup f) (mA f)
 | .rng lo hi=>∃t u v,h.get? a=some {cls:=.type "range",data:=.fields #[.int lo t,.int hi u,.int 1 v]}
 | .frz o u=>h.get? a=some o/\aX H h a u
 | .tbl ps=>h.get? a=some {cls:=.none,data:=.fields ps}
 | .met f x=>h.get? a=some (methodObj (.ref f) (.ref x))
 | .ext φ=>φ h/\(∃o,h.get? a=some o)/\∀h1 h2:Heap,φ h1->(∀o,h1.get? a=some o->h2.get? a=some o)->φ h2
def dN (H:Hp) (h:Heap):Prop:=∀a o,H a=some o->aX P w H h a o
end
section
variable {P:Program} {w:World} {H H':Hp} {h h':Heap} {a:Addr} {o:HO}
theorem aX.lt (x:aX P w H h a o):a<h.objs.size:=by
 cases o with
 |lst xs=>obtain ⟨_,_,_,_,e⟩:=x;exact lt_size e
 |tup xs=>obtain ⟨_,_,_,p⟩:=x;exact p.lt
 |dK kvs=>obtain ⟨_,_,_,_,o,_,_,e,_⟩:=x;exact lt_size e
 |dT kvs=>obtain ⟨_,_,_,_,o,_,_,e,_⟩:=x;exact lt_size e
 |set S n=>obtain ⟨o,_,_,_,e,_⟩:=x;exact lt_size e
 |ins C dx fs=>obtain ⟨_,_,_,e,_⟩:=x;exact lt_size e
 |own y=>obtain ⟨_,e⟩:=x;exact lt_size e
 |xd fs=>obtain ⟨_,⟨_,_,_,e,_⟩,_⟩:=x;exact lt_size e
 |rng lo hi=>obtain ⟨_,_,_,e⟩:=x;exact lt_size e
 |frz ob u=>obtain ⟨e,_⟩:=x;exact lt_size e
 |tbl ps=>exact lt_size (show h.get? a=some _ from x)
 |met f y=>exact lt_size (show h.get? a=some _ from x)
 |ext φ=>obtain ⟨_,⟨_,e⟩,_⟩:=x;exact lt_size e
theorem Paired.mapP:∀{aq:List α} {az:List β},Paired F aq az->(∀a b,F a b->G a b)->Paired G aq az
 |_,_,.nil,_=>.nil
 |_,_,.cons r t,f=>.cons (f _ _ r) (Paired.mapP t f)
theorem aX.stay (x:aX P w H h a o) (k:∀b u,(b=a\/H b=some (.own a))->h.get? b=some u->h'.get? b=some u)
  (ho:∀b,H b=some (.own a)->H' b=some (.own a)) (ht:∀b xs,H b=some (.tup xs)->H' b=some (.tup xs)):aX P w H' h' a o:=by
 induction o with
 |lst xs=>obtain ⟨z,its,n,r,e⟩:=x;exact ⟨z,its,n,r,k _ _ (.inl rfl) e⟩
 |tup xs=>obtain ⟨z,its,r,ob,e,c⟩:=x;exact ⟨z,its,r,ob,k _ _ (.inl rfl) e,c⟩
 |dK kvs=>obtain ⟨z,y,vs,r,ob,es,ep,e,c⟩:=x;exact ⟨z,y,vs,r,ob,es,ep,k _ _ (.inl rfl) e,c⟩
 |dT kvs=>
  obtain ⟨z,y,xs,r,ob,es,ep,e,c⟩:=x;exact ⟨z,y,xs,Paired.mapP r λp q z=>⟨z.1,ht _ _ z.2.1,z.2.2⟩,ob,es,ep,k _ _ (.inl rfl) e,c⟩
 |set S n=>obtain ⟨ob,es,ep,t,e,c⟩:=x;exact ⟨ob,es,ep,t,k _ _ (.inl rfl) e,c⟩
 |ins C dx fs=>
  obtain ⟨d,z,ne,e,mA,⟨od,es,ep,e2,c⟩,r⟩:=x;exact ⟨ho _ d,z,ne,k _ _ (.inl rfl) e,mA,⟨od,es,ep,k _ _ (.inr d) e2,c⟩,r⟩
 |own y=>obtain ⟨ob,e⟩:=x;exact ⟨ob,k _ _ (.inl rfl) e⟩
 |xd fs=>obtain ⟨mA,⟨od,es,ep,e,c⟩,r⟩:=x;exact ⟨mA,⟨od,es,ep,k _ _ (.inl rfl) e,c⟩,r⟩
 |rng lo hi=>obtain ⟨t,u,v,e⟩:=x;exact ⟨t,u,v,k _ _ (.inl rfl) e⟩
 |frz ob u ih=>obtain ⟨e,q⟩:=x;exact ⟨k _ _ (.inl rfl) e,ih q⟩
 |tbl ps=>
  have e:h.get? a=some {cls:=.none,data:=.fields ps}:=x;show h'.get? a=some {cls:=.none,data:=.fields ps};exact k a _ (.inl rfl) e
 |met f y=>
  have e:h.get? a=some (methodObj (.ref f) (.ref y)):=x;show h'.get? a=some (methodObj (.ref f) (.ref y));exact k a _ (.inl rfl) e
 |ext φ=>obtain ⟨p,⟨o,e⟩,st⟩:=x;exact ⟨st _ _ p λo q=>k _ _ (.inl rfl) q,⟨o,k _ _ (.inl rfl) e⟩,st⟩
theorem dN.lt (x:dN P w H h) (e:H a=some o):a<h.objs.size:=(x a o e).lt
theorem dN.fresh (x:dN P w H h) (e:h.objs.size<=a):H a=none:=by
 cases q:H a with
 |none=>rfl
 |some u=>exact absurd (lt_of_lt_of_le (x.lt q) e) (lt_irrefl _)
theorem dN.kept (x:dN P w H h) (k:∀b u,h.get? b=some u->h'.get? b=some u):dN P w H h':=λa o e=>
 (x a o e).stay (λb u _ q=>k b u q) (λ_ q=>q) λ_ _ q=>q
theorem dN.laid (x:dN P w H h) (k:∀b u,h.get? b=some u->h'.get? b=some u) (hp:h.objs.size<=a) (new:aX P w (upd H a o) h' a o):dN P w (upd H a o) h':=λb u e=>by
 have hn:=x.fresh hp;by_cases hb:b=a
 ·subst hb;rw[aA] at e;cases e;exact new
 ·rw[aE hb] at e;exact (x b u e).stay (λc v _ q=>k c v q) (λc q=>by rw[aE (aD q hn)];exact q) λc xs q=>by rw[aE (aD q hn)];exact q
end
def Rd (H:Hp) (a:Addr) (u:HO):Prop:=H a=some u\/∃o,H a=some (.frz o u)
theorem Rd.ok {P:Program} {w:World} {H:Hp} {h:Heap} {a:Addr} {u:HO} (r:Rd H a u) (x:dN P w H h):aX P w H h a u:=by
 rcases r with r|⟨o,r⟩
 ·exact x a u r
 ·obtain ⟨_,q⟩:=x a _ r;exact q
def Nq:Option HO->Prop
 |some (.lst _)=>True
 |some (.dK _)=>True
 |some (.dT _)=>True
 |some (.set _ _)=>True
 |some (.ins _ _ _)=>True
 |some (.ext _)=>True
 |_=>False
section
variable {P:Program} {w:World} {H:Hp} {h h':Heap} {x e:Addr} {o':HO}
theorem dN.write (ok:dN P w H h) (mu:Nq (H x)) (he:e=x\/H e=some (.own x)) (k:∀b u,b≠e->h.get? b=some u->h'.get? b=some u) (heo:∃u,h'.get? e=some u)
  (new:aX P w (upd H x o') h' x o'):dN P w (upd H x o') h':=λb u q=>by
 have nown:∀c y,H c=some (.own y)->c≠x:=λc y r z=>by subst z;rw[r] at mu;exact mu
 have ntup:∀c xs,H c=some (.tup xs)->c≠x:=λc xs r z=>by subst z;rw[r] at mu;exact mu
 by_cases hb:b=x
 ·subst hb;rw[aA] at q;cases q;exact new
 ·rw[aE hb] at q;by_cases hbe:b=e
  ·have q':H b=some (.own x):=by
    rcases he with z|z
    ·exact absurd (hbe.trans z) hb
    ·rw[hbe];exact z
   rw[q] at q';cases q';obtain ⟨v,hv⟩:=heo;exact ⟨v,by rw[hbe];exact hv⟩
  ·refine (ok b u q).stay (λc v hc r=>k c v ?_ r) (λc r=>by rw[aE (nown c b r)];exact r) λc xs r=>by rw[aE (ntup c xs r)];exact r
   rcases hc with rfl|hc
   ·exact hbe
   ·rintro rfl;rcases he with z|z
    ·exact nown c b hc z
    ·rw[hc] at z;cases z;exact hb rfl
end
structure Un (fs ex:List Addr) (H H':Hp) (h h':Heap):Prop where
 keep:∀b o,h.get? b=some o->H b=none->b∉fs->b∉ex->h'.get? b=some o
 slot:∀b o,h.get? b=some o->H b=none->b∈fs->b∉ex->∃sl,h'.get? b=some {o with slots:=sl}
 free:∀b o,h.get? b=some o->H b=none->b∉ex->H' b=none
 there:∀b o,h.get? b=some o->b∉ex->∃o',h'.get? b=some o'
 tups:∀b xs,H b=some (.tup xs)->H' b=some (.tup xs)
 frzs:∀b o u,H b=some (.frz o u)->H' b=some (.frz o u)
 tbls:∀b ps,H b=some (.tbl ps)->∃more,H' b=some (.tbl (ps++more))
section
variable {fs fs' ex ex':List Addr} {H H1 H2:Hp} {h h1 h2 h':Heap} {a x e:Addr} {o:HO}
theorem Un.any (u:Un fs ex H H1 h h1) {b:Addr} {ob:Obj} (q:h.get? b=some ob) (n:H b=none) (hx:b∉ex):∃sl,h1.get? b=some {ob with slots:=sl}:=by
 by_cases hb:b∈fs
 ·exact u.slot b ob q n hb hx
 ·exact ⟨ob.slots,u.keep b ob q n hb hx⟩
theorem Un.kept (k:∀b u,h.get? b=some u->h'.get? b=some u):Un fs ex H H h h':=
 ⟨λb ob q _ _ _=>k b ob q,λb ob q _ _ _=>⟨ob.slots,k b ob q⟩,λ_ _ _ n _=>n,λb ob q _=>⟨ob,k b ob q⟩,λ_ _ q=>q,λ_ _ _ q=>q,λ_ ps q=>⟨#[],by rw[q];simp⟩⟩
theorem Un.refl:Un fs ex H H h h:=Un.kept λ_ _ q=>q
theorem Un.laid (k:∀b u,h.get? b=some u->h'.get? b=some u) (hp:h.objs.size<=a) (hn:H a=none):Un fs ex H (upd H a o) h h' where
 keep:=λb u q _ _ _=>k b u q
 slot:=λb u q _ _ _=>⟨u.slots,k b u q⟩
 free:=λb u q n _=>by rw[aE (ne_of_lt (lt_of_lt_of_le (lt_size q) hp))];exact n
 there:=λb u q _=>⟨u,k b u q⟩
 tups:=λb xs q=>by rw[aE (aD q hn)];exact q
 frzs:=λb u xs q=>by rw[aE (aD q hn)];exact q
 tbls:=λb ps q=>⟨#[],by rw[aE (aD q hn),q];simp⟩
theorem Un.write (mu:Nq (H x)) (he:e=x\/H e=some (.own x)) (k:∀b u,b≠e->h.get? b=some u->h'.get? b=some u) (heo:∃u,h'.get? e=some u):Un fs ex H (upd H x o) h h':=by
 have hx:∀b,H b=none->b≠x:=λb n z=>by subst z;rw[n] at mu;exact mu
 have hb:∀b,H b=none->b≠e:=λb n z=>by
  subst z;rcases he with r|r
  ·exact hx b n r
  ·rw[n] at r;cases r
 have hm:∀b u,H b=some u->¬Nq (some u)->b≠x:=λb u q nm z=>by subst z;rw[q] at mu;exact nm mu
 refine ⟨λb u q n _ _=>k b u (hb b n) q,λb u q n _ _=>⟨u.slots,k b u (hb b n) q⟩,λb u q n _=>by rw[aE (hx b n)];exact n,λb u q _=>?_,
  λb xs q=>by rw[aE (hm b _ q λz=>z)];exact q,λb u xs q=>by rw[aE (hm b _ q λz=>z)];exact q,λb ps q=>⟨#[],by rw[aE (hm b _ q λz=>z),q];simp⟩⟩
 by_cases hbe:b=e
 ·subst hbe;exact heo
 ·exact ⟨u,k b u hbe q⟩
end
def Od (h:Heap) (H:Hp):List Addr:=(range h.objs.size).filter λa=>(H a).isSome
def xU (h:Heap) (H:Hp):Heap:=hideAll h (Od h H)
theorem JH (h:Heap) (H:Hp):(xU h H).objs.size=h.objs.size:=PySem.W.hideAll_size _ _
theorem PM (e:h.get? b=some o) (n:H b=none):(xU h H).get? b=some o:=
 hideAll_get _ e λhm=>by
  have q:(H b).isSome=true:=(mem_filter.mp hm).2;rw[n] at q;simp at q
theorem VA (e:(xU h H).get? b=some o):h.get? b=some o/\H b=none:=by
 have e':h.get? b=some o:=of_hideAll (Od h H) e;refine ⟨e',?_⟩;cases q:H b with
 |none=>rfl
 |some x=>
  have hm:b∈Od h H:=mem_filter.mpr ⟨mem_range.mpr (lt_size e'),by simp [q]⟩;have z:(xU h H).get? b=none:=hideAll_none (Od h H) hm;rw[z] at e;cases e
structure Mod (K:Fg) (mg:Str->Option Value) (base:Heap):Prop where
 kin:K.In base
 glob:base.Ns mainGlobals mg
 blt:∃mb,base.Ns builtinsNs mb/\∀x:Str,x≠"__name__"->mb x=bootBuiltins x
 nolimit:base.NoLimit
structure Cx where
 prog:Program
 w:World
 K:Fg
 mg:Str->Option Value
 base:Heap
 A:Around
 N:List Str
 s₀:Shared
 H₀:Hp
 env:Env
 outer:List Env
 stack:List Env
 ex:List Addr
 fn:Str->Bool
 calm:Bool
 pn:List (Addr × Obj)
 xe:Value->Shared->Prop
def dC (l:List Env):List Addr:=l.filterMap (·.frame)
abbrev Cx.fs (X:Cx):List Addr:=dC X.outer
def Om (sc:Scope) (x:Str):Prop:=sc.names.lookup x=some .local\/sc.names.lookup x=some .cell\/sc.names.lookup x=some .free
def Loc (sc:Scope) (x:Str):Prop:=sc.names.lookup x=some .local\/sc.names.lookup x=some .cell
def Look (env:Env) (h:Heap) (m:Str->Option Value) (x:Str) (u:Value):Prop:=
 (env.kindOf x=some .local/\m x=some u)\/((env.kindOf x=some .cell\/env.kindOf x=some .free)/\∃c,env.cells.lookup x=some c/\h.IsCell c (some u))
structure Cx.Ok (X:Cx):Prop where
 mod:Mod X.K X.mg X.base
 kind:X.env.scope.kind=.function
 glob:X.env.globals=mainGlobals
 blt:X.env.builtins=builtinsNs
 above:X.s₀.heap.objs.size<=X.env.locals
 inj:∀x y c,X.env.cells.lookup x=some c->X.env.cells.lookup y=some c->x=y
 has:∀x,(X.env.kindOf x=some .cell\/X.env.kindOf x=some .free)->∃c,X.env.cells.lookup x=some c
 cab:∀x c,X.fn x=true->X.env.cells.lookup x=some c->X.s₀.heap.objs.size<=c
 hd:X.calm=true->X.A.handled=none
 frames:X.A.frames=some X.stack
 stk:X.stack=X.outer\/(X.stack=X.env::X.outer/\X.env.frame=some X.env.locals)
 exf:∀b∈X.ex,b≠X.env.locals/\∀x c,X.env.cells.lookup x=some c->c≠b
 bs:∀b o,X.base.get? b=some o->X.s₀.heap.get? b=some o/\X.H₀ b=none
 bsz:X.base.objs.size<=X.s₀.heap.objs.size
 noex:∀b o,X.base.get? b=some o->b∉X.ex
 exfs:∀b∈X.ex,b∉X.fs
 funs:X.s₀.heap.FunFrames X.base X.outer
 frf:∀b∈X.fs,X.H₀ b=none
structure Inv (X:Cx) (pins:List (Addr × Obj)) (σ:List (Option V)) (H:Hp) (s:Shared):Prop where
 ok:X.Ok
 os:s.os=X.s₀.os
 bare:AllBare s.gens
 base:Un X.fs X.ex X.H₀ H X.s₀.heap s.heap
 loc:∃m,s.heap.Ns X.env.locals m/\∀(i:Nat) (x:Str) (v:V),X.N[i]?=some x->σ[i]?=some (some v)->Om X.env.scope x->∃u,RelV v u/\Look X.env s.heap m x u
 cell:∀x c,X.env.cells.lookup x=some c->∃v,s.heap.IsCell c v
 free:H X.env.locals=none
 freeC:∀x c,X.env.cells.lookup x=some c->H c=none
 pin:∀p∈X.pn++pins,s.heap.get? p.1=some p.2/\H p.1=none/\p.1≠X.env.locals/\p.1∉X.fs/\∀v,p.2.data≠.cell v
 hok:dN X.prog X.w H s.heap
 len:σ.length=X.N.length
section
variable {X:Cx} {pins:List (Addr × Obj)} {σ:List (Option V)} {H H':Hp} {s:Shared} {h':Heap}
theorem Cx.Ok.nofr (ok:X.Ok) (e:X.base.get? b=some o):b∉X.fs:=λhb=>by
 have:=(ok.funs.mem hb).1;rw[e] at this;cases this
theorem Inv.bs (I:Inv X pins σ H s):∀b o,X.base.get? b=some o->s.heap.get? b=some o/\H b=none:=λb o e=>
 ⟨I.base.keep b o (I.ok.bs b o e).1 (I.ok.bs b o e).2 (I.ok.nofr e) (I.ok.noex b o e),I.base.free b o (I.ok.bs b o e).1 (I.ok.bs b o e).2 (I.ok.noex b o e)⟩
theorem Inv.bk (I:Inv X pins σ H s):∀b o,X.base.get? b=some o->s.heap.get? b=some o:=λb o e=>(I.bs b o e).1
theorem Inv.mod (I:Inv X pins σ H s):Mod X.K X.mg X.base:=I.ok.mod
theorem Inv.kIn (I:Inv X pins σ H s):X.K.In s.heap:=I.ok.mod.kin.keeps I.bk
theorem Inv.nolimit (I:Inv X pins σ H s):s.heap.NoLimit:=I.ok.mod.nolimit.keeps I.bk
theorem Inv.lt (I:Inv X pins σ H s):X.env.locals<s.heap.objs.size:=let ⟨_,hn,_⟩:=I.loc;hn.lt
theorem Inv.sz (I:Inv X pins σ H s):X.s₀.heap.objs.size<=s.heap.objs.size:=Nat.le_trans I.ok.above (le_of_lt I.lt)
theorem Inv.nofs (I:Inv X pins σ H s) (h:s.heap.objs.size<=a):a∉X.fs:=λhb=>by
 obtain ⟨_,o,ho,_⟩:=I.ok.funs.mem hb;exact absurd (lt_of_lt_of_le (lt_size ho) (Nat.le_trans I.sz h)) (lt_irrefl _)
theorem Inv.cne (I:Inv X pins σ H s):∀x c,X.env.cells.lookup x=some c->c≠X.env.locals:=λx c e z=>by
 obtain ⟨v,o,ho,hd⟩:=I.cell x c e;obtain ⟨m,⟨o',es,ep,ho',hd',_⟩,_⟩:=I.loc;rw[z,ho'] at ho;cases ho;rw[hd'] at hd;cases hd
theorem Inv.funs (I:Inv X pins σ H s):s.heap.FunFrames X.base X.outer:=by
 have all:∀(l:List Env),(∀b∈dC l,b∈X.fs)->X.s₀.heap.FunFrames X.base l->s.heap.FunFrames X.base l:=by
  intro l;induction l with
  |nil=>intro _ _;trivial
  |cons env r ih=>
   intro hs hl;obtain ⟨hk,⟨L,o,hf,hn,ho,hd⟩,hr⟩:=hl;have hL:L∈X.fs:=hs L (by unfold dC;rw[List.filterMap_cons,hf];exact mem_cons_self);obtain ⟨sl,e⟩:=I.base.slot L o ho (I.ok.frf L hL) hL λz=>I.ok.exfs L z hL;exact ⟨hk,⟨L,_,hf,hn,e,hd⟩,ih (λb hb=>hs b (by unfold dC;rw[List.filterMap_cons,hf];exact mem_cons_of_mem _ hb)) hr⟩
 exact all X.outer (λ_ hb=>hb) I.ok.funs
theorem Inv.stack (I:Inv X pins σ H s):s.heap.FunFrames X.base X.stack:=by
 rcases I.ok.stk with e|⟨e,hf⟩
 ·rw[e];exact I.funs
 ·rw[e];obtain ⟨m,hn,_⟩:=I.loc;refine .cons (by rw[I.ok.kind];decide) hf hn ?_ I.funs;exact get?_none_of_le (Nat.le_trans I.ok.bsz I.ok.above)
theorem Inv.stkSub (I:Inv X pins σ H s):∀b∈dC X.stack,b∈X.env.locals::X.fs:=λb hb=>by
 rcases I.ok.stk with e|⟨e,hf⟩
 ·rw[e] at hb;exact mem_cons_of_mem _ hb
 ·rw[e] at hb;unfold dC at hb;rw[List.filterMap_cons,hf] at hb;exact hb
theorem Inv.stkFree (I:Inv X pins σ H s):∀b∈dC X.stack,H b=none:=λb hb=>by
 rcases mem_cons.mp (I.stkSub b hb) with e|hb
 ·rw[e];exact I.free
 ·obtain ⟨_,o,ho,_⟩:=I.ok.funs.mem hb;exact I.base.free b o ho (I.ok.frf b hb) λz=>I.ok.exfs b z hb
theorem Inv.step {g':Array GenState} {t':Nat} {d':Drawn} {ch:List Addr} (I:Inv X pins σ H s)
  (hch:∀b∈ch,(b∈X.ex\/X.s₀.heap.objs.size<=b)/\b≠X.env.locals/\(∀x c,X.env.cells.lookup x=some c->c≠b)/\∀p∈X.pn++pins,p.1≠b)
  (keep:∀b o,b≠X.env.locals->b∉X.fs->b∉ch->s.heap.get? b=some o->H b=none->h'.get? b=some o)
  (slot:∀b o,b≠X.env.locals->b∈X.fs->b∉ch->s.heap.get? b=some o->H b=none->∃sl,h'.get? b=some {o with slots:=sl}) (free:∀b o,b∉ch->s.heap.get? b=some o->H b=none->H' b=none)
  (there:∀b o,b∉ch->s.heap.get? b=some o->∃o',h'.get? b=some o')
  (tups:∀b xs,H b=some (.tup xs)->H' b=some (.tup xs)) (frzs:∀b o u,H b=some (.frz o u)->H' b=some (.frz o u)) (tbls:∀b ps,H b=some (.tbl ps)->∃more,H' b=some (.tbl (ps++more)))
  (ns:∀m,s.heap.Ns X.env.locals m->h'.Ns X.env.locals m) (hok:dN X.prog X.w H' h') (hg:AllBare g'):
  Inv X pins σ H' {s with heap:=h',gens:=g',drawn:=d',toks:=t'}:=by
 have neL:∀b o,X.s₀.heap.get? b=some o->b≠X.env.locals:=λb o e=>ne_of_lt (lt_of_lt_of_le (lt_size e) I.ok.above);have neC:∀b o,X.s₀.heap.get? b=some o->b∉X.ex->b∉ch:=λb o e hx hb=>by
  rcases (hch b hb).1 with z|z
  ·exact hx z
  ·exact absurd (lt_of_lt_of_le (lt_size e) z) (lt_irrefl _)
 have cellK:∀x c,X.env.cells.lookup x=some c->∀v,s.heap.IsCell c v->h'.IsCell c v:=λx c e v ⟨o,ho,hd⟩=>by
  have nch:c∉ch:=λz=>(hch c z).2.2.1 x c e rfl;by_cases hc:c∈X.fs
  ·obtain ⟨sl,q⟩:=slot c o (I.cne x c e) hc nch ho (I.freeC x c e);exact ⟨_,q,hd⟩
  ·exact ⟨o,keep c o (I.cne x c e) hc nch ho (I.freeC x c e),hd⟩
 refine ⟨I.ok,I.os,hg,⟨λb o e n hb hx=>?_,λb o e n hb hx=>?_,λb o e n hx=>?_,λb o e hx=>?_,λb xs e=>tups b xs (I.base.tups b xs e),λb o xs e=>frzs b o xs (I.base.frzs b o xs e),λb ps e=>?_⟩,?_,λx c e=>?_,?_,λx c e=>?_,λp hp=>?_,hok,I.len⟩
 ·exact keep b o (neL b o e) hb (neC b o e hx) (I.base.keep b o e n hb hx) (I.base.free b o e n hx)
 ·obtain ⟨sl,e1⟩:=I.base.slot b o e n hb hx;obtain ⟨sl',e2⟩:=slot b _ (neL b o e) hb (neC b o e hx) e1 (I.base.free b o e n hx);exact ⟨sl',e2⟩
 ·obtain ⟨o',e1⟩:=I.base.there b o e hx;exact free b o' (neC b o e hx) e1 (I.base.free b o e n hx)
 ·obtain ⟨o',e1⟩:=I.base.there b o e hx;exact there b o' (neC b o e hx) e1
 ·obtain ⟨m1,e1⟩:=I.base.tbls b ps e;obtain ⟨m2,e2⟩:=tbls b _ e1;exact ⟨m1++m2,by rw[e2,Array.append_assoc]⟩
 ·obtain ⟨m,hn,hl⟩:=I.loc;refine ⟨m,ns m hn,λi x v e1 e2 e3=>?_⟩;obtain ⟨u,r,l⟩:=hl i x v e1 e2 e3;refine ⟨u,r,?_⟩;rcases l with l|⟨k,c,e,z⟩
  ·exact .inl l
  ·exact .inr ⟨k,c,e,cellK x c e _ z⟩
 ·obtain ⟨v,z⟩:=I.cell x c e;exact ⟨v,cellK x c e v z⟩
 ·obtain ⟨m,⟨o,_,_,ho,_⟩,_⟩:=I.loc;exact free _ o (λz=>(hch _ z).2.1 rfl) ho I.free
 ·obtain ⟨v,o,ho,hd⟩:=I.cell x c e;exact free c o (λz=>(hch c z).2.2.1 x c e rfl) ho (I.freeC x c e)
 ·obtain ⟨e,n,ne,nf,d⟩:=I.pin p hp;have nch:p.1∉ch:=λz=>(hch p.1 z).2.2.2 p hp rfl;exact ⟨keep p.1 p.2 ne nf nch e n,free p.1 p.2 nch e n,ne,nf,d⟩
theorem Inv.un {t':Nat} (I:Inv X pins σ H s) (u:Un X.fs [] H H' s.heap h') (hok:dN X.prog X.w H' h'):Inv X pins σ H' {s with heap:=h',toks:=t'}:=by
 obtain ⟨m,⟨o,es,ep,ho,r⟩,_⟩:=id I.loc;obtain ⟨sl,hL⟩:=u.any ho I.free (by simp);exact I.step (g':=s.gens) (d':=s.drawn) (ch:=[]) (λ_ z=>nomatch z) (λb o _ hb _ e n=>u.keep b o e n hb (by simp)) (λb o _ hb _ e n=>u.slot b o e n hb (by simp)) (λb o _ e n=>u.free b o e n (by simp)) (λb o _ e=>u.there b o e (by simp)) u.tups u.frzs u.tbls (λm' hm=>by
  obtain ⟨o',es',ep',ho',r'⟩:=hm
  rw[ho] at ho';cases ho'
  exact ⟨_,es',ep',hL,r'⟩) hok I.bare
theorem Inv.call {g':Array GenState} {t':Nat} {d':Drawn} {ch:List Addr} (I:Inv X pins σ H s) (u:Un (dC X.stack) ch H H' s.heap h') (hok:dN X.prog X.w H' h') (hg:AllBare g')
  (hch:∀b∈ch,(b∈X.ex\/X.s₀.heap.objs.size<=b)/\b≠X.env.locals/\(∀x c,X.env.cells.lookup x=some c->c≠b)/\∀p∈X.pn++pins,p.1≠b):
  Inv X pins σ H' {s with heap:=h',gens:=g',drawn:=d',toks:=t'}:=by
 obtain ⟨m,⟨o,es,ep,ho,r⟩,_⟩:=id I.loc;obtain ⟨sl,hL⟩:=u.any ho I.free λz=>(hch _ z).2.1 rfl;exact I.step (ch:=ch) hch (λb o hL hb hc e n=>u.keep b o e n (λz=>(mem_cons.mp (I.stkSub b z)).elim hL hb) hc) (λb o _ _ hc e n=>u.any e n hc) (λb o hc e n=>u.free b o e n hc) (λb o hc e=>u.there b o e hc) u.tups u.frzs u.tbls (λm' hm=>by
  obtain ⟨o',es',ep',ho',r'⟩:=hm
  rw[ho] at ho';cases ho'
  exact ⟨_,es',ep',hL,r'⟩) hok hg
theorem Inv.turned {t':Nat} {it:Addr} (I:Inv X pins σ H s) (k:∀b o,b≠it->s.heap.get? b=some o->h'.get? b=some o) (hn:H it=none) (hL:it≠X.env.locals)
  (h1:it∈X.ex\/X.s₀.heap.objs.size<=it) (h2:∀x c,X.env.cells.lookup x=some c->c≠it) (h3:∀p∈X.pn++pins,p.1≠it):Inv X pins σ H {s with heap:=h',toks:=t'}:=by
 have nit:∀b u,H b=some u->b≠it:=λb u e z=>by rw[z,hn] at e;cases e
 refine I.step (g':=s.gens) (d':=s.drawn) (ch:=[it]) (λb hb=>?_) (λb o _ _ hc e _=>k b o (λz=>hc (by simp [z])) e) (λb o _ _ hc e _=>⟨o.slots,k b o (λz=>hc (by simp [z])) e⟩) (λ_ _ _ _ n=>n)
  (λb o hc e=>⟨o,k b o (λz=>hc (by simp [z])) e⟩) (λ_ _ e=>e) (λ_ _ _ e=>e) (λb ps e=>⟨#[],by rw[e];simp⟩) (λm hm=>?_) (λb u e=>?_) I.bare
 ·have e:b=it:=by simpa using hb
  subst e;exact ⟨h1,hL,h2,h3⟩
 ·obtain ⟨o,es,ep,ho,r⟩:=hm;exact ⟨o,es,ep,k _ o (Ne.symm hL) ho,r⟩
 ·refine (I.hok b u e).stay (λc v hc q=>k c v ?_ q) (λ_ q=>q) λ_ _ q=>q;rcases hc with z|z
  ·rw[z];exact nit b u e
  ·exact nit c _ z
theorem Inv.tok (I:Inv X pins σ H s) (t:Nat):Inv X pins σ H {s with toks:=t}:=I.un (h':=s.heap) (t':=t) Un.refl I.hok
theorem Inv.kept {t':Nat} (I:Inv X pins σ H s) (k:∀b u,s.heap.get? b=some u->h'.get? b=some u):Inv X pins σ H {s with heap:=h',toks:=t'}:=I.un (Un.kept k) (I.hok.kept k)
theorem Inv.laid {a:Addr} {o:HO} {t':Nat} (I:Inv X pins σ H s) (k:∀b u,s.heap.get? b=some u->h'.get? b=some u) (hp:s.heap.objs.size<=a) (new:aX X.prog X.w (upd H a o) h' a o):
  Inv X pins σ (upd H a o) {s with heap:=h',toks:=t'}:=I.un (Un.laid k hp (I.hok.fresh hp)) (I.hok.laid k hp new)
theorem Inv.write (I:Inv X pins σ H s) (mu:Nq (H x)) (he:e=x\/H e=some (.own x)) (k:∀b u,b≠e->s.heap.get? b=some u->h'.get? b=some u) (heo:∃u,h'.get? e=some u)
  (new:aX X.prog X.w (upd H x o) h' x o):Inv X pins σ (upd H x o) {s with heap:=h',toks:=t'}:=I.un (Un.write mu he k heo) (I.hok.write mu he k heo new)
theorem Inv.pins_of (I:Inv X pins σ H s) (h:∀p∈pins',s.heap.get? p.1=some p.2/\H p.1=none/\p.1≠X.env.locals/\p.1∉X.fs/\∀v,p.2.data≠.cell v):Inv X pins' σ H s:=
 ⟨I.ok,I.os,I.bare,I.base,I.loc,I.cell,I.free,I.freeC,λp hp=>(mem_append.mp hp).elim (λz=>I.pin p (mem_append_left _ z)) (h p),I.hok,I.len⟩
theorem AI {N:List Str} (hN:N.Nodup) {i j:Nat} {x:Str} (a:N[i]?=some x) (b:N[j]?=some x):i=j:=by
 obtain ⟨h1,e1⟩:=List.getElem?_eq_some_iff.mp a;obtain ⟨h2,e2⟩:=List.getElem?_eq_some_iff.mp b;exact (List.getElem_inj hN).mp (e1.trans e2.symm)
theorem uK (I:Inv X pins σ H s) (hN:X.N.Nodup) (hi:X.N[i]?=some x) (hx:Loc X.env.scope x) (r:RelV v u)
  (h:∀s',Inv X pins (σ.set i (some v)) H s'->(∃a,SameBut a s.heap s'.heap/\(a=X.env.locals\/X.env.cells.lookup x=some a))->Q () s') (hf:X.fn x=true\/X.env.scope.names.lookup x=some .local:=by first|exact .inl rfl|exact .inr rfl|assumption):wpAny M A (storeName X.env x u) Q E s:=by
 obtain ⟨m,hn,hl⟩:=id I.loc;have hcls:(X.env.scope.kind==.class || (X.env.scope.kind==.module&&X.env.locals != X.env.globals))=false:=by rw[I.ok.kind];rfl
 have hiσ:i<σ.length:=by rw[I.len];exact (List.getElem?_eq_some_iff.mp hi).1
 have cne:=I.cne;have tracked:∀{a:Addr} {h':Heap},(∃o,s.heap.get? a=some o/\H a=none)->SameBut a s.heap h'->dN X.prog X.w H h':=λ{a h'} ha hs b ob e=>by
  obtain ⟨_,_,hfree⟩:=ha;refine (I.hok b ob e).stay (λc w' hc q=>(hs.2 c ?_).trans q) (λ_ q=>q) λ_ _ q=>q;rintro rfl;rcases hc with rfl|hc
  ·rw[hfree] at e;cases e
  ·rw[hfree] at hc;cases hc
 rcases hx with hk|hk
 ·refine wpAny_storeName_local hk hn (λh' hn' hs=>?_) hcls;obtain ⟨oL,_,_,hoL,_⟩:=id hn;refine h _ ⟨I.ok,I.os,I.bare,⟨λb o e n hb hx=>?_,λb o e n hb hx=>?_,I.base.free,λb o e hx=>?_,I.base.tups,I.base.frzs,I.base.tbls⟩,⟨_,hn',λj y v' e1 e2 e3=>?_⟩,λy c e=>?_,I.free,I.freeC,λp hp=>?_,tracked ⟨oL,hoL,I.free⟩ hs,by simpa using I.len⟩ ⟨_,hs,.inl rfl⟩
  ·exact (hs.2 b (ne_of_lt (lt_of_lt_of_le (lt_size e) I.ok.above))).trans (I.base.keep b o e n hb hx)
  ·obtain ⟨sl,e1⟩:=I.base.slot b o e n hb hx;exact ⟨sl,(hs.2 b (ne_of_lt (lt_of_lt_of_le (lt_size e) I.ok.above))).trans e1⟩
  ·obtain ⟨o',e1⟩:=I.base.there b o e hx;exact ⟨o',(hs.2 b (ne_of_lt (lt_of_lt_of_le (lt_size e) I.ok.above))).trans e1⟩
  ·by_cases hj:j=i
   ·subst hj;rw[hi] at e1;cases e1;rw[List.getElem?_set_self hiσ] at e2;cases e2;exact ⟨u,r,.inl ⟨hk,by simp⟩⟩
   ·rw[List.getElem?_set_ne (Ne.symm hj)] at e2;obtain ⟨u',r',q⟩:=hl j y v' e1 e2 e3;refine ⟨u',r',?_⟩;rcases q with ⟨k,e⟩|⟨k,c,e,z⟩
    ·refine .inl ⟨k,?_⟩;have:y≠x:=λe=>hj (AI hN e1 (e▸hi));simp [this,e]
    ·exact .inr ⟨k,c,e,z.sameBut hs (cne y c e)⟩
  ·obtain ⟨w',z⟩:=I.cell y c e;exact ⟨w',z.sameBut hs (cne y c e)⟩
  ·obtain ⟨e,n,ne,nf,d⟩:=I.pin p hp;exact ⟨(hs.2 p.1 ne).trans e,n,ne,nf,d⟩
 ·have hfn:X.fn x=true:=by
   rcases hf with z|z
   ·exact z
   ·rw[z] at hk;cases hk
  obtain ⟨c,hc⟩:=I.ok.has x (.inl hk);obtain ⟨w',z⟩:=I.cell x c hc;refine wpAny_storeName_cell I.ok.kind hk hc z (λh' hc' hs=>?_);obtain ⟨oc,hoc,hocd⟩:=id z;refine h {s with heap:=h'} ⟨I.ok,I.os,I.bare,⟨λb o e n hb hx=>?_,λb o e n hb hx=>?_,I.base.free,λb o e hx=>?_,I.base.tups,I.base.frzs,I.base.tbls⟩,⟨m,hn.sameBut hs (Ne.symm (cne x c hc)),λj y v' e1 e2 e3=>?_⟩,λy c' e=>?_,I.free,I.freeC,λp hp=>?_,tracked ⟨oc,hoc,I.freeC x c hc⟩ hs,by simpa using I.len⟩ ⟨c,hs,.inr hc⟩
  ·exact (hs.2 b (ne_of_lt (lt_of_lt_of_le (lt_size e) (I.ok.cab x c hfn hc)))).trans (I.base.keep b o e n hb hx)
  ·obtain ⟨sl,e1⟩:=I.base.slot b o e n hb hx;exact ⟨sl,(hs.2 b (ne_of_lt (lt_of_lt_of_le (lt_size e) (I.ok.cab x c hfn hc)))).trans e1⟩
  ·obtain ⟨o',e1⟩:=I.base.there b o e hx;exact ⟨o',(hs.2 b (ne_of_lt (lt_of_lt_of_le (lt_size e) (I.ok.cab x c hfn hc)))).trans e1⟩
  ·by_cases hj:j=i
   ·subst hj;rw[hi] at e1;cases e1;rw[List.getElem?_set_self hiσ] at e2;cases e2;exact ⟨u,r,.inr ⟨.inl hk,c,hc,hc'⟩⟩
   ·rw[List.getElem?_set_ne (Ne.symm hj)] at e2;obtain ⟨u',r',q⟩:=hl j y v' e1 e2 e3;refine ⟨u',r',?_⟩;rcases q with q|⟨k,c',e,z'⟩
    ·exact .inl q
    ·refine .inr ⟨k,c',e,z'.sameBut hs ?_⟩;rintro rfl;exact hj (AI hN e1 (I.ok.inj _ _ _ e hc▸hi))
  ·by_cases hcc:c'=c
   ·subst hcc;exact ⟨_,hc'⟩
   ·obtain ⟨w2,z2⟩:=I.cell y c' e;exact ⟨w2,z2.sameBut hs hcc⟩
  ·obtain ⟨e,n,ne,nf,d⟩:=I.pin p hp;refine ⟨(hs.2 p.1 ?_).trans e,n,ne,nf,d⟩;intro q;rw[q,hoc] at e;have q':oc=p.2:=Option.some.inj e;exact d w' (by rw[<-q'];exact hocd)
theorem lQ {M:Model} {A:Around} {E:Value->Shared->Prop} {i:Nat} {x:Str} {v:V} {u:Value} {Q:Unit->Shared->Prop} (I:Inv X pins σ H s) (hN:X.N.Nodup) (hi:X.N[i]?=some x) (hx:Loc X.env.scope x) (r:RelV v u)
  (h:∀s',Inv X pins (σ.set i (some v)) H s'->Q () s') (hf:X.fn x=true\/X.env.scope.names.lookup x=some .local:=by first|exact .inl rfl|exact .inr rfl|assumption):wpAny M A (storeName X.env x u) Q E s:=
 uK I hN hi hx r (λs' I' _=>h s' I') hf
theorem Inv.call' (I:Inv X pins σ H s) (ho:s'.os=s.os) (u:Un (dC X.stack) ch H H' s.heap s'.heap) (hok:dN X.prog X.w H' s'.heap) (hg:AllBare s'.gens)
  (hch:∀b∈ch,(b∈X.ex\/X.s₀.heap.objs.size<=b)/\b≠X.env.locals/\(∀x c,X.env.cells.lookup x=some c->c≠b)/\∀p∈X.pn++pins,p.1≠b):Inv X pins σ H' s':=by
 obtain ⟨h',g',d',t',o'⟩:=s';have e:o'=s.os:=ho;subst e;exact I.call (g':=g') (t':=t') (d':=d') u hok hg hch
end
abbrev XK:=Value->Option Addr->Hp->Prop
abbrev St:=List (Option V)
abbrev VK:=V->Hp->Prop
abbrev TE:=St->Hp->VK->Prop
abbrev TT:=St->Hp->(Bool->Hp->Prop)->Prop
abbrev TA:=St->Hp->(List V->Hp->Prop)->Prop
structure Ends where
 nx:St->Hp->Prop
 rt:VK
 bk:St->Hp->Prop:=λ_ _=>False
 ct:St->Hp->Prop:=λ_ _=>False
abbrev TS:=Ends->St->Hp->Prop
def EP (X:Cx) (pins:List (Addr × Obj)) (σ:St) (Q:VK) (u:Value) (s':Shared):Prop:=∃v H',Inv X pins σ H' s'/\RelV v u/\Q v H'
def TP (X:Cx) (pins:List (Addr × Obj)) (σ:St) (Q:Bool->Hp->Prop) (b:Bool) (s':Shared):Prop:=∃H',Inv X pins σ H' s'/\Q b H'
def AP (X:Cx) (pins:List (Addr × Obj)) (σ:St) (Q:List V->Hp->Prop) (us:List Value) (s':Shared):Prop:=∃vs H',Inv X pins σ H' s'/\Vals vs us/\Q vs H'
def SP (X:Cx) (pins:List (Addr × Obj)) (D:Ends) (f:Flow) (s':Shared):Prop:=
 match f with
 | .next=>∃σ' H',Inv X pins σ' H' s'/\D.nx σ' H'
 | .brk=>∃σ' H',Inv X pins σ' H' s'/\D.bk σ' H'
 | .cont=>∃σ' H',Inv X pins σ' H' s'/\D.ct σ' H'
 | .ret u=>∃v σ' H',Inv X pins σ' H' s'/\RelV v u/\D.rt v H'
def PE (X:Cx) (e:Expr) (t:TE):Prop:=
 ∀(pins:List (Addr × Obj)) (s:Shared) (σ:St) (H:Hp) (Q:VK),Inv X pins σ H s->t σ H Q->wpAny (model X.prog X.w) X.A (eval e X.env) (EP X pins σ Q) X.xe s
def PT (X:Cx) (e:Expr) (t:TT):Prop:=
 ∀(pins:List (Addr × Obj)) (s:Shared) (σ:St) (H:Hp) (Q:Bool->Hp->Prop),Inv X pins σ H s->t σ H Q->wpAny (model X.prog X.w) X.A (isTrue e X.env (eval e X.env)) (TP X pins σ Q) X.xe s
def PW (X:Cx) (e:Expr) (t:TT):Prop:=
 ∀(whole:Sem Value) (pins:List (Addr × Obj)) (s:Shared) (σ:St) (H:Hp) (Q:Bool->Hp->Prop),Inv X pins σ H s->t σ H Q->wpAny (model X.prog X.w) X.A (isTrue e X.env whole) (TP X pins σ Q) X.xe s
theorem PW.pt {X:Cx} {e:Expr} {t:TT} (h:PW X e t):PT X e t:=h _
def PA (X:Cx) (es:List Expr) (t:TA):Prop:=
 ∀(pos:Pos) (pins:List (Addr × Obj)) (s:Shared) (σ:St) (H:Hp) (Q:List V->Hp->Prop),Inv X pins σ H s->t σ H Q->wpAny (model X.prog X.w) X.A (spliced (backTo pos (starEach es X.env))) (AP X pins σ Q) X.xe s
def PS (X:Cx) (st:Stmt) (t:TS):Prop:=
 ∀(pins:List (Addr × Obj)) (s:Shared) (σ:St) (H:Hp) (D:Ends),Inv X pins σ H s->t D σ H->wpAny (model X.prog X.w) X.A (exec st X.env) (SP X pins D) X.xe s
def ZQ (X:Cx) (st:List Stmt) (t:TS):Prop:=
 ∀(pins:List (Addr × Obj)) (s:Shared) (σ:St) (H:Hp) (D:Ends),Inv X pins σ H s->t D σ H->wpAny (model X.prog X.w) X.A (execs st X.env) (SP X pins D) X.xe s
theorem bH {α:Type} {t:Sem α} {Q Q':α->Shared->Prop} {M:Model} {A:Around} {E:Value->Shared->Prop} {s:Shared} (h:wpAny M A t Q E s) (hQ:∀a s,Q a s->Q' a s):wpAny M A t Q' E s:=wpAny_mono h hQ λ_ _ x=>x
section
variable {X:Cx}
def Pd (i:Nat):TE:=λσ H Q=>∃v,σ[i]?=some (some v)/\Q v H
def tC (v:V):TE:=λ_ H Q=>Q v H
theorem Cd (hN:X.N[i]?=some x) (hv:Om X.env.scope x) (hd:(x==("__debug__":Str))=false:=by decide) (hcd:(x==("__classdict__":Str))=false:=by decide):PE X (.Name x pos) (Pd i):=by
 intro pins s σ H Q I h;obtain ⟨v,e,h⟩:=h;obtain ⟨m,hn,hl⟩:=I.loc;obtain ⟨u,r,l⟩:=hl i x v hN e hv;have fin:EP X pins σ Q u s:=⟨v,H,I,r,h⟩;rcases l with ⟨hk,hm⟩|⟨hk,c,hc,hcell⟩
 ·exact wpAny_Name (wpAny_loadName_local I.ok.kind hk hn hm fin) hd
 ·rcases hk with hk|hk
  ·exact wpAny_Name (wpAny_loadName_cell I.ok.kind hk hc hcell fin) hd
  ·exact wpAny_Name (wpAny_loadName_free I.ok.kind hk hc hcell fin hcd) hd
theorem Ck {i j pos}:PE X (.Constant (.int i) j pos) (tC (.int i)):=λ_ _ _ H _ I h=>wpAny_Constant_int ⟨.int i,H,I.tok _,⟨_,rfl⟩,h⟩
theorem Jz {b j pos}:PE X (.Constant (.bool b) j pos) (tC (.bl b)):=λ_ _ _ H _ I h=>Constant_bool ⟨.bl b,H,I,rfl,h⟩
theorem Ci {j pos}:PE X (.Constant .none j pos) (tC .non):=λ_ _ _ H _ I h=>Constant_none ⟨.non,H,I,rfl,h⟩
theorem Cf {x j pos}:PE X (.Constant (.str x) j pos) (tC (.str x)):=λ_ _ _ H _ I h=>Calls.Constant_str ⟨.str x,H,I.tok _,⟨_,rfl⟩,h⟩
def Gl (X:Cx) (x:Str):Prop:=X.env.kindOf x=some .globalImplicit
theorem dQ {E:Value->Shared->Prop} {pins:List (Addr × Obj)} {s:Shared} {σ:St} {H:Hp} {x:Str} {u:Value} {pos:Pos} {Q:Value->Shared->Prop} (I:Inv X pins σ H s) (hg:Gl X x) (hm:X.mg x=some u) (h:Q u s)
  (hd:(x==("__debug__":Str))=false:=by decide):wpAny (model X.prog X.w) X.A (eval (.Name x pos) X.env) Q E s:=
 Calls.Name_function_global I.ok.kind hg (Calls.loadGlobal_global (by rw[I.ok.glob];exact I.mod.glob.keeps I.bk) hm h) hd
theorem fL {E:Value->Shared->Prop} {pins:List (Addr × Obj)} {s:Shared} {σ:St} {H:Hp} {x:Str} {u:Value} {pos:Pos} {Q:Value->Shared->Prop} (I:Inv X pins σ H s) (hg:Gl X x) (hm:X.mg x=none) (hv:bootBuiltins x=some u) (h:Q u s)
  (hn:x≠"__name__":=by decide) (hd:(x==("__debug__":Str))=false:=by decide):wpAny (model X.prog X.w) X.A (eval (.Name x pos) X.env) Q E s:=by
 obtain ⟨mb,h1,h2⟩:=I.mod.blt;exact Calls.Name_function_global I.ok.kind hg (Calls.loadGlobal_builtin (by rw[I.ok.glob];exact I.mod.glob.keeps I.bk) hm (by rw[I.ok.blt];exact h1.keeps I.bk) ((h2 x hn).trans hv) h) hd
theorem UN (hg:Gl X x) (hm:X.mg x=some u) (r:RelV v u) (hd:(x==("__debug__":Str))=false:=by decide):PE X (.Name x pos) (tC v):=
 λ_ _ _ H _ I h=>dQ I hg hm ⟨v,H,I,r,h⟩ hd
theorem UQ (hg:Gl X x) (hm:X.mg x=none) (hv:bootBuiltins x=some u) (r:RelV v u) (hn:x≠"__name__":=by decide) (hd:(x==("__debug__":Str))=false:=by decide):PE X (.Name x pos) (tC v):=
 λ_ _ _ H _ I h=>fL I hg hm hv ⟨v,H,I,r,h⟩ hn hd
variable {a b:Expr} {ta tb:TE} {pos:Pos}
variable {tA tB':TT} {rest:List Expr}
def Pf (t:TT):TT:=λσ H Q=>t σ H λc H1=>Q (!c) H1
theorem UH (ha:PT X a tA):PW X (.BoolOp .And [a] pos) tA:=by
 intro wh pins s σ H Q I h;refine isTrue_and (bH (ha pins s σ H Q I h) λc s1 e=>?_);cases c with
 |true=>exact isTrue_and_nil e
 |false=>exact e
theorem Bs (ha:PT X a tA):PW X (.BoolOp .Or [a] pos) tA:=by
 intro wh pins s σ H Q I h;refine isTrue_or (bH (ha pins s σ H Q I h) λc s1 e=>?_);cases c with
 |false=>exact isTrue_or_nil e
 |true=>exact e
theorem Bv (ha:PT X a tA):PT X (.UnaryOp .Not a pos) (Pf tA):=by
 intro pins s σ H Q I h;exact isTrue_not (ha pins s σ H (λc H1=>Q (!c) H1) I h)
theorem Cg {op} (h:PE X a t):PE X (.BoolOp op [a] pos) t:=λpins s σ H Q I hw=>BoolOp_one (h pins s σ H Q I hw)
end
def aH (K:Fg) (H:Hp) (a:Addr) (xs:List V):Prop:=
 Rd H a (.lst xs)\/
  ∃(o:Obj) (its:Array Value) (n:Nat),K.lookup a=some o/\o.cls=.type "list"/\o.dict=none/\o.data=.seq its n/\its.size<=sizeLine/\Vals xs its.toList
def bX (K:Fg) (H:Hp) (a:Addr) (xs:List V):Prop:=
 Rd H a (.tup xs)\/
  ∃(o:Obj) (its:Array Value) (n:Nat),K.lookup a=some o/\o.cls=.type "tuple"/\o.data=.seq its n/\its.size<=sizeLine/\Vals xs its.toList
def Qy:Value->Option V
 | .none=>some .non
 | .bool b=>some (.bl b)
 | .int i _=>some (.int i)
 | .str x _=>some (.str x)
 | .bytes b _=>some (.byt b)
 | .float b _=>some (.flt b)
 | .ref a=>some (.ref a)
 | .type n=>some (.ty n)
 |_=>none
theorem RelV.abs (r:RelV x u):Qy u=some x:=by
 cases x with
 |non=>cases r;rfl
 |bl _=>cases r;rfl
 |int _=>obtain ⟨t,rfl⟩:=r;rfl
 |str _=>obtain ⟨t,rfl⟩:=r;rfl
 |byt _=>obtain ⟨t,rfl⟩:=r;rfl
 |flt _=>obtain ⟨t,rfl⟩:=r;rfl
 |ref _=>cases r;rfl
 |ty _=>cases r;rfl
theorem RelV.inj {x y:V} {u:Value} (r:RelV x u) (q:RelV y u):x=y:=Option.some.inj (r.abs.symm.trans q.abs)
theorem Vals.inj:∀{xs ys:List V} {us:List Value},Vals xs us->Vals ys us->xs=ys
 |_,_,_,.nil,.nil=>rfl
 |_,_,_,.cons r t,.cons r' t'=>by rw[r.inj r',Vals.inj t t']
section
variable {X:Cx} {pins:List (Addr × Obj)} {σ:St} {H:Hp} {s:Shared} {a:Addr} {xs ys:List V}
theorem aH.of {K:Fg} (h:H a=some (.lst xs)):aH K H a xs:=.inl (.inl h)
theorem bX.of {K:Fg} (h:H a=some (.tup xs)):bX K H a xs:=.inl (.inl h)
theorem Inv.list (I:Inv X pins σ H s) (h:aH X.K H a xs):∃its:List Value,Vals xs its/\PlainL s.heap a its.toArray/\xs.length<=sizeLine:=by
 rcases h with h|⟨o,its,n,hk,hc,hd,hs,hz,r⟩
 ·obtain ⟨z,its,n,r,e⟩:=h.ok I.hok;exact ⟨its,r,⟨_,n,e,rfl,rfl,rfl⟩,z⟩
 ·refine ⟨its.toList,r,⟨o,n,I.kIn a o hk,hc,hd,by simpa using hs⟩,?_⟩;have e:=r.length;simp only [length_toList] at e;lia
theorem Inv.tuple (I:Inv X pins σ H s) (h:bX X.K H a xs):∃its:List Value,Vals xs its/\IsTup s.heap a its.toArray/\xs.length<=sizeLine:=by
 rcases h with h|⟨o,its,n,hk,hc,hs,hz,r⟩
 ·obtain ⟨z,its,r,p⟩:=h.ok I.hok;exact ⟨its,r,p,z⟩
 ·refine ⟨its.toList,r,⟨o,I.kIn a o hk,hc,n,by simpa using hs⟩,?_⟩;have e:=r.length;simp only [length_toList] at e;lia
theorem Inv.list_inj (I:Inv X pins σ H s) (h:aH X.K H a xs) (h':aH X.K H a ys):xs=ys:=by
 obtain ⟨its,r,⟨o,n,e,_,_,d⟩,_⟩:=I.list h;obtain ⟨its',r',⟨o',n',e',_,_,d'⟩,_⟩:=I.list h';rw[e] at e';cases e';rw[d] at d';injection d' with d1 _
 have:its=its':=by simpa using congrArg Array.toList d1
 subst this;exact r.inj r'
theorem Inv.tuple_inj (I:Inv X pins σ H s) (h:bX X.K H a xs) (h':bX X.K H a ys):xs=ys:=by
 obtain ⟨its,r,⟨o,e,_,n,d⟩,_⟩:=I.tuple h;obtain ⟨its',r',⟨o',e',_,n',d'⟩,_⟩:=I.tuple h';rw[e] at e';cases e';rw[d] at d';injection d' with d1 _
 have:its=its':=by simpa using congrArg Array.toList d1
 subst this;exact r.inj r'
end
section
variable {X:Cx} {pins:List (Addr × Obj)} {σ:St} {H:Hp} {s:Shared} {E:Value->Shared->Prop}
end
section
variable {X:Cx} {st:Stmt} {rest:List Stmt} {t u:TS} {e:Expr} {te:TE} {pos:Pos}
def XZ:TS:=λD σ H=>D.nx σ H
def Im (t u:TS):TS:=λD σ H=>t {D with nx:=u D} σ H
theorem UI:ZQ X [] XZ:=λ_ _ σ H _ I h=>wpAny_execs_nil ⟨σ,H,I,h⟩
theorem MW (h1:PS X st t) (h2:ZQ X rest u):ZQ X (st::rest) (Im t u):=by
 intro pins s σ H D I h;refine wpAny_execs_cons (bH (h1 pins s σ H {D with nx:=u D} I h) λf s1 q=>?_);cases f with
 |next=>
  obtain ⟨σ',H',I',q⟩:=q;exact h2 pins s1 σ' H' D I' q
 |ret v=>exact q
 |brk=>exact q
 |cont=>exact q
theorem Inv.quiet {pins:List (Addr × Obj)} {σ:St} {H:Hp} {s:Shared} (I:Inv X pins σ H s):interactive X.env=false:=by simp [interactive,I.ok.kind]
def Iy (te:TE):TS:=λD σ H=>te σ H λ_ H1=>D.nx σ H1
theorem UJ (he:PE X e te) (hs:swapsWith e none pos.line X.env=pure false:=by rfl):PS X (.Expr e pos) (Iy te):=by
 intro pins s σ H D I h;exact wpAny_Expr_any (bH (he pins s σ H _ I h) λv s1 ⟨x,H1,I1,r1,q1⟩=>⟨σ,H1,I1,q1⟩) I.quiet hs
def Pe (te:TE):TS:=λD σ H=>te σ H D.rt
theorem Bw (he:PE X e te):PS X (.Return (some e) pos) (Pe te):=by
 intro pins s σ H D I h;exact wpAny_Return_some (bH (he pins s σ H _ I h) λv s1 ⟨x,H1,I1,r1,q1⟩=>⟨x,σ,H1,I1,r1,q1⟩)
end
abbrev TG:=V->St->Hp->(St->Hp->Prop)->Prop
abbrev Gg:=List V->St->Hp->(St->Hp->Prop)->Prop
def PG (X:Cx) (target:Expr) (t:TG):Prop:=
 ∀(pins:List (Addr × Obj)) (s:Shared) (σ:St) (H:Hp) (v:V) (u:Value) (Q:St->Hp->Prop),Inv X pins σ H s->RelV v u->t v σ H Q->
  wpAny (model X.prog X.w) X.A (assign target X.env u) (λ_ s'=>∃σ' H',Inv X pins σ' H' s'/\Q σ' H') X.xe s
def Np (X:Cx) (ts:List Expr) (t:Gg):Prop:=
 ∀(pins:List (Addr × Obj)) (s:Shared) (σ:St) (H:Hp) (vs:List V) (us:List Value) (Q:St->Hp->Prop),Inv X pins σ H s->Vals vs us->t vs σ H Q->
  wpAny (model X.prog X.w) X.A (assignInOrder ((assignEach ts X.env).map (·.2)) us) (λ_ s'=>∃σ' H',Inv X pins σ' H' s'/\Q σ' H') X.xe s
abbrev Gf:=V->V->V->Hp->(Hp->Prop)->Prop
def Gi (X:Cx) (t:Gf):Prop:=
 ∀(pins:List (Addr × Obj)) (s:Shared) (σ:St) (H:Hp) (o i v:V) (ov iv u:Value) (Q:Hp->Prop),Inv X pins σ H s->RelV o ov->RelV i iv->RelV v u->t o i v H Q->
  wpAny (model X.prog X.w) X.A (setItem ov iv u) (λ_ s'=>∃H',Inv X pins σ H' s'/\Q H') X.xe s
section
variable {X:Cx} {pos:Pos}
def GF (i:Nat):TG:=λv σ H Q=>Q (σ.set i (some v)) H
theorem FC (hN:X.N.Nodup) (hi:X.N[i]?=some x) (hx:Loc X.env.scope x) (hf:X.fn x=true\/X.env.scope.names.lookup x=some .local:=by first|exact .inl rfl|exact .inr rfl|assumption):PG X (.Name x pos) (GF i):=by
 intro pins s σ H v u Q I r h;exact wpAny_assign_Name (lQ I hN hi hx r (λs' I'=>⟨_,H,I',h⟩) hf)
def Ms:Gg:=λvs σ H Q=>vs=[]/\Q σ H
def ZG (t:TG) (u:Gg):Gg:=λvs σ H Q=>∃v r,vs=v::r/\t v σ H λσ' H'=>u r σ' H' Q
theorem UM:Np X [] Ms:=by
 intro pins s σ H vs us Q I r h;obtain ⟨e,h⟩:=h;subst e;cases r;exact assignInOrder_nil ⟨σ,H,I,h⟩
theorem NA {e:Expr} {es:List Expr} {t:TG} {u:Gg} (h1:PG X e t) (h2:Np X es u)
  (hs:(assignEach (e::es) X.env).map (·.2)=assign e X.env::(assignEach es X.env).map (·.2):=by rfl):Np X (e::es) (ZG t u):=by
 intro pins s σ H vs us Q I r h;obtain ⟨v,vr,e1,h⟩:=h;subst e1;cases r with
 |cons r rr=>
  rw[hs];refine assignInOrder_cons (bH (h1 pins s σ H _ _ _ I r h) λ_ s1 ⟨σ1,H1,I1,q1⟩=>?_);exact h2 pins s1 σ1 H1 _ _ Q I1 rr q1
def Mr (K:Fg) (n:Nat) (t:Gg):TG:=λv σ H Q=>∃a xs,v=.ref a/\bX K H a xs/\xs.length=n/\t xs σ H Q
theorem Cb (hc:X.calm=true) (h:Np X es t)
  (hn:(assignEach es X.env).length=n:=by rfl) (hst:(assignEach es X.env).findIdx? (·.1)=none:=by rfl):PG X (.Tuple es k pos) (Mr X.K n t):=by
 intro pins s σ H v u Q I r hw;obtain ⟨a,xs,e1,hq,hl,hw⟩:=hw;subst e1;cases r;obtain ⟨its,rv,ht,hz⟩:=I.tuple hq;refine assign_Tuple_tuple (I.ok.hd hc) ht (by simp [hn,<-hl,rv.length]) hst λh' hx=>?_;have I1:Inv X pins σ H {s with heap:=h'}:=I.kept (t':=s.toks) λb o e=>hx b o (ne_of_lt (lt_size e)) e;exact h pins _ σ H xs _ Q I1 (by simpa using rv) hw
def Qt (to ti:TE) (t:Gf):TG:=λv σ H Q=>to σ H λo H1=>ti σ H1 λi H2=>t o i v H2 λH3=>Q σ H3
theorem Cc {o i:Expr} {to ti:TE} {t:Gf} (ho:PE X o to) (hi:PE X i ti) (hs:Gi X t)
  (ha:∀v,assign (.Subscript o i pos) X.env v=(do
   let ov <-holding [v] (eval o X.env)
   let iv <-holding [v,ov] (eval i X.env)
   standAt pos
   holding [v,ov,iv] (setItem ov iv v)
   release [v,ov,iv] []):=by intro _;rfl):PG X (.Subscript o i pos) (Qt to ti t):=by
 intro pins s σ H v u Q I r h;rw[ha];refine wpAny_bind (wpAny_holding (bH (ho pins s σ H _ I h) λov s1 ⟨x,H1,I1,r1,q1⟩=>?_));refine wpAny_bind (wpAny_holding (bH (hi pins s1 σ H1 _ I1 q1) λiv s2 ⟨y,H2,I2,r2,q2⟩=>?_));refine wpAny_bind (wpAny_standAt (wpAny_bind (wpAny_holding (bH (hs pins s2 σ H2 x y v ov iv u _ I2 r1 r2 r q2) λ_ s3 ⟨H3,I3,q3⟩=>?_))));exact wpAny_release ⟨σ,H3,I3,q3⟩
def Iz (te:TE) (g:TG):TS:=λD σ H=>te σ H λx H1=>g x σ H1 D.nx
theorem Bz {tg e:Expr} {te:TE} {g:TG} (he:PE X e te) (hg:PG X tg g) (hs:swapsWithSole [tg] e pos.line X.env=pure false:=by rfl) (hw:swappedStores [tg] e X.env=pure none:=by rfl)
  (h1:(assignEach [tg] X.env).map (·.2)=[assign tg X.env]:=by rfl):PS X (.Assign [tg] e pos) (Iz te g):=by
 intro pins s σ H D I h;refine wpAny_Assign_stores (bH (he pins s σ H _ I h) λv s1 ⟨x,H1,I1,r1,q1⟩=>?_) hs hw;rw[h1];exact bH (hg pins s1 σ H1 x v _ I1 r1 q1) λ_ s2 q=>q
theorem MX {i:Nat} {x:Str} {e:Expr} {te:TE} {pos':Pos} (hN:X.N.Nodup) (hi:X.N[i]?=some x) (hx:Loc X.env.scope x) (he:PE X e te) (hs:swapsWith e (some (.Name x pos')) pos.line X.env=pure false:=by rfl) (hf:X.fn x=true\/X.env.scope.names.lookup x=some .local:=by first|exact .inl rfl|exact .inr rfl|assumption):
  PS X (.Assign [.Name x pos'] e pos) (Iz te (GF i)):=by
 intro pins s σ H D I h;refine wpAny_Assign_Name (bH (he pins s σ H _ I h) λv s1 ⟨y,H1,I1,r1,q1⟩=>?_) hs;exact lQ I1 hN hi hx r1 (λs2 I2=>⟨_,H1,I2,q1⟩) hf
end
structure It where
 go:Nat->Hp->Prop
 yld:Nat->Hp->V->Hp->Prop
 stop:Nat->Hp->Prop
def oE (X:Cx) (pins:List (Addr × Obj)) (H:Hp) (b:Addr):Prop:=
 H b=none/\b≠X.env.locals/\b∉X.fs/\(b∈X.ex\/X.s₀.heap.objs.size<=b)/\(∀x c,X.env.cells.lookup x=some c->c≠b)/\∀p∈X.pn++pins,p.1≠b
theorem Inv.fpOk {X:Cx} {pins:List (Addr × Obj)} {σ:St} {H H':Hp} {s:Shared} {b:Addr} (I:Inv X pins σ H s) (hb:s.heap.objs.size<=b) (hn:H' b=none):oE X pins H' b:=by
 refine ⟨hn,ne_of_gt (lt_of_lt_of_le I.lt hb),I.nofs hb,.inr (Nat.le_trans I.sz hb),λx c e z=>?_,λp hp z=>?_⟩
 ·obtain ⟨v,q⟩:=I.cell x c e;exact absurd (lt_of_lt_of_le q.lt (by rw[z];exact hb)) (lt_irrefl _)
 ·exact absurd (lt_of_lt_of_le (lt_size (I.pin p hp).1) (by rw[z];exact hb)) (lt_irrefl _)
structure Turn (P:Program) (w:World) (K:Fg) (tg:Expr) (J:It) (fp:List Addr) (it:Addr) (tn:Nat->Heap->Prop):Prop where
 mem:it∈fp
 obj:∀i h,tn i h->∀b∈fp,∃o,h.get? b=some o/\∀v,o.data≠.cell v
 keep:∀i h h',tn i h->(∀b∈fp,∀o,h.get? b=some o->h'.get? b=some o)->tn i h'
 item:∀(X:Cx),X.prog=P->X.w=w->X.K=K->X.calm=true->∀(i:Nat) (pins:List (Addr × Obj)) (s:Shared) (σ:St) (H:Hp) (E:Value->Shared->Prop),Inv X pins σ H s->(∀b∈fp,oE X pins H b)->tn i s.heap->J.go i H->
  wpAny (model P w) X.A (pyNext (.ref it)) (λr s1=>∃u,r=some u/\
   wpAny (model P w) X.A (letOwnedTupleGo tg (.ref it) u) (λ_ s2=>∃x H',Inv X pins σ H' s2/\RelV x u/\J.yld i H x H'/\tn (i+1) s2.heap/\∀b∈fp,H' b=none) E s1) E s
 done:∀(X:Cx),X.prog=P->X.w=w->X.K=K->X.calm=true->∀(i:Nat) (pins:List (Addr × Obj)) (s:Shared) (σ:St) (H:Hp) (E:Value->Shared->Prop),Inv X pins σ H s->(∀b∈fp,oE X pins H b)->tn i s.heap->J.stop i H->
  wpAny (model P w) X.A (pyNext (.ref it)) (λr s1=>r=none/\Inv X pins σ H s1) E s
 self:∀(A:Around) (i:Nat) (s:Shared) (Q:Value->Shared->Prop) (E:Value->Shared->Prop),tn i s.heap->Q (.ref it) s->wpAny (model P w) A (pyIter (.ref it)) Q E s
abbrev TI:=St->Hp->(It->Hp->Prop)->Prop
def Ot (X:Cx) (pins:List (Addr × Obj)) (σ:St) (tg:Expr) (R:It->Hp->Prop) (itv:Value) (s2:Shared):Prop:=
 ∃(it:Addr) (fp:List Addr) (tn:Nat->Heap->Prop) (J:It) (H':Hp),itv=.ref it/\Inv X pins σ H' s2/\Turn X.prog X.w X.K tg J fp it tn/\tn 0 s2.heap/\(∀b∈fp,oE X pins H' b)/\R J H'
def PI (X:Cx) (tg iter:Expr) (wi:TI):Prop:=
 ∀(pins:List (Addr × Obj)) (s:Shared) (σ:St) (H:Hp) (R:It->Hp->Prop),Inv X pins σ H s->wi σ H R->
  wpAny (model X.prog X.w) X.A (eval iter X.env) (λv s1=>wpAny (model X.prog X.w) X.A (pyIter v) (Ot X pins σ tg R) X.xe s1) X.xe s
theorem vH (ho:s.heap.get? it=some o) (hc:o.cls=.type n) (hd:o.data=.fields vs)
  (hn:["enumerate","zip","dict_itemiterator","dict_reverseitemiterator","odict_iterator","itertools.zip_longest","itertools.pairwise"].contains n=false) (hQ:Q () s):wpAny M A (letOwnedTupleGo tg (.ref it) u) Q E s:=by
 unfold letOwnedTupleGo;cases tg<;>first
  |exact wpAny_pure hQ
  | (cases u<;>first
    |exact wpAny_pure hQ
    | (refine wpAny_bind (wpAny_load ho ?_)
       rw[hc,hd]
       show wpAny M A (if (["enumerate","zip","dict_itemiterator","dict_reverseitemiterator","odict_iterator","itertools.zip_longest","itertools.pairwise"].contains n&&vs[0]?==some (rawInt _))=true then _ else _) Q E s
       rw[if_neg (by intro h;rw[hn,Bool.false_and] at h;cases h)]
       exact wpAny_pure hQ))
def ZS (K:Fg) (a:Addr):It:=
 ⟨λi H=>∃xs x,aH K H a xs/\xs[i]?=some x,λi H x H'=>H'=H/\∀xs,aH K H a xs->xs[i]?=some x,λi H=>∃xs,aH K H a xs/\xs.length<=i⟩
def Hi (K:Fg) (a:Addr):It:=
 ⟨λi H=>∃xs x,bX K H a xs/\xs[i]?=some x,λi H x H'=>H'=H/\∀xs,bX K H a xs->xs[i]?=some x,λi H=>∃xs,bX K H a xs/\xs.length<=i⟩
def KJ (lo:Int) (n:Nat):It:=⟨λi _=>i<n,λi H x H'=>H'=H/\x=.int (lo+i),λi _=>n<=i⟩
theorem HB {P:Program} {w:World} {K:Fg} {tg:Expr} (a it:Addr):Turn P w K tg (ZS K a) [it] it (λi h=>h.IsListIter it a i) where
 mem:=by simp
 obj:=λi h st b hb=>by
  have e:b=it:=by simpa using hb
  subst e;obtain ⟨o,e,c,d⟩:=st;exact ⟨o,e,λv z=>by rw[d] at z;cases z⟩
 keep:=λi h h' st k=>st.at λo e=>k it (by simp) o e
 item:=by
  intro X hP hw hK hc i pins s σ H E I hf st hg;subst hP hw hK;obtain ⟨xs,x,hq,hx⟩:=hg;obtain ⟨its,rv,p,hz⟩:=I.list hq;obtain ⟨u,hu,ru⟩:=rv.get hx;obtain ⟨f0,f1,f2,f3,f4,f5⟩:=hf it (by simp);refine wpAny_pyNext_list_item st p.isList (x:=u) (by simpa using hu) λh' st' sb=>?_;have I1:Inv X pins σ H {s with heap:=h'}:=I.turned (t':=s.toks) (λb o hb e=>(sb.2 b hb).trans e) f0 f1 f3 f4 f5;obtain ⟨o,e,c,d⟩:=id st';exact ⟨u,rfl,vH (s:={s with heap:=h'}) e c d (by decide) ⟨x,H,I1,ru,⟨rfl,λys hy=>by rw[I.list_inj hy hq];exact hx⟩,st',λb hb=>(hf b hb).1⟩⟩
 done:=by
  intro X hP hw hK hc i pins s σ H E I hf st hg;subst hP hw hK;obtain ⟨xs,hq,hx⟩:=hg;obtain ⟨its,rv,p,hz⟩:=I.list hq;obtain ⟨f0,f1,f2,f3,f4,f5⟩:=hf it (by simp);have hl:=rv.length;exact wpAny_pyNext_list_end (I.ok.hd hc) st p.isList (by simp;lia) λh' eb=>⟨rfl,I.turned (t':=s.toks) (λb o hb e=>eb b o hb e) f0 f1 f3 f4 f5⟩
 self:=λ_ _ _ _ _ st h=>wpAny_pyIter_listiter st h
theorem CG {P:Program} {w:World} {K:Fg} {tg:Expr} (a it:Addr):Turn P w K tg (Hi K a) [it] it (λi h=>h.IsTupleIter it a i) where
 mem:=by simp
 obj:=λi h st b hb=>by
  have e:b=it:=by simpa using hb
  subst e;obtain ⟨o,e,c,d⟩:=st;exact ⟨o,e,λv z=>by rw[d] at z;cases z⟩
 keep:=λi h h' st k=>st.at λo e=>k it (by simp) o e
 item:=by
  intro X hP hw hK hc i pins s σ H E I hf st hg;subst hP hw hK;obtain ⟨xs,x,hq,hx⟩:=hg;obtain ⟨its,rv,p,hz⟩:=I.tuple hq;obtain ⟨u,hu,ru⟩:=rv.get hx;obtain ⟨f0,f1,f2,f3,f4,f5⟩:=hf it (by simp);refine wpAny_pyNext_tuple_item st (show s.heap.IsTuple a its.toArray from p) (x:=u) (by simpa using hu) λh' st' sb=>?_;have I1:Inv X pins σ H {s with heap:=h'}:=I.turned (t':=s.toks) (λb o hb e=>(sb.2 b hb).trans e) f0 f1 f3 f4 f5;obtain ⟨o,e,c,d⟩:=id st';exact ⟨u,rfl,vH (s:={s with heap:=h'}) e c d (by decide) ⟨x,H,I1,ru,⟨rfl,λys hy=>by rw[I.tuple_inj hy hq];exact hx⟩,st',λb hb=>(hf b hb).1⟩⟩
 done:=by
  intro X hP hw hK hc i pins s σ H E I hf st hg;subst hP hw hK;obtain ⟨xs,hq,hx⟩:=hg;obtain ⟨its,rv,p,hz⟩:=I.tuple hq;obtain ⟨f0,f1,f2,f3,f4,f5⟩:=hf it (by simp);have hl:=rv.length;exact wpAny_pyNext_tuple_end (I.ok.hd hc) st (show s.heap.IsTuple a its.toArray from p) (by simp;lia) λh' eb=>⟨rfl,I.turned (t':=s.toks) (λb o hb e=>eb b o hb e) f0 f1 f3 f4 f5⟩
 self:=λ_ _ _ _ _ st h=>wpAny_pyIter_tupleiter st h
theorem CH {P:Program} {w:World} {K:Fg} {tg:Expr} (it:Addr) (lo:Int) (n:Nat):Turn P w K tg (KJ lo n) [it] it (λi h=>IsRangeIter h it (lo+(i:Nat) * 1) ((n:Int) - (i:Nat)) 1) where
 mem:=by simp
 obj:=λi h st b hb=>by
  have e:b=it:=by simpa using hb
  subst e;exact ⟨_,st,λv z=>by
   have z':Data.fields _=Data.cell v:=z
   cases z'⟩
 keep:=λi h h' st k=>k it (by simp) _ st
 item:=by
  intro X hP hw hK hc i pins s σ H E I hf st hg;subst hP hw hK;obtain ⟨f0,f1,f2,f3,f4,f5⟩:=hf it (by simp);have W:=Walks.range (prog:=X.prog) (w:=X.w) (I.ok.hd hc) it lo 1 n;refine W.item i s _ _ hg st λv h' tk hv st' kk=>?_;obtain ⟨t,rfl⟩:=hv;have I1:Inv X pins σ H {s with heap:=h',toks:=tk}:=I.turned (λb o hb e=>kk b o (by simpa using hb) e) f0 f1 f3 f4 f5;refine ⟨_,rfl,vH (s:={s with heap:=h',toks:=tk}) (n:="range_iterator") st' rfl rfl (by decide) ⟨.int (lo+i),H,I1,⟨t,?_⟩,⟨rfl,rfl⟩,st',λb hb=>(hf b hb).1⟩⟩;rw[Int.mul_one]
 done:=by
  intro X hP hw hK hc i pins s σ H E I hf st hg;subst hP hw hK;obtain ⟨f0,f1,f2,f3,f4,f5⟩:=hf it (by simp);exact wpAny_pyNext_range_end (I.ok.hd hc) st (by have:n<=i:=hg;lia) λh' eb=>⟨rfl,I.turned (t':=s.toks) (λb o hb e=>eb b o hb e) f0 f1 f3 f4 f5⟩
 self:=λ_ _ _ _ _ st h=>wpAny_pyIter_rangeiter st h
section
variable {X:Cx} {tg:Expr}
theorem zV {pins:List (Addr × Obj)} {σ:St} {H:Hp} {s:Shared} {R:It->Hp->Prop} {E:Value->Shared->Prop} {lo hi:Int} {t u v:Tok} {tk:Nat} (I:Inv X pins σ H s) (h1:-(2 ^ 62)<=lo) (h2:lo<2 ^ 62) (h3:-(2 ^ 62)<=hi) (h4:hi<2 ^ 62)
  (q:R (KJ lo (hi - lo).toNat) H):wpAny (model X.prog X.w) X.A (pyIter (.ref s.heap.objs.size)) (Ot X pins σ tg R) E {s with heap:=s.heap.push {cls:=.type "range",data:=.fields #[.int lo t,.int hi u,.int 1 v]},toks:=tk}:=by
 refine wpAny_pyIter_range (IsRange.new ..) (small_one h1 h2 h3 h4) ?_;have I1:Inv X pins σ H {s with heap:=s.heap.push {cls:=.type "range",data:=.fields #[.int lo t,.int hi u,.int 1 v]},toks:=tk}:=I.kept λb o e=>get?_push_of_some _ e;refine ⟨(s.heap.push {cls:=.type "range",data:=.fields #[.int lo t,.int hi u,.int 1 v]}).objs.size,[(s.heap.push {cls:=.type "range",data:=.fields #[.int lo t,.int hi u,.int 1 v]}).objs.size],_,_,H,rfl,
  I1.kept (t':=tk) λb o e=>get?_push_of_some _ e,CH _ lo (hi - lo).toNat,?_,λb hb=>?_,q⟩
 ·have e1:lo+((0:Nat):Int) * 1=lo:=by simp
  have e2:(((hi - lo).toNat:Nat):Int) - ((0:Nat):Int)=Builtin.Range.rangeSize lo hi 1:=by rw[rangeSize_one];split<;>lia
  show IsRangeIter _ _ (lo+((0:Nat):Int) * 1) ((((hi - lo).toNat:Nat):Int) - ((0:Nat):Int)) 1;rw[e1,e2];exact get?_push_size _ rfl
 ·have e:b=(s.heap.push {cls:=.type "range",data:=.fields #[.int lo t,.int hi u,.int 1 v]}).objs.size:=by simpa using hb
  subst e;exact I1.fpOk (Nat.le_refl _) (I1.hok.fresh (Nat.le_refl _))
def Iu (wi:TI) (g:TG) (tb:TS):TS:=λD σ H=>wi σ H λJ H1=>∃W:Nat->Nat->St->Hp->Prop,(∃m,W 0 m σ H1)/\∀i m σ H,W i m σ H->
 (J.stop i H/\D.nx σ H)\/(J.go i H/\∃N:St->Hp->Prop,(∀σ' H',N σ' H'->∃m',m'<m/\W (i+1) m' σ' H')/\∀x H',J.yld i H x H'->g x σ H' λσ2 H2=>tb {D with nx:=N,ct:=N,bk:=D.nx} σ2 H2)
def rH (fp:List Addr) (h:Heap):List (Addr × Obj):=fp.filterMap λb=>(h.get? b).map λo=>(b,o)
theorem gP {fp:List Addr} {h:Heap} {b:Addr} {o:Obj} (hb:b∈fp) (e:h.get? b=some o):(b,o)∈rH fp h:=mem_filterMap.mpr ⟨b,hb,by rw[e];rfl⟩
theorem IP (hp:p∈rH fp h):p.1∈fp/\h.get? p.1=some p.2:=by
 obtain ⟨b,hb,e⟩:=mem_filterMap.mp hp;cases q:h.get? b with
 |none=>rw[q] at e;cases e
 |some o=>
  rw[q] at e;have e':(b,o)=p:=Option.some.inj e;subst e';exact ⟨hb,q⟩
theorem Inv.pinned {pins:List (Addr × Obj)} {σ:St} {H:Hp} {s:Shared} {fp:List Addr} (I:Inv X pins σ H s) (hf:∀b∈fp,oE X pins H b) (ho:∀b∈fp,∃o,s.heap.get? b=some o/\∀v,o.data≠.cell v):Inv X (pins++rH fp s.heap) σ H s:=
 I.pins_of λp hp=>(mem_append.mp hp).elim (λz=>I.pin p (mem_append_right _ z)) λz=>by
  obtain ⟨hb,e⟩:=IP z;obtain ⟨f0,f1,f2,_⟩:=hf p.1 hb;obtain ⟨o,e',d⟩:=ho p.1 hb;rw[e] at e';cases e';exact ⟨e,f0,f1,f2,d⟩
theorem Inv.unpinned {pins pl:List (Addr × Obj)} {σ:St} {H:Hp} {s:Shared} (I:Inv X (pins++pl) σ H s):Inv X pins σ H s:=I.pins_of λp hp=>I.pin p (mem_append_right _ (mem_append_left _ hp))
theorem Bx {iter:Expr} {body:List Stmt} {wi:TI} {g:TG} {tb:TS} {pos:Pos} (hp:PassesOwn (model X.prog X.w) X.A X.env X.xe) (hc:X.calm=true) (hi:PI X tg iter wi) (hg:PG X tg g) (hb:ZQ X body tb)
  (hs:∀x,foldedSetIterable iter X.env x=pure x:=by intro _;rfl):PS X (.For tg iter body [] pos) (Iu wi g tb):=by
 intro pins s σ H D I h;refine wpAny_For (bH (hi pins s σ H _ I h) λv s1 h1=>bH h1 λitv s2 h2=>?_) hs;obtain ⟨it,fp,tn,J,H2,e,I2,T,st2,f2,W,⟨m0,w0⟩,turn⟩:=h2;subst e;have stat:∀{H':Hp},(∀b∈fp,H' b=none)->∀b∈fp,oE X pins H' b:=λhn b hb=>⟨hn b hb,(f2 b hb).2⟩;refine codeAny_forLoop_any (λn s'=>∃i σ' H',Inv X pins σ' H' s'/\tn i s'.heap/\(∀b∈fp,H' b=none)/\W i n σ' H') ?_ m0 ⟨0,σ,H2,I2,st2,λb hb=>(f2 b hb).1,w0⟩;rintro n s3 ⟨i,σ3,H3,I3,st3,fr3,w3⟩;rcases turn i n σ3 H3 w3 with ⟨stop,qn⟩|⟨go,N,hN,step⟩
 ·refine wpAny_passesOwn hp (bH (T.done X rfl rfl rfl hc i pins s3 σ3 H3 X.xe I3 (stat fr3) st3 stop) λr s4 ⟨hr,I4⟩=>?_);subst hr;exact wpAny_execs_nil ⟨σ3,H3,I4,qn⟩
 ·refine wpAny_passesOwn hp (bH (T.item X rfl rfl rfl hc i pins s3 σ3 H3 X.xe I3 (stat fr3) st3 go) λr s4 ⟨u,hr,h4⟩=>?_);subst hr;refine wpAny_passesOwn hp (bH h4 λ_ s5 ⟨x,H5,I5,r5,y5,st5,fr5⟩=>?_);have I5':=I5.pinned (stat fr5) (T.obj _ _ st5);refine wpAny_passesOwn hp (bH (hg _ s5 σ3 H5 x u _ I5' r5 (step x H5 y5)) λ_ s6 ⟨σ6,H6,I6,q6⟩=>?_);refine wpAny_passesOwn hp (bH (hb _ s6 σ6 H6 _ I6 q6) λf s7 q7=>?_);have again:∀{σ7:St} {H7:Hp},Inv X (pins++rH fp s5.heap) σ7 H7 s7->N σ7 H7->∃m,m<n/\∃i σ' H',Inv X pins σ' H' s7/\tn i s7.heap/\(∀b∈fp,H' b=none)/\W i m σ' H':=λ{σ7 H7} I7 n7=>by
   obtain ⟨m',hm,w7⟩:=hN σ7 H7 n7;refine ⟨m',hm,i+1,σ7,H7,I7.unpinned,T.keep _ _ _ st5 λb hb o e=>(I7.pin (b,o) (mem_append_right _ (mem_append_right _ (gP hb e)))).1,λb hb=>?_,w7⟩;obtain ⟨o,e,d⟩:=T.obj _ _ st5 b hb;exact (I7.pin (b,o) (mem_append_right _ (mem_append_right _ (gP hb e)))).2.1
  cases f with
  |next=>obtain ⟨σ7,H7,I7,n7⟩:=q7;exact again I7 n7
  |cont=>obtain ⟨σ7,H7,I7,n7⟩:=q7;exact again I7 n7
  |brk=>obtain ⟨σ7,H7,I7,q7⟩:=q7;exact ⟨σ7,H7,I7.unpinned,q7⟩
  |ret v=>obtain ⟨x7,σ7,H7,I7,r7,q7⟩:=q7;exact ⟨x7,σ7,H7,I7.unpinned,r7,q7⟩
end
theorem JJ {lo:Int} {n:Nat} {g:TG} {tb:TS} {D:Ends} {σ:St} {H:Hp} (Pv:Nat->St->Hp->Prop) (h0:Pv 0 σ H)
  (hs:∀i σ H,i<n->Pv i σ H->g (.int (lo+i)) σ H λσ2 H2=>tb {D with nx:=Pv (i+1),ct:=Pv (i+1),bk:=D.nx} σ2 H2) (hd:∀σ H,Pv n σ H->D.nx σ H):
  ∃W:Nat->Nat->St->Hp->Prop,(∃m,W 0 m σ H)/\∀i m σ H,W i m σ H->
   ((KJ lo n).stop i H/\D.nx σ H)\/((KJ lo n).go i H/\∃N:St->Hp->Prop,(∀σ' H',N σ' H'->∃m',m'<m/\W (i+1) m' σ' H')/\∀x H',(KJ lo n).yld i H x H'->g x σ H' λσ2 H2=>tb {D with nx:=N,ct:=N,bk:=D.nx} σ2 H2):=by
 refine ⟨λi m σ H=>m=n - i/\i<=n/\Pv i σ H,⟨n,by simp,zero_le _,h0⟩,?_⟩;rintro i m σ H ⟨rfl,hi,p⟩;by_cases hlt:i<n
 ·refine .inr ⟨hlt,Pv (i+1),λσ' H' p'=>⟨n - (i+1),by lia,rfl,hlt,p'⟩,λx H' y=>?_⟩;obtain ⟨e,y⟩:=y;subst e y;exact hs i σ _ hlt p
 ·have e:i=n:=by lia
  subst e;exact .inl ⟨Nat.le_refl _,hd σ H p⟩
abbrev R2:=V->V->Hp->VK->Prop
def gH (X:Cx) (f:Value->Value->Sem Value) (r:R2):Prop:=
 ∀(pins:List (Addr × Obj)) (s:Shared) (σ:St) (H:Hp) (x y:V) (v u:Value) (Q:VK),Inv X pins σ H s->RelV x v->RelV y u->r x y H Q->
  wpAny (model X.prog X.w) X.A (f v u) (EP X pins σ Q) X.xe s
def Ra (X:Cx) (f:Value->Sem Value) (r:V->Hp->VK->Prop):Prop:=
 ∀(pins:List (Addr × Obj)) (s:Shared) (σ:St) (H:Hp) (x:V) (v:Value) (Q:VK),Inv X pins σ H s->RelV x v->r x H Q->
  wpAny (model X.prog X.w) X.A (f v) (EP X pins σ Q) X.xe s
def bN (X:Cx) (f:Value) (r:List V->Hp->VK->Prop):Prop:=
 ∀(pins:List (Addr × Obj)) (s:Shared) (σ:St) (H:Hp) (xs:List V) (us:List Value) (Q:VK),Inv X pins σ H s->Vals xs us->r xs H Q->
  wpAny (model X.prog X.w) X.A (call f us) (EP X pins σ Q) X.xe s
def Nm (X:Cx) (r:V->Hp->(Bool->Hp->Prop)->Prop):Prop:=
 ∀(pins:List (Addr × Obj)) (s:Shared) (σ:St) (H:Hp) (x:V) (v:Value) (Q:Bool->Hp->Prop),Inv X pins σ H s->RelV x v->r x H Q->
  wpAny (model X.prog X.w) X.A (truthy v) (TP X pins σ Q) X.xe s
def Ak (r:R2) (ta tb:TE):TE:=λσ H Q=>ta σ H λx H1=>tb σ H1 λy H2=>r x y H2 Q
def Rj (r:V->Hp->VK->Prop) (ta:TE):TE:=λσ H Q=>ta σ H λx H1=>r x H1 Q
def rI (C:Int->Int->Prop) (g:Int->Int->V):R2:=λx y H Q=>∃i j,x=.int i/\y=.int j/\C i j/\Q (g i j) H
def YI (g:Int->Int->V):R2:=λx y H Q=>∃i j,x=.int i/\y=.int j/\Q (g i j) H
def rU (g:Int->V):V->Hp->VK->Prop:=λx H Q=>∃i,x=.int i/\Q (g i) H
section
variable {X:Cx} {a b c:Expr} {ta tb tc:TE} {pos:Pos}
theorem Ga (ha:PE X a ta) (hb:PE X b tb) {pins:List (Addr × Obj)} {s:Shared} {σ:St} {H:Hp} {R:V->V->Hp->Prop} (I:Inv X pins σ H s)
  (h:ta σ H λx H1=>tb σ H1 λy H2=>R x y H2) {Q:Value->Shared->Prop} {f:Value->Value->Sem Value}
  (hf:∀v u s2 x y H2,Inv X pins σ H2 s2->RelV x v->RelV y u->R x y H2->wpAny (model X.prog X.w) X.A (f v u) Q X.xe s2):
  wpAny (model X.prog X.w) X.A (eval a X.env) (λv aa=>wpAny (model X.prog X.w) X.A (eval b X.env) (λu af=>wpAny (model X.prog X.w) X.A (f v u) Q X.xe af) X.xe aa) X.xe s:=by
 refine bH (ha pins s σ H _ I h) λv s1 ⟨x,H1,I1,r1,q1⟩=>?_;refine bH (hb pins s1 σ H1 _ I1 q1) λu s2 ⟨y,H2,I2,r2,q2⟩=>?_;exact hf v u s2 x y H2 I2 r1 r2 q2
theorem Jx (ho:gH X (binaryOp op) r) (ha:PE X a ta) (hb:PE X b tb):PE X (.BinOp a op b pos) (Ak r ta tb):=by
 intro pins s σ H Q I h;exact wpAny_BinOp (Ga ha hb I h λv u s2 x y H2 I2 rx ry q=>ho pins s2 σ H2 x y v u Q I2 rx ry q)
theorem Jw {op:UnaryOp} {r:V->Hp->VK->Prop} (ho:Ra X (unaryOp op) r) (ha:PE X a ta):PE X (.UnaryOp op a pos) (Rj r ta):=by
 intro pins s σ H Q I h;exact UnaryOp_ (bH (ha pins s σ H _ I h) λv s1 ⟨x,H1,I1,r1,q1⟩=>ho pins s1 σ H1 x v Q I1 r1 q1)
theorem Of {f:Value->Value->Sem Value} {C:Int->Int->Prop} {g:Int->Int->Int}
  (rule:∀(i j:Int) (t u:Tok) (s:Shared) (Q:Value->Shared->Prop) (E:Value->Shared->Prop),C i j->Q (.int (g i j) s.toks) {s with toks:=s.toks+1}->wpAny (model X.prog X.w) X.A (f (.int i t) (.int j u)) Q E s):
  gH X f (rI C λi j=>.int (g i j)):=by
 intro pins s σ H x y v u Q I rx ry h;obtain ⟨i,j,rfl,rfl,hc,q⟩:=h;obtain ⟨t,rfl⟩:=rx;obtain ⟨t',rfl⟩:=ry;exact rule i j t t' s _ _ hc ⟨.int (g i j),H,I.tok _,⟨_,rfl⟩,q⟩
theorem Kg {f:Value->Value->Sem Value} {g:Int->Int->Int}
  (rule:∀(i j:Int) (t u:Tok) (s:Shared) (Q:Value->Shared->Prop) (E:Value->Shared->Prop),Q (.int (g i j) s.toks) {s with toks:=s.toks+1}->wpAny (model X.prog X.w) X.A (f (.int i t) (.int j u)) Q E s):
  gH X f (YI λi j=>.int (g i j)):=by
 intro pins s σ H x y v u Q I rx ry h;obtain ⟨i,j,rfl,rfl,q⟩:=h;obtain ⟨t,rfl⟩:=rx;obtain ⟨t',rfl⟩:=ry;exact rule i j t t' s _ _ ⟨.int (g i j),H,I.tok _,⟨_,rfl⟩,q⟩
theorem UY {f:Value->Value->Sem Value} {g:Int->Int->Bool}
  (rule:∀(i j:Int) (t u:Tok) (s:Shared) (Q:Value->Shared->Prop) (E:Value->Shared->Prop),Q (.bool (g i j)) s->wpAny (model X.prog X.w) X.A (f (.int i t) (.int j u)) Q E s):
  gH X f (YI λi j=>.bl (g i j)):=by
 intro pins s σ H x y v u Q I rx ry h;obtain ⟨i,j,rfl,rfl,q⟩:=h;obtain ⟨t,rfl⟩:=rx;obtain ⟨t',rfl⟩:=ry;exact rule i j t t' s _ _ ⟨.bl (g i j),H,I,rfl,q⟩
def Rf (i j:Int):Prop:=0<j/\j<1073741824
def Gr (i j:Int):Prop:=(-(2 ^ 64)<i/\i<2 ^ 64)\/(-(2 ^ 64)<j/\j<2 ^ 64)
theorem Gr.ok {i j:Int} (h:Gr i j):IntMulOk i j:=by
 rcases h with ⟨h1,h2⟩|⟨h1,h2⟩
 ·exact .of_left (intBits_le_64 h1 h2)
 ·exact .of_right (intBits_le_64 h1 h2)
theorem Dd:gH X (binaryOp .Add) (YI λi j=>.int (i+j)):=Kg λ_ _ _ _ _ _ _ q=>add_int q
theorem Cp:gH X (binaryOp .Sub) (YI λi j=>.int (i - j)):=Kg λ_ _ _ _ _ _ _ q=>sub_int q
theorem Ct:gH X (binaryOp .Mod) (rI (λ_ j=>0<j) λi j=>.int (i % j)):=Of λi j _ _ _ _ _ hc q=>by
 have h1:(0:Int)<j:=hc;exact mod_int' (by lia) (by rw[Int.fmod_eq_emod_of_nonneg i (by lia)];exact q)
theorem Si {f:Value->Sem Value} {g:Int->Int}
  (rule:∀(i:Int) (t:Tok) (s:Shared) (Q:Value->Shared->Prop) (E:Value->Shared->Prop),Q (.int (g i) s.toks) {s with toks:=s.toks+1}->wpAny (model X.prog X.w) X.A (f (.int i t)) Q E s):
  Ra X f (rU λi=>.int (g i)):=by
 intro pins s σ H x v Q I rx h;obtain ⟨i,rfl,q⟩:=h;obtain ⟨t,rfl⟩:=rx;exact rule i t s _ _ ⟨.int (g i),H,I.tok _,⟨_,rfl⟩,q⟩
theorem Ab:Ra X (unaryOp .USub) (rU λi=>.int (-i)):=Si λ_ _ _ _ _ q=>neg_int q
theorem IM:gH X (binaryOp .Add) (λx y H Q=>∃i k,x=.int i/\y=.bl k/\Q (.int (i+b2i k)) H):=by
 intro pins s σ H x y v u Q I rx ry h;obtain ⟨i,k,rfl,rfl,q⟩:=h;obtain ⟨t,rfl⟩:=rx;cases ry;exact add_int_bool ⟨.int (i+b2i k),H,I.tok _,⟨_,rfl⟩,q⟩
end
def TZ:V->V->Bool
 | .non,.non=>true| .non,.int _=>true| .int _,.non=>true| .non,.bl _=>true| .bl _,.non=>true| .non,.str _=>true| .str _,.non=>true
 | .int _,.int _=>true| .bl _,.bl _=>true| .str _,.str _=>true| .byt _,.byt _=>true
 | .int _,.str _=>true| .str _,.int _=>true| .bl _,.str _=>true| .str _,.bl _=>true
 |_,_=>false
def Sk:R2:=λx y H Q=>TZ x y=true/\Q (.bl (decide (x=y))) H
def Sj:R2:=λx y H Q=>TZ x y=true/\Q (.bl (!decide (x=y))) H
theorem GI:decide (V.int i=V.int j)=(i==j):=by
 rw[Bool.eq_iff_iff];simp
theorem QM:decide (V.bl i=V.bl j)=(i==j):=by
 rw[Bool.eq_iff_iff];simp
theorem GH:decide (V.str i=V.str j)=(i==j):=by
 rw[Bool.eq_iff_iff];simp
theorem GJ:decide (V.byt i=V.byt j)=(i.toList==j.toList):=by
 rw[Bool.eq_iff_iff];cases i;cases j;simp
section
variable {X:Cx} {a b c:Expr} {ta tb tc:TE} {pos:Pos}
theorem aN (I:Inv X pins σ H s) (q:Q (.bl k) H) (e:k=k'):EP X pins σ Q (.bool k') s:=by
 subst e;exact ⟨.bl k,H,I,rfl,q⟩
theorem Kf:gH X (compareOp .Eq) Sk:=by
 intro pins s σ H x y v u Q I rx ry h;obtain ⟨hs,q⟩:=h;cases x with
 |non=>
  cases rx;cases y with
  |non=>cases ry;exact PySem.EqNone.eq_none_none (aN I q (by simp))
  |bl j=>cases ry;exact PySem.EqNone.eq_none_bool (aN I q (by simp))
  |int j=>obtain ⟨t',rfl⟩:=ry;exact PySem.EqNone.eq_none_int (aN I q (by simp))
  |str j=>obtain ⟨t',rfl⟩:=ry;exact PySem.EqNone.eq_none_str (aN I q (by simp))
  |_=>exact absurd (show false=true from hs) Bool.false_ne_true
 |bl i=>
  cases rx;cases y with
  |non=>cases ry;exact PySem.EqNone.eq_bool_none (aN I q (by simp))
  |bl j=>cases ry;exact eq_bool (aN I q QM)
  |str j=>obtain ⟨t',rfl⟩:=ry;exact PySem.EqMixed.eq_bool_str (aN I q (by simp))
  |_=>exact absurd (show false=true from hs) Bool.false_ne_true
 |int i=>
  obtain ⟨t,rfl⟩:=rx;cases y with
  |non=>cases ry;exact PySem.EqNone.eq_int_none (aN I q (by simp))
  |int j=>obtain ⟨t',rfl⟩:=ry;exact eq_int (aN I q GI)
  |str j=>obtain ⟨t',rfl⟩:=ry;exact PySem.EqMixed.eq_int_str (aN I q (by simp))
  |_=>exact absurd (show false=true from hs) Bool.false_ne_true
 |str i=>
  obtain ⟨t,rfl⟩:=rx;cases y with
  |non=>cases ry;exact PySem.EqNone.eq_str_none (aN I q (by simp))
  |bl j=>cases ry;exact PySem.EqMixed.eq_str_bool (aN I q (by simp))
  |int j=>obtain ⟨t',rfl⟩:=ry;exact PySem.EqMixed.eq_str_int (aN I q (by simp))
  |str j=>obtain ⟨t',rfl⟩:=ry;exact eq_str (aN I q GH)
  |_=>exact absurd (show false=true from hs) Bool.false_ne_true
 |byt i=>
  obtain ⟨t,rfl⟩:=rx;cases y with
  |byt j=>obtain ⟨t',rfl⟩:=ry;exact PySem.W.eq_bytes (aN I q GJ)
  |_=>exact absurd (show false=true from hs) Bool.false_ne_true
 |_=>cases y<;>exact absurd (show false=true from hs) Bool.false_ne_true
theorem Ka:gH X (compareOp .NotEq) Sj:=by
 intro pins s σ H x y v u Q I rx ry h;obtain ⟨hs,q⟩:=h;cases x with
 |non=>
  cases rx;cases y with
  |non=>cases ry;exact PySem.EqNone.ne_none_none (aN I q (by simp))
  |bl j=>cases ry;exact PySem.EqNone.ne_none_bool (aN I q (by simp))
  |int j=>obtain ⟨t',rfl⟩:=ry;exact PySem.EqNone.ne_none_int (aN I q (by simp))
  |str j=>obtain ⟨t',rfl⟩:=ry;exact PySem.EqNone.ne_none_str (aN I q (by simp))
  |_=>exact absurd (show false=true from hs) Bool.false_ne_true
 |bl i=>
  cases rx;cases y with
  |non=>cases ry;exact PySem.EqNone.ne_bool_none (aN I q (by simp))
  |bl j=>cases ry;exact ne_bool (aN I q (congrArg not QM))
  |str j=>obtain ⟨t',rfl⟩:=ry;exact PySem.EqMixed.ne_bool_str (aN I q (by simp))
  |_=>exact absurd (show false=true from hs) Bool.false_ne_true
 |int i=>
  obtain ⟨t,rfl⟩:=rx;cases y with
  |non=>cases ry;exact PySem.EqNone.ne_int_none (aN I q (by simp))
  |int j=>obtain ⟨t',rfl⟩:=ry;exact ne_int (aN I q (congrArg not GI))
  |str j=>obtain ⟨t',rfl⟩:=ry;exact PySem.EqMixed.ne_int_str (aN I q (by simp))
  |_=>exact absurd (show false=true from hs) Bool.false_ne_true
 |str i=>
  obtain ⟨t,rfl⟩:=rx;cases y with
  |non=>cases ry;exact PySem.EqNone.ne_str_none (aN I q (by simp))
  |bl j=>cases ry;exact PySem.EqMixed.ne_str_bool (aN I q (by simp))
  |int j=>obtain ⟨t',rfl⟩:=ry;exact PySem.EqMixed.ne_str_int (aN I q (by simp))
  |str j=>obtain ⟨t',rfl⟩:=ry;exact ne_str (aN I q (congrArg not GH))
  |_=>exact absurd (show false=true from hs) Bool.false_ne_true
 |byt i=>
  obtain ⟨t,rfl⟩:=rx;cases y with
  |byt j=>obtain ⟨t',rfl⟩:=ry;exact PySem.W.ne_bytes (aN I q (congrArg not GJ))
  |_=>exact absurd (show false=true from hs) Bool.false_ne_true
 |_=>cases y<;>exact absurd (show false=true from hs) Bool.false_ne_true
theorem Kb:gH X (compareOp .Lt) (YI λi j=>.bl (decide (i<j))):=UY λ_ _ _ _ _ _ _ q=>lt_int q
theorem Kc:gH X (compareOp .LtE) (YI λi j=>.bl (decide (i<=j))):=UY λ_ _ _ _ _ _ _ q=>le_int q
theorem Kd:gH X (compareOp .Gt) (YI λi j=>.bl (decide (j<i))):=UY λ_ _ _ _ _ _ _ q=>gt_int q
theorem Ke:gH X (compareOp .GtE) (YI λi j=>.bl (decide (j<=i))):=UY λ_ _ _ _ _ _ _ q=>ge_int q
theorem IK:gH X (compareOp .In) (λx y H Q=>∃i j,x=.str i/\y=.str j/\Q (.bl (!(Builtin.Str.occurrences j i 0 j.length 1).isEmpty)) H):=by
 intro pins s σ H x y v u Q I rx ry h;obtain ⟨i,j,rfl,rfl,q⟩:=h;obtain ⟨t,rfl⟩:=rx;obtain ⟨t',rfl⟩:=ry;exact in_str (aN I q rfl)
theorem Cu:gH X (compareOp .Is) (λx y H Q=>y=.non/\Q (.bl (decide (x=.non))) H):=by
 intro pins s σ H x y v u Q I rx ry h;obtain ⟨rfl,q⟩:=h;cases ry;refine is_none_gen (aN I q ?_);cases x<;>first
  | (cases rx;rfl)
  | (obtain ⟨t,rfl⟩:=rx;rfl)
theorem US:gH X (compareOp .IsNot) (λx y H Q=>y=.non/\Q (.bl (!decide (x=.non))) H):=by
 intro pins s σ H x y v u Q I rx ry h;obtain ⟨rfl,q⟩:=h;cases ry;refine isnot_none_gen (aN I q ?_);cases x<;>first
  | (cases rx;rfl)
  | (obtain ⟨t,rfl⟩:=rx;rfl)
theorem FE (ho:gH X (compareOp op) r) (ha:PE X a ta) (hb:PE X b tb) (hm:behindInMarks op b=false):PE X (.Compare a [op] [b] pos) (Ak r ta tb):=by
 intro pins s σ H Q I h;exact wpAny_Compare1 (Ga ha hb I h λv u s2 x y H2 I2 rx ry q=>ho pins s2 σ H2 x y v u Q I2 rx ry q) hm
def Ge (K:Fg) (x:V) (H:Hp) (k:Bool):Prop:=
 match x with
 | .non=>k=false
 | .bl b=>k=b
 | .int i=>k=(i != 0)
 | .str y=>y.length<=sizeLine/\k=((y.length:Int) != 0)
 | .byt y=>y.size<=sizeLine/\k=((y.size:Int) != 0)
 | .ref p=>(∃xs,aH K H p xs/\k=!xs.isEmpty)\/(∃xs,bX K H p xs/\k=!xs.isEmpty)\/∃kvs,H p=some (.dK kvs)/\k=!kvs.isEmpty
 |_=>False
theorem DN {κ:Type} {kvs:List (κ × V)} {vs:List (κ × Value)} (r:KV kvs vs):(!vs.isEmpty)=!kvs.isEmpty:=by
 cases r<;>rfl
theorem rP {xs:List V} {its:List Value} (r:Vals xs its):(!its.toArray.isEmpty)=!xs.isEmpty:=by
 cases r<;>simp
theorem nN:(sizeLine:Nat)<2 ^ 63:=by rw[sizeLine_eq];decide
theorem Ae:Nm X (λx H Q=>∃k,Ge X.K x H k/\Q k H):=by
 intro pins s σ H x v Q I rx h;obtain ⟨k,e,q⟩:=h;have hl:=nN;have hs:sizeLine=16777216:=sizeLine_eq;cases x with
 |non=>
  cases rx;have e':k=false:=e;subst e';exact truthy_none ⟨H,I,q⟩
 |bl b=>
  cases rx;have e':k=b:=e;subst e';exact wpAny_truthy_bool ⟨H,I,q⟩
 |int i=>
  obtain ⟨t,rfl⟩:=rx;have e':k=(i != 0):=e;subst e';exact PySem.P.truthy_int ⟨H,I,q⟩
 |str y=>
  obtain ⟨t,rfl⟩:=rx;obtain ⟨hy,e'⟩:y.length<=sizeLine/\k=((y.length:Int) != 0):=e;subst e';exact PySem.P.truthy_str (by lia) ⟨H,I.tok _,q⟩
 |byt y=>
  obtain ⟨t,rfl⟩:=rx;obtain ⟨hy,e'⟩:y.size<=sizeLine/\k=((y.size:Int) != 0):=e;subst e';exact PySem.W.truthy_bytes (by lia) ⟨H,I.tok _,q⟩
 |ref p=>
  cases rx;have e':(∃xs,aH X.K H p xs/\k=!xs.isEmpty)\/(∃xs,bX X.K H p xs/\k=!xs.isEmpty)\/∃kvs,H p=some (.dK kvs)/\k=!kvs.isEmpty:=e;rcases e' with ⟨xs,hx,e'⟩|⟨xs,hx,e'⟩|⟨kvs,hx,e'⟩
  ·subst e';obtain ⟨its,r,pl,hz⟩:=I.list hx;have hlen:=r.length;exact wpAny_truthy_list pl.isList (by simp only [size_toArray];lia) ⟨H,I.tok _,by rw[rP r];exact q⟩
  ·subst e';obtain ⟨its,r,pl,hz⟩:=I.tuple hx;have hlen:=r.length;exact truthy_tuple pl (by simp only [size_toArray];lia) ⟨H,I.tok _,by rw[rP r];exact q⟩
  ·subst e';obtain ⟨hz,hS,vs,r,m⟩:kvs.length<=sizeLine/\(p==sysModules)=false/\∃vs,KV kvs vs/\s.heap.DictOf (aU X.prog X.w) p vs:=I.hok p _ hx;have hlen:kvs.length=vs.length:=Paired.length r;exact wpAny_truthy_dict hS m (by lia) ⟨H,I.tok _,by rw[DN r];exact q⟩
 |_=>exact (show False from e).elim
theorem DD:gH X (binaryOp .Add) (λx y H Q=>∃i j,x=.str i/\y=.str j/\i.length+j.length<=sizeLine/\Q (.str (i++j)) H):=by
 intro pins s σ H x y v u Q I rx ry h;obtain ⟨i,j,rfl,rfl,hz,q⟩:=h;obtain ⟨t,rfl⟩:=rx;obtain ⟨t',rfl⟩:=ry;exact add_str (λt' tk=>⟨.str (i++j),H,I.tok _,⟨_,rfl⟩,q⟩) hz
theorem vals1 (r:Vals [x] us):∃u,us=[u]/\RelV x u:=by
 cases r with
 |cons r1 r2=>cases r2;exact ⟨_,rfl,r1⟩
theorem vals2 (r:Vals [x,y] us):∃u w',us=[u,w']/\RelV x u/\RelV y w':=by
 cases r with
 |cons r1 r2=>
  cases r2 with
  |cons r3 r4=>cases r4;exact ⟨_,_,rfl,r1,r3⟩
theorem JX (hc:X.calm=true):bN X (.builtin "max") (λxs H Q=>∃i j,xs=[.int i,.int j]/\Q (.int (if j>i then j else i)) H):=by
 intro pins s σ H xs us Q I r h;obtain ⟨i,j,rfl,q⟩:=h;obtain ⟨u,w',rfl,⟨t,rfl⟩,⟨t',rfl⟩⟩:=vals2 r;refine max_two_ints (I.ok.hd hc) λh' tk k=>⟨_,H,I.kept k,?_,q⟩;by_cases hj:j>i
 ·rw[if_pos hj,if_pos hj];exact ⟨_,rfl⟩
 ·rw[if_neg hj,if_neg hj];exact ⟨_,rfl⟩
theorem JW (hc:X.calm=true):bN X (.builtin "min") (λxs H Q=>∃i j,xs=[.int i,.int j]/\Q (.int (if j<i then j else i)) H):=by
 intro pins s σ H xs us Q I r h;obtain ⟨i,j,rfl,q⟩:=h;obtain ⟨u,w',rfl,⟨t,rfl⟩,⟨t',rfl⟩⟩:=vals2 r;refine min_two_ints (I.ok.hd hc) λh' tk k=>⟨_,H,I.kept k,?_,q⟩;by_cases hj:j<i
 ·rw[if_pos hj,if_pos hj];exact ⟨_,rfl⟩
 ·rw[if_neg hj,if_neg hj];exact ⟨_,rfl⟩
def Nr (K:Fg) (x:V) (H:Hp) (n:Nat):Prop:=
 match x with
 | .str y=>y.length<=sizeLine/\n=y.length
 | .byt y=>y.size<=sizeLine/\n=y.size
 | .ref p=>(∃xs,aH K H p xs/\n=xs.length)\/∃xs,bX K H p xs/\n=xs.length
 |_=>False
theorem BM:bN X (.builtin "len") (λxs H Q=>∃x n,xs=[x]/\Nr X.K x H n/\Q (.int n) H):=by
 intro pins s σ H xs us Q I r h;obtain ⟨x,n,rfl,e,q⟩:=h;obtain ⟨u,rfl,rx⟩:=vals1 r;have hl:=nN;have hs:sizeLine=16777216:=sizeLine_eq;cases x with
 |str y=>
  obtain ⟨t,rfl⟩:=rx;obtain ⟨hy,e'⟩:y.length<=sizeLine/\n=y.length:=e;subst e';exact len_str (by lia) ⟨.int _,H,I.tok _,⟨_,rfl⟩,q⟩
 |byt y=>
  obtain ⟨t,rfl⟩:=rx;obtain ⟨hy,e'⟩:y.size<=sizeLine/\n=y.size:=e;subst e';exact PySem.W.len_bytes (by lia) ⟨.int _,H,I.tok _,⟨_,rfl⟩,q⟩
 |ref p=>
  cases rx;have e':(∃xs,aH X.K H p xs/\n=xs.length)\/∃xs,bX X.K H p xs/\n=xs.length:=e;rcases e' with ⟨xs,hx,e'⟩|⟨xs,hx,e'⟩
  ·subst e';obtain ⟨its,r',pl,hz⟩:=I.list hx;have hlen:=r'.length;exact Calls.call_len_list pl.isList (by simp only [size_toArray];lia) ⟨.int xs.length,H,I.tok _,⟨_,by simp only [size_toArray];rw[hlen]⟩,q⟩
  ·subst e';obtain ⟨its,r',pl,hz⟩:=I.tuple hx;have hlen:=r'.length;exact len_tuple pl (by simp only [size_toArray];lia) ⟨.int xs.length,H,I.tok _,⟨_,by simp only [size_toArray];rw[hlen]⟩,q⟩
 |_=>exact (show False from e).elim
end
structure EH (h:Heap) (x dx C:Addr) (mA:Str->Option Value):Prop where
 obj:h.get? x=some (instObj C dx)
 ns:h.Ns1 dx mA
 ne:dx≠x
theorem uY {h:Heap} {dx:Addr} {mA:Str->Option Value} (n:h.Ns1 dx mA):∃od,h.get? dx=some od/\∀name,lookIn name od=some (mA name):=by
 obtain ⟨o,es,ep,ho,hd,hk,_,hm⟩:=n;refine ⟨o,ho,λname=>?_⟩;have e:=hm name;unfold nsFind findBy at e;rw[<-Array.find?_toList] at e;unfold lookIn;rw[hd];dsimp only;split
 ·rename_i y q;rw[q] at e;exact congrArg some e
 ·rename_i q;rw[q] at e;have a:es.toList.any (·.refKey)=false:=by
   rw[List.any_eq_false];intro y hy;obtain ⟨z,t,hkey⟩:=hk y (Array.mem_toList_iff.mp hy);simp [DictEntry.refKey,hkey]
  have a':¬es.toList.any (·.refKey)=true:=by rw[a];exact Bool.false_ne_true
  rw[if_neg a'];exact congrArg some e
theorem EH.look (I:EH h x dx C mA):∃od,PySem.W.InstAt h x (instObj C dx) C (some od)/\∀name,lookIn name od=some (mA name):=
 let ⟨od,ho,hl⟩:=uY I.ns
 ⟨od,⟨I.obj,rfl,rfl,ho⟩,hl⟩
section
variable {prog:Program} {w:World} {A:Around} {E:Value->Shared->Prop} {s:Shared} {K:Fg} {x dx C f:Addr} {mA:Str->Option Value} {name:Str} {v:Value}
theorem get_map (X:K.In s.heap) (I:EH s.heap x dx C mA) (hg:plainGet K C name=true) (hh:PySem.W.hasDictIn K C=true)
  (ha:PySem.W.findIn K (.ref C) name=some none) (hv:mA name=some v) (hv':PySem.W.handedIn v=true) (h:Q v {s with toks:=s.toks+1}):
  wpAny (model prog w) A (getAttr (.ref x) name expr) Q E s:=by
 obtain ⟨od,J,hl⟩:=I.look;exact PySem.W.get_value X J (plainGet_of hg).1 (PySem.W.findObj_own hh ha rfl (by rw[hl,hv])) hv' h
theorem PN (X:K.In s.heap) (I:EH s.heap x dx C mA) (hg:plainGet K C name=true)
  (hf:PySem.W.findIn K (.ref C) name=some (some (.ref f))) (ht:isFn K (.ref f)=true) (hv:mA name=none) (h:Q (.ref f,[.ref x]) s):
  wpAny (model prog w) A (getMethod (.ref x) name pl) Q E s:=by
 obtain ⟨od,J,hl⟩:=I.look;exact PySem.W.method_fn X J (plainGet_of hg).1 (plainGet_of hg).2 hf (beq_iff_eq.mp ht) (by show (lookIn name od).map (·.isSome)=some false;rw[hl,hv];rfl) h
theorem TV (X:K.In s.heap) (I:EH s.heap x dx C mA)
  (hs:PySem.W.findIn K (.ref C) "__setattr__"=some (some (.builtin "object.__setattr__"))) (hp:PySem.W.plainOver K C=true) (ht:takerIn K C name=some none) (hh:PySem.W.hasDictIn K C=true)
  (hw:PySem.Within mA ns) (hsz:ns.length<=sizeLine)
  (h:∀h',EH h' x dx C (λy=>if y=name then some v else mA y)->SameBut dx s.heap h'->Q () {s with heap:=h',toks:=s.toks+2}):
  wpAny (model prog w) A (setAttr (.ref x) name v) Q E s:=by
 obtain ⟨od,J,hl⟩:=I.look;refine PySem.W.set_plain X J hs (PySem.W.osa_open (s:={s with toks:=s.toks+1}) (r:=none) X J hp ht λb=>?_);obtain ⟨cd,hc,hd'⟩:=PySem.W.any_some hh;have hx:s.heap.get? x=some ⟨.ref C,some dx,.plain,#[]⟩:=I.obj;refine wpAny_bind (wpAny_pure (wpAny_bind (wpAny_bind (wpAny_loadPart hx (wpAny_bind (Looks.here (s:={s with toks:=s.toks+1}) (PySem.W.looks_clsIn X hc) ?_))))));rw[hd'];refine wpAny_pure (a:=some dx) (wpAny_bind (wpAny_pure (wpAny_bind ?_)));refine wpAny_nsSet1 (s:={s with toks:=s.toks+1}) I.ns λh' hn2 hs2=>?_;obtain ⟨oD,esD,epD,hoD,hdD,hcD⟩:=hn2.count (PySem.Within.cons name v hw);refine wpAny_bind (wpAny_lookBehind hoD (by rw[hdD];exact pastItsLine_dict (Nat.le_trans hcD (by rw[length_cons];lia))) ?_);exact wpAny_pure (h _ ⟨(hs2.2 _ (Ne.symm I.ne)).trans I.obj,hn2,I.ne⟩ hs2)
theorem NZ (X:K.In s.heap) (hm:makesIn K C=true)
  (hi:PySem.W.findIn K (.ref C) "__init__"=some (some (.ref f))) (hf:PySem.W.typeIn K (.ref f)=some (.type "function"))
  (h:codeAny (model prog w) (A.under (.builtin "type.__call__" ⟨.ref C::vs,kw⟩)) (.call (.ref f) ⟨.ref (s.heap.objs.size+1)::vs,kw⟩) (PySem.W.InitBack (s.heap.objs.size+1) R)
   {s with heap:=(s.heap.push emptyDict).push (instObj C s.heap.objs.size)}):
  codeAny (model prog w) A (.call (.ref C) ⟨vs,kw⟩) R s:=by
 obtain ⟨hh,g,d,t,os⟩:=s;exact PySem.W.make_core (PySem.W.makes_of X hm) (PySem.W.looks_findIn X hi) (λself=>PySem.W.bind_fn X self hf) (.inl rfl) h
end
def iU (f:Str) (v:V):List (Str × V)->List (Str × V)
 |[]=>[(f,v)]
 | (g,x)::r=>if g=f then (g,v)::r else (g,x)::iU f v r
theorem oN (f g:Str) (v:V):∀fs:List (Str × V),(iU f v fs).lookup g=if g=f then some v else fs.lookup g
 |[]=>by
  show List.lookup g [(f,v)]=_;by_cases h:g=f
  ·have hb:(g==f)=true:=beq_iff_eq.mpr h;simp only [List.lookup,hb,if_pos h]
  ·have hb:(g==f)=false:=beq_eq_false_iff_ne.mpr h;simp only [List.lookup,hb,if_neg h]
 | (k,x)::r=>by
  have ih:=oN f g v r;rw[show iU f v ((k,x)::r)=(if k=f then (k,v)::r else (k,x)::iU f v r) from rfl];by_cases hk:k=f
  ·rw[if_pos hk];by_cases h:g=k
   ·have hb:(g==k)=true:=beq_iff_eq.mpr h;simp only [List.lookup,hb,if_pos (h.trans hk)]
   ·have hb:(g==k)=false:=beq_eq_false_iff_ne.mpr h;simp only [List.lookup,hb,if_neg (λe:g=f=>h (e.trans hk.symm))]
  ·rw[if_neg hk];by_cases h:g=k
   ·have hb:(g==k)=true:=beq_iff_eq.mpr h;simp only [List.lookup,hb,if_neg (λe:g=f=>hk (h.symm.trans e))]
   ·have hb:(g==k)=false:=beq_eq_false_iff_ne.mpr h;simp only [List.lookup,hb];exact ih
theorem nO (f:Str) (v:V):∀fs:List (Str × V),f∈(iU f v fs).map (·.1)/\∀g,g∈fs.map (·.1)->g∈(iU f v fs).map (·.1)
 |[]=>⟨by simp [iU],λg h=>by simp at h⟩
 | (k,x)::r=>by
  obtain ⟨i1,i2⟩:=nO f v r;rw[show iU f v ((k,x)::r)=(if k=f then (k,v)::r else (k,x)::iU f v r) from rfl];by_cases hk:k=f
  ·rw[if_pos hk];subst hk;exact ⟨by simp,λg h=>by simpa using h⟩
  ·rw[if_neg hk];refine ⟨?_,λg h=>?_⟩
   ·rw[map_cons];exact mem_cons_of_mem _ i1
   ·rw[map_cons] at h ⊢;rcases mem_cons.mp h with e|e
    ·exact mem_cons.mpr (.inl e)
    ·exact mem_cons_of_mem _ (i2 g e)
theorem oO (f:Str) (v:V):∀fs:List (Str × V),(iU f v fs).length<=fs.length+1
 |[]=>by simp [iU]
 | (k,x)::r=>by
  have ih:=oO f v r;rw[show iU f v ((k,x)::r)=(if k=f then (k,v)::r else (k,x)::iU f v r) from rfl];by_cases hk:k=f
  ·rw[if_pos hk,length_cons,length_cons];lia
  ·rw[if_neg hk,length_cons,length_cons];lia
theorem eX.some_of (r:eX (some v) o):∃u,o=some u/\RelV v u:=by
 cases o with
 |none=>exact (show False from r).elim
 |some u=>exact ⟨u,rfl,r⟩
theorem eX.none_of (r:eX none o):o=none:=by
 cases o with
 |none=>rfl
 |some u=>exact (show False from r).elim
theorem vG (r:RelV v u):PySem.W.handedIn u=true:=by
 cases v with
 |non=>cases (show u=Value.none from r);rfl
 |bl b=>cases (show u=Value.bool b from r);rfl
 |int i=>obtain ⟨t,e⟩:=(show ∃t,u=Value.int i t from r);cases e;rfl
 |str x=>obtain ⟨t,e⟩:=(show ∃t,u=Value.str x t from r);cases e;rfl
 |byt b=>obtain ⟨t,e⟩:=(show ∃t,u=Value.bytes b t from r);cases e;rfl
 |flt b=>obtain ⟨t,e⟩:=(show ∃t,u=Value.float b t from r);cases e;rfl
 |ref a=>cases (show u=Value.ref a from r);rfl
 |ty n=>cases (show u=Value.type n from r);rfl
section
variable {P:Program} {w:World} {H H':Hp} {h h':Heap} {a C dx:Addr} {fs fs':List (Str × V)}
theorem pV (hok:dN P w H h) (e:H a=some (.ins C dx fs)):∃mA,EH h a dx C mA/\(∀f,eX (fs.lookup f) (mA f))/\PySem.Within mA (fs.map (·.1))/\fs.length<=1000/\H dx=some (.own a):=by
 obtain ⟨d,z,ne,ob,mA,n,r,q⟩:=(show aX P w H h a (.ins C dx fs) from hok a _ e);exact ⟨mA,⟨ob,n,ne⟩,r,q,z,d⟩
end
structure yS (K:Fg) (C:Addr):Prop where
 pg:plainGet K C Str.empty=true
 hd:PySem.W.hasDictIn K C=true
 po:PySem.W.plainOver K C=true
 sa:PySem.W.findIn K (.ref C) "__setattr__"=some (some (.builtin "object.__setattr__"))
theorem yS.get {K:Fg} {C:Addr} (c:yS K C) (f:Str):plainGet K C f=true:=c.pg
def eB (K:Fg) (C:Addr) (f:Str):Prop:=PySem.W.findIn K (.ref C) f=some none
theorem eB.taker {K:Fg} {C:Addr} {f:Str} (n:eB K C f):takerIn K C f=some none:=by
 unfold takerIn;rw[show PySem.W.findIn K (.ref C) f=some none from n];rfl
structure Meth (K:Fg) (C:Addr) (m:Str) (f:Addr):Prop where
 at_:PySem.W.findIn K (.ref C) m=some (some (.ref f))
 fn:isFn K (.ref f)=true
 kp:keepIn K (.ref f)=true
section
variable {X:Cx} {pins:List (Addr × Obj)} {σ:St} {H:Hp} {s:Shared} {a C dx:Addr} {fs:List (Str × V)} {f:Str} {v:V} {A:Around} {E:Value->Shared->Prop}
theorem DT {b:Bool} {Q:Value->Shared->Prop} (I:Inv X pins σ H s) (e:H a=some (.ins C dx fs)) (c:yS X.K C) (n:eB X.K C f) (l:fs.lookup f=some v)
  (h:∀u s',Inv X pins σ H s'->RelV v u->Q u s'):wpAny (model X.prog X.w) A (getAttr (.ref a) f b) Q E s:=by
 obtain ⟨mA,O,r,_,_,_⟩:=pV I.hok e;obtain ⟨u,hu,ru⟩:=eX.some_of (v:=v) (o:=mA f) (by rw[<-l];exact r f);exact get_map I.kIn O (c.get f) c.hd n hu (vG ru) (h u _ (I.tok _) ru)
theorem DS {m:Str} {g:Addr} {pl:Sem Bool} {Q:Value × List Value->Shared->Prop} (I:Inv X pins σ H s) (e:H a=some (.ins C dx fs)) (c:yS X.K C) (k:Meth X.K C m g) (l:fs.lookup m=none)
  (h:Q (.ref g,[.ref a]) s):wpAny (model X.prog X.w) A (getMethod (.ref a) m pl) Q E s:=by
 obtain ⟨mA,O,r,_,_,_⟩:=pV I.hok e;have hn:mA m=none:=eX.none_of (by rw[<-l];exact r m);exact PN I.kIn O (c.get m) k.at_ k.fn hn h
theorem CW {y:V} {u:Value} {Q:Unit->Shared->Prop} (I:Inv X pins σ H s) (e:H a=some (.ins C dx fs)) (c:yS X.K C) (n:eB X.K C f) (hl:fs.length<1000) (ry:RelV y u)
  (h:∀s',Inv X pins σ (upd H a (.ins C dx (iU f y fs))) s'->Q () s'):wpAny (model X.prog X.w) A (setAttr (.ref a) f u) Q E s:=by
 obtain ⟨mA,O,r,wi,_,ho⟩:=pV I.hok e;have hz:(fs.map (·.1)).length<=sizeLine:=by rw[length_map,sizeLine_eq];lia
 refine TV I.kIn O c.sa c.po n.taker c.hd wi hz λh' O' sb=>h _ ?_;have hd:∃o,h'.get? dx=some o:=let ⟨o,_,_,e',_⟩:=O'.ns;⟨o,e'⟩;refine I.write (x:=a) (e:=dx) (by rw[e];exact tI) (.inr ho) (λb q hb z=>(sb.2 b hb).trans z) hd ?_;refine ⟨by rw[aE O.ne];exact ho,?_,O.ne,O'.obj,_,O'.ns,λg=>?_,λg hg=>?_⟩
 ·have:=oO f y fs;lia
 ·show eX ((iU f y fs).lookup g) (if g=f then some u else mA g);rw[oN];by_cases q:g=f
  ·rw[if_pos q,if_pos q];exact ry
  ·rw[if_neg q,if_neg q];exact r g
 ·by_cases q:g=f
  ·rw[q];exact (nO f y fs).1
  ·refine (nO f y fs).2 g (wi g λz=>hg ?_);show (if g=f then some u else mA g)=none;rw[if_neg q];exact z
theorem Inv.made (I:Inv X pins σ H s):Inv X pins σ (upd (upd H s.heap.objs.size (.own (s.heap.objs.size+1))) (s.heap.objs.size+1) (.ins C s.heap.objs.size []))
  {s with heap:=(s.heap.push emptyDict).push (instObj C s.heap.objs.size)}:=by
 have e1:(s.heap.push emptyDict).get? s.heap.objs.size=some emptyDict:=get?_push_size s.heap rfl;have e2:((s.heap.push emptyDict).push (instObj C s.heap.objs.size)).get? (s.heap.objs.size+1)=some (instObj C s.heap.objs.size):=by
  have:=get?_push_size (s.heap.push emptyDict) (o:=instObj C s.heap.objs.size) rfl;rwa [Heap.size_push] at this
 have e3:(s.heap.push emptyDict).Ns s.heap.objs.size (λ_=>none):=⟨emptyDict,#[],_,e1,rfl,(λe he=>absurd he (by simp)),λ_=>rfl⟩;have I1:=I.laid (a:=s.heap.objs.size) (o:=.own (s.heap.objs.size+1)) (h':=s.heap.push emptyDict) (t':=s.toks) (λb u q=>get?_push_of_some _ q) (Nat.le_refl _) ⟨_,e1⟩;refine I1.laid (a:=s.heap.objs.size+1) (o:=.ins C s.heap.objs.size []) (t':=s.toks) (λb u q=>get?_push_of_some _ q) (le_of_eq (Heap.size_push _ _)) ?_;have ne:s.heap.objs.size≠s.heap.objs.size+1:=ne_of_lt (lt_succ_self _);refine ⟨by rw[aE ne,aA],zero_le _,ne,e2,λ_=>none,(Heap.Ns1.of_empty e3).at λo q=>get?_push_of_some _ q,λ_=>tI,λy hy=>absurd rfl hy⟩
theorem GR {prog:Program} {w:World} {env:Env} {e:Expr} {f:Str} {pos:Pos} {s:Shared} {Q:Value->Shared->Prop} (hb:attributeBase e f env (eval e env)=eval e env)
  (h:wpAny (model prog w) A (eval e env) (λo aa=>wpAny (model prog w) A (getAttr o f true) Q E aa) E s):wpAny (model prog w) A (eval (.Attribute e f pos) env) Q E s:=
 Attribute_any_ h (by rw[arm_eval_Attribute,hb])
end
def Iw (K:Fg) (ta:TE) (f:Str):TE:=λσ H Q=>ta σ H λx H1=>∃a C dx fs v,x=.ref a/\H1 a=some (.ins C dx fs)/\yS K C/\eB K C f/\fs.lookup f=some v/\Q v H1
def Jf (K:Fg) (ta tv:TE) (f:Str):TS:=λD σ H=>tv σ H λy H1=>ta σ H1 λx H2=>∃a C dx fs,x=.ref a/\H2 a=some (.ins C dx fs)/\yS K C/\eB K C f/\fs.length<1000/\
 D.nx σ (upd H2 a (.ins C dx (iU f y fs)))
section
variable {X:Cx} {o e value:Expr} {f:Str} {pos pos' tpos:Pos} {ta tv:TE}
theorem Cm (he:PE X e ta) (hb:attributeBase e f X.env (eval e X.env)=eval e X.env):PE X (.Attribute e f pos) (Iw X.K ta f):=by
 intro pins s σ H Q I h;refine GR hb (bH (he pins s σ H _ I h) λu s1 ⟨x,H1,I1,rx,a,C,dx,fs,v,ex,ea,c,n,l,q⟩=>?_);subst ex;obtain rfl:u=Value.ref a:=rx;exact DT I1 ea c n l λu' s2 I2 ru=>⟨v,H1,I2,ru,q⟩
theorem By (ha:PE X o ta) (hv:PE X value tv) (hs:swapsWith value (some (.Attribute o f pos')) pos.line X.env=pure false):PS X (.Assign [.Attribute o f pos'] value pos) (Jf X.K ta tv f):=by
 intro pins s σ H D I h;refine plainObj_wpAny_Assign_Attribute (bH (hv pins s σ H _ I h) λu s1 ⟨y,H1,I1,ry,q⟩=>bH (ha pins s1 σ H1 _ I1 q) λov s2 ⟨x,H2,I2,rx,a,C,dx,fs,ex,ea,c,n,l,q2⟩=>?_) hs;subst ex;obtain rfl:ov=Value.ref a:=rx;exact CW I2 ea c n l ry λs3 I3=>⟨σ,_,I3,q2⟩
end
section
variable {X:Cx} {pins:List (Addr × Obj)} {σ:St} {H:Hp} {s:Shared} {A:Around} {E:Value->Shared->Prop} {Q:Value->Shared->Prop} {c:Value} {b:Bool}
inductive cE (K:Fg) (H:Hp):V->Value->Prop where
 |non:cE K H .non (.type "NoneType")
 |bl (x:Bool):cE K H (.bl x) (.type "bool")
 |int (i:Int):cE K H (.int i) (.type "int")
 |str (x:Str):cE K H (.str x) (.type "str")
 |flt (x:UInt64):cE K H (.flt x) (.type "float")
 |lst {a:Addr} {xs:List V} (e:H a=some (.lst xs)):cE K H (.ref a) (.type "list")
 |frz {a:Addr} {o:Obj} {xs:List V} (e:H a=some (.frz o (.lst xs))):cE K H (.ref a) (.type "list")
 |tup {a:Addr} {xs:List V} (e:H a=some (.tup xs)):cE K H (.ref a) (.type "tuple")
 |dK {a:Addr} {kvs:List (Key × V)} (e:H a=some (.dK kvs)):cE K H (.ref a) (.type "dict")
 |dT {a:Addr} {kvs:List (List Key × V)} (e:H a=some (.dT kvs)):cE K H (.ref a) (.type "dict")
 |ins {a C dx:Addr} {fs:List (Str × V)} (e:H a=some (.ins C dx fs)) (cl:yS K C) (ha:PySem.W.findIn K (.ref C) "__class__"=some (some (.builtin "object.__class__")))
   (hn:PySem.W.specialIn K (.builtin "object.__class__") "__get__"=some (some (.builtin "getset_descriptor.__get__"))) (htk:PySem.W.takesIn K (.builtin "object.__class__")=some true)
   (hm:PySem.W.mroIn K C (.type "object")=some true):cE K H (.ref a) (.ref C)
theorem vC (I:Inv X pins σ H s) (rx:RelV x u) (ty:cE X.K H x t) (e:kitOne X.K t c=some b) (h:∀tk,Q (.bool b) {s with toks:=tk}):
  wpAny (model X.prog X.w) A (call (.builtin "isinstance") [u,c]) Q E s:=by
 cases ty with
 |non=>cases (show u=Value.none from rx);exact kia_one PySem.W.kitx_none I.kIn tI e (λz=>nomatch z) h
 |bl y=>cases (show u=Value.bool y from rx);exact kia_one PySem.W.kitx_bool I.kIn tI e (λz=>nomatch z) h
 |int i=>obtain ⟨t,q⟩:=(show ∃t,u=Value.int i t from rx);cases q;exact kia_one PySem.W.kitx_int I.kIn tI e (λz=>nomatch z) h
 |str y=>obtain ⟨t,q⟩:=(show ∃t,u=Value.str y t from rx);cases q;exact kia_one PySem.W.kitx_str I.kIn tI e (λz=>nomatch z) h
 |flt y=>obtain ⟨t,q⟩:=(show ∃t,u=Value.float y t from rx);cases q;exact kia_one PySem.W.kitx_float I.kIn tI e (λz=>nomatch z) h
 |@lst a xs ea=>
  cases (show u=Value.ref a from rx);obtain ⟨_,_,n,_,h1⟩:=(show aX X.prog X.w H s.heap a (.lst xs) from I.hok a _ ea);exact kia_one PySem.W.kitx_list I.kIn ⟨_,h1,rfl⟩ e (λz=>nomatch z) h
 |@frz a ob xs ea=>
  cases (show u=Value.ref a from rx);obtain ⟨_,_,_,n,_,h1⟩:=(show aX X.prog X.w H s.heap a (.frz ob (.lst xs)) from I.hok a _ ea);exact kia_one PySem.W.kitx_list I.kIn ⟨_,h1,rfl⟩ e (λz=>nomatch z) h
 |@tup a xs ea=>
  cases (show u=Value.ref a from rx);obtain ⟨_,_,_,p⟩:=(show aX X.prog X.w H s.heap a (.tup xs) from I.hok a _ ea);obtain ⟨o,h1,h2,_⟩:=p;exact kia_one PySem.W.kitx_tuple I.kIn ⟨o,h1,h2⟩ e (λz=>nomatch z) h
 |@dK a kvs ea=>
  cases (show u=Value.ref a from rx);obtain ⟨_,_,vs,_,p⟩:=(show aX X.prog X.w H s.heap a (.dK kvs) from I.hok a _ ea);obtain ⟨o,es,ep,h1,h2,_⟩:=p;exact kia_one PySem.W.kitx_dict I.kIn ⟨o,h1,h2.1⟩ e (λz=>nomatch z) h
 |@dT a kvs ea=>
  cases (show u=Value.ref a from rx);obtain ⟨_,_,xs,_,o,es,ep,h1,h2,_⟩:=(show aX X.prog X.w H s.heap a (.dT kvs) from I.hok a _ ea);exact kia_one PySem.W.kitx_dict I.kIn ⟨o,h1,h2.1⟩ e (λz=>nomatch z) h
 |@ins a C dx fs ea cl ha hn htk hm=>
  cases (show u=Value.ref a from rx);obtain ⟨mA,O,_⟩:=pV I.hok ea;obtain ⟨od,J,_⟩:=O.look;exact kia_one (PySem.W.kitx_own (cl.get _) cl.hd ha hn htk hm) I.kIn J e (λz=>nomatch z) h
end
structure bM (k:Nat) (A:Around):Prop where
 hd:A.handled=none
 dp:A.depth+3 * k+5<recursionLimit
 un:A.units+16 * k+200<cLine
theorem bM.mono (r:bM k A) (h:j<=k):bM j A:=⟨r.hd,by have:=r.dp;lia,by have:=r.un;lia⟩
theorem bM.deeper (r:bM (k+1) A) (env:Env):bM k (A.deeper env):=
 ⟨r.hd,by have:=r.dp;show A.depth+1+3 * k+5<_;lia,by have:=r.un;show A.units+3+16 * k+200<_;lia⟩
theorem kU {A:Around} {C:Addr} {us:List Value} {kw:List (Str × Value)}:(A.under (.builtin "type.__call__" ⟨.ref C::us,kw⟩)).depth=A.depth+1:=by
 first|rfl|simp [Around.under,Code.weight,Code.isCreation,Code.isGuard,Code.isCaller,Code.frames,Code.isFrame,guardIds]
theorem DK {A:Around} {C:Addr} {us:List Value} {kw:List (Str × Value)}:(A.under (.builtin "type.__call__" ⟨.ref C::us,kw⟩)).units=A.units+1:=by
 first|rfl|simp [Around.under,Code.cUnits,Code.frames,Code.isFrame]
theorem bM.make (r:bM (k+1) A) (C:Addr) (us:List Value) (kw:List (Str × Value)):bM k (A.under (.builtin "type.__call__" ⟨.ref C::us,kw⟩)):=
 ⟨r.hd,by have:=r.dp;rw[kU];lia,by have:=r.un;rw[DK];lia⟩
theorem bM.depth (r:bM k A):A.depth<recursionLimit:=by have:=r.dp;lia
theorem bM.units (r:bM k A):A.units+64<cLine:=by have:=r.un;lia
def Io:TA:=λ_ H Q=>Q [] H
def YC (ta:TE) (tr:TA):TA:=λσ H Q=>ta σ H λx H1=>tr σ H1 λxs H2=>Q (x::xs) H2
section
variable {X:Cx} {e:Expr} {es:List Expr} {te:TE} {t:TA} {pos:Pos}
theorem ND:PA X [] Io:=λ_ _ _ _ H Q I h=>Calls.spliced_nil ⟨[],H,I,.nil,h⟩
theorem FF (ha:PE X e te) (hr:PA X es t) (hs:starEach (e::es) X.env=(false,eval e X.env)::starEach es X.env:=by rfl):PA X (e::es) (YC te t):=by
 intro pos pins s σ H Q I h;rw[hs];show wpAny _ _ (spliced ((false,eval e X.env)::backTo pos (starEach es X.env))) _ _ s;refine Calls.spliced_cons (bH (ha pins s σ H _ I h) λu s1 ⟨x,H1,I1,r1,q1⟩=>?_);exact bH (hr pos pins s1 σ H1 _ I1 q1) λus s2 ⟨xs,H2,I2,r2,q2⟩=>⟨x::xs,H2,I2,.cons r1 r2,q2⟩
def Ik (t:TA):TE:=λσ H Q=>t σ H λxs H1=>xs.length<=sizeLine/\∀p,H1 p=none->Q (.ref p) (upd H1 p (.tup xs))
def Ir (t:TA):TE:=λσ H Q=>t σ H λxs H1=>xs.length<=sizeLine/\∀p,H1 p=none->Q (.ref p) (upd H1 p (.lst xs))
theorem Ce {x1} (h:PA X es t):PE X (.Tuple es x1 pos) (Ik t):=by
 intro pins s σ H Q I hq;refine wpAny_Tuple_spliced (bH (h pos pins s σ H _ I hq) λus s1 ⟨xs,H1,I1,r,z,q⟩=>⟨by rw[<-r.length];exact z,?_⟩);have hf:H1 s1.heap.objs.size=none:=I1.hok.fresh (Nat.le_refl _);refine ⟨.ref s1.heap.objs.size,upd H1 s1.heap.objs.size (.tup xs),I1.laid (t':=s1.toks) (λb u e=>get?_push_of_some _ e) (Nat.le_refl _) ?_,rfl,q _ hf⟩;exact ⟨z,us,r,⟨_,get?_push_size _ rfl,rfl,_,rfl⟩⟩
theorem Cj (h:PA X es t):PE X (.List es pos) (Ir t):=by
 intro pins s σ H Q I hq;refine wpAny_List_spliced (bH (h pos pins s σ H _ I hq) λus s1 ⟨xs,H1,I1,r,z,q⟩=>⟨by rw[<-r.length];exact z,?_⟩);have hf:H1 s1.heap.objs.size=none:=I1.hok.fresh (Nat.le_refl _);refine ⟨.ref s1.heap.objs.size,upd H1 s1.heap.objs.size (.lst xs),I1.laid (t':=s1.toks) (λb u e=>get?_push_of_some _ e) (Nat.le_refl _) ?_,rfl,q _ hf⟩;exact ⟨z,us,0,r,get?_push_size _ rfl⟩
end
abbrev Sp:=List V->Hp->VK->XK->Prop
abbrev SQ:=List Env->Hp->Shared->XK->Value->Shared->Prop
structure yP (P:Program) (w:World) (K:Fg) (mg:Str->Option Value) (base:Heap) (A:Around) (outer:List Env) (s:Shared) (H:Hp):Prop where
 frames:A.frames=some outer
 mod:Mod K mg base
 bs:∀b o,base.get? b=some o->s.heap.get? b=some o/\H b=none
 bsz:base.objs.size<=s.heap.objs.size
 funs:s.heap.FunFrames base outer
 frf:∀b∈dC outer,H b=none
 hok:dN P w H s.heap
 bare:AllBare s.gens
def CE (outer:List Env) (P:Program) (w:World) (H:Hp) (s:Shared) (Q:VK) (u:Value) (s':Shared):Prop:=
 ∃v H',s'.os=s.os/\AllBare s'.gens/\Un (dC outer) [] H H' s.heap s'.heap/\dN P w H' s'.heap/\RelV v u/\Q v H'
def CR (CX:SQ) (outer:List Env) (P:Program) (w:World) (H:Hp) (s:Shared) (Q:VK) (E:XK) (r:Result) (s':Shared):Prop:=
 match r with
 | .ok (.ret u)=>CE outer P w H s Q u s'
 | .ok _=>False
 | .error e=>CX outer H s E e s'
structure pG (P:Program) (w:World) (K:Fg) (mg:Str->Option Value) (base:Heap) (CX:SQ) (k:Nat) (f:Addr) (fd:FuncData) (ps:List Str) (sp:Sp):Prop where
 len:∀vs H Q E,sp vs H Q E->vs.length=ps.length
 run:∀(A:Around) (outer:List Env) (s:Shared) (H:Hp) (args:Args) (us:List Value) (vs:List V) (Q:VK) (E:XK),bM k A->yP P w K mg base A outer s H->BindsTo s fd args (ps.zip us)->Vals vs us->sp vs H Q E->
  codeAny (model P w) A (.call (.ref f) args) (CR CX outer P w H s Q E) s
theorem yP.make {P:Program} {w:World} {K:Fg} {mg:Str->Option Value} {base:Heap} {A:Around} {outer:List Env} {s:Shared} {H:Hp} (e:yP P w K mg base A outer s H) (C:Addr) (us:List Value) (kw:List (Str × Value)):
  yP P w K mg base (A.under (.builtin "type.__call__" ⟨.ref C::us,kw⟩)) outer s H:=⟨by first|exact e.frames|(simpa [Around.under,Code.envs,Code.isFrame,pushEnvs] using e.frames),e.mod,e.bs,e.bsz,e.funs,e.frf,e.hok,e.bare⟩
section
variable {X:Cx} {pins:List (Addr × Obj)} {σ:St} {H:Hp} {s s':Shared}
theorem Inv.env0 (I:Inv X pins σ H s):yP X.prog X.w X.K X.mg X.base X.A X.stack s H:=
 ⟨I.ok.frames,I.ok.mod,I.bs,Nat.le_trans I.ok.bsz I.sz,I.stack,I.stkFree,I.hok,I.bare⟩
theorem Inv.after (I:Inv X pins σ H s) (h:CE X.stack X.prog X.w H s Q u s'):EP X pins σ Q u s':=by
 obtain ⟨v,H',os,bare,un,hok,r,q⟩:=h;obtain ⟨hh,g,d,t,os'⟩:=s';obtain rfl:os'=s.os:=os;exact ⟨v,H',I.call (h':=hh) (g':=g) (d':=d) (t':=t) (ch:=[]) un hok bare (λb z=>absurd z (by simp)),r,q⟩
end
def Binds (K:Fg) (fd:FuncData) (ps:List Str) (ds:List Value):Prop:=
 ∀(s:Shared) (us:List Value),K.In s.heap->(us++ds).length=ps.length->BindsTo s fd ⟨us,[]⟩ (ps.zip (us++ds))
theorem Binds.all {K:Fg} {fd:FuncData} {ps:List Str} (h:∀us:List Value,us.length=ps.length->bindArgs fd ⟨us,[]⟩=pure (ps.zip us)):Binds K fd ps []:=λs us _ hl=>by
 rw[append_nil] at hl ⊢;exact .of_eq (h us hl)
def Passes (CX:SQ) (X:Cx) (E:XK):Prop:=∀(pins:List (Addr × Obj)) (σ:St) (H:Hp) (s:Shared) (e:Value) (s':Shared),Inv X pins σ H s->CX X.stack H s E e s'->X.xe e s'
section
variable {X:Cx} {CX:SQ} {k:Nat} {f C:Addr} {fd:FuncData} {ps:List Str} {sp:Sp} {dvs:List V} {ds:List Value} {E:XK} {x m:Str} {p pos apos:Pos} {e o:Expr} {es:List Expr} {ta:TE} {t:TA}
structure Mk (K:Fg) (C f:Addr):Prop where
 makes:makesIn K C=true
 init:PySem.W.findIn K (.ref C) "__init__"=some (some (.ref f))
 fn:isFn K (.ref f)=true
 kp:keepIn K (.ref C)=true
end
section
variable {X:Cx} {CX:SQ} {k:Nat} {f C:Addr} {fd:FuncData} {ps ks:List Str} {sp:Sp} {E:XK} {x m:Str} {p pos apos kpos:Pos} {e o:Expr} {es:List Expr} {kws:List Keyword} {te ta:TE} {t tk:TA} {nm:Option Str}
variable {g:List Value->List Value->List Value} {gV:List V->List V->List V}
end
structure cJ (N P:List Str) (sc:Scope):Prop where
 kind:sc.kind=.function
 co:sc.isCoroutine=false
 gen:sc.isGenerator=false
 nd:N.Nodup
 pre:N.take P.length=P
 par:∀x∈P,sc.names.lookup x=some .local\/sc.names.lookup x=some .cell
 nofree:∀y∈sc.names,y.2≠.free
theorem vP {kindOf:Str->Option NameKind} {x:Str}:∀{binds:List (Str × Value)} {m:Str->Option Value},(∀v,(x,v)∉binds)->bindL kindOf binds m x=m x
 |[],_,_=>rfl
 | (n,v)::r,m,h=>by
  unfold bindL;rw[vP λw hw=>h w (mem_cons_of_mem _ hw)];split
  ·have:x≠n:=by rintro rfl;exact h v mem_cons_self
   simp [this]
  ·rfl
theorem vR {kindOf:Str->Option NameKind} {x:Str}:∀{binds:List (Str × Value)} {m:Str->Option Value},(∀v,(x,v)∉binds)->bindC kindOf binds m x=m x
 |[],_,_=>rfl
 | (n,v)::r,m,h=>by
  unfold bindC;rw[vR λw hw=>h w (mem_cons_of_mem _ hw)];split
  ·rfl
  ·have:x≠n:=by rintro rfl;exact h v mem_cons_self
   simp [this]
theorem vQ {kindOf:Str->Option NameKind} {x:Str} {v:Value}:∀{P:List Str} {vs:List Value} {i:Nat} {m:Str->Option Value},P.Nodup->P[i]?=some x->vs[i]?=some v->kindOf x=some .local->
  bindL kindOf (P.zip vs) m x=some v
 |[],_,_,_,_,h,_,_=>by simp at h
 |_::_,[],_,_,_,_,h,_=>by simp at h
 |p::P,w::vs,0,m,nd,h1,h2,hk=>by
  simp at h1 h2;subst h1;subst h2;show bindL kindOf ((p,w)::P.zip vs) m p=_;unfold bindL;rw[vP λv hv=>(nodup_cons.mp nd).1 (of_mem_zip hv).1,if_pos hk];simp
 |p::P,w::vs,i+1,m,nd,h1,h2,hk=>by
  show bindL kindOf ((p,w)::P.zip vs) m x=_;unfold bindL;exact vQ (i:=i) (nodup_cons.mp nd).2 (by simpa using h1) (by simpa using h2) hk
theorem vS {kindOf:Str->Option NameKind} {x:Str} {v:Value}:∀{P:List Str} {vs:List Value} {i:Nat} {m:Str->Option Value},P.Nodup->P[i]?=some x->vs[i]?=some v->kindOf x≠some .local->
  bindC kindOf (P.zip vs) m x=some v
 |[],_,_,_,_,h,_,_=>by simp at h
 |_::_,[],_,_,_,_,h,_=>by simp at h
 |p::P,w::vs,0,m,nd,h1,h2,hk=>by
  simp at h1 h2;subst h1;subst h2;show bindC kindOf ((p,w)::P.zip vs) m p=_;unfold bindC;rw[vR λv hv=>(nodup_cons.mp nd).1 (of_mem_zip hv).1,if_neg hk];simp
 |p::P,w::vs,i+1,m,nd,h1,h2,hk=>by
  show bindC kindOf ((p,w)::P.zip vs) m x=_;unfold bindC;exact vS (i:=i) (nodup_cons.mp nd).2 (by simpa using h1) (by simpa using h2) hk
def start (N:List Str) (vs:List V):St:=vs.map some++replicate (N.length - vs.length) none
def jZ (CX:SQ) (P:Program) (w:World) (K:Fg) (mg:Str->Option Value) (base:Heap) (N:List Str) (qual:Str) (scope:Scope) (f:Addr) (cd:Value) (A:Around) (outer:List Env) (s:Shared) (H:Hp) (E:XK):Cx where
 prog:=P
 w:=w
 K:=K
 mg:=mg
 base:=base
 A:=A.deeper (envOfC qual scope s.heap.objs.size f cd)
 N:=N
 s₀:=s
 H₀:=H
 env:=envOfC qual scope s.heap.objs.size f cd
 outer:=outer
 stack:=envOfC qual scope s.heap.objs.size f cd::outer
 ex:=[]
 calm:=true
 fn:=λ_=>true
 pn:=[]
 xe:=λe s'=>wpAny (model P w) (A.deeper (envOfC qual scope s.heap.objs.size f cd)) (leaving (envOfC qual scope s.heap.objs.size f cd) e) (λ_ s''=>CX outer H s E e s'') (λe' s''=>CX outer H s E e' s'') s'
theorem sW {sc:Scope} {n:Nat} {x:Str} (h:sc.names.lookup x=some .cell):∃c,(cellsFrom n sc.names []).lookup x=some c:=by
 have q:=cellsFrom_some sc.names n [] (.inl h);exact isSome_iff_exists.mp q
theorem vD {CX:SQ} {P:Program} {w:World} {K:Fg} {mg:Str->Option Value} {base:Heap} {N ps:List Str} {qual:Str} {scope:Scope} {f:Addr} {cd:Value} {A:Around} {outer:List Env} {s s1:Shared} {H:Hp} {E:XK} {us:List Value} {vs:List V}
  (S:cJ N ps scope) (hd:A.handled=none) (e0:yP P w K mg base A outer s H) (hl:vs.length=ps.length) (r:Vals vs us)
  (x:InCallC s s.heap.objs.size (bindL (envOfC qual scope s.heap.objs.size f cd).kindOf (ps.zip us) λ_=>none) (cellsFrom (s.heap.objs.size+1) scope.names []) (bindC (envOfC qual scope s.heap.objs.size f cd).kindOf (ps.zip us) λ_=>none) s1):
  Inv (jZ CX P w K mg base N qual scope f cd A outer s H E) [] (start N vs) H s1:=by
 have hpl:ps.length<=N.length:=by have:=congrArg List.length S.pre;rw[length_take] at this;lia
 obtain ⟨h1,tk,rfl,hk⟩:=x.done;have noA:∀b:Addr,b∉(jZ CX P w K mg base N qual scope f cd A outer s H E).ex:=λb z=>absurd (show b∈([]:List Addr) from z) (by simp);refine ⟨⟨e0.mod,S.kind,rfl,rfl,Nat.le_refl _,λy z c h1 h2=>?_,λy hy=>?_,λy c _ h=>?_,λ_=>hd,Around.frames_deeper e0.frames,.inr ⟨rfl,rfl⟩,λb z=>absurd z (noA b),e0.bs,e0.bsz,λb _ _=>noA b,λb z=>absurd z (noA b),e0.funs,e0.frf⟩,
  rfl,e0.bare,Un.kept hk,⟨_,x.toInCall.ns,λi y v h1 h2 h3=>?_⟩,λy c h=>⟨_,x.cell y c h⟩,e0.hok.fresh (Nat.le_refl _),λy c h=>?_,λp hp=>absurd (show p∈([]:List (Addr × Obj)) from hp) (by simp),e0.hok.kept hk,?_⟩
 ·exact name_of_addr x.apart (PySem.mem_of_lookup h1) (PySem.mem_of_lookup h2)
 ·have hy:scope.names.lookup y=some .cell\/scope.names.lookup y=some .free:=hy;rcases hy with hy|hy
  ·exact sW hy
  ·exact absurd rfl (S.nofree _ (PySem.mem_of_lookup hy))
 ·exact le_of_lt (x.above y c (PySem.mem_of_lookup h))
 ·have hi:i<vs.length:=by
   unfold start at h2;by_cases hi:i<vs.length
   ·exact hi
   ·rw[getElem?_append_right (by simpa using hi)] at h2;rw[List.getElem?_replicate] at h2;split at h2<;>cases h2
  have ha:vs[i]?=some v:=by
   unfold start at h2;rw[getElem?_append_left (by simpa using hi),getElem?_map] at h2;cases e:vs[i]? with
   |none=>rw[e] at h2;cases h2
   |some a=>rw[e] at h2;cases h2;rfl
  obtain ⟨u,hu,rv⟩:=r.get ha;have hp:ps[i]?=some y:=by
   rw[<-S.pre,List.getElem?_take_of_lt (by lia)];exact h1
  have ndP:ps.Nodup:=by rw[<-S.pre];exact S.nd.sublist (List.take_sublist _ _)
  refine ⟨u,rv,?_⟩;rcases S.par y (mem_of_getElem? hp) with k|k
  ·exact .inl ⟨k,vQ ndP hp hu k⟩
  ·obtain ⟨c,e⟩:=sW (n:=s.heap.objs.size+1) k;refine .inr ⟨.inl k,c,e,?_⟩;have q:=x.cell y c e;rw[vS ndP hp hu (by show scope.names.lookup y≠_;rw[k];decide)] at q;exact q
 ·exact e0.hok.fresh (le_of_lt (x.above y c (PySem.mem_of_lookup h)))
 ·unfold start;show _=N.length;rw[length_append,length_map,length_replicate];lia
theorem Mt {CX:SQ} {P:Program} {w:World} {K:Fg} {mg:Str->Option Value} {base:Heap} {k:Nat} {f:Addr} {name qual:Str} {params:Arguments} {body:List Stmt} {scope:Scope} {dV kV doc pm cdv ct oc:Value} {an od:Option Addr}
  {osl:Array (Option Value)} {N ps:List Str} {sp:Sp} (lk:K.lookup f=some ⟨oc,od,.func (PySem.W.fnOf name qual params body scope dV kV doc pm an cdv ct),osl⟩) (hcd:PySem.W.codeIn K cdv qual=true) (S:cJ N ps scope)
  (len:∀vs H Q E,sp vs H Q E->vs.length=ps.length)
  (hbody:∀(A:Around) (outer:List Env) (s:Shared) (H:Hp) (vs:List V) (Q:VK) (E:XK),bM k (A.deeper (envOfC qual scope s.heap.objs.size f cdv))->sp vs H Q E->
   ∃t,ZQ (jZ CX P w K mg base N qual scope f cdv A outer s H E) body t/\t {nx:=λ_ H'=>Q .non H',rt:=Q} (start N vs) H):
  pG P w K mg base CX (k+1) f (PySem.W.fnOf name qual params body scope dV kV doc pm an cdv ct) ps sp:=by
 refine ⟨len,λA outer s H args us vs Q E hr e0 hb r hsp=>?_⟩;have hl:=len _ _ _ _ hsp;have KX:K.In s.heap:=e0.mod.kin.keeps λb o e=>(e0.bs b o e).1;have lim:s.heap.NoLimit:=e0.mod.nolimit.keeps λb o e=>(e0.bs b o e).1;have hkind:∀y∈ps.zip us,scope.names.lookup y.1=some .local\/(scope.names.lookup y.1=some .cell/\((cellsFrom (s.heap.objs.size+1) scope.names []).lookup y.1).isSome=true):=λ⟨n,v⟩ hy=>by
  rcases S.par n (of_mem_zip hy).1 with q|q
  ·exact .inl q
  ·exact .inr ⟨q,cellsFrom_some _ _ _ (.inl q)⟩
 refine codeAny_call_function hr.depth (KX _ _ lk) rfl S.co S.gen rfl (PySem.W.codeRec_of KX hcd) (hb _ _ _ _ ?_);refine wpAny_newFunctionEnv_cells S.kind hkind λenv he s1 x=>?_;subst he;refine ⟨lim.keeps x.toInCall.keep,codeAny_func ?_⟩;obtain ⟨t,ht,hq⟩:=hbody A outer s H vs Q E (hr.deeper _) hsp;have I:Inv (jZ CX P w K mg base N qual scope f cdv A outer s H E) [] (start N vs) H s1:=vD S hr.hd e0 hl r x;refine wpAny_mono (ht [] s1 (start N vs) H _ I hq) (λfl s' hs=>?_) λe s' hs=>hs;have fin:∀{σ':St} {H':Hp} {v:V} {u:Value},Inv (jZ CX P w K mg base N qual scope f cdv A outer s H E) [] σ' H' s'->RelV v u->Q v H'->CE outer P w H s Q u s':=
  λ{σ' H' v u} J rv q=>⟨v,H',J.os,J.bare,J.base,J.hok,rv,q⟩
 cases fl with
 |ret u=>
  obtain ⟨v,σ',H',J,rv,q⟩:=hs;exact fin J rv q
 |next=>
  obtain ⟨σ',H',J,q⟩:=hs;exact fin (v:=V.non) (u:=Value.none) J rfl q
 |brk=>
  obtain ⟨_,_,_,q⟩:=hs;exact False.elim q
 |cont=>
  obtain ⟨_,_,_,q⟩:=hs;exact False.elim q
section
variable {X:Cx} {x:Str} {p pos:Pos} {e:Expr} {es:List Expr} {t:TA} {id T:String} {r:List V->Hp->VK->Prop}
def Gz (r:List V->Hp->VK->Prop) (t:TA):TE:=λσ H Q=>t σ H λvs H1=>r vs H1 Q
theorem rJ (hc:bN X (.builtin id) r) (hg:Gl X x) (hm:X.mg x=none) (hv:bootBuiltins x=some (.builtin id)) (ha:PA X (e::es) t) (hn:x≠"__name__":=by decide) (hdb:(x==("__debug__":Str))=false:=by decide)
  (he:starEach (e::es) X.env=(false,eval e X.env)::starEach es X.env:=by rfl) (hpl:(backTo pos (starEach es X.env)).any (·.1)=false:=by rfl):PE X (.Call (.Name x p) (e::es) [] pos) (Gz r t):=by
 intro pins s σ H Q I h;refine wpAny_Call_Name_kw (fL I hg hm hv ?_ hn hdb);exact PyProof.Rows.callWith_builtin1 (bH (ha pos pins s σ H _ I h) λus s1 ⟨vs,H1,I1,r1,q1⟩=>hc pins s1 σ H1 vs us Q I1 r1 q1) he hpl
theorem II (hc:bN X (.type T) r) (hg:Gl X x) (hm:X.mg x=none) (hv:bootBuiltins x=some (.type T)) (ha:PA X (e::es) t) (hn:x≠"__name__":=by decide) (hdb:(x==("__debug__":Str))=false:=by decide)
  (he:starEach (e::es) X.env=(false,eval e X.env)::starEach es X.env:=by rfl) (hpl:(backTo pos (starEach es X.env)).any (·.1)=false:=by rfl):PE X (.Call (.Name x p) (e::es) [] pos) (Gz r t):=by
 intro pins s σ H Q I h;refine wpAny_Call_Name_kw (fL I hg hm hv ?_ hn hdb);exact PyProof.Rows.callWith_type1 (bH (ha pos pins s σ H _ I h) λus s1 ⟨vs,H1,I1,r1,q1⟩=>hc pins s1 σ H1 vs us Q I1 r1 q1) he hpl
end
end L2
namespace HT
open PySem PyProof.Rows
section
open PySem.SeqAt
open PySem.AutoSeq1 (wpAny_loadPart')
open PySem.MeetsSeq PySem.MeetsSeq2 PySem.MeetsSeq3
end
section
variable {prog:Program} {w:World} {A:Around} {E:Value->Shared->Prop} {s:Shared}
theorem XI (ht:IsTup s.heap t vs.toArray) (hb:IsTup s.heap b ws.toArray) (hv:vs≠[])
  (h1:ws=[]->Q (.ref t) s) (h2:ws≠[]->Q (.ref s.heap.objs.size) {s with heap:=s.heap.push {cls:=.type "tuple",data:=.seq (vs++ws).toArray}})
  (hsz:vs.length+ws.length<=sizeLine):wpAny (model prog w) A (binaryOp .Add (.ref t) (.ref b)) Q E s:=by
 obtain ⟨⟨cls,dd,data,sl⟩,ho,hc,n,hd⟩:=id ht;obtain ⟨⟨cls2,dd2,data2,sl2⟩,ho2,hc2,n2,hd2⟩:=id hb;simp only at hc hd hc2 hd2;subst hc hd hc2 hd2;have e:vs.toArray++ws.toArray=(vs++ws).toArray:=by simp
 by_cases hw:ws=[]
 ·exact concat_meets ⟨_,ho,rfl⟩ ⟨_,ho2,rfl⟩ noFill_tuple_add seq_tuple_add PySem.F.slot_tuple_add PySem.F.entry_tuple_add (PySem.F.args_tuple_add_2 _ _)
   (tuple_addW1 t b vs.toArray ws.toArray n n2 dd dd2 sl sl2 (by simpa using hv) (by simp [hw])) ⟨ho,ho2,h1 hw⟩
 ·refine concat_meets ⟨_,ho,rfl⟩ ⟨_,ho2,rfl⟩ noFill_tuple_add seq_tuple_add PySem.F.slot_tuple_add PySem.F.entry_tuple_add (PySem.F.args_tuple_add_2 _ _)
   (tuple_addW2 t b vs.toArray ws.toArray n n2 dd dd2 sl sl2 (by simpa using hv) (by simpa using hw) (by rw[size_toArray,size_toArray];exact hsz)) ⟨ho,ho2,?_⟩
  rw[e];exact h2 hw
def dP (n d:Nat):Option Int->Nat
 |none=>d
 |some v=>if v<0 then (v+(n:Int)).toNat else min v.toNat n
theorem zT (n d:Nat):dP n d none=d:=rfl
theorem UA (n d k:Nat):dP n d (some (k:Int))=min k n:=by
 show (if (k:Int)<0 then ((k:Int)+(n:Int)).toNat else min (k:Int).toNat n)=min k n;rw[if_neg (by lia),toNat_natCast]
theorem Ax (n d:Nat) (hd:d<=n) (o:Option Int):dP n d o<=n:=by
 cases o with
 |none=>exact hd
 |some v=>
  show (if v<0 then (v+(n:Int)).toNat else min v.toNat n)<=n;by_cases hv:v<0
  ·rw[if_pos hv];lia
  ·rw[if_neg hv];exact Nat.min_le_right _ _
theorem GL (v:Int) (n d:Nat):(if v<0 then max (v+(n:Int)) 0 else min v (n:Int))=((dP n d (some v):Nat):Int):=by
 show (if v<0 then max (v+(n:Int)) 0 else min v (n:Int))=(((if v<0 then (v+(n:Int)).toNat else min v.toNat n):Nat):Int);by_cases hv:v<0
 ·simp only [if_pos hv];lia
 ·simp only [if_neg hv];lia
theorem ED (lo hi:Option Int) (n:Nat):Builtin.Slice.sliceAdjust lo hi 1 (n:Int)=(((dP n 0 lo:Nat):Int),((dP n n hi:Nat):Int)):=by
 have h1:¬((1:Int)<0):=by lia
 unfold Builtin.Slice.sliceAdjust;simp only [h1,if_false];refine Prod.ext ?_ ?_
 ·cases lo with
  |none=>rfl
  |some v=>exact GL v n 0
 ·cases hi with
  |none=>rfl
  |some v=>exact GL v n n
theorem DB (i j:Nat):Builtin.Slice.slicePlaces (i:Int) (j:Int) 1=j - i:=by
 unfold Builtin.Slice.slicePlaces;have h1:(1:Int)>0:=by lia
 simp only [h1,if_true,Int.ediv_one];split<;>lia
theorem qU (p:IsPart v o) (h:Q o s):wpAny (model prog w) A (Builtin.Slice.slicePartIndex v) Q E s:=by
 cases p with
 |none=>exact slicePart_none h
 |int i t=>exact slicePart_int h
theorem nG {sl:Addr} {vl vu:Value} {lo hi:Option Int} {n:Nat} {Q:Int × Int × Nat->Shared->Prop} (hs:s.heap.IsSliceOf sl vl vu .none) (pl:IsPart vl lo) (pu:IsPart vu hi)
  (h:Q (((dP n 0 lo:Nat):Int),1,dP n n hi - dP n 0 lo) s):wpAny (model prog w) A (Builtin.Slice.sliceApplied (.ref sl) (pure (n:Int))) Q E s:=by
 obtain ⟨os,hos,hcs,hds⟩:=id hs;unfold Builtin.Slice.sliceApplied Builtin.Slice.sliceFields;refine wpAny_bind (wpAny_bind (wpAny_field hos hds (x:=vl) rfl (wpAny_bind (wpAny_field hos hds (x:=vu) rfl (wpAny_bind (wpAny_field hos hds (x:=.none) rfl (wpAny_pure ?_)))))));refine wpAny_bind (slicePart_none ?_);show wpAny _ _ (if ((1:Int)==0)=true then _ else _) _ _ s;rw[if_neg (by decide)];refine wpAny_bind (qU pl (wpAny_bind (qU pu (wpAny_bind (wpAny_pure ?_)))));show wpAny _ _ (match Builtin.Slice.sliceAdjust lo hi 1 (n:Int) with|(lo,hi)=>pure (lo,(1:Int),Builtin.Slice.slicePlaces lo hi 1)) _ _ s;rw[ED lo hi n];show wpAny _ _ (pure (((dP n 0 lo:Nat):Int),(1:Int),Builtin.Slice.slicePlaces ((dP n 0 lo:Nat):Int) ((dP n n hi:Nat):Int) 1)) _ _ s;rw[DB];exact wpAny_pure h
theorem MZ (xs:Array Value) (i k:Nat):((range k).filterMap λ(m:Nat)=>xs[((i:Int)+(m:Int) * 1).toNat]?).toArray=((xs.toList.drop i).take k).toArray:=by
 have e:(λ(m:Nat)=>xs[((i:Int)+(m:Int) * 1).toNat]?)=λm=>xs[i+m]?:=by
  funext m
  have:((i:Int)+(m:Int) * 1).toNat=i+m:=by lia
  rw[this]
 rw[e];have:=pick_run xs i k;rw[List.filterMap_map] at this;have e2:((λx=>xs[x]?)∘λx=>i+x)=λm=>xs[i+m]?:=rfl;rw[e2] at this;rw[this]
theorem mP {t sl:Addr} {items:Array Value} {vl vu:Value} {lo hi:Option Int} {Q:Value->Shared->Prop} (ht:IsTup s.heap t items) (hs:s.heap.IsSliceOf sl vl vu .none) (pl:IsPart vl lo) (pu:IsPart vu hi)
  (hw:¬(dP items.size 0 lo=0/\dP items.size items.size hi=items.size))
  (h:Q (.ref s.heap.objs.size) {s with heap:=s.heap.push {cls:=.type "tuple",data:=.seq ((items.toList.drop (dP items.size 0 lo)).take (dP items.size items.size hi - dP items.size 0 lo)).toArray}})
  (hsz:items.size<=sizeLine):wpAny (model prog w) A (getItem (.ref t) (.ref sl)) Q E s:=by
 have htake:sizeOk (.seq ((items.toList.drop (dP items.size 0 lo)).take (dP items.size items.size hi - dP items.size 0 lo)).toArray):=by
  show ((items.toList.drop (dP items.size 0 lo)).take (dP items.size items.size hi - dP items.size 0 lo)).toArray.size<=sizeLine;rw[size_toArray,length_take,length_drop,length_toList];lia
 have hj:dP items.size items.size hi<=items.size:=Ax _ _ (Nat.le_refl _) hi;obtain ⟨os,hos,hcs,hds⟩:=id hs;have hTs:s.TypeIs (.ref sl) "slice":=⟨os,hos,hcs⟩;unfold getItem
 try with_reducible refine wpAny_holding ?_
 first|refine wpAny_bind (wpAny_pure ?_)|skip
 refine wpAny_bind (wpAny_sequenceKey ht.typeIs (by decide) ?_);refine wpAny_bind (wpAny_callSpecial?_slot (name:=ofString "__getitem__") ht.typeIs PyProof.Rows.slot_tuple_getitem
  (wpAny_call_entry PyProof.Rows.slot_tuple_getitem ht.typeIs entry_tuple_getitem ?_ (args_tuple_getitem _ _)))
 show wpAny _ _ (Builtin.Tuple.tupleItemsOf (.ref t) >>=_) _ _ s;refine wpAny_bind (tupleItemsOf_ ht ?_);refine wpAny_bind (wpAny_typeOf hTs ?_);rw[if_pos (by decide)];refine wpAny_bind (nG hs pl pu ?_);have hno:¬((((dP items.size 0 lo:Nat):Int)==0&&(1:Int)==1&&(dP items.size items.size hi - dP items.size 0 lo)==items.size)=true):=by
  intro q;rw[and_eq_true,and_eq_true] at q;have q1:((dP items.size 0 lo:Nat):Int)=0:=eq_of_beq q.1.1;have q2:dP items.size items.size hi - dP items.size 0 lo=items.size:=eq_of_beq q.2;exact hw ⟨by lia,by lia⟩
 show wpAny _ _ (if (((dP items.size 0 lo:Nat):Int)==0&&(1:Int)==1&&(dP items.size items.size hi - dP items.size 0 lo)==items.size)=true then _ else _) _ _ s;rw[if_neg hno,MZ]
 first
  |exact wpAny_bind (m:=Builtin.Tuple.tupleExact _) (wpAny_newObj_type (wpAny_pure ⟨_,rfl,wpAny_pure h⟩) htake)
  |exact wpAny_bind (m:=Builtin.Tuple.tupleExact _) (wpAny_newObj_type (wpAny_bind (wpAny_pure (wpAny_pure ⟨_,rfl,wpAny_pure h⟩))) htake)
  |exact wpAny_bind (wpAny_bind (m:=Builtin.Tuple.tupleExact _) (wpAny_newObj_type (wpAny_pure (wpAny_pure ⟨_,rfl,wpAny_pure h⟩)) htake))
  |exact wpAny_bind (wpAny_bind (m:=Builtin.Tuple.tupleExact _) (wpAny_newObj_type (wpAny_pure ⟨_,rfl,wpAny_pure h⟩) htake))
end
end HT
namespace L2
open PySem PySem.Spec PyProof.Rows
abbrev TO:=St->Hp->(Option Int->Hp->Prop)->Prop
def PO (X:Cx) (e:Option Expr) (t:TO):Prop:=
 ∀(pins:List (Addr × Obj)) (s:Shared) (σ:St) (H:Hp) (Q:Option Int->Hp->Prop),Inv X pins σ H s->t σ H Q->
  wpAny (model X.prog X.w) X.A (evalPart e X.env) (λu s'=>∃o H',Inv X pins σ H' s'/\IsPart u o/\Q o H') X.xe s
def EN:TO:=λ_ H Q=>Q none H
theorem intsAre_of:∀{us:List Value},Vals (ns.map V.int) us->IntsAre us ns:=by
 induction ns with
 |nil=>intro us r;rw[map_nil] at r;cases r;exact .nil
 |cons n ns ih=>
  intro us r;rw[map_cons] at r;cases r with
  |cons r1 r2=>
   obtain ⟨t,e⟩:=r1;subst e;exact .cons n t (ih r2)
section
variable {X:Cx} {e:Expr} {te:TE} {lo hi:Option Expr} {tl th:TO} {pos p2:Pos}
theorem UL:PO X none EN:=by
 intro pins s σ H Q I h;rw[evalPart_none];exact wpAny_pure ⟨none,H,I,.none,h⟩
def Nn (X:Cx) (r:V->Option Int->Option Int->Hp->VK->Prop):Prop:=
 ∀(pins:List (Addr × Obj)) (s:Shared) (σ:St) (H:Hp) (x:V) (v vl vu:Value) (lo hi:Option Int) (sl:Addr) (Q:VK),Inv X pins σ H s->RelV x v->s.heap.IsSliceOf sl vl vu .none->IsPart vl lo->IsPart vu hi->r x lo hi H Q->
  ∃T id,typeLookup (.type T) "__getitem__"=pure (some (.builtin id))/\s.TypeIs v T/\wpAny (model X.prog X.w) X.A (getItem v (.ref sl)) (EP X pins σ Q) X.xe s
def Rk (r:V->Option Int->Option Int->Hp->VK->Prop) (te:TE) (tl th:TO):TE:=λσ H Q=>te σ H λx H1=>tl σ H1 λl H2=>th σ H2 λu H3=>r x l u H3 Q
theorem NB (hr:Nn X r) (he:PE X e te) (hl:PO X lo tl) (hu:PO X hi th):PE X (.Subscript e (.Slice lo hi none p2) pos) (Rk r te tl th):=by
 intro pins s σ H Q I h;refine Subscript_ (bH (he pins s σ H _ I h) λv s1 ⟨x,H1,I1,r1,q1⟩=>?_);refine wpAny_Slice (bH (hl pins s1 σ H1 _ I1 q1) λvl s2 ⟨l,H2,I2,pl,q2⟩=>bH (hu pins s2 σ H2 _ I2 q2) λvu s3 ⟨u,H3,I3,pu,q3⟩=>?_);rw[evalPart_none];refine wpAny_pure ?_;have I4:Inv X pins σ H3 {s3 with heap:=s3.heap.push {cls:=.type "slice",data:=.fields #[vl,vu,.none]}}:=I3.kept (t':=s3.toks) λb ob q=>get?_push_of_some _ q;obtain ⟨T,id,hT,ht,hg⟩:=hr pins {s3 with heap:=s3.heap.push {cls:=.type "slice",data:=.fields #[vl,vu,.none]}} σ H3 x v vl vu l u s3.heap.objs.size Q I4 r1 (Heap.IsSliceOf.new ..) pl pu q3;show wpAny (model X.prog X.w) X.A (subscriptTail e (.Slice lo hi none p2) v (.ref s3.heap.objs.size)) (EP X pins σ Q) X.xe {s3 with heap:=s3.heap.push {cls:=.type "slice",data:=.fields #[vl,vu,.none]}};exact tail_any (ops:=[.ref s3.heap.objs.size,v]) ht hT hg (by with_unfolding_all rfl)
def nV (xs:List V) (lo hi:Option Int):List V:=(xs.drop (HT.dP xs.length 0 lo)).take (HT.dP xs.length xs.length hi - HT.dP xs.length 0 lo)
theorem oR (xs:List V) (lo hi:Option Int):(nV xs lo hi).length<=xs.length:=by
 unfold nV;rw[length_take,length_drop];lia
def Jk (K:Fg):V->Option Int->Option Int->Hp->VK->Prop:=λx lo hi H Q=>∃a xs,x=.ref a/\bX K H a xs/\
 ¬(HT.dP xs.length 0 lo=0/\HT.dP xs.length xs.length hi=xs.length)/\∀p,H p=none->Q (.ref p) (upd H p (.tup (nV xs lo hi)))
theorem Aq:Nn X (Jk X.K):=by
 intro pins s σ H x v vl vu lo hi sl Q I rx hs pl pu h;obtain ⟨a,xs,rfl,hx,hw,q⟩:=h;cases rx;obtain ⟨its,r,ht,hz⟩:=I.tuple hx;have hlen:its.toArray.size=xs.length:=by rw[size_toArray];exact r.length.symm
 refine ⟨"tuple",_,PyProof.Rows.slot_tuple_getitem.lookup,ht.typeIs,?_⟩;refine HT.mP ht hs pl pu (by rw[hlen];exact hw) ?_ (by rw[hlen];exact hz);rw[hlen];refine ⟨.ref s.heap.objs.size,_,I.laid (t':=s.toks) (o:=.tup (nV xs lo hi)) (λb ob q=>get?_push_of_some _ q) (Nat.le_refl _) ?_,rfl,q _ (I.hok.fresh (Nat.le_refl _))⟩;exact ⟨Nat.le_trans (oR xs lo hi) hz,_,(r.drop (HT.dP xs.length 0 lo)).take (HT.dP xs.length xs.length hi - HT.dP xs.length 0 lo),IsTup.new _ _⟩
def YK (K:Fg):R2:=λx y H Q=>∃a b xs ys,x=.ref a/\y=.ref b/\bX K H a xs/\bX K H b ys/\xs≠[]/\xs.length+ys.length<=sizeLine/\
 (ys=[]->Q (.ref a) H)/\(ys≠[]->∀p,H p=none->Q (.ref p) (upd H p (.tup (xs++ys))))
theorem Vals.nil_iff (r:Vals xs us):us=[]↔xs=[]:=by
 cases r with
 |nil=>simp
 |cons _ _=>simp
theorem UX:gH X (binaryOp .Add) (YK X.K):=by
 intro pins s σ H x y v u Q I rx ry h;obtain ⟨a,b,xs,ys,rfl,rfl,ha,hb,hx,hz,q1,q2⟩:=h;cases rx;cases ry;obtain ⟨its,r1,p1,_⟩:=I.tuple ha;obtain ⟨its2,r2,p2,_⟩:=I.tuple hb;refine HT.XI p1 p2 (λz=>hx (r1.nil_iff.mp z)) (λz=>⟨.ref a,H,I,rfl,q1 (r2.nil_iff.mp z)⟩) (λz=>?_) (by rw[<-r1.length,<-r2.length];exact hz);refine ⟨.ref s.heap.objs.size,_,I.laid (t':=s.toks) (o:=.tup (xs++ys)) (λb ob q=>get?_push_of_some _ q) (Nat.le_refl _) ?_,rfl,q2 (λw=>z (r2.nil_iff.mpr w)) _ (I.hok.fresh (Nat.le_refl _))⟩;exact ⟨by rw[length_append];exact hz,_,r1.append r2,IsTup.new _ _⟩
end
def VQ (n:Nat) (i:Int):Option Nat:=if 0<=i then (if i<n then some i.toNat else none) else if -(n:Int)<=i then some (i+n).toNat else none
def uB {α:Type} (xs:List α) (i:Int):Option α:=(VQ xs.length i).bind λj=>xs[j]?
theorem FT (h:VQ n i=some j):seqIndex? i n=some j/\j<n/\-(n:Int)<=i/\i<n:=by
 unfold VQ at h;by_cases h0:0<=i
 ·rw[if_pos h0] at h;by_cases h1:i<n
  ·rw[if_pos h1] at h;have e:i.toNat=j:=Option.some.inj h;exact ⟨by rw[seqIndex_of h0 h1,e],by lia,by lia,h1⟩
  ·rw[if_neg h1] at h;cases h
 ·rw[if_neg h0] at h;by_cases h1:-(n:Int)<=i
  ·rw[if_pos h1] at h;have e:(i+n).toNat=j:=Option.some.inj h;exact ⟨by rw[seqIndex_neg (by lia) h1,e],by lia,h1,by lia⟩
  ·rw[if_neg h1] at h;cases h
theorem yK {α:Type} {xs:List α} {i:Int} {v:α} (h:uB xs i=some v):∃j,seqIndex? i xs.length=some j/\xs[j]?=some v/\j<xs.length/\-(xs.length:Int)<=i/\i<xs.length:=by
 unfold uB at h;cases e:VQ xs.length i with
 |none=>rw[e] at h;cases h
 |some j=>
  rw[e] at h;obtain ⟨h1,h2,h3,h4⟩:=FT e;exact ⟨j,h1,h,h2,h3,h4⟩
theorem bI {α:Type} {xs:List α} {j:Nat} {v:α} (h:xs[j]?=some v):uB xs (j:Int)=some v:=by
 have hj:j<xs.length:=(List.getElem?_eq_some_iff.mp h).1;have e:VQ xs.length (j:Int)=some j:=by
  unfold VQ;rw[if_pos (by lia),if_pos (by lia)];simp
 unfold uB;rw[e];exact h
theorem RY (xs:List α) (v:α):uB (xs++[v]) (-1)=some v:=by
 have hl:(xs++[v]).length=xs.length+1:=by simp
 have e:VQ (xs++[v]).length (-1)=some xs.length:=by
  unfold VQ;rw[hl,if_neg (by decide),if_pos (by lia)]
  congr 1
  lia
 unfold uB;rw[e];show (xs++[v])[xs.length]?=some v;simp
def GV (b:Expr):Prop:=∀o i,subscripted b false o i=operate [o,i] (getItem o i)
def Hh (X:Cx) (r:R2):Prop:=
 ∀(value slice:Expr) (pins:List (Addr × Obj)) (s:Shared) (σ:St) (H:Hp) (x y:V) (v u:Value) (Q:VK),Inv X pins σ H s->RelV x v->RelV y u->r x y H Q->
  subscripted slice false v u=operate [v,u] (getItem v u)->wpAny (model X.prog X.w) X.A (subscriptTail value slice v u) (EP X pins σ Q) X.xe s
def Gk (X:Cx) (id:String) (r:V->List V->Hp->VK->Prop):Prop:=
 ∀(pins:List (Addr × Obj)) (s:Shared) (σ:St) (H:Hp) (x:V) (xs:List V) (v:Value) (us:List Value) (Q:VK),Inv X pins σ H s->RelV x v->Vals xs us->r x xs H Q->
  wpAny (model X.prog X.w) X.A (call (.builtin id) (v::us)) (EP X pins σ Q) X.xe s
section
variable {X:Cx} {a b:Expr} {ta tb:TE} {pos:Pos}
theorem Jy (hr:Hh X r) (ha:PE X a ta) (hb:PE X b tb) (hs:GV b):PE X (.Subscript a b pos) (Ak r ta tb):=by
 intro pins s σ H Q I h;exact Subscript_ (Ga ha hb I h λv u s2 x y H2 I2 rx ry q=>hr a b pins s2 σ H2 x y v u Q I2 rx ry q (hs _ _))
def Jq (K:Fg):R2:=λx y H Q=>∃p xs i v,x=.ref p/\y=.int i/\aH K H p xs/\uB xs i=some v/\Q v H
def Jp (K:Fg):R2:=λx y H Q=>∃p xs i v,x=.ref p/\y=.int i/\bX K H p xs/\uB xs i=some v/\Q v H
def Pk:R2:=λx y H Q=>∃z i c,x=.str z/\y=.int i/\z.length<=sizeLine/\uB z.cps.toList i=some c/\Q (.str ⟨#[c]⟩) H
theorem VO:Hh X (Jq X.K):=by
 intro value slice pins s σ H x y v u Q I rx ry h hs;obtain ⟨p,xs,i,z,rfl,rfl,hq,he,q⟩:=h;cases rx;obtain ⟨t,rfl⟩:=ry;obtain ⟨its,r,pl,hz⟩:=I.list hq;obtain ⟨j,h1,h2,h3,h4,h5⟩:=yK he;obtain ⟨w,ew,rw'⟩:=r.get h2;have hl:=r.length;have hn:=nN;have fin:EP X pins σ Q w s:=⟨z,H,I,rw',q⟩;by_cases h0:0<=i
 ·have hj:i.toNat=j:=by
   rw[seqIndex_of h0 h5] at h1;exact Option.some.inj h1
  exact item_listR pl.isList h0 (by lia) (by rw[hj];simpa using ew) fin hs
 ·have hj:(i+(its.toArray.size:Int)).toNat=j:=by
   rw[seqIndex_neg (by lia) h4] at h1;rw[size_toArray,<-hl];exact Option.some.inj h1
  exact subscriptTail_builtinR (x:=w) pl.isList.typeIs slot_list_getitem.lookup
   (wpAny_getItem_list_neg (Q:=λr s'=>r=w/\EP X pins σ Q r s') pl.isList (by lia) (by rw[size_toArray]<;>lia) (by lia) (by rw[hj];simpa using ew) ⟨rfl,fin⟩) hs
theorem Dy:Hh X (Jp X.K):=by
 intro value slice pins s σ H x y v u Q I rx ry h hs;obtain ⟨p,xs,i,z,rfl,rfl,hq,he,q⟩:=h;cases rx;obtain ⟨t,rfl⟩:=ry;obtain ⟨its,r,pl,hz⟩:=I.tuple hq;obtain ⟨j,h1,h2,h3,h4,h5⟩:=yK he;obtain ⟨w,ew,rw'⟩:=r.get h2;have hl:=r.length;have hn:=nN;have fin:EP X pins σ Q w s:=⟨z,H,I,rw',q⟩;exact subscriptTail_builtinR (x:=w) pl.typeIs slot_tuple_getitem.lookup
  (getItem_tuple (j:=j) (Q:=λr s'=>r=w/\EP X pins σ Q r s') pl (by lia) (by lia) (by rw[size_toArray,<-hl];exact h1) (by simpa using ew) ⟨rfl,fin⟩) hs
theorem Dz:Hh X Pk:=by
 intro value slice pins s σ H x y v u Q I rx ry h hs;obtain ⟨z,i,c,rfl,rfl,hz,he,q⟩:=h;obtain ⟨t,rfl⟩:=rx;obtain ⟨t',rfl⟩:=ry;obtain ⟨j,h1,h2,h3,h4,h5⟩:=yK he;have hl:z.cps.toList.length=z.length:=by simp [Str.length]
 rw[hl] at h1 h4 h5;have hn:=nN;exact tail_any (typeIs_str s z t) slot_str_getitem.lookup (getItem_str (c:=c) (by
  have e1:decide (i< -(2 ^ 63:Int))=false:=decide_eq_false (by lia)
  have e2:decide (i>=2 ^ 63)=false:=decide_eq_false (by lia)
  rw[e1,e2,Bool.or_false]) (by rw[h1];simpa using h2) ⟨.str ⟨#[c]⟩,H,I.tok _,⟨_,rfl⟩,q⟩) hs
theorem DJ (its:List Value) (n j:Nat) (u:Value):Obj.mapSeq (·.setIfInBounds j u) {cls:=.type "list",data:=.seq its.toArray n}={cls:=.type "list",data:=.seq (its.set j u).toArray n}:=by
 simp [Obj.mapSeq]
theorem Inv.lst {pins:List (Addr × Obj)} {σ:St} {H:Hp} {s:Shared} {p:Addr} {xs:List V} (I:Inv X pins σ H s) (h:H p=some (.lst xs)):
  ∃(its:List Value) (n:Nat),Vals xs its/\s.heap.get? p=some {cls:=.type "list",data:=.seq its.toArray n}/\xs.length<=sizeLine:=by
 obtain ⟨z,its,n,r,e⟩:=I.hok p _ h;exact ⟨its,n,r,e,z⟩
theorem Inv.lstUpd {pins:List (Addr × Obj)} {σ:St} {H:Hp} {s:Shared} {p:Addr} {xs ys:List V} {its its':List Value} {n n':Nat} {f:Obj->Obj} (I:Inv X pins σ H s) (h:H p=some (.lst xs))
  (ho:s.heap.get? p=some {cls:=.type "list",data:=.seq its.toArray n}) (hf:f {cls:=.type "list",data:=.seq its.toArray n}={cls:=.type "list",data:=.seq its'.toArray n'}) (r:Vals ys its') (hz:ys.length<=sizeLine) (t:Nat):
  Inv X pins σ (upd H p (.lst ys)) {s with heap:=s.heap.update p f,toks:=t}:=by
 have e:(s.heap.update p f).get? p=some {cls:=.type "list",data:=.seq its'.toArray n'}:=by
  rw[get?_update_self f ho (by rw[hf]<;>rfl),hf]
 refine I.write (x:=p) (e:=p) (by rw[h];trivial) (.inl rfl) (λb u hb q=>(get?_update_other _ _ (Ne.symm hb)).trans q) ⟨_,e⟩ ?_;exact ⟨hz,its',n',r,e⟩
def YH:V->V->V->Hp->(Hp->Prop)->Prop:=λo i v H Q=>∃p xs k j,o=.ref p/\i=.int k/\H p=some (.lst xs)/\VQ xs.length k=some j/\Q (upd H p (.lst (xs.set j v)))
theorem set_list:Gi X YH:=by
 intro pins s σ H o i v ov iv u Q I ro ri rv h;obtain ⟨p,xs,k,j,rfl,rfl,hp,hj,q⟩:=h;cases ro;obtain ⟨t,rfl⟩:=ri;obtain ⟨its,n,r,ho,hz⟩:=I.lst hp;obtain ⟨h1,h2,h3,h4⟩:=FT hj;have hl:=r.length;have hn:=nN;have I':Inv X pins σ (upd H p (.lst (xs.set j v))) {s with heap:=s.heap.update p (Obj.mapSeq (·.setIfInBounds j u))}:=
  I.lstUpd hp ho (DJ its n j u) (r.set rv j) (by rw[List.length_set];exact hz) s.toks
 by_cases h0:0<=k
 ·have hk:k.toNat=j:=by
   rw[seqIndex_of h0 h4] at h1;exact Option.some.inj h1
  exact PySem.W.ki_setAt ho h0 (by lia) (by rw[size_toArray,<-hl];exact h4) (by rw[hk];exact ⟨_,I',q⟩)
 ·have hk:(k+(its.toArray.size:Int)).toNat=j:=by
   rw[seqIndex_neg (by lia) h3] at h1;rw[size_toArray,<-hl];exact Option.some.inj h1
  exact PySem.W.ki_setBack ho (by lia) (by rw[size_toArray,<-hl];exact h3) (by lia) (by rw[hk];exact ⟨_,I',q⟩)
theorem wM (lo hi:Option Int) (n:Nat):(sliceBounds lo hi none n).1=((HT.dP n 0 lo:Nat):Int)/\(sliceBounds lo hi none n).2.1=((HT.dP n n hi:Nat):Int)/\(sliceBounds lo hi none n).2.2=1:=by
 refine ⟨?_,?_,rfl⟩
 ·cases lo with
  |none=>simp [sliceBounds,HT.dP]
  |some i=>
   simp only [sliceBounds,HT.dP,Option.getD_none,show (1:Int)>0 by decide,if_true];by_cases h:i<0
   ·simp only [h,if_true]<;>lia
   ·simp only [h,if_false]<;>lia
 ·cases hi with
  |none=>simp [sliceBounds,HT.dP]
  |some i=>
   simp only [sliceBounds,HT.dP,Option.getD_none,show (1:Int)>0 by decide,if_true];by_cases h:i<0
   ·simp only [h,if_true]<;>lia
   ·simp only [h,if_false]<;>lia
theorem tU (its:List Value) (lo hi:Option Int):slicePick its.toArray lo hi none=((its.drop (HT.dP its.length 0 lo)).take (HT.dP its.length its.length hi - HT.dP its.length 0 lo)).toArray:=by
 obtain ⟨h1,h2,h3⟩:=wM lo hi its.toArray.size;unfold slicePick;rw[h1,h2,h3];simp only [sliceRange_one,pick_run,size_toArray]<;>rfl
def Jl (K:Fg):V->Option Int->Option Int->Hp->VK->Prop:=λx lo hi H Q=>∃a xs,x=.ref a/\aH K H a xs/\∀p,H p=none->Q (.ref p) (upd H p (.lst (nV xs lo hi)))
theorem TR:Nn X (Jl X.K):=by
 intro pins s σ H x v vl vu lo hi sl Q I rx hs pl pu h;obtain ⟨a,xs,rfl,hx,q⟩:=h;cases rx;obtain ⟨its,r,ht,hz⟩:=I.list hx;have hlen:=r.length;refine ⟨"list",_,slot_list_getitem.lookup,ht.isList.typeIs,?_⟩;refine wpAny_getItem_list_slice ht.isList hs pl pu .none (by simp) ?_ (by rw[size_toArray]<;>lia);rw[tU,<-hlen];refine ⟨.ref s.heap.objs.size,_,I.laid (t':=s.toks) (o:=.lst (nV xs lo hi)) (λb ob q=>get?_push_of_some _ q) (Nat.le_refl _) ?_,rfl,q _ (I.hok.fresh (Nat.le_refl _))⟩;exact ⟨Nat.le_trans (oR xs lo hi) hz,_,0,(r.drop (HT.dP xs.length 0 lo)).take (HT.dP xs.length xs.length hi - HT.dP xs.length 0 lo),get?_push_size _ rfl⟩
def eP:V->Bool
 | .non=>true
 | .bl _=>true
 | .int _=>true
 | .str _=>true
 |_=>false
def ZH:V->V->Bool
 | .non,.non=>true
 | .bl a,.bl b=>a==b
 | .bl a,.int b=>(if a then 1 else 0)==b
 | .int a,.bl b=>a==(if b then 1 else 0)
 | .int a,.int b=>a==b
 | .str a,.str b=>a==b
 |_,_=>false
theorem Fm (ry:RelV y u) (rx:RelV x v) (fy:eP y=true) (fx:eP x=true):SeqAt.EqAt A s u v (ZH y x):=by
 cases y with
 |non=>
  cases ry;cases x with
  |non=>cases rx;exact SeqAt.EqAt.same _
  |bl b=>cases rx;exact SeqAt.EqAt.none_bool b
  |int b=>obtain ⟨t,rfl⟩:=rx;exact SeqAt.EqAt.none_int b t
  |str b=>obtain ⟨t,rfl⟩:=rx;exact SeqAt.EqAt.none_str b t
  |_=>exact absurd (show false=true from fx) Bool.false_ne_true
 |bl a=>
  cases ry;cases x with
  |non=>cases rx;exact SeqAt.EqAt.bool_none a
  |bl b=>cases rx;exact SeqAt.EqAt.bool_bool a b
  |int b=>obtain ⟨t,rfl⟩:=rx;exact SeqAt.EqAt.bool_int a b t
  |str b=>obtain ⟨t,rfl⟩:=rx;exact SeqAt.EqAt.bool_str a b t
  |_=>exact absurd (show false=true from fx) Bool.false_ne_true
 |int a=>
  obtain ⟨t',rfl⟩:=ry;cases x with
  |non=>cases rx;exact SeqAt.EqAt.int_none a t'
  |bl b=>cases rx;exact SeqAt.EqAt.int_bool a t' b
  |int b=>obtain ⟨t,rfl⟩:=rx;exact SeqAt.EqAt.int_int a t' b t
  |str b=>obtain ⟨t,rfl⟩:=rx;exact SeqAt.EqAt.int_str a t' b t
  |_=>exact absurd (show false=true from fx) Bool.false_ne_true
 |str a=>
  obtain ⟨t',rfl⟩:=ry;cases x with
  |non=>cases rx;exact SeqAt.EqAt.str_none a t'
  |bl b=>cases rx;exact SeqAt.EqAt.str_bool a t' b
  |int b=>obtain ⟨t,rfl⟩:=rx;exact SeqAt.EqAt.str_int a t' b t
  |str b=>obtain ⟨t,rfl⟩:=rx;exact SeqAt.EqAt.str_str a t' b t
  |_=>exact absurd (show false=true from fx) Bool.false_ne_true
 |_=>exact absurd (show false=true from fy) Bool.false_ne_true
def DW (x:V) (u:Value):Bool:=match u with
 | .none=>ZH .non x
 | .bool b=>ZH (.bl b) x
 | .int i _=>ZH (.int i) x
 | .str z _=>ZH (.str z) x
 |_=>false
theorem QC (r:RelV y u) (f:eP y=true):DW x u=ZH y x:=by
 cases y with
 |non=>cases r;rfl
 |bl b=>cases r;rfl
 |int i=>obtain ⟨t,rfl⟩:=r;rfl
 |str z=>obtain ⟨t,rfl⟩:=r;rfl
 |_=>exact absurd (show false=true from f) Bool.false_ne_true
theorem mW:∀{xs:List V} {us:List Value},Vals xs us->xs.all eP=true->us.any (DW x)=xs.any λy=>ZH y x
 |_,_,.nil,_=>rfl
 |y::xs,u::us,.cons r t,f=>by
  rw[all_cons,and_eq_true] at f;rw[any_cons,any_cons,QC r f.1,mW t f.2]
theorem iW (rx:RelV x v) (fx:eP x=true):∀{xs:List V} {us:List Value},Vals xs us->xs.all eP=true->∀u∈us,SeqAt.EqAt A s u v (DW x u)
 |_,_,.nil,_=>λu hu=>by cases hu
 |y::xs,u::us,.cons r t,f=>λu' hu=>by
  rw[all_cons,and_eq_true] at f;rcases mem_cons.mp hu with rfl|hu
  ·rw[QC r f.1];exact Fm r rx f.1 fx
  ·exact iW rx fx t f.2 u' hu
def BY (x:V) (xs:List V):Bool:=xs.any λy=>ZH y x
def Pn (K:Fg) (neg:Bool):R2:=λx y H Q=>∃p xs,y=.ref p/\(aH K H p xs\/bX K H p xs)/\eP x=true/\xs.all eP=true/\Q (.bl (if neg then !BY x xs else BY x xs)) H
theorem IL:gH X (compareOp .In) (Pn X.K false):=by
 intro pins s σ H x y v u Q I rx ry h;obtain ⟨p,xs,rfl,hq,fx,fs,q⟩:=h;cases ry;rcases hq with hq|hq
 ·obtain ⟨its,r,pl,hz⟩:=I.list hq;refine SeqAt.in_listAt (DW x) pl.isList (λw hw=>iW rx fx r fs w (by simpa using hw)) ⟨.bl _,H,I,rfl,?_⟩;rw[show its.toArray.any (DW x)=its.any (DW x) by simp,mW r fs];exact q
 ·obtain ⟨its,r,pl,hz⟩:=I.tuple hq;refine SeqAt.in_tupleAt (DW x) pl (λw hw=>iW rx fx r fs w (by simpa using hw)) ⟨.bl _,H,I,rfl,?_⟩;rw[show its.toArray.any (DW x)=its.any (DW x) by simp,mW r fs];exact q
theorem xC:gH X (compareOp .NotIn) (Pn X.K true):=by
 intro pins s σ H x y v u Q I rx ry h;obtain ⟨p,xs,rfl,hq,fx,fs,q⟩:=h;cases ry;rcases hq with hq|hq
 ·obtain ⟨its,r,pl,hz⟩:=I.list hq;refine SeqAt.notIn_listAt (DW x) pl.isList (λw hw=>iW rx fx r fs w (by simpa using hw)) ⟨.bl _,H,I,rfl,?_⟩;rw[show its.toArray.any (DW x)=its.any (DW x) by simp,mW r fs];exact q
 ·obtain ⟨its,r,pl,hz⟩:=I.tuple hq;refine SeqAt.notIn_tupleAt (DW x) pl (λw hw=>iW rx fx r fs w (by simpa using hw)) ⟨.bl _,H,I,rfl,?_⟩;rw[show its.toArray.any (DW x)=its.any (DW x) by simp,mW r fs];exact q
theorem wZ:gH X (compareOp .NotIn) (λx y H Q=>∃i j,x=.str i/\y=.str j/\Q (.bl (!(!(Builtin.Str.occurrences j i 0 j.length 1).isEmpty))) H):=by
 intro pins s σ H x y v u Q I rx ry h;obtain ⟨i,j,rfl,rfl,q⟩:=h;obtain ⟨t,rfl⟩:=rx;obtain ⟨t',rfl⟩:=ry;exact notIn_str ⟨.bl _,H,I,rfl,q⟩
theorem yB:bN X (.type "list") (λxs H Q=>∃p ys,xs=[.ref p]/\(aH X.K H p ys\/bX X.K H p ys)/\∀l,H l=none->Q (.ref l) (upd H l (.lst ys))):=by
 intro pins s σ H xs us Q I r h;obtain ⟨p,ys,rfl,hq,q⟩:=h;obtain ⟨u,rfl,rx⟩:=vals1 r;cases rx;have fin:∀(its:List Value),Vals ys its->ys.length<=sizeLine->∀(h':Heap) (c':Nat),(∀b o',s.heap.get? b=some o'->h'.get? b=some o')->
   h'.get? s.heap.objs.size=some {cls:=.type "list",dict:=none,data:=.seq its.toArray c',slots:=#[]}->EP X pins σ Q (.ref s.heap.objs.size) {s with heap:=h'}:=λits r' hz h' c' kp e=>
  ⟨.ref s.heap.objs.size,_,I.laid (t':=s.toks) kp (Nat.le_refl _) (show aX X.prog X.w _ h' _ (.lst ys) from ⟨hz,its,c',r',e⟩),rfl,q _ (I.hok.fresh (Nat.le_refl _))⟩
 rcases hq with hq|hq
 ·obtain ⟨its,r',pl,hz⟩:=I.list hq;have hlen:=r'.length;obtain ⟨o,ho,hc,n,hd⟩:=pl.isList;exact call_list_seq p (.inl rfl) ho hc hd (λh' c' kp e=>fin its r' hz h' c' kp e) (by simp only [size_toArray]<;>lia)
 ·obtain ⟨its,r',pl,hz⟩:=I.tuple hq;have hlen:=r'.length;obtain ⟨o,ho,hc,n,hd⟩:=pl;exact call_list_seq p (.inr rfl) ho hc hd (λh' c' kp e=>fin its r' hz h' c' kp e) (by simp only [size_toArray]<;>lia)
theorem kI:bN X (.type "tuple") (λxs H Q=>∃p ys,xs=[.ref p]/\((aH X.K H p ys/\∀l,H l=none->Q (.ref l) (upd H l (.tup ys)))\/(bX X.K H p ys/\Q (.ref p) H))):=by
 intro pins s σ H xs us Q I r h;obtain ⟨p,ys,rfl,h⟩:=h;obtain ⟨u,rfl,rx⟩:=vals1 r;cases rx;rcases h with ⟨hq,q⟩|⟨hq,q⟩
 ·obtain ⟨its,r',pl,hz⟩:=I.list hq;have hlen:=r'.length;refine call_tuple_list pl.isList (λh' kp=>?_) (by simp only [size_toArray]<;>lia);have I1:Inv X pins σ H {s with heap:=h'}:=I.kept (t':=s.toks) kp;have I2:Inv X pins σ (upd H h'.objs.size (.tup ys)) {s with heap:=h'.push {cls:=.type "tuple",data:=.seq its.toArray}}:=
   I1.laid (t':=s.toks) (λb o e=>get?_push_of_some _ e) (Nat.le_refl _) (show aX X.prog X.w _ _ _ (.tup ys) from ⟨hz,its,r',IsTup.new _ _⟩)
  exact ⟨.ref h'.objs.size,_,I2,rfl,q _ (I1.hok.fresh (Nat.le_refl _))⟩
 ·obtain ⟨its,r',pl,hz⟩:=I.tuple hq;exact call_tuple_same pl ⟨.ref p,H,I,rfl,q⟩
def Pb (K:Fg) (T:String) (x:V) (H:Hp):Prop:=match x with
 | .str _=>T="str"
 | .int _=>T="int"
 | .ref p=>(T="list"/\∃xs,aH K H p xs)\/(T="tuple"/\∃o,K.lookup p=some o/\o.cls=.type "tuple"/\o.dict=none)\/
   (T="dict"/\((∃kvs,H p=some (.dK kvs))\/∃kvs,H p=some (.dT kvs)))\/(T="set"/\∃S n,H p=some (.set S n))
 |_=>False
theorem LH (I:Inv X pins σ H s) (r:RelV x v) (ty:Pb X.K T x H):
  s.TypeIs v T/\∀a,v=.ref a->∃ob,s.heap.get? a=some ob/\ob.dict=none:=by
 cases x with
 |str z=>
  obtain ⟨t,rfl⟩:=r;cases (show T="str" from ty);exact ⟨typeIs_str s z t,λ_ e=>nomatch e⟩
 |int i=>
  obtain ⟨t,rfl⟩:=r;cases (show T="int" from ty);exact ⟨typeIs_int s i t,λ_ e=>nomatch e⟩
 |ref p=>
  cases r;rcases ty with ⟨rfl,xs,hq⟩|⟨rfl,o,hk,hc,hd⟩|⟨rfl,hk⟩|⟨rfl,S,n,hk⟩
  ·obtain ⟨its,_,pl,_⟩:=I.list hq;refine ⟨pl.isList.typeIs,λa e=>?_⟩;cases e;obtain ⟨o,n,e,c,hd,_⟩:=pl;exact ⟨o,e,hd⟩
  ·refine ⟨⟨o,I.kIn p o hk,hc⟩,λa e=>?_⟩;cases e;exact ⟨o,I.kIn _ o hk,hd⟩
  ·have z:∃o,s.heap.get? p=some o/\o.ExactDict:=by
    rcases hk with ⟨kvs,hk⟩|⟨kvs,hk⟩
    ·obtain ⟨_,_,_,_,o,_,_,e,ex,_⟩:=I.hok p _ hk;exact ⟨o,e,ex⟩
    ·obtain ⟨_,_,_,_,o,_,_,e,ex,_⟩:=I.hok p _ hk;exact ⟨o,e,ex⟩
   obtain ⟨o,e,ex⟩:=z;refine ⟨⟨o,e,ex.1⟩,λa e2=>?_⟩;cases e2;exact ⟨o,e,ex.2.1⟩
  ·obtain ⟨o,_,_,_,e,ex,_⟩:=I.hok p _ hk;refine ⟨⟨o,e,ex.1⟩,λa e2=>?_⟩;cases e2;exact ⟨o,e,ex.2.1⟩
 |_=>exact False.elim ty
variable {o e:Expr} {es:List Expr} {to:TE} {t:TA} {name:Str} {apos cpos:Pos} {T id:String} {r:V->List V->Hp->VK->Prop}
end
def Gm (X:Cx) (id:String) (r:V->List V->Hp->VK->Prop):Prop:=
 ∀(pins:List (Addr × Obj)) (s:Shared) (σ:St) (H:Hp) (x:V) (xs:List V) (v:Value) (us:List Value) (Q:VK),Inv X pins σ H s->RelV x v->Vals xs us->r x xs H Q->
  wpAny (model X.prog X.w) X.A (call (.builtin id) (v::us)) (EP X pins σ Q) X.xe s
theorem Vals.one:∀{x:V} {us:List Value},Vals [x] us->∃u,us=[u]/\RelV x u
 |_,_,.cons r .nil=>⟨_,rfl,r⟩
theorem Vals.two:∀{x y:V} {us:List Value},Vals [x,y] us->∃u v,us=[u,v]/\RelV x u/\RelV y v
 |_,_,_,.cons r (.cons q .nil)=>⟨_,_,rfl,r,q⟩
theorem Vals.rep (h:Vals xs us):∀k:Nat,Vals (replicate k xs).flatten (replicate k us).flatten
 |0=>.nil
 |k+1=>by
  rw[replicate_succ,replicate_succ,flatten_cons,flatten_cons];exact Vals.append h (Vals.rep h k)
theorem foldl_rep (its:List Value):∀(k:Nat) (acc:List Value),
  foldl (λx1 x2=>x1++x2) acc.toArray (replicate k its.toArray)=(acc++(replicate k its).flatten).toArray
 |0,acc=>by simp
 |k+1,acc=>by
  have e:acc.toArray++its.toArray=(acc++its).toArray:=by simp
  have e2:(acc++its)++(replicate k its).flatten=acc++(replicate (k+1) its).flatten:=by
   rw[replicate_succ,flatten_cons,List.append_assoc]
  rw[<-e2,<-foldl_rep its k (acc++its),<-e,replicate_succ,foldl_cons]
section
variable {X:Cx} {pins:List (Addr × Obj)} {σ:St} {H:Hp} {s:Shared} {l b:Addr} {xs ys zs:List V}
theorem Inv.lset {its its':List Value} {n:Nat} {f:Array Value->Array Value} {t':Nat} (I:Inv X pins σ H s) (hH:H l=some (.lst xs))
  (e:s.heap.get? l=some {cls:=.type "list",data:=.seq its.toArray n}) (hf:f its.toArray=its'.toArray) (hv:Vals ys its') (hz:ys.length<=sizeLine):
  Inv X pins σ (upd H l (.lst ys)) {s with heap:=s.heap.update l (Obj.mapSeq f),toks:=t'}:=by
 have q:=PySem.IsL.update e f;rw[hf] at q;refine I.write (x:=l) (e:=l) (by rw[hH];exact trivial) (.inl rfl) (λb' u hb hu=>(get?_update_other s.heap (Obj.mapSeq f) (Ne.symm hb)).trans hu) ⟨_,q⟩ ?_;exact ⟨hz,its',_,hv,q⟩
theorem Inv.lnew (I:Inv X pins σ H s) (hv:Vals ys its) (hz:ys.length<=sizeLine):
  Inv X pins σ (upd H s.heap.objs.size (.lst ys)) {s with heap:=s.heap.push {cls:=.type "list",data:=.seq its.toArray},toks:=t'}:=
 I.laid (λ_ _ q=>get?_push_of_some _ q) (Nat.le_refl _) ⟨hz,its,0,hv,get?_push_size _ rfl⟩
theorem Inv.fresh (I:Inv X pins σ H s):H s.heap.objs.size=none:=I.hok.fresh (Nat.le_refl _)
theorem Inv.lstM (I:Inv X pins σ H s) (hH:H l=some (.lst xs)):xs.length<=sizeLine/\∃(its:List Value) (n:Nat),Vals xs its/\xs.length=its.length/\s.heap.get? l=some {cls:=.type "list",data:=.seq its.toArray n}:=by
 obtain ⟨z,its,n,r,e⟩:=I.hok l _ hH;exact ⟨z,its,n,r,r.length,e⟩
theorem NN (h:n<=sizeLine):Builtin.List.listTooLong n=false:=by
 unfold Builtin.List.listTooLong;exact decide_eq_false (by lia)
end
section
variable {X:Cx}
def pS:V->List V->Hp->VK->Prop:=λx vs H Q=>∃l xs y,x=.ref l/\vs=[y]/\H l=some (.lst xs)/\xs.length<sizeLine/\Q .non (upd H l (.lst (xs++[y])))
theorem uW:Gm X "list.append" pS:=by
 intro pins s σ H x vs v us Q I rx rv h;obtain ⟨l,xs,y,rfl,rfl,hH,hz,q⟩:=h;cases rx;obtain ⟨u,rfl,ru⟩:=rv.one;obtain ⟨z,its,n,r,hl,e⟩:=I.lstM hH;refine call_meets F.slot_list_append ⟨_,e,rfl⟩ F.entry_list_append (F.args_list_append_2 _ _) (PySem.list_append l its.toArray n u (by rw[size_toArray];lia)) ⟨e,?_⟩;refine ⟨.non,_,I.lset (its':=its++[u]) hH e (by simp) (r.append (.cons ru .nil)) ?_,rfl,q⟩;rw[length_append,List.length_singleton];lia
def Ju:R2:=λx y H Q=>∃l b xs zs,x=.ref l/\y=.ref b/\H l=some (.lst xs)/\H b=some (.lst zs)/\xs.length+zs.length<=sizeLine/\∀p,H p=none->Q (.ref p) (upd H p (.lst (xs++zs)))
theorem Dc:gH X (binaryOp .Add) Ju:=by
 intro pins s σ H x y v u Q I rx ry h;obtain ⟨l,b,xs,zs,rfl,rfl,hH,hB,hz,q⟩:=h;cases rx;cases ry;obtain ⟨z,its,n,r,hl,e⟩:=I.lstM hH;obtain ⟨z2,its2,n2,r2,hl2,e2⟩:=I.lstM hB;refine PySem.P.add_list e e2 ?_ (by rw[size_toArray,size_toArray];lia);have ea:its.toArray++its2.toArray=(its++its2).toArray:=by simp
 rw[ea];exact ⟨.ref _,_,I.lnew (t':=s.toks) (r.append r2) (by rw[length_append];lia),rfl,q _ I.fresh⟩
def Jm:R2:=λx y H Q=>∃l k xs,x=.ref l/\y=.int k/\H l=some (.lst xs)/\-(2 ^ 63)<=k/\k<2 ^ 63/\xs.length * k.toNat<=sizeLine/\
 ∀p,H p=none->Q (.ref p) (upd H p (.lst (replicate k.toNat xs).flatten))
theorem len_rep (xs:List α) (k:Nat):(replicate k xs).flatten.length=k * xs.length:=by
 induction k with
 |zero=>simp
 |succ k ih=>rw[replicate_succ,flatten_cons,length_append,ih,Nat.succ_mul,Nat.add_comm]
theorem Cq:gH X (binaryOp .Mult) Jm:=by
 intro pins s σ H x y v u Q I rx ry h;obtain ⟨l,k,xs,rfl,rfl,hH,h1,h2,hz,q⟩:=h;cases rx;obtain ⟨t,rfl⟩:=ry;obtain ⟨z,its,n,r,hl,e⟩:=I.lstM hH;have hlen:its.toArray.size * k.toNat<=sizeLine:=by rw[size_toArray,<-hl];exact hz
 have hcap:¬its.toArray.size * k.toNat>(2 ^ 63 - 1) / 8:=by
  have:(sizeLine:Nat)<=(2 ^ 63 - 1) / 8:=by decide
  lia
 have hfit:¬(!Builtin.List.listFitsIndex k)=true:=by
  rw[fitsIndex_both h1 h2];exact Bool.false_ne_true
 have hlong:¬Builtin.List.listTooLong (its.toArray.size * k.toNat)=true:=by
  rw[NN hlen];exact Bool.false_ne_true
 have hnew:foldl (λx1 x2=>x1++x2) #[] (replicate (if its.toArray.isEmpty=true then 0 else k.toNat) its.toArray)=(replicate k.toNat its).flatten.toArray:=by
  have f0:∀m:Nat,foldl (λx1 x2=>x1++x2) #[] (replicate m its.toArray)=(replicate m its).flatten.toArray:=λm=>by
   have:=foldl_rep its m [];rw[nil_append] at this;exact this
  rw[f0];cases its with
  |nil=>simp
  |cons a r'=>rw[if_neg (by simp)]
 refine wpAny_binaryOp_repeat_ref (T:="list") (U:="int") (by decide) ⟨_,e,rfl⟩ (λs'=>typeIs_int s' k t) noFill_list_mul F.fills_int_mul F.slot_int_rmul repeat_list F.slot_int_index.lookup
  (call_meets F.slot_int_rmul (typeIs_int s k t) F.entry_int_rmul (F.args_int_rmul_2 _ _) (int___rmul___int_list k t l its.toArray n)
   ⟨e,rfl,⟨_,e,rfl⟩,call_meets F.slot_list_mul ⟨_,e,rfl⟩ F.entry_list_mul (F.args_list_mul_2 _ _) (AutoListH.list___mul___list_int_3 l its.toArray n k t hfit hcap hlong) ⟨e,?_⟩⟩)
 rw[hnew];exact ⟨.ref _,_,I.lnew (t':=s.toks) (r.rep k.toNat) (by rw[len_rep,Nat.mul_comm];exact hz),rfl,q _ I.fresh⟩
end
section
variable {prog:Program} {w:World} {A:Around} {E:Value->Shared->Prop} {s:Shared}
end
section
variable {X:Cx}
end
end L2
namespace Att
open PySem PySem.W PySem.Calls PyProof.Rows
theorem pF:∀(ns:List Int) (vs:List Value),WellAll P h vs (ns.map WData.int)->IntsAre vs ns:=by
 intro ns;induction ns with
 |nil=>
  intro vs w;rw[map_nil] at w;cases w;exact .nil
 |cons n ns ih=>
  intro vs w;rw[map_cons] at w;cases w with
  |cons a b=>
   cases a;exact .cons _ _ (ih _ b)
theorem HS {l:OpenLaw} {n:Nat} (hn:l.most=some n) {P:Params} {h:Heap} {args:List WData} {vals:List Value}
  (hpre:l.row.toRowW.claim.pre args=true) (hwl:WellAll P h vals args):
  ∃a vs ns,vals=[Value.ref a]/\args=[WData.list (ns.map WData.int)]/\h.get? a=some {cls:=.type "list",data:=.seq vs.toArray}/\IntsAre vs ns/\ns.length<=n:=by
 have hsh:WShape.hasAll [] args [.list .int]=true:=(pre_splitW hpre).1;have hc:l.pre.holds [] {args:=args}=true:=(pre_splitW hpre).2;obtain ⟨d,r,rfl,h1,h2⟩:=hasAllW_cons hsh;obtain rfl:=hasAllW_nil h2;obtain ⟨xs,rfl,h3⟩:=hasW_list h1;obtain ⟨ns,rfl⟩:=items_int h3;have hlen:ns.length<=n:=by
  unfold OpenLaw.pre at hc;have h4:(WTm.not (.lt (.lit (.int (n:Int))) (.len (.arg 0)))).holds [] {args:=[.list (ns.map .int)]}=true:=by
   have h4:=(holds_andW hc).1;rw[hn] at h4;exact h4
  have h5:=condW_of h4 (w_not (w_lt w_lit (w_len_list (w_arg rfl))));rw[length_map] at h5;refine Nat.le_of_not_lt λq=>?_;have q':(n:Int)<((ns.length:Nat):Int):=by lia
  first
   | (rw[decide_eq_true q'] at h5;exact absurd h5 (by decide))
   | (simp at h5;lia)
 cases hwl with
 |cons w1 w2=>
  cases w2;cases w1 with
  |list ho hall=>exact ⟨_,_,ns,rfl,rfl,ho,pF ns _ hall,hlen⟩
theorem IG (l:OpenLaw) (args:List WData):l.row.toRowW.claim.post args (.bool true) args=true:=
 postW_of (r:=l.row.toRowW) (X:=(true==true))
  (show WShape.has [] (.bool true) .bool=true by first|rfl|decide|simp [WShape.has,WShape.arms,WShape.armsAll])
  (show (WTm.eq .res (.lit (.bool true))).value [] {args:=args,res:=some (.bool true),after:=args}=some (.bool (true==true)) from w_eq_bool (w_res rfl) w_lit) rfl
theorem BR {l:OpenLaw} {n:Nat} {q:Program} {loose:List Str} {XP:(Str->Option Value)->Heap->Prop} {YP:World->Heap->Prop} {d:DefRec}
  (hn:l.most=some n) (hdf:d.params.defaults=[])
  (call:∀(w:World) (s₀ aa:Shared) (mg mb:Str->Option Value) (fa:Addr) (o:Obj) (pm cd doc:Value) (a:Addr) (vs:List Value) (ns:List Int),
   Ground q loose [] XP w s₀ mg mb aa.heap->YP w aa.heap->
   aa.heap.get? fa=some o->o.data=.func (docDef d.name d.params d.body d.scope pm cd doc)->aa.heap.CodeRec cd d.name->mg d.name=some (.ref fa)->
   aa.heap.get? a=some {cls:=.type "list",data:=.seq vs.toArray}->IntsAre vs ns->ns.length<=n->aa.gens=#[]->
   codeAny (model l.prog w) callerA (.call (.ref fa) ⟨[.ref a],[]⟩) (λr s'=>r=.ok (.ret (.bool true))/\OldK aa.heap s'.heap/\s'.os=aa.os/\AllBare s'.gens) aa):
  WalkO q loose XP YP l.row.toRowW d [] (λf vs=>PySem.call f vs):=by
 intro w s₀ aa mg mb G Y fa o pm cd doc dV kV ho hd hcd hD hmg hg args vals as hpre hlay hrd hwl hlo;obtain rfl:dV=.none:=Dflts.none hD hdf;obtain rfl:kV=.none:=Dflts.noKw hD;obtain ⟨a,vs,ns,rfl,rfl,hobj,hints,hlen⟩:=HS hn hpre hwl;refine enter_call (codeAny_mono (call w s₀ aa mg mb fa o pm cd doc a vs ns G Y ho (fd_plain hd) hcd hmg hobj hints hlen hg) λr s' hq=>?_);obtain ⟨rfl,h2,h3,h4⟩:=hq;exact ⟨.inl ⟨.bool true,.bool true,[],rfl,λ_=>rfl,.bool true,IG l _,λ_=>⟨Pairwise.nil,λ_ hm=>(nomatch hm)⟩⟩,h2,h3,h4⟩
section
variable {prog:Program} {w:World} {A:Around} {E:Value->Shared->Prop} {s:Shared} {K:Frag}
theorem GO
  (X:K.In s.heap) (hlim:s.heap.NoLimit) (ho:K.lookup f=some ⟨oc,od,.func (fnOf name qual params body scope dV kV doc pm an cdv ct),osl⟩) (hcd:codeIn K cdv qual=true) (hroom:A.depth<recursionLimit)
  (hbind:BindsTo s (fnOf name qual params body scope dV kV doc pm an cdv ct) args binds)
  (hkind:(binds.all λy=>scope.names.lookup y.1==some .local || scope.names.lookup y.1==some .cell)=true)
  (h:∀aa,InCallC s s.heap.objs.size (bindL (envOfC qual scope s.heap.objs.size f cdv).kindOf binds λ_=>none) (cellsFrom (s.heap.objs.size+1) scope.names [])
    (bindC (envOfC qual scope s.heap.objs.size f cdv).kindOf binds λ_=>none) aa->
   wpAny (model prog w) (A.deeper (envOfC qual scope s.heap.objs.size f cdv)) (execs body (envOfC qual scope s.heap.objs.size f cdv))
    (λfl s'=>R (.ok (.ret (match fl with| .ret v=>v|_=>.none))) s')
    (λe s'=>wpAny (model prog w) (A.deeper (envOfC qual scope s.heap.objs.size f cdv)) (leaving (envOfC qual scope s.heap.objs.size f cdv) e) (λ_ s''=>R (.error e) s'') (λe' s''=>R (.error e') s'') s') aa)
  (hco:scope.isCoroutine=false) (hgen:scope.isGenerator=false) (hk:scope.kind=.function):codeAny (model prog w) A (.call (.ref f) args) R s:=by
 refine codeAny_call_function hroom (X _ _ ho) rfl hco hgen rfl (codeRec_of X hcd) (hbind _ _ _ _ ?_);refine wpAny_newFunctionEnv_cells hk (kindsX hkind _) λenv he aa x=>?_;subst he;exact ⟨hlim.keeps x.toInCall.keep,codeAny_func (h aa x)⟩
end
end Att
namespace L2
open PySem PySem.Spec PyProof.Rows
theorem uG:∀{vs:List Value} {ns:List Int},IntsAre vs ns->Vals (ns.map V.int) vs
 |_,_,.nil=>.nil
 |_,_,.cons n t h=>.cons ⟨t,rfl⟩ (uG h)
def Gj (H:Hp):Prop:=∀b,H b=none\/∃o xs,H b=some (.frz o (.lst xs))
theorem OJ {P:Program} {w:World} {K:Fg} {mg mb:Str->Option Value} {CX:SQ} {k:Nat} {fa a:Addr} {fd:FuncData} {x:Str} {sp:Sp} {aa:Shared} {vs:List Value} {ns:List Int}
  (KX:K.In aa.heap) (hns:aa.heap.Ns mainGlobals mg) (hb:aa.heap.Ns builtinsNs mb) (hbb:∀x:Str,x≠"__name__"->mb x=bootBuiltins x) (hlim:aa.heap.NoLimit) (hg:aa.gens=#[])
  (ha:aa.heap.get? a=some {cls:=.type "list",data:=.seq vs.toArray}) (hi:IntsAre vs ns) (hl:ns.length<=sizeLine) (hr:bM k callerA)
  (F:∀base:Heap,K.In base->base.Ns mainGlobals mg->pG P w K mg base CX k fa fd [x] sp) (hbind:∀(s:Shared) (u:Value),BindsTo s fd ⟨[u],[]⟩ [(x,u)])
  (hsp:∀H:Hp,Gj H->aH K H a (ns.map V.int)->sp [.ref a] H (λv _=>v=.bl true) λ_ _ _=>False)
  (hCX:∀H e s',CX [] H aa (λ_ _ _=>False) e s'->False):
  codeAny (model P w) callerA (.call (.ref fa) ⟨[.ref a],[]⟩) (λr s'=>r=.ok (.ret (.bool true))/\OldK aa.heap s'.heap/\s'.os=aa.os/\AllBare s'.gens) aa:=by
 have rv:=uG hi;have lenV:=hi.length;have core:∀H:Hp,Gj H->aH K H a (ns.map V.int)->dN P w H aa.heap->(∀b,H b≠none->b=a)->(H a≠none->K.lookup a=none)->
   codeAny (model P w) callerA (.call (.ref fa) ⟨[.ref a],[]⟩) (λr s'=>r=.ok (.ret (.bool true))/\OldK aa.heap s'.heap/\s'.os=aa.os/\AllBare s'.gens) aa:=by
  intro H hO hS hok hA hK;have base_of:∀{b:Addr} {o:Obj},aa.heap.get? b=some o->H b=none->(xU aa.heap H).get? b=some o:=λe n=>PM e n;have noA:∀{b:Addr} {o:Obj} {es:Array DictEntry} {ep:Nat},aa.heap.get? b=some o->o.data=.dict es ep->H b=none:=λ{b o es ep} e d=>by
   cases q:H b with
   |none=>rfl
   |some u=>
    have e':b=a:=hA b (by rw[q];simp);subst e';rw[ha] at e;cases e;have d':Data.seq vs.toArray _=Data.dict es ep:=d;cases d'
  have nsK:∀{b:Addr} {m:Str->Option Value},aa.heap.Ns b m->(xU aa.heap H).Ns b m:=λ{b m} ⟨o,es,ep,e,d,r⟩=>⟨o,es,ep,base_of e (noA e d),d,r⟩;have hKb:K.In (xU aa.heap H):=λb o e=>base_of (KX b o e) (by
   cases q:H b with
   |none=>rfl
   |some u=>
    have e':b=a:=hA b (by rw[q];simp)
    subst e'
    rw[hK (by rw[q];simp)] at e;cases e)
  have hM:Mod K mg (xU aa.heap H):=⟨hKb,nsK hns,⟨mb,nsK hb,hbb⟩,let ⟨mc,h1,h2⟩:=hlim;⟨mc,nsK h1,h2⟩⟩;have e0:yP P w K mg (xU aa.heap H) callerA [] aa H:=⟨rfl,hM,λb o e=>VA e,le_of_eq (JH _ _),trivial,λb hb=>absurd (show b∈([]:List Addr) from hb) (by simp),hok,.of_eq hg⟩;refine codeAny_mono ((F _ hKb (nsK hns)).run callerA [] aa H ⟨[.ref a],[]⟩ [.ref a] [.ref a] _ _ hr e0 (hbind aa (.ref a)) (.cons rfl .nil) (hsp H hO hS)) λr s' h=>?_;cases r with
  |error e=>exact (hCX H e s' h).elim
  |ok fl=>
   cases fl with
   |next=>exact False.elim h
   |brk=>exact False.elim h
   |cont=>exact False.elim h
   |ret u=>
    obtain ⟨v,H',os,bare,un,hok',r',q⟩:=h;have q':v=.bl true:=q;subst q';obtain rfl:u=Value.bool true:=r';refine ⟨rfl,OldK.of_keep λb o e=>?_,os,bare⟩;cases q:H b with
    |none=>exact un.keep b o e q (by intro z;exact absurd (show b∈([]:List Addr) from z) (by simp)) (by simp)
    |some u=>
     rcases hO b with z|⟨ob,xs,z⟩
     ·rw[q] at z;cases z
     ·have z2:=un.frzs b ob _ z;obtain ⟨e1,_⟩:=hok b _ z;obtain ⟨e2,_⟩:=hok' b _ z2;rw[e] at e1;cases e1;exact e2
 cases hk:K.lookup a with
 |some o=>
  have e:=KX a o hk;rw[ha] at e;cases e;refine core (λ_=>none) (λ_=>.inl rfl) (.inr ⟨_,vs.toArray,_,hk,rfl,rfl,rfl,by rw[size_toArray,lenV];exact hl,by simpa using rv⟩) (λb u z=>by have z':(none:Option HO)=some u:=z;cases z') (λb z=>absurd rfl z) λz=>absurd rfl z
 |none=>
  refine core (λb=>if b=a then some (.frz {cls:=.type "list",data:=.seq vs.toArray} (.lst (ns.map V.int))) else none) (λb=>?_) (.inl (.inr ⟨{cls:=.type "list",data:=.seq vs.toArray},if_pos rfl⟩)) (λb u z=>?_) (λb z=>?_) λ_=>hk
  ·by_cases hb:b=a
   ·exact .inr ⟨_,_,if_pos hb⟩
   ·exact .inl (if_neg hb)
  ·by_cases hb:b=a
   ·have z':=(if_pos hb).symm.trans z;cases z';subst hb;exact ⟨ha,by rw[length_map];exact hl,vs,_,rv,ha⟩
   ·have z':=(if_neg hb).symm.trans z;cases z'
  ·by_cases hb:b=a
   ·exact hb
   ·exact absurd (if_neg hb) z
theorem SW {l:PySem.W.OpenLaw} {n k:Nat} {q:Program} {loose:List Str} {XP:(Str->Option Value)->Heap->Prop} {YP:World->Heap->Prop} {d:DefRec} {K:Params->Fg} {CX:World->SQ} {sp:World->Sp} {x:Str}
  (hn:l.most=some n) (hn2:n<=sizeLine) (hdf:d.params.defaults=[]) (hr:bM k callerA)
  (hY:∀(w:World) (h:Heap),YP w h->(K w.params).In h)
  (F:∀(w:World) (mg:Str->Option Value) (fa:Addr) (h:Heap),(K w.params).In h->h.Ns mainGlobals mg->mg d.name=some (.ref fa)->
   ∃fd:FuncData,(∀(s:Shared) (u:Value),BindsTo s fd ⟨[u],[]⟩ [(x,u)])/\
    ∀base:Heap,(K w.params).In base->base.Ns mainGlobals mg->pG l.prog w (K w.params) mg base (CX w) k fa fd [x] (sp w))
  (hsp:∀(w:World) (H:Hp) (a:Addr) (ns:List Int),ns.length<=n->Gj H->aH (K w.params) H a (ns.map V.int)->sp w [.ref a] H (λv _=>v=.bl true) λ_ _ _=>False)
  (hCX:∀(w:World) (H:Hp) (s:Shared) (e:Value) (s':Shared),CX w [] H s (λ_ _ _=>False) e s'->False):
  PySem.W.WalkO q loose XP YP l.row.toRowW d [] (λf vs=>PySem.call f vs):=by
 refine Att.BR hn hdf λw s₀ aa mg mb fa o pm cd doc a vs ns G Y ho hd hcd hmg hobj hints hlen hg=>?_;have KX:=hY w _ Y;obtain ⟨fd,hb,hF⟩:=F w mg fa _ KX G.T.g hmg;exact OJ KX G.T.g G.T.b G.T.builtins G.T.nolimit hg hobj hints (Nat.le_trans hlen hn2) hr hF hb (λH hO hS=>hsp w H a ns hlen hO hS) λH e s'=>hCX w H aa e s'
abbrev E0:XK:=λ_ _ _=>False
structure ZU (K:Fg) (x qual:Str) (st:Stmt) (f:Addr) (fd:FuncData):Prop where
 ex:∃(oc:Value) (od:Option Addr) (kV doc pm:Value) (an:Option Addr) (cdv ct:Value) (osl:Array (Option Value)),
  fd=PySem.W.fnOf x qual (bF st) (aK st) (aF st) .none kV doc pm an cdv ct/\K.lookup f=some ⟨oc,od,.func fd,osl⟩/\PySem.W.codeIn K cdv qual=true
 kp:keepIn K (.ref f)=true
section
variable {P:Program} {w:World} {K:Fg} {mg:Str->Option Value} {base:Heap}
theorem ZU.binds {x qual:Str} {st:Stmt} {f:Addr} {fd:FuncData} {ps:List Str} (F:ZU K x qual st f fd)
  (h:∀(kV doc pm:Value) (an:Option Addr) (cdv ct:Value) (us:List Value),us.length=ps.length->bindArgs (PySem.W.fnOf x qual (bF st) (aK st) (aF st) .none kV doc pm an cdv ct) ⟨us,[]⟩=pure (ps.zip us)):Binds K fd ps []:=by
 obtain ⟨oc,od,kV,doc,pm,an,cdv,ct,osl,rfl,lk,hcd⟩:=F.ex;exact .all (h kV doc pm an cdv ct)
theorem DU {x qual:Str} {st:Stmt} {f:Addr} {oc:Value} {od an:Option Addr} {osl:Array (Option Value)} {kV doc pm cdv ct:Value} (l:K.lookup f=some ⟨oc,od,.func (PySem.W.fnOf x qual (bF st) (aK st) (aF st) .none kV doc pm an cdv ct),osl⟩)
  (c:PySem.W.codeIn K cdv qual=true) (k:keepIn K (.ref f)=true):ZU K x qual st f (PySem.W.fnOf x qual (bF st) (aK st) (aF st) .none kV doc pm an cdv ct):=⟨⟨oc,od,kV,doc,pm,an,cdv,ct,osl,rfl,l,c⟩,k⟩
end
theorem HN (h:n<=1000):n<sizeLine:=Nat.lt_of_le_of_lt h (by decide)
section
variable {X:Cx}
end
def aB (H H':Hp):Prop:=∀b o,H b=some o->H' b=some o
theorem aB.refl (H:Hp):aB H H:=λ_ _ h=>h
theorem aB.trans (a:aB H H1) (b:aB H1 H2):aB H H2:=λc o h=>b c o (a c o h)
theorem aB.seq {K:Fg} {H H':Hp} {a:Addr} {xs:List V} (e:aB H H') (h:aH K H a xs):aH K H' a xs:=by
 rcases h with (h|⟨o,h⟩)|h
 ·exact .inl (.inl (e _ _ h))
 ·exact .inl (.inr ⟨o,e _ _ h⟩)
 ·exact .inr h
section
variable {κ:Type} [DecidableEq κ]
def eY (kvs:List (κ × V)) (k:κ):Option V:=(kvs.find? λkv=>decide (kv.1=k)).map (·.2)
def putK (kvs:List (κ × V)) (k:κ) (v:V):List (κ × V):=
 if (kvs.any λkv=>decide (kv.1=k))=true then kvs.map (λkv=>if kv.1=k then (kv.1,v) else kv) else kvs++[(k,v)]
theorem lJ {p:κ × V} {r:List (κ × V)} {k:κ} (e:p.1=k):eY (p::r) k=some p.2:=by simp [eY,find?_cons,e]
theorem iF {p:κ × V} {r:List (κ × V)} {k:κ} (e:¬p.1=k):eY (p::r) k=eY r k:=by simp [eY,find?_cons,e]
theorem qA (k:κ):∀kvs:List (κ × V),(kvs.any λkv=>decide (kv.1=k))=(eY kvs k).isSome
 |[]=>rfl
 |p::r=>by
  rw[any_cons];by_cases e:p.1=k
  ·simp only [lJ e,decide_eq_true e,Bool.true_or,Option.isSome_some]
  ·rw[iF e,decide_eq_false e,Bool.false_or];exact qA k r
theorem iX (kvs:List (κ × V)) (k:κ) (v:V):(putK kvs k v).length<=kvs.length+1:=by
 unfold putK;split
 ·rw[length_map];lia
 ·rw[length_append,length_cons,length_nil];lia
theorem eX.isSome_eq (r:eX o u):o.isSome=u.isSome:=by
 cases o with
 |none=>cases u with
  |none=>rfl
  |some _=>exact (show False from r).elim
 |some _=>cases u with
  |none=>exact (show False from r).elim
  |some _=>rfl
theorem eX.getD (r:eX o u) (rd:RelV d d'):RelV (o.getD d) (u.getD d'):=by
 cases o with
 |none=>cases u with
  |none=>exact rd
  |some _=>exact (show False from r).elim
 |some _=>cases u with
  |none=>exact (show False from r).elim
  |some _=>exact r
theorem KV.val (r:KV kvs vs) (k:κ):eX (eY kvs k) (valueAt vs k):=by
 unfold KV at r;induction r with
 |nil=>exact tI
 |@cons p q ps qs h t ih=>
  obtain ⟨h1,h2⟩:=h;by_cases e:p.1=k
  ·have e':q.1=k:=h1.symm.trans e;have b:valueAt (q::qs) k=some q.2:=by simp [valueAt,find?_cons,e']
   rw[lJ e,b];exact h2
  ·have e':¬q.1=k:=λz=>e (h1.trans z);have b:valueAt (q::qs) k=valueAt qs k:=by simp [valueAt,find?_cons,e']
   rw[iF e,b];exact ih
theorem KV.any {kvs:List (κ × V)} {vs:List (κ × Value)} (r:KV kvs vs) (k:κ):(kvs.any λkv=>decide (kv.1=k))=vs.any λkv=>decide (kv.1=k):=by
 unfold KV at r;induction r with
 |nil=>rfl
 |cons h t ih=>rw[any_cons,any_cons,ih,h.1]
theorem KV.repl (r:KV kvs vs) (k:κ) (ry:RelV y u):
  KV (kvs.map λkv=>if kv.1=k then (kv.1,y) else kv) (vs.map λkv=>if kv.1=k then (kv.1,u) else kv):=by
 unfold KV at r ⊢;induction r with
 |nil=>exact .nil
 |@cons p q ps qs h t ih=>
  rw[map_cons,map_cons];refine .cons ?_ ih;obtain ⟨h1,h2⟩:=h;by_cases e:p.1=k
  ·rw[if_pos e,if_pos (h1.symm.trans e)];exact ⟨h1,ry⟩
  ·rw[if_neg e,if_neg (λz=>e (h1.trans z))];exact ⟨h1,h2⟩
theorem KV.put (r:KV kvs vs) (k:κ) (ry:RelV y u):KV (putK kvs k y) (stored vs k u):=by
 unfold putK stored;rw[r.any k];by_cases e:(vs.any λkv=>decide (kv.1=k))=true
 ·rw[if_pos e,if_pos e];exact r.repl k ry
 ·rw[if_neg e,if_neg e];exact Paired.snoc r ⟨rfl,ry⟩
theorem KV.keys {kvs:List (κ × V)} {vs:List (κ × Value)} (r:KV kvs vs):kvs.map (·.1)=vs.map (·.1):=by
 unfold KV at r;induction r with
 |nil=>rfl
 |cons h t ih=>rw[map_cons,map_cons,ih,h.1]
theorem KV.length {kvs:List (κ × V)} {vs:List (κ × Value)} (r:KV kvs vs):kvs.length=vs.length:=Paired.length r
end
theorem vA (r:RelV (kV k) u):(aU P w).is k u=true:=by
 cases k with
 |inl i=>obtain ⟨t,e⟩:=(show ∃t,u=Value.int i t from r);subst e;exact AL P w i t
 |inr x=>obtain ⟨t,e⟩:=(show ∃t,u=Value.str x t from r);subst e;exact AK P w x t
theorem vB:∀{ks:List Key} {us:List Value},Vals (ks.map kV) us->ItemsAre (aU P w) ks us
 |[],_,r=>by rw[map_nil] at r;cases r;exact .nil
 |k::ks,_,r=>by
  rw[map_cons] at r;cases r with
  |cons h t=>exact .cons (vA h) (vB t)
abbrev KT (H:Hp):List (List Key × V)->List (List Key × Addr × Value)->Prop:=Paired λp q=>p.1=q.1/\H q.2.1=some (.tup (p.1.map kV))/\RelV p.2 q.2.2
theorem KT.val (r:KT H kvs xs) (k:List Key):eX (eY kvs k) ((atKey xs k).map (·.2)):=by
 induction r with
 |nil=>exact tI
 |@cons p q ps qs h t ih=>
  obtain ⟨h1,_,h2⟩:=h;by_cases e:p.1=k
  ·have e':q.1=k:=h1.symm.trans e;have b:atKey (q::qs) k=some q.2:=by simp [atKey,find?_cons,e']
   rw[lJ e,b];exact h2
  ·have e':¬q.1=k:=λz=>e (h1.trans z);have b:atKey (q::qs) k=atKey qs k:=by simp [atKey,find?_cons,e']
   rw[iF e,b];exact ih
theorem KT.repl (r:KT H kvs xs) (k:List Key) (ry:RelV y u):
  KT H (kvs.map λkv=>if kv.1=k then (kv.1,y) else kv) (xs.map (putAt k u)):=by
 induction r with
 |nil=>exact .nil
 |@cons p q ps qs h t ih=>
  rw[map_cons,map_cons];refine .cons ?_ ih;obtain ⟨h1,h2,h3⟩:=h;unfold putAt;by_cases e:p.1=k
  ·rw[if_pos e,if_pos (h1.symm.trans e)];exact ⟨h1,h2,ry⟩
  ·rw[if_neg e,if_neg (λz=>e (h1.trans z))];exact ⟨h1,h2,h3⟩
theorem KT.put (r:KT H kvs xs) (k:List Key) (hb:H b=some (.tup (k.map kV))) (ry:RelV y u):
  KT H (putK kvs k y) (storedH xs k b u):=by
 have e:(kvs.any λkv=>decide (kv.1=k))=(atKey xs k).isSome:=by
  rw[qA,(r.val k).isSome_eq,Option.isSome_map]
 unfold putK storedH;rw[e];by_cases q:(atKey xs k).isSome=true
 ·rw[if_pos q,if_pos q];exact r.repl k ry
 ·rw[if_neg q,if_neg q];exact Paired.snoc r ⟨rfl,hb,ry⟩
theorem KT.keeps (r:KT H kvs xs) (ht:∀b ys,H b=some (.tup ys)->H' b=some (.tup ys)):KT H' kvs xs:=
 Paired.mapP r λ_ _ z=>⟨z.1,ht _ _ z.2.1,z.2.2⟩
section
variable {P:Program} {w:World} {H:Hp} {h:Heap} {a:Addr}
theorem YF (ok:dN P w H h) (e:Rd H a u):aX P w H h a u:=e.ok ok
theorem vM (ok:dN P w H h) (e:Rd H a (.dK kvs)):kvs.length<=sizeLine/\(a==sysModules)=false/\∃vs,KV kvs vs/\h.DictOf (aU P w) a vs:=
 show aX P w H h a (.dK kvs) from YF ok e
theorem QG (ok:dN P w H h) (e:H a=some (.dK kvs)):kvs.length<=sizeLine/\(a==sysModules)=false/\∃vs,KV kvs vs/\h.DictOf (aU P w) a vs:=vM ok (.inl e)
theorem rN (ok:dN P w H h) (e:H a=some (.tup (ks.map kV))):(tupleKind (aU P w)).is h ks a:=by
 obtain ⟨_,its,r,o,h1,h2,n,h3⟩:=(show aX P w H h a (.tup (ks.map kV)) from ok a _ e);exact ⟨o,its.toArray,n,h1,h2,h3,by simpa using vB r⟩
theorem BD (ok:dN P w H h) (e:Rd H a (.dT kvs)):kvs.length<=sizeLine/\(a==sysModules)=false/\
  ∃xs,KT H kvs xs/\h.DictOfH (tupleKind (aU P w)) a xs:=by
 obtain ⟨z,y,xs,r,o,es,ep,h1,h2,h3,h4,h5⟩:=(show aX P w H h a (.dT kvs) from YF ok e);refine ⟨z,y,xs,r,o,es,ep,h1,h2,h3,h4,λx hx=>?_,h5⟩;have all:∀{l:List (List Key × V)} {m:List (List Key × Addr × Value)},KT H l m->∀x∈m,(tupleKind (aU P w)).is h x.1 x.2.1:=by
  intro l m q;induction q with
  |nil=>intro x hx;exact nomatch hx
  |@cons p q ps qs hq t ih=>
   intro x hx;rcases mem_cons.mp hx with e|hx
   ·subst e;exact rN ok (by rw[<-hq.1];exact hq.2.1)
   ·exact ih x hx
 exact all r x hx
theorem Mw (ok:dN P w H h) (e:H a=some (.dT kvs)):kvs.length<=sizeLine/\(a==sysModules)=false/\
  ∃xs,KT H kvs xs/\h.DictOfH (tupleKind (aU P w)) a xs:=BD ok (.inl e)
end
def fV (H:Hp) (a:Addr) (y:V) (r:Option V):Prop:=
 (∃kvs k,Rd H a (.dK kvs)/\y=kV k/\r=eY kvs k)\/∃kvs k b,Rd H a (.dT kvs)/\y=.ref b/\H b=some (.tup (k.map kV))/\r=eY kvs k
def SN (H:Hp) (a:Addr) (y v:V) (H':Hp):Prop:=
 (∃kvs k,H a=some (.dK kvs)/\y=kV k/\kvs.length<sizeLine/\H'=upd H a (.dK (putK kvs k v)))\/
 ∃kvs k b,H a=some (.dT kvs)/\y=.ref b/\H b=some (.tup (k.map kV))/\kvs.length<sizeLine/\H'=upd H a (.dT (putK kvs k v))
theorem fV.k {H:Hp} {a:Addr} {kvs:List (Key × V)} {k:Key} (e:H a=some (.dK kvs)):fV H a (kV k) (eY kvs k):=.inl ⟨kvs,k,.inl e,rfl,rfl⟩
theorem SN.k {H:Hp} {a:Addr} {kvs:List (Key × V)} {k:Key} {v:V} (e:H a=some (.dK kvs)) (hl:kvs.length<sizeLine):SN H a (kV k) v (upd H a (.dK (putK kvs k v))):=.inl ⟨kvs,k,e,rfl,hl,rfl⟩
section
variable {X:Cx} {pins:List (Addr × Obj)} {σ:St} {H:Hp} {s:Shared} {a:Addr} {y v:V} {u r:Value} {o:Option V} {A:Around} {E:Value->Shared->Prop}
theorem Inv.big (I:Inv X pins σ H s):sysModules<s.heap.objs.size:=by
 have h:mainGlobals<s.heap.objs.size:=(I.mod.glob.keeps I.bk).lt;exact lt_trans (by decide) h
theorem JN (hu:A.units+1<cLine) (I:Inv X pins σ H s) (g:fV H a y (some v)) (ry:RelV y u) (h:∀w' s',Inv X pins σ H s'->RelV v w'->Q w' s'):
  wpAny (model X.prog X.w) A (getItem (.ref a) u) Q E s:=by
 rcases g with ⟨kvs,k,e,ey,l⟩|⟨kvs,k,b,e,ey,eb,l⟩
 ·subst ey;obtain ⟨z,hd,vs,rel,dd⟩:=vM I.hok e;obtain ⟨w',hw,rw'⟩:=eX.some_of (v:=v) (o:=valueAt vs k) (by rw[l];exact rel.val k);exact wpAny_getItem_of (vA ry) dd.mapOf hw (h w' _ (I.tok _) rw')
 ·subst ey;cases (show u=Value.ref b from ry);obtain ⟨z,hd,xs,rel,dd⟩:=BD I.hok e;obtain ⟨w',hw,rw'⟩:=eX.some_of (v:=v) (o:=(atKey xs k).map (·.2)) (by rw[l];exact rel.val k);obtain ⟨p,hp,hp2⟩:=Option.map_eq_some_iff.mp hw;refine wpAny_getItem_heap (tupleKind_room_in1 hu) (rN I.hok eb) dd hp ?_;rw[hp2];exact h w' _ (I.tok _) rw'
theorem XB (hu:A.units+1<cLine) (I:Inv X pins σ H s) (g:fV H a y o) (ry:RelV y u) (h:∀s',Inv X pins σ H s'->Q (.bool (!o.isSome)) s'):
  wpAny (model X.prog X.w) A (compareOp .NotIn u (.ref a)) Q E s:=by
 rcases g with ⟨kvs,k,e,ey,l⟩|⟨kvs,k,b,e,ey,eb,l⟩
 ·subst ey;obtain ⟨z,hd,vs,rel,dd⟩:=vM I.hok e;refine wpAny_notIn_of (vA ry) hd dd.mapOf ?_;rw[<-(rel.val k).isSome_eq,<-l];exact h _ (I.tok _)
 ·subst ey;cases (show u=Value.ref b from ry);obtain ⟨z,hd,xs,rel,dd⟩:=BD I.hok e;refine wpAny_notIn_heap (tupleKind_room_in1 hu) (rN I.hok eb) hd dd ?_;have q:=(rel.val k).isSome_eq;rw[Option.isSome_map] at q;rw[<-q,<-l];exact h _ (I.tok _)
theorem xZ (I:Inv X pins σ H s) (mu:Nq (H a)) (hs:SameBut a s.heap h') (he:∃q,h'.get? a=some q) (new:aX X.prog X.w (upd H a ob) h' a ob):
  Inv X pins σ (upd H a ob) {s with heap:=h',toks:=t'}:=
 I.write (x:=a) (e:=a) mu (.inl rfl) (λb q hb z=>(hs.2 b hb).trans z) he new
theorem QI (z:kvs.length<=sizeLine) (hd:(a==sysModules)=false) (rel:KV kvs vs) (dd:h'.DictOf (aU P w) a vs):
  aX P w H' h' a (.dK kvs):=⟨z,hd,vs,rel,dd⟩
theorem JM (hu:A.units+1<cLine) (I:Inv X pins σ H s) (g:SN H a y v H') (ry:RelV y u) (rv:RelV v r) (h:∀s',Inv X pins σ H' s'->Q () s'):
  wpAny (model X.prog X.w) A (setItem (.ref a) u r) Q E s:=by
 rcases g with ⟨kvs,k,e,ey,l,eH⟩|⟨kvs,k,b,e,ey,eb,l,eH⟩
 ·subst ey eH;obtain ⟨z,hd,vs,rel,dd⟩:=QG I.hok e;have hz:vs.length<=sizeLine:=by rw[<-rel.length];exact z
  have hl:(putK kvs k v).length<=sizeLine:=by have:=iX kvs k v;lia
  refine wpAny_setItem_pairs (hsz:=hz) (vA ry) dd λh' dd' hs=>h _ ?_;have he:∃q,h'.get? a=some q:=let ⟨q,_,_,hq,_⟩:=dd';⟨q,hq⟩;exact xZ I (by rw[e];exact tI) hs he (QI hl hd (rel.put k rv) dd')
 ·subst ey eH;cases (show u=Value.ref b from ry);obtain ⟨z,hd,xs,rel,dd⟩:=Mw I.hok e;have hz:xs.length<=sizeLine:=by rw[<-Paired.length rel];exact z
  have hl:(putK kvs k v).length<=sizeLine:=by have:=iX kvs k v;lia
  refine wpAny_setItem_heap (hsz:=hz) (tupleKind_room_in1 hu) (rN I.hok eb) dd λh' dd' hs=>h _ ?_;obtain ⟨q,es,ep,hq,h2,h3,h4,_,h5⟩:=dd';refine xZ I (by rw[e];exact tI) hs ⟨q,hq⟩ ⟨hl,hd,_,(rel.put k eb rv).keeps λc ys ec=>?_,q,es,ep,hq,h2,h3,h4,h5⟩;rw[aE (Kk ec e (λz=>nomatch z))];exact ec
end
section
variable {X:Cx} {pins:List (Addr × Obj)} {σ:St} {H:Hp} {s:Shared} {a:Addr} {kvs:List (Key × V)} {k:Key} {u:Value} {A:Around} {E:Value->Shared->Prop}
theorem Nc (I:Inv X pins σ H s) (e:Rd H a (.dK kvs)) (h:∀t s',Inv X pins σ H s'->Q (.int kvs.length t) s'):wpAny (model X.prog X.w) A (call (.builtin "len") [.ref a]) Q E s:=by
 obtain ⟨z,hd,vs,rel,dd⟩:=vM I.hok e;refine call_len_dict hd dd (by rw[<-rel.length];rw[sizeLine_eq] at z;lia) ?_;rw[<-rel.length];exact h _ _ (I.tok _)
end
theorem BG (I:Inv X pins σ H s) (g:fV H a y o):s.TypeIs (.ref a) "dict":=by
 rcases g with ⟨kvs,k,e,_,_⟩|⟨kvs,k,b,e,_,_,_⟩
 ·obtain ⟨_,_,vs,_,dd⟩:=vM I.hok e;exact dd.typeIs
 ·obtain ⟨_,_,xs,_,dd⟩:=BD I.hok e;exact dd.typeIs
section
variable {X:Cx} {o i e value:Expr} {pos pos' tpos:Pos} {td ty tv:TE}
end
theorem QJ (h:Heap) (hb:sysModules<h.objs.size):aX P w H (h.push {cls:=.type "dict",data:=.dict #[]}) h.objs.size (.dK []):=
 ⟨zero_le _,beq_eq_false_iff_ne.mpr (Ne.symm (ne_of_lt hb)),[],.nil,DictOf.new h⟩
section
variable {X:Cx} {pos:Pos}
end
def CQ:List (TE × TE)->St->Hp->(List (V × V)->Hp->Prop)->Prop
 |[],_,H,Q=>Q [] H
 | (tk,tv)::r,σ,H,Q=>tk σ H λx H1=>tv σ H1 λy H2=>CQ r σ H2 λps H3=>Q ((x,y)::ps) H3
abbrev VV:List (V × V)->List (Value × Value)->Prop:=Paired λp q=>RelV p.1 q.1/\RelV p.2 q.2
def Oq (X:Cx) (pos:Pos) (keys:List (Option Expr)) (values:List Expr) (trs:List (TE × TE)):Prop:=
 ∀(pins:List (Addr × Obj)) (s:Shared) (σ:St) (H:Hp) (Q:List (V × V)->Hp->Prop),Inv X pins σ H s->CQ trs σ H Q->
  wpAny (model X.prog X.w) X.A (evalPairs (pairTrees keys values X.env pos)) (λvs s'=>∃ps H',Inv X pins σ H' s'/\VV ps vs/\Q ps H') X.xe s
theorem UK:Oq X pos [] [] []:=λpins s σ H Q I h=>pairTrees_nil_walk ⟨[],H,I,.nil,h⟩
theorem MY (hk:PE X k tk) (hv:PE X v tv) (hr:Oq X pos ks vs trs):
  Oq X pos (some k::ks) (v::vs) ((tk,tv)::trs):=λpins s σ H Q I h=>
 pairTrees_cons_walk (bH (hk pins s σ H _ I h) λu s1 ⟨x,H1,I1,rx,q1⟩=>bH (hv pins s1 σ H1 _ I1 q1) λw2 s2 ⟨y,H2,I2,ry,q2⟩=>
  bH (hr pins s2 σ H2 _ I2 q2) λws s3 ⟨ps,H3,I3,rel,q3⟩=>⟨(x,y)::ps,H3,I3,.cons ⟨rx,ry⟩ rel,q3⟩)
def nM (kvs more:List (Key × V)):List (Key × V):=more.foldl (λacc kv=>putK acc kv.1 kv.2) kvs
theorem KV.merge:∀{more:List (Key × V)} {rs:List (Key × Value)} {kvs:List (Key × V)} {vs:List (Key × Value)},KV more rs->KV kvs vs->KV (nM kvs more) (merged vs rs):=by
 intro more rs kvs vs r;unfold KV at r;induction r generalizing kvs vs with
 |nil=>intro q;exact q
 |@cons p q ps qs h t ih=>
  intro r0;have e:KV (putK kvs p.1 p.2) (stored vs q.1 q.2):=by
   have:=r0.put p.1 h.2;rw[<-h.1];exact this
  exact ih e
theorem kF:∀(more kvs:List (Key × V)),(nM kvs more).length<=kvs.length+more.length
 |[],kvs=>by show kvs.length<=kvs.length+0;lia
 |p::r,kvs=>by
  have h1:=kF r (putK kvs p.1 p.2);have h2:=iX kvs p.1 p.2;show (nM (putK kvs p.1 p.2) r).length<=_;rw[length_cons];lia
theorem sY:∀{kvs:List (Key × V)} {ws:List (Value × Value)},VV (kvs.map λkv=>(kV kv.1,kv.2)) ws->∃rs,Carries (aU P w) ws rs/\KV kvs rs
 |[],_,r=>by rw[map_nil] at r;cases r;exact ⟨[],tI,.nil⟩
 |p::kvs,_,r=>by
  rw[map_cons] at r;cases r with
  |@cons a b as bs h t=>
   obtain ⟨rs,c,q⟩:=sY (P:=P) (w:=w) t;obtain ⟨b1,b2⟩:=b;exact ⟨(p.1,b2)::rs,⟨vA h.1,rfl,c⟩,.cons ⟨rfl,h.2⟩ q⟩
def YA (trs:List (TE × TE)):TE:=λσ H Q=>∀p,H p=none->CQ trs σ (upd H p (.dK [])) λps H2=>H2 p=some (.dK [])/\∃kvs:List (Key × V),ps=kvs.map (λkv=>(kV kv.1,kv.2))/\kvs.length<=15/\Q (.ref p) (upd H2 p (.dK (nM [] kvs)))
theorem UP (h:Oq X pos keys values trs) (hall:keys.all (·.isSome)=true) (hl:keys.length=values.length) (h0:keys≠[])
  (h15:keys.length<=15):PE X (.Dict keys values pos) (YA trs):=by
 intro pins s σ H Q I q;have hn:=I.hok.fresh (Nat.le_refl s.heap.objs.size);have I1:=I.laid (a:=s.heap.objs.size) (o:=.dK []) (h':=s.heap.push {cls:=.type "dict",data:=.dict #[]}) (t':=s.toks) (λ_ _ q=>get?_push_of_some _ q) (Nat.le_refl _) (QJ s.heap I.big);refine wpAny_Dict_walk (knd:=aU X.prog X.w) hall hl h0 h15 (bH (h pins _ σ _ _ I1 (q _ hn)) λws s2 ⟨ps,H2,I2,rel,e,kvs,ep,lk,q2⟩=>?_);subst ep;obtain ⟨rs,c,rk⟩:=sY (P:=X.prog) (w:=X.w) rel;obtain ⟨z,hd,vs0,r0,dd⟩:=QG I2.hok e;cases r0;refine ⟨rs,c,dd,λh' dd' hs=>⟨.ref s.heap.objs.size,_,?_,rfl,q2⟩⟩;have hz:(nM [] kvs).length<=sizeLine:=by
  have h1:=kF kvs [];rw[length_nil] at h1;rw[sizeLine_eq];lia
 have he:∃q,h'.get? s.heap.objs.size=some q:=let ⟨q,_,_,hq,_⟩:=dd';⟨q,hq⟩;exact xZ I2 (by rw[e];exact tI) hs he (QI hz hd (rk.merge .nil) dd')
section
variable {X:Cx} {pins:List (Addr × Obj)} {σ:St} {H:Hp} {s:Shared} {a:Addr} {y d:V} {u r:Value} {o:Option V} {A:Around} {E:Value->Shared->Prop}
theorem Fs (hu:A.units+1<cLine) (I:Inv X pins σ H s) (g:fV H a y o) (ry:RelV y u) (rd:RelV d r) (h:∀w' s',Inv X pins σ H s'->RelV (o.getD d) w'->Q w' s'):
  wpAny (model X.prog X.w) A (call (.builtin "dict.get") [.ref a,u,r]) Q E s:=by
 rcases g with ⟨kvs,k,e,ey,l⟩|⟨kvs,k,b,e,ey,eb,l⟩
 ·subst ey;obtain ⟨z,hd,vs,rel,dd⟩:=vM I.hok e;refine call_meetsIn PySem.F.slot_dict_get dd.typeIs PySem.F.entry_dict_get (PySem.F.args_dict_get_3 _ _ _) (meets_dict_get_default (aU X.prog X.w) a (vA ry) hd r) ⟨_,dd.mapOf,h _ _ (I.tok _) ?_⟩;rw[l];exact (rel.val k).getD rd
 ·subst ey;cases (show u=Value.ref b from ry);obtain ⟨z,hd,xs,rel,dd⟩:=BD I.hok e;refine call_meetsIn PySem.F.slot_dict_get dd.typeIs PySem.F.entry_dict_get (PySem.F.args_dict_get_3 _ _ _) (meetsH_dict_get_default (tupleKind (aU X.prog X.w)) a b hd r) ⟨tupleKind_room_in1 hu,k,xs,rN I.hok eb,dd,h _ _ (I.tok _) ?_⟩;rw[l];exact (rel.val k).getD rd
end
section
variable {X:Cx} {o e f:Expr} {apos cpos:Pos} {td ty tx:TE}
end
section
variable {X:Cx} {pins:List (Addr × Obj)} {σ:St} {H:Hp} {s:Shared} {a:Addr} {kvs:List (Key × V)} {A:Around} {E:Value->Shared->Prop}
end
section
variable {X:Cx} {pins:List (Addr × Obj)} {σ:St} {H:Hp} {s:Shared} {a:Addr} {y:V} {u:Value} {A:Around} {E:Value->Shared->Prop}
end
end L2
namespace L2.Na
open PySem PySem.Spec PyProof.Rows
theorem DL (t:SetTable) (es:Array (Int × Value)) (h:Int) (x:Value):(layNew t es h x).2.1.led=t.led:=by
 unfold layNew;split
 ·show (SetTable.orStandIn _ _).led=_;unfold SetTable.orStandIn;split<;>rfl
 ·rfl
theorem rD (t:SetTable) (es:Array (Int × Value)) (m:Nat):(relayAll t es m).2.1.led=t.led/\(t.plain=false->(relayAll t es m).2.1.plain=false):=by
 unfold relayAll;split
 ·rename_i t' order he;have ht:t'.led=t.led/\t'.plain=t.plain:=by
   unfold SetTable.relaid SetTable.laid at he;cases hl:SetTable.layClean (SetTable.sizeAbove m - 1) (es.map (·.1)) with
   |none=>rw[hl] at he;cases he
   |some owner=>
    rw[hl] at he;cases he;exact ⟨rfl,rfl⟩
  dsimp only;split
  ·exact ⟨ht.1,λz=>ht.2.trans z⟩
  ·exact ⟨rfl,λ_=>rfl⟩
 ·exact ⟨rfl,λ_=>rfl⟩
def cO (es:Array (Int × Value)):List Str:=es.toList.map λe=>PyProof.Rows.strOf e.2
def eW (prog:Program) (w:World) (bt:Bool) (h:Heap) (a:Addr) (zs:List Str):Prop:=
 ∃(o:Obj) (es:Array (Int × Value)) (ep:Nat) (t:SetTable),h.get? a=some o/\o.ExactSet/\o.data=.set es ep t/\ElemsOf (PySem.strKind prog w) es.toList/\cO es=zs/\zs.Nodup/\es.size<scanBound/\t.fits es.size=true/\t.led=(!bt)/\(es.size≠0->t.plain=false)
section
variable {prog:Program} {w:World} {A:Around} {E:Value->Shared->Prop} {s:Shared} {bt:Bool} {a:Addr}
theorem eW.keep (hS:eW prog w bt h a zs) (k:∀o,h.get? a=some o->h'.get? a=some o):eW prog w bt h' a zs:=by
 obtain ⟨o,es,ep,t,ho,r⟩:=hS;exact ⟨o,es,ep,t,k o ho,r⟩
theorem EU {h:Heap} {o:Obj} {es es':Array (Int × Value)} {ep:Nat} {t t':SetTable} (ho:h.get? a=some o) (hd:o.data=.set es ep t):(h.update a (Obj.putSet es' t')).get? a=some {o with data:=.set es' (ep+1) t'}:=by
 have z:=get?_update_self (Obj.putSet es' t') ho (by rw[putSet_of es' t' hd];rfl);rwa [putSet_of es' t' hd] at z
theorem BC {es:Array (Int × Value)} (hel:ElemsOf (PySem.strKind prog w) es.toList) {e:Int × Value} (he:e∈es.toList) (x:Str):(PySem.strKind prog w).is x e.2=true↔PyProof.Rows.strOf e.2=x:=by
 obtain ⟨⟨k,hk,_⟩,_⟩:=hel e he;obtain ⟨u,hu⟩:=Value.isStrOf_shape hk;constructor
 ·intro h;obtain ⟨u',hu'⟩:=Value.isStrOf_shape (show Value.isStrOf x e.2=true from h);rw[hu'];rfl
 ·intro h;rw[hu] at h;have e1:k=x:=h;rw[<-e1];exact hk
theorem uQ {g:Bool->Sem Unit} (hg:∀(b:Bool) (aa:Shared) (Q':Unit->Shared->Prop),Q' () aa->wpAny (model prog w) A (g b) Q' E aa)
  {o:Obj} {es es1:Array (Int × Value)} {ep:Nat} {t t2:SetTable} (ho:s.heap.get? a=some o) (hex:o.ExactSet) (hd:o.data=.set es ep t) (hel:ElemsOf (PySem.strKind prog w) es1.toList) (nd:(cO es1).Nodup)
  (hb:es1.size<scanBound) (hf:t2.fits es1.size=true) (hl:t2.led=!bt) (hp:t2.plain=false) {wd:Bool} {R:Option Bool->Shared->Prop}
  (h:∀h' zs,SameBut a s.heap h'->eW prog w bt h' a zs->Perm zs (cO es1)->R (some true) {s with heap:=h'}):
  wpAny (model prog w) A (do
    storeSet a es1 t2
    if (!wd&&t2.tooFull)=true then do
      g (relayAll t2 es1 (SetTable.grown es1.size)).2.2
      storeSet a (relayAll t2 es1 (SetTable.grown es1.size)).1 (relayAll t2 es1 (SetTable.grown es1.size)).2.1
      pure (some true)
     else pure (some true)) R E s:=by
 refine wpAny_bind (wpAny_storeSet_of ho hd ?_ (fits_of_scanBound hb));have g1:=EU (es':=es1) (t':=t2) ho hd;have sb1:=SameBut.update s.heap a (Obj.putSet es1 t2);split
 ·obtain ⟨l3,p3⟩:=rD t2 es1 (SetTable.grown es1.size);have pm:=relayAll_perm t2 es1 (SetTable.grown es1.size);have f3:=relayAll_fits t2 es1 (SetTable.grown es1.size);revert l3 p3 pm f3;generalize relayAll t2 es1 (SetTable.grown es1.size)=r;obtain ⟨es2,t3,gv⟩:=r;intro l3 p3 pm f3;have sz:es2.size=es1.size:=by rw[<-length_toList,<-length_toList];exact pm.length_eq
  have pk:Perm (cO es2) (cO es1):=pm.map _;refine wpAny_bind (hg _ _ _ ?_);refine wpAny_bind (wpAny_storeSet_of g1 rfl ?_ (fits_of_scanBound (by show es2.size<scanBound;rw[sz];exact hb)));refine wpAny_pure (h _ (cO es2) (sb1.trans (SameBut.update _ a _)) ?_ pk);exact ⟨_,es2,_,t3,EU g1 rfl,hex,rfl,hel.perm pm,rfl,pk.nodup_iff.mpr nd,by rw[sz];exact hb,f3,l3.trans hl,λ_=>p3 hp⟩
 ·exact wpAny_pure (h _ (cO es1) sb1 ⟨_,es1,_,t2,g1,hex,rfl,hel,rfl,nd,hb,hf,hl,λ_=>hp⟩ (Perm.refl _))
theorem MD {zs:List Str} {x:Str} {tk:Tok} {Q:Bool->Shared->Prop} (hS:eW prog w bt s.heap a zs) (hroom:zs.length+1<scanBound)
  (h:∀h' zs' b,SameBut a s.heap h'->eW prog w bt h' a zs'->(∀y,y∈zs'↔y∈zs\/y=x)->zs'.length<=zs.length+1->Q b {s with heap:=h',toks:=s.toks+1}):
  wpAny (model prog w) A (setAdd a (.str x tk)) Q E s:=by
 obtain ⟨o,es,ep,t,ho,hex,hd,hel,rfl,nd,hb,hf,hl,hp⟩:=hS;have hlen:(cO es).length=es.size:=by unfold cO;rw[length_map,length_toList]
 have hkey:(PySem.strKind prog w).is x (.str x tk)=true:=by show Value.isStrOf x (.str x tk)=true;simp [Value.isStrOf]
 have hsc:(Value.str x tk).scannable=true:=rfl;unfold setAdd;refine wpAny_holding (wpAny_bind ((PySem.strKind prog w).pyHash hkey ?_));unfold setAddHashed setAddHashedIn;refine wpAny_holding (wpAny_bind (wpAny_setState_of (s:={s with toks:=s.toks+1}) ho hd hf ?_));dsimp only;rw[byScan_of hsc hb hel];simp only [↓reduceIte];unfold setAddByScan;refine wpAny_bind (wpAny_bind (wpAny_rule (wpAny_bind (wpAny_setScan_of (s:={s with toks:=s.toks+1}) hkey ho hd hf hel ?_))));cases hr:List.findIdx? (λe=>(PySem.strKind prog w).is x e.2) es.toList with
 |some j=>
  dsimp only;obtain ⟨hj,hpj,_⟩:=List.findIdx?_eq_some_iff_getElem.mp hr;have hm:x∈cO es:=mem_map.mpr ⟨_,getElem_mem hj,(BC hel (getElem_mem hj) x).mp hpj⟩;refine wpAny_pure (wpAny_pure ?_);exact h s.heap (cO es) _ (SameBut.refl a s.heap) ⟨o,es,ep,t,ho,hex,hd,hel,rfl,nd,hb,hf,hl,hp⟩ (λy=>⟨.inl,λz=>z.elim id λe=>e▸hm⟩) (le_succ _)
 |none=>
  dsimp only;have hn:x∉cO es:=λz=>by
   obtain ⟨e,he,hx⟩:=mem_map.mp z;have:=List.findIdx?_eq_none_iff.mp hr e he;rw[(BC hel he x).mpr hx] at this;cases this
  have pm:=layNew_perm t es ((PySem.strKind prog w).hash x) (.str x tk);have ft:=layNew_fits t es ((PySem.strKind prog w).hash x) (.str x tk);have ld:=DL t es ((PySem.strKind prog w).hash x) (.str x tk);revert pm ft ld;generalize layNew t es ((PySem.strKind prog w).hash x) (.str x tk)=L;obtain ⟨es1,t1,wd,gv⟩:=L;intro pm ft ld;dsimp only at pm ft ld ⊢;rw[Array.toList_push] at pm;have el1:=(hel.push hkey hsc).perm pm;have pk:Perm (cO es1) (cO es++[x]):=by
   have:=pm.map λe:Int × Value=>PyProof.Rows.strOf e.2;rw[map_append] at this;exact this
  have nd1:(cO es1).Nodup:=pk.nodup_iff.mpr (List.nodup_append.mpr ⟨nd,by simp,λu hu v hv e=>by
   have:v=x:=by simpa using hv
   rw[this] at e
   exact hn (e▸hu)⟩)
  have An:es1.size=es.size+1:=by rw[<-length_toList,pm.length_eq,length_append,length_toList];rfl
  have hb1:es1.size<scanBound:=by rw[An,<-hlen];exact hroom
  have fin:∀h' zs',SameBut a s.heap h'->eW prog w bt h' a zs'->Perm zs' (cO es1)->Q true {s with heap:=h',toks:=s.toks+1}:=λh' zs' sb hS' pz=>by
   refine h h' zs' true sb hS' (λy=>?_) ?_
   ·rw[(pz.trans pk).mem_iff,mem_append];simp
   ·rw[(pz.trans pk).length_eq,length_append];exact Nat.le_refl _
  have hgw:∀(b:Bool) (aa:Shared) (Q':Unit->Shared->Prop),Q' () aa->wpAny (model prog w) A (match b with|true=>rule "set.scan.the-table-gave-way"|false=>pure ()) Q' E aa:=
   λb aa Q' hq=>by cases b<;>first|exact wpAny_pure hq|exact wpAny_rule hq
  refine wpAny_bind (hgw _ _ _ ?_);split
  ·refine wpAny_bind ?_;rw[hashByValue_scannable 8 hsc];refine wpAny_pure ?_;refine uQ (s:={s with toks:=s.toks+1}) (t2:={t1 with plain:=false}) hgw ho hex hd el1 nd1 hb1 (SetTable.fits_plain_off ft) (ld.trans hl) rfl λh' zs' sb hS' pz=>?_;exact wpAny_pure (fin h' zs' sb hS' pz)
  ·rename_i hpl;refine wpAny_bind (wpAny_pure ?_);simp only [↓reduceIte];refine uQ (s:={s with toks:=s.toks+1}) (t2:=t1) hgw ho hex hd el1 nd1 hb1 ft (ld.trans hl) (by simpa using hpl) λh' zs' sb hS' pz=>?_;exact wpAny_pure (fin h' zs' sb hS' pz)
end
abbrev yR (w:World):Bool:=w.params.followText "set-order"
def gN (w:World):Obj:={cls:=.type "set",dict:=none,data:=.set #[] 0 (.fresh 0 0 (!yR w))}
section
variable {prog:Program} {w:World} {A:Around} {E:Value->Shared->Prop} {s:Shared}
theorem MC (e:h.get? a=some (gN w)):eW prog w (yR w) h a []:=
 ⟨_,#[],0,_,e,⟨rfl,rfl,rfl⟩,rfl,λx hx=>by simp at hx,rfl,List.nodup_nil,by decide,by rfl,rfl,λz=>absurd rfl z⟩
theorem JS (x:Value) (h:Q (.ref s.heap.objs.size) {s with heap:=s.heap.push (gN w)}):
  codeAny (model prog w) A (.call (.builtin "set.__new__") ⟨[.type "set",x],[]⟩) (wants Q E) s:=by
 refine codeAny_of_tree ?_;show wpAny _ A.in1 (do checkBuiltinCall "set.__new__" ⟨[.type "set",x],[]⟩;again (.builtin "set.__new__" ⟨[.type "set",x],[]⟩)) _ _ s;refine wpAny_bind (wpAny_of_eq (PySem.F.newCall_set_1 x) (wpAny_pure ⟨plainId_quiet PySem.F.plain_set_new _,codeAny_builtin PySem.F.entry_set_new ?_⟩));rw[Around.under_plainId PySem.F.plain_set_new _];unfold Builtin.«set.__new__» Builtin.Frozenset.newClass;have sub:=sub_set_self;obtain ⟨hp,g,d,tk,os⟩:=s;dsimp only
 wp_walk
 refine wpAny_askSetting (wpAny_pure ?_);dsimp only;simp only [newObj];refine wpAny_bind (wpAny_alloc (wpAny_pure (wpAny_pure ?_)));exact h
variable {R:Result->Shared->Prop} {I:Addr} {fp wr:List Addr} {G:Array GenState->Array GenState->Prop} {n:Nat} {P:Nat->Value->Prop} {St:Nat->Shared->Prop} {bt:Bool}
theorem GY (W:WalksS prog w A.in1 I fp wr G n P St) (S:Addr) (hSf:S∉fp) (val:Nat->Str) (hval:∀i v,P i v->∃t,v=.str (val i) t) (hb:n+1<scanBound):
  ∀(k i:Nat) (s:Shared) (zs:List Str),n - i=k->i<=n->St i s->eW prog w bt s.heap S zs->(∀y,y∈zs↔∃j,j<i/\val j=y)->zs.length<=i->
   (∀s' zs',Moved (S::wr) G s s'->eW prog w bt s'.heap S zs'->(∀y,y∈zs'↔∃j,j<n/\val j=y)->R (.ok (.ret .none)) s')->
   codeAny (model prog w) A (.builtin "set.update.loop" ⟨[.ref S,.ref I],[]⟩) R s:=by
 have hSw:S∉wr:=λh=>hSf (W.sub _ h);have up:∀b∈wr,b∈S::wr:=λb hb=>mem_cons_of_mem _ hb;intro k;induction k with
 |zero=>
  intro i s zs hk hi st hS hm _ fin;have e:i=n:=by lia
  subst e;refine codeAny_builtin PyProof.Rows.F.entry_set_update_loop ?_;rw[Around.under_plainId PyProof.Rows.F.plain_set_update_loop _];show wpAny _ A.in1 (pyNext (.ref I) >>=_) _ _ s;refine wpAny_bind (W.done s _ _ st λs' mv=>?_);show wpAny _ A.in1 (ret Value.none) _ _ s';exact wpAny_pure (fin s' zs (mv.mono up) (hS.keep λo ho=>mv.heap S o hSw ho) hm)
 |succ k ih=>
  intro i s zs hk hi st hS hm hl fin;have lt:i<n:=by lia
  refine codeAny_builtin PyProof.Rows.F.entry_set_update_loop ?_;rw[Around.under_plainId PyProof.Rows.F.plain_set_update_loop _];show wpAny _ A.in1 (pyNext (.ref I) >>=_) _ _ s;refine wpAny_bind (W.item i s _ _ lt st λv s1 hP st1 mv=>?_);obtain ⟨t,rfl⟩:=hval i v hP;have hS1:eW prog w bt s1.heap S zs:=hS.keep λo ho=>mv.heap S o hSw ho;show wpAny _ A.in1 (holding [Value.str (val i) t] (setAdd S (.str (val i) t)) >>=_) _ _ s1;refine wpAny_bind (wpAny_holding (MD hS1 (by lia) λh2 zs2 b sb hS2 hm2 hl2=>?_));refine wpAny_pure ⟨plainId_quiet PyProof.Rows.F.plain_set_update_loop _,ih (i+1) _ zs2 (by lia) lt (W.frame _ s1 _ _ st1 (le_succ _) λb hb o e=>?_) hS2 (λy=>?_) (by lia) λs3 zs3 mv3 hS3 hm3=>?_⟩
  ·rw[sb.2 b (λh:b=S=>hSf (by rw[<-h];exact hb))];exact e
  ·rw[hm2 y,hm y];constructor
   ·rintro (⟨j,hj,rfl⟩|rfl)
    ·exact ⟨j,by lia,rfl⟩
    ·exact ⟨i,by lia,rfl⟩
   ·rintro ⟨j,hj,rfl⟩;by_cases e:j=i
    ·rw[e];exact .inr rfl
    ·exact .inl ⟨j,by lia,rfl⟩
  ·refine fin s3 zs3 (Moved.trans W.gtrans ((mv.mono up).then_heap (le_succ _) λb o hb e=>?_) mv3) hS3 hm3;rw[sb.2 b (λh:b=S=>hb (by rw[h];exact mem_cons_self))];exact e
set_option maxHeartbeats 3200000 in
theorem HQ (hh:A.handled=none) (hb:z.cps.size+1<scanBound)
  (h:∀(h':Heap) (tk:Nat) (zs:List Str),eW prog w (yR w) h' s.heap.objs.size zs->(∀y,y∈zs↔∃c∈z.cps.toList,y=⟨#[c]⟩)->
   (∀b o,s.heap.get? b=some o->h'.get? b=some o)->Q (.ref s.heap.objs.size) {s with heap:=h',toks:=tk}):
  wpAny (model prog w) A (call (.type "set") [.str z t]) Q E s:=by
 obtain ⟨c,tl,hmro⟩:=PySem.F.called_set.mro;have hmade:=PySem.F.called_set.made;have hsub:=PySem.F.called_set.sub;refine wpAny_call (codeAny_of_tree ?_);show wpAny _ _ (callAny (.type "set") _) _ _ _;refine wpAny_pure ⟨Code.quiet_builtin _ (by decide+kernel),codeAny_builtin PySem.F.entry_type_call ?_⟩;rw[Around.under_plain (weight_type_call_type "set" [.str z t] []) rfl];have h1:=PySem.F.called_set.notType;have h2:=PySem.F.called_set.canCreate;have hct:=PySem.F.typeCall_set_1 (.str z t)
 repeat (any_goals (first|assumption|wp_step))
 refine codeAny_mono (JS (.str z t) (E:=E) (Q:=λob s1=>ob=.ref s.heap.objs.size/\s1={s with heap:=s.heap.push (gN w)}) ⟨rfl,rfl⟩) λr s1 hr=>?_;cases r with
 |error e=>exact hr
 |ok fl=>
  cases fl with
  |ret ob=>
   obtain ⟨rfl,rfl⟩:=hr;have hS:(s.heap.push (gN w)).get? s.heap.objs.size=some (gN w):=get?_push_size _ rfl;have hT:Shared.TypeIs {s with heap:=s.heap.push (gN w)} (.ref s.heap.objs.size) "set":=⟨_,hS,rfl⟩;have hli:=PySem.F.called_set.init.lookup;have hbi:=PySem.F.called_set.init.bind (.ref s.heap.objs.size)
   repeat (any_goals (first|assumption|wp_step))
   refine codeAny_mono (codeAny_call_builtin (R:=wants (λr s2=>r=.none/\∃h' tk zs,s2={s with heap:=h',toks:=tk}/\eW prog w (yR w) h' s.heap.objs.size zs/\(∀y,y∈zs↔∃c∈z.cps.toList,y=⟨#[c]⟩)/\
     (∀b o,s.heap.get? b=some o->h'.get? b=some o)) E) PySem.F.called_set.init.plain PySem.F.entry_set_init (check_set_init_1 hT ?_)) λr2 s2 hr2=>?_
   ·unfold Builtin.«set.__init__» noKeywords Builtin.Frozenset.updateFrom;have a1:isSubtype (.type "str") (.type "set")=pure false:=by rw[isSubtype_type];kernel_rfl
    have a2:isSubtype (.type "str") (.type "frozenset")=pure false:=by rw[isSubtype_type];kernel_rfl
    have a3:(Value.type "str"==Value.type "dict")=false:=by decide
    generalize hPI:pyIter=PI
    wp_walk
    subst hPI;refine wpAny_pyIter_str λo St W st=>?_;refine wpAny_bind (wpAny_runValue ?_);have hne:s.heap.objs.size≠(s.heap.push (gN w)).objs.size:=by rw[Heap.size_push];exact ne_of_lt (lt_succ_self _)
    have hh3:A.in1.in1.in1.handled=none:=by simp [hh]
    have hval:∀(i:Nat) (v:Value),SignAt z i v->∃t,v=.str ((λi=>(⟨#[z.cps.getD i 0]⟩:Str)) i) t:=λi v hv=>by
     obtain ⟨c,u,hc,rfl⟩:=hv;exact ⟨u,by simp [Array.getD_eq_getD_getElem?,hc]⟩
    refine GY (bt:=yR w) ((W _ hh3).toS) s.heap.objs.size (by simpa using hne) (λi=>(⟨#[z.cps.getD i 0]⟩:Str)) hval hb (z.cps.size - 0) 0 _ [] (by lia) (zero_le _) st
     (MC (get?_push_of_some _ hS)) (λy=>by simp) (Nat.le_refl _) λs' zs mv hS' hm=>?_
    obtain ⟨h',g',d',tk',os'⟩:=s';have eg:g'=s.gens:=mv.gens;have ed:d'=s.drawn:=mv.drawn;have eo:os'=s.os:=mv.os;subst eg ed eo;show wpAny _ _ _ _ _ _;refine wpAny_pure ?_;show wpAny _ _ (ret Value.none) _ _ _;refine wpAny_pure ⟨rfl,h',tk',zs,rfl,hS',λy=>?_,λb o e=>?_⟩
    ·rw[hm y];constructor
     ·rintro ⟨j,hj,rfl⟩;exact ⟨z.cps[j],by simp,by simp [Array.getD_eq_getD_getElem?,hj]⟩
     ·rintro ⟨c,hc,rfl⟩;obtain ⟨j,hj,e⟩:=List.getElem_of_mem hc;exact ⟨j,by simpa using hj,by simp [Array.getD_eq_getD_getElem?,show j<z.cps.size by simpa using hj] at e ⊢;exact e⟩
    ·have b1:=lt_size e;refine mv.heap b o (by rw[Heap.size_push];simp only [mem_cons,not_mem_nil,or_false,not_or];exact ⟨ne_of_lt b1,ne_of_lt (Nat.lt_succ_of_lt b1)⟩) (get?_push_of_some _ (get?_push_of_some _ e))
   ·cases r2 with
    |error e=>exact hr2
    |ok fl2=>
     cases fl2 with
     |ret r=>
      obtain ⟨rfl,h',tk,zs,rfl,q1,q2,q3⟩:=hr2
      repeat (any_goals (first|assumption|wp_step))
      exact h _ _ zs q1 q2 q3
     |_=>exact hr2.elim
  |_=>exact hr.elim
end
theorem aR:Slot "set_iterator" "__next__" "set_iterator.__next__":=
 .of (owner:="set_iterator") (n:="__next__") (by rw[typeLookup_type,builtinLookup_eq_fast];kernel_rfl) (by decide+kernel) (by decide+kernel) (by decide+kernel)
  (by first|exact .inl (by decide+kernel)|exact .inr (by decide+kernel)) (by rw[isSubtype_type];kernel_rfl)
theorem dR:entryFor table "set_iterator.__next__"=some Builtin.«set_iterator.__next__»:=entryFor_of_fast (by kernel_rfl)
theorem eG (a:Value):argsOk "set_iterator.__next__" ⟨[a],[]⟩:=by unfold argsOk;kernel_rfl
theorem lY:Slot "set_iterator" "__iter__" "set_iterator.__iter__":=
 .of (owner:="set_iterator") (n:="__iter__") (by rw[typeLookup_type,builtinLookup_eq_fast];kernel_rfl) (by decide+kernel) (by decide+kernel) (by decide+kernel)
  (by first|exact .inl (by decide+kernel)|exact .inr (by decide+kernel)) (by rw[isSubtype_type];kernel_rfl)
theorem uA:entryFor table "set_iterator.__iter__"=some Builtin.«dict_keyiterator.__iter__»:=
 entryFor_alias (id':="dict_keyiterator.__iter__") (by kernel_rfl) rfl (by decide+kernel) (by kernel_rfl)
theorem yL (a:Value):argsOk "set_iterator.__iter__" ⟨[a],[]⟩:=by unfold argsOk;kernel_rfl
theorem sJ:entryFor table "set.__iter__"=some Builtin.«frozenset.__iter__»:=
 entryFor_alias (id':="frozenset.__iter__") (by kernel_rfl) rfl (by decide+kernel) (by kernel_rfl)
def dB (h:Heap) (it:Addr) (first:Value) (i:Nat) (a:Addr) (n ep:Nat):Prop:=∃o,h.get? it=some o/\o.cls=.type "set_iterator"/\o.data=.fields #[first,.int i 0,.ref a,.int n 0,.int ep 0]
section
variable {prog:Program} {w:World} {A:Around} {E:Value->Shared->Prop} {s:Shared} {it a:Addr} {i n ep:Nat} {o:Obj} {es:Array (Int × Value)} {t:SetTable}
theorem dB.type (h:dB s.heap it first i a n ep):s.TypeIs (.ref it) "set_iterator":=by
 obtain ⟨o,ho,hc,_⟩:=h;exact ⟨o,ho,hc⟩
theorem wN (hit:dB s.heap it first i a n ep) (h:Q (.ref it) s):wpAny (model prog w) A (pyIter (.ref it)) Q E s:=by
 refine wpAny_pyIter_slot hit.type lY (wpAny_call_entry lY hit.type uA ?_ (yL _));show wpAny _ _ (ret (.ref it)) _ _ s;exact wpAny_pure ⟨_,rfl,"set_iterator",_,hit.type,aR.lookup,h⟩
theorem zO {slot nx:Nat} (hit:dB s.heap it (.int slot 0) i a n ep) (ho:s.heap.get? a=some o) (hd:o.data=.set es ep t) (hf:t.fits es.size=true) (hn:es.size=n)
  (hx:∀(A:Around) (E:Value->Shared->Prop) (Q':Option (Value × Nat)->Shared->Prop),Q' (some (x,nx)) s->wpAny (model prog w) A (setNext a slot i ep) Q' E s)
  (h:∀h',dB h' it (.int nx 0) (i+1) a n ep->SameBut it s.heap h'->Q (some x) {s with heap:=h'}):wpAny (model prog w) A (pyNext (.ref it)) Q E s:=by
 obtain ⟨oi,hoi,hci,hdi⟩:=id hit;unfold pyNext;refine wpAny_bind (wpAny_attempt (wpAny_callSpecial?_slot (name:=ofString "__next__") hit.type aR (wpAny_call_entry aR hit.type dR ?_ (eG _))));show wpAny _ _ (fieldsOf (.ref it) >>=_) _ _ s;refine wpAny_bind (wpAny_fieldsOf hoi hdi ?_);show wpAny _ _ (setEntries a >>=_) _ _ s;refine wpAny_bind (wpAny_setEntries_of ho hd hf ?_);rw[if_neg (by simp [hn])];show wpAny _ _ (setNext a (toNat (slot:Nat)) (toNat (i:Nat)) (toNat (ep:Nat)) >>=_) _ _ s;rw[toNat_natCast,toNat_natCast,toNat_natCast];refine wpAny_bind (hx _ _ _ ?_);dsimp only;refine wpAny_bind (wpAny_setField hoi hdi (by simp) ?_);have g1:=get?_update_self (Obj.mapFields (·.setIfInBounds 0 (rawInt nx))) hoi (Obj.isFreed_of_fields (Obj.data_mapFields hdi _));have d1:=Obj.data_mapFields hdi (·.setIfInBounds 0 (rawInt nx));refine wpAny_bind (wpAny_setField g1 d1 (by simp) ?_);have g2:=get?_update_self (Obj.mapFields (·.setIfInBounds 1 (rawInt ((i:Int)+1)))) g1 (Obj.isFreed_of_fields (Obj.data_mapFields d1 _));have d2:=Obj.data_mapFields d1 (·.setIfInBounds 1 (rawInt ((i:Int)+1)));refine wpAny_pure ⟨x,rfl,wpAny_pure (h _ ⟨_,g2,(Obj.cls_mapFields ..).trans ((Obj.cls_mapFields ..).trans hci),?_⟩ ((SameBut.update ..).trans (SameBut.update ..)))⟩;rw[d2];simp [rawInt]
theorem LY {m p:Nat} {hx:Int} (hit:dB s.heap it (.ref tp) i a n ep) (ho:s.heap.get? a=some o) (hd:o.data=.set es ep t) (hf:t.fits es.size=true) (hn:es.size=n)
  (hot:s.heap.get? tp=some ot) (hdt:ot.data=.seq ps m) (hp:ps[i]?=some (.int p u)) (he:es[p]?=some (hx,x))
  (h:∀h',dB h' it (.ref tp) (i+1) a n ep->SameBut it s.heap h'->Q (some x) {s with heap:=h'}):wpAny (model prog w) A (pyNext (.ref it)) Q E s:=by
 obtain ⟨oi,hoi,hci,hdi⟩:=id hit;unfold pyNext;refine wpAny_bind (wpAny_attempt (wpAny_callSpecial?_slot (name:=ofString "__next__") hit.type aR (wpAny_call_entry aR hit.type dR ?_ (eG _))));show wpAny _ _ (fieldsOf (.ref it) >>=_) _ _ s;refine wpAny_bind (wpAny_fieldsOf hoi hdi ?_);show wpAny _ _ (setEntries a >>=_) _ _ s;refine wpAny_bind (wpAny_setEntries_of ho hd hf ?_);rw[if_neg (by simp [hn])];show wpAny _ _ (seqItems? (.ref tp) >>=_) _ _ s;refine wpAny_bind (wpAny_seqItems hot hdt ?_);dsimp only;rw[toNat_natCast,hp];dsimp only;rw[toNat_natCast,toNat_natCast];unfold setNextDrawn;refine wpAny_bind (wpAny_bind (wpAny_setState_of ho hd hf ?_));dsimp only;rw[if_neg (by simp)];rw[he];refine wpAny_pure ?_;refine wpAny_bind (wpAny_setField hoi hdi (by simp) ?_);have g2:=get?_update_self (Obj.mapFields (·.setIfInBounds 1 (rawInt ((i:Int)+1)))) hoi (Obj.isFreed_of_fields (Obj.data_mapFields hdi _));have d2:=Obj.data_mapFields hdi (·.setIfInBounds 1 (rawInt ((i:Int)+1)));refine wpAny_pure ⟨x,rfl,wpAny_pure (h _ ⟨_,g2,(Obj.cls_mapFields ..).trans hci,?_⟩ (SameBut.update ..))⟩;rw[d2];simp [rawInt]
theorem ET {slot:Nat} (hh:A.handled=none) (hit:dB s.heap it (.int slot 0) i a n ep) (ho:s.heap.get? a=some o) (hd:o.data=.set es ep t) (hf:t.fits es.size=true) (hn:es.size=n)
  (hx:∀(A:Around) (E:Value->Shared->Prop) (Q':Option (Value × Nat)->Shared->Prop),Q' none s->wpAny (model prog w) A (setNext a slot i ep) Q' E s)
  (h:∀h',ExtBut it s.heap h'->Q none {s with heap:=h'}):wpAny (model prog w) A (pyNext (.ref it)) Q E s:=by
 obtain ⟨oi,hoi,hci,hdi⟩:=id hit;unfold pyNext;refine wpAny_bind (wpAny_attempt (wpAny_callSpecial?_slot (name:=ofString "__next__") hit.type aR (wpAny_call_entry aR hit.type dR ?_ (eG _))));show wpAny _ _ (fieldsOf (.ref it) >>=_) _ _ s;refine wpAny_bind (wpAny_fieldsOf hoi hdi ?_);show wpAny _ _ (setEntries a >>=_) _ _ s;refine wpAny_bind (wpAny_setEntries_of ho hd hf ?_);rw[if_neg (by simp [hn])];show wpAny _ _ (setNext a (toNat (slot:Nat)) (toNat (i:Nat)) (toNat (ep:Nat)) >>=_) _ _ s;rw[toNat_natCast,toNat_natCast,toNat_natCast];refine wpAny_bind (hx _ _ _ ?_);dsimp only;refine wpAny_bind (wpAny_setField hoi hdi (by simp) ?_);show wpAny _ _ (newExc (.type "StopIteration") [] >>=_) _ _ _;refine wpAny_bind ?_;simp only [newExc,newTuple];refine wpAny_bind (wpAny_newObj_type ?_ (by size_fits));refine wpAny_bind (m:=firstArgMember _ _) (wpAny_of_eq (a:=Value.none) (by first|rfl|(simp only [firstArgMember];rfl)) ?_);refine wpAny_newObj_type ?_ (by size_fits);simp only [raiseNew];refine wpAny_bind (wpAny_handled ?_)
 first|rw[show A.in1.handled=none from hh]|rw[hh]
 refine wpAny_bind (wpAny_pure (wpAny_throw ?_));refine wpAny_bind (wpAny_isInstance (T:="StopIteration") (b:=true) ⟨_,get?_push_size _ rfl,rfl⟩ isSubtype_stop ?_);exact wpAny_pure (h _ (((SameBut.update ..).extBut.push _).push _))
theorem TU (hh:A.handled=none) (hit:dB s.heap it (.ref tp) i a n ep) (ho:s.heap.get? a=some o) (hd:o.data=.set es ep t) (hf:t.fits es.size=true) (hn:es.size=n)
  (hot:s.heap.get? tp=some ot) (hdt:ot.data=.seq ps m) (hp:ps[i]?=none)
  (h:∀h',ExtBut it s.heap h'->Q none {s with heap:=h'}):wpAny (model prog w) A (pyNext (.ref it)) Q E s:=by
 obtain ⟨oi,hoi,hci,hdi⟩:=id hit;unfold pyNext;refine wpAny_bind (wpAny_attempt (wpAny_callSpecial?_slot (name:=ofString "__next__") hit.type aR (wpAny_call_entry aR hit.type dR ?_ (eG _))));show wpAny _ _ (fieldsOf (.ref it) >>=_) _ _ s;refine wpAny_bind (wpAny_fieldsOf hoi hdi ?_);show wpAny _ _ (setEntries a >>=_) _ _ s;refine wpAny_bind (wpAny_setEntries_of ho hd hf ?_);rw[if_neg (by simp [hn])];show wpAny _ _ (seqItems? (.ref tp) >>=_) _ _ s;refine wpAny_bind (wpAny_seqItems hot hdt ?_);dsimp only;rw[toNat_natCast,hp];dsimp only;refine wpAny_bind (wpAny_setField hoi hdi (by simp) ?_);have g1:=get?_update_self (Obj.mapFields (·.setIfInBounds 0 (rawInt 0))) hoi (Obj.isFreed_of_fields (Obj.data_mapFields hdi _));have d1:=Obj.data_mapFields hdi (·.setIfInBounds 0 (rawInt 0));refine wpAny_bind (wpAny_setField g1 d1 (by simp) ?_);show wpAny _ _ (newExc (.type "StopIteration") [] >>=_) _ _ _;refine wpAny_bind ?_;simp only [newExc,newTuple];refine wpAny_bind (wpAny_newObj_type ?_ (by size_fits));refine wpAny_bind (m:=firstArgMember _ _) (wpAny_of_eq (a:=Value.none) (by first|rfl|(simp only [firstArgMember];rfl)) ?_);refine wpAny_newObj_type ?_ (by size_fits);simp only [raiseNew];refine wpAny_bind (wpAny_handled ?_)
 first|rw[show A.in1.handled=none from hh]|rw[hh]
 refine wpAny_bind (wpAny_pure (wpAny_throw ?_));refine wpAny_bind (wpAny_isInstance (T:="StopIteration") (b:=true) ⟨_,get?_push_size _ rfl,rfl⟩ isSubtype_stop ?_);exact wpAny_pure (h _ ((((SameBut.update ..).trans (SameBut.update ..)).extBut.push _).push _))
end
section
variable {prog:Program} {w:World} {A:Around} {E:Value->Shared->Prop} {s:Shared}
theorem DY (hn:n≠0) (h:∀i d,i<n->Q i {s with drawn:=d}):wpAny (model prog w) A (choose src n) Q E s:=λΓ p hΓ=>by
 unfold choose;rw[Sem.wp_choose];exact ⟨hn,h _ _ (Nat.mod_lt _ (Nat.pos_of_ne_zero hn))⟩
theorem kY:∀{l:List α} {i:Nat} (h:i<l.length),Perm (l[i]::l.eraseIdx i) l
 |_::_,0,_=>Perm.refl _
 |x::l,i+1,h=>(Perm.swap ..).trans ((kY (l:=l) (i:=i) (by simpa using h)).cons x)
theorem vL:∀(n:Nat) (xs:List α) (s:Shared) (Q:List α->Shared->Prop),xs.length=n->(∀ys d,Perm ys xs->Q ys {s with drawn:=d})->wpAny (model prog w) A (drawOrder n xs) Q E s
 |0,xs,s,Q,hl,h=>by
  have e:xs=[]:=List.eq_nil_of_length_eq_zero hl;subst e;exact wpAny_pure (h [] s.drawn (Perm.refl _))
 |n+1,[],s,Q,hl,h=>nomatch hl
 |n+1,x::xs,s,Q,hl,h=>by
  unfold drawOrder;refine wpAny_bind (DY (by simp) λi d hi=>?_);rw[getElem?_eq_getElem hi];dsimp only;refine wpAny_bind (vL n _ _ _ (by rw[List.length_eraseIdx_of_lt hi];simpa using hl) λys d' hp=>?_);exact wpAny_pure (h _ d' ((Perm.cons _ hp).trans (kY hi)))
theorem FA (next:Nat->Nat):∀(f k:Nat) (left:List α) (out:Array α),left.length=f->Perm (pickOrder.go next f k left out).toList (out.toList++left)
 |0,k,left,out,hl=>by
  have e:left=[]:=List.eq_nil_of_length_eq_zero hl;subst e;unfold pickOrder.go;rw[append_nil]
 |f+1,k,left,out,hl=>by
  unfold pickOrder.go;have hi:next k % left.length<left.length:=Nat.mod_lt _ (by lia);rw[getElem?_eq_getElem hi];dsimp only;refine (FA next f (k+1) _ _ (by rw[List.length_eraseIdx_of_lt hi];lia)).trans ?_;rw[Array.toList_push,List.append_assoc];exact (Perm.refl _).append (kY hi)
theorem nK (next:Nat->Nat) (xs:Array α):Perm (pickOrder next xs).toList xs.toList:=by
 unfold pickOrder;exact FA next _ _ _ _ (by simp)
variable {a:Addr} {o:Obj} {es:Array (Int × Value)} {ep:Nat} {t:SetTable}
theorem jX (h:Q (yR w) s):wpAny (model prog w) A setsByText Q E s:=by
 unfold setsByText;exact wpAny_bind (wpAny_askSetting (wpAny_pure h))
theorem zQ (ho:s.heap.get? a=some o) (hd:o.data=.set es ep t) (hf:t.fits es.size=true) (h:Q (!yR w&&(!t.plain&&decide (es.size>1))) s):wpAny (model prog w) A (setDrawn a) Q E s:=by
 unfold setDrawn;refine wpAny_bind (wpAny_setState_of ho hd hf ?_);dsimp only;refine wpAny_bind (jX ?_);exact wpAny_pure h
theorem mB (bt:yR w=true) (ho:s.heap.get? a=some o) (hd:o.data=.set es ep t) (hf:t.fits es.size=true)
  (h:Q (((pickOrder (w.params.setOrder a ep) es)[i]?).map λe=>(e.2,slot)) s):wpAny (model prog w) A (setNext a slot i ep) Q E s:=by
 unfold setNext;refine wpAny_bind (wpAny_setState_of ho hd hf ?_);dsimp only;refine wpAny_bind (jX ?_);rw[bt];simp only [↓reduceIte,bne_self_eq_false,false_eq_true];refine wpAny_bind ?_;unfold setWalk;refine wpAny_bind (wpAny_setState_of ho hd hf ?_);dsimp only;refine wpAny_bind (jX ?_);rw[bt];simp only [↓reduceIte];exact wpAny_bind (wpAny_askSetting (wpAny_pure (wpAny_pure h)))
theorem mD (bt:yR w=false) (h1:es.size<=1) (hl:t.led=true) (ho:s.heap.get? a=some o) (hd:o.data=.set es ep t) (hf:t.fits es.size=true)
  (h:Q (match es[SetTable.below t.place slot]?,t.place[SetTable.below t.place slot]? with
   |some (_,x),some j=>some (x,j+1)
   |_,_=>none) s):wpAny (model prog w) A (setNext a slot i ep) Q E s:=by
 obtain ⟨mk,pl,dm,fg,ld,mv,pn⟩:=t;cases hl;have hz:decide (es.size>1)=false:=decide_eq_false (by lia);unfold setNext;refine wpAny_bind (wpAny_setState_of ho hd hf ?_);dsimp only;refine wpAny_bind (jX ?_);rw[bt];simp only [false_eq_true,↓reduceIte];split
 ·rename_i hc;have hc':(!pn&&decide (es.size>1))=true:=hc;rw[hz,Bool.and_false] at hc';cases hc'
 ·exact wpAny_bind (wpAny_of_eq (a:=()) rfl (wpAny_pure h))
end
section
variable {prog:Program} {w:World} {A:Around} {I a:Addr} {o:Obj} {es:Array (Int × Value)} {ep:Nat} {t:SetTable}
theorem dB.keep (hI:dB h it first i a n ep) (k:∀o,h.get? it=some o->h'.get? it=some o):dB h' it first i a n ep:=by
 obtain ⟨o,ho,r⟩:=hI;exact ⟨o,k o ho,r⟩
theorem GX (bt:yR w=true) (hh:A.handled=none) (hne:a≠I) (hd:o.data=.set es ep t) (hf:t.fits es.size=true):
  Walks prog w A I [I,a] [I] es.size (λi v=>((pickOrder (w.params.setOrder a ep) es).toList.map (·.2))[i]?=some v) (λi h=>dB h I (.int (0:Nat) 0) i a es.size ep/\h.get? a=some o) where
 sub:=λb hb=>by simp at hb;simp [hb]
 frame:=λ_ _ _ st hk=>⟨st.1.keep λo e=>hk I (by simp) o e,hk a (by simp) o st.2⟩
 item:=λi s Q E hi st hQ=>by
  have hl:(pickOrder (w.params.setOrder a ep) es).size=es.size:=by
   rw[<-length_toList,(nK _ es).length_eq,length_toList]
  have hi':i<(pickOrder (w.params.setOrder a ep) es).size:=by lia
  refine zO (x:=(pickOrder (w.params.setOrder a ep) es)[i].2) (nx:=0) st.1 st.2 hd hf rfl (λA' E' Q' q=>mB bt st.2 hd hf (by simpa [hi'] using q)) λh' hit' hs'=>?_;exact hQ _ h' s.toks (by simp [hi']) ⟨hit',by rw[hs'.2 a hne];exact st.2⟩ λb o hb e=>hs'.extBut b o (λh=>hb (by simp [h])) e
 done:=λs Q E st hQ=>by
  have hl:(pickOrder (w.params.setOrder a ep) es).size=es.size:=by
   rw[<-length_toList,(nK _ es).length_eq,length_toList]
  exact ET hh st.1 st.2 hd hf rfl (λA' E' Q' q=>mB bt st.2 hd hf (by rw[Array.getElem?_eq_none (by lia)];exact q)) λh' he'=>hQ h' s.toks λb o hb e=>he' b o (λh=>hb (by simp [h])) e
 self:=λi s Q E st hQ=>wN st.1 hQ
def slotAt (t:SetTable):Nat->Nat
 |0=>0
 |_+1=>t.place.getD 0 0+1
theorem vT (j:Nat):SetTable.below #[j] 0=0/\SetTable.below #[j] (j+1)=1:=by
 constructor<;>simp [SetTable.below,SetTable.below.go]
theorem LF (bt:yR w=false) (h1:es.size<=1) (hl:t.led=true) (hh:A.handled=none) (hne:a≠I) (hd:o.data=.set es ep t) (hf:t.fits es.size=true):
  Walks prog w A I [I,a] [I] es.size (λi v=>(es.toList.map (·.2))[i]?=some v) (λi h=>dB h I (.int (slotAt t i:Nat) 0) i a es.size ep/\h.get? a=some o) where
 sub:=λb hb=>by simp at hb;simp [hb]
 frame:=λ_ _ _ st hk=>⟨st.1.keep λo e=>hk I (by simp) o e,hk a (by simp) o st.2⟩
 item:=λi s Q E hi st hQ=>by
  have i0:i=0:=by lia
  subst i0;have hpl:t.place.size=es.size:=by
   simp only [SetTable.fits,and_eq_true,beq_iff_eq] at hf;exact hf.1
  obtain ⟨j,hj⟩:∃j,t.place=#[j]:=size_eq_one_iff.mp (by lia);obtain ⟨e,he⟩:∃e,es=#[e]:=size_eq_one_iff.mp (by lia);refine zO (x:=e.2) (nx:=j+1) st.1 st.2 hd hf rfl (λA' E' Q' q=>mD bt h1 hl st.2 hd hf (by
   show Q' (match es[SetTable.below t.place 0]?,t.place[SetTable.below t.place 0]? with
    |some (_,x),some j=>some (x,j+1)
    |_,_=>none) s
   rw[hj,(vT j).1,he]
   exact q)) λh' hit' hs'=>?_
  refine hQ _ h' s.toks (by simp [he]) ⟨?_,by rw[hs'.2 a hne];exact st.2⟩ λb o hb e=>hs'.extBut b o (λh=>hb (by simp [h])) e;have:slotAt t (0+1)=j+1:=by unfold slotAt;rw[hj];rfl
  rw[this];exact hit'
 done:=λs Q E st hQ=>by
  have hpl:t.place.size=es.size:=by
   simp only [SetTable.fits,and_eq_true,beq_iff_eq] at hf;exact hf.1
  refine ET hh st.1 st.2 hd hf rfl (λA' E' Q' q=>mD bt h1 hl st.2 hd hf ?_) λh' he'=>hQ h' s.toks λb o hb e=>he' b o (λh=>hb (by simp [h])) e;by_cases h0:es.size=0
  ·rw[Array.getElem?_eq_none (show es.size<=_ by lia)];exact q
  ·obtain ⟨j,hj⟩:∃j,t.place=#[j]:=size_eq_one_iff.mp (by lia);obtain ⟨e,he⟩:∃e,es=#[e]:=size_eq_one_iff.mp (by lia);have:slotAt t es.size=j+1:=by rw[he];unfold slotAt;rw[hj];rfl
   rw[this,hj,(vT j).2,he];exact q
 self:=λi s Q E st hQ=>wN st.1 hQ
theorem PU {α β:Type} {f:α->Option β} {d:β}:∀(l:List α),(∀x∈l,(f x).isSome=true)->l.filterMap f=l.map λx=>(f x).getD d
 |[],_=>rfl
 |x::l,h=>by
  obtain ⟨y,hy⟩:=isSome_iff_exists.mp (h x mem_cons_self);rw[List.filterMap_cons_some hy,map_cons,PU l λz hz=>h z (mem_cons_of_mem _ hz),hy];rfl
theorem CD (hh:A.handled=none) (hne:a≠I) (hnt:tp≠I) (hd:o.data=.set es ep t) (hf:t.fits es.size=true) (hdt:ot.data=.seq (ord.map λ(i:Nat)=>rawInt i).toArray m) (hp:Perm ord (range es.size)):
  Walks prog w A I [I,a,tp] [I] es.size (λi v=>(ord.filterMap λp=>es[p]?.map (·.2))[i]?=some v) (λi h=>dB h I (.ref tp) i a es.size ep/\h.get? a=some o/\h.get? tp=some ot) where
 sub:=λb hb=>by simp at hb;simp [hb]
 frame:=λ_ _ _ st hk=>⟨st.1.keep λo e=>hk I (by simp) o e,hk a (by simp) o st.2.1,hk tp (by simp) ot st.2.2⟩
 item:=λi s Q E hi st hQ=>by
  have hl:ord.length=es.size:=by rw[hp.length_eq,length_range]
  have hlt:∀p∈ord,p<es.size:=λp hp'=>mem_range.mp (hp.mem_iff.mp hp');have hi':i<ord.length:=by lia
  have hpi:=hlt _ (getElem_mem hi');have hfm:ord.filterMap (λp=>es[p]?.map (·.2))=ord.map λp=>(es[p]?.map (·.2)).getD .none:=PU _ λp hp'=>by simp [hlt p hp']
  refine LY (x:=es[ord[i]].2) (hx:=es[ord[i]].1) (p:=ord[i]) (u:=0) st.1 st.2.1 hd hf rfl st.2.2 hdt (by simp [hi',rawInt]) (by simp [hpi]) λh' hit' hs'=>?_;exact hQ _ h' s.toks (by rw[hfm];simp [hi',hpi]) ⟨hit',by rw[hs'.2 a hne];exact st.2.1,by rw[hs'.2 tp hnt];exact st.2.2⟩ λb o hb e=>hs'.extBut b o (λh=>hb (by simp [h])) e
 done:=λs Q E st hQ=>by
  have hl:ord.length=es.size:=by rw[hp.length_eq,length_range]
  exact TU hh st.1 st.2.1 hd hf rfl st.2.2 hdt (by simp [hl]) λh' he'=>hQ h' s.toks λb o hb e=>he' b o (λh=>hb (by simp [h])) e
 self:=λi s Q E st hQ=>wN st.1 hQ
end
section
variable {prog:Program} {w:World} {A:Around} {E:Value->Shared->Prop} {s:Shared}
theorem iE (hel:ElemsOf (PySem.strKind prog w) es.toList) (hp:Perm ys (es.toList.map (·.2))):ys.length=(cO es).length/\StrsAre ys (ys.map PyProof.Rows.strOf)/\Perm (ys.map PyProof.Rows.strOf) (cO es):=by
 refine ⟨by rw[hp.length_eq];unfold cO;rw[length_map,length_map],strsAre_map ys λv hv=>?_,?_⟩
 ·obtain ⟨e,he,rfl⟩:=mem_map.mp (hp.mem_iff.mp hv);obtain ⟨⟨k,hk,_⟩,_⟩:=hel e he;obtain ⟨u,hu⟩:=Value.isStrOf_shape hk;exact ⟨k,u,hu⟩
 ·have:=hp.map PyProof.Rows.strOf;rw[map_map] at this;exact this
theorem HP (hS:eW prog w (yR w) s.heap a zs)
  (h:∀(I:Addr) (s':Shared) (fp:List Addr) (ys:List Value) (St:Nat->Heap->Prop),(∀A':Around,A'.handled=none->Walks prog w A' I fp [I] zs.length (λi v=>ys[i]?=some v) St)->St 0 s'.heap->
   (∀b o,s.heap.get? b=some o->s'.heap.get? b=some o)->s.heap.objs.size<=I->(∀b∈fp,b=a\/s.heap.objs.size<=b)->ys.length=zs.length->StrsAre ys (ys.map PyProof.Rows.strOf)->Perm (ys.map PyProof.Rows.strOf) zs->
   s'.gens=s.gens->s'.os=s.os->s'.toks=s.toks->Q (.ref I) s'):
  wpAny (model prog w) A (pyIter (.ref a)) Q E s:=by
 obtain ⟨o,es,ep,t,ho,hex,hd,hel,rfl,nd,hb,hf,hl,hp⟩:=hS;have hT:s.TypeIs (.ref a) "set":=⟨o,ho,hex.1⟩;have hlen:(cO es).length=es.size:=by unfold cO;rw[length_map,length_toList]
 have alt:a<s.heap.objs.size:=lt_size ho;refine wpAny_pyIter_slot hT PySem.F.slot_set_iter (wpAny_call_entry PySem.F.slot_set_iter hT sJ ?_ (PySem.F.args_set_iter_1 _));unfold Builtin.«frozenset.__iter__» Builtin.Frozenset.slot0 slotArgs;simp only [List.isEmpty_nil,Bool.not_true,false_eq_true,↓reduceIte,bind_assoc,length_nil,bne_self_eq_false];unfold Builtin.Frozenset.addrOf Builtin.Frozenset.sizeOf;refine wpAny_bind (wpAny_pure ?_)
 try dsimp only
 refine wpAny_bind (wpAny_pure ?_);refine wpAny_bind (wpAny_bind (wpAny_setEntries_of ho hd hf (wpAny_pure ?_)));refine wpAny_bind (zQ ho hd hf ?_);split
 ·refine wpAny_bind (vL es.size (range es.size) s _ length_range λord d hpo=>?_);have hol:ord.length=es.size:=by rw[hpo.length_eq,length_range]
  refine wpAny_bind (wpAny_newTuple ?_ (by rw[length_map,hol];exact fits_of_scanBound hb));refine wpAny_bind (wpAny_setEpoch_of (get?_push_of_some _ ho) hd hf ?_);refine wpAny_bind (wpAny_newObj_type ?_);refine wpAny_pure ⟨_,rfl,"set_iterator",_,⟨_,get?_push_size _ rfl,rfl⟩,aR.lookup,?_⟩;have pm:Perm (ord.filterMap λp=>es[p]?.map (·.2)) (es.toList.map (·.2)):=by
   have z:=hpo.filterMap λp=>es[p]?.map (·.2);rw[<-List.map_filterMap,<-List.map_filterMap,filterMap_getElem?_range] at z;rwa [<-List.map_filterMap]
  obtain ⟨q1,q2,q3⟩:=iE hel pm;refine h (s.heap.push ({cls:=.type "tuple",data:=.seq (ord.map λ(i:Nat)=>rawInt i).toArray}:Obj)).objs.size _ [(s.heap.push ({cls:=.type "tuple",data:=.seq (ord.map λ(i:Nat)=>rawInt i).toArray}:Obj)).objs.size,a,s.heap.objs.size] _ (λi h=>dB h (s.heap.push ({cls:=.type "tuple",data:=.seq (ord.map λ(i:Nat)=>rawInt i).toArray}:Obj)).objs.size (.ref s.heap.objs.size) i a es.size ep/\h.get? a=some o/\h.get? s.heap.objs.size=some ({cls:=.type "tuple",data:=.seq (ord.map λ(i:Nat)=>rawInt i).toArray}:Obj)) (λA' hh'=>?_) ⟨⟨_,get?_push_size _ rfl,rfl,rfl⟩,get?_push_of_some _ (get?_push_of_some _ ho),get?_push_of_some _ (get?_push_size _ rfl)⟩ (λb o e=>get?_push_of_some _ (get?_push_of_some _ e)) ?_ (λb hb'=>?_) q1 q2 q3 rfl rfl rfl
  ·rw[hlen];exact CD hh' (by rw[Heap.size_push];exact ne_of_lt (Nat.lt_succ_of_lt alt)) (by rw[Heap.size_push];exact ne_of_lt (lt_succ_self _)) hd hf rfl hpo
  ·rw[Heap.size_push];exact le_succ _
  ·rcases mem_cons.mp hb' with rfl|hb'
   ·exact .inr (by rw[Heap.size_push];exact le_succ _)
   ·rcases mem_cons.mp hb' with rfl|hb'
    ·exact .inl rfl
    ·rw[mem_singleton.mp hb'];exact .inr (Nat.le_refl _)
 ·rename_i hc;refine wpAny_bind (wpAny_pure ?_);refine wpAny_bind (wpAny_setEpoch_of ho hd hf ?_);refine wpAny_bind (wpAny_newObj_type ?_);refine wpAny_pure ⟨_,rfl,"set_iterator",_,⟨_,get?_push_size _ rfl,rfl⟩,aR.lookup,?_⟩;have fps:∀b∈[s.heap.objs.size,a],b=a\/s.heap.objs.size<=b:=λb hb'=>by
   rcases mem_cons.mp hb' with rfl|hb'
   ·exact .inr (Nat.le_refl _)
   ·exact .inl (mem_singleton.mp hb')
  cases bt:yR w with
  |true=>
   obtain ⟨q1,q2,q3⟩:=iE hel ((nK (w.params.setOrder a ep) es).map (·.2));refine h s.heap.objs.size _ [s.heap.objs.size,a] _ (λi h=>dB h s.heap.objs.size (.int (0:Nat) 0) i a es.size ep/\h.get? a=some o) (λA' hh'=>?_) ⟨⟨_,get?_push_size _ rfl,rfl,rfl⟩,get?_push_of_some _ ho⟩ (λb o e=>get?_push_of_some _ e) (Nat.le_refl _) fps q1 q2 q3 rfl rfl rfl;rw[hlen];exact GX bt hh' (ne_of_lt alt) hd hf
  |false=>
   have h1:es.size<=1:=by
    rw[bt] at hc;by_cases z:es.size<=1
    ·exact z
    ·rw[hp (by lia),decide_eq_true (show es.size>1 by lia)] at hc;exact absurd rfl hc
   obtain ⟨q1,q2,q3⟩:=iE hel (Perm.refl _);refine h s.heap.objs.size _ [s.heap.objs.size,a] _ (λi h=>dB h s.heap.objs.size (.int (slotAt t i:Nat) 0) i a es.size ep/\h.get? a=some o) (λA' hh'=>?_) ⟨⟨_,get?_push_size _ rfl,rfl,rfl⟩,get?_push_of_some _ ho⟩ (λb o e=>get?_push_of_some _ e) (Nat.le_refl _) fps q1 q2 q3 rfl rfl rfl;rw[hlen];exact LF bt h1 (by rw[hl,bt];rfl) hh' (ne_of_lt alt) hd hf
theorem MB (hT:s.TypeIs (.ref a) "set") (h:Q false s):wpAny (model prog w) A (Builtin.List.listLengthHint (.ref a)) Q E s:=by
 unfold Builtin.List.listLengthHint;refine wpAny_bind (wpAny_specialOf hT PySem.F.slot_set_len.lookup ?_);generalize hid:("set.__len__":String)=id0
 wp_delta
 rw[show splitId id0=some ("set","__len__") from by subst hid;decide+kernel];subst hid;refine wpAny_bind (wpAny_isInstance (b:=true) hT (by rw[isSubtype_type];kernel_rfl) ?_);refine wpAny_ite_split (λz=>absurd z (by decide)) (λ_=>?_);refine wpAny_ite_split (λ_=>?_) (λz=>absurd (by decide+kernel) z);exact wpAny_bind (wpAny_typeOf hT (wpAny_pure h))
theorem eW.type (hS:eW prog w bt s.heap a zs):s.TypeIs (.ref a) "set":=by
 obtain ⟨o,_,_,_,ho,hex,_⟩:=hS;exact ⟨o,ho,hex.1⟩
theorem wQ (hh:A.handled=none) (hS:eW prog w (yR w) s.heap a zs) (hn:zs.length<=sizeLine)
  (h:∀(s':Shared) (ys:List Value),(∀b o,s.heap.get? b=some o->s'.heap.get? b=some o)->s.heap.objs.size<=s'.heap.objs.size->StrsAre ys (ys.map PyProof.Rows.strOf)->Perm (ys.map PyProof.Rows.strOf) zs->s'.gens=s.gens->s'.os=s.os->Q ys s'):
  wpAny (model prog w) A (collect (.ref a)) Q E s:=by
 have alt:a<s.heap.objs.size:=by
  obtain ⟨o,_,_,_,ho,_⟩:=hS;exact lt_size ho
 unfold collect;refine wpAny_bind (wpAny_runValue (codeAny_builtin entry_proto_collect' ?_));rw[Around.under_plainId PySem.F.plain_proto_collect _];show wpAny _ A.in1 (newList [] >>=λl=>again (.builtin "list.__iadd__" ⟨[l,.ref a],[]⟩)) _ _ s;refine wpAny_bind (wpAny_newObj_type ?_);refine wpAny_pure ⟨plainId_quiet PySem.F.plain_list_iadd _,codeAny_builtin entry_list_iadd' ?_⟩;rw[Around.under_plainId PySem.F.plain_list_iadd _];have g1:(s.heap.push {cls:=.type "list",data:=.seq ([]:List Value).toArray}).get? s.heap.objs.size=some {cls:=.type "list",data:=.seq #[]}:=get?_push_size _ rfl;have hS1:eW prog w (yR w) (s.heap.push {cls:=.type "list",data:=.seq ([]:List Value).toArray}) a zs:=hS.keep λo e=>get?_push_of_some _ e;show wpAny _ A.in1 (Builtin.List.listExtendWith (.ref s.heap.objs.size) (.ref a) (.ref s.heap.objs.size)) _ _ _;unfold Builtin.List.listExtendWith;refine wpAny_bind (wpAny_typeOf (T:="set") hS1.type ?_);have n1:Builtin.List.listSameRef (.ref s.heap.objs.size) (.ref a)=false:=by simp [Builtin.List.listSameRef,ne_of_gt alt]
 have n2:(Value.type "set"==Value.type "list")=false:=by decide
 have n3:(Value.type "set"==Value.type "tuple")=false:=by decide
 simp only [n1,n2,n3,Bool.or_false,false_eq_true,if_false];refine wpAny_bind (HP (s:={s with heap:=s.heap.push {cls:=.type "list",data:=.seq ([]:List Value).toArray}}) hS1 λI s2 fp ys St W st kp hI hfp q1 q2 q3 eg eo et=>?_);have g2:=kp _ _ g1;have hI1:s.heap.objs.size<I:=by
  have:(s.heap.push {cls:=.type "list",data:=.seq ([]:List Value).toArray}).objs.size<=I:=hI;rw[Heap.size_push] at this;exact this
 have hSf:s.heap.objs.size∉fp:=λz=>by
  rcases hfp _ z with e|e
  ·exact absurd e (ne_of_gt alt)
  ·have e':(s.heap.push {cls:=.type "list",data:=.seq ([]:List Value).toArray}).objs.size<=s.heap.objs.size:=e;rw[Heap.size_push] at e';exact absurd e' (Nat.not_le.mpr (lt_succ_self _))
 have hh2:A.in1.handled=none:=by simp [hh]
 have key:∀(h:Heap) (c:Nat),St 0 h->(∀b o,b≠s.heap.objs.size->s2.heap.get? b=some o->h.get? b=some o)->h.get? s.heap.objs.size=some {cls:=.type "list",data:=.seq #[] c}->
   codeAny (model prog w) A (.builtin "list.extend.loop" ⟨[.ref s.heap.objs.size,.ref I,.ref s.heap.objs.size],[]⟩) (λr s'=>match r with
    | .ok (.ret v)=>wpAny (model prog w) A (match v with
     | .ref a=>do
      let o <-load a
      match o.data with
      | .seq xs _=>pure xs.toList
      |_=>unsupported "internal:collect"
     |_=>unsupported "internal:collect") Q E s'
    | .ok _=>False
    | .error e=>E e s') {s2 with heap:=h}:=λh3 c st3 k3 g3=>by
  refine codeAny_extend_loopS ((W _ hh2).toS) hn s.heap.objs.size hSf (.ref s.heap.objs.size) zs.length 0 _ #[] c rfl (zero_le _) st3 g3 (ItemsOf.nil _) λs4 acc c4 mv g4 ac=>?_;dsimp only;refine wpAny_bind (wpAny_load g4 ?_);dsimp only;have ea:acc.toList=ys:=by
   refine List.ext_getElem? λj=>?_;by_cases hj:j<acc.size
   ·have z:=ac.2 j acc[j] (by simp [hj]);rw[z];simp [hj]
   ·have e1:acc.size=zs.length:=ac.1;rw[List.getElem?_eq_none (by simpa using hj),List.getElem?_eq_none (by lia)]
  rw[ea];refine wpAny_pure (h s4 ys (λb o e=>?_) (le_of_lt (lt_size g4)) q2 q3 (mv.gens.trans eg) (mv.os.trans eo));have b1:=lt_size e;refine mv.heap b o (by simp only [mem_cons,not_mem_nil,or_false,not_or];exact ⟨ne_of_lt b1,ne_of_lt (lt_trans b1 hI1)⟩) (k3 b o (ne_of_lt b1) (kp b o (get?_push_of_some _ e)))
 refine wpAny_bind (wpAny_holding (MB (eW.type (hS1.keep λo e=>kp _ _ e)) ?_));refine wpAny_ite_split (λ_=>?_) (λ_=>wpAny_pure ⟨plainId_quiet PySem.F.plain_extend_loop _,key _ _ st (λb o _ e=>e) g2⟩);refine wpAny_bind (wpAny_rule ?_);refine wpAny_bind ?_;show wpAny _ _ (updateSeq s.heap.objs.size (·.push .none) >>=λ_=>updateSeq s.heap.objs.size (·.pop)) _ _ _;refine wpAny_bind (wpAny_updateSeq g2 rfl ?_);have g5:=get?_update_self (Obj.mapSeq (·.push Value.none)) g2 rfl;refine wpAny_updateSeq (hz:=by seq_fits) g5 rfl ?_;have g6:=get?_update_self (Obj.mapSeq (·.pop)) g5 rfl;have oth:∀b o,b≠s.heap.objs.size->s2.heap.get? b=some o->((s2.heap.update s.heap.objs.size (Obj.mapSeq (·.push Value.none))).update s.heap.objs.size (Obj.mapSeq (·.pop))).get? b=some o:=λb o hb e=>
  (get?_update_other _ _ (Ne.symm hb)).trans ((get?_update_other _ _ (Ne.symm hb)).trans e)
 exact wpAny_pure ⟨plainId_quiet PySem.F.plain_extend_loop _,key _ _ ((W _ hh2).frame 0 _ _ st λb hb o e=>oth b o (λz=>hSf (z▸hb)) e) oth g6⟩
theorem zP (hh:A.handled=none) (hS:eW prog w (yR w) s.heap a zs) (h64:zs.length<64)
  (h:∀(s':Shared) (D:Addr) (vs:List Value) (ss:List Str) (e:Nat),(∀b o,s.heap.get? b=some o->s'.heap.get? b=some o)->s.heap.objs.size<=D->s'.heap.get? D=some (seqObj "list" vs.toArray e)->StrsAre vs ss->Perm ss zs->sortedS ss=true->
   s'.gens=s.gens->s'.os=s.os->Q (.ref D) s'):wpAny (model prog w) A (call (.builtin "sorted") [.ref a]) Q E s:=by
 have hn:zs.length<=sizeLine:=by rw[sizeLine_eq];lia
 refine Calls.call_function_entry kind_sorted plain_sorted entry_sorted (args_sorted1 _) ?_;unfold Builtin.«sorted»;refine wpAny_bind (m:=checkCount "sorted" 1 1 _) (wpAny_pure ?_);refine wpAny_bind (wQ (A:=A.in1) (by simp [hh]) hS hn λs1 ys k1 le q2 q3 eg eo=>?_);have hl:ys.length=zs.length:=by rw[<-q3.length_eq,length_map]
 refine wpAny_bind (wpAny_newList ?_ (by rw[hl];exact hn));have hoL:(s1.heap.push (seqObj "list" ys.toArray 0)).get? s1.heap.objs.size=some (seqObj "list" ys.toArray 0):=get?_push_size _ rfl;show wpAny _ _ _ _ _ {s1 with heap:=s1.heap.push (seqObj "list" ys.toArray 0)};refine wpAny_bind (wpAny_holding (wpAny_call_entry slot_list_sort ⟨_,hoL,rfl⟩ entry_list_sort (list_sort_treeK strKind_oneLt hoL q2.keysOf (λbp bh rest e=>keyKind_strs (by rw[<-e];exact q2)) (by lia) λst' a1 a2=>⟨_,rfl,?_⟩) (args_list_sort _)));obtain ⟨ss,b1,b2,b3⟩:=sorted_out_str q2 a1 a2;obtain ⟨e,he⟩:=sortedHeap_at (out:=(arrOf st').map (·.2)) hoL;refine wpAny_pure ⟨_,rfl,h _ s1.heap.objs.size ((arrOf st').map (·.2)).toList ss e (λb o z=>?_) le ?_ b1 (b2.trans q3) b3 eg eo⟩
 ·have lt:=lt_size (k1 b o z);show (sortedHeap _ _ _ _).get? b=some o;rw[sortedHeap_old (ne_of_lt lt) (by rw[Heap.size_push];exact Nat.lt_succ_of_lt lt)];exact get?_push_of_some _ (k1 b o z)
 ·rw[Array.toArray_toList];exact he
end
end L2.Na
namespace L2.L3
open PySem PySem.Spec PyProof.Rows
def sgn (c:Nat):V:=.str ⟨#[c]⟩
def Nw (z:Str):It:=⟨λi _=>i<z.cps.size,λi H x H'=>H'=H/\∃c,z.cps[i]?=some c/\x=sgn c,λi _=>z.cps.size<=i⟩
theorem LK {P:Program} {w:World} {K:Fg} {tg:Expr} (z:Str) (t:Tok) (it:Addr) (T:String) (hT:T="str_ascii_iterator"\/T="str_iterator"):
  Turn P w K tg (Nw z) [it] it (λi h=>h.IsStrIter it T z t i) where
 mem:=by simp
 obj:=λi h st b hb=>by
  have e:b=it:=by simpa using hb
  subst e;obtain ⟨o,e,c,d⟩:=st;exact ⟨o,e,λv z=>by rw[d] at z;cases z⟩
 keep:=λi h h' st k=>by
  obtain ⟨o,e,c,d⟩:=st;exact ⟨o,k it (by simp) o e,c,d⟩
 item:=by
  intro X hP hw hK hc i pins s σ H E I hf st hg;subst hP hw hK;obtain ⟨f0,f1,f2,f3,f4,f5⟩:=hf it (by simp);have hi:i<z.cps.size:=hg;rcases hT with rfl|rfl
  ·refine wpAny_pyNext_ascii_item st (c:=z.cps[i]) (by simp [hi]) λh' st' sb=>?_;have I1:Inv X pins σ H {s with heap:=h',toks:=s.toks+1}:=I.turned (λb o hb e=>(sb.2 b hb).trans e) f0 f1 f3 f4 f5;obtain ⟨o,e,c,d⟩:=id st';exact ⟨_,rfl,vH (s:={s with heap:=h',toks:=s.toks+1}) e c d (by decide) ⟨sgn z.cps[i],H,I1,⟨_,rfl⟩,⟨rfl,_,by simp [hi],rfl⟩,st',λb hb=>(hf b hb).1⟩⟩
  ·refine wpAny_pyNext_wide_item st (c:=z.cps[i]) (by simp [hi]) λh' st' sb=>?_;have I1:Inv X pins σ H {s with heap:=h',toks:=s.toks+1}:=I.turned (λb o hb e=>(sb.2 b hb).trans e) f0 f1 f3 f4 f5;obtain ⟨o,e,c,d⟩:=id st';exact ⟨_,rfl,vH (s:={s with heap:=h',toks:=s.toks+1}) e c d (by decide) ⟨sgn z.cps[i],H,I1,⟨_,rfl⟩,⟨rfl,_,by simp [hi],rfl⟩,st',λb hb=>(hf b hb).1⟩⟩
 done:=by
  intro X hP hw hK hc i pins s σ H E I hf st hg;subst hP hw hK;obtain ⟨f0,f1,f2,f3,f4,f5⟩:=hf it (by simp);have hi:z.cps.size<=i:=hg;rcases hT with rfl|rfl
  ·exact wpAny_pyNext_ascii_end (I.ok.hd hc) st (by simp [hi]) λh' eb=>⟨rfl,I.turned (t':=s.toks) (λb o hb e=>eb b o hb e) f0 f1 f3 f4 f5⟩
  ·exact wpAny_pyNext_wide_end (I.ok.hd hc) st (by simp [hi]) λh' eb=>⟨rfl,I.turned (t':=s.toks) (λb o hb e=>eb b o hb e) f0 f1 f3 f4 f5⟩
 self:=λ_ _ _ _ _ st h=>by
  rcases hT with rfl|rfl
  ·exact wpAny_pyIter_striter_ascii st h
  ·exact wpAny_pyIter_striter_wide st h
structure Yl (J:It) (P:Hp->Prop) (items:List V):Prop where
 go:∀i H,P H->i<items.length->J.go i H
 yld:∀i H x H',P H->i<items.length->J.yld i H x H'->H'=H/\items[i]?=some x
 stop:∀H,P H->J.stop items.length H
theorem jQ {K:Fg} {a:Addr} {xs:List V}:Yl (ZS K a) (λH=>aH K H a xs) xs where
 go:=λi H p h=>⟨xs,xs[i],p,by simp [h]⟩
 yld:=λi H x H' p _ h=>⟨h.1,h.2 xs p⟩
 stop:=λH p=>⟨xs,p,Nat.le_refl _⟩
theorem KY {K:Fg} {a:Addr} {xs:List V}:Yl (Hi K a) (λH=>bX K H a xs) xs where
 go:=λi H p h=>⟨xs,xs[i],p,by simp [h]⟩
 yld:=λi H x H' p _ h=>⟨h.1,h.2 xs p⟩
 stop:=λH p=>⟨xs,p,Nat.le_refl _⟩
def HX (lo:Int) (n:Nat):List V:=(range n).map λi=>.int (lo+(i:Nat))
theorem iT (lo:Int) (n:Nat):(HX lo n).length=n:=by unfold HX;rw[length_map,length_range]
theorem MJ {lo:Int} {n i:Nat} (h:(HX lo n)[i]?=some x):i<n/\x=.int (lo+(i:Nat)):=by
 unfold HX at h;rw[getElem?_map] at h;by_cases hi:i<n
 ·rw[getElem?_range hi] at h;exact ⟨hi,(Option.some.inj h).symm⟩
 ·rw[List.getElem?_eq_none_iff.mpr (by rw[length_range];lia)] at h;cases h
theorem ZX {lo:Int} {n:Nat}:Yl (KJ lo n) (λ_=>True) (HX lo n) where
 go:=λi H _ h=>by rw[iT] at h;exact h
 yld:=λi H x H' _ hi h=>⟨h.1,by
  have e:x=.int (lo+(i:Nat)):=h.2
  rw[iT] at hi
  rw[e]
  unfold HX
  rw[getElem?_map,getElem?_range hi]
  rfl⟩
 stop:=λH _=>by rw[iT];exact Nat.le_refl _
def kQ (z:Str):List V:=z.cps.toList.map sgn
theorem gC (z:Str):(kQ z).length=z.cps.size:=by unfold kQ;rw[length_map,length_toList]
theorem ZW:Yl (Nw z) (λ_=>True) (kQ z) where
 go:=λi H _ h=>by rw[gC] at h;exact h
 yld:=λi H x H' _ hi h=>by
  obtain ⟨e,c,h1,h2⟩:=h;refine ⟨e,?_⟩;unfold kQ;rw[getElem?_map,h2];have q:z.cps.toList[i]?=some c:=by simpa using h1
  rw[q];rfl
 stop:=λH _=>by rw[gC];exact Nat.le_refl _
theorem PQ {J:It} {P:Hp->Prop} {xs:List V} {g:TG} {tb:TS} {D:Ends} {σ:St} {H:Hp} (Y:Yl J P xs) (Pv:Nat->St->Hp->Prop) (h0:Pv 0 σ H) (hl:∀i σ H,i<=xs.length->Pv i σ H->P H)
  (hs:∀i x σ H,xs[i]?=some x->Pv i σ H->g x σ H λσ2 H2=>tb {D with nx:=Pv (i+1),ct:=Pv (i+1),bk:=D.nx} σ2 H2) (hd:∀σ H,Pv xs.length σ H->D.nx σ H):
  ∃W:Nat->Nat->St->Hp->Prop,(∃m,W 0 m σ H)/\∀i m σ H,W i m σ H->
   (J.stop i H/\D.nx σ H)\/(J.go i H/\∃N:St->Hp->Prop,(∀σ' H',N σ' H'->∃m',m'<m/\W (i+1) m' σ' H')/\∀x H',J.yld i H x H'->g x σ H' λσ2 H2=>tb {D with nx:=N,ct:=N,bk:=D.nx} σ2 H2):=by
 refine ⟨λi m σ H=>m=xs.length - i/\i<=xs.length/\Pv i σ H,⟨xs.length,by simp,zero_le _,h0⟩,?_⟩;rintro i m σ H ⟨rfl,hi,p⟩;have q:=hl i σ H hi p;by_cases hlt:i<xs.length
 ·refine .inr ⟨Y.go i H q hlt,Pv (i+1),λσ' H' p'=>⟨xs.length - (i+1),by lia,rfl,hlt,p'⟩,λx H' y=>?_⟩;obtain ⟨e,hx⟩:=Y.yld i H x H' q hlt y;subst e;exact hs i x σ H' hx p
 ·have e:i=xs.length:=by lia
  subst e;exact .inl ⟨Y.stop H q,hd σ H p⟩
theorem PR {J:It} {P:Hp->Prop} {xs:List V} {g:TG} {tb:TS} {D:Ends} {σ:St} {H:Hp} (Y:Yl J P xs) (hP:∀H',aB H H'->P H') (S:Nat->St->Prop) (h0:S 0 σ)
  (hs:∀i x σ1 H1,xs[i]?=some x->S i σ1->aB H H1->g x σ1 H1 λσ2 H2=>tb {D with nx:=λσ3 H3=>S (i+1) σ3/\aB H H3,ct:=λσ3 H3=>S (i+1) σ3/\aB H H3,bk:=D.nx} σ2 H2) (hd:∀σ1 H1,S xs.length σ1->aB H H1->D.nx σ1 H1):
  ∃W:Nat->Nat->St->Hp->Prop,(∃m,W 0 m σ H)/\∀i m σ H,W i m σ H->
   (J.stop i H/\D.nx σ H)\/(J.go i H/\∃N:St->Hp->Prop,(∀σ' H',N σ' H'->∃m',m'<m/\W (i+1) m' σ' H')/\∀x H',J.yld i H x H'->g x σ H' λσ2 H2=>tb {D with nx:=N,ct:=N,bk:=D.nx} σ2 H2):=
 PQ Y (λi σ1 H1=>S i σ1/\aB H H1) ⟨h0,aB.refl _⟩ (λ_ _ H1 _ p=>hP H1 p.2) (λi x σ1 H1 hx p=>hs i x σ1 H1 hx p.1 p.2) λσ1 H1 p=>hd σ1 H1 p.1 p.2
def BK (names:List (Str × NameKind)) (env:Env):List (Str × Addr):=((names.filter λx=>x.2==.free).filterMap λx=>(env.cells.lookup x.1).map λc=>(x.1,c)).reverse
theorem QW (h:(x,c)∈BK names env):env.cells.lookup x=some c:=by
 obtain ⟨y,hy,e⟩:=mem_filterMap.mp (List.mem_reverse.mp h);cases q:env.cells.lookup y.1 with
 |none=>rw[q] at e;cases e
 |some d=>
  rw[q] at e;have e':(y.1,d)=(x,c):=Option.some.inj e;cases e';exact q
theorem oS (h:(BK names env).lookup x=some c):env.cells.lookup x=some c:=QW (PySem.mem_of_lookup h)
theorem QX (h:names.lookup x=some .free) (e:env.cells.lookup x=some c):(BK names env).lookup x=some c:=by
 have hm:(x,c)∈BK names env:=List.mem_reverse.mpr (mem_filterMap.mpr ⟨(x,.free),mem_filter.mpr ⟨PySem.mem_of_lookup h,rfl⟩,by rw[e];rfl⟩);cases q:(BK names env).lookup x with
 |none=>
  have z:=List.lookup_eq_none_iff.mp q _ hm;simp at z
 |some d=>
  have z:=oS q;rw[e] at z;exact z.symm
theorem mF {env:Env}:∀{names:List (Str × NameKind)} {x:Str},env.scope.kind=.function->names.lookup x=some .free->env.kindOf x=some .cell->
  (names.map λ(n,k)=>if (k==NameKind.free&&env.scope.kind==.function&&env.kindOf n==some .cell) then (n,NameKind.cell) else (n,k)).lookup x=some .cell
 |[],_,_,h,_=>by simp at h
 | (n,k)::r,x,hk,h,hc=>by
  by_cases hx:x=n
  ·subst hx;rw[lookup_cons_self] at h;cases h;rw[map_cons];dsimp only;rw[if_pos (by rw[hk,hc];rfl)];exact lookup_cons_self
  ·have hb:(x==n)=false:=beq_eq_false_iff_ne.mpr hx;rw[lookup_cons,hb] at h;have ih:=mF (names:=r) hk h hc;rw[map_cons];dsimp only;by_cases c:(k==NameKind.free&&env.scope.kind==.function&&env.kindOf n==some .cell)=true
   ·rw[if_pos c,lookup_cons,hb];exact ih
   ·rw[if_neg c,lookup_cons,hb];exact ih
theorem gL {env:Env}:∀{names:List (Str × NameKind)} {x:Str} {k:NameKind},(names.map λ(n,k)=>if (k==NameKind.free&&env.scope.kind==.function&&env.kindOf n==some .cell) then (n,NameKind.cell) else (n,k)).lookup x=some k->
  names.lookup x=some k\/(k=.cell/\names.lookup x=some .free)
 |[],_,_,h=>by simp at h
 | (n,k')::r,x,k,h=>by
  rw[map_cons] at h;dsimp only at h;by_cases hx:x=n
  ·subst hx;rw[lookup_cons_self];by_cases c:(k'==NameKind.free&&env.scope.kind==.function&&env.kindOf x==some .cell)=true
   ·rw[if_pos c,lookup_cons_self] at h;cases h;have z:k'=.free:=by
     rw[and_eq_true,and_eq_true] at c;exact beq_iff_eq.mp c.1.1
    exact .inr ⟨rfl,by rw[z]⟩
   ·rw[if_neg c,lookup_cons_self] at h;exact .inl h
  ·have hb:(x==n)=false:=beq_eq_false_iff_ne.mpr hx;have h':(r.map λ(n,k)=>if (k==NameKind.free&&env.scope.kind==.function&&env.kindOf n==some .cell) then (n,NameKind.cell) else (n,k)).lookup x=some k:=by
    by_cases c:(k'==NameKind.free&&env.scope.kind==.function&&env.kindOf n==some .cell)=true
    ·rw[if_pos c,lookup_cons,hb] at h;exact h
    ·rw[if_neg c,lookup_cons,hb] at h;exact h
   rw[lookup_cons,hb];exact gL h'
theorem bG:∀(names:List (Str × NameKind)) (n:Nat) (acc:List (Str × Addr)),cellsFrom n names acc=cellsFrom n names []++acc
 |[],_,_=>rfl
 | (name,kind)::r,n,acc=>by
  unfold cellsFrom;split
  ·rw[bG r (n+1) ((name,n)::acc),bG r (n+1) [(name,n)],List.append_assoc];rfl
  ·exact bG r n acc
theorem fM:∀(names:List (Str × NameKind)) (n:Nat) {x:Str} {c:Addr},(x,c)∈cellsFrom n names []->(x,NameKind.cell)∈names
 |[],_,_,_,h=>nomatch h
 | (name,kind)::r,n,x,c,h=>by
  unfold cellsFrom at h;split at h
  ·rename_i hk;rw[bG] at h;rcases mem_append.mp h with h|h
   ·exact mem_cons_of_mem _ (fM r _ h)
   ·have e:=mem_singleton.mp h;have e1:x=name:=congrArg Prod.fst e;have e2:kind=NameKind.cell:=eq_of_beq hk;rw[e1,e2];exact mem_cons_self
  ·exact mem_cons_of_mem _ (fM r _ h)
def mU (sc:Scope) (C:Addr) (env:Env):List (Str × Addr):=cellsFrom (C+1) sc.names (BK sc.names env)
theorem jF (h:(mU sc C env).lookup x=some c):(x,c)∈cellsFrom (C+1) sc.names []\/env.cells.lookup x=some c:=by
 unfold mU at h;rw[bG,List.lookup_append] at h;cases q:(cellsFrom (C+1) sc.names []).lookup x with
 |some d=>
  rw[q] at h;have e:d=c:=Option.some.inj h;subst e;exact .inl (PySem.mem_of_lookup q)
 |none=>
  rw[q] at h;exact .inr (oS h)
theorem KC (hx:sc.names.lookup x=some .cell) (h:(mU sc C env).lookup x=some c):(x,c)∈cellsFrom (C+1) sc.names []:=by
 obtain ⟨d,q⟩:=sW (n:=C+1) hx;unfold mU at h;rw[bG,List.lookup_append,q] at h;have e:d=c:=Option.some.inj h;subst e;exact PySem.mem_of_lookup q
theorem tD (hown:∀y∈sc.names,y.2=.cell->sc.names.lookup y.1=some .cell) (hx:sc.names.lookup x=some .free) (e:env.cells.lookup x=some c):(mU sc C env).lookup x=some c:=by
 unfold mU;rw[bG,List.lookup_append];cases q:(cellsFrom (C+1) sc.names []).lookup x with
 |some d=>
  have z:=hown _ (fM _ _ (PySem.mem_of_lookup q)) rfl;have z':sc.names.lookup x=some .cell:=z;rw[hx] at z';cases z'
 |none=>exact QX hx e
theorem NF (h:Heap) (ob:Obj) (sc:Scope):CellsOk (pushCells (h.push ob) sc.names) (h.objs.size+1) (cellsFrom (h.objs.size+1) sc.names []):=by
 have ok:=cellsFrom_ok sc.names (h.push ob) (h.objs.size+1) [] ⟨λ_ _ hm=>(nomatch hm),Pairwise.nil⟩ (by rw[Heap.size_push];exact Nat.le_refl _);rwa [Heap.size_push] at ok
theorem vY {M:Model} {A:Around} {E:Value->Shared->Prop} {s:Shared} {scope:Scope} {globals:Addr} {closure:List (Str × Addr)} {qual:Str} {func:Option Addr} {code:Value} {outer:Env} {builtins:Addr} {Q:Env->Shared->Prop}
  (hQ:Q (newEnv scope s.heap.objs.size globals (cellsFrom (s.heap.objs.size+1) scope.names closure) qual func code (some outer) builtins) {s with heap:=pushCells (s.heap.push {cls:=.type "dict",data:=.dict #[]}) scope.names}):
  wpAny M A (newFunctionEnv scope globals closure [] qual func code (some outer) builtins) Q E s:=by
 simp only [newFunctionEnv,Option.isSome_some,if_true];refine wpAny_bind (wpAny_alloc ?_);refine wpAny_bind (wpAny_layCells _ (λname kind cells=>by cases hkc:kind==NameKind.cell<;>simp [hkc]) _ _ _ _ ?_);rw[show ({s with heap:=s.heap.push {cls:=.type "dict",data:=.dict #[]}}:Shared).heap.objs.size=s.heap.objs.size+1 from Heap.size_push ..];refine wpAny_bind ?_;rw[forIn_nil];exact wpAny_pure (wpAny_pure hQ)
def KG (X:Cx) (N:List Str) (sc:Scope) (C:Addr) (s₀:Shared) (H₀:Hp) (ex:List Addr):Cx:=
 {X with N:=N,s₀:=s₀,H₀:=H₀,env:=compEnvC sc (mU sc C X.env) C X.env,outer:=X.stack,ex:=ex,fn:=λx=>sc.names.lookup x==some .cell,pn:=[],xe:=λ_ _=>False}
inductive KQ (X:Cx) (sc:Scope):List Str->List Nat->Prop
 |nil:KQ X sc [] []
 |cons {x:Str} {i:Nat} {xs:List Str} {is:List Nat} (hN:X.N[i]?=some x) (hk:X.env.kindOf x=some .cell) (hf:sc.names.lookup x=some .free) (t:KQ X sc xs is):KQ X sc (x::xs) (i::is)
theorem KQ.length:∀{xs:List Str} {is:List Nat},KQ X sc xs is->xs.length=is.length
 |_,_,.nil=>rfl
 |_,_,.cons _ _ _ t=>by rw[length_cons,length_cons,KQ.length t]
theorem KQ.get {X:Cx} {sc:Scope}:∀{xs:List Str} {is:List Nat} {j:Nat} {x:Str},KQ X sc xs is->xs[j]?=some x->∃i,is[j]?=some i/\X.N[i]?=some x/\X.env.kindOf x=some .cell/\sc.names.lookup x=some .free
 |_,_,_,_,.nil,e=>by simp at e
 |_,_,0,_,.cons hN hk hf _,e=>by
  have e':=Option.some.inj e;subst e';exact ⟨_,rfl,hN,hk,hf⟩
 |_,_,j+1,x,.cons _ _ _ t,e=>by
  obtain ⟨i,h1,h2⟩:=KQ.get (j:=j) (x:=x) t (by simpa using e);exact ⟨i,by simpa using h1,h2⟩
def fN (is:List Nat) (σ:St):St:=is.map λi=>(σ[i]?).join
def JV (n:Nat) (is:List Nat) (σ:St):St:=replicate n none++fN is σ
theorem Un.but (u:Un fs ex H H1 h h1) (hs:SameBut C h1 h2) (hC:h.objs.size<=C):Un fs ex H H1 h h2:=by
 have ne:∀b o,h.get? b=some o->b≠C:=λb o e=>ne_of_lt (lt_of_lt_of_le (lt_size e) hC);refine ⟨λb o q n hb hx=>(hs.2 b (ne b o q)).trans (u.keep b o q n hb hx),λb o q n hb hx=>?_,u.free,λb o q hx=>?_,u.tups,u.frzs,u.tbls⟩
 ·obtain ⟨sl,e⟩:=u.slot b o q n hb hx;exact ⟨sl,(hs.2 b (ne b o q)).trans e⟩
 ·obtain ⟨o',e⟩:=u.there b o q hx;exact ⟨o',(hs.2 b (ne b o q)).trans e⟩
theorem dN.but (k:dN P w H h) (hs:SameBut C h h') (hn:H C=none):dN P w H h':=λb ob e=>by
 refine (k b ob e).stay (λc w' hc q=>(hs.2 c ?_).trans q) (λ_ q=>q) λ_ _ q=>q;rintro rfl;rcases hc with rfl|hc
 ·rw[hn] at e;cases e
 ·rw[hn] at hc;cases hc
section
variable {X:Cx} {pins:List (Addr × Obj)} {σ:St} {H:Hp} {s:Shared}
theorem Fw (I:Inv X pins σ H s) {N:List Str} {sc:Scope} {ex:List Addr} (hkind:sc.kind=.function) (hown:∀y∈sc.names,y.2=.cell->sc.names.lookup y.1=some .cell) (hfr:(sc.names.all λy=>y.2 != .free || X.env.kindOf y.1==some .cell)=true)
  (hex:∀b∈ex,oE X pins H b) (hob:∀b∈ex,∃o,s.heap.get? b=some o):(KG X N sc s.heap.objs.size s H ex).Ok:=by
 have oc:=NF s.heap {cls:=.type "dict",data:=.dict #[]} sc;have lo:∀{x c},(x,c)∈cellsFrom (s.heap.objs.size+1) sc.names []->s.heap.objs.size<c:=λhm=>(oc.empty _ _ hm).2;have hi:∀{x c},X.env.cells.lookup x=some c->c<s.heap.objs.size:=λe=>by
  obtain ⟨v,o,e',_⟩:=I.cell _ _ e;exact lt_size e'
 refine ⟨I.ok.mod,hkind,I.ok.glob,I.ok.blt,Nat.le_refl _,λx y c h1 h2=>?_,λx h=>?_,λx c hf h=>?_,I.ok.hd,I.ok.frames,.inl rfl,λb hb=>⟨?_,λx c h=>?_⟩,I.bs,Nat.le_trans I.ok.bsz I.sz,λb o e hb=>?_,λb hb hf=>?_,I.stack,I.stkFree⟩
 ·rcases jF h1 with h1|h1<;>rcases jF h2 with h2|h2
  ·exact PySem.name_of_addr oc.apart h1 h2
  ·exact absurd (hi h2) (Nat.lt_asymm (lo h1))
  ·exact absurd (hi h1) (Nat.lt_asymm (lo h2))
  ·exact I.ok.inj x y c h1 h2
 ·have fr:sc.names.lookup x=some .free->∃c,(mU sc s.heap.objs.size X.env).lookup x=some c:=λq=>by
   have z:=all_eq_true.mp hfr _ (PySem.mem_of_lookup q);have z':(X.env.kindOf x==some .cell)=true:=z;obtain ⟨c,e⟩:=I.ok.has x (.inl (beq_iff_eq.mp z'));exact ⟨c,tD hown q e⟩
  rcases h with h|h
  ·rcases gL (show (sc.names.map λ(n,k)=>if (k==NameKind.free&&X.env.scope.kind==.function&&X.env.kindOf n==some .cell) then (n,NameKind.cell) else (n,k)).lookup x=some .cell from h) with q|⟨_,q⟩
   ·exact isSome_iff_exists.mp (cellsFrom_some sc.names _ _ (.inl q))
   ·exact fr q
  ·rcases gL (show (sc.names.map λ(n,k)=>if (k==NameKind.free&&X.env.scope.kind==.function&&X.env.kindOf n==some .cell) then (n,NameKind.cell) else (n,k)).lookup x=some .free from h) with q|⟨q,_⟩
   ·exact fr q
   ·cases q
 ·have hx:sc.names.lookup x=some .cell:=eq_of_beq hf;exact le_of_lt (lo (KC hx h))
 ·obtain ⟨o,e⟩:=hob b hb;exact ne_of_lt (lt_size e)
 ·rcases jF h with h|h
  ·obtain ⟨o,e⟩:=hob b hb;exact ne_of_gt (lt_trans (lt_size e) (lo h))
  ·exact (hex b hb).2.2.2.2.1 x c h
 ·obtain ⟨_,_,_,q,_⟩:=hex b hb;rcases q with q|q
  ·exact I.ok.noex b o e q
  ·exact absurd (lt_of_lt_of_le (lt_size (I.ok.bs b o e).1) q) (lt_irrefl _)
 ·obtain ⟨_,n1,n2,_⟩:=hex b hb;rcases mem_cons.mp (I.stkSub b hf) with z|z
  ·exact n1 z
  ·exact n2 z
theorem KA (I:Inv X pins σ H s) (hkind:sc.kind=.function) (hown:∀y∈sc.names,y.2=.cell->sc.names.lookup y.1=some .cell) (hfr:(sc.names.all λy=>y.2 != .free || X.env.kindOf y.1==some .cell)=true)
  (hcap:KQ X sc caps is) (hex:∀b∈ex,oE X pins H b) (hob:∀b∈ex,∃o,s.heap.get? b=some o) (hn:h1.Ns s.heap.objs.size m0) (hk:∀b o,s.heap.get? b=some o->h1.get? b=some o) (oc:CellsOk h1 (s.heap.objs.size+1) (cellsFrom (s.heap.objs.size+1) sc.names [])):
  Inv (KG X (own++caps) sc s.heap.objs.size s H ex) [] (JV own.length is σ) H {s with heap:=h1,toks:=tk}:=by
 refine ⟨Fw I hkind hown hfr hex hob,rfl,I.bare,Un.kept hk,⟨m0,hn,λi x v e1 e2 _=>?_⟩,λx c h=>?_,I.hok.fresh (Nat.le_refl _),λx c h=>(jF h).elim (λh=>I.hok.fresh (le_of_lt (oc.empty _ _ h).2)) λh=>I.freeC x c h,λp hp=>absurd (show p∈([]:List (Addr × Obj)) from hp) (by simp),I.hok.kept hk,?_⟩
 ·have e1':(own++caps)[i]?=some x:=e1;by_cases hi:i<own.length
  ·unfold JV at e2;rw[getElem?_append_left (by rw[length_replicate];exact hi),List.getElem?_replicate,if_pos hi] at e2;cases e2
  ·rw[getElem?_append_right (by lia)] at e1';unfold JV at e2;rw[getElem?_append_right (by rw[length_replicate];lia),length_replicate] at e2;obtain ⟨i',q1,q2,q3,q4⟩:=hcap.get e1';unfold fN at e2;rw[getElem?_map,q1] at e2;have e2':(σ[i']?).join=some v:=Option.some.inj e2;have e3:σ[i']?=some (some v):=by
    cases z:σ[i']? with
    |none=>rw[z] at e2';cases e2'
    |some w=>
     rw[z] at e2';have e4:w=some v:=e2';rw[e4]
   obtain ⟨m,_,hl⟩:=I.loc;obtain ⟨u,r,l⟩:=hl i' x v q2 e3 (.inr (.inl q3));refine ⟨u,r,?_⟩;rcases l with ⟨z,_⟩|⟨_,c,z1,o,z2,z3⟩
   ·rw[q3] at z;cases z
   ·refine .inr ⟨.inl ?_,c,tD hown q4 z1,o,hk _ _ z2,z3⟩;exact mF I.ok.kind q4 q3
 ·rcases jF h with h|h
  ·exact ⟨none,(oc.empty _ _ h).1⟩
  ·obtain ⟨v,o,e,d⟩:=I.cell x c h;exact ⟨v,o,hk _ _ e,d⟩
 ·show (JV own.length is σ).length=(own++caps).length;unfold JV fN;rw[length_append,length_append,length_replicate,length_map,hcap.length]
end
section
variable {X:Cx}
def Ph:V->Option Int->Option Int->Hp->VK->Prop:=λx lo hi H Q=>∃z,x=.str z/\z.length<=sizeLine/\Q (.str (Txt.slice z lo hi)) H
theorem Ar:Nn X Ph:=by
 intro pins s σ H x v vl vu lo hi sl Q I rx hs pl pu h;obtain ⟨z,rfl,hz,q⟩:=h;obtain ⟨t,rfl⟩:=rx;have fin:∀lo hi:Option Int,Q (.str (Txt.slice z lo hi)) H->(Txt.slice z lo hi).length<=sizeLine/\∀t' k,EP X pins σ Q (.str (Txt.slice z lo hi) t') {s with toks:=k}:=λlo hi q=>
  ⟨Nat.le_trans (Txt.slice_le z _ _) hz,λt' k=>⟨.str _,H,I.tok k,⟨t',rfl⟩,q⟩⟩
 refine ⟨"str",_,F.slot_str_getitem.lookup,typeIs_str _ _ _,?_⟩;cases pl with
 |none=>
  cases pu with
  |none=>exact wpAny_getItem_str_slice (l:=none) (u:=none) (st:=none) hs rfl (post_val_or_str (fin none none q))
  |int j t2=>exact wpAny_getItem_str_slice (l:=none) (u:=some (j,t2)) (st:=none) hs rfl (post_val_or_str (fin none (some j) q))
 |int i t1=>
  cases pu with
  |none=>exact wpAny_getItem_str_slice (l:=some (i,t1)) (u:=none) (st:=none) hs rfl (post_val_or_str (fin (some i) none q))
  |int j t2=>exact wpAny_getItem_str_slice (l:=some (i,t1)) (u:=some (j,t2)) (st:=none) hs rfl (post_val_or_str (fin (some i) (some j) q))
theorem iR (h0:0<=j):(Txt.slice z none (some j)).cps.toList=z.cps.toList.take j.toNat:=by
 have hl:z.cps.toList.length=z.length:=by simp [Str.length]
 by_cases h:j<=z.length
 ·have e:=beq_iff_eq.mp (slice_closes_to (x:=z) (j:=j) ⟨h0,by rw[hl];exact h⟩);rw[e];simp
 ·have e:=beq_iff_eq.mp (slice_closes_to (x:=z) (j:=(z.length:Int)) ⟨by lia,by rw[hl];exact Int.le_refl _⟩);rw[slice_to_beyond (by lia),e];show List.take ((z.length:Int) - 0).toNat (z.cps.toList.drop 0)=_;rw[drop_zero,take_of_length_le (by lia),take_of_length_le (by lia)]
theorem jT (z:Str) (lo hi:Option Int):(Txt.slice z lo hi).length<=z.length:=Txt.slice_le z lo hi
def Pm (K:Fg):List V->Hp->VK->Prop:=λxs H Q=>∃x n t b,xs=[x,.ty n]/\cE K H x t/\kitOne K t (.type n)=some b/\Q (.bl b) H
theorem RB:bN X (.builtin "isinstance") (Pm X.K):=by
 intro pins s σ H xs us Q I rv h;obtain ⟨x,n,t,b,rfl,ty,k,q⟩:=h;obtain ⟨u,w',rfl,rx,ry⟩:=rv.two;cases (show w'=Value.type n from ry);exact vC I rx ty k λtk=>⟨.bl b,H,I.tok tk,rfl,q⟩
theorem CI (h:∀i v,P i v->v=.bool (tr i)):TruthOf prog w A P tr:=by
 intro i v s Q E hP hQ;rw[h i v hP];exact wpAny_pure hQ
def Bq (K:Fg):List V->Hp->VK->Prop:=λxs H Q=>∃(p:Addr) (bs:List Bool),xs=[.ref p]/\H p=some (.lst (bs.map V.bl))/\Q (.bl (bs.all id)) H
theorem RC (hc:X.calm=true):bN X (.builtin "all") (Bq X.K):=by
 intro pins s σ H xs us Q I rv h;obtain ⟨p,bs,rfl,hp,q⟩:=h;obtain ⟨u,rfl,ru⟩:=rv.one;cases (show u=Value.ref p from ru);obtain ⟨z,its,n,r,hl,e⟩:=I.lstM hp;have hlt:p<s.heap.objs.size:=lt_size e;have isl:s.heap.IsList p its.toArray:=⟨_,e,rfl,n,rfl⟩;refine call_all_walk ?_;refine wpAny_pyIter_list isl ?_;have hitm:∀(i:Nat) (v:Value),its.toArray[i]?=some v->v=Value.bool (bs.getD i true):=λi v hv=>by
  have hv':its[i]?=some v:=by simpa using hv
  have hi:i<its.length:=(List.getElem?_eq_some_iff.mp hv').1;have hib:i<bs.length:=by rw[length_map] at hl;lia
  have hb:(bs.map V.bl)[i]?=some (V.bl bs[i]):=by rw[getElem?_map,getElem?_eq_getElem hib];rfl
  obtain ⟨u',h1,h2⟩:=r.get hb;rw[hv'] at h1;cases h1;rw[List.getD_eq_getElem?_getD,getElem?_eq_getElem hib];exact h2
 refine ⟨s.heap.objs.size,_,_,_,_,_,λi=>bs.getD i true,rfl,Walks.list (A:=X.A.in1) (I.ok.hd hc) _ p (ne_of_lt hlt) its.toArray,⟨⟨_,get?_push_size _ rfl,rfl,rfl⟩,isl.at λo e=>get?_push_of_some _ e⟩,CI hitm,λh' tk hk=>?_⟩;have I1:Inv X pins σ H {s with heap:=h',toks:=tk}:=by
  have I0:Inv X pins σ H {s with heap:=s.heap.push {cls:=.type "list_iterator",data:=.fields #[.ref p,.int 0 0]}}:=I.kept (t':=s.toks) λb o e=>get?_push_of_some _ e;obtain ⟨f0,f1,f2,f3,f4,f5⟩:=I.fpOk (H':=H) (Nat.le_refl _) (I.hok.fresh (Nat.le_refl _));exact I0.turned (t':=tk) (λb o hb e=>hk b o (by simpa using hb) e) f0 f1 f3 f4 f5
 refine ⟨.bl _,H,I1,rfl,?_⟩;have ea:(range its.toArray.size).all (λi=>bs.getD i true)=bs.all id:=by
  rw[size_toArray,<-hl,length_map];rw[Bool.eq_iff_iff,all_eq_true,all_eq_true];constructor
  ·intro h b hb;obtain ⟨i,hi,rfl⟩:=List.mem_iff_getElem.mp hb;have q:=h i (mem_range.mpr hi);rw[List.getD_eq_getElem?_getD,getElem?_eq_getElem hi] at q;exact q
  ·intro h i hi;have hi:=mem_range.mp hi;rw[List.getD_eq_getElem?_getD,getElem?_eq_getElem hi];exact h _ (getElem_mem hi)
 rw[ea];exact q
end
def QR:Const->Option V
 | .none=>some .non
 | .bool b=>some (.bl b)
 | .int i=>some (.int i)
 | .str x=>some (.str x)
 |_=>none
theorem IH (h:QR c=some v):PE X (.Constant c j pos) (tC v):=by
 cases c with
 |none=>cases h;exact Ci
 |bool b=>cases h;exact Jz
 |int i=>cases h;exact Ck
 |str x=>cases h;exact Cf
 |_=>cases h
theorem aC (h:H p=none) (o:HO):aB H (upd H p o):=λb u q=>by rw[aE (aD q h)];exact q
theorem BO (I:Inv X pins σ H s):sysModules<s.heap.objs.size:=by
 have h:mainGlobals<s.heap.objs.size:=(I.mod.glob.keeps I.bk).lt;exact lt_trans (by decide) h
def YB:TE:=λ_ H Q=>∀p,H p=none->Q (.ref p) (upd H p (.dK []))
theorem UO:PE X (.Dict [] [] pos) YB:=λpins s σ H Q I h=>
 wpAny_Dict_empty ⟨.ref s.heap.objs.size,_,I.laid (a:=s.heap.objs.size) (o:=.dK []) (t':=s.toks) (λ_ _ q=>get?_push_of_some _ q) (Nat.le_refl _)
  ⟨zero_le _,beq_eq_false_iff_ne.mpr (Ne.symm (ne_of_lt (BO I))),[],.nil,DictOf.new _⟩,rfl,h _ (I.hok.fresh (Nat.le_refl _))⟩
end L2.L3
namespace ZD
open PySem PySem.Spec PyProof.Rows
section
variable {prog:Program} {w:World} {A:Around} {E:Value->Shared->Prop} {s:Shared}
theorem alive {α:Type} {M:Model} {a:Addr} {o:Obj} {k:Option Obj->Sem α} {Q:α->Shared->Prop} (ho:s.heap.get? a=some o) (h:wpAny M A (k (some o)) Q E s):wpAny M A (.loadIfAlive a k) Q E s:=λΓ p hi=>by
 rw[Sem.wp_loadIfAlive,ho];exact h Γ p hi
theorem NO (hit:s.heap.IsTupleIter it t i) (ht:s.heap.IsTuple t items) (hx:items[i]?=some x)
  (hQ:∀h',h'.IsTupleIter it t (i+1)->SameBut it s.heap h'->Q x {s with heap:=h'}):wpAny (model prog w) A (Builtin.SmallTypes.nextOf (.ref it)) Q E s:=by
 obtain ⟨oi,hoi,hci,hdi⟩:=id hit;obtain ⟨ot,hot,_,nt,hdt⟩:=ht;unfold Builtin.SmallTypes.nextOf;refine wpAny_bind (wpAny_callSpecial?_slot (name:=ofString "__next__") hit.typeIs F.slot_tuple_iterator_next
  (wpAny_call_entry F.slot_tuple_iterator_next hit.typeIs F.entry_tuple_iterator_next ?_ (F.args_tuple_iterator_next_1 _)))
 show wpAny _ _ (field (.ref it) 0 >>=_) _ _ s;refine wpAny_bind (wpAny_field hoi hdi (x:=.ref t) rfl ?_);show wpAny _ _ (if (Value.ref t==Value.none)=true then _ else _) _ _ s;rw[if_neg (show ¬((Value.ref t==Value.none)=true) from Bool.false_ne_true)];show wpAny _ _ (field (.ref it) 1 >>=_) _ _ s;refine wpAny_bind (wpAny_field hoi hdi (x:=.int i 0) rfl ?_);show wpAny _ _ (seqItems? (.ref t) >>=_) _ _ s;refine wpAny_bind (wpAny_seqItems hot hdt ?_);simp only [toNat_natCast,hx];refine wpAny_bind (wpAny_setField hoi hdi (by simp) (wpAny_pure ⟨x,rfl,wpAny_pure (hQ _ ?_ (SameBut.update ..))⟩));exact ⟨_,get?_update_self _ hoi (Obj.isFreed_of_fields (Obj.data_mapFields hdi _)),(Obj.cls_mapFields ..).trans hci,by
  rw[Obj.data_mapFields hdi];simp [rawInt]⟩
structure dB (h:Heap) (it:Addr) (x:Str) (t:Tok) (i:Nat):Prop where
 ex:∃T:String,(T="str_ascii_iterator"\/T="str_iterator")/\h.IsStrIter it T x t i
theorem dB.at' {h h':Heap} {it:Addr} {x:Str} {t:Tok} {i:Nat} (z:dB h it x t i) (k:∀o,h.get? it=some o->h'.get? it=some o):dB h' it x t i:=by
 obtain ⟨T,hT,o,e,r⟩:=z.ex;exact ⟨T,hT,o,k o e,r⟩
theorem dB.lt {h:Heap} {it:Addr} {x:Str} {t:Tok} {i:Nat} (z:dB h it x t i):it<h.objs.size:=by
 obtain ⟨T,hT,o,e,r⟩:=z.ex;exact lt_size e
theorem FJ {it:Addr} {x:Str} {t:Tok} {i c:Nat} {Q:Value->Shared->Prop} (hit:dB s.heap it x t i) (hx:x.cps[i]?=some c)
  (hQ:∀h' u tk,dB h' it x t (i+1)->SameBut it s.heap h'->Q (.str ⟨#[c]⟩ u) {s with heap:=h',toks:=tk}):wpAny (model prog w) A (Builtin.SmallTypes.nextOf (.ref it)) Q E s:=by
 obtain ⟨T,hT,z⟩:=hit.ex;rcases hT with rfl|rfl
 ·exact wpAny_nextOf_ascii_item z hx λh' z' sb=>hQ h' _ _ ⟨_,.inl rfl,z'⟩ sb
 ·exact wpAny_nextOf_wide_item z hx λh' z' sb=>hQ h' _ _ ⟨_,.inr rfl,z'⟩ sb
theorem oM {it:Addr} {x:Str} {t:Tok} {i:Nat} {Q:Value->Shared->Prop} (hh:A.handled=none) (hit:dB s.heap it x t i) (hx:x.cps[i]?=none)
  (hE:∀h' e,ExtBut it s.heap h'->(∃o,h'.get? e=some o/\o.cls=.type "StopIteration")->E (.ref e) {s with heap:=h'}):wpAny (model prog w) A (Builtin.SmallTypes.nextOf (.ref it)) Q E s:=by
 obtain ⟨T,hT,z⟩:=hit.ex;rcases hT with rfl|rfl
 ·exact wpAny_nextOf_ascii_end hh z hx hE
 ·exact wpAny_nextOf_wide_end hh z hx hE
def SK (h:Heap) (i2 t:Addr) (items:Array Value) (k:Nat):Prop:=(h.IsTupleIter i2 t k/\h.IsTuple t items)\/(h.IsListIter i2 t k/\h.IsList t items)
theorem SK.at {h h':Heap} {i2 t:Addr} {items:Array Value} {k:Nat} (z:SK h i2 t items k) (k1:∀o,h.get? i2=some o->h'.get? i2=some o) (k2:∀o,h.get? t=some o->h'.get? t=some o):SK h' i2 t items k:=by
 rcases z with ⟨a,o,e,r⟩|⟨a,o,e,r⟩
 ·exact .inl ⟨a.at k1,o,k2 _ e,r⟩
 ·exact .inr ⟨a.at k1,o,k2 _ e,r⟩
theorem SK.lt {h:Heap} {i2 t:Addr} {items:Array Value} {k:Nat} (z:SK h i2 t items k):i2<h.objs.size:=by
 rcases z with ⟨⟨o,e,_⟩,_⟩|⟨⟨o,e,_⟩,_⟩
 ·exact lt_size e
 ·exact lt_size e
theorem SK.ltT (z:SK h i2 t items k):t<h.objs.size:=by
 rcases z with ⟨_,o,e,_⟩|⟨_,o,e,_⟩
 ·exact lt_size e
 ·exact lt_size e
theorem AJ {i2 t:Addr} {k:Nat} {items:Array Value} {x:Value} {Q:Value->Shared->Prop} (z:SK s.heap i2 t items k) (ht:t≠i2) (hx:items[k]?=some x)
  (hQ:∀h',SK h' i2 t items (k+1)->SameBut i2 s.heap h'->Q x {s with heap:=h'}):wpAny (model prog w) A (Builtin.SmallTypes.nextOf (.ref i2)) Q E s:=by
 rcases z with ⟨a,b⟩|⟨a,b⟩
 ·exact NO a b hx λh' j sb=>hQ h' (.inl ⟨j,let ⟨o,e,r⟩:=b;⟨o,sb.extBut _ _ ht e,r⟩⟩) sb
 ·exact wpAny_nextOf_list_item a b hx λh' j sb=>hQ h' (.inr ⟨j,let ⟨o,e,r⟩:=b;⟨o,sb.extBut _ _ ht e,r⟩⟩) sb
def uC (f0 f1:Value) (TI TO:Addr):Obj:={cls:=.type "zip",dict:=none,data:=.fields #[f0,f1,.bool false,.ref TI,.ref TO],slots:=#[]}
structure Apart (z TI TO i1 i2 t:Addr):Prop where
 TIz:TI≠z
 TOz:TO≠z
 i1z:i1≠z
 i2z:i2≠z
 TITO:TI≠TO
 TIi1:TI≠i1
 TIi2:TI≠i2
 TOi1:TO≠i1
 TOi2:TO≠i2
 i12:i1≠i2
 tz:t≠z
 tTO:t≠TO
 ti1:t≠i1
 ti2:t≠i2
structure BZ (h:Heap) (z TI TO i1 i2 t:Addr) (x:Str) (tk:Tok) (items:Array Value) (k:Nat):Prop where
 zip:∃f0 f1,h.get? z=some (uC f0 f1 TI TO)/\(f0=.none\/∃a o,f0=rawInt (a:Nat)/\h.get? a=some o/\a≠z/\a≠TO/\a≠i1/\a≠i2)
 pTI:IsPair h TI (.ref i1) (.ref i2)
 pTO:∃a b,IsPair h TO a b
 s1:dB h i1 x tk k
 s2:SK h i2 t items k
theorem BZ.keep (y:BZ h z TI TO i1 i2 t x tk items k) (kp:∀b o,h.get? b=some o->h'.get? b=some o):BZ h' z TI TO i1 i2 t x tk items k:=by
 obtain ⟨⟨f0,f1,e,r⟩,p1,⟨a,b,p2⟩,s1,s2⟩:=y;refine ⟨⟨f0,f1,kp _ _ e,?_⟩,kp _ _ p1,⟨a,b,kp _ _ p2⟩,s1.at' λo=>kp _ o,s2.at (λo=>kp _ o) λo=>kp _ o⟩;rcases r with r|⟨a,o,r1,r2,r3⟩
 ·exact .inl r
 ·exact .inr ⟨a,o,r1,kp _ _ r2,r3⟩
theorem KW {z TI TO i1 i2 t:Addr} {x:Str} {tk:Tok} {items:Array Value} {k c:Nat} {y:Value} {Q:Value->Shared->Prop} (D:Apart z TI TO i1 i2 t) (S:BZ s.heap z TI TO i1 i2 t x tk items k) (hx:x.cps[k]?=some c) (hy:items[k]?=some y)
  (hQ:∀h' T u tk',BZ h' z TI TO i1 i2 t x tk items (k+1)->IsPair h' T (.str ⟨#[c]⟩ u) y->s.heap.objs.size<=T->(∀b o,b≠z->b≠TO->b≠i1->b≠i2->s.heap.get? b=some o->h'.get? b=some o)->Q (.ref T) {s with heap:=h',toks:=tk'}):
  wpAny (model prog w) A (Builtin.«zip.__next__» ⟨[.ref z],[]⟩) (λfin s'=>∃v,fin=.done (.ret v)/\Q v s') E s:=by
 obtain ⟨⟨f0,f1,hz,hf⟩,hTI,⟨a,b,hTO⟩,h1,h2⟩:=S;show wpAny _ _ (field (.ref z) 2 >>=_) _ _ _;refine wpAny_bind (wpAny_field hz rfl (x:=.bool false) rfl ?_);show wpAny _ _ (field (.ref z) 3 >>=_) _ _ _;refine wpAny_bind (wpAny_field hz rfl (x:=.ref TI) rfl ?_);refine wpAny_bind (wpAny_seqItems hTI rfl ?_);show wpAny _ _ (Builtin.SmallTypes.ownedTupleIsFree (.ref z) >>=_) _ _ _;refine wpAny_bind ?_;unfold Builtin.SmallTypes.ownedTupleIsFree;rcases hf with rfl|⟨q,oq,rfl,hq,q1,q2,q3,q4⟩
 ·refine wpAny_bind (wpAny_field hz rfl (x:=.none) rfl (wpAny_pure ?_));simp only [if_true];refine wpAny_bind (wpAny_rule ?_);refine wpAny_bind (wpAny_field hz rfl (x:=.ref TO) rfl ?_);refine wpAny_bind (wpAny_setField_rec hz (by simp) λg1 z1 b1=>?_);replace z1:g1.get? z=some (uC .ellipsis f1 TI TO):=z1;refine wpAny_bind ?_;simp only [List.zipIdx_cons,List.zipIdx_nil,forIn_cons,forIn_nil];refine wpAny_bind (wpAny_bind (wpAny_onRaise ?_));show wpAny _ _ (Builtin.SmallTypes.nextOf (.ref i1) >>=_) _ _ _;refine wpAny_bind (FJ (h1.at' λo e=>b1.extBut _ _ D.i1z e) hx λg2 u tk2 i2' b2=>wpAny_pure ?_);have o2:IsPair g2 TO a b:=b2.extBut _ _ D.TOi1 (b1.extBut _ _ D.TOz hTO);refine wpAny_bind (wpAny_seqItems o2 rfl ?_);refine wpAny_bind (wpAny_updateSeq_pair o2 λg3 o3 b3=>?_);replace o3:IsPair g3 TO (.str ⟨#[c]⟩ u) b:=o3;refine wpAny_bind (wpAny_letGo (wpAny_pure ?_));refine wpAny_bind (wpAny_bind (wpAny_onRaise ?_));show wpAny _ _ (Builtin.SmallTypes.nextOf (.ref i2) >>=_) _ _ _;have up3:∀c o,c≠z->c≠TO->c≠i1->s.heap.get? c=some o->g3.get? c=some o:=λc o c1 c2 c3 e=>b3.extBut _ _ c2 (b2.extBut _ _ c3 (b1.extBut _ _ c1 e));refine wpAny_bind (AJ (h2.at (λo e=>up3 _ _ D.i2z D.TOi2.symm D.i12.symm e) λo e=>up3 _ _ D.tz D.tTO D.ti1 e) D.ti2 hy λg4 j4 b4=>wpAny_pure ?_);have o4:IsPair g4 TO (.str ⟨#[c]⟩ u) b:=b4.extBut _ _ D.TOi2 o3;refine wpAny_bind (wpAny_seqItems o4 rfl ?_);refine wpAny_bind (wpAny_updateSeq_pair o4 λg5 o5 b5=>?_);replace o5:IsPair g5 TO (.str ⟨#[c]⟩ u) y:=o5;refine wpAny_bind (wpAny_letGo (wpAny_pure (wpAny_pure ?_)));refine wpAny_bind (wpAny_seqItems o5 rfl ?_);refine wpAny_bind (wpAny_newTuple ?_);have sz:g5.objs.size=s.heap.objs.size:=by rw[b5.1,b4.1,b3.1,b2.1,b1.1]
  have z5:g5.get? z=some (uC .ellipsis f1 TI TO):=b5.extBut _ _ D.TOz.symm (b4.extBut _ _ D.i2z.symm (b3.extBut _ _ D.TOz.symm (b2.extBut _ _ D.i1z.symm z1)));have up5:∀c o,c≠z->c≠TO->c≠i1->c≠i2->s.heap.get? c=some o->g5.get? c=some o:=λc o c1 c2 c3 c4 e=>b5.extBut _ _ c2 (b4.extBut _ _ c4 (up3 c o c1 c2 c3 e));have s5:dB g5 i1 x tk (k+1):=i2'.at' λo e=>b5.extBut _ _ D.TOi1.symm (b4.extBut _ _ D.i12 (b3.extBut _ _ D.TOi1.symm e));have j5:SK g5 i2 t items (k+1):=j4.at (λo e=>b5.extBut _ _ D.TOi2.symm e) λo e=>b5.extBut _ _ D.tTO e;show wpAny _ _ (Builtin.SmallTypes.ownedTupleHandOut (.ref z) (.ref g5.objs.size) >>=_) _ _ _;refine wpAny_bind ?_;unfold Builtin.SmallTypes.ownedTupleHandOut;have z6:(g5.push {cls:=.type "tuple",data:=.seq #[.str ⟨#[c]⟩ u,y]}).get? z=some (uC .ellipsis f1 TI TO):=get?_push_of_some _ z5;refine wpAny_bind (wpAny_setField_rec z6 (by simp) λg7 z7 b7=>?_);replace z7:g7.get? z=some (uC (rawInt g5.objs.size) f1 TI TO):=z7;refine wpAny_setField_rec z7 (by simp) λg8 z8 b8=>?_;replace z8:g8.get? z=some (uC (rawInt g5.objs.size) (.bool false) TI TO):=z8;have up:∀c o,c≠z->g5.get? c=some o->g8.get? c=some o:=λc o c1 e=>b8.extBut _ _ c1 (b7.extBut _ _ c1 (get?_push_of_some _ e));have zlt:z<g5.objs.size:=lt_size z5;have T8:IsPair g8 g5.objs.size (.str ⟨#[c]⟩ u) y:=b8.extBut _ _ (ne_of_gt zlt) (b7.extBut _ _ (ne_of_gt zlt) (get?_push_size _ rfl));refine wpAny_pure ⟨_,rfl,?_⟩;refine hQ g8 g5.objs.size u tk2 ⟨⟨_,_,z8,.inr ⟨g5.objs.size,_,rfl,T8,ne_of_gt zlt,ne_of_gt (lt_size o5),ne_of_gt s5.lt,?_⟩⟩,up _ _ D.TIz (up5 _ _ D.TIz D.TITO D.TIi1 D.TIi2 hTI),⟨_,_,up _ _ D.TOz o5⟩,s5.at' λo e=>up _ _ D.i1z e,j5.at (λo e=>up _ _ D.i2z e) λo e=>up _ _ D.tz e⟩ T8 (le_of_eq sz.symm) λc o c1 c2 c3 c4 e=>up c o c1 (up5 c o c1 c2 c3 c4 e);exact ne_of_gt j5.lt
 ·refine wpAny_bind (wpAny_field hz rfl (x:=rawInt (q:Nat)) rfl ?_);show wpAny _ _ (loadIfAlive ((q:Int)).toNat >>=_) _ _ _;refine wpAny_bind ?_;unfold loadIfAlive;refine alive (o:=oq) (by simpa using hq) (wpAny_pure ?_);simp only [Option.isNone_some,false_eq_true,if_false];refine wpAny_bind (wpAny_field hz rfl (x:=f1) rfl ?_);refine wpAny_mono (Q:=λr s'=>r=false/\∃g1 f1',s'={s with heap:=g1}/\g1.get? z=some (uC (rawInt (q:Nat)) f1' TI TO)/\SameBut z s.heap g1) ?_ (λr s' hr=>?_) (λ_ _ e=>e)
  ·by_cases hb:(f1 != Value.bool true)=true
   ·rw[if_pos hb];exact wpAny_bind (wpAny_setField_rec hz (by simp) λg1 z1 b1=>wpAny_pure ⟨rfl,g1,.bool true,rfl,z1,b1⟩)
   ·rw[if_neg hb];exact wpAny_pure ⟨rfl,s.heap,f1,rfl,hz,.refl ..⟩
  obtain ⟨rfl,g1,f1',rfl,z1,b1⟩:=hr;simp only [false_eq_true,if_false];refine wpAny_bind ?_;simp only [List.forIn_toArray,forIn_cons,forIn_nil];refine wpAny_bind (wpAny_bind (wpAny_holding ?_));show wpAny _ _ (Builtin.SmallTypes.nextOf (.ref i1) >>=_) _ _ _;refine wpAny_bind (FJ (h1.at' λo e=>b1.extBut _ _ D.i1z e) hx λg2 u tk2 i2' b2=>wpAny_pure ?_);refine wpAny_pure ?_;refine wpAny_bind (wpAny_bind (wpAny_holding ?_));show wpAny _ _ (Builtin.SmallTypes.nextOf (.ref i2) >>=_) _ _ _;have up2:∀c o,c≠z->c≠i1->s.heap.get? c=some o->g2.get? c=some o:=λc o c1 c3 e=>b2.extBut _ _ c3 (b1.extBut _ _ c1 e);refine wpAny_bind (AJ (h2.at (λo e=>up2 _ _ D.i2z D.i12.symm e) λo e=>up2 _ _ D.tz D.ti1 e) D.ti2 hy λg4 j4 b4=>wpAny_pure ?_);refine wpAny_pure (wpAny_pure ?_);refine wpAny_bind (wpAny_newTuple (hsz:=by show 2<=sizeLine;decide) ?_);have up4:∀c o,c≠z->c≠i1->c≠i2->s.heap.get? c=some o->g4.get? c=some o:=λc o c1 c3 c4 e=>b4.extBut _ _ c4 (up2 c o c1 c3 e);have sz:g4.objs.size=s.heap.objs.size:=by rw[b4.1,b2.1,b1.1]
  have z4:g4.get? z=some (uC (rawInt (q:Nat)) f1' TI TO):=b4.extBut _ _ D.i2z.symm (b2.extBut _ _ D.i1z.symm z1);refine wpAny_pure ⟨_,rfl,?_⟩;refine hQ _ g4.objs.size u tk2 ⟨⟨_,_,get?_push_of_some _ z4,.inr ⟨q,oq,rfl,get?_push_of_some _ (up4 _ _ q1 q3 q4 hq),q1,q2,q3,q4⟩⟩,get?_push_of_some _ (up4 _ _ D.TIz D.TIi1 D.TIi2 hTI),⟨_,_,get?_push_of_some _ (up4 _ _ D.TOz D.TOi1 D.TOi2 hTO)⟩,
   i2'.at' λo e=>get?_push_of_some _ (b4.extBut _ _ D.i12 e),j4.at (λo e=>get?_push_of_some _ e) λo e=>get?_push_of_some _ e⟩ (get?_push_size _ rfl) (le_of_eq sz.symm) λc o c1 c2 c3 c4 e=>get?_push_of_some _ (up4 c o c1 c3 c4 e)
theorem SV {z TI TO i1 i2 t:Addr} {x:Str} {tk:Tok} {items:Array Value} {k:Nat} {Q:Fin->Shared->Prop} (hh:A.handled=none) (D:Apart z TI TO i1 i2 t) (S:BZ s.heap z TI TO i1 i2 t x tk items k) (hx:x.cps[k]?=none)
  (hE:∀h' e,(∀b o,b≠z->b≠TO->b≠i1->b≠i2->s.heap.get? b=some o->h'.get? b=some o)->(∃o,h'.get? e=some o/\o.cls=.type "StopIteration")->E (.ref e) {s with heap:=h'}):
  wpAny (model prog w) A (Builtin.«zip.__next__» ⟨[.ref z],[]⟩) Q E s:=by
 obtain ⟨⟨f0,f1,hz,hf⟩,hTI,⟨a,b,hTO⟩,h1,h2⟩:=S;show wpAny _ _ (field (.ref z) 2 >>=_) _ _ _;refine wpAny_bind (wpAny_field hz rfl (x:=.bool false) rfl ?_);show wpAny _ _ (field (.ref z) 3 >>=_) _ _ _;refine wpAny_bind (wpAny_field hz rfl (x:=.ref TI) rfl ?_);refine wpAny_bind (wpAny_seqItems hTI rfl ?_);show wpAny _ _ (Builtin.SmallTypes.ownedTupleIsFree (.ref z) >>=_) _ _ _;refine wpAny_bind ?_;unfold Builtin.SmallTypes.ownedTupleIsFree;rcases hf with rfl|⟨q,oq,rfl,hq,q1,q2,q3,q4⟩
 ·refine wpAny_bind (wpAny_field hz rfl (x:=.none) rfl (wpAny_pure ?_));simp only [if_true];refine wpAny_bind (wpAny_rule ?_);refine wpAny_bind (wpAny_field hz rfl (x:=.ref TO) rfl ?_);refine wpAny_bind (wpAny_setField_rec hz (by simp) λg1 z1 b1=>?_);replace z1:g1.get? z=some (uC .ellipsis f1 TI TO):=z1;refine wpAny_bind ?_;simp only [List.zipIdx_cons,List.zipIdx_nil,forIn_cons,forIn_nil];refine wpAny_bind (wpAny_bind (wpAny_onRaise ?_));show wpAny _ _ (Builtin.SmallTypes.nextOf (.ref i1) >>=_) _ _ _;refine wpAny_bind (oM hh (h1.at' λo e=>b1.extBut _ _ D.i1z e) hx λg2 e b2 he=>?_);obtain ⟨oe,hoe,hce⟩:=he;have z2:g2.get? z=some (uC .ellipsis f1 TI TO):=b2 _ _ D.i1z.symm z1;have ne:e≠z:=λy=>by
   subst y;rw[z2] at hoe;cases hoe;have c':(Value.type "zip")=.type "StopIteration":=hce;simp at c'
  exact wpAny_setField_rec z2 (by simp) λg3 _ b3=>hE g3 e (λc o c1 _ c3 _ y=>b3.extBut _ _ c1 (b2 _ _ c3 (b1.extBut _ _ c1 y))) ⟨oe,b3.extBut _ _ ne hoe,hce⟩
 ·refine wpAny_bind (wpAny_field hz rfl (x:=rawInt (q:Nat)) rfl ?_);show wpAny _ _ (loadIfAlive ((q:Int)).toNat >>=_) _ _ _;refine wpAny_bind ?_;unfold loadIfAlive;refine alive (o:=oq) (by simpa using hq) (wpAny_pure ?_);simp only [Option.isNone_some,false_eq_true,if_false];refine wpAny_bind (wpAny_field hz rfl (x:=f1) rfl ?_);refine wpAny_mono (Q:=λr s'=>r=false/\∃g1,s'={s with heap:=g1}/\SameBut z s.heap g1) ?_ (λr s' hr=>?_) (λ_ _ e=>e)
  ·by_cases hb:(f1 != Value.bool true)=true
   ·rw[if_pos hb];exact wpAny_bind (wpAny_setField_rec hz (by simp) λg1 z1 b1=>wpAny_pure ⟨rfl,g1,rfl,b1⟩)
   ·rw[if_neg hb];exact wpAny_pure ⟨rfl,s.heap,rfl,.refl ..⟩
  obtain ⟨rfl,g1,rfl,b1⟩:=hr;simp only [false_eq_true,if_false];refine wpAny_bind ?_;simp only [List.forIn_toArray,forIn_cons,forIn_nil];refine wpAny_bind (wpAny_bind (wpAny_holding ?_));show wpAny _ _ (Builtin.SmallTypes.nextOf (.ref i1) >>=_) _ _ _;exact wpAny_bind (oM hh (h1.at' λo e=>b1.extBut _ _ D.i1z e) hx λg2 e b2 he=>hE g2 e (λc o c1 _ c3 _ y=>b2 _ _ c3 (b1.extBut _ _ c1 y)) he)
theorem UG (D:Apart z TI TO i1 i2 t) (S:BZ s.heap z TI TO i1 i2 t x tk items k) (hx:x.cps[k]?=some c) (hy:items[k]?=some y)
  (hQ:∀h' T u tk',BZ h' z TI TO i1 i2 t x tk items (k+1)->IsPair h' T (.str ⟨#[c]⟩ u) y->s.heap.objs.size<=T->(∀b o,b≠z->b≠TO->b≠i1->b≠i2->s.heap.get? b=some o->h'.get? b=some o)->Q (some (.ref T)) {s with heap:=h',toks:=tk'}):
  wpAny (model prog w) A (pyNext (.ref z)) Q E s:=by
 have hT:s.TypeIs (.ref z) "zip":=let ⟨_,_,e,_⟩:=S.zip;⟨_,e,rfl⟩;unfold pyNext;exact wpAny_bind (wpAny_attempt (wpAny_callSpecial?_slot (name:=ofString "__next__") hT F.slot_zip_next
  (wpAny_call_entry F.slot_zip_next hT F.entry_zip_next (KW D S hx hy λh' T u tk' a1 a2 a3 a4=>wpAny_pure (hQ h' T u tk' a1 a2 a3 a4)) (F.args_zip_next_1 _))))
theorem Br (hh:A.handled=none) (D:Apart z TI TO i1 i2 t) (S:BZ s.heap z TI TO i1 i2 t x tk items k) (hx:x.cps[k]?=none)
  (hQ:∀h',(∀b o,b≠z->b≠TO->b≠i1->b≠i2->s.heap.get? b=some o->h'.get? b=some o)->Q none {s with heap:=h'}):wpAny (model prog w) A (pyNext (.ref z)) Q E s:=by
 have hT:s.TypeIs (.ref z) "zip":=let ⟨_,_,e,_⟩:=S.zip;⟨_,e,rfl⟩;unfold pyNext;refine wpAny_bind (wpAny_attempt (wpAny_callSpecial?_slot (name:=ofString "__next__") hT F.slot_zip_next
  (wpAny_call_entry F.slot_zip_next hT F.entry_zip_next (SV hh D S hx λh' e hk he=>?_) (F.args_zip_next_1 _))))
 obtain ⟨o,ho,hc⟩:=he;refine wpAny_bind (wpAny_isInstance (T:="StopIteration") (b:=true) ⟨o,ho,hc⟩ isSubtype_stop ?_);exact wpAny_pure (hQ _ hk)
end
theorem QE:entryFor table "zip.__getattribute__"=some Builtin.«object.__getattribute__»:=
 entryFor_alias (id':="object.__getattribute__") (by kernel_rfl) (by decide+kernel) (by decide+kernel) (by kernel_rfl)
theorem VB:typeLookup (.type "zip") "keys"=pure none:=by rw[typeLookup_type,builtinLookup_eq_fast];kernel_rfl
theorem DF:typeLookup (.type "zip") "__getattr__"=pure none:=by rw[typeLookup_type,builtinLookup_eq_fast];kernel_rfl
theorem DH (a:Addr) (vs:Array Value) (name:Str) (u:Tok) (hmiss:typeLookup (.type "zip") name=pure none) (hname:(["__module__","__name__","__qualname__","__doc__","__annotations__"]:List Str).contains name=false) (hsz:name.length+100<=sizeLine):
  Meets (Builtin.«object.__getattribute__» ⟨[.ref a,.str name u],[]⟩) (λA R s=>s.heap.get? a=some {cls:=.type "zip",dict:=none,data:=.fields vs,slots:=#[]}/\raisesAttr (.ref a) name A R s):=
 Meets.of_wp λprog w A R s hs=>by
  obtain ⟨hp,g,d,tk,os⟩:=s;obtain ⟨hx,hs⟩:=hs;have hT:(⟨hp,g,d,tk,os⟩:Shared).TypeIs (.ref a) "zip":=⟨_,hx,rfl⟩;unfold Builtin.«object.__getattribute__»
  repeat (any_goals (first|assumption|wp_step))
  simp only [hname,false_eq_true,if_false]
  repeat (any_goals (first|assumption|wp_step))
  exact wpAny_raiseAttrError hs.1 hs.2 (attrMsg_fits (by decide+kernel) hsz)
section
variable {prog:Program} {w:World} {A:Around} {E:Value->Shared->Prop} {s:Shared}
theorem xF (hx:s.heap.get? a=some {cls:=.type "zip",dict:=none,data:=.fields vs,slots:=#[]}) (hA:A.handled=none)
  (h:∀h' tk,(∀b o,s.heap.get? b=some o->h'.get? b=some o)->Q none {s with heap:=h',toks:=tk}):wpAny (model prog w) A (getAttr? (.ref a) "keys") Q E s:=by
 obtain ⟨hp,g,d,tk,os⟩:=s;have hT:∀tk',(⟨hp,g,d,tk',os⟩:Shared).TypeIs (.ref a) "zip":=λ_=>⟨_,hx,rfl⟩;have f1:=sub_AttributeError;have f3:=F.slot_zip_getattribute.lookup;have f4:=F.slot_zip_getattribute.bind (.ref a);have f5:=DF;unfold getAttr? getAttrBy? getAttrBy
 repeat (any_goals (first|assumption|exact hT _|((with_reducible show wpAny _ _ (call (Value.builtin "zip.__getattribute__") _ _) _ _ _);refine call_meets F.slot_zip_getattribute (hT _) QE (F.args_zip_getattribute_2 _ _) (DH a vs "keys" _ VB (by decide+kernel) (by decide+kernel)) ⟨hx,hA,λh' tk' e hx'=>?_⟩)|wp_step))
 obtain ⟨t',u',he⟩:=hx'.there;show wpAny _ _ (getattributeRaised _ _ _ _ _ _ _) _ _ _;unfold getattributeRaised
 repeat (any_goals (first|assumption|wp_step))
 exact h _ _ hx'.keeps
end
end ZD
namespace ZD
open PySem PySem.Spec PyProof.Rows
theorem sN:entryFor table "dict.update.loop"=some Builtin.«dict.update.loop»:=entryFor_of_tree (by kernel_rfl)
theorem gM:plainId "dict.update.loop"=true:=by decide+kernel
def storeAll {K:Type} [DecidableEq K] (kk:Nat->K) (items:Array Value):Nat->Nat->List (K × Value)->List (K × Value)
 |0,_,kvs=>kvs
 |n+1,k,kvs=>storeAll kk items n (k+1) (stored kvs (kk k) (items[k]?.getD .none))
theorem CS {K:Type} [DecidableEq K] (kvs:List (K × Value)) (k:K) (v:Value):(stored kvs k v).length<=kvs.length+1:=by
 unfold stored;split
 ·simp
 ·simp
theorem BZ.but (y:BZ h z TI TO i1 i2 t x tk items k) (sb:SameBut d h h') (d1:d≠z) (d2:d≠TO) (d3:d≠i1) (d4:d≠i2) (d5:d≠TI) (d6:d≠t) (ob:∃o,h'.get? d=some o):
  BZ h' z TI TO i1 i2 t x tk items k:=by
 obtain ⟨⟨f0,f1,e,r⟩,p1,⟨a,b,p2⟩,s1,s2⟩:=y;refine ⟨⟨f0,f1,sb.extBut _ _ d1.symm e,?_⟩,sb.extBut _ _ d5.symm p1,⟨a,b,sb.extBut _ _ d2.symm p2⟩,s1.at' λo e=>sb.extBut _ _ d3.symm e,s2.at (λo e=>sb.extBut _ _ d4.symm e) λo e=>sb.extBut _ _ d6.symm e⟩;rcases r with r|⟨a,o,r1,r2,r3⟩
 ·exact .inl r
 ·by_cases ha:a=d
  ·obtain ⟨o',e'⟩:=ob;exact .inr ⟨a,o',r1,by rw[ha];exact e',r3⟩
  ·exact .inr ⟨a,o,r1,sb.extBut _ _ ha r2,r3⟩
section
variable {prog:Program} {w:World} {A:Around} {K:Type} [DecidableEq K] {knd:KeyKind prog w K} {R:Result->Shared->Prop} {d z TI TO i1 i2 t:Addr} {x:Str} {tk:Tok} {items:Array Value}
theorem LG (hk:∀i c u,x.cps[i]?=some c->knd.is (kk i) (.str ⟨#[c]⟩ u)=true) (D:Apart z TI TO i1 i2 t) (hh:A.handled=none) (d1:d≠z) (d2:d≠TO) (d3:d≠i1) (d4:d≠i2) (d5:d≠TI) (d6:d≠t) (hsz:x.cps.size=items.size) (hle:x.cps.size<=1000):
  ∀(n k:Nat) (j:Int) (s:Shared) (kvs:List (K × Value)),k+n=x.cps.size->BZ s.heap z TI TO i1 i2 t x tk items k->s.heap.DictOf knd d kvs->kvs.length<=k->
   (∀h' tk',h'.DictOf knd d (storeAll kk items n k kvs)->(∀b o,b≠z->b≠TO->b≠i1->b≠i2->b≠d->s.heap.get? b=some o->h'.get? b=some o)->R (.ok (.ret .none)) {s with heap:=h',toks:=tk'})->
   codeAny (model prog w) A (.builtin "dict.update.loop" ⟨[.ref d,.ref z,rawInt j,.none],[]⟩) R s:=by
 intro n;induction n with
 |zero=>
  intro k j s kvs hkn S hd hl hR;refine codeAny_builtin sN ?_;rw[Around.under_plainId gM _];show wpAny _ A.in1 (pyNext (.ref z) >>=_) _ _ s;refine wpAny_bind (Br hh D S (by simp;lia) λh' hk'=>?_);show wpAny _ _ (Builtin.Dict.addKeywords d [] >>=_) _ _ _;refine wpAny_bind (wpAny_pure (wpAny_pure ?_));exact hR h' s.toks (let ⟨o,es,ep,ho,r⟩:=hd;⟨o,es,ep,hk' d o d1 d2 d3 d4 ho,r⟩) λb o b1 b2 b3 b4 _ e=>hk' b o b1 b2 b3 b4 e
 |succ n ih=>
  intro k j s kvs hkn S hd hl hR;have hkx:k<x.cps.size:=by lia
  have hx:x.cps[k]?=some x.cps[k]:=by simp [hkx]
  have hy:items[k]?=some items[k]:=by simp
  refine codeAny_builtin sN ?_;rw[Around.under_plainId gM _];show wpAny _ A.in1 (pyNext (.ref z) >>=_) _ _ s;refine wpAny_bind (UG D S hx hy λh' T u tk' S' pT hT hk'=>?_);refine wpAny_bind (wpAny_holding ?_);have hTy:(⟨h',s.gens,s.drawn,tk',s.os⟩:Shared).TypeIs (.ref T) "tuple":=⟨_,pT,rfl⟩;refine wpAny_bind (wpAny_tryCatch ?_);unfold Builtin.Dict.pairItems;refine wpAny_bind (wpAny_typeOf hTy ?_);rw[if_pos (by decide)];refine wpAny_bind (wpAny_seqItems (s:=⟨h',s.gens,s.drawn,tk',s.os⟩) pT rfl (wpAny_pure ?_));show wpAny _ _ (holding [.str ⟨#[x.cps[k]]⟩ u,items[k]] (dictSet d (.str ⟨#[x.cps[k]]⟩ u) items[k])) _ _ _;have hd':h'.DictOf knd d kvs:=let ⟨o,es,ep,ho,r⟩:=hd;⟨o,es,ep,hk' d o d1 d2 d3 d4 ho,r⟩;refine wpAny_holding (wpAny_dictSet_pairs (s:=⟨h',s.gens,s.drawn,tk',s.os⟩) (hk k _ u hx) hd' (λh2 hd2 sb=>?_) (le_of_lt (Nat.lt_of_le_of_lt (show kvs.length<=1000 by lia) (by decide))));refine wpAny_pure ⟨plainId_quiet gM _,?_⟩;have ob:∃o,h2.get? d=some o:=let ⟨o,_,_,ho,_⟩:=hd2;⟨o,ho⟩;refine ih (k+1) (j+1) _ _ (by lia) (S'.but sb d1 d2 d3 d4 d5 d6 ob) hd2 ?_ (λh3 tk3 hd3 hk3=>?_)
  ·have:=CS kvs (kk k) items[k];lia
  ·have e:storeAll kk items (n+1) k kvs=storeAll kk items n (k+1) (stored kvs (kk k) items[k]):=by
    show storeAll kk items n (k+1) (stored kvs (kk k) (items[k]?.getD .none))=_;rw[hy];rfl
   refine hR h3 tk3 (by rw[e];exact hd3) λb o b1 b2 b3 b4 b5 eb=>hk3 b o b1 b2 b3 b4 b5 (sb.extBut b o b5 (hk' b o b1 b2 b3 b4 eb))
end
end ZD
namespace ZD
open PySem PySem.Spec PyProof.Rows
abbrev zA (h:Heap) (x:Str) (tk:Tok):Heap:=h.push {cls:=.type "str_ascii_iterator",data:=.fields #[.str x tk,.int 0 0]}
abbrev zB (T:String) (h:Heap) (x:Str) (tk:Tok) (t:Addr):Heap:=(zA h x tk).push {cls:=.type T,data:=.fields #[.ref t,.int 0 0]}
abbrev zC (T:String) (h:Heap) (x:Str) (tk:Tok) (t:Addr):Heap:=(zB T h x tk t).push {cls:=.type "tuple",data:=.seq #[.ref h.objs.size,.ref (zA h x tk).objs.size]}
abbrev zD (T:String) (h:Heap) (x:Str) (tk:Tok) (t:Addr):Heap:=(zC T h x tk t).push {cls:=.type "tuple",data:=.seq #[.none,.none]}
abbrev zE (T:String) (h:Heap) (x:Str) (tk:Tok) (t:Addr):Heap:=(zD T h x tk t).push {cls:=.type "zip",data:=.fields #[.none,.bool false,.bool false,.ref (zB T h x tk t).objs.size,.ref (zC T h x tk t).objs.size]}
theorem IS (x:Str) (tk:Tok) (t:Addr) (items:Array Value) (ha:x.cps.all (·<128)=true):
  Meets (Builtin.«zip.__new__» ⟨[.type "zip",.str x tk,.ref t],[]⟩) (λ_ R s=>s.heap.IsTuple t items/\R (.ok (.ret (.ref (zD "tuple_iterator" s.heap x tk t).objs.size))) {s with heap:=zE "tuple_iterator" s.heap x tk t}):=
 .of_wp λprog w A R s h=>by
  obtain ⟨hp,g,d,tks,os⟩:=s;obtain ⟨ht,h⟩:=h;have hsub:=sub_zip;have hT:Heap.IsTuple (Shared.heap ⟨hp.push {cls:=.type "str_ascii_iterator",data:=.fields #[.str x tk,.int 0 0]},g,d,tks,os⟩) t items:=let ⟨o,e,r⟩:=ht;⟨o,get?_push_of_some _ e,r⟩
  wp_walk using wpAny_pyIter_ascii (t:=tk) ha,wpAny_pyIter_tuple hT
  exact ⟨_,rfl,h⟩
theorem DG (x:Str) (tk:Tok) (t:Addr) (items:Array Value) (ha:x.cps.all (·<128)=true):
  Meets (Builtin.«zip.__new__» ⟨[.type "zip",.str x tk,.ref t],[]⟩) (λ_ R s=>s.heap.IsList t items/\R (.ok (.ret (.ref (zD "list_iterator" s.heap x tk t).objs.size))) {s with heap:=zE "list_iterator" s.heap x tk t}):=
 .of_wp λprog w A R s h=>by
  obtain ⟨hp,g,d,tks,os⟩:=s;obtain ⟨ht,h⟩:=h;have hsub:=sub_zip;have hT:Heap.IsList (Shared.heap ⟨hp.push {cls:=.type "str_ascii_iterator",data:=.fields #[.str x tk,.int 0 0]},g,d,tks,os⟩) t items:=let ⟨o,e,r⟩:=ht;⟨o,get?_push_of_some _ e,r⟩
  wp_walk using wpAny_pyIter_ascii (t:=tk) ha,wpAny_pyIter_list hT
  exact ⟨_,rfl,h⟩
section
variable {prog:Program} {w:World} {A:Around} {E:Value->Shared->Prop} {s:Shared}
theorem KU (T:String) (hT:T="tuple_iterator"\/T="list_iterator") {x:Str} {tk:Tok} {t:Addr} {items:Array Value} {Q:Value->Shared->Prop} (ht:(T="tuple_iterator"/\s.heap.IsTuple t items)\/(T="list_iterator"/\s.heap.IsList t items))
  (h:∀h',BZ h' (s.heap.objs.size+4) (s.heap.objs.size+2) (s.heap.objs.size+3) s.heap.objs.size (s.heap.objs.size+1) t x tk items 0->h'.objs.size=s.heap.objs.size+5->(∀c o,s.heap.get? c=some o->h'.get? c=some o)->Q (.ref (s.heap.objs.size+4)) {s with heap:=h'}):
  ({s with heap:=zE T s.heap x tk t}:Shared).TypeIs (.ref (zD T s.heap x tk t).objs.size) "zip"/\Q (.ref (zD T s.heap x tk t).objs.size) {s with heap:=zE T s.heap x tk t}:=by
 have z1:(zA s.heap x tk).objs.size=s.heap.objs.size+1:=Heap.size_push ..;have z2:(zB T s.heap x tk t).objs.size=s.heap.objs.size+2:=by rw[Heap.size_push,z1]
 have z3:(zC T s.heap x tk t).objs.size=s.heap.objs.size+3:=by rw[Heap.size_push,z2]
 have z4:(zD T s.heap x tk t).objs.size=s.heap.objs.size+4:=by rw[Heap.size_push,z3]
 have z5:(zE T s.heap x tk t).objs.size=s.heap.objs.size+5:=by rw[Heap.size_push,z4]
 have g5:(zE T s.heap x tk t).get? (zD T s.heap x tk t).objs.size=some _:=get?_push_size _ rfl;have g4:(zE T s.heap x tk t).get? (zC T s.heap x tk t).objs.size=some _:=get?_push_of_some _ (get?_push_size _ rfl);have g3:(zE T s.heap x tk t).get? (zB T s.heap x tk t).objs.size=some _:=get?_push_of_some _ (get?_push_of_some _ (get?_push_size _ rfl));have g2:(zE T s.heap x tk t).get? (zA s.heap x tk).objs.size=some _:=get?_push_of_some _ (get?_push_of_some _ (get?_push_of_some _ (get?_push_size _ rfl)));have g1:(zE T s.heap x tk t).get? s.heap.objs.size=some _:=get?_push_of_some _ (get?_push_of_some _ (get?_push_of_some _ (get?_push_of_some _ (get?_push_size _ rfl))));have up:∀c o,s.heap.get? c=some o->(zE T s.heap x tk t).get? c=some o:=λc o y=>get?_push_of_some _ (get?_push_of_some _ (get?_push_of_some _ (get?_push_of_some _ (get?_push_of_some _ y))));rw[z2,z3,z4] at g5;rw[z1,z2] at g3;rw[z3] at g4;rw[z1] at g2;rw[z4];refine ⟨⟨_,g5,rfl⟩,h _ ⟨⟨_,_,g5,.inl rfl⟩,g3,⟨_,_,g4⟩,⟨_,.inl rfl,_,g1,rfl,rfl⟩,?_⟩ z5 up⟩;rcases ht with ⟨rfl,o,e,r⟩|⟨rfl,o,e,r⟩
 ·exact .inl ⟨⟨_,g2,rfl,rfl⟩,o,up _ _ e,r⟩
 ·exact .inr ⟨⟨_,g2,rfl,rfl⟩,o,up _ _ e,r⟩
theorem QZ (ha:x.cps.all (·<128)=true) (ht:s.heap.IsTuple t items\/s.heap.IsList t items)
  (h:∀h',BZ h' (s.heap.objs.size+4) (s.heap.objs.size+2) (s.heap.objs.size+3) s.heap.objs.size (s.heap.objs.size+1) t x tk items 0->h'.objs.size=s.heap.objs.size+5->(∀c o,s.heap.get? c=some o->h'.get? c=some o)->Q (.ref (s.heap.objs.size+4)) {s with heap:=h'}):
  wpAny (model prog w) A (call (.type "zip") [.str x tk,.ref t]) Q E s:=by
 rcases ht with ht|ht
 ·exact callType_new F.called_zip (by decide) (F.typeCall_zip_2 _ _) (F.newCall_zip_2 _ _) (λobj=>F.args_object_init_3 obj _ _) F.entry_zip_new (IS x tk t items ha) ⟨ht,KU "tuple_iterator" (.inl rfl) (.inl ⟨rfl,ht⟩) h⟩
 ·exact callType_new F.called_zip (by decide) (F.typeCall_zip_2 _ _) (F.newCall_zip_2 _ _) (λobj=>F.args_object_init_3 obj _ _) F.entry_zip_new (DG x tk t items ha) ⟨ht,KU "list_iterator" (.inr rfl) (.inr ⟨rfl,ht⟩) h⟩
theorem apart_new {n t:Nat} (h:t<n):Apart (n+4) (n+2) (n+3) n (n+1) t:=by
 constructor<;>(intro (e:(_:Nat)=_);lia)
end
end ZD
namespace ZD
open PySem PySem.Spec PyProof.Rows
section
variable {prog:Program} {w:World} {A:Around} {E:Value->Shared->Prop} {s:Shared}
theorem BH {K:Type} [DecidableEq K] {knd:KeyKind prog w K} {z TI TO i1 i2 t:Addr} {x:Str} {tk:Tok} {items:Array Value} {kk:Nat->K} {Q:Value->Shared->Prop} (hk:∀i c u,x.cps[i]?=some c->knd.is (kk i) (.str ⟨#[c]⟩ u)=true) (D:Apart z TI TO i1 i2 t) (hh:A.handled=none)
  (hsz:x.cps.size=items.size) (hle:x.cps.size<=1000) (S:BZ s.heap z TI TO i1 i2 t x tk items 0)
  (h:∀h' d tk',s.heap.objs.size<=d->h'.DictOf knd d (storeAll kk items x.cps.size 0 [])->(∀b o,b≠z->b≠TO->b≠i1->b≠i2->s.heap.get? b=some o->h'.get? b=some o)->Q (.ref d) {s with heap:=h',toks:=tk'}):
  wpAny (model prog w) A (call (.type "dict") [.ref z]) Q E s:=by
 refine callType_codes (Q₁:=λobj aa=>obj=.ref s.heap.objs.size/\aa={s with heap:=s.heap.push {cls:=.type "dict",data:=.dict #[]}}) F.kt_called_dict (F.kt_typeCall_dict_1 _) F.entry_dict_init (kt_code_dict_new _ ⟨rfl,rfl⟩) ?_;rintro obj aa ⟨rfl,rfl⟩;have hnew:(s.heap.push {cls:=.type "dict",data:=.dict #[]}).DictOf knd s.heap.objs.size []:=DictOf.new s.heap;have S1:=S.keep (h':=s.heap.push {cls:=.type "dict",data:=.dict #[]}) λb o e=>get?_push_of_some _ e;refine ⟨hnew.typeIs,F.args_dict_init_2 _ _,?_⟩;unfold Builtin.«dict.__init__»;refine wpAny_bind ?_;unfold Builtin.Dict.selfAndRest;refine wpAny_bind (wpAny_notOrdered_dict hnew.typeIs ?_);show wpAny _ _ (pure (s.heap.objs.size,[Value.ref z])) _ _ _;refine wpAny_pure ?_;show wpAny _ _ (Builtin.Dict.updateFrom "dict.__init__" s.heap.objs.size (.ref z) [] .none) _ _ _;unfold Builtin.Dict.updateFrom;obtain ⟨f0,f1,ez,_⟩:=S1.zip;have hTz:(⟨s.heap.push {cls:=.type "dict",data:=.dict #[]},s.gens,s.drawn,s.toks,s.os⟩:Shared).TypeIs (.ref z) "zip":=⟨_,ez,rfl⟩;refine wpAny_bind (wpAny_typeOf hTz ?_);rw[if_pos (by decide)];refine wpAny_bind (xF ez hh λh1 tk1 k1=>?_);simp only [Option.isNone_none,if_true];refine wpAny_bind (wpAny_rule ?_);have S2:=S1.keep k1;obtain ⟨f0',f1',ez2,_⟩:=id S2.zip;have hT2:(⟨h1,s.gens,s.drawn,tk1,s.os⟩:Shared).TypeIs (.ref z) "zip":=⟨_,ez2,rfl⟩;have lt:∀{b:Addr} {o:Obj},s.heap.get? b=some o->s.heap.objs.size≠b:=λe=>ne_of_gt (lt_size e);obtain ⟨⟨g0,g1,e0,_⟩,e1,⟨pa,pb,e2⟩,s1,s2⟩:=id S;refine wpAny_bind ?_;refine wpAny_pyIter_slot hT2 F.slot_zip_iter (wpAny_call_entry F.slot_zip_iter hT2 F.entry_zip_iter ?_ (F.args_zip_iter_1 _));show wpAny _ _ (ret (.ref z)) _ _ _;refine wpAny_pure ⟨_,rfl,"zip",_,hT2,F.slot_zip_next.lookup,?_⟩;refine wpAny_pure ⟨plainId_quiet gM _,?_⟩;have hd1:h1.DictOf knd s.heap.objs.size []:=let ⟨o,es,ep,ho,r⟩:=hnew;⟨o,es,ep,k1 _ o ho,r⟩;refine LG (A:=A.in1) hk D hh (lt e0) (lt e2) (ne_of_gt s1.lt) (ne_of_gt s2.lt) (lt e1) (ne_of_gt s2.ltT) hsz hle x.cps.size 0 0 ⟨h1,s.gens,s.drawn,tk1,s.os⟩ [] (by lia) S2 hd1 (zero_le _) λh2 tk2 hd2 hk2=>?_;refine ⟨rfl,?_⟩;exact h h2 _ tk2 (Nat.le_refl _) hd2 λb o b1 b2 b3 b4 e=>hk2 b o b1 b2 b3 b4 (lt e).symm (k1 b o (get?_push_of_some _ e))
end
end ZD
namespace L2.L3
open PySem PySem.Spec PyProof.Rows
section
variable {X:Cx}
theorem qJ:∀{us:List Value},Vals (ys.map V.str) us->StrsAre us ys:=by
 induction ys with
 |nil=>intro us r;rw[map_nil] at r;cases r;exact .nil
 |cons y ys ih=>
  intro us r;rw[map_cons] at r;cases r with
  |cons r1 r2=>
   obtain ⟨t,e⟩:=r1;subst e;exact .cons y t (ih r2)
def rJoin:V->List V->Hp->VK->Prop:=λx vs H Q=>∃(z:Str) (p:Addr) (ys:List Str),x=.str z/\vs=[.ref p]/\H p=some (.lst (ys.map V.str))/\(ys.map (·.length)).sum+ys.length * z.length<=16777216/\Q (.str (Txt.join z ys)) H
theorem VD:Gm X "str.join" rJoin:=by
 intro pins s σ H x vs v us Q I rx rv h;obtain ⟨z,p,ys,rfl,rfl,hp,hok,q⟩:=h;obtain ⟨t,rfl⟩:=rx;obtain ⟨u,rfl,ru⟩:=rv.one;cases (show u=Value.ref p from ru);obtain ⟨hz,its,n,r,hl,e⟩:=I.lstM hp;have isl:s.heap.IsList p its.toArray:=⟨_,e,rfl,n,rfl⟩;exact join_list isl (qJ r) hok λt' k=>⟨.str _,H,I.tok k,⟨t',rfl⟩,q⟩
def Bm (K:Fg):V->List V->Hp->VK->Prop:=λx vs H Q=>∃(z:Str) (p:Addr) (ys:List Str),x=.str z/\vs=[.ref p]/\bX K H p (ys.map V.str)/\(ys.map (·.length)).sum+ys.length * z.length<=16777216/\Q (.str (Txt.join z ys)) H
theorem NQ:Gm X "str.join" (Bm X.K):=by
 intro pins s σ H x vs v us Q I rx rv h;obtain ⟨z,p,ys,rfl,rfl,hp,hok,q⟩:=h;obtain ⟨t,rfl⟩:=rx;obtain ⟨u,rfl,ru⟩:=rv.one;cases (show u=Value.ref p from ru);obtain ⟨its,r,ht,hz⟩:=I.tuple hp;exact join_tuple ht (qJ r) hok λt' k=>⟨.str _,H,I.tok k,⟨t',rfl⟩,q⟩
def Bp:V->List V->Hp->VK->Prop:=λx vs H Q=>∃(z y:Str),x=.str z/\vs=[.str y]/\Q (.int (count z y)) H
theorem NT:Gm X "str.count" Bp:=by
 intro pins s σ H x vs v us Q I rx rv h;obtain ⟨z,y,rfl,rfl,q⟩:=h;obtain ⟨t,rfl⟩:=rx;obtain ⟨u,rfl,ru⟩:=rv.one;obtain ⟨t2,rfl⟩:=ru;exact SC.count ⟨.int _,H,I.tok _,⟨_,rfl⟩,q⟩
def Bn:V->List V->Hp->VK->Prop:=λx vs H Q=>∃(z y:Str) (i:Nat) (rest:List Nat),x=.str z/\vs=[.str y]/\Builtin.Str.occurrences z y 0 z.length 1=i::rest/\Q (.int i) H
theorem NS:Gm X "str.index" Bn:=by
 intro pins s σ H x vs v us Q I rx rv h;obtain ⟨z,y,i,rest,rfl,rfl,ho,q⟩:=h;obtain ⟨t,rfl⟩:=rx;obtain ⟨u,rfl,ru⟩:=rv.one;obtain ⟨t2,rfl⟩:=ru;exact SC.index ho ⟨.int _,H,I.tok _,⟨_,rfl⟩,q⟩
def Bj:List V->Hp->VK->Prop:=λxs H Q=>∃(p:Addr) (ns:List Int),xs=[.ref p]/\H p=some (.lst (ns.map V.int))/\Q (.int ns.sum) H
theorem RA (hc:X.calm=true):bN X (.builtin "sum") Bj:=by
 intro pins s σ H xs us Q I rv h;obtain ⟨p,ns,rfl,hp,q⟩:=h;obtain ⟨u,rfl,ru⟩:=rv.one;cases (show u=Value.ref p from ru);obtain ⟨hz,its,n,r,hl,e⟩:=I.lstM hp;have isl:s.heap.IsList p its.toArray:=⟨_,e,rfl,n,rfl⟩;have hi:=intsAre_of r;have hn:numsOf its=ns:=hi.numsOf;obtain ⟨ys,ey⟩:=hi.allInts.items;have en:numsOf its=numsOf (intItems ys).toList:=by rw[<-ey]
 rw[ey] at isl;refine sum_intListG (I.ok.hd hc) isl λh' tk t' hk=>⟨.int ns.sum,H,I.kept (t':=tk) hk,⟨t',?_⟩,q⟩;rw[preSum_eq,take_of_length_le (by simp),<-hn,en,nums_intItems]
theorem stored_new {K:Type} [DecidableEq K] {kvs:List (K × Value)} {k:K} {v:Value} (h:∀p∈kvs,p.1≠k):stored kvs k v=kvs++[(k,v)]:=by
 unfold stored;rw[if_neg];intro z;obtain ⟨p,hp,e⟩:=List.any_eq_true.mp z;exact h p hp (of_decide_eq_true e)
theorem iI {K:Type} [DecidableEq K] {kk:Nat->K} {items:Array Value}:∀(n k:Nat),(∀i j,i<k+n->j<k+n->kk i=kk j->i=j)->
  ZD.storeAll kk items n k ((range k).map λi=>(kk i,items[i]?.getD .none))=(range (k+n)).map λi=>(kk i,items[i]?.getD .none)
 |0,k,_=>rfl
 |n+1,k,hi=>by
  show ZD.storeAll kk items n (k+1) (stored _ (kk k) (items[k]?.getD .none))=_;rw[stored_new]
  ·have ih:=iI (kk:=kk) (items:=items) n (k+1) (λi j a b=>hi i j (by lia) (by lia));rw[range_succ,map_append] at ih;rw[show k+(n+1)=k+1+n by lia];exact ih
  ·intro p hp;obtain ⟨i,hm,rfl⟩:=mem_map.mp hp;have hlt:=mem_range.mp hm;intro e;have:=hi i k (by lia) (by lia) e;lia
theorem rK {α β γ:Type} {R:β->γ->Prop} {f:α->β} {g:α->γ}:∀(l:List α),(∀a∈l,R (f a) (g a))->Paired R (l.map f) (l.map g)
 |[],_=>.nil
 |a::l,h=>.cons (h a mem_cons_self) (rK l λb hb=>h b (mem_cons_of_mem _ hb))
def fW (x:Str) (i:Nat):Key:=.inr ⟨#[x.cps.getD i 0]⟩
def kC (x:Str) (ws:List V):List (Key × V):=(range x.cps.size).map λi=>(fW x i,ws[i]?.getD .non)
def Rl (K:Fg) (ta:TA):TE:=λσ H Q=>ta σ H λvs H1=>∃(x:Str) (t:Addr) (ws:List V),vs=[.str x,.ref t]/\(bX K H1 t ws\/aH K H1 t ws)/\x.cps.size=ws.length/\x.cps.size<=1000/\x.cps.all (·<128)=true/\(∀i j,i<x.cps.size->j<x.cps.size->fW x i=fW x j->i=j)/\
 ∀d,H1 d=none->Q (.ref d) (upd H1 d (.dK (kC x ws)))
theorem Fo {pins:List (Addr × Obj)} {σ:St} {H:Hp} {s:Shared} {Q:VK} {x:Str} {tk:Tok} {t:Addr} {ws:List V} (hc:X.calm=true) (I:Inv X pins σ H s) (ht:bX X.K H t ws\/aH X.K H t ws) (hl:x.cps.size=ws.length) (hle:x.cps.size<=1000) (ha:x.cps.all (·<128)=true)
  (hinj:∀i j,i<x.cps.size->j<x.cps.size->fW x i=fW x j->i=j) (q:∀d,H d=none->Q (.ref d) (upd H d (.dK (kC x ws)))):
  wpAny (model X.prog X.w) X.A (call (.type "zip") [.str x tk,.ref t]) (λz s1=>wpAny (model X.prog X.w) X.A (call (.type "dict") [z]) (EP X pins σ Q) X.xe s1) X.xe s:=by
 obtain ⟨its,r,it,hlt⟩:∃its:List Value,Vals ws its/\(s.heap.IsTuple t its.toArray\/s.heap.IsList t its.toArray)/\t<s.heap.objs.size:=by
  rcases ht with ht|ht
  ·obtain ⟨its,r,it,hz⟩:=I.tuple ht;exact ⟨its,r,.inl it,let ⟨o,e,_⟩:=it;lt_size e⟩
  ·obtain ⟨its,r,it,hz⟩:=I.list ht;exact ⟨its,r,.inr it.isList,let ⟨o,n,e,_⟩:=it;lt_size e⟩
 have hlen:ws.length=its.length:=r.length;refine ZD.QZ ha it λh1 S1 An k1=>?_;refine ZD.BH (s:={s with heap:=h1}) (knd:=aU X.prog X.w) (kk:=fW x) (λi c u hx=>?_) (ZD.apart_new hlt) (I.ok.hd hc) (by rw[hl,hlen,size_toArray]) hle S1 λh2 d tk2 hd hdict k2=>?_
 ·show oP (.inr ⟨#[x.cps.getD i 0]⟩) (.str ⟨#[c]⟩ u)=true;have e:x.cps.getD i 0=c:=by
   rw[Array.getD_eq_getD_getElem?,hx];rfl
  rw[e];exact uZ _ _
 ·have hd':s.heap.objs.size<=d:=by
   have:h1.objs.size<=d:=hd;lia
  have kept:∀b o,s.heap.get? b=some o->h2.get? b=some o:=λb o e=>by
   have lb:b<s.heap.objs.size:=lt_size e;exact k2 b o (ne_of_lt (Nat.lt_add_right _ lb)) (ne_of_lt (Nat.lt_add_right _ lb)) (ne_of_lt lb) (ne_of_lt (Nat.lt_add_right _ lb)) (k1 b o e)
  have e0:=iI (kk:=fW x) (items:=its.toArray) x.cps.size 0 (λi j a b=>hinj i j (by lia) (by lia));have e1:ZD.storeAll (fW x) its.toArray x.cps.size 0 []=(range x.cps.size).map λi=>(fW x i,its.toArray[i]?.getD .none):=by
   rw[show 0+x.cps.size=x.cps.size by lia] at e0;exact e0
  rw[e1] at hdict;have hrel:KV (kC x ws) ((range x.cps.size).map λi=>(fW x i,its.toArray[i]?.getD .none)):=by
   refine rK _ λi hi=>⟨rfl,?_⟩;have hi':=mem_range.mp hi;have hw:ws[i]?=some (ws[i]'(by lia)):=getElem?_eq_getElem (by lia);obtain ⟨u,hu,ru⟩:=r.get hw;have hu':its.toArray[i]?=some u:=by simpa using hu
   show RelV (ws[i]?.getD .non) (its.toArray[i]?.getD .none);rw[hw,hu'];exact ru
  refine ⟨.ref d,upd H d (.dK (kC x ws)),?_,rfl,q d (I.hok.fresh hd')⟩;refine I.laid (t':=tk2) kept hd' ⟨?_,beq_eq_false_iff_ne.mpr (Ne.symm (ne_of_lt (lt_of_lt_of_le (BO I) hd'))),_,hrel,hdict⟩;show (kC x ws).length<=sizeLine;unfold kC;rw[length_map,length_range];exact le_of_lt (HN hle)
theorem DC (hc:X.calm=true) (hgd:Gl X "dict") (hmd:X.mg "dict"=none) (hgz:Gl X "zip") (hmz:X.mg "zip"=none) (ha:PA X [a,b] ta)
  (hs:starEach [a,b] X.env=(false,eval a X.env)::starEach [b] X.env:=by rfl) (hpl:(backTo pos2 (starEach [b] X.env)).any (·.1)=false:=by rfl)
  (hs1:starEach [.Call (.Name "zip" p2) [a,b] [] pos2] X.env=(false,eval (.Call (.Name "zip" p2) [a,b] [] pos2) X.env)::starEach [] X.env:=by rfl) (hpl1:(backTo pos1 (starEach [] X.env)).any (·.1)=false:=by rfl):
  PE X (.Call (.Name "dict" p1) [.Call (.Name "zip" p2) [a,b] [] pos2] [] pos1) (Rl X.K ta):=by
 intro pins s σ H Q I h;refine wpAny_Call_Name_kw (fL I hgd hmd PyProof.Rows.Boot.dict ?_ (by decide) (by decide));refine PyProof.Rows.callWith_type1 ?_ hs1 hpl1;rw[hs1];show wpAny _ _ (spliced ((false,eval (.Call (.Name "zip" p2) [a,b] [] pos2) X.env)::backTo pos1 (starEach [] X.env))) _ _ s;refine Calls.spliced_cons ?_;refine bH (Q:=λz s1=>wpAny (model X.prog X.w) X.A (call (.type "dict") [z]) (EP X pins σ Q) X.xe s1) ?_ λz s1 hz=>Calls.spliced_nil hz;refine wpAny_Call_Name_kw (fL I hgz hmz PyProof.Rows.Boot.zip ?_ (by decide) (by decide));refine PyProof.Rows.callWith_type1 (bH (ha pos2 pins s σ H _ I h) λus s1 ⟨vs,H1,I1,r1,q1⟩=>?_) hs hpl;obtain ⟨x,t,ws,rfl,ht,hl,hle,hasc,hinj,q⟩:=q1;obtain ⟨u,v,rfl,ru,rv⟩:=r1.two;obtain ⟨tk,rfl⟩:=ru;cases (show v=Value.ref t from rv);exact Fo hc I1 ht hl hle hasc hinj q
theorem uH {n:Nat} {key:Nat->Key} {f:Nat->V} {j:Nat} (hinj:∀i j,i<n->j<n->key i=key j->i=j) (hj:j<n):eY ((range n).map λi=>(key i,f i)) (key j)=some (f j):=by
 unfold eY;rw[List.find?_map];have e:(range n).find? ((λkv:Key × V=>decide (kv.1=key j))∘λi=>(key i,f i))=some j:=by
  cases q:(range n).find? ((λkv:Key × V=>decide (kv.1=key j))∘λi=>(key i,f i)) with
  |none=>
   have z:=List.find?_eq_none.mp q j (mem_range.mpr hj);simp at z
  |some i=>
   have z1:=mem_range.mp (List.mem_of_find?_eq_some q);have z2:=List.find?_some q;have z3:key i=key j:=of_decide_eq_true z2;rw[hinj i j z1 hj z3]
 rw[e];rfl
end
section
variable {X:Cx} {pins:List (Addr × Obj)} {σ:St} {H:Hp} {s:Shared}
theorem Inv.but (I:Inv X pins σ H s) (hs:SameBut C s.heap h') (hC:X.s₀.heap.objs.size<=C) (hL:X.env.locals≠C) (hcl:∀x c,X.env.cells.lookup x=some c->c≠C) (hp:∀p∈X.pn++pins,p.1≠C) (hn:H C=none):
  Inv X pins σ H {s with heap:=h'}:=by
 have kp:∀b o,b≠C->s.heap.get? b=some o->h'.get? b=some o:=λb o hb e=>(hs.2 b hb).trans e;obtain ⟨m,hm,hl⟩:=I.loc;have cells:∀c v,c≠C->s.heap.IsCell c v->h'.IsCell c v:=λc v hc ⟨o,e,d⟩=>⟨o,kp _ _ hc e,d⟩;refine ⟨I.ok,I.os,I.bare,Un.but I.base hs hC,⟨m,hm.sameBut hs hL,λi x v e1 e2 e3=>?_⟩,λx c e=>?_,I.free,I.freeC,λp hpp=>⟨kp _ _ (hp p hpp) (I.pin p hpp).1,(I.pin p hpp).2⟩,dN.but I.hok hs hn,I.len⟩
 ·obtain ⟨u,r,l⟩:=hl i x v e1 e2 e3;refine ⟨u,r,?_⟩;rcases l with l|⟨hk,c,hc,hcell⟩
  ·exact .inl l
  ·exact .inr ⟨hk,c,hc,cells c _ (hcl x c hc) hcell⟩
 ·obtain ⟨v,hv⟩:=I.cell x c e;exact ⟨v,cells c v (hcl x c e) hv⟩
theorem yA (Iv:Nat->Shared->Prop)
  (turn:∀n s,Iv n s->wpAny (model prog w) A (pyNext it) (λr s1=>match r with
   |none=>R (.ok .next) s1
   |some v=>wpAny (model prog w) A (letOwnedTupleGo target it v) (λ_ s1'=>wpAny (model prog w) A (assign target env v) (λ_ s2=>
     wpAny (model prog w) A (forIn ifs true λc r=>if r=true then do let ok <-isTrue c env (eval c env);pure (ForInStep.yield ok) else pure (ForInStep.yield r)) (λok s3=>
      if ok=true then wpAny (model prog w) A (eval elt env) (λx s4=>wpAny (model prog w) A (call (.builtin "list.append") [acc,x]) (λ_ s5=>∃m,m<n/\Iv m s5) (notedBy (model prog w) A env λe s'=>R (.error e) s') s4) (notedBy (model prog w) A env λe s'=>R (.error e) s') s3
      else ∃m,m<n/\Iv m s3) (notedBy (model prog w) A env λe s'=>R (.error e) s') s2)
     (notedBy (model prog w) A env λe s'=>R (.error e) s') s1') (notedBy (model prog w) A env λe s'=>R (.error e) s') s1) (notedBy (model prog w) A env λe s'=>R (.error e) s') s)
  (n:Nat) (h:Iv n s):codeAny (model prog w) A (.compLoop (.ListComp elt [⟨target,iter,ifs,0⟩] scope pos) 0 it acc env) R s:=by
 refine codeAny_loop rfl Iv (λn s hI=>?_) n h;show wpAny _ _ ((compTurn (.ListComp elt [⟨target,iter,ifs,0⟩] scope pos) 0 it acc env).onRaise (λx=>do noteFrame x env;theTreesLotGoes x)) _ _ s;refine wpAny_noted ?_;rw[compTurn_list];refine wpAny_bind (wpAny_standAt (wpAny_bind (wpAny_mono (turn n s hI) (λr s1 h1=>?_) λ_ _ h'=>h')));cases r with
 |none=>exact wpAny_pure h1
 |some v=>
  refine wpAny_bind (wpAny_mono h1 (λ_ s1' h1'=>wpAny_bind (wpAny_mono h1' (λ_ s2 h2=>wpAny_bind (wpAny_mono h2 (λok s3 h3=>?_) λ_ _ h'=>h')) λ_ _ h'=>h')) λ_ _ h'=>h');cases ok with
  |true=>
   rw[if_pos rfl] at h3 ⊢;exact wpAny_bind (wpAny_bind (wpAny_mono h3 (λx s4 h4=>wpAny_bind (wpAny_mono h4 (λ_ s5 h5=>wpAny_pure (wpAny_pure ⟨rfl,h5⟩)) λ_ _ h'=>h')) λ_ _ h'=>h'))
  |false=>
   rw[if_neg Bool.false_ne_true] at h3 ⊢
   first
    |exact wpAny_pure ⟨rfl,h3⟩
    |exact wpAny_bind (wpAny_pure (wpAny_pure ⟨rfl,h3⟩))
inductive vW (X:Cx):List Expr->TT->Prop
 |nil:vW X [] (λ_ H Q=>Q true H)
 |one {c:Expr} {t:TT} (h:PT X c t):vW X [c] t
theorem vW.run (T:vW X ifs t) (I:Inv X pins σ H s) (h:t σ H QB):
  wpAny (model X.prog X.w) X.A (forIn ifs true λc r=>if r=true then do let ok <-isTrue c X.env (eval c X.env);pure (ForInStep.yield ok) else pure (ForInStep.yield r)) (TP X pins σ QB) X.xe s:=by
 cases T with
 |nil=>exact wpAny_tests_nil ⟨H,I,h⟩
 |one hc=>exact wpAny_tests_one (hc pins s σ H QB I h)
def aS (J:It) (g:TG) (tc:TT) (te:TE) (n:Nat) (is:List Nat) (σ:St) (D:Addr) (H1:Hp) (Q:VK):Prop:=∃W:Nat->Nat->St->Hp->Prop,(∃m,W 0 m (JV n is σ) (upd H1 D (.lst [])))/\
 ∀i m σ' H,W i m σ' H->(J.stop i H/\Q (.ref D) H)\/(J.go i H/\∀x H',J.yld i H x H'->g x σ' H' λσ2 H2=>tc σ2 H2 λb H3=>
  (b=true->te σ2 H3 λy H4=>∃xs,H4 D=some (.lst xs)/\xs.length<sizeLine/\∃m',m'<m/\W (i+1) m' σ2 (upd H4 D (.lst (xs++[y]))))/\(b=false->∃m',m'<m/\W (i+1) m' σ2 H3))
def qH (wi:TI) (g:TG) (tc:TT) (te:TE) (n:Nat) (is:List Nat):TE:=λσ H Q=>wi σ H λJ H1=>∀D,H1 D=none->aS J g tc te n is σ D H1 Q
theorem JQ (use:Option (Value->Sem Unit)) (hc:X.calm=true) (hi:PI X target iter wi)
  (hg:∀C s₀ H₀ ex,PG (KG X (own++caps) sc C s₀ H₀ ex) target g) (ht:∀C s₀ H₀ ex,vW (KG X (own++caps) sc C s₀ H₀ ex) ifs tc) (he:∀C s₀ H₀ ex,PE (KG X (own++caps) sc C s₀ H₀ ex) elt te) (hcap:KQ X sc caps is)
  (hkind:sc.kind=.function) (hown:∀y∈sc.names,y.2=.cell->sc.names.lookup y.1=some .cell) (hfr:(sc.names.all λy=>y.2 != .free || X.env.kindOf y.1==some .cell)=true)
  (hclos:closureFor sc X.env=pure (BK sc.names X.env)) (hnames:∀y∈sc.names,y.2=.local->sc.names.lookup y.1=some .local)
  (hs:∀x,foldedSetIterable iter X.env x=pure x) (I:Inv X pins σ H s) (h:qH wi g tc te own.length is σ H Q)
  (fin:∀(D C:Addr) (H':Hp) (s':Shared) (m:Str->Option Value),Inv X pins σ H' s'->s'.heap.Ns C m->H' C=none->X.s₀.heap.objs.size<=C->X.env.locals≠C->(∀x c,X.env.cells.lookup x=some c->c≠C)->(∀p∈X.pn++pins,p.1≠C)->Q (.ref D) H'->
   compPost (model X.prog X.w) X.A X.xe use QQ (.ref D) C (.ok .next) s'):
  wpAny (model X.prog X.w) X.A (comprehension (.ListComp elt [⟨target,iter,ifs,0⟩] sc pos) sc X.env pos2 (newList []) false (eval iter X.env) use) QQ X.xe s:=by
 refine wpAny_comprehension_free (use:=use) rfl hs hclos hkind hnames ?_;refine bH (hi pins s σ H _ I h) λv s1 h1=>bH h1 λitv s2 h2=>?_;obtain ⟨it,fp,tn,J,H2,e,I2,T,st2,f2,q2⟩:=h2;subst e;have ob2:∀b∈fp,∃o,s2.heap.get? b=some o:=λb hb=>let ⟨o,e,_⟩:=T.obj _ _ st2 b hb;⟨o,e⟩;refine wpAny_newObj_type (vY ?_);have ak:(pushCells ((s2.heap.push {cls:=.type "list",data:=.seq ([]:List Value).toArray}).push {cls:=.type "dict",data:=.dict #[]}) sc.names).Ns (s2.heap.push {cls:=.type "list",data:=.seq ([]:List Value).toArray}).objs.size (λ_=>none):=(Heap.Ns.new _ (.type "dict")).keeps (pushCells_keeps _ _);have au:=NF (s2.heap.push {cls:=.type "list",data:=.seq ([]:List Value).toArray}) {cls:=.type "dict",data:=.dict #[]} sc;have ao:∀b o,(s2.heap.push {cls:=.type "list",data:=.seq ([]:List Value).toArray}).get? b=some o->(pushCells ((s2.heap.push {cls:=.type "list",data:=.seq ([]:List Value).toArray}).push {cls:=.type "dict",data:=.dict #[]}) sc.names).get? b=some o:=λb o e=>pushCells_keeps _ _ b o (get?_push_of_some _ e);generalize bj:pushCells ((s2.heap.push {cls:=.type "list",data:=.seq ([]:List Value).toArray}).push {cls:=.type "dict",data:=.dict #[]}) sc.names=ae at ak au ao;have I3:=I2.lnew (its:=[]) (ys:=[]) (t':=s2.toks) .nil (zero_le _);have hD:H2 s2.heap.objs.size=none:=I2.hok.fresh (Nat.le_refl _);obtain ⟨W,⟨m0,w0⟩,turn⟩:=q2 s2.heap.objs.size hD;have f3:∀b∈fp,oE X pins (upd H2 s2.heap.objs.size (.lst [])) b:=λb hb=>by
  obtain ⟨o,e⟩:=ob2 b hb;exact ⟨by rw[aE (ne_of_lt (lt_size e))];exact (f2 b hb).1,(f2 b hb).2⟩
 have hk3:=ao;have ob3:∀b∈fp,∃o,(s2.heap.push {cls:=.type "list",data:=.seq ([]:List Value).toArray}).get? b=some o:=λb hb=>by
  obtain ⟨o,e⟩:=ob2 b hb;exact ⟨o,get?_push_of_some _ e⟩
 have I4:=KA (own:=own) I3 hkind hown hfr hcap f3 ob3 (tk:=s2.toks) ak hk3 au;have st4:tn 0 ae:=T.keep 0 s2.heap ae st2 λb hb o e=>hk3 b o (get?_push_of_some _ e);have stat:∀{H':Hp},(∀b∈fp,H' b=none)->∀b∈fp,oE (KG X (own++caps) sc (s2.heap.push {cls:=.type "list",data:=.seq ([]:List Value).toArray}).objs.size {s2 with heap:=s2.heap.push {cls:=.type "list",data:=.seq ([]:List Value).toArray}} (upd H2 s2.heap.objs.size (.lst [])) fp) [] H' b:=λ{H'} hn b hb=>by
  obtain ⟨o,e⟩:=ob3 b hb;refine ⟨hn b hb,ne_of_lt (lt_size e),I4.ok.exfs b hb,.inl hb,(I4.ok.exf b hb).2,λp hp=>absurd (show p∈([]:List (Addr × Obj)) from hp) (by simp)⟩
 have loop:∀s4:Shared,s4={s2 with heap:=ae}->
   codeAny (model X.prog X.w) X.A (.compLoop (.ListComp elt [⟨target,iter,ifs,0⟩] sc pos) 0 (.ref it) (.ref s2.heap.objs.size) (compEnvC sc (mU sc (s2.heap.push {cls:=.type "list",data:=.seq ([]:List Value).toArray}).objs.size X.env) (s2.heap.push {cls:=.type "list",data:=.seq ([]:List Value).toArray}).objs.size X.env))
    (compPost (model X.prog X.w) X.A X.xe use QQ (.ref s2.heap.objs.size) (s2.heap.push {cls:=.type "list",data:=.seq ([]:List Value).toArray}).objs.size) s4:=by
  rintro s4 rfl;refine yA (λn s'=>∃i σ' H',Inv (KG X (own++caps) sc (s2.heap.push {cls:=.type "list",data:=.seq ([]:List Value).toArray}).objs.size {s2 with heap:=s2.heap.push {cls:=.type "list",data:=.seq ([]:List Value).toArray}} (upd H2 s2.heap.objs.size (.lst [])) fp) [] σ' H' s'/\tn i s'.heap/\(∀b∈fp,H' b=none)/\W i n σ' H') ?_ m0
   ⟨0,_,_,I4,st4,λb hb=>(f3 b hb).1,w0⟩
  rintro n s5 ⟨i,σ5,H5,I5,st5,fr5,w5⟩;rcases turn i n σ5 H5 w5 with ⟨stop,qn⟩|⟨go,step⟩
  ·refine wpAny_mono (T.done (KG X (own++caps) sc _ _ _ fp) rfl rfl rfl hc i [] s5 σ5 H5 (λ_ _=>False) I5 (stat fr5) st5 stop) (λr s6 ⟨hr,I6⟩=>?_) λ_ _ z=>z.elim;subst hr;obtain ⟨m,hn,_⟩:=I6.loc;have IX:Inv X pins σ H5 s6:=I3.call' (s':=s6) I6.os I6.base I6.hok I6.bare (ch:=fp) λb hb=>by
    obtain ⟨_,n1,_,n3,n4,n5⟩:=f3 b hb;exact ⟨n3,n1,n4,n5⟩
   have lt3:∀{b:Addr} {o:Obj},(s2.heap.push {cls:=.type "list",data:=.seq ([]:List Value).toArray}).get? b=some o->b≠(s2.heap.push {cls:=.type "list",data:=.seq ([]:List Value).toArray}).objs.size:=λe=>ne_of_lt (lt_size e);refine fin _ _ H5 s6 m IX hn I6.free I3.sz (ne_of_lt I3.lt) (λx c e=>?_) (λp hp=>lt3 (I3.pin p hp).1) qn;obtain ⟨v,o,e',_⟩:=I3.cell x c e;exact lt3 e'
  ·refine wpAny_mono (T.item (KG X (own++caps) sc _ _ _ fp) rfl rfl rfl hc i [] s5 σ5 H5 (λ_ _=>False) I5 (stat fr5) st5 go) (λr s6 ⟨u,hr,h6⟩=>?_) λ_ _ z=>z.elim;subst hr;refine wpAny_mono h6 (λ_ s7 ⟨x,H7,I7,r7,y7,st7,fr7⟩=>?_) λ_ _ z=>z.elim;have I7':=I7.pinned (stat fr7) (T.obj _ _ st7);refine wpAny_mono (hg _ _ _ _ _ s7 σ5 H7 x u _ I7' r7 (step x H7 y7)) (λ_ s8 ⟨σ8,H8,I8,q8⟩=>?_) λ_ _ z=>z.elim;refine wpAny_mono ((ht _ _ _ _).run I8 q8) (λb s8' ⟨H8',I8',q8'⟩=>?_) λ_ _ z=>z.elim;have back:∀{σ9:St} {H9:Hp} {s9:Shared},Inv (KG X (own++caps) sc (s2.heap.push {cls:=.type "list",data:=.seq ([]:List Value).toArray}).objs.size {s2 with heap:=s2.heap.push {cls:=.type "list",data:=.seq ([]:List Value).toArray}} (upd H2 s2.heap.objs.size (.lst [])) fp) ([]++rH fp s7.heap) σ9 H9 s9->tn (i+1) s9.heap/\∀b∈fp,H9 b=none:=λ{σ9 H9 s9} I9=>
    ⟨T.keep _ _ _ st7 λb hb o e=>(I9.pin (b,o) (mem_append_right _ (mem_append_right _ (gP hb e)))).1,λb hb=>by
     obtain ⟨o,e,d⟩:=T.obj _ _ st7 b hb
     exact (I9.pin (b,o) (mem_append_right _ (mem_append_right _ (gP hb e)))).2.1⟩
   cases b with
   |false=>
    rw[if_neg Bool.false_ne_true];obtain ⟨m',hm,w9⟩:=q8'.2 rfl;exact ⟨m',hm,i+1,σ8,_,I8'.unpinned,(back I8').1,(back I8').2,w9⟩
   |true=>
    rw[if_pos rfl];refine wpAny_mono (he _ _ _ _ _ s8' σ8 H8' _ I8' (q8'.1 rfl)) (λyv s9 ⟨y,H9,I9,r9,xs,hx,hz,m',hm,w9⟩=>?_) λ_ _ z=>z.elim;refine wpAny_mono (uW (X:=KG X (own++caps) sc _ _ _ fp) _ s9 σ8 H9 (.ref s2.heap.objs.size) [y] (.ref s2.heap.objs.size) [yv] (λv Hn=>v=.non/\Hn=upd H9 s2.heap.objs.size (.lst (xs++[y]))) I9 rfl (.cons r9 .nil) ⟨_,xs,y,rfl,rfl,hx,hz,rfl,rfl⟩)
     (λv s10 ⟨v10,H10,I10,r10,q10⟩=>?_) λ_ _ z=>z.elim
    obtain ⟨_,rfl⟩:=q10;exact ⟨m',hm,i+1,σ8,_,I10.unpinned,(back I10).1,(back I10).2,w9⟩
 exact codeAny_compStart_list (loop _ rfl) (T.self _ 0 _ _ _ st4 (loop _ rfl))
end
end L2.L3
namespace L2.Na
open PySem PySem.Spec PyProof.Rows L2 L2.L3
theorem Inv.turnedN {X:Cx} {pins:List (Addr × Obj)} {σ:St} {H:Hp} {s:Shared} {h':Heap} {t':Nat} {fp:List Addr} (I:Inv X pins σ H s) (k:∀b o,b∉fp->s.heap.get? b=some o->h'.get? b=some o) (hf:∀b∈fp,oE X pins H b):Inv X pins σ H {s with heap:=h',toks:=t'}:=by
 have nit:∀b u,H b=some u->b∉fp:=λb u e z=>by rw[(hf b z).1] at e;cases e
 refine I.step (g':=s.gens) (d':=s.drawn) (ch:=fp) (λb hb=>?_) (λb o _ _ hc e _=>k b o hc e) (λb o _ _ hc e _=>⟨o.slots,k b o hc e⟩) (λ_ _ _ _ n=>n)
  (λb o hc e=>⟨o,k b o hc e⟩) (λ_ _ e=>e) (λ_ _ _ e=>e) (λb ps e=>⟨#[],by rw[e];simp⟩) (λm hm=>?_) (λb u e=>?_) I.bare
 ·obtain ⟨_,hL,_,h1,h2,h3⟩:=hf b hb;exact ⟨h1,hL,h2,h3⟩
 ·obtain ⟨o,es,ep,ho,r⟩:=hm;exact ⟨o,es,ep,k _ o (λz=>(hf _ z).2.1 rfl) ho,r⟩
 ·refine (I.hok b u e).stay (λc v hc q=>k c v ?_ q) (λ_ q=>q) λ_ _ q=>q;rcases hc with z|z
  ·rw[z];exact nit b u e
  ·exact nit c _ z
def Nu (K:Fg) (a b:Addr):It:=
 ⟨λi H=>∃xs ys x y,aH K H a xs/\aH K H b ys/\xs[i]?=some x/\ys[i]?=some y,
  λi H v H'=>∃p x y,H p=none/\v=.ref p/\H'=upd H p (.tup [x,y])/\(∀xs,aH K H a xs->xs[i]?=some x)/\∀ys,aH K H b ys->ys[i]?=some y,
  λi H=>∃xs ys,aH K H a xs/\aH K H b ys/\(xs.length<=i\/ys.length<=i)⟩
structure EE (z TI TO i1 i2:Addr):Prop where
 TIz:TI≠z
 TOz:TO≠z
 i1z:i1≠z
 i2z:i2≠z
 TITO:TI≠TO
 TIi1:TI≠i1
 TIi2:TI≠i2
 TOi1:TO≠i1
 TOi2:TO≠i2
 i12:i1≠i2
theorem jE {h:Heap} {a b:Addr} {o u:Obj} {m n:String} (e1:h.get? a=some o) (e2:h.get? b=some u) (c1:o.cls=.type m) (c2:u.cls=.type n) (hn:m≠n):a≠b:=λz=>by
 subst z;rw[e1] at e2;cases e2;rw[c1] at c2;exact hn (by simpa using c2)
def Nl (z TI TO i1 i2 a b:Addr) (i:Nat) (h:Heap):Prop:=IsZip h z TI TO .none/\IsPair h TI (.ref i1) (.ref i2)/\(∃u v,IsPair h TO u v)/\h.IsListIter i1 a i/\h.IsListIter i2 b i
theorem Nl.apart {z TI TO i1 i2 a b:Addr} {i:Nat} {h:Heap} {xs ys:Array Value} (Z:EE z TI TO i1 i2) (t:Nl z TI TO i1 i2 a b i h) (h1:h.IsList a xs) (h2:h.IsList b ys):ZipApart z TI TO i1 i2 a b:=by
 obtain ⟨hz,_,⟨u,v,hTO⟩,⟨o1,e1,c1,_⟩,⟨o2,e2,c2,_⟩⟩:=t;obtain ⟨oa,ea,ca,_⟩:=h1;obtain ⟨ob,eb,cb,_⟩:=h2;exact ⟨Z.TIz,Z.TOz,Z.i1z,Z.i2z,Z.TITO,Z.TIi1,Z.TIi2,Z.TOi1,Z.TOi2,Z.i12,
  jE ea hz ca rfl (by decide),jE ea hTO ca rfl (by decide),jE ea e1 ca c1 (by decide),jE ea e2 ca c2 (by decide),
  jE eb hz cb rfl (by decide),jE eb hTO cb rfl (by decide),jE eb e1 cb c1 (by decide),jE eb e2 cb c2 (by decide)⟩
theorem LJ {P:Program} {w:World} {K:Fg} {elts:List Expr} {k:Nat} {pos:Pos} (a b z TI TO i1 i2:Addr) (Z:EE z TI TO i1 i2):Turn P w K (.Tuple elts k pos) (Nu K a b) [z,TI,TO,i1,i2] z (Nl z TI TO i1 i2 a b) where
 mem:=by simp
 obj:=λi h st c hc=>by
  obtain ⟨hz,hTI,⟨u,v,hTO⟩,⟨o1,e1,c1,d1⟩,⟨o2,e2,c2,d2⟩⟩:=st;simp only [mem_cons,not_mem_nil,or_false] at hc;rcases hc with rfl|rfl|rfl|rfl|rfl
  ·exact ⟨_,hz,λ_ q=>by have q':Data.fields _=Data.cell _:=q;cases q'⟩
  ·exact ⟨_,hTI,λ_ q=>by have q':Data.seq _=Data.cell _:=q;cases q'⟩
  ·exact ⟨_,hTO,λ_ q=>by have q':Data.seq _=Data.cell _:=q;cases q'⟩
  ·exact ⟨_,e1,λ_ q=>by rw[d1] at q;cases q⟩
  ·exact ⟨_,e2,λ_ q=>by rw[d2] at q;cases q⟩
 keep:=λi h h' st kp=>by
  obtain ⟨hz,hTI,⟨u,v,hTO⟩,l1,l2⟩:=st;exact ⟨kp z (by simp) _ hz,kp TI (by simp) _ hTI,⟨u,v,kp TO (by simp) _ hTO⟩,l1.at λo e=>kp i1 (by simp) o e,l2.at λo e=>kp i2 (by simp) o e⟩
 item:=by
  intro X hP hw hK hc i pins s σ H E I hf st hg;subst hP hw hK;obtain ⟨xs,ys,x,y,hqa,hqb,hx,hy⟩:=hg;obtain ⟨ia,ra,pa,_⟩:=I.list hqa;obtain ⟨ib,rb,pb,_⟩:=I.list hqb;obtain ⟨u,hu,ru⟩:=ra.get hx;obtain ⟨v,hv,rv⟩:=rb.get hy;have D:=Nl.apart Z st pa.isList pb.isList;obtain ⟨hz,hTI,⟨u0,v0,hTO⟩,l1,l2⟩:=st;refine wpAny_pyNext_zip_item D hz hTI hTO l1 l2 pa.isList pb.isList (x:=u) (y:=v) (by simpa using hu) (by simpa using hv) λh' a1 a2 a3 a4 a5 a6 hk=>?_;refine ⟨_,rfl,?_⟩;refine wpAny_letOwnedTupleGo_zip (s:={s with heap:=h'}) a1 λh2 z2 sb=>?_;have fr:H s.heap.objs.size=none:=I.hok.fresh (Nat.le_refl _);have zlt:z<s.heap.objs.size:=lt_size hz;have k2:∀c o,c∉[z,TI,TO,i1,i2]->s.heap.get? c=some o->h2.get? c=some o:=λc o hc' e=>by
   simp only [mem_cons,not_mem_nil,or_false,not_or] at hc';exact sb.extBut _ _ hc'.1 (hk c o hc'.1 hc'.2.2.1 hc'.2.2.2.1 hc'.2.2.2.2 e)
  have T2:IsPair h2 s.heap.objs.size u v:=sb.extBut _ _ (ne_of_gt zlt) a5;have ne:∀c∈[z,TI,TO,i1,i2],c≠s.heap.objs.size:=λc hc'=>by
   obtain ⟨o,e⟩:∃o,s.heap.get? c=some o:=by
    simp only [mem_cons,not_mem_nil,or_false] at hc';obtain ⟨o1,e1,_⟩:=l1;obtain ⟨o2,e2,_⟩:=l2;rcases hc' with rfl|rfl|rfl|rfl|rfl
    ·exact ⟨_,hz⟩
    ·exact ⟨_,hTI⟩
    ·exact ⟨_,hTO⟩
    ·exact ⟨_,e1⟩
    ·exact ⟨_,e2⟩
   exact ne_of_lt (lt_size e)
  have I0:Inv X pins σ (upd H s.heap.objs.size (.tup [x,y])) {s with heap:=s.heap.push {cls:=.type "tuple",data:=.seq #[u,v]}}:=
   I.laid (t':=s.toks) (λc o e=>get?_push_of_some _ e) (Nat.le_refl _) (show aX X.prog X.w _ _ _ (.tup [x,y]) from ⟨by show 2<=sizeLine;decide,[u,v],.cons ru (.cons rv .nil),IsTup.new _ _⟩)
  have hf':∀c∈[z,TI,TO,i1,i2],oE X pins (upd H s.heap.objs.size (.tup [x,y])) c:=λc hc'=>⟨by rw[aE (ne c hc')];exact (hf c hc').1,(hf c hc').2⟩;have I1:Inv X pins σ (upd H s.heap.objs.size (.tup [x,y])) {s with heap:=h2}:=Inv.turnedN (s:={s with heap:=s.heap.push {cls:=.type "tuple",data:=.seq #[u,v]}}) (t':=s.toks) I0 (λc o hc' e=>by
   rcases Heap.get?_push_cases e with ⟨hcs,ho⟩|e
   ·subst hcs ho
    exact T2
   ·exact k2 c o hc' e) hf'
  exact ⟨.ref s.heap.objs.size,_,I1,rfl,⟨_,x,y,fr,rfl,rfl,λxs' h'=>by rw[I.list_inj h' hqa];exact hx,λys' h'=>by rw[I.list_inj h' hqb];exact hy⟩,
   ⟨z2,sb.extBut _ _ Z.TIz (hk _ _ Z.TIz Z.TITO Z.TIi1 Z.TIi2 hTI),⟨_,_,sb.extBut _ _ Z.TOz a2⟩,a3.at λo e=>sb.extBut _ _ Z.i1z e,a4.at λo e=>sb.extBut _ _ Z.i2z e⟩,λc hc'=>(hf' c hc').1⟩
 done:=by
  intro X hP hw hK hc i pins s σ H E I hf st hg;subst hP hw hK;obtain ⟨xs,ys,hqa,hqb,hx⟩:=hg;obtain ⟨ia,ra,pa,_⟩:=I.list hqa;obtain ⟨ib,rb,pb,_⟩:=I.list hqb;have D:=Nl.apart Z st pa.isList pb.isList;obtain ⟨hz,hTI,⟨u0,v0,hTO⟩,l1,l2⟩:=st;have n1:=ra.length;have n2:=rb.length;refine wpAny_pyNext_zip_end (I.ok.hd hc) D hz hTI hTO l1 l2 pa.isList pb.isList (by rcases hx with hx|hx;exact .inl (by simp;lia);exact .inr (by simp;lia)) λh' hk=>⟨rfl,Inv.turnedN (t':=s.toks) I (λc o hc' e=>?_) hf⟩;simp only [mem_cons,not_mem_nil,or_false,not_or] at hc';exact hk c o hc'.1 hc'.2.2.1 hc'.2.2.2.1 hc'.2.2.2.2 e
 self:=λ_ _ _ _ _ st h=>wpAny_pyIter_zip st.1 h
end L2.Na
namespace L2.L3
open PySem PySem.Spec PyProof.Rows L2 PySem.SeqAt
def Eqv:Nat->Hp->V->V->Prop
 |0,_,x,y=>(∃i,x=.int i/\y=.int i)\/(∃z,x=.str z/\y=.str z)\/(x=.non/\y=.non)
 |n+1,H,x,y=>Eqv n H x y\/∃p q xs ys,x=.ref p/\y=.ref q/\((H p=some (.lst xs)/\H q=some (.lst ys))\/(H p=some (.tup xs)/\H q=some (.tup ys)))/\xs.length=ys.length/\∀(i:Nat) (x y:V),xs[i]?=some x->ys[i]?=some y->Eqv n H x y
section
variable {X:Cx} {pins:List (Addr × Obj)} {σ:St} {H:Hp} {s:Shared}
theorem all_true (n:Nat):(range n).all (λ_=>true)=true:=all_eq_true.mpr λ_ _=>rfl
theorem pI (r:Vals xs us) (h:j<us.toArray.size):∃x,xs[j]?=some x/\RelV x us.toArray[j]:=by
 have hj:j<us.length:=by simpa using h
 have hx:j<xs.length:=by rw[r.length];exact hj
 obtain ⟨u,h1,h2⟩:=r.get (getElem?_eq_getElem hx);have e:us.toArray[j]=u:=by
  rw[getElem?_eq_getElem hj] at h1;simpa using Option.some.inj h1
 exact ⟨xs[j],getElem?_eq_getElem hx,by rw[e];exact h2⟩
theorem eJ (r1:Vals xs us) (r2:Vals ys vs) (hi:∀(i:Nat) (x y:V),xs[i]?=some x->ys[i]?=some y->Eqv n H x y)
  (ih:∀(x y:V) (u v:Value),Eqv n H x y->RelV x u->RelV y v->EqAt A s u v true):∀j (h1:j<us.toArray.size) (h2:j<vs.toArray.size),EqAt A s us.toArray[j] vs.toArray[j] ((λ_=>true) j):=λj h1 h2=>by
 obtain ⟨x,e1,q1⟩:=pI r1 h1;obtain ⟨y,e2,q2⟩:=pI r2 h2;exact ih x y _ _ (hi j x y e1 e2) q1 q2
theorem kZ (I:Inv X pins σ H s):∀(n:Nat) (A:Around) (x y:V) (u v:Value),A.units+n<cLine->Eqv n H x y->RelV x u->RelV y v->EqAt A s u v true
 |0,A,x,y,u,v,hu,h,r1,r2=>by
  rcases h with ⟨i,rfl,rfl⟩|⟨z,rfl,rfl⟩|⟨rfl,rfl⟩
  ·obtain ⟨t,rfl⟩:=r1;obtain ⟨t2,rfl⟩:=r2;have e:=EqAt.int_int (A:=A) (s:=s) i t i t2;rwa [beq_self_eq_true] at e
  ·obtain ⟨t,rfl⟩:=r1;obtain ⟨t2,rfl⟩:=r2;have e:=EqAt.str_str (A:=A) (s:=s) z t z t2;rwa [beq_self_eq_true] at e
  ·cases r1;cases r2;exact EqAt.same _
 |n+1,A,x,y,u,v,hu,.inl h,r1,r2=>kZ I n A x y u v (by lia) h r1 r2
 |n+1,A,x,y,u,v,hu,.inr ⟨p,q,xs,ys,e1,e2,hh,hl,hi⟩,r1,r2=>by
  subst e1 e2;cases r1;cases r2;by_cases e:p=q
  ·subst e;exact EqAt.same _
  refine EqAt.of_refs e ?_;have hu1:A.in1.units+n<cLine:=by show A.units+1+n<cLine;lia
  rcases hh with ⟨h1,h2⟩|⟨h1,h2⟩
  ·obtain ⟨_,its,n1,k1,l1,g1⟩:=I.lstM h1;obtain ⟨_,its2,n2,k2,l2,g2⟩:=I.lstM h2;have z:=RcAt.lists (A:=A) (e:=λ_=>true) (⟨_,g1,rfl,n1,rfl⟩:s.heap.IsList p its.toArray) (⟨_,g2,rfl,n2,rfl⟩:s.heap.IsList q its2.toArray) (by rw[size_toArray,size_toArray];lia) (by lia)
    (eJ k1 k2 hi λx y u v=>kZ I n A.in1 x y u v hu1)
   rwa [all_true] at z
  ·obtain ⟨its,k1,p1,_⟩:=I.tuple (bX.of h1);obtain ⟨its2,k2,p2,_⟩:=I.tuple (bX.of h2);have z:=RcAt.tuples (A:=A) (e:=λ_=>true) (show s.heap.IsTuple p its.toArray from p1) (show s.heap.IsTuple q its2.toArray from p2) (by lia)
    (eJ k1 k2 hi λx y u v=>kZ I n A.in1 x y u v hu1)
   have e3:its.toArray.size=its2.toArray.size:=by rw[size_toArray,size_toArray,<-k1.length,<-k2.length];exact hl
   rwa [all_true,e3,beq_self_eq_true,Bool.true_and] at z
def Oa (n:Nat) (H:Hp) (p q:Addr):Prop:=∃xs ys,((H p=some (.lst xs)/\H q=some (.lst ys))\/(H p=some (.tup xs)/\H q=some (.tup ys)))/\xs.length=ys.length/\∀(i:Nat) (x y:V),xs[i]?=some x->ys[i]?=some y->Eqv n H x y
def Jt:R2:=λx y H Q=>∃p q n,x=.ref p/\y=.ref q/\n<=40/\Oa n H p q/\Q (.bl true) H
def Jo:R2:=λx y H Q=>∃p q n,x=.ref p/\y=.ref q/\n<=40/\Oa n H p q/\Q (.bl false) H
theorem Cz (hu:X.A.units+64<cLine):gH X (compareOp .Eq) Jt:=by
 intro pins s σ H x y v u Q I rx ry h;obtain ⟨p,q,n,rfl,rfl,hn,⟨xs,ys,hh,hl,hi⟩,qq⟩:=h;cases rx;cases ry;have hu1:X.A.in1.units+n<cLine:=by show X.A.units+1+n<cLine;lia
 rcases hh with ⟨h1,h2⟩|⟨h1,h2⟩
 ·obtain ⟨_,its,n1,k1,l1,g1⟩:=I.lstM h1;obtain ⟨_,its2,n2,k2,l2,g2⟩:=I.lstM h2;have z:=RcAt.lists (A:=X.A) (e:=λ_=>true) (⟨_,g1,rfl,n1,rfl⟩:s.heap.IsList p its.toArray) (⟨_,g2,rfl,n2,rfl⟩:s.heap.IsList q its2.toArray) (by rw[size_toArray,size_toArray];lia) (by lia)
   (eJ k1 k2 hi λx y u v=>kZ I n X.A.in1 x y u v hu1)
  rw[all_true] at z;exact z X.prog X.w X.xe _ ⟨.bl true,H,I,rfl,qq⟩
 ·obtain ⟨its,k1,p1,_⟩:=I.tuple (bX.of h1);obtain ⟨its2,k2,p2,_⟩:=I.tuple (bX.of h2);have z:=RcAt.tuples (A:=X.A) (e:=λ_=>true) (show s.heap.IsTuple p its.toArray from p1) (show s.heap.IsTuple q its2.toArray from p2) (by lia)
   (eJ k1 k2 hi λx y u v=>kZ I n X.A.in1 x y u v hu1)
  have e3:its.toArray.size=its2.toArray.size:=by rw[size_toArray,size_toArray,<-k1.length,<-k2.length];exact hl
  rw[all_true,e3,beq_self_eq_true,Bool.true_and] at z;exact z X.prog X.w X.xe _ ⟨.bl true,H,I,rfl,qq⟩
def Js:R2:=λx y H Q=>∃p q xs ys,x=.ref p/\y=.ref q/\H p=some (.lst xs)/\H q=some (.lst ys)/\xs.length≠ys.length/\Q (.bl false) H
theorem Cw (hu:X.A.units+64<cLine):gH X (compareOp .Eq) Js:=by
 intro pins s σ H x y v u Q I rx ry h;obtain ⟨p,q,xs,ys,rfl,rfl,h1,h2,hl,qq⟩:=h;cases rx;cases ry;obtain ⟨_,its,n1,k1,l1,g1⟩:=I.lstM h1;obtain ⟨_,its2,n2,k2,l2,g2⟩:=I.lstM h2;have hne:(its.toArray.size != its2.toArray.size)=true:=by
  rw[size_toArray,size_toArray,<-l1,<-l2];exact bne_iff_ne.mpr hl
 exact RcAt.lists_lengths (A:=X.A) (⟨_,g1,rfl,n1,rfl⟩:s.heap.IsList p its.toArray) (⟨_,g2,rfl,n2,rfl⟩:s.heap.IsList q its2.toArray) hne (by lia) X.prog X.w X.xe _ ⟨.bl false,H,I,rfl,qq⟩
theorem Cs (hu:X.A.units+64<cLine):gH X (compareOp .NotEq) Jo:=by
 intro pins s σ H x y v u Q I rx ry h;obtain ⟨p,q,n,rfl,rfl,hn,⟨xs,ys,hh,hl,hi⟩,qq⟩:=h;cases rx;cases ry;have hu1:X.A.in1.units+n<cLine:=by show X.A.units+1+n<cLine;lia
 rcases hh with ⟨h1,h2⟩|⟨h1,h2⟩
 ·obtain ⟨_,its,n1,k1,l1,g1⟩:=I.lstM h1;obtain ⟨_,its2,n2,k2,l2,g2⟩:=I.lstM h2;have z:=RcNeAt.lists (A:=X.A) (e:=λ_=>true) (⟨_,g1,rfl,n1,rfl⟩:s.heap.IsList p its.toArray) (⟨_,g2,rfl,n2,rfl⟩:s.heap.IsList q its2.toArray) (by rw[size_toArray,size_toArray];lia) (by lia)
   (eJ k1 k2 hi λx y u v=>kZ I n X.A.in1 x y u v hu1)
  rw[all_true] at z;exact z X.prog X.w X.xe _ ⟨.bl false,H,I,rfl,qq⟩
 ·obtain ⟨its,k1,p1,_⟩:=I.tuple (bX.of h1);obtain ⟨its2,k2,p2,_⟩:=I.tuple (bX.of h2);have z:=RcNeAt.tuples (A:=X.A) (e:=λ_=>true) (show s.heap.IsTuple p its.toArray from p1) (show s.heap.IsTuple q its2.toArray from p2) (by lia)
   (eJ k1 k2 hi λx y u v=>kZ I n X.A.in1 x y u v hu1)
  have e3:its.toArray.size=its2.toArray.size:=by rw[size_toArray,size_toArray,<-k1.length,<-k2.length];exact hl
  rw[all_true,e3,beq_self_eq_true,Bool.true_and] at z;exact z X.prog X.w X.xe _ ⟨.bl false,H,I,rfl,qq⟩
def Jn:R2:=λx y H Q=>∃p q xs ys,x=.ref p/\y=.ref q/\H p=some (.lst xs)/\H q=some (.lst ys)/\xs.length≠ys.length/\Q (.bl true) H
theorem Cr (hu:X.A.units+64<cLine):gH X (compareOp .NotEq) Jn:=by
 intro pins s σ H x y v u Q I rx ry h;obtain ⟨p,q,xs,ys,rfl,rfl,h1,h2,hl,qq⟩:=h;cases rx;cases ry;obtain ⟨_,its,n1,k1,l1,g1⟩:=I.lstM h1;obtain ⟨_,its2,n2,k2,l2,g2⟩:=I.lstM h2;have hne:(its.toArray.size != its2.toArray.size)=true:=by
  rw[size_toArray,size_toArray,<-l1,<-l2];exact bne_iff_ne.mpr hl
 exact RcNeAt.lists_lengths (A:=X.A) (⟨_,g1,rfl,n1,rfl⟩:s.heap.IsList p its.toArray) (⟨_,g2,rfl,n2,rfl⟩:s.heap.IsList q its2.toArray) hne (by lia) X.prog X.w X.xe _ ⟨.bl true,H,I,rfl,qq⟩
def MV (K:Fg):R2:=λx y H Q=>∃a b ys,x=.ref a/\y=.ref b/\bX K H a []/\bX K H b ys/\Q (.ref b) H
theorem NJ:gH X (binaryOp .Add) (MV X.K):=by
 intro pins s σ H x y v u Q I rx ry h;obtain ⟨a,b,ys,rfl,rfl,ha,hb,q⟩:=h;cases rx;cases ry;obtain ⟨its,r1,p1,_⟩:=I.tuple ha;obtain ⟨its2,r2,p2,_⟩:=I.tuple hb;have e:its=[]:=r1.nil_iff.mpr rfl;subst e;obtain ⟨⟨cls,dd,data,sl⟩,ho,hc,n,hd⟩:=id p1;obtain ⟨⟨cls2,dd2,data2,sl2⟩,ho2,hc2,n2,hd2⟩:=id p2;simp only at hc hd hc2 hd2;subst hc hd hc2 hd2;exact concat_meets ⟨_,ho,rfl⟩ ⟨_,ho2,rfl⟩ noFill_tuple_add seq_tuple_add PySem.F.slot_tuple_add PySem.F.entry_tuple_add (PySem.F.args_tuple_add_2 _ _)
  (tuple_addW0 a b [].toArray its2.toArray n n2 dd dd2 sl sl2 rfl) ⟨ho,ho2,⟨.ref b,H,I,rfl,q⟩⟩
def SR (z:Str) (k:Int):Prop:=0<=k/\k<2 ^ 31/\z.length * k.toNat<=sizeLine
theorem UU:gH X (binaryOp .Mult) (λx y H Q=>∃i k,x=.str i/\y=.int k/\SR i k/\Q (.str (mul i k)) H):=by
 intro pins s σ H x y v u Q I rx ry h;obtain ⟨i,k,rfl,rfl,⟨h1,h2,h3⟩,q⟩:=h;obtain ⟨t,rfl⟩:=rx;obtain ⟨t',rfl⟩:=ry;have e1:(decide (k< -(2 ^ 63:Int)) || decide (k>=2 ^ 63))=false:=by
  rw[decide_eq_false (by lia),decide_eq_false (by lia)];rfl
 have hs:(sizeLine:Nat)<=2 ^ 40:=by rw[sizeLine_eq];decide
 refine SB.mul ⟨e1,λg1 _ c=>?_,λg1 _=>?_⟩ (λt' tk=>⟨.str (mul i k),H,I.tok _,⟨_,rfl⟩,q⟩)
 ·have c1:(2 ^ 63 - 1) / k<(i.length:Int):=c;have c2:¬(i.length:Int)<=(2 ^ 63 - 1) / k:=by lia
  refine c2 ((Int.le_ediv_iff_mul_le (by lia)).mpr ?_);have e:((i.length * k.toNat:Nat):Int)=(i.length:Int) * k:=by rw[Int.natCast_mul,Int.toNat_of_nonneg (by lia)]
  lia
 ·show decide _=false;exact decide_eq_false (by lia)
def Ow (i j:Int):Prop:=0<=j/\(Builtin.Int.intBits i:Int) * j<=2 ^ 27
def Rc (_ j:Int):Prop:=0<j/\j<2 ^ 64
theorem NI:gH X (binaryOp .FloorDiv) (rI Rc λi j=>.int (i / j)):=Of λi j _ _ _ _ _ hc q=>by
 have h1:(0:Int)<j:=hc.1;have h2:j<2 ^ 64:=hc.2;refine floordiv_int (by lia) (by rw[Int.fdiv_eq_ediv_of_nonneg i (by lia)];exact q) (.inl (PyProof.noPylong_of_log2 ?_));have h3:j.natAbs.log2<64:=(Nat.log2_lt (by lia)).mpr (by lia);lia
theorem UW:gH X (binaryOp .Mult) (rI IntMulOk λi j=>.int (i * j)):=Of λ_ _ _ _ _ _ _ hc q=>mul_int q hc
theorem UR:gH X (binaryOp .Pow) (rI Ow λi j=>.int (i ^ j.toNat)):=Of λ_ _ _ _ _ _ _ hc q=>pow_int hc.1 hc.2 q
end
end L2.L3
namespace L2.Na
open PySem PySem.Spec PyProof.Rows L2 L2.L3
theorem sQ (o:Obj) (f:Array Value->Array Value):(o.mapFields f).dict=o.dict:=by
 unfold Obj.mapFields;split<;>rfl
def Se (h B:Heap) (e:Addr) (c:Value) (dx:Option Addr) (fl:Value):Prop:=
 ∃oe vs T oT ts,h.get? e=some oe/\oe.cls=c/\oe.dict=dx/\oe.data=.fields vs/\vs[1]?=some (.ref T)/\B.get? T=none/\T≠e/\h.get? T=some oT/\oT.data=.fields ts/\ts[3]?=some fl
structure Qz (B:Heap) (l:List Env) (e:Addr) (c:Value) (dx:Option Addr) (fl:Value) (h h':Heap):Prop where
 stay:B.StaysIn h'
 frames:h'.FunFrames B l
 tr:Se h' B e c dx fl
 slots:h.UpToSlots h'
structure eZ (B:Heap) (l:List Env) (e:Addr) (c:Value) (dx:Option Addr) (fl:Value) (h:Heap):Prop where
 stay:B.StaysIn h
 new:B.get? e=none
 frames:h.FunFrames B l
 tr:Se h B e c dx fl
section
variable {M:Model} {A:Around} {E:Value->Shared->Prop} {s:Shared} {B:Heap} {env:Env} {outer:List Env} {L e:Addr} {Q:Unit->Shared->Prop}
theorem DV (fr:A.frames=some (env::outer)) (ff:s.heap.FunFrames B (env::outer)) (ef:env.frame=some L) (ef2:env2.frame=some L)
  (h:∀h',Heap.SlotsOnly ((env::outer).filterMap (·.frame)) s.heap h'->R (.ref L) {s with heap:=h'}):wpAny M A (PySem.frameOf env2) R E s:=by
 unfold PySem.frameOf;refine wpAny_bind (wpAny_frameEnvs fr ?_);have hdw:((env::outer).dropWhile λx=>x.frame != env2.frame)=env::outer:=by simp [List.dropWhile,ef,ef2]
 rw[hdw];unfold frameObject;refine wpAny_bind (wpAny_bind (wpAny_readyFrames_fun ff λae bc=>wpAny_pure ?_));rw[ef];exact wpAny_pure (h ae bc)
theorem vK (fr:A.frames=some (env::outer)) (ff:s.heap.FunFrames B (env::outer)) (ef:env.frame=some L) (ef2:env2.frame=some L) (eo:s.heap.get? e=some oe) (st:B.StaysIn s.heap)
  (en:B.get? e=none) (dt:oe.data=.fields vs) (sz:1<vs.size) (k:∀g,Qz B (env::outer) e oe.cls oe.dict (rawInt L) s.heap g->Q () {s with heap:=g}):
  wpAny M A (do let a <-frameOf env2;let pl <-entryPlaceOf L nx;let b <-EntryCells.newEntry hd0 a .none (rawInt L) .none pl;setField (.ref e) 1 b) Q E s:=by
 have nf:e∉(env::outer).filterMap (·.frame):=λm=>by
  obtain ⟨_,o,ho,n⟩:=ff.mem m;rw[eo] at ho;cases ho;exact n vs dt
 refine wpAny_bind (DV fr ff ef ef2 λg1 s1=>wpAny_bind (wpAny_entryPlaceOf λpl ip=>?_));unfold EntryCells.newEntry newFields;refine wpAny_bind (wpAny_newObj_type ?_ (ip.sizeOk5 _ _ _ _ _));have e1:g1.get? e=some oe:=by rw[s1.2.1 e nf];exact eo
 have b1:B.StaysIn g1:=λb o q=>by
  rw[s1.2.1 b λm=>by rw[(ff.mem m).1] at q;cases q];exact st b o q
 generalize ho:({cls:=.type "traceback",dict:=none,data:=.fields ([hd0,.ref L,.none,rawInt L,.none]++(if pl.isEmpty then replicate 6 Value.none else pl)).toArray}:Obj)=ot;have od:ot.data=.fields ([hd0,.ref L,.none,rawInt L,.none]++(if pl.isEmpty then replicate 6 Value.none else pl)).toArray:=by rw[<-ho]
 have of3:([hd0,.ref L,.none,rawInt L,.none]++(if pl.isEmpty then replicate 6 Value.none else pl)).toArray[3]?=some (rawInt L):=by simp
 have onf:ot.isFreed=false:=Obj.isFreed_of_fields od;have e2:(g1.push ot).get? e=some oe:=get?_push_of_some _ e1;have ne:g1.objs.size≠e:=ne_of_gt (lt_size e1);refine wpAny_setField e2 dt sz (k _ ?_);have d3:(oe.mapFields (·.setIfInBounds 1 (Value.ref g1.objs.size))).data=.fields (vs.setIfInBounds 1 (Value.ref g1.objs.size)):=Obj.data_mapFields dt _;have e3:((g1.push ot).update e (Obj.mapFields (·.setIfInBounds 1 (Value.ref g1.objs.size)))).get? e=some (oe.mapFields (·.setIfInBounds 1 (Value.ref g1.objs.size))):=get?_update_self _ e2 (Obj.isFreed_of_fields d3);have kp:∀b o,b≠e->g1.get? b=some o->((g1.push ot).update e (Obj.mapFields (·.setIfInBounds 1 (Value.ref g1.objs.size)))).get? b=some o:=λb o hb q=>by
  rw[get?_update_other _ _ hb.symm];exact get?_push_of_some _ q
 have nr:∀b o,s.heap.get? b=some o->(∀ws,o.data≠.fields ws)->b≠e:=λb o q n z=>by
  subst z;rw[eo] at q;cases q;exact n vs dt
 refine ⟨λb o q=>kp b o (λz=>by rw[z,en] at q;cases q) (b1 b o q),ff.of_keeps λb o q n=>?_,⟨_,_,g1.objs.size,ot,_,e3,Obj.cls_mapFields _ _,sQ _ _,d3,by simp [sz],b1.fresh,ne,?_,od,of3⟩,λb o q n=>?_⟩
 ·obtain ⟨sl,z⟩:=s1.2.2 b o q;exact ⟨_,kp b _ (nr b o q n) z,rfl⟩
 ·rw[get?_update_other _ _ ne.symm];exact get?_push_size g1 onf
 ·obtain ⟨sl,z⟩:=s1.2.2 b o q;exact ⟨sl,kp b _ (nr b o q n) z⟩
theorem AG (fr:A.frames=some (env::outer)) (ff:s.heap.FunFrames B (env::outer)) (ef:env.frame=some L) (ef2:env2.frame=some L) (eo:s.heap.get? e=some oe) (st:B.StaysIn s.heap)
  (en:B.get? e=none) (dt:oe.data=.fields vs) (v1:vs[1]?=some .none) (k:∀g,eZ B (env::outer) e oe.cls oe.dict (rawInt L) g->s.heap.UpToSlots g->Q () {s with heap:=g}):wpAny M A (noteFrame (.ref e) env2) Q E s:=by
 unfold noteFrame;simp only [ef2];refine wpAny_bind (wpAny_field eo dt v1 ?_);rw[if_neg (show ¬((Value.none != Value.none)=true) by decide)];exact vK fr ff ef ef2 eo st en dt (Array.getElem?_eq_some_iff.mp v1).1 λg w=>k g ⟨w.stay,en,w.frames,w.tr⟩ w.slots
theorem AH (fr:A.frames=some (env::outer)) (ef:env.frame=some L) (ef2:env2.frame=some L) (F:eZ B (env::outer) e c dx fl s.heap)
  (k:∀g fl',eZ B (env::outer) e c dx fl' g->s.heap.UpToSlots g->Q () {s with heap:=g}):wpAny M A (noteFrame (.ref e) env2) Q E s:=by
 have F0:=F;obtain ⟨st,en,ff,oe,vs,T,oT,ts,eo,rfl,rfl,dt,v1,nT,ne,eT,dT,t3⟩:=F;unfold noteFrame;simp only [ef2];refine wpAny_bind (wpAny_field eo dt v1 ?_);rw[if_pos (show (Value.ref T != Value.none)=true by simp)];refine wpAny_bind (wpAny_field eT dT t3 ?_);by_cases hfl:(fl==rawInt L)=true
 ·rw[if_pos hfl];exact wpAny_pure (k s.heap fl F0 (Heap.UpToSlots.refl _))
 rw[if_neg hfl];refine wpAny_bind (wpAny_setField eT dT (Array.getElem?_eq_some_iff.mp t3).1 ?_);have ot:∀b,b≠T->(s.heap.update T (Obj.mapFields (·.setIfInBounds 3 Value.none))).get? b=s.heap.get? b:=λb hb=>get?_update_other _ _ hb.symm;have nr:∀b o,s.heap.get? b=some o->(∀ws,o.data≠.fields ws)->b≠T:=λb o q n z=>by
  subst z;rw[eT] at q;cases q;exact n ts dT
 refine vK (s:={s with heap:=s.heap.update T (Obj.mapFields (·.setIfInBounds 3 Value.none))}) fr (ff.of_keeps λb o q n=>⟨o,by rw[ot b (nr b o q n)];exact q,rfl⟩) ef ef2 (by show (s.heap.update T _).get? e=_;rw[ot e ne.symm];exact eo)
  (λb o q=>by show (s.heap.update T _).get? b=_;rw[ot b λz=>by rw[z,nT] at q;cases q];exact st b o q) en dt (Array.getElem?_eq_some_iff.mp v1).1 λg w=>k g _ ⟨w.stay,en,w.frames,w.tr⟩ λb o q n=>w.slots b o (by rw[ot b (nr b o q n)];exact q) n
theorem NY (fo:Option Addr) (F:eZ B l e c dx fl s.heap) (k:∀g,eZ B l e c dx (fo.elim Value.none λf=>rawInt f) g->s.heap.UpToSlots g->Q () {s with heap:=g}):wpAny M A (setFlight (.ref e) fo) Q E s:=by
 obtain ⟨st,en,ff,oe,vs,T,oT,ts,eo,hc,hx,dt,v1,nT,ne,eT,dT,t3⟩:=F;have ot:∀b,b≠T->(s.heap.update T (Obj.mapFields (·.setIfInBounds 3 (fo.elim Value.none λf=>rawInt f)))).get? b=s.heap.get? b:=λb hb=>get?_update_other _ _ hb.symm;have nr:∀b o,s.heap.get? b=some o->(∀ws,o.data≠.fields ws)->b≠T:=λb o q n z=>by
  subst z;rw[eT] at q;cases q;exact n ts dT
 have s3:=(Array.getElem?_eq_some_iff.mp t3).1;unfold setFlight;refine wpAny_bind (wpAny_field eo dt v1 ?_);rw[if_pos (show (Value.ref T != Value.none)=true by simp)];refine wpAny_setField eT dT s3 (k _ ⟨λb o q=>?_,en,ff.of_keeps λb o q n=>⟨o,by rw[ot b (nr b o q n)];exact q,rfl⟩,oe,vs,T,_,_,by rw[ot e ne.symm];exact eo,hc,hx,dt,v1,nT,ne,get?_update_self _ eT (Obj.isFreed_of_fields (Obj.data_mapFields dT _)),Obj.data_mapFields dT _,by simp [s3]⟩
  λb o q n=>⟨o.slots,by rw[ot b (nr b o q n)];exact q⟩)
 rw[ot b λz=>by rw[z,nT] at q;cases q];exact st b o q
theorem iY (F:eZ B l e c dx fl s.heap) (k:∀g,eZ B l e c dx .none g->s.heap.UpToSlots g->Q () {s with heap:=g}):wpAny M A (setFlight (.ref e) none) Q E s:=NY none F k
theorem eZ.tail (F:eZ B (env::outer) e c dx fl h):eZ B outer e c dx fl h:=⟨F.stay,F.new,F.frames.2.2,F.tr⟩
theorem leave_new (fr:A.frames=some (env::outer)) (ff:s.heap.FunFrames B (env::outer)) (ef:env.frame=some L) (eo:s.heap.get? e=some oe) (st:B.StaysIn s.heap)
  (en:B.get? e=none) (dt:oe.data=.fields vs) (v1:vs[1]?=some .none) (k:∀g,eZ B outer e oe.cls oe.dict .none g->s.heap.UpToSlots g->Q () {s with heap:=g}):wpAny M A (leaving env (.ref e)) Q E s:=by
 unfold leaving;exact wpAny_bind (AG fr ff ef ef eo st en dt v1 λg F u=>iY F λg2 F2 u2=>k g2 F2.tail (u.trans u2))
theorem IW (fr:A.frames=some (env::outer)) (ef:env.frame=some L) (F:eZ B (env::outer) e c dx fl s.heap)
  (k:∀g,eZ B outer e c dx .none g->s.heap.UpToSlots g->Q () {s with heap:=g}):wpAny M A (leaving env (.ref e)) Q E s:=by
 unfold leaving;exact wpAny_bind (AH fr ef ef F λg _ F1 u=>iY F1 λg2 F2 u2=>k g2 F2.tail (u.trans u2))
end
def lH (P:Program) (w:World):SQ:=λouter H s E ev s'=>∃(e:Addr) (c:Value) (dx:Option Addr) (H':Hp) (B:Heap),ev=.ref e/\s'.os=s.os/\AllBare s'.gens/\Un (dC outer) [] H H' s.heap s'.heap/\dN P w H' s'.heap/\
 (∃fl,eZ B outer e c dx fl s'.heap)/\(∀b o,s.heap.get? b=some o->b∉dC outer->∃u,B.get? b=some u)/\(∀b o,H' b=some o->∃u,B.get? b=some u)/\E c dx H'
theorem lH.no (h:lH P w outer H s E0 ev s'):False:=by
 obtain ⟨_,_,_,_,_,_,_,_,_,_,_,_,_,z⟩:=h;exact z
theorem iH (x:aX P w H h a o):∃u,h.get? a=some u:=by
 induction o with
 |lst xs=>obtain ⟨_,_,_,_,e⟩:=x;exact ⟨_,e⟩
 |tup xs=>obtain ⟨_,_,_,u,e,_⟩:=x;exact ⟨_,e⟩
 |dK kvs=>obtain ⟨_,_,_,_,o,_,_,e,_⟩:=x;exact ⟨_,e⟩
 |dT kvs=>obtain ⟨_,_,_,_,o,_,_,e,_⟩:=x;exact ⟨_,e⟩
 |set S n=>obtain ⟨o,_,_,_,e,_⟩:=x;exact ⟨_,e⟩
 |ins C dx fs=>obtain ⟨_,_,_,e,_⟩:=x;exact ⟨_,e⟩
 |own y=>exact x
 |xd fs=>obtain ⟨_,⟨_,_,_,e,_⟩,_⟩:=x;exact ⟨_,e⟩
 |rng lo hi=>obtain ⟨_,_,_,e⟩:=x;exact ⟨_,e⟩
 |frz ob u _=>exact ⟨_,x.1⟩
 |tbl ps=>exact ⟨_,x⟩
 |met f y=>exact ⟨_,x⟩
 |ext φ=>exact x.2.1
section
variable {P:Program} {w:World} {K:Fg} {mg:Str->Option Value} {base:Heap} {N:List Str} {qual:Str} {scope:Scope} {f:Addr} {cd:Value} {A:Around} {outer:List Env} {s:Shared} {H:Hp} {E:XK}
theorem DR {H':Hp} {h g B:Heap} (x:dN P w H' h) (c2:∀b o,H' b=some o->∃u,B.get? b=some u) (s1:B.StaysIn h) (s2:B.StaysIn g):dN P w H' g:=λb o q=>
 (x b o q).stay (λb' u' hb' q'=>by
  obtain ⟨u,hu⟩:∃u,B.get? b'=some u:=by
   rcases hb' with rfl|hb'
   ·exact c2 _ _ q
   ·exact c2 _ _ hb'
  have z:=s1 _ _ hu
  rw[q'] at z
  cases z
  exact s2 _ _ hu) (λ_ z=>z) λ_ _ z=>z
theorem NC:Passes (lH P w) (jZ (lH P w) P w K mg base N qual scope f cd A outer s H E) E:=by
 intro pins σ H1 s1 ev s' I hc;obtain ⟨e,c,dx,H',B,rfl,os,bare,un,hok,⟨fl,F⟩,c1,c2,hE⟩:=hc;have un':Un (dC (envOfC qual scope s.heap.objs.size f cd::outer)) [] H1 H' s1.heap s'.heap:=un;have I0:Un (dC outer) [] H H1 s.heap s1.heap:=I.base;have nl:∀b o,s.heap.get? b=some o->b∉dC outer->b∉dC (envOfC qual scope s.heap.objs.size f cd::outer):=λb o q hb z=>by
  have z':b=s.heap.objs.size\/b∈dC outer:=by simpa [dC,envOfC] using z
  rcases z' with z'|z'
  ·exact absurd (lt_size q) (by rw[z'];exact lt_irrefl _)
  ·exact hb z'
 have fs:∀b,b∈dC outer->b∈dC (envOfC qual scope s.heap.objs.size f cd::outer):=λb z=>by
  have:b=s.heap.objs.size\/b∈dC outer:=.inr z;simpa [dC,envOfC] using this
 show wpAny _ _ (leaving _ (.ref e)) _ _ s';refine IW (L:=s.heap.objs.size) I.ok.frames rfl F λg F2 u=>?_;have bg:∀b o,s'.heap.get? b=some o->(∃u,B.get? b=some u)->g.get? b=some o:=λb o q ⟨v,hv⟩=>by
  have z:=F.stay _ _ hv;rw[q] at z;cases z;exact F2.stay _ _ hv
 have c1':∀b o,s.heap.get? b=some o->b∉dC outer->∃u,B.get? b=some u:=λb o q hb=>by
  obtain ⟨o1,q1⟩:=I0.there b o q (by simp);exact c1 b o1 q1 (nl b o q hb)
 have slot:∀b o,s.heap.get? b=some o->H b=none->b∈dC outer->∃sl,g.get? b=some {o with slots:=sl}:=λb o q n hb=>by
  obtain ⟨sl,q1⟩:=I0.slot b o q n hb (by simp);obtain ⟨sl2,q2⟩:=un'.slot b _ q1 (I0.free b o q n (by simp)) (fs b hb) (by simp);have nf:∀ws,o.data≠.fields ws:=by
   obtain ⟨_,o',q',n'⟩:=(show s.heap.FunFrames base outer from I.ok.funs).mem hb;rw[q] at q';cases q';exact n'
  obtain ⟨sl3,q3⟩:=u b _ q2 nf;exact ⟨sl3,q3⟩
 refine ⟨e,c,dx,H',B,rfl,os.trans I.os,bare,⟨λb o q n hb _=>?_,λb o q n hb _=>slot b o q n hb,λb o q n _=>?_,λb o q _=>?_,λb xs q=>un.tups b xs (I0.tups b xs q),λb o xs q=>un.frzs b o xs (I0.frzs b o xs q),λb ps q=>?_⟩,DR hok c2 F.stay F2.stay,⟨_,F2⟩,c1',c2,hE⟩
 ·exact bg b o (un'.keep b o (I0.keep b o q n hb (by simp)) (I0.free b o q n (by simp)) (nl b o q hb) (by simp)) (c1' b o q hb)
 ·obtain ⟨o1,q1⟩:=I0.there b o q (by simp);exact un'.free b o1 q1 (I0.free b o q n (by simp)) (by simp)
 ·by_cases hb:b∈dC outer
  ·obtain ⟨sl,z⟩:=slot b o q (I.ok.frf b hb) hb;exact ⟨_,z⟩
  ·obtain ⟨v,hv⟩:=c1' b o q hb;exact ⟨v,F2.stay _ _ hv⟩
 ·obtain ⟨m1,e1⟩:=I0.tbls b ps q;obtain ⟨m2,e2⟩:=un.tbls b _ e1;exact ⟨m1++m2,by rw[e2,Array.append_assoc]⟩
theorem OA (I:Inv (jZ (lH P w) P w K mg base N qual scope f cd A outer s H E) pins σ H1 s1)
  (eo:s1.heap.get? e=some oe) (dt:oe.data=.fields vs) (v1:vs[1]?=some .none) (en:H1 e=none) (e0:∀b o,s.heap.get? b=some o->b≠e) (hE:E oe.cls oe.dict H1):
  (jZ (lH P w) P w K mg base N qual scope f cd A outer s H E).xe (.ref e) s1:=by
 have I0:Un (dC outer) [] H H1 s.heap s1.heap:=I.base;have ff:s1.heap.FunFrames base (envOfC qual scope s.heap.objs.size f cd::outer):=I.stack;have nl:∀b o,s.heap.get? b=some o->b∉dC outer->b∉dC (envOfC qual scope s.heap.objs.size f cd::outer):=λb o q hb z=>by
  have z':b=s.heap.objs.size\/b∈dC outer:=by simpa [dC,envOfC] using z
  rcases z' with z'|z'
  ·exact absurd (lt_size q) (by rw[z'];exact lt_irrefl _)
  ·exact hb z'
 have ne:e∉dC (envOfC qual scope s.heap.objs.size f cd::outer):=λz=>by
  obtain ⟨_,o,q,n⟩:=ff.mem z;rw[eo] at q;cases q;exact n vs dt
 have hid:∀{b o},(hideAll s1.heap (e::dC (envOfC qual scope s.heap.objs.size f cd::outer))).get? b=some o->s1.heap.get? b=some o:=λq=>of_hideAll _ q;have has:∀{b o},s1.heap.get? b=some o->b≠e->b∉dC (envOfC qual scope s.heap.objs.size f cd::outer)->(hideAll s1.heap (e::dC (envOfC qual scope s.heap.objs.size f cd::outer))).get? b=some o:=
  λq h1 h2=>hideAll_get _ q (by simp only [mem_cons,not_or];exact ⟨h1,h2⟩)
 have ff2:s1.heap.FunFrames (hideAll s1.heap (e::dC (envOfC qual scope s.heap.objs.size f cd::outer))) (envOfC qual scope s.heap.objs.size f cd::outer):=
  PySem.W.funFrames_hide ff λenv' he' a ha=>mem_cons_of_mem _ (mem_filterMap.mpr ⟨env',he',ha⟩)
 show wpAny _ _ (leaving _ (.ref e)) _ _ s1;refine leave_new (L:=s.heap.objs.size) I.ok.frames ff2 rfl eo (λb o q=>hid q) (hideAll_none _ (by simp)) dt v1 λg F2 u=>?_;have c1':∀b o,s.heap.get? b=some o->b∉dC outer->∃u,(hideAll s1.heap (e::dC (envOfC qual scope s.heap.objs.size f cd::outer))).get? b=some u:=λb o q hb=>by
  obtain ⟨o1,q1⟩:=I0.there b o q (by simp);exact ⟨o1,has q1 (e0 b o q) (nl b o q hb)⟩
 have c2:∀b o,H1 b=some o->∃u,(hideAll s1.heap (e::dC (envOfC qual scope s.heap.objs.size f cd::outer))).get? b=some u:=λb o q=>by
  obtain ⟨o1,q1⟩:∃o1,s1.heap.get? b=some o1:=iH (I.hok b o q);refine ⟨o1,has q1 (λz=>by rw[z,en] at q;cases q) λz=>?_⟩;have:=I.stkFree b z;rw[q] at this;cases this
 have slot:∀b o,s.heap.get? b=some o->H b=none->b∈dC outer->∃sl,g.get? b=some {o with slots:=sl}:=λb o q n hb=>by
  obtain ⟨sl,q1⟩:=I0.slot b o q n hb (by simp);have nf:∀ws,o.data≠.fields ws:=by
   obtain ⟨_,o',q',n'⟩:=(show s.heap.FunFrames base outer from I.ok.funs).mem hb;rw[q] at q';cases q';exact n'
  obtain ⟨sl3,q3⟩:=u b _ q1 nf;exact ⟨sl3,q3⟩
 refine ⟨e,oe.cls,oe.dict,H1,_,rfl,I.os,I.bare,⟨λb o q n hb _=>?_,λb o q n hb _=>slot b o q n hb,λb o q n _=>I0.free b o q n (by simp),λb o q _=>?_,I0.tups,I0.frzs,I0.tbls⟩,DR I.hok c2 (λb o q=>hid q) F2.stay,⟨_,F2⟩,c1',c2,hE⟩
 ·exact F2.stay _ _ (has (I0.keep b o q n hb (by simp)) (e0 b o q) (nl b o q hb))
 ·by_cases hb:b∈dC outer
  ·obtain ⟨sl,z⟩:=slot b o q (I.ok.frf b hb) hb;exact ⟨_,z⟩
  ·obtain ⟨v,hv⟩:=c1' b o q hb;exact ⟨v,F2.stay _ _ hv⟩
end
theorem ff {P:Prop} (h:false=true):P:=nomatch h
abbrev XS:=St->XK
abbrev E0:XS:=λ_ _ _ _=>False
def kB:List Str:=["len","range","sum","all","any","min","max","sorted","isinstance","list","tuple","int","str","bool","dict","zip","set","abs","enumerate","reversed","divmod","ValueError"]
structure Rt where
 P:Program
 w:World
 K:Fg
 mg:Str->Option Value
 base:Heap
 A:Around
def dJ (X:Cx):Rt:=⟨X.prog,X.w,X.K,X.mg,X.base,X.A⟩
def FnAt (R:Rt) (x:Str) (sp:Sp):Prop:=∃(k:Nat) (f:Addr) (fd:FuncData) (ps:List Str),bM k R.A/\pG R.P R.w R.K R.mg R.base (lH R.P R.w) k f fd ps sp/\Binds R.K fd ps []/\keepIn R.K (.ref f)=true/\R.mg x=some (.ref f)
def Nz (R:Rt) (x:Str) (v:V):Prop:=∃u,R.mg x=some u/\RelV v u
inductive Fb where
 |all
 |own (l:List Str)
 |hot
def Fb.of:Bool->Fb
 |true=>.all
 |false=>.own []
instance:Coe Bool Fb:=⟨Fb.of⟩
structure Sc where
 N:List Str
 nm:List (Str × NameKind)
 fo:Fb
def Sc.fb (C:Sc):Bool:=match C.fo with
 | .all=>true
 | .own _=>false
 | .hot=>true
def Sc.cm (C:Sc):Bool:=match C.fo with
 | .hot=>false
 |_=>true
def Sc.ow (C:Sc):List Str:=match C.fo with
 | .all=>[]
 | .own l=>l
 | .hot=>[]
structure Gd (X:Cx) (C:Sc):Prop where
 N:X.N=C.N
 nm:X.env.scope.names=C.nm
 nd:C.N.Nodup
 calm:C.cm=true->X.calm=true
 bl:∀x∈kB,X.mg x=none
 hu:X.A.units+64<cLine
 fb:C.fb=true->∀x,X.fn x=true
 top:C.fb=true->X.stack=X.env::X.outer/\X.env.frame=some X.env.locals
 ow:∀x∈C.ow,X.fn x=true
structure tH (X:Cx) (E:XS):Prop where
 pass:∀(pins:List (Addr × Obj)) (σ:St) (H:Hp) (s:Shared) (ev:Value) (s':Shared),Inv X pins σ H s->lH X.prog X.w X.stack H s (E σ) ev s'->X.xe ev s'
 made:∀(pins:List (Addr × Obj)) (σ:St) (H H':Hp) (s s':Shared) (e:Addr) (oe:Obj) (vs:Array Value),Inv X pins σ H s->s'.os=s.os->AllBare s'.gens->Un (dC X.stack) [] H H' s.heap s'.heap->dN X.prog X.w H' s'.heap->s.heap.get? e=none->H' e=none->
  s'.heap.get? e=some oe->oe.data=.fields vs->vs[1]?=some .none->E σ oe.cls oe.dict H'->X.xe (.ref e) s'
 own:PassesOwn (model X.prog X.w) X.A X.env X.xe
inductive Gh where
 |pl|cp|zc
 deriving DecidableEq
def gB:Expr->Option Gh
 | .Starred ..=>none
 | .Slice ..=>none
 | .Set ..=>none
 | .SetComp ..=>none
 | .DictComp ..=>none
 | .GeneratorExp ..=>none
 | .ListComp ..=>some .cp
 | .Call (.Name _ _) [] [] _=>some .zc
 |_=>some .pl
def yT:Expr->Bool
 | .UnaryOp .Not _ _=>false
 | .BoolOp ..=>false
 | .IfExp ..=>false
 | .Compare ..=>false
 |_=>true
section
variable {e b o:Expr} {es:List Expr} {env:Env} {s:Gh}
theorem aO (h:gB e=some s):starEach (e::es) env=(false,eval e env)::starEach es env:=by
 cases e<;>first|rfl|cases h
theorem iS {tgt:Option Expr} {line:Nat} (h:gB e=some s) (hs:s≠.cp):swapsWith e tgt line env=pure false:=by
 cases e with
 |ListComp a b c d=>exact absurd (Option.some.inj h).symm hs
 |SetComp a b c d=>cases h
 |DictComp a b c d=>cases h
 |_=>rfl
theorem As (h:gB b=some s):GV b:=by
 cases b with
 |Slice a b c d=>cases h
 |_=>exact λ_ _=>rfl
theorem gA {op:CmpOp} (h:gB b=some s):behindInMarks op b=false:=by
 cases b with
 |Set a b c=>cases h
 |_=>rfl
theorem MA (h:gB e=some s) (x:Value):foldedSetIterable e env x=pure x:=by
 cases e with
 |Set a b c=>cases h
 |_=>rfl
theorem lZ {attr:Str} {w:Sem Value} (h:gB o=some s) (hs:s≠.zc):attributeBase o attr env w=w:=by
 cases o with
 |Call f a k p=>
  cases f with
  |Name x q=>
   cases a with
   |nil=>
    cases k with
    |nil=>exact absurd (Option.some.inj h).symm hs
    |cons _ _=>rfl
   |cons _ _=>rfl
  |_=>rfl
 |_=>rfl
theorem Ad (h:yT e=true) (whole:Sem Value):isTrue e env whole=(do let v <-whole;standAt e.pos;holding [v] (truthy v)):=by
 cases e with
 |UnaryOp op x p=>
  cases op with
  |Not=>cases h
  |_=>rfl
 |BoolOp a b c=>cases h
 |IfExp a b c d=>cases h
 |Compare a b c d=>cases h
 |_=>rfl
end
def br (b:Bool) (A B:Prop):Prop:=(b=true->A)/\(b=false->B)
theorem dE {A B:Prop} (h:A):br true A B:=⟨λ_=>h,λz=>nomatch z⟩
theorem bS {A B:Prop} (h:B):br false A B:=⟨λz=>(nomatch z),λ_=>h⟩
theorem eQ {c A B:Prop} [Decidable c] (h1:c->A) (h2:¬c->B):br (decide c) A B:=⟨λz=>h1 (of_decide_eq_true z),λz=>h2 (of_decide_eq_false z)⟩
def tX (K:Fg) (x:V) (H:Hp) (Q:Bool->Hp->Prop):Prop:=match x with
 | .bl b=>Q b H
 | .non=>Q false H
 | .int i=>Q (i != 0) H
 | .str y=>y.length<=sizeLine/\Q ((y.length:Int) != 0) H
 | .ref p=>∃k,Ge K (.ref p) H k/\Q k H
 |_=>False
theorem UC {K:Fg} {x:V} {H:Hp} {Q:Bool->Hp->Prop} (h:tX K x H Q):∃k,Ge K x H k/\Q k H:=by
 cases x with
 |bl b=>exact ⟨b,rfl,h⟩
 |non=>exact ⟨false,rfl,h⟩
 |int i=>exact ⟨_,rfl,h⟩
 |str y=>exact ⟨_,⟨h.1,rfl⟩,h.2⟩
 |ref p=>exact h
 |byt _=>exact h.elim
 |flt _=>exact h.elim
 |ty _=>exact h.elim
theorem pJ {X:Cx}:Nm X (tX X.K):=λpins s σ H x v Q I rx h=>Ae pins s σ H x v Q I rx (UC h)
def Af (K:Fg) (t:TE):TT:=λσ H Q=>t σ H λx H'=>tX K x H' Q
theorem Bu {X:Cx} {a:Expr} {ta:TE} (ha:PE X a ta) (he:yT a=true):PT X a (Af X.K ta):=by
 intro pins s σ H Q I h;exact isTrue_plain (bH (ha pins s σ H _ I h) λv s1 ⟨x,H1,I1,r1,q1⟩=>pJ pins s1 σ H1 x v Q I1 r1 q1) (Ad he _)
theorem PE.imp {X:Cx} {e:Expr} {t t':TE} (h:PE X e t) (f:∀σ H Q,t' σ H Q->t σ H Q):PE X e t':=λpins s σ H Q I q=>h pins s σ H Q I (f σ H Q q)
structure EX (K:Fg) where
 t:XS->TE
 tt:XS->TT
 m:Sc->Expr->Bool
 q:Rt->Prop
 s:Gh
 ok:∀(X:Cx) (C:Sc) (E:XS) (e:Expr),X.K=K->Gd X C->tH X E->q (dJ X)->m C e=true->PE X e (t E)
 okT:∀(X:Cx) (C:Sc) (E:XS) (e:Expr),X.K=K->Gd X C->tH X E->q (dJ X)->m C e=true->PT X e (tt E)
 sok:∀(C:Sc) (e:Expr),m C e=true->gB e=some s
def KO {K:Fg} (t:XS->TE) (m:Sc->Expr->Bool) (q:Rt->Prop) (s:Gh)
  (ok:∀(X:Cx) (C:Sc) (E:XS) (e:Expr),X.K=K->Gd X C->tH X E->q (dJ X)->m C e=true->PE X e (t E))
  (sok:∀(C:Sc) (e:Expr),m C e=true->gB e=some s) (hT:∀(C:Sc) (e:Expr),m C e=true->yT e=true):EX K:=
 ⟨t,λE=>Af K (t E),m,q,s,ok,λX C E e hK G hE hq hm=>by subst hK;exact Bu (ok X C E e rfl G hE hq hm) (hT C e hm),sok⟩
def iB {K:Fg} (t:XS->TE) (m:Sc->Expr->Bool) (q:Rt->Prop) (s:Gh)
  (ok:∀(X:Cx) (C:Sc) (E:XS) (e:Expr),X.K=K->Gd X C->tH X E->q (dJ X)->m C e=true->PE X e (t E))
  (both:∀(C:Sc) (e:Expr),m C e=true->gB e=some s/\yT e=true):EX K:=KO t m q s ok (λC e h=>(both C e h).1) λC e h=>(both C e h).2
variable {K:Fg}
def tV (i:Nat):TE:=λσ H Q=>match σ[i]? with
 |some (some v)=>Q v H
 |_=>False
def Hq:Option NameKind->Bool
 |some .local=>true
 |some .cell=>true
 |some .free=>true
 |_=>false
theorem SY {sc:Scope} {x:Str} (h:Hq (sc.names.lookup x)=true):Om sc x:=by
 unfold Om;cases e:sc.names.lookup x with
 |none=>rw[e] at h;cases h
 |some k=>
  cases k with
  |«local»=>exact .inl rfl
  |cell=>exact .inr (.inl rfl)
  |free=>exact .inr (.inr rfl)
  |globalExplicit=>rw[e] at h;cases h
  |globalImplicit=>rw[e] at h;cases h
theorem nL {x y:Str} (h:(x != y)=true):(x==y)=false:=by
 cases e:x==y with
 |false=>rfl
 |true=>rw[bne,e] at h;cases h
def var (i:Nat):EX K:=iB (λ_=>tV i)
 (λC e=>match e with
  | .Name x _=>C.N[i]?==some x&&(Hq (C.nm.lookup x)&&(x != "__debug__"&&x != "__classdict__"))
  |_=>false) (λ_=>True) .pl
 (λX C E e hK G hE hq hm=>by
  cases e with
  |Name x p=>
   simp only [and_eq_true] at hm
   obtain ⟨h1,h2,h3,h4⟩:=hm
   refine PE.imp (Cd (i:=i) (by rw[G.N];exact eq_of_beq h1) (SY (by rw[G.nm];exact h2)) (nL h3) (nL h4)) λσ H Q h=>?_
   unfold tV at h
   split at h
   ·exact ⟨_,by assumption,h⟩
   ·exact h.elim
  |_=>exact ff hm)
 (λC e hm=>by cases e with|Name x p=>exact ⟨rfl,rfl⟩|_=>exact ff hm)
def cst (v:V):EX K:=iB (λ_=>tC v)
 (λ_ e=>match e with
  | .Constant c _ _=>decide (QR c=some v)
  |_=>false) (λ_=>True) .pl
 (λX C E e hK G hE hq hm=>by
  cases e with
  |Constant c k p=>exact IH (of_decide_eq_true hm)
  |_=>exact ff hm)
 (λC e hm=>by cases e with|Constant c k p=>exact ⟨rfl,rfl⟩|_=>exact ff hm)
def mY (C:Sc) (x y:Str):Bool:=y==x&&(C.nm.lookup x==some .globalImplicit&&x != "__debug__")
theorem bB {C:Sc} {x y:Str} (h:mY C x y=true):y=x:=by
 unfold mY at h;simp only [and_eq_true] at h;exact eq_of_beq h.1
theorem bA {X:Cx} {C:Sc} {x y:Str} (G:Gd X C) (h:mY C x y=true):Gl X x/\(x==("__debug__":Str))=false:=by
 unfold mY at h;simp only [and_eq_true] at h;obtain ⟨_,h2,h3⟩:=h;exact ⟨by show X.env.scope.names.lookup x=_;rw[G.nm];exact eq_of_beq h2,nL h3⟩
def oQ (x:Str) (v:V):EX K:=iB (λ_=>tC v)
 (λC e=>match e with
  | .Name y _=>mY C x y
  |_=>false) (λR=>Nz R x v) .pl
 (λX C E e hK G hE hq hm=>by
  cases e with
  |Name y p=>
   obtain ⟨u,h1,h2⟩:=hq
   have e:=bB hm
   subst e
   obtain ⟨g,d⟩:=bA G hm
   exact UN g h1 h2 d
  |_=>exact ff hm)
 (λC e hm=>by cases e with|Name x p=>exact ⟨rfl,rfl⟩|_=>exact ff hm)
def Nh (x:Str) (T:String) (hb:bootBuiltins x=some (.type T)) (hi:x∈kB) (hn:x≠"__name__"):EX K:=iB (λ_=>tC (.ty T))
 (λC e=>match e with
  | .Name y _=>mY C x y
  |_=>false) (λ_=>True) .pl
 (λX C E e hK G hE hq hm=>by
  cases e with
  |Name y p=>
   have e:=bB hm
   subst e
   obtain ⟨g,d⟩:=bA G hm
   exact UQ g (G.bl _ hi) hb rfl hn d
  |_=>exact ff hm)
 (λC e hm=>by cases e with|Name x p=>exact ⟨rfl,rfl⟩|_=>exact ff hm)
def WQ (f:Int->Int->Hp->(V->Hp->Prop)->Prop):R2:=λx y H Q=>match x with
 | .int i=>(match y with
  | .int j=>f i j H Q
  |_=>False)
 |_=>False
theorem jC {f:Int->Int->Hp->(V->Hp->Prop)->Prop} {x y:V} {H:Hp} {Q:V->Hp->Prop} (h:WQ f x y H Q):∃i j,x=.int i/\y=.int j/\f i j H Q:=by
 cases x with
 |int i=>cases y with
  |int j=>exact ⟨i,j,rfl,rfl,h⟩
  |_=>exact False.elim h
 |_=>exact False.elim h
def Po (K:Fg):R2:=λx y H Q=>match x with
 | .int i=>(match y with
  | .int j=>Q (.int (i+j)) H
  | .bl k=>Q (.int (i+b2i k)) H
  |_=>False)
 | .str a=>(match y with
  | .str b=>a.length+b.length<=sizeLine/\Q (.str (a++b)) H
  |_=>False)
 | .ref a=>(match y with
  | .ref b=>Ju (.ref a) (.ref b) H Q\/YK K (.ref a) (.ref b) H Q\/MV K (.ref a) (.ref b) H Q
  |_=>False)
 |_=>False
def Pj:R2:=λx y H Q=>match y with
 | .int j=>(match x with
  | .int i=>IntMulOk i j/\Q (.int (i * j)) H
  | .ref a=>Jm (.ref a) (.int j) H Q
  | .str a=>SR a j/\Q (.str (mul a j)) H
  |_=>False)
 |_=>False
def nJ (K:Fg):Operator->R2
 | .Add=>Po K
 | .Sub=>WQ λi j H Q=>Q (.int (i - j)) H
 | .Mult=>Pj
 | .FloorDiv=>WQ λi j H Q=>Rc i j/\Q (.int (i / j)) H
 | .Mod=>WQ λi j H Q=>0<j/\Q (.int (i % j)) H
 | .Pow=>WQ λi j H Q=>Ow i j/\Q (.int (i ^ j.toNat)) H
 |_=>λ_ _ _ _=>False
theorem Fz {X:Cx} (op:Operator):gH X (binaryOp op) (nJ X.K op):=by
 intro pins s σ H x y v u Q I rx ry h;cases op with
 |Add=>
  cases x with
  |int i=>cases y with
   |int j=>exact Dd pins s σ H _ _ v u Q I rx ry ⟨_,_,rfl,rfl,h⟩
   |bl k=>exact IM pins s σ H _ _ v u Q I rx ry ⟨_,_,rfl,rfl,h⟩
   |_=>exact False.elim h
  |str a=>cases y with
   |str b=>exact DD pins s σ H _ _ v u Q I rx ry ⟨_,_,rfl,rfl,h.1,h.2⟩
   |_=>exact False.elim h
  |ref a=>cases y with
   |ref b=>
    rcases h with h|h|h
    ·exact Dc pins s σ H _ _ v u Q I rx ry h
    ·exact UX pins s σ H _ _ v u Q I rx ry h
    ·exact NJ pins s σ H _ _ v u Q I rx ry h
   |_=>exact False.elim h
  |_=>exact False.elim h
 |Sub=>exact Cp pins s σ H _ _ v u Q I rx ry (jC (f:=λi j H Q=>Q (.int (i - j)) H) h)
 |Mult=>
  cases y with
  |int j=>cases x with
   |int i=>exact UW pins s σ H _ _ v u Q I rx ry ⟨_,_,rfl,rfl,h.1,h.2⟩
   |ref a=>exact Cq pins s σ H _ _ v u Q I rx ry h
   |str a=>exact UU pins s σ H _ _ v u Q I rx ry ⟨_,_,rfl,rfl,h.1,h.2⟩
   |_=>exact False.elim h
  |_=>exact False.elim h
 |FloorDiv=>exact NI pins s σ H _ _ v u Q I rx ry (jC (f:=λi j H Q=>Rc i j/\Q (.int (i / j)) H) h)
 |Mod=>exact Ct pins s σ H _ _ v u Q I rx ry (jC (f:=λi j H Q=>0<j/\Q (.int (i % j)) H) h)
 |Pow=>exact UR pins s σ H _ _ v u Q I rx ry (jC (f:=λi j H Q=>Ow i j/\Q (.int (i ^ j.toNat)) H) h)
 |_=>exact False.elim h
def bin (op:Operator) (a b:EX K):EX K:=iB (λE=>Ak (nJ K op) (a.t E) (b.t E))
 (λC e=>match e with
  | .BinOp l o r _=>decide (o=op)&&(a.m C l&&b.m C r)
  |_=>false) (λR=>a.q R/\b.q R) .pl
 (λX C E e hK G hE hq hm=>by
  subst hK
  cases e with
  |BinOp l o r p=>
   simp only [and_eq_true] at hm
   obtain ⟨h1,h2,h3⟩:=hm
   have e:=of_decide_eq_true h1
   subst e
   exact Jx (Fz _) (a.ok X C E l rfl G hE hq.1 h2) (b.ok X C E r rfl G hE hq.2 h3)
  |_=>exact ff hm)
 (λC e hm=>by cases e with|BinOp l o r p=>exact ⟨rfl,rfl⟩|_=>exact ff hm)
def UD:V->Hp->VK->Prop
 | .int i,H,Q=>Q (.int (-i)) H
 |_,_,_=>False
def neg (a:EX K):EX K:=KO (λE=>Rj UD (a.t E))
 (λC e=>match e with
  | .UnaryOp .USub l _=>a.m C l
  |_=>false) a.q .pl
 (λX C E e hK G hE hq hm=>by
  cases e with
  |UnaryOp o l p=>
   cases o with
   |USub=>
    refine Jw (λpins s σ H x v Q I rx h=>?_) (a.ok X C E l hK G hE hq hm)
    unfold UD at h
    split at h
    ·exact Ab pins s σ H _ v Q I rx ⟨_,rfl,h⟩
    ·exact h.elim
   |_=>exact ff hm
  |_=>exact ff hm)
 (λC e hm=>by cases e with|UnaryOp o l p=>rfl|_=>exact ff hm)
 (λC e hm=>by cases e with|UnaryOp o l p=>(cases o with|USub=>rfl|_=>exact ff hm)|_=>exact ff hm)
theorem Cv {X:Cx}:gH X (compareOp .Is) (λx y H Q=>∃c d,x=.bl c/\y=.bl d/\Q (.bl (c==d)) H):=by
 intro pins s σ H x y v u Q I rx ry h;obtain ⟨c,d,rfl,rfl,q⟩:=h;cases (show v=Value.bool c from rx);cases (show u=Value.bool d from ry);exact is_bool ⟨.bl _,H,I,rfl,q⟩
theorem IJ {X:Cx}:gH X (compareOp .IsNot) (λx y H Q=>∃c d,x=.bl c/\y=.bl d/\Q (.bl (c != d)) H):=by
 intro pins s σ H x y v u Q I rx ry h;obtain ⟨c,d,rfl,rfl,q⟩:=h;cases (show v=Value.bool c from rx);cases (show u=Value.bool d from ry);exact isnot_bool ⟨.bl _,H,I,rfl,q⟩
def Ro (f:Bool->Bool):R2:=λx y H Q=>match y with
 | .non=>Q (.bl (f (decide (x=.non)))) H
 | .bl d=>(match x with
  | .bl c=>Q (.bl (f (c==d))) H
  |_=>False)
 |_=>False
def Jr (K:Fg) (n:Bool) (f:Bool->Bool):R2:=λx y H Q=>match y with
 | .ref b=>Pn K n x (.ref b) H Q
 | .str j=>(match x with
  | .str i=>Q (.bl (f (!(Builtin.Str.occurrences j i 0 j.length 1).isEmpty))) H
  |_=>False)
 |_=>False
def dF (K:Fg):CmpOp->R2
 | .Eq=>λx y H Q=>(TZ x y=true/\Q (.bl (decide (x=y))) H)\/Jt x y H Q\/Js x y H Q
 | .NotEq=>λx y H Q=>(TZ x y=true/\Q (.bl (!decide (x=y))) H)\/Jo x y H Q\/Jn x y H Q
 | .Lt=>WQ λi j H Q=>Q (.bl (decide (i<j))) H
 | .LtE=>WQ λi j H Q=>Q (.bl (decide (i<=j))) H
 | .Gt=>WQ λi j H Q=>Q (.bl (decide (j<i))) H
 | .GtE=>WQ λi j H Q=>Q (.bl (decide (j<=i))) H
 | .Is=>Ro λb=>b
 | .IsNot=>Ro λb=>!b
 | .In=>Jr K false λb=>b
 | .NotIn=>Jr K true λb=>!b
theorem nX {X:Cx} (hu:X.A.units+64<cLine) (op:CmpOp):gH X (compareOp op) (dF X.K op):=by
 intro pins s σ H x y v u Q I rx ry h;cases op with
 |Eq=>
  rcases h with h|h|h
  ·exact Kf pins s σ H _ _ v u Q I rx ry h
  ·exact Cz hu pins s σ H _ _ v u Q I rx ry h
  ·exact Cw hu pins s σ H _ _ v u Q I rx ry h
 |NotEq=>
  rcases h with h|h|h
  ·exact Ka pins s σ H _ _ v u Q I rx ry h
  ·exact Cs hu pins s σ H _ _ v u Q I rx ry h
  ·exact Cr hu pins s σ H _ _ v u Q I rx ry h
 |Lt=>exact Kb pins s σ H _ _ v u Q I rx ry (jC (f:=λi j H Q=>Q (.bl (decide (i<j))) H) h)
 |LtE=>exact Kc pins s σ H _ _ v u Q I rx ry (jC (f:=λi j H Q=>Q (.bl (decide (i<=j))) H) h)
 |Gt=>exact Kd pins s σ H _ _ v u Q I rx ry (jC (f:=λi j H Q=>Q (.bl (decide (j<i))) H) h)
 |GtE=>exact Ke pins s σ H _ _ v u Q I rx ry (jC (f:=λi j H Q=>Q (.bl (decide (j<=i))) H) h)
 |Is=>
  cases y with
  |non=>exact Cu pins s σ H _ _ v u Q I rx ry ⟨rfl,h⟩
  |bl d=>cases x with
   |bl c=>exact Cv pins s σ H _ _ v u Q I rx ry ⟨_,_,rfl,rfl,h⟩
   |_=>exact False.elim h
  |_=>exact False.elim h
 |IsNot=>
  cases y with
  |non=>exact US pins s σ H _ _ v u Q I rx ry ⟨rfl,h⟩
  |bl d=>cases x with
   |bl c=>exact IJ pins s σ H _ _ v u Q I rx ry ⟨_,_,rfl,rfl,h⟩
   |_=>exact False.elim h
  |_=>exact False.elim h
 |In=>
  cases y with
  |ref b=>exact IL pins s σ H _ _ v u Q I rx ry h
  |str j=>cases x with
   |str i=>exact IK pins s σ H _ _ v u Q I rx ry ⟨_,_,rfl,rfl,h⟩
   |_=>exact False.elim h
  |_=>exact False.elim h
 |NotIn=>
  cases y with
  |ref b=>exact xC pins s σ H _ _ v u Q I rx ry h
  |str j=>cases x with
   |str i=>exact wZ pins s σ H _ _ v u Q I rx ry ⟨_,_,rfl,rfl,h⟩
   |_=>exact False.elim h
  |_=>exact False.elim h
def bV (Q:Bool->Hp->Prop):V->Hp->Prop
 | .bl b,H=>Q b H
 |_,_=>False
def rB (r:R2):V->V->Hp->(Bool->Hp->Prop)->Prop:=λx y H Q=>r x y H (bV Q)
theorem GQ {z:V} {H:Hp} {Q:Bool->Hp->Prop} (h:bV Q z H):∃b,z=.bl b/\Q b H:=by
 cases z with
 |bl b=>exact ⟨b,rfl,h⟩
 |_=>exact h.elim
def cmp (op:CmpOp) (a b:EX K):EX K where
 t:=λE=>Ak (dF K op) (a.t E) (b.t E)
 tt:=λE σ H Q=>a.t E σ H λx H1=>b.t E σ H1 λy H2=>rB (dF K op) x y H2 Q
 m:=λC e=>match e with
  | .Compare l [o] [r] _=>decide (o=op)&&(a.m C l&&b.m C r)
  |_=>false
 q:=λR=>a.q R/\b.q R
 s:=.pl
 ok:=λX C E e hK G hE hq hm=>by
  subst hK;cases e with
  |Compare l os rs p=>
   match os,rs,hm with
   |[o],[r],hm=>
    simp only [and_eq_true] at hm;obtain ⟨h1,h2,h3⟩:=hm;have e:=of_decide_eq_true h1;subst e;exact FE (nX G.hu _) (a.ok X C E l rfl G hE hq.1 h2) (b.ok X C E r rfl G hE hq.2 h3) (gA (b.sok C r h3))
  |_=>exact ff hm
 okT:=λX C E e hK G hE hq hm=>by
  subst hK;cases e with
  |Compare l os rs p=>
   match os,rs,hm with
   |[o],[r],hm=>
    simp only [and_eq_true] at hm;obtain ⟨h1,h2,h3⟩:=hm;have e:=of_decide_eq_true h1;subst e;intro pins s σ H Q I hw;refine wpAny_isTrue_Compare1 (bH (a.ok X C E l rfl G hE hq.1 h2 pins s σ H _ I hw) λv s1 ⟨x,H1,I1,r1,q1⟩=>bH (b.ok X C E r rfl G hE hq.2 h3 pins s1 σ H1 _ I1 q1) λu s2 ⟨y,H2,I2,r2,q2⟩=>
     bH (nX G.hu _ pins s2 σ H2 x y v u _ I2 r1 r2 q2) λc s3 ⟨z,H3,I3,r3,q3⟩=>?_) (gA (b.sok C r h3))
    obtain ⟨d,rfl,q⟩:=GQ q3;cases r3;exact wpAny_truthy_bool ⟨H3,I3,q⟩
  |_=>exact ff hm
 sok:=λC e hm=>by cases e with|Compare l o r p=>rfl|_=>exact ff hm
def Rm (K:Fg) (op op':CmpOp) (ta tb tc:TE):TE:=λσ H Q=>ta σ H λx H1=>tb σ H1 λy H2=>rB (dF K op) x y H2 λk H3=>br k (tc σ H3 λw' H4=>dF K op' y w' H4 Q) (Q (.bl false) H3)
def XC (op op':CmpOp) (a b c:EX K):EX K where
 t:=λE=>Rm K op op' (a.t E) (b.t E) (c.t E)
 tt:=λE σ H Q=>Rm K op op' (a.t E) (b.t E) (c.t E) σ H (bV Q)
 m:=λC e=>match e with
  | .Compare l [o,o'] [r,r'] _=>(decide (o=op)&&decide (o'=op'))&&(a.m C l&&(b.m C r&&c.m C r'))
  |_=>false
 q:=λR=>a.q R/\b.q R/\c.q R
 s:=.pl
 ok:=λX C E e hK G hE hq hm=>by
  subst hK;cases e with
  |Compare l os rs p=>
   match os,rs,hm with
   |[o,o'],[r,r'],hm=>
    simp only [and_eq_true] at hm;obtain ⟨⟨h1,h1'⟩,h2,h3,h4⟩:=hm;have e:=of_decide_eq_true h1;have e':=of_decide_eq_true h1';subst e e';intro pins s σ H Q I h;refine Compare_chain (bH (a.ok X C E l rfl G hE hq.1 h2 pins s σ H _ I h) λv s1 ⟨x,H1,I1,r1,q1⟩=>chain_link (bH (b.ok X C E r rfl G hE hq.2.1 h3 pins s1 σ H1 _ I1 q1) λu s2 ⟨y,H2,I2,r2,q2⟩=>
     bH (nX G.hu _ pins s2 σ H2 x y v u _ I2 r1 r2 q2) λd s3 ⟨z,H3,I3,r3,q3⟩=>?_)) (gA (c.sok C r' h4))
    obtain ⟨k,rfl,q4⟩:=GQ q3;cases r3;refine wpAny_truthy_bool ?_;cases k with
    |false=>exact ite_ff ⟨.bl false,H3,I3,rfl,q4.2 rfl⟩
    |true=>exact ite_tt (chain_last (bH (c.ok X C E r' rfl G hE hq.2.2 h4 pins s3 σ H3 _ I3 (q4.1 rfl)) λw' s4 ⟨z',H4,I4,r4,q5⟩=>nX G.hu _ pins s4 σ H4 y z' u w' Q I4 r2 r4 q5))
  |_=>exact ff hm
 okT:=λX C E e hK G hE hq hm=>by
  subst hK;cases e with
  |Compare l os rs p=>
   match os,rs,hm with
   |[o,o'],[r,r'],hm=>
    simp only [and_eq_true] at hm;obtain ⟨⟨h1,h1'⟩,h2,h3,h4⟩:=hm;have e:=of_decide_eq_true h1;have e':=of_decide_eq_true h1';subst e e';intro pins s σ H Q I h;refine isTrue_chain (bH (a.ok X C E l rfl G hE hq.1 h2 pins s σ H _ I h) λv s1 ⟨x,H1,I1,r1,q1⟩=>test_link (bH (b.ok X C E r rfl G hE hq.2.1 h3 pins s1 σ H1 _ I1 q1) λu s2 ⟨y,H2,I2,r2,q2⟩=>
     bH (nX G.hu _ pins s2 σ H2 x y v u _ I2 r1 r2 q2) λd s3 ⟨z,H3,I3,r3,q3⟩=>?_)) (gA (c.sok C r' h4))
    obtain ⟨k,rfl,q4⟩:=GQ q3;cases r3;refine wpAny_truthy_bool ?_;cases k with
    |false=>exact ite_ff ⟨H3,I3,q4.2 rfl⟩
    |true=>
     refine ite_tt (test_last (bH (c.ok X C E r' rfl G hE hq.2.2 h4 pins s3 σ H3 _ I3 (q4.1 rfl)) λw' s4 ⟨z',H4,I4,r4,q5⟩=>bH (nX G.hu _ pins s4 σ H4 y z' u w' _ I4 r2 r4 q5) λd' s5 ⟨z2,H5,I5,r5,q6⟩=>?_));obtain ⟨k2,rfl,q7⟩:=GQ q6;cases r5;exact wpAny_truthy_bool ⟨H5,I5,q7⟩
  |_=>exact ff hm
 sok:=λC e hm=>by cases e with|Compare l o r p=>rfl|_=>exact ff hm
def cI (a:EX K):EX K where
 t:=λE σ H Q=>a.t E σ H λx H1=>tX K x H1 λb H2=>Q (.bl (!b)) H2
 tt:=λE σ H Q=>a.tt E σ H λb H1=>Q (!b) H1
 m:=λC e=>match e with
  | .UnaryOp .Not l _=>a.m C l
  |_=>false
 q:=a.q
 s:=.pl
 ok:=λX C E e hK G hE hq hm=>by
  subst hK;cases e with
  |UnaryOp o l p=>
   cases o with
   |Not=>
    intro pins s σ H Q I h;refine UnaryOp_ (bH (a.ok X C E l rfl G hE hq hm pins s σ H _ I h) λv s1 ⟨x,H1,I1,r1,q1⟩=>?_);exact not_of (bH (pJ pins s1 σ H1 x v _ I1 r1 q1) λb s2 ⟨H2,I2,q2⟩=>⟨.bl (!b),H2,I2,rfl,q2⟩)
   |_=>exact ff hm
  |_=>exact ff hm
 okT:=λX C E e hK G hE hq hm=>by
  cases e with
  |UnaryOp o l p=>
   cases o with
   |Not=>exact Bv (a.okT X C E l hK G hE hq hm)
   |_=>exact ff hm
  |_=>exact ff hm
 sok:=λC e hm=>by cases e with|UnaryOp o l p=>rfl|_=>exact ff hm
def zJ (K:Fg) (op:BoolOp) (E:XS):TE->List (EX K)->TE
 |t,[]=>t
 |t,y::ys=>λσ H Q=>t σ H λx H1=>tX K x H1 λb H2=>match op with
  | .And=>br b (zJ K op E (y.t E) ys σ H2 Q) (Q x H2)
  | .Or=>br b (Q x H2) (zJ K op E (y.t E) ys σ H2 Q)
def lO (K:Fg) (op:BoolOp) (E:XS):TT->List (EX K)->TT
 |t,[]=>t
 |t,y::ys=>λσ H Q=>t σ H λb H1=>match op with
  | .And=>br b (lO K op E (y.tt E) ys σ H1 Q) (Q false H1)
  | .Or=>br b (Q true H1) (lO K op E (y.tt E) ys σ H1 Q)
def iD:List (EX K)->Sc->List Expr->Bool
 |[],_,[]=>true
 |x::xs,C,e::es=>x.m C e&&iD xs C es
 |_,_,_=>false
def pU:List (EX K)->Rt->Prop
 |[],_=>True
 |x::xs,R=>x.q R/\pU xs R
theorem RF {X:Cx} {C:Sc} {E:XS} {pos:Pos} (op:BoolOp) (G:Gd X C) (hE:tH X E):∀(xs:List (EX X.K)) (e:Expr) (es:List Expr) (t:TE),PE X e t->pU xs (dJ X)->iD xs C es=true->PE X (.BoolOp op (e::es) pos) (zJ X.K op E t xs)
 |[],e,[],t,he,_,_=>Cg he
 |[],e,_::_,t,he,_,hm=>nomatch hm
 |x::xs,e,[],t,he,_,hm=>nomatch hm
 |x::xs,e,e2::es,t,he,hq,hm=>by
  have hm':(x.m C e2&&iD xs C es)=true:=hm;simp only [and_eq_true] at hm';have h2:=RF (pos:=pos) op G hE xs e2 es (x.t E) (x.ok X C E e2 rfl G hE hq.1 hm'.1) hq.2 hm'.2;cases op with
  |And=>
   intro pins s σ H Q I h;refine BoolOp_and (bH (he pins s σ H _ I h) λv s1 ⟨y,H1,I1,r1,q1⟩=>?_);refine bH (pJ pins s1 σ H1 y v _ I1 r1 q1) λb s2 ⟨H2,I2,q2⟩=>?_;cases b with
   |true=>exact h2 pins s2 σ H2 Q I2 (q2.1 rfl)
   |false=>exact ⟨y,H2,I2,r1,q2.2 rfl⟩
  |Or=>
   intro pins s σ H Q I h;refine BoolOp_or (bH (he pins s σ H _ I h) λv s1 ⟨y,H1,I1,r1,q1⟩=>?_);refine bH (pJ pins s1 σ H1 y v _ I1 r1 q1) λb s2 ⟨H2,I2,q2⟩=>?_;cases b with
   |true=>exact ⟨y,H2,I2,r1,q2.1 rfl⟩
   |false=>exact h2 pins s2 σ H2 Q I2 (q2.2 rfl)
theorem GP {X:Cx} {C:Sc} {E:XS} {pos:Pos} (op:BoolOp) (G:Gd X C) (hE:tH X E):∀(xs:List (EX X.K)) (e:Expr) (es:List Expr) (t:TT),PT X e t->pU xs (dJ X)->iD xs C es=true->PW X (.BoolOp op (e::es) pos) (lO X.K op E t xs)
 |[],e,[],t,he,_,_=>by
  cases op with
  |And=>exact UH he
  |Or=>exact Bs he
 |[],e,_::_,t,he,_,hm=>nomatch hm
 |x::xs,e,[],t,he,_,hm=>nomatch hm
 |x::xs,e,e2::es,t,he,hq,hm=>by
  have hm':(x.m C e2&&iD xs C es)=true:=hm;simp only [and_eq_true] at hm';have h2:=GP (pos:=pos) op G hE xs e2 es (x.tt E) (x.okT X C E e2 rfl G hE hq.1 hm'.1) hq.2 hm'.2;cases op with
  |And=>
   intro wh pins s σ H Q I h;refine isTrue_and (bH (he pins s σ H _ I h) λb s1 ⟨H1,I1,q1⟩=>?_);cases b with
   |true=>exact h2 wh pins s1 σ H1 Q I1 (q1.1 rfl)
   |false=>exact ⟨H1,I1,q1.2 rfl⟩
  |Or=>
   intro wh pins s σ H Q I h;refine isTrue_or (bH (he pins s σ H _ I h) λb s1 ⟨H1,I1,q1⟩=>?_);cases b with
   |true=>exact ⟨H1,I1,q1.1 rfl⟩
   |false=>exact h2 wh pins s1 σ H1 Q I1 (q1.2 rfl)
def Sb (op:BoolOp) (x:EX K) (xs:List (EX K)):EX K where
 t:=λE=>zJ K op E (x.t E) xs
 tt:=λE=>lO K op E (x.tt E) xs
 m:=λC e=>match e with
  | .BoolOp o (l::ls) _=>decide (o=op)&&(x.m C l&&iD xs C ls)
  |_=>false
 q:=λR=>x.q R/\pU xs R
 s:=.pl
 ok:=λX C E e hK G hE hq hm=>by
  subst hK;cases e with
  |BoolOp o ls p=>
   cases ls with
   |nil=>cases hm
   |cons l ls=>
    simp only [and_eq_true] at hm;obtain ⟨h1,h2,h3⟩:=hm;have e:=of_decide_eq_true h1;subst e;exact RF _ G hE xs l ls _ (x.ok X C E l rfl G hE hq.1 h2) hq.2 h3
  |_=>exact ff hm
 okT:=λX C E e hK G hE hq hm=>by
  subst hK;cases e with
  |BoolOp o ls p=>
   cases ls with
   |nil=>cases hm
   |cons l ls=>
    simp only [and_eq_true] at hm;obtain ⟨h1,h2,h3⟩:=hm;have e:=of_decide_eq_true h1;subst e;exact (GP _ G hE xs l ls _ (x.okT X C E l rfl G hE hq.1 h2) hq.2 h3).pt
  |_=>exact ff hm
 sok:=λC e hm=>by cases e with|BoolOp o l p=>rfl|_=>exact ff hm
def jO (x:EX K) (xs:List (EX K)):EX K:=Sb .And x xs
def NH (x:EX K) (xs:List (EX K)):EX K:=Sb .Or x xs
def Lg (c a b:EX K):EX K where
 t:=λE σ H Q=>c.tt E σ H λk H1=>br k (a.t E σ H1 Q) (b.t E σ H1 Q)
 tt:=λ_ _ _ _=>False
 m:=λC e=>match e with
  | .IfExp l x y _=>c.m C l&&(a.m C x&&b.m C y)
  |_=>false
 q:=λR=>c.q R/\a.q R/\b.q R
 s:=.pl
 ok:=λX C E e hK G hE hq hm=>by
  subst hK;cases e with
  |IfExp l x y p=>
   simp only [and_eq_true] at hm;obtain ⟨h1,h2,h3⟩:=hm;intro pins s σ H Q I h;refine wpAny_IfExp (bH (c.okT X C E l rfl G hE hq.1 h1 pins s σ H _ I h) λd s1 ⟨H1,I1,q1⟩=>?_);cases d with
   |true=>exact a.ok X C E x rfl G hE hq.2.1 h2 pins s1 σ H1 Q I1 (q1.1 rfl)
   |false=>exact b.ok X C E y rfl G hE hq.2.2 h3 pins s1 σ H1 Q I1 (q1.2 rfl)
  |_=>exact ff hm
 okT:=λX C E e hK G hE hq hm=>λ_ _ _ _ _ _ h=>h.elim
 sok:=λC e hm=>by cases e with|IfExp l x y p=>rfl|_=>exact ff hm
def fF:List (EX K)->XS->TA
 |[],_=>Io
 |x::xs,E=>YC (x.t E) (fF xs E)
theorem aG {x:EX K} {xs:List (EX K)} {C:Sc} {e:Expr} {es:List Expr} (h:iD (x::xs) C (e::es)=true):x.m C e=true/\iD xs C es=true:=by
 have h':(x.m C e&&iD xs C es)=true:=h;simpa only [and_eq_true] using h'
theorem cR {X:Cx} {C:Sc} {E:XS} (G:Gd X C) (hE:tH X E):∀(xs:List (EX X.K)) (es:List Expr),pU xs (dJ X)->iD xs C es=true->PA X es (fF xs E)
 |[],[],_,_=>ND
 |[],_::_,_,hm=>nomatch hm
 |_::_,[],_,hm=>nomatch hm
 |x::xs,e::es,hq,hm=>FF (x.ok X C E e rfl G hE hq.1 (aG hm).1) (cR G hE xs es hq.2 (aG hm).2) (aO (x.sok C e (aG hm).1))
theorem aV {C:Sc} {env:Env} {pos:Pos}:∀(xs:List (EX K)) (es:List Expr),iD xs C es=true->(backTo pos (starEach es env)).any (·.1)=false
 |[],[],_=>rfl
 |[],_::_,hm=>nomatch hm
 |_::_,[],hm=>nomatch hm
 |x::xs,e::es,hm=>by
  rw[aO (x.sok C e (aG hm).1)];show (false || (backTo pos (starEach es env)).any (·.1))=false;rw[aV xs es (aG hm).2];rfl
theorem as_none {C:Sc} {env:Env} {pos:Pos}:∀(xs:List (EX K)) (es:List Expr),iD xs C es=true->(backTo pos (starEach es env)).all (λx=>!x.1)=true
 |[],[],_=>rfl
 |[],_::_,hm=>nomatch hm
 |_::_,[],hm=>nomatch hm
 |x::xs,e::es,hm=>by
  rw[aO (x.sok C e (aG hm).1)];show (true&&(backTo pos (starEach es env)).all (λx=>!x.1))=true;rw[as_none xs es (aG hm).2];rfl
def Oe:List (EX K)->Gh
 |[]=>.zc
 |_=>.pl
theorem kP {C:Sc} {y:Str} {p q:Pos}:∀(xs:List (EX K)) (es:List Expr),iD xs C es=true->gB (.Call (.Name y p) es [] q)=some (Oe xs)
 |[],[],_=>rfl
 |[],_::_,hm=>nomatch hm
 |_::_,[],hm=>nomatch hm
 |_::_,_::_,_=>rfl
def Am (sp:Sp) (E:XS) (t:TA):TE:=λσ H Q=>t σ H λvs H1=>sp vs H1 Q (E σ)
theorem wU {X:Cx} {E:XS} {k:Nat} {f:Addr} {fd:FuncData} {ps:List Str} {sp:Sp} {pins:List (Addr × Obj)} {σ:St} {H1:Hp} {s1:Shared} {Q1:VK} {us:List Value} {vs:List V} (hE:tH X E) (F:pG X.prog X.w X.K X.mg X.base (lH X.prog X.w) k f fd ps sp)
  (room:bM k X.A) (bd:Binds X.K fd ps []) (I1:Inv X pins σ H1 s1) (rl:Vals vs us) (pr:sp vs H1 Q1 (E σ)):wpAny (model X.prog X.w) X.A (PySem.call (.ref f) us) (EP X pins σ Q1) X.xe s1:=by
 have ln:(us++[]).length=ps.length:=by rw[append_nil,<-rl.length];exact F.len _ _ _ _ pr
 have b:=bd s1 us I1.kIn ln;rw[append_nil] at b;refine wpAny_call (codeAny_mono (F.run X.A X.stack s1 H1 ⟨us,[]⟩ us vs Q1 (E σ) room I1.env0 b rl pr) λres s2 fin=>?_);cases res with
 |error ev=>exact hE.pass pins σ H1 s1 ev s2 I1 fin
 |ok fl=>
  cases fl with
  |ret v=>exact I1.after fin
  |next=>exact fin.elim
  |brk=>exact fin.elim
  |cont=>exact fin.elim
def call (x:Str) (sp:Sp) (as:List (EX K)):EX K:=KO (λE=>Am sp E (fF as E))
 (λC e=>match e with
  | .Call (.Name y _) es [] _=>mY C x y&&iD as C es
  |_=>false) (λR=>FnAt R x sp/\pU as R) (Oe as)
 (λX C E e hK G hE hq hm=>by
  subst hK
  cases e with
  |Call f es ks p=>
   cases f with
   |Name y py=>
    cases ks with
    |nil=>
     simp only [and_eq_true] at hm
     obtain ⟨h1,h2⟩:=hm
     have e:=bB h1
     subst e
     obtain ⟨g,d⟩:=bA G h1
     obtain ⟨⟨k,f,fd,ps,hr,F,hb,kp,hg⟩,hqa⟩:=hq
     cases as with
     |nil=>
      cases es with
      |nil=>
       intro pins s σ H Q I h
       exact wpAny_Call_Name_kw (dQ I g hg (PySem.W.callWith_K0 I.kIn kp (wU (us:=[]) hE F hr hb I .nil h)) d)
      |cons _ _=>cases h2
     |cons a as=>
      cases es with
      |nil=>cases h2
      |cons e es=>
       intro pins s σ H Q I h
       exact wpAny_Call_Name_kw (dQ I g hg (callWith_K (h₀:=X.base) I.ok.mod.kin kp (bH (cR G hE (a::as) (e::es) hqa h2 p pins s σ H _ I h) λus s1 ⟨vs,H1,I1,r,q⟩=>⟨I1.kIn,wU hE F hr hb I1 r q⟩) (aO (a.sok C e (aG h2).1)) (aV as es (aG h2).2)) d)
    |cons _ _=>cases hm
   |_=>exact ff hm
  |_=>exact ff hm)
 (λC e hm=>by
  cases e with
  |Call f es ks p=>
   cases f with
   |Name y py=>
    cases ks with
    |nil=>
     simp only [and_eq_true] at hm
     exact kP as es hm.2
    |cons _ _=>cases hm
   |_=>exact ff hm
  |_=>exact ff hm)
 (λC e hm=>by cases e with|Call f es ks p=>rfl|_=>exact ff hm)
def Hf (x:Str) (id:String) (r:List V->Hp->VK->Prop) (ok:∀X:Cx,X.K=K->X.calm=true->X.A.units+64<cLine->bN X (.builtin id) r) (hb:bootBuiltins x=some (.builtin id)) (hi:x∈kB) (hn:x≠"__name__") (a:EX K) (as:List (EX K)):EX K:=
 KO (λE=>Gz r (fF (a::as) E))
 (λC e=>match e with
  | .Call (.Name y _) es [] _=>(C.cm&&mY C x y)&&iD (a::as) C es
  |_=>false) (λR=>pU (a::as) R) .pl
 (λX C E e hK G hE hq hm=>by
  subst hK
  cases e with
  |Call f es ks p=>
   cases f with
   |Name y py=>
    cases ks with
    |nil=>
     simp only [and_eq_true] at hm
     obtain ⟨⟨hcm,h1⟩,h2⟩:=hm
     have e:=bB h1
     subst e
     obtain ⟨g,d⟩:=bA G h1
     cases es with
     |nil=>cases h2
     |cons e es=>exact rJ (ok X rfl (G.calm hcm) G.hu) g (G.bl _ hi) hb (cR G hE (a::as) (e::es) hq h2) hn d (aO (a.sok C e (aG h2).1)) (aV as es (aG h2).2)
    |cons _ _=>cases hm
   |_=>exact ff hm
  |_=>exact ff hm)
 (λC e hm=>by
  cases e with
  |Call f es ks p=>
   cases f with
   |Name y py=>
    cases ks with
    |nil=>
     simp only [and_eq_true] at hm
     exact kP (a::as) es hm.2
    |cons _ _=>cases hm
   |_=>exact ff hm
  |_=>exact ff hm)
 (λC e hm=>by cases e with|Call f es ks p=>rfl|_=>exact ff hm)
def Hg (x:Str) (T:String) (r:List V->Hp->VK->Prop) (ok:∀X:Cx,X.K=K->X.calm=true->X.A.units+64<cLine->bN X (.type T) r) (hb:bootBuiltins x=some (.type T)) (hi:x∈kB) (hn:x≠"__name__") (a:EX K) (as:List (EX K)):EX K:=
 KO (λE=>Gz r (fF (a::as) E))
 (λC e=>match e with
  | .Call (.Name y _) es [] _=>(C.cm&&mY C x y)&&iD (a::as) C es
  |_=>false) (λR=>pU (a::as) R) .pl
 (λX C E e hK G hE hq hm=>by
  subst hK
  cases e with
  |Call f es ks p=>
   cases f with
   |Name y py=>
    cases ks with
    |nil=>
     simp only [and_eq_true] at hm
     obtain ⟨⟨hcm,h1⟩,h2⟩:=hm
     have e:=bB h1
     subst e
     obtain ⟨g,d⟩:=bA G h1
     cases es with
     |nil=>cases h2
     |cons e es=>exact II (ok X rfl (G.calm hcm) G.hu) g (G.bl _ hi) hb (cR G hE (a::as) (e::es) hq h2) hn d (aO (a.sok C e (aG h2).1)) (aV as es (aG h2).2)
    |cons _ _=>cases hm
   |_=>exact ff hm
  |_=>exact ff hm)
 (λC e hm=>by
  cases e with
  |Call f es ks p=>
   cases f with
   |Name y py=>
    cases ks with
    |nil=>
     simp only [and_eq_true] at hm
     exact kP (a::as) es hm.2
    |cons _ _=>cases hm
   |_=>exact ff hm
  |_=>exact ff hm)
 (λC e hm=>by cases e with|Call f es ks p=>rfl|_=>exact ff hm)
def DA (K:Fg):List V->Hp->VK->Prop
 |[.str z],H,Q=>z.length<=sizeLine/\Q (.int z.length) H
 |[.ref a],H,Q=>(∃n,Nr K (.ref a) H n/\Q (.int n) H)\/∃kvs,H a=some (.dK kvs)/\Q (.int kvs.length) H
 |_,_,_=>False
theorem RE {X:Cx}:bN X (.builtin "len") (λxs H Q=>∃a kvs,xs=[V.ref a]/\H a=some (.dK kvs)/\Q (.int kvs.length) H):=by
 intro pins s σ H xs us Q I r h;obtain ⟨a,kvs,rfl,ha,q⟩:=h;obtain ⟨u,rfl,ru⟩:=vals1 r;cases ru;exact Nc I (.inl ha) λt s' I'=>⟨.int kvs.length,H,I',⟨t,rfl⟩,q⟩
theorem Dm (X:Cx):bN X (.builtin "len") (DA X.K):=by
 intro pins s σ H xs us Q I r h;unfold DA at h;split at h
 ·exact BM pins s σ H _ us Q I r ⟨_,_,rfl,⟨h.1,rfl⟩,h.2⟩
 ·rcases h with ⟨n,h1,h2⟩|⟨kvs,h1,h2⟩
  ·exact BM pins s σ H _ us Q I r ⟨_,n,rfl,h1,h2⟩
  ·exact RE pins s σ H _ us Q I r ⟨_,kvs,rfl,h1,h2⟩
 ·exact h.elim
def len (a:EX K):EX K:=Hf "len" "len" (DA K) (λX hK _ _=>by subst hK;exact Dm X) PySem.boot_len (by decide+kernel) (by decide+kernel) a []
def sum (a:EX K):EX K:=Hf "sum" "sum" Bj (λX hK hc _=>RA hc) PyProof.Rows.Boot.sum (by decide+kernel) (by decide+kernel) a []
def KH (a:EX K):EX K:=Hf "all" "all" (Bq K) (λX hK hc _=>by subst hK;exact RC hc) PyProof.Rows.Boot.all (by decide+kernel) (by decide+kernel) a []
def zZ:List V->Hp->VK->Prop
 |[.int i,.int j],H,Q=>Q (.int (min i j)) H
 |_,_,_=>False
def AA:List V->Hp->VK->Prop
 |[.int i,.int j],H,Q=>Q (.int (max i j)) H
 |_,_,_=>False
theorem Dh {X:Cx} (hc:X.calm=true):bN X (.builtin "min") zZ:=by
 intro pins s σ H xs us Q I r h;unfold zZ at h;split at h
 ·rename_i i j;refine JW hc pins s σ H _ us Q I r ⟨i,j,rfl,?_⟩;have e:(if j<i then j else i)=min i j:=by split<;>lia
  rw[e];exact h
 ·exact h.elim
theorem Di {X:Cx} (hc:X.calm=true):bN X (.builtin "max") AA:=by
 intro pins s σ H xs us Q I r h;unfold AA at h;split at h
 ·rename_i i j;refine JX hc pins s σ H _ us Q I r ⟨i,j,rfl,?_⟩;have e:(if j>i then j else i)=max i j:=by split<;>lia
  rw[e];exact h
 ·exact h.elim
def min2 (a b:EX K):EX K:=Hf "min" "min" zZ (λX hK hc _=>Dh hc) PyProof.Rows.Boot.min (by decide+kernel) (by decide+kernel) a [b]
def max2 (a b:EX K):EX K:=Hf "max" "max" AA (λX hK hc _=>Di hc) PyProof.Rows.Boot.max (by decide+kernel) (by decide+kernel) a [b]
def EZ (K:Fg):List V->Hp->VK->Prop
 |[x,.ty n],H,Q=>∃t b,cE K H x t/\kitOne K t (.type n)=some b/\Q (.bl b) H
 |_,_,_=>False
theorem Eb (X:Cx):bN X (.builtin "isinstance") (EZ X.K):=by
 intro pins s σ H xs us Q I r h;unfold EZ at h;split at h
 ·obtain ⟨t,b,h1,h2,h3⟩:=h;exact RB pins s σ H _ us Q I r ⟨_,_,t,b,rfl,h1,h2,h3⟩
 ·exact h.elim
def OO (a b:EX K):EX K:=Hf "isinstance" "isinstance" (EZ K) (λX hK _ _=>by subst hK;exact Eb X) PyProof.Rows.Boot.isinstance (by decide+kernel) (by decide+kernel) a [b]
def LI:EX K:=Nh "int" "int" PyProof.Rows.Boot.int (by decide+kernel) (by decide+kernel)
def uI:EX K:=Nh "str" "str" PyProof.Rows.Boot.str (by decide+kernel) (by decide+kernel)
def CF:EX K:=Nh "bool" "bool" PyProof.Rows.Boot.bool (by decide+kernel) (by decide+kernel)
def EM:EX K:=Nh "tuple" "tuple" PyProof.Rows.Boot.tuple (by decide+kernel) (by decide+kernel)
def pO (K:Fg):List V->Hp->VK->Prop
 |[.ref p],H,Q=>∃ys,(aH K H p ys\/bX K H p ys)/\∀l,H l=none->Q (.ref l) (upd H l (.lst ys))
 |_,_,_=>False
theorem VG (X:Cx):bN X (.type "list") (pO X.K):=by
 intro pins s σ H xs us Q I r h;unfold pO at h;split at h
 ·obtain ⟨ys,h1,h2⟩:=h;exact yB pins s σ H _ us Q I r ⟨_,ys,rfl,h1,h2⟩
 ·exact h.elim
def listE (a:EX K):EX K:=Hg "list" "list" (pO K) (λX hK _ _=>by subst hK;exact VG X) PyProof.Rows.Boot.list (by decide+kernel) (by decide+kernel) a []
def wW (K:Fg):List V->Hp->VK->Prop
 |[.ref p],H,Q=>(∃ys,aH K H p ys/\∀l,H l=none->Q (.ref l) (upd H l (.tup ys)))\/∃ys,bX K H p ys/\Q (.ref p) H
 |_,_,_=>False
theorem LM (X:Cx):bN X (.type "tuple") (wW X.K):=by
 intro pins s σ H xs us Q I r h;unfold wW at h;split at h
 ·rcases h with ⟨ys,h1,h2⟩|⟨ys,h1,h2⟩
  ·exact kI pins s σ H _ us Q I r ⟨_,ys,rfl,.inl ⟨h1,h2⟩⟩
  ·exact kI pins s σ H _ us Q I r ⟨_,ys,rfl,.inr ⟨h1,h2⟩⟩
 ·exact h.elim
def LN (a:EX K):EX K:=Hg "tuple" "tuple" (wW K) (λX hK _ _=>by subst hK;exact LM X) PyProof.Rows.Boot.tuple (by decide+kernel) (by decide+kernel) a []
theorem Cn {X:Cx} {o:Expr} {es:List Expr} {to:TE} {name:Str} {apos cpos:Pos} {T id:String} {r:V->List V->Hp->VK->Prop} {RR:V->St->Hp->VK->Prop} {C:Sc} {E:XS} {xs:List (EX X.K)}
  (pa:PlainAttrs T) (slot:Slot T name id) (hty:typeOf (.builtin id)=pure (.type "method_descriptor")) (hm:Gk X id r) (ho:PE X o to) (ha:PA X es (fF xs E))
  (hR:∀x σ H Q,RR x σ H Q->Pb X.K T x H/\fF xs E σ H λys H2=>r x ys H2 Q)
  (hbase:attributeBase o name X.env (eval o X.env)=eval o X.env) (hx:iD xs C es=true) (h30:es.length<30) (hline:(apos.endLine==cpos.line)=true):
  PE X (.Call (.Attribute o name apos) es [] cpos) (λσ H Q=>to σ H λx H1=>RR x σ H1 Q):=by
 intro pins s σ H Q I h;cases es with
 |nil=>
  refine wpAny_Call_method0_late hbase hline (bH (ho pins s σ H _ I h) λv s1 ⟨x,H1,I1,r1,q0⟩=>?_);obtain ⟨ty,q1⟩:=hR x σ H1 Q q0;obtain ⟨h1,h2⟩:=LH I1 r1 ty;cases xs with
  |nil=>exact ⟨T,id,pa,slot,hty,h1,h2,Calls.callWith_builtin rfl (PySem.evalArgs_none (hm pins s1 σ H1 x [] v [] Q I1 r1 .nil q1))⟩
  |cons _ _=>cases hx
 |cons e es=>
  cases xs with
  |nil=>cases hx
  |cons a as=>
   have hs:=aO (env:=X.env) (es:=es) (a.sok C e (aG hx).1);have hplain:=aV (env:=X.env) (pos:=cpos) as es (aG hx).2;have hfew:((backTo cpos (starEach (e::es) X.env)).all (λx=>!x.1)&&(backToKw cpos (keywordEach [] X.env)).all (λx=>x.1.isSome)
     &&decide ((e::es).length+([]:List Keyword).length+(if ([]:List Keyword).isEmpty then 0 else 1)<30))=true:=by
    rw[as_none (env:=X.env) (pos:=cpos) (a::as) (e::es) hx];have h30':(e::es).length+([]:List Keyword).length+(if ([]:List Keyword).isEmpty then 0 else 1)<30:=h30;rw[decide_eq_true h30'];rfl
   refine wpAny_Call_method_late hbase hfew hline rfl (bH (ho pins s σ H _ I h) λv s1 ⟨x,H1,I1,r1,q0⟩=>?_);obtain ⟨ty,q1⟩:=hR x σ H1 Q q0;obtain ⟨h1,h2⟩:=LH I1 r1 ty;refine ⟨T,id,pa,slot,hty,h1,h2,?_⟩;have hA:=ha cpos pins s1 σ H1 _ I1 q1;rw[hs] at hA ⊢;refine Calls.callWith_builtin (by show (false || (backTo cpos (starEach es X.env)).any (·.1))=false;rw[hplain]<;>rfl) (Calls.evalArgs_plain ?_);exact bH hA λus s2 ⟨vs,H2,I2,r2,q2⟩=>hm pins s2 σ H2 x vs v us Q I2 r1 r2 q2
def NX (name:Str) (T id:String) (r:V->List V->Hp->VK->Prop) (RR:TA->V->St->Hp->VK->Prop) (pa:PlainAttrs T) (slot:Slot T name id) (hty:typeOf (.builtin id)=pure (.type "method_descriptor")) (ok:∀X:Cx,X.K=K->X.calm=true->X.A.units+64<cLine->Gk X id r)
  (hR:∀t x σ H Q,RR t x σ H Q->Pb K T x H/\t σ H λys H2=>r x ys H2 Q) (o:EX K) (ho:o.s≠.zc) (as:List (EX K)):EX K:=KO (λE σ H Q=>o.t E σ H λx H1=>RR (fF as E) x σ H1 Q)
 (λC e=>match e with
  | .Call (.Attribute l y p) es [] p2=>(y==name&&(C.cm&&(p.endLine==p2.line&&decide (es.length<30))))&&(o.m C l&&iD as C es)
  |_=>false) (λR=>o.q R/\pU as R) .pl
 (λX C E e hK G hE hq hm=>by
  subst hK
  cases e with
  |Call f es ks p=>
   cases f with
   |Attribute l y py=>
    cases ks with
    |nil=>
     simp only [and_eq_true] at hm
     obtain ⟨⟨h1,hcm,h2,h3⟩,h4,h5⟩:=hm
     have e:=eq_of_beq h1
     subst e
     exact Cn pa slot hty (ok X rfl (G.calm hcm) G.hu) (o.ok X C E l rfl G hE hq.1 h4) (cR G hE as es hq.2 h5) (hR _) (lZ (o.sok C l h4) ho) h5 (of_decide_eq_true h3) h2
    |cons _ _=>cases hm
   |_=>exact ff hm
  |_=>exact ff hm)
 (λC e hm=>by
  cases e with
  |Call f es ks p=>
   cases f with
   |Attribute l y py=>rfl
   |_=>exact ff hm
  |_=>exact ff hm)
 (λC e hm=>by cases e with|Call f es ks p=>rfl|_=>exact ff hm)
def RS (r:Str->List V->Hp->VK->Prop) (t:TA):V->St->Hp->VK->Prop
 | .str z,σ,H,Q=>t σ H λys H2=>r z ys H2 Q
 |_,_,_,_=>False
def rS (r:Str->List V->Hp->VK->Prop):V->List V->Hp->VK->Prop
 | .str z,ys,H,Q=>r z ys H Q
 |_,_,_,_=>False
def AM (name:Str) (id:String) (r:Str->List V->Hp->VK->Prop) (slot:Slot "str" name id) (hty:typeOf (.builtin id)=pure (.type "method_descriptor")) (ok:∀X:Cx,X.K=K->X.calm=true->X.A.units+64<cLine->Gk X id (rS r)) (o:EX K) (ho:o.s≠.zc) (as:List (EX K)):EX K:=
 NX name "str" id (rS r) (RS r) PySem.F.plainAttrs_str slot hty ok (λt x σ H Q h=>by
  cases x with
  |str z=>exact ⟨rfl,h⟩
  |_=>exact h.elim) o ho as
def RL (K:Fg) (r:V->List V->Hp->VK->Prop) (t:TA):V->St->Hp->VK->Prop
 | .ref p,σ,H,Q=>(∃xs,aH K H p xs)/\t σ H λys H2=>r (.ref p) ys H2 Q
 |_,_,_,_=>False
def Kn (name:Str) (id:String) (r:V->List V->Hp->VK->Prop) (slot:Slot "list" name id) (hty:typeOf (.builtin id)=pure (.type "method_descriptor")) (ok:∀X:Cx,X.K=K->X.calm=true->X.A.units+64<cLine->Gk X id r) (o:EX K) (ho:o.s≠.zc) (as:List (EX K)):EX K:=
 NX name "list" id r (RL K r) PySem.F.plainAttrs_list slot hty ok (λt x σ H Q h=>by
  cases x with
  |ref p=>exact ⟨.inl ⟨rfl,h.1⟩,h.2⟩
  |_=>exact h.elim) o ho as
theorem VP {X:Cx} (hu:X.A.units+1<cLine):Hh X (λx y H Q=>∃a v,x=.ref a/\fV H a y (some v)/\Q v H):=by
 intro value slice pins s σ H x y v u Q I rx ry h hs;obtain ⟨a,z,rfl,g,q⟩:=h;obtain rfl:v=Value.ref a:=rx;exact tail_any (BG I g) PySem.F.slot_dict_getitem.lookup (JN hu I g ry λw' s3 I3 rw'=>⟨z,H,I3,rw',q⟩) hs
def AB (K:Fg):R2
 | .str z,.int i,H,Q=>z.length<=sizeLine/\∃c,uB z.cps.toList i=some c/\Q (sgn c) H
 | .ref a,y,H,Q=>Jq K (.ref a) y H Q\/Jp K (.ref a) y H Q\/∃v,fV H a y (some v)/\Q v H
 |_,_,_,_=>False
theorem Lf {X:Cx} (hu:X.A.units+1<cLine):Hh X (AB X.K):=by
 intro value slice pins s σ H x y v u Q I rx ry h hs;unfold AB at h;split at h
 ·obtain ⟨h1,c,h2,h3⟩:=h;exact Dz value slice pins s σ H _ _ v u Q I rx ry ⟨_,_,c,rfl,rfl,h1,h2,h3⟩ hs
 ·rcases h with h|h|⟨z,h,q⟩
  ·exact VO value slice pins s σ H _ _ v u Q I rx ry h hs
  ·exact Dy value slice pins s σ H _ _ v u Q I rx ry h hs
  ·exact VP hu value slice pins s σ H _ _ v u Q I rx ry ⟨_,z,rfl,h,q⟩ hs
 ·exact h.elim
def ix (a b:EX K):EX K:=iB (λE=>Ak (AB K) (a.t E) (b.t E))
 (λC e=>match e with
  | .Subscript l r _=>a.m C l&&b.m C r
  |_=>false) (λR=>a.q R/\b.q R) .pl
 (λX C E e hK G hE hq hm=>by
  subst hK
  cases e with
  |Subscript l r p=>
   simp only [and_eq_true] at hm
   exact Jy (Lf (by have:=G.hu;lia)) (a.ok X C E l rfl G hE hq.1 hm.1) (b.ok X C E r rfl G hE hq.2 hm.2) (As (b.sok C r hm.2))
  |_=>exact ff hm)
 (λC e hm=>by cases e with|Subscript l r p=>exact ⟨rfl,rfl⟩|_=>exact ff hm)
def rO (QO:Option Int->Hp->Prop):V->Hp->Prop
 | .int i,H=>QO (some i) H
 |_,_=>False
def tO (E:XS):Option (EX K)->TO
 |none=>EN
 |some x=>λσ H Q=>x.t E σ H (rO Q)
def mO:Option (EX K)->Sc->Option Expr->Bool
 |none,_,none=>true
 |some x,C,some e=>x.m C e
 |_,_,_=>false
def qO:Option (EX K)->Rt->Prop
 |none,_=>True
 |some x,R=>x.q R
theorem Ki {X:Cx} {C:Sc} {E:XS} (G:Gd X C) (hE:tH X E):∀(o:Option (EX X.K)) (e:Option Expr),qO o (dJ X)->mO o C e=true->PO X e (tO E o)
 |none,none,_,_=>UL
 |none,some _,_,hm=>nomatch hm
 |some _,none,_,hm=>nomatch hm
 |some x,some e,hq,hm=>by
  intro pins s σ H Q I hw;rw[evalPart_some];refine bH (x.ok X C E e rfl G hE hq hm pins s σ H _ I hw) λu s1 ⟨y,H1,I1,r1,q1⟩=>?_;cases y with
  |int i=>
   obtain ⟨t,rfl⟩:=r1;exact ⟨some i,H1,I1,.int i t,q1⟩
  |_=>exact q1.elim
def ID (K:Fg):V->Option Int->Option Int->Hp->VK->Prop
 | .str z,lo,hi,H,Q=>z.length<=sizeLine/\Q (.str (Txt.slice z lo hi)) H
 | .ref a,lo,hi,H,Q=>Jl K (.ref a) lo hi H Q\/Jk K (.ref a) lo hi H Q
 |_,_,_,_,_=>False
theorem Jd {X:Cx}:Nn X (ID X.K):=by
 intro pins s σ H x v vl vu lo hi sl Q I rx hs pl pu h;unfold ID at h;split at h
 ·exact Ar pins s σ H _ v vl vu _ _ sl Q I rx hs pl pu ⟨_,rfl,h.1,h.2⟩
 ·rcases h with h|h
  ·exact TR pins s σ H _ v vl vu _ _ sl Q I rx hs pl pu h
  ·exact Aq pins s σ H _ v vl vu _ _ sl Q I rx hs pl pu h
 ·exact h.elim
def CU (a:EX K) (lo hi:Option (EX K)):EX K:=iB (λE=>Rk (ID K) (a.t E) (tO E lo) (tO E hi))
 (λC e=>match e with
  | .Subscript l (.Slice x y none _) _=>a.m C l&&(mO lo C x&&mO hi C y)
  |_=>false) (λR=>a.q R/\qO lo R/\qO hi R) .pl
 (λX C E e hK G hE hq hm=>by
  subst hK
  cases e with
  |Subscript l r p=>
   cases r with
   |Slice x y z p2=>
    cases z with
    |none=>
     simp only [and_eq_true] at hm
     exact NB Jd (a.ok X C E l rfl G hE hq.1 hm.1) (Ki G hE lo x hq.2.1 hm.2.1) (Ki G hE hi y hq.2.2 hm.2.2)
    |some _=>cases hm
   |_=>exact ff hm
  |_=>exact ff hm)
 (λC e hm=>by cases e with|Subscript l r p=>exact ⟨rfl,rfl⟩|_=>exact ff hm)
def lst (as:List (EX K)):EX K:=iB (λE=>Ir (fF as E))
 (λC e=>match e with
  | .List es _=>iD as C es
  |_=>false) (λR=>pU as R) .pl
 (λX C E e hK G hE hq hm=>by
  subst hK
  cases e with
  |List es p=>exact Cj (cR G hE as es hq hm)
  |_=>exact ff hm)
 (λC e hm=>by cases e with|List es p=>exact ⟨rfl,rfl⟩|_=>exact ff hm)
def tup (as:List (EX K)):EX K:=iB (λE=>Ik (fF as E))
 (λC e=>match e with
  | .Tuple es _ _=>iD as C es
  |_=>false) (λR=>pU as R) .pl
 (λX C E e hK G hE hq hm=>by
  subst hK
  cases e with
  |Tuple es k p=>exact Ce (cR G hE as es hq hm)
  |_=>exact ff hm)
 (λC e hm=>by cases e with|Tuple es k p=>exact ⟨rfl,rfl⟩|_=>exact ff hm)
def Nb:EX K:=iB (λ_=>YB)
 (λ_ e=>match e with
  | .Dict [] [] _=>true
  |_=>false) (λ_=>True) .pl
 (λX C E e hK G hE hq hm=>by
  cases e with
  |Dict ks vs p=>
   cases ks with
   |nil=>
    cases vs with
    |nil=>exact UO
    |cons _ _=>cases hm
   |cons _ _=>cases hm
  |_=>exact ff hm)
 (λC e hm=>by cases e with|Dict es k p=>exact ⟨rfl,rfl⟩|_=>exact ff hm)
theorem LZ {e t:Expr} {line:Nat} {env:Env} {s:Gh} (h:gB e=some s) (hs:s≠.cp):swapsWithSole [t] e line env=pure false:=iS (tgt:=some t) h hs
structure IX (K:Fg) where
 t:XS->TI
 tm:Expr->Bool
 m:Sc->Expr->Bool
 q:Rt->Prop
 ok:∀(X:Cx) (C:Sc) (E:XS) (tg e:Expr),X.K=K->Gd X C->tH X E->q (dJ X)->tm tg=true->m C e=true->PI X tg e (t E)
 fs:∀(C:Sc) (e:Expr) (env:Env) (x:Value),m C e=true->foldedSetIterable e env x=pure x
def rF (K:Fg):V->Hp->(It->Hp->Prop)->Prop
 | .str z,H,R=>R (Nw z) H
 | .ref a,H,R=>((∃xs,aH K H a xs)/\R (ZS K a) H)\/((∃xs,bX K H a xs)/\R (Hi K a) H)
 |_,_,_=>False
theorem ON {X:Cx} {tg:Expr} {pins:List (Addr × Obj)} {s1:Shared} {σ:St} {H1:Hp} {x:V} {v:Value} {R:It->Hp->Prop} (I1:Inv X pins σ H1 s1) (r1:RelV x v) (q1:rF X.K x H1 R):
  wpAny (model X.prog X.w) X.A (pyIter v) (Ot X pins σ tg R) X.xe s1:=by
 unfold rF at q1;split at q1
 ·rename_i z;obtain ⟨t,rfl⟩:=r1;have fin:∀T:String,(T="str_ascii_iterator"\/T="str_iterator")->Ot X pins σ tg R (.ref s1.heap.objs.size) {s1 with heap:=s1.heap.push {cls:=.type T,data:=.fields #[.str z t,.int 0 0]}}:=λT hT=>by
   refine ⟨s1.heap.objs.size,[s1.heap.objs.size],_,_,H1,rfl,I1.kept (t':=s1.toks) λb o e=>get?_push_of_some _ e,LK z t _ T hT,⟨_,get?_push_size _ rfl,rfl,rfl⟩,λb hb=>?_,q1⟩;have e:b=s1.heap.objs.size:=by simpa using hb
   subst e;exact I1.fpOk (Nat.le_refl _) (I1.hok.fresh (Nat.le_refl _))
  cases ha:z.cps.all (·<128) with
  |true=>exact wpAny_pyIter_ascii ha (fin _ (.inl rfl))
  |false=>exact wpAny_pyIter_wide ha (fin _ (.inr rfl))
 ·rename_i a;cases (show v=Value.ref a from r1);rcases q1 with ⟨⟨xs,hq⟩,q⟩|⟨⟨xs,hq⟩,q⟩
  ·obtain ⟨its,rv,p,hz⟩:=I1.list hq;refine wpAny_pyIter_list p.isList ?_;refine ⟨s1.heap.objs.size,[s1.heap.objs.size],_,_,H1,rfl,I1.kept (t':=s1.toks) λb o e=>get?_push_of_some _ e,HB a _,⟨_,get?_push_size _ rfl,rfl,rfl⟩,λb hb=>?_,q⟩;have e:b=s1.heap.objs.size:=by simpa using hb
   subst e;exact I1.fpOk (Nat.le_refl _) (I1.hok.fresh (Nat.le_refl _))
  ·obtain ⟨its,rv,p,hz⟩:=I1.tuple hq;refine wpAny_pyIter_tuple (show s1.heap.IsTuple a its.toArray from p) ?_;refine ⟨s1.heap.objs.size,[s1.heap.objs.size],_,_,H1,rfl,I1.kept (t':=s1.toks) λb o e=>get?_push_of_some _ e,CG a _,⟨_,get?_push_size _ rfl,rfl,rfl⟩,λb hb=>?_,q⟩;have e:b=s1.heap.objs.size:=by simpa using hb
   subst e;exact I1.fpOk (Nat.le_refl _) (I1.hok.fresh (Nat.le_refl _))
 ·exact q1.elim
def gG (a:EX K):IX K where
 t:=λE σ H R=>a.t E σ H λx H1=>rF K x H1 R
 tm:=λ_=>true
 m:=a.m
 q:=a.q
 ok:=λX C E tg e hK G hE hq _ hm=>by
  subst hK;intro pins s σ H R I h;exact bH (a.ok X C E e rfl G hE hq hm pins s σ H _ I h) λv s1 ⟨x,H1,I1,r1,q1⟩=>ON I1 r1 q1
 fs:=λC e env x hm=>MA (a.sok C e hm) x
def IE:List V->Hp->(It->Hp->Prop)->Prop
 |[.int j],H,R=>(-(2 ^ 62)<=j/\j<2 ^ 62)/\R (KJ 0 j.toNat) H
 |[.int i,.int j],H,R=>(-(2 ^ 62)<=i/\i<2 ^ 62/\-(2 ^ 62)<=j/\j<2 ^ 62)/\R (KJ i (j - i).toNat) H
 |_,_,_=>False
def xT (a:EX K) (as:List (EX K)):IX K where
 t:=λE σ H R=>fF (a::as) E σ H λvs H1=>IE vs H1 R
 tm:=λ_=>true
 m:=λC e=>match e with
  | .Call (.Name y _) es [] _=>mY C "range" y&&iD (a::as) C es
  |_=>false
 q:=λR=>pU (a::as) R
 ok:=λX C E tg e hK G hE hq _ hm=>by
  subst hK;cases e with
  |Call f es ks p=>
   cases f with
   |Name y py=>
    cases ks with
    |nil=>
     simp only [and_eq_true] at hm;obtain ⟨h1,h2⟩:=hm;have e:=bB h1;subst e;obtain ⟨g,d⟩:=bA G h1;cases es with
     |nil=>cases h2
     |cons e es=>
      intro pins s σ H R I h;refine Call_ (fL I g (G.bl _ (by decide+kernel)) boot_range (PyProof.Rows.callWith_type1 (bH (cR G hE (a::as) (e::es) hq h2 p pins s σ H _ I h) λus s1 ⟨vs,H1,I1,r1,q1⟩=>?_) (aO (a.sok C e (aG h2).1)) (aV as es (aG h2).2)));replace q1:IE vs H1 R:=q1;unfold IE at q1;split at q1
      ·cases r1 with
       |cons r rr=>
        cases rr;obtain ⟨t,rfl⟩:=r;exact call_range_1 (zV I1 (by lia) (by lia) q1.1.1 q1.1.2 (by simpa using q1.2))
      ·cases r1 with
       |cons r rr=>
        cases rr with
        |cons r' rr=>
         cases rr;obtain ⟨t,rfl⟩:=r;obtain ⟨t',rfl⟩:=r';exact call_range_2 (zV I1 q1.1.1 q1.1.2.1 q1.1.2.2.1 q1.1.2.2.2 q1.2)
      ·exact q1.elim
    |cons _ _=>cases hm
   |_=>exact ff hm
  |_=>exact ff hm
 fs:=λC e env x hm=>by cases e with|Call f es ks p=>rfl|_=>exact ff hm
def MP (K:Fg):List V->Hp->(It->Hp->Prop)->Prop
 |[.ref p,.ref q],H,R=>((∃xs,aH K H p xs)/\∃ys,aH K H q ys)/\R (Nu K p q) H
 |_,_,_=>False
def WO (a b:EX K):IX K where
 t:=λE σ H R=>fF [a,b] E σ H λvs H1=>MP K vs H1 R
 tm:=λe=>match e with
  | .Tuple _ _ _=>true
  |_=>false
 m:=λC e=>match e with
  | .Call (.Name y _) es [] _=>mY C "zip" y&&iD [a,b] C es
  |_=>false
 q:=λR=>pU [a,b] R
 ok:=λX C E tg e hK G hE hq ht hm=>by
  subst hK;cases tg with
  |Tuple ts tk tp=>
   cases e with
   |Call f es ks p=>
    cases f with
    |Name y py=>
     cases ks with
     |nil=>
      simp only [and_eq_true] at hm;obtain ⟨h1,h2⟩:=hm;have e:=bB h1;subst e;obtain ⟨g,d⟩:=bA G h1;cases es with
      |nil=>cases h2
      |cons e es=>
       intro pins s σ H R I h;refine Call_ (fL I g (G.bl _ (by decide+kernel)) boot_zip (PyProof.Rows.callWith_type1 (bH (cR G hE [a,b] (e::es) hq h2 p pins s σ H _ I h) λus s1 ⟨vs,H1,I1,r1,q1⟩=>?_) (aO (a.sok C e (aG h2).1)) (aV [b] es (aG h2).2)));replace q1:MP X.K vs H1 R:=q1;unfold MP at q1;split at q1
       ·rename_i p1 p2;cases r1 with
        |cons r rr=>
         cases rr with
         |cons r' rr=>
          cases rr;cases r;cases r';obtain ⟨⟨⟨xs,hx⟩,ys,hy⟩,q⟩:=q1;obtain ⟨ia,ra,pa,_⟩:=I1.list hx;obtain ⟨ib,rb,pb,_⟩:=I1.list hy;refine call_zip_2 pa.isList pb.isList λh' z1 z2 z3 z4 z5 z6 kp=>?_;refine wpAny_pyIter_zip (s:={s1 with heap:=h'}) z1 ?_;have Z:EE (s1.heap.objs.size+4) (s1.heap.objs.size+2) (s1.heap.objs.size+3) s1.heap.objs.size (s1.heap.objs.size+1):=by constructor<;>simp<;>lia
          have big:∀c∈[s1.heap.objs.size+4,s1.heap.objs.size+2,s1.heap.objs.size+3,s1.heap.objs.size,s1.heap.objs.size+1],s1.heap.objs.size<=c:=by
           intro c hc;simp only [mem_cons,not_mem_nil,or_false] at hc;lia
          exact ⟨_,[s1.heap.objs.size+4,s1.heap.objs.size+2,s1.heap.objs.size+3,s1.heap.objs.size,s1.heap.objs.size+1],_,_,H1,rfl,I1.kept (t':=s1.toks) kp,LJ p1 p2 _ _ _ _ _ Z,⟨z1,z2,⟨_,_,z3⟩,z4,z5⟩,λc hc=>I1.fpOk (big c hc) (I1.hok.fresh (big c hc)),q⟩
       ·exact q1.elim
     |cons _ _=>cases hm
    |_=>exact ff hm
   |_=>exact ff hm
  |_=>cases ht
 fs:=λC e env x hm=>by cases e with|Call f es ks p=>rfl|_=>exact ff hm
structure TX (K:Fg) where
 g:TG
 m:Sc->Expr->Bool
 ok:∀(X:Cx) (C:Sc) (e:Expr),X.K=K->Gd X C->m C e=true->PG X e g
def TM (C:Sc) (i:Nat) (x:Str):Bool:=C.N[i]?==some x&&(C.nm.lookup x==some .local || (C.nm.lookup x==some .cell&&(C.fb || C.ow.contains x)))
theorem wK {X:Cx} {C:Sc} {i:Nat} {x:Str} (G:Gd X C) (h:TM C i x=true):X.N[i]?=some x/\Loc X.env.scope x/\(X.fn x=true\/X.env.scope.names.lookup x=some .local):=by
 unfold TM at h;simp only [and_eq_true,or_eq_true] at h;obtain ⟨h1,h2⟩:=h;refine ⟨by rw[G.N];exact eq_of_beq h1,?_,?_⟩
 ·rcases h2 with h2|⟨h2,_⟩
  ·exact .inl (by rw[G.nm];exact eq_of_beq h2)
  ·exact .inr (by rw[G.nm];exact eq_of_beq h2)
 ·rcases h2 with h2|⟨_,h2⟩
  ·exact .inr (by rw[G.nm];exact eq_of_beq h2)
  ·rcases h2 with h2|h2
   ·exact .inl (G.fb h2 x)
   ·exact .inl (G.ow x (List.contains_iff_mem.mp h2))
def iV (i:Nat):TX K where
 g:=GF i
 m:=λC e=>match e with
  | .Name x _=>TM C i x
  |_=>false
 ok:=λX C e hK G hm=>by
  cases e with
  |Name x p=>
   obtain ⟨h1,h2,h3⟩:=wK G hm;exact FC (by rw[G.N];exact G.nd) h1 h2 h3
  |_=>exact ff hm
def Qu:List Nat->Gg
 |[]=>Ms
 |i::is=>ZG (GF i) (Qu is)
def Oi:List Nat->Sc->List Expr->Bool
 |[],_,[]=>true
 |i::is,C,.Name x _::es=>TM C i x&&Oi is C es
 |_,_,_=>false
theorem YM {X:Cx} {C:Sc} (G:Gd X C):∀(is:List Nat) (es:List Expr),Oi is C es=true->Np X es (Qu is)/\(assignEach es X.env).length=is.length/\(assignEach es X.env).findIdx? (·.1)=none
 |[],[],_=>⟨UM,rfl,rfl⟩
 |[],_::_,hm=>nomatch hm
 |_::_,[],hm=>nomatch hm
 |i::is,e::es,hm=>by
  cases e with
  |Name x p=>
   have hm':(TM C i x&&Oi is C es)=true:=hm;simp only [and_eq_true] at hm';obtain ⟨h1,h2,h3⟩:=YM G is es hm'.2;obtain ⟨g1,g2,g3⟩:=wK G hm'.1;refine ⟨NA (FC (by rw[G.N];exact G.nd) g1 g2 g3) h1 rfl,?_,?_⟩
   ·show (assignEach es X.env).length+1=is.length+1;rw[h2]
   ·show List.findIdx? (·.1) ((false,assign (.Name x p) X.env)::assignEach es X.env)=none;rw[List.findIdx?_cons,h3];rfl
  |_=>exact nomatch hm
def GZ (is:List Nat):TX K where
 g:=Mr K is.length (Qu is)
 m:=λC e=>match e with
  | .Tuple es _ _=>C.cm&&Oi is C es
  |_=>false
 ok:=λX C e hK G hm=>by
  subst hK;cases e with
  |Tuple es k p=>
   simp only [and_eq_true] at hm;obtain ⟨h1,h2,h3⟩:=YM G is es hm.2;exact Cb (G.calm hm.1) h1 h2 h3
  |_=>exact ff hm
structure SX (K:Fg) where
 t:XS->TS
 m:Sc->Stmt->Bool
 q:Rt->Prop
 ok:∀(X:Cx) (C:Sc) (E:XS) (s:Stmt),X.K=K->Gd X C->tH X E->q (dJ X)->m C s=true->PS X s (t E)
def eI:List (SX K)->XS->TS
 |[],_=>XZ
 |s::ss,E=>Im (s.t E) (eI ss E)
def yQ:List (SX K)->Sc->List Stmt->Bool
 |[],_,[]=>true
 |s::ss,C,e::es=>s.m C e&&yQ ss C es
 |_,_,_=>false
def BW:List (SX K)->Rt->Prop
 |[],_=>True
 |s::ss,R=>s.q R/\BW ss R
theorem oG {X:Cx} {C:Sc} {E:XS} (G:Gd X C) (hE:tH X E):∀(xs:List (SX X.K)) (es:List Stmt),BW xs (dJ X)->yQ xs C es=true->ZQ X es (eI xs E)
 |[],[],_,_=>UI
 |[],_::_,_,hm=>nomatch hm
 |_::_,[],_,hm=>nomatch hm
 |x::xs,e::es,hq,hm=>by
  have hm':(x.m C e&&yQ xs C es)=true:=hm;simp only [and_eq_true] at hm';exact MW (x.ok X C E e rfl G hE hq.1 hm'.1) (oG G hE xs es hq.2 hm'.2)
def set (i:Nat) (a:EX K):SX K where
 t:=λE D σ H=>a.t E σ H λx H1=>D.nx (σ.set i (some x)) H1
 m:=λC s=>match s with
  | .Assign [.Name x _] e _=>decide (a.s≠.cp)&&(TM C i x&&a.m C e)
  |_=>false
 q:=a.q
 ok:=λX C E s hK G hE hq hm=>by
  split at hm
  ·rename_i x px e p;simp only [and_eq_true] at hm;obtain ⟨h1,h2,h3⟩:=hm;obtain ⟨g1,g2,g3⟩:=wK G h2;exact MX (by rw[G.N];exact G.nd) g1 g2 (a.ok X C E e hK G hE hq h3) (iS (a.sok C e h3) (of_decide_eq_true h1)) g3
  ·cases hm
def Bl (o i v:V) (H:Hp) (Q:Hp->Prop):Prop:=YH o i v H Q\/∃a H',o=.ref a/\SN H a i v H'/\Q H'
theorem Bt {X:Cx} (hu:X.A.units+1<cLine):Gi X Bl:=by
 intro pins s σ H o i v ov iv u Q I ro ri rv h;rcases h with h|⟨a,H',rfl,g,q⟩
 ·exact set_list pins s σ H o i v ov iv u Q I ro ri rv h
 ·obtain rfl:ov=Value.ref a:=ro;exact JM hu I g ri rv λs4 I4=>⟨H',I4,q⟩
def put (o i a:EX K):SX K where
 t:=λE D σ H=>a.t E σ H λx H1=>o.t E σ H1 λy H2=>i.t E σ H2 λz H3=>Bl y z x H3 λH4=>D.nx σ H4
 m:=λC s=>match s with
  | .Assign [.Subscript l r _] e _=>decide (a.s≠.cp)&&((match r with| .Slice ..=>false|_=>true)&&(o.m C l&&(i.m C r&&a.m C e)))
  |_=>false
 q:=λR=>o.q R/\i.q R/\a.q R
 ok:=λX C E s hK G hE hq hm=>by
  split at hm
  ·rename_i l r p' e p;simp only [and_eq_true] at hm;obtain ⟨h1,h0,h2,h3,h4⟩:=hm;refine Bz (a.ok X C E e hK G hE hq.2.2 h4) (Cc (o.ok X C E l hK G hE hq.1 h2) (i.ok X C E r hK G hE hq.2.1 h3) (Bt (by have:=G.hu;lia)) ?_) (LZ (a.sok C e h4) (of_decide_eq_true h1)) ?_ rfl
   ·intro v;cases r with
    |Slice _ _ _ _=>cases h0
    |_=>rfl
   ·cases e<;>rfl
  ·cases hm
def ex (a:EX K):SX K where
 t:=λE D σ H=>a.t E σ H λ_ H1=>D.nx σ H1
 m:=λC s=>match s with
  | .Expr e _=>decide (a.s≠.cp)&&a.m C e
  |_=>false
 q:=a.q
 ok:=λX C E s hK G hE hq hm=>by
  cases s with
  |Expr e p=>
   simp only [and_eq_true] at hm;exact UJ (a.ok X C E e hK G hE hq hm.2) (iS (a.sok C e hm.2) (of_decide_eq_true hm.1))
  |_=>exact ff hm
def ret (a:EX K):SX K where
 t:=λE D σ H=>a.t E σ H D.rt
 m:=λC s=>match s with
  | .Return (some e) _=>a.m C e
  |_=>false
 q:=a.q
 ok:=λX C E s hK G hE hq hm=>by
  cases s with
  |Return o p=>
   cases o with
   |some e=>exact Bw (a.ok X C E e hK G hE hq hm)
   |none=>cases hm
  |_=>exact ff hm
def cK (c:EX K) (t f:List (SX K)):SX K where
 t:=λE D σ H=>c.tt E σ H λb H1=>br b (eI t E D σ H1) (eI f E D σ H1)
 m:=λC s=>match s with
  | .If e x y _=>c.m C e&&(yQ t C x&&yQ f C y)
  |_=>false
 q:=λR=>c.q R/\BW t R/\BW f R
 ok:=λX C E s hK G hE hq hm=>by
  subst hK;cases s with
  |If e x y p=>
   simp only [and_eq_true] at hm;obtain ⟨h1,h2,h3⟩:=hm;intro pins s σ H D I h;refine wpAny_If (bH (c.okT X C E e rfl G hE hq.1 h1 pins s σ H _ I h) λd s1 ⟨H1,I1,q1⟩=>?_);cases d with
   |true=>exact oG G hE t x hq.2.1 h2 pins s1 σ H1 D I1 (q1.1 rfl)
   |false=>exact oG G hE f y hq.2.2 h3 pins s1 σ H1 D I1 (q1.2 rfl)
  |_=>exact ff hm
def kX (tg:TX K) (it:IX K) (b:List (SX K)):SX K where
 t:=λE=>Iu (it.t E) tg.g (eI b E)
 m:=λC s=>match s with
  | .For x e y [] _=>(C.cm&&it.tm x)&&(tg.m C x&&(it.m C e&&yQ b C y))
  |_=>false
 q:=λR=>it.q R/\BW b R
 ok:=λX C E s hK G hE hq hm=>by
  subst hK;cases s with
  |For x e y z p=>
   cases z with
   |nil=>
    simp only [and_eq_true] at hm;obtain ⟨⟨hcm,h0⟩,h1,h2,h3⟩:=hm;exact Bx hE.own (G.calm hcm) (it.ok X C E x e rfl G hE hq.1 h0 h2) (tg.ok X C x rfl G h1) (oG G hE b y hq.2 h3) (λv=>it.fs C e X.env v h2)
   |cons _ _=>cases hm
  |_=>exact ff hm
def Ri (c:TT) (tb:TS):TS:=λD σ H=>∃W:Nat->St->Hp->Prop,(∃m,W m σ H)/\∀m σ H,W m σ H->
 c σ H λb H1=>br b (∃N:St->Hp->Prop,(∀σ' H',N σ' H'->∃m',m'<m/\W m' σ' H')/\tb {D with nx:=N,ct:=N,bk:=D.nx} σ H1) (D.nx σ H1)
theorem Jv {X:Cx} {c:Expr} {body:List Stmt} {tc:TT} {tb:TS} {pos:Pos} (hp:PassesOwn (model X.prog X.w) X.A X.env X.xe) (hc:PT X c tc) (hb:ZQ X body tb):PS X (.While c body [] pos) (Ri tc tb):=by
 intro pins s σ H D I h;obtain ⟨W,⟨m0,w0⟩,turn⟩:=h;refine wpAny_While (codeAny_whileLoop (λn s'=>∃σ' H',Inv X pins σ' H' s'/\W n σ' H') ?_ m0 ⟨σ,H,I,w0⟩);rintro n s1 ⟨σ1,H1,I1,w1⟩;refine wpAny_passesOwn hp (bH (hc pins s1 σ1 H1 _ I1 (turn n σ1 H1 w1)) λb s2 ⟨H2,I2,q2⟩=>?_);cases b with
 |true=>
  obtain ⟨N,hN,q2⟩:=q2.1 rfl;rw[if_pos rfl];refine wpAny_passesOwn hp (bH (hb pins s2 σ1 H2 _ I2 q2) λf s3 q3=>?_);cases f with
  |next=>
   obtain ⟨σ3,H3,I3,n3⟩:=q3;obtain ⟨m',hm,w3⟩:=hN σ3 H3 n3;exact ⟨m',hm,σ3,H3,I3,w3⟩
  |cont=>
   obtain ⟨σ3,H3,I3,n3⟩:=q3;obtain ⟨m',hm,w3⟩:=hN σ3 H3 n3;exact ⟨m',hm,σ3,H3,I3,w3⟩
  |brk=>exact q3
  |ret v=>exact q3
 |false=>
  rw[if_neg Bool.false_ne_true];exact wpAny_execs_nil ⟨σ1,H2,I2,q2.2 rfl⟩
def Oc (c:EX K) (b:List (SX K)):SX K where
 t:=λE=>Ri (c.tt E) (eI b E)
 m:=λC s=>match s with
  | .While e y [] _=>c.m C e&&yQ b C y
  |_=>false
 q:=λR=>c.q R/\BW b R
 ok:=λX C E s hK G hE hq hm=>by
  subst hK;cases s with
  |While e y z p=>
   cases z with
   |nil=>
    simp only [and_eq_true] at hm;exact Jv hE.own (c.okT X C E e rfl G hE hq.1 hm.1) (oG G hE b y hq.2 hm.2)
   |cons _ _=>cases hm
  |_=>exact ff hm
def uU (nm names:List (Str × NameKind)):List (Str × NameKind):=names.map λ(n,k)=>if (k==NameKind.free&&nm.lookup n==some .cell) then (n,NameKind.cell) else (n,k)
def XJ (C:Sc) (sc:Scope):List Str->List Nat->Bool
 |[],[]=>true
 |x::xs,i::is=>(C.N[i]?==some x&&(C.nm.lookup x==some .cell&&sc.names.lookup x==some .free))&&XJ C sc xs is
 |_,_=>false
theorem GN {X:Cx} {C:Sc} {sc:Scope} (G:Gd X C):∀(xs:List Str) (is:List Nat),XJ C sc xs is=true->KQ X sc xs is
 |[],[],_=>.nil
 |[],_::_,h=>nomatch h
 |_::_,[],h=>nomatch h
 |x::xs,i::is,h=>by
  have h':((C.N[i]?==some x&&(C.nm.lookup x==some .cell&&sc.names.lookup x==some .free))&&XJ C sc xs is)=true:=h;simp only [and_eq_true] at h';obtain ⟨⟨h1,h2,h3⟩,h4⟩:=h';exact .cons (by rw[G.N];exact eq_of_beq h1) (by show X.env.scope.names.lookup x=_;rw[G.nm];exact eq_of_beq h2) (eq_of_beq h3) (GN G xs is h4)
def ZK (C:Sc) (sc:Scope) (own caps:List Str) (is:List Nat):Bool:=
 (decide (sc.kind=.function)&&decide (own++caps).Nodup)&&((sc.names.all λy=>y.2 != .cell || sc.names.lookup y.1==some .cell)&&((sc.names.all λy=>y.2 != .free || C.nm.lookup y.1==some .cell)&&((sc.names.all λy=>y.2 != .local || sc.names.lookup y.1==some .local)&&XJ C sc caps is)))
theorem vO (env:Env):∀(names:List (Str × NameKind)) (acc:List (Str × Addr)),(∀y∈names,y.2=.free->∃c,env.cells.lookup y.1=some c)->
  (forIn names acc (λ(x:Str × NameKind) (r:List (Str × Addr))=>(if (x.2==NameKind.free)=true then (do let c <-cellOf env x.1;pure (ForInStep.yield ((x.1,c)::r))) else pure (ForInStep.yield r):Sem (ForInStep (List (Str × Addr))))))=
   (pure (((names.filter λx=>x.2==.free).filterMap λx=>(env.cells.lookup x.1).map λc=>(x.1,c)).reverse++acc):Sem (List (Str × Addr)))
 |[],acc,_=>rfl
 | (n,k)::r,acc,h=>by
  have ih:=λacc'=>vO env r acc' λy hy=>h y (mem_cons_of_mem _ hy);rw[forIn_cons];cases hk:(k==NameKind.free) with
  |false=>
   rw[if_neg Bool.false_ne_true];have e:((n,k)::r).filter (λx=>x.2==NameKind.free)=r.filter (λx=>x.2==NameKind.free):=by rw[filter_cons,if_neg (by show ¬(k==NameKind.free)=true;rw[hk];exact Bool.false_ne_true)]
   rw[e];exact ih acc
  |true=>
   rw[if_pos rfl];obtain ⟨c,hc⟩:=h (n,k) mem_cons_self (eq_of_beq hk);have e:((n,k)::r).filter (λx=>x.2==NameKind.free)=(n,k)::r.filter (λx=>x.2==NameKind.free):=by rw[filter_cons,if_pos (by show (k==NameKind.free)=true;exact hk)]
   have hcell:cellOf env n=pure c:=by
    unfold cellOf;rw[hc]
   rw[e,List.filterMap_cons,hcell];have hc':(env.cells.lookup n)=some c:=hc;simp only [hc',Option.map_some,List.reverse_cons,List.append_assoc,List.singleton_append];exact ih ((n,c)::acc)
theorem XD {X:Cx} {sc:Scope} (ok:X.Ok) (hfr:(sc.names.all λy=>y.2 != .free || X.env.kindOf y.1==some .cell)=true):closureFor sc X.env=pure (BK sc.names X.env):=by
 have h:=vO X.env sc.names [] λy hy hf=>by
  have z:=all_eq_true.mp hfr y hy;simp only [or_eq_true] at z;rcases z with z|z
  ·rw[hf] at z;cases z
  ·exact ok.has y.1 (.inl (eq_of_beq z))
 rw[append_nil] at h;have h3:closureFor sc X.env=(forIn sc.names ([]:List (Str × Addr)) (λ(x:Str × NameKind) (r:List (Str × Addr))=>(if (x.2==NameKind.free)=true then (do let c <-cellOf X.env x.1;pure (ForInStep.yield ((x.1,c)::r))) else pure (ForInStep.yield r):Sem (ForInStep (List (Str × Addr))))) >>=λr=>pure r):=rfl;rw[h3,h];rfl
def NG (names:List (Str × NameKind)):List Str:=(names.filter λy=>names.lookup y.1==some .cell).map (·.1)
theorem Fx {X:Cx} {C:Sc} {own caps:List Str} {sc:Scope} {Ca:Addr} {s₀:Shared} {H₀:Hp} {ex:List Addr} (G:Gd X C) (hcm:C.cm=true) (hk:X.env.scope.kind=.function) (hnd:(own++caps).Nodup):Gd (KG X (own++caps) sc Ca s₀ H₀ ex) ⟨own++caps,uU C.nm sc.names,.own (NG sc.names)⟩ where
 N:=rfl
 nm:=by
  show (sc.names.map λ(n,k)=>if (k==NameKind.free&&X.env.scope.kind==.function&&X.env.kindOf n==some .cell) then (n,NameKind.cell) else (n,k))=uU C.nm sc.names;unfold uU;rw[hk];show (sc.names.map λ(n,k)=>if (k==NameKind.free&&true&&X.env.scope.names.lookup n==some NameKind.cell) then (n,NameKind.cell) else (n,k))=_;rw[G.nm];simp only [Bool.and_true]
 nd:=hnd
 calm:=λ_=>G.calm hcm
 bl:=G.bl
 top:=λz=>nomatch z
 hu:=G.hu
 fb:=λh=>nomatch h
 ow:=λx hx=>by
  obtain ⟨y,hy,rfl⟩:=mem_map.mp (show x∈NG sc.names from hx);exact (mem_filter.mp hy).2
theorem Ah {X:Cx} (h:X.xe=λ_ _=>False):tH X E0:=⟨λ_ _ _ _ _ _ _ z=>(lH.no z).elim,λ_ _ _ _ _ _ _ _ _ _ _ _ _ _ _ _ _ _ _ z=>z.elim,by rw[h];exact PassesOwn.never⟩
structure Ox (K:Fg) where
 t:XS->TE
 m:Sc->Expr->Bool
 q:Rt->Prop
 sok:∀(C:Sc) (e:Expr),m C e=true->gB e=some .cp/\yT e=true
 ok:∀(X:Cx) (C:Sc) (E:XS) (e:Expr),X.K=K->Gd X C->tH X E->q (dJ X)->m C e=true->PE X e (t E)
 okS:∀(X:Cx) (C:Sc) (E:XS) (i:Nat) (x:Str) (p' pos:Pos) (e:Expr),X.K=K->Gd X C->tH X E->q (dJ X)->m C e=true->TM C i x=true->PS X (.Assign [.Name x p'] e pos) (λD σ H=>t E σ H λv H1=>D.nx (σ.set i (some v)) H1)
def cT (c:Option (EX K)):TT:=match c with
 |none=>λ_ H Q=>Q true H
 |some c=>c.tt E0
def mC (c:Option (EX K)) (C:Sc) (ifs:List Expr):Bool:=match c,ifs with
 |none,[]=>true
 |some c,[e]=>c.m C e
 |_,_=>false
def qC (c:Option (EX K)) (R:Rt):Prop:=match c with
 |none=>True
 |some c=>c.q R
theorem LQ {X:Cx} {C:Sc} (G:Gd X C) (hE:tH X E0):∀(c:Option (EX X.K)) (ifs:List Expr),qC c (dJ X)->mC c C ifs=true->vW X ifs (cT c)
 |none,[],_,_=>.nil
 |none,_::_,_,hm=>nomatch hm
 |some _,[],_,hm=>nomatch hm
 |some c,[e],hq,hm=>.one (c.okT X C E0 e rfl G hE hq hm)
 |some _,_::_::_,_,hm=>nomatch hm
def He (c:Option (EX K)) (elt:EX K) (tg:TX K) (it:IX K) (own caps:List Str) (is:List Nat) (C:Sc) (e:Expr):Bool:=match e with
 | .ListComp l [⟨x,y,ifs,asy⟩] sc _=>((C.cm&&decide (asy=0))&&it.tm x)&&(ZK C sc own caps is&&(it.m C y&&(tg.m ⟨own++caps,uU C.nm sc.names,.own (NG sc.names)⟩ x&&(mC c ⟨own++caps,uU C.nm sc.names,.own (NG sc.names)⟩ ifs&&elt.m ⟨own++caps,uU C.nm sc.names,.own (NG sc.names)⟩ l))))
 |_=>false
theorem QP {X:Cx} {C:Sc} {E:XS} {e:Expr} {c:Option (EX X.K)} {elt:EX X.K} {tg:TX X.K} {it:IX X.K} {own caps:List Str} {is:List Nat} (G:Gd X C) (hE:tH X E) (hq:it.q (dJ X)/\elt.q (dJ X)/\qC c (dJ X)) (hm:He c elt tg it own caps is C e=true):
  ∃l x y ifs sc p,e=.ListComp l [⟨x,y,ifs,0⟩] sc p/\∀(use:Option (Value->Sem Unit)) (p2:Pos) (pins:List (Addr × Obj)) (s:Shared) (σ:St) (H:Hp) (Q:VK) (QQ:Value->Shared->Prop),Inv X pins σ H s->qH (it.t E) tg.g (cT c) (elt.t E0) own.length is σ H Q->
   (∀(D C:Addr) (H':Hp) (s':Shared) (m:Str->Option Value),Inv X pins σ H' s'->s'.heap.Ns C m->H' C=none->X.s₀.heap.objs.size<=C->X.env.locals≠C->(∀x c,X.env.cells.lookup x=some c->c≠C)->(∀p∈X.pn++pins,p.1≠C)->Q (.ref D) H'->
    compPost (model X.prog X.w) X.A X.xe use QQ (.ref D) C (.ok .next) s')->
   wpAny (model X.prog X.w) X.A (comprehension (.ListComp l [⟨x,y,ifs,0⟩] sc p) sc X.env p2 (newList []) false (eval y X.env) use) QQ X.xe s:=by
 unfold He at hm;cases e with
 |ListComp l gs sc p=>
  match gs,hm with
  |[⟨x,y,ifs,asy⟩],hm=>
   simp only [and_eq_true] at hm;obtain ⟨⟨⟨hcm,h1⟩,h0⟩,h2,h3,h4,h6,h5⟩:=hm;have e1:=of_decide_eq_true h1;subst e1;unfold ZK at h2;simp only [and_eq_true] at h2;obtain ⟨⟨k1,k2⟩,k3,k4,k5,k6⟩:=h2;have k4':(sc.names.all λy=>y.2 != .free || X.env.kindOf y.1==some .cell)=true:=by
    show (sc.names.all λy=>y.2 != .free || X.env.scope.names.lookup y.1==some .cell)=true;rw[G.nm];exact k4
   refine ⟨l,x,y,ifs,sc,p,rfl,λuse p2 pins s σ H Q QQ I h fin=>?_⟩;have hg:=λCa s₀ H₀ ex=>Fx (own:=own) (caps:=caps) (sc:=sc) (Ca:=Ca) (s₀:=s₀) (H₀:=H₀) (ex:=ex) G hcm I.ok.kind (of_decide_eq_true k2);refine JQ (own:=own) (caps:=caps) (is:=is) use (G.calm hcm) (it.ok X C E x y rfl G hE hq.1 h0 h3) (λCa s₀ H₀ ex=>tg.ok _ _ x rfl (hg Ca s₀ H₀ ex) h4)
    (λCa s₀ H₀ ex=>LQ (X:=KG X (own++caps) sc Ca s₀ H₀ ex) (hg Ca s₀ H₀ ex) (Ah rfl) c ifs hq.2.2 h6) (λCa s₀ H₀ ex=>elt.ok _ _ E0 l rfl (hg Ca s₀ H₀ ex) (Ah rfl) hq.2.1 h5) (GN G caps is k6) (of_decide_eq_true k1)
    (λz hz=>?_) k4' (XD I.ok k4') (λz hz hl=>?_) (λv=>it.fs C y X.env v h3) I h fin
   ·have:=all_eq_true.mp k3 z hz;simp only [or_eq_true] at this;intro hl;rcases this with q|q
    ·rw[hl] at q;cases q
    ·exact eq_of_beq q
   ·have:=all_eq_true.mp k5 z hz;simp only [or_eq_true] at this;rcases this with q|q
    ·rw[hl] at q;cases q
    ·exact eq_of_beq q
 |_=>exact ff hm
theorem ZJ {X:Cx} {C:Sc} {E:XS} {e:Expr} {c:Option (EX X.K)} {elt:EX X.K} {tg:TX X.K} {it:IX X.K} {own caps:List Str} {is:List Nat} (G:Gd X C) (hE:tH X E) (hq:it.q (dJ X)/\elt.q (dJ X)/\qC c (dJ X)) (hm:He c elt tg it own caps is C e=true):
  PE X e (qH (it.t E) tg.g (cT c) (elt.t E0) own.length is):=by
 obtain ⟨l,x,y,ifs,sc,p,rfl,R⟩:=QP G hE hq hm;intro pins s σ H Q I h;rw[eval_ListComp];refine R none _ pins s σ H Q _ I h λD C H' s' m I' hn hC h1 h2 h3 h4 q=>?_;exact ⟨m,hn,λh' hs'=>⟨.ref D,H',Inv.but I' hs' h1 h2 h3 h4 hC,rfl,q⟩⟩
theorem Nf {X:Cx} {C:Sc} {E:XS} {e:Expr} {i:Nat} {nm:Str} {p' pos:Pos} {c:Option (EX X.K)} {elt:EX X.K} {tg:TX X.K} {it:IX X.K} {own caps:List Str} {is:List Nat} (G:Gd X C) (hE:tH X E) (hq:it.q (dJ X)/\elt.q (dJ X)/\qC c (dJ X)) (hm:He c elt tg it own caps is C e=true) (hst:TM C i nm=true):
  PS X (.Assign [.Name nm p'] e pos) (λD σ H=>qH (it.t E) tg.g (cT c) (elt.t E0) own.length is σ H λv H1=>D.nx (σ.set i (some v)) H1):=by
 have P:=ZJ G hE hq hm;obtain ⟨g1,g2,g3⟩:=wK G hst;have nd:X.N.Nodup:=by rw[G.N];exact G.nd
 obtain ⟨l,x,y,ifs,sc,p,rfl,R⟩:=QP G hE hq hm;obtain ⟨b,hb⟩:∃b:Bool,swapsWith (.ListComp l [⟨x,y,ifs,0⟩] sc p) (some (.Name nm p')) pos.line X.env=pure b:=⟨_,rfl⟩;cases b with
 |false=>exact MX nd g1 g2 P hb g3
 |true=>
  intro pins s σ H D I h;rw[exec_Assign_Name_used _ _ _ _ hb];refine wpAny_bind (wpAny_standAt (wpAny_bind ?_));show wpAny _ _ (do let _ <-comprehension (.ListComp l [⟨x,y,ifs,0⟩] sc p) sc X.env _ (newList []) false (eval y X.env) (some (assign (.Name nm p') X.env))) _ _ s;refine wpAny_bind (wpAny_mono (R (some (assign (.Name nm p') X.env)) _ pins s σ H _ (λ_ s'=>SP X pins D .next s') I h λA C H' s' m I' hn hC h1 h2 h3 h4 q=>?_) (λ_ s' hq=>wpAny_pure (wpAny_pure hq)) λ_ _ z=>z);show wpAny _ _ (assign (.Name nm p') X.env (.ref A)) _ _ s';refine wpAny_assign_Name (uK I' nd g1 g2 (v:=.ref A) rfl (λs'' I'' ⟨a,sb,ha⟩=>?_) g3);have hne:C≠a:=by
   rcases ha with ha|ha
   ·rw[ha];exact h2.symm
   ·exact (h3 _ _ ha).symm
  exact ⟨m,hn.sameBut sb hne,λh' hs'=>⟨_,H',Inv.but I'' hs' h1 h2 h3 h4 hC,q⟩⟩
def GK (c:Option (EX K)) (elt:EX K) (tg:TX K) (it:IX K) (own caps:List Str) (is:List Nat):Ox K where
 t:=λE=>qH (it.t E) tg.g (cT c) (elt.t E0) own.length is
 m:=He c elt tg it own caps is
 q:=λR=>it.q R/\elt.q R/\qC c R
 sok:=λC e hm=>by
  unfold He at hm;cases e with
  |ListComp l gs sc p=>exact ⟨rfl,rfl⟩
  |_=>exact ff hm
 ok:=λX C E e hK G hE hq hm=>by subst hK;exact ZJ G hE hq hm
 okS:=λX C E i x p' pos e hK G hE hq hm hst=>by subst hK;exact Nf G hE hq hm hst
def Ux (c:Ox K):EX K:=KO c.t c.m c.q .cp c.ok (λC e hm=>(c.sok C e hm).1) (λC e hm=>(c.sok C e hm).2)
def setC (i:Nat) (c:Ox K):SX K where
 t:=λE D σ H=>c.t E σ H λv H1=>D.nx (σ.set i (some v)) H1
 m:=λC s=>match s with
  | .Assign [.Name x _] e _=>TM C i x&&c.m C e
  |_=>false
 q:=c.q
 ok:=λX C E s hK G hE hq hm=>by
  split at hm
  ·rename_i x px e p;simp only [and_eq_true] at hm;exact c.okS X C E i x _ p e hK G hE hq hm.2 hm.1
  ·cases hm
def comp (elt:EX K) (tg:TX K) (it:IX K) (own caps:List Str) (is:List Nat):EX K:=Ux (GK none elt tg it own caps is)
def Hl (P:Program) (w:World) (K:Fg) (mg:Str->Option Value) (base:Heap) (k:Nat) (x:Str) (sp:Sp):Prop:=
 ∃(f:Addr) (fd:FuncData) (ps:List Str),pG P w K mg base (lH P w) k f fd ps sp/\Binds K fd ps []/\keepIn K (.ref f)=true/\mg x=some (.ref f)
theorem Hl.at {P:Program} {w:World} {mg:Str->Option Value} {base:Heap} {j k:Nat} {x:Str} {sp:Sp} {A:Around} (D:Hl P w K mg base j x sp) (hr:bM k A) (h:j<=k):FnAt ⟨P,w,K,mg,base,A⟩ x sp:=by
 obtain ⟨f,fd,ps,F,hb,kp,hg⟩:=D;exact ⟨j,f,fd,ps,hr.mono h,F,hb,kp,hg⟩
theorem xY {P:Program} {w:World} {mg:Str->Option Value} {base:Heap} {x qual:Str} {st:Stmt} {f:Addr} {fd:FuncData} {N ps:List Str} {k:Nat} {sp:Sp} (F:ZU K x qual st f fd) (b:List (SX K)) (S:cJ N ps (aF st))
  (hm:yQ b ⟨N,(aF st).names,true⟩ (aK st)=true) (bl:∀x∈kB,mg x=none) (hq:∀A,bM k A->BW b ⟨P,w,K,mg,base,A⟩) (len:∀vs H Q E,sp vs H Q E->vs.length=ps.length)
  (h:∀vs H Q E,sp vs H Q E->eI b (λ_=>E) {nx:=λ_ H'=>Q .non H',rt:=Q} (start N vs) H):pG P w K mg base (lH P w) (k+1) f fd ps sp:=by
 obtain ⟨oc,od,kV,doc,pm,an,cdv,ct,osl,rfl,lk,hcd⟩:=F.ex;refine Mt lk hcd S len λA outer s H vs Q E hr hsp=>?_;have G:Gd (jZ (lH P w) P w K mg base N qual (aF st) f cdv A outer s H E) ⟨N,(aF st).names,true⟩:=⟨rfl,rfl,S.nd,λ_=>rfl,bl,hr.units,λ_ _=>rfl,λ_=>⟨rfl,rfl⟩,λ_ h=>nomatch h⟩;have T:tH (jZ (lH P w) P w K mg base N qual (aF st) f cdv A outer s H E) (λ_=>E):=⟨λpins σ H1 s1 ev s' I z=>NC pins σ H1 s1 ev s' I z,λ_ _ _ _ _ _ e _ _ I o1 b1 u1 k1 n1 en eo dt v1 z=>OA (I.call' o1 u1 k1 b1 λb y=>absurd y (by simp)) eo dt v1 en (λb o q y=>by obtain ⟨v,hv⟩:=I.base.there b o q (λy=>nomatch y);rw[y,n1] at hv;cases hv) z,PassesOwn.leaving⟩;exact ⟨_,oG G T b (aK st) (hq _ hr) hm,h vs H Q E hsp⟩
abbrev ls (z:Str):List Nat:=z.cps.toList
def aP (l:List Nat):Str:=⟨l.toArray⟩
theorem cN (l:List Nat):ls (aP l)=l:=by simp [ls,aP]
theorem bJ (z:Str):(ls z).length=z.length:=by show z.cps.toList.length=z.cps.size;simp
theorem NW (l:List Nat):(aP l).length=l.length:=by rw[<-bJ,cN]
theorem gQ {a b:Str} (h:ls a=ls b):a=b:=by
 cases a;cases b;simp only [ls] at h
 congr 1
 exact Array.toList_inj.mp h
theorem YN (z:Str):aP (ls z)=z:=gQ (cN _)
theorem kW (a b:Str):ls (a++b)=ls a++ls b:=by
 show (a.cps++b.cps).toList=a.cps.toList++b.cps.toList;simp
theorem len_app (a b:Str):(a++b).length=a.length+b.length:=by rw[<-bJ,kW,length_append,bJ,bJ]
theorem sE (g:Array Nat):∀(r:List Str) (acc:Array Nat),(r.foldl (λacc p=>acc++g++p.cps) acc).toList=acc.toList++(r.map λp=>g.toList++p.cps.toList).flatten
 |[],acc=>by simp
 |p::r,acc=>by
  rw[foldl_cons,sE g r];simp [List.append_assoc]
theorem AN (ys:List Str):ls (Txt.join (ofString "") ys)=(ys.map ls).flatten:=by
 have e:(ofString "").cps=#[]:=by decide+kernel
 cases ys with
 |nil=>decide+kernel
 |cons y r=>
  show ((r.foldl (λacc p=>acc++(ofString "").cps++p.cps) y.cps)).toList=_;rw[e,sE];simp
theorem fJ (x:Str) (c lim:Nat):∀(l:List Nat) (st:Array Nat × Nat),(∀i∈l,st.snd<=i)->l.Pairwise (·<·)->st.fst.size+l.length<=lim->
  (forIn l st (occBody x ⟨#[c]⟩ x.length lim)).run.fst.size=st.fst.size+(l.filter λi=>decide (x.cps.toList[i]?=some c)).length
 |[],st,_,_,_=>by simp
 |a::l,st,hf,hp,hl=>by
  rw[forIn_cons];have ha:st.snd<=a:=hf a mem_cons_self;rw[length_cons] at hl;have hp':=pairwise_cons.mp hp;unfold occBody;by_cases hc:x.cps.toList[a]?=some c
  ·have h1:=(subAt_one x c a).mpr hc;rw[if_pos ⟨⟨⟨by lia,ha⟩,h1.1⟩,h1.2⟩];have ih:=fJ x c lim l (st.fst.push a,a+(⟨#[c]⟩:Str).length) (λi hi=>by
    have:=hp'.1 i hi
    show a+1<=i
    lia) hp'.2 (by rw[Array.size_push];lia)
   show (forIn l (st.fst.push a,a+(⟨#[c]⟩:Str).length) (occBody x ⟨#[c]⟩ x.length lim)).run.fst.size=_;rw[ih,filter_cons,if_pos (decide_eq_true hc),length_cons,Array.size_push];lia
  ·rw[if_neg (λh=>hc ((subAt_one x c a).mp ⟨h.1.2,h.2⟩))];have ih:=fJ x c lim l (st.fst,st.snd) (λi hi=>hf i (mem_cons_of_mem _ hi)) hp'.2 (by show st.fst.size+l.length<=lim;lia);show (forIn l (st.fst,st.snd) (occBody x ⟨#[c]⟩ x.length lim)).run.fst.size=_;rw[ih,filter_cons,if_neg (by rw[decide_eq_false hc];exact Bool.false_ne_true)]
theorem vJ (c:Nat):∀(l:List Nat) (k:Nat),((range' k (l.length+1)).filter λi=>decide (l[i - k]?=some c)).length=l.count c
 |[],k=>by simp [range']
 |a::l,k=>by
  have e:range' k ((a::l).length+1)=k::range' (k+1) (l.length+1):=by rw[length_cons,List.range'_succ]
  rw[e,filter_cons];have ih:=vJ c l (k+1);have e2:((range' (k+1) (l.length+1)).filter λi=>decide ((a::l)[i - k]?=some c))=((range' (k+1) (l.length+1)).filter λi=>decide (l[i - (k+1)]?=some c)):=by
   refine List.filter_congr λi hi=>?_;have hi':=List.mem_range'_1.mp hi;have:i - k=(i - (k+1))+1:=by lia
   rw[this,List.getElem?_cons_succ]
  have e3:(a::l)[k - k]?=some a:=by rw[sub_self];rfl
  rw[e2,e3,List.count_cons];by_cases hc:a=c
  ·subst hc;rw[if_pos (decide_eq_true rfl),length_cons,ih];simp
  ·rw[if_neg (by simp [hc]),ih];simp [hc]
theorem JO (x:Str) (c:Nat):count x ⟨#[c]⟩=((ls x).count c:Int):=by
 unfold count;rw[StrLaws.occ_eq,length_toList,Nat.sub_zero];rw[fJ x c (x.length+1) _ _ (λi hi=>zero_le _) List.pairwise_lt_range' (by simp)];have h:=vJ c (ls x) 0;rw[bJ] at h;simp only [Nat.sub_zero] at h;simp only [size_toArray,length_nil,Nat.zero_add];rw[<-h]
def oW (m:Nat) (z:Str):Prop:=∀c∈ls z,97<=c/\c<97+m
theorem oW.of_ls {m:Nat} {z y:Str} (h:oW m z) (e:∀c∈ls y,c∈ls z):oW m y:=λc hc=>h c (e c hc)
def wd (ws:List Str) (c:Nat):List Nat:=ls (ws[c - 97]?.getD ⟨#[]⟩)
def img (ws:List Str) (z:Str):Str:=aP ((ls z).flatMap (wd ws))
theorem xH (ws:List Str) (z:Str):ls (img ws z)=(ls z).flatMap (wd ws):=cN _
theorem VY {ws:List Str} {z:Str} {m:Nat} (hw:∀w∈ws,oW m w):oW m (img ws z):=λc hc=>by
 rw[xH] at hc;obtain ⟨d,_,h2⟩:=mem_flatMap.mp hc;unfold wd at h2;cases e:ws[d - 97]? with
 |none=>rw[e] at h2;simp [ls] at h2
 |some w=>rw[e] at h2;exact hw w (mem_of_getElem? e) c h2
theorem wJ {l:List Nat} {B:Nat} (h:∀x∈l,x<=B):l.sum<=l.length * B:=by
 induction l with
 |nil=>simp
 |cons a l ih=>
  have h1:=h a mem_cons_self;have h2:=ih λx hx=>h x (mem_cons_of_mem _ hx);rw[sum_cons,length_cons,Nat.add_mul,Nat.one_mul];lia
theorem Ed {ws:List Str} {z:Str} {B:Nat} (h:∀w∈ws,w.length<=B):(img ws z).length<=z.length * B:=by
 rw[<-bJ,xH,List.length_flatMap,<-bJ z];refine Nat.le_trans (wJ (B:=B) λx hx=>?_) (by rw[length_map];exact Nat.le_refl _);obtain ⟨c,hc,rfl⟩:=mem_map.mp hx;unfold wd;cases e:ws[c - 97]? with
 |none=>simp [ls]
 |some w=>rw[show (some w).getD ⟨#[]⟩=w from rfl,bJ];exact h w (mem_of_getElem? e)
theorem NU {X:Cx} {id:String} {r:Str->List V->Hp->VK->Prop} {r':V->List V->Hp->VK->Prop} (h:Gm X id r') (f:∀z ys H Q,r z ys H Q->r' (.str z) ys H Q):Gk X id (rS r):=by
 intro pins s σ H x xs v us Q I rx rs q;cases x with
 |str z=>exact h pins s σ H _ xs v us Q I rx rs (f z xs H Q q)
 |_=>exact q.elim
def wY (K:Fg):Str->List V->Hp->VK->Prop
 |z,[.ref p],H,Q=>∃ys:List Str,(H p=some (.lst (ys.map V.str))\/bX K H p (ys.map V.str))/\(ys.map (·.length)).sum+ys.length * z.length<=16777216/\Q (.str (Txt.join z ys)) H
 |_,_,_,_=>False
def rL (o a:EX K) (ho:o.s≠.zc:=by intro z;cases z):EX K:=AM "join" "str.join" (wY K) PySem.F.slot_str_join PySem.F.type_str_join (λX hK _ _=>by
 subst hK
 intro pins s σ H x xs v us Q I rx rs q
 cases x with
 |str z=>
  have q':wY X.K z xs H Q:=q
  unfold wY at q'
  split at q'
  ·obtain ⟨ys,h1|h1,h2,h3⟩:=q'
   ·exact VD pins s σ H _ _ v us Q I rx rs ⟨_,_,ys,rfl,rfl,h1,h2,h3⟩
   ·exact NQ pins s σ H _ _ v us Q I rx rs ⟨_,_,ys,rfl,rfl,h1,h2,h3⟩
  ·exact q'.elim
 |_=>exact q.elim) o ho [a]
def pQ:Str->List V->Hp->VK->Prop
 |z,[.str y],H,Q=>Q (.int (count z y)) H
 |_,_,_,_=>False
def FN (o a:EX K) (ho:o.s≠.zc:=by intro z;cases z):EX K:=AM "count" "str.count" pQ PySem.F.slot_str_count PySem.F.type_str_count (λX hK _ _=>NU NT (λz ys H Q h=>by
 unfold pQ at h
 split at h
 ·exact ⟨_,_,rfl,rfl,h⟩
 ·exact h.elim)) o ho [a]
def pP:Str->List V->Hp->VK->Prop
 |z,[.str y],H,Q=>∃(i:Nat) (rest:List Nat),Builtin.Str.occurrences z y 0 z.length 1=i::rest/\Q (.int i) H
 |_,_,_,_=>False
def FL (o a:EX K) (ho:o.s≠.zc:=by intro z;cases z):EX K:=AM "index" "str.index" pP PySem.F.slot_str_index PySem.F.type_str_index (λX hK _ _=>NU NS (λz ys H Q h=>by
 unfold pP at h
 split at h
 ·obtain ⟨i,rest,h1,h2⟩:=h
  exact ⟨_,_,i,rest,rfl,rfl,h1,h2⟩
 ·exact h.elim)) o ho [a]
def mH (o a:EX K) (ho:o.s≠.zc:=by intro z;cases z):EX K:=Kn "append" "list.append" pS PySem.F.slot_list_append PySem.F.type_list_append (λX hK _ _=>uW) o ho [a]
def WY (a b:EX K):EX K:=KO (λE=>Rl K (fF [a,b] E))
 (λC e=>match e with
  | .Call (.Name y _) [.Call (.Name z _) es [] _] [] _=>(C.cm&&mY C "dict" y)&&(mY C "zip" z&&iD [a,b] C es)
  |_=>false) (λR=>pU [a,b] R) .pl
 (λX C E e hK G hE hq hm=>by
  subst hK
  split at hm
  ·rename_i y py z pz es p2 p
   ·simp only [and_eq_true] at hm
    obtain ⟨⟨hcm,h1⟩,h2,h3⟩:=hm
    have e:=bB h1
    have e2:=bB h2
    subst e e2
    match es,h3 with
    |[],h3=>exact nomatch h3
    |[x],h3=>exact nomatch (aG h3).2
    |x::y::z::r,h3=>exact nomatch (aG (aG h3).2).2
    |[x,y],h3=>
     have s1:=aO (env:=X.env) (es:=[y]) (a.sok C x (aG h3).1)
     have s2:=aO (env:=X.env) (es:=[]) (b.sok C y (aG (aG h3).2).1)
     exact DC (G.calm hcm) (bA G h1).1 (G.bl _ (by decide+kernel)) (bA G h2).1 (G.bl _ (by decide+kernel)) (cR G hE [a,b] [x,y] hq h3)
      s1 (aV [b] [y] (aG h3).2)
  ·cases hm)
 (λC e hm=>by
  split at hm
  ·rfl
  ·cases hm)
 (λC e hm=>by cases e with|Call f es ks p=>rfl|_=>exact ff hm)
section
variable {E:XS} {σ:St} {H:Hp} {Q:VK} {D:Ends} {QB:Bool->Hp->Prop} {QL:List V->Hp->Prop} {v:V} {i j:Int} {n:Nat} {a b c:EX K} {as:List (EX K)} {ss:List (SX K)} {s:SX K} {op:Operator} {co:CmpOp} {x:Str} {sp:Sp}
theorem kH (h:s.t E {D with nx:=eI ss E D} σ H):eI (s::ss) E D σ H:=h
theorem Lq (h:D.nx σ H):eI ([]:List (SX K)) E D σ H:=h
theorem FZ (h:a.t E σ H λx H1=>D.nx (σ.set n (some x)) H1):(set n a).t E D σ H:=h
theorem Ln (h:a.t E σ H D.rt):(ret a).t E D σ H:=h
theorem Qq (h:a.t E σ H λ_ H1=>D.nx σ H1):(ex a).t E D σ H:=h
theorem Qo {t f:List (SX K)} (h:c.tt E σ H λb H1=>br b (eI t E D σ H1) (eI f E D σ H1)):(cK c t f).t E D σ H:=h
theorem FX (e:σ[n]?=some (some v)) (h:Q v H):(var n:EX K).t E σ H Q:=by
 show tV n σ H Q;unfold tV;rw[e];exact h
theorem ZA (h:Q v H):(cst v:EX K).t E σ H Q:=h
theorem Md (h:Q v H):(oQ x v:EX K).t E σ H Q:=h
theorem ZC (h:a.t E σ H λx H1=>b.t E σ H1 λy H2=>nJ K op x y H2 Q):(bin op a b).t E σ H Q:=h
theorem Mn (h:Q (.int (i+j)) H):nJ K .Add (.int i) (.int j) H Q:=h
theorem Lk (h:Q (.int (i - j)) H):nJ K .Sub (.int i) (.int j) H Q:=h
theorem Lr (c:Gr i j) (h:Q (.int (i * j)) H):nJ K .Mult (.int i) (.int j) H Q:=⟨c.ok,h⟩
theorem xR {z:Str} (c:SR z j) (h:Q (.str (mul z j)) H):nJ K .Mult (.str z) (.int j) H Q:=⟨c,h⟩
theorem OX (c:Ow i j) (h:Q (.int (i ^ j.toNat)) H):nJ K .Pow (.int i) (.int j) H Q:=⟨c,h⟩
theorem Mi (c:Rf i j) (h:Q (.int (i / j)) H):nJ K .FloorDiv (.int i) (.int j) H Q:=⟨⟨c.1,by have:=c.2;lia⟩,h⟩
theorem Ls (c:0<j) (h:Q (.int (i % j)) H):nJ K .Mod (.int i) (.int j) H Q:=⟨c,h⟩
theorem dM {y z:Str} (c:y.length+z.length<=sizeLine) (h:Q (.str (y++z)) H):nJ K .Add (.str y) (.str z) H Q:=⟨c,h⟩
theorem Mj (h:a.t E σ H λx H1=>b.t E σ H1 λy H2=>dF K co x y H2 Q):(cmp co a b).t E σ H Q:=h
theorem Ld (h:a.t E σ H λx H1=>b.t E σ H1 λy H2=>rB (dF K co) x y H2 QB):(cmp co a b).tt E σ H QB:=h
theorem Ql (h:Q (.bl (decide (i<j))) H):dF K .Lt (.int i) (.int j) H Q:=h
theorem Qm (h:Q (.bl (decide (i<=j))) H):dF K .LtE (.int i) (.int j) H Q:=h
theorem Qp (h:Q (.bl (decide (j<i))) H):dF K .Gt (.int i) (.int j) H Q:=h
theorem dI:decide (V.int i=V.int j)=decide (i=j):=decide_eq_decide.mpr ⟨λz=>V.int.inj z,λz=>by rw[z]⟩
theorem dS {y z:Str}:decide (V.str y=V.str z)=decide (y=z):=decide_eq_decide.mpr ⟨λe=>V.str.inj e,λe=>by rw[e]⟩
theorem Qr (h:Q (.bl (decide (i=j))) H):dF K .Eq (.int i) (.int j) H Q:=.inl ⟨rfl,by rw[dI];exact h⟩
theorem Mg {y z:Str} (h:Q (.bl (decide (y=z))) H):dF K .Eq (.str y) (.str z) H Q:=.inl ⟨rfl,by rw[dS];exact h⟩
theorem Ma (h:Q (.bl (decide (v=.non))) H):dF K .Is v .non H Q:=h
theorem Lc (h:QB (decide (v=.non)) H):rB (dF K .Is) v .non H QB:=h
theorem Dv (h:QB (!decide (v=.non)) H):rB (dF K .IsNot) v .non H QB:=h
theorem Mc {k:Nat} {y:Str} (h:Q (.bl (decide (k∈ls y))) H):dF K .In (sgn k) (.str y) H Q:=by
 show Q (.bl (!(Builtin.Str.occurrences y ⟨#[k]⟩ 0 y.length 1).isEmpty)) H;rw[PySem.StrLaws.found_one];exact h
theorem Ey {co':CmpOp} (h:a.t E σ H λx H1=>b.t E σ H1 λy H2=>rB (dF K co) x y H2 λk H3=>br k (c.t E σ H3 λw' H4=>dF K co' y w' H4 Q) (Q (.bl false) H3)):(XC co co' a b c).t E σ H Q:=h
theorem Qe (h:QB (decide (i<j)) H):rB (dF K .Lt) (.int i) (.int j) H QB:=h
theorem Qf (h:QB (decide (i<=j)) H):rB (dF K .LtE) (.int i) (.int j) H QB:=h
theorem Qg (h:QB (decide (j<i)) H):rB (dF K .Gt) (.int i) (.int j) H QB:=h
theorem Qh (h:QB (decide (i=j)) H):rB (dF K .Eq) (.int i) (.int j) H QB:=.inl ⟨rfl,by show QB _ H;rw[dI];exact h⟩
theorem Qd (h:QB (!decide (i=j)) H):rB (dF K .NotEq) (.int i) (.int j) H QB:=.inl ⟨rfl,by show QB _ H;rw[dI];exact h⟩
theorem YW {y z:Str} (h:QB (decide (y=z)) H):rB (dF K .Eq) (.str y) (.str z) H QB:=.inl ⟨rfl,by show QB _ H;rw[dS];exact h⟩
theorem Lb {y z:Str} (h:QB (!decide (y=z)) H):rB (dF K .NotEq) (.str y) (.str z) H QB:=.inl ⟨rfl,by show QB _ H;rw[dS];exact h⟩
theorem Kz (e:a.tt E=Af K (a.t E)) (h:a.t E σ H λx H1=>tX K x H1 QB):a.tt E σ H QB:=by rw[e];exact h
theorem La (h:a.tt E σ H λb H1=>QB (!b) H1):(cI a).tt E σ H QB:=h
theorem Lp (h:a.t E σ H λx H1=>tX K x H1 λb H2=>Q (.bl (!b)) H2):(cI a).t E σ H Q:=h
theorem Eh {k:Bool} (h:QB k H):tX K (.bl k) H QB:=h
theorem Ml (h:a.t E σ H λx H1=>tX K x H1 λk H2=>br k (zJ K .And E (b.t E) as σ H2 Q) (Q x H2)):(jO a (b::as)).t E σ H Q:=h
theorem Le (h:a.tt E σ H λk H1=>br k (lO K .And E (b.tt E) as σ H1 QB) (QB false H1)):(jO a (b::as)).tt E σ H QB:=h
theorem Qc (h:a.tt E σ H λk H1=>br k (QB true H1) (lO K .Or E (b.tt E) as σ H1 QB)):(NH a (b::as)).tt E σ H QB:=h
theorem Fc {bo:BoolOp} {t:TE} (h:t σ H Q):zJ K bo E t [] σ H Q:=h
theorem Dx {bo:BoolOp} {t:TT} (h:t σ H QB):lO K bo E t [] σ H QB:=h
theorem Dw {t:TT} (h:t σ H λk H1=>br k (QB true H1) (lO K .Or E (b.tt E) as σ H1 QB)):lO K .Or E t (b::as) σ H QB:=h
theorem Ez {t:TE} (h:t σ H λx H1=>tX K x H1 λk H2=>br k (zJ K .And E (b.t E) as σ H2 Q) (Q x H2)):zJ K .And E t (b::as) σ H Q:=h
theorem Lx (h:c.tt E σ H λk H1=>br k (a.t E σ H1 Q) (b.t E σ H1 Q)):(Lg c a b).t E σ H Q:=h
theorem xS (h:a.t E σ H λx H1=>fF as E σ H1 λxs H2=>QL (x::xs) H2):fF (a::as) E σ H QL:=h
theorem nS (h:QL [] H):fF ([]:List (EX K)) E σ H QL:=h
theorem PJ (h:fF as E σ H λvs H1=>sp vs H1 Q (E σ)):(call x sp as).t E σ H Q:=h
theorem YZ (h:a.t E σ H λx H1=>DA K [x] H1 Q):(len a).t E σ H Q:=h
theorem cD {z:Str} (c:z.length<=sizeLine) (h:Q (.int z.length) H):DA K [.str z] H Q:=⟨c,h⟩
theorem eO {p:Addr} {xs:List V} (c:aH K H p xs) (h:Q (.int xs.length) H):DA K [.ref p] H Q:=.inl ⟨_,.inl ⟨xs,c,rfl⟩,h⟩
theorem PB {p:Addr} {xs:List V} (c:bX K H p xs) (h:Q (.int xs.length) H):DA K [.ref p] H Q:=.inl ⟨_,.inr ⟨xs,c,rfl⟩,h⟩
theorem Lj (h:a.t E σ H λx H1=>Bj [x] H1 Q):(sum a).t E σ H Q:=h
theorem Mm (h:a.t E σ H λx H1=>Bq K [x] H1 Q):(KH a).t E σ H Q:=h
theorem Lv (h:a.t E σ H λx H1=>b.t E σ H1 λy H2=>zZ [x,y] H2 Q):(min2 a b).t E σ H Q:=h
theorem Lw (h:a.t E σ H λx H1=>b.t E σ H1 λy H2=>AA [x,y] H2 Q):(max2 a b).t E σ H Q:=h
theorem Ep (h:Q (.int (min i j)) H):zZ [.int i,.int j] H Q:=h
theorem Er (h:Q (.int (max i j)) H):AA [.int i,.int j] H Q:=h
theorem Lz (h:a.t E σ H λx H1=>b.t E σ H1 λy H2=>EZ K [x,y] H2 Q):(OO a b).t E σ H Q:=h
theorem VZ (h:Q (.ty "str") H):(uI:EX K).t E σ H Q:=h
theorem WA (h:Q (.ty "int") H):(LI:EX K).t E σ H Q:=h
theorem OS (h:Q (.ty "bool") H):(CF:EX K).t E σ H Q:=h
theorem JF (h:Q (.ty "tuple") H):(EM:EX K).t E σ H Q:=h
theorem WG (h:a.t E σ H λx H1=>pO K [x] H1 Q):(listE a).t E σ H Q:=h
theorem OT (h:a.t E σ H λx H1=>wW K [x] H1 Q):(LN a).t E σ H Q:=h
theorem Qn (h:a.t E σ H λx H1=>b.t E σ H1 λy H2=>AB K x y H2 Q):(ix a b).t E σ H Q:=h
theorem PC {z:Str} {k:Nat} (c:z.length<=sizeLine) (e:uB z.cps.toList i=some k) (h:Q (sgn k) H):AB K (.str z) (.int i) H Q:=⟨c,k,e,h⟩
theorem aJ {p:Addr} {xs:List V} (c:aH K H p xs) (e:uB xs i=some v) (h:Q v H):AB K (.ref p) (.int i) H Q:=.inl ⟨p,xs,i,v,rfl,rfl,c,e,h⟩
theorem vE {p:Addr} {xs:List V} (c:bX K H p xs) (e:uB xs i=some v) (h:Q v H):AB K (.ref p) (.int i) H Q:=.inr (.inl ⟨p,xs,i,v,rfl,rfl,c,e,h⟩)
theorem AZ {p:Addr} {y:V} (c:fV H p y (some v)) (h:Q v H):AB K (.ref p) y H Q:=.inr (.inr ⟨v,c,h⟩)
theorem Ll {lo hi:Option (EX K)} (h:a.t E σ H λx H1=>tO E lo σ H1 λl H2=>tO E hi σ H2 λu H3=>ID K x l u H3 Q):(CU a lo hi).t E σ H Q:=h
theorem Qk {QO:Option Int->Hp->Prop} (h:QO none H):tO E (none:Option (EX K)) σ H QO:=h
theorem Qj {QO:Option Int->Hp->Prop} (h:a.t E σ H (rO QO)):tO E (some a) σ H QO:=h
theorem Qi {QO:Option Int->Hp->Prop} (h:QO (some i) H):rO QO (.int i) H:=h
theorem iZ {z:Str} {lo hi:Option Int} (c:z.length<=sizeLine) (h:Q (.str (Txt.slice z lo hi)) H):ID K (.str z) lo hi H Q:=⟨c,h⟩
theorem OV {p:Addr} {xs:List V} {lo hi:Option Int} (c:aH K H p xs) (h:∀q,H q=none->Q (.ref q) (upd H q (.lst (nV xs lo hi)))):ID K (.ref p) lo hi H Q:=.inl ⟨p,xs,rfl,c,h⟩
theorem OY (h:fF as E σ H λxs H1=>xs.length<=sizeLine/\∀p,H1 p=none->Q (.ref p) (upd H1 p (.lst xs))):(lst as).t E σ H Q:=h
theorem Li (h:fF as E σ H λxs H1=>xs.length<=sizeLine/\∀p,H1 p=none->Q (.ref p) (upd H1 p (.tup xs))):(tup as).t E σ H Q:=h
theorem Es {ho:a.s≠.zc} (h:a.t E σ H λx H1=>RS (wY K) (fF [b] E) x σ H1 Q):(rL a b ho).t E σ H Q:=h
theorem WL {ho:a.s≠.zc} (h:a.t E σ H λx H1=>RS pQ (fF [b] E) x σ H1 Q):(FN a b ho).t E σ H Q:=h
theorem WI {ho:a.s≠.zc} (h:a.t E σ H λx H1=>RS pP (fF [b] E) x σ H1 Q):(FL a b ho).t E σ H Q:=h
theorem PK {ho:a.s≠.zc} (h:a.t E σ H λx H1=>RL K pS (fF [b] E) x σ H1 Q):(mH a b ho).t E σ H Q:=h
theorem Qs {r:Str->List V->Hp->VK->Prop} {t:TA} {z:Str} (h:t σ H λys H2=>r z ys H2 Q):RS r t (.str z) σ H Q:=h
theorem Fd {r:V->List V->Hp->VK->Prop} {t:TA} {p:Addr} {xs:List V} (c:aH K H p xs) (h:t σ H λys H2=>r (.ref p) ys H2 Q):RL K r t (.ref p) σ H Q:=⟨⟨xs,c⟩,h⟩
theorem PH {z:Str} {k:Nat} (h:Q (.int (((ls z).count k:Nat):Int)) H):pQ z [sgn k] H Q:=by
 show Q (.int (count z ⟨#[k]⟩)) H;rw[JO];exact h
theorem PD {z y:Str} {k:Nat} {r:List Nat} (e:Builtin.Str.occurrences z y 0 z.length 1=k::r) (h:Q (.int k) H):pP z [.str y] H Q:=⟨k,r,e,h⟩
theorem nQ {p:Addr} {xs:List V} {y:V} (e:H p=some (.lst xs)) (c:xs.length<sizeLine) (h:Q .non (upd H p (.lst (xs++[y])))):pS (.ref p) [y] H Q:=⟨p,xs,y,rfl,rfl,e,c,h⟩
def oV (J:It) (g:TG) (tb:TS) (D:Ends) (σ:St) (H:Hp):Prop:=∃W:Nat->Nat->St->Hp->Prop,(∃m,W 0 m σ H)/\∀i m σ H,W i m σ H->
 (J.stop i H/\D.nx σ H)\/(J.go i H/\∃N:St->Hp->Prop,(∀σ' H',N σ' H'->∃m',m'<m/\W (i+1) m' σ' H')/\∀x H',J.yld i H x H'->g x σ H' λσ2 H2=>tb {D with nx:=N,ct:=N,bk:=D.nx} σ2 H2)
theorem Mf {tg:TX K} {it:IX K} {bd:List (SX K)} (h:it.t E σ H λJ H1=>oV J tg.g (eI bd E) D σ H1):(kX tg it bd).t E D σ H:=h
theorem Lm {R:It->Hp->Prop} (h:fF (a::as) E σ H λvs H1=>IE vs H1 R):(xT a as).t E σ H R:=h
theorem El {R:It->Hp->Prop} (c:-(2 ^ 62)<=j/\j<2 ^ 62) (h:R (KJ 0 j.toNat) H):IE [.int j] H R:=⟨c,h⟩
theorem Ek {R:It->Hp->Prop} (c:-(2 ^ 62)<=i/\i<2 ^ 62/\-(2 ^ 62)<=j/\j<2 ^ 62) (h:R (KJ i (j - i).toNat) H):IE [.int i,.int j] H R:=⟨c,h⟩
theorem Lh {R:It->Hp->Prop} (h:fF [a,b] E σ H λvs H1=>MP K vs H1 R):(WO a b).t E σ H R:=h
theorem DO {R:It->Hp->Prop} {p r:Addr} {xs ys:List V} (c:aH K H p xs) (d:aH K H r ys) (h:R (Nu K p r) H):MP K [.ref p,.ref r] H R:=⟨⟨⟨xs,c⟩,ys,d⟩,h⟩
theorem Et {R:It->Hp->Prop} (h:a.t E σ H λx H1=>rF K x H1 R):(gG a).t E σ H R:=h
theorem Ly {R:It->Hp->Prop} {z:Str} (h:R (Nw z) H):rF K (.str z) H R:=h
theorem mM {R:It->Hp->Prop} {p:Addr} {xs:List V} (c:aH K H p xs) (h:R (ZS K p) H):rF K (.ref p) H R:=.inl ⟨⟨xs,c⟩,h⟩
theorem GB {R:It->Hp->Prop} {p:Addr} {xs:List V} (c:bX K H p xs) (h:R (Hi K p) H):rF K (.ref p) H R:=.inr ⟨⟨xs,c⟩,h⟩
theorem VF {J:It} {P:Hp->Prop} {xs:List V} {g:TG} {tb:TS} (Y:Yl J P xs) (Pv:Nat->St->Hp->Prop) (h0:Pv 0 σ H) (hl:∀i σ H,i<=xs.length->Pv i σ H->P H)
  (hs:∀i x σ H,xs[i]?=some x->Pv i σ H->g x σ H λσ2 H2=>tb {D with nx:=Pv (i+1),ct:=Pv (i+1),bk:=D.nx} σ2 H2) (hd:∀σ H,Pv xs.length σ H->D.nx σ H):oV J g tb D σ H:=PQ Y Pv h0 hl hs hd
theorem gF {lo:Int} {k:Nat} {g:TG} {tb:TS} (Pv:Nat->St->Hp->Prop) (h0:Pv 0 σ H)
  (hs:∀i σ H,i<k->Pv i σ H->g (.int (lo+(i:Nat))) σ H λσ2 H2=>tb {D with nx:=Pv (i+1),ct:=Pv (i+1),bk:=D.nx} σ2 H2) (hd:∀σ H,Pv k σ H->D.nx σ H):oV (KJ lo k) g tb D σ H:=JJ Pv h0 hs hd
theorem YY {QS:St->Hp->Prop} (h:QS (σ.set n (some v)) H):(iV n:TX K).g v σ H QS:=h
theorem PF (h:a.t E σ H λx H1=>b.t E σ H1 λy H2=>∃(z:Str) (t:Addr) (ws:List V),[x,y]=[V.str z,.ref t]/\(bX K H2 t ws\/aH K H2 t ws)/\z.cps.size=ws.length/\z.cps.size<=1000/\z.cps.all (·<128)=true/\(∀i j,i<z.cps.size->j<z.cps.size->fW z i=fW z j->i=j)/\
 ∀d,H2 d=none->Q (.ref d) (upd H2 d (.dK (kC z ws)))):(WY a b).t E σ H Q:=h
theorem mI {p:Addr} {xs:List V} {g:TG} {tb:TS} (hp:aH K H p xs) (S:Nat->St->Prop) (h0:S 0 σ)
  (hs:∀i x σ1 H1,xs[i]?=some x->S i σ1->aB H H1->g x σ1 H1 λσ2 H2=>tb {D with nx:=λσ3 H3=>S (i+1) σ3/\aB H H3,ct:=λσ3 H3=>S (i+1) σ3/\aB H H3,bk:=D.nx} σ2 H2) (hd:∀σ1 H1,S xs.length σ1->aB H H1->D.nx σ1 H1):
  oV (ZS K p) g tb D σ H:=PR (jQ (xs:=xs)) (λH' e=>e.seq hp) S h0 hs hd
theorem IU {lo:Int} {k:Nat} {g:TG} {tb:TS} (S:Nat->St->Prop) (h0:S 0 σ)
  (hs:∀i σ1 H1,i<k->S i σ1->aB H H1->g (.int (lo+(i:Nat))) σ1 H1 λσ2 H2=>tb {D with nx:=λσ3 H3=>S (i+1) σ3/\aB H H3,ct:=λσ3 H3=>S (i+1) σ3/\aB H H3,bk:=D.nx} σ2 H2) (hd:∀σ1 H1,S k σ1->aB H H1->D.nx σ1 H1):
  oV (KJ lo k) g tb D σ H:=gF (λi σ1 H1=>S i σ1/\aB H H1) ⟨h0,aB.refl _⟩ (λi σ1 H1 hi p=>hs i σ1 H1 hi p.1 p.2) λσ1 H1 p=>hd σ1 H1 p.1 p.2
theorem rR {QS:St->Hp->Prop} {k l:Nat} {p:Addr} {x y:V} (c:bX K H p [x,y]) (h:QS ((σ.set k (some x)).set l (some y)) H):(GZ [k,l]:TX K).g (.ref p) σ H QS:=
 ⟨p,[x,y],rfl,c,rfl,x,[y],rfl,y,[],rfl,rfl,h⟩
theorem JR {J:It} {P:Hp->Prop} {items:List V} (Y:Yl J P items) {tc:TT} {te:TE} {is:List Nat} {D:Addr} (keep:Nat->Bool) (f:Nat->V) (hD:H D=none) (hP:∀H1,aB H H1->P H1) (hz:items.length<=sizeLine)
  (test:∀(i:Nat) (x:V) (H1:Hp) (QB:Bool->Hp->Prop),items[i]?=some x->aB H H1->(∀H2,aB H1 H2->QB (keep i) H2)->tc (some x::fN is σ) H1 QB)
  (step:∀(i:Nat) (x:V) (H1:Hp) (Q':VK),items[i]?=some x->keep i=true->aB H H1->(∀H3,aB H1 H3->Q' (f i) H3)->te (some x::fN is σ) H1 Q')
  (fin:∀H1,aB H H1->H1 D=some (.lst (((range items.length).filter keep).map f))->Q (.ref D) H1):aS J (iV 0:TX K).g tc te 1 is σ D H Q:=by
 have hn:∀i,(((range i).filter keep).map f).length<=i:=λi=>by
  rw[length_map];exact Nat.le_trans (List.length_filter_le _ _) (by rw[length_range];exact Nat.le_refl _)
 refine ⟨λi m σ' H1=>m=items.length - i/\i<=items.length/\(∃a,σ'=a::fN is σ)/\aB H H1/\H1 D=some (.lst (((range i).filter keep).map f)),⟨items.length,by simp,zero_le _,⟨none,rfl⟩,λb o e=>by rw[aE (aD e hD)];exact e,aA⟩,?_⟩;rintro i m σ' H1 ⟨rfl,hi,⟨a,rfl⟩,hS,hO⟩;have p:=hP H1 hS;by_cases hlt:i<items.length
 ·refine .inr ⟨Y.go i H1 p hlt,λx H' hy=>?_⟩;obtain ⟨e,hx⟩:=Y.yld i H1 x H' p hlt hy;subst e;show tc (some x::fN is σ) H' _;refine test i x H' _ hx hS λH2 s2=>⟨λhk=>?_,λhk=>?_⟩
  ·refine step i x H2 _ hx hk (hS.trans s2) λH3 s3=>?_;refine ⟨_,s3 _ _ (s2 _ _ hO),Nat.lt_of_le_of_lt (hn i) (lt_of_lt_of_le hlt hz),items.length - (i+1),by lia,rfl,hlt,⟨_,rfl⟩,λb o q=>?_,?_⟩
   ·rw[aE (aD q hD)];exact s3 _ _ (s2 _ _ (hS b o q))
   ·rw[aA,range_succ,List.filter_append,map_append,filter_cons,if_pos hk];rfl
  ·refine ⟨items.length - (i+1),by lia,rfl,hlt,⟨_,rfl⟩,hS.trans s2,?_⟩;rw[s2 _ _ hO,range_succ,List.filter_append,filter_cons,if_neg (by rw[hk];exact Bool.false_ne_true),List.filter_nil,append_nil]
 ·have e:i=items.length:=by lia
  subst e;exact .inl ⟨Y.stop H1 p,fin H1 hS hO⟩
theorem filter_all {α:Type} (l:List α):(l.filter λ_=>true)=l:=List.filter_eq_self.mpr λ_ _=>rfl
theorem mS {J:It} {P:Hp->Prop} {items:List V} (Y:Yl J P items) {te:TE} {is:List Nat} {D:Addr} (f:Nat->V) (hD:H D=none) (hP:∀H1,aB H H1->P H1) (hz:items.length<=sizeLine)
  (step:∀(i:Nat) (x:V) (H1:Hp) (Q':VK),items[i]?=some x->aB H H1->(∀H3,aB H1 H3->Q' (f i) H3)->te (some x::fN is σ) H1 Q')
  (fin:∀H1,aB H H1->H1 D=some (.lst ((range items.length).map f))->Q (.ref D) H1):aS J (iV 0:TX K).g (cT (none:Option (EX K))) te 1 is σ D H Q:=
 JR Y (λ_=>true) f hD hP hz (λ_ _ _ _ _ _ q=>q _ (aB.refl _)) (λi x H1 Q' hx _ hS q=>step i x H1 Q' hx hS q) λH1 hS hO=>fin H1 hS (by rw[filter_all] at hO;exact hO)
theorem BJ {lo:Int} {m:Nat} {te:TE} {is:List Nat} {D:Addr} (f:Nat->V) (hD:H D=none) (hz:m<=sizeLine)
  (step:∀(i:Nat) (H1:Hp) (Q':VK),i<m->aB H H1->(∀H3,aB H1 H3->Q' (f i) H3)->te (some (.int (lo+(i:Nat)))::fN is σ) H1 Q')
  (fin:∀H1,aB H H1->H1 D=some (.lst ((range m).map f))->Q (.ref D) H1):aS (KJ lo m) (iV 0:TX K).g (cT (none:Option (EX K))) te 1 is σ D H Q:=by
 refine mS ZX f hD (λ_ _=>trivial) (by rw[iT];exact hz) (λi x H1 Q' hx hS q=>?_) (λH1 hS hO=>fin H1 hS (by rw[iT] at hO;exact hO));obtain ⟨hi,rfl⟩:=MJ hx;exact step i H1 Q' hi hS q
theorem nI {α β:Type} (l:List α) (f:α->β) (d:β):((range l.length).map λi=>(l[i]?.map f).getD d)=l.map f:=by
 refine List.ext_getElem? λi=>?_;rw[getElem?_map,getElem?_map];by_cases hi:i<l.length
 ·rw[getElem?_range hi];show some ((l[i]?.map f).getD d)=l[i]?.map f;rw[getElem?_eq_getElem hi];rfl
 ·rw[List.getElem?_eq_none_iff.mpr (by rw[length_range];lia),List.getElem?_eq_none_iff.mpr (by lia)];rfl
theorem sV {J:It} {P:Hp->Prop} {xs:List V} (Y:Yl J P xs) {te:TE} {is:List Nat} {D:Addr} (f:V->V) (hD:H D=none) (hP:∀H1,aB H H1->P H1) (hz:xs.length<=sizeLine)
  (step:∀(i:Nat) (x:V) (H1:Hp) (Q':VK),xs[i]?=some x->aB H H1->(∀H3,aB H1 H3->Q' (f x) H3)->te (some x::fN is σ) H1 Q')
  (fin:∀H1,aB H H1->H1 D=some (.lst (xs.map f))->Q (.ref D) H1):aS J (iV 0:TX K).g (cT (none:Option (EX K))) te 1 is σ D H Q:=by
 refine mS Y (λi=>(xs[i]?.map f).getD .non) hD hP hz (λi x H1 Q' hx hS q=>?_) λH1 hS hO=>fin H1 hS (by rw[nI] at hO;exact hO);rw[hx] at q;exact step i x H1 Q' hx hS q
theorem mR {z:Str} {te:TE} {is:List Nat} {D:Addr} (f:Nat->V) (hD:H D=none) (hz:z.length<=sizeLine)
  (step:∀(i c:Nat) (H1:Hp) (Q':VK),z.cps.toList[i]?=some c->aB H H1->(∀H3,aB H1 H3->Q' (f c) H3)->te (some (sgn c)::fN is σ) H1 Q')
  (fin:∀H1,aB H H1->H1 D=some (.lst (z.cps.toList.map f))->Q (.ref D) H1):aS (Nw z) (iV 0:TX K).g (cT (none:Option (EX K))) te 1 is σ D H Q:=by
 refine mS ZW (λi=>(z.cps.toList[i]?.map f).getD .non) hD (λ_ _=>trivial) (by rw[gC];exact hz) (λi x H1 Q' hx hS q=>?_) λH1 hS hO=>fin H1 hS (by
  rw[show (kQ z).length=z.cps.toList.length by rw[gC];simp,nI] at hO;exact hO)
 unfold kQ at hx;rw[getElem?_map] at hx;cases e:z.cps.toList[i]? with
 |none=>rw[e] at hx;cases hx
 |some c=>
  rw[e] at hx q;have hx':sgn c=x:=Option.some.inj hx;subst hx';exact step i c H1 Q' e hS q
theorem qM {p:Addr} {xs:List V} (hp:bX K H p xs) (H1:Hp) (hS:aB H H1):bX K H1 p xs:=by
 rcases hp with (h|⟨o,h⟩)|h
 ·exact .inl (.inl (hS _ _ h))
 ·exact .inl (.inr ⟨o,hS _ _ h⟩)
 ·exact .inr h
theorem sU {p:Addr} {xs:List V} {te:TE} {is:List Nat} {D:Addr} (f:V->V) (hp:bX K H p xs) (hD:H D=none) (hz:xs.length<=sizeLine)
  (step:∀(i:Nat) (x:V) (H1:Hp) (Q':VK),xs[i]?=some x->aB H H1->(∀H3,aB H1 H3->Q' (f x) H3)->te (some x::fN is σ) H1 Q')
  (fin:∀H1,aB H H1->H1 D=some (.lst (xs.map f))->Q (.ref D) H1):aS (Hi K p) (iV 0:TX K).g (cT (none:Option (EX K))) te 1 is σ D H Q:=sV (KY (xs:=xs)) f hD (qM hp) hz step fin
theorem QV {p:Addr} {xs:List V} {te:TE} {is:List Nat} {D:Addr} (f:V->V) (hp:aH K H p xs) (hD:H D=none) (hz:xs.length<=sizeLine)
  (step:∀(i:Nat) (x:V) (H1:Hp) (Q':VK),xs[i]?=some x->aB H H1->(∀H3,aB H1 H3->Q' (f x) H3)->te (some x::fN is σ) H1 Q')
  (fin:∀H1,aB H H1->H1 D=some (.lst (xs.map f))->Q (.ref D) H1):aS (ZS K p) (iV 0:TX K).g (cT (none:Option (EX K))) te 1 is σ D H Q:=sV (jQ (xs:=xs)) f hD (λH1 hS=>hS.seq hp) hz step fin
theorem WM {elt:EX K} {c:Option (EX K)} {tg:TX K} {it:IX K} {own caps:List Str} {is:List Nat} (h:it.t E σ H λJ H1=>∀D,H1 D=none->aS J tg.g (cT c) (elt.t E0) own.length is σ D H1 Q):(GK c elt tg it own caps is).t E σ H Q:=h
theorem Ex {elt:EX K} {tg:TX K} {it:IX K} {own caps:List Str} {is:List Nat} (h:it.t E σ H λJ H1=>∀D,H1 D=none->aS J tg.g (cT (none:Option (EX K))) (elt.t E0) own.length is σ D H1 Q):(comp elt tg it own caps is).t E σ H Q:=h
theorem Ej {c:Ox K} (h:c.t E σ H λx H1=>D.nx (σ.set n (some x)) H1):(setC n c).t E D σ H:=h
end
def FD (K:Fg) (x:Str) (st:Stmt):Prop:=∃(f:Addr) (fd:FuncData),ZU K x x st f fd/\nsIn K mainGlobals x=some (some (.ref f))
theorem Mu {K:Fg} {x:Str} {st:Stmt} {f:Addr} {oc:Value} {od an:Option Addr} {osl:Array (Option Value)} {kV doc pm cdv ct:Value} (a:nsIn K mainGlobals x=some (some (.ref f)))
  (l:K.lookup f=some ⟨oc,od,.func (PySem.W.fnOf x x (bF st) (aK st) (aF st) .none kV doc pm an cdv ct),osl⟩) (c:PySem.W.codeIn K cdv x=true) (k:keepIn K (.ref f)=true):FD K x st:=⟨f,_,DU l c k,a⟩
def Gx (K:Fg):List Str->Prop
 |[]=>True
 |x::xs=>nsIn K mainGlobals x=some none/\Gx K xs
theorem all_none {K:Fg} {h:Heap} {mg:Str->Option Value} (X:K.In h) (G:h.Ns mainGlobals mg):∀{xs:List Str},Gx K xs->∀x∈xs,mg x=none
 |[],_,_,hx=>nomatch hx
 |y::ys,z,x,hx=>by
  rcases mem_cons.mp hx with rfl|hx
  ·exact PySem.W.mg_none_of X G z.1
  ·exact all_none X G z.2 x hx
def GC (K:Fg) (x:Str) (v:V):Prop:=∃u,nsIn K mainGlobals x=some (some u)/\RelV v u
theorem dH {K:Fg} {h:Heap} {mg:Str->Option Value} {P:Program} {w:World} {base:Heap} {A:Around} {x:Str} {v:V} (X:K.In h) (G:h.Ns mainGlobals mg) (c:GC K x v):Nz ⟨P,w,K,mg,base,A⟩ x v:=by
 obtain ⟨u,h1,h2⟩:=c;exact ⟨u,mg_of X G h1,h2⟩
theorem Ff {K:Fg} {x z:Str} {t:Tok} (h:nsIn K mainGlobals x=some (some (.str z t))):GC K x (.str z):=⟨_,h,t,rfl⟩
theorem Fh {K:Fg} {x:Str} {i:Int} {t:Tok} (h:nsIn K mainGlobals x=some (some (.int i t))):GC K x (.int i):=⟨_,h,t,rfl⟩
section
variable {K:Fg} {P:Program} {w:World} {h base:Heap} {mg:Str->Option Value} {x:Str} {st:Stmt} {N ps:List Str} {k:Nat} {sp:Sp}
theorem My (F:FD K x st) (X:K.In h) (G:h.Ns mainGlobals mg) (bl:∀x∈kB,mg x=none) (b:List (SX K)) (S:cJ N ps (aF st)) (hm:yQ b ⟨N,(aF st).names,true⟩ (aK st)=true)
  (hb:∀(kV doc pm:Value) (an:Option Addr) (cdv ct:Value) (us:List Value),us.length=ps.length->bindArgs (PySem.W.fnOf x x (bF st) (aK st) (aF st) .none kV doc pm an cdv ct) ⟨us,[]⟩=pure (ps.zip us))
  (len:∀vs H Q E,sp vs H Q E->vs.length=ps.length) (t:∀vs H Q E,sp vs H Q E->eI b (λ_=>E) {nx:=λ_ H'=>Q .non H',rt:=Q} (start N vs) H) (hq:∀A,bM k A->BW b ⟨P,w,K,mg,base,A⟩):Hl P w K mg base (k+1) x sp:=by
 obtain ⟨f,fd,F,a⟩:=F;exact ⟨f,fd,ps,xY F b S hm bl hq len t,F.binds hb,F.kp,mg_of X G a⟩
end
theorem Sa {Z:List Value->Prop} (h:∀a:Value,Z [a]) (us:List Value) (hl:us.length=1):Z us:=match us,hl with|[_],_=>h _
theorem Vd {Z:List Value->Prop} (h:∀a b:Value,Z [a,b]) (us:List Value) (hl:us.length=2):Z us:=match us,hl with|[_,_],_=>h _ _
theorem Vc {Z:List Value->Prop} (h:∀a b c:Value,Z [a,b,c]) (us:List Value) (hl:us.length=3):Z us:=match us,hl with|[_,_,_],_=>h _ _ _
theorem by4 {Z:List Value->Prop} (h:∀a b c d:Value,Z [a,b,c,d]) (us:List Value) (hl:us.length=4):Z us:=match us,hl with|[_,_,_,_],_=>h _ _ _ _
def clsAt (K:Fg) (x:Str):Addr:=match nsIn K mainGlobals x with
 |some (some (.ref C))=>C
 |_=>0
abbrev hV:List Value:=[.type "ValueError",.type "Exception",.type "BaseException",.type "object"]
structure BV (K:Fg) (x:Str):Prop where
 at_:nsIn K mainGlobals x=some (some (.ref (clsAt K x)))
 exc:excIn K (clsAt K x) hV "ValueError.__new__"=true
theorem WV {x:Str} {h:Heap} (k:BV K x) (X:K.In h):∃bm N nm q bs hdct sn sub ab col dd k0 k1 k2 k3 k5 mN,h.get? (clsAt K x)=some (excClassObj nm q (clsAt K x) N bs bm hdct sn sub ab col dd k0 k1 k2 k3 k5 "ValueError.__new__")/\h.Ns N mN/\mN "__init__"=none/\OwnTail h hV bm:=by
 have q:=k.exc;generalize clsAt K x=C at q;unfold excIn at q;split at q
 ·rename_i dd cd sl ho;split at q
  ·rename_i C' bm k0 k1 k2 k3 n k5 hm hs;simp only [and_eq_true,beq_iff_eq,Bool.not_eq_true'] at q;obtain ⟨⟨⟨⟨⟨rfl,rfl⟩,hdel⟩,ht⟩,hok⟩,hni⟩:=q;obtain ⟨nm,bs,mro,ns,qn,hd,sn,sub,ab,col,del⟩:=cd;obtain ⟨l⟩:=sl;dsimp only at hm hs hdel hok hni;subst hm hdel hs;exact ⟨bm,ns,nm,qn,bs,hd,sn,sub,ab,col,dd,k0,k1,k2,k3,k5,_,X _ _ ho,.of_isNs (isNs_of_in X hok),PySem.W.nsMap_none_of_in X hok hni,PySem.W.tail_of_in X ht⟩
  ·cases q
 ·cases q
def raiseO (x:Str) (a:EX K) (as:List (EX K)):SX K where
 t:=λE _ σ H=>fF (a::as) E σ H λvs H1=>vs.length<=sizeLine/\E σ (.ref (clsAt K x)) none H1
 m:=λC s=>match s with
  | .Raise (some (.Call (.Name y _) es [] _)) none _=>(C.cm&&mY C x y)&&iD (a::as) C es
  |_=>false
 q:=λR=>(R.mg x=some (.ref (clsAt K x))/\BV K x)/\pU (a::as) R
 ok:=λX C E s hK G hE hq hm=>by
  subst hK;split at hm
  ·rename_i y py es p pos;simp only [and_eq_true] at hm;obtain ⟨⟨hcm,h1⟩,h2⟩:=hm;have e:=bB h1;subst e;obtain ⟨g,d⟩:=bA G h1;obtain ⟨⟨hg,ek⟩,hqa⟩:=hq;cases es with
   |nil=>cases h2
   |cons e es=>
    intro pins s σ H D I h;have st:=aO (env:=X.env) (es:=es) (a.sok C e (aG h2).1);have pl:=aV (env:=X.env) (pos:=p) as es (aG h2).2;obtain ⟨bm,N,nm,q,bs,hdct,sn,sub,ab,col,dd,k0,k1,k2,k3,k5,mN,hC,hN,hni,T⟩:=WV ek I.ok.mod.kin;refine wpAny_Raise_call_subT (C:=clsAt X.K y) (nm:=nm) (q:=q) (N:=N) (bs:=bs) (bm:=bm) (hdct:=hdct) (sn:=sn) (sub:=sub) (ab:=ab) (col:=col) (dd:=dd) (k0:=k0) (k1:=k1) (k2:=k2) (k3:=k3) (k5:=k5)
     PySem.F.excBase_ValueError (mN:=mN) (T.hasType PySem.F.excBase_ValueError.hasBase) (I.ok.hd (G.calm hcm)) (by rw[st];exact pl) hni (dQ I g hg ⟨rfl,?_⟩ d)
    have ev:=cR G hE (a::as) (e::es) hqa h2 p pins s σ H _ I h;rw[st] at ev ⊢;refine Calls.evalArgs_plain (wpAny_mono ev (λus s1 z=>?_) λ_ _ z=>z);obtain ⟨vs,H1,I1,r1,ln,w1⟩:=z;refine ⟨rfl,by rw[<-r1.length];exact ln,I1.bk _ _ hC,hN.keeps I1.bk,T.keeps I1.bk,λh' e' mk=>?_⟩;obtain ⟨t,eo,_,_⟩:=mk.there;refine hE.made pins σ H1 H1 s1 {s1 with heap:=h'} e' _ _ I1 rfl I1.bare (Un.kept mk.keeps) (I1.hok.kept mk.keeps) mk.new ?_ eo rfl rfl w1;cases hh:H1 e' with
    |none=>rfl
    |some o=>
     obtain ⟨u,hu⟩:=iH (I1.hok e' o hh);rw[mk.new] at hu;cases hu
  ·cases hm
def GW (e:Addr) (c:Value) (dx:Option Addr):Heap->Prop:=λh=>∃oe vs,h.get? e=some oe/\oe.cls=c/\oe.dict=dx/\oe.data=.fields vs
section
variable {X:Cx} {pins:List (Addr × Obj)} {σ:St} {H1 H':Hp} {s1 s':Shared} {B g:Heap} {e:Addr} {c fl:Value} {dx:Option Addr}
theorem sX (I1:Inv X pins σ H1 s1) (os:s'.os=s1.os) (bare:AllBare s'.gens) (un:Un (dC X.stack) [] H1 H' s1.heap s'.heap) (hok:dN X.prog X.w H' s'.heap) (st:B.StaysIn s'.heap)
  (c1:∀b o,s1.heap.get? b=some o->b∉dC X.stack->∃u,B.get? b=some u) (c2:∀b o,H' b=some o->∃u,B.get? b=some u) (F2:eZ B X.stack e c dx fl g) (u:s'.heap.UpToSlots g):
  Inv X pins σ (upd H' e (.ext (GW e c dx))) {s' with heap:=g}/\H' e=none:=by
 obtain ⟨oe,vs,T,oT,ts,eo,hc,hx,dt,_⟩:=id F2.tr;have nfe:e∉dC X.stack:=λz=>by
  obtain ⟨_,o,q,n⟩:=F2.frames.mem z;rw[eo] at q;cases q;exact n vs dt
 have neq:∀b o,s1.heap.get? b=some o->b≠e:=λb o q z=>by
  subst z;obtain ⟨v,hv⟩:=c1 b o q nfe;rw[F2.new] at hv;cases hv
 have ne':H' e=none:=by
  cases q:H' e with
  |none=>rfl
  |some o=>
   obtain ⟨v,hv⟩:=c2 e o q;rw[F2.new] at hv;cases hv
 have tr:∀b o,H1 b=some o->b≠e:=λb o q=>by
  obtain ⟨v,hv⟩:=iH (I1.hok b o q);exact neq b v hv
 have bg:∀b o,s'.heap.get? b=some o->(∃v,B.get? b=some v)->g.get? b=some o:=λb o q ⟨v,hv⟩=>by
  have z:=st _ _ hv;rw[q] at z;cases z;exact F2.stay _ _ hv
 have slot:∀b o,s1.heap.get? b=some o->H1 b=none->b∈dC X.stack->∃sl,g.get? b=some {o with slots:=sl}:=λb o q n hb=>by
  obtain ⟨sl,q1⟩:=un.slot b o q n hb (by simp);have nf:∀ws,o.data≠.fields ws:=by
   obtain ⟨_,o',q',n'⟩:=I1.stack.mem hb;rw[q] at q';cases q';exact n'
  obtain ⟨sl3,q3⟩:=u b _ q1 nf;exact ⟨sl3,q3⟩
 have un2:Un (dC X.stack) [] H1 (upd H' e (.ext (GW e c dx))) s1.heap g:=by
  refine ⟨λb o q n hb _=>bg b o (un.keep b o q n hb (by simp)) (c1 b o q hb),λb o q n hb _=>slot b o q n hb,λb o q n _=>?_,λb o q _=>?_,λb xs q=>?_,λb o xs q=>?_,λb ps q=>?_⟩
  ·rw[aE (neq b o q)];exact un.free b o q n (by simp)
  ·by_cases hb:b∈dC X.stack
   ·obtain ⟨sl,z⟩:=slot b o q (I1.stkFree b hb) hb;exact ⟨_,z⟩
   ·obtain ⟨v,hv⟩:=c1 b o q hb;exact ⟨v,F2.stay _ _ hv⟩
  ·rw[aE (tr b _ q)];exact un.tups b xs q
  ·rw[aE (tr b _ q)];exact un.frzs b o xs q
  ·rw[aE (tr b _ q)];exact un.tbls b ps q
 have hok1:dN X.prog X.w H' g:=DR hok c2 st F2.stay;have hok2:dN X.prog X.w (upd H' e (.ext (GW e c dx))) g:=λb o q=>by
  by_cases hb:b=e
  ·subst hb;rw[aA] at q;cases q;exact ⟨⟨oe,vs,eo,hc,hx,dt⟩,⟨oe,eo⟩,λh1 h2 ⟨o1,v1,q1,q2⟩ k=>⟨o1,v1,k _ q1,q2⟩⟩
  ·rw[aE hb] at q;exact (hok1 b o q).stay (λ_ _ _ z=>z) (λb' z=>by rw[aE (aD z ne')];exact z) λb' xs z=>by rw[aE (aD z ne')];exact z
 exact ⟨I1.call' (s':={s' with heap:=g}) os un2 hok2 bare (λb z=>absurd z (by simp)),ne'⟩
end
section
variable {X:Cx} {pins:List (Addr × Obj)} {σ:St} {H:Hp} {s:Shared} {M:Model} {A:Around} {E:Value->Shared->Prop} {Q:Unit->Shared->Prop}
theorem WZ {n:Str} {k:Nat} {pos:Pos} (I:Inv X pins σ H s) (nd:X.N.Nodup) (hi:X.N[k]?=some n) (hk:X.env.scope.names.lookup n=some .local) (h:∀s',Inv X pins (σ.set k none) H s'->Q () s'):
  wpAny M A (do bindName X.env n .none;unbindBehindTheSuite X.env n pos) Q E s:=by
 obtain ⟨m,hn,hl⟩:=id I.loc;have kd:(X.env.scope.kind==.class || (X.env.scope.kind==.module&&X.env.locals != X.env.globals))=false:=by rw[I.ok.kind];rfl
 refine wpAny_nameGoes_keeps hk hn kd λh' v hn' hs=>h _ ?_;have kp:∀b o,b≠X.env.locals->s.heap.get? b=some o->h'.get? b=some o:=λb o hb q=>(hs.2 b hb).trans q;have old:∀b o,X.s₀.heap.get? b=some o->b≠X.env.locals:=λb o q=>ne_of_lt (lt_of_lt_of_le (lt_size q) I.ok.above);have cl:∀x c w,X.env.cells.lookup x=some c->s.heap.IsCell c w->h'.IsCell c w:=λx c w e ⟨o,q,d⟩=>⟨o,kp _ _ (I.cne x c e) q,d⟩;refine ⟨I.ok,I.os,I.bare,⟨λb o q n hb hx=>kp _ _ (old b o q) (I.base.keep b o q n hb hx),λb o q n hb hx=>?_,I.base.free,λb o q hx=>?_,I.base.tups,I.base.frzs,I.base.tbls⟩,⟨_,hn',λj y w e1 e2 e3=>?_⟩,λy c e=>?_,I.free,I.freeC,λp hp=>?_,λb o q=>?_,by simpa using I.len⟩
 ·obtain ⟨sl,z⟩:=I.base.slot b o q n hb hx;exact ⟨sl,kp _ _ (old b o q) z⟩
 ·obtain ⟨o',z⟩:=I.base.there b o q hx;exact ⟨o',kp _ _ (old b o q) z⟩
 ·have hj:j≠k:=λz=>by
   subst z;rw[List.getElem?_set] at e2;split at e2
   ·split at e2<;>cases e2
   ·contradiction
  rw[List.getElem?_set,if_neg hj.symm] at e2;obtain ⟨u,r,l⟩:=hl j y w e1 e2 e3;refine ⟨u,r,?_⟩;rcases l with ⟨l1,l2⟩|⟨l1,c,l2,l3⟩
  ·refine .inl ⟨l1,?_⟩;have hy:y≠n:=λz=>by
    subst z;exact hj ((List.getElem?_inj (List.getElem?_eq_some_iff.mp e1).1 nd).mp (e1.trans hi.symm))
   show (if y=n then v else m y)=some u;rw[if_neg hy];exact l2
  ·exact .inr ⟨l1,c,l2,cl y c _ l2 l3⟩
 ·obtain ⟨w,hw⟩:=I.cell y c e;exact ⟨w,cl y c w e hw⟩
 ·obtain ⟨p1,p2,p3,p4⟩:=I.pin p hp;exact ⟨kp _ _ p3 p1,p2,p3,p4⟩
 ·refine (I.hok b o q).stay (λb' u hb' z=>kp _ _ (λy=>?_) z) (λ_ z=>z) λ_ _ z=>z;rcases hb' with y2|y2
  ·rw[y2] at y;rw[y,I.free] at q;cases q
  ·rw[y,I.free] at y2;cases y2
end
abbrev pY (X:Cx) (pins:List (Addr × Obj)) (W:Value->Shared->Prop):Cx:={X with xe:=W,pn:=X.pn++pins}
section
variable {X:Cx} {pins pins':List (Addr × Obj)} {σ:St} {H:Hp} {s:Shared} {W:Value->Shared->Prop}
theorem NL (ok:X.Ok):(pY X pins W).Ok:=⟨ok.mod,ok.kind,ok.glob,ok.blt,ok.above,ok.inj,ok.has,ok.cab,ok.hd,ok.frames,ok.stk,ok.exf,ok.bs,ok.bsz,ok.noex,ok.exfs,ok.funs,ok.frf⟩
theorem De (ok:(pY X pins W).Ok):X.Ok:=⟨ok.mod,ok.kind,ok.glob,ok.blt,ok.above,ok.inj,ok.has,ok.cab,ok.hd,ok.frames,ok.stk,ok.exf,ok.bs,ok.bsz,ok.noex,ok.exfs,ok.funs,ok.frf⟩
theorem JB (I:Inv X pins σ H s):Inv (pY X pins W) [] σ H s:=⟨NL I.ok,I.os,I.bare,I.base,I.loc,I.cell,I.free,I.freeC,λp hp=>I.pin p (by simpa using hp),I.hok,I.len⟩
theorem jW (I:Inv (pY X pins W) pins' σ H s):Inv X pins σ H s:=⟨De I.ok,I.os,I.bare,I.base,I.loc,I.cell,I.free,I.freeC,λp hp=>I.pin p (mem_append_left _ hp),I.hok,I.len⟩
theorem Ap {D:Ends} {f:Flow} {s':Shared} (h:SP (pY X pins W) pins' D f s'):SP X pins D f s':=by
 cases f with
 |next=>obtain ⟨σ',H',I,q⟩:=h;exact ⟨σ',H',jW I,q⟩
 |brk=>obtain ⟨σ',H',I,q⟩:=h;exact ⟨σ',H',jW I,q⟩
 |cont=>obtain ⟨σ',H',I,q⟩:=h;exact ⟨σ',H',jW I,q⟩
 |ret u=>obtain ⟨v,σ',H',I,r,q⟩:=h;exact ⟨v,σ',H',jW I,r,q⟩
end
theorem OE {M:Model} {h:Heap} {e:Addr} {c:Value} {dx:Option Addr} (x:GW e c dx h):Looks M h (typeOf (.ref e)) c:=by
 obtain ⟨oe,vs,eo,rfl,_,_⟩:=x;exact (Looks.ld eo).andThen .now
open PySem.W
section
variable {prog:Program} {w:World} {A:Around} {E:Value->Shared->Prop} {s:Shared} {K:Frag} {x D:Addr} {ox:Obj} {od:Option Obj} {name:Str}
theorem Aa {M:Model} {nv:Value} {Q:Unit->Shared->Prop} (X:K.In s.heap) (I:InstAt s.heap x ox D od) (hb:mroIn K D (.type "BaseException")=some true) (h:Q () s):wpAny M A (checkBuiltinCall "BaseException.__getattribute__" ⟨[.ref x,nv],[]⟩) Q E s:=by
 obtain ⟨hh,g,d,t,os⟩:=s;have kd:builtinKind "BaseException.__getattribute__"=some .slot:=by decide+kernel
 have sp:splitId "BaseException.__getattribute__"=some ("BaseException","__getattribute__"):=by decide+kernel
 have ar:=F.args_bexc_ga (.ref x) nv;simp only [checkBuiltinCall,kd,sp];refine wpAny_bind (wpAny_bind ((I.type (M:=M)).at ((looks_mroIn X hb).at ?_)))
 repeat (any_goals (first|assumption|wp_step))
theorem Rg {tk:Tok} {fill ex:Bool} {Q:Value->Shared->Prop} (X:K.In s.heap) (I:InstAt s.heap x ox D od) (hga:findIn K (.ref D) "__getattribute__"=some (some (.builtin "BaseException.__getattribute__"))) (hno:findIn K (.ref D) "__getattr__"=some none)
  (hb:mroIn K D (.type "BaseException")=some true)
  (h:wpAny (model prog w) A.in1 (Builtin.«object.__getattribute__» ⟨[.ref x,.str name tk],[]⟩) (λfin s'=>∃v,fin=.done (.ret v)/\wpAny (model prog w) A (handedOut v) Q E s') (λ_ _=>False) s):
  wpAny (model prog w) A (getAttrBy (.ref x) (.str name tk) fill ex) Q E s:=by
 obtain ⟨hh,g,d,t,os⟩:=s;have cg:∀o nv,callGetattribute o nv (.builtin "BaseException.__getattribute__") ex=callGetattribute o nv (.builtin "BaseException.__getattribute__") false:=λ_ _=>by cases ex<;>rfl
 have L0:=I.type (M:=model prog w);have L1:=looks_findIn (M:=model prog w) X hga;have L2:=looks_findIn (M:=model prog w) X hno;have f3:=F.excAttr_ValueError.ga.bind (.ref x);unfold getAttrBy;refine wpAny_holding (wpAny_bind (L0.at (wpAny_bind (L1.at ?_))));show wpAny _ _ (getAttrByItsOwn _ _ _ _ _ _) _ _ _;unfold getAttrByItsOwn;rw[cg];refine wpAny_bind ?_;unfold hookBefore
 repeat (any_goals (first|assumption|(refine L2.at ?_)|wp_step))
 refine codeAny_call_builtin F.excAttr_ValueError.ga.plain F.entry_bexc_ga (Aa X I hb (wpAny_mono h (λfin s' z=>?_) λ_ _ z=>z.elim));obtain ⟨v,rfl,z⟩:=z;exact z
theorem Oz {ex:Bool} {v:Value} {Q:Value->Shared->Prop} (X:K.In s.heap) (I:InstAt s.heap x ox D od) (hga:findIn K (.ref D) "__getattribute__"=some (some (.builtin "BaseException.__getattribute__"))) (hno:findIn K (.ref D) "__getattr__"=some none)
  (hb:mroIn K D (.type "BaseException")=some true) (hf:findObj K D od name=some (.value v)) (hv:handedIn v=true) (h:Q v {s with toks:=s.toks+1}):wpAny (model prog w) A (getAttr (.ref x) name ex) Q E s:=by
 obtain ⟨hh,g,d,t,os⟩:=s;have L0:=I.type (M:=model prog w);have L1:=looks_find (M:=model prog w) X I hf;unfold getAttr;refine wpAny_bind (wpAny_mkText (Rg (s:=⟨hh,g,d,t+1,os⟩) X I hga hno hb ?_));unfold Builtin.«object.__getattribute__»
 repeat (any_goals (first|assumption|(refine L0.at ?_)|(refine L1.at ?_)|wp_step))
 exact ⟨v,rfl,by rw[handedOut_of hv];exact wpAny_pure h⟩
theorem ZZ {Q:Option Value->Shared->Prop} (X:K.In s.heap) (I:InstAt s.heap x ox D od) (hga:findIn K (.ref D) "__getattribute__"=some (some (.builtin "BaseException.__getattribute__"))) (hno:findIn K (.ref D) "__getattr__"=some none)
  (hb:mroIn K D (.type "BaseException")=some true) (hf:findObj K D od "__class__"=some (.bind (.builtin "getset_descriptor.__get__") (.builtin "object.__class__"))) (hm:mroIn K D (.type "object")=some true) (h:Q (some (.ref D)) {s with toks:=s.toks+1}):
  wpAny (model prog w) A (getAttr? (.ref x) "__class__") Q E s:=by
 obtain ⟨hh,g,d,t,os⟩:=s;have L0:=I.type (M:=model prog w);have L1:=looks_find (M:=model prog w) X I hf;unfold getAttr? getAttrBy?;refine wpAny_bind (wpAny_mkText (wpAny_bind (wpAny_attempt (Rg (s:=⟨hh,g,d,t+1,os⟩) X I hga hno hb ?_))));unfold Builtin.«object.__getattribute__»
 repeat (any_goals (first|assumption|(refine L0.at ?_)|(refine L1.at ?_)|wp_step))
 refine class_get (s:=⟨hh,g,d,t+1,os⟩) X I hm ?_;exact wpAny_pure ⟨_,rfl,handed_on rfl (wpAny_pure h)⟩
theorem vN (hdct:hasDictIn K D=true):∃c d cd sl,K.lookup D=some ⟨c,d,.cls cd,sl⟩:=by
 obtain ⟨cd,hc,_⟩:=any_some hdct;unfold clsIn at hc;split at hc
 ·rename_i c d cd' sl ho;exact ⟨c,d,cd',sl,ho⟩
 ·cases hc
theorem OL (hga:findIn K (.ref D) "__getattribute__"=some (some (.builtin "BaseException.__getattribute__"))) (hno:findIn K (.ref D) "__getattr__"=some none) (hb:mroIn K D (.type "BaseException")=some true) (hdct:hasDictIn K D=true)
  (hf:findObj K D od "__class__"=some (.bind (.builtin "getset_descriptor.__get__") (.builtin "object.__class__"))) (hm:mroIn K D (.type "object")=some true):KitX K (.ref x) (.ref D) (λh=>InstAt h x ox D od) where
 ty:=λ_ _ _ I=>I.type
 it:=λ_ _ X _=>by
  obtain ⟨c,d,cd,sl,ho⟩:=vN hdct;intro A' Q' E' s' k q;unfold isType loadHead;exact wpAny_bind (wpAny_loadPart (k _ _ (X _ _ ho)) (wpAny_pure q))
 ne:=λh tp dd its n sl X htp=>by
  obtain ⟨c,d,cd,sl',ho⟩:=vN hdct;refine Bool.eq_false_iff.mpr λq=>?_;obtain rfl:D=tp:=Value.ref.inj (beq_iff_eq.mp q);have z:=(X _ _ ho).symm.trans htp;cases z
 ca:=λX I k=>ZZ X I hga hno hb hf hm k
end
theorem VJ {KF:Fg->Prop} {l:PySem.W.OpenLaw} {q:Program} {loose:List Str} {XP:(Str->Option Value)->Heap->Prop} {YP:World->Heap->Prop} {d:DefRec} {K:Params->Fg} {st:Stmt} {N:List Str} {k:Nat} {x:Str} {sp:Fg->Sp} (hn:l.most=some 63) (hdf:d.params.defaults=[]) (hr:bM (k+1) callerA)
  (hY:∀(w:World) (h:Heap),YP w h->(K w.params).In h) (hK:∀w:World,KF (K w.params)) (hd:d.name="law") (b:∀K:Fg,List (SX K)) (S:cJ N [x] (aF st)) (hm:∀K,yQ (b K) ⟨N,(aF st).names,true⟩ (aK st)=true)
  (hb:∀(kV doc pm:Value) (an:Option Addr) (cdv ct:Value) (u:Value),bindArgs (PySem.W.fnOf "law" "law" (bF st) (aK st) (aF st) .none kV doc pm an cdv ct) ⟨[u],[]⟩=pure [(x,u)])
  (len:∀K vs H Q E,sp K vs H Q E->vs.length=1) (t:∀K,KF K->∀vs H Q E,sp K vs H Q E->eI (b K) (λ_=>E) {nx:=λ_ H'=>Q .non H',rt:=Q} (start N vs) H)
  (F:∀(w:World) (h:Heap),(K w.params).In h->FD (K w.params) "law" st/\Gx (K w.params) kB)
  (hq:∀(w:World) (mg:Str->Option Value) (h base:Heap),KF (K w.params)->(K w.params).In h->h.Ns mainGlobals mg->(∀x∈kB,mg x=none)->∀A,bM k A->BW (b (K w.params)) ⟨l.prog,w,K w.params,mg,base,A⟩)
  (hsp:∀(K:Fg) (H:Hp) (a:Addr) (ns:List Int),KF K->ns.length<=63->aH K H a (ns.map V.int)->sp K [.ref a] H (λv _=>v=.bl true) λ_ _ _=>False):
  PySem.W.WalkO q loose XP YP l.row.toRowW d [] (λf vs=>PySem.call f vs):=by
 refine L2.SW (n:=63) (k:=k+1) (x:=x) (CX:=λw=>lH l.prog w) (sp:=λw=>sp (K w.params)) hn (by decide) hdf hr hY (λw mg fa h KX G hmg=>?_) (λw H a ns hl _ hS=>hsp _ H a ns (hK w) hl hS) λ_ _ _ _ _ z=>lH.no z;obtain ⟨⟨f,fd,Fn,a⟩,bl⟩:=F w h KX;rw[hd] at hmg;have e:=hmg.symm.trans (mg_of KX G a);cases e;refine ⟨fd,λs u=>?_,λbase _ _=>?_⟩
 ·obtain ⟨oc,od,kV,doc,pm,an,cdv,ct,osl,rfl,lk,hcd⟩:=Fn.ex;exact .of_eq (hb kV doc pm an cdv ct u)
 ·exact xY Fn (b (K w.params)) S (hm _) (all_none KX G bl) (hq w mg h base (hK w) KX G (all_none KX G bl)) (λvs H Q E z=>len _ vs H Q E z) (t _ (hK w))
section
variable {prog:Program} {w:World} {A:Around} {E:Value->Shared->Prop} {h:Heap} {g:Array GenState} {d:Drawn} {t:Nat} {os:OsState}
variable {nm q:Str} {C N:Addr} {bs bm bmB:List Value} {hdct:Bool} {sn:List Str} {sub:List Value} {ab:Bool} {col:Option Bool} {dd:Option Addr} {k0 k1 k2 k3 k5:Option Value} {B newId initId:String}
theorem oX (F:ExcBaseFacts B newId initId bmB) (T:OwnTail h bmB bm) {mN:Str->Option Value} {rest:List Value} {fI:Addr} {oI:Obj} {Q:Fin->Shared->Prop}
  (hC:h.get? C=some (excClassObj nm q C N bs bm hdct sn sub ab col dd k0 k1 k2 k3 k5 newId)) (hn:h.Ns N mN) (hi:mN "__init__"=some (.ref fI)) (hfI:h.get? fI=some oI) (hfc:oI.cls=.type "function")
  (hq:∀h' e,MadeExcOf h h' e (.ref C) rest->wpAny (model prog w) A (PySem.call (.ref fI) (.ref e::rest)) (λr s'=>r=.none/\Q (.done (.ret (.ref e))) s') E ⟨h',g,d,t,os⟩) (hrest:rest.length<=sizeLine):
  wpAny (model prog w) A (Builtin.«type.__call__» ⟨.ref C::rest,[]⟩) Q E ⟨h,g,d,t,os⟩:=by
 repeat (first|with_reducible refine wpAny_loadPart_at hC ?_|with_reducible refine wpAny_madeBy_exc hC ?_|wp_step)
 refine codeAny_call_builtin_code (Code.quiet_builtin _ F.quiet) (wpAny_check_new_subT F T hC ?_);refine codeAny_exc_new_subT F T hC ?_ hrest;show wpAny _ _ _ _ _ _;have kp:∀b o,h.get? b=some o->((h.push {cls:=.type "tuple",data:=.seq rest.toArray}).push {cls:=.ref C,data:=.fields #[.ref h.objs.size,.none,.none,.none,.bool false,.none]}).get? b=some o:=λb o e=>get?_push_of_some _ (get?_push_of_some _ e);have hget:((h.push {cls:=.type "tuple",data:=.seq rest.toArray}).push {cls:=.ref C,data:=.fields #[.ref h.objs.size,.none,.none,.none,.bool false,.none]}).get? (h.objs.size+1)=some ({cls:=.ref C,data:=.fields #[.ref h.objs.size,.none,.none,.none,.bool false,.none]}:Obj):=by heap_get
 have hcC:(Value.ref C::bm).contains (.ref C)=true:=by simp
 have ai:=kp _ _ hC;unfold isInstance
 repeat (first|with_reducible refine wpAny_loadPart_at hget ?_|(with_reducible refine wpAny_isSubtype_exc ai ?_;rw[hcC])|wp_step)
 show wpAny _ _ (typeLookup (.ref C) _) _ _ _;refine wpAny_typeLookup_tail ai (hn.keeps kp) (T.keeps kp) F.mroIs F.init.lookup ?_;rw[hi];refine wpAny_holding (wpAny_bind ?_);unfold bindSpecial;refine wpAny_bind (wpAny_typeOf (T:="function") ⟨_,kp _ _ hfI,hfc⟩ ?_);rw[if_pos (by decide)];refine wpAny_pure (wpAny_bind (wpAny_mono (hq _ (h.objs.size+1) ⟨kp,get?_none_of_le (le_succ _),h.objs.size,hget,get?_none_of_le (Nat.le_refl _),?_⟩) (λr s' hr=>?_) λ_ _ x=>x))
 ·exact get?_push_of_some _ (Heap.get?_push_at rfl rfl)
 ·obtain ⟨rfl,hQ⟩:=hr
  wp_walk
  exact hQ
theorem EA (F:ExcBaseFacts B newId initId bmB) (T:OwnTail h bmB bm) {mN:Str->Option Value} {rest:List Value} {fI:Addr} {oI:Obj} {Q:Value->Shared->Prop}
  (hC:h.get? C=some (excClassObj nm q C N bs bm hdct sn sub ab col dd k0 k1 k2 k3 k5 newId)) (hn:h.Ns N mN) (hi:mN "__init__"=some (.ref fI)) (hfI:h.get? fI=some oI) (hfc:oI.cls=.type "function")
  (hq:∀h' e,MadeExcOf h h' e (.ref C) rest->
   wpAny (model prog w) (A.under (.builtin "type.__call__" ⟨.ref C::rest,[]⟩)) (PySem.call (.ref fI) (.ref e::rest)) (λr s'=>r=.none/\Q (.ref e) s') E ⟨h',g,d,t,os⟩) (hrest:rest.length<=sizeLine):
  wpAny (model prog w) A (PySem.call (.ref C) rest) Q E ⟨h,g,d,t,os⟩:=by
 have f1:=tc_lookup;have f2:=tc_bind (.ref C);have hT:(⟨h,g,d,t,os⟩:Shared).TypeIs (.ref C) "type":=⟨_,hC,rfl⟩;refine wpAny_call (codeAny_of_tree ?_);show wpAny _ _ (callAny (.ref C) _) _ _ _
 repeat (any_goals (first|assumption|with_reducible refine wpAny_loadPart_at hC ?_|wp_step))
 refine ⟨rfl,?_⟩;refine codeAny_call_builtin_at (Code.quiet_builtin _ (by decide+kernel)) entry_typeCall (wpAny_check_type_call_sub hC (oX (hrest:=hrest) F T hC hn hi hfI hfc λh' e hm=>?_));exact hq h' e hm
end
section
variable {prog:Program} {w:World} {A:Around} {E:Value->Shared->Prop} {s:Shared} {env:Env}
variable {nm q:Str} {C N:Addr} {bs bm bmB:List Value} {hdct:Bool} {sn:List Str} {sub:List Value} {ab:Bool} {col:Option Bool} {dd:Option Addr} {k0 k1 k2 k3 k5:Option Value} {B newId initId:String}
theorem eN {M:Model} {A:Around} {E:Value->Shared->Prop} {x:Sem Value} {Q:Flow->Shared->Prop} (hbase:bm.contains (.type "BaseException")=true) (hh:A.handled=none)
  (h:wpAny M A x (λv aa=>∃e oe,v=.ref e/\aa.heap.get? C=some (excClassObj nm q C N bs bm hdct sn sub ab col dd k0 k1 k2 k3 k5 newId)/\aa.heap.get? e=some oe/\oe.cls=.ref C/\(∃vs,oe.data=.fields vs/\vs[1]?=some .none)/\E (.ref e) aa) E s):
  wpAny M A (raiseStmt env (some x) none) Q E s:=by
 have hcB:(Value.ref C::bm).contains (.type "BaseException")=true:=by rw[contains_cons,hbase,Bool.or_true]
 unfold raiseStmt;refine wpAny_bind (wpAny_mono h (λv aa ae=>?_) λ_ _ x=>x);obtain ⟨e,⟨oc,od,odt,osl⟩,rfl,hC,he,hc,⟨vs,hv,v1⟩,hE⟩:=ae;dsimp only at hc hv;subst hc hv;obtain ⟨hp,g,d,tk,os⟩:=aa
 repeat (first|with_reducible refine wpAny_loadPart_at he ?_|with_reducible refine wpAny_loadPart_at hC ?_|(with_reducible refine wpAny_isSubtype_exc hC ?_;rw[hcB])|wp_step)
 rw[v1];refine wpAny_pure ?_;rw[if_neg (show ¬((Value.none != Value.none)=true) by decide)];exact wpAny_pure (wpAny_raiseNew_none hh hE)
theorem zW (F:ExcBaseFacts B newId initId bmB) {mN:Str->Option Value} {x:Str} {np cpos pos:Pos} {args:List Expr} {Q:Flow->Shared->Prop} {fI:Addr}
  (hbase:bm.contains (.type "BaseException")=true) (hh:A.handled=none) (hplain:(backTo cpos (starEach args env)).any (·.1)=false) (hi:mN "__init__"=some (.ref fI))
  (h:wpAny (model prog w) A (eval (.Name x np) env) (λf aa=>f=.ref C/\wpAny (model prog w) A (evalArgs (.ref C) true (backTo cpos (starEach args env)) [])
   (λa af=>a.kw=[]/\a.pos.length<=sizeLine/\af.heap.get? C=some (excClassObj nm q C N bs bm hdct sn sub ab col dd k0 k1 k2 k3 k5 newId)/\af.heap.Ns N mN/\OwnTail af.heap bmB bm/\(∃oI,af.heap.get? fI=some oI/\oI.cls=.type "function")/\
    ∀h' e,MadeExcOf af.heap h' e (.ref C) a.pos->wpAny (model prog w) (A.under (.builtin "type.__call__" ⟨.ref C::a.pos,[]⟩)) (PySem.call (.ref fI) (.ref e::a.pos)) (λr s'=>r=.none/\s'.heap.get? C=some (excClassObj nm q C N bs bm hdct sn sub ab col dd k0 k1 k2 k3 k5 newId)/\
     (∃oe vs,s'.heap.get? e=some oe/\oe.cls=.ref C/\oe.data=.fields vs/\vs[1]?=some .none)/\E (.ref e) s') E {af with heap:=h'}) E aa) E s):
  wpAny (model prog w) A (exec (.Raise (some (.Call (.Name x np) args [] cpos)) none pos) env) Q E s:=by
 rw[arm_exec_Raise]
 first
  |refine wpAny_bind (wpAny_standAt (eN (C:=C) (nm:=nm) (q:=q) (N:=N) (bs:=bs) (bm:=bm) (hdct:=hdct) (sn:=sn) (sub:=sub) (ab:=ab) (col:=col) (dd:=dd) (k0:=k0) (k1:=k1) (k2:=k2) (k3:=k3) (k5:=k5) (newId:=newId) hbase hh (wpAny_bind (wpAny_mono (wpAny_Call_ofName (wpAny_mono h (λf aa ae=>?_) λ_ _ x=>x)) (λv av ah=>wpAny_bind (wpAny_standAt (wpAny_pure ah))) λ_ _ x=>x))))
  | (simp only [evalOpt,Option.map];refine wpAny_bind (wpAny_standAt (eN (C:=C) (nm:=nm) (q:=q) (N:=N) (bs:=bs) (bm:=bm) (hdct:=hdct) (sn:=sn) (sub:=sub) (ab:=ab) (col:=col) (dd:=dd) (k0:=k0) (k1:=k1) (k2:=k2) (k3:=k3) (k5:=k5) (newId:=newId) hbase hh (wpAny_bind (wpAny_mono (wpAny_Call_ofName (wpAny_mono h (λf aa ae=>?_) λ_ _ x=>x)) (λv av ah=>wpAny_bind (wpAny_standAt (wpAny_pure ah))) λ_ _ x=>x)))))
  | (refine wpAny_bind (wpAny_standAt (eN (C:=C) (nm:=nm) (q:=q) (N:=N) (bs:=bs) (bm:=bm) (hdct:=hdct) (sn:=sn) (sub:=sub) (ab:=ab) (col:=col) (dd:=dd) (k0:=k0) (k1:=k1) (k2:=k2) (k3:=k3) (k5:=k5) (newId:=newId) hbase hh ?_));refine wpAny_bind (wpAny_mono (wpAny_Call_ofName (wpAny_mono h (λf aa ae=>?_) λ_ _ x=>x)) (λv av ah=>wpAny_bind (wpAny_standAt (wpAny_pure ah))) λ_ _ x=>x))
 obtain ⟨rfl,ae⟩:=ae;unfold callWith;refine wpAny_bind (wpAny_holding (wpAny_mono ae (λa af ag=>wpAny_bind (wpAny_standAt ?_)) λ_ _ x=>x));obtain ⟨apos,akw⟩:=a;obtain ⟨hkw,hlen,hC,hn,T,⟨oI,hfI,hfc⟩,ag⟩:=ag;obtain rfl:akw=[]:=hkw;obtain ⟨hp,g,d,tk,os⟩:=af;simp only [hplain];refine wpAny_bind (wpAny_keeperOf_exc hC ?_);refine wpAny_bind (EA (hrest:=hlen) F T hC hn hi hfI hfc λh' e hm=>wpAny_mono (ag h' e hm) (λr s' z=>⟨z.1,wpAny_bind (wpAny_holding (wpAny_point (wpAny_pure ?_)))⟩) λ_ _ z=>z);obtain ⟨_,z1,⟨oe,vs,z2,z3,z4,z6⟩,z5⟩:=z;exact ⟨e,oe,rfl,z1,z2,z3,⟨vs,z4,z6⟩,z5⟩
end
open Builtin Builtin.ObjectAttr
section
variable {prog:Program} {w:World} {A:Around} {E:Value->Shared->Prop} {h:Heap} {g:Array GenState} {d:Drawn} {t:Nat} {os:OsState} {K:Fg}
variable {nm q:Str} {C N e:Addr} {bs bm:List Value} {sn:List Str} {sub:List Value} {ab:Bool} {col:Option Bool} {dd:Option Addr} {k0 k1 k2 k3 k5:Option Value} {newId:String} {fld:Str} {v:Value} {oe:Obj}
theorem zU (self:Value) {tl:List Value} (T:OwnTail h hV tl):refuseLoop self "__setattr__" tl=pure ():=by
 induction T with
 |base=>exact F.store_ValueError.passes self
 |own _ _ _ _ ih=>rw[refuseLoop_ref];exact ih
theorem FP {M:Model} {c:Value} {n:Str} {r:Option Value} {Q:Option Value->Shared->Prop} (X:K.In h) (e:PySem.W.findIn K c n=some r) (hq:Q r ⟨h,g,d,t,os⟩):wpAny M A (typeLookup c n) Q E ⟨h,g,d,t,os⟩:=
 PySem.W.looks_findIn X e _ _ _ _ (λ_ _ z=>z) hq
theorem JU {M:Model} {nameV:Value} {Q:Unit->Shared->Prop} (hC:h.get? C=some (excClassObj nm q C N bs bm true sn sub ab col dd k0 k1 k2 k3 k5 newId)) (T:OwnTail h hV bm)
  (he:h.get? e=some oe) (hc:oe.cls=.ref C) (hq:Q () ⟨h,g,d,t,os⟩):wpAny M A (checkBuiltinCall "object.__setattr__" ⟨[.ref e,nameV,v],[]⟩) Q E ⟨h,g,d,t,os⟩:=by
 have SF:=F.store_ValueError;have hcB:(Value.ref C::bm).contains (.type "object")=true:=by rw[contains_cons,T.hasType SF.hasOwner,Bool.or_true]
 have ha:=SF.args (.ref e) nameV v;simp only [checkBuiltinCall,SF.kind,SF.split];refine wpAny_bind ?_;unfold isInstance
 repeat (first|(with_reducible refine wpAny_loadPart_at he ?_;rw[hc])|(with_reducible refine wpAny_isSubtype_exc hC ?_;rw[hcB])|wp_step)
 first
  |exact hq
  |cases hsig:Manifest.signature? "object.__setattr__" with
   |none=>exact wpAny_pure hq
   |some sig=>
    simp only [argsOk,hsig] at ha;have h2:Bind.checkArgs "object.__setattr__" sig ⟨[.ref e,nameV,v],[]⟩=pure ():=ha;show wpAny M A (Bind.checkArgs "object.__setattr__" sig ⟨[.ref e,nameV,v],[]⟩) Q E _;rw[h2];exact wpAny_pure hq
theorem JL {tk:Tok} {Q:PySem.Fin->Shared->Prop} (X:K.In h) (hC:h.get? C=some (excClassObj nm q C N bs bm true sn sub ab col dd k0 k1 k2 k3 k5 newId)) (T:OwnTail h hV bm)
  (hfl:PySem.W.findIn K (.ref C) fld=some none) (he:h.get? e=some oe) (hc:oe.cls=.ref C) (hdn:oe.dict=none) (hnc:∀c,oe.data≠.cls c)
  (hq:∀h' tk' dx,(∀b o,b≠e->h.get? b=some o->h'.get? b=some o)->h.get? dx=none->dx≠e->h'.get? e=some {cls:=oe.cls,dict:=some dx,data:=oe.data,slots:=oe.slots}->
   h'.Ns1 dx (λy=>if y=fld then some v else none)->Q (.done (.ret .none)) ⟨h',g,d,tk',os⟩):
  wpAny (model prog w) A (Builtin.«object.__setattr__» ⟨[.ref e,.str fld tk,v],[]⟩) Q E ⟨h,g,d,t,os⟩:=by
 have hpass:=zU (.ref e) T;unfold Builtin.«object.__setattr__»
 repeat (first|rw[refuse_eq]|(rw[refuseLoop_ref,hpass])|(with_reducible refine wpAny_loadPart_at he ?_;rw[hc])|with_reducible refine wpAny_mroOf_exc hC ?_|(with_reducible refine FP X hfl ?_)|wp_step)
 rw[hdn,if_neg (by simp [typeHasDict])];split
 ·rename_i hcd;cases hcd
 split
 ·rename_i c hcd;exact absurd hcd (hnc c)
 ·have aw:(h.push {cls:=.type "dict",data:=.dict #[]}).get? e=some oe:=get?_push_of_some _ he;have hxs:e≠h.objs.size:=ne_of_lt (lt_size he);refine wpAny_bind (wpAny_alloc' ?_);refine wpAny_bind (wpAny_update' aw ?_);refine wpAny_pure ?_;have hgd:((h.push {cls:=.type "dict",data:=.dict #[]}).update e λo=>{cls:=o.cls,dict:=some h.objs.size,data:=o.data,slots:=o.slots}).get? h.objs.size
    =some ({cls:=.type "dict",data:=.dict #[]}:Obj):=(Heap.get?_update_ne _ _ _ _ hxs.symm).trans (Heap.get?_push_at rfl rfl)
  have hnd:((h.push {cls:=.type "dict",data:=.dict #[]}).update e λo=>{cls:=o.cls,dict:=some h.objs.size,data:=o.data,slots:=o.slots}).Ns h.objs.size (λ_=>none):=
   ⟨_,#[],_,hgd,rfl,λe he=>absurd he (by simp),λ_=>rfl⟩
  show wpAny _ _ (storeInDict h.objs.size (.str fld tk) fld v) _ _ _;unfold storeInDict newKeyGuard;refine wpAny_bind (wpAny_pure (wpAny_bind (wpAny_nsSet1 (Heap.Ns1.of_empty hnd) λh' hn' hs=>?_)));obtain ⟨oD,esD,epD,hoD,hdD,hcD⟩:=hn'.count (Within.cons fld v Within.nil);refine wpAny_bind (wpAny_lookBehind hoD (by rw[hdD];exact pastItsLine_dict (Nat.le_trans hcD (by rw[length_cons,length_nil,sizeLine_eq];lia))) ?_)
  wp_walk
  refine hq h' _ h.objs.size (λb ob hbx hb=>?_) (get?_none_of_le (Nat.le_refl _)) hxs.symm ?_ hn'
  ·exact (hs.2 b (ne_of_lt (lt_size hb))).trans ((Heap.get?_update_ne _ _ _ _ hbx).trans (get?_push_of_some _ hb))
  ·refine (hs.2 e hxs).trans (get?_update_self _ aw ?_);have hfr:=(Heap.get?_some_iff.mp he).2;obtain ⟨oc,od,odt,osl⟩:=oe;cases odt<;>first|rfl|exact hfr
theorem uL {Q:Unit->Shared->Prop} (X:K.In h) (hC:h.get? C=some (excClassObj nm q C N bs bm true sn sub ab col dd k0 k1 k2 k3 k5 newId)) (T:OwnTail h hV bm)
  (hsa:PySem.W.findIn K (.ref C) "__setattr__"=some (some (.builtin "object.__setattr__"))) (hfl:PySem.W.findIn K (.ref C) fld=some none)
  (he:h.get? e=some oe) (hc:oe.cls=.ref C) (hdn:oe.dict=none) (hnc:∀c,oe.data≠.cls c)
  (hq:∀h' tk' dx,(∀b o,b≠e->h.get? b=some o->h'.get? b=some o)->h.get? dx=none->dx≠e->h'.get? e=some {cls:=oe.cls,dict:=some dx,data:=oe.data,slots:=oe.slots}->
   h'.Ns1 dx (λy=>if y=fld then some v else none)->Q () ⟨h',g,d,tk',os⟩):
  wpAny (model prog w) A (setAttr (.ref e) fld v) Q E ⟨h,g,d,t,os⟩:=by
 have SF:=F.store_ValueError;have f3:=SF.slot.bind (.ref e);unfold setAttr callSpecial? specialOf
 repeat (any_goals (first|assumption|(with_reducible refine wpAny_loadPart_at he ?_;rw[hc])|(with_reducible refine FP X hsa ?_)|wp_step))
 refine codeAny_call_builtin SF.slot.plain SF.entry (JU hC T he hc (JL X hC T hfl he hc hdn hnc λh' tk' dx q1 q2 q3 q4 q5=>?_))
 repeat (any_goals (first|assumption|wp_step))
 exact hq h' tk' dx q1 q2 q3 q4 q5
end
def SM (K:Fg) (f:Addr) (slf prm fld:Str):Prop:=
 ∃(name qual:Str) (params:Arguments) (scope:Scope) (dV kV doc pm cdv ct:Value) (an od:Option Addr) (osl:Array (Option Value)) (p1 p2 p3 p4:Pos),
  K.lookup f=some ⟨.type "function",od,.func (PySem.W.fnOf name qual params [.Assign [.Attribute (.Name slf p1) fld p2] (.Name prm p3) p4] scope dV kV doc pm an cdv ct),osl⟩/\PySem.W.codeIn K cdv qual=true/\
  (scope.kind=.function/\scope.isCoroutine=false/\scope.isGenerator=false)/\(scope.names.lookup slf=some .local/\scope.names.lookup prm=some .local)/\((slf==("__debug__":Str))=false/\(prm==("__debug__":Str))=false/\slf≠prm)/\
  ∀(s:Shared) (u v:Value),K.In s.heap->PySem.BindsTo s (PySem.W.fnOf name qual params [.Assign [.Attribute (.Name slf p1) fld p2] (.Name prm p3) p4] scope dV kV doc pm an cdv ct) ⟨[u,v],[]⟩ [(slf,u),(prm,v)]
section
variable {prog:Program} {w:World} {A:Around} {E:Value->Shared->Prop} {s:Shared} {K:Fg}
variable {nm q:Str} {C N e f:Addr} {bs bm:List Value} {sn:List Str} {sub:List Value} {ab:Bool} {col:Option Bool} {dd:Option Addr} {k0 k1 k2 k3 k5:Option Value} {newId:String} {slf prm fld:Str} {v:Value} {oe:Obj}
theorem OP {Q:Value->Shared->Prop} (X:K.In s.heap) (I:SM K f slf prm fld) (hlim:s.heap.NoLimit) (hroom:A.depth<recursionLimit)
  (hC:s.heap.get? C=some (excClassObj nm q C N bs bm true sn sub ab col dd k0 k1 k2 k3 k5 newId)) (T:OwnTail s.heap hV bm)
  (hsa:PySem.W.findIn K (.ref C) "__setattr__"=some (some (.builtin "object.__setattr__"))) (hfl:PySem.W.findIn K (.ref C) fld=some none)
  (he:s.heap.get? e=some oe) (hc:oe.cls=.ref C) (hdn:oe.dict=none) (hnc:∀c,oe.data≠.cls c)
  (hq:∀h' tk' dx,(∀b o,b≠e->s.heap.get? b=some o->h'.get? b=some o)->s.heap.get? dx=none->dx≠e->h'.get? e=some {cls:=oe.cls,dict:=some dx,data:=oe.data,slots:=oe.slots}->
   h'.Ns1 dx (λy=>if y=fld then some v else none)->Q .none {s with heap:=h',toks:=tk'}):
  wpAny (model prog w) A (PySem.call (.ref f) [.ref e,v]) Q E s:=by
 obtain ⟨name,qual,params,scope,dV,kV,doc,pm,cdv,ct,an,od,osl,p1,p2,p3,p4,ho,hcd,⟨hk,hco,hgen⟩,⟨l1,l2⟩,⟨d1,d2,ne⟩,hb⟩:=I;refine wpAny_call (Att.GO X hlim ho hcd hroom (hb s (.ref e) v X) ?_ (λaa x=>?_) hco hgen hk)
 ·simp [l1,l2]
 have k1:(envOfC qual scope s.heap.objs.size f cdv).kindOf slf=some .local:=l1;have k2:(envOfC qual scope s.heap.objs.size f cdv).kindOf prm=some .local:=l2;have m1:bindL (envOfC qual scope s.heap.objs.size f cdv).kindOf [(slf,.ref e),(prm,v)] (λ_=>none) slf=some (.ref e):=by simp [bindL,k1,k2,ne]
 have m2:bindL (envOfC qual scope s.heap.objs.size f cdv).kindOf [(slf,.ref e),(prm,v)] (λ_=>none) prm=some v:=by simp [bindL,k1,k2]
 refine wpAny_execs_cons (plainObj_wpAny_Assign_Attribute (NameLC (s₀:=s) (env:=envOfC qual scope s.heap.objs.size f cdv) x hk k2 m2 (NameLC (s₀:=s) (env:=envOfC qual scope s.heap.objs.size f cdv) x hk k1 m1 ?_ d1) d2) rfl);obtain ⟨ae,tk,rfl,kp⟩:=x.done;have kp':∀b o,s.heap.get? b=some o->ae.get? b=some o:=kp;obtain ⟨h0,g,dr,t0,os⟩:=s;refine uL (X.keeps kp') (kp' _ _ hC) (T.keeps kp') hsa hfl (kp' _ _ he) hc hdn hnc λh' tk' dx q1 q2 q3 q4 q5=>wpAny_execs_nil ?_;exact hq h' tk' dx (λb o hb eo=>q1 b o hb (kp' b o eo)) (by
  cases z:h0.get? dx with
  |none=>rfl
  |some o=>rw[kp' _ _ z] at q2;cases q2) q3 q4 q5
end
def WW (K:Fg) (C f:Addr):Bool:=match K.lookup C with
 |some ⟨.type "type",_,.cls cd,sl⟩=>(match cd.mro,sl.toList with
  | .ref C'::bm,[_,_,_,_,some (.builtin n),_]=>C'==C&&n=="ValueError.__new__"&&!cd.hasDel&&PySem.W.tailIn K hV bm&&PySem.W.nsOkIn K cd.ns&&(nsIn K cd.ns "__init__"==some (some (.ref f))&&cd.hasDict)
  |_,_=>false)
 |_=>false
def hZ (K:Fg) (x:Str):Addr:=match PySem.W.findIn K (.ref (clsAt K x)) "__init__" with
 |some (some (.ref f))=>f
 |_=>0
structure Gq (K:Fg) (x slf prm fld:Str):Prop where
 at_:nsIn K mainGlobals x=some (some (.ref (clsAt K x)))
 exc:WW K (clsAt K x) (hZ K x)=true
 sa:PySem.W.findIn K (.ref (clsAt K x)) "__setattr__"=some (some (.builtin "object.__setattr__"))
 fl:PySem.W.findIn K (.ref (clsAt K x)) fld=some none
 fn:SM K (hZ K x) slf prm fld
theorem DE {h:Heap} {N:Addr} {mg:Str->Option Value} {n:Str} {v:Value} (X:K.In h) (G:h.Ns N mg) (e:nsIn K N n=some (some v)):mg n=some v:=by
 obtain ⟨o,es,ep,ho,hd,_,hf⟩:=G;unfold nsIn at e;split at e
 ·rename_i c d es' n' sl q;have z:=X _ _ q;rw[ho] at z;cases z;cases hd;split at e
  ·rename_i en he;cases e;rw[<-hf];unfold nsFind findBy;rw[<-Array.find?_toList,he];rfl
  ·split at e<;>cases e
 ·cases e
theorem xP {C f:Addr} {h:Heap} (q:WW K C f=true) (X:K.In h):∃bm N nm q bs sn sub ab col dd k0 k1 k2 k3 k5 mN,h.get? C=some (excClassObj nm q C N bs bm true sn sub ab col dd k0 k1 k2 k3 k5 "ValueError.__new__")/\h.Ns N mN/\mN "__init__"=some (.ref f)/\OwnTail h hV bm:=by
 unfold WW at q;split at q
 ·rename_i dd cd sl ho;split at q
  ·rename_i C' bm k0 k1 k2 k3 n k5 hm hs;simp only [and_eq_true,beq_iff_eq,Bool.not_eq_true'] at q;obtain ⟨⟨⟨⟨⟨rfl,rfl⟩,hdel⟩,ht⟩,hok⟩,hni,hhd⟩:=q;obtain ⟨nm,bs,mro,ns,qn,hd,sn,sub,ab,col,del⟩:=cd;obtain ⟨l⟩:=sl;dsimp only at hm hs hdel hok hni hhd;subst hm hdel hs hhd;exact ⟨bm,ns,nm,qn,bs,sn,sub,ab,col,dd,k0,k1,k2,k3,k5,_,X _ _ ho,.of_isNs (isNs_of_in X hok),DE X (.of_isNs (isNs_of_in X hok)) hni,PySem.W.tail_of_in X ht⟩
  ·cases q
 ·cases q
theorem Un.laid' {fs ex:List Addr} {H:Hp} {h h':Heap} {a:Addr} {o:HO} (k:∀b u,h.get? b=some u->h'.get? b=some u) (hp:h.get? a=none) (hn:H a=none):Un fs ex H (upd H a o) h h' where
 keep:=λb u q _ _ _=>k b u q
 slot:=λb u q _ _ _=>⟨u.slots,k b u q⟩
 free:=λb u q n _=>by rw[aE (λz=>by rw[z,hp] at q;cases q)];exact n
 there:=λb u q _=>⟨u,k b u q⟩
 tups:=λb xs q=>by rw[aE (aD q hn)];exact q
 frzs:=λb u xs q=>by rw[aE (aD q hn)];exact q
 tbls:=λb ps q=>⟨#[],by rw[aE (aD q hn),q];simp⟩
theorem dN.none_of {P:Program} {w:World} {H:Hp} {h:Heap} {a:Addr} (x:dN P w H h) (e:h.get? a=none):H a=none:=by
 cases q:H a with
 |none=>rfl
 |some o=>
  obtain ⟨u,hu⟩:=iH (x a o q);rw[e] at hu;cases hu
theorem dN.laid' {P:Program} {w:World} {H:Hp} {h h':Heap} {a:Addr} {o:HO} (x:dN P w H h) (k:∀b u,h.get? b=some u->h'.get? b=some u) (hn:H a=none) (new:aX P w (upd H a o) h' a o):dN P w (upd H a o) h':=λb u e=>by
 by_cases hb:b=a
 ·subst hb;rw[aA] at e;cases e;exact new
 ·rw[aE hb] at e;exact (x b u e).stay (λc v _ q=>k c v q) (λc q=>by rw[aE (aD q hn)];exact q) λc xs q=>by rw[aE (aD q hn)];exact q
def one (P:V->Hp->Prop):List V->Hp->Prop
 |[v],H=>P v H
 |_,_=>False
theorem NK {P:V->Hp->Prop} {vs:List V} {H:Hp} (h:one P vs H):∃v,vs=[v]/\P v H:=by
 cases vs with
 |nil=>exact h.elim
 |cons x xs=>
  cases xs with
  |nil=>exact ⟨x,rfl,h⟩
  |cons _ _=>exact h.elim
def MO (x slf prm fld:Str) (a:EX K):SX K where
 t:=λE _ σ H=>a.t E σ H λv H1=>∀dx,H1 dx=none->E σ (.ref (clsAt K x)) (some dx) (upd H1 dx (.xd [(fld,v)]))
 m:=λC s=>match s with
  | .Raise (some (.Call (.Name y _) es [] _)) none _=>(C.cm&&mY C x y)&&iD [a] C es
  |_=>false
 q:=λR=>(R.mg x=some (.ref (clsAt K x))/\Gq K x slf prm fld/\∃k,bM k R.A)/\a.q R
 ok:=λX C E s hK G hE hq hm=>by
  subst hK;split at hm
  ·rename_i y py es p pos;simp only [and_eq_true] at hm;obtain ⟨⟨hcm,h1⟩,h2⟩:=hm;have e:=bB h1;subst e;obtain ⟨g,d⟩:=bA G h1;obtain ⟨⟨hg,ek,kk,rm⟩,hqa⟩:=hq;cases es with
   |nil=>cases h2
   |cons e es=>
    intro pins s σ H D I h;have st:=aO (env:=X.env) (es:=es) (a.sok C e (aG h2).1);have pl:=aV (env:=X.env) (pos:=p) [] es (aG h2).2;obtain ⟨bm,N,nm,q,bs,sn,sub,ab,col,dd,k0,k1,k2,k3,k5,mN,hC,hN,hi,T⟩:=xP ek.exc I.ok.mod.kin;refine zW (C:=clsAt X.K y) (nm:=nm) (q:=q) (N:=N) (bs:=bs) (bm:=bm) (hdct:=true) (sn:=sn) (sub:=sub) (ab:=ab) (col:=col) (dd:=dd) (k0:=k0) (k1:=k1) (k2:=k2) (k3:=k3) (k5:=k5)
     PySem.F.excBase_ValueError (mN:=mN) (T.hasType PySem.F.excBase_ValueError.hasBase) (I.ok.hd (G.calm hcm)) (by rw[st];exact pl) hi (dQ I g hg ⟨rfl,?_⟩ d)
    have ev:=cR G hE [a] (e::es) (show pU [a] (dJ X) from ⟨hqa,trivial⟩) h2 p pins s σ H (one λv H1=>∀dx,H1 dx=none->E σ (.ref (clsAt X.K y)) (some dx) (upd H1 dx (.xd [(fld,v)]))) I h;rw[st] at ev ⊢;refine Calls.evalArgs_plain (wpAny_mono ev (λus s1 z=>?_) λ_ _ z=>z);obtain ⟨vs,H1,I1,r1,w1⟩:=z;obtain ⟨v,rfl,w1⟩:=NK w1;obtain ⟨u,rfl,r2⟩:=r1.one;obtain ⟨name,qual,params,scope,dV,kV,doc,pm,cdv,ct,an,od,osl,p1,p2,p3,p4,ho,_⟩:=ek.fn;refine ⟨rfl,by simp [sizeLine_eq],I1.bk _ _ hC,hN.keeps I1.bk,T.keeps I1.bk,⟨_,I1.kIn _ _ ho,rfl⟩,λh' e' mk=>?_⟩;obtain ⟨t,eo,_,_⟩:=mk.there;have kp:∀b o,s1.heap.get? b=some o->h'.get? b=some o:=mk.keeps;refine OP (s:={s1 with heap:=h'}) (I1.kIn.keeps kp) ek.fn (I1.nolimit.keeps kp) ?_ (kp _ _ (I1.bk _ _ hC)) ((T.keeps I1.bk).keeps kp) ek.sa ek.fl eo rfl rfl (λc z=>by cases z) λh2 tk dx q1 q2 q3 q4 q5=>?_
    ·rw[kU];have z:X.A.depth+3 * kk+5<recursionLimit:=rm.dp;lia
    have q1':∀b o,s1.heap.get? b=some o->h2.get? b=some o:=λb o z=>q1 b o (λy=>by rw[y,mk.new] at z;cases z) (kp b o z);have n1:s1.heap.get? dx=none:=by
     cases z:s1.heap.get? dx with
     |none=>rfl
     |some o=>rw[kp _ _ z] at q2;cases q2
    have n2:=dN.none_of I1.hok n1;refine ⟨rfl,q1' _ _ (I1.bk _ _ hC),⟨_,_,q4,rfl,rfl,rfl⟩,?_⟩;refine hE.made pins σ H1 _ s1 {s1 with heap:=h2,toks:=tk} e' _ _ I1 rfl I1.bare (Un.laid' q1' n1 n2) (dN.laid' I1.hok q1' n2 ?_) mk.new ?_ q4 rfl rfl (w1 dx n2)
    ·refine ⟨_,q5,λf=>?_⟩;by_cases hf:f=fld
     ·subst hf;simp [eX];exact r2
     ·have hb:(f==fld)=false:=beq_eq_false_iff_ne.mpr hf;simp [hb,hf,eX,List.lookup]
    ·rw[aE q3.symm];exact dN.none_of I1.hok mk.new
  ·cases hm
structure XF (K:Fg) (D:Addr):Prop where
 ga:PySem.W.findIn K (.ref D) "__getattribute__"=some (some (.builtin "BaseException.__getattribute__"))
 no:PySem.W.findIn K (.ref D) "__getattr__"=some none
 mb:PySem.W.mroIn K D (.type "BaseException")=some true
 hd:PySem.W.hasDictIn K D=true
 cl:∀od,PySem.W.findObj K D od "__class__"=some (.bind (.builtin "getset_descriptor.__get__") (.builtin "object.__class__"))
 mo:PySem.W.mroIn K D (.type "object")=some true
def GU (H:Hp) (x:V) (D:Addr) (fs:List (Str × V)):Prop:=
 ∃e,x=.ref e/\((H e=some (.ext (GW e (.ref D) none))/\fs=[])\/∃d,H e=some (.ext (GW e (.ref D) (some d)))/\H d=some (.xd fs))
section
variable {K:Fg} {X:Cx} {pins:List (Addr × Obj)} {σ:St} {H:Hp} {s:Shared}
theorem LA {x:V} {D:Addr} {fs:List (Str × V)} (I:Inv X pins σ H s) (h:GU H x D fs):∃(e:Addr) (ox:Obj) (od:Option Obj),x=.ref e/\PySem.W.InstAt s.heap e ox D od/\(fs=[]\/∃(o:Obj) (mA:Str->Option Value),od=some o/\(∀name,lookIn name o=some (mA name))/\∀f,eX (fs.lookup f) (mA f)):=by
 obtain ⟨e,rfl,h⟩:=h;rcases h with ⟨h,rfl⟩|⟨d,h,hd⟩
 ·obtain ⟨⟨oe,vs,eo,hc,hx,dt⟩,_⟩:=I.hok e _ h;refine ⟨e,oe,none,rfl,⟨eo,hc,?_,?_⟩,.inl rfl⟩
  ·unfold notCls;rw[dt]
  ·rw[hx];trivial
 ·obtain ⟨⟨oe,vs,eo,hc,hx,dt⟩,_⟩:=I.hok e _ h;obtain ⟨mA,n,r⟩:=I.hok d _ hd;obtain ⟨od,ho,hl⟩:=uY n;refine ⟨e,oe,some od,rfl,⟨eo,hc,?_,?_⟩,.inr ⟨od,mA,rfl,hl,r⟩⟩
  ·unfold notCls;rw[dt]
  ·rw[hx];exact ho
def Qw:V->Option Value
 | .ty n=>some (.type n)
 | .ref C=>some (.ref C)
 |_=>none
theorem XE {c:V} {cv u:Value} (h:Qw c=some cv) (r:RelV c u):u=cv:=by
 cases c with
 |ty n=>cases h;exact r
 |ref C=>cases h;exact r
 |_=>cases h
def MU (K:Fg):List V->Hp->VK->Prop
 |[x,c],H,Q=>∃cv t b,Qw c=some cv/\(cE K H x t\/∃D fs,t=.ref D/\GU H x D fs/\XF K D)/\kitOne K t cv=some b/\Q (.bl b) H
 |_,_,_=>False
theorem Ea (X:Cx):bN X (.builtin "isinstance") (MU X.K):=by
 intro pins s σ H xs us Q I r h;unfold MU at h;split at h
 ·rename_i x c;obtain ⟨cv,t,b,hc,ty,k,q⟩:=h;obtain ⟨u,v,rfl,r1,r2⟩:=r.two;obtain rfl:=XE hc r2;rcases ty with ty|⟨D,fs,rfl,xa,F⟩
  ·exact vC I r1 ty k λtk=>⟨.bl b,H,I.tok tk,rfl,q⟩
  ·obtain ⟨e,ox,od,rfl,J,_⟩:=LA I xa;obtain rfl:u=Value.ref e:=r1;exact kia_one (OL F.ga F.no F.mb F.hd (F.cl od) F.mo) I.kIn J k (λz=>nomatch z) λtk=>⟨.bl b,H,I.tok tk,rfl,q⟩
 ·exact h.elim
def Pc (K:Fg) (ta:TE) (f:Str):TE:=λσ H Q=>ta σ H λx H1=>∃D fs v,GU H1 x D fs/\XF K D/\PySem.W.findIn K (.ref D) f=some none/\fs.lookup f=some v/\Q v H1
theorem YL {ta:TE} {e:Expr} {f:Str} {pos:Pos} (he:PE X e ta) (hb:attributeBase e f X.env (eval e X.env)=eval e X.env):PE X (.Attribute e f pos) (Pc X.K ta f):=by
 intro pins s σ H Q I h;refine GR hb (bH (he pins s σ H _ I h) λu s1 ⟨x,H1,I1,rx,D,fs,v,xa,F,n,l,q⟩=>?_);obtain ⟨a,ox,od,rfl,J,z⟩:=LA I1 xa;obtain rfl:u=Value.ref a:=rx;rcases z with rfl|⟨o,mA,rfl,hl,r⟩
 ·cases l
 ·have rf:=r f;rw[l] at rf;cases hm:mA f with
  |none=>rw[hm] at rf;exact rf.elim
  |some u'=>
   rw[hm] at rf;have rv:RelV v u':=rf;refine Oz I1.kIn J F.ga F.no F.mb (PySem.W.findObj_own F.hd n rfl (by rw[hl,hm])) (vG rv) ?_;exact ⟨v,H1,I1.tok _,rv,q⟩
def Pa (a:EX K) (f:Str) (ha:a.s≠.zc:=by intro z;cases z):EX K:=iB (λE=>Pc K (a.t E) f)
 (λC e=>match e with
  | .Attribute o g _=>g==f&&a.m C o
  |_=>false) a.q .pl
 (λX C E e hK G hE hq hm=>by
  subst hK
  cases e with
  |Attribute o g p=>
   simp only [and_eq_true] at hm
   obtain ⟨h1,h2⟩:=hm
   obtain rfl:=eq_of_beq h1
   exact YL (a.ok X C E o rfl G hE hq h2) (lZ (a.sok C o h2) ha)
  |_=>exact ff hm)
 (λC e hm=>by cases e with|Attribute o g p=>exact ⟨rfl,rfl⟩|_=>exact ff hm)
theorem Ec {x slf prm fld name qual:Str} {C f:Addr} {params:Arguments} {scope:Scope} {dV kV doc pm cdv ct:Value} {an od:Option Addr} {osl:Array (Option Value)} {p1 p2 p3 p4:Pos}
  (h1:nsIn K mainGlobals x=some (some (.ref C))) (h2:PySem.W.findIn K (.ref C) "__init__"=some (some (.ref f)))
  (l:K.lookup f=some ⟨.type "function",od,.func (PySem.W.fnOf name qual params [.Assign [.Attribute (.Name slf p1) fld p2] (.Name prm p3) p4] scope dV kV doc pm an cdv ct),osl⟩) (c:PySem.W.codeIn K cdv qual=true)
  (s:scope.kind=.function/\scope.isCoroutine=false/\scope.isGenerator=false) (n:scope.names.lookup slf=some .local/\scope.names.lookup prm=some .local) (d:(slf==("__debug__":Str))=false/\(prm==("__debug__":Str))=false/\slf≠prm)
  (b:∀(s:Shared) (u v:Value),K.In s.heap->PySem.BindsTo s (PySem.W.fnOf name qual params [.Assign [.Attribute (.Name slf p1) fld p2] (.Name prm p3) p4] scope dV kV doc pm an cdv ct) ⟨[u,v],[]⟩ [(slf,u),(prm,v)]):SM K (hZ K x) slf prm fld:=by
 have e1:clsAt K x=C:=by unfold clsAt;rw[h1]
 have e2:hZ K x=f:=by unfold hZ;rw[e1,h2]
 rw[e2];exact ⟨name,qual,params,scope,dV,kV,doc,pm,cdv,ct,an,od,osl,p1,p2,p3,p4,l,c,s,n,d,b⟩
end
def Ac:EX K:=Nh "ValueError" "ValueError" (by kernel_rfl) (by decide+kernel) (by decide+kernel)
section
variable {E:XS} {σ:St} {H:Hp} {Q:VK} {a b:EX K} {D:Ends}
theorem Ef (h:Q (.ty "ValueError") H):(Ac:EX K).t E σ H Q:=h
theorem YX {f:Str} {ha:a.s≠.zc} (h:a.t E σ H λx H1=>∃D fs v,GU H1 x D fs/\XF K D/\PySem.W.findIn K (.ref D) f=some none/\fs.lookup f=some v/\Q v H1):(Pa a f ha).t E σ H Q:=h
theorem OW {x slf prm fld:Str} (h:a.t E σ H λv H1=>∀dx,H1 dx=none->E σ (.ref (clsAt K x)) (some dx) (upd H1 dx (.xd [(fld,v)]))):(MO x slf prm fld a).t E D σ H:=h
theorem cC {x:Str} {as:List (EX K)} (h:fF (a::as) E σ H λvs H1=>vs.length<=sizeLine/\E σ (.ref (clsAt K x)) none H1):(raiseO x a as).t E D σ H:=h
theorem jA {x:V} {c:V} {cv:Value} {C:Addr} {fs:List (Str × V)} {k:Bool} (h1:Qw c=some cv) (xa:GU H x C fs) (F:XF K C) (h2:kitOne K (.ref C) cv=some k) (q:Q (.bl k) H):MU K [x,c] H Q:=⟨cv,_,k,h1,.inr ⟨C,fs,rfl,xa,F⟩,h2,q⟩
end
section
variable {prog:Program} {w:World} {A:Around} {E:Value->Shared->Prop} {h:Heap} {g:Array GenState} {d:Drawn} {t:Nat} {os:OsState}
variable {nm q:Str} {C N:Addr} {bs bm bmB:List Value} {hdct:Bool} {sn:List Str} {sub:List Value} {ab:Bool} {col:Option Bool} {dd:Option Addr} {k0 k1 k2 k3 k5:Option Value} {B newId initId:String}
theorem DZ {M:Model} (F:ExcBaseFacts B newId initId bmB) (T:OwnTail h bmB bm) {rest:List Value} {kw:List (Str × Value)} {Q:Unit->Shared->Prop} (hC:h.get? C=some (excClassObj nm q C N bs bm hdct sn sub ab col dd k0 k1 k2 k3 k5 newId))
  (hq:Q () ⟨h,g,d,t,os⟩):wpAny M A (checkBuiltinCall newId ⟨.ref C::rest,kw⟩) Q E ⟨h,g,d,t,os⟩:=by
 have hcont:(Value.ref C::bm).contains (.type B)=true:=by rw[contains_cons,T.hasType F.hasB,Bool.or_true]
 have hstar:=F.noStar;simp only [checkBuiltinCall,F.newKind,F.newSplit,F.newRow]
 repeat (first|refine wpAny_loadPart_at hC ?_|(refine wpAny_isSubtype_exc hC ?_;rw[hcont])|refine wpAny_staticBase_exc hC ?_|refine wpAny_madeBy_exc hC ?_|simp only [bne_self_eq_false,false_eq_true,if_false]|wp_step)
 exact hq
theorem PY {R:Result->Shared->Prop} (F:ExcBaseFacts B newId initId bmB) (T:OwnTail h bmB bm) {rest:List Value} {kw:List (Str × Value)} (hC:h.get? C=some (excClassObj nm q C N bs bm hdct sn sub ab col dd k0 k1 k2 k3 k5 newId))
  (hq:R (.ok (.ret (.ref (h.objs.size+1)))) ⟨(h.push {cls:=.type "tuple",data:=.seq rest.toArray}).push
   {cls:=.ref C,data:=.fields #[.ref h.objs.size,.none,.none,.none,.bool false,.none]},g,d,t,os⟩) (hrest:rest.length<=sizeLine):
  codeAny (model prog w) A (.builtin newId ⟨.ref C::rest,kw⟩) R ⟨h,g,d,t,os⟩:=by
 have hends:=F.ends;have hcB:(Value.ref C::bm).contains (.type B)=true:=by rw[contains_cons,T.hasType F.hasB,Bool.or_true]
 have hcA:(Value.ref C::bm).contains (.type "AttributeError")=false:=by rw[contains_cons,T.hasType F.noAttr];rfl
 have hcN:(Value.ref C::bm).contains (.type "NameError")=false:=by rw[contains_cons,T.hasType F.noName];rfl
 refine codeAny_builtinAt F.entry ?_;unfold Builtin.«BaseException.__new__»;refine PySem.wpAt_bind ?_;show PySem.wpAt _ _ _ (stack >>=_) _ _ _;refine PySem.wpAt_bind (PySem.wpAt_stack λp below=>PySem.wpAt_of_wpAny ?_)
 wp_walk
 refine PySem.wpAt_of_wpAny ?_;rw[F.owner]
 repeat (first|with_reducible refine wpAny_madeHere_exc F.canon hC ?_|with_reducible refine wpAny_loadPart_at hC ?_|(with_reducible refine wpAny_isSubtype_exc hC ?_;first|rw[hcB]|rw[hcA]|rw[hcN])|wp_step)
 show R _ _;rw[Heap.size_push];exact hq
theorem BL {M:Model} {rest:List Value} {kw:List (Str × Value)} {Q:Unit->Shared->Prop} (hC:h.get? C=some (excClassObj nm q C N bs bm hdct sn sub ab col dd k0 k1 k2 k3 k5 newId))
  (hq:Q () ⟨h,g,d,t,os⟩):wpAny M A (checkBuiltinCall "type.__call__" ⟨.ref C::rest,kw⟩) Q E ⟨h,g,d,t,os⟩:=by
 have f3:=tc_sub;have hT:(⟨h,g,d,t,os⟩:Shared).TypeIs (.ref C) "type":=⟨_,hC,rfl⟩;simp only [checkBuiltinCall,tc_kind,tc_split]
 repeat (any_goals (first|assumption|with_reducible refine wpAny_loadPart_at hC ?_|with_reducible refine wpAny_onRaise ?_|with_reducible refine wpAny_map ?_|wp_step))
theorem oY (F:ExcBaseFacts B newId initId bmB) (T:OwnTail h bmB bm) {mN:Str->Option Value} {rest:List Value} {kw:List (Str × Value)} {fI:Addr} {oI:Obj} {Q:PySem.Fin->Shared->Prop}
  (hC:h.get? C=some (excClassObj nm q C N bs bm hdct sn sub ab col dd k0 k1 k2 k3 k5 newId)) (hn:h.Ns N mN) (hi:mN "__init__"=some (.ref fI)) (hfI:h.get? fI=some oI) (hfc:oI.cls=.type "function")
  (hq:∀h' e,MadeExcOf h h' e (.ref C) rest->wpAny (model prog w) A (PySem.call (.ref fI) (.ref e::rest) kw) (λr s'=>r=.none/\Q (.done (.ret (.ref e))) s') E ⟨h',g,d,t,os⟩) (hrest:rest.length<=sizeLine):
  wpAny (model prog w) A (Builtin.«type.__call__» ⟨.ref C::rest,kw⟩) Q E ⟨h,g,d,t,os⟩:=by
 repeat (first|with_reducible refine wpAny_loadPart_at hC ?_|with_reducible refine wpAny_madeBy_exc hC ?_|wp_step)
 refine codeAny_call_builtin_code (Code.quiet_builtin _ F.quiet) (DZ F T hC ?_);refine PY F T hC ?_ hrest;show wpAny _ _ _ _ _ _;have kp:∀b o,h.get? b=some o->((h.push {cls:=.type "tuple",data:=.seq rest.toArray}).push {cls:=.ref C,data:=.fields #[.ref h.objs.size,.none,.none,.none,.bool false,.none]}).get? b=some o:=λb o e=>get?_push_of_some _ (get?_push_of_some _ e);have hget:((h.push {cls:=.type "tuple",data:=.seq rest.toArray}).push {cls:=.ref C,data:=.fields #[.ref h.objs.size,.none,.none,.none,.bool false,.none]}).get? (h.objs.size+1)=some ({cls:=.ref C,data:=.fields #[.ref h.objs.size,.none,.none,.none,.bool false,.none]}:Obj):=by heap_get
 have hcC:(Value.ref C::bm).contains (.ref C)=true:=by simp
 have ai:=kp _ _ hC;unfold isInstance
 repeat (first|with_reducible refine wpAny_loadPart_at hget ?_|(with_reducible refine wpAny_isSubtype_exc ai ?_;rw[hcC])|wp_step)
 show wpAny _ _ (typeLookup (.ref C) _) _ _ _;refine wpAny_typeLookup_tail ai (hn.keeps kp) (T.keeps kp) F.mroIs F.init.lookup ?_;rw[hi];refine wpAny_holding (wpAny_bind ?_);unfold bindSpecial;refine wpAny_bind (wpAny_typeOf (T:="function") ⟨_,kp _ _ hfI,hfc⟩ ?_);rw[if_pos (by decide)];refine wpAny_pure (wpAny_bind (wpAny_mono (hq _ (h.objs.size+1) ⟨kp,get?_none_of_le (le_succ _),h.objs.size,hget,get?_none_of_le (Nat.le_refl _),?_⟩) (λr s' hr=>?_) λ_ _ x=>x))
 ·exact get?_push_of_some _ (Heap.get?_push_at rfl rfl)
 ·obtain ⟨rfl,hQ⟩:=hr
  wp_walk
  exact hQ
theorem EB (F:ExcBaseFacts B newId initId bmB) (T:OwnTail h bmB bm) {mN:Str->Option Value} {rest:List Value} {kw:List (Str × Value)} {fI:Addr} {oI:Obj} {Q:Value->Shared->Prop}
  (hC:h.get? C=some (excClassObj nm q C N bs bm hdct sn sub ab col dd k0 k1 k2 k3 k5 newId)) (hn:h.Ns N mN) (hi:mN "__init__"=some (.ref fI)) (hfI:h.get? fI=some oI) (hfc:oI.cls=.type "function")
  (hq:∀h' e,MadeExcOf h h' e (.ref C) rest->
   wpAny (model prog w) (A.under (.builtin "type.__call__" ⟨.ref C::rest,kw⟩)) (PySem.call (.ref fI) (.ref e::rest) kw) (λr s'=>r=.none/\Q (.ref e) s') E ⟨h',g,d,t,os⟩) (hrest:rest.length<=sizeLine):
  wpAny (model prog w) A (PySem.call (.ref C) rest kw) Q E ⟨h,g,d,t,os⟩:=by
 have f1:=tc_lookup;have f2:=tc_bind (.ref C);have hT:(⟨h,g,d,t,os⟩:Shared).TypeIs (.ref C) "type":=⟨_,hC,rfl⟩;refine wpAny_call (codeAny_of_tree ?_);show wpAny _ _ (callAny (.ref C) _) _ _ _
 repeat (any_goals (first|assumption|with_reducible refine wpAny_loadPart_at hC ?_|wp_step))
 refine ⟨rfl,?_⟩;refine codeAny_call_builtin_at (Code.quiet_builtin _ (by decide+kernel)) entry_typeCall (BL hC (oY (hrest:=hrest) F T hC hn hi hfI hfc λh' e hm=>?_));exact hq h' e hm
end
def EI (K:Fg) (f:Addr) (slf prm fld:Str) (B:List Value->List (Str × Value)->Value->Prop):Prop:=
 ∃(name qual:Str) (params:Arguments) (scope:Scope) (dV kV doc pm cdv ct:Value) (an od:Option Addr) (osl:Array (Option Value)) (p1 p2 p3 p4:Pos),
  K.lookup f=some ⟨.type "function",od,.func (PySem.W.fnOf name qual params [.Assign [.Attribute (.Name slf p1) fld p2] (.Name prm p3) p4] scope dV kV doc pm an cdv ct),osl⟩/\PySem.W.codeIn K cdv qual=true/\
  (scope.kind=.function/\scope.isCoroutine=false/\scope.isGenerator=false)/\(scope.names.lookup slf=some .local/\scope.names.lookup prm=some .local)/\((slf==("__debug__":Str))=false/\(prm==("__debug__":Str))=false/\slf≠prm)/\
  ∀(s:Shared) (u:Value) (rest:List Value) (kw:List (Str × Value)) (v:Value),B rest kw v->K.In s.heap->PySem.BindsTo s (PySem.W.fnOf name qual params [.Assign [.Attribute (.Name slf p1) fld p2] (.Name prm p3) p4] scope dV kV doc pm an cdv ct) ⟨u::rest,kw⟩ [(slf,u),(prm,v)]
def way (prm:Str) (rest:List Value) (kw:List (Str × Value)) (v:Value):Prop:=(rest=[v]/\kw=[])\/(rest=[]/\kw=[(prm,v)])\/(rest=[]/\kw=[]/\v=.none)
section
variable {prog:Program} {w:World} {A:Around} {E:Value->Shared->Prop} {s:Shared} {K:Fg} {env:Env}
variable {nm q:Str} {C N e f:Addr} {bs bm bmB:List Value} {hdct:Bool} {sn:List Str} {sub:List Value} {ab:Bool} {col:Option Bool} {dd:Option Addr} {k0 k1 k2 k3 k5:Option Value} {B newId initId:String} {slf prm fld:Str} {v:Value} {oe:Obj}
theorem JD {Q:Value->Shared->Prop} {rest:List Value} {kw:List (Str × Value)} (X:K.In s.heap) (I:EI K f slf prm fld (way prm)) (hw:way prm rest kw v) (hlim:s.heap.NoLimit) (hroom:A.depth<recursionLimit)
  (hC:s.heap.get? C=some (excClassObj nm q C N bs bm true sn sub ab col dd k0 k1 k2 k3 k5 newId)) (T:OwnTail s.heap hV bm)
  (hsa:PySem.W.findIn K (.ref C) "__setattr__"=some (some (.builtin "object.__setattr__"))) (hfl:PySem.W.findIn K (.ref C) fld=some none)
  (he:s.heap.get? e=some oe) (hc:oe.cls=.ref C) (hdn:oe.dict=none) (hnc:∀c,oe.data≠.cls c)
  (hq:∀h' tk' dx,(∀b o,b≠e->s.heap.get? b=some o->h'.get? b=some o)->s.heap.get? dx=none->dx≠e->h'.get? e=some {cls:=oe.cls,dict:=some dx,data:=oe.data,slots:=oe.slots}->
   h'.Ns1 dx (λy=>if y=fld then some v else none)->Q .none {s with heap:=h',toks:=tk'}):
  wpAny (model prog w) A (PySem.call (.ref f) (.ref e::rest) kw) Q E s:=by
 obtain ⟨name,qual,params,scope,dV,kV,doc,pm,cdv,ct,an,od,osl,p1,p2,p3,p4,ho,hcd,⟨hk,hco,hgen⟩,⟨l1,l2⟩,⟨d1,d2,ne⟩,hb⟩:=I;refine wpAny_call (Att.GO X hlim ho hcd hroom (hb s (.ref e) rest kw v hw X) ?_ (λaa x=>?_) hco hgen hk)
 ·simp [l1,l2]
 have k1:(envOfC qual scope s.heap.objs.size f cdv).kindOf slf=some .local:=l1;have k2:(envOfC qual scope s.heap.objs.size f cdv).kindOf prm=some .local:=l2;have m1:bindL (envOfC qual scope s.heap.objs.size f cdv).kindOf [(slf,.ref e),(prm,v)] (λ_=>none) slf=some (.ref e):=by simp [bindL,k1,k2,ne]
 have m2:bindL (envOfC qual scope s.heap.objs.size f cdv).kindOf [(slf,.ref e),(prm,v)] (λ_=>none) prm=some v:=by simp [bindL,k1,k2]
 refine wpAny_execs_cons (plainObj_wpAny_Assign_Attribute (NameLC (s₀:=s) (env:=envOfC qual scope s.heap.objs.size f cdv) x hk k2 m2 (NameLC (s₀:=s) (env:=envOfC qual scope s.heap.objs.size f cdv) x hk k1 m1 ?_ d1) d2) rfl);obtain ⟨ae,tk,rfl,kp⟩:=x.done;have kp':∀b o,s.heap.get? b=some o->ae.get? b=some o:=kp;obtain ⟨h0,g,dr,t0,os⟩:=s;refine uL (X.keeps kp') (kp' _ _ hC) (T.keeps kp') hsa hfl (kp' _ _ he) hc hdn hnc λh' tk' dx q1 q2 q3 q4 q5=>wpAny_execs_nil ?_;exact hq h' tk' dx (λb o hb eo=>q1 b o hb (kp' b o eo)) (by
  cases z:h0.get? dx with
  |none=>rfl
  |some o=>rw[kp' _ _ z] at q2;cases q2) q3 q4 q5
theorem tB (F:ExcBaseFacts B newId initId bmB) {mN:Str->Option Value} {x:Str} {np cpos:Pos} {args:List Expr} {kws:List Keyword} {Q:Value->Shared->Prop} {fI:Addr}
  (hplain:(backTo cpos (starEach args env)).any (·.1)=false) (hkw:(backToKw cpos (keywordEach kws env)).any (·.1.isNone)=false) (hi:mN "__init__"=some (.ref fI))
  (h:wpAny (model prog w) A (eval (.Name x np) env) (λf aa=>f=.ref C/\wpAny (model prog w) A (evalArgs (.ref C) true (backTo cpos (starEach args env)) (backToKw cpos (keywordEach kws env)))
   (λa af=>a.pos.length<=sizeLine/\af.heap.get? C=some (excClassObj nm q C N bs bm hdct sn sub ab col dd k0 k1 k2 k3 k5 newId)/\af.heap.Ns N mN/\OwnTail af.heap bmB bm/\(∃oI,af.heap.get? fI=some oI/\oI.cls=.type "function")/\
    ∀h' e,MadeExcOf af.heap h' e (.ref C) a.pos->wpAny (model prog w) (A.under (.builtin "type.__call__" ⟨.ref C::a.pos,a.kw⟩)) (PySem.call (.ref fI) (.ref e::a.pos) a.kw) (λr s'=>r=.none/\Q (.ref e) s') E {af with heap:=h'}) E aa) E s):
  wpAny (model prog w) A (eval (.Call (.Name x np) args kws cpos) env) Q E s:=by
 refine wpAny_Call_ofName (wpAny_mono h (λf aa ae=>?_) λ_ _ x=>x);obtain ⟨rfl,ae⟩:=ae;unfold callWith;refine wpAny_bind (wpAny_holding (wpAny_mono ae (λa af ag=>wpAny_bind (wpAny_standAt ?_)) λ_ _ x=>x));obtain ⟨apos,akw⟩:=a;obtain ⟨hlen,hC,hn,T,⟨oI,hfI,hfc⟩,ag⟩:=ag;obtain ⟨hp,g,d,tk,os⟩:=af;simp only [hplain,hkw,Bool.or_false];refine wpAny_bind (wpAny_keeperOf_exc hC ?_);exact wpAny_bind (EB (hrest:=hlen) F T hC hn hi hfI hfc λh' e hm=>wpAny_mono (ag h' e hm) (λr s' z=>⟨z.1,wpAny_bind (wpAny_holding (wpAny_point (wpAny_pure z.2)))⟩) λ_ _ z=>z)
theorem XM {x:Str} {p p2:Pos} {f:Str} {y:Sem Value} (hs:(x != "super")=true):attributeBase (.Call (.Name x p) [] [] p2) f env y=y:=by
 unfold attributeBase;dsimp only;rw[if_pos (by rw[hs];rfl)]
end
structure BS (K:Fg) (x slf prm fld:Str):Prop where
 exc:WW K (clsAt K x) (hZ K x)=true
 sa:PySem.W.findIn K (.ref (clsAt K x)) "__setattr__"=some (some (.builtin "object.__setattr__"))
 fl:PySem.W.findIn K (.ref (clsAt K x)) fld=some none
 fn:EI K (hZ K x) slf prm fld (way prm)
def Gy (K:Fg) (x fld:Str) (v:V) (H1:Hp) (Q:VK):Prop:=∀dx e,H1 dx=none->H1 e=none->e≠dx->Q (.ref e) (upd (upd H1 dx (.xd [(fld,v)])) e (.ext (GW e (.ref (clsAt K x)) (some dx))))
theorem NV {X:Cx} {pins:List (Addr × Obj)} {σ:St} {H1:Hp} {s1:Shared} {Q:VK} {x slf prm fld:Str} {v:V} {u:Value} {rest:List Value} {kw:List (Str × Value)} {E:Value->Shared->Prop} {k:Nat} {bm:List Value} {N:Addr} {nm q:Str} {bs:List Value} {sn:List Str} {sub:List Value} {ab:Bool} {col:Option Bool} {dd:Option Addr} {k0 k1 k2 k3 k5:Option Value} {mN:Str->Option Value}
  (ek:BS X.K x slf prm fld) (rm:bM k X.A) (I1:Inv X pins σ H1 s1) (r:RelV v u) (hw:way prm rest kw u) (w1:Gy X.K x fld v H1 Q)
  (hC:X.base.get? (clsAt X.K x)=some (excClassObj nm q (clsAt X.K x) N bs bm true sn sub ab col dd k0 k1 k2 k3 k5 "ValueError.__new__")) (hN:X.base.Ns N mN) (T:OwnTail X.base hV bm):
  rest.length<=sizeLine/\s1.heap.get? (clsAt X.K x)=some (excClassObj nm q (clsAt X.K x) N bs bm true sn sub ab col dd k0 k1 k2 k3 k5 "ValueError.__new__")/\s1.heap.Ns N mN/\OwnTail s1.heap hV bm/\(∃oI,s1.heap.get? (hZ X.K x)=some oI/\oI.cls=.type "function")/\
   ∀h' e,MadeExcOf s1.heap h' e (.ref (clsAt X.K x)) rest->wpAny (model X.prog X.w) (X.A.under (.builtin "type.__call__" ⟨.ref (clsAt X.K x)::rest,kw⟩)) (PySem.call (.ref (hZ X.K x)) (.ref e::rest) kw) (λr s'=>r=.none/\EP X pins σ Q (.ref e) s') E {s1 with heap:=h'}:=by
 obtain ⟨name,qual,params,scope,dV,kV,doc,pm,cdv,ct,an,od,osl,p1,p2,p3,p4,ho,_⟩:=id ek.fn;have hl:rest.length<=sizeLine:=by
  rcases hw with ⟨rfl,_⟩|⟨rfl,_⟩|⟨rfl,_⟩<;>simp [sizeLine_eq]
 refine ⟨hl,I1.bk _ _ hC,hN.keeps I1.bk,T.keeps I1.bk,⟨_,I1.kIn _ _ ho,rfl⟩,λh' e' mk=>?_⟩;obtain ⟨t,eo,_,_⟩:=mk.there;have kp:∀b o,s1.heap.get? b=some o->h'.get? b=some o:=mk.keeps;refine JD (s:={s1 with heap:=h'}) (I1.kIn.keeps kp) ek.fn hw (I1.nolimit.keeps kp) ?_ (kp _ _ (I1.bk _ _ hC)) ((T.keeps I1.bk).keeps kp) ek.sa ek.fl eo rfl rfl (λc z=>by cases z) λh2 tk dx q1 q2 q3 q4 q5=>?_
 ·rw[kU];have z:X.A.depth+3 * k+5<recursionLimit:=rm.dp;lia
 have q1':∀b o,s1.heap.get? b=some o->h2.get? b=some o:=λb o z=>q1 b o (λy=>by rw[y,mk.new] at z;cases z) (kp b o z);have n1:s1.heap.get? dx=none:=by
  cases z:s1.heap.get? dx with
  |none=>rfl
  |some o=>rw[kp _ _ z] at q2;cases q2
 have n2:=dN.none_of I1.hok n1;have n3:=dN.none_of I1.hok mk.new;have hok1:dN X.prog X.w (upd H1 dx (.xd [(fld,v)])) h2:=dN.laid' I1.hok q1' n2 ⟨_,q5,λf=>by
  by_cases hf:f=fld
  ·subst hf
   simp [eX]
   exact r
  ·have hb:(f==fld)=false:=beq_eq_false_iff_ne.mpr hf
   simp [hb,hf,eX,List.lookup]⟩
 have n4:(upd H1 dx (.xd [(fld,v)])) e'=none:=by rw[aE q3.symm];exact n3
 have hok2:dN X.prog X.w (upd (upd H1 dx (.xd [(fld,v)])) e' (.ext (GW e' (.ref (clsAt X.K x)) (some dx)))) h2:=dN.laid' hok1 (λ_ _ z=>z) n4 ⟨⟨_,_,q4,rfl,rfl,rfl⟩,⟨_,q4⟩,λha hb' ⟨oe,vs,z1,z2,z3,z4⟩ hk=>⟨oe,vs,hk _ z1,z2,z3,z4⟩⟩;have ne1:∀{b o},s1.heap.get? b=some o->b≠dx:=λq z=>by rw[z,n1] at q;cases q
 have ne2:∀{b o},s1.heap.get? b=some o->b≠e':=λq z=>by rw[z,mk.new] at q;cases q
 have nh:∀{b o},H1 b=some o->(upd (upd H1 dx (.xd [(fld,v)])) e' (.ext (GW e' (.ref (clsAt X.K x)) (some dx)))) b=some o:=λq=>by rw[aE (aD q n3),aE (aD q n2)];exact q
 have un:Un (dC X.stack) [] H1 (upd (upd H1 dx (.xd [(fld,v)])) e' (.ext (GW e' (.ref (clsAt X.K x)) (some dx)))) s1.heap h2:=
  ⟨λb o q _ _ _=>q1' b o q,λb o q _ _ _=>⟨o.slots,q1' b o q⟩,λb o q n _=>by rw[aE (ne2 q),aE (ne1 q)];exact n,λb o q _=>⟨o,q1' b o q⟩,λb xs q=>nh q,λb o xs q=>nh q,λb ps q=>⟨#[],by rw[nh q];simp⟩⟩
 exact ⟨rfl,.ref e',_,I1.call' (s':={s1 with heap:=h2,toks:=tk}) rfl un hok2 I1.bare λb y=>absurd y (by simp),rfl,w1 dx e' n2 n3 q3.symm⟩
def Rx (x slf prm fld:Str) (a:EX K):EX K:=iB (λE σ H Q=>a.t E σ H λv H1=>Gy K x fld v H1 Q)
 (λC e=>match e with
  | .Call (.Name y _) [b] [] _=>mY C x y&&a.m C b
  |_=>false)
 (λR=>(R.mg x=some (.ref (clsAt K x))/\BS K x slf prm fld/\∃k,bM k R.A)/\a.q R) .pl
 (λX C E e hK G hE hq hm=>by
  subst hK
  split at hm
  ·rename_i y py b p
   simp only [and_eq_true] at hm
   obtain ⟨h1,h2⟩:=hm
   have e:=bB h1
   subst e
   obtain ⟨g,d⟩:=bA G h1
   obtain ⟨⟨hg,ek,kk,rm⟩,hqa⟩:=hq
   intro pins s σ H Q I h
   have st:=aO (env:=X.env) (es:=[]) (a.sok C b h2)
   obtain ⟨bm,N,nm,q,bs,sn,sub,ab,col,dd,k0,k1,k2,k3,k5,mN,hC,hN,hi,T⟩:=xP ek.exc I.ok.mod.kin
   refine tB (C:=clsAt X.K y) (nm:=nm) (q:=q) (N:=N) (bs:=bs) (bm:=bm) (hdct:=true) (sn:=sn) (sub:=sub) (ab:=ab) (col:=col) (dd:=dd) (k0:=k0) (k1:=k1) (k2:=k2) (k3:=k3) (k5:=k5)
    PySem.F.excBase_ValueError (mN:=mN) (by rw[st];rfl) rfl hi (dQ I g hg ⟨rfl,?_⟩ d)
   have ev:=cR G hE [a] [b] (show pU [a] (dJ X) from ⟨hqa,trivial⟩) (show iD [a] C [b]=true by unfold iD;rw[h2];rfl) p pins s σ H (one λv H1=>Gy X.K y fld v H1 Q) I h
   rw[st] at ev ⊢
   refine Calls.evalArgs_plain (wpAny_mono ev (λus s1 z=>?_) λ_ _ z=>z)
   obtain ⟨vs,H1,I1,r1,w1⟩:=z
   obtain ⟨v,rfl,w1⟩:=NK w1
   obtain ⟨u,rfl,r2⟩:=r1.one
   exact NV ek rm I1 r2 (.inl ⟨rfl,rfl⟩) w1 hC hN T
  ·cases hm)
 (λC e hm=>by
  split at hm
  ·exact ⟨rfl,rfl⟩
  ·cases hm)
def Oh (x slf prm fld:Str):EX K:=iB (λ_ _ H Q=>Gy K x fld .non H Q)
 (λC e=>match e with
  | .Call (.Name y _) [] [] _=>mY C x y
  |_=>false)
 (λR=>R.mg x=some (.ref (clsAt K x))/\BS K x slf prm fld/\∃k,bM k R.A) .zc
 (λX C E e hK G hE hq hm=>by
  subst hK
  split at hm
  ·rename_i y py p
   have e:=bB hm
   subst e
   obtain ⟨g,d⟩:=bA G hm
   obtain ⟨hg,ek,kk,rm⟩:=hq
   intro pins s σ H Q I h
   obtain ⟨bm,N,nm,q,bs,sn,sub,ab,col,dd,k0,k1,k2,k3,k5,mN,hC,hN,hi,T⟩:=xP ek.exc I.ok.mod.kin
   refine tB (C:=clsAt X.K y) (nm:=nm) (q:=q) (N:=N) (bs:=bs) (bm:=bm) (hdct:=true) (sn:=sn) (sub:=sub) (ab:=ab) (col:=col) (dd:=dd) (k0:=k0) (k1:=k1) (k2:=k2) (k3:=k3) (k5:=k5)
    PySem.F.excBase_ValueError (mN:=mN) rfl rfl hi (dQ I g hg ⟨rfl,?_⟩ d)
   refine evalArgs_empty ?_
   exact NV ek rm I (v:=.non) (u:=.none) rfl (.inr (.inr ⟨rfl,rfl,rfl⟩)) h hC hN T
  ·cases hm)
 (λC e hm=>by
  split at hm
  ·exact ⟨rfl,rfl⟩
  ·cases hm)
def Hm (x slf prm fld f:Str) (hx:(x != "super")=true):EX K:=iB (λE=>Pc K ((Oh x slf prm fld:EX K).t E) f)
 (λC e=>match e with
  | .Attribute (.Call (.Name y p1) [] [] p2) g _=>g==f&&(y==x&&(Oh x slf prm fld:EX K).m C (.Call (.Name y p1) [] [] p2))
  |_=>false) (Oh x slf prm fld:EX K).q .pl
 (λX C E e hK G hE hq hm=>by
  subst hK
  split at hm
  ·rename_i y p1 p2 g p
   simp only [and_eq_true] at hm
   obtain ⟨h1,h3,h2⟩:=hm
   obtain rfl:=eq_of_beq h1
   obtain rfl:=eq_of_beq h3
   exact YL ((Oh _ slf prm fld:EX X.K).ok X C E _ rfl G hE hq h2) (XM hx)
  ·cases hm)
 (λC e hm=>by
  split at hm
  ·exact ⟨rfl,rfl⟩
  ·cases hm)
section
variable {E:XS} {σ:St} {H:Hp} {Q:VK} {a:EX K} {x slf prm fld f:Str}
theorem Lu (h:a.t E σ H λv H1=>Gy K x fld v H1 Q):(Rx x slf prm fld a).t E σ H Q:=h
theorem Ee {hx:(x != "super")=true} (h:Gy K x fld .non H λx H1=>∃D fs v,GU H1 x D fs/\XF K D/\PySem.W.findIn K (.ref D) f=some none/\fs.lookup f=some v/\Q v H1):(Hm x slf prm fld f hx:EX K).t E σ H Q:=h
end
theorem VW {x slf prm fld name qual:Str} {C f:Addr} {params:Arguments} {scope:Scope} {dV kV doc pm cdv ct:Value} {an od:Option Addr} {osl:Array (Option Value)} {p1 p2 p3 p4:Pos}
  (h1:nsIn K mainGlobals x=some (some (.ref C))) (h2:PySem.W.findIn K (.ref C) "__init__"=some (some (.ref f)))
  (l:K.lookup f=some ⟨.type "function",od,.func (PySem.W.fnOf name qual params [.Assign [.Attribute (.Name slf p1) fld p2] (.Name prm p3) p4] scope dV kV doc pm an cdv ct),osl⟩) (c:PySem.W.codeIn K cdv qual=true)
  (s:scope.kind=.function/\scope.isCoroutine=false/\scope.isGenerator=false) (n:scope.names.lookup slf=some .local/\scope.names.lookup prm=some .local) (d:(slf==("__debug__":Str))=false/\(prm==("__debug__":Str))=false/\slf≠prm)
  (b1:∀(s:Shared) (u v:Value),K.In s.heap->PySem.BindsTo s (PySem.W.fnOf name qual params [.Assign [.Attribute (.Name slf p1) fld p2] (.Name prm p3) p4] scope dV kV doc pm an cdv ct) ⟨[u,v],[]⟩ [(slf,u),(prm,v)])
  (b2:∀(s:Shared) (u v:Value),K.In s.heap->PySem.BindsTo s (PySem.W.fnOf name qual params [.Assign [.Attribute (.Name slf p1) fld p2] (.Name prm p3) p4] scope dV kV doc pm an cdv ct) ⟨[u],[(prm,v)]⟩ [(slf,u),(prm,v)])
  (b3:∀(s:Shared) (u:Value),K.In s.heap->PySem.BindsTo s (PySem.W.fnOf name qual params [.Assign [.Attribute (.Name slf p1) fld p2] (.Name prm p3) p4] scope dV kV doc pm an cdv ct) ⟨[u],[]⟩ [(slf,u),(prm,.none)]):EI K (hZ K x) slf prm fld (way prm):=by
 have e1:clsAt K x=C:=by unfold clsAt;rw[h1]
 have e2:hZ K x=f:=by unfold hZ;rw[e1,h2]
 rw[e2];refine ⟨name,qual,params,scope,dV,kV,doc,pm,cdv,ct,an,od,osl,p1,p2,p3,p4,l,c,s,n,d,λs u rest kw v hw X=>?_⟩;rcases hw with ⟨rfl,rfl⟩|⟨rfl,rfl⟩|⟨rfl,rfl,rfl⟩
 ·exact b1 s u v X
 ·exact b2 s u v X
 ·exact b3 s u X
structure fE (k:Nat) (A:Around):Prop where
 dp:A.depth+3 * k+5<recursionLimit
 un:A.units+16 * k+200<cLine
theorem fE.deeper {k:Nat} {A:Around} (r:fE (k+1) A) (env:Env):fE k (A.deeper env):=
 ⟨by have:=r.dp;show A.depth+1+3 * k+5<_;lia,by have:=r.un;show A.units+3+16 * k+200<_;lia⟩
theorem fE.mono {j k:Nat} {A:Around} (r:fE k A) (h:j<=k):fE j A:=⟨by have:=r.dp;lia,by have:=r.un;lia⟩
theorem bM.hot {k:Nat} {A:Around} (r:bM k A) (h:Option Value):fE k (A.mark h):=⟨r.dp,r.un⟩
structure BU (P:Program) (w:World) (K:Fg) (mg:Str->Option Value) (base:Heap) (k:Nat) (f:Addr) (fd:FuncData) (ps:List Str) (sp:Sp):Prop where
 len:∀vs H Q E,sp vs H Q E->vs.length=ps.length
 run:∀(A:Around) (outer:List Env) (s:Shared) (H:Hp) (args:Args) (us:List Value) (vs:List V) (Q:VK),fE k A->yP P w K mg base A outer s H->BindsTo s fd args (ps.zip us)->Vals vs us->sp vs H Q (λ_ _ _=>False)->
  codeAny (model P w) A (.call (.ref f) args) (CR (lH P w) outer P w H s Q (λ_ _ _=>False)) s
abbrev PL (X:Cx):Cx:={X with calm:=false}
section
variable {X:Cx} {pins:List (Addr × Obj)} {σ:St} {H:Hp} {s:Shared}
end
section
variable {P:Program} {w:World} {K:Fg} {mg:Str->Option Value} {base:Heap}
theorem Fi {k:Nat} {f:Addr} {name qual:Str} {params:Arguments} {body:List Stmt} {scope:Scope} {dV kV doc pm cdv ct oc:Value} {an od:Option Addr}
  {osl:Array (Option Value)} {N ps:List Str} {sp:Sp} (lk:K.lookup f=some ⟨oc,od,.func (PySem.W.fnOf name qual params body scope dV kV doc pm an cdv ct),osl⟩) (hcd:PySem.W.codeIn K cdv qual=true) (S:cJ N ps scope)
  (len:∀vs H Q E,sp vs H Q E->vs.length=ps.length)
  (hbody:∀(A:Around) (outer:List Env) (s:Shared) (H:Hp) (vs:List V) (Q:VK),fE k (A.deeper (envOfC qual scope s.heap.objs.size f cdv))->sp vs H Q (λ_ _ _=>False)->
   ∃t,ZQ (PL (jZ (lH P w) P w K mg base N qual scope f cdv A outer s H (λ_ _ _=>False))) body t/\t {nx:=λ_ H'=>Q .non H',rt:=Q} (start N vs) H):
  BU P w K mg base (k+1) f (PySem.W.fnOf name qual params body scope dV kV doc pm an cdv ct) ps sp:=by
 refine ⟨len,λA outer s H args us vs Q hr e0 hb r hsp=>?_⟩;have hl:=len _ _ _ _ hsp;have KX:K.In s.heap:=e0.mod.kin.keeps λb o e=>(e0.bs b o e).1;have lim:s.heap.NoLimit:=e0.mod.nolimit.keeps λb o e=>(e0.bs b o e).1;have hkind:∀y∈ps.zip us,scope.names.lookup y.1=some .local\/(scope.names.lookup y.1=some .cell/\((cellsFrom (s.heap.objs.size+1) scope.names []).lookup y.1).isSome=true):=λ⟨n,v⟩ hy=>by
  rcases S.par n (of_mem_zip hy).1 with q|q
  ·exact .inl q
  ·exact .inr ⟨q,cellsFrom_some _ _ _ (.inl q)⟩
 have hdep:A.depth<recursionLimit:=by have:=hr.dp;lia
 refine codeAny_call_function hdep (KX _ _ lk) rfl S.co S.gen rfl (PySem.W.codeRec_of KX hcd) (hb _ _ _ _ ?_);refine wpAny_newFunctionEnv_cells S.kind hkind λenv he s1 x=>?_;subst he;refine ⟨lim.keeps x.toInCall.keep,codeAny_func ?_⟩;obtain ⟨t,ht,hq⟩:=hbody A outer s H vs Q (hr.deeper _) hsp;have e1:yP P w K mg base {A with handled:=none} outer s H:=⟨e0.frames,e0.mod,e0.bs,e0.bsz,e0.funs,e0.frf,e0.hok,e0.bare⟩;have I0:Inv (jZ (lH P w) P w K mg base N qual scope f cdv {A with handled:=none} outer s H (λ_ _ _=>False)) [] (start N vs) H s1:=vD S rfl e1 hl r x;have I:Inv (PL (jZ (lH P w) P w K mg base N qual scope f cdv A outer s H (λ_ _ _=>False))) [] (start N vs) H s1:=
  ⟨⟨I0.ok.mod,I0.ok.kind,I0.ok.glob,I0.ok.blt,I0.ok.above,I0.ok.inj,I0.ok.has,I0.ok.cab,(λz=>nomatch z),I0.ok.frames,I0.ok.stk,I0.ok.exf,I0.ok.bs,I0.ok.bsz,I0.ok.noex,I0.ok.exfs,I0.ok.funs,I0.ok.frf⟩,I0.os,I0.bare,I0.base,I0.loc,I0.cell,I0.free,I0.freeC,I0.pin,I0.hok,I0.len⟩
 refine wpAny_mono (ht [] s1 (start N vs) H _ I hq) (λfl s' hs=>?_) λe s' hs=>hs;have fin:∀{σ':St} {H':Hp} {v:V} {u:Value},Inv (PL (jZ (lH P w) P w K mg base N qual scope f cdv A outer s H (λ_ _ _=>False))) [] σ' H' s'->RelV v u->Q v H'->CE outer P w H s Q u s':=
  λ{σ' H' v u} J rv q=>⟨v,H',J.os,J.bare,J.base,J.hok,rv,q⟩
 cases fl with
 |ret u=>
  obtain ⟨v,σ',H',J,rv,q⟩:=hs;exact fin J rv q
 |next=>
  obtain ⟨σ',H',J,q⟩:=hs;exact fin (v:=V.non) (u:=Value.none) J rfl q
 |brk=>
  obtain ⟨_,_,_,q⟩:=hs;exact q.elim
 |cont=>
  obtain ⟨_,_,_,q⟩:=hs;exact q.elim
theorem XA {x qual:Str} {st:Stmt} {f:Addr} {fd:FuncData} {N ps:List Str} {k:Nat} {sp:Sp} (F:ZU K x qual st f fd) (b:List (SX K)) (S:cJ N ps (aF st))
  (hm:yQ b ⟨N,(aF st).names,.hot⟩ (aK st)=true) (bl:∀x∈kB,mg x=none) (hq:∀A,fE k A->BW b ⟨P,w,K,mg,base,A⟩) (len:∀vs H Q E,sp vs H Q E->vs.length=ps.length)
  (h:∀vs H Q E,sp vs H Q E->eI b E0 {nx:=λ_ H'=>Q .non H',rt:=Q} (start N vs) H):BU P w K mg base (k+1) f fd ps sp:=by
 obtain ⟨oc,od,kV,doc,pm,an,cdv,ct,osl,rfl,lk,hcd⟩:=F.ex;refine Fi lk hcd S len λA outer s H vs Q hr hsp=>?_;have G:Gd (PL (jZ (lH P w) P w K mg base N qual (aF st) f cdv A outer s H (λ_ _ _=>False))) ⟨N,(aF st).names,.hot⟩:=⟨rfl,rfl,S.nd,(λz=>nomatch z),bl,(by have:=hr.un;show (A.deeper (envOfC qual (aF st) s.heap.objs.size f cdv)).units+64<cLine;lia),λ_ _=>rfl,λ_=>⟨rfl,rfl⟩,(λ_ h=>nomatch h)⟩;have T:tH (PL (jZ (lH P w) P w K mg base N qual (aF st) f cdv A outer s H (λ_ _ _=>False))) E0:=⟨λ_ _ _ _ _ _ _ z=>(lH.no z).elim,λ_ _ _ _ _ _ _ _ _ _ _ _ _ _ _ _ _ _ _ z=>z.elim,PassesOwn.leaving⟩;exact ⟨_,oG G T b (aK st) (hq _ hr) hm,h vs H Q _ hsp⟩
end
def ZV (R:Rt) (x:Str) (sp:Sp):Prop:=∃(k:Nat) (f:Addr) (fd:FuncData) (ps:List Str),fE k R.A/\BU R.P R.w R.K R.mg R.base k f fd ps sp/\Binds R.K fd ps []/\keepIn R.K (.ref f)=true/\R.mg x=some (.ref f)
theorem MF {X:Cx} {k:Nat} {f:Addr} {fd:FuncData} {ps:List Str} {sp:Sp} {pins:List (Addr × Obj)} {σ:St} {H1:Hp} {s1:Shared} {Q1:VK} {us:List Value} {vs:List V} (F:BU X.prog X.w X.K X.mg X.base k f fd ps sp)
  (room:fE k X.A) (bd:Binds X.K fd ps []) (I1:Inv X pins σ H1 s1) (rl:Vals vs us) (pr:sp vs H1 Q1 (λ_ _ _=>False)):wpAny (model X.prog X.w) X.A (PySem.call (.ref f) us) (EP X pins σ Q1) X.xe s1:=by
 have ln:(us++[]).length=ps.length:=by rw[append_nil,<-rl.length];exact F.len _ _ _ _ pr
 have b:=bd s1 us I1.kIn ln;rw[append_nil] at b;refine wpAny_call (codeAny_mono (F.run X.A X.stack s1 H1 ⟨us,[]⟩ us vs Q1 room I1.env0 b rl pr) λres s2 fin=>?_);cases res with
 |error ev=>exact (lH.no fin).elim
 |ok fl=>
  cases fl with
  |ret v=>exact I1.after fin
  |next=>exact fin.elim
  |brk=>exact fin.elim
  |cont=>exact fin.elim
def ZL (x:Str) (sp:Sp) (a:EX K) (as:List (EX K)):EX K:=KO (λE σ H Q=>fF (a::as) E σ H λvs H1=>sp vs H1 Q (λ_ _ _=>False))
 (λC e=>match e with
  | .Call (.Name y _) es [] _=>mY C x y&&iD (a::as) C es
  |_=>false) (λR=>ZV R x sp/\pU (a::as) R) .pl
 (λX C E e hK G hE hq hm=>by
  subst hK
  cases e with
  |Call f es ks p=>
   cases f with
   |Name y py=>
    cases ks with
    |nil=>
     simp only [and_eq_true] at hm
     obtain ⟨h1,h2⟩:=hm
     have e:=bB h1
     subst e
     obtain ⟨g,d⟩:=bA G h1
     obtain ⟨⟨k,f,fd,ps,hr,F,hb,kp,hg⟩,hqa⟩:=hq
     cases es with
     |nil=>cases h2
     |cons e es=>
      intro pins s σ H Q I h
      exact wpAny_Call_Name_kw (dQ I g hg (callWith_K (h₀:=X.base) I.ok.mod.kin kp (bH (cR G hE (a::as) (e::es) hqa h2 p pins s σ H _ I h) λus s1 ⟨vs,H1,I1,r,q⟩=>⟨I1.kIn,MF F hr hb I1 r q⟩) (aO (a.sok C e (aG h2).1)) (aV as es (aG h2).2)) d)
    |cons _ _=>cases hm
   |_=>exact ff hm
  |_=>exact ff hm)
 (λC e hm=>by
  cases e with
  |Call f es ks p=>
   cases f with
   |Name y py=>
    cases ks with
    |nil=>
     simp only [and_eq_true] at hm
     exact kP (a::as) es hm.2
    |cons _ _=>cases hm
   |_=>exact ff hm
  |_=>exact ff hm)
 (λC e hm=>by cases e with|Call f es ks p=>rfl|_=>exact ff hm)
def Qx (x:Str) (id:String) (r:List V->Hp->VK->Prop) (ok:∀X:Cx,X.K=K->bN X (.builtin id) r) (hb:bootBuiltins x=some (.builtin id)) (hi:x∈kB) (hn:x≠"__name__") (a:EX K) (as:List (EX K)):EX K:=
 KO (λE=>Gz r (fF (a::as) E))
 (λC e=>match e with
  | .Call (.Name y _) es [] _=>mY C x y&&iD (a::as) C es
  |_=>false) (λR=>pU (a::as) R) .pl
 (λX C E e hK G hE hq hm=>by
  subst hK
  cases e with
  |Call f es ks p=>
   cases f with
   |Name y py=>
    cases ks with
    |nil=>
     simp only [and_eq_true] at hm
     obtain ⟨h1,h2⟩:=hm
     have e:=bB h1
     subst e
     obtain ⟨g,d⟩:=bA G h1
     cases es with
     |nil=>cases h2
     |cons e es=>exact rJ (ok X rfl) g (G.bl _ hi) hb (cR G hE (a::as) (e::es) hq h2) hn d (aO (a.sok C e (aG h2).1)) (aV as es (aG h2).2)
    |cons _ _=>cases hm
   |_=>exact ff hm
  |_=>exact ff hm)
 (λC e hm=>by
  cases e with
  |Call f es ks p=>
   cases f with
   |Name y py=>
    cases ks with
    |nil=>
     simp only [and_eq_true] at hm
     exact kP (a::as) es hm.2
    |cons _ _=>cases hm
   |_=>exact ff hm
  |_=>exact ff hm)
 (λC e hm=>by cases e with|Call f es ks p=>rfl|_=>exact ff hm)
def tZ (a b:EX K):EX K:=Qx "isinstance" "isinstance" (MU K) (λX hK=>by subst hK;exact Ea X) PyProof.Rows.Boot.isinstance (by decide+kernel) (by decide+kernel) a [b]
theorem jB {E:XS} {σ:St} {H:Hp} {Q:VK} {a b:EX K} (h:a.t E σ H λx H1=>b.t E σ H1 λy H2=>MU K [x,y] H2 Q):(tZ a b).t E σ H Q:=h
theorem WN {E:XS} {σ:St} {H:Hp} {Q:VK} {x:Str} {sp:Sp} {a:EX K} {as:List (EX K)} (h:fF (a::as) E σ H λvs H1=>sp vs H1 Q (λ_ _ _=>False)):(ZL x sp a as).t E σ H Q:=h
abbrev HL (X:Cx) (e:Addr):Cx:={X with A:=X.A.mark (some (.ref e)),calm:=false,xe:=λ_ _=>False}
section
variable {X:Cx} {pins:List (Addr × Obj)} {σ:St} {H:Hp} {s:Shared} {e:Addr}
theorem VS (I:Inv X pins σ H s):Inv (HL X e) pins σ H s:=
 ⟨⟨I.ok.mod,I.ok.kind,I.ok.glob,I.ok.blt,I.ok.above,I.ok.inj,I.ok.has,I.ok.cab,(λz=>nomatch z),I.ok.frames,I.ok.stk,I.ok.exf,I.ok.bs,I.ok.bsz,I.ok.noex,I.ok.exfs,I.ok.funs,I.ok.frf⟩,I.os,I.bare,I.base,I.loc,I.cell,I.free,I.freeC,I.pin,I.hok,I.len⟩
theorem JC (ok:X.Ok) (I:Inv (HL X e) pins σ H s):Inv X pins σ H s:=⟨ok,I.os,I.bare,I.base,I.loc,I.cell,I.free,I.freeC,I.pin,I.hok,I.len⟩
end
theorem Fe {X:Cx} {C:Sc} {e:Addr} (G:Gd X C) (fb:C.fb=true):Gd (HL X e) ⟨C.N,C.nm,.hot⟩:=⟨G.N,G.nm,G.nd,(λz=>nomatch z),G.bl,G.hu,λ_=>G.fb fb,λ_=>G.top fb,(λ_ h=>nomatch h)⟩
theorem qI {X:Cx} {C:Sc} {pins:List (Addr × Obj)} {σ:St} {H2:Hp} {s3:Shared} {B:Heap} {e:Addr} {c:Value} {dx:Option Addr} {D:Ends} {kn km:Nat} {x n m:Str} {tp mp hp ap:Pos} {v:Expr} (a:EX X.K) (G:Gd X C) (fb:C.fb=true) (W:Addr) (g:Gl X x) (hd:(x==("__debug__":Str))=false) (hm:X.mg x=some (.ref W))
  (hx:exmOne X.K c (.ref W)=some true) (iN:X.N[kn]?=some n) (lN:X.env.scope.names.lookup n=some .local) (iM:X.N[km]?=some m) (lM:X.env.scope.names.lookup m=some .local)
  (ha:a.s≠.cp) (qa:a.q (dJ (HL X e))) (ma:a.m ⟨C.N,C.nm,.hot⟩ v=true)
  (F:eZ B X.stack e c dx .none s3.heap) (re:∀g2,eZ B X.stack e c dx .none g2->s3.heap.UpToSlots g2->Inv X pins σ H2 {s3 with heap:=g2}) (ix:GW e c dx s3.heap)
  (q:a.t E0 (σ.set kn (some (.ref e))) H2 λv H3=>D.nx (((σ.set kn (some (.ref e))).set km (some v)).set kn none) H3):
  wpAny (model X.prog X.w) X.A (handleBy (.ref e) X.env [.ExceptHandler (some (.Name x tp)) (some n) [.Assign [.Name m mp] v ap] hp]) (SP X pins D) X.xe s3:=by
 have I3:Inv X pins σ H2 s3:=re s3.heap F (Heap.UpToSlots.refl _);refine wpAny_handleBy_cons (codeAny_handlers_test ?_) (by intro z;cases z);refine Calls.Name_function_global I3.ok.kind g (Calls.loadGlobal_global (by rw[I3.ok.glob];exact I3.mod.glob.keeps I3.bk) hm ?_) hd;refine (PySem.W.exm_one I3.kIn (OE ix) hx).here ?_;show codeAny _ _ (.handlers (.ref e) [.ExceptHandler none (some n) [.Assign [.Name m mp] v ap] hp] X.env) _ _;refine codeAny_handlers_suite_as (iY F λg2 F2 u2=>?_);have I4:=re g2 F2 u2;refine lQ I4 (by rw[G.N];exact G.nd) iN (.inl lN) (v:=.ref e) rfl (λs5 I5=>?_) (.inr lN);refine wpAny_execs_cons ?_;refine wpAny_Assign_Name ?_ (iS (a.sok _ v ma) ha);have ev:=a.ok (HL X e) ⟨C.N,C.nm,.hot⟩ E0 v rfl (Fe G fb) (Ah rfl) qa ma pins s5 _ H2 _ (VS I5) q;refine wpAny_mono ev (λu s6 z=>?_) λ_ _ z=>z.elim;obtain ⟨w,H3,I6,rw',q'⟩:=z;refine lQ (JC I5.ok I6) (by rw[G.N];exact G.nd) iM (.inl lM) (v:=w) rw' (λs7 I7=>wpAny_execs_nil ?_) (.inr lM);show wpAny _ X.A (do bindName X.env n .none;unbindBehindTheSuite X.env n hp) _ _ s7;exact WZ I7 (by rw[G.N];exact G.nd) iN lN λs8 I8=>⟨_,H3,I8,q'⟩
def Al (K:Fg) (x:Str) (kn km:Nat) (a:EX K) (D:Ends):XS:=λσ1 c dx H'=>exmOne K c (.ref (clsAt K x))=some true/\∀e,H' e=none->a.t E0 (σ1.set kn (some (.ref e))) (upd H' e (.ext (GW e c dx))) λv H3=>D.nx (((σ1.set kn (some (.ref e))).set km (some v)).set kn none) H3
theorem LP {X:Cx} {C:Sc} {pins:List (Addr × Obj)} {D:Ends} {kn km:Nat} {x n m:Str} {tp mp hp ap:Pos} {v:Expr} (a:EX X.K) (G:Gd X C) (fb:C.fb=true) (g:Gl X x) (hd:(x==("__debug__":Str))=false) (hm:X.mg x=some (.ref (clsAt X.K x)))
  (iN:X.N[kn]?=some n) (lN:X.env.scope.names.lookup n=some .local) (iM:X.N[km]?=some m) (lM:X.env.scope.names.lookup m=some .local) (ha:a.s≠.cp) (qa:∀e,a.q (dJ (HL X e))) (ma:a.m ⟨C.N,C.nm,.hot⟩ v=true):
  tH (pY X pins λev s1=>wpAny (model X.prog X.w) X.A (noteFrame ev X.env) (λ_ s2=>wpAny (model X.prog X.w) X.A (setFlight ev none) (λ_ s3=>
   wpAny (model X.prog X.w) X.A (handleBy ev X.env [.ExceptHandler (some (.Name x tp)) (some n) [.Assign [.Name m mp] v ap] hp]) (SP X pins D) X.xe s3) X.xe s2) X.xe s1) (Al X.K x kn km a D):=by
 obtain ⟨hst,hfr⟩:=G.top fb;refine ⟨λpins' σ1 H1 s1 ev s' I' hc=>?_,λpins' σ1 H1 H' s1 s' e oe vs I' os bare un hok n1 en eo dt v1 hz=>?_,PassesOwn.looking⟩
 ·have I1:Inv X pins σ1 H1 s1:=jW I';obtain ⟨e,c,dx,H',B,rfl,os,bare,un,hok,⟨fl,F⟩,c1,c2,hx,hq⟩:=hc;have F0:eZ B (X.env::X.outer) e c dx fl s'.heap:=hst▸F;refine AH (I1.ok.frames.trans (congrArg some hst)) hfr hfr F0 λg1 _ F1 u1=>iY F1 λg2 F2 u2=>?_;have F2':eZ B X.stack e c dx .none g2:=hst.symm▸F2;have re:=λg3 (F3:eZ B X.stack e c dx .none g3) (u3:s'.heap.UpToSlots g3)=>sX I1 os bare un hok F.stay c1 c2 F3 u3;refine qI (s3:={s' with heap:=g2}) a G fb (clsAt X.K x) g hd hm hx iN lN iM lM ha (qa e) ma F2' (λg3 F3 u3=>(re g3 F3 ((u1.trans u2).trans u3)).1) ?_ (hq e (re g2 F2' (u1.trans u2)).2);obtain ⟨oe,vs,_,_,_,z1,z2,z3,z4,_⟩:=F2.tr;exact ⟨oe,vs,z1,z2,z3,z4⟩
 ·have I1:Inv X pins σ1 H1 s1:=jW I';obtain ⟨hx,hq⟩:=hz;have I2:Inv X pins σ1 H' s':=I1.call' os un hok bare λb y=>absurd y (by simp);have ff:s'.heap.FunFrames X.base X.stack:=I2.stack;have ff2:s'.heap.FunFrames (hideAll s'.heap (e::dC X.stack)) X.stack:=PySem.W.funFrames_hide ff λenv' he' a ha=>mem_cons_of_mem _ (mem_filterMap.mpr ⟨env',he',ha⟩);have has:∀{b o},s'.heap.get? b=some o->b≠e->b∉dC X.stack->(hideAll s'.heap (e::dC X.stack)).get? b=some o:=λq h1 h2=>hideAll_get _ q (by simp only [mem_cons,not_or];exact ⟨h1,h2⟩);have st:(hideAll s'.heap (e::dC X.stack)).StaysIn s'.heap:=λb o q=>of_hideAll _ q;have c1:∀b o,s1.heap.get? b=some o->b∉dC X.stack->∃u,(hideAll s'.heap (e::dC X.stack)).get? b=some u:=λb o q hb=>by
   obtain ⟨o1,q1⟩:=un.there b o q (by simp);exact ⟨o1,has q1 (λz=>by rw[z,n1] at q;cases q) hb⟩
  have c2:∀b o,H' b=some o->∃u,(hideAll s'.heap (e::dC X.stack)).get? b=some u:=λb o q=>by
   obtain ⟨o1,q1⟩:=iH (hok b o q);refine ⟨o1,has q1 (λz=>by rw[z,en] at q;cases q) λz=>?_⟩;have:=I2.stkFree b z;rw[q] at this;cases this
  refine AG (I1.ok.frames.trans (congrArg some hst)) (hst▸ff2) hfr hfr eo st (hideAll_none _ (by simp)) dt v1 λg1 F1 u1=>iY F1 λg2 F2 u2=>?_;have F2':eZ (hideAll s'.heap (e::dC X.stack)) X.stack e oe.cls oe.dict .none g2:=hst.symm▸F2;have re:=λg3 (F3:eZ (hideAll s'.heap (e::dC X.stack)) X.stack e oe.cls oe.dict .none g3) (u3:s'.heap.UpToSlots g3)=>sX I1 os bare un hok st c1 c2 F3 u3;refine qI (s3:={s' with heap:=g2}) a G fb (clsAt X.K x) g hd hm hx iN lN iM lM ha (qa e) ma F2' (λg3 F3 u3=>(re g3 F3 ((u1.trans u2).trans u3)).1) ?_ (hq e en);obtain ⟨oe',vs',_,_,_,z1,z2,z3,z4,_⟩:=F2.tr;exact ⟨oe',vs',z1,z2,z3,z4⟩
def WS (h:ExceptHandler):Option (Str × Pos × Str × Str × Pos × Expr × Pos × Pos):=match h with
 | .ExceptHandler (some t) (some n) [st] hp=>(match t with
  | .Name y tp=>(match st with
   | .Assign [tg] v ap=>(match tg with
    | .Name m mp=>some (y,tp,n,m,mp,v,ap,hp)
    |_=>none)
   |_=>none)
  |_=>none)
 |_=>none
theorem WR {h:ExceptHandler} {y:Str} {tp:Pos} {n m:Str} {mp:Pos} {v:Expr} {ap hp:Pos} (e:WS h=some (y,tp,n,m,mp,v,ap,hp)):
  h=.ExceptHandler (some (.Name y tp)) (some n) [.Assign [.Name m mp] v ap] hp:=by
 unfold WS at e
 repeat' split at e
 all_goals first|cases e|skip
 rfl
def YO (b:List (SX K)) (x:Str) (kn km:Nat) (a:EX K) (C:Sc) (s:Stmt):Bool:=match s with
 | .Try body [h] [] [] _=>(match WS h with
  |some (y,_,n,m,_,v,_,_)=>(C.fb&&mY C x y)&&(a.m ⟨C.N,C.nm,.hot⟩ v&&((C.N[kn]?==some n&&C.nm.lookup n==some .local)&&((C.N[km]?==some m&&C.nm.lookup m==some .local)&&yQ b C body)))
  |none=>false)
 |_=>false
def Hr (b:List (SX K)) (x:Str) (kn km:Nat) (a:EX K) (ha:a.s≠.cp:=by intro z;cases z):SX K where
 t:=λ_ D σ H=>eI b (Al K x kn km a D) D σ H
 m:=YO b x kn km a
 q:=λR=>R.mg x=some (.ref (clsAt K x))/\BW b R/\∀h,a.q ⟨R.P,R.w,R.K,R.mg,R.base,R.A.mark h⟩
 ok:=λX C E s hK G hE hq hm=>by
  subst hK;unfold YO at hm;split at hm
  ·rename_i body h pos;cases hh:WS h with
   |none=>rw[hh] at hm;cases hm
   |some z=>
   obtain ⟨y,tp,n,m,mp,v,ap,hp⟩:=z;rw[hh] at hm;have eh:=WR hh;subst eh;simp only [and_eq_true] at hm;obtain ⟨⟨fb,h1⟩,h2,⟨h4,h5⟩,⟨h6,h7⟩,h8⟩:=hm;have e:=bB h1;subst e;obtain ⟨g,d⟩:=bA G h1;intro pins s σ H D I h;refine wpAny_Try_except ?_;have T:=LP (pins:=pins) (D:=D) (kn:=kn) (km:=km) (n:=n) (m:=m) (tp:=tp) (mp:=mp) (hp:=hp) (ap:=ap) (v:=v) a G fb g d hq.1 (by rw[G.N];exact eq_of_beq h4) (by rw[G.nm];exact eq_of_beq h5) (by rw[G.N];exact eq_of_beq h6) (by rw[G.nm];exact eq_of_beq h7) ha (λe=>hq.2.2 _) h2;refine wpAny_mono (oG (X:=pY X pins _) ⟨G.N,G.nm,G.nd,G.calm,G.bl,G.hu,G.fb,G.top,G.ow⟩ T b body hq.2.1 h8 [] s σ H D (JB I) h) (λf s1 z=>?_) λ_ _ z=>z;have z':=Ap z;cases f with
   |next=>exact wpAny_execs_nil z'
   |brk=>exact z'
   |cont=>exact z'
   |ret v=>exact z'
  ·cases hm
theorem Eg {E:XS} {σ:St} {H:Hp} {D:Ends} {b:List (SX K)} {x:Str} {kn km:Nat} {a:EX K} {ha:a.s≠.cp} (h:eI b (Al K x kn km a D) D σ H):(Hr b x kn km a ha).t E D σ H:=h
def Ov (P:Program) (w:World) (K:Fg) (mg:Str->Option Value) (base:Heap) (k:Nat) (x:Str) (sp:Sp):Prop:=
 ∃(f:Addr) (fd:FuncData) (ps:List Str),BU P w K mg base k f fd ps sp/\Binds K fd ps []/\keepIn K (.ref f)=true/\mg x=some (.ref f)
theorem Ov.at {K:Fg} {P:Program} {w:World} {mg:Str->Option Value} {base:Heap} {j k:Nat} {x:Str} {sp:Sp} {A:Around} (D:Ov P w K mg base j x sp) (hr:fE k A) (h:j<=k):ZV ⟨P,w,K,mg,base,A⟩ x sp:=by
 obtain ⟨f,fd,ps,F,hb,kp,hg⟩:=D;exact ⟨j,f,fd,ps,hr.mono h,F,hb,kp,hg⟩
section
variable {K:Fg} {P:Program} {w:World} {h base:Heap} {mg:Str->Option Value} {x:Str} {st:Stmt} {N ps:List Str} {k:Nat} {sp:Sp}
theorem Fq (F:FD K x st) (X:K.In h) (G:h.Ns mainGlobals mg) (bl:∀x∈kB,mg x=none) (b:List (SX K)) (S:cJ N ps (aF st)) (hm:yQ b ⟨N,(aF st).names,.hot⟩ (aK st)=true)
  (hb:∀(kV doc pm:Value) (an:Option Addr) (cdv ct:Value) (us:List Value),us.length=ps.length->bindArgs (PySem.W.fnOf x x (bF st) (aK st) (aF st) .none kV doc pm an cdv ct) ⟨us,[]⟩=pure (ps.zip us))
  (len:∀vs H Q E,sp vs H Q E->vs.length=ps.length) (t:∀vs H Q E,sp vs H Q E->eI b E0 {nx:=λ_ H'=>Q .non H',rt:=Q} (start N vs) H) (hq:∀A,fE k A->BW b ⟨P,w,K,mg,base,A⟩):Ov P w K mg base (k+1) x sp:=by
 obtain ⟨f,fd,F,a⟩:=F;exact ⟨f,fd,ps,XA F b S hm bl hq len t,F.binds hb,F.kp,mg_of X G a⟩
end
open PySem.Builtin PySem.Builtin.Str
def gE:Str->List V->Hp->VK->Prop
 |z,[.str y],H,Q=>Q (.bl (startswith z y)) H
 |_,_,_,_=>False
theorem IQ {X:Cx}:Gk X "str.startswith" (rS gE):=by
 intro pins s σ H x xs v us Q I rx rs q;cases x with
 |str z=>
  have q':gE z xs H Q:=q;unfold gE at q';split at q'
  ·obtain ⟨t,rfl⟩:=rx;obtain ⟨u,rfl,ru⟩:=rs.one;obtain ⟨t2,rfl⟩:=ru;exact SC.startswith ⟨.bl _,H,I,rfl,q'⟩
  ·exact q'.elim
 |_=>exact q.elim
def m_startswith (o a:EX K) (ho:o.s≠.zc:=by intro z;cases z):EX K:=AM "startswith" "str.startswith" gE PySem.F.slot_str_startswith PySem.F.type_str_startswith (λ_ _ _ _=>IQ) o ho [a]
def RD (r:V->List V->Hp->VK->Prop) (t:TA):V->St->Hp->VK->Prop
 | .ref p,σ,H,Q=>(∃kvs,H p=some (.dK kvs))/\t σ H λys H2=>r (.ref p) ys H2 Q
 |_,_,_,_=>False
def uV:V->List V->Hp->VK->Prop
 | .ref a,[y,d],H,Q=>∃o,fV H a y o/\Q (o.getD d) H
 |_,_,_,_=>False
theorem VE {X:Cx} (hu:X.A.units+1<cLine):Gk X "dict.get" uV:=by
 intro pins s σ H x xs v us Q I rx rs q;unfold uV at q;split at q
 ·obtain ⟨o,g,q⟩:=q;obtain ⟨u,w',rfl,r1,r2⟩:=rs.two;cases rx;exact Fs hu I g r1 r2 λw' s' I' rw'=>⟨_,H,I',rw',q⟩
 ·exact q.elim
def OB (o a b:EX K) (ho:o.s≠.zc:=by intro z;cases z):EX K:=NX "get" "dict" "dict.get" uV (RD uV) PySem.F.plainAttrs_dict PySem.F.slot_dict_get PySem.F.type_dict_get (λX _ _ hu=>VE (by lia)) (λt x σ H Q h=>by
  cases x with
  |ref p=>exact ⟨.inr (.inr (.inl ⟨rfl,.inl h.1⟩)),h.2⟩
  |_=>exact h.elim) o ho [a,b]
section
variable {E:XS} {σ:St} {H:Hp} {Q:VK} {D:Ends} {QB:Bool->Hp->Prop} {v:V} {i j:Int} {n:Nat} {a b c:EX K}
theorem OU {ho:a.s≠.zc} (h:a.t E σ H λx H1=>RS gE (fF [b] E) x σ H1 Q):(m_startswith a b ho).t E σ H Q:=h
theorem JG {z y:Str} (h:Q (.bl (startswith z y)) H):gE z [.str y] H Q:=h
theorem Me {ho:a.s≠.zc} (h:a.t E σ H λx H1=>RD uV (fF [b,c] E) x σ H1 Q):(OB a b c ho).t E σ H Q:=h
theorem Mo {r:V->List V->Hp->VK->Prop} {t:TA} {p:Addr} {kvs:List (Key × V)} (c:H p=some (.dK kvs)) (h:t σ H λys H2=>r (.ref p) ys H2 Q):RD r t (.ref p) σ H Q:=⟨⟨kvs,c⟩,h⟩
theorem DP {p:Addr} {y d:V} {o:Option V} (g:fV H p y o) (h:Q (o.getD d) H):uV (.ref p) [y,d] H Q:=⟨o,g,h⟩
theorem WD {p:Addr} {x:V} {xs:List V} (c:aH K H p xs) (f1:eP x=true) (f2:xs.all eP=true) (h:QB (!BY x xs) H):rB (dF K .NotIn) x (.ref p) H QB:=by
 cases x<;>first|exact ⟨p,xs,rfl,.inl c,f1,f2,h⟩|cases f1
theorem rZ {p q:Addr} {xs ys:List V} (h1:H p=some (.lst xs)) (h2:H q=some (.lst ys)) (hz:xs.length+ys.length<=sizeLine) (h:∀r,H r=none->Q (.ref r) (upd H r (.lst (xs++ys)))):nJ K .Add (.ref p) (.ref q) H Q:=
 .inl ⟨p,q,xs,ys,rfl,rfl,h1,h2,hz,h⟩
theorem QN {xs:List V} {k:Nat} (h:k<=xs.length):nV xs (some (k:Int)) none=xs.drop k:=by
 unfold nV;rw[HT.zT,HT.UA,Nat.min_eq_left h,take_of_length_le (by rw[length_drop];exact Nat.le_refl _)]
theorem AY {p:Addr} {xs:List V} {k:Int} (h1:H p=some (.lst xs)) (h2:-(2 ^ 63)<=k/\k<2 ^ 63) (hz:xs.length * k.toNat<=sizeLine) (h:∀r,H r=none->Q (.ref r) (upd H r (.lst (replicate k.toNat xs).flatten))):nJ K .Mult (.ref p) (.int k) H Q:=
 ⟨p,k,xs,rfl,rfl,h1,h2.1,h2.2,hz,h⟩
theorem BI {p r:Addr} {xs ys:List V} {te:TE} {is:List Nat} {D:Addr} (f:V->V->V) (hp:aH K H p xs) (hr:aH K H r ys) (hD:H D=none) (hz:xs.length<=sizeLine)
  (step:∀(i:Nat) (x y:V) (H1:Hp) (Q':VK),xs[i]?=some x->ys[i]?=some y->aB H H1->(∀H3,aB H1 H3->Q' (f x y) H3)->te (some x::some y::fN is σ) H1 Q')
  (fin:∀H1,aB H H1->H1 D=some (.lst (zipWith f xs ys))->Q (.ref D) H1):aS (Nu K p r) (GZ [0,1]:TX K).g (cT (none:Option (EX K))) te 2 is σ D H Q:=by
 refine ⟨λi m σ' H1=>m=min xs.length ys.length - i/\i<=min xs.length ys.length/\(∃a b,σ'=a::b::fN is σ)/\aB H H1/\H1 D=some (.lst ((zipWith f xs ys).take i)),⟨_,rfl,zero_le _,⟨none,none,rfl⟩,λb o e=>by rw[aE (aD e hD)];exact e,by rw[aA,List.take_zero]⟩,?_⟩;rintro i m σ' H1 ⟨rfl,hi,⟨a,b,rfl⟩,hS,hO⟩;have hp1:=hS.seq hp;have hr1:=hS.seq hr;by_cases hlt:i<min xs.length ys.length
 ·have l1:i<xs.length:=by lia
  have l2:i<ys.length:=by lia
  refine .inr ⟨⟨xs,ys,xs[i],ys[i],hp1,hr1,getElem?_eq_getElem l1,getElem?_eq_getElem l2⟩,?_⟩;rintro v H' ⟨t,x,y,ht,rfl,rfl,hx,hy⟩;have hx1:=hx _ hp1;have hy1:=hy _ hr1;have s1:aB H1 (upd H1 t (.tup [x,y])):=λc o e=>by rw[aE (aD e ht)];exact e
  refine rR (bX.of aA) ?_;refine ⟨λ_=>?_,λz=>nomatch z⟩;refine step i x y _ _ hx1 hy1 (hS.trans s1) λH3 s3=>?_;refine ⟨_,s3 _ _ (s1 _ _ hO),?_,min xs.length ys.length - (i+1),by lia,rfl,hlt,⟨_,_,rfl⟩,λc o q=>?_,?_⟩
  ·rw[length_take];lia
  ·rw[aE (aD q hD)];exact s3 _ _ (s1 _ _ (hS c o q))
  ·rw[aA,take_add_one,List.getElem?_zipWith,hx1,hy1];rfl
 ·have e:i=min xs.length ys.length:=by lia
  subst e;refine .inl ⟨⟨xs,ys,hp1,hr1,by lia⟩,fin H1 hS ?_⟩;rw[hO,take_of_length_le (by rw[List.length_zipWith];exact Nat.le_refl _)]
end
section
variable {K:Fg} {σ:St} {H:Hp} {Q:VK}
theorem QU {J:It} {P:Hp->Prop} {items:List V} (Y:Yl J P items) {te:TE} {is:List Nat} {D:Addr} (R:Nat->V->Hp->Prop) (hD:H D=none) (hP:∀H1,aB H H1->P H1) (hz:items.length<=sizeLine)
  (mono:∀i y H1 H2,(∀b o,b≠D->H1 b=some o->H2 b=some o)->R i y H1->R i y H2)
  (step:∀(i:Nat) (x:V) (H1:Hp) (Q':VK),items[i]?=some x->aB H H1->(∃o,H1 D=some o)->(∀y H3,aB H1 H3->R i y H3->Q' y H3)->te (some x::fN is σ) H1 Q')
  (fin:∀H1 ys,aB H H1->H1 D=some (.lst ys)->ys.length=items.length->(∀i y,ys[i]?=some y->R i y H1)->Q (.ref D) H1):aS J (iV 0:TX K).g (cT (none:Option (EX K))) te 1 is σ D H Q:=by
 refine ⟨λi m σ' H1=>m=items.length - i/\i<=items.length/\(∃a,σ'=a::fN is σ)/\aB H H1/\∃ys:List V,H1 D=some (.lst ys)/\ys.length=i/\∀j y,ys[j]?=some y->R j y H1,⟨items.length,by simp,zero_le _,⟨none,rfl⟩,λb o e=>by rw[aE (aD e hD)];exact e,[],aA,rfl,λj y z=>by simp at z⟩,?_⟩;rintro i m σ' H1 ⟨rfl,hi,⟨a,rfl⟩,hS,ys,hO,hl,hr⟩;have p:=hP H1 hS;by_cases hlt:i<items.length
 ·refine .inr ⟨Y.go i H1 p hlt,λx H' hy=>?_⟩;obtain ⟨e,hx⟩:=Y.yld i H1 x H' p hlt hy;subst e;refine ⟨λ_=>?_,λz=>nomatch z⟩;refine step i x H' _ hx hS ⟨_,hO⟩ λy H3 s3 hy3=>?_;refine ⟨ys,s3 _ _ hO,by rw[hl];lia,items.length - (i+1),by lia,rfl,hlt,⟨_,rfl⟩,λb o q=>?_,ys++[y],aA,by rw[length_append,hl];rfl,λj y' hj=>?_⟩
  ·rw[aE (aD q hD)];exact s3 _ _ (hS b o q)
  ·by_cases hj2:j<ys.length
   ·rw[getElem?_append_left hj2] at hj;exact mono j y' H' _ (λb o hb q=>by rw[aE hb];exact s3 _ _ q) (hr j y' hj)
   ·rw[getElem?_append_right (by lia)] at hj;have e0:j - ys.length=0:=by
     have:=(List.getElem?_eq_some_iff.mp hj).1;simp at this;lia
    rw[e0] at hj;have e1:y=y':=by simpa using hj
    subst e1;have e2:j=i:=by lia
    subst e2;exact mono j y H3 _ (λb o hb q=>by rw[aE hb];exact q) hy3
 ·have e:i=items.length:=by lia
  subst e;exact .inl ⟨Y.stop H1 p,fin H1 ys hS hO hl hr⟩
theorem JP {p:Addr} {xs:List V} {te:TE} {is:List Nat} {D:Addr} (R:Nat->V->Hp->Prop) (hp:bX K H p xs) (hD:H D=none) (hz:xs.length<=sizeLine)
  (mono:∀i y H1 H2,(∀b o,b≠D->H1 b=some o->H2 b=some o)->R i y H1->R i y H2)
  (step:∀(i:Nat) (x:V) (H1:Hp) (Q':VK),xs[i]?=some x->aB H H1->(∃o,H1 D=some o)->(∀y H3,aB H1 H3->R i y H3->Q' y H3)->te (some x::fN is σ) H1 Q')
  (fin:∀H1 ys,aB H H1->H1 D=some (.lst ys)->ys.length=xs.length->(∀i y,ys[i]?=some y->R i y H1)->Q (.ref D) H1):aS (Hi K p) (iV 0:TX K).g (cT (none:Option (EX K))) te 1 is σ D H Q:=QU (KY (xs:=xs)) R hD (qM hp) hz mono step fin
theorem nW {p:Addr} {xs:List V} {te:TE} {is:List Nat} {D:Addr} (f:Nat->V) (hp:aH K H p xs) (hD:H D=none) (hz:xs.length<=sizeLine)
  (step:∀(i:Nat) (x:V) (H1:Hp) (Q':VK),xs[i]?=some x->aB H H1->(∀H3,aB H1 H3->Q' (f i) H3)->te (some x::fN is σ) H1 Q')
  (fin:∀H1,aB H H1->H1 D=some (.lst ((range xs.length).map f))->Q (.ref D) H1):aS (ZS K p) (iV 0:TX K).g (cT (none:Option (EX K))) te 1 is σ D H Q:=mS (jQ (xs:=xs)) f hD (λH1 hS=>hS.seq hp) hz step fin
end
def Nv (K:Fg) (a:Addr) (n:Nat):It:=
 ⟨λi H=>i<n/\∃xs x,aH K H a xs/\xs[n - 1 - i]?=some x,λi H x H'=>H'=H/\∀xs,aH K H a xs->xs[n - 1 - i]?=some x,λi _=>i=n⟩
theorem LL {P:Program} {w:World} {K:Fg} {tg:Expr} (a it:Addr) (n:Nat):Turn P w K tg (Nv K a n) [it] it (λi h=>h.IsRevIter it a ((n:Int) - 1 - (i:Int))) where
 mem:=by simp
 obj:=λi h st b hb=>by
  have e:b=it:=by simpa using hb
  subst e;obtain ⟨o,e,c,d⟩:=st;exact ⟨o,e,λv z=>by rw[d] at z;cases z⟩
 keep:=λi h h' st k=>st.at λo e=>k it (by simp) o e
 item:=by
  intro X hP hw hK hc i pins s σ H E I hf st hg;subst hP hw hK;obtain ⟨hi,xs,x,hq,hx⟩:=hg;obtain ⟨its,rv,p,hz⟩:=I.list hq;obtain ⟨u,hu,ru⟩:=rv.get hx;obtain ⟨f0,f1,f2,f3,f4,f5⟩:=hf it (by simp);have e:(n:Int) - 1 - (i:Int)=((n - 1 - i:Nat):Int):=by lia
  rw[e] at st;refine wpAny_pyNext_rev_item st p.isList (x:=u) (by simpa using hu) λh' st' sb=>?_;have I1:Inv X pins σ H {s with heap:=h'}:=I.turned (t':=s.toks) (λb o hb e=>(sb.2 b hb).trans e) f0 f1 f3 f4 f5;have e2:((n - 1 - i:Nat):Int) - 1=(n:Int) - 1 - ((i+1:Nat):Int):=by lia
  rw[e2] at st';obtain ⟨o,e,c,d⟩:=id st';exact ⟨u,rfl,vH (s:={s with heap:=h'}) e c d (by decide) ⟨x,H,I1,ru,⟨rfl,λys hy=>by rw[I.list_inj hy hq];exact hx⟩,st',λb hb=>(hf b hb).1⟩⟩
 done:=by
  intro X hP hw hK hc i pins s σ H E I hf st hg;subst hP hw hK;have hg:i=n:=hg;subst hg;obtain ⟨f0,f1,f2,f3,f4,f5⟩:=hf it (by simp);have e:(i:Int) - 1 - (i:Int)=-1:=by lia
  rw[e] at st;exact wpAny_pyNext_rev_end (I.ok.hd hc) st λh' eb=>⟨rfl,I.turned (t':=s.toks) (λb o hb e=>eb b o hb e) f0 f1 f3 f4 f5⟩
 self:=λ_ _ _ _ _ st h=>wpAny_pyIter_revIter st h
theorem ZY {K:Fg} {a:Addr} {xs:List V}:Yl (Nv K a xs.length) (λH=>aH K H a xs) xs.reverse where
 go:=λi H p h=>by
  rw[length_reverse] at h;exact ⟨h,xs,xs[xs.length - 1 - i],p,getElem?_eq_getElem (by lia)⟩
 yld:=λi H x H' p hi h=>⟨h.1,by
  rw[length_reverse] at hi
  rw[List.getElem?_reverse hi]
  exact h.2 xs p⟩
 stop:=λH p=>by
  show xs.reverse.length=xs.length;exact length_reverse
def zY (K:Fg):List V->Hp->(It->Hp->Prop)->Prop
 |[.ref p],H,R=>∃xs,aH K H p xs/\R (Nv K p xs.length) H
 |_,_,_=>False
def Mp (a:EX K):IX K where
 t:=λE σ H R=>fF [a] E σ H λvs H1=>zY K vs H1 R
 tm:=λ_=>true
 m:=λC e=>match e with
  | .Call (.Name y _) es [] _=>mY C "reversed" y&&iD [a] C es
  |_=>false
 q:=λR=>pU [a] R
 ok:=λX C E tg e hK G hE hq _ hm=>by
  subst hK;cases e with
  |Call f es ks p=>
   cases f with
   |Name y py=>
    cases ks with
    |nil=>
     simp only [and_eq_true] at hm;obtain ⟨h1,h2⟩:=hm;have e:=bB h1;subst e;obtain ⟨g,d⟩:=bA G h1;cases es with
     |nil=>cases h2
     |cons e es=>
      intro pins s σ H R I h;refine Call_ (fL I g (G.bl _ (by decide+kernel)) PyProof.Rows.Boot.reversed (PyProof.Rows.callWith_type1 (bH (cR G hE [a] (e::es) hq h2 p pins s σ H _ I h) λus s1 ⟨vs,H1,I1,r1,q1⟩=>?_) (aO (a.sok C e (aG h2).1)) (aV [] es (aG h2).2)));replace q1:zY X.K vs H1 R:=q1;unfold zY at q1;split at q1
      ·rename_i p1;obtain ⟨u,rfl,ru⟩:=r1.one;cases ru;obtain ⟨xs,hx,q⟩:=q1;obtain ⟨ia,ra,pa,_⟩:=I1.list hx;refine call_reversed_list pa.isList ?_;have hl:((ia.toArray.size:Nat):Int) - 1=(xs.length:Int) - 1 - ((0:Nat):Int):=by rw[size_toArray,<-ra.length];lia
       have st:({s1 with heap:=s1.heap.push (revObj p1 ((ia.toArray.size:Int) - 1))}:Shared).heap.IsRevIter s1.heap.objs.size p1 ((xs.length:Int) - 1 - ((0:Nat):Int)):=⟨_,get?_push_size _ rfl,rfl,by rw[<-hl];rfl⟩;refine wpAny_pyIter_revIter st ?_;refine ⟨s1.heap.objs.size,[s1.heap.objs.size],_,_,H1,rfl,I1.kept (t':=s1.toks) λb o e=>get?_push_of_some _ e,LL p1 _ xs.length,st,λb hb=>?_,q⟩;have e:b=s1.heap.objs.size:=by simpa using hb
       subst e;exact I1.fpOk (Nat.le_refl _) (I1.hok.fresh (Nat.le_refl _))
      ·exact q1.elim
    |cons _ _=>cases hm
   |_=>exact ff hm
  |_=>exact ff hm
 fs:=λC e env x hm=>by cases e with|Call f es ks p=>rfl|_=>exact ff hm
section
variable {E:XS} {σ:St} {H:Hp} {Q:VK} {D:Ends} {a c:EX K} {bd:List (SX K)}
theorem En {R:It->Hp->Prop} (h:a.t E σ H λx H1=>zY K [x] H1 R):(Mp a).t E σ H R:=h
theorem Em {R:It->Hp->Prop} {p:Addr} {xs:List V} (c:aH K H p xs) (h:R (Nv K p xs.length) H):zY K [.ref p] H R:=⟨xs,c,h⟩
theorem OD {p:Addr} {xs:List V} {g:TG} {tb:TS} (Pv:Nat->St->Hp->Prop) (h0:Pv 0 σ H) (hl:∀i σ H,Pv i σ H->aH K H p xs)
  (hs:∀i x σ H,xs.reverse[i]?=some x->Pv i σ H->g x σ H λσ2 H2=>tb {D with nx:=Pv (i+1),ct:=Pv (i+1),bk:=D.nx} σ2 H2) (hd:∀σ H,Pv xs.length σ H->D.nx σ H):oV (Nv K p xs.length) g tb D σ H:=
 VF ZY Pv h0 (λi σ H _ q=>hl i σ H q) hs (λσ H q=>hd σ H (by rw[length_reverse] at q;exact q))
theorem xI (W:Nat->St->Hp->Prop) {m:Nat} (h0:W m σ H)
  (hs:∀m σ H,W m σ H->c.tt E σ H λb H1=>br b (∃N:St->Hp->Prop,(∀σ' H',N σ' H'->∃m',m'<m/\W m' σ' H')/\eI bd E {D with nx:=N,ct:=N,bk:=D.nx} σ H1) (D.nx σ H1)):(Oc c bd).t E D σ H:=⟨W,⟨m,h0⟩,hs⟩
theorem LC {W:Nat->St->Hp->Prop} {m:Nat} {tb:TS} (h:tb {D with nx:=λσ' H'=>∃m',m'<m/\W m' σ' H',ct:=λσ' H'=>∃m',m'<m/\W m' σ' H',bk:=D.nx} σ H):
  ∃N:St->Hp->Prop,(∀σ' H',N σ' H'->∃m',m'<m/\W m' σ' H')/\tb {D with nx:=N,ct:=N,bk:=D.nx} σ H:=⟨_,λ_ _ z=>z,h⟩
end
def TT {K:Fg} (sp:Sp) (b:List (SX K)) (N:List Str):Prop:=∀(vs:List V) (H:Hp) (Q:VK) (E:XK),sp vs H Q E->eI b (λ_=>E) {nx:=λ_ H'=>Q .non H',rt:=Q} (start N vs) H
end L2.Na
set_option compiler.extract_closed false
set_option hygiene false in
local macro_rules | `(tactic| walk_at "t") => `(tactic| (with_reducible first | refine L2.Na.kH ?_ | refine L2.Na.Lq ?_ | refine L2.Na.FZ ?_ | refine L2.Na.Ln ?_ | refine L2.Na.Qq ?_ | refine L2.Na.Qo ?_ | refine L2.Na.ZA ?_ | refine L2.Na.Md ?_ | refine L2.Na.ZC ?_ | refine L2.Na.PJ ?_ | refine L2.Na.xS ?_ | refine L2.Na.nS ?_ | refine L2.Na.Mn ?_ | refine L2.Na.Lk ?_ | refine L2.Na.Mj ?_ | refine L2.Na.Ld ?_ | refine L2.Na.Ql ?_ | refine L2.Na.Qm ?_ | refine L2.Na.Qp ?_ | refine L2.Na.Qr ?_ | refine L2.Na.Mg ?_ | refine L2.Na.Ma ?_ | refine L2.Na.Qe ?_ | refine L2.Na.Qf ?_ | refine L2.Na.Qg ?_ | refine L2.Na.Qh ?_ | refine L2.Na.Qd ?_ | refine L2.Na.YW ?_ | refine L2.Na.Lb ?_ | refine L2.Na.La ?_ | refine L2.Na.Lp ?_ | refine L2.Na.Eh ?_ | refine L2.Na.Ml ?_ | refine L2.Na.Le ?_ | refine L2.Na.Qc ?_ | refine L2.Na.Fc ?_ | refine L2.Na.Dx ?_ | refine L2.Na.Dw ?_ | refine L2.Na.Ez ?_ | refine L2.Na.Lx ?_ | refine L2.Na.YZ ?_ | refine L2.Na.Lj ?_ | refine L2.Na.Mm ?_ | refine L2.Na.Lv ?_ | refine L2.Na.Lw ?_ | refine L2.Na.Ep ?_ | refine L2.Na.Er ?_ | refine L2.Na.Lz ?_ | refine L2.Na.VZ ?_ | refine L2.Na.WA ?_ | refine L2.Na.OS ?_ | refine L2.Na.JF ?_ | refine L2.Na.PF ?_ | refine L2.Na.WG ?_ | refine L2.Na.OT ?_ | refine L2.Na.Qn ?_ | refine L2.Na.Ll ?_ | refine L2.Na.Qk ?_ | refine L2.Na.Qj ?_ | refine L2.Na.Qi ?_ | refine L2.Na.OY ?_ | refine L2.Na.Li ?_ | refine L2.Na.Es ?_ | refine L2.Na.WL ?_ | refine L2.Na.WI ?_ | refine L2.Na.PK ?_ | refine L2.Na.Qs ?_ | refine L2.Na.Lc ?_ | refine L2.Na.Dv ?_ | refine L2.Na.Mc ?_ | refine L2.Na.Ey ?_ | refine L2.Na.PH ?_ | refine L2.Na.Mf ?_ | refine L2.Na.Lm ?_ | refine L2.Na.Et ?_ | refine L2.Na.Ly ?_ | refine L2.Na.Ex ?_ | refine L2.Na.WM ?_ | refine L2.Na.Ej ?_ | refine L2.Na.YY ?_ | refine L2.Na.OU ?_ | refine L2.Na.JG ?_ | refine L2.Na.Me ?_ | refine L2.Na.Lh ?_))
local macro_rules | `(tactic| walk_at "s") => `(tactic| first
 | ((with_reducible refine L2.Na.FX (v := ?v) ?h1 ?_); (case h1 => exact rfl))
 | walk_at "t"
 | ((with_reducible refine L2.Na.Lr ?h1 ?_); (case h1 => first | exact Or.inl ⟨by omega, by omega⟩ | exact Or.inr ⟨by omega, by omega⟩))
 | ((with_reducible refine L2.Na.Mi ?h1 ?_); (case h1 => exact ⟨by omega, by omega⟩))
 | ((with_reducible refine L2.Na.Ls ?h1 ?_); (case h1 => omega))
 | ((with_reducible refine L2.Na.El ?h1 ?_); (case h1 => exact ⟨by omega, by omega⟩))
 | ((with_reducible refine L2.Na.Ek ?h1 ?_); (case h1 => exact ⟨by omega, by omega, by omega, by omega⟩))
 | ((with_reducible refine L2.Na.eO (xs := ?xs) ?h1 ?_); (case h1 => assumption))
 | ((with_reducible refine L2.Na.PB (xs := ?xs) ?h1 ?_); (case h1 => assumption))
 | ((with_reducible refine L2.Na.Kz ?h1 ?_); (case h1 => rfl)))
local macro_rules | `(tactic| walk_at "") => `(tactic| repeat (walk_at "s"))
namespace L2.Na
open PySem PySem.Spec PyProof.Rows L2 L2.L3
section
variable {K:Fg} {σ:St} {H:Hp} {Q:VK}
theorem QT {p:Addr} {xs:List V} {te:TE} {is:List Nat} {D:Addr} (f U W:Nat->V) (hp:aH K H p xs) (hx:∀(i:Nat) (x:V),xs[i]?=some x->∃t,x=.ref t/\bX K H t [U i,W i]) (hD:H D=none) (hz:xs.length<=sizeLine)
  (step:∀(i:Nat) (H1:Hp) (Q':VK),i<xs.length->aB H H1->(∀H3,aB H1 H3->Q' (f i) H3)->te (some (U i)::some (W i)::fN is σ) H1 Q')
  (fin:∀H1,aB H H1->H1 D=some (.lst ((range xs.length).map f))->Q (.ref D) H1):aS (ZS K p) (GZ [0,1]:TX K).g (cT (none:Option (EX K))) te 2 is σ D H Q:=by
 refine ⟨λi m σ' H1=>m=xs.length - i/\i<=xs.length/\(∃a b,σ'=a::b::fN is σ)/\aB H H1/\H1 D=some (.lst ((range i).map f)),⟨xs.length,by simp,zero_le _,⟨none,none,rfl⟩,λb o e=>by rw[aE (aD e hD)];exact e,aA⟩,?_⟩;rintro i m σ' H1 ⟨rfl,hi,⟨a,b,rfl⟩,hS,hO⟩;have hp1:=hS.seq hp;by_cases hlt:i<xs.length
 ·refine .inr ⟨(jQ (xs:=xs)).go i H1 hp1 hlt,λx H' hy=>?_⟩;obtain ⟨e,hx1⟩:=(jQ (xs:=xs)).yld i H1 x H' hp1 hlt hy;subst e;obtain ⟨t,rfl,ht⟩:=hx i x hx1;refine rR (qM ht _ hS) ?_;refine ⟨λ_=>?_,λz=>nomatch z⟩;refine step i H' _ hlt hS λH3 s3=>?_;refine ⟨_,s3 _ _ hO,by rw[length_map,length_range];lia,xs.length - (i+1),by lia,rfl,hlt,⟨_,_,rfl⟩,λb o q=>?_,?_⟩
  ·rw[aE (aD q hD)];exact s3 _ _ (hS b o q)
  ·rw[aA,range_succ,map_append];rfl
 ·have e:i=xs.length:=by lia
  subst e;exact .inl ⟨(jQ (xs:=xs)).stop H1 hp1,fin H1 hS hO⟩
end
end L2.Na
namespace PySem
namespace F
end F
section
variable {prog:Program} {w:World} {A:Around} {E:Value->Shared->Prop} {s:Shared}
end
end PySem
namespace L2.Na
open PySem PySem.Spec PyProof.Rows L2 L2.L3
variable {K:Fg}
section
variable {E:XS} {σ:St} {H:Hp} {a:EX K}
end
theorem Dt {k:Key} {u:Value} (h:oP k u=true):RelV (kV k) u:=by
 rcases aW h with ⟨i,t,rfl,rfl⟩|⟨x,t,rfl,rfl⟩
 ·exact ⟨t,rfl⟩
 ·exact ⟨t,rfl⟩
def Ng (op:CmpOp) (r:R2) (hr:∀X:Cx,X.K=K->X.A.units+64<cLine->gH X (compareOp op) r) (a b:EX K):EX K where
 t:=λE=>Ak r (a.t E) (b.t E)
 tt:=λE σ H Q=>a.t E σ H λx H1=>b.t E σ H1 λy H2=>r x y H2 λv H3=>∃c,v=.bl c/\Q c H3
 m:=λC e=>match e with
  | .Compare l [o] [r] _=>decide (o=op)&&(a.m C l&&b.m C r)
  |_=>false
 q:=λR=>a.q R/\b.q R
 s:=.pl
 ok:=λX C E e hK G hE hq hm=>by
  subst hK;cases e with
  |Compare l os rs p=>
   match os,rs,hm with
   |[o],[r'],hm=>
    simp only [and_eq_true] at hm;obtain ⟨h1,h2,h3⟩:=hm;have e:=of_decide_eq_true h1;subst e;exact FE (hr X rfl G.hu) (a.ok X C E l rfl G hE hq.1 h2) (b.ok X C E r' rfl G hE hq.2 h3) (gA (b.sok C r' h3))
  |_=>exact ff hm
 okT:=λX C E e hK G hE hq hm=>by
  subst hK;cases e with
  |Compare l os rs p=>
   match os,rs,hm with
   |[o],[r'],hm=>
    simp only [and_eq_true] at hm;obtain ⟨h1,h2,h3⟩:=hm;have e:=of_decide_eq_true h1;subst e;intro pins s σ H Q I hw;refine wpAny_isTrue_Compare1 (bH (a.ok X C E l rfl G hE hq.1 h2 pins s σ H _ I hw) λv s1 ⟨x,H1,I1,r1,q1⟩=>bH (b.ok X C E r' rfl G hE hq.2 h3 pins s1 σ H1 _ I1 q1) λu s2 ⟨y,H2,I2,r2,q2⟩=>
     bH (hr X rfl G.hu pins s2 σ H2 x y v u _ I2 r1 r2 q2) λc s3 ⟨z,H3,I3,r3,q3⟩=>?_) (gA (b.sok C r' h3))
    obtain ⟨d,rfl,q⟩:=q3;cases r3;exact wpAny_truthy_bool ⟨H3,I3,q⟩
  |_=>exact ff hm
 sok:=λC e hm=>by cases e with|Compare l o r p=>rfl|_=>exact ff hm
section
variable {E:XS} {σ:St} {H:Hp} {a b:EX K}
end
end L2.Na
namespace ZT
open PySem PySem.Spec PyProof.Rows
section
variable {prog:Program} {w:World} {A:Around} {E:Value->Shared->Prop} {s:Shared}
end
end ZT
namespace L2.Na
open PySem PySem.Spec PyProof.Rows L2 L2.L3
theorem uF:∀(ps:List Str) (k:Nat),Vals (ps.map V.str) (strsFrom k ps)
 |[],_=>.nil
 |p::ps,k=>.cons ⟨k,rfl⟩ (uF ps (k+1))
def Bk:V->List V->Hp->VK->Prop:=λx vs H Q=>∃z y,x=.str z/\vs=[.str y]/\(y.length==0)=false/\z.length+2<=sizeLine/\∀p,H p=none->Q (.ref p) (upd H p (.lst ((Txt.split z y).map V.str)))
theorem NP {X:Cx}:Gm X "str.split" Bk:=by
 intro pins s σ H x vs v us Q I rx rv h;obtain ⟨z,y,rfl,rfl,hy,hz,q⟩:=h;obtain ⟨t,rfl⟩:=rx;obtain ⟨u,rfl,ru⟩:=rv.one;obtain ⟨t',rfl⟩:=ru;have fin:∀(ps:List Str) (its:List Value) (k:Nat),Txt.split z y=ps->ps.length<=sizeLine->Vals (ps.map V.str) its->EP X pins σ Q (.ref s.heap.objs.size) {s with heap:=s.heap.push {cls:=.type "list",data:=.seq its.toArray},toks:=k}:=λps its k e hl hv=>by
  refine ⟨.ref s.heap.objs.size,_,I.laid (a:=s.heap.objs.size) (o:=.lst (ps.map V.str)) (t':=k) (λ_ _ q=>get?_push_of_some _ q) (Nat.le_refl _) ⟨by rw[length_map];exact hl,its,0,hv,get?_push_size _ rfl⟩,rfl,?_⟩;rw[<-e];exact q _ (I.hok.fresh (Nat.le_refl _))
 have hn:(Builtin.Str.partsBetween z (Builtin.Str.occurrences z y 0 z.length (z.length+1)) y.length).length<=sizeLine:=by
  have e1:=StrLaws.occ_length_le z y 0 z.length (z.length+1);rw[length_partsBetween];lia
 have one:([z]:List Str).length<=sizeLine:=by show 1<=sizeLine;decide
 cases h1:(decide (z.length<y.length) || decide (Builtin.Str.strKind z<Builtin.Str.strKind y)) with
 |true=>
  exact call_meets F.slot_str_split (typeIs_str _ _ _) F.entry_str_split (F.args_str_split_2 _ _) (meets_str_split_cannot_occur z y t t' h1) (fin [z] _ s.toks (if_pos h1) one (.cons ⟨t,rfl⟩ .nil))
 |false=>
  cases hf:(Builtin.Str.occurrences z y 0 z.length (z.length+1)).isEmpty with
  |true=>
   exact call_meets F.slot_str_split (typeIs_str _ _ _) F.entry_str_split (F.args_str_split_2 _ _) (meets_str_split_not_found z y t t' h1 hy hf) (fin [z] _ s.toks ((if_neg (ne_true_of_eq_false h1)).trans (if_pos hf)) one (.cons ⟨t,rfl⟩ .nil))
  |false=>
   exact call_meets F.slot_str_split (typeIs_str _ _ _) F.entry_str_split (F.args_str_split_2 _ _) (meets_str_split_sep z y t t' h1 hy hf (by lia) hn) (fin _ _ _ ((if_neg (ne_true_of_eq_false h1)).trans (if_neg (ne_true_of_eq_false hf))) hn (uF _ _))
variable {K:Fg}
def pN:Str->List V->Hp->VK->Prop
 |z,[.str y],H,Q=>(y.length==0)=false/\z.length+2<=sizeLine/\∀p,H p=none->Q (.ref p) (upd H p (.lst ((Txt.split z y).map V.str)))
 |_,_,_,_=>False
def m_split (o a:EX K) (ho:o.s≠.zc:=by intro z;cases z):EX K:=AM "split" "str.split" pN PySem.F.slot_str_split PySem.F.type_str_split (λX hK _ _=>NU NP (λz ys H Q h=>by
 unfold pN at h
 split at h
 ·exact ⟨_,_,rfl,rfl,h⟩
 ·exact h.elim)) o ho [a]
section
variable {E:XS} {σ:St} {H:Hp} {D:Ends} {Q:VK} {a b c:EX K}
theorem FY {o:EX K} {ho:o.s≠.zc} (h:o.t E σ H λx H1=>RS pN (fF [a] E) x σ H1 Q):(m_split o a ho).t E σ H Q:=h
theorem AX {z y:Str} (c:(y.length==0)=false) (d:z.length+2<=sizeLine) (h:∀p,H p=none->Q (.ref p) (upd H p (.lst ((Txt.split z y).map V.str)))):pN z [.str y] H Q:=⟨c,d,h⟩
end
open PySem.SeqAt
def EJ (x y:V) (b:Bool):Prop:=(∃i j,x=.int i/\y=.int j/\b=(i==j))\/(∃w z,x=.str w/\y=.str z/\b=(w==z))\/(∃k l,x=.bl k/\y=.bl l/\b=(k==l))\/(x=.non/\y=.non/\b=true)\/(∃i,x=.non/\y=.int i/\b=false)\/(∃i,x=.int i/\y=.non/\b=false)
def Rb (H:Hp) (x y:V) (b:Bool):Prop:=EJ x y b\/∃p q xs ys e,x=.ref p/\y=.ref q/\p≠q/\H p=some (.lst xs)/\H q=some (.lst ys)/\xs.length=ys.length/\(∀(i:Nat) (x y:V),xs[i]?=some x->ys[i]?=some y->EJ x y (e i))/\b=(range xs.length).all e
section
variable {X:Cx} {pins:List (Addr × Obj)} {σ:St} {H:Hp} {s:Shared}
theorem GG {A:Around} {x y:V} {u v:Value} {b:Bool} (h:EJ x y b) (r1:RelV x u) (r2:RelV y v):EqAt A s u v b:=by
 rcases h with ⟨i,j,rfl,rfl,rfl⟩|⟨w,z,rfl,rfl,rfl⟩|⟨k,l,rfl,rfl,rfl⟩|⟨rfl,rfl,rfl⟩|⟨i,rfl,rfl,rfl⟩|⟨i,rfl,rfl,rfl⟩
 ·obtain ⟨t,rfl⟩:=r1;obtain ⟨t2,rfl⟩:=r2;exact EqAt.int_int i t j t2
 ·obtain ⟨t,rfl⟩:=r1;obtain ⟨t2,rfl⟩:=r2;exact EqAt.str_str w t z t2
 ·cases r1;cases r2;exact EqAt.bool_bool k l
 ·cases r1;cases r2;exact EqAt.same _
 ·cases r1;obtain ⟨t,rfl⟩:=r2;exact EqAt.none_int i t
 ·obtain ⟨t,rfl⟩:=r1;cases r2;exact EqAt.int_none i t
theorem nU {A:Around} {R:V->V->Bool->Prop} {e:Nat->Bool} {xs ys:List V} {us vs:List Value} (r1:Vals xs us) (r2:Vals ys vs) (hi:∀(i:Nat) (x y:V),xs[i]?=some x->ys[i]?=some y->R x y (e i))
  (ih:∀(x y:V) (u v:Value) (b:Bool),R x y b->RelV x u->RelV y v->EqAt A s u v b):∀j (h1:j<us.toArray.size) (h2:j<vs.toArray.size),EqAt A s us.toArray[j] vs.toArray[j] (e j):=λj h1 h2=>by
 obtain ⟨x,e1,q1⟩:=pI r1 h1;obtain ⟨y,e2,q2⟩:=pI r2 h2;exact ih x y _ _ _ (hi j x y e1 e2) q1 q2
theorem PZ (I:Inv X pins σ H s) {A:Around} {x y:V} {u v:Value} {b:Bool} (hu:A.units+4<cLine) (h:Rb H x y b) (r1:RelV x u) (r2:RelV y v):EqAt A s u v b:=by
 rcases h with h|⟨p,q,xs,ys,e,rfl,rfl,hne,h1,h2,hl,hi,rfl⟩
 ·exact GG h r1 r2
 ·cases r1;cases r2;refine EqAt.of_refs hne ?_;obtain ⟨_,its,n1,k1,l1,g1⟩:=I.lstM h1;obtain ⟨_,its2,n2,k2,l2,g2⟩:=I.lstM h2;have z:=RcAt.lists (A:=A) (e:=e) (⟨_,g1,rfl,n1,rfl⟩:s.heap.IsList p its.toArray) (⟨_,g2,rfl,n2,rfl⟩:s.heap.IsList q its2.toArray) (by rw[size_toArray,size_toArray];lia) (by lia)
   (nU k1 k2 hi λx y u v b=>GG)
  rw[size_toArray,<-k1.length] at z;exact z
def UE:R2:=λx y H Q=>∃p q xs ys e,x=.ref p/\y=.ref q/\((H p=some (.lst xs)/\H q=some (.lst ys))\/(H p=some (.tup xs)/\H q=some (.tup ys)))/\xs.length=ys.length/\(∀(i:Nat) (x y:V),xs[i]?=some x->ys[i]?=some y->Rb H x y (e i))/\Q (.bl ((range xs.length).all e)) H
theorem Cy (hu:X.A.units+64<cLine):gH X (compareOp .Eq) UE:=by
 intro pins s σ H x y v u Q I rx ry h;obtain ⟨p,q,xs,ys,e,rfl,rfl,hh,hl,hi,qq⟩:=h;cases rx;cases ry;have hu1:X.A.in1.units+4<cLine:=by show X.A.units+1+4<cLine;lia
 rcases hh with ⟨h1,h2⟩|⟨h1,h2⟩
 ·obtain ⟨_,its,n1,k1,l1,g1⟩:=I.lstM h1;obtain ⟨_,its2,n2,k2,l2,g2⟩:=I.lstM h2;have z:=RcAt.lists (A:=X.A) (e:=e) (⟨_,g1,rfl,n1,rfl⟩:s.heap.IsList p its.toArray) (⟨_,g2,rfl,n2,rfl⟩:s.heap.IsList q its2.toArray) (by rw[size_toArray,size_toArray];lia) (by lia)
   (nU k1 k2 hi λx y u v b h r1 r2=>PZ I hu1 h r1 r2)
  rw[size_toArray,<-k1.length] at z;exact z X.prog X.w X.xe _ ⟨.bl _,H,I,rfl,qq⟩
 ·obtain ⟨its,k1,p1,_⟩:=I.tuple (bX.of h1);obtain ⟨its2,k2,p2,_⟩:=I.tuple (bX.of h2);have z:=RcAt.tuples (A:=X.A) (e:=e) (show s.heap.IsTuple p its.toArray from p1) (show s.heap.IsTuple q its2.toArray from p2) (by lia)
   (nU k1 k2 hi λx y u v b h r1 r2=>PZ I hu1 h r1 r2)
  have e3:its.toArray.size=its2.toArray.size:=by rw[size_toArray,size_toArray,<-k1.length,<-k2.length];exact hl
  rw[e3,beq_self_eq_true,Bool.and_true] at z;have e4:its2.toArray.size=xs.length:=by rw[size_toArray,<-k2.length];exact hl.symm
  simp only [e4,Nat.min_self] at z;exact z X.prog X.w X.xe _ ⟨.bl _,H,I,rfl,qq⟩
end
section
def Rz (a b:EX K):EX K:=Ng .Eq UE (λ_ _ hu=>Cy hu) a b
variable {E:XS} {σ:St} {H:Hp} {a b:EX K}
theorem Mh {Q:VK} (h:a.t E σ H λx H1=>b.t E σ H1 λy H2=>UE x y H2 Q):(Rz a b).t E σ H Q:=h
end
def zX:List V->Hp->VK->Prop
 |[.int i],H,Q=>i.natAbs.log2<1920/\Q (.str (ofString (toString i))) H
 |[.str z],H,Q=>Q (.str z) H
 |_,_,_=>False
theorem Ao (X:Cx):bN X (.type "str") zX:=by
 intro pins s σ H xs us Q I r h;unfold zX at h;split at h
 ·obtain ⟨u,rfl,ru⟩:=r.one;obtain ⟨t,rfl⟩:=ru;exact PySem.P.str_of_int h.1 ⟨.str _,H,I.tok _,⟨_,rfl⟩,h.2⟩
 ·obtain ⟨u,rfl,ru⟩:=r.one;obtain ⟨t,rfl⟩:=ru;exact PySem.P.str_of_str ⟨.str _,H,I,⟨_,rfl⟩,h⟩
 ·exact h.elim
def HM (a:EX K):EX K:=Hg "str" "str" zX (λX _ _ _=>Ao X) PyProof.Rows.Boot.str (by decide+kernel) (by decide+kernel) a []
theorem rW {E:XS} {σ:St} {H:Hp} {Q:VK} {a:EX K} (h:a.t E σ H λx H1=>zX [x] H1 Q):(HM a).t E σ H Q:=h
theorem rX {i:Int} {H:Hp} {Q:VK} (c:i.natAbs.log2<1920) (h:Q (.str (ofString (toString i))) H):zX [.int i] H Q:=⟨c,h⟩
def AD:List V->Hp->VK->Prop
 |[.str z],H,Q=>∃n,PySem.intText? z=some n/\z.length<=640/\Q (.int n) H
 |_,_,_=>False
theorem VT (X:Cx):bN X (.type "int") AD:=by
 intro pins s σ H xs us Q I r h;unfold AD at h;split at h
 ·obtain ⟨u,rfl,ru⟩:=r.one;obtain ⟨t,rfl⟩:=ru;obtain ⟨n,h1,h2,h3⟩:=h;exact PySem.W.KIN.call_text h1 h2 ⟨.int _,H,I.tok _,⟨_,rfl⟩,h3⟩
 ·exact h.elim
def AS (a:EX K):EX K:=Hg "int" "int" AD (λX _ _ _=>VT X) PyProof.Rows.Boot.int (by decide+kernel) (by decide+kernel) a []
theorem gR {E:XS} {σ:St} {H:Hp} {Q:VK} {a:EX K} (h:a.t E σ H λx H1=>AD [x] H1 Q):(AS a).t E σ H Q:=h
theorem gS {z:Str} {n:Int} {H:Hp} {Q:VK} (e:PySem.intText? z=some n) (c:z.length<=640) (h:Q (.int n) H):AD [.str z] H Q:=⟨n,e,c,h⟩
def mG:SX K where
 t:=λ_ _ _ _=>False
 m:=λ_ _=>true
 q:=λ_=>True
 ok:=λ_ _ _ _ _ _ _ _ _ _ _ _ _ _ _ h=>h.elim
def Rp:EX K where
 t:=λ_ _ _ _=>False
 tt:=λ_ _ _ _=>False
 m:=λ_ e=>decide (gB e=some .pl)
 q:=λ_=>True
 s:=.pl
 ok:=λ_ _ _ _ _ _ _ _ _ _ _ _ _ _ _ h=>h.elim
 okT:=λ_ _ _ _ _ _ _ _ _ _ _ _ _ _ _ h=>h.elim
 sok:=λ_ _ h=>of_decide_eq_true h
def Mz (a b:EX K):EX K:=iB (λE=>YA [(a.t E,b.t E)])
 (λC e=>match e with
  | .Dict [some k] [v] _=>a.m C k&&b.m C v
  |_=>false) (λR=>a.q R/\b.q R) .pl
 (λX C E e hK G hE hq hm=>by
  subst hK
  cases e with
  |Dict ks vs p=>
   match ks,vs,hm with
   |[some k],[v],hm=>
    simp only [and_eq_true] at hm
    exact UP (MY (a.ok X C E k rfl G hE hq.1 hm.1) (b.ok X C E v rfl G hE hq.2 hm.2) UK) rfl rfl (by simp) (by show 1<=15;decide)
  |_=>exact ff hm)
 (λC e hm=>by cases e with|Dict es k p=>exact ⟨rfl,rfl⟩|_=>exact ff hm)
def MT:R2:=λy x H Q=>∃a o,x=.ref a/\fV H a y o/\Q (.bl (!o.isSome)) H
theorem UT {X:Cx} (hu:X.A.units+64<cLine):gH X (compareOp .NotIn) MT:=by
 intro pins s σ H y x v u Q I ry rx h;obtain ⟨a,o,rfl,g,q⟩:=h;cases (show u=Value.ref a from rx);exact XB (by lia) I g ry λs' I'=>⟨.bl (!o.isSome),H,I',rfl,q⟩
def Kj (a b:EX K):EX K:=Ng .NotIn MT (λ_ _ hu=>UT hu) a b
section
variable {E:XS} {σ:St} {H:Hp} {Q:VK} {QB:Bool->Hp->Prop} {a b:EX K}
def YJ (p:Addr) (x y:V) (H2:Hp) (Q:VK):Prop:=H2 p=some (.dK [])/\∃kvs:List (Key × V),[(x,y)]=kvs.map (λkv=>(kV kv.1,kv.2))/\kvs.length<=15/\Q (.ref p) (upd H2 p (.dK (nM [] kvs)))
theorem Ew (h:∀p,H p=none->a.t E σ (upd H p (.dK [])) λx H1=>b.t E σ H1 λy H2=>YJ p x y H2 Q):(Mz a b).t E σ H Q:=h
theorem WK {p:Addr} {k:Key} {y:V} (h1:H p=some (.dK [])) (h:Q (.ref p) (upd H p (.dK [(k,y)]))):YJ p (kV k) y H Q:=⟨h1,[(k,y)],rfl,(by show 1<=15;decide),h⟩
theorem Du (h:a.t E σ H λx H1=>b.t E σ H1 λy H2=>MT x y H2 λv H3=>∃c,v=.bl c/\QB c H3):(Kj a b).tt E σ H QB:=h
end
end L2.Na
namespace LD
open PySem
section
variable {prog:Program} {w:World} {K:Type} [DecidableEq K] {knd:KeyKind prog w K} {A:Around} {E:Value->Shared->Prop} {s:Shared}
theorem PX {R:Result->Shared->Prop} (hh:A.handled=none) {d:Addr} {kvs:List (K × Value)} {ep:Nat} (hsm:(d==sysModules)=false) (hm:s.heap.DictAt knd d kvs ep) (S:Addr) (hSd:S≠d) (res:Value) (ay:Nat) (hS:s.heap.get? S=some {cls:=.type "list",data:=.seq #[] ay})
  (hR:∀h' tk acc' c',(∀b o,b≠S->s.heap.get? b=some o->h'.get? b=some o)->h'.get? S=some {cls:=.type "list",dict:=none,data:=.seq acc' c',slots:=#[]}->
   ItemsOf (λi v=>∃k x,kvs[i]?=some (k,x)/\knd.is k v=true) acc' kvs.length->R (.ok (.ret res)) {s with heap:=h',toks:=tk}) (hn:kvs.length<=sizeLine):
  wpAny (model prog w) A.in1 (Builtin.List.listExtendWith (.ref S) (.ref d) res)
   (λfin s'=>match fin with| .done f=>R (.ok f) s'| .again c'=>c'.quiet=true/\codeAny (model prog w) A c' R s') (λe s'=>R (.error e) s') s:=by
 have hT:s.TypeIs (.ref d) "dict":=hm.dictOf.typeIs;have hSI:S≠s.heap.objs.size:=ne_of_lt (lt_size hS);have hdI:d≠s.heap.objs.size:=by
  obtain ⟨o,es,ho,_⟩:=hm;exact ne_of_lt (lt_size ho)
 have hSf:S∉[s.heap.objs.size,d]:=λhm'=>by
  rcases mem_cons.mp hm' with h|h
  ·exact hSI h
  ·exact hSd (by simpa using h)
 unfold Builtin.List.listExtendWith;refine wpAny_bind (wpAny_typeOf hT ?_);have h1:Builtin.List.listSameRef (.ref S) (.ref d)=false:=by simp [Builtin.List.listSameRef,hSd]
 have h2:(Value.type "dict"==Value.type "list")=false:=by decide
 have h3:(Value.type "dict"==Value.type "tuple")=false:=by decide
 simp only [h1,h2,h3,Bool.or_false,false_eq_true,if_false];refine wpAny_bind (wpAny_pyIter_dict hsm hm ?_);refine wpAny_bind (wpAny_holding ?_);have hm1:(s.heap.push {cls:=.type "dict_keyiterator",data:=.fields #[.ref d,.int 0 0,.int kvs.length 0,.int ep 0]}).DictAt knd d kvs ep:=hm.at' λo e=>get?_push_of_some _ e;have hT1:({s with heap:=s.heap.push {cls:=.type "dict_keyiterator",data:=.fields #[.ref d,.int 0 0,.int kvs.length 0,.int ep 0]}}:Shared).TypeIs (.ref d) "dict":=DictOf.typeIs (s:={s with heap:=s.heap.push {cls:=.type "dict_keyiterator",data:=.fields #[.ref d,.int 0 0,.int kvs.length 0,.int ep 0]}}) hm1.dictOf;unfold Builtin.List.listLengthHint;refine wpAny_bind (wpAny_specialOf hT1 F.slot_dict_len.lookup ?_)
 wp_delta
 refine wpAny_bind (wpAny_isInstance (T:="dict") (b:=true) hT1 (by rw[isSubtype_type];kernel_rfl) ?_);show wpAny _ _ (typeOf (Value.ref d) >>=_) _ _ _;refine wpAny_bind (wpAny_typeOf hT1 ?_);refine wpAny_pure ?_;rw[if_pos (by decide)];refine wpAny_bind (wpAny_rule ?_);refine wpAny_bind ?_;show wpAny _ A.in1 (updateSeq S (·.push .none) >>=λ_=>updateSeq S (·.pop)) _ _ _;have hS1:(s.heap.push {cls:=.type "dict_keyiterator",data:=.fields #[.ref d,.int 0 0,.int kvs.length 0,.int ep 0]}).get? S=some {cls:=.type "list",data:=.seq #[] ay}:=get?_push_of_some _ hS;refine wpAny_bind (wpAny_updateSeq hS1 rfl ?_);have aj:=get?_update_self (Obj.mapSeq (·.push Value.none)) hS1 rfl;refine wpAny_updateSeq (hz:=by seq_fits) aj rfl ?_;have bb:=get?_update_self (Obj.mapSeq (·.pop)) aj rfl;have oth:∀b o,b≠S->(s.heap.push {cls:=.type "dict_keyiterator",data:=.fields #[.ref d,.int 0 0,.int kvs.length 0,.int ep 0]}).get? b=some o->(((s.heap.push {cls:=.type "dict_keyiterator",data:=.fields #[.ref d,.int 0 0,.int kvs.length 0,.int ep 0]}).update S (Obj.mapSeq (·.push Value.none))).update S (Obj.mapSeq (·.pop))).get? b=some o:=
  λb o hb e=>(get?_update_other _ _ (Ne.symm hb)).trans ((get?_update_other _ _ (Ne.symm hb)).trans e)
 have hit:(s.heap.push {cls:=.type "dict_keyiterator",data:=.fields #[.ref d,.int 0 0,.int kvs.length 0,.int ep 0]}).IsKeyIter s.heap.objs.size d 0 kvs.length ep:=⟨_,get?_push_size _ rfl,rfl,rfl⟩;refine wpAny_pure ⟨plainId_quiet F.plain_extend_loop _,codeAny_extend_loopS (Walks.dictKeys (A:=A.in1) (knd:=knd) hh s.heap.objs.size d hdI kvs ep).toS hn _ hSf _ kvs.length 0 _ _ _ rfl (zero_le _)
  ⟨hit.at λo e=>oth _ o (Ne.symm hSI) e,hm1.at' λo e=>oth _ o (Ne.symm hSd) e⟩ bb (ItemsOf.nil _) λs' acc' c' hm' hS' hacc=>?_⟩
 rw[Moved.eq_with hm'];refine hR s'.heap s'.toks acc' c' (λb ob hb e=>hm'.heap b ob (λhmem=>?_) (oth b ob hb (get?_push_of_some _ e))) hS' hacc;rcases mem_cons.mp hmem with e'|hmem
 ·exact hb e'
 ·exact absurd (lt_size e) (by rw[mem_singleton.mp hmem];exact lt_irrefl _)
theorem JE {R:Result->Shared->Prop} (hh:A.handled=none) {d:Addr} {kvs:List (K × Value)} {ep:Nat} (hsm:(d==sysModules)=false) (hm:s.heap.DictAt knd d kvs ep) (S:Addr) (hSd:S≠d) (hS:s.heap.get? S=some {cls:=.type "list",data:=.seq #[]})
  (hR:∀h' tk acc' c',(∀b o,b≠S->s.heap.get? b=some o->h'.get? b=some o)->h'.get? S=some {cls:=.type "list",dict:=none,data:=.seq acc' c',slots:=#[]}->
   ItemsOf (λi v=>∃k x,kvs[i]?=some (k,x)/\knd.is k v=true) acc' kvs.length->R (.ok (.ret .none)) {s with heap:=h',toks:=tk}) (hn:kvs.length<=sizeLine):
  wpAny (model prog w) A.in1 (Builtin.«list.__init__» ⟨[.ref S,.ref d],[]⟩)
   (λfin s'=>match fin with| .done f=>R (.ok f) s'| .again c'=>c'.quiet=true/\codeAny (model prog w) A c' R s') (λe s'=>R (.error e) s') s:=by
 show wpAny _ _ (do let old <-Builtin.List.listItems (.ref S);Builtin.List.listUpdate (.ref S) (λ_=>#[]);letGo old.toList.reverse;Builtin.List.listExtendWith (.ref S) (.ref d) .none) _ _ s;refine wpAny_bind ?_;unfold Builtin.List.listItems;refine wpAny_bind (wpAny_seqItems hS rfl (wpAny_pure ?_));show wpAny _ _ (updateSeq S (λ_=>#[]) >>=λ_=>letGo (#[]:Array Value).toList.reverse >>=λ_=>Builtin.List.listExtendWith (.ref S) (.ref d) .none) _ _ s;refine wpAny_bind (wpAny_updateSeq hS rfl ?_);have aj:=get?_update_self (Obj.mapSeq (λ_=>(#[]:Array Value))) hS rfl;have oth:∀b o,b≠S->s.heap.get? b=some o->(s.heap.update S (Obj.mapSeq (λ_=>(#[]:Array Value)))).get? b=some o:=
  λb o hb e=>(get?_update_other _ _ (Ne.symm hb)).trans e
 refine wpAny_bind (wpAny_letGo ?_);refine PX (s:={s with heap:=s.heap.update S (Obj.mapSeq (λ_=>(#[]:Array Value)))}) hh hsm (hm.at' λo e=>oth _ o (Ne.symm hSd) e) S hSd .none _ aj (λh' tk acc' c' hk hS' hacc=>?_) hn;exact hR h' tk acc' c' (λb o hb e=>hk b o hb (oth b o hb e)) hS' hacc
theorem sZ {Q:Value->Shared->Prop} (hh:A.handled=none) {d:Addr} {kvs:List (K × Value)} {ep:Nat} (hsm:(d==sysModules)=false) (hm:s.heap.DictAt knd d kvs ep)
  (hQ:∀h' tk acc' c',(∀b o,s.heap.get? b=some o->h'.get? b=some o)->
   h'.get? s.heap.objs.size=some {cls:=.type "list",dict:=none,data:=.seq acc' c',slots:=#[]}->ItemsOf (λi v=>∃k x,kvs[i]?=some (k,x)/\knd.is k v=true) acc' kvs.length->Q (.ref s.heap.objs.size) {s with heap:=h',toks:=tk}) (hn:kvs.length<=sizeLine):
  wpAny (model prog w) A (call (.type "list") [.ref d]) Q E s:=by
 refine callType_codes (Q₁:=λobj aa=>obj=.ref s.heap.objs.size/\aa={s with heap:=s.heap.push {cls:=.type "list",data:=.seq #[]}}) F.called_list (F.typeCall_list_1 _) F.entry_list_init
  (code_list_new _ ⟨rfl,rfl⟩) λobj aa ae=>?_
 obtain ⟨rfl,rfl⟩:=ae;have hS:(s.heap.push {cls:=.type "list",data:=.seq #[]}).get? s.heap.objs.size=some {cls:=.type "list",data:=.seq #[]}:=get?_push_size _ rfl;have hdI:s.heap.objs.size≠d:=by
  obtain ⟨o,es,ho,_⟩:=hm;exact (ne_of_lt (lt_size ho)).symm
 refine ⟨⟨_,hS,rfl⟩,F.args_list_init_2 _ _,JE (s:={s with heap:=s.heap.push {cls:=.type "list",data:=.seq #[]}}) (A:=A.in1) hh hsm (hm.at' λo e=>get?_push_of_some _ e) _ hdI hS (λh' tk acc' c' hk hS' hacc=>?_) hn⟩;exact ⟨rfl,hQ h' tk acc' c' (λb o e=>hk b o (ne_of_lt (lt_size e)) (get?_push_of_some _ e)) hS' hacc⟩
end
end LD
namespace L2.Na
open PySem PySem.Spec PyProof.Rows L2 L2.L3
variable {K:Fg}
def rE:List V->Hp->VK->Prop
 |[.ref d],H,Q=>∃kvs,H d=some (.dK kvs)/\∀l,H l=none->Q (.ref l) (upd H l (.lst (kvs.map λkv=>kV kv.1)))
 |_,_,_=>False
theorem oF:∀{xs:List V} {us:List Value},xs.length=us.length->(∀(i:Nat) (x:V) (u:Value),xs[i]?=some x->us[i]?=some u->RelV x u)->Vals xs us
 |[],[],_,_=>.nil
 |[],_::_,h,_=>by simp at h
 |_::_,[],h,_=>by simp at h
 |x::xs,u::us,h,g=>.cons (g 0 x u rfl rfl) (oF (by simpa using h) λi y v a b=>g (i+1) y v (by simpa using a) (by simpa using b))
theorem OG (X:Cx) (hc:X.calm=true):bN X (.type "list") rE:=by
 intro pins s σ H xs us Q I r h;unfold rE at h;split at h
 ·rename_i d;obtain ⟨kvs,hd,q⟩:=h;obtain ⟨u,rfl,r1⟩:=r.one;cases r1;obtain ⟨z,hsm,vs,rel,dd⟩:=QG I.hok hd;obtain ⟨o,es,ep,ho,hd1,hd2,hd3⟩:=id dd;have hl:vs.length=kvs.length:=(KV.length rel).symm;have hk:=KV.keys rel;refine LD.sZ (knd:=aU X.prog X.w) (I.ok.hd hc) hsm (kvs:=vs) (ep:=ep) ⟨o,es,ho,hd1,hd2,hd3⟩ (λh' tk acc' c' kp hS hI=>?_) (by rw[hl];exact z);have hv:Vals (kvs.map λkv=>kV kv.1) acc'.toList:=oF (by
   have h1:acc'.size=vs.length:=hI.1
   have h2:acc'.toList.length=acc'.size:=length_toList
   rw[h2,h1,hl,length_map]) λi x u hx hu=>by
   have hu':acc'[i]?=some u:=by rw[<-Array.getElem?_toList];exact hu
   obtain ⟨k,v,h1,h2⟩:=hI.2 i u hu';have e1:(kvs.map (·.1))[i]?=(vs.map (·.1))[i]?:=by rw[hk]
   rw[getElem?_map,getElem?_map,h1] at e1;rw[getElem?_map] at hx;cases e:kvs[i]? with
   |none=>rw[e] at hx;cases hx
   |some kv=>
    rw[e] at hx e1;cases hx;have:kv.1=k:=Option.some.inj e1;show RelV (kV kv.1) u;rw[this];exact Dt h2
  refine ⟨.ref s.heap.objs.size,_,I.laid (a:=s.heap.objs.size) (o:=.lst (kvs.map λkv=>kV kv.1)) (t':=tk) kp (Nat.le_refl _) ⟨by rw[length_map];exact z,acc'.toList,c',hv,hS⟩,rfl,q _ (I.hok.fresh (Nat.le_refl _))⟩
 ·exact h.elim
def YR (a:EX K):EX K:=Hg "list" "list" rE (λX _ hc _=>OG X hc) PyProof.Rows.Boot.list (by decide+kernel) (by decide+kernel) a []
theorem WH {E:XS} {σ:St} {H:Hp} {Q:VK} {a:EX K} (h:a.t E σ H λx H1=>rE [x] H1 Q):(YR a).t E σ H Q:=h
theorem OZ {H:Hp} {Q:VK} {d:Addr} {kvs:List (Key × V)} (h:H d=some (.dK kvs)) (q:∀l,H l=none->Q (.ref l) (upd H l (.lst (kvs.map λkv=>kV kv.1)))):rE [.ref d] H Q:=⟨kvs,h,q⟩
def Gn (R:Rt) (x:Str) (sp:Sp):Prop:=∃(k:Nat) (f:Addr) (fd:FuncData) (ps:List Str),bM (k+1) R.A/\pG R.P R.w R.K R.mg R.base (lH R.P R.w) k f fd ps sp/\Binds R.K fd ps []/\Mk R.K (clsAt R.K x) f/\R.mg x=some (.ref (clsAt R.K x))
theorem EV {X:Cx} {C f:Addr} {k:Nat} {fd:FuncData} {ps:List Str} {sp:Sp} {pins:List (Addr × Obj)} {σ:St} {H:Hp} {s:Shared} {Q:VK} {us:List Value} {vs:List V} (M:Mk X.K C f) (F:pG X.prog X.w X.K X.mg X.base (lH X.prog X.w) k f fd ps sp) (hr:bM (k+1) X.A) (hb:Binds X.K fd ps [])
  (I:Inv X pins σ H s) (r:Vals vs us) (h:∀x dx,H x=none->H dx=none->dx≠x->sp (.ref x::vs) (upd (upd H dx (.own x)) x (.ins C dx [])) (λv H2=>v=.non/\Q (.ref x) H2) λ_ _ _=>False):
  wpAny (model X.prog X.w) X.A (PySem.call (.ref C) us) (EP X pins σ Q) X.xe s:=by
 have hq:=h (s.heap.objs.size+1) s.heap.objs.size (I.hok.fresh (le_succ _)) (I.hok.fresh (Nat.le_refl _)) (ne_of_lt (lt_succ_self _));have I2:=Inv.made (C:=C) I;have r2:Vals (V.ref (s.heap.objs.size+1)::vs) (Value.ref (s.heap.objs.size+1)::us):=.cons rfl r;have hl:(Value.ref (s.heap.objs.size+1)::us++[]).length=ps.length:=by
  have e:=r2.length;rw[F.len _ _ _ _ hq] at e;rw[append_nil];exact e.symm
 have b:=hb _ (Value.ref (s.heap.objs.size+1)::us) I2.kIn hl;rw[append_nil] at b;refine wpAny_call (NZ (f:=f) I.kIn M.makes M.init (beq_iff_eq.mp M.fn) (codeAny_mono (F.run _ X.stack _ _ ⟨Value.ref (s.heap.objs.size+1)::us,[]⟩ (Value.ref (s.heap.objs.size+1)::us) _ _ _ (hr.make C us [])
  (I2.env0.make C us []) b r2 hq) λr s' hq'=>?_))
 cases r with
 |error e=>exact (lH.no hq').elim
 |ok fl=>
  cases fl with
  |ret u=>
   obtain ⟨v,H',I3,rv,ev,q3⟩:=I2.after hq';subst ev;exact ⟨rv,⟨V.ref (s.heap.objs.size+1),H',I3,rfl,q3⟩⟩
  |next=>exact False.elim hq'
  |brk=>exact False.elim hq'
  |cont=>exact False.elim hq'
def Iq (C:Addr) (sp:Sp) (t:TA):TE:=λσ H Q=>t σ H λvs H1=>∀x dx,H1 x=none->H1 dx=none->dx≠x->sp (.ref x::vs) (upd (upd H1 dx (.own x)) x (.ins C dx [])) (λv H2=>v=.non/\Q (.ref x) H2) λ_ _ _=>False
def Vg (x:Str) (sp:Sp) (a:EX K) (as:List (EX K)):EX K:=KO (λE=>Iq (clsAt K x) sp (fF (a::as) E))
 (λC e=>match e with
  | .Call (.Name y _) es [] _=>mY C x y&&iD (a::as) C es
  |_=>false) (λR=>Gn R x sp/\pU (a::as) R) (Oe (a::as))
 (λX C E e hK G hE hq hm=>by
  subst hK
  cases e with
  |Call f es ks p=>
   cases f with
   |Name y py=>
    cases ks with
    |nil=>
     simp only [and_eq_true] at hm
     obtain ⟨h1,h2⟩:=hm
     have e:=bB h1
     subst e
     obtain ⟨g,d⟩:=bA G h1
     obtain ⟨⟨k,f,fd,ps,hr,F,hb,M,hg⟩,hqa⟩:=hq
     cases es with
     |nil=>cases h2
     |cons e es=>
      intro pins s σ H Q I h
      exact wpAny_Call_Name_kw (dQ I g hg (callWith_K (h₀:=X.base) I.ok.mod.kin M.kp (bH (cR G hE (a::as) (e::es) hqa h2 p pins s σ H _ I h) λus s1 ⟨vs,H1,I1,r,q⟩=>⟨I1.kIn,EV M F hr hb I1 r q⟩) (aO (a.sok C e (aG h2).1)) (aV as es (aG h2).2)) d)
    |cons _ _=>cases hm
   |_=>exact ff hm
  |_=>exact ff hm)
 (λC e hm=>by
  cases e with
  |Call f es ks p=>
   cases f with
   |Name y py=>
    cases ks with
    |nil=>
     simp only [and_eq_true] at hm
     exact kP (a::as) es hm.2
    |cons _ _=>cases hm
   |_=>exact ff hm
  |_=>exact ff hm)
 (λC e hm=>by cases e with|Call f es ks p=>rfl|_=>exact ff hm)
def fld (a:EX K) (f:Str) (ha:a.s≠.zc:=by intro z;cases z):EX K:=iB (λE=>Iw K (a.t E) f)
 (λC e=>match e with
  | .Attribute o g _=>decide (g=f)&&a.m C o
  |_=>false) a.q .pl
 (λX C E e hK G hE hq hm=>by
  subst hK
  cases e with
  |Attribute o g p=>
   simp only [and_eq_true] at hm
   have e:=of_decide_eq_true hm.1
   subst e
   exact Cm (a.ok X C E o rfl G hE hq hm.2) (lZ (a.sok C o hm.2) ha)
  |_=>exact ff hm)
 (λC e hm=>by cases e with|Attribute o g p=>exact ⟨rfl,rfl⟩|_=>exact ff hm)
def HR (o:EX K) (f:Str) (a:EX K):SX K where
 t:=λE=>Jf K (o.t E) (a.t E) f
 m:=λC s=>match s with
  | .Assign [.Attribute l g _] e _=>decide (a.s≠.cp)&&(decide (g=f)&&(o.m C l&&a.m C e))
  |_=>false
 q:=λR=>o.q R/\a.q R
 ok:=λX C E s hK G hE hq hm=>by
  subst hK;split at hm
  ·rename_i l g p' e p;simp only [and_eq_true] at hm;obtain ⟨h1,h2,h3,h4⟩:=hm;have e:=of_decide_eq_true h2;subst e;exact By (o.ok X C E l rfl G hE hq.1 h3) (a.ok X C E _ rfl G hE hq.2 h4) (iS (a.sok C _ h4) (of_decide_eq_true h1))
  ·cases hm
section
variable {E:XS} {σ:St} {H:Hp} {Q:VK} {D:Ends} {a o:EX K} {as:List (EX K)}
def Bo (K:Fg) (f:Str) (x:V) (H:Hp) (Q:VK):Prop:=∃a C dx fs v,x=.ref a/\H a=some (.ins C dx fs)/\yS K C/\eB K C f/\fs.lookup f=some v/\Q v H
theorem vF {f:Str} {ha:a.s≠.zc} (h:a.t E σ H λx H1=>Bo K f x H1 Q):(fld a f ha).t E σ H Q:=h
def MS (K:Fg) (f:Str) (y x:V) (H:Hp) (Q:Hp->Prop):Prop:=∃a C dx fs,x=.ref a/\H a=some (.ins C dx fs)/\yS K C/\eB K C f/\fs.length<1000/\Q (upd H a (.ins C dx (L2.iU f y fs)))
theorem rY {f:Str} (h:a.t E σ H λy H1=>o.t E σ H1 λx H2=>MS K f y x H2 λH3=>D.nx σ H3):(HR o f a).t E D σ H:=h
end
def Gp (K:Fg) (x qual:Str) (st:Stmt):Prop:=∃(f:Addr) (fd:FuncData),ZU K "__init__" qual st f fd/\Mk K (clsAt K x) f
theorem VU {x qual:Str} {st:Stmt} {C f:Addr} {oc:Value} {od an:Option Addr} {osl:Array (Option Value)} {kV doc pm cdv ct:Value} (h1:nsIn K mainGlobals x=some (some (.ref C))) (h2:PySem.W.findIn K (.ref C) "__init__"=some (some (.ref f)))
  (l:K.lookup f=some ⟨oc,od,.func (PySem.W.fnOf "__init__" qual (bF st) (aK st) (aF st) .none kV doc pm an cdv ct),osl⟩) (c:PySem.W.codeIn K cdv qual=true) (k:keepIn K (.ref f)=true)
  (m:makesIn K C=true) (n:isFn K (.ref f)=true) (kp:keepIn K (.ref C)=true):Gp K x qual st:=by
 have e1:clsAt K x=C:=by unfold clsAt;rw[h1]
 exact ⟨f,_,DU l c k,by rw[e1];exact ⟨m,h2,n,kp⟩⟩
def Ou (P:Program) (w:World) (K:Fg) (mg:Str->Option Value) (base:Heap) (k:Nat) (x:Str) (sp:Sp):Prop:=
 ∃(f:Addr) (fd:FuncData) (ps:List Str),pG P w K mg base (lH P w) k f fd ps sp/\Binds K fd ps []/\Mk K (clsAt K x) f/\mg x=some (.ref (clsAt K x))
theorem Ou.at {P:Program} {w:World} {mg:Str->Option Value} {base:Heap} {j k:Nat} {x:Str} {sp:Sp} {A:Around} (D:Ou P w K mg base j x sp) (hr:bM k A) (h:j+1<=k):Gn ⟨P,w,K,mg,base,A⟩ x sp:=by
 obtain ⟨f,fd,ps,F,hb,M,hg⟩:=D;exact ⟨j,f,fd,ps,hr.mono h,F,hb,M,hg⟩
theorem Fp {P:Program} {w:World} {mg:Str->Option Value} {base:Heap} {k:Nat} {x qual:Str} {st:Stmt} {sp:Sp} {N ps:List Str} (F:Gp K x qual st) (hg:mg x=some (.ref (clsAt K x))) (bl:∀x∈kB,mg x=none) (b:List (SX K)) (S:cJ N ps (aF st)) (hm:yQ b ⟨N,(aF st).names,true⟩ (aK st)=true)
  (hb:∀(kV doc pm:Value) (an:Option Addr) (cdv ct:Value) (us:List Value),us.length=ps.length->bindArgs (PySem.W.fnOf "__init__" qual (bF st) (aK st) (aF st) .none kV doc pm an cdv ct) ⟨us,[]⟩=pure (ps.zip us))
  (len:∀vs H Q E,sp vs H Q E->vs.length=ps.length) (t:∀vs H Q E,sp vs H Q E->eI b (λ_=>E) {nx:=λ_ H'=>Q .non H',rt:=Q} (start N vs) H) (hq:∀A,bM k A->BW b ⟨P,w,K,mg,base,A⟩):Ou P w K mg base (k+1) x sp:=by
 obtain ⟨f,fd,F,M⟩:=F;exact ⟨f,fd,ps,xY F b S hm bl hq len t,F.binds hb,M,hg⟩
theorem JY {prog:Program} {w:World} {A:Around} {E:Value->Shared->Prop} {s:Shared} {env:Env} {o:Expr} {name:Str} {apos pos:Pos} {args:List Expr} {Q:Value->Shared->Prop}
  (hbase:attributeBase o name env (eval o env)=eval o env)
  (hform:methodCallForm (args.length+([]:List Keyword).length) (backTo pos (starEach args env)) (backToKw pos (keywordEach [] env))=true)
  (hline:(apos.endLine==pos.line)=true)
  (h:wpAny (model prog w) A (eval o env) (λov s1=>∀pl,wpAny (model prog w) A (getMethod ov name pl) (λfx s2=>wpAny (model prog w) A (callWith pos fx.1 fx.2 (backTo pos (starEach args env)) (backToKw pos (keywordEach [] env))) Q E s2) E s1) E s):
  wpAny (model prog w) A (eval (.Call (.Attribute o name apos) args [] pos) env) Q E s:=by
 rw[arm_eval_Call,hbase];refine wpAny_bind (wpAny_mono h (λov s1 h1=>?_) λ_ _ e=>e);refine wpAny_bind (wpAny_standAt ?_);have hpos:methodCallPos true o env apos pos=pure pos:=by unfold methodCallPos;simp [hline]
 unfold methodCall;rw[hform];refine wpAny_bind (wpAny_holding ?_);unfold calleeOf;rw[if_pos rfl];refine wpAny_mono (h1 _) (λfx s2 h2=>?_) λ_ _ e=>e;exact wpAny_bind (wpAny_of_eq hpos h2)
def ZR (R:Rt) (x m:Str) (sp:Sp):Prop:=∃(k:Nat) (f:Addr) (fd:FuncData) (ps:List Str),bM k R.A/\pG R.P R.w R.K R.mg R.base (lH R.P R.w) k f fd ps sp/\Binds R.K fd ps []/\yS R.K (clsAt R.K x)/\Meth R.K (clsAt R.K x) m f
def Ip (C:Addr) (m:Str) (sp:Sp) (E:XS) (ta t:TE):TE:=λσ H Q=>ta σ H λx H1=>(∃a dx fs,x=.ref a/\H1 a=some (.ins C dx fs)/\fs.lookup m=none)/\t σ H1 λv H2=>sp [x,v] H2 Q (E σ)
def SU (o:EX K) (x m:Str) (sp:Sp) (a:EX K) (ho:o.s≠.zc:=by intro z;cases z):EX K:=iB (λE=>Ip (clsAt K x) m sp E (o.t E) (a.t E))
 (λC e=>match e with
  | .Call (.Attribute l g p) [e] [] p2=>(decide (g=m)&&(p.endLine==p2.line))&&(o.m C l&&a.m C e)
  |_=>false) (λR=>ZR R x m sp/\(o.q R/\a.q R)) .pl
 (λX C E e hK G hE hq hm=>by
  subst hK
  split at hm
  ·rename_i l g p e p2
   simp only [and_eq_true] at hm
   obtain ⟨⟨h1,hline⟩,h2,h3⟩:=hm
   have e':=of_decide_eq_true h1
   subst e'
   obtain ⟨⟨k,f,fd,ps,hr,F,hb,c,hM⟩,hqo,hqa⟩:=hq
   have hst:=aO (es:=[]) (env:=X.env) (a.sok C e h3)
   intro pins s σ H Q I h
   refine JY (lZ (o.sok C l h2) ho) (by rw[hst];rfl) hline (bH (o.ok X C E l rfl G hE hqo h2 pins s σ H _ I h) λu s1 ⟨v,H1,I1,rx,⟨a',dx,fs,ex,ea,l'⟩,q⟩ pl=>?_)
   subst ex
   obtain rfl:u=Value.ref a':=rx
   refine DS I1 ea c hM l' ?_
   have hma:iD [a] C [e]=true:=by
    show (a.m C e&&true)=true
    rw[h3]
    rfl
   exact callWith_K (first:=[.ref a']) (h₀:=X.base) I.ok.mod.kin hM.kp (bH (cR G hE [a] [e] ⟨hqa,trivial⟩ hma p2 pins s1 σ H1 (λvs H2=>sp (.ref a'::vs) H2 Q (E σ)) I1 q) λus s2 ⟨vs,H2,I2,r,q2⟩=>⟨I2.kIn,wU (us:=.ref a'::us) (vs:=.ref a'::vs) hE F hr hb I2 (.cons rfl r) q2⟩) hst rfl
  ·cases hm)
 (λC e hm=>by
  split at hm
  ·exact ⟨rfl,rfl⟩
  ·cases hm)
theorem mL {E:XS} {σ:St} {H:Hp} {Q:VK} {o a:EX K} {x m:Str} {sp:Sp} {ho:o.s≠.zc} (h:o.t E σ H λy H1=>(∃a' dx fs,y=.ref a'/\H1 a'=some (.ins (clsAt K x) dx fs)/\fs.lookup m=none)/\a.t E σ H1 λv H2=>sp [y,v] H2 Q (E σ)):(SU o x m sp a ho).t E σ H Q:=h
def SJ (K:Fg) (x m qual:Str) (st:Stmt):Prop:=∃(f:Addr) (fd:FuncData),ZU K m qual st f fd/\yS K (clsAt K x)/\Meth K (clsAt K x) m f
theorem VC {x m qual:Str} {st:Stmt} {C f:Addr} {oc:Value} {od an:Option Addr} {osl:Array (Option Value)} {kV doc pm cdv ct:Value} (h1:nsIn K mainGlobals x=some (some (.ref C))) (h2:PySem.W.findIn K (.ref C) m=some (some (.ref f)))
  (l:K.lookup f=some ⟨oc,od,.func (PySem.W.fnOf m qual (bF st) (aK st) (aF st) .none kV doc pm an cdv ct),osl⟩) (c:PySem.W.codeIn K cdv qual=true) (k:keepIn K (.ref f)=true)
  (cl:yS K C) (n:isFn K (.ref f)=true):SJ K x m qual st:=by
 have e1:clsAt K x=C:=by unfold clsAt;rw[h1]
 exact ⟨f,_,DU l c k,by rw[e1];exact cl,by rw[e1];exact ⟨h2,n,k⟩⟩
def Hk (P:Program) (w:World) (K:Fg) (mg:Str->Option Value) (base:Heap) (k:Nat) (x m:Str) (sp:Sp):Prop:=
 ∃(f:Addr) (fd:FuncData) (ps:List Str),pG P w K mg base (lH P w) k f fd ps sp/\Binds K fd ps []/\yS K (clsAt K x)/\Meth K (clsAt K x) m f
theorem Hk.at {P:Program} {w:World} {mg:Str->Option Value} {base:Heap} {j k:Nat} {x m:Str} {sp:Sp} {A:Around} (D:Hk P w K mg base j x m sp) (hr:bM k A) (h:j<=k):ZR ⟨P,w,K,mg,base,A⟩ x m sp:=by
 obtain ⟨f,fd,ps,F,hb,c,M⟩:=D;exact ⟨j,f,fd,ps,hr.mono h,F,hb,c,M⟩
theorem DX {P:Program} {w:World} {mg:Str->Option Value} {base:Heap} {k:Nat} {x m qual:Str} {st:Stmt} {sp:Sp} {N ps:List Str} (F:SJ K x m qual st) (bl:∀x∈kB,mg x=none) (b:List (SX K)) (S:cJ N ps (aF st)) (hm:yQ b ⟨N,(aF st).names,true⟩ (aK st)=true)
  (hb:∀(kV doc pm:Value) (an:Option Addr) (cdv ct:Value) (us:List Value),us.length=ps.length->bindArgs (PySem.W.fnOf m qual (bF st) (aK st) (aF st) .none kV doc pm an cdv ct) ⟨us,[]⟩=pure (ps.zip us))
  (len:∀vs H Q E,sp vs H Q E->vs.length=ps.length) (t:∀vs H Q E,sp vs H Q E->eI b (λ_=>E) {nx:=λ_ H'=>Q .non H',rt:=Q} (start N vs) H) (hq:∀A,bM k A->BW b ⟨P,w,K,mg,base,A⟩):Hk P w K mg base (k+1) x m sp:=by
 obtain ⟨f,fd,F,c,M⟩:=F;exact ⟨f,fd,ps,xY F b S hm bl hq len t,F.binds hb,c,M⟩
def Km (x:Str) (sp:Sp):EX K:=KO (λE=>Iq (clsAt K x) sp (fF ([]:List (EX K)) E))
 (λC e=>match e with
  | .Call (.Name y _) es [] _=>mY C x y&&iD ([]:List (EX K)) C es
  |_=>false) (λR=>Gn R x sp/\pU ([]:List (EX K)) R) (Oe ([]:List (EX K)))
 (λX C E e hK G hE hq hm=>by
  subst hK
  cases e with
  |Call f es ks p=>
   cases f with
   |Name y py=>
    cases ks with
    |nil=>
     simp only [and_eq_true] at hm
     obtain ⟨h1,h2⟩:=hm
     have e:=bB h1
     subst e
     obtain ⟨g,d⟩:=bA G h1
     obtain ⟨⟨k,f,fd,ps,hr,F,hb,M,hg⟩,hqa⟩:=hq
     cases es with
     |cons e es=>cases h2
     |nil=>
      intro pins s σ H Q I h
      exact wpAny_Call_Name_kw (dQ I g hg (PySem.W.callWith_K0 I.kIn M.kp (EV M F hr hb I .nil h)) d)
    |cons _ _=>cases hm
   |_=>exact ff hm
  |_=>exact ff hm)
 (λC e hm=>by
  cases e with
  |Call f es ks p=>
   cases f with
   |Name y py=>
    cases ks with
    |nil=>
     simp only [and_eq_true] at hm
     exact kP ([]:List (EX K)) es hm.2
    |cons _ _=>cases hm
   |_=>exact ff hm
  |_=>exact ff hm)
 (λC e hm=>by cases e with|Call f es ks p=>rfl|_=>exact ff hm)
theorem Eo {E:XS} {σ:St} {H:Hp} {Q:VK} {x:Str} {sp:Sp} (h:∀x' dx,H x'=none->H dx=none->dx≠x'->sp [.ref x'] (upd (upd H dx (.own x')) x' (.ins (clsAt K x) dx [])) (λv H2=>v=.non/\Q (.ref x') H2) λ_ _ _=>False):(Km x sp:EX K).t E σ H Q:=h
def XT (a:Addr):It:=
 ⟨λi H=>∃xs x,H a=some (.lst xs)/\xs[i]?=some x,
  λi H v H'=>∃p x,H p=none/\v=.ref p/\H'=upd H p (.tup [.int (i:Nat),x])/\∀xs,H a=some (.lst xs)->xs[i]?=some x,
  λi H=>∃xs,H a=some (.lst xs)/\xs.length<=i⟩
def Vf (e it a:Addr) (i:Nat) (h:Heap):Prop:=(∃old,IsEnum h e it ((i:Nat):Int) old)/\h.IsListIter it a i
theorem HC {P:Program} {w:World} {K:Fg} {elts:List Expr} {k:Nat} {pos:Pos} (a e it:Addr) (hei:e≠it):Turn P w K (.Tuple elts k pos) (XT a) [e,it] e (Vf e it a) where
 mem:=by simp
 obj:=λi h st c hc=>by
  obtain ⟨⟨old,he⟩,⟨o1,e1,c1,d1⟩⟩:=st;simp only [mem_cons,not_mem_nil,or_false] at hc;rcases hc with rfl|rfl
  ·exact ⟨_,he,λ_ q=>by have q':Data.fields _=Data.cell _:=q;cases q'⟩
  ·exact ⟨_,e1,λ_ q=>by rw[d1] at q;cases q⟩
 keep:=λi h h' st kp=>by
  obtain ⟨⟨old,he⟩,l1⟩:=st;exact ⟨⟨old,kp e (by simp) _ he⟩,l1.at λo q=>kp it (by simp) o q⟩
 item:=by
  intro X hP hw hK hc i pins s σ H E I hf st hg;subst hP hw hK;obtain ⟨xs,x,hqa,hx⟩:=hg;obtain ⟨z,its,n,r,hl,eo⟩:=I.lstM hqa;obtain ⟨u,hu,ru⟩:=r.get hx;obtain ⟨⟨old,he⟩,l1⟩:=st;have hla:s.heap.IsList a its.toArray:=⟨_,eo,rfl,n,rfl⟩;refine wpAny_pyNext_enum_item he l1 hla (x:=u) (by simpa using hu) hei λh' a1 a2 a3 a4 hk=>?_;refine ⟨_,rfl,?_⟩;refine wpAny_letOwnedTupleGo_enum (s:={s with heap:=h',toks:=s.toks+1}) a1 λh2 z2 sb=>?_;have fr:H s.heap.objs.size=none:=I.hok.fresh (Nat.le_refl _);have zlt:e<s.heap.objs.size:=lt_size he;have k2:∀c o,c∉[e,it]->s.heap.get? c=some o->h2.get? c=some o:=λc o hc' q=>by
   simp only [mem_cons,not_mem_nil,or_false,not_or] at hc';exact sb.extBut _ _ hc'.1 (hk c o hc'.1 hc'.2 q)
  have T2:h2.get? s.heap.objs.size=some {cls:=.type "tuple",data:=.seq #[.int i s.toks,u]}:=sb.extBut _ _ (ne_of_gt zlt) a3;have ne:∀c∈[e,it],c≠s.heap.objs.size:=λc hc'=>by
   obtain ⟨o,q⟩:∃o,s.heap.get? c=some o:=by
    simp only [mem_cons,not_mem_nil,or_false] at hc';obtain ⟨o1,e1,_⟩:=l1;rcases hc' with rfl|rfl
    ·exact ⟨_,he⟩
    ·exact ⟨_,e1⟩
   exact ne_of_lt (lt_size q)
  have I0:Inv X pins σ (upd H s.heap.objs.size (.tup [.int (i:Nat),x])) {s with heap:=s.heap.push {cls:=.type "tuple",data:=.seq #[.int i s.toks,u]},toks:=s.toks+1}:=
   I.laid (t':=s.toks+1) (λc o q=>get?_push_of_some _ q) (Nat.le_refl _) (show aX X.prog X.w _ _ _ (.tup [.int (i:Nat),x]) from ⟨by show 2<=sizeLine;decide,[.int i s.toks,u],.cons ⟨_,rfl⟩ (.cons ru .nil),IsTup.new _ _⟩)
  have hf':∀c∈[e,it],oE X pins (upd H s.heap.objs.size (.tup [.int (i:Nat),x])) c:=λc hc'=>⟨by rw[aE (ne c hc')];exact (hf c hc').1,(hf c hc').2⟩;have I1:Inv X pins σ (upd H s.heap.objs.size (.tup [.int (i:Nat),x])) {s with heap:=h2,toks:=s.toks+1}:=Inv.turnedN (s:={s with heap:=s.heap.push {cls:=.type "tuple",data:=.seq #[.int i s.toks,u]},toks:=s.toks+1}) (t':=s.toks+1) I0 (λc o hc' q=>by
   rcases Heap.get?_push_cases q with ⟨hcs,ho⟩|q
   ·subst hcs ho
    exact T2
   ·exact k2 c o hc' q) hf'
  exact ⟨.ref s.heap.objs.size,_,I1,rfl,⟨_,x,fr,rfl,rfl,λxs' h'=>by rw[hqa] at h';cases h';exact hx⟩,
   ⟨⟨_,by rw[show ((i+1:Nat):Int)=(i:Int)+1 by lia];exact z2⟩,a2.at λo q=>sb.extBut _ _ hei.symm q⟩,λc hc'=>(hf' c hc').1⟩
 done:=by
  intro X hP hw hK hc i pins s σ H E I hf st hg;subst hP hw hK;obtain ⟨xs,hqa,hx⟩:=hg;obtain ⟨z,its,n,r,hl,eo⟩:=I.lstM hqa;obtain ⟨⟨old,he⟩,l1⟩:=st;have n1:=r.length;have hla:s.heap.IsList a its.toArray:=⟨_,eo,rfl,n,rfl⟩;refine wpAny_pyNext_enum_end (I.ok.hd hc) he l1 hla (by simp;lia) λh' hk=>⟨rfl,Inv.turnedN (t':=s.toks) I (λc o hc' q=>?_) hf⟩;simp only [mem_cons,not_mem_nil,or_false,not_or] at hc';exact hk c o hc'.2 q
 self:=λ_ _ _ _ _ st h=>by
  obtain ⟨⟨old,he⟩,_⟩:=st;exact wpAny_pyIter_enum he h
def rG:List V->Hp->(It->Hp->Prop)->Prop
 |[.ref p],H,R=>(∃xs,H p=some (.lst xs))/\R (XT p) H
 |_,_,_=>False
def ZE (a:EX K):IX K where
 t:=λE σ H R=>fF [a] E σ H λvs H1=>rG vs H1 R
 tm:=λe=>match e with
  | .Tuple _ _ _=>true
  |_=>false
 m:=λC e=>match e with
  | .Call (.Name y _) es [] _=>mY C "enumerate" y&&iD [a] C es
  |_=>false
 q:=λR=>pU [a] R
 ok:=λX C E tg e hK G hE hq ht hm=>by
  subst hK;cases tg with
  |Tuple ts tk tp=>
   cases e with
   |Call f es ks p=>
    cases f with
    |Name y py=>
     cases ks with
     |nil=>
      simp only [and_eq_true] at hm;obtain ⟨h1,h2⟩:=hm;have e:=bB h1;subst e;obtain ⟨g,d⟩:=bA G h1;cases es with
      |nil=>cases h2
      |cons e es=>
       intro pins s σ H R I h;refine Call_ (fL I g (G.bl _ (by decide+kernel)) boot_enumerate (PyProof.Rows.callWith_type1 (bH (cR G hE [a] (e::es) hq h2 p pins s σ H _ I h) λus s1 ⟨vs,H1,I1,r1,q1⟩=>?_) (aO (a.sok C e (aG h2).1)) (aV [] es (aG h2).2)));replace q1:rG vs H1 R:=q1;unfold rG at q1;split at q1
       ·rename_i p1;cases r1 with
        |cons r rr=>
         cases rr;cases r;obtain ⟨⟨xs,hx⟩,q⟩:=q1;obtain ⟨z,its,n,r,hl,eo⟩:=I1.lstM hx;refine call_enumerate_1 eo λh' z1 z2 z3 kp=>?_;refine wpAny_pyIter_enum (s:={s1 with heap:=h'}) z1 ?_;have big:∀c∈[s1.heap.objs.size+1,s1.heap.objs.size],s1.heap.objs.size<=c:=by
          intro c hc;simp only [mem_cons,not_mem_nil,or_false] at hc;lia
         exact ⟨_,[s1.heap.objs.size+1,s1.heap.objs.size],_,_,H1,rfl,I1.kept (t':=s1.toks) kp,HC p1 _ _ (Nat.succ_ne_self _),⟨⟨_,z1⟩,z2⟩,λc hc=>I1.fpOk (big c hc) (I1.hok.fresh (big c hc)),q⟩
       ·exact q1.elim
     |cons _ _=>cases hm
    |_=>exact ff hm
   |_=>exact ff hm
  |_=>cases ht
 fs:=λC e env x hm=>by cases e with|Call f es ks p=>rfl|_=>exact ff hm
section
variable {E:XS} {σ:St} {H:Hp} {D:Ends} {Q:VK} {QB:Bool->Hp->Prop} {a b c:EX K}
theorem Eu {R:It->Hp->Prop} (h:fF [a] E σ H λvs H1=>rG vs H1 R):(ZE a).t E σ H R:=h
theorem WJ {R:It->Hp->Prop} {p:Addr} {xs:List V} (c:H p=some (.lst xs)) (h:R (XT p) H):rG [.ref p] H R:=⟨⟨xs,c⟩,h⟩
theorem IV {p:Addr} {xs:List V} {m n:Nat} {tb:TS} (Pv:Nat->St->Hp->Prop) (h0:Pv 0 σ H) (hk:∀i σ1 H1,Pv i σ1 H1->H1 p=some (.lst xs))
  (hw:∀i σ1 H1 a o,Pv i σ1 H1->H1 a=none->Pv i σ1 (upd H1 a o))
  (hs:∀i x σ1 H1,xs[i]?=some x->Pv i σ1 H1->tb {D with nx:=Pv (i+1),ct:=Pv (i+1),bk:=D.nx} ((σ1.set m (some (.int (i:Nat)))).set n (some x)) H1) (hd:∀σ1 H1,Pv xs.length σ1 H1->D.nx σ1 H1):
  oV (XT p) (GZ [m,n]:TX K).g tb D σ H:=by
 refine ⟨λi k σ1 H1=>k=xs.length - i/\i<=xs.length/\Pv i σ1 H1,⟨_,rfl,zero_le _,h0⟩,?_⟩;rintro i k σ1 H1 ⟨rfl,hi,s1⟩;have hp1:=hk _ _ _ s1;by_cases hlt:i<xs.length
 ·refine .inr ⟨⟨xs,xs[i],hp1,getElem?_eq_getElem hlt⟩,Pv (i+1),λσ3 H3 q=>⟨xs.length - (i+1),by lia,rfl,hlt,q⟩,?_⟩;rintro v H' ⟨a,x,ha,rfl,rfl,hx⟩;exact rR (bX.of aA) (hs i x σ1 _ (hx _ hp1) (hw _ _ _ _ _ s1 ha))
 ·have e:i=xs.length:=by lia
  subst e;exact .inl ⟨⟨xs,hp1,Nat.le_refl _⟩,hd σ1 H1 s1⟩
end
theorem pZ:∀{xs:List V} {us:List Value},xs.length=us.length->(∀(i:Nat) (x:V) (u:Value),xs[i]?=some x->us[i]?=some u->RelV x u)->Vals xs us
 |[],[],_,_=>.nil
 |[],_::_,h,_=>by simp at h
 |_::_,[],h,_=>by simp at h
 |x::xs,u::us,h,g=>.cons (g 0 x u rfl rfl) (pZ (by simpa using h) λi y v a b=>g (i+1) y v (by simpa using a) (by simpa using b))
def wX:List V->Hp->VK->Prop
 |[.str z],H,Q=>z.length<=sizeLine/\∀l,H l=none->Q (.ref l) (upd H l (.lst (kQ z)))
 |_,_,_=>False
theorem OF (X:Cx) (hc:X.calm=true):bN X (.type "list") wX:=by
 intro pins s σ H xs us Q I r h;unfold wX at h;split at h
 ·rename_i z;obtain ⟨hz,q⟩:=h;obtain ⟨u,rfl,r1⟩:=r.one;obtain ⟨t,rfl⟩:=r1;refine call_list_str (I.ok.hd hc) z t (λh' tk acc' c' kp hS hI=>?_) hz;have hv:Vals (kQ z) acc'.toList:=pZ (by rw[gC,length_toList];exact hI.1.symm) λi x u hx hu=>by
   have hu':acc'[i]?=some u:=by rw[<-Array.getElem?_toList];exact hu
   obtain ⟨c,tu,hc,rfl⟩:=hI.2 i u hu';have hc':z.cps.toList[i]?=some c:=by rw[Array.getElem?_toList];exact hc
   unfold kQ at hx;rw[getElem?_map,hc'] at hx;cases hx;exact ⟨tu,rfl⟩
  refine ⟨.ref s.heap.objs.size,_,I.laid (a:=s.heap.objs.size) (o:=.lst (kQ z)) (t':=tk) kp (Nat.le_refl _) ⟨by rw[gC];exact hz,acc'.toList,c',hv,hS⟩,rfl,q _ (I.hok.fresh (Nat.le_refl _))⟩
 ·exact h.elim
def listS (a:EX K):EX K:=Hg "list" "list" wX (λX _ hc _=>OF X hc) PyProof.Rows.Boot.list (by decide+kernel) (by decide+kernel) a []
theorem WE {E:XS} {σ:St} {H:Hp} {Q:VK} {a:EX K} (h:a.t E σ H λx H1=>wX [x] H1 Q):(listS a).t E σ H Q:=h
theorem RZ {ns:List Int} {k:Int} (h0:0<=k) (h:k<ns.length):∃v:Int,uB (ns.map V.int) k=some (.int v):=by
 have hk:k.toNat<ns.length:=by lia
 have ek:k=((k.toNat:Nat):Int):=by lia
 have z:uB (ns.map V.int) ((k.toNat:Nat):Int)=some (.int ns[k.toNat]):=bI (by rw[getElem?_map,getElem?_eq_getElem hk]<;>rfl);rw[<-ek] at z;exact ⟨_,z⟩
abbrev SH:Str:=ofString "abcd"
theorem SE:SH.length=4:=by decide+kernel
theorem SG:SH.cps.toList=[97,98,99,100]:=by decide+kernel
theorem small {n:Nat} (h:n<=1000000):n<=sizeLine:=Nat.le_trans h (by rw[sizeLine_eq];decide)
theorem aB.seqT {H H':Hp} {a:Addr} {xs:List V} (e:aB H H') (h:bX K H a xs):bX K H' a xs:=by
 rcases h with (h|⟨o,h⟩)|h
 ·exact .inl (.inl (e _ _ h))
 ·exact .inl (.inr ⟨o,e _ _ h⟩)
 ·exact .inr h
theorem mE {H0 H:Hp} {p:Addr} {o:HO} (e:aB H0 H) (hp:H0 p=none):aB H0 (upd H p o):=λb u q=>by rw[aE (aD q hp)];exact e b u q
theorem oW.to {m:Nat} {z:Str} {k:Int} (h:oW m z) (h0:0<=k):oW m (Txt.slice z none (some k)):=h.of_ls λc hc=>by
 rw[show ls (Txt.slice z none (some k))=(ls z).take k.toNat from iR h0] at hc;exact List.mem_of_mem_take hc
theorem JA:kitOne K (.type "str") (.type "str")=some true:=by kernel_rfl
def known (m:Int):Str:=Txt.slice SH none (some m)
theorem cX {m:Int} (h0:0<=m) (h4:m<=4):ls (known m)=(range m.toNat).map (97+·):=by
 unfold known;rw[show ls (Txt.slice SH none (some m))=SH.cps.toList.take m.toNat from iR h0,SG];have:m=0\/m=1\/m=2\/m=3\/m=4:=by lia
 rcases this with rfl|rfl|rfl|rfl|rfl<;>rfl
theorem jV {m:Int} (h0:0<=m) (h4:m<=4):(known m).length=m.toNat:=by rw[<-bJ,cX h0 h4,length_map,length_range]
theorem OK {m:Int} (h0:0<=m) (h4:m<=4) {k:Nat} (hk:k<m.toNat):(known m).cps.toList[k]?=some (97+k):=by
 rw[show (known m).cps.toList=ls (known m) from rfl,cX h0 h4,getElem?_map,getElem?_range hk];rfl
def bZ (K:Fg):Sp:=λvs H Q _=>∃m:Int,vs=[.int m]/\Q (.str (known m)) H
def nY (K:Fg):List (SX K):=
 [ret (CU (oQ "LETTERS" (.str "abcd")) none (some (var 0)))]
theorem HF:TT (bZ K) (nY K) ["many"]:=by
 intro vs H Q E h;obtain ⟨m,rfl,q⟩:=h;unfold nY;walk_at "";exact iZ (by rw[SE];decide) q
def WB (H:Hp) (d:Addr) (ws:List Str):Prop:=∃kvs,H d=some (.dK kvs)/\(∀k w,ws[k]?=some w->eY kvs (.inr ⟨#[97+k]⟩)=some (.str w))/\∀c,¬(97<=c/\c<97+ws.length)->eY kvs (.inr ⟨#[c]⟩)=none
theorem WB.same {H H':Hp} {d:Addr} {ws:List Str} (h:WB H d ws) (e:aB H H'):WB H' d ws:=by
 obtain ⟨kvs,h1,h2,h3⟩:=h;exact ⟨kvs,e _ _ h1,h2,h3⟩
theorem WB.get {H:Hp} {d:Addr} {ws:List Str} (h:WB H d ws) {c:Nat} {w:Str} (hc:97<=c) (hw:ws[c - 97]?=some w):fV H d (sgn c) (some (.str w)):=by
 obtain ⟨kvs,h1,h2,_⟩:=h;have e:=h2 (c - 97) w hw;have:97+(c - 97)=c:=by lia
 rw[this] at e;rw[<-e];exact fV.k (k:=.inr ⟨#[c]⟩) h1
theorem WB.miss {H:Hp} {d:Addr} {ws:List Str} (h:WB H d ws) {c:Nat} (hc:¬(97<=c/\c<97+ws.length)):fV H d (sgn c) none:=by
 obtain ⟨kvs,h1,_,h3⟩:=h;rw[<-h3 c hc];exact fV.k (k:=.inr ⟨#[c]⟩) h1
structure iC (K:Fg) (H:Hp) (a:Addr) (ws:List Str):Prop where
 tp:bX K H a (ws.map V.str)
 pos:1<=ws.length
 four:ws.length<=4
theorem iC.same {H H':Hp} {a:Addr} {ws:List Str} (h:iC K H a ws) (e:aB H H'):iC K H' a ws:=⟨aB.seqT e h.tp,h.pos,h.four⟩
def aY (K:Fg):Sp:=λvs H Q _=>∃(a:Addr) (ws:List Str),vs=[.ref a]/\iC K H a ws/\∀d H',aB H H'->H d=none->WB H' d ws->Q (.ref d) H'
def cZ (K:Fg):List (SX K):=
 [ret (WY (call "letters" (bZ K) [len (var 0)]) (var 0))]
theorem cQ {m:Int} (h0:0<=m) (h4:m<=4) {k:Nat} (hk:k<m.toNat):fW (known m) k=.inr ⟨#[97+k]⟩:=by
 unfold fW;rw[StrLaws.getD_of_getElem? (OK h0 h4 hk)]
theorem wO {c d:Nat} (h:(Sum.inr ⟨#[c]⟩:Key)=.inr ⟨#[d]⟩):c=d:=by
 have e2:(⟨#[c]⟩:Str)=⟨#[d]⟩:=Sum.inr.inj h;have e3:=congrArg ls e2;simp [ls] at e3;exact e3
theorem lK:TT (aY K) (cZ K) ["rule"]:=by
 intro vs H Q E h;obtain ⟨a,ws,rfl,hR,q⟩:=h;have h4:=hR.four;have hq:=hR.tp;have hlen:(ws.map V.str).length=ws.length:=length_map _;unfold cZ;walk_at "";refine ⟨_,rfl,?_⟩;walk_at "";have k0:(0:Int)<=((ws.map V.str).length:Nat):=by lia
 have k4:(((ws.map V.str).length:Nat):Int)<=4:=by lia
 have hkl:(known ((ws.map V.str).length:Nat)).cps.size=ws.length:=by
  show (known ((ws.map V.str).length:Nat)).length=_;rw[jV k0 k4];lia
 have hinj:∀i j,i<(known ((ws.map V.str).length:Nat)).cps.size->j<(known ((ws.map V.str).length:Nat)).cps.size->fW (known ((ws.map V.str).length:Nat)) i=fW (known ((ws.map V.str).length:Nat)) j->i=j:=λi j hi hj e=>by
  rw[hkl] at hi hj;rw[cQ k0 k4 (by lia),cQ k0 k4 (by lia)] at e;have:=wO e;lia
 refine ⟨_,_,ws.map V.str,rfl,.inl hq,by rw[hkl,hlen],by rw[hkl];lia,?_,hinj,λd hd=>?_⟩
 ·rw[Array.all_eq_true'];intro c hc;have hc':c∈ls (known ((ws.map V.str).length:Nat)):=by simpa [ls] using hc
  rw[cX k0 k4] at hc';obtain ⟨k,hk,rfl⟩:=mem_map.mp hc';have:=mem_range.mp hk;simp;lia
 refine q d _ (aC hd _) hd ⟨_,aA,λk w hw=>?_,λc hc=>?_⟩
 ·have hl:k<ws.length:=(List.getElem?_eq_some_iff.mp hw).1;unfold kC;rw[<-cQ k0 k4 (show k<(((ws.map V.str).length:Nat):Int).toNat by lia),uH hinj (by rw[hkl];exact hl),getElem?_map,hw];rfl
 ·unfold kC eY;rw[List.find?_map];have e:(range (known ((ws.map V.str).length:Nat)).cps.size).find? ((λkv:Key × V=>decide (kv.1=.inr ⟨#[c]⟩))∘λi=>(fW (known ((ws.map V.str).length:Nat)) i,(ws.map V.str)[i]?.getD .non))=none:=by
   refine List.find?_eq_none.mpr λi hi z=>hc ?_;have hi':=mem_range.mp hi;rw[hkl] at hi';have z1:fW (known ((ws.map V.str).length:Nat)) i=.inr ⟨#[c]⟩:=of_decide_eq_true z;rw[cQ k0 k4 (by lia)] at z1;have:=wO z1;lia
  rw[e];rfl
def qP (K:Fg):Sp:=λvs H Q _=>∃(a:Addr) (ws:List Str) (z:Str),vs=[.ref a,.str z]/\iC K H a ws/\(∀w∈ws,w.length<=100)/\oW ws.length z/\z.length<=100000/\∀H',aB H H'->Q (.str (img ws z)) H'
def RQ (K:Fg):List (SX K):=
 [set 2 (call "words_by_letter" (aY K) [var 0]),
  ret (rL (cst (.str "")) (comp (ix (var 1) (var 0)) (iV 0) (gG (var 1)) ["sign"] ["word_for"] [2]))]
theorem Ie:TT (qP K) (RQ K) ["rule","word","word_for"]:=by
 intro vs H Q E h;obtain ⟨a,ws,z,rfl,hR,hle,hz,hzl,q⟩:=h;unfold RQ;walk_at "";refine ⟨a,ws,rfl,hR,λd H1 hS1 _ hd=>?_⟩;walk_at "";intro D hD;refine mR (λc=>.str (aP (wd ws c))) hD (small (by lia)) (λi c H2 Q' hc hS2 fin=>?_) λH2 hS2 hO=>?_
 ·have hcw:=hz c (mem_of_getElem? hc);have hl:c - 97<ws.length:=by lia
  walk_at "";have e:aP (wd ws c)=ws[c - 97]:=by
   unfold wd;rw[getElem?_eq_getElem hl];exact YN _
  have f2:=fin H2 (aB.refl _);rw[e] at f2;exact AZ ((hd.same hS2).get hcw.1 (getElem?_eq_getElem hl)) f2
 ·walk_at "";have hb:(((ls z).map λc=>aP (wd ws c)).map (·.length)).sum<=100000 * 100:=by
   refine Nat.le_trans (wJ (B:=100) λx hx=>?_) (by rw[length_map,length_map,bJ];exact Nat.mul_le_mul_right _ hzl);obtain ⟨y,hy,rfl⟩:=mem_map.mp hx;obtain ⟨c,hc,rfl⟩:=mem_map.mp hy;have hcw:=hz c hc;have hl:c - 97<ws.length:=by lia
   rw[NW];unfold wd;rw[getElem?_eq_getElem hl];show (ls ws[c - 97]).length<=100;rw[bJ];exact hle _ (getElem_mem hl)
  refine ⟨(ls z).map λc=>aP (wd ws c),.inl ?_,?_,?_⟩
  ·rw[hO,map_map];rfl
  ·have e:(ofString "").length=0:=by decide+kernel
   rw[e];lia
  ·have e:Txt.join (ofString "") ((ls z).map λc=>aP (wd ws c))=img ws z:=gQ (by
    rw[AN,xH,map_map,List.flatMap_def]
    congr 1)
   rw[e];exact q H2 (hS1.trans hS2)
instance (m:Nat) (z:Str):Decidable (oW m z):=by unfold oW;infer_instance
def oU (K:Fg) (n:String) (H:Hp) (x:V):Prop:=∃t,cE K H x t/\kitOne K t (.type n)=some false
def kO (K:Fg):Sp:=λvs H Q _=>∃(x:V) (m:Int),vs=[x,.int m]/\0<=m/\m<=4/\
 ((∃z:Str,x=.str z/\z.length<=100000/\∀H',aB H H'->Q (.bl (decide (oW m.toNat z))) H')\/(oU K "str" H x/\Q (.bl false) H))
def oC (K:Fg):List (SX K):=
 [cK (cI (OO (var 0) uI)) [ret (cst (.bl false))] [],
  set 2 (call "letters" (bZ K) [var 1]),
  ret (KH (comp (cmp .In (var 0) (var 1)) (iV 0) (gG (var 0)) ["sign"] ["known"] [2]))]
theorem uX {m:Int} (h0:0<=m) (h4:m<=4) (c:Nat):c∈ls (known m)↔97<=c/\c<97+m.toNat:=by
 rw[cX h0 h4,mem_map];constructor
 ·rintro ⟨k,hk,rfl⟩;have:=mem_range.mp hk;lia
 ·rintro ⟨h1,h2⟩;exact ⟨c - 97,mem_range.mpr (by lia),by lia⟩
theorem VR {m:Int} (h0:0<=m) (h4:m<=4) (z:Str):((ls z).map λc=>decide (c∈ls (known m))).all id=decide (oW m.toNat z):=by
 rw[Bool.eq_iff_iff,all_eq_true,decide_eq_true_iff];constructor
 ·intro h c hc;have:=h _ (List.mem_map_of_mem hc);exact (uX h0 h4 c).mp (of_decide_eq_true this)
 ·intro h x hx;obtain ⟨c,hc,rfl⟩:=mem_map.mp hx;exact decide_eq_true ((uX h0 h4 c).mpr (h c hc))
theorem HJ:TT (kO K) (oC K) ["thing","many","known"]:=by
 intro vs H Q E h;obtain ⟨x,m,rfl,h0,h4,h⟩:=h;unfold oC;walk_at "";rcases h with ⟨z,rfl,hz,q⟩|⟨⟨t,h1,h2⟩,q⟩
 ·refine ⟨_,_,cE.str z,JA,?_⟩;walk_at "";refine bS ?_;walk_at "";refine ⟨m,rfl,?_⟩;walk_at "";intro D hD;refine mR (λc=>.bl (decide (c∈ls (known m)))) hD (small (by lia)) (λi c H1 Q' hc hS fin=>?_) λH1 hS hO=>?_
  ·walk_at "";exact fin H1 (aB.refl _)
  ·refine ⟨D,(ls z).map λc=>decide (c∈ls (known m)),rfl,?_,?_⟩
   ·rw[hO,map_map];rfl
   ·rw[VR h0 h4];exact q H1 hS
 ·refine ⟨t,_,h1,h2,?_⟩;walk_at "";refine dE ?_;walk_at "";exact q
def Kh (n:Nat) (m:Int):V->Bool
 | .str z=>decide (oW n z)&&decide (1<=z.length/\(z.length:Int)<=m)
 |_=>false
def Ny (K:Fg) (H:Hp) (x:V):Prop:=(∃z:Str,x=.str z/\z.length<=100000)\/(∀H',aB H H'->oU K "str" H' x)
def nP (xs:List V) (m:Int):Bool:=decide (1<=xs.length/\xs.length<=4)&&xs.all (Kh xs.length m)
def fY (K:Fg):Sp:=λvs H Q _=>∃(x:V) (m:Int),vs=[x,.int m]/\
 ((∃(a:Addr) (xs:List V),x=.ref a/\H a=some (.tup xs)/\xs.length<=1000/\(∀y∈xs,Ny K H y)/\∀H',aB H H'->Q (.bl (nP xs m)) H')\/(oU K "tuple" H x/\Q (.bl false) H))
def dX (K:Fg):List (SX K):=
 [cK (cI (OO (var 0) EM)) [ret (cst (.bl false))] [],
  set 2 (len (var 0)),
  cK (NH (cmp .Lt (var 2) (cst (.int 1))) [cmp .Gt (var 2) (oQ "MOST_LETTERS" (.int 4))]) [ret (cst (.bl false))] [],
  ret (KH (comp (jO (call "is_word" (kO K) [var 0,var 1]) [XC .LtE .LtE (cst (.int 1)) (len (var 0)) (var 2)]) (iV 0) (gG (var 0)) ["word"] ["many","most"] [2,1]))]
theorem Qb:kitOne K (.type "tuple") (.type "tuple")=some true:=by kernel_rfl
theorem UZ {n:Nat} {m:Int} {K:Fg} {H:Hp} {x:V} (h:oU K "str" H x):Kh n m x=false:=by
 cases x with
 |str z=>
  obtain ⟨t,h1,h2⟩:=h;cases h1;rw[JA] at h2;cases h2
 |_=>rfl
theorem pD:TT (fY K) (dX K) ["thing","most","many"]:=by
 intro vs H Q E h;obtain ⟨x,m,rfl,h⟩:=h;unfold dX;walk_at "";rcases h with ⟨a,xs,rfl,ha,hl,hi,q⟩|⟨⟨t,h1,h2⟩,q⟩
 ·refine ⟨_,_,cE.tup ha,Qb,?_⟩;have hq:bX K H a xs:=bX.of ha;walk_at "";refine bS ?_;walk_at "";refine eQ (λc=>dE ?_) λc=>?_
  ·walk_at "";have e:nP xs m=false:=by
    unfold nP;rw[decide_eq_false (by lia)];rfl
   rw[<-e];exact q H (aB.refl _)
  walk_at "";refine eQ (λc2=>?_) λc2=>?_
  ·walk_at "";have e:nP xs m=false:=by
    unfold nP;rw[decide_eq_false (by lia)];rfl
   rw[<-e];exact q H (aB.refl _)
  walk_at "";refine GB hq ?_;intro D hD;refine sU (λy=>.bl (Kh xs.length m y)) hq hD (small (by lia)) (λi y H1 Q' hy hS fin=>?_) λH1 hS hO=>?_
  ·walk_at "";rcases hi y (mem_of_getElem? hy) with ⟨z,rfl,hz⟩|hN
   ·refine ⟨_,_,rfl,by lia,by lia,.inl ⟨z,rfl,hz,λH2 hS2=>?_⟩⟩;walk_at "";rw[toNat_natCast];refine ⟨λhc=>?_,λhc=>?_⟩
    ·walk_at "";refine cD (small (by lia)) ?_;walk_at "";have f2:Q' (V.bl (decide (oW xs.length z)&&decide (1<=z.length/\(z.length:Int)<=m))) H2:=fin H2 hS2;rw[hc,Bool.true_and] at f2;refine eQ (λc3=>?_) λc3=>?_
     ·walk_at "";have e:decide ((z.length:Int)<=m)=decide (1<=z.length/\(z.length:Int)<=m):=decide_eq_decide.mpr ⟨λz=>⟨by lia,z⟩,λz=>z.2⟩;rw[e];exact f2
     ·rw[decide_eq_false (by lia)] at f2;exact f2
    ·have f2:Q' (V.bl (decide (oW xs.length z)&&decide (1<=z.length/\(z.length:Int)<=m))) H2:=fin H2 hS2;rw[hc,Bool.false_and] at f2;rw[hc];exact f2
   ·refine ⟨_,_,rfl,by lia,by lia,.inr ⟨hN H1 hS,?_⟩⟩;walk_at "";refine bS ?_;have f2:=fin H1 (aB.refl _);rw[UZ (hN H1 hS)] at f2;exact f2
  ·refine ⟨D,xs.map (Kh xs.length m),rfl,?_,?_⟩
   ·rw[hO,map_map];rfl
   ·have e:nP xs m=(xs.map (Kh xs.length m)).all id:=by
     unfold nP;rw[decide_eq_true (by lia),Bool.true_and,all_map];rfl
    rw[<-e];exact q H1 hS
 ·refine ⟨t,_,h1,h2,?_⟩;walk_at "";refine dE ?_;walk_at "";exact q
def jn:List (List Nat)->List Nat
 |[]=>[]
 |[w]=>w
 |w::v::r=>w++32::jn (v::r)
theorem ZI:∀{p q A B:List Nat},32∉p->32∉q->p++32::A=q++32::B->p=q/\A=B
 |[],[],A,B,_,_,h=>⟨rfl,by simpa using h⟩
 |[],c::q,A,B,_,hq,h=>by
  rw[nil_append,cons_append,List.cons.injEq] at h;exact absurd (by rw[h.1];exact mem_cons_self) hq
 |c::p,[],A,B,hp,_,h=>by
  rw[nil_append,cons_append,List.cons.injEq] at h;exact absurd (by rw[<-h.1];exact mem_cons_self) hp
 |c::p,d::q,A,B,hp,hq,h=>by
  rw[cons_append,cons_append,List.cons.injEq] at h;obtain ⟨h1,h2⟩:=ZI (λz=>hp (mem_cons_of_mem _ z)) (λz=>hq (mem_cons_of_mem _ z)) h.2;exact ⟨by rw[h.1,h1],h2⟩
theorem FR:∀{ps qs:List (List Nat)},ps≠[]->qs≠[]->(∀p∈ps,32∉p)->(∀q∈qs,32∉q)->jn ps=jn qs->ps=qs
 |[],_,h,_,_,_,_=>absurd rfl h
 |_,[],_,h,_,_,_=>absurd rfl h
 |[p],[q],_,_,_,_,h=>by rw[show p=q from h]
 |[p],q::q'::qs,_,_,hp,_,h=>by
  have e:p=q++32::jn (q'::qs):=h;exact absurd (by rw[e];exact mem_append_right _ mem_cons_self) (hp p mem_cons_self)
 |p::p'::ps,[q],_,_,_,hq,h=>by
  have e:p++32::jn (p'::ps)=q:=h;exact absurd (by rw[<-e];exact mem_append_right _ mem_cons_self) (hq q mem_cons_self)
 |p::p'::ps,q::q'::qs,_,_,hp,hq,h=>by
  obtain ⟨h1,h2⟩:=ZI (hp p mem_cons_self) (hq q mem_cons_self) (show p++32::jn (p'::ps)=q++32::jn (q'::qs) from h);have h3:=FR (ps:=p'::ps) (qs:=q'::qs) (by simp) (by simp) (λx hx=>hp x (mem_cons_of_mem _ hx)) (λx hx=>hq x (mem_cons_of_mem _ hx)) h2;rw[h1,h3]
abbrev bk:Str:=ofString " "
theorem Ni:bk=⟨#[32]⟩:=by decide+kernel
theorem Kr:ls bk=[32]:=by decide+kernel
theorem Fy:bk.length=1:=by decide+kernel
theorem FO:∀us:List Str,ls (Txt.join bk us)=jn (us.map ls)
 |[]=>by decide+kernel
 |[w]=>by
  have e1:Txt.join bk [w]=Str.join bk [w]:=glued_eq_join bk [w];rw[e1];rfl
 |w::v::r=>by
  have ih:=FO (v::r);have e1:Txt.join bk (v::r)=Str.join bk (v::r):=glued_eq_join bk (v::r);have e2:Txt.join bk (w::v::r)=Str.join bk (w::v::r):=glued_eq_join bk (w::v::r);rw[e1] at ih;rw[e2];show ls (w++bk++Str.join bk (v::r))=ls w++32::jn ((v::r).map ls);rw[kW,kW,ih,Kr];simp
def BF (us:List Str):Prop:=∀u∈us,32∉ls u
theorem LX (z y:Str):Txt.split z y≠[]:=by
 unfold Txt.split;split
 ·simp
 ·split
  ·simp
  ·intro h;have:=congrArg List.length h;rw[length_partsBetween] at this;simp at this
theorem DI {us vs:List Str} (h:us.map ls=vs.map ls):us=vs:=by
 have:=congrArg (List.map aP) h;rw[map_map,map_map] at this;have e:(aP∘ls)=id:=funext λz=>YN z;rwa [e,map_id,map_id] at this
theorem qN {us:List Str} (h1:us≠[]) (h2:BF us):Txt.split (Txt.join bk us) bk=us:=by
 have e:Txt.join bk (Txt.split (Txt.join bk us) bk)=Txt.join bk us:=by
  have e1:Txt.join bk (Txt.split (Txt.join bk us) bk)=Str.join bk (Txt.split (Txt.join bk us) bk):=glued_eq_join bk _;rw[e1];exact StrLaws.join_split (Txt.join bk us) bk
 have e2:=congrArg ls e;rw[FO,FO] at e2;refine DI (FR ?_ ?_ ?_ ?_ e2)
 ·intro z;exact LX _ _ (List.map_eq_nil_iff.mp z)
 ·intro z;exact h1 (List.map_eq_nil_iff.mp z)
 ·intro p hp;obtain ⟨u,hu,rfl⟩:=mem_map.mp hp;have:=StrLaws.split_free (Txt.join bk us) 32 u (by rw[<-Ni];exact hu);exact this
 ·intro p hp;obtain ⟨u,hu,rfl⟩:=mem_map.mp hp;exact h2 u hu
theorem YT:kitOne K (.type "int") (.type "int")=some true:=by kernel_rfl
theorem YU:kitOne K (.type "int") (.type "bool")=some false:=by kernel_rfl
theorem YS:kitOne K (.type "int") (.type "str")=some false:=by kernel_rfl
def lT (K:Fg):Sp:=λvs H Q _=>∃i:Int,vs=[.int i]/\Q (.bl true) H
def jI (K:Fg):List (SX K):=
 [ret (jO (OO (var 0) LI) [cI (OO (var 0) CF)])]
theorem yX:TT (lT K) (jI K) ["_law_found"]:=by
 intro vs H Q E h;obtain ⟨i,rfl,q⟩:=h;unfold jI;walk_at "";refine ⟨_,_,cE.int i,YT,?_⟩;walk_at "";refine dE ?_;walk_at "";refine ⟨_,_,cE.int i,YU,?_⟩;walk_at "";exact q
theorem Nd {x:V} (h:x≠.non):decide (x=.non)=false:=decide_eq_false h
def cnt (z:Str) (k:Nat):Int:=((ls z).count (97+k):Nat)
def kA (n:Nat) (z:Str):List Int:=(range n).map (cnt z)
theorem mT (n:Nat) (z:Str):(kA n z).length=n:=by unfold kA;rw[length_map,length_range]
def dot (xs ys:List Int):Int:=(zipWith (· * ·) xs ys).sum
def sg (ds:List Int) (z:Str):Int:=((ls z).map λc=>ds[c - 97]?.getD 0).sum
theorem KS (f g:Nat->Int) (ds:List Int):(zipWith (· * ·) ((range ds.length).map λk=>f k+g k) ds).sum=(zipWith (· * ·) ((range ds.length).map f) ds).sum+(zipWith (· * ·) ((range ds.length).map g) ds).sum:=by
 induction ds generalizing f g with
 |nil=>rfl
 |cons d ds ih=>
  rw[length_cons,List.range_succ_eq_map];simp only [map_cons,map_map,List.zipWith_cons_cons,sum_cons];have e:=ih (f∘Nat.succ) (g∘Nat.succ);have e1:((λk=>f k+g k)∘Nat.succ)=λk=>(f∘Nat.succ) k+(g∘Nat.succ) k:=rfl;rw[e1,e,Int.add_mul];lia
theorem uE (ds:List Int):(zipWith (· * ·) ((range ds.length).map λ_=>(0:Int)) ds).sum=0:=by
 induction ds with
 |nil=>rfl
 |cons d ds ih=>
  rw[length_cons,List.range_succ_eq_map];simp only [map_cons,map_map,List.zipWith_cons_cons,sum_cons];have e1:((λ_=>(0:Int))∘Nat.succ)=λ_=>(0:Int):=rfl;rw[e1,ih,Int.zero_mul];rfl
theorem KR (ds:List Int) (j:Nat):(zipWith (· * ·) ((range ds.length).map λk=>if k=j then (1:Int) else 0) ds).sum=ds[j]?.getD 0:=by
 induction ds generalizing j with
 |nil=>rfl
 |cons d ds ih=>
  rw[length_cons,List.range_succ_eq_map];simp only [map_cons,map_map,List.zipWith_cons_cons,sum_cons];cases j with
  |zero=>
   have e1:((λk=>if k=0 then (1:Int) else 0)∘Nat.succ)=λ_=>(0:Int):=by funext k;simp
   rw[e1,uE];simp
  |succ j=>
   have e1:((λk=>if k=j+1 then (1:Int) else 0)∘Nat.succ)=λk=>if k=j then (1:Int) else 0:=by funext k;simp
   rw[e1,ih j];simp
theorem BE (ds:List Int):∀(l:List Nat),(∀c∈l,97<=c/\c<97+ds.length)->(zipWith (· * ·) ((range ds.length).map λk=>((l.count (97+k):Nat):Int)) ds).sum=(l.map λc=>ds[c - 97]?.getD 0).sum
 |[],_=>by
  have e:((range ds.length).map λk=>(((([]:List Nat).count (97+k):Nat)):Int))=(range ds.length).map λ_=>(0:Int):=List.map_congr_left λk _=>by simp
  rw[e,uE];rfl
 |c::l,h=>by
  obtain ⟨h1,h2⟩:=h c mem_cons_self;have ih:=BE ds l λd hd=>h d (mem_cons_of_mem _ hd);have e:((range ds.length).map λk=>(((c::l).count (97+k):Nat):Int))=(range ds.length).map λk=>(if k=c - 97 then (1:Int) else 0)+((l.count (97+k):Nat):Int):=by
   refine List.map_congr_left λk _=>?_;rw[List.count_cons];by_cases hk:k=c - 97
   ·have:c=97+k:=by lia
    rw[if_pos hk,this];simp;lia
   ·have:¬(c=97+k):=by lia
    rw[if_neg hk];simp [this]
  rw[e,KS,KR,ih,map_cons,sum_cons]
theorem QF {ds:List Int} {z:Str} (h:oW ds.length z):dot (kA ds.length z) ds=sg ds z:=BE ds (ls z) h
def tT (ws:List Str):Nat->List Int
 |0=>replicate ws.length 1
 |t+1=>ws.map (sg (tT ws t))
theorem pK (ws:List Str):∀t,(tT ws t).length=ws.length
 |0=>length_replicate
 |_+1=>length_map _
theorem Fu (z:Str) (k:Nat):0<=cnt z k:=by unfold cnt;lia
theorem Fv (z:Str) (k:Nat):cnt z k<=z.length:=by
 unfold cnt;have:=List.count_le_length (a:=97+k) (l:=ls z);rw[bJ] at this;lia
def aQ (ws:List Str) (c:Nat):Bool:=match ws[c - 97]? with
 |some w=>decide (97<=c)&&(decide (1<w.length)&&decide ((ls w)[0]?=some c))
 |none=>false
def nF (K:Fg):Sp:=λvs H Q _=>∃(z:Str) (m:Int),vs=[.str z,.int m]/\0<=m/\m<=4/\∀r H',aB H H'->H r=none->H' r=some (.lst ((kA m.toNat z).map V.int))->Q (.ref r) H'
def tF (K:Fg):List (SX K):=
 [ret (comp (FN (var 1) (var 0)) (iV 0) (gG (call "letters" (bZ K) [var 1])) ["letter"] ["word"] [0])]
theorem LU:TT (nF K) (tF K) ["word","many"]:=by
 intro vs H Q E h;obtain ⟨z,m,rfl,h0,h4,q⟩:=h;unfold tF;walk_at "";refine ⟨m,rfl,?_⟩;walk_at "";intro D hD;refine mR (λc=>.int (((ls z).count c:Nat):Int)) hD (small (by rw[jV h0 h4];lia)) (λi c H1 Q' hc hS fin=>?_) λH1 hS hO=>?_
 ·walk_at "";exact fin H1 (aB.refl _)
 ·refine q D H1 hS hD ?_;rw[hO,show (known m).cps.toList=ls (known m) from rfl,cX h0 h4,map_map];unfold kA;rw[map_map];rfl
def KI (H:Hp) (p:Addr) (rs:List Addr) (rows:List (List Int)):Prop:=H p=some (.lst (rs.map V.ref))/\rs.length=rows.length/\∀(i:Nat) (r:Addr) (row:List Int),rs[i]?=some r->rows[i]?=some row->H r=some (.lst (row.map V.int))
theorem KI.same {H H':Hp} {p:Addr} {rs:List Addr} {rows:List (List Int)} (h:KI H p rs rows) (e:aB H H'):KI H' p rs rows:=⟨e _ _ h.1,h.2.1,λi r row a b=>e _ _ (h.2.2 i r row a b)⟩
def rowsOf (ws:List Str):List (List Int):=ws.map (kA ws.length)
theorem EY:∀(ys:List V),(∀y∈ys,∃r,y=V.ref r)->∃rs:List Addr,ys=rs.map V.ref
 |[],_=>⟨[],rfl⟩
 |y::ys,h=>by
  obtain ⟨r,rfl⟩:=h y mem_cons_self;obtain ⟨rs,rfl⟩:=EY ys λy hy=>h y (mem_cons_of_mem _ hy);exact ⟨r::rs,rfl⟩
def lR (K:Fg):Sp:=λvs H Q _=>∃(a:Addr) (ws:List Str),vs=[.ref a]/\iC K H a ws/\∀p rs H',aB H H'->H p=none->(∀r∈rs,H r=none)->KI H' p rs (rowsOf ws)->Q (.ref p) H'
def yE (K:Fg):List (SX K):=
 [ret (comp (call "counts" (nF K) [var 0,len (var 1)]) (iV 0) (gG (var 0)) ["word"] ["rule"] [0])]
theorem TC:TT (lR K) (yE K) ["rule"]:=by
 intro vs H Q E h;obtain ⟨a,ws,rfl,hR,q⟩:=h;have h4:=hR.four;have hlen:(ws.map V.str).length=ws.length:=length_map _;unfold yE;walk_at "";refine GB hR.tp ?_;intro D hD;refine JP (λi y H1=>∃r w,y=.ref r/\r≠D/\H r=none/\ws[i]?=some w/\H1 r=some (.lst ((kA ws.length w).map V.int))) hR.tp hD (small (by lia)) (λi y H1 H2 hh=>?_) (λi x H1 Q' hx hS hDs fin=>?_) λH1 ys hS hO hl hr=>?_
 ·rintro ⟨r,w,e1,e2,e3,e4,e5⟩;exact ⟨r,w,e1,e2,e3,e4,hh r _ e2 e5⟩
 ·obtain ⟨w,hw,hw2⟩:∃w,ws[i]?=some w/\x=.str w:=by
   rw[getElem?_map] at hx;cases e:ws[i]? with
   |none=>rw[e] at hx;cases hx
   |some w=>rw[e] at hx;exact ⟨w,rfl,(Option.some.inj hx).symm⟩
  subst hw2;have hq1:=aB.seqT hS hR.tp;walk_at "";refine ⟨w,_,rfl,by lia,by lia,λr H2 hS2 hr hr2=>?_⟩;obtain ⟨o,ho⟩:=hDs;rw[hlen,toNat_natCast] at hr2;refine fin (.ref r) H2 hS2 ⟨r,w,rfl,(aD ho hr).symm,?_,hw,hr2⟩;cases e:H r with
  |none=>rfl
  |some o=>rw[hS _ _ e] at hr;cases hr
 ·obtain ⟨rs,rfl⟩:=EY ys λy hy=>by
   obtain ⟨i,hi⟩:=List.getElem?_of_mem hy;obtain ⟨r,_,e,_⟩:=hr i y hi;exact ⟨r,e⟩
  have hget:∀i r,rs[i]?=some r->H r=none/\∃w,ws[i]?=some w/\H1 r=some (.lst ((kA ws.length w).map V.int)):=λi r hi=>by
   obtain ⟨r',w,e1,_,e3,e4,e5⟩:=hr i (.ref r) (by rw[getElem?_map,hi];rfl);cases e1;exact ⟨e3,w,e4,e5⟩
  refine q D rs H1 hS hD (λr hm=>?_) ⟨hO,?_,λi r row hi hrow=>?_⟩
  ·obtain ⟨i,hi⟩:=List.getElem?_of_mem hm;exact (hget i r hi).1
  ·unfold rowsOf;rw[length_map,<-hlen,<-hl,length_map]
  ·obtain ⟨_,w,e1,e2⟩:=hget i r hi;unfold rowsOf at hrow;rw[getElem?_map,e1] at hrow;cases hrow;exact e2
def Kl:V->V->V
 | .int i,.int j=>.int (i * j)
 |_,_=>.non
theorem vX (f:Int->Int->Int) (g:V->V->V) (hg:∀i j,g (.int i) (.int j)=.int (f i j)):∀xs ys:List Int,zipWith g (xs.map V.int) (ys.map V.int)=(zipWith f xs ys).map V.int
 |[],ys=>rfl
 |x::xs,[]=>rfl
 |x::xs,y::ys=>by
  simp only [map_cons,List.zipWith_cons_cons,hg,vX f g hg xs ys]
theorem jU {xs:List Int} {i:Nat} {x:V} (h:(xs.map V.int)[i]?=some x):∃k,xs[i]?=some k/\x=.int k:=by
 rw[getElem?_map] at h;cases e:xs[i]? with
 |none=>rw[e] at h;cases h
 |some k=>rw[e] at h;exact ⟨k,rfl,(Option.some.inj h).symm⟩
def Hj (xs:List Int):Prop:=∀x∈xs,0<=x/\x<=1000000
def gY (K:Fg):Sp:=λvs H Q _=>∃(p r:Addr) (xs ys:List Int),vs=[.ref p,.ref r]/\H p=some (.lst (xs.map V.int))/\H r=some (.lst (ys.map V.int))/\Hj xs/\xs.length<=1000/\∀H',aB H H'->Q (.int (dot xs ys)) H'
def eS (K:Fg):List (SX K):=
 [ret (sum (comp (bin .Mult (var 0) (var 1)) (GZ [0,1]) (WO (var 0) (var 1)) ["count","size"] [] []))]
theorem qE:TT (gY K) (eS K) ["row","before"]:=by
 intro vs H Q E h;obtain ⟨p,r,xs,ys,rfl,hp,hr,hF,hl,q⟩:=h;unfold eS;walk_at "";refine DO (aH.of hp) (aH.of hr) ?_;intro D hD;refine BI Kl (aH.of hp) (aH.of hr) hD (small (by rw[length_map];lia)) (λi x y H1 Q' hx hy hS fin=>?_) λH1 hS hO=>?_
 ·obtain ⟨k,hk,rfl⟩:=jU hx;obtain ⟨j,hj,rfl⟩:=jU hy;have:=hF k (mem_of_getElem? hk);walk_at "";exact fin H1 (aB.refl _)
 ·refine ⟨D,zipWith (· * ·) xs ys,rfl,?_,q H1 hS⟩;rw[hO,vX (· * ·) Kl λ_ _=>rfl]
def fH (K:Fg):Sp:=λvs H Q _=>∃(p r:Addr) (rs:List Addr) (rows:List (List Int)) (ys:List Int),vs=[.ref p,.ref r]/\KI H p rs rows/\H r=some (.lst (ys.map V.int))/\(∀xs∈rows,Hj xs/\xs.length<=1000)/\rows.length<=1000/\
 ∀t H',aB H H'->H t=none->H' t=some (.lst ((rows.map λxs=>dot xs ys).map V.int))->Q (.ref t) H'
def gT (K:Fg):List (SX K):=
 [ret (comp (call "signs_behind" (gY K) [var 0,var 1]) (iV 0) (gG (var 0)) ["row"] ["before"] [1])]
theorem wC:TT (fH K) (gT K) ["rows","before"]:=by
 intro vs H Q E h;obtain ⟨p,r,rs,rows,ys,rfl,hT,hr,hF,hl,q⟩:=h;unfold gT;walk_at "";refine mM (aH.of hT.1) ?_;intro D hD;have hlen:(rs.map V.ref).length=rows.length:=by rw[length_map];exact hT.2.1
 refine nW (λi=>.int ((rows[i]?.map λxs=>dot xs ys).getD 0)) (aH.of hT.1) hD (small (by lia)) (λi x H1 Q' hx hS fin=>?_) λH1 hS hO=>?_
 ·have hi:i<rows.length:=by rw[<-hlen];exact (List.getElem?_eq_some_iff.mp hx).1
  have hi2:i<rs.length:=by rw[hT.2.1];exact hi
  have ex:x=.ref rs[i]:=by
   rw[getElem?_map,getElem?_eq_getElem hi2] at hx;exact (Option.some.inj hx).symm
  subst ex;have hF1:=hF _ (getElem_mem hi);rw[getElem?_eq_getElem hi] at fin;walk_at "";refine ⟨rs[i],r,rows[i],ys,rfl,hS _ _ (hT.2.2 i _ _ (getElem?_eq_getElem hi2) (getElem?_eq_getElem hi)),hS _ _ hr,hF1.1,hF1.2,λH2 hS2=>?_⟩;exact fin H2 hS2
 ·refine q D H1 hS hD ?_;rw[hO,hlen];have e:((range rows.length).map λi=>V.int ((rows[i]?.map λxs=>dot xs ys).getD 0))=((range rows.length).map λi=>(rows[i]?.map λxs=>dot xs ys).getD 0).map V.int:=by rw[map_map];rfl
  rw[e,nI]
theorem sF {α:Type} (x:α):∀n:Nat,(replicate n [x]).flatten=replicate n x
 |0=>rfl
 |n+1=>by rw[replicate_succ,flatten_cons,sF x n];rfl
theorem sI {n:Nat} {z:Str} (h:z.length<=100000):Hj (kA n z):=λx hx=>by
 unfold kA at hx;obtain ⟨k,_,rfl⟩:=mem_map.mp hx;have h1:=Fu z k;have h2:=Fv z k;lia
theorem zK {ws:List Str} (hw:∀w∈ws,oW ws.length w) (t:Nat):((rowsOf ws).map λxs=>dot xs (tT ws t))=tT ws (t+1):=by
 unfold rowsOf;rw[map_map];show _=ws.map (sg (tT ws t));refine List.map_congr_left λw h=>?_;have e:=QF (ds:=tT ws t) (z:=w) (by rw[pK];exact hw w h);rw[pK] at e;exact e
def zN (K:Fg):Sp:=λvs H Q _=>∃(a:Addr) (ws:List Str) (t:Int),vs=[.ref a,.int t]/\iC K H a ws/\(∀w∈ws,oW ws.length w/\w.length<=100000)/\0<=t/\t<=1000000/\
 ∀r H',aB H H'->H r=none->H' r=some (.lst ((tT ws t.toNat).map V.int))->Q (.ref r) H'
def yF (K:Fg):List (SX K):=
 [set 2 (call "table" (lR K) [var 0]),
  set 3 (bin .Mult (lst [cst (.int 1)]) (len (var 0))),
  kX (iV 4) (xT (var 1) []) [set 3 (call "sizes_once" (fH K) [var 2,var 3])],
  ret (var 3)]
theorem none_of {H H':Hp} {r:Addr} (e:aB H H') (h:H' r=none):H r=none:=by
 cases q:H r with
 |none=>rfl
 |some o=>rw[e _ _ q] at h;cases h
theorem TF:TT (zN K) (yF K) ["rule","times","rows","made","turn"]:=by
 intro vs H Q E h;obtain ⟨a,ws,t,rfl,hR,hw,h0,ht,q⟩:=h;have h4:=hR.four;have hlen:(ws.map V.str).length=ws.length:=length_map _;unfold yF;walk_at "";refine ⟨a,ws,rfl,hR,λp rs H1 hS1 _ _ hT=>?_⟩;have hq1:=aB.seqT hS1 hR.tp;walk_at "";refine ⟨by show 1<=sizeLine;decide,λl hl=>?_⟩;have s2:=aC hl (.lst [V.int 1]);have hq2:=aB.seqT s2 hq1;walk_at "";refine AY (xs:=[V.int 1]) aA ⟨by lia,by lia⟩ (small (by show 1 * _<=_;lia)) λr hr=>?_;have s3:=aC hr (.lst (replicate (((ws.map V.str).length:Nat):Int).toNat [V.int 1]).flatten);walk_at "";have hrow:∀xs∈rowsOf ws,Hj xs/\xs.length<=1000:=λxs hx=>by
  unfold rowsOf at hx;obtain ⟨w,hm,rfl⟩:=mem_map.mp hx;exact ⟨sI (hw w hm).2,by rw[mT];lia⟩
 refine gF (λi σ H'=>aB H1 H'/\∃(u:Addr) (a4:Option V),H u=none/\H' u=some (.lst ((tT ws i).map V.int))/\σ=[some (.ref a),some (.int t),some (.ref p),some (.ref u),a4])
  ⟨s2.trans s3,r,none,none_of (hS1.trans s2) hr,?_,rfl⟩ (λi σ H' hi hP=>?_) λσ H' hP=>?_
 ·rw[aA,hlen,toNat_natCast,sF];show _=some (HO.lst ((replicate ws.length (1:Int)).map V.int));rw[List.map_replicate]
 ·obtain ⟨hS,u,a4,hu,hu2,rfl⟩:=hP;walk_at "";refine ⟨p,u,rs,rowsOf ws,tT ws i,rfl,hT.same hS,hu2,hrow,?_,λv H2 hS2 hv hv2=>?_⟩
  ·unfold rowsOf;rw[length_map];lia
  ·rw[zK λw hm=>(hw w hm).1] at hv2;exact ⟨hS.trans hS2,v,_,none_of (hS1.trans hS) hv,hv2,rfl⟩
 ·obtain ⟨hS,u,a4,hu,hu2,rfl⟩:=hP;walk_at "";exact q u H' (hS1.trans hS) hu hu2
theorem qK (w:Str) (c:Nat) (h:1<=w.length):startswith w ⟨#[c]⟩=decide ((ls w)[0]?=some c):=by
 unfold startswith;have e:=subAt_one w c 0;rw[Bool.eq_iff_iff,decide_eq_true_iff];show (decide ((⟨#[c]⟩:Str).length<=w.length)&&_)=true↔_;rw[and_eq_true];constructor
 ·rintro ⟨h1,h2⟩;exact e.mp ⟨by simpa using of_decide_eq_true h1,h2⟩
 ·intro z;obtain ⟨h1,h2⟩:=e.mpr z;exact ⟨decide_eq_true h,h2⟩
def lW (K:Fg):Sp:=λvs H Q _=>∃(a:Addr) (ws:List Str) (c:Nat),vs=[.ref a,sgn c]/\iC K H a ws/\(∀w∈ws,1<=w.length/\w.length<=100)/\97<=c/\∀H',aB H H'->Q (.bl (aQ ws c)) H'
def yH (K:Fg):List (SX K):=
 [set 2 (OB (call "words_by_letter" (aY K) [var 0]) (var 1) (cst (.str ""))),
  ret (jO (cmp .Gt (len (var 2)) (cst (.int 1))) [m_startswith (var 2) (var 1)])]
theorem TJ:TT (lW K) (yH K) ["rule","start","word"]:=by
 intro vs H Q E h;obtain ⟨a,ws,c,rfl,hR,hle,hc,q⟩:=h;unfold yH;walk_at "";refine ⟨a,ws,rfl,hR,λd H1 hS1 _ hd=>?_⟩;obtain ⟨kvs,hk,_⟩:=id hd;refine Mo hk ?_;walk_at "";have f:=q H1 hS1;unfold aQ at f;by_cases hl:c - 97<ws.length
 ·have hw:=hle _ (getElem_mem hl);refine DP (hd.get hc (getElem?_eq_getElem hl)) ?_;rw[getElem?_eq_getElem hl] at f;rw[show (some (V.str ws[c - 97])).getD (V.str (ofString ""))=V.str ws[c - 97] from rfl];walk_at "";refine cD (small (by lia)) ?_;walk_at "";simp only [decide_eq_true hc,Bool.true_and] at f;refine eQ (λc1=>?_) λc1=>?_
  ·walk_at "";show Q (.bl (startswith ws[c - 97] ⟨#[c]⟩)) H1;rw[qK _ _ hw.1];rw[decide_eq_true (show 1<(ws[c - 97]).length by lia),Bool.true_and] at f;exact f
  ·rw[decide_eq_false (show ¬1<(ws[c - 97]).length by lia),Bool.false_and] at f;rw[decide_eq_false c1];exact f
 ·refine DP (hd.miss (by lia)) ?_;rw[List.getElem?_eq_none_iff.mpr (by lia)] at f;rw[show (none:Option V).getD (V.str (ofString ""))=V.str (ofString "") from rfl];walk_at "";refine cD (by decide+kernel) ?_;walk_at "";have e:(ofString "").length=0:=by decide+kernel
  refine eQ (λc1=>?_) λc1=>?_
  ·rw[e] at c1;lia
  ·rw[decide_eq_false c1];exact f
theorem Lo {E:XS} {σ:St} {H:Hp} {D:Ends} {o i a:EX K} (h:a.t E σ H λx H1=>o.t E σ H1 λy H2=>i.t E σ H2 λz H3=>Bl y z x H3 λH4=>D.nx σ H4):(put o i a).t E D σ H:=h
def GS (m:List Int) (x:Int) (row:List Int):List Int:=zipWith (·+·) m (row.map (x * ·))
def accN (rows:List (List Int)) (ns:List Int):Nat->List Int
 |0=>replicate rows.length 0
 |k+1=>GS (accN rows ns k) (ns[k]?.getD 0) (rows[k]?.getD [])
def BN (rows:List (List Int)) (ns:List Int):List Int:=accN rows ns rows.length
def KP (rows:List (List Int)) (ns:List Int):Nat->List Int
 |0=>ns
 |t+1=>BN rows (KP rows ns t)
theorem yO {rows:List (List Int)} {ns:List Int} (h:∀r∈rows,r.length=rows.length):∀k,k<=rows.length->(accN rows ns k).length=rows.length
 |0,_=>length_replicate
 |k+1,hk=>by
  show (zipWith _ _ _).length=_;have hk':k<rows.length:=by lia
  rw[List.length_zipWith,yO h k (by lia),length_map,getElem?_eq_getElem hk'];show min _ (rows[k]).length=_;rw[h _ (getElem_mem hk')];lia
theorem qW (ws:List Str):∀r∈rowsOf ws,r.length=(rowsOf ws).length:=λr hr=>by
 unfold rowsOf at hr ⊢;obtain ⟨w,_,rfl⟩:=mem_map.mp hr;rw[mT,length_map]
theorem bO (ws:List Str):(rowsOf ws).length=ws.length:=length_map _
theorem HV {ws:List Str} {i:Nat} (h:i<ws.length) (h2:i<(rowsOf ws).length):(rowsOf ws)[i]=kA ws.length ws[i]:=List.getElem_map ..
theorem JZ (ws:List Str) (ns:List Int):(BN (rowsOf ws) ns).length=ws.length:=by
 unfold BN;rw[yO (qW ws) _ (Nat.le_refl _),bO]
theorem yC {ws:List Str} {ns:List Int} (h:ns.length=ws.length):∀t,(KP (rowsOf ws) ns t).length=ws.length
 |0=>h
 |_+1=>JZ ws _
theorem IT {σ:St} {H:Hp} {D:Ends} {p r:Addr} {xs ys:List V} {m n:Nat} {tb:TS} (hp:aH K H p xs) (hr:aH K H r ys) (Pv:Nat->St->Hp->Prop) (h0:Pv 0 σ H) (hk:∀i σ1 H1,Pv i σ1 H1->aB H H1)
  (hs:∀i x y σ1 H1 H2,xs[i]?=some x->ys[i]?=some y->Pv i σ1 H1->aB H1 H2->tb {D with nx:=Pv (i+1),ct:=Pv (i+1),bk:=D.nx} ((σ1.set m (some x)).set n (some y)) H2) (hd:∀σ1 H1,Pv (min xs.length ys.length) σ1 H1->D.nx σ1 H1):
  oV (Nu K p r) (GZ [m,n]:TX K).g tb D σ H:=by
 refine ⟨λi k σ1 H1=>k=min xs.length ys.length - i/\i<=min xs.length ys.length/\Pv i σ1 H1,⟨_,rfl,zero_le _,h0⟩,?_⟩;rintro i k σ1 H1 ⟨rfl,hi,hP⟩;have hS:=hk i σ1 H1 hP;have hp1:=hS.seq hp;have hr1:=hS.seq hr;by_cases hlt:i<min xs.length ys.length
 ·have l1:i<xs.length:=by lia
  have l2:i<ys.length:=by lia
  refine .inr ⟨⟨xs,ys,xs[i],ys[i],hp1,hr1,getElem?_eq_getElem l1,getElem?_eq_getElem l2⟩,Pv (i+1),λσ3 H3 q=>⟨min xs.length ys.length - (i+1),by lia,rfl,hlt,q⟩,?_⟩;rintro v H' ⟨a,x,y,ha,rfl,rfl,hx,hy⟩;exact rR (bX.of aA) (hs i x y σ1 H1 _ (hx _ hp1) (hy _ hr1) hP (aC ha _))
 ·have e:i=min xs.length ys.length:=by lia
  subst e;exact .inl ⟨⟨xs,ys,hp1,hr1,by lia⟩,hd σ1 H1 hP⟩
def Nk:V->V->V
 | .int i,.int j=>.int (i+j)
 |_,_=>.non
def qT (K:Fg):Sp:=λvs H Q _=>∃(p r:Addr) (xs ys:List Int),vs=[.ref p,.ref r]/\H p=some (.lst (xs.map V.int))/\H r=some (.lst (ys.map V.int))/\xs.length<=1000/\∀t H',aB H H'->H t=none->H' t=some (.lst ((zipWith (·+·) xs ys).map V.int))->Q (.ref t) H'
def yI (K:Fg):List (SX K):=
 [ret (comp (bin .Add (var 0) (var 1)) (GZ [0,1]) (WO (var 0) (var 1)) ["left","right"] [] [])]
theorem TK:TT (qT K) (yI K) ["one","other"]:=by
 intro vs H Q E h;obtain ⟨p,r,xs,ys,rfl,hp,hr,hl,q⟩:=h;unfold yI;walk_at "";refine DO (aH.of hp) (aH.of hr) ?_;intro D hD;refine BI Nk (aH.of hp) (aH.of hr) hD (small (by rw[length_map];lia)) (λi x y H1 Q' hx hy hS fin=>?_) λH1 hS hO=>?_
 ·obtain ⟨k,hk,rfl⟩:=jU hx;obtain ⟨j,hj,rfl⟩:=jU hy;walk_at "";exact fin H1 (aB.refl _)
 ·refine q D H1 hS hD ?_;rw[hO,vX (·+·) Nk λ_ _=>rfl]
def Ag (x:Int):V->V
 | .int j=>.int (x * j)
 |_=>.non
def iQ (K:Fg):Sp:=λvs H Q _=>∃(p r:Addr) (rs:List Addr) (ws:List Str) (ns:List Int),vs=[.ref p,.ref r]/\KI H p rs (rowsOf ws)/\H r=some (.lst (ns.map V.int))/\ns.length=ws.length/\ws.length<=4/\(∀w∈ws,w.length<=100000)/\
 ∀t H',aB H H'->H t=none->H' t=some (.lst ((BN (rowsOf ws) ns).map V.int))->Q (.ref t) H'
def fU (K:Fg):List (SX K):=
 [set 2 (bin .Mult (lst [cst (.int 0)]) (len (var 0))),
  kX (GZ [3,4]) (WO (var 1) (var 0)) [set 2 (call "added" (qT K) [var 2,comp (bin .Mult (var 1) (var 0)) (iV 0) (gG (var 4)) ["count"] ["number"] [3]])],
  ret (var 2)]
theorem tS:TT (iQ K) (fU K) ["rows","numbers","made","number","row"]:=by
 intro vs H Q E h;obtain ⟨p,r,rs,ws,ns,rfl,hT,hr,hl,h4,hw,q⟩:=h;have hrl:(rs.map V.ref).length=ws.length:=by rw[length_map,hT.2.1,bO]
 have hnl:(ns.map V.int).length=ws.length:=by rw[length_map,hl]
 unfold fU;walk_at "";refine ⟨by show 1<=sizeLine;decide,λl hl'=>?_⟩;have s1:=aC hl' (.lst [V.int 0]);have hqq:aH K (upd H l (.lst [V.int 0])) p (rs.map V.ref):=aH.of (s1 _ _ hT.1);walk_at "";refine AY (xs:=[V.int 0]) aA ⟨by lia,by lia⟩ (small (by show 1 * _<=_;lia)) λl2 hl2=>?_;have s2:=aC hl2 (.lst (replicate (((rs.map V.ref).length:Nat):Int).toNat [V.int 0]).flatten);have s12:=s1.trans s2;walk_at "";have gp:=s12 _ _ hT.1;have gr:=s12 _ _ hr;refine DO (aH.of gr) (aH.of gp) ?_;refine IT (aH.of gr) (aH.of gp) (λi σ H'=>aB (upd (upd H l (.lst [V.int 0])) l2 (.lst (replicate (((rs.map V.ref).length:Nat):Int).toNat [V.int 0]).flatten)) H'/\∃(u:Addr) (a3 a4:Option V),H u=none/\H' u=some (.lst ((accN (rowsOf ws) ns i).map V.int))/\σ=[some (.ref p),some (.ref r),some (.ref u),a3,a4])
  ⟨aB.refl _,l2,none,none,none_of s1 hl2,?_,rfl⟩ (λi σ1 H1 hP=>hP.1) (λi x y σ1 H1 H2 hx hy hP hS2=>?_) λσ1 H1 hP=>?_
 ·rw[aA,hrl,toNat_natCast,sF];show _=some (HO.lst ((replicate (rowsOf ws).length (0:Int)).map V.int));rw[List.map_replicate,bO]
 ·obtain ⟨hS1,u,a3,a4,hu,hu1,rfl⟩:=hP;obtain ⟨k,hk,rfl⟩:=jU hx;have hi:i<ws.length:=by rw[<-hl];exact (List.getElem?_eq_some_iff.mp hk).1
  have hi2:i<rs.length:=by rw[hT.2.1,bO];exact hi
  have hi3:i<(rowsOf ws).length:=by rw[bO];exact hi
  have ey:y=.ref rs[i]:=by
   rw[getElem?_map,getElem?_eq_getElem hi2] at hy;exact (Option.some.inj hy).symm
  subst ey;have hrow:H2 rs[i]=some (.lst (((rowsOf ws)[i]).map V.int)):=hS2 _ _ (hS1 _ _ (s12 _ _ (hT.2.2 i _ _ (getElem?_eq_getElem hi2) (getElem?_eq_getElem hi3))));have hfew:Hj ((rowsOf ws)[i]):=by
   rw[HV hi hi3];exact sI (hw _ (getElem_mem hi))
  have hrowl:((rowsOf ws)[i]).length=ws.length:=by rw[qW ws _ (getElem_mem hi3),bO]
  walk_at "";refine mM (aH.of hrow) ?_;intro D hD;refine QV (Ag k) (aH.of hrow) hD (small (by rw[length_map];lia)) (λj x H3 Q' hx3 hS3 fin=>?_) λH3 hS3 hO=>?_
  ·obtain ⟨c,hc,rfl⟩:=jU hx3;have:=hfew c (mem_of_getElem? hc);walk_at "";exact fin H3 (aB.refl _)
  ·walk_at "";have hO2:H3 D=some (.lst ((((rowsOf ws)[i]).map (k * ·)).map V.int)):=by
    rw[hO,map_map,map_map];rfl
   refine ⟨u,D,_,_,rfl,hS3 _ _ (hS2 _ _ hu1),hO2,?_,λt H4 hS4 ht ht4=>?_⟩
   ·rw[yO (qW ws) _ (by lia),bO];lia
   ·have hSS:=(hS1.trans hS2).trans hS3;refine ⟨hSS.trans hS4,t,_,_,none_of (s12.trans hSS) ht,?_,rfl⟩;rw[ht4];show _=some (HO.lst ((GS (accN (rowsOf ws) ns i) (ns[i]?.getD 0) ((rowsOf ws)[i]?.getD [])).map V.int));rw[hk,getElem?_eq_getElem hi3];rfl
 ·obtain ⟨hS1,u,a3,a4,hu,hu1,rfl⟩:=hP;walk_at "";refine q u H1 (s12.trans hS1) hu ?_;rw[hu1,hnl,hrl,Nat.min_self];unfold BN;rw[bO]
def fZ (K:Fg):Sp:=λvs H Q _=>∃(a r:Addr) (ws:List Str) (ns:List Int) (t:Int),vs=[.ref a,.ref r,.int t]/\iC K H a ws/\H r=some (.lst (ns.map V.int))/\ns.length=ws.length/\(∀w∈ws,w.length<=100000)/\0<=t/\t<=1000000/\
 ∀u H',aB H H'->H u=none->H' u=some (.lst ((KP (rowsOf ws) ns t.toNat).map V.int))->Q (.ref u) H'
def dY (K:Fg):List (SX K):=
 [set 3 (call "table" (lR K) [var 0]),
  set 4 (listE (var 1)),
  kX (iV 5) (xT (var 2) []) [set 4 (call "counts_once" (iQ K) [var 3,var 4])],
  ret (var 4)]
theorem pE:TT (fZ K) (dY K) ["rule","numbers","times","rows","made","turn"]:=by
 intro vs H Q E h;obtain ⟨a,r,ws,ns,t,rfl,hR,hr,hl,hw,h0,ht,q⟩:=h;unfold dY;walk_at "";refine ⟨a,ws,rfl,hR,λp rs H1 hS1 _ _ hT=>?_⟩;walk_at "";refine ⟨_,.inl (aH.of (hS1 _ _ hr)),λl hl'=>?_⟩;have s2:=aC hl' (.lst (ns.map V.int));walk_at "";refine gF (λi σ H'=>aB H1 H'/\∃(u:Addr) (a5:Option V),H u=none/\H' u=some (.lst ((KP (rowsOf ws) ns i).map V.int))/\σ=[some (.ref a),some (.ref r),some (.int t),some (.ref p),some (.ref u),a5])
  ⟨s2,l,none,none_of hS1 hl',aA,rfl⟩ (λi σ H' hi hP=>?_) λσ H' hP=>?_
 ·obtain ⟨hS,u,a5,hu,hu2,rfl⟩:=hP;walk_at "";refine ⟨p,u,rs,ws,_,rfl,hT.same hS,hu2,yC hl i,hR.four,hw,λv H2 hS2 hv hv2=>?_⟩;exact ⟨hS.trans hS2,v,_,none_of (hS1.trans hS) hv,hv2,rfl⟩
 ·obtain ⟨hS,u,a5,hu,hu2,rfl⟩:=hP;walk_at "";exact q u H' (hS1.trans hS) hu hu2
theorem EO {ws:List Str} {k j:Nat} (h:j<ws.length):∃x,(tT ws k)[j]?=some x:=⟨(tT ws k)[j]'(by rw[pK];exact h),getElem?_eq_getElem _⟩
def sz (ws:List Str) (k c:Nat):Int:=(tT ws k)[c - 97]?.getD 0
def aM (ws:List Str) (k:Nat) (l:List Nat):Int:=(l.map (sz ws k)).sum
theorem jR {ws:List Str} {c:Nat} (h2:c - 97<ws.length):sz ws 0 c=1:=by
 show (replicate ws.length (1:Int))[c - 97]?.getD 0=1;rw[List.getElem?_replicate,if_pos h2];rfl
theorem jS {ws:List Str} {k c:Nat} (h2:c - 97<ws.length):sz ws (k+1) c=aM ws k (wd ws c):=by
 show (ws.map (sg (tT ws k)))[c - 97]?.getD 0=_;rw[getElem?_map,getElem?_eq_getElem h2];unfold wd;rw[getElem?_eq_getElem h2];rfl
structure Ru (ws:List Str):Prop where
 pos:1<=ws.length
 four:ws.length<=4
 isw:∀w∈ws,oW ws.length w
 one:∀w∈ws,1<=w.length
 le:∀w∈ws,w.length<=100
theorem Ru.word {ws:List Str} (h:Ru ws) {c:Nat} (h2:c - 97<ws.length):∃w,ws[c - 97]?=some w/\wd ws c=ls w/\w∈ws:=by
 refine ⟨ws[c - 97],getElem?_eq_getElem h2,?_,getElem_mem h2⟩;unfold wd;rw[getElem?_eq_getElem h2];rfl
theorem Ru.sign {ws:List Str} (h:Ru ws) {c d:Nat} (h2:c - 97<ws.length) (hd:d∈wd ws c):97<=d/\d - 97<ws.length:=by
 obtain ⟨w,_,e,hm⟩:=h.word h2;rw[e] at hd;have:=h.isw w hm d hd;lia
theorem lP {ws:List Str} {k:Nat} {l:List Nat} (h:∀c∈l,1<=sz ws k c):(l.length:Int)<=aM ws k l:=by
 induction l with
 |nil=>exact Int.le_refl _
 |cons c l ih=>
  have h1:=h c mem_cons_self;have h2:=ih λd hd=>h d (mem_cons_of_mem _ hd);have e:aM ws k (c::l)=sz ws k c+aM ws k l:=by unfold aM;rw[map_cons,sum_cons]
  rw[e,length_cons];lia
theorem LV {ws:List Str} (h:Ru ws):∀(k c:Nat),c - 97<ws.length->1<=sz ws k c
 |0,c,h2=>by rw[jR h2];exact Int.le_refl _
 |k+1,c,h2=>by
  rw[jS h2];have:=lP (ws:=ws) (k:=k) (l:=wd ws c) λd hd=>LV h k d (h.sign h2 hd).2;obtain ⟨w,_,e,hm⟩:=h.word h2;have h1:=h.one w hm;rw[e,bJ] at this;rw[e];lia
def bK (ws:List Str) (k:Nat):List Nat->Int->Nat × Int
 |[],x=>(0,x)
 |c::l,x=>if sz ws k c<=x then ((bK ws k l (x - sz ws k c)).1+1,(bK ws k l (x - sz ws k c)).2) else (0,x)
theorem xW {ws:List Str} {k:Nat}:∀(l:List Nat) (x:Int),0<=x->x<aM ws k l->(bK ws k l x).1<l.length/\0<=(bK ws k l x).2/\(∀d,l[(bK ws k l x).1]?=some d->(bK ws k l x).2<sz ws k d)/\(bK ws k l x).2=x - aM ws k (l.take (bK ws k l x).1)
 |[],x,h0,h=>by
  have e:aM ws k []=0:=rfl;rw[e] at h;lia
 |c::l,x,h0,h=>by
  have e:aM ws k (c::l)=sz ws k c+aM ws k l:=by unfold aM;rw[map_cons,sum_cons]
  rw[e] at h;unfold bK;by_cases hc:sz ws k c<=x
  ·rw[if_pos hc];obtain ⟨h1,h2,h3,h4⟩:=xW (ws:=ws) (k:=k) l (x - sz ws k c) (by lia) (by lia);refine ⟨by rw[length_cons];show _+1<_;lia,h2,λd hd=>h3 d (by simpa using hd),?_⟩;show (bK ws k l (x - sz ws k c)).2=x - aM ws k ((c::l).take ((bK ws k l (x - sz ws k c)).1+1));rw[List.take_succ_cons];have e2:aM ws k (c::l.take (bK ws k l (x - sz ws k c)).1)=sz ws k c+aM ws k (l.take (bK ws k l (x - sz ws k c)).1):=by unfold aM;rw[map_cons,sum_cons]
   rw[e2,h4];lia
  ·rw[if_neg hc];refine ⟨by rw[length_cons];show 0<_;lia,h0,λd hd=>?_,?_⟩
   ·have hd':c=d:=by simpa using hd
    subst hd';show x<_;lia
   ·show x=x - aM ws k ((c::l).take 0);rw[List.take_zero];have e0:aM ws k []=0:=rfl;rw[e0];lia
theorem BA {ws:List Str} {k:Nat}:∀(l:List Nat) (x:Int) (s:Nat) (d:Nat),s<=(bK ws k l x).1->l[s]?=some d->(s<(bK ws k l x).1↔sz ws k d<=x - aM ws k (l.take s))
 |[],x,s,d,_,hd=>by simp at hd
 |c::l,x,0,d,_,hd=>by
  have hd':c=d:=by simpa using hd
  subst hd';have e0:aM ws k ((c::l).take 0)=0:=rfl;rw[e0];unfold bK;by_cases hc:sz ws k c<=x
  ·rw[if_pos hc];constructor
   ·intro _;lia
   ·intro _;show 0<_+1;lia
  ·rw[if_neg hc];constructor
   ·intro z;exact absurd z (lt_irrefl 0)
   ·intro z;lia
 |c::l,x,s+1,d,hs,hd=>by
  unfold bK at hs ⊢;by_cases hc:sz ws k c<=x
  ·rw[if_pos hc] at hs ⊢;have ih:=BA (ws:=ws) (k:=k) l (x - sz ws k c) s d (by have:s+1<=(bK ws k l (x - sz ws k c)).1+1:=hs;lia) (by simpa using hd);have e2:aM ws k ((c::l).take (s+1))=sz ws k c+aM ws k (l.take s):=by rw[List.take_succ_cons];unfold aM;rw[map_cons,sum_cons]
   rw[e2];constructor
   ·intro z;have:=ih.mp (by have:s+1<(bK ws k l (x - sz ws k c)).1+1:=z;lia);lia
   ·intro z;have:=ih.mpr (by lia);show s+1<_+1;lia
  ·rw[if_neg hc] at hs;have:s+1<=0:=hs;lia
def xX (ws:List Str):Nat->Nat->Int->List (Nat × Nat)
 |0,_,_=>[]
 |k+1,c,x=>((bK ws k (wd ws c) x).1,(wd ws c)[(bK ws k (wd ws c) x).1]?.getD 0)::xX ws k ((wd ws c)[(bK ws k (wd ws c) x).1]?.getD 0) (bK ws k (wd ws c) x).2
def dD (ws:List Str):Nat->Nat->Int->Nat->Nat × Int
 |_,c,x,0=>(c,x)
 |0,c,x,_+1=>(c,x)
 |k+1,c,x,i+1=>dD ws k ((wd ws c)[(bK ws k (wd ws c) x).1]?.getD 0) (bK ws k (wd ws c) x).2 i
theorem jD (ws:List Str):∀k c x,(xX ws k c x).length=k
 |0,_,_=>rfl
 |k+1,c,x=>by show (xX ws k _ _).length+1=_;rw[jD ws k]
def Good (ws:List Str) (k c:Nat) (x:Int):Prop:=97<=c/\c - 97<ws.length/\0<=x/\x<sz ws k c
theorem Good.step {ws:List Str} (h:Ru ws) {k c:Nat} {x:Int} (g:Good ws (k+1) c x):∃d,(wd ws c)[(bK ws k (wd ws c) x).1]?=some d/\Good ws k d (bK ws k (wd ws c) x).2:=by
 obtain ⟨g1,g2,g3,g4⟩:=g;rw[jS g2] at g4;obtain ⟨h1,h2,h3,h4⟩:=xW (wd ws c) x g3 g4;refine ⟨(wd ws c)[(bK ws k (wd ws c) x).1],getElem?_eq_getElem h1,?_⟩;obtain ⟨s1,s2⟩:=h.sign g2 (getElem_mem h1);exact ⟨s1,s2,h2,h3 _ (getElem?_eq_getElem h1)⟩
theorem mQ {ws:List Str} (h:Ru ws):∀(k c:Nat) (x:Int) (i:Nat),Good ws k c x->i<=k->Good ws (k - i) (dD ws k c x i).1 (dD ws k c x i).2
 |k,c,x,0,g,_=>by unfold dD;exact g
 |0,c,x,i+1,g,hi=>by lia
 |k+1,c,x,i+1,g,hi=>by
  obtain ⟨d,hd,g'⟩:=g.step h;have e:dD ws (k+1) c x (i+1)=dD ws k d (bK ws k (wd ws c) x).2 i:=by
   show dD ws k ((wd ws c)[(bK ws k (wd ws c) x).1]?.getD 0) (bK ws k (wd ws c) x).2 i=_;rw[hd];rfl
  rw[e,show k+1 - (i+1)=k - i by lia];exact mQ h k d _ i g' (by lia)
theorem sG {ws:List Str}:∀(k c:Nat) (x:Int) (i:Nat),i<k->dD ws k c x (i+1)=((wd ws (dD ws k c x i).1)[(bK ws (k - i - 1) (wd ws (dD ws k c x i).1) (dD ws k c x i).2).1]?.getD 0,(bK ws (k - i - 1) (wd ws (dD ws k c x i).1) (dD ws k c x i).2).2)
 |0,_,_,_,h=>by lia
 |k+1,c,x,0,_=>by
  have e:dD ws (k+1) c x 0=(c,x):=by unfold dD;rfl
  rw[e];show dD ws k _ _ 0=_;unfold dD;cases k<;>rfl
 |k+1,c,x,i+1,h=>by
  have ih:=sG (ws:=ws) k ((wd ws c)[(bK ws k (wd ws c) x).1]?.getD 0) (bK ws k (wd ws c) x).2 i (by lia);show dD ws k _ _ (i+1)=_;rw[ih,show k+1 - (i+1) - 1=k - i - 1 by lia];rfl
theorem pW {ws:List Str}:∀(k c:Nat) (x:Int) (i:Nat),i<k->(xX ws k c x)[i]?=some ((bK ws (k - i - 1) (wd ws (dD ws k c x i).1) (dD ws k c x i).2).1,(dD ws k c x (i+1)).1)
 |0,_,_,_,h=>by lia
 |k+1,c,x,0,_=>by
  have e:dD ws (k+1) c x 0=(c,x):=by unfold dD;rfl
  rw[e];show some _=some _
  congr 2
  show _=(dD ws k _ _ 0).1;unfold dD;cases k<;>rfl
 |k+1,c,x,i+1,h=>by
  have ih:=pW (ws:=ws) k ((wd ws c)[(bK ws k (wd ws c) x).1]?.getD 0) (bK ws k (wd ws c) x).2 i (by lia);show (xX ws k _ _)[i]?=_;rw[ih,show k+1 - (i+1) - 1=k - i - 1 by lia];rfl
theorem pL {ws:List Str} (h:Ru ws) {c:Nat} (hc:97<=c) (h2:c - 97<ws.length) (hg:aQ ws c=true):∀k:Nat,(k:Int)+1<=sz ws k c
 |0=>by rw[jR h2];lia
 |k+1=>by
  obtain ⟨w,hw,e,hm⟩:=h.word h2;have hg':=hg;unfold aQ at hg;rw[hw] at hg;simp only [and_eq_true,decide_eq_true_eq] at hg;obtain ⟨_,g1,g2⟩:=hg;rw[jS h2,e];cases hl:ls w with
  |nil=>rw[hl] at g2;simp at g2
  |cons d l=>
   rw[hl] at g2;have hd:d=c:=by simpa using g2
   subst hd;have e2:aM ws k (d::l)=sz ws k d+aM ws k l:=by unfold aM;rw[map_cons,sum_cons]
   have hlen:l.length+1=w.length:=by rw[<-bJ,hl];rfl
   have h3:=lP (ws:=ws) (k:=k) (l:=l) λx hx=>LV h k x (h.sign h2 (by rw[e,hl];exact mem_cons_of_mem _ hx)).2;have ih:=pL h hc h2 hg' k;rw[e2];lia
theorem least {P:Nat->Prop} [DecidablePred P]:∀{m:Nat},P m->∃k,k<=m/\P k/\∀i,i<k->¬P i
 |0,h=>⟨0,Nat.le_refl _,h,λi hi=>absurd hi (Nat.not_lt_zero _)⟩
 |m+1,h=>by
  by_cases h0:P 0
  ·exact ⟨0,zero_le _,h0,λi hi=>absurd hi (Nat.not_lt_zero _)⟩
  ·obtain ⟨k,h1,h2,h3⟩:=least (P:=λk=>P (k+1)) (m:=m) h;refine ⟨k+1,by lia,h2,λi hi=>?_⟩;cases i with
   |zero=>exact h0
   |succ i=>exact h3 i (by lia)
def fG (ws:List Str) (k:Nat):List (List Int):=(range k).map (tT ws)
theorem kK (ws:List Str) (k:Nat):(fG ws k).length=k:=by unfold fG;rw[length_map,length_range]
theorem kL {ws:List Str} {k i:Nat} (h:i<k):(fG ws k)[i]?=some (tT ws i):=by unfold fG;rw[getElem?_map,getElem?_range h];rfl
theorem zL (ws:List Str) (k:Nat):fG ws (k+1)=fG ws k++[tT ws k]:=by unfold fG;rw[range_succ,map_append];rfl
theorem KI.snoc {H H':Hp} {p r:Addr} {rs:List Addr} {rows:List (List Int)} {row:List Int} (h:KI H p rs rows) (hr:H' r=some (.lst (row.map V.int))) (hp:H' p=some (.lst ((rs++[r]).map V.ref))) (hs:∀b o,b≠p->H b=some o->H' b=some o) (hne:∀x∈rs,x≠p):KI H' p (rs++[r]) (rows++[row]):=by
 refine ⟨hp,by rw[length_append,length_append,h.2.1];rfl,λi x y hx hy=>?_⟩;by_cases hi:i<rs.length
 ·rw[getElem?_append_left hi] at hx;rw[getElem?_append_left (by rw[<-h.2.1];exact hi)] at hy;exact hs _ _ (hne x (mem_of_getElem? hx)) (h.2.2 i x y hx hy)
 ·rw[getElem?_append_right (by lia)] at hx;rw[getElem?_append_right (by rw[<-h.2.1];lia),<-h.2.1] at hy;have e0:i - rs.length=0:=by
   have:=(List.getElem?_eq_some_iff.mp hx).1;simp at this;lia
  rw[e0] at hx hy;have e1:r=x:=by simpa using hx
  have e2:row=y:=by simpa using hy
  subst e1 e2;exact hr
theorem AU {m:Int} (h0:0<=m) (h4:m<=4) {c:Nat} (h1:97<=c) (h2:c - 97<m.toNat):∃r,Builtin.Str.occurrences (known m) ⟨#[c]⟩ 0 (known m).length 1=(c - 97)::r:=by
 have hm:m=0\/m=1\/m=2\/m=3\/m=4:=by lia
 have hc:c=97\/c=98\/c=99\/c=100:=by lia
 rcases hm with rfl|rfl|rfl|rfl|rfl<;>rcases hc with rfl|rfl|rfl|rfl<;>first|exact absurd h2 (by decide)|exact ⟨[],by decide+kernel⟩
def bY (K:Fg):Sp:=λvs H Q _=>∃(a:Addr) (ws:List Str) (c:Nat) (n:Int) (k:Nat),vs=[.ref a,sgn c,.int n]/\iC K H a ws/\Ru ws/\97<=c/\c - 97<ws.length/\aQ ws c=true/\k<=400/\n<sz ws k c/\(∀i,i<k->sz ws i c<=n)/\
 ∀p rs H',aB H H'->H p=none->KI H' p rs (fG ws (k+1))->Q (.ref p) H'
theorem GA {E:XS} {σ:St} {H:Hp} {Q:VK} {a:EX K} (h:a.t E σ H λx H1=>UD x H1 Q):(neg a).t E σ H Q:=h
theorem xQ {H:Hp} {Q:VK} {i:Int} (h:Q (.int (-i)) H):UD (.int i) H Q:=h
theorem vU {α:Type} {xs:List α} {v:α} (h:xs[xs.length - 1]?=some v):uB xs (-(1:Int))=some v:=by
 have hl:0<xs.length:=by
  by_cases h0:0<xs.length
  ·exact h0
  ·rw[List.getElem?_eq_none_iff.mpr (by lia)] at h;cases h
 have e:xs=xs.dropLast++[v]:=by
  have hne:xs≠[]:=by intro z;rw[z] at hl;exact absurd hl (lt_irrefl 0)
  have e1:=List.dropLast_concat_getLast hne;have e2:xs.getLast hne=v:=by
   rw[List.getLast_eq_getElem];rw[getElem?_eq_getElem (by lia)] at h;exact Option.some.inj h
  rw[e2] at e1;exact e1.symm
 rw[e];exact RY _ _
theorem Ru.lens {ws:List Str} (h:Ru ws):∀w∈ws,1<=w.length/\w.length<=100:=λw hw=>⟨h.one w hw,h.le w hw⟩
theorem Ja {ws:List Str} {k c:Nat} (h2:c - 97<ws.length):uB ((tT ws k).map V.int) ((c - 97:Nat):Int)=some (.int (sz ws k c)):=by
 refine bI ?_;obtain ⟨x,hx⟩:=EO (ws:=ws) (k:=k) h2;rw[getElem?_map,hx];unfold sz;rw[hx];rfl
def Sg (H:Hp) (p:Addr) (rs:List Addr) (fs:List (Nat × Nat)):Prop:=H p=some (.lst (rs.map V.ref))/\rs.length=fs.length/\∀(i:Nat) (r:Addr) (f:Nat × Nat),rs[i]?=some r->fs[i]?=some f->H r=some (.tup [.int (f.1:Nat),sgn f.2])
def SB (H:Hp) (d:Addr) (ws:List Str) (k:Nat):Prop:=∃kvs,H d=some (.dK kvs)/\∀c,97<=c->c - 97<ws.length->eY kvs (.inr ⟨#[c]⟩)=some (.int (sz ws k c))
theorem SB.get {H:Hp} {d:Addr} {ws:List Str} {k c:Nat} (h:SB H d ws k) (h1:97<=c) (h2:c - 97<ws.length):fV H d (sgn c) (some (.int (sz ws k c))):=by
 obtain ⟨kvs,e,f⟩:=h;rw[<-f c h1 h2];exact fV.k (k:=.inr ⟨#[c]⟩) e
def cA (K:Fg):Sp:=λvs H Q _=>∃(a:Addr) (ws:List Str) (c:Nat) (n:Int) (k:Nat),vs=[.ref a,sgn c,.int n]/\iC K H a ws/\Ru ws/\aQ ws c=true/\k<=400/\Good ws k c n/\(∀i,i<k->sz ws i c<=n)/\
 ∀p rs H',aB H H'->H p=none->(∀r∈rs,H r=none)->Sg H' p rs (xX ws k c n)->Q (.ref p) H'
theorem CV {E:XS} {σ:St} {H:Hp} {Q:VK} {a r:Addr} {ws:List Str} {k:Nat} (h0:σ[0]?=some (some (.ref a))) (h8:σ[8]?=some (some (.ref r))) (hR:iC K H a ws) (hr:H r=some (.lst ((tT ws k).map V.int))) (q:∀d H',aB H H'->H d=none->SB H' d ws k->Q (.ref d) H'):
  (WY (call "letters" (bZ K) [len (var 0)]) (var 8):EX K).t E σ H Q:=by
 have h4:=hR.four;have hq:=hR.tp;have hlen:(ws.map V.str).length=ws.length:=length_map _;refine PF (PJ (xS (YZ (FX h0 (PB hq (nS ⟨_,rfl,FX h8 ?_⟩))))));have k0:(0:Int)<=((ws.map V.str).length:Nat):=by lia
 have k4:(((ws.map V.str).length:Nat):Int)<=4:=by lia
 have hkl:(known ((ws.map V.str).length:Nat)).cps.size=ws.length:=by
  show (known ((ws.map V.str).length:Nat)).length=_;rw[jV k0 k4];lia
 have hinj:∀i j,i<(known ((ws.map V.str).length:Nat)).cps.size->j<(known ((ws.map V.str).length:Nat)).cps.size->fW (known ((ws.map V.str).length:Nat)) i=fW (known ((ws.map V.str).length:Nat)) j->i=j:=λi j hi hj e=>by
  rw[hkl] at hi hj;rw[cQ k0 k4 (by lia),cQ k0 k4 (by lia)] at e;have:=wO e;lia
 refine ⟨_,_,(tT ws k).map V.int,rfl,.inr (aH.of hr),by rw[hkl,length_map,pK],by rw[hkl];lia,?_,hinj,λd hd=>?_⟩
 ·rw[Array.all_eq_true'];intro c hc;have hc':c∈ls (known ((ws.map V.str).length:Nat)):=by simpa [ls] using hc
  rw[cX k0 k4] at hc';obtain ⟨k,hk,rfl⟩:=mem_map.mp hc';have:=mem_range.mp hk;simp;lia
 refine q d _ (aC hd _) hd ⟨_,aA,λc h1 h2=>?_⟩;obtain ⟨x,hx⟩:=EO (ws:=ws) (k:=k) h2;unfold kC;have ek:=cQ k0 k4 (show c - 97<(((ws.map V.str).length:Nat):Int).toNat by lia);have e97:97+(c - 97)=c:=by lia
 rw[e97] at ek;rw[<-ek,uH hinj (by rw[hkl];exact h2),getElem?_map,hx];unfold sz;rw[hx];rfl
def Off (p:Addr) (H H':Hp):Prop:=∀b o,b≠p->H b=some o->H' b=some o
theorem Off.trans {p:Addr} {H H1 H2:Hp} (a:Off p H H1) (b:aB H1 H2):Off p H H2:=λc o h e=>b c o (a c o h e)
theorem Off.upd {p:Addr} {H H1:Hp} {o:HO} (a:Off p H H1):Off p H (upd H1 p o):=λc u h e=>by rw[aE h];exact a c u h e
theorem Off.same {p:Addr} {H0 H H1:Hp} (s:aB H0 H) (a:Off p H H1) (hp:H0 p=none):aB H0 H1:=λc o e=>a c o (aD e hp) (s c o e)
theorem Aw (n d:Nat) (h:0<n):HT.dP n d (some (-(1:Int)))=n - 1:=by
 show (if (-(1:Int))<0 then ((-(1:Int))+(n:Int)).toNat else min (-(1:Int)).toNat n)=n - 1;rw[if_pos (by decide)];lia
theorem Ft {xs:List V} (h:0<xs.length):nV xs none (some (-(1:Int)))=xs.take (xs.length - 1):=by
 unfold nV;rw[HT.zT,Aw _ _ h,drop_zero,Nat.sub_zero]
def bP (ws:List Str) (l:List Nat):List Nat:=l.flatMap (wd ws)
theorem AW (ws:List Str) (a b:List Nat):bP ws (a++b)=bP ws a++bP ws b:=List.flatMap_append ..
theorem bE (ws:List Str) (c:Nat) (l:List Nat):bP ws (c::l)=wd ws c++bP ws l:=List.flatMap_cons ..
theorem rQ (ws:List Str) (z:Str):img ws z=aP (bP ws (ls z)):=rfl
def wk (ws:List Str) (c:Nat):Nat->List Nat
 |0=>[c]
 |k+1=>bP ws (wk ws c k)
def gI (ws:List Str) (l:List Nat):Prop:=∀c∈l,97<=c/\c - 97<ws.length
theorem gI.img {ws:List Str} (h:Ru ws) {l:List Nat} (hl:gI ws l):gI ws (bP ws l):=λc hc=>by
 unfold bP at hc;obtain ⟨d,hd,hcd⟩:=mem_flatMap.mp hc;exact h.sign (hl d hd).2 hcd
theorem gI.isW {ws:List Str} {l:List Nat} (h:gI ws l):oW ws.length (aP l):=λc hc=>by
 rw[cN] at hc;have:=h c hc;lia
theorem mZ {ws:List Str} (h:Ru ws) {c:Nat} (h1:97<=c) (h2:c - 97<ws.length):∀k,gI ws (wk ws c k)
 |0=>λd hd=>by
  have:d=c:=by simpa [wk] using hd
  subst this;exact ⟨h1,h2⟩
 |k+1=>(mZ h h1 h2 k).img h
theorem uJ (ws:List Str) (k:Nat) (a b:List Nat):aM ws k (a++b)=aM ws k a+aM ws k b:=by unfold aM;rw[map_append,List.sum_append]
theorem kN (ws:List Str) (k c:Nat) (l:List Nat):aM ws k (c::l)=sz ws k c+aM ws k l:=by unfold aM;rw[map_cons,sum_cons]
theorem nC {ws:List Str} {k:Nat}:∀{l:List Nat},gI ws l->aM ws k (bP ws l)=aM ws (k+1) l
 |[],_=>rfl
 |c::l,h=>by
  rw[bE,uJ,kN,nC λd hd=>h d (mem_cons_of_mem _ hd),jS (h c mem_cons_self).2]
theorem kM {ws:List Str}:∀{l:List Nat},gI ws l->aM ws 0 l=l.length
 |[],_=>rfl
 |c::l,h=>by
  rw[kN,jR (h c mem_cons_self).2,kM λd hd=>h d (mem_cons_of_mem _ hd),length_cons];lia
theorem CB {ws:List Str} (h:Ru ws) {c:Nat} (h1:97<=c) (h2:c - 97<ws.length) (k:Nat):((wk ws c k).length:Int)=sz ws k c:=by
 have key:∀j i,j+i=k->aM ws j (wk ws c i)=sz ws k c:=by
  intro j i;induction i generalizing j with
  |zero=>
   intro e;show aM ws j [c]=_;rw[kN,show j=k by lia];show _+0=_;lia
  |succ i ih=>
   intro e;show aM ws j (bP ws (wk ws c i))=_;rw[nC (mZ h h1 h2 i)];exact ih (j+1) (by lia)
 rw[<-key 0 k (by lia),kM (mZ h h1 h2 k)]
theorem JI {ws:List Str} (h:Ru ws) {c:Nat} (h2:c - 97<ws.length) (hg:aQ ws c=true):∃t,wd ws c=c::t:=by
 obtain ⟨w,hw,e,_⟩:=h.word h2;unfold aQ at hg;rw[hw] at hg;simp only [and_eq_true,decide_eq_true_eq] at hg;rw[e];cases hl:ls w with
 |nil=>rw[hl] at hg;simp at hg
 |cons d t=>
  rw[hl] at hg;have:d=c:=by simpa using hg.2.2
  subst this;exact ⟨t,rfl⟩
theorem LB {ws:List Str} (h:Ru ws) {c:Nat} (h2:c - 97<ws.length) (hg:aQ ws c=true):∀k,∃t,wk ws c (k+1)=wk ws c k++t
 |0=>by
  obtain ⟨t,e⟩:=JI h h2 hg;refine ⟨t,?_⟩;show bP ws [c]=[c]++t;rw[bE,e];show c::t++[]=_;rw[append_nil];rfl
 |k+1=>by
  obtain ⟨t,e⟩:=LB h h2 hg k;refine ⟨bP ws t,?_⟩;show bP ws (wk ws c (k+1))=bP ws (wk ws c k)++_;rw[e,AW]
theorem EK {ws:List Str} (h:Ru ws) {c:Nat} (h2:c - 97<ws.length) (hg:aQ ws c=true) (k:Nat):∀j,∃t,wk ws c (k+j)=wk ws c k++t
 |0=>⟨[],by rw[append_nil];rfl⟩
 |j+1=>by
  obtain ⟨t,e⟩:=EK h h2 hg k j;obtain ⟨u,f⟩:=LB h h2 hg (k+j);exact ⟨t++u,by rw[show k+(j+1)=(k+j)+1 by lia,f,e,List.append_assoc]⟩
def ew (ws:List Str) (c i:Nat):Nat:=(wk ws c i)[i]?.getD 0
theorem CC {ws:List Str} (h:Ru ws) {c:Nat} (h1:97<=c) (h2:c - 97<ws.length) (hg:aQ ws c=true) {k i:Nat} (hi:i<(wk ws c k).length):(wk ws c k)[i]?=some (ew ws c i):=by
 have li:i<(wk ws c i).length:=by
  have a:=CB h h1 h2 i;have b:=pL h h1 h2 hg i;lia
 have key:∀j l,j<=l->i<(wk ws c j).length->(wk ws c l)[i]?=(wk ws c j)[i]?:=λj l hjl hj=>by
  obtain ⟨t,e⟩:=EK h h2 hg j (l - j);rw[show j+(l - j)=l by lia] at e;rw[e,getElem?_append_left hj]
 have e:(wk ws c i)[i]?=some (ew ws c i):=by
  unfold ew;rw[getElem?_eq_getElem li];rfl
 by_cases hik:i<=k
 ·rw[key i k hik li,e]
 ·rw[<-key k i (by lia) hi,e]
def str (ws:List Str) (c n m:Nat):List Nat:=(range m).map λi=>ew ws c (n+i)
theorem str_len (ws:List Str) (c n m:Nat):(str ws c n m).length=m:=by unfold str;rw[length_map,length_range]
def At (ws:List Str) (c:Nat) (k:Nat) (n:Int) (i:Nat) (A B:List Nat):Prop:=wk ws c i=A++(dD ws k c n i).1::B/\aM ws (k - i) A+(dD ws k c n i).2=n
theorem XN {ws:List Str} {c k:Nat} {n:Int}:At ws c k n 0 [] []:=by
 have e:dD ws k c n 0=(c,n):=by cases k<;>rfl
 refine ⟨?_,?_⟩
 ·rw[e];rfl
 ·rw[e];show (0:Int)+n=n;lia
theorem XO {ws:List Str} (h:Ru ws) {c k:Nat} {n:Int} {i:Nat} {A B:List Nat} (g:Good ws k c n) (hi:i<k) (a:At ws c k n i A B):
  ∃st S,(xX ws k c n)[i]?=some (st,(dD ws k c n (i+1)).1)/\st<(wd ws (dD ws k c n i).1).length/\wd ws (dD ws k c n i).1=(wd ws (dD ws k c n i).1).take st++(dD ws k c n (i+1)).1::S/\(wd ws (dD ws k c n i).1).drop st=(dD ws k c n (i+1)).1::S/\At ws c k n (i+1) (bP ws A++(wd ws (dD ws k c n i).1).take st) (S++bP ws B):=by
 have hGi:=mQ h k c n i g (by lia);obtain ⟨g1,g2,g3,g4⟩:=id hGi;have eki:k - i=(k - i - 1)+1:=by lia
 rw[eki] at hGi;obtain ⟨d,hd,hGd⟩:=hGi.step h;have hs:=sG (ws:=ws) k c n i hi;have hf:=pW (ws:=ws) k c n i hi;rw[hd] at hs;have e1:(dD ws k c n (i+1)).1=d:=by rw[hs];rfl
 have e2:(dD ws k c n (i+1)).2=(bK ws (k - i - 1) (wd ws (dD ws k c n i).1) (dD ws k c n i).2).2:=by rw[hs]
 rw[eki,jS g2] at g4;obtain ⟨o1,o2,o3,o4⟩:=xW (wd ws (dD ws k c n i).1) (dD ws k c n i).2 g3 g4;obtain ⟨st,hst⟩:∃st,(bK ws (k - i - 1) (wd ws (dD ws k c n i).1) (dD ws k c n i).2).1=st:=⟨_,rfl⟩;rw[hst] at o1 o4 hd hf;have hdrop:(wd ws (dD ws k c n i).1).drop st=d::(wd ws (dD ws k c n i).1).drop (st+1):=by
  rw[List.drop_eq_getElem_cons o1];rw[getElem?_eq_getElem o1] at hd;rw[Option.some.inj hd]
 have hw:wd ws (dD ws k c n i).1=(wd ws (dD ws k c n i).1).take st++d::(wd ws (dD ws k c n i).1).drop (st+1):=by
  rw[<-hdrop,List.take_append_drop]
 have hA:gI ws A:=λx hx=>mZ h g.1 g.2.1 i x (by rw[a.1];exact mem_append_left _ hx);refine ⟨st,(wd ws (dD ws k c n i).1).drop (st+1),hf,o1,by rw[e1];exact hw,by rw[e1];exact hdrop,?_,?_⟩
 ·show bP ws (wk ws c i)=_;rw[a.1,AW,bE,e1]
  conv=>lhs;rw[hw]
  simp only [List.append_assoc,cons_append]
 ·rw[uJ,show k - (i+1)=k - i - 1 by lia,nC hA,<-eki,e2,o4];have:=a.2;lia
theorem Gb {ws:List Str} (h:Ru ws) {c k:Nat} {n:Int} {A B:List Nat} (g:Good ws k c n) (a:At ws c k n k A B):(A.length:Int)=n:=by
 have hGk:=mQ h k c n k g (Nat.le_refl _);rw[sub_self] at hGk;obtain ⟨g1,g2,g3,g4⟩:=hGk;rw[jR g2] at g4;have hA:gI ws A:=λx hx=>mZ h g.1 g.2.1 k x (by rw[a.1];exact mem_append_left _ hx);have:=a.2;rw[sub_self,kM hA] at this;lia
structure Pl (K:Fg) (H:Hp) (a:Addr) (ws:List Str) (c:Nat) (n:Int):Prop where
 rt:iC K H a ws
 ru:Ru ws
 c1:97<=c
 c2:c - 97<ws.length
 gr:aQ ws c=true
 n0:0<=n
 tn:∃m,m<=400/\n<sz ws m c
theorem Pl.turns {H:Hp} {a:Addr} {ws:List Str} {c:Nat} {n:Int} (h:Pl K H a ws c n):∃k,k<=400/\Good ws k c n/\∀i,i<k->sz ws i c<=n:=by
 obtain ⟨m,hm,hn⟩:=h.tn;obtain ⟨k,h1,h2,h3⟩:=least (P:=λk=>n<sz ws k c) hn;exact ⟨k,by lia,⟨h.c1,h.c2,h.n0,h2⟩,λi hi=>by have:=h3 i hi;lia⟩
theorem RX {ws:List Str} (h:Ru ws) {c k:Nat} {n:Int} (g:Good ws k c n):∀i,i<=k->∃A B,At ws c k n i A B
 |0,_=>⟨[],[],XN⟩
 |i+1,hi=>by
  obtain ⟨A,B,a⟩:=RX h g i (by lia);obtain ⟨st,S,_,_,_,_,a'⟩:=XO h g (by lia) a;exact ⟨_,_,a'⟩
theorem XQ {ws:List Str} (h:Ru ws) {c k:Nat} {n:Int} (g:Good ws k c n) (hg:aQ ws c=true):(dD ws k c n k).1=ew ws c n.toNat:=by
 obtain ⟨A,B,a⟩:=RX h g k (Nat.le_refl _);have e:=Gb h g a;have e2:A.length=n.toNat:=by lia
 have hi:n.toNat<(wk ws c k).length:=by rw[a.1,length_append,length_cons];lia
 have w:=CC h g.1 g.2.1 hg hi;rw[a.1,getElem?_append_right (by lia),e2,sub_self] at w;exact Option.some.inj w
def cF (K:Fg):Sp:=λvs H Q _=>∃(a:Addr) (ws:List Str) (c:Nat) (n:Int),vs=[.ref a,sgn c,.int n]/\Pl K H a ws c n/\∀H',aB H H'->Q (sgn (ew ws c n.toNat)) H'
end L2.Na
namespace L2.Na.Pr
open PySem PySem.Spec PyProof.Rows L2 L2.L3
variable {K:Fg}
def Ve (K:Fg) (H:Hp) (E:XK):Prop:=∀H',aB H H'->E (.ref (clsAt K "NoStart")) none H'
def TG (K:Fg) (m:Int) (H:Hp) (E:XK):Prop:=∀H' dx,aB H H'->H' dx=some (.xd [("most",.int m)])->E (.ref (clsAt K "TooGreat")) (some dx) H'
theorem TG.same {m:Int} {H H':Hp} {E:XK} (h:TG K m H E) (e:aB H H'):TG K m H' E:=λH2 dx h1 h2=>h H2 dx (e.trans h1) h2
def Gv (K:Fg) (H:Hp) (a:Addr) (ws:List Str) (c:Nat) (n:Int) (E:XK):Prop:=iC K H a ws/\Ru ws/\97<=c/\
 ((aQ ws c=false/\Ve K H E)\/(aQ ws c=true/\c - 97<ws.length/\(∀i,i<=400->sz ws i c<=n)/\TG K 400 H E))
def bY (K:Fg):Sp:=λvs H Q E=>L2.Na.bY K vs H Q E\/∃(a:Addr) (ws:List Str) (c:Nat) (n:Int),vs=[.ref a,sgn c,.int n]/\Gv K H a ws c n E
def Jc (K:Fg):Sp:=λvs H Q E=>∃(a:Addr) (ws:List Str) (c:Nat) (n:Int) (k:Nat),vs=[.ref a,sgn c,.int n]/\iC K H a ws/\Ru ws/\97<=c/\c - 97<ws.length/\aQ ws c=true/\k<=400/\(∀i,i<k->sz ws i c<=n)/\
 ((n<sz ws k c/\∀p rs H',aB H H'->H p=none->KI H' p rs (fG ws (k+1))->Q (.ref p) H')\/(k=400/\sz ws k c<=n/\TG K 400 H E))
def cP (K:Fg):List (SX K):=
 [cK (cI (call "grows" (lW K) [var 0,var 1])) [raiseO "NoStart" (cst (.str "the rule doesn't grow from this letter")) []] [],
  set 3 (call "table" (lR K) [var 0]),
  set 4 (FL (call "letters" (bZ K) [len (var 0)]) (var 1)),
  set 5 (lst [call "sizes" (zN K) [var 0,cst (.int 0)]]),
  Oc (cmp .LtE (ix (ix (var 5) (neg (cst (.int 1)))) (var 4)) (var 2)) [cK (cmp .Gt (len (var 5)) (oQ "MOST_TURNS" (.int 400))) [MO "TooGreat" "self" "most" "most" (oQ "MOST_TURNS" (.int 400))] [],
   ex (mH (var 5) (call "sizes_once" (fH K) [var 3,ix (var 5) (neg (cst (.int 1)))]))],
  ret (var 5)]
theorem tY:∀vs H Q E,bY K vs H Q E->vs.length=3:=by
 rintro vs H Q E (⟨_,_,_,_,_,rfl,_⟩|⟨_,_,_,_,rfl,_⟩)<;>rfl
theorem Hw:TT (Jc K) (cP K) ["rule","start","n","rows","at","made"]:=by
 intro vs H Q E h;obtain ⟨a,ws,c,n,k,rfl,hR,hU,h1,h2,hg,hk,hlt,hor⟩:=h;have h4:=hR.four;have hlen:(ws.map V.str).length=ws.length:=length_map _;have hw:∀w∈ws,oW ws.length w/\w.length<=100000:=λw hm=>⟨hU.isw w hm,by have:=hU.le w hm;lia⟩;unfold cP;walk_at "";refine ⟨a,ws,c,rfl,hR,hU.lens,h1,λH1 hS1=>?_⟩;rw[hg];walk_at "";refine bS ?_;have hR1:=hR.same hS1;walk_at "";refine ⟨a,ws,rfl,hR1,λpT rsT H2 hS2 _ _ hT=>?_⟩;have hR2:=hR1.same hS2;have hq2:=hR2.tp;walk_at "";refine ⟨_,rfl,?_⟩;walk_at "";obtain ⟨rr,hr⟩:=AU (m:=((ws.map V.str).length:Nat)) (by lia) (by lia) h1 (show c - 97<(((ws.map V.str).length:Nat):Int).toNat by lia);refine PD hr ?_;walk_at "";refine ⟨a,ws,0,rfl,hR2,hw,by lia,by lia,λr0 H3 hS3 hr0 hr03=>?_⟩;walk_at "";refine ⟨by show 1<=sizeLine;decide,λp hp=>?_⟩;walk_at "";have hS0:aB H H3:=(hS1.trans hS2).trans hS3;have hTs:=hS2.trans hS3;have hrow:∀xs∈rowsOf ws,Hj xs/\xs.length<=1000:=λxs hx=>by
  unfold rowsOf at hx;obtain ⟨w,hm,rfl⟩:=mem_map.mp hx;exact ⟨sI (hw w hm).2,by rw[mT];lia⟩
 refine xI (m:=k) (λm σ H'=>m<=k/\(∃rs:List Addr,aB H3 H'/\KI H' p rs (fG ws (k - m+1))/\(∀x∈rs,x≠p))/\σ=[some (.ref a),some (sgn c),some (.int n),some (.ref pT),some (.int ((c - 97:Nat):Int)),some (.ref p)])
  ⟨Nat.le_refl _,⟨[r0],aC hp _,⟨aA,by rw[kK,sub_self];rfl,λi x y hx hy=>?_⟩,λx hx=>?_⟩,rfl⟩ (λm σ H' hW=>?_)
 ·have e0:i=0:=by
   have:=(List.getElem?_eq_some_iff.mp hx).1;simp at this;lia
  subst e0;have e1:r0=x:=by simpa using hx
  subst e1;rw[sub_self,kL (by lia)] at hy;cases hy;exact aC hp _ _ _ hr03
 ·have e1:x=r0:=by simpa using hx
  subst e1;exact aD hr03 hp
 ·obtain ⟨hm,⟨rs,hSs,hTb,hne⟩,rfl⟩:=hW;have hrl:rs.length=k - m+1:=by rw[hTb.2.1,kK]
  obtain ⟨rl,hlast⟩:∃r,rs[k - m]?=some r:=⟨_,getElem?_eq_getElem (show k - m<rs.length by lia)⟩;have hrow2:=hTb.2.2 (k - m) _ _ hlast (kL (by lia));have hat:uB (rs.map V.ref) (-(1:Int))=some (.ref rl):=vU (by rw[length_map,hrl,show k - m+1 - 1=k - m by lia,getElem?_map,hlast];rfl);walk_at "";refine GA ?_;walk_at "";refine xQ ?_;refine aJ (aH.of hTb.1) hat ?_;walk_at "";refine aJ (aH.of hrow2) (Ja h2) ?_;walk_at "";refine eQ (λhc=>LC ?_) λhc=>?_
  ·walk_at "";refine eO (aH.of hTb.1) ?_;walk_at "";refine eQ (λhc2=>?_) λhc2=>?_
   ·rw[length_map,hrl] at hc2;have em:m=0:=by lia
    subst em;rw[Nat.sub_zero] at hc;rcases hor with ⟨hn,_⟩|⟨_,_,tg⟩
    ·lia
    walk_at "";refine OW ?_;walk_at "";exact λdx hdx=>tg _ dx ((hS0.trans hSs).trans (aC hdx _)) aA
   rw[length_map,hrl] at hc2;have hm0:0<m:=by
    by_cases h0:0<m
    ·exact h0
    ·have e:m=0:=by lia
     subst e;rw[Nat.sub_zero] at hc;rcases hor with ⟨hn,_⟩|⟨_,_,_⟩<;>lia
   walk_at "";refine Fd (aH.of hTb.1) ?_;walk_at "";refine GA ?_;walk_at "";refine xQ ?_;refine aJ (aH.of hTb.1) hat ?_;walk_at "";refine ⟨pT,_,rsT,rowsOf ws,tT ws (k - m),rfl,(hT.same hS3).same hSs,hrow2,hrow,?_,λr H4 hS4 hr4 hr42=>?_⟩
   ·rw[bO];lia
   walk_at "";rw[zK hU.isw] at hr42;have hpn:r≠p:=(aD hTb.1 hr4).symm;refine nQ (hS4 _ _ hTb.1) (by rw[length_map,hrl];exact lt_of_lt_of_le (show k - m+1<1000 by lia) (small (by decide))) ?_;refine ⟨m - 1,by lia,by lia,⟨rs++[r],mE (hSs.trans hS4) hp,?_,λx hx=>?_⟩,rfl⟩
   ·have e:k - (m - 1)+1=(k - m+1)+1:=by lia
    rw[e,zL];refine KI.snoc hTb ?_ ?_ (λb o hb e=>?_) hne
    ·rw[aE hpn];exact hr42
    ·rw[aA,map_append];rfl
    ·rw[aE hb];exact hS4 _ _ e
   ·rcases mem_append.mp hx with h|h
    ·exact hne x h
    ·have e:x=r:=by simpa using h
     subst e;exact hpn
  ·have hm0:m=0:=by
    by_cases h0:m=0
    ·exact h0
    ·have:=hlt (k - m) (by lia);exact absurd this hc
   subst hm0;rw[Nat.sub_zero] at hTb;walk_at "";rw[Nat.sub_zero] at hc;rcases hor with ⟨_,q⟩|⟨_,h,_⟩
   ·exact q p rs H' (hS0.trans hSs) (none_of hS0 hp) hTb
   ·exact absurd h hc
theorem tK:TT (bY K) (cP K) ["rule","start","n","rows","at","made"]:=by
 intro vs H Q E h;rcases h with ⟨a,ws,c,n,k,rfl,hR,hU,h1,h2,hg,hk,hn,hlt,q⟩|⟨a,ws,c,n,rfl,hR,hU,h1,hb⟩
 ·exact Hw _ H Q E ⟨a,ws,c,n,k,rfl,hR,hU,h1,h2,hg,hk,hlt,.inl ⟨hn,q⟩⟩
 rcases hb with ⟨hg,q⟩|⟨hg,h2,hle,tg⟩
 ·unfold cP;walk_at "";refine ⟨a,ws,c,rfl,hR,hU.lens,h1,λH1 hS1=>?_⟩;rw[hg];walk_at "";refine dE ?_;walk_at "";refine cC ?_;walk_at "";exact ⟨by show 1<=sizeLine;decide,q H1 hS1⟩
 ·exact Hw _ H Q E ⟨a,ws,c,n,400,rfl,hR,hU,h1,h2,hg,Nat.le_refl _,λi hi=>hle i (by lia),.inr ⟨rfl,hle 400 (Nat.le_refl _),tg⟩⟩
def cA (K:Fg):Sp:=λvs H Q E=>L2.Na.cA K vs H Q E\/∃(a:Addr) (ws:List Str) (c:Nat) (n:Int),vs=[.ref a,sgn c,.int n]/\Gv K H a ws c n E
def jY (K:Fg):List (SX K):=
 [set 3 (call "sizes_until" (bY K) [var 0,var 1,var 2]),
  set 4 (call "words_by_letter" (aY K) [var 0]),
  set 5 (lst []),
  set 6 (var 1),
  set 7 (var 2),
  kX (iV 8) (Mp (CU (var 3) none (some (neg (cst (.int 1)))))) [set 9 (WY (call "letters" (bZ K) [len (var 0)]) (var 8)),
   set 10 (ix (var 4) (var 6)),
   set 11 (cst (.int 0)),
   Oc (cmp .LtE (ix (var 9) (ix (var 10) (var 11))) (var 7)) [set 7 (bin .Sub (var 7) (ix (var 9) (ix (var 10) (var 11)))),
    set 11 (bin .Add (var 11) (cst (.int 1)))],
   set 6 (ix (var 10) (var 11)),
   ex (mH (var 5) (tup [var 11,var 6]))],
  ret (var 5)]
theorem IY:∀vs H Q E,cA K vs H Q E->vs.length=3:=by
 rintro vs H Q E (⟨_,_,_,_,_,rfl,_⟩|⟨_,_,_,_,rfl,_⟩)<;>rfl
theorem HK:TT (cA K) (jY K) ["rule","start","n","rows","word_for","pairs","letter","left","row","size_of","word","step"]:=by
 intro vs H Q E h;rcases h with h|⟨a,ws,c,n,rfl,hb⟩
 case inr=>
  unfold jY;walk_at "";exact .inr ⟨a,ws,c,n,rfl,hb⟩
 obtain ⟨a,ws,c,n,k,rfl,hR,hU,hg,hk,hG,hlt,q⟩:=h;unfold jY;walk_at "";refine .inl ⟨a,ws,c,n,k,rfl,hR,hU,hG.1,hG.2.1,hg,hk,hG.2.2.2,hlt,λp rs H1 hS1 hp1 hT=>?_⟩;have hrl:rs.length=k+1:=by rw[hT.2.1,kK]
 walk_at "";refine ⟨a,ws,rfl,hR.same hS1,λd H2 hS2 _ hd=>?_⟩;walk_at "";refine ⟨zero_le _,λpl hpl=>?_⟩;have s3:=aC hpl (.lst []);have hS02:=hS1.trans hS2;have hT3:=(hT.same hS2).same s3;walk_at "";refine En ?_;walk_at "";refine GA ?_;walk_at "";refine xQ ?_;walk_at "";refine OV (aH.of hT3.1) λl hl=>?_;rw[Ft (by rw[length_map];lia),length_map,hrl,show k+1 - 1=k by lia];have s4:=aC hl (.lst ((rs.map V.ref).take k));have hlen:((rs.map V.ref).take k).length=k:=by rw[length_take,length_map];lia
 refine Em (aH.of aA) ?_;have hplne:l≠pl:=(aD (H:=upd H2 pl (.lst [])) aA hl).symm;have hpl4:∀H',Off pl (upd (upd H2 pl (.lst [])) l (.lst ((rs.map V.ref).take k))) H'->aB H2 H':=λH' o=>Off.same (s3.trans s4) o hpl;refine OD (λi σ H'=>i<=k/\Off pl (upd (upd H2 pl (.lst [])) l (.lst ((rs.map V.ref).take k))) H'/\(∃us:List Addr,Sg H' pl us ((xX ws k c n).take i)/\(∀u∈us,H u=none/\u≠pl))/\
   ∃(a8 a9 a10 a11:Option V),σ=[some (.ref a),some (sgn c),some (.int n),some (.ref p),some (.ref d),some (.ref pl),some (sgn (dD ws k c n i).1),some (.int (dD ws k c n i).2),a8,a9,a10,a11])
  ⟨zero_le _,λ_ _ _ e=>e,⟨[],⟨s4 _ _ aA,rfl,λi r f hr=>by simp at hr⟩,λu hu=>nomatch hu⟩,none,none,none,none,by cases k<;>rfl⟩
  (λi σ H' hP=>aH.of (hP.2.1 l _ hplne aA)) (λi x σ H' hx hP=>?_) λσ H' hP=>?_
 ·obtain ⟨hi,hO,⟨us,hF,hus⟩,a8,a9,a10,a11,rfl⟩:=hP;have hik:i<k:=by
   have:=(List.getElem?_eq_some_iff.mp hx).1;rw[length_reverse,hlen] at this;exact this
  have hki:k - 1 - i<rs.length:=by lia
  have ex:x=.ref rs[k - 1 - i]:=by
   rw[List.getElem?_reverse (by rw[hlen];exact hik),hlen,List.getElem?_take,if_pos (by lia),getElem?_map,getElem?_eq_getElem hki] at hx;exact (Option.some.inj hx).symm
  subst ex;have hS:=hpl4 H' hO;have hrow:H' rs[k - 1 - i]=some (.lst ((tT ws (k - 1 - i)).map V.int)):=hS _ _ (hS2 _ _ (hT.2.2 (k - 1 - i) _ _ (getElem?_eq_getElem hki) (kL (by lia))));have hGi:=mQ hU k c n i hG hi;obtain ⟨g1,g2,g3,g4⟩:=id hGi;have eki:k - i=(k - 1 - i)+1:=by lia
  rw[eki] at hGi;obtain ⟨dn,hdn,hGn⟩:=hGi.step hU;obtain ⟨w,hw,hwd,hwm⟩:=hU.word g2;have hsucc:=sG (ws:=ws) k c n i hik;have hfat:=pW (ws:=ws) k c n i hik;rw[show k - i - 1=k - 1 - i by lia] at hsucc hfat;obtain ⟨cl,hcl⟩:∃cl,(dD ws k c n i).1=cl:=⟨_,rfl⟩;obtain ⟨x0,hx0⟩:∃x0,(dD ws k c n i).2=x0:=⟨_,rfl⟩;simp only [hcl,hx0] at hsucc hfat hGn hdn g1 g2 g3 g4 hw hwd;rw[hcl,hx0];obtain ⟨st,hst⟩:∃st,(bK ws (k - 1 - i) (wd ws cl) x0).1=st:=⟨_,rfl⟩;rw[eki,jS g2] at g4;obtain ⟨o1,o2,o3,o4⟩:=xW (wd ws cl) x0 g3 g4;rw[hst] at o1 o4 hdn hfat hsucc;rw[hdn] at hsucc;refine YY (kH (FZ (CV (K:=K) (a:=a) (r:=rs[k - 1 - i]) rfl rfl (hR.same (hS02.trans hS)) hrow λdz H5 hS5 _ hdz=>?_)));walk_at "";refine AZ (((hd.same hS).same hS5).get g1 hw) ?_;walk_at "";have hwl:=hU.le w hwm;have hlsw:wd ws cl=w.cps.toList:=hwd;refine kH (xI (m:=st) (λm σ H6=>m<=st/\H6=H5/\σ=[some (.ref a),some (sgn c),some (.int n),some (.ref p),some (.ref d),some (.ref pl),some (sgn cl),some (.int (x0 - aM ws (k - 1 - i) ((wd ws cl).take (st - m)))),some (.ref rs[k - 1 - i]),some (.ref dz),some (.str w),some (.int ((st - m:Nat):Int))])
   ⟨Nat.le_refl _,rfl,?_⟩ (λm σ H6 hW=>?_))
  ·rw[sub_self,List.take_zero];have e0:aM ws (k - 1 - i) []=0:=rfl;rw[e0,Int.sub_zero];rfl
  ·obtain ⟨hm,rfl,rfl⟩:=hW;have hs:st - m<(wd ws cl).length:=by lia
   have hch:(wd ws cl)[st - m]?=some (wd ws cl)[st - m]:=getElem?_eq_getElem hs;obtain ⟨sg1,sg2⟩:=hU.sign g2 (getElem_mem hs);have hat:uB w.cps.toList ((st - m:Nat):Int)=some (wd ws cl)[st - m]:=bI (by rw[<-hlsw];exact hch);have hwk:=BA (ws:=ws) (k:=k - 1 - i) (wd ws cl) x0 (st - m) _ (by rw[hst];lia) hch;rw[hst] at hwk;walk_at "";refine PC (small (by lia)) hat ?_;refine AZ (hdz.get sg1 sg2) ?_;walk_at "";refine eQ (λhc=>LC ?_) λhc=>?_
   ·have hlt2:=hwk.mpr hc;have hm0:0<m:=by lia
    walk_at "";refine PC (small (by lia)) hat ?_;refine AZ (hdz.get sg1 sg2) ?_;walk_at "";refine ⟨m - 1,by lia,by lia,rfl,?_⟩;have e1:st - (m - 1)=(st - m)+1:=by lia
    have e2:aM ws (k - 1 - i) ((wd ws cl).take (st - m+1))=aM ws (k - 1 - i) ((wd ws cl).take (st - m))+sz ws (k - 1 - i) (wd ws cl)[st - m]:=by
     rw[take_add_one,hch];unfold aM;rw[map_append,List.sum_append];simp
    rw[e1,e2];have e3:((st - m:Nat):Int)+1=((st - m+1:Nat):Int):=by lia
    have e4:x0 - aM ws (k - 1 - i) ((wd ws cl).take (st - m)) - sz ws (k - 1 - i) (wd ws cl)[st - m]=x0 - (aM ws (k - 1 - i) ((wd ws cl).take (st - m))+sz ws (k - 1 - i) (wd ws cl)[st - m]):=by lia
    rw[<-e3,<-e4];rfl
   ·have hm0:m=0:=by
     by_cases h0:m=0
     ·exact h0
     ·exact absurd (hwk.mp (by lia)) hc
    subst hm0;have hat0:uB w.cps.toList ((st:Nat):Int)=some (wd ws cl)[st]:=bI (by rw[<-hlsw];exact getElem?_eq_getElem o1);rw[Nat.sub_zero];walk_at "";refine PC (small (by lia)) hat0 ?_;walk_at "";refine Fd (aH.of (hS5 _ _ hF.1)) ?_;walk_at "";refine ⟨by show 2<=sizeLine;decide,λt ht=>?_⟩;walk_at "";have s6:=aC ht (.tup [V.int (st:Nat),sgn (wd ws cl)[st]]);have htp:t≠pl:=(aD (hS5 _ _ hF.1) ht).symm;have hdn':(wd ws cl)[st]=dn:=by
     rw[getElem?_eq_getElem o1] at hdn;exact Option.some.inj hdn
    have hfl:((xX ws k c n).take i).length=i:=by rw[length_take,jD];lia
    refine nQ (s6 _ _ (hS5 _ _ hF.1)) (by rw[length_map,hF.2.1,hfl];exact lt_of_lt_of_le (show i<1000 by lia) (small (by decide))) ?_;refine ⟨hik,((hO.trans hS5).trans s6).upd,⟨us++[t],⟨by rw[aA,map_append];rfl,?_,λj r f hr hf=>?_⟩,λu hu=>?_⟩,some (.ref rs[k - 1 - i]),some (.ref dz),some (.str w),some (.int st),?_⟩
    ·rw[length_append,hF.2.1,hfl,length_take,jD];show i+1=_;lia
    ·rw[take_add_one,hfat] at hf;by_cases hj:j<us.length
     ·rw[getElem?_append_left hj] at hr;rw[getElem?_append_left (by rw[<-hF.2.1];exact hj)] at hf;have hne:=(hus r (mem_of_getElem? hr)).2;rw[aE hne];exact s6 _ _ (hS5 _ _ (hF.2.2 j r f hr hf))
     ·rw[getElem?_append_right (by lia)] at hr;rw[getElem?_append_right (by rw[<-hF.2.1];lia),<-hF.2.1] at hf;have e0:j - us.length=0:=by
       have:=(List.getElem?_eq_some_iff.mp hr).1;simp at this;lia
      rw[e0] at hr hf;have e1:t=r:=by simpa using hr
      have e2:(st,(dD ws k c n (i+1)).1)=f:=by simpa using hf
      subst e1 e2;rw[aE htp,aA,hsucc,hdn'];rfl
    ·rcases mem_append.mp hu with h|h
     ·exact hus u h
     ·have e:u=t:=by simpa using h
      subst e;exact ⟨none_of (hS02.trans (hS.trans hS5)) ht,htp⟩
    ·rw[hsucc,o4,hdn'];rfl
 ·obtain ⟨hi,hO,⟨us,hF,hus⟩,a8,a9,a10,a11,rfl⟩:=hP;walk_at "";rw[hlen] at hF;rw[take_of_length_le (by rw[jD];exact Nat.le_refl _)] at hF;exact q pl us H' (hS02.trans (hpl4 H' hO)) (none_of hS02 hpl) (λr hr=>(hus r hr).1) hF
def cL (K:Fg):Sp:=λvs H Q E=>(∃(a:Addr) (ws:List Str) (c:Nat),vs=[.ref a,sgn c,.int 0,.int 1]/\Pl K H a ws c 0/\∀H',aB H H'->Q (.str (aP (str ws c 0 1))) H')\/∃(a:Addr) (ws:List Str) (c n m:Nat),vs=[.ref a,sgn c,.int n,.int m]/\1<=m/\Gv K H a ws c ((n+m - 1:Nat):Int) E
def eD (K:Fg):List (SX K):=
 [set 4 (call "figures" (cA K) [var 0,var 1,bin .Sub (bin .Add (var 2) (var 3)) (cst (.int 1))]),
  setC 5 (GK none (var 0) (GZ [0,1]) (gG (call "figures" (cA K) [var 0,var 1,var 2])) ["step","letter"] [] []),
  set 6 (bin .Mult (lst [cst (.int 0)]) (bin .Sub (len (var 4)) (len (var 5)))),
  set 7 (var 1),
  kX (iV 8) (gG (bin .Add (var 6) (var 5))) [mG],
  ret (CU (var 7) none (some (var 3)))]
theorem xK:∀vs H Q E,cL K vs H Q E->vs.length=4:=by
 rintro vs H Q E (⟨_,_,_,rfl,_⟩|⟨_,_,_,_,_,rfl,_⟩)<;>rfl
theorem wA:TT (cL K) (eD K) ["rule","start","n","many","last","steps","ahead","window","step"]:=by
 intro vs H Q E h;rcases h with ⟨a,ws,c,rfl,hP,q⟩|⟨a,ws,c,n,m,rfl,hm1,hb⟩
 case inr=>
  unfold eD;walk_at "";exact .inr ⟨a,ws,c,_,rfl,(show ((n:Nat):Int)+((m:Nat):Int) - 1=((n+m - 1:Nat):Int) by lia)▸hb⟩
 have z:=jR hP.c2;have hG:Good ws 0 c 0:=⟨hP.c1,hP.c2,by decide,by rw[z];decide⟩;unfold eD;walk_at "";rw[show (0:Int)+1 - 1=0 by decide];refine .inl ⟨a,ws,c,0,0,rfl,hP.rt,hP.ru,hP.gr,by lia,hG,λi hi=>by lia,λp rs H1 s1 _ _ hF=>?_⟩;walk_at "";refine .inl ⟨a,ws,c,0,0,rfl,hP.rt.same s1,hP.ru,hP.gr,by lia,hG,λi hi=>by lia,λp2 rs2 H2 s2 _ _ hF2=>?_⟩;obtain rfl:rs=[]:=List.eq_nil_of_length_eq_zero hF.2.1;obtain rfl:rs2=[]:=List.eq_nil_of_length_eq_zero hF2.2.1;refine mM (aH.of hF2.1) ?_;intro D hD;refine QT (λ_=>.non) (λ_=>.non) (λ_=>.non) (aH.of hF2.1) (λi x hx=>nomatch hx) hD (small (by decide)) (λi H3 Q' hi=>absurd hi (Nat.not_lt_zero _)) λH3 s3 hO=>?_;walk_at "";refine ⟨by show 1<=sizeLine;decide,λl hl=>?_⟩;have s4:=aC hl (.lst [V.int 0]);walk_at "";refine eO (aH.of (s4 _ _ (s3 _ _ (s2 _ _ hF.1)))) ?_;walk_at "";refine eO (aH.of (s4 _ _ hO)) ?_;walk_at "";refine AY (xs:=[V.int 0]) aA ⟨by decide,by decide⟩ (small (by decide)) λl2 hl2=>?_;have s5:=aC hl2 (.lst []);walk_at "";refine rZ (xs:=[]) (ys:=[]) aA (s5 _ _ (s4 _ _ hO)) (small (by decide)) λl3 hl3=>?_;have s6:=aC hl3 (.lst []);refine mM (aH.of aA) ?_;refine mI (xs:=[]) (aH.of aA) (λ_ σ=>σ=[some (.ref a),some (sgn c),some (.int 0),some (.int 1),some (.ref p),some (.ref D),some (.ref l2),some (sgn c),none]) rfl (λi x σ1 H7 hx=>nomatch hx) λσ1 H7 e s7=>?_;subst e;walk_at "";refine iZ (small (by show 1<=1000000;decide)) ?_;rw[show Txt.slice ⟨#[c]⟩ none (some 1)=aP (str ws c 0 1) from gQ (iR (by decide))];exact q H7 ((s1.trans s2).trans (s3.trans (s4.trans (s5.trans (s6.trans s7)))))
end L2.Na.Pr
namespace L2.Na
open PySem PySem.Spec PyProof.Rows L2 L2.L3
def SI (X:Cx) (p:Addr) (zs:List Str):Heap->Prop:=λh=>eW X.prog X.w (yR X.w) h p zs
def YG (X:Cx):List V->Hp->VK->Prop:=λvs H Q=>∃z:Str,vs=[.str z]/\z.cps.size+1<scanBound/\∀p zs,H p=none->(∀y,y∈zs↔∃c∈ls z,y=⟨#[c]⟩)->zs.Nodup->Q (.ref p) (upd H p (.ext (SI X p zs)))
theorem TY (X:Cx) (hc:X.calm=true):bN X (.type "set") (YG X):=by
 intro pins s σ H xs us Q I r h;obtain ⟨z,rfl,hb,q⟩:=h;obtain ⟨u,rfl,ru⟩:=r.one;obtain ⟨t,rfl⟩:=ru;refine HQ (I.ok.hd hc) hb λh' tk zs hS hm kp=>?_;have hg:∃o,h'.get? s.heap.objs.size=some o:=by
  obtain ⟨o,_,_,_,ho,_⟩:=hS;exact ⟨o,ho⟩
 have nd:zs.Nodup:=by
  obtain ⟨_,_,_,_,_,_,_,_,rfl,nd,_⟩:=id hS;exact nd
 exact ⟨.ref _,_,I.laid (t':=tk) (o:=.ext (SI X s.heap.objs.size zs)) kp (Nat.le_refl _) ⟨hS,hg,λh1 h2 x k=>eW.keep x k⟩,rfl,q _ zs I.fresh hm nd⟩
def Jj (X:Cx):List V->Hp->VK->Prop:=λvs H Q=>∃(p:Addr) (zs:List Str),vs=[.ref p]/\H p=some (.ext (SI X p zs))/\zs.length<64/\∀D ss,H D=none->Perm ss zs->ss.Nodup->sortedS ss=true->Q (.ref D) (upd H D (.lst (ss.map V.str)))
theorem lI:∀{vs:List Value} {ss:List Str},StrsAre vs ss->Vals (ss.map V.str) vs
 |_,_,.nil=>.nil
 |_,_,.cons x t h=>.cons ⟨t,rfl⟩ (lI h)
theorem TN (X:Cx) (hc:X.calm=true):bN X (.builtin "sorted") (Jj X):=by
 intro pins s σ H xs us Q I r h;obtain ⟨p,zs,rfl,hp,h64,q⟩:=h;obtain ⟨u,rfl,ru⟩:=r.one;obtain rfl:u=Value.ref p:=ru;have hS:eW X.prog X.w (yR X.w) s.heap p zs:=(show aX X.prog X.w H s.heap p (.ext (SI X p zs)) from I.hok p _ hp).1;have nd:zs.Nodup:=by
  obtain ⟨_,_,_,_,_,_,_,_,rfl,nd,_⟩:=hS;exact nd
 refine zP (I.ok.hd hc) hS h64 λs' D vs ss e kp le hD hs pm st eg eo=>?_;obtain ⟨h',g',d',tk',os'⟩:=s';have eg':g'=s.gens:=eg;have eo':os'=s.os:=eo;subst eg' eo';have fr:H D=none:=I.hok.fresh le;have hl:ss.length<64:=by rw[pm.length_eq];exact h64
 have I1:Inv X pins σ (upd H D (.lst (ss.map V.str))) {s with heap:=h',toks:=tk'}:=I.laid (t':=tk') (o:=.lst (ss.map V.str)) kp le ⟨by rw[length_map,sizeLine_eq];lia,vs,e,lI hs,hD⟩;exact ⟨.ref D,_,⟨I1.ok,I1.os,I1.bare,I1.base,I1.loc,I1.cell,I1.free,I1.freeC,I1.pin,I1.hok,I1.len⟩,rfl,q D ss fr pm (pm.nodup_iff.mpr nd) st⟩
def lets (l:List Nat):List Nat:=[97,98,99,100].filter λc=>decide (c∈l)
theorem OH {l:List Nat} (hl:∀c∈l,97<=c/\c<101) (c:Nat):c∈lets l↔c∈l:=by
 unfold lets;rw[mem_filter];constructor
 ·intro h;exact of_decide_eq_true h.2
 ·intro h;have:=hl c h;refine ⟨?_,decide_eq_true h⟩;have:c=97\/c=98\/c=99\/c=100:=by lia
  rcases this with rfl|rfl|rfl|rfl<;>simp
theorem OQ:∀{l m:List Nat},l.Pairwise (·<·)->m.Pairwise (·<·)->(∀c,c∈l↔c∈m)->l=m
 |[],[],_,_,_=>rfl
 |[],c::m,_,_,h=>absurd ((h c).mpr mem_cons_self) not_mem_nil
 |c::l,[],_,_,h=>absurd ((h c).mp mem_cons_self) not_mem_nil
 |c::l,d::m,hl,hm,h=>by
  have h1:=pairwise_cons.mp hl;have h2:=pairwise_cons.mp hm;have e:c=d:=by
   rcases mem_cons.mp ((h c).mp mem_cons_self) with e|e
   ·exact e
   ·rcases mem_cons.mp ((h d).mpr mem_cons_self) with e'|e'
    ·exact e'.symm
    ·have:=h2.1 c e;have:=h1.1 d e';lia
  subst e;rw[OQ h1.2 h2.2 λx=>?_];constructor
  ·intro hx;rcases mem_cons.mp ((h x).mp (mem_cons_of_mem _ hx)) with e|e
   ·have:=h1.1 x hx;lia
   ·exact e
  ·intro hx;rcases mem_cons.mp ((h x).mpr (mem_cons_of_mem _ hx)) with e|e
   ·have:=h2.1 x hx;lia
   ·exact e
theorem OI (l:List Nat):(lets l).Pairwise (·<·):=Pairwise.filter _ (by decide)
theorem rA:∀(p:Nat) (cs:List Nat),risingS ⟨#[p]⟩ (cs.map λc=>(⟨#[c]⟩:Str))=true->(p::cs).Nodup->(p::cs).Pairwise (·<·)
 |p,[],_,_=>pairwise_cons.mpr ⟨(λ_ h=>absurd h not_mem_nil),Pairwise.nil⟩
 |p,c::cs,h,nd=>by
  have h':(!ltCps [c] [p]&&risingS ⟨#[c]⟩ (cs.map λc=>(⟨#[c]⟩:Str)))=true:=h;rw[and_eq_true] at h';have n1:=nodup_cons.mp nd;have ih:=rA c cs h'.2 n1.2;have hle:¬c<p:=λz=>by
   have lt:ltCps [c] [p]=true:=by rw[ltCps_eq];exact decide_eq_true (List.Lex.rel z)
   have h1:=h'.1;rw[lt] at h1;cases h1
  have hne:p≠c:=λe=>n1.1 (by rw[e];exact mem_cons_self);refine pairwise_cons.mpr ⟨λx hx=>?_,ih⟩;rcases mem_cons.mp hx with rfl|hx
  ·lia
  ·have:=(pairwise_cons.mp ih).1 x hx;lia
theorem zM {ss:List Str} {l:List Nat} (hl:∀c∈l,97<=c/\c<101) (hm:∀y,y∈ss↔∃c∈l,y=⟨#[c]⟩) (nd:ss.Nodup) (st:sortedS ss=true):ss=(lets l).map λc=>(⟨#[c]⟩:Str):=by
 obtain ⟨cs,rfl⟩:∃cs:List Nat,ss=cs.map λc=>(⟨#[c]⟩:Str):=by
  refine ⟨ss.map λy=>y.cps.toList.headD 0,?_⟩;rw[map_map]
  conv=>lhs;rw[<-map_id ss]
  refine List.map_congr_left λy hy=>?_;obtain ⟨c,_,rfl⟩:=(hm y).mp hy;rfl
 have inj:∀a b:Nat,(⟨#[a]⟩:Str)=⟨#[b]⟩->a=b:=λa b e=>by
  have e3:=congrArg ls e;simp [ls] at e3;exact e3
 have nd':cs.Nodup:=by
  have:=List.pairwise_map.mp (show Pairwise (·≠·) (cs.map λc=>(⟨#[c]⟩:Str)) from nd);exact this.imp λh e=>h (by rw[e])
 have inc:cs.Pairwise (·<·):=by
  cases cs with
  |nil=>exact Pairwise.nil
  |cons p cs=>exact rA p cs st nd'
 rw[OQ inc (OI l) λc=>?_];rw[OH hl];constructor
 ·intro h;obtain ⟨d,hd,e⟩:=(hm ⟨#[c]⟩).mp (mem_map.mpr ⟨c,h,rfl⟩);rw[inj _ _ e];exact hd
 ·intro h;obtain ⟨d,hd,e⟩:=mem_map.mp ((hm ⟨#[c]⟩).mpr ⟨c,h,rfl⟩);rw[<-inj _ _ e];exact hd
theorem BB {zs:List Str} {l:List Nat} (hl:∀c∈l,97<=c/\c<101) (hm:∀y,y∈zs↔∃c∈l,y=⟨#[c]⟩) (nd:zs.Nodup):zs.length<64:=by
 have sub:zs ⊆ [97,98,99,100].map λc=>(⟨#[c]⟩:Str):=λy hy=>by
  obtain ⟨c,hc,rfl⟩:=(hm y).mp hy;have:=hl c hc;have:c=97\/c=98\/c=99\/c=100:=by lia
  rcases this with rfl|rfl|rfl|rfl<;>simp
 have:zs.length<=4:=List.Nodup.length_le_of_subset nd sub;lia
def MQ (x:V) (H:Hp) (Q:VK):Prop:=∃z:Str,x=.str z/\z.length<=4000/\(∀c∈ls z,97<=c/\c<101)/\∀D H',aB H H'->H D=none->H' D=some (.lst ((lets (ls z)).map sgn))->Q (.ref D) H'
variable {K:Fg}
def Pz (a:EX K) (C:Sc):Expr->Bool
 | .Call (.Name y _) [.Call (.Name y2 _) es [] _] [] _=>(C.cm&&mY C "sorted" y)&&(mY C "set" y2&&iD [a] C es)
 |_=>false
theorem OC {a:EX K} {C:Sc} {e:Expr} (h:Pz a C e=true):∃y p y2 p2 es q2 q,e=.Call (.Name y p) [.Call (.Name y2 p2) es [] q2] [] q/\C.cm=true/\mY C "sorted" y=true/\mY C "set" y2=true/\iD [a] C es=true:=by
 unfold Pz at h;split at h
 ·simp only [and_eq_true] at h;exact ⟨_,_,_,_,_,_,_,rfl,h.1.1,h.1.2,h.2.1,h.2.2⟩
 ·cases h
def MR:List V->Hp->VK->Prop
 |[x],H,Q=>MQ x H Q
 |_,_,_=>False
def Jb (a:EX K):EX K:=iB (λE=>Gz MR (fF [a] E)) (Pz a) (λR=>pU [a] R/\True) .pl
 (λX C E e hK G hE hq hm=>by
  subst hK
  obtain ⟨y,p,y2,p2,es,q2,q,rfl,hcm,h1,h2,h3⟩:=OC hm
  have e1:=bB h1
  have e2:=bB h2
  subst e1 e2
  obtain ⟨g1,d1⟩:=bA G h1
  obtain ⟨g2,d2⟩:=bA G h2
  have calm:=G.calm hcm
  cases es with
  |nil=>cases h3
  |cons e0 es=>
   intro pins s σ H Q I h
   have inner:PE X (.Call (.Name "set" p2) (e0::es) [] q2) (λσ H Q2=>fF [a] E σ H (λvs H1=>MR vs H1 Q)/\∀vs H1,MR vs H1 Q->YG X vs H1 Q2):=by
    intro pins s σ H Q2 I ⟨k1,k2⟩
    refine wpAny_Call_Name_kw (fL I g2 (G.bl _ (by decide+kernel)) PyProof.Rows.Boot.set ?_ (by decide+kernel) d2)
    exact PyProof.Rows.callWith_type1 (bH (cR G hE [a] (e0::es) hq.1 h3 q2 pins s σ H _ I k1) λus s1 ⟨vs,H1,I1,r1,z1⟩=>TY X calm pins s1 σ H1 vs us Q2 I1 r1 (k2 vs H1 z1)) (aO (a.sok C e0 (aG h3).1)) (aV [] es (aG h3).2)
   refine rJ (TN X calm) g1 (G.bl _ (by decide+kernel)) PyProof.Rows.Boot.sorted (FF inner ND) (by decide+kernel) d1 rfl rfl pins s σ H Q I ⟨h,λvs H1 z1=>?_⟩
   match vs,z1 with
   |[x],⟨z,ez,b4,hl,fin⟩=>
    refine ⟨z,by rw[ez],?_,λp zs fr hm nd=>?_⟩
    ·have:z.cps.size=z.length:=rfl
     show z.cps.size+1<4096
     lia
    ·refine ⟨p,zs,rfl,aA,BB hl hm nd,λD ss frD pm nds st=>?_⟩
     have es':=zM hl (λy=>by rw[pm.mem_iff];exact hm y) nds st
     have s1:=aC fr (.ext (SI X p zs))
     refine fin D _ (s1.trans (aC frD _)) (none_of s1 frD) ?_
     rw[aA,es',map_map]
     rfl)
 (λC e hm=>by
  obtain ⟨y,p,y2,p2,es,q2,q,rfl,_⟩:=OC hm
  exact ⟨rfl,rfl⟩)
theorem Ei {E:XS} {σ:St} {H:Hp} {Q:VK} {a:EX K} (h:a.t E σ H λx H1=>MQ x H1 Q):(Jb a).t E σ H Q:=h
theorem WC {H:Hp} {Q:VK} {z:Str} (h1:z.length<=4000) (h2:∀c∈ls z,97<=c/\c<101) (h:∀D H',aB H H'->H D=none->H' D=some (.lst ((lets (ls z)).map sgn))->Q (.ref D) H'):MQ (.str z) H Q:=⟨z,rfl,h1,h2,h⟩
end L2.Na
namespace L2.Na.Mx
def EG (R:Nat->Nat->Prop):Nat->Nat->Nat->Prop
 |0,i,j=>i=j
 |k+1,i,j=>∃m,R i m/\EG R k m j
section
variable {R:Nat->Nat->Prop}
theorem EG.add:∀{a b i m j:Nat},EG R a i m->EG R b m j->EG R (a+b) i j
 |0,b,i,m,j,h,g=>by have e:i=m:=h;subst e;rw[Nat.zero_add];exact g
 |a+1,b,i,m,j,⟨l,h1,h2⟩,g=>by rw[show a+1+b=(a+b)+1 by lia];exact ⟨l,h1,EG.add h2 g⟩
theorem EG.cut:∀{a b i j:Nat},EG R (a+b) i j->∃m,EG R a i m/\EG R b m j
 |0,b,i,j,h=>⟨i,rfl,by rw[Nat.zero_add] at h;exact h⟩
 |a+1,b,i,j,h=>by
  rw[show a+1+b=(a+b)+1 by lia] at h;obtain ⟨l,h1,h2⟩:=h;obtain ⟨m,h3,h4⟩:=EG.cut h2;exact ⟨m,⟨l,h1,h3⟩,h4⟩
end
section
variable {R:Nat->Nat->Prop} {n:Nat}
end
end L2.Na.Mx
namespace L2.Na.K41
open PySem PySem.Spec PyProof.Rows L2 L2.L3
def Rw (ws:List Str) (i j:Nat):Prop:=∃w,ws[i]?=some w/\97+j∈ls w
def hs (ws:List Str):Nat->Nat->List Nat
 |0,i=>[97+i]
 |k+1,i=>lets ((hs ws k i).flatMap (wd ws))
theorem VI {ns:List Nat} {c:Nat} (h:c∈lets ns):c∈ns/\97<=c/\c<101:=by
 unfold lets at h;rw[mem_filter] at h;refine ⟨of_decide_eq_true h.2,?_⟩;have:=h.1;simp at this;lia
theorem VX {ns:List Nat} {c:Nat} (h:c∈ns) (h1:97<=c) (h4:c<101):c∈lets ns:=by
 unfold lets;rw[mem_filter];refine ⟨?_,decide_eq_true h⟩;have:c=97\/c=98\/c=99\/c=100:=by lia
 rcases this with rfl|rfl|rfl|rfl<;>simp
section
variable {ws:List Str} (hU:Ru ws)
include hU
theorem ZP {i j:Nat} (h:Rw ws i j):j<ws.length:=by
 obtain ⟨w,hw,hj⟩:=h;have:=hU.isw w (mem_of_getElem? hw) _ hj;lia
theorem wV:∀{k i j:Nat},i<ws.length->Mx.EG (Rw ws) k i j->j<ws.length
 |0,i,j,hi,h=>by have e:i=j:=h;exact e▸hi
 |k+1,i,j,hi,⟨m,h1,h2⟩=>wV (ZP hU h1) h2
theorem DQ:∀(k i c:Nat),i<ws.length->(c∈hs ws k i↔97<=c/\Mx.EG (Rw ws) k i (c - 97))
 |0,i,c,_=>by
  show c∈[97+i]↔97<=c/\i=c - 97;rw[mem_singleton];lia
 |k+1,i,c,hi=>by
  have h4:=hU.four;show c∈lets ((hs ws k i).flatMap (wd ws))↔_;have wdm:∀d,97<=d->d - 97<ws.length->∀e,e∈wd ws d↔97<=e/\Rw ws (d - 97) (e - 97):=λd h1 h2 e=>by
   unfold wd;rw[getElem?_eq_getElem h2];constructor
   ·intro he;have b:=hU.isw _ (getElem_mem h2) e he;exact ⟨b.1,ws[d - 97],getElem?_eq_getElem h2,by rw[show 97+(e - 97)=e by lia];exact he⟩
   ·rintro ⟨he,w,hw,hm⟩;rw[getElem?_eq_getElem h2] at hw;cases hw;rw[show 97+(e - 97)=e by lia] at hm;exact hm
  constructor
  ·intro h;obtain ⟨d,hd,hc⟩:=mem_flatMap.mp (VI h).1;obtain ⟨d1,d2⟩:=(DQ k i d hi).mp hd;have dl:=wV hU hi d2;obtain ⟨c1,c2⟩:=(wdm d d1 dl c).mp hc;exact ⟨c1,Mx.EG.add d2 (b:=1) ⟨c - 97,c2,rfl⟩⟩
  ·rintro ⟨c1,h⟩;obtain ⟨m,g1,m2,g2,g3⟩:=Mx.EG.cut (a:=k) (b:=1) h;have e3:m2=c - 97:=g3;subst e3;have ml:=wV hU hi g1;have cl:=ZP hU g2;refine VX (mem_flatMap.mpr ⟨97+m,(DQ k i (97+m) hi).mpr ⟨by lia,by rw[show 97+m - 97=m by lia];exact g1⟩,(wdm (97+m) (by lia) (by lia) c).mpr ⟨c1,?_⟩⟩) c1 (by lia);rw[show 97+m - 97=m by lia];exact g2
omit hU in
end
def KN (ws:List Str):Bool:=(range ws.length).all λi=>decide (hs ws 10 i=(range ws.length).map (97+·))
theorem AO (l:List Nat):(lets l).length<=4:=by
 unfold lets;exact Nat.le_trans (List.length_filter_le _ _) (by decide)
variable {K:Fg}
def kD (K:Fg):Sp:=λvs H Q _=>∃z:Str,vs=[.str z]/\z.length<=4000/\(∀c∈ls z,97<=c/\c<101)/\∀H',aB H H'->Q (.str (aP (lets (ls z)))) H'
def gU (K:Fg):List (SX K):=
 [ret (rL (cst (.str "")) (Jb (var 0)))]
theorem wD:TT (kD K) (gU K) ["word"]:=by
 intro vs H Q E h;obtain ⟨z,rfl,h1,h2,q⟩:=h;unfold gU;walk_at "";refine Ei ?_;walk_at "";refine WC h1 h2 λD H1 hS nD hD=>?_;walk_at "";have l4:=AO (ls z);have hb:(((lets (ls z)).map λc=>(⟨#[c]⟩:Str)).map (·.length)).sum<=4 * 1:=by
  refine Nat.le_trans (wJ (B:=1) λx hx=>?_) (by rw[length_map,length_map];exact Nat.mul_le_mul_right _ l4);obtain ⟨y,hy,rfl⟩:=mem_map.mp hx;obtain ⟨c,_,rfl⟩:=mem_map.mp hy;exact Nat.le_refl _
 refine ⟨(lets (ls z)).map λc=>(⟨#[c]⟩:Str),.inl ?_,?_,?_⟩
 ·rw[hD,map_map];rfl
 ·have e:(ofString "").length=0:=by decide+kernel
  rw[e];lia
 ·have e:Txt.join (ofString "") ((lets (ls z)).map λc=>(⟨#[c]⟩:Str))=aP (lets (ls z)):=gQ (by
   rw[AN,cN,map_map]
   have:∀l:List Nat,(l.map (ls∘λc=>(⟨#[c]⟩:Str))).flatten=l:=by
    intro l
    induction l with
    |nil=>rfl
    |cons c l ih=>rw[map_cons,flatten_cons,ih];rfl
   exact this _)
  rw[e];exact q H1 hS
def qQ (K:Fg):Sp:=λvs H Q _=>∃(a:Addr) (ws:List Str),vs=[.ref a]/\iC K H a ws/\Ru ws/\∀H',aB H H'->Q (.bl (KN ws)) H'
def yG (K:Fg):List (SX K):=
 [set 1 (call "letters" (bZ K) [len (var 0)]),
  set 2 (listS (var 1)),
  kX (iV 3) (xT (oQ "ENOUGH_TURNS" (.int 10)) []) [setC 2 (GK none (call "letters_in" (kD K) [call "put" (qP K) [var 1,var 0]]) (iV 0) (gG (var 2)) ["word"] ["rule"] [0])],
  ret (KH (comp (cmp .Eq (var 0) (var 1)) (iV 0) (gG (var 2)) ["word"] ["known"] [1]))]
theorem Mq {ws:List Str} (hU:Ru ws) {k i:Nat} (hi:i<ws.length):(hs ws k i).length<=4/\∀c∈hs ws k i,97<=c/\c<97+ws.length:=by
 refine ⟨?_,λc hc=>?_⟩
 ·cases k with
  |zero=>exact (by decide:1<=4)
  |succ k=>exact AO _
 ·obtain ⟨h1,h2⟩:=(DQ hU k i c hi).mp hc;have:=wV hU hi h2;lia
theorem SA {α:Type} (f:α->Bool):∀l:List α,(l.map f).all id=l.all f
 |[]=>rfl
 |x::l=>by rw[map_cons,all_cons,all_cons,SA f l];rfl
theorem TH:TT (qQ K) (yG K) ["rule","known","held","turn"]:=by
 intro vs H Q E h;obtain ⟨a,ws,rfl,hR,hU,q⟩:=h;have hq:=hR.tp;have h4:=hR.four;have hlen:(ws.map V.str).length=ws.length:=length_map _;have k0:(0:Int)<=((ws.length:Nat):Int):=by lia
 have k4:((ws.length:Nat):Int)<=4:=by lia
 unfold yG;walk_at "";rw[hlen];refine ⟨_,rfl,?_⟩;walk_at "";refine WE ?_;walk_at "";refine ⟨small (by rw[jV k0 k4];lia),λl nl=>?_⟩;have hl0:(upd H l (.lst (kQ (known ((ws.length:Nat):Int))))) l=some (.lst ((range ws.length).map λi=>V.str (aP (hs ws 0 i)))):=by
  rw[aA];have e:kQ (known ((ws.length:Nat):Int))=(range ws.length).map λi=>V.str (aP (hs ws 0 i)):=by
   unfold kQ;rw[show (known ((ws.length:Nat):Int)).cps.toList=ls (known ((ws.length:Nat):Int)) from rfl,cX k0 k4,map_map,toNat_natCast];rfl
  rw[e]
 have s0:=aC nl (.lst (kQ (known ((ws.length:Nat):Int))));revert hl0 s0;generalize upd H l (.lst (kQ (known ((ws.length:Nat):Int))))=H0;intro hl0 s0;walk_at "";refine gF (λk σ H'=>aB H H'/\∃(r:Addr) (a3:Option V),H' r=some (.lst ((range ws.length).map λi=>V.str (aP (hs ws k i))))/\σ=[some (.ref a),some (.str (known ((ws.length:Nat):Int))),some (.ref r),a3])
  ⟨s0,l,none,hl0,rfl⟩ (λk σ H' hk hP=>?_) λσ H' hP=>?_
 ·obtain ⟨hS,r,a3,hr,rfl⟩:=hP;walk_at "";refine mM (aH.of hr) ?_;intro D hD;refine nW (λi=>V.str (aP (hs ws (k+1) i))) (aH.of hr) hD (small (by rw[length_map,length_range];lia)) (λi x H1 Q' hx hS1 fin=>?_) λH1 hS1 hO=>?_
  ·have hi:i<ws.length:=by
    have:=(List.getElem?_eq_some_iff.mp hx).1;rw[length_map,length_range] at this;exact this
   have ex:x=V.str (aP (hs ws k i)):=by
    rw[getElem?_map,getElem?_range hi] at hx;exact (Option.some.inj hx).symm
   subst ex;obtain ⟨g1,g2⟩:=Mq hU (k:=k) hi;have hw:oW ws.length (aP (hs ws k i)):=λc hc=>by rw[cN] at hc;exact g2 c hc
   have hwl:(aP (hs ws k i)).length<=4:=by rw[NW];exact g1
   walk_at "";refine ⟨a,ws,_,rfl,(hR.same hS).same hS1,hU.le,hw,by lia,λH2 hS2=>?_⟩;walk_at "";have il:(img ws (aP (hs ws k i))).length<=4 * 100:=Nat.le_trans (Ed hU.le) (Nat.mul_le_mul_right _ hwl);have iw:=VY (z:=aP (hs ws k i)) hU.isw;refine ⟨_,rfl,by lia,λc hc=>by have:=iw c hc;lia,λH3 hS3=>?_⟩;have:=fin H3 (hS2.trans hS3);have e:lets (ls (img ws (aP (hs ws k i))))=hs ws (k+1) i:=by rw[xH,cN];rfl
   rw[e];exact this
  ·refine ⟨hS.trans hS1,D,_,?_,rfl⟩;rw[hO,length_map,length_range]
 ·obtain ⟨hS,r,a3,hr,rfl⟩:=hP;walk_at "";refine mM (aH.of hr) ?_;intro D hD;refine nW (λi=>V.bl (decide (hs ws 10 i=(range ws.length).map (97+·)))) (aH.of hr) hD (small (by rw[length_map,length_range];lia)) (λi x H1 Q' hx hS1 fin=>?_) λH1 hS1 hO=>?_
  ·have hi:i<ws.length:=by
    have:=(List.getElem?_eq_some_iff.mp hx).1;rw[length_map,length_range] at this;exact this
   have ex:x=V.str (aP (hs ws 10 i)):=by
    rw[getElem?_map,getElem?_range hi] at hx;exact (Option.some.inj hx).symm
   subst ex;walk_at "";have:=fin H1 (aB.refl _);have e:decide (aP (hs ws 10 i)=known ((ws.length:Nat):Int))=decide (hs ws 10 i=(range ws.length).map (97+·)):=decide_eq_decide.mpr ⟨λe=>by
    have e2:=congrArg ls e
    rw[cN,cX k0 k4,toNat_natCast] at e2
    exact e2,λe=>gQ (by rw[cN,cX k0 k4,toNat_natCast];exact e)⟩
   rw[e];exact this
  ·refine ⟨D,(range ws.length).map λi=>decide (hs ws 10 i=(range ws.length).map (97+·)),rfl,?_,?_⟩
   ·rw[hO,length_map,length_range,map_map];rfl
   ·have z:=q H1 (hS.trans hS1);unfold KN at z;rw[SA];exact z
end L2.Na.K41
namespace L2.Na
open PySem
def IF (ws:List Str) (x:List Nat):List (List Nat):=(range (wd ws (x.headD 0)).length).map λj=>((bP ws x).drop j).take x.length
abbrev dZ:=List Nat × List Int
def iA (f:List dZ):List (List Nat):=f.map (·.1)
def dG (f:List dZ) (p:dZ):List dZ:=if p.1∈iA f then f else f++[p]
def JT (ws:List Str) (x:dZ):List dZ:=(range (wd ws (x.1.headD 0)).length).map λj=>(((bP ws x.1).drop j).take x.1.length,zipWith (·+·) (KP (rowsOf ws) x.2 1) (kA ws.length (aP ((wd ws (x.1.headD 0)).take j))))
def aT (ws:List Str) (f0:List dZ):Nat->List dZ
 |0=>f0
 |i+1=>match (aT ws f0 i)[i]? with
  |some x=>(JT ws x).foldl dG (aT ws f0 i)
  |none=>aT ws f0 i
theorem FI (f g:List dZ):iA (f++g)=iA f++iA g:=map_append
theorem FH (f:List dZ):(iA f).length=f.length:=length_map _
theorem SD (f:List dZ) (p:dZ):∃t,dG f p=f++t:=by
 unfold dG;split
 ·exact ⟨[],(append_nil f).symm⟩
 ·exact ⟨[p],rfl⟩
theorem tG:∀(ps f:List dZ),∃t,ps.foldl dG f=f++t
 |[],f=>⟨[],(append_nil f).symm⟩
 |p::ps,f=>by
  obtain ⟨t,e⟩:=SD f p;obtain ⟨u,g⟩:=tG ps (dG f p);exact ⟨t++u,by rw[foldl_cons,g,e,List.append_assoc]⟩
theorem LW (ws:List Str) (f0:List dZ) (i:Nat):∃t,aT ws f0 (i+1)=aT ws f0 i++t:=by
 show ∃t,(match (aT ws f0 i)[i]? with|some x=>(JT ws x).foldl dG (aT ws f0 i)|none=>aT ws f0 i)=_;cases (aT ws f0 i)[i]? with
 |none=>exact ⟨[],(append_nil _).symm⟩
 |some x=>exact tG _ _
theorem uN (ws:List Str) (f0:List dZ) (i:Nat):∀k,∃t,aT ws f0 (i+k)=aT ws f0 i++t
 |0=>⟨[],(append_nil _).symm⟩
 |k+1=>by
  obtain ⟨t,e⟩:=uN ws f0 i k;obtain ⟨u,g⟩:=LW ws f0 (i+k);exact ⟨t++u,by rw[<-Nat.add_assoc,g,e,List.append_assoc]⟩
theorem ES (ws:List Str) (f0:List dZ) {i k:Nat} (h:i<=k):(aT ws f0 i).length<=(aT ws f0 k).length:=by
 obtain ⟨t,e⟩:=uN ws f0 i (k - i);rw[show i+(k - i)=k by lia] at e;rw[e,length_append];lia
theorem qL (ws:List Str) (f0:List dZ) {i:Nat} (h:(aT ws f0 i).length<=i):∀k,aT ws f0 (i+k)=aT ws f0 i
 |0=>rfl
 |k+1=>by
  have ih:=qL ws f0 h k;show (match (aT ws f0 (i+k))[i+k]? with|some x=>(JT ws x).foldl dG (aT ws f0 (i+k))|none=>aT ws f0 (i+k))=_;rw[ih,List.getElem?_eq_none (by lia)]
structure uD (ws:List Str) (L:Nat) (f:List dZ):Prop where
 nd:(iA f).Nodup
 ok:∀p∈f,p.1.length=L/\gI ws p.1/\p.2.length=ws.length
theorem XR {ws:List Str} {L:Nat} {f:List dZ} {p:dZ} (h:uD ws L f) (hp:p.1.length=L/\gI ws p.1/\p.2.length=ws.length):uD ws L (dG f p):=by
 unfold dG;split
 ·exact h
 ·rename_i hn;refine ⟨?_,λq hq=>?_⟩
  ·rw[FI];exact List.nodup_append.mpr ⟨h.nd,nodup_cons.mpr ⟨by simp [iA],List.nodup_nil⟩,λa ha b hb e=>hn (by
    have:b=p.1:=by simpa [iA] using hb
    rw[<-this,<-e]
    exact ha)⟩
  ·rcases mem_append.mp hq with hq|hq
   ·exact h.ok q hq
   ·have:q=p:=by simpa using hq
    subst this;exact hp
theorem yM {ws:List Str} {L:Nat}:∀{ps f:List dZ},uD ws L f->(∀p∈ps,p.1.length=L/\gI ws p.1/\p.2.length=ws.length)->uD ws L (ps.foldl dG f)
 |[],f,h,_=>h
 |p::ps,f,h,hp=>by
  rw[foldl_cons];exact yM (f:=dG f p) (XR h (hp p (by simp))) λq hq=>hp q (by simp [hq])
theorem FW {ws:List Str} (hU:Ru ws):∀{l:List Nat},gI ws l->l.length<=(bP ws l).length
 |[],_=>zero_le _
 |c::l,h=>by
  obtain ⟨w,_,e,m⟩:=hU.word (h c (by simp)).2;have:=hU.one w m;rw[<-bJ] at this;have ih:=FW hU (l:=l) λd hd=>h d (by simp [hd]);rw[bE,length_append,length_cons,e];lia
theorem AE {ws:List Str} (hU:Ru ws) {x:List Nat} (hx:gI ws x) (h1:1<=x.length) {j:Nat} (hj:j<(wd ws (x.headD 0)).length):(((bP ws x).drop j).take x.length).length=x.length:=by
 cases x with
 |nil=>simp at h1
 |cons c l=>
  have ih:=FW hU (l:=l) λd hd=>hx d (by simp [hd]);rw[length_take,length_drop,bE,length_append,length_cons];have hj':j<(wd ws c).length:=hj;lia
theorem QY {ws:List Str} (hU:Ru ws) {L:Nat} (hL:1<=L) {x:dZ} (hx:x.1.length=L/\gI ws x.1/\x.2.length=ws.length):∀p∈JT ws x,p.1.length=L/\gI ws p.1/\p.2.length=ws.length:=λp hp=>by
 obtain ⟨j,hj,rfl⟩:=mem_map.mp hp;have hj':=mem_range.mp hj;refine ⟨?_,λc hc=>hx.2.1.img hU c (List.mem_of_mem_drop (List.mem_of_mem_take hc)),?_⟩
 ·have:=AE hU hx.2.1 (by lia) hj';rw[this];exact hx.1
 ·show (zipWith (·+·) (KP (rowsOf ws) x.2 1) _).length=_;rw[List.length_zipWith,yC hx.2.2,mT];lia
theorem ER {ws:List Str} (hU:Ru ws) {L:Nat} (hL:1<=L) {f0:List dZ} (h0:uD ws L f0):∀i,uD ws L (aT ws f0 i)
 |0=>h0
 |i+1=>by
  have ih:=ER hU hL h0 i;show uD ws L (match (aT ws f0 i)[i]? with|some x=>(JT ws x).foldl dG (aT ws f0 i)|none=>aT ws f0 i);cases e:(aT ws f0 i)[i]? with
  |none=>exact ih
  |some x=>exact yM ih (QY hU hL (ih.ok x (mem_of_getElem? e)))
def BX (f:List dZ) (as:List Addr):List (L2.Key × L2.V):=zipWith (λp a=>(Sum.inr (aP p.1),L2.V.ref a)) f as
theorem FK {x y:List Nat} (h:aP x=aP y):x=y:=by
 have:=congrArg ls h;rwa [cN,cN] at this
theorem rM:∀{f:List dZ} {as:List Addr} {x:List Nat},x∉iA f->L2.eY (BX f as) (Sum.inr (aP x))=none
 |[],as,x,_=>by cases as<;>rfl
 |p::f,[],x,_=>rfl
 |p::f,a::as,x,h=>by
  have h1:¬(Sum.inr (aP p.1):L2.Key)=Sum.inr (aP x):=λe=>h (by
   have:=FK (Sum.inr.inj e)
   rw[<-this]
   exact mem_cons_self)
  show L2.eY ((Sum.inr (aP p.1),L2.V.ref a)::BX f as) _=none;rw[L2.iF h1];exact rM λz=>h (mem_cons_of_mem _ z)
theorem xO:∀{f:List dZ} {as:List Addr} {i:Nat} {p:dZ} {a:Addr},(iA f).Nodup->f[i]?=some p->as[i]?=some a->L2.eY (BX f as) (Sum.inr (aP p.1))=some (.ref a)
 |[],as,i,p,a,_,h,_=>by simp at h
 |q::f,[],i,p,a,_,_,h=>by simp at h
 |q::f,b::as,0,p,a,_,h1,h2=>by
  cases h1;cases h2;exact L2.lJ rfl
 |q::f,b::as,i+1,p,a,nd,h1,h2=>by
  have nd':(q.1::iA f).Nodup:=nd;obtain ⟨n1,n2⟩:=nodup_cons.mp nd';have hm:p.1∈iA f:=mem_map.mpr ⟨p,mem_of_getElem? (by simpa using h1),rfl⟩;have ne:¬(Sum.inr (aP q.1):L2.Key)=Sum.inr (aP p.1):=λe=>n1 (by
   have:=FK (Sum.inr.inj e)
   rw[this]
   exact hm)
  show L2.eY ((Sum.inr (aP q.1),L2.V.ref b)::BX f as) _=_;rw[L2.iF ne];exact xO n2 (by simpa using h1) (by simpa using h2)
theorem VL {f:List dZ} {as:List Addr} {x:List Nat} {v:L2.V} (h:x∉iA f):L2.putK (BX f as) (Sum.inr (aP x)) v=BX f as++[(Sum.inr (aP x),v)]:=by
 unfold L2.putK;rw[if_neg];rw[L2.qA,rM h];simp
theorem VN {f:List dZ} {as:List Addr} {p:dZ} {a:Addr} (h:f.length=as.length):BX f as++[(Sum.inr (aP p.1),.ref a)]=BX (f++[p]) (as++[a]):=by
 unfold BX;rw[List.zipWith_append h];rfl
theorem VM {f:List dZ} {as:List Addr} (h:f.length=as.length):(BX f as).length=f.length:=by
 unfold BX;rw[List.length_zipWith];lia
open PySem.Spec PyProof.Rows L2 L2.L3
theorem CT {z:Str} {n j:Nat} (h:n+j<=z.length):Txt.slice z (some ((n:Nat):Int)) (some ((n:Nat)+(j:Nat):Int))=aP (((ls z).drop n).take j):=by
 rw[show ((n:Nat):Int)+((j:Nat):Int)=(((n+j:Nat)):Int) by lia];refine gQ ?_;rw[cN];have e:=beq_iff_eq.mp (slice_closes (x:=z) (i:=((n:Nat):Int)) (j:=(((n+j:Nat)):Int)) ⟨by lia,by lia,by rw[show z.cps.toList.length=z.length from bJ z];lia⟩);rw[e];show ((ls z).drop ((n:Nat):Int).toNat).take ((((n+j:Nat)):Int) - ((n:Nat):Int)).toNat=_;rw[toNat_natCast,show ((((n+j:Nat)):Int) - ((n:Nat):Int)).toNat=j by lia]
variable {K:Fg}
def eL (K:Fg):Sp:=λvs H Q _=>∃(a:Addr) (ws:List Str) (x:List Nat),vs=[.ref a,.str (aP x)]/\iC K H a ws/\Ru ws/\gI ws x/\1<=x.length/\x.length<=400/\
 ∀p H',aB H H'->H p=none->H' p=some (.lst ((IF ws x).map λy=>V.str (aP y)))->Q (.ref p) H'
def dA (K:Fg):List (SX K):=
 [set 2 (call "put" (qP K) [var 0,var 1]),
  ret (comp (CU (var 1) (some (var 0)) (some (bin .Add (var 0) (len (var 2))))) (iV 0) (xT (len (call "put" (qP K) [var 0,CU (var 1) none (some (cst (.int 1)))])) []) ["place"] ["made","piece"] [2,1])]
theorem mK {ws:List Str} (hU:Ru ws):∀{l:List Nat},(bP ws l).length<=100 * l.length
 |[]=>zero_le _
 |c::l=>by
  have ih:=mK hU (l:=l);have:(wd ws c).length<=100:=by
   unfold wd;cases e:ws[c - 97]? with
   |none=>exact zero_le _
   |some w=>
    have:=hU.le w (mem_of_getElem? e);rw[<-bJ] at this;exact this
  rw[bE,length_append,length_cons];lia
theorem gO (x:List Nat):(aP x).length=x.length:=by rw[<-bJ,cN]
theorem vI {ws:List Str} {x:List Nat} (h1:1<=x.length):img ws (Txt.slice (aP x) none (some 1))=aP (wd ws (x.headD 0)):=by
 rw[rQ]
 congr 1
 show bP ws (Txt.slice (aP x) none (some 1)).cps.toList=_;rw[iR (by decide)];show bP ws ((ls (aP x)).take 1)=_;rw[cN];cases x with
 |nil=>simp at h1
 |cons c l=>
  show bP ws [c]=wd ws c;rw[bE];exact append_nil _
theorem lL:TT (eL K) (dA K) ["rule","piece","made"]:=by
 intro vs H Q E h;obtain ⟨a,ws,x,rfl,hR,hU,hx,h1,h4,q⟩:=h;have hW:oW ws.length (aP x):=hx.isW;have hil:=mK hU (l:=x);have hxl:=gO x;unfold dA;walk_at "";refine ⟨a,ws,aP x,rfl,hR,hU.le,hW,by lia,λH1 s1=>?_⟩;walk_at "";refine iZ (small (by lia)) ?_;walk_at "";refine ⟨a,ws,_,rfl,hR.same s1,hU.le,hW.to (by decide),by have:=jT (aP x) none (some 1);lia,λH2 s2=>?_⟩;rw[vI h1];have hwl:(wd ws (x.headD 0)).length<=100:=by
  have:=mK hU (l:=[x.headD 0]);rw[bE] at this;simpa [bP] using this
 refine cD (small (by rw[gO];lia)) ?_;rw[gO];walk_at "";intro D hD;refine BJ (λj=>V.str (aP (((bP ws x).drop j).take x.length))) hD (small (by lia)) (λj H3 Q' hj s3 fin=>?_) λH3 s3 hO=>?_
 ·rw[toNat_natCast] at hj;rw[show (0:Int)+((j:Nat):Int)=((j:Nat):Int) by lia];walk_at "";refine cD (small (by lia)) ?_;walk_at "";have pl:=AE hU hx h1 hj;rw[length_take,length_drop] at pl;refine iZ (small (by rw[rQ,gO,cN];lia)) ?_;rw[rQ,cN,hxl,CT (by rw[gO];lia),cN];exact fin H3 (aB.refl _)
 ·refine q D H3 ((s1.trans s2).trans s3) (none_of (s1.trans s2) hD) ?_;rw[hO,toNat_natCast];unfold IF;rw[map_map];rfl
end L2.Na
namespace L2.Na.Pr
open PySem PySem.Spec PyProof.Rows L2 L2.L3
variable {K:Fg}
structure Ob (H:Hp) (d:Addr) (as:List Addr) (f:List dZ):Prop where
 d:H d=some (.dK (BX f as))
 l:f.length=as.length
 v:∀(i:Nat) (a:Addr) (p:dZ),as[i]?=some a->f[i]?=some p->H a=some (.lst (p.2.map V.int))
theorem Ob.same {H H':Hp} {d:Addr} {as:List Addr} {f:List dZ} (h:Ob H d as f) (e:aB H H'):Ob H' d as f:=⟨e _ _ h.d,h.l,λi a p x y=>e _ _ (h.v i a p x y)⟩
def f0 (ws:List Str) (c L:Nat):List dZ:=[(str ws c 0 L,replicate ws.length 0)]
def mX (ws:List Str) (c L:Nat):List dZ:=aT ws (f0 ws c L) 300
def hJ (K:Fg):Sp:=λvs H Q E=>∃(a:Addr) (ws:List Str) (c L:Nat),vs=[.ref a,sgn c,.int (L:Nat)]/\L=1/\Pl K H a ws c 0/\(mX ws c L).length<=300/\
  ∀d as H',aB H H'->H d=none->(∀a∈as,H a=none)->Ob H' d as (mX ws c L)->Q (.ref d) H'
def RW (K:Fg):List (SX K):=
 [cK (Kj (var 11) (var 5)) [cK (cmp .Eq (len (var 4)) (oQ "MOST_PIECES" (.int 300))) [mG] [],
         ex (mH (var 4) (var 11)),
     put (var 5) (var 11) (call "added" (qT K) [var 9,call "counts" (nF K) [CU (var 8) none (some (var 10)),len (var 0)]])] []]
def ZO (K:Fg):List (SX K):=
 [set 7 (ix (var 4) (var 6)),
   set 8 (call "put" (qP K) [var 0,CU (var 7) none (some (cst (.int 1)))]),
   set 9 (call "counts_behind" (fZ K) [var 0,ix (var 5) (var 7),cst (.int 1)]),
   kX (GZ [10,11]) (ZE (call "pieces_of_image" (eL K) [var 0,var 7])) (RW K),
   set 6 (bin .Add (var 6) (cst (.int 1)))]
def eV (K:Fg):List (SX K):=
 [set 3 (call "stretch_at" (cL K) [var 0,var 1,cst (.int 0),var 2]),
  set 4 (lst [var 3]),
  set 5 (Mz (var 3) (bin .Mult (lst [cst (.int 0)]) (len (var 0)))),
  set 6 (cst (.int 0)),
  Oc (cmp .Lt (var 6) (len (var 4))) (ZO K),
  ret (var 5)]
theorem Fj {ws:List Str} (h:Ru ws) {c:Nat} (h1:97<=c) (h2:c - 97<ws.length) (hg:aQ ws c=true) (i:Nat):97<=ew ws c i/\ew ws c i - 97<ws.length:=by
 have li:i<(wk ws c i).length:=by
  have a:=CB h h1 h2 i;have b:=pL h h1 h2 hg i;lia
 exact mZ h h1 h2 i _ (mem_of_getElem? (CC h h1 h2 hg li))
theorem TL {ws:List Str} (h:Ru ws) {c:Nat} (h1:97<=c) (h2:c - 97<ws.length) (hg:aQ ws c=true) (n m:Nat):gI ws (str ws c n m):=λd hd=>by
 unfold str at hd;obtain ⟨i,_,rfl⟩:=mem_map.mp hd;exact Fj h h1 h2 hg _
theorem Mv {ws:List Str} {c L:Nat} (hU:Ru ws) (h1:97<=c) (h2:c - 97<ws.length) (hg:aQ ws c=true):uD ws L (f0 ws c L):=by
 refine ⟨nodup_cons.mpr ⟨by simp,List.nodup_nil⟩,λp hp=>?_⟩;have:p=(str ws c 0 L,replicate ws.length 0):=by simpa [f0] using hp
 subst this;exact ⟨str_len _ _ _ _,TL hU h1 h2 hg 0 L,length_replicate⟩
structure SO (K:Fg) (H H1:Hp) (R d:Addr) (as:List Addr) (f:List dZ):Prop where
 s:aB H H1
 r:H1 R=some (.lst ((iA f).map λy=>V.str (aP y)))
 dc:Ob H1 d as f
 nw:∀a∈as,H a=none/\a≠R/\a≠d
 l:f.length<=300
theorem SO.upd {H H1:Hp} {R d:Addr} {as:List Addr} {f:List dZ} {b:Addr} {o:HO} (h:SO K H H1 R d as f) (nb:H1 b=none):SO K H (upd H1 b o) R d as f:=
 ⟨h.s.trans (aC nb _),aC nb _ _ _ h.r,h.dc.same (aC nb _),h.nw,h.l⟩
theorem HE {ps:List dZ} {f:List dZ} {j:Nat} {p:dZ} (h:ps[j]?=some p):(ps.take (j+1)).foldl dG f=dG ((ps.take j).foldl dG f) p:=by
 rw[take_add_one,h,List.foldl_append];rfl
theorem XH {ws:List Str} {x:dZ} {j:Nat} (h:j<(wd ws (x.1.headD 0)).length):(JT ws x)[j]?=some (((bP ws x.1).drop j).take x.1.length,zipWith (·+·) (KP (rowsOf ws) x.2 1) (kA ws.length (aP ((wd ws (x.1.headD 0)).take j)))):=by
 unfold JT;rw[getElem?_map,getElem?_range h];rfl
theorem XG {ws:List Str} {x:dZ}:(JT ws x).length=(wd ws (x.1.headD 0)).length:=by
 unfold JT;rw[length_map,length_range]
theorem DM {f:List dZ} {as:List Addr} {y:List Nat} (nd:(iA f).Nodup) (l:f.length=as.length):(eY (BX f as) (Sum.inr (aP y))).isSome=decide (y∈iA f):=by
 by_cases h:y∈iA f
 ·obtain ⟨p,hp,rfl⟩:=mem_map.mp h;obtain ⟨i,hi⟩:=List.getElem?_of_mem hp;have hl:i<as.length:=by have:=(List.getElem?_eq_some_iff.mp hi).1;lia
  rw[xO nd hi (getElem?_eq_getElem hl),decide_eq_true h];rfl
 ·rw[rM h,decide_eq_false h];rfl
theorem Ij {D:Ends} {E:XK} {H H1 H2:Hp} {a R d p b:Addr} {ws:List Str} {L j:Nat} {x:dZ} {f:List dZ} {as:List Addr} {v1 v2 v3 v6 v7:Option V} (hR:iC K H a ws) (hU:Ru ws) (hx:x.1.length=L/\gI ws x.1/\x.2.length=ws.length) (h1:1<=L) (h4:L<=400) (ok:uD ws L f) (nR:H R=none) (nd:H d=none) (Rd:R≠d)
  (I:SO K H H2 R d as f) (hj:j<(wd ws (x.1.headD 0)).length) (hb:H2 b=some (.lst ((KP (rowsOf ws) x.2 1).map V.int))) (bR:b≠R) (bd:b≠d)
  (big:300<(dG f (((bP ws x.1).drop j).take x.1.length,zipWith (·+·) (KP (rowsOf ws) x.2 1) (kA ws.length (aP ((wd ws (x.1.headD 0)).take j))))).length->False)
  (q:∀as' H3,(∀c o,c≠R->c≠d->H2 c=some o->H3 c=some o)->SO K H H3 R d as' (dG f (((bP ws x.1).drop j).take x.1.length,zipWith (·+·) (KP (rowsOf ws) x.2 1) (kA ws.length (aP ((wd ws (x.1.headD 0)).take j)))))->D.nx [some (.ref a),v1,v2,v3,some (.ref R),some (.ref d),v6,v7,some (.str (aP (wd ws (x.1.headD 0)))),some (.ref b),some (.int (j:Nat)),some (.str (aP (((bP ws x.1).drop j).take x.1.length)))] H3):
  eI (RW K) (λ_=>E) D [some (.ref a),v1,v2,v3,some (.ref R),some (.ref d),v6,v7,some (.str (aP (wd ws (x.1.headD 0)))),some (.ref b),some (.int (j:Nat)),some (.str (aP (((bP ws x.1).drop j).take x.1.length)))] H2:=by
 have h4w:=hU.four;obtain ⟨y,hy⟩:∃y,y=((bP ws x.1).drop j).take x.1.length:=⟨_,rfl⟩;obtain ⟨cs,hcs⟩:∃cs,cs=zipWith (·+·) (KP (rowsOf ws) x.2 1) (kA ws.length (aP ((wd ws (x.1.headD 0)).take j))):=⟨_,rfl⟩;rw[<-hy,<-hcs] at big q;rw[<-hy];have hwl:(wd ws (x.1.headD 0)).length<=100:=by
  have:=mK hU (l:=[x.1.headD 0]);rw[bE] at this;simpa [bP] using this
 unfold RW;walk_at "";refine Du ?_;walk_at "";refine ⟨d,_,rfl,fV.k (k:=Sum.inr (aP y)) I.dc.d,_,rfl,?_⟩;rw[DM ok.nd I.dc.l];by_cases hm:y∈iA f
 ·rw[decide_eq_true hm];refine bS ?_;walk_at "";have e:dG f (y,cs)=f:=if_pos hm;rw[e] at q;exact q as H2 (λc o _ _ e=>e) I
 ·rw[decide_eq_false hm];refine dE ?_;have e:dG f (y,cs)=f++[(y,cs)]:=if_neg hm;rw[e] at q big;have hRl:aH K H2 R ((iA f).map λy=>V.str (aP y)):=aH.of I.r;have hlen:((iA f).map λy=>V.str (aP y)).length=f.length:=by rw[length_map,FH]
  walk_at "";rw[hlen];refine eQ (λc=>?_) λc=>?_
  ·exact (big (by rw[length_append];simp;lia)).elim
  ·have fl:f.length<300:=by have:=I.l;lia
   walk_at "";refine Fd hRl ?_;walk_at "";refine nQ I.r (lt_of_lt_of_le (show _<5000 by rw[hlen];lia) (small (by decide))) ?_;walk_at "";refine Lo ?_;have k3:∀c o,c≠R->H2 c=some o->(upd H2 R (.lst (((iA f).map λy=>V.str (aP y))++[V.str (aP y)]))) c=some o:=λc o hc e=>by rw[aE hc];exact e
   have S3:aB H (upd H2 R (.lst (((iA f).map λy=>V.str (aP y))++[V.str (aP y)]))):=mE I.s nR;have r3:(upd H2 R (.lst (((iA f).map λy=>V.str (aP y))++[V.str (aP y)]))) R=some (.lst ((iA (f++[(y,cs)])).map λy=>V.str (aP y))):=by
    rw[aA,FI,map_append];rfl
   revert k3 S3 r3;generalize upd H2 R (.lst (((iA f).map λy=>V.str (aP y))++[V.str (aP y)]))=H3;intro k3 S3 r3;walk_at "";have wl:(aP (wd ws (x.1.headD 0))).length=(wd ws (x.1.headD 0)).length:=gO _;refine iZ (small (by lia)) ?_;have htp3:=(hR.same S3).tp;walk_at "";refine ⟨_,_,rfl,by lia,by rw[length_map];lia,λr H4 s4 nr hr=>?_⟩;rw[length_map,toNat_natCast] at hr;have esl:Txt.slice (aP (wd ws (x.1.headD 0))) none (some ((j:Nat):Int))=aP ((wd ws (x.1.headD 0)).take j):=by
    refine gQ ?_;show (Txt.slice (aP (wd ws (x.1.headD 0))) none (some ((j:Nat):Int))).cps.toList=_;rw[iR (by lia),toNat_natCast,cN];show (ls (aP (wd ws (x.1.headD 0)))).take j=_;rw[cN]
   rw[esl] at hr;walk_at "";refine ⟨b,r,_,_,rfl,s4 _ _ (k3 _ _ bR hb),hr,by rw[yC hx.2.2];lia,λt H5 s5 nt ht=>?_⟩;rw[<-hcs] at ht;walk_at "";have s45:=s4.trans s5;have hd5:H5 d=some (.dK (BX f as)):=s45 _ _ (k3 _ _ Rd.symm I.dc.d);refine .inr ⟨d,_,rfl,SN.k (k:=Sum.inr (aP y)) hd5 (by rw[VM I.dc.l];exact lt_of_lt_of_le fl (small (by decide))),?_⟩;rw[VL hm,VN (p:=(y,cs)) I.dc.l];walk_at "";have tR:t≠R:=(aD (s4 _ _ r3) nt).symm;have td:t≠d:=(aD (s4 _ _ (k3 _ _ Rd.symm I.dc.d)) nt).symm;have nt0:H t=none:=none_of (S3.trans s4) nt;refine q (as++[t]) _ (λc o c1 c2 e=>by rw[aE c2];exact s45 _ _ (k3 _ _ c1 e)) ⟨mE (S3.trans s45) nd,?_,⟨aA,by rw[length_append,length_append,I.dc.l];rfl,λi a' p' g1 g2=>?_⟩,λa' ha'=>?_,by rw[length_append];simp;lia⟩
   ·rw[aE Rd];exact s45 _ _ r3
   ·by_cases hi:i<as.length
    ·rw[getElem?_append_left hi] at g1;rw[getElem?_append_left (by have:=I.dc.l;lia)] at g2;obtain ⟨_,n2,n3⟩:=I.nw a' (mem_of_getElem? g1);rw[aE n3];exact s45 _ _ (k3 _ _ n2 (I.dc.v i a' p' g1 g2))
    ·rw[getElem?_append_right (by lia)] at g1;rw[getElem?_append_right (by have:=I.dc.l;lia)] at g2;have e1:a'=t:=by
      have:=mem_of_getElem? g1;simpa using this
     have e2:p'=(y,cs):=by
      have:=mem_of_getElem? g2;simpa using this
     subst e1 e2;rw[aE td];exact ht
   ·rcases mem_append.mp ha' with h|h
    ·exact I.nw a' h
    ·have:a'=t:=by simpa using h
     subst this;exact ⟨nt0,tR,td⟩
theorem uM {ws:List Str} {f:List dZ} {i:Nat} {x:dZ} (h:(aT ws f i)[i]?=some x):aT ws f (i+1)=(JT ws x).foldl dG (aT ws f i):=by
 show (match (aT ws f i)[i]? with|some x=>(JT ws x).foldl dG (aT ws f i)|none=>aT ws f i)=_;rw[h]
theorem TB (ps f:List dZ) (j:Nat):((ps.take j).foldl dG f).length<=(ps.foldl dG f).length:=by
 have e:ps.foldl dG f=(ps.drop j).foldl dG ((ps.take j).foldl dG f):=by rw[<-List.foldl_append,List.take_append_drop]
 obtain ⟨t,g⟩:=tG (ps.drop j) ((ps.take j).foldl dG f);rw[e,g,length_append];lia
theorem qG:TT (hJ K) (eV K) ["rule","start","length","first","found","ahead","done","piece","word","base","place","met"]:=by
 intro vs H Q E h;obtain ⟨a,ws,c,L,rfl,hL,hP,tg,q⟩:=h;have h1:1<=L:=by lia
 have hL4:L<=400:=by lia
 have hU:=hP.ru;have hR:=hP.rt;have h4:=hU.four;have p1:=hU.pos;have ok0:uD ws L (f0 ws c L):=Mv hU hP.c1 hP.c2 hP.gr;have okA:=λi=>ER hU h1 ok0 i;unfold eV;walk_at "";refine .inl ⟨a,ws,c,by rw[hL];rfl,hP,λH1 s1=>?_⟩;rw[show str ws c 0 1=str ws c 0 L by rw[hL]];walk_at "";refine ⟨by show 1<=sizeLine;decide,λR nR=>?_⟩;have s2:=aC nR (.lst [V.str (aP (str ws c 0 L))]);walk_at "";refine Ew λd nd=>?_;have s3:=aC nd (.dK []);walk_at "";refine ⟨by show 1<=sizeLine;decide,λz nz=>?_⟩;have s4:=aC nz (.lst [V.int 0]);have hS4:=((s1.trans s2).trans s3).trans s4;have htp:=(hR.same hS4).tp;walk_at "";rw[length_map];refine AY (xs:=[V.int 0]) aA ⟨by lia,by lia⟩ (small (by show 1 * _<=_;lia)) λu nu=>?_;rw[toNat_natCast];have er:(replicate ws.length [V.int 0]).flatten=(replicate ws.length (0:Int)).map V.int:=by
  rw[List.map_replicate];induction ws.length with
  |zero=>rfl
  |succ n ih=>rw[replicate_succ,replicate_succ,flatten_cons,ih];rfl
 rw[er];have s5:=aC nu (.lst ((replicate ws.length (0:Int)).map V.int));refine WK (k:=Sum.inr (aP (str ws c 0 L))) (s5 _ _ (s4 _ _ aA)) ?_;have nR0:H R=none:=none_of s1 nR;have nd0:H d=none:=none_of (s1.trans s2) nd;have Rd:R≠d:=aD aA nd;have uR:u≠R:=(aD (s4 _ _ (s3 _ _ aA)) nu).symm;have ud:u≠d:=(aD (s4 _ _ aA) nu).symm;have nu0:H u=none:=none_of hS4 nu;have I0:SO K H (upd (upd (upd (upd (upd H1 R (.lst [V.str (aP (str ws c 0 L))])) d (.dK [])) z (.lst [V.int 0])) u (.lst ((replicate ws.length (0:Int)).map V.int))) d (.dK [(Sum.inr (aP (str ws c 0 L)),V.ref u)])) R d [u] (f0 ws c L):=by
  refine ⟨mE (hS4.trans s5) nd0,?_,⟨aA,rfl,λi a' p' g1 g2=>?_⟩,λa' ha'=>?_,by show 1<=300;decide⟩
  ·rw[aE Rd];exact s5 _ _ (s4 _ _ (s3 _ _ aA))
  ·match i,g1,g2 with
   |0,g1,g2=>
    cases g1;cases g2;rw[aE ud];exact aA
   |i+1,g1,g2=>simp at g1
  ·have:a'=u:=by simpa using ha'
   subst this;exact ⟨nu0,uR,ud⟩
 revert I0;generalize upd (upd (upd (upd (upd H1 R (.lst [V.str (aP (str ws c 0 L))])) d (.dK [])) z (.lst [V.int 0])) u (.lst ((replicate ws.length (0:Int)).map V.int))) d (.dK [(Sum.inr (aP (str ws c 0 L)),V.ref u)])=H5;intro I0;walk_at "";refine xI (λm σ H2=>∃(i:Nat) (as:List Addr) (b7 b8 b9 b10 b11:Option V),σ=[some (.ref a),some (sgn c),some (.int (L:Nat)),some (.str (aP (str ws c 0 L))),some (.ref R),some (.ref d),some (.int (i:Nat)),b7,b8,b9,b10,b11]/\m=300 - i/\i<=(aT ws (f0 ws c L) i).length/\SO K H H2 R d as (aT ws (f0 ws c L) i)) (m:=300) ⟨0,[u],none,none,none,none,none,rfl,rfl,zero_le _,I0⟩ ?_;rintro m σ H2 ⟨i,as,b7,b8,b9,b10,b11,rfl,rfl,hi,I⟩;have hRl:aH K H2 R ((iA (aT ws (f0 ws c L) i)).map λy=>V.str (aP y)):=aH.of I.r;have hlen:((iA (aT ws (f0 ws c L) i)).map λy=>V.str (aP y)).length=(aT ws (f0 ws c L) i).length:=by rw[length_map,FH]
 walk_at "";rw[hlen];have Il:=I.l;refine eQ (λcc=>?_) λcc=>?_
 ·have hil:i<(aT ws (f0 ws c L) i).length:=by lia
  obtain ⟨x,hx⟩:∃x,(aT ws (f0 ws c L) i)[i]?=some x:=⟨_,getElem?_eq_getElem hil⟩;have okx:=(okA i).ok x (mem_of_getElem? hx);obtain ⟨ax,hax⟩:∃ax,as[i]?=some ax:=⟨_,getElem?_eq_getElem (by have:=I.dc.l;lia)⟩;have hxl:=gO x.1;have hwl:(wd ws (x.1.headD 0)).length<=100:=by
   have:=mK hU (l:=[x.1.headD 0]);rw[bE] at this;simpa [bP] using this
  refine LC ?_;unfold ZO;walk_at "";refine aJ (v:=.str (aP x.1)) hRl (bI (by unfold iA;rw[getElem?_map,getElem?_map,hx];rfl)) ?_;walk_at "";refine iZ (small (by lia)) ?_;walk_at "";refine ⟨a,ws,_,rfl,hR.same I.s,hU.le,okx.2.1.isW.to (by decide),by have:=jT (aP x.1) none (some 1);lia,λH3 s3=>?_⟩;rw[vI (by lia)];have I3:SO K H H3 R d as (aT ws (f0 ws c L) i):=⟨I.s.trans s3,s3 _ _ I.r,I.dc.same s3,I.nw,I.l⟩;walk_at "";refine AZ (v:=.ref ax) (by
   have:=fV.k (k:=Sum.inr (aP x.1)) I3.dc.d
   rw[xO (okA i).nd hx hax] at this
   exact this) ?_
  walk_at "";refine ⟨a,ax,ws,_,1,rfl,hR.same I3.s,I3.dc.v i ax x hax hx,okx.2.2,λw hw=>by have:=hU.le w hw;lia,by decide,by decide,λb H4 s4 nb hb=>?_⟩;have I4:SO K H H4 R d as (aT ws (f0 ws c L) i):=⟨I3.s.trans s4,s4 _ _ I3.r,I3.dc.same s4,I3.nw,I3.l⟩;have bR:b≠R:=(aD I3.r nb).symm;have bd:b≠d:=(aD I3.dc.d nb).symm;replace hb:H4 b=some (.lst ((KP (rowsOf ws) x.2 1).map V.int)):=hb;walk_at "";refine Eu ?_;walk_at "";refine ⟨a,ws,x.1,rfl,hR.same I4.s,hU,okx.2.1,by lia,by lia,λp H5 s5' np hp=>?_⟩;have I5:SO K H H5 R d as (aT ws (f0 ws c L) i):=⟨I4.s.trans s5',s5' _ _ I4.r,I4.dc.same s5',I4.nw,I4.l⟩;have pR:p≠R:=(aD I4.r np).symm;have pd:p≠d:=(aD I4.dc.d np).symm;walk_at "";refine WJ hp ?_;have hpl:((IF ws x.1).map λy=>V.str (aP y)).length=(wd ws (x.1.headD 0)).length:=by unfold IF;rw[length_map,length_map,length_range]
  have i300:i+1<=300:=by lia
  refine IV (xs:=(IF ws x.1).map λy=>V.str (aP y)) (λj σ H6=>∃(as':List Addr) (b10 b11:Option V),σ=[some (.ref a),some (sgn c),some (.int (L:Nat)),some (.str (aP (str ws c 0 L))),some (.ref R),some (.ref d),some (.int (i:Nat)),some (.str (aP x.1)),some (.str (aP (wd ws (x.1.headD 0)))),some (.ref b),b10,b11]/\(∀e o,e≠R->e≠d->H5 e=some o->H6 e=some o)/\SO K H H6 R d as' (((JT ws x).take j).foldl dG (aT ws (f0 ws c L) i)))
   ⟨as,b10,b11,rfl,λe o _ _ g=>g,I5⟩ (λj σ6 H6 ⟨_,_,_,_,kp,_⟩=>kp _ _ pR pd hp) (λj σ6 H6 e o ⟨as',c10,c11,g,kp,J⟩ ne=>⟨as',c10,c11,g,λe' o' n1 n2 g'=>by rw[aE (aD (kp e' o' n1 n2 g') ne)];exact kp e' o' n1 n2 g',J.upd ne⟩) (λj y σ6 H6 hy hP6=>?_) λσ6 H6 hP6=>?_
  ·obtain ⟨as',c10,c11,rfl,kp,J⟩:=hP6;have hj:j<(wd ws (x.1.headD 0)).length:=by have:=(List.getElem?_eq_some_iff.mp hy).1;lia
   have hyv:y=V.str (aP (((bP ws x.1).drop j).take x.1.length)):=by
    unfold IF at hy;rw[getElem?_map,getElem?_map,getElem?_range hj] at hy;exact (Option.some.inj hy).symm
   subst hyv;have ef:=HE (f:=aT ws (f0 ws c L) i) (XH hj);refine Ij (H1:=H5) (p:=p) hR hU okx h1 hL4 (yM (okA i) λp hp=>QY hU h1 okx p (List.mem_of_mem_take hp)) nR0 nd0 Rd J hj (kp _ _ bR bd (s5' _ _ hb)) bR bd (λhbig=>?_) λas2 H7 k7 J7=>?_
   ·rw[<-ef] at hbig;have l1:=TB (JT ws x) (aT ws (f0 ws c L) i) (j+1);rw[<-uM hx] at l1;have l2:=ES ws (f0 ws c L) i300;have tg:(aT ws (f0 ws c L) 300).length<=300:=tg;lia
   ·refine ⟨as2,_,_,rfl,λe o n1 n2 g=>k7 e o n1 n2 (kp e o n1 n2 g),?_⟩;rw[ef];exact J7
  ·obtain ⟨as',c10,c11,rfl,kp,J⟩:=hP6;rw[hpl,<-XG,take_of_length_le (Nat.le_refl _),<-uM hx] at J;walk_at "";refine ⟨300 - (i+1),by lia,i+1,as',some (.str (aP x.1)),some (.str (aP (wd ws (x.1.headD 0)))),some (.ref b),c10,c11,?_,rfl,?_,J⟩
   ·rw[show ((i:Nat):Int)+1=((i+1:Nat):Int) by lia];rfl
   ·have:=ES ws (f0 ws c L) (show i<=i+1 by lia);lia
 ·walk_at "";have hie:(aT ws (f0 ws c L) i).length<=i:=by lia
  have eA:mX ws c L=aT ws (f0 ws c L) i:=by
   have:=qL ws (f0 ws c L) hie (300 - i);rw[show i+(300 - i)=300 by lia] at this;exact this
  rw[eA] at q;exact q d as H2 I.s nd0 (λa' ha'=>(I.nw a' ha').1) I.dc
end L2.Na.Pr
namespace L2.Na.K44
open PySem PySem.Spec PyProof.Rows L2 L2.L3
theorem FV:∀(z:Str) (xs:List (List Nat)),BY (.str z) (xs.map λy=>V.str (aP y))=decide (ls z∈xs)
 |z,[]=>rfl
 |z,x::xs=>by
  have ih:=FV z xs;unfold BY at ih ⊢;rw[map_cons,any_cons,ih];show ((aP x==z) || _)=_;by_cases h:x=ls z
  ·subst h;have e:aP (ls z)=z:=gQ (cN _);rw[e,beq_self_eq_true,Bool.true_or,decide_eq_true mem_cons_self]
  ·have e:(aP x==z)=false:=by
    rw[beq_eq_false_iff_ne];intro e;rw[<-e,cN] at h;exact h rfl
   rw[e,Bool.false_or]
   congr 1
   rw[mem_cons,eq_comm (a:=ls z)];simp [h]
theorem JK (xs:List (List Nat)):(xs.map λy=>V.str (aP y)).all eP=true:=by
 rw[all_map];exact all_eq_true.mpr λ_ _=>rfl
def Exc (K:Fg) (x:Str) (H:Hp) (E:XK):Prop:=∀H',aB H H'->E (.ref (clsAt K x)) none H'
theorem FQ:∀{f:List dZ} {as:List Addr},f.length=as.length->((BX f as).map λkv=>kV kv.1)=(iA f).map λy=>V.str (aP y)
 |[],[],_=>rfl
 |p::f,a::as,h=>by
  show _::(BX f as).map _=_;rw[FQ (by simpa using h)];rfl
end L2.Na.K44
namespace L2.Na.K82
open PySem PySem.Spec PyProof.Rows L2 L2.L3
variable {K:Fg}
def Ol (ws:List Str):Nat:=(ws[0]?.getD (⟨#[]⟩:Str)).length
def Hb (ws:List Str):Bool:=decide ((1:Int)<((Ol ws:Nat):Int))&&ws.all λw=>decide (((w.length:Nat):Int)=((Ol ws:Nat):Int))
def iJ (K:Fg):Sp:=λvs H Q _=>∃(a:Addr) (ws:List Str),vs=[.ref a]/\iC K H a ws/\Ru ws/\∀H',aB H H'->Q (.bl (Hb ws)) H'
def fP (K:Fg):List (SX K):=
 [set 1 (len (ix (var 0) (cst (.int 0)))),
  ret (jO (cmp .Gt (var 1) (cst (.int 1))) [KH (comp (cmp .Eq (len (var 0)) (var 1)) (iV 0) (gG (var 0)) ["word"] ["size"] [1])])]
theorem PV {ws:List Str} (h:1<=ws.length):∃w0,ws[0]?=some w0/\Ol ws=w0.length/\uB (ws.map V.str) 0=some (.str w0)/\w0∈ws:=by
 refine ⟨ws[0],getElem?_eq_getElem (by lia),?_,?_,getElem_mem _⟩
 ·unfold Ol;rw[getElem?_eq_getElem (show 0<ws.length by lia)];rfl
 ·exact bI (j:=0) (by rw[getElem?_map,getElem?_eq_getElem (show 0<ws.length by lia)];rfl)
theorem tL:TT (iJ K) (fP K) ["rule","size"]:=by
 intro vs H Q E h;obtain ⟨a,ws,rfl,hR,hU,q⟩:=h;have h1:=hR.pos;have h4:=hR.four;obtain ⟨w0,hw0,hf,ha,hm⟩:=PV h1;have l0:=hU.le w0 hm;unfold Hb at q;rw[hf] at q;unfold fP;walk_at "";refine vE (v:=.str w0) hR.tp ha ?_;refine cD (small (by lia)) ?_;walk_at "";cases e:decide ((1:Int)<((w0.length:Nat):Int)) with
 |false=>
  rw[e] at q;refine bS ?_;walk_at "";exact q H (aB.refl _)
 |true=>
  rw[e] at q;refine dE ?_;walk_at "";refine GB hR.tp ?_;intro D hD;refine sU (λx=>match x with| .str w=>.bl (decide (((w.length:Nat):Int)=((w0.length:Nat):Int)))|_=>.non) hR.tp hD (small (by rw[length_map];lia)) (λi x H1 Q' hx hS fin=>?_) λH1 hS hO=>?_
  ·obtain ⟨w,hw,rfl⟩:=mem_map.mp (mem_of_getElem? hx);have lw:=hU.le w hw;walk_at "";refine cD (small (by lia)) ?_;walk_at "";exact fin H1 (aB.refl _)
  ·refine ⟨D,ws.map λw=>decide (((w.length:Nat):Int)=((w0.length:Nat):Int)),rfl,by rw[hO,map_map,map_map];rfl,?_⟩;rw[all_map];exact q H1 hS
end L2.Na.K82
namespace L2.Na.K05
open PySem PySem.Spec PyProof.Rows L2 L2.L3
variable {K:Fg}
structure Ws (us:List Str):Prop where
 ne:us≠[]
 bf:BF us
 sh:∀u∈us,u.length<=1000
 few:us.length<=10
theorem Ws.len {us:List Str} (h:Ws us):(Txt.join bk us).length<=20000:=by
 have e1:Txt.join bk us=Str.join bk us:=glued_eq_join bk us;have h0:=StrLaws.join_length_le bk us;have h1:(us.map (·.length)).sum<=(us.map (·.length)).length * 1000:=wJ (B:=1000) λx hx=>by
  obtain ⟨u,hu,rfl⟩:=mem_map.mp hx;exact h.sh u hu
 rw[length_map] at h1;have h2:us.length * 1000<=10 * 1000:=Nat.mul_le_mul_right _ h.few;have h3:=h.few;rw[Fy] at h0;rw[e1];lia
def cU (K:Fg):Sp:=λvs H Q E=>∃x,vs=[x]/\((∃us:List Str,x=.str (Txt.join bk us)/\Ws us/\
  ((nP (us.map V.str) 12=true/\∀p H',aB H H'->H' p=some (.tup (us.map V.str))->Q (.ref p) H')\/(nP (us.map V.str) 12=false/\∀H',aB H H'->E (.ref (clsAt K "NoRule")) none H')))\/
 (oU K "str" H x/\∀H',aB H H'->E (.ref (clsAt K "NoRule")) none H'))
def jH (K:Fg):List (SX K):=
 [cK (cI (OO (var 0) uI)) [raiseO "NoRule" (cst (.str "a rule is written by a text")) []] [],
  set 1 (LN (m_split (var 0) (cst (.str " ")))),
  cK (cI (call "is_rule_up_to" (fY K) [var 1,oQ "MOST_SIGNS_IN_TEXT" (.int 12)])) [raiseO "NoRule" (cst (.str "this text writes no rule")) []] [],
  ret (var 1)]
theorem yV:TT (cU K) (jH K) ["text","rule"]:=by
 intro vs H Q E h;obtain ⟨x,rfl,h⟩:=h;unfold jH;walk_at "";rcases h with ⟨us,rfl,hw,h⟩|⟨⟨t,h1,h2⟩,q⟩
 ·refine ⟨_,_,cE.str _,JA,?_⟩;walk_at "";refine bS ?_;walk_at "";refine FY ?_;walk_at "";refine AX (by decide+kernel) (small (by have:=hw.len;lia)) λp np=>?_;rw[qN hw.ne hw.bf];walk_at "";refine .inl ⟨_,aH.of aA,λy ny=>?_⟩;have s2:aB H _:=(aC np _).trans (aC ny (.tup (us.map V.str)));walk_at "";refine ⟨_,12,rfl,.inl ⟨y,us.map V.str,rfl,aA,by rw[length_map];have:=hw.few;lia,λv hv=>?_,λH3 hS3=>?_⟩⟩
  ·obtain ⟨u,hu,rfl⟩:=mem_map.mp hv;exact .inl ⟨u,rfl,by have:=hw.sh u hu;lia⟩
  walk_at "";rcases h with ⟨e,q⟩|⟨e,q⟩
  ·rw[e];walk_at "";refine bS ?_;walk_at "";exact q y H3 (s2.trans hS3) (hS3 _ _ aA)
  ·rw[e];walk_at "";refine dE ?_;refine kH ?_;refine cC ?_;walk_at "";exact ⟨by show 1<=sizeLine;decide,q H3 (s2.trans hS3)⟩
 ·refine ⟨t,_,h1,h2,?_⟩;walk_at "";refine dE ?_;refine kH ?_;refine cC ?_;walk_at "";exact ⟨by show 1<=sizeLine;decide,q H (aB.refl _)⟩
section
variable {H0:Hp} {Q:VK} {E:XK} {a:Addr} {n y:Int} {ws:List Str} {k g:Nat}
end
end L2.Na.K05
namespace L2.Na.K81
open PySem PySem.Spec PyProof.Rows L2 L2.L3
variable {K:Fg}
theorem GU.same {H H':Hp} {x:V} {D:Addr} {fs:List (Str × V)} (e:aB H H') (h:GU H x D fs):GU H' x D fs:=by
 obtain ⟨a,rfl,h⟩:=h;rcases h with ⟨h,h2⟩|⟨d,h,h2⟩
 ·exact ⟨a,rfl,.inl ⟨e _ _ h,h2⟩⟩
 ·exact ⟨a,rfl,.inr ⟨d,e _ _ h,e _ _ h2⟩⟩
structure Ask (K:Fg) (D:Addr) (ts:List Bool):Prop where
 xf:XF K D
 k0:kitOne K (.ref D) (.ref (clsAt K "NoRow"))=some (ts[0]?.getD false)
 k1:kitOne K (.ref D) (.ref (clsAt K "NoRule"))=some (ts[1]?.getD false)
 k2:kitOne K (.ref D) (.ref (clsAt K "NoStart"))=some (ts[2]?.getD false)
 k3:kitOne K (.ref D) (.ref (clsAt K "NoPiece"))=some (ts[3]?.getD false)
 k4:kitOne K (.ref D) (.ref (clsAt K "NotMixed"))=some (ts[4]?.getD false)
 k5:kitOne K (.ref D) (.ref (clsAt K "NoShares"))=some (ts[5]?.getD false)
 k6:kitOne K (.ref D) (.ref (clsAt K "TooGreat"))=some (ts[6]?.getD false)
 kv:kitOne K (.ref D) (.type "ValueError")=some true
def cM (K:Fg):Sp:=λvs H Q _=>∃(x:V) (D:Addr) (fs:List (Str × V)) (ts:List Bool) (m:V),vs=[x]/\GU H x D fs/\Ask K D ts/\
 ((ts[6]?.getD false=false/\m=.non)\/(ts[6]?.getD false=true/\fs.lookup ("most":Str)=some m/\PySem.W.findIn K (.ref D) "most"=some none))/\
 ∀p l H',aB H H'->H' l=some (.lst ([ts[0]?.getD false,ts[1]?.getD false,ts[2]?.getD false,ts[3]?.getD false,ts[4]?.getD false,ts[5]?.getD false,ts[6]?.getD false].map V.bl))->H l=none->H' p=some (.tup [.ref l,m,.bl true])->Q (.ref p) H'
def eE (K:Fg):List (SX K):=
 [set 1 (lst [tZ (var 0) (oQ "NoRow" (.ref (clsAt K "NoRow"))),tZ (var 0) (oQ "NoRule" (.ref (clsAt K "NoRule"))),tZ (var 0) (oQ "NoStart" (.ref (clsAt K "NoStart"))),tZ (var 0) (oQ "NoPiece" (.ref (clsAt K "NoPiece")))]),
  set 1 (bin .Add (var 1) (lst [tZ (var 0) (oQ "NotMixed" (.ref (clsAt K "NotMixed"))),tZ (var 0) (oQ "NoShares" (.ref (clsAt K "NoShares"))),tZ (var 0) (oQ "TooGreat" (.ref (clsAt K "TooGreat")))])),
  set 2 (cst .non),
  cK (ix (var 1) (cst (.int 6))) [set 2 (Pa (var 0) "most")] [],
  ret (tup [var 1,var 2,tZ (var 0) Ac])]
theorem xM:∀vs H Q E,cM K vs H Q E->vs.length=1:=by
 rintro vs H Q E ⟨_,_,_,_,_,rfl,_⟩;rfl
theorem wG (vs:List V) (H:Hp) (Q:VK) (E:XK) (h:cM K vs H Q E):eI (eE K) E0 {nx:=λ_ H'=>Q .non H',rt:=Q} (start ["_law_e","_law_some","_law_most"] vs) H:=by
 obtain ⟨x,D,fs,ts,m,rfl,hX,A,hm,q⟩:=h;unfold eE;walk_at "";refine jB ?_;walk_at "";refine jA rfl hX A.xf A.k0 ?_;walk_at "";refine jB ?_;walk_at "";refine jA rfl hX A.xf A.k1 ?_;walk_at "";refine jB ?_;walk_at "";refine jA rfl hX A.xf A.k2 ?_;walk_at "";refine jB ?_;walk_at "";refine jA rfl hX A.xf A.k3 ?_;walk_at "";refine ⟨by show 4<=sizeLine;decide,λp np=>?_⟩;have s1:=aC np (.lst [V.bl (ts[0]?.getD false),.bl (ts[1]?.getD false),.bl (ts[2]?.getD false),.bl (ts[3]?.getD false)]);have hX1:=GU.same s1 hX;walk_at "";refine jB ?_;walk_at "";refine jA rfl hX1 A.xf A.k4 ?_;walk_at "";refine jB ?_;walk_at "";refine jA rfl hX1 A.xf A.k5 ?_;walk_at "";refine jB ?_;walk_at "";refine jA rfl hX1 A.xf A.k6 ?_;walk_at "";refine ⟨by show 3<=sizeLine;decide,λp2 np2=>?_⟩;have s2:=aC np2 (.lst [V.bl (ts[4]?.getD false),.bl (ts[5]?.getD false),.bl (ts[6]?.getD false)]);refine rZ (s2 _ _ aA) aA (by show 7<=sizeLine;decide) λl nl=>?_;have s3:=aC nl (.lst ([V.bl (ts[0]?.getD false),.bl (ts[1]?.getD false),.bl (ts[2]?.getD false),.bl (ts[3]?.getD false)]++[V.bl (ts[4]?.getD false),.bl (ts[5]?.getD false),.bl (ts[6]?.getD false)]));have hX3:=GU.same s3 (GU.same s2 hX1);have hS3:=(s1.trans s2).trans s3;have hl0:H l=none:=none_of (s1.trans s2) nl;have hl:=(aA:(upd (upd (upd H p (.lst [V.bl (ts[0]?.getD false),.bl (ts[1]?.getD false),.bl (ts[2]?.getD false),.bl (ts[3]?.getD false)])) p2 (.lst [V.bl (ts[4]?.getD false),.bl (ts[5]?.getD false),.bl (ts[6]?.getD false)])) l (.lst ([V.bl (ts[0]?.getD false),.bl (ts[1]?.getD false),.bl (ts[2]?.getD false),.bl (ts[3]?.getD false)]++[V.bl (ts[4]?.getD false),.bl (ts[5]?.getD false),.bl (ts[6]?.getD false)]))) l=_);revert hX3 hS3 hl;generalize upd (upd (upd H p _) p2 _) l _=H3;intro hX3 hS3 hl;walk_at "";refine aJ (v:=.bl (ts[6]?.getD false)) (aH.of hl) rfl ?_;change br (ts[6]?.getD false) _ _;have fin:∀(m':V),m'=m->eI [ret (tup [var 1,var 2,tZ (var 0) Ac])] E0 {nx:=λ_ H'=>Q .non H',rt:=Q} [some x,some (.ref l),some m'] H3:=λm' e=>by
  subst e;walk_at "";refine jB ?_;walk_at "";refine Ef ?_;refine jA rfl hX3 A.xf A.kv ?_;walk_at "";exact ⟨by show 3<=sizeLine;decide,λr nr=>q r l _ (hS3.trans (aC nr _)) (aC nr _ _ _ hl) hl0 aA⟩
 rcases hm with ⟨h6,rfl⟩|⟨h6,hlk,hfi⟩
 ·rw[h6];refine bS ?_;walk_at "";exact fin _ rfl
 ·rw[h6];refine dE ?_;walk_at "";refine YX ?_;walk_at "";refine ⟨D,fs,m,hX3,A.xf,hfi,hlk,?_⟩;walk_at "";exact fin _ rfl
def gK (K:Fg):Sp:=λvs H Q _=>∃(a:Addr) (ns:List Int) (k:Int),vs=[.ref a,.int k]/\aH K H a (ns.map V.int)/\0<=k/\∀v:Int,Q (.int v) H
def nZ (K:Fg):List (SX K):=
 [cK (cmp .Eq (len (var 0)) (cst (.int 0))) [ret (var 1)] [],
  ret (ix (var 0) (bin .Mod (var 1) (len (var 0))))]
theorem HG:TT (gK K) (nZ K) ["_law_script","_law_k"]:=by
 intro vs H Q E h;obtain ⟨a,ns,k,rfl,hS,h0,q⟩:=h;have hlen:(ns.map V.int).length=ns.length:=length_map _;unfold nZ;walk_at "";refine eQ (λc=>?_) λc=>?_
 ·walk_at "";exact q _
 ·walk_at "";have e1:=emod_nonneg k (show (((ns.map V.int).length:Nat):Int)≠0 by lia);have e2:=Int.emod_lt_of_pos k (show (0:Int)<((ns.map V.int).length:Nat) by lia);obtain ⟨v,hv⟩:=RZ (ns:=ns) e1 (by lia);refine aJ hS hv ?_;exact q v
def qR (K:Fg):Sp:=λvs H Q _=>∃(a:Addr) (ns:List Int) (k:Int),vs=[.ref a,.int k]/\aH K H a (ns.map V.int)/\ns.length<=63/\0<=k/\k<=1000/\∀v:Int,0<=v->v<2147483647->Q (.int v) H
def oA (K:Fg):List (SX K):=
 [cK (cmp .Eq (len (var 0)) (cst (.int 0))) [ret (bin .Mod (bin .Mult (bin .Add (bin .Mult (var 1) (var 1)) (cst (.int 3))) (cst (.int 48271))) (cst (.int 2147483647)))] [],
  set 2 (bin .FloorDiv (var 1) (len (var 0))),
  ret (bin .Mod (bin .Mult (bin .Add (bin .Mod (call "_law_raw" (gK K) [var 0,var 1]) (cst (.int 2147483629))) (cst (.int 2))) (bin .Add (cst (.int 48271)) (bin .Mult (bin .Mult (cst (.int 7)) (var 2)) (var 2)))) (cst (.int 2147483647)))]
theorem HH:TT (qR K) (oA K) ["_law_script","_law_k","_law_turn"]:=by
 intro vs H Q E h;obtain ⟨a,ns,k,rfl,hS,h63,h0,h1,q⟩:=h;have hlen:(ns.map V.int).length=ns.length:=length_map _;unfold oA;walk_at "";refine eQ (λc=>?_) λc=>?_
 ·walk_at "";exact q _ (emod_nonneg _ (by decide)) (Int.emod_lt_of_pos _ (by decide))
 ·walk_at "";have ht:0<=k / (((ns.map V.int).length:Nat):Int)/\k / (((ns.map V.int).length:Nat):Int)<=1000:=⟨Int.ediv_nonneg h0 (by lia),Int.le_trans (Int.ediv_le_self _ h0) h1⟩;revert ht;generalize k / (((ns.map V.int).length:Nat):Int)=t;intro ht;refine ⟨a,ns,k,rfl,hS,h0,λv=>?_⟩;walk_at "";exact q _ (emod_nonneg _ (by decide)) (Int.emod_lt_of_pos _ (by decide))
end L2.Na.K81
namespace L2.Na.K26
open PySem PySem.Spec PyProof.Rows L2 L2.L3 L2.Na.Pr
variable {K:Fg}
def cF (K:Fg):Sp:=λvs H Q E=>L2.Na.cF K vs H Q E\/∃(a:Addr) (ws:List Str) (c:Nat) (n:Int),vs=[.ref a,sgn c,.int n]/\Gv K H a ws c n E
def fC (K:Fg):List (SX K):=
 [set 3 (call "figures" (Pr.cA K) [var 0,var 1,var 2]),
  cK (cmp .Eq (len (var 3)) (cst (.int 0))) [ret (var 1)] [],
  ret (ix (ix (var 3) (neg (cst (.int 1)))) (cst (.int 1)))]
theorem AQ:∀vs H Q E,cF K vs H Q E->vs.length=3:=by
 rintro vs H Q E (⟨_,_,_,_,rfl,_⟩|⟨_,_,_,_,rfl,_⟩)
 ·rfl
 ·rfl
theorem yW:TT (cF K) (fC K) ["rule","start","n","pairs"]:=by
 intro vs H Q E h;rcases h with h|⟨a,ws,c,n,rfl,hb⟩
 case inr=>
  unfold fC;walk_at "";exact .inr ⟨a,ws,c,_,rfl,hb⟩
 obtain ⟨a,ws,c,n,rfl,hP,q⟩:=h;obtain ⟨k,hk,hG,hlt⟩:=hP.turns;have hlast:=XQ hP.ru hG hP.gr;unfold fC;walk_at "";refine .inl ⟨a,ws,c,n,k,rfl,hP.rt,hP.ru,hP.gr,hk,hG,hlt,λp rs H1 hS1 _ _ hF=>?_⟩;have hrl:rs.length=k:=by rw[hF.2.1,jD]
 walk_at "";refine eO (aH.of hF.1) ?_;walk_at "";refine eQ (λc0=>?_) λc0=>?_
 ·rw[length_map] at c0;have hk0:k=0:=by lia
  subst hk0;walk_at "";have e:(dD ws 0 c n 0).1=c:=rfl;rw[e] at hlast;rw[hlast];exact q _ hS1
 ·rw[length_map] at c0;have hk0:k - 1<k:=by lia
  obtain ⟨rl,hl⟩:∃r,rs[k - 1]?=some r:=⟨_,getElem?_eq_getElem (show k - 1<rs.length by lia)⟩;have hf:=pW (ws:=ws) k c n (k - 1) hk0;rw[show k - 1+1=k by lia] at hf;have ht:=hF.2.2 (k - 1) rl _ hl hf;walk_at "";refine GA ?_;walk_at "";refine xQ ?_;refine aJ (aH.of hF.1) (vU (v:=.ref rl) (by rw[length_map,hrl,getElem?_map,hl];rfl)) ?_;walk_at "";refine vE (v:=sgn (dD ws k c n k).1) (bX.of ht) rfl ?_;rw[hlast];exact q _ hS1
structure Sw (ws:List Str) (c o m:Nat):Prop where
 ru:Ru ws
 two:ws.length=2
 wc:wd ws c=c::replicate m o
 wo:wd ws o=[o]
 c1:97<=c
 c2:c<99
 o1:97<=o
 o2:o<99
 ne:c≠o
 m1:1<=m
theorem AV {ws:List Str} {o:Nat} (h:wd ws o=[o]):∀k,bP ws (replicate k o)=replicate k o
 |0=>rfl
 |k+1=>by
  rw[replicate_succ,bE,AV h k,h];rfl
section
variable {ws:List Str} {c o m:Nat}
theorem Sw.wk (h:Sw ws c o m):∀k,wk ws c k=c::replicate (m * k) o
 |0=>rfl
 |k+1=>by
  show bP ws (L2.Na.wk ws c k)=_;rw[h.wk k,bE,AV h.wo,h.wc,cons_append,List.replicate_append_replicate,Nat.mul_succ,Nat.add_comm]
theorem Sw.sz (h:Sw ws c o m) (k:Nat):sz ws k c=((1+m * k:Nat):Int):=by
 rw[<-CB h.ru h.c1 (by have:=h.two;have:=h.c2;lia) k,h.wk k,length_cons,length_replicate]
 congr 1
 lia
theorem Ho {x:Nat} {w:Str} (hw:ws[x - 97]?=some w):wd ws x=ls w:=by
 unfold wd;rw[hw];rfl
theorem WT {x:Nat} {w:Str} (hx:97<=x) (hw:ws[x - 97]?=some w):aQ ws x=(decide (1<w.length)&&decide ((ls w)[0]?=some x)):=by
 unfold aQ;rw[hw];show (decide (97<=x)&&_)=_;rw[decide_eq_true hx,Bool.true_and]
theorem Sw.gr (h:Sw ws c o m):aQ ws c=true:=by
 have hl:c - 97<ws.length:=by have:=h.two;have:=h.c2;lia
 have hw:ws[c - 97]?=some ws[c - 97]:=getElem?_eq_getElem hl;have e:=Ho hw;rw[h.wc] at e;rw[WT h.c1 hw,<-bJ,<-e];have:=h.m1;rw[decide_eq_true (show 1<(c::replicate m o).length by rw[length_cons,length_replicate];lia),Bool.true_and];exact decide_eq_true rfl
theorem Sw.ew (h:Sw ws c o m) (n:Nat):ew ws c n=if 0<n then o else c:=by
 have c2:c - 97<ws.length:=by have:=h.two;have:=h.c2;lia
 have hl:n<(L2.Na.wk ws c n).length:=by
  rw[h.wk n,length_cons,length_replicate];have:=Nat.mul_le_mul_right n h.m1;lia
 have e:=CC h.ru h.c1 c2 h.gr hl;rw[h.wk n] at e;cases n with
 |zero=>exact (Option.some.inj e).symm
 |succ n=>
  rw[List.getElem?_cons_succ] at e;have:=List.eq_of_mem_replicate (mem_of_getElem? e);rw[if_pos (Nat.succ_pos _)];exact this
end
end L2.Na.K26
namespace L2.Na.K92
open PySem PySem.Spec PyProof.Rows L2 L2.L3
def WU (c:Nat):Bool:=decide (c∈ls (ofString "0123456789"))
def fK (z:Str):Bool:=if z=ofString "0" then true else if z.length<1\/30<z.length\/startswith z (ofString "0")=true then false else (ls z).all WU
variable {K:Fg}
def eC (K:Fg):Sp:=λvs H Q _=>∃z:Str,vs=[.str z]/\z.length<=100000/\∀H',aB H H'->Q (.bl (fK z)) H'
def jM (K:Fg):List (SX K):=
 [cK (cmp .Eq (var 0) (cst (.str "0"))) [ret (cst (.bl true))] [],
  cK (NH (cmp .Lt (len (var 0)) (cst (.int 1))) [cmp .Gt (len (var 0)) (oQ "MOST_FIGURES" ((.int 30))),m_startswith (var 0) (cst (.str "0"))]) [ret (cst (.bl false))] [],
  ret (KH (comp (cmp .In (var 0) (oQ "FIGURES" ((.str "0123456789")))) (iV 0) (gG (var 0)) ["sign"] [] []))]
theorem zH:TT (eC K) (jM K) ["text"]:=by
 intro vs H Q E h;obtain ⟨z,rfl,hz,q⟩:=h;unfold jM;walk_at "";unfold fK at q;by_cases h0:z=ofString "0"
 ·rw[if_pos h0] at q;rw[decide_eq_true h0];refine dE ?_;walk_at "";exact q H (aB.refl _)
 ·rw[if_neg h0] at q;rw[decide_eq_false h0];refine bS ?_;walk_at "";refine cD (small (by lia)) ?_;walk_at "";refine eQ (λh1=>?_) λh1=>?_
  ·rw[if_pos (.inl (by lia))] at q;refine dE ?_;walk_at "";exact q H (aB.refl _)
  ·walk_at "";refine cD (small (by lia)) ?_;walk_at "";refine eQ (λh2=>?_) λh2=>?_
   ·rw[if_pos (.inr (.inl (by lia)))] at q;refine dE ?_;walk_at "";exact q H (aB.refl _)
   ·walk_at "";cases h3:startswith z (ofString "0") with
    |true=>
     rw[if_pos (.inr (.inr h3))] at q;refine dE ?_;walk_at "";exact q H (aB.refl _)
    |false=>
     rw[if_neg (by rw[h3];intro k;rcases k with k|k|k<;>first|lia|cases k)] at q;refine bS ?_;walk_at "";intro D nD;refine mR (λc=>V.bl (WU c)) nD (small (by lia)) (λi c H1 Q' hc s1 fin=>?_) λH1 s1 hO=>?_
     ·walk_at "";exact fin H1 (aB.refl _)
     ·refine ⟨D,(ls z).map WU,rfl,?_,?_⟩
      ·rw[hO,map_map];rfl
      ·rw[all_map];exact q H1 s1
def kJ (z:Str) (n:Int):Bool:=fK z&&match PySem.intText? z with
 |some i=>decide (1<=i)&&decide (i<=n)
 |none=>false
def cW (K:Fg):Sp:=λvs H Q _=>∃(z:Str) (n:Int),vs=[.str z,.int n]/\z.length<=100000/\(fK z=true->∃i,PySem.intText? z=some i)/\∀H',aB H H'->Q (.bl (kJ z n)) H'
def jL (K:Fg):List (SX K):=
 [ret (jO (call "is_number" (eC K) [var 0]) [XC .LtE .LtE (cst (.int 1)) (AS (var 0)) (var 1)])]
theorem xE {z:Str} (h:fK z=true):z.length<=30:=by
 unfold fK at h;by_cases h0:z=ofString "0"
 ·rw[h0];decide+kernel
 ·rw[if_neg h0] at h;by_cases h1:z.length<1\/30<z.length\/startswith z (ofString "0")=true
  ·rw[if_pos h1] at h;cases h
  ·lia
theorem zG:TT (cW K) (jL K) ["text","most"]:=by
 intro vs H Q E h;obtain ⟨z,n,rfl,hz,hi,q⟩:=h;unfold kJ at q;unfold jL;walk_at "";refine ⟨z,rfl,hz,λH1 s1=>?_⟩;walk_at "";cases hb:fK z with
 |false=>
  rw[hb] at q;refine bS ?_;exact q H1 s1
 |true=>
  obtain ⟨i,ei⟩:=hi hb;rw[hb,ei] at q;refine dE ?_;walk_at "";refine gR ?_;walk_at "";refine gS ei (by have:=xE hb;lia) ?_;walk_at "";have q':∀H',aB H H'->Q (.bl (decide (1<=i)&&decide (i<=n))) H':=q;refine eQ (λh1=>?_) λh1=>?_
  ·rw[decide_eq_true h1,Bool.true_and] at q';walk_at "";exact q' H1 s1
  ·rw[decide_eq_false h1,Bool.false_and] at q';exact q' H1 s1
def pX (z:Str) (n:Int):Bool:=(decide (1<=(z.length:Int))&&decide ((z.length:Int)<=n))&&decide (oW 4 z)
def cG (K:Fg):Sp:=λvs H Q _=>∃(z:Str) (n:Int),vs=[.str z,.int n]/\z.length<=100000/\∀H',aB H H'->Q (.bl (pX z n)) H'
def dW (K:Fg):List (SX K):=
 [ret (jO (XC .LtE .LtE (cst (.int 1)) (len (var 0)) (var 1)) [call "is_word" (kO K) [var 0,oQ "ALL_LETTERS" ((.int 4))]])]
theorem pC:TT (cG K) (dW K) ["text","most"]:=by
 intro vs H Q E h;obtain ⟨z,n,rfl,hz,q⟩:=h;unfold pX at q;unfold dW;walk_at "";refine cD (small (by lia)) ?_;walk_at "";refine eQ (λh1=>?_) λh1=>?_
 ·walk_at "";rw[decide_eq_true h1,Bool.true_and] at q;refine eQ (λh2=>?_) λh2=>?_
  ·rw[decide_eq_true h2,Bool.true_and] at q;walk_at "";exact ⟨.str z,4,rfl,by decide,by decide,.inl ⟨z,rfl,hz,λH1 s1=>q H1 s1⟩⟩
  ·rw[decide_eq_false h2,Bool.false_and] at q;rw[decide_eq_false h2];exact q H (aB.refl _)
 ·rw[decide_eq_false h1,Bool.false_and,Bool.false_and] at q;refine bS ?_;exact q H (aB.refl _)
theorem YV {H:Hp} {QB:Bool->Hp->Prop} {p:Addr} {x:V} {xs:List V} (c:bX K H p xs) (f1:eP x=true) (f2:xs.all eP=true) (h:QB (BY x xs) H):rB (dF K .In) x (.ref p) H QB:=⟨p,xs,rfl,.inr c,f1,f2,h⟩
theorem Mb {H:Hp} {Q:VK} {p:Addr} {x:V} {xs:List V} (c:bX K H p xs) (f1:eP x=true) (f2:xs.all eP=true) (h:Q (.bl (BY x xs)) H):dF K .In x (.ref p) H Q:=⟨p,xs,rfl,.inr c,f1,f2,h⟩
def Nt (z:Str):Prop:=z.length<=100000/\(fK z=true->∃i,PySem.intText? z=some i)
theorem pH {z:Str} {n:Int} (h:kJ z n=true):fK z=true:=by
 unfold kJ at h;rw[and_eq_true] at h;exact h.1
def Dl:List V:=[.str (ofString "from"),.str (ofString "above")]
def VH (x y z:Str):Bool:=if kJ x 100=true/\kJ y 100=true then (match PySem.intText? y,PySem.intText? x with
 |some b,some a=>decide (b<a)
 |_,_=>false)&&BY (.str z) Dl else false
def oJ (K:Fg):Sp:=λvs H Q _=>∃(p:Addr) (x y z:Str),vs=[.ref p]/\H p=some (.lst [.str x,.str y,.str z])/\Nt x/\Nt y/\∀H',aB H H'->Q (.bl (VH x y z)) H'
def ZN (K:Fg):List (SX K):=[ret (jO (cmp .Lt (AS (ix (var 0) (cst (.int 1)))) (AS (ix (var 0) (cst (.int 0))))) [cmp .In (ix (var 0) (cst (.int 2))) (tup [cst (.str "from"),cst (.str "above")])])]
def lD (K:Fg):List (SX K):=
 cK (NH (cI (call "is_within" (cW K) [ix (var 0) (cst (.int 0)),oQ "MOST_TOP" ((.int 100))])) [cI (call "is_within" (cW K) [ix (var 0) (cst (.int 1)),oQ "MOST_TOP" ((.int 100))])]) [ret (cst (.bl false))] []::ZN K
theorem CN:TT (oJ K) (lD K) ["words"]:=by
 intro vs H Q E h;obtain ⟨p,x,y,z,rfl,hp,nx,ny,q⟩:=h;unfold VH at q;unfold lD;walk_at "";refine aJ (v:=.str x) (aH.of hp) rfl ?_;walk_at "";refine ⟨x,100,rfl,nx.1,nx.2,λH1 s1=>?_⟩;have hp1:=s1 _ _ hp;walk_at "";cases hx:kJ x 100 with
 |false=>
  rw[hx,if_neg (λk=>Bool.false_ne_true k.1)] at q;refine dE ?_;refine dE ?_;walk_at "";exact q H1 s1
 |true=>
  refine bS ?_;walk_at "";refine aJ (v:=.str y) (aH.of hp1) rfl ?_;walk_at "";refine ⟨y,100,rfl,ny.1,ny.2,λH2 s2=>?_⟩;have hp2:=s2 _ _ hp1;walk_at "";cases hy:kJ y 100 with
  |false=>
   rw[hy,if_neg (λk=>Bool.false_ne_true k.2)] at q;refine dE ?_;walk_at "";exact q H2 (s1.trans s2)
  |true=>
   obtain ⟨a,ea⟩:=nx.2 (pH hx);obtain ⟨b,eb⟩:=ny.2 (pH hy);rw[hx,hy,if_pos ⟨rfl,rfl⟩,ea,eb] at q;have q:∀H',aB H H'->Q (.bl (decide (b<a)&&BY (.str z) Dl)) H':=q;refine bS ?_;walk_at "";unfold ZN;walk_at "";refine gR ?_;walk_at "";refine aJ (v:=.str y) (aH.of hp2) rfl ?_;refine gS eb (by have:=xE (pH hy);lia) ?_;walk_at "";refine gR ?_;walk_at "";refine aJ (v:=.str x) (aH.of hp2) rfl ?_;refine gS ea (by have:=xE (pH hx);lia) ?_;walk_at "";refine eQ (λh1=>?_) λh1=>?_
   ·rw[decide_eq_true h1,Bool.true_and] at q;walk_at "";refine aJ (v:=.str z) (aH.of hp2) rfl ?_;walk_at "";refine ⟨by show 2<=sizeLine;decide,λt nt=>?_⟩;refine Mb (xs:=Dl) (bX.of aA) rfl rfl ?_;exact q _ ((s1.trans s2).trans (aC nt _))
   ·rw[decide_eq_false h1,Bool.false_and] at q;rw[decide_eq_false h1];exact q H2 (s1.trans s2)
def Oj:List V:=[.str (ofString "mixes"),.str (ofString "keeps"),.str (ofString "shares")]
def lcs:List V:=[.str (ofString "letter"),.str (ofString "counts")]
def m4:List Str->Bool
 |[a,b,c,d]=>pX a 300&&VH b c d
 |_=>false
def m2:List Str->Bool
 |[a,b]=>fK a&&kJ b 200
 |_=>false
def Pg (z:Str):List Str->Bool
 |[a]=>if z=ofString "start" then pX a 1 else if BY (.str z) lcs=true then fK a else if z=ofString "pieces" then kJ a 20 else decide (z=ofString "again")&&pX a 12
 |_=>false
def Ha (z:Str) (rs:List Str):Bool:=if z=ofString "repeat" then m4 rs else Pg z rs
def Bg (z:Str) (rs:List Str):Bool:=if z=ofString "stretch" then m2 rs else Ha z rs
def kT (z:Str) (rs:List Str):Bool:=if BY (.str z) Oj=true then decide (rs.length=0) else Bg z rs
theorem Kp {rs:List Str} (h:¬rs.length=4):m4 rs=false:=by
 match rs,h with
 |[],_=>rfl
 |[_],_=>rfl
 |[_,_],_=>rfl
 |[_,_,_],_=>rfl
 |[_,_,_,_],h=>exact absurd rfl h
 |_::_::_::_::_::_,_=>rfl
theorem Kq {rs:List Str} (h:¬rs.length=2):m2 rs=false:=by
 match rs,h with
 |[],_=>rfl
 |[_],_=>rfl
 |[_,_],h=>exact absurd rfl h
 |_::_::_::_,_=>rfl
def uP (K:Fg):Sp:=λvs H Q _=>∃(z:Str) (p:Addr) (rs:List Str),vs=[.str z,.ref p]/\H p=some (.lst (rs.map V.str))/\(∀a∈rs,Nt a)/\∀H',aB H H'->Q (.bl (kT z rs)) H'
def RN (K:Fg):List (SX K):=
 cK (cmp .NotEq (len (var 1)) (cst (.int 1))) [ret (cst (.bl false))] []::
  cK (cmp .Eq (var 0) (cst (.str "start"))) [ret (call "is_word_up_to" (cG K) [ix (var 1) (cst (.int 0)),cst (.int 1)])] []::
  cK (cmp .In (var 0) (tup [cst (.str "letter"),cst (.str "counts")])) [ret (call "is_number" (eC K) [ix (var 1) (cst (.int 0))])] []::
  cK (cmp .Eq (var 0) (cst (.str "pieces"))) [ret (call "is_within" (cW K) [ix (var 1) (cst (.int 0)),oQ "MOST_LENGTH" ((.int 20))])] []::
  [ret (jO (cmp .Eq (var 0) (cst (.str "again"))) [call "is_word_up_to" (cG K) [ix (var 1) (cst (.int 0)),oQ "MOST_SIGNS_OF_PIECE" ((.int 12))]])]
def RO (K:Fg):List (SX K):=
 cK (cmp .Eq (var 0) (cst (.str "repeat"))) [ret (jO (cmp .Eq (len (var 1)) (cst (.int 4))) [call "is_word_up_to" (cG K) [ix (var 1) (cst (.int 0)),oQ "MOST_SIGNS_OF_WORD" ((.int 300))],call "is_limit" (oJ K) [CU (var 1) (some (cst (.int 1))) none]])] []::RN K
def RP (K:Fg):List (SX K):=
 cK (cmp .Eq (var 0) (cst (.str "stretch"))) [ret (jO (cmp .Eq (len (var 1)) (cst (.int 2))) [call "is_number" (eC K) [ix (var 1) (cst (.int 0))],call "is_within" (cW K) [ix (var 1) (cst (.int 1)),oQ "MOST_SIGNS_TOLD" ((.int 200))]])] []::RO K
def mV (K:Fg):List (SX K):=
 cK (cmp .In (var 0) (tup [cst (.str "mixes"),cst (.str "keeps"),cst (.str "shares")])) [ret (cmp .Eq (len (var 1)) (cst (.int 0)))] []::RP K
section
variable {Q:VK} {E:XK} {H:Hp} {z:Str} {p:Addr} {rs:List Str}
theorem Ia (hp:H p=some (.lst (rs.map V.str))) (hn:∀a∈rs,Nt a) (q:∀H',aB H H'->Q (.bl (Pg z rs)) H'):eI (RN K) (λ_=>E) {nx:=λ_ H'=>Q .non H',rt:=Q} [some (.str z),some (.ref p)] H:=by
 unfold RN;walk_at "";refine eO (aH.of hp) ?_;walk_at ""
 match rs,hp,hn,q with
 |[],hp,hn,q=>
  rw[decide_eq_false (by decide)];refine dE ?_;walk_at "";exact q H (aB.refl _)
 |a::b::rs,hp,hn,q=>
  rw[decide_eq_false (by rw[map_cons,map_cons,length_cons,length_cons];lia)];refine dE ?_;walk_at "";exact q H (aB.refl _)
 |[a],hp,hn,q=>
  obtain ⟨n1,n2⟩:=hn a mem_cons_self;have q:∀H',aB H H'->Q (.bl (if z=ofString "start" then pX a 1 else if BY (.str z) lcs=true then fK a else if z=ofString "pieces" then kJ a 20 else decide (z=ofString "again")&&pX a 12)) H':=q;rw[decide_eq_true (by rfl)];refine bS ?_;walk_at "";by_cases h1:z=ofString "start"
  ·rw[if_pos h1] at q;rw[decide_eq_true h1];refine dE ?_;walk_at "";refine aJ (v:=.str a) (aH.of hp) rfl ?_;walk_at "";exact ⟨a,1,rfl,n1,q⟩
  ·rw[if_neg h1] at q;rw[decide_eq_false h1];refine bS ?_;walk_at "";refine ⟨by show 2<=sizeLine;decide,λt nt=>?_⟩;have s1:=aC nt (.tup lcs);refine YV (xs:=lcs) (bX.of aA) rfl rfl ?_;have hp1:=s1 _ _ hp;cases h2:BY (.str z) lcs with
   |true=>
    rw[if_pos h2] at q;refine dE ?_;walk_at "";refine aJ (v:=.str a) (aH.of hp1) rfl ?_;walk_at "";exact ⟨a,rfl,n1,λH' e=>q H' (s1.trans e)⟩
   |false=>
    rw[h2,if_neg Bool.false_ne_true] at q;refine bS ?_;walk_at "";by_cases h3:z=ofString "pieces"
    ·rw[if_pos h3] at q;rw[decide_eq_true h3];refine dE ?_;walk_at "";refine aJ (v:=.str a) (aH.of hp1) rfl ?_;walk_at "";exact ⟨a,20,rfl,n1,n2,λH' e=>q H' (s1.trans e)⟩
    ·rw[if_neg h3] at q;rw[decide_eq_false h3];refine bS ?_;walk_at "";by_cases h4:z=ofString "again"
     ·rw[decide_eq_true h4,Bool.true_and] at q;rw[decide_eq_true h4];refine dE ?_;walk_at "";refine aJ (v:=.str a) (aH.of hp1) rfl ?_;walk_at "";exact ⟨a,12,rfl,n1,λH' e=>q H' (s1.trans e)⟩
     ·rw[decide_eq_false h4,Bool.false_and] at q;rw[decide_eq_false h4];refine bS ?_;exact q _ s1
theorem Ib (hp:H p=some (.lst (rs.map V.str))) (hn:∀a∈rs,Nt a) (q:∀H',aB H H'->Q (.bl (Ha z rs)) H'):eI (RO K) (λ_=>E) {nx:=λ_ H'=>Q .non H',rt:=Q} [some (.str z),some (.ref p)] H:=by
 unfold RO;walk_at "";by_cases h1:z=ofString "repeat"
 ·unfold Ha at q;rw[if_pos h1] at q;rw[decide_eq_true h1];refine dE ?_;walk_at "";refine eO (aH.of hp) ?_;walk_at "";by_cases h2:rs.length=4
  ·match rs,hp,hn,q,h2 with
   |[a,b,c,d],hp,hn,q,_=>
    have q:∀H',aB H H'->Q (.bl (pX a 300&&VH b c d)) H':=q;rw[decide_eq_true (by rfl)];refine dE ?_;walk_at "";refine aJ (v:=.str a) (aH.of hp) rfl ?_;walk_at "";refine ⟨a,300,rfl,(hn a (by simp)).1,λH1 e1=>?_⟩;cases h3:pX a 300 with
    |true=>
     rw[h3,Bool.true_and] at q;refine dE ?_;walk_at "";refine OV (aH.of (e1 _ _ hp)) λl hl=>?_;walk_at "";have s1:=aC hl (.lst (nV ([a,b,c,d].map V.str) (some 1) none));exact ⟨l,b,c,d,rfl,aA,hn b (by simp),hn c (by simp),λH' e=>q H' ((e1.trans s1).trans e)⟩
    |false=>
     rw[h3,Bool.false_and] at q;refine bS ?_;exact q _ e1
  ·rw[decide_eq_false (by rw[length_map];lia)];refine bS ?_;rw[Kp h2] at q;exact q H (aB.refl _)
 ·unfold Ha at q;rw[if_neg h1] at q;rw[decide_eq_false h1];refine bS ?_;exact Ia hp hn q
theorem Ic (hp:H p=some (.lst (rs.map V.str))) (hn:∀a∈rs,Nt a) (q:∀H',aB H H'->Q (.bl (Bg z rs)) H'):eI (RP K) (λ_=>E) {nx:=λ_ H'=>Q .non H',rt:=Q} [some (.str z),some (.ref p)] H:=by
 unfold RP;walk_at "";by_cases h1:z=ofString "stretch"
 ·unfold Bg at q;rw[if_pos h1] at q;rw[decide_eq_true h1];refine dE ?_;walk_at "";refine eO (aH.of hp) ?_;walk_at "";by_cases h2:rs.length=2
  ·match rs,hp,hn,q,h2 with
   |[a,b],hp,hn,q,_=>
    have q:∀H',aB H H'->Q (.bl (fK a&&kJ b 200)) H':=q;rw[decide_eq_true (by rfl)];refine dE ?_;walk_at "";refine aJ (v:=.str a) (aH.of hp) rfl ?_;walk_at "";refine ⟨a,rfl,(hn a (by simp)).1,λH1 e1=>?_⟩;cases h3:fK a with
    |true=>
     rw[h3,Bool.true_and] at q;refine dE ?_;walk_at "";refine aJ (v:=.str b) (aH.of (e1 _ _ hp)) rfl ?_;walk_at "";exact ⟨b,200,rfl,(hn b (by simp)).1,(hn b (by simp)).2,λH' e=>q H' (e1.trans e)⟩
    |false=>
     rw[h3,Bool.false_and] at q;refine bS ?_;exact q _ e1
  ·rw[decide_eq_false (by rw[length_map];lia)];refine bS ?_;rw[Kq h2] at q;exact q H (aB.refl _)
 ·unfold Bg at q;rw[if_neg h1] at q;rw[decide_eq_false h1];refine bS ?_;exact Ib hp hn q
end
theorem LS:TT (uP K) (mV K) ["name","rest"]:=by
 intro vs H Q E h;obtain ⟨z,p,rs,rfl,hp,hn,q⟩:=h;show eI (mV K) (λ_=>E) {nx:=λ_ H'=>Q .non H',rt:=Q} [some (.str z),some (.ref p)] H;unfold kT at q;unfold mV;walk_at "";refine ⟨by show 3<=sizeLine;decide,λt nt=>?_⟩;have s1:=aC nt (.tup Oj);refine YV (xs:=Oj) (bX.of aA) rfl rfl ?_;have hp1:=s1 _ _ hp;cases h2:BY (.str z) Oj with
 |true=>
  rw[if_pos h2] at q;refine dE ?_;walk_at "";refine eO (aH.of hp1) ?_;walk_at "";have e:decide ((((rs.map V.str).length:Nat):Int)=0)=decide (rs.length=0):=by
   rw[length_map];exact decide_eq_decide.mpr (by lia)
  exact e▸q _ s1
 |false=>
  rw[h2,if_neg Bool.false_ne_true] at q;refine bS ?_;exact Ic hp1 hn λH' e=>q H' (s1.trans e)
abbrev NR (K:Fg) (E:XK) (H:Hp):Prop:=∀H',aB H H'->E (.ref (clsAt K "NoRow")) none H'
def bU (K:Fg):Sp:=λvs H Q E=>∃x,vs=[x]/\((∃z:Str,x=.str z/\z.length<=100000/\
  ((startswith z (ofString "rule ")=true/\∀p H',aB H H'->H' p=some (.lst [.str (ofString "rule"),.str (Txt.slice z (some 5) none)])->Q (.ref p) H')\/
   (startswith z (ofString "rule ")=false/\∃w rs,Txt.split z (ofString " ")=w::rs/\(∀a∈rs,Nt a)/\
    ((kT w rs=true/\∀p H',aB H H'->H' p=some (.lst ((w::rs).map V.str))->Q (.ref p) H')\/(kT w rs=false/\NR K E H)))))\/
 (oU K "str" H x/\NR K E H))
def RG (K:Fg):List (SX K):=
 [set 1 (m_split (var 0) (cst (.str " "))),
  cK (cI (call "is_row" (uP K) [ix (var 1) (cst (.int 0)),CU (var 1) (some (cst (.int 1))) none])) [raiseO "NoRow" (cst (.str "this is no row")) []] [],
  ret (var 1)]
def cY (K:Fg):List (SX K):=
 cK (cI (OO (var 0) uI)) [raiseO "NoRow" (cst (.str "a row is a text")) []] []::
  cK (m_startswith (var 0) (oQ "RULE_AHEAD" ((.str "rule ")))) [ret (lst [cst (.str "rule"),CU (var 0) (some (len (oQ "RULE_AHEAD" ((.str "rule "))))) none])] []::RG K
theorem Hs {Q:VK} {E:XK} {H:Hp} {z w:Str} {rs:List Str} (hz:z.length<=100000) (e:Txt.split z (ofString " ")=w::rs) (hn:∀a∈rs,Nt a)
  (h:(kT w rs=true/\∀p H',aB H H'->H' p=some (.lst ((w::rs).map V.str))->Q (.ref p) H')\/(kT w rs=false/\NR K E H)):eI (RG K) (λ_=>E) {nx:=λ_ H'=>Q .non H',rt:=Q} [some (.str z),none] H:=by
 unfold RG;walk_at "";refine FY ?_;walk_at "";refine AX (by decide+kernel) (small (by lia)) λp np=>?_;rw[e];have s1:=aC np (.lst ((w::rs).map V.str));walk_at "";refine aJ (v:=.str w) (aH.of aA) (bI (xs:=(w::rs).map V.str) (j:=0) rfl) ?_;walk_at "";refine OV (aH.of aA) λl nl=>?_;have e2:nV ((w::rs).map V.str) (some 1) none=rs.map V.str:=QN (k:=1) (by rw[length_map,length_cons];lia);rw[e2];have s2:=s1.trans (aC nl (.lst (rs.map V.str)));have hp2:=(aC nl (.lst (rs.map V.str))) p _ aA;walk_at "";refine ⟨w,l,rs,rfl,aA,hn,λH3 s3=>?_⟩;walk_at "";rcases h with ⟨e,q⟩|⟨e,q⟩
 ·rw[e];walk_at "";refine bS ?_;walk_at "";exact q p H3 (s2.trans s3) (s3 _ _ hp2)
 ·rw[e];walk_at "";refine dE ?_;refine kH ?_;refine cC ?_;walk_at "";exact ⟨by show 1<=sizeLine;decide,q H3 (s2.trans s3)⟩
theorem qB:TT (bU K) (cY K) ["row","words"]:=by
 intro vs H Q E h;obtain ⟨x,rfl,h⟩:=h;show eI (cY K) (λ_=>E) {nx:=λ_ H'=>Q .non H',rt:=Q} [some x,none] H;unfold cY;walk_at "";rcases h with ⟨z,rfl,hz,h⟩|⟨⟨t,h1,h2⟩,q⟩
 ·refine ⟨_,_,cE.str _,JA,?_⟩;walk_at "";refine bS ?_;walk_at "";rcases h with ⟨e,q⟩|⟨e,w,rs,e2,hn,h⟩
  ·rw[e];refine dE ?_;walk_at "";refine cD (by show 5<=sizeLine;decide) ?_;walk_at "";refine iZ (small (by lia)) ?_;walk_at "";refine ⟨by show 2<=sizeLine;decide,λp np=>?_⟩;exact q p _ (aC np _) aA
  ·rw[e];refine bS ?_;exact Hs hz e2 hn h
 ·refine ⟨t,_,h1,h2,?_⟩;walk_at "";refine dE ?_;refine kH ?_;refine cC ?_;walk_at "";exact ⟨by show 1<=sizeLine;decide,q H (aB.refl _)⟩
def tx (i:Int):Str:=ofString (toString i)
def Rh:V->V
 | .int i=>.str (tx i)
 |v=>v
def fB (K:Fg):Sp:=λvs H Q _=>∃(p:Addr) (ns:List Int),vs=[.ref p]/\H p=some (.tup (ns.map V.int))/\ns.length<=1000/\(∀n∈ns,n.natAbs.log2<1920)/\((ns.map tx).map (·.length)).sum<=1000000/\∀H',aB H H'->Q (.str (Txt.join (ofString " ") (ns.map tx))) H'
def lE (K:Fg):List (SX K):=
 [ret (rL (cst (.str " ")) (comp (HM (var 0)) (iV 0) (gG (var 0)) ["each"] [] []))]
theorem CO:TT (fB K) (lE K) ["told"]:=by
 intro vs H Q E h;obtain ⟨p,ns,rfl,hp,hl,hn,hs,q⟩:=h;unfold lE;walk_at "";refine GB (bX.of hp) ?_;intro D hD;refine sU Rh (bX.of hp) hD (small (by rw[length_map];lia)) (λi x H3 Q' hx s3 fin=>?_) λH3 s3 hO=>?_
 ·obtain ⟨n,hm,rfl⟩:=mem_map.mp (mem_of_getElem? hx);walk_at "";refine rW ?_;walk_at "";refine rX (hn n hm) ?_;exact fin H3 (aB.refl _)
 ·have e:(ns.map V.int).map Rh=(ns.map tx).map V.str:=by
   rw[map_map,map_map];rfl
  rw[e] at hO;refine ⟨ns.map tx,.inl hO,?_,q H3 s3⟩;have e1:(ofString " ").length=1:=by decide+kernel
  have e2:(ns.map tx).length=ns.length:=length_map _;show _+_ * (ofString " ").length<=_;rw[e1,e2];lia
def Uw (r s:V):List (Str × V):=[("rule",r),("start",s)]
structure KD (K:Fg):Prop where
 cl:yS K (clsAt K "Desk")
 n1:eB K (clsAt K "Desk") "rule"
 n2:eB K (clsAt K "Desk") "start"
abbrev Dk (K:Fg) (dx:Addr) (r s:V):HO:=.ins (clsAt K "Desk") dx (Uw r s)
section
variable {H:Hp} {Q:VK} {QH:Hp->Prop} {x dx:Addr} {r s v:V}
theorem xV (kd:KD K) (h:H x=some (Dk K dx r s)) (q:Q r H):Bo K "rule" (.ref x) H Q:=⟨x,_,dx,_,_,rfl,h,kd.cl,kd.n1,rfl,q⟩
theorem GD (kd:KD K) (h:H x=some (Dk K dx r s)) (q:Q s H):Bo K "start" (.ref x) H Q:=⟨x,_,dx,_,_,rfl,h,kd.cl,kd.n2,rfl,q⟩
theorem Co (kd:KD K) (h:H x=some (Dk K dx r s)) (q:QH (upd H x (Dk K dx v s))):MS K "rule" v (.ref x) H QH:=⟨x,_,dx,_,rfl,h,kd.cl,kd.n1,(by show 2<1000;decide),q⟩
theorem FG (kd:KD K) (h:H x=some (Dk K dx r s)) (q:QH (upd H x (Dk K dx r v))):MS K "start" v (.ref x) H QH:=⟨x,_,dx,_,rfl,h,kd.cl,kd.n2,(by show 2<1000;decide),q⟩
end
def pM (K:Fg):Sp:=λvs H Q _=>∃x dx:Addr,vs=[.ref x]/\KD K/\H x=some (.ins (clsAt K "Desk") dx [])/\Q .non (upd H x (Dk K dx .non .non))
def yJ (K:Fg):List (SX K):=[HR (var 0) "rule" (cst .non),HR (var 0) "start" (cst .non)]
theorem Dn:∀vs H Q E,pM K vs H Q E->vs.length=1:=by
 rintro vs H Q E ⟨_,_,rfl,_⟩;rfl
theorem Aj:TT (pM K) (yJ K) ["self"]:=by
 intro vs H Q E h;obtain ⟨x,dx,rfl,kd,hx,q⟩:=h;unfold yJ;walk_at "";refine rY ?_;walk_at "";refine ⟨x,_,dx,_,rfl,hx,kd.cl,kd.n1,(by show 0<1000;decide),?_⟩;walk_at "";refine rY ?_;walk_at "";refine ⟨x,_,dx,_,rfl,aA,kd.cl,kd.n2,(by show 1<1000;decide),?_⟩;rw[EL];exact q
def cV (K:Fg):Sp:=λvs H Q E=>∃(x:Addr) (v:V),vs=[.ref x,v]/\KD K/\K05.cU K [v] H (λu H1=>∃dx r s,H1 x=some (Dk K dx r s)/\Q (.str (ofString "ok")) (upd H1 x (Dk K dx u .non))) E
def fD (K:Fg):List (SX K):=[HR (var 0) "rule" (call "read_rule" (K05.cU K) [var 1]),HR (var 0) "start" (cst .non),ret (cst (.str "ok"))]
theorem AR:∀vs H Q E,cV K vs H Q E->vs.length=2:=by
 rintro vs H Q E ⟨_,_,rfl,_⟩;rfl
theorem IC {vs:List V} {H:Hp} {Q Q':VK} {E:XK} (q:∀v H1,Q v H1->Q' v H1) (h:K05.cU K vs H Q E):K05.cU K vs H Q' E:=by
 obtain ⟨x,e,h⟩:=h;refine ⟨x,e,?_⟩;rcases h with ⟨us,e1,hw,h⟩|h
 ·refine .inl ⟨us,e1,hw,?_⟩;rcases h with ⟨e2,h⟩|h
  ·exact .inl ⟨e2,λp H' s1 hp=>q _ _ (h p H' s1 hp)⟩
  ·exact .inr h
 ·exact .inr h
theorem zF:TT (cV K) (fD K) ["self","text"]:=by
 intro vs H Q E h;obtain ⟨x,v,rfl,kd,h⟩:=h;unfold fD;walk_at "";refine rY ?_;walk_at "";refine IC (λu H1 h1=>?_) h;obtain ⟨dx,r,s,hx,q⟩:=h1;walk_at "";refine Co kd hx ?_;walk_at "";refine rY ?_;walk_at "";refine FG kd aA ?_;rw[EL];walk_at "";exact q
def bW (K:Fg):Sp:=λvs H Q E=>∃(x dx a:Addr) (ws:List Str) (s:V) (c:Nat),vs=[.ref x,sgn c]/\KD K/\H x=some (Dk K dx (.ref a) s)/\iC K H a ws/\(∀w∈ws,1<=w.length/\w.length<=100)/\97<=c/\
 ((aQ ws c=true/\∀H',aB H H'->Q (.str (ofString "ok")) (upd H' x (Dk K dx (.ref a) (sgn c))))\/(aQ ws c=false/\∀H',aB H H'->E (.ref (clsAt K "NoStart")) none H'))
def eF (K:Fg):List (SX K):=[cK (cI (call "grows" (lW K) [fld (var 0) "rule",var 1])) [raiseO "NoStart" (cst (.str "the rule doesn't grow from this letter")) []] [],HR (var 0) "start" (var 1),ret (cst (.str "ok"))]
theorem xN:∀vs H Q E,bW K vs H Q E->vs.length=2:=by
 rintro vs H Q E ⟨_,_,_,_,_,_,rfl,_⟩;rfl
theorem wI:TT (bW K) (eF K) ["self","letter"]:=by
 intro vs H Q E h;obtain ⟨x,dx,a,ws,s,c,rfl,kd,hx,hR,hw,hc,h⟩:=h;unfold eF;walk_at "";refine vF ?_;walk_at "";refine xV kd hx ?_;walk_at "";refine ⟨a,ws,c,rfl,hR,hw,hc,λH1 s1=>?_⟩;walk_at "";rcases h with ⟨e,q⟩|⟨e,q⟩
 ·rw[e];walk_at "";refine bS ?_;walk_at "";refine rY ?_;walk_at "";refine FG kd (s1 _ _ hx) ?_;walk_at "";exact q H1 s1
 ·rw[e];walk_at "";refine dE ?_;refine kH ?_;refine cC ?_;walk_at "";exact ⟨by show 1<=sizeLine;decide,q H1 s1⟩
open L2.Na.Pr L2.Na.K41 L2.Na.K44
def iP (K:Fg):Sp:=λvs H _ E=>∃(a:Addr) (ws:List Str) (c:Nat) (z:Str),vs=[.ref a,sgn c,.str z]/\iC K H a ws/\Ru ws/\97<=c/\1<=z.length/\z.length<=300/\aQ ws c=true/\c - 97<ws.length/\
 ((KN ws=false/\Exc K "NotMixed" H E)\/(KN ws=true/\z.length=1/\(mX ws c z.length).length<=300/\ls z∉iA (mX ws c z.length)/\Exc K "NoPiece" H E))
def lF (K:Fg):List (SX K):=
 cK (cI (call "grows" (lW K) [var 0,var 1])) [mG] []::
  cK (cI (call "mixes" (qQ K) [var 0])) [raiseO "NotMixed" (cst (.str "the rule doesn't mix")) []] []::
  set 3 (YR (call "counts_ahead" (hJ K) [var 0,var 1,len (var 2)]))::
  cK (cmp .NotIn (var 2) (var 3)) [raiseO "NoPiece" (cst (.str "the piece doesn't stand in the endless word")) []] []::[mG,mG,mG,mG,mG,mG]
theorem CP:TT (iP K) (lF K) ["rule","start","piece","alike","ahead","parts","sights","turns"]:=by
 intro vs H Q E h;obtain ⟨a,ws,c,z,rfl,hR,hU,hc1,z1,z2,hg,hc,h⟩:=h;unfold lF;walk_at "";refine ⟨a,ws,c,rfl,hR,λw hw=>⟨hU.one w hw,hU.le w hw⟩,hc1,λH1 s1=>?_⟩;walk_at "";rw[hg];refine bS ?_;walk_at "";refine ⟨a,ws,rfl,hR.same s1,hU,λH2 s2=>?_⟩;have s12:=s1.trans s2;walk_at "";rcases h with ⟨hm,q⟩|⟨hm,hl,hsm,hni,q⟩
 ·rw[hm];refine dE ?_;walk_at "";refine cC ?_;walk_at "";exact ⟨by show 1<=sizeLine;decide,q H2 s12⟩
 ·rw[hm];refine bS ?_;walk_at "";refine WH ?_;walk_at "";refine cD (small (by lia)) ?_;walk_at "";have pl:Pl K H2 a ws c 0:=⟨hR.same s12,hU,hc1,hc,hg,by decide,0,by decide,by rw[jR hc];decide⟩;refine ⟨a,ws,c,z.length,rfl,hl,pl,hsm,λd as H3 s3 nd nas hD=>?_⟩;refine OZ hD.d λl nl=>?_;rw[FQ hD.l];have s4:=aC nl (.lst ((iA (mX ws c z.length)).map λy=>V.str (aP y)));have hl4:(upd H3 l (.lst ((iA (mX ws c z.length)).map λy=>V.str (aP y)))) l=some (.lst ((iA (mX ws c z.length)).map λy=>V.str (aP y))):=aA;have s24:=(s12.trans s3).trans s4;revert hl4 s24;generalize upd H3 l (.lst ((iA (mX ws c z.length)).map λy=>V.str (aP y)))=H4;intro hl4 s24;walk_at "";refine WD (aH.of hl4) rfl (JK _) ?_;rw[FV,decide_eq_false hni];refine dE ?_;walk_at "";refine cC ?_;walk_at "";exact ⟨by show 1<=sizeLine;decide,q H4 s24⟩
def uO (K:Fg):Sp:=λvs H _ E=>∃(a:Addr) (ws:List Str),vs=[.ref a]/\iC K H a ws/\Ru ws/\K82.Hb ws=false/\Exc K "NoShares" H E
def tE (K:Fg):List (SX K):=
 [cK (NH (cI (call "of_one_size" (K82.iJ K) [var 0])) [Rp]) [raiseO "NoShares" (cst (.str "the rule doesn't mix, or has words of one sign or of unlike sizes")) []] [],mG,mG,mG,mG]
theorem LR:TT (uO K) (tE K) ["rule","lacks","weights","whole"]:=by
 intro vs H Q E h;obtain ⟨a,ws,rfl,hR,hU,ho,q⟩:=h;unfold tE;walk_at "";refine ⟨a,ws,rfl,hR,hU,λH1 s1=>?_⟩;walk_at "";rw[ho];refine dE ?_;refine dE ?_;walk_at "";refine cC ?_;walk_at "";exact ⟨by show 1<=sizeLine;decide,q H1 s1⟩
def Oy (b:Bool):V:=if b=true then .str (ofString "yes") else .str (ofString "no")
def bD (K:Fg):Sp:=λvs H Q E=>∃(a:Addr) (ws:List Str) (z:Str),vs=[.ref a,.str z]/\iC K H a ws/\Ru ws/\
 ((z=ofString "mixes"/\∀H',aB H H'->Q (Oy (KN ws)) H')\/(z=ofString "shares"/\K82.Hb ws=false/\K44.Exc K "NoShares" H E))
def eR (K:Fg):List (SX K):=
 [cK (cmp .Eq (var 1) (cst (.str "mixes"))) [ret (Lg (call "mixes" (qQ K) [var 0]) (cst (.str "yes")) (cst (.str "no")))] [],
  cK (cmp .Eq (var 1) (cst (.str "shares"))) [ret (rL (cst (.str " ")) (comp Rp (GZ [0,1]) (gG (call "shares" (uO K) [var 0])) ["top","bottom"] [] []))] [],mG,mG,mG]
theorem qD:TT (bD K) (eR K) ["rule","name","told"]:=by
 intro vs H Q E h;obtain ⟨a,ws,z,rfl,hR,hU,h⟩:=h;unfold eR;walk_at "";rcases h with ⟨rfl,q⟩|⟨rfl,ho,q⟩
 ·rw[decide_eq_true rfl];refine dE ?_;walk_at "";refine ⟨a,ws,rfl,hR,hU,λH1 s1=>?_⟩;walk_at "";have q:=q H1 s1;unfold Oy at q;cases hm:KN ws with
  |true=>
   rw[hm] at q;refine dE ?_;walk_at "";exact q
  |false=>
   rw[hm] at q;refine bS ?_;walk_at "";exact q
 ·rw[decide_eq_false (by decide+kernel)];refine bS ?_;walk_at "";rw[decide_eq_true rfl];refine dE ?_;walk_at "";exact ⟨a,ws,rfl,hR,hU,ho,q⟩
def lX (K:Fg):Sp:=λvs H _ E=>∃(a:Addr) (ws:List Str) (c:Nat) (n:Int),vs=[.ref a,sgn c,.int n]/\Gv K H a ws c n E
def jN (K:Fg):List (SX K):=
 [set 3 (call "words_by_letter" (aY K) [var 0]),
  set 4 (bin .Mult (lst [cst (.int 0)]) (len (var 0))),
  set 5 (OB (var 3) (var 1) (cst (.str ""))),
  kX (GZ [6,7]) (gG (call "figures" (Pr.cA K) [var 0,var 1,var 2])) [mG,mG],mG]
theorem zI:TT (lX K) (jN K) ["rule","start","n","word_for","made","word","step","letter"]:=by
 intro vs H Q E h;obtain ⟨a,ws,c,n,rfl,hb⟩:=h;obtain ⟨hR,hU,c1,hb⟩:=hb;have h4:=hR.four;have hlen:(ws.map V.str).length=ws.length:=length_map _;unfold jN;walk_at "";refine ⟨a,ws,rfl,hR,λd H1 hS1 _ hd=>?_⟩;have hR1:=hR.same hS1;walk_at "";refine ⟨by show 1<=sizeLine;decide,λl hl=>?_⟩;have s2:=aC hl (.lst [V.int 0]);have hq2:=aB.seqT s2 hR1.tp;walk_at "";refine AY (xs:=[V.int 0]) aA ⟨by omega,by omega⟩ (small (by show 1 * _<=_;omega)) λl2 hl2=>?_;have s3:=aC hl2 (.lst (replicate ((ws.map V.str).length:Int).toNat [V.int 0]).flatten);have hS03:=hS1.trans (s2.trans s3);have hd3:=hd.same (s2.trans s3);obtain ⟨kvs,hkv,_⟩:=id hd3;walk_at "";refine Mo hkv ?_;walk_at "";obtain ⟨o,ho⟩:∃o,fV _ d (sgn c) o:=by
  by_cases hl:c - 97<ws.length
  ·exact ⟨_,hd3.get c1 (getElem?_eq_getElem hl)⟩
  ·exact ⟨_,hd3.miss (by omega)⟩
 refine DP ho ?_;walk_at "";exact .inr ⟨a,ws,c,_,rfl,⟨hR.same hS03,hU,c1,hb.imp (λ⟨x,y⟩=>⟨x,λH' e=>y H' (hS03.trans e)⟩) λ⟨x,y,z,w⟩=>⟨x,y,z,w.same hS03⟩⟩⟩
def aL (K:Fg):Sp:=λvs H Q E=>∃(p:Addr) (x y:V) (us:List Str),vs=[x,y,.ref p]/\H p=some (.lst (us.map V.str))/\
 ((∃z,us=[ofString "again",z]/\iP K [x,y,.str z] H (λ_ _=>False) E)\/
  (∃t n,us=[ofString "letter",t]/\PySem.intText? t=some n/\t.length<=640/\K26.cF K [x,y,.int n] H Q E)\/
  (∃t u n m,us=[ofString "stretch",t,u]/\PySem.intText? t=some n/\t.length<=640/\PySem.intText? u=some m/\u.length<=640/\Pr.cL K [x,y,.int n,.int m] H Q E)\/
  (∃t n,∃(a:Addr) (ws:List Str) (c:Nat),us=[ofString "counts",t]/\PySem.intText? t=some n/\t.length<=640/\x=.ref a/\y=sgn c/\Gv K H a ws c n E))
def ZM (K:Fg):List (SX K):=
 [set 3 (AS (ix (var 2) (cst (.int 1)))),
  cK (cmp .Eq (ix (var 2) (cst (.int 0))) (cst (.str "letter"))) [ret (call "letter_at" (K26.cF K) [var 0,var 1,var 3])] [],
  cK (cmp .Eq (ix (var 2) (cst (.int 0))) (cst (.str "stretch"))) [ret (call "stretch_at" (Pr.cL K) [var 0,var 1,var 3,AS (ix (var 2) (cst (.int 2)))])] [],
  cK (cmp .Eq (ix (var 2) (cst (.int 0))) (cst (.str "counts"))) [ret (call "in_a_row" (fB K) [call "counts_to" (lX K) [var 0,var 1,var 3]])] [],mG]
def bQ (K:Fg):List (SX K):=
 cK (cmp .Eq (ix (var 2) (cst (.int 0))) (cst (.str "again"))) [ret (call "in_a_row" (fB K) [call "distance" (iP K) [var 0,var 1,ix (var 2) (cst (.int 1))]])] []::ZM K
theorem gJ:TT (aL K) (bQ K) ["rule","start","words","number"]:=by
 intro vs H Q E h;obtain ⟨p,x,y,us,rfl,hp,h⟩:=h;unfold bQ ZM;walk_at "";rcases h with ⟨z,rfl,h⟩|⟨t,n,rfl,e1,l1,h⟩|⟨t,u,n,m,rfl,e1,l1,e2,l2,h⟩|⟨t,n,a,ws,c,rfl,e1,l1,rfl,rfl,h⟩
 ·refine aJ (v:=.str (ofString "again")) (aH.of hp) rfl ?_;walk_at "";rw[decide_eq_true rfl];refine dE ?_;walk_at "";refine aJ (v:=.str z) (aH.of hp) rfl ?_;walk_at "";exact h
 ·refine aJ (v:=.str (ofString "letter")) (aH.of hp) rfl ?_;walk_at "";rw[decide_eq_false (by decide+kernel)];refine bS ?_;walk_at "";refine gR ?_;walk_at "";refine aJ (v:=.str t) (aH.of hp) rfl ?_;refine gS e1 l1 ?_;walk_at "";refine aJ (v:=.str (ofString "letter")) (aH.of hp) rfl ?_;walk_at "";rw[decide_eq_true rfl];refine dE ?_;walk_at "";exact h
 ·refine aJ (v:=.str (ofString "stretch")) (aH.of hp) rfl ?_;walk_at "";rw[decide_eq_false (by decide+kernel)];refine bS ?_;walk_at "";refine gR ?_;walk_at "";refine aJ (v:=.str t) (aH.of hp) rfl ?_;refine gS e1 l1 ?_;walk_at "";refine aJ (v:=.str (ofString "stretch")) (aH.of hp) rfl ?_;walk_at "";rw[decide_eq_false (by decide+kernel)];refine bS ?_;walk_at "";refine aJ (v:=.str (ofString "stretch")) (aH.of hp) rfl ?_;walk_at "";rw[decide_eq_true rfl];refine dE ?_;walk_at "";refine gR ?_;walk_at "";refine aJ (v:=.str u) (aH.of hp) rfl ?_;refine gS e2 l2 ?_;walk_at "";exact h
 ·refine aJ (v:=.str (ofString "counts")) (aH.of hp) rfl ?_;walk_at "";rw[decide_eq_false (by decide+kernel)];refine bS ?_;walk_at "";refine gR ?_;walk_at "";refine aJ (v:=.str t) (aH.of hp) rfl ?_;refine gS e1 l1 ?_;walk_at "";refine aJ (v:=.str (ofString "counts")) (aH.of hp) rfl ?_;walk_at "";rw[decide_eq_false (by decide+kernel)];refine bS ?_;walk_at "";refine aJ (v:=.str (ofString "counts")) (aH.of hp) rfl ?_;walk_at "";rw[decide_eq_false (by decide+kernel)];refine bS ?_;walk_at "";refine aJ (v:=.str (ofString "counts")) (aH.of hp) rfl ?_;walk_at "";rw[decide_eq_true rfl];refine dE ?_;walk_at "";exact ⟨a,ws,c,n,rfl,h⟩
abbrev lim:List V:=[.int 2,.int 1,.bl false]
def gZ (K:Fg):Sp:=λvs H Q _=>∃(p:Nat) (t:Addr),vs=[.int p,.ref t]/\bX K H t lim/\p<=1000/\Q (.int ((2 * p:Nat):Int)) H
def eU (K:Fg):List (SX K):=
 [set 2 (bin .Mult (ix (var 1) (cst (.int 0))) (var 0)),
  cK (ix (var 1) (cst (.int 2))) [mG] [],
  ret (bin .FloorDiv (bin .Sub (bin .Add (var 2) (ix (var 1) (cst (.int 1)))) (cst (.int 1))) (ix (var 1) (cst (.int 1))))]
theorem qF:TT (gZ K) (eU K) ["period","limit","wanted"]:=by
 intro vs H Q E h;obtain ⟨p,t,rfl,hL,hp,q⟩:=h;unfold eU;walk_at "";refine vE (v:=.int 2) hL rfl ?_;walk_at "";refine vE (v:=.bl false) hL rfl ?_;walk_at "";refine bS ?_;walk_at "";refine vE (v:=.int 1) hL rfl ?_;walk_at "";refine vE (v:=.int 1) hL rfl ?_;walk_at "";rw[show ((2 * p:Nat):Int)=(2 * (p:Nat)+1 - 1) / 1 by omega] at q;exact q
def rf (z:Str) (p:Nat):Option (Option Nat):=if ((2 * p:Nat):Int)>(z.length:Nat) then some none else
 if Txt.slice (Txt.slice z (some ((z.length:Nat) - ((2 * p:Nat):Int))) none) (some (p:Nat)) none=Txt.slice (Txt.slice z (some ((z.length:Nat) - ((2 * p:Nat):Int))) none) none (some (((2 * p:Nat):Int) - (p:Nat))) then some (some p) else none
def rg (z:Str):Nat->Nat->Option Nat
 |0,_=>none
 |k+1,j=>(rf z (j+1)).getD (rg z k (j+1))
abbrev rT (n p:Nat):List V:=[.int ((n:Nat) - ((2 * p:Nat):Int)),.int ((2 * p:Nat):Int),.int (p:Nat)]
def rV (H:Hp) (Q:VK) (n:Nat):Option Nat->Prop
 |none=>∀H',aB H H'->Q .non H'
 |some p=>∀t H',aB H H'->H' t=some (.tup (rT n p))->Q (.ref t) H'
def fX (K:Fg):Sp:=λvs H Q _=>∃(z:Str) (t:Addr),vs=[.str z,.ref t]/\bX K H t lim/\z.length<=1000/\rV H Q z.length (rg z (z.length - 1) 0)
def dU (K:Fg):List (SX K):=
 [kX (iV 2) (xT (cst (.int 1)) [len (var 0)]) [set 3 (call "least_length" (gZ K) [var 2,var 1]),
   cK (cmp .Gt (var 3) (len (var 0))) [ret (cst .non)] [],
   set 4 (CU (var 0) (some (bin .Sub (len (var 0)) (var 3))) none),
   cK (cmp .Eq (CU (var 4) (some (var 2)) none) (CU (var 4) none (some (bin .Sub (var 3) (var 2))))) [ret (tup [bin .Sub (len (var 0)) (var 3),var 3,var 2])] []],
  ret (cst .non)]
theorem oZ:TT (fX K) (dU K) ["word","limit","period","length","stretch"]:=by
 intro vs H Q E h;obtain ⟨z,t,rfl,hL,hz,q⟩:=h;unfold dU;walk_at "";refine cD (small (by omega)) ?_;walk_at "";refine gF (λj σ H'=>aB H H'/\rV H Q z.length (rg z (z.length - 1 - j) j)/\∃a2 a3 a4,σ=[some (.str z),some (.ref t),a2,a3,a4])
  ⟨aB.refl _,q,none,none,none,rfl⟩ (λj σ H' hj hP=>?_) λσ H' hP=>?_
 ·obtain ⟨hS,q,a2,a3,a4,rfl⟩:=hP;rw[show z.length - 1 - j=z.length - 1 - (j+1)+1 by omega] at q;unfold rg rf at q;rw[show (1:Int)+(j:Nat)=((j+1:Nat):Int) by omega];walk_at "";refine ⟨j+1,t,rfl,aB.seqT hS hL,by omega,?_⟩;walk_at "";refine cD (small (by omega)) ?_;walk_at "";refine eQ (λc=>?_) λc=>?_
  ·rw[if_pos c] at q;walk_at "";exact q H' hS
  ·rw[if_neg c] at q;have hsl:=jT z (some ((z.length:Nat) - ((2 * (j+1):Nat):Int))) none;walk_at "";refine cD (small (by omega)) ?_;walk_at "";refine iZ (small (by omega)) ?_;walk_at "";refine iZ (small (by omega)) ?_;walk_at "";refine iZ (small (by omega)) ?_;refine YW ?_;refine eQ (λc2=>?_) λc2=>?_
   ·rw[if_pos c2] at q;walk_at "";refine cD (small (by omega)) ?_;walk_at "";exact ⟨by show 3<=sizeLine;decide,λt2 ht2=>q t2 _ (hS.trans (aC ht2 _)) aA⟩
   ·rw[if_neg c2] at q;walk_at "";exact ⟨hS,q,_,_,_,rfl⟩
 ·obtain ⟨hS,q,a2,a3,a4,rfl⟩:=hP;rw[show z.length - 1 - (((z.length:Nat):Int) - 1).toNat=0 by omega] at q;walk_at "";exact q H' hS
abbrev ry (z:Str) (i:Nat):Str:=Txt.slice z none (some ((i+1:Nat):Int))
def ri (z:Str):Nat->Nat->Option (Nat × Nat)
 |0,_=>none
 |k+1,i=>(rg (ry z i) ((ry z i).length - 1) 0).elim (ri z k (i+1)) λp=>some ((ry z i).length,p)
def lS (K:Fg):Sp:=λvs H Q _=>∃(z:Str) (t:Addr) (n p:Nat),vs=[.str z,.ref t]/\bX K H t lim/\z.length<=1000/\ri z z.length 0=some (n,p)/\∀t H',aB H H'->H' t=some (.tup (rT n p))->Q (.ref t) H'
def jG (K:Fg):List (SX K):=
 [kX (iV 2) (xT (cst (.int 1)) [bin .Add (len (var 0)) (cst (.int 1))]) [set 3 (call "repeat_at_end" (fX K) [CU (var 0) none (some (var 2)),var 1]),
   cK (cmp .IsNot (var 3) (cst .non)) [ret (var 3)] []],mG]
theorem yU:TT (lS K) (jG K) ["word","limit","end","repeat"]:=by
 intro vs H Q E h;obtain ⟨z,t,n,p,rfl,hL,hz,hr,q⟩:=h;unfold jG;walk_at "";refine cD (small (by omega)) ?_;walk_at "";refine gF (λi σ H'=>aB H H'/\ri z (z.length - i) i=some (n,p)/\∃a2 a3,σ=[some (.str z),some (.ref t),a2,a3])
  ⟨aB.refl _,hr,none,none,rfl⟩ (λi σ H' hi hP=>?_) λσ H' hP=>?_
 ·obtain ⟨hS,hr,a2,a3,rfl⟩:=hP;rw[show z.length - i=z.length - (i+1)+1 by omega] at hr;unfold ri at hr;have hsl:=jT z none (some ((i+1:Nat):Int));rw[show (1:Int)+(i:Nat)=((i+1:Nat):Int) by omega];walk_at "";refine iZ (small (by omega)) ?_;walk_at "";refine ⟨_,t,rfl,aB.seqT hS hL,by omega,?_⟩;revert hr;cases rg (ry z i) ((ry z i).length - 1) 0 with
  |none=>
   intro hr H2 s2;walk_at "";refine bS ?_;walk_at "";exact ⟨hS.trans s2,hr,_,_,rfl⟩
  |some r=>
   intro hr t2 H2 s2 h2;cases hr;walk_at "";refine dE ?_;walk_at "";exact q t2 H2 (hS.trans s2) h2
 ·obtain ⟨hS,hr,a2,a3,rfl⟩:=hP;rw[show z.length - (((z.length:Nat):Int)+1 - 1).toNat=0 by omega] at hr;cases hr
def wR:List Str:=(["abab","2","1","from"]:List String).map ofString
theorem Jg:ri (ofString "abab") (ofString "abab").length 0=some (4,2):=by decide+kernel
def eK (K:Fg):Sp:=λvs H Q _=>∃(p:Addr) (w:Str),vs=[.ref p]/\H p=some (.lst ((w::wR).map V.str))/\∀H',aB H H'->Q (.str (ofString "0 4 2")) H'
def fO (K:Fg):List (SX K):=
 [set 1 (tup [AS (ix (var 0) (cst (.int 2))),AS (ix (var 0) (cst (.int 3))),cmp .Eq (ix (var 0) (cst (.int 4))) (cst (.str "above"))]),
  set 2 (call "repeat_in" (lS K) [ix (var 0) (cst (.int 1)),var 1]),
  cK (cmp .Is (var 2) (cst .non)) [mG] [],
  ret (call "in_a_row" (fB K) [var 2])]
theorem tJ:TT (eK K) (fO K) ["words","limit","repeat"]:=by
 intro vs H Q E h;obtain ⟨p,w,rfl,hp,q⟩:=h;unfold fO;walk_at "";refine gR ?_;walk_at "";refine aJ (v:=.str (ofString "2")) (aH.of hp) rfl ?_;refine gS (n:=2) (by decide+kernel) (by decide+kernel) ?_;walk_at "";refine gR ?_;walk_at "";refine aJ (v:=.str (ofString "1")) (aH.of hp) rfl ?_;refine gS (n:=1) (by decide+kernel) (by decide+kernel) ?_;walk_at "";refine aJ (v:=.str (ofString "from")) (aH.of hp) rfl ?_;walk_at "";rw[decide_eq_false (by decide+kernel)];refine ⟨by show 3<=sizeLine;decide,λl nl=>?_⟩;have s1:=aC nl (.tup lim);walk_at "";refine aJ (v:=.str (ofString "abab")) (aH.of (s1 _ _ hp)) rfl ?_;walk_at "";refine ⟨_,l,4,2,rfl,bX.of aA,by decide+kernel,Jg,λu H2 s2 hu=>?_⟩;walk_at "";refine bS ?_;walk_at "";refine ⟨u,[0,4,2],rfl,hu,by show 3<=1000;decide,by decide,by decide+kernel,λH3 s3=>?_⟩;rw[show Txt.join (ofString " ") ([0,4,2].map tx)=ofString "0 4 2" by decide+kernel];exact q H3 ((s1.trans s2).trans s3)
abbrev sR:Str:=ofString "rule"
abbrev sP:Str:=ofString "repeat"
abbrev sS:Str:=ofString "start"
def Step (K:Fg) (x p:Addr) (r s:V) (us:List Str) (H:Hp) (Q:VK) (E:XK):Prop:=
 (∃z,us=[sR,z]/\cV K [.ref x,.str z] H Q E)\/
 (∃ws,us=sP::ws/\eK K [.ref p] H Q E)\/
 ∃w ws,us=w::ws/\w≠sR/\w≠sP/\ws.length<=1000/\((r=.non/\∀H',aB H H'->E (.ref (clsAt K "NoRule")) none H')\/
  (r≠.non/\((∃z,w=sS/\ws=[z]/\bW K [.ref x,.str z] H Q E)\/
   (w≠sS/\((ws=[]/\bD K [r,.str w] H Q E)\/
    (1<=ws.length/\((s=.non/\∀H',aB H H'->E (.ref (clsAt K "NoStart")) none H')\/(s≠.non/\aL K [r,s,.ref p] H Q E))))))))
def aZ (K:Fg):Sp:=λvs H Q E=>∃(x:Addr) (v:V),vs=[.ref x,v]/\KD K/\bU K [v] H (λv H1=>∃(p dx:Addr) (r s:V) (us:List Str),v=.ref p/\H1 p=some (.lst (us.map V.str))/\H1 x=some (Dk K dx r s)/\Step K x p r s us H1 Q E) E
def RH (K:Fg):List (SX K):=
 [cK (cmp .Eq (len (var 2)) (cst (.int 1))) [ret (call "told_of_rule" (bD K) [fld (var 0) "rule",ix (var 2) (cst (.int 0))])] [],
  cK (cmp .Is (fld (var 0) "start") (cst .non)) [raiseO "NoStart" (cst (.str "no start is kept")) []] [],
  ret (call "told_of_endless_word" (aL K) [fld (var 0) "rule",fld (var 0) "start",var 2])]
def RI (K:Fg):List (SX K):=
 cK (cmp .Is (fld (var 0) "rule") (cst .non)) [raiseO "NoRule" (cst (.str "no rule is kept")) []] []::
  cK (cmp .Eq (ix (var 2) (cst (.int 0))) (cst (.str "start"))) [ret (SU (var 0) "Desk" "keep_start" (bW K) (ix (var 2) (cst (.int 1))))] []::RH K
def RJ (K:Fg):List (SX K):=
 cK (cmp .Eq (ix (var 2) (cst (.int 0))) (cst (.str "rule"))) [ret (SU (var 0) "Desk" "keep_rule" (cV K) (ix (var 2) (cst (.int 1))))] []::
  cK (cmp .Eq (ix (var 2) (cst (.int 0))) (cst (.str "repeat"))) [ret (call "told_repeat" (eK K) [var 2])] []::RI K
def BP (K:Fg):List (SX K):=set 2 (call "words_of_row" (bU K) [var 1])::RJ K
theorem Ks:∀vs H Q E,aZ K vs H Q E->vs.length=2:=by
 rintro vs H Q E ⟨_,_,rfl,_⟩;rfl
theorem CA {vs:List V} {H:Hp} {Q Q':VK} {E:XK} (q:∀v H1,Q v H1->Q' v H1) (h:bU K vs H Q E):bU K vs H Q' E:=by
 obtain ⟨x,e,h⟩:=h;refine ⟨x,e,?_⟩;rcases h with ⟨z,e1,hz,h⟩|h
 ·refine .inl ⟨z,e1,hz,?_⟩;rcases h with ⟨e2,h⟩|⟨e2,w,rs,e3,hn,h⟩
  ·exact .inl ⟨e2,λp H' s1 hp=>q _ _ (h p H' s1 hp)⟩
  ·refine .inr ⟨e2,w,rs,e3,hn,?_⟩;rcases h with ⟨e4,h⟩|h
   ·exact .inl ⟨e4,λp H' s1 hp=>q _ _ (h p H' s1 hp)⟩
   ·exact .inr h
 ·exact .inr h
section
variable {H:Hp} {Q:VK} {E:XK} {x p dx:Addr} {r s v:V} {w:Str} {ws:List Str}
theorem Ht (kd:KD K) (hp:H p=some (.lst ((w::ws).map V.str))) (hx:H x=some (Dk K dx r s)) (l:ws.length<=1000)
  (h:(ws=[]/\bD K [r,.str w] H Q E)\/(1<=ws.length/\((s=.non/\∀H',aB H H'->E (.ref (clsAt K "NoStart")) none H')\/(s≠.non/\aL K [r,s,.ref p] H Q E)))):
  eI (RH K) (λ_=>E) {nx:=λ_ H'=>Q .non H',rt:=Q} [some (.ref x),some v,some (.ref p)] H:=by
 unfold RH;walk_at "";refine eO (aH.of hp) ?_;walk_at "";rcases h with ⟨rfl,h⟩|⟨l1,h⟩
 ·rw[decide_eq_true (by rfl)];refine dE ?_;walk_at "";refine vF ?_;walk_at "";refine xV kd hx ?_;walk_at "";refine aJ (v:=.str w) (aH.of hp) rfl ?_;walk_at "";exact h
 ·rw[decide_eq_false (by rw[length_map,length_cons];lia)];refine bS ?_;walk_at "";refine vF ?_;walk_at "";refine GD kd hx ?_;walk_at "";rcases h with ⟨e,q⟩|⟨e,h⟩
  ·rw[decide_eq_true e];refine dE ?_;walk_at "";refine cC ?_;walk_at "";exact ⟨by show 1<=sizeLine;decide,q H (aB.refl _)⟩
  ·rw[decide_eq_false e];refine bS ?_;walk_at "";refine vF ?_;walk_at "";refine xV kd hx ?_;walk_at "";refine vF ?_;walk_at "";refine GD kd hx ?_;walk_at "";exact h
theorem Hu (kd:KD K) (hp:H p=some (.lst ((w::ws).map V.str))) (hx:H x=some (Dk K dx r s)) (l:ws.length<=1000)
  (h:(r=.non/\∀H',aB H H'->E (.ref (clsAt K "NoRule")) none H')\/
  (r≠.non/\((∃z,w=sS/\ws=[z]/\bW K [.ref x,.str z] H Q E)\/
   (w≠sS/\((ws=[]/\bD K [r,.str w] H Q E)\/
    (1<=ws.length/\((s=.non/\∀H',aB H H'->E (.ref (clsAt K "NoStart")) none H')\/(s≠.non/\aL K [r,s,.ref p] H Q E)))))))):
  eI (RI K) (λ_=>E) {nx:=λ_ H'=>Q .non H',rt:=Q} [some (.ref x),some v,some (.ref p)] H:=by
 unfold RI;walk_at "";refine vF ?_;walk_at "";refine xV kd hx ?_;walk_at "";rcases h with ⟨e,q⟩|⟨e,h⟩
 ·rw[decide_eq_true e];refine dE ?_;walk_at "";refine cC ?_;walk_at "";exact ⟨by show 1<=sizeLine;decide,q H (aB.refl _)⟩
 ·rw[decide_eq_false e];refine bS ?_;walk_at "";refine aJ (v:=.str w) (aH.of hp) (bI (xs:=(w::ws).map V.str) (j:=0) rfl) ?_;walk_at "";rcases h with ⟨z,e1,rfl,h⟩|⟨e1,h⟩
  ·rw[decide_eq_true e1];refine dE ?_;walk_at "";refine mL ?_;walk_at "";refine ⟨⟨x,dx,_,rfl,hx,rfl⟩,?_⟩;walk_at "";refine aJ (v:=.str z) (aH.of hp) rfl ?_;exact h
  ·rw[decide_eq_false e1];refine bS ?_;exact Ht kd hp hx l h
theorem Hv {us:List Str} (kd:KD K) (hp:H p=some (.lst (us.map V.str))) (hx:H x=some (Dk K dx r s)) (h:Step K x p r s us H Q E):
  eI (RJ K) (λ_=>E) {nx:=λ_ H'=>Q .non H',rt:=Q} [some (.ref x),some v,some (.ref p)] H:=by
 unfold RJ;walk_at "";rcases h with ⟨z,rfl,h⟩|⟨ws,rfl,h⟩|⟨w,ws,rfl,e1,e2,l,h⟩
 ·refine aJ (v:=.str sR) (aH.of hp) rfl ?_;walk_at "";rw[decide_eq_true rfl];refine dE ?_;walk_at "";refine mL ?_;walk_at "";refine ⟨⟨x,dx,_,rfl,hx,rfl⟩,?_⟩;walk_at "";refine aJ (v:=.str z) (aH.of hp) rfl ?_;exact h
 ·refine aJ (v:=.str sP) (aH.of hp) (bI (xs:=(sP::ws).map V.str) (j:=0) rfl) ?_;walk_at "";rw[decide_eq_false (by decide+kernel)];refine bS ?_;walk_at "";refine aJ (v:=.str sP) (aH.of hp) (bI (xs:=(sP::ws).map V.str) (j:=0) rfl) ?_;walk_at "";rw[decide_eq_true rfl];refine dE ?_;walk_at "";exact h
 ·refine aJ (v:=.str w) (aH.of hp) (bI (xs:=(w::ws).map V.str) (j:=0) rfl) ?_;walk_at "";rw[decide_eq_false e1];refine bS ?_;walk_at "";refine aJ (v:=.str w) (aH.of hp) (bI (xs:=(w::ws).map V.str) (j:=0) rfl) ?_;walk_at "";rw[decide_eq_false e2];refine bS ?_;exact Hu kd hp hx l h
end
theorem Hz:TT (aZ K) (BP K) ["self","row","words"]:=by
 intro vs H Q E h;obtain ⟨x,v,rfl,kd,h⟩:=h;show eI (BP K) (λ_=>E) {nx:=λ_ H'=>Q .non H',rt:=Q} [some (.ref x),some v,none] H;unfold BP;walk_at "";refine CA (λu H1 h1=>?_) h;obtain ⟨p,dx,r,s,us,rfl,hp,hx,h⟩:=h1;walk_at "";exact Hv kd hp hx h
open L2.Na.K81 (cM Ask)
def kb (i:Nat):List Bool:=[decide (0=i),decide (1=i),decide (2=i),decide (3=i),decide (4=i),decide (5=i),decide (6=i)]
def Oo (K:Fg) (i:Nat) (m:V) (C:Addr) (dx:Option Addr) (H:Hp):Prop:=Ask K C (kb i)/\exmOne K (.ref C) (.ref (clsAt K "WordError"))=some true/\
 ((dx=none/\m=.non/\i<6)\/∃(d:Addr) (n:Int),dx=some d/\H d=some (.xd [("most",.int n)])/\m=.int n/\i=6/\PySem.W.findIn K (.ref C) "most"=some none)
def EF (K:Fg) (x:Addr) (v:V) (i:Nat) (m:V) (H:Hp):Prop:=∀(Q:VK) (E:XK),(∀C dx H1,aB H H1->Oo K i m C dx H1->E (.ref C) dx H1)->aZ K [.ref x,v] H Q E
def kE (K:Fg):Sp:=λvs H Q _=>∃(x dx:Addr) (r s v:V) (i:Nat) (m:V),vs=[.ref x,v]/\H x=some (Dk K dx r s)/\EF K x v i m H/\
 ∀p l H',aB H H'->H' l=some (.lst ((kb i).map V.bl))->H' p=some (.tup [.ref l,m,.bl true])->Q (.ref p) H'
def gX (K:Fg):List (SX K):=
 [set 2 (cst .non),
  Hr [set 2 (SU (var 0) "Desk" "say" (aZ K) (var 1))] "WordError" 3 2 (ZL "_law_caught" (cM K) (var 3) []),
  ret (var 2)]
theorem wH:TT (kE K) (gX K) ["_law_desk","_law_row","_law_found","_law_e"]:=by
 intro vs H Q E h;obtain ⟨x,dx,r,s,v,i,m,rfl,hx,hr,q⟩:=h;unfold gX;walk_at "";refine Eg ?_;walk_at "";refine mL ?_;walk_at "";refine ⟨⟨x,dx,_,rfl,hx,rfl⟩,?_⟩;walk_at "";refine hr _ _ λC d H1 s1 ⟨A,ex,hd⟩=>⟨ex,λe he=>?_⟩;have s2:=aC he (.ext (GW e (.ref C) d));refine WN ?_;walk_at "";rcases hd with ⟨rfl,rfl,h6⟩|⟨d,n,rfl,hn,rfl,rfl,hf⟩
 ·refine ⟨.ref e,_,[],kb i,.non,rfl,⟨e,rfl,.inl ⟨aA,rfl⟩⟩,A,.inl ⟨decide_eq_false (by lia),rfl⟩,λp l H3 s3 hl _ hp=>?_⟩;walk_at "";exact q p l H3 ((s1.trans s2).trans s3) hl hp
 ·refine ⟨.ref e,_,[("most",.int n)],kb 6,.int n,rfl,⟨e,rfl,.inr ⟨d,aA,s2 _ _ hn⟩⟩,A,.inr ⟨rfl,rfl,hf⟩,λp l H3 s3 hl _ hp=>?_⟩;walk_at "";exact q p l H3 ((s1.trans s2).trans s3) hl hp
theorem Fl {H:Hp} {l l2:Addr} {bs:List Bool} (hne:l≠l2) (h1:H l=some (.lst (bs.map V.bl))) (h2:H l2=some (.lst (bs.map V.bl))):Rb H (.ref l) (.ref l2) true:=
 .inr ⟨l,l2,_,_,λ_=>true,rfl,rfl,hne,h1,h2,rfl,λi x y hx hy=>by
  rw[hx] at hy
  cases hy
  obtain ⟨k,_,rfl⟩:=mem_map.mp (mem_of_getElem? hx)
  exact .inr (.inr (.inl ⟨k,k,rfl,rfl,by simp⟩)),(all_eq_true.mpr λ_ _=>rfl).symm⟩
theorem QA {H:Hp} {Q:VK} {p p2 l l2:Addr} {bs:List Bool} {m:V} (hm:EJ m m true) (hne:l≠l2) (h1:H l=some (.lst (bs.map V.bl))) (h2:H l2=some (.lst (bs.map V.bl))) (hp:H p=some (.tup [.ref l,m,.bl true])) (hp2:H p2=some (.tup [.ref l2,m,.bl true])) (q:Q (.bl true) H):UE (.ref p) (.ref p2) H Q:=by
 refine ⟨p,p2,_,_,λ_=>true,rfl,rfl,.inr ⟨hp,hp2⟩,rfl,λi x y hx hy=>?_,q⟩
 match i,hx,hy with
 |0,hx,hy=>cases hx;cases hy;exact Fl hne h1 h2
 |1,hx,hy=>cases hx;cases hy;exact .inl hm
 |2,hx,hy=>cases hx;cases hy;exact .inl (.inr (.inr (.inl ⟨true,true,rfl,rfl,rfl⟩)))
 |i+3,hx,hy=>cases hx
def aI (K:Fg):Sp:=λvs H Q _=>∃(x dx:Addr) (r s v:V) (i:Nat) (m:V),vs=[.ref x,v,.int (i:Nat),m]/\H x=some (Dk K dx r s)/\EJ m m true/\EF K x v i m H/\∀H',aB H H'->Q (.bl true) H'
def fR (K:Fg):List (SX K):=
 [ret (Rz (call "_law_answer" (kE K) [var 0,var 1]) (tup [comp (cmp .Eq (var 0) (var 1)) (iV 0) (xT (cst (.int 7)) []) ["_law_k"] ["_law_which"] [2],var 3,cst (.bl true)]))]
theorem tN:TT (aI K) (fR K) ["_law_desk","_law_row","_law_which","_law_most"]:=by
 intro vs H Q E h;obtain ⟨x,dx,r,s,v,i,m,rfl,hx,hm,hr,q⟩:=h;unfold fR;walk_at "";refine Mh ?_;walk_at "";refine ⟨x,dx,r,s,v,i,m,rfl,hx,hr,λp l H3 s3 hl hp=>?_⟩;walk_at "";intro D nD;refine BJ (λk=>.bl (decide (k=i))) nD (small (by lia)) (λk H4 Q' hk s4 fin=>?_) λH4 s4 hO=>?_
 ·walk_at "";have e:decide (((0:Int)+(k:Nat))=((i:Nat):Int))=decide (k=i):=decide_eq_decide.mpr (by lia);rw[e];exact fin H4 (aB.refl _)
 ·have hO:H4 D=some (.lst ((kb i).map V.bl)):=hO;walk_at "";refine ⟨by show 3<=sizeLine;decide,λp2 np2=>?_⟩;have s5:=aC np2 (.tup [.ref D,m,.bl true]);exact QA (bs:=kb i) hm (aD hl nD) (s5 _ _ (s4 _ _ hl)) (s5 _ _ hO) (s5 _ _ (s4 _ _ hp)) aA (q _ ((s3.trans s4).trans s5))
open L2.Na.K81 (Ask)
abbrev isW (K:Fg) (x:Str):Prop:=exmOne K (.ref (clsAt K x)) (.ref (clsAt K "WordError"))=some true
structure KX (K:Fg):Prop where
 kd:KD K
 a0:Ask K (clsAt K "NoRow") (kb 0)
 a1:Ask K (clsAt K "NoRule") (kb 1)
 a2:Ask K (clsAt K "NoStart") (kb 2)
 a3:Ask K (clsAt K "NoPiece") (kb 3)
 a4:Ask K (clsAt K "NotMixed") (kb 4)
 a5:Ask K (clsAt K "NoShares") (kb 5)
 a6:Ask K (clsAt K "TooGreat") (kb 6)
 e0:isW K "NoRow"
 e1:isW K "NoRule"
 e2:isW K "NoStart"
 e3:isW K "NoPiece"
 e4:isW K "NotMixed"
 e5:isW K "NoShares"
 e6:isW K "TooGreat"
 mo:PySem.W.findIn K (.ref (clsAt K "TooGreat")) "most"=some none
def Hc (z:Str):Bool:=decide (z.length<=100000)&&(!fK z || (PySem.intText? z).isSome)
theorem AF {z:Str} (h:Hc z=true):Nt z:=by
 unfold Hc at h;rw[and_eq_true,or_eq_true] at h;refine ⟨of_decide_eq_true h.1,λe=>?_⟩;rcases h.2 with h|h
 ·rw[e] at h;cases h
 ·exact isSome_iff_exists.mp h
def Sh (ws:List Str):Bool:=match ws with
 |w::rs=>rs.all Hc&&!kT w rs
 |[]=>false
def yD (z:Str):Bool:=!Txt.startswith z (ofString "rule ")&&(decide (z.length<=100000)&&Sh (Txt.split z (ofString " ")))
section
variable {H:Hp} {x:Addr}
theorem Bi (kx:KX K) {z:Str} (h:yD z=true):EF K x (.str z) 0 .non H:=λQ E hE=>by
 unfold yD at h;rw[and_eq_true,and_eq_true] at h;obtain ⟨h1,h2,h3⟩:=h;refine ⟨x,_,rfl,kx.kd,_,rfl,.inl ⟨z,rfl,of_decide_eq_true h2,.inr ⟨by simpa using h1,?_⟩⟩⟩;cases hs:Txt.split z (ofString " ") with
 |nil=>rw[hs] at h3;cases h3
 |cons w rs=>
  rw[hs] at h3;have h3:(rs.all Hc&&!kT w rs)=true:=h3;rw[and_eq_true] at h3;refine ⟨w,rs,rfl,λa ha=>AF (all_eq_true.mp h3.1 a ha),.inr ⟨by simpa using h3.2,λH' s1=>hE _ _ _ s1 ⟨kx.a0,kx.e0,.inl ⟨rfl,rfl,by decide⟩⟩⟩⟩
theorem Bh (kx:KX K) {v:V} (h:oU K "str" H v):EF K x v 0 .non H:=λQ E hE=>
 ⟨x,_,rfl,kx.kd,_,rfl,.inr ⟨h,λH' s1=>hE _ _ _ s1 ⟨kx.a0,kx.e0,.inl ⟨rfl,rfl,by decide⟩⟩⟩⟩
end
structure Row (z w:Str) (rs:List Str):Prop where
 no:startswith z (ofString "rule ")=false
 le:z.length<=100000
 sp:Txt.split z (ofString " ")=w::rs
 nt:∀a∈rs,Nt a
 ok:kT w rs=true
 few:rs.length<=1000
section
variable {H:Hp} {x dx:Addr} {r s:V} {z w:Str} {rs:List Str} {Q:VK} {E:XK}
theorem kR (kx:KX K) (R:Row z w rs) (hx:H x=some (Dk K dx r s)) (st:∀p H1,aB H H1->H1 p=some (.lst ((w::rs).map V.str))->Step K x p r s (w::rs) H1 Q E):aZ K [.ref x,.str z] H Q E:=
 ⟨x,_,rfl,kx.kd,_,rfl,.inl ⟨z,rfl,R.le,.inr ⟨R.no,w,rs,R.sp,R.nt,.inl ⟨R.ok,λp H1 s1 hp=>⟨p,dx,r,s,w::rs,rfl,hp,s1 _ _ hx,st p H1 s1 hp⟩⟩⟩⟩⟩
theorem HZ (kx:KX K) (R:Row z w rs) (hx:H x=some (Dk K dx .non s)) (n1:w≠sR) (n2:w≠sP):EF K x (.str z) 1 .non H:=λQ E hE=>
 kR kx R hx λp H1 s1 _=>.inr (.inr ⟨w,rs,rfl,n1,n2,R.few,.inl ⟨rfl,λH2 s2=>hE _ _ _ (s1.trans s2) ⟨kx.a1,kx.e1,.inl ⟨rfl,rfl,by decide⟩⟩⟩⟩)
theorem rC (kx:KX K) (R:Row z w rs) (hx:H x=some (Dk K dx r .non)) (hr:r≠.non) (n1:w≠sR) (n2:w≠sP) (n3:w≠sS) (l:1<=rs.length):EF K x (.str z) 2 .non H:=λQ E hE=>
 kR kx R hx λp H1 s1 _=>.inr (.inr ⟨w,rs,rfl,n1,n2,R.few,.inr ⟨hr,.inr ⟨n3,.inr ⟨l,.inl ⟨rfl,λH2 s2=>hE _ _ _ (s1.trans s2) ⟨kx.a2,kx.e2,.inl ⟨rfl,rfl,by decide⟩⟩⟩⟩⟩⟩⟩)
theorem MK {a:Addr} {ws:List Str} {c:Nat} (kx:KX K) (R:Row z sS [aP [c]]) (hx:H x=some (Dk K dx (.ref a) s)) (hR:iC K H a ws) (hw:∀w∈ws,1<=w.length/\w.length<=100) (hc:97<=c) (hg:aQ ws c=false):EF K x (.str z) 2 .non H:=λQ E hE=>
 kR kx R hx λp H1 s1 _=>.inr (.inr ⟨sS,_,rfl,by decide+kernel,by decide+kernel,R.few,.inr ⟨(λk=>nomatch k),.inl ⟨_,rfl,rfl,x,dx,a,ws,s,c,rfl,kx.kd,s1 _ _ hx,hR.same s1,hw,hc,.inr ⟨hg,λH2 s2=>hE _ _ _ (s1.trans s2) ⟨kx.a2,kx.e2,.inl ⟨rfl,rfl,by decide⟩⟩⟩⟩⟩⟩)
theorem UB {us:List Str} (kx:KX K) (h1:startswith z (ofString "rule ")=true) (h2:z.length<=100000) (h3:Txt.slice z (some 5) none=Txt.join bk us) (hw:K05.Ws us) (hn:nP (us.map V.str) 12=false) (hx:H x=some (Dk K dx r s)):EF K x (.str z) 1 .non H:=λQ E hE=>
 ⟨x,_,rfl,kx.kd,_,rfl,.inl ⟨z,rfl,h2,.inl ⟨h1,λp H1 s1 hp=>⟨p,dx,r,s,[sR,Txt.slice z (some 5) none],rfl,hp,s1 _ _ hx,.inl ⟨_,rfl,x,_,rfl,kx.kd,_,rfl,.inl ⟨us,by rw[h3],hw,.inr ⟨hn,λH2 s2=>hE _ _ _ (s1.trans s2) ⟨kx.a1,kx.e1,.inl ⟨rfl,rfl,by decide⟩⟩⟩⟩⟩⟩⟩⟩⟩
end
abbrev sM:Str:=ofString "mixes"
abbrev sH:Str:=ofString "shares"
abbrev sA:Str:=ofString "again"
abbrev sL:Str:=ofString "letter"
abbrev sT:Str:=ofString "stretch"
abbrev sC:Str:=ofString "counts"
section
variable {H:Hp} {x dx a:Addr} {r s:V} {z w t u:Str} {rs ws:List Str} {Q:VK} {E:XK} {c n m:Nat}
theorem MM (kx:KX K) {i:Nat} {C:Str} (A:K81.Ask K (clsAt K C) (kb i)) (e:isW K C) (hi:i<6) {H1:Hp} (s1:aB H H1) (hE:∀C dx H1,aB H H1->Oo K i .non C dx H1->E (.ref C) dx H1):K44.Exc K C H1 E:=λH2 s2=>hE _ _ _ (s1.trans s2) ⟨A,e,.inl ⟨rfl,rfl,hi⟩⟩
theorem Jh (kx:KX K) {H1:Hp} (s1:aB H H1) {m:Int} (hE:∀C dx H1,aB H H1->Oo K 6 (.int m) C dx H1->E (.ref C) dx H1):Pr.TG K m H1 E:=λH2 d s2 hd=>hE _ _ _ (s1.trans s2) ⟨kx.a6,kx.e6,.inr ⟨d,m,rfl,hd,rfl,rfl,kx.mo⟩⟩
theorem zS (kx:KX K) (R:Row z w []) (hx:H x=some (Dk K dx (.ref a) s)) (n1:w≠sR) (n2:w≠sP) (n3:w≠sS) (h:∀H1,aB H H1->bD K [.ref a,.str w] H1 Q E):aZ K [.ref x,.str z] H Q E:=
 kR kx R hx λ_ H1 s1 _=>.inr (.inr ⟨w,[],rfl,n1,n2,R.few,.inr ⟨(λk=>nomatch k),.inr ⟨n3,.inl ⟨rfl,h H1 s1⟩⟩⟩⟩)
theorem gD (kx:KX K) (R:Row z w rs) (hx:H x=some (Dk K dx (.ref a) (sgn c))) (n1:w≠sR) (n2:w≠sP) (n3:w≠sS) (l:1<=rs.length) (h:∀p H1,aB H H1->H1 p=some (.lst ((w::rs).map V.str))->aL K [.ref a,sgn c,.ref p] H1 Q E):aZ K [.ref x,.str z] H Q E:=
 kR kx R hx λp H1 s1 hp=>.inr (.inr ⟨w,rs,rfl,n1,n2,R.few,.inr ⟨(λk=>nomatch k),.inr ⟨n3,.inr ⟨l,.inr ⟨(λk=>nomatch k),h p H1 s1 hp⟩⟩⟩⟩⟩)
theorem uS (kx:KX K) (R:Row z sM []) (hx:H x=some (Dk K dx (.ref a) s)) (hR:iC K H a ws) (hU:Ru ws) (q:∀H',aB H H'->Q (Oy (KN ws)) H'):aZ K [.ref x,.str z] H Q E:=
 zS kx R hx (by decide+kernel) (by decide+kernel) (by decide+kernel) λ_ s1=>⟨a,ws,sM,rfl,hR.same s1,hU,.inl ⟨rfl,λH2 s2=>q H2 (s1.trans s2)⟩⟩
theorem HY (kx:KX K) (R:Row z sH []) (hx:H x=some (Dk K dx (.ref a) s)) (hR:iC K H a ws) (hU:Ru ws) (ho:K82.Hb ws=false):EF K x (.str z) 5 .non H:=λ_ _ hE=>
 zS kx R hx (by decide+kernel) (by decide+kernel) (by decide+kernel) λ_ s1=>⟨a,ws,sH,rfl,hR.same s1,hU,.inr ⟨rfl,ho,MM kx kx.a5 kx.e5 (by decide) s1 hE⟩⟩
theorem MN (kx:KX K) (R:Row z sA [t]) (hx:H x=some (Dk K dx (.ref a) (sgn c))) (hR:iC K H a ws) (hU:Ru ws) (hc:97<=c) (t1:1<=t.length) (t2:t.length<=300) (hg:aQ ws c=true) (hl:c - 97<ws.length) (hm:KN ws=false):EF K x (.str z) 4 .non H:=λ_ _ hE=>
 gD kx R hx (by decide+kernel) (by decide+kernel) (by decide+kernel) (by simp) λp _ s1 hp=>⟨p,_,_,_,rfl,hp,.inl ⟨t,rfl,a,ws,c,t,rfl,hR.same s1,hU,hc,t1,t2,hg,hl,.inl ⟨hm,MM kx kx.a4 kx.e4 (by decide) s1 hE⟩⟩⟩
theorem ML (kx:KX K) (R:Row z sA [t]) (hx:H x=some (Dk K dx (.ref a) (sgn c))) (hR:iC K H a ws) (hU:Ru ws) (hc:97<=c) (t1:1<=t.length) (t2:t.length<=300) (hg:aQ ws c=true) (hl:c - 97<ws.length) (hm:KN ws=true) (h0:t.length=1) (h1:(mX ws c t.length).length<=300) (h2:ls t∉iA (mX ws c t.length)):EF K x (.str z) 3 .non H:=λ_ _ hE=>
 gD kx R hx (by decide+kernel) (by decide+kernel) (by decide+kernel) (by simp) λp _ s1 hp=>⟨p,_,_,_,rfl,hp,.inl ⟨t,rfl,a,ws,c,t,rfl,hR.same s1,hU,hc,t1,t2,hg,hl,.inr ⟨hm,h0,h1,h2,MM kx kx.a3 kx.e3 (by decide) s1 hE⟩⟩⟩
theorem EC (kx:KX K) {k:Int} {H1:Hp} (s1:aB H H1) (hR:iC K H a ws) (hU:Ru ws) (hc:97<=c) (hg:aQ ws c=true) (hl:c - 97<ws.length) (hs:∀i,i<=400->sz ws i c<=k) (hE:∀C dx H1,aB H H1->Oo K 6 (.int 400) C dx H1->E (.ref C) dx H1):Gv K H1 a ws c k E:=
 ⟨hR.same s1,hU,hc,.inr ⟨hg,hl,hs,Jh kx s1 hE⟩⟩
theorem IA (kx:KX K) (R:Row z sL [t]) (ht:PySem.intText? t=some (n:Int)) (tl:t.length<=640) (hx:H x=some (Dk K dx (.ref a) (sgn c))) (hR:iC K H a ws) (hU:Ru ws) (hc:97<=c) (hg:aQ ws c=true) (hl:c - 97<ws.length) (hs:∀i,i<=400->sz ws i c<=(n:Int)):EF K x (.str z) 6 (.int 400) H:=λ_ _ hE=>
 gD kx R hx (by decide+kernel) (by decide+kernel) (by decide+kernel) (by simp) λp _ s1 hp=>⟨p,_,_,_,rfl,hp,.inr (.inl ⟨t,n,rfl,ht,tl,.inr ⟨a,ws,c,n,rfl,EC kx s1 hR hU hc hg hl hs hE⟩⟩)⟩
theorem IB (kx:KX K) (R:Row z sC [t]) (ht:PySem.intText? t=some (n:Int)) (tl:t.length<=640) (hx:H x=some (Dk K dx (.ref a) (sgn c))) (hR:iC K H a ws) (hU:Ru ws) (hc:97<=c) (hg:aQ ws c=true) (hl:c - 97<ws.length) (hs:∀i,i<=400->sz ws i c<=(n:Int)):EF K x (.str z) 6 (.int 400) H:=λ_ _ hE=>
 gD kx R hx (by decide+kernel) (by decide+kernel) (by decide+kernel) (by simp) λp _ s1 hp=>⟨p,_,_,_,rfl,hp,.inr (.inr (.inr ⟨t,n,a,ws,c,rfl,ht,tl,rfl,rfl,EC kx s1 hR hU hc hg hl hs hE⟩))⟩
theorem CZ (kx:KX K) (R:Row z sT [t,u]) (ht:PySem.intText? t=some (n:Int)) (tl:t.length<=640) (hu:PySem.intText? u=some (m:Int)) (ul:u.length<=640) (m1:1<=m) (hx:H x=some (Dk K dx (.ref a) (sgn c))) (hR:iC K H a ws) (hU:Ru ws) (hc:97<=c) (hg:aQ ws c=true) (hl:c - 97<ws.length) (hs:∀i,i<=400->sz ws i c<=((n+m - 1:Nat):Int)):EF K x (.str z) 6 (.int 400) H:=λ_ _ hE=>
 gD kx R hx (by decide+kernel) (by decide+kernel) (by decide+kernel) (by simp) λp _ s1 hp=>⟨p,_,_,_,rfl,hp,.inr (.inr (.inl ⟨t,u,n,m,rfl,ht,tl,hu,ul,.inr ⟨a,ws,c,n,m,rfl,m1,EC kx s1 hR hU hc hg hl hs hE⟩⟩))⟩
theorem kS (kx:KX K) (R:Row z sL [t]) (ht:PySem.intText? t=some (n:Int)) (tl:t.length<=640) (hx:H x=some (Dk K dx (.ref a) (sgn c))) (hP:∀H1,aB H H1->Pl K H1 a ws c (n:Int)) (q:∀H',aB H H'->Q (sgn (ew ws c n)) H'):aZ K [.ref x,.str z] H Q E:=
 gD kx R hx (by decide+kernel) (by decide+kernel) (by decide+kernel) (by simp) λp _ s1 hp=>⟨p,_,_,_,rfl,hp,.inr (.inl ⟨t,n,rfl,ht,tl,.inl ⟨a,ws,c,n,rfl,hP _ s1,λH2 s2=>q H2 (s1.trans s2)⟩⟩)⟩
end
def SS:List (List Str):=([[""],["","ab","a"],["ab","a",""],["abc","a"],["ab","","a"],["aaaaaaaaaaaaa"],["a","b","c","d","a"],["AB","a"],["ab","e"],["1"],["ab-a"],["b"]]:List (List String)).map λl=>l.map ofString
def Px (us:List Str):Bool:=(let z:=ofString "rule "++Txt.join bk us
 startswith z (ofString "rule ")&&(decide (z.length<=100000)&&(decide (Txt.slice z (some 5) none=Txt.join bk us)&&!nP (us.map V.str) 12)))
def wB (us:List Str):Bool:=!us.isEmpty&&(us.all (λu=>decide (32∉ls u)&&decide (u.length<=1000))&&decide (us.length<=10))
theorem XU {us:List Str} (h:wB us=true):K05.Ws us:=by
 unfold wB at h;rw[and_eq_true,and_eq_true] at h;obtain ⟨h1,h2,h3⟩:=h;have h2:=λu hu=>(and_eq_true _ _).mp (all_eq_true.mp h2 u hu);refine ⟨λe=>?_,λu hu=>of_decide_eq_true (h2 u hu).1,λu hu=>of_decide_eq_true (h2 u hu).2,of_decide_eq_true h3⟩;subst e;cases h1
theorem Df:SS.all wB=true:=by decide+kernel
theorem NM:SS.all Px=true:=by decide+kernel
theorem Ji {K:Fg} {H:Hp} {x dx:Addr} {r s:V} {us:List Str} (kx:KX K) (hu:us∈SS) (hx:H x=some (Dk K dx r s)):EF K x (.str (ofString "rule "++Txt.join bk us)) 1 .non H:=by
 have h:=all_eq_true.mp NM us hu;have w:=XU (all_eq_true.mp Df us hu);unfold Px at h;rw[and_eq_true,and_eq_true,and_eq_true] at h;obtain ⟨h1,h2,h3,h4⟩:=h;exact UB kx h1 (of_decide_eq_true h2) (of_decide_eq_true h3) w (by simpa using h4) hx
abbrev sO:V:=.str (ofString "ok")
section
variable {K:Fg} {H:Hp} {x dx a:Addr} {r s:V} {z:Str} {us ws:List Str} {Q:VK} {E:XK} {c:Nat}
theorem ME (kx:KX K) (h1:startswith z (ofString "rule ")=true) (h2:z.length<=100000) (h3:Txt.slice z (some 5) none=Txt.join bk us) (hw:K05.Ws us) (hn:nP (us.map V.str) 12=true) (hx:H x=some (Dk K dx r s))
  (q:∀p H',aB H H'->H' p=some (.tup (us.map V.str))->Q sO (upd H' x (Dk K dx (.ref p) .non))):aZ K [.ref x,.str z] H Q E:=
 ⟨x,_,rfl,kx.kd,_,rfl,.inl ⟨z,rfl,h2,.inl ⟨h1,λp H1 s1 hp=>⟨p,dx,r,s,[sR,Txt.slice z (some 5) none],rfl,hp,s1 _ _ hx,.inl ⟨_,rfl,x,_,rfl,kx.kd,_,rfl,.inl ⟨us,by rw[h3],hw,.inl ⟨hn,λu H2 s2 hu=>⟨dx,r,s,s2 _ _ (s1 _ _ hx),q u H2 (s1.trans s2) hu⟩⟩⟩⟩⟩⟩⟩⟩
theorem HU (kx:KX K) (R:Row z sS [aP [c]]) (hx:H x=some (Dk K dx (.ref a) s)) (hR:iC K H a ws) (hw:∀w∈ws,1<=w.length/\w.length<=100) (hc:97<=c) (hg:aQ ws c=true)
  (q:∀H',aB H H'->Q sO (upd H' x (Dk K dx (.ref a) (sgn c)))):aZ K [.ref x,.str z] H Q E:=
 kR kx R hx λp H1 s1 _=>.inr (.inr ⟨sS,_,rfl,by decide+kernel,by decide+kernel,R.few,.inr ⟨(λk=>nomatch k),.inl ⟨_,rfl,rfl,x,dx,a,ws,s,c,rfl,kx.kd,s1 _ _ hx,hR.same s1,hw,hc,.inl ⟨hg,λH2 s2=>q H2 (s1.trans s2)⟩⟩⟩⟩)
end
def zR:Str:=ofString "repeat abab 2 1 from"
theorem Az:Row zR sP wR:=⟨by decide+kernel,by decide+kernel,by decide+kernel,λa ha=>AF (all_eq_true.mp (show wR.all Hc=true by decide+kernel) a ha),by decide+kernel,by decide+kernel⟩
theorem Av {K:Fg} {H:Hp} {x dx:Addr} {r s:V} {Q:VK} {E:XK} (kx:KX K) (hx:H x=some (Dk K dx r s)) (q:∀H',aB H H'->Q (.str (ofString "0 4 2")) H'):aZ K [.ref x,.str zR] H Q E:=
 kR kx Az hx λp H1 s1 hp=>.inr (.inl ⟨_,rfl,p,sP,rfl,hp,λH2 s2=>q H2 (s1.trans s2)⟩)
def iO (K:Fg):Sp:=λvs H Q _=>∃n:Int,vs=[.int n]/\∀us∈SS,∀H',aB H H'->Q (.str (ofString "rule "++Txt.join bk us)) H'
def fT (K:Fg):List (SX K):=
 [set 1 (lst [cst (.str ""),cst (.str " ab a"),cst (.str "ab a "),cst (.str "abc a"),cst (.str "ab  a"),bin .Mult (cst (.str "a")) (cst (.int 13)),cst (.str "a b c d a"),cst (.str "AB a"),cst (.str "ab e"),cst (.str "1"),cst (.str "ab-a"),cst (.str "b")]),
  ret (bin .Add (cst (.str "rule ")) (ix (var 1) (bin .Mod (var 0) (cst (.int 12)))))]
def Pw:List V:=[.str (ofString ""),.str (ofString " ab a"),.str (ofString "ab a "),.str (ofString "abc a"),.str (ofString "ab  a"),.str (mul (ofString "a") 13),.str (ofString "a b c d a"),.str (ofString "AB a"),.str (ofString "ab e"),.str (ofString "1"),.str (ofString "ab-a"),.str (ofString "b")]
theorem Dg:Pw=SS.map λus=>.str (Txt.join bk us):=by decide+kernel
theorem tQ:TT (iO K) (fT K) ["_law_number","_law_some"]:=by
 intro vs H Q E h;obtain ⟨n,rfl,q⟩:=h;unfold fT;walk_at "";refine xR ⟨by decide,by decide,by show 1 * 13<=sizeLine;exact small (by decide)⟩ ?_;walk_at "";refine ⟨by show 12<=sizeLine;decide,λp np=>?_⟩;have s1:=aC np (.lst Pw);walk_at "";obtain ⟨k,hk,hk2⟩:∃k:Nat,n % 12=(k:Nat)/\k<12:=⟨(n % 12).toNat,by lia,by lia⟩;rw[hk];have hl:SS.length=12:=by decide+kernel
 have hu:SS[k]?=some SS[k]:=getElem?_eq_getElem (by lia);refine aJ (v:=.str (Txt.join bk SS[k])) (aH.of (xs:=Pw) aA) (bI (by rw[Dg,getElem?_map,hu];rfl)) ?_;walk_at "";refine dM (small ?_) ?_
 ·have:=all_eq_true.mp NM SS[k] (getElem_mem _);unfold Px at this;rw[and_eq_true,and_eq_true] at this;have e:=of_decide_eq_true this.2.1;rw[len_app] at e;lia
 exact q _ (getElem_mem _) _ s1
def lV (K:Fg):Sp:=λvs H Q _=>∃c k:Int,vs=[.int c,.int k]/\0<=k/\k<=1000/\∀v:Int,0<=v->v<2147483563->Q (.int v) H
def jK (K:Fg):List (SX K):=
 [set 2 (bin .Mod (bin .Add (bin .Add (bin .Mult (bin .Mod (var 0) (cst (.int 2147483647))) (cst (.int 40692))) (bin .Mult (bin .Mult (cst (.int 7907)) (var 1)) (var 1))) (cst (.int 91193))) (cst (.int 2147483399))),
  ret (bin .Mod (bin .Mult (var 2) (var 2)) (cst (.int 2147483563)))]
theorem yZ:TT (lV K) (jK K) ["_law_cell","_law_k","_law_number"]:=by
 intro vs H Q E h;obtain ⟨c,k,rfl,h0,h1,q⟩:=h;unfold jK;walk_at "";exact q _ (emod_nonneg _ (by decide)) (Int.emod_lt_of_pos _ (by decide))
theorem Ky:kitOne K (.type "str") (.type "bool")=some false:=by kernel_rfl
theorem Kx:kitOne K (.type "str") (.type "int")=some false:=by kernel_rfl
def fA (K:Fg):Sp:=λvs H Q _=>∃x:V,vs=[x,x]/\((∃z:Str,x=.str z)\/∃i:Int,x=.int i)/\Q (.bl true) H
def lB (K:Fg):List (SX K):=
 [cK (cmp .Is (var 1) (cst .non)) [mG] [],
  cK (OO (var 1) CF) [mG] [],
  cK (OO (var 1) LI) [ret (jO (call "_law_whole" (lT K) [var 0]) [cmp .Eq (var 0) (var 1)])] [],
  cK (OO (var 1) uI) [ret (jO (OO (var 0) uI) [cmp .Eq (var 0) (var 1)])] [],mG,mG,mG,mG]
theorem CL:TT (fA K) (lB K) ["_law_found","_law_due","_law_one","_law_other"]:=by
 intro vs H Q E h;obtain ⟨x,rfl,h,q⟩:=h;unfold lB;walk_at "";rcases h with ⟨z,rfl⟩|⟨i,rfl⟩
 ·rw[Nd (by intro z;cases z)];refine bS ?_;walk_at "";refine ⟨_,_,cE.str z,Ky,?_⟩;walk_at "";refine bS ?_;walk_at "";refine ⟨_,_,cE.str z,Kx,?_⟩;walk_at "";refine bS ?_;walk_at "";refine ⟨_,_,cE.str z,JA,?_⟩;walk_at "";refine dE ?_;walk_at "";refine ⟨_,_,cE.str z,JA,?_⟩;walk_at "";refine dE ?_;walk_at "";rw[decide_eq_true rfl];exact q
 ·rw[Nd (by intro z;cases z)];refine bS ?_;walk_at "";refine ⟨_,_,cE.int i,YU,?_⟩;walk_at "";refine bS ?_;walk_at "";refine ⟨_,_,cE.int i,YT,?_⟩;walk_at "";refine dE ?_;walk_at "";refine ⟨i,rfl,?_⟩;walk_at "";refine dE ?_;walk_at "";rw[decide_eq_true rfl];exact q
def tn (n:Nat):Str:=ofString (toString ((n:Nat):Int))
theorem YQ (n:Nat):ls (tn n)=(toDigits 10 n).map Char.toNat:=PySem.W.KIN.signs_num n
theorem CJ {n c:Nat} (h:c∈ls (tn n)):48<=c/\c<=57:=by
 rw[YQ] at h;obtain ⟨ch,hch,rfl⟩:=mem_map.mp h;exact digit_range (Nat.isDigit_of_mem_toDigits (by decide) (by decide) hch)
theorem QK (n:Nat):1<=n->∃c r,(toDigits 10 n).map Char.toNat=c::r/\49<=c:=by
 induction n using Nat.strongRecOn with
 |_ n ih=>
  intro h;by_cases h9:n<10
  ·rw[Nat.toDigits_of_lt_base h9];refine ⟨_,_,rfl,?_⟩;have:∀d:Nat,d<10->1<=d->49<=(Nat.digitChar d).toNat:=by decide
   exact this n h9 h
  ·have t:toDigits 10 (n / 10)++toDigits 10 (n % 10)=toDigits 10 (10 * (n / 10)+n % 10):=Nat.toDigits_append_toDigits (by decide) (by lia) (Nat.mod_lt n (by decide));rw[Nat.div_add_mod] at t;obtain ⟨c,r,e,hc⟩:=ih (n / 10) (by lia) (by lia);rw[<-t,map_append,e];exact ⟨c,_,rfl,hc⟩
theorem iG {n:Nat} (h:n<10000000000):(tn n).length<=10:=PySem.W.KT.len_num (n:=(n:Int)) (by lia) (by lia)
theorem vZ {n:Nat} (h:n<10000000000):PySem.intText? (tn n)=some (n:Int):=PySem.W.KIN.num_reads (n:=(n:Int)) (by lia) (by lia)
theorem LO {n:Nat} (h:n<10000000000):fK (tn n)=true:=by
 unfold fK;by_cases h0:tn n=ofString "0"
 ·rw[if_pos h0]
 ·have hl:=iG h;have n1:1<=n:=by
   cases n with
   |zero=>exact absurd (by decide+kernel) h0
   |succ n=>lia
  obtain ⟨c,r,e,hc⟩:=QK n n1;rw[<-YQ] at e;have l1:1<=(tn n).length:=by rw[<-bJ,e];simp
  have hs:startswith (tn n) (ofString "0")=false:=by
   have z:ofString "0"=⟨#[48]⟩:=by decide+kernel
   rw[z,qK _ _ l1,e];exact decide_eq_false (by simp;lia)
  rw[if_neg h0,if_neg (by rw[hs];intro k;rcases k with k|k|k<;>first|lia|cases k)];refine all_eq_true.mpr λc hc=>?_;have f:∀c:Nat,c<58->48<=c->WU c=true:=by decide+kernel
  exact f c (by have:=CJ hc;lia) (CJ hc).1
theorem XW {n:Nat} (h:n<10000000000):Nt (tn n):=⟨by have:=iG h;lia,λ_=>⟨n,vZ h⟩⟩
theorem XX (n:Nat):32∉ls (tn n):=λh=>by have:=CJ h;lia
theorem MH {z w:Str} {us:List Str} (e:ls z=jn ((w::us).map ls)) (bf:BF (w::us)) (hs:startswith z (ofString "rule ")=false) (hl:z.length<=100000) (hn:∀a∈us,Nt a) (hr:kT w us=true) (hf:us.length<=1000):Row z w us:=
 ⟨hs,hl,by
  have ez:z=Txt.join bk (w::us):=gQ (by rw[e,FO])
  rw[ez]
  exact qN (λk=>nomatch k) bf,hn,hr,hf⟩
theorem nE {a y d:Str} (h:d.length<=a.length):startswith (a++y) d=startswith a d:=by
 have la:a.cps.toList.length=a.length:=length_toList;have s:Builtin.Str.subAt (a++y) d 0=Builtin.Str.subAt a d 0:=by
  rw[subAt_eq,subAt_eq,show (a++y).cps.toList=_ from kW a y,drop_zero,drop_zero,List.take_append_of_le_length (by rw[la];exact h)]
 unfold startswith;rw[s,decide_eq_true (show 0+d.length<=(a++y).length by rw[len_app];lia),decide_eq_true (show 0+d.length<=a.length by lia)]
theorem EW {w wb:Str} (hb:ls wb=ls w++[32]) (w1:32∉ls w) (w2:startswith wb (ofString "rule ")=false) (w3:5<=wb.length) (w4:wb.length<=100) (hr:∀a,fK a=true->kT w [a]=true) {n:Nat} (h:n<10000000000):Row (wb++tn n) w [tn n]:=by
 refine MH (by rw[kW,hb,List.append_assoc];rfl) (λu hu=>?_) ?_ ?_ (λa ha=>?_) (hr _ (LO h)) (by simp)
 ·rcases mem_cons.mp hu with rfl|hu
  ·exact w1
  ·rw[mem_singleton.mp hu];exact XX n
 ·rw[nE (by show 5<=_;exact w3),w2]
 ·have:=iG h;rw[len_app];lia
 ·rw[mem_singleton.mp ha];exact XW h
abbrev bL:Str:=ofString "letter "
abbrev bC:Str:=ofString "counts "
abbrev bT:Str:=ofString "stretch "
theorem Kv:bL.length=7:=by decide+kernel
theorem Kw:bC.length=7:=by decide+kernel
theorem Ku:bT.length=8:=by decide+kernel
theorem YE {w a:Str} (h1:¬w=ofString "start") (h2:BY (.str w) lcs=true) (ha:fK a=true):Pg w [a]=true:=by
 show (if w=ofString "start" then pX a 1 else if BY (.str w) lcs=true then fK a else if w=ofString "pieces" then kJ a 20 else decide (w=ofString "again")&&pX a 12)=true;rw[if_neg h1,if_pos h2,ha]
theorem qY {n:Nat} (h:n<10000000000):Row (bL++tn n) sL [tn n]:=EW (by decide+kernel) (by decide+kernel) (by decide+kernel) (by decide+kernel) (by decide+kernel) (λa ha=>by
 unfold kT Bg Ha
 rw[if_neg (by decide+kernel),if_neg (by decide+kernel),if_neg (by decide+kernel)]
 exact YE (by decide+kernel) (by decide+kernel) ha) h
theorem qZ {n:Nat} (h:n<10000000000):Row (bC++tn n) sC [tn n]:=EW (by decide+kernel) (by decide+kernel) (by decide+kernel) (by decide+kernel) (by decide+kernel) (λa ha=>by
 unfold kT Bg Ha
 rw[if_neg (by decide+kernel),if_neg (by decide+kernel),if_neg (by decide+kernel)]
 exact YE (by decide+kernel) (by decide+kernel) ha) h
theorem oK {u ub:Str} (hu:ls ub=32::ls u) (u1:32∉ls u) (u2:ub.length<=100) (u3:Nt u) (u4:kJ u 200=true) {n:Nat} (h:n<10000000000):Row (bT++tn n++ub) sT [tn n,u]:=by
 refine MH ?_ (λv hv=>?_) ?_ ?_ (λa ha=>?_) ?_ (by simp)
 ·rw[kW,kW,hu,show ls bT=ls sT++[32] by decide+kernel,List.append_assoc,List.append_assoc];rfl
 ·rcases mem_cons.mp hv with rfl|hv
  ·decide+kernel
  ·rcases mem_cons.mp hv with rfl|hv
   ·exact XX n
   ·rw[mem_singleton.mp hv];exact u1
 ·rw[nE (by rw[len_app];exact Nat.le_trans (by decide+kernel) (Nat.le_add_right _ _)),nE (by decide+kernel)];decide+kernel
 ·have:=iG h;have e:bT.length=8:=by decide+kernel
  rw[len_app,len_app];lia
 ·rcases mem_cons.mp ha with rfl|ha
  ·exact XW h
  ·rw[mem_singleton.mp ha];exact u3
 ·unfold kT Bg;rw[if_neg (by decide+kernel),if_pos rfl];show (fK (tn n)&&kJ u 200)=true;rw[LO h,u4];rfl
def Rn (z w:Str) (us:List Str):Bool:=!Txt.startswith z (ofString "rule ")&&(decide (z.length<=100000)&&(decide (Txt.split z (ofString " ")=w::us)&&(us.all Hc&&(kT w us&&decide (us.length<=1000)))))
theorem cH {z w:Str} {us:List Str} (h:Rn z w us=true):Row z w us:=by
 unfold Rn at h;simp only [and_eq_true] at h;obtain ⟨h1,h2,h3,h4,h5,h6⟩:=h;exact ⟨by simpa using h1,of_decide_eq_true h2,of_decide_eq_true h3,λa ha=>AF (all_eq_true.mp h4 a ha),h5,of_decide_eq_true h6⟩
theorem nH:Row sM sM []:=cH (by decide+kernel)
theorem HW:Row (ofString "keeps") (ofString "keeps") []:=cH (by decide+kernel)
theorem qX:Row sH sH []:=cH (by decide+kernel)
theorem CY:Row (ofString "start a") sS [aP [97]]:=cH (by decide+kernel)
theorem Ay:Row (ofString "start c") sS [aP [99]]:=cH (by decide+kernel)
theorem MG:Row (ofString "start d") sS [aP [100]]:=cH (by decide+kernel)
theorem Ba:Row (ofString "pieces 2") (ofString "pieces") [ofString "2"]:=cH (by decide+kernel)
theorem Bf:Row (ofString "again a") sA [ofString "a"]:=cH (by decide+kernel)
theorem MI:Row (ofString "again b") sA [ofString "b"]:=cH (by decide+kernel)
theorem Be:Row (ofString "again d") sA [ofString "d"]:=cH (by decide+kernel)
def ct (l:List String) (as:List (EX K)):List (EX K):=l.map (λs=>cst (.str (ofString s)))++as
def cv (l:List String):List V:=l.map λs=>.str (ofString s)
theorem vV {E:XS} {σ:St} {H:Hp} {as:List (EX K)}:∀{l:List String} {Q:List V->Hp->Prop},(fF as E σ H λvs H1=>Q (cv l++vs) H1)->fF (ct l as) E σ H Q
 |[],_,h=>h
 |s::l,Q,h=>xS (ZA (vV (l:=l) h))
def Gs (xs:List V):Prop:=∀v∈xs,∃z:Str,v=.str z/\yD z=true
theorem Gs.app {xs ys:List V} (h:Gs xs) (g:Gs ys):Gs (xs++ys):=λv hv=>(mem_append.mp hv).elim (h v) (g v)
def cB (l:List String):Bool:=l.all λs=>yD (ofString s)
theorem Gs.of {l:List String} (h:cB l=true):Gs (cv l):=λv hv=>by
 obtain ⟨s,hs,rfl⟩:=mem_map.mp hv;exact ⟨_,rfl,all_eq_true.mp h s hs⟩
theorem Gs.one {z:Str} (h:yD z=true):Gs [.str z]:=λv hv=>⟨z,mem_singleton.mp hv,h⟩
section
variable {E:XS} {D:Ends} {H:Hp} {p:Addr} {xs:List V} {ss:List (SX K)} {n:Option V} {l:List String}
theorem yN {as:List (EX K)} (ys:List V) (ha:∀Q:List V->Hp->Prop,Q ys H->fF as E [n,some (.ref p)] H Q) (hp:H p=some (.lst xs)) (g:Gs xs) (gy:Gs ys) (hx:xs.length<=1000) (hy:ys.length<=20)
  (h:∀r H1 xs',aB H H1->H1 r=some (.lst xs')->Gs xs'->xs'.length<=xs.length+20->eI ss E D [n,some (.ref r)] H1):eI (set 1 (bin .Add (var 1) (lst as))::ss) E D [n,some (.ref p)] H:=by
 refine kH (FZ (ZC (FX rfl (OY (ha _ ⟨small (by lia),λq nq=>?_⟩)))));have s1:=aC nq (.lst ys);refine rZ (s1 _ _ hp) aA (small (by lia)) λr nr=>?_;exact h r _ _ (s1.trans (aC nr _)) aA (g.app gy) (by rw[length_append];lia)
theorem jP (gy:cB l=true) (hp:H p=some (.lst xs)) (g:Gs xs) (hx:xs.length<=1000) (hy:l.length<=20)
  (h:∀r H1 xs',aB H H1->H1 r=some (.lst xs')->Gs xs'->xs'.length<=xs.length+20->eI ss E D [n,some (.ref r)] H1):eI (set 1 (bin .Add (var 1) (lst (ct l [])))::ss) E D [n,some (.ref p)] H:=
 have e:(cv l).length=l.length:=length_map _
 yN (cv l) (λQ q=>vV (nS (by rw[append_nil];exact q))) hp g (.of gy) hx (by rw[e];exact hy) h
end
def Gu (K:Fg) (H:Hp) (v:V):Prop:=(∃z:Str,v=.str z/\yD z=true)\/oU K "str" H v
def qS (K:Fg):Sp:=λvs H Q _=>∃n:Int,vs=[.int n]/\∀v H',aB H H'->Gu K H' v->Q v H'
def n1:List String:=[""," ","rule","rul ab a","Rule ab a","start","start ab","start e","start A","start a b","start "]
def n2:List String:=["letter","letter ","letter a","letter -1","letter 01","letter 1 2","letter 00","letter +1"]
def n3:List String:=["letter 1.0","letter  1","letter 1 "," letter 1","Letter 1","letters 1"]
def n4:List String:=["stretch 1","stretch 1 0","stretch 1 201","stretch 1 01","stretch 1 2 3","stretch a 1"]
def n5:List String:=["stretch  1 2","stretch 1 -2","counts","counts x","counts -0","counts 1 1","count 1"]
def n6:List String:=["pieces 0","pieces 21","pieces","pieces 03","pieces 1 2","pieces a","again","again "]
def n7:List String:=["again abe","again A"]
def n8:List String:=["again a b","again 1","mixes ","mixes 1"," mixes","mix","keeps a","keep"]
def n9:List String:=["shares 1","share","repeat a 2 1","repeat a 2 1 from ","repeat  2 1 from","repeat a 1 1 from"]
def Rr:List String:=["repeat a 2 3 above","repeat a 2 0 from","repeat a 101 2 from","repeat a 02 1 from","repeat a"]
def Py:List String:=["repeat e 2 1 from","repeat a 2 1 below","repeat a 2 1 From"]
def Rq:List String:=["repeat a -2 1 from","repeat a b 2 1 from","letter 1\n","letter\t1","\nmixes","letter one","?"]
abbrev pu (l:List (EX K)):SX K:=set 1 (bin .Add (var 1) (lst l))
abbrev tm (s:String) (n:Int):EX K:=bin .Mult (cst (.str (ofString s))) (cst (.int n))
def oB (K:Fg):List (SX K):=
 [set 1 (lst (ct n1 [])),pu (ct n2 []),pu (bin .Add (cst (.str "letter ")) (tm "1" 31)::ct n3 []),pu (ct n4 []),pu (ct n5 []),pu (ct n6 []),pu (ct n7 []),pu (bin .Add (cst (.str "again ")) (tm "a" 13)::ct n8 []),pu (ct n9 []),pu (ct Rr []),
  pu (ct Py [bin .Add (bin .Add (cst (.str "repeat ")) (tm "a" 301)) (cst (.str " 2 1 from"))]),pu (ct Rq []),pu [cst .non,cst (.int 0),cst (.bl true),lst [cst (.str "letter 1")],tup [cst (.str "mixes")],Nb,cst (.int 7)],
  ret (ix (var 1) (bin .Mod (var 0) (len (var 1))))]
theorem g1:cB n1=true:=by decide+kernel
theorem g2:cB n2=true:=by decide+kernel
theorem g3:cB n3=true:=by decide+kernel
theorem g4:cB n4=true:=by decide+kernel
theorem g5:cB n5=true:=by decide+kernel
theorem g6:cB n6=true:=by decide+kernel
theorem g7:cB n7=true:=by decide+kernel
theorem g8:cB n8=true:=by decide+kernel
theorem g9:cB n9=true:=by decide+kernel
theorem Uv:cB Rr=true:=by decide+kernel
theorem Uu:cB Py=true:=by decide+kernel
theorem Ut:cB Rq=true:=by decide+kernel
theorem Ur:yD (ofString "letter "++mul (ofString "1") 31)=true:=by decide+kernel
theorem Us:yD (ofString "again "++mul (ofString "a") 13)=true:=by decide+kernel
theorem Qv:yD (ofString "repeat "++mul (ofString "a") 301++ofString " 2 1 from")=true:=by decide+kernel
theorem Ai {E:XS} {D:Ends} {H:Hp} {p:Addr} {xs:List V} {n:Int} (hp:H p=some (.lst xs)) (g:Gs xs) (hx:xs.length<=1000) (q:∀v H',aB H H'->Gu K H' v->D.rt v H'):
  eI [pu [cst .non,cst (.int 0),cst (.bl true),lst [cst (.str "letter 1")],tup [cst (.str "mixes")],Nb,cst (.int 7)],(ret (ix (var 1) (bin .Mod (var 0) (len (var 1)))):SX K)] E D [some (.int n),some (.ref p)] H:=by
 walk_at "";refine ⟨by show 1<=sizeLine;decide,λp1 m1=>?_⟩;have s1:=aC m1 (.lst [.str (ofString "letter 1")]);have e1:upd H p1 (.lst [.str (ofString "letter 1")]) p1=some (.lst [.str (ofString "letter 1")]):=aA;revert s1 e1;generalize upd H p1 (.lst [.str (ofString "letter 1")])=H1;intro s1 e1;walk_at "";refine ⟨by show 1<=sizeLine;decide,λp2 m2=>?_⟩;have s2:=aC m2 (.tup [.str (ofString "mixes")]);have e2:upd H1 p2 (.tup [.str (ofString "mixes")]) p2=some (.tup [.str (ofString "mixes")]):=aA;revert s2 e2;generalize upd H1 p2 (.tup [.str (ofString "mixes")])=H2;intro s2 e2;walk_at "";intro p3 m3;have s3:=aC m3 (.dK []);have e3:upd H2 p3 (.dK []) p3=some (.dK []):=aA;revert s3 e3;generalize upd H2 p3 (.dK [])=H3;intro s3 e3;walk_at "";refine ⟨by show 7<=sizeLine;decide,λp4 m4=>?_⟩;have s4:=aC m4 (.lst [.non,.int 0,.bl true,.ref p1,.ref p2,.ref p3,.int 7]);refine rZ (s4 _ _ (s3 _ _ (s2 _ _ (s1 _ _ hp)))) aA (small (by simp;lia)) λp5 m5=>?_;have s5:=aC m5 (.lst (xs++[.non,.int 0,.bl true,.ref p1,.ref p2,.ref p3,.int 7]));have s25:=(s3.trans s4).trans s5;have s15:=(s2.trans s25);have s05:=s1.trans s15;have e5:upd (upd H3 p4 (.lst [.non,.int 0,.bl true,.ref p1,.ref p2,.ref p3,.int 7])) p5 (.lst (xs++[.non,.int 0,.bl true,.ref p1,.ref p2,.ref p3,.int 7])) p5=some (.lst (xs++[.non,.int 0,.bl true,.ref p1,.ref p2,.ref p3,.int 7])):=aA;have e35:=(s4.trans s5) _ _ e3;revert s5 s25 s15 s05 e5 e35;generalize upd (upd H3 p4 (.lst [.non,.int 0,.bl true,.ref p1,.ref p2,.ref p3,.int 7])) p5 (.lst (xs++[.non,.int 0,.bl true,.ref p1,.ref p2,.ref p3,.int 7]))=H5;intro s5 s25 s15 s05 e5 e35;walk_at "";refine eO (aH.of e5) ?_;have hall:∀v∈xs++[.non,.int 0,.bl true,.ref p1,.ref p2,.ref p3,.int 7],Gu K H5 v:=λv hv=>by
  rcases mem_append.mp hv with hv|hv
  ·exact .inl (g v hv)
  ·right;simp only [mem_cons,not_mem_nil,or_false] at hv;rcases hv with rfl|rfl|rfl|rfl|rfl|rfl|rfl
   ·exact ⟨_,cE.non,by kernel_rfl⟩
   ·exact ⟨_,cE.int 0,YS⟩
   ·exact ⟨_,cE.bl true,by kernel_rfl⟩
   ·exact ⟨_,cE.lst (s15 _ _ e1),by kernel_rfl⟩
   ·exact ⟨_,cE.tup (s25 _ _ e2),by kernel_rfl⟩
   ·exact ⟨_,cE.dK e35,by kernel_rfl⟩
   ·exact ⟨_,cE.int 7,YS⟩
 revert e5 hall;have hl:0<(xs++[.non,.int 0,.bl true,.ref p1,.ref p2,.ref p3,.int 7]:List V).length:=by simp
 revert hl;generalize (xs++[.non,.int 0,.bl true,.ref p1,.ref p2,.ref p3,.int 7]:List V)=ys;intro hl e5 hall;walk_at "";obtain ⟨k,hk,hk2⟩:∃k:Nat,n % (ys.length:Int)=(k:Nat)/\k<ys.length:=⟨(n % (ys.length:Int)).toNat,by
  have:=emod_nonneg n (show (ys.length:Int)≠0 by lia)
  lia,by
  have:=emod_nonneg n (show (ys.length:Int)≠0 by lia)
  have:=Int.emod_lt_of_pos n (show (0:Int)<ys.length by lia)
  lia⟩
 rw[hk];exact aJ (v:=ys[k]) (aH.of e5) (bI (getElem?_eq_getElem hk2)) (q _ _ s05 (hall _ (getElem_mem _)))
theorem HI:TT (qS K) (oB K) ["_law_number","_law_some"]:=by
 intro vs H Q E h;obtain ⟨n,rfl,q⟩:=h;unfold oB;refine kH (FZ (OY (vV (nS ⟨by show 11<=sizeLine;decide,λp0 m0=>?_⟩))));have l0:(cv n1).length=11:=rfl;refine jP (p:=p0) (xs:=cv n1) g2 aA (.of g1) (by lia) (by decide) λp1 H1 x1 s1 e1 k1 l1=>?_;refine yN (.str (ofString "letter "++mul (ofString "1") 31)::cv n3) (λQ' q'=>?_) e1 k1 ((Gs.one Ur).app (.of g3)) (by lia) (by decide) λp2 H2 x2 s2 e2 k2 l2=>?_
 ·walk_at "";refine xR ⟨by decide,by decide,by show 1 * 31<=sizeLine;exact small (by decide)⟩ ?_;walk_at "";refine dM (by decide+kernel) ?_;exact vV (nS q')
 refine jP g4 e2 k2 (by lia) (by decide) λp3 H3 x3 s3 e3 k3 l3=>?_;refine jP g5 e3 k3 (by lia) (by decide) λp4 H4 x4 s4 e4 k4 l4=>?_;refine jP g6 e4 k4 (by lia) (by decide) λp5 H5 x5 s5 e5 k5 l5=>?_;refine jP g7 e5 k5 (by lia) (by decide) λp6 H6 x6 s6 e6 k6 l6=>?_;refine yN (.str (ofString "again "++mul (ofString "a") 13)::cv n8) (λQ' q'=>?_) e6 k6 ((Gs.one Us).app (.of g8)) (by lia) (by decide) λp7 H7 x7 s7 e7 k7 l7=>?_
 ·walk_at "";refine xR ⟨by decide,by decide,by show 1 * 13<=sizeLine;exact small (by decide)⟩ ?_;walk_at "";refine dM (by decide+kernel) ?_;exact vV (nS q')
 refine jP g9 e7 k7 (by lia) (by decide) λp8 H8 x8 s8 e8 k8 l8=>?_;refine jP Uv e8 k8 (by lia) (by decide) λp9 H9 x9 s9 e9 k9 l9=>?_;refine yN (cv Py++[.str (ofString "repeat "++mul (ofString "a") 301++ofString " 2 1 from")]) (λQ' q'=>?_) e9 k9 ((Gs.of Uu).app (.one Qv)) (by lia) (by decide) λp10 H10 x10 s10 e10 k10 l10=>?_
 ·refine vV ?_;walk_at "";refine xR ⟨by decide,by decide,by show 1 * 301<=sizeLine;exact small (by decide)⟩ ?_;walk_at "";refine dM (by decide+kernel) ?_;walk_at "";refine dM (by decide+kernel) ?_;walk_at "";exact q'
 refine jP Ut e10 k10 (by lia) (by decide) λp11 H11 x11 s11 e11 k11 l11=>?_;refine Ai e11 k11 (by lia) λv H' s12 b=>q v H' ?_ b;exact (aC m0 _).trans (s1.trans (s2.trans (s3.trans (s4.trans (s5.trans (s6.trans (s7.trans (s8.trans (s9.trans (s10.trans (s11.trans s12)))))))))))
def Sd (K:Fg) (x:Addr) (z:Str) (v:V) (H:Hp):Prop:=∀(Q:VK) (E:XK),(∀H',aB H H'->Q v H')->aZ K [.ref x,.str z] H Q E
def Std (K:Fg) (H:Hp) (x p:Addr):Prop:=∃(dx:Addr) (r s:V) (ps:List (Addr × Str × Str)),H x=some (Dk K dx r s)/\H p=some (.lst (ps.map λt=>.ref t.1))/\∀t∈ps,H t.1=some (.tup [.str t.2.1,.str t.2.2])/\∀H',aB H H'->Sd K x t.2.1 (.str t.2.2) H'
theorem Std.same {H H':Hp} {x p:Addr} (h:Std K H x p) (e:aB H H'):Std K H' x p:=by
 obtain ⟨dx,r,s,ps,hx,hp,hs⟩:=h;exact ⟨dx,r,s,ps,e _ _ hx,e _ _ hp,λt ht=>⟨e _ _ (hs t ht).1,λH2 s2=>(hs t ht).2 H2 (e.trans s2)⟩⟩
def dO (K:Fg):Sp:=λvs H Q _=>∃x p:Addr,vs=[.ref x,.ref p]/\Std K H x p/\∀H',aB H H'->Q (.bl true) H'
def gW (K:Fg):List (SX K):=
 [kX (GZ [2,3]) (gG (var 1)) [cK (cI (call "_law_same" (fA K) [SU (var 0) "Desk" "say" (aZ K) (var 2),var 3])) [ret (cst (.bl false))] []],
  ret (cst (.bl true))]
theorem wF:TT (dO K) (gW K) ["_law_desk","_law_due","_law_row","_law_found"]:=by
 intro vs H Q E h;obtain ⟨x,p,rfl,⟨dx,r,s,ps,hx,hp,hs⟩,q⟩:=h;unfold gW;walk_at "";refine mM (aH.of hp) ?_;refine mI (aH.of hp) (λ_ σ=>∃b2 b3,σ=[some (.ref x),some (.ref p),b2,b3]) ⟨none,none,rfl⟩ (λi v σ H1 hv ⟨b2,b3,e⟩ s1=>?_) λσ H1 ⟨b2,b3,e⟩ s1=>?_
 ·subst e;obtain ⟨t,ht,rfl⟩:=mem_map.mp (mem_of_getElem? hv);obtain ⟨h1,h2⟩:=hs t ht;refine rR (bX.of (s1 _ _ h1)) ?_;walk_at "";refine mL ?_;walk_at "";refine ⟨⟨x,dx,_,rfl,s1 _ _ hx,rfl⟩,?_⟩;walk_at "";refine h2 H1 s1 _ _ λH2 s2=>?_;walk_at "";refine ⟨_,rfl,.inl ⟨_,rfl⟩,?_⟩;walk_at "";refine bS ?_;walk_at "";exact ⟨⟨_,_,rfl⟩,s1.trans s2⟩
 ·subst e;walk_at "";exact q H1 s1
def iL (K:Fg):Sp:=λvs H Q _=>∃(a x p:Addr) (ns:List Int),vs=[.ref a,.ref x,.ref p]/\aH K H a (ns.map V.int)/\KX K/\Std K H x p/\∀H',aB H H'->Q (.bl true) H'
def lC (K:Fg):List (SX K):=
 [kX (iV 3) (xT (min2 (max2 (len (var 0)) (cst (.int 6))) (cst (.int 20))) []) [set 4 (call "_law_mixed" (lV K) [call "_law_raw" (K81.gK K) [var 0,var 3],var 3]),
   cK (cI (call "_law_refused" (aI K) [var 1,call "_law_bad" (qS K) [bin .Add (bin .FloorDiv (var 4) (cst (.int 8))) (bin .Mult (cst (.int 13)) (var 3))],cst (.int 0),cst .non])) [ret (cst (.bl false))] [],
   cK (jO (cmp .Eq (bin .Mod (var 4) (cst (.int 3))) (cst (.int 0))) [cI (call "_law_refused" (aI K) [var 1,call "_law_no_rule" (iO K) [bin .FloorDiv (var 4) (cst (.int 8))],cst (.int 1),cst .non])]) [ret (cst (.bl false))] [],
   cK (cI (call "_law_stands" (dO K) [var 1,var 2])) [ret (cst (.bl false))] []],
  ret (cst (.bl true))]
theorem WX:EJ .non .non true:=.inr (.inr (.inr (.inl ⟨rfl,rfl,rfl⟩)))
theorem CM:TT (iL K) (lC K) ["_law_script","_law_desk","_law_due","_law_k","_law_number"]:=by
 intro vs H Q E h;obtain ⟨a,x,p,ns,rfl,hS,kx,hD,q⟩:=h;unfold lC;walk_at "";refine IU (λ_ σ=>∃b3 b4,σ=[some (.ref a),some (.ref x),some (.ref p),b3,b4]) ⟨none,none,rfl⟩ (λi σ H1 hi ⟨b3,b4,e⟩ s1=>?_) λσ H1 ⟨b3,b4,e⟩ s1=>?_
 ·subst e;walk_at "";refine ⟨a,ns,_,rfl,s1.seq hS,by lia,λv=>?_⟩;walk_at "";refine ⟨v,_,rfl,by lia,by lia,λv2 h20 h21=>?_⟩;walk_at "";refine ⟨_,rfl,λw H2 s2 hb=>?_⟩;walk_at "";have s12:=s1.trans s2;obtain ⟨dx,r,s,ps,hx,hp,hs⟩:=hD.same s12;refine ⟨x,dx,r,s,w,0,.non,rfl,hx,WX,?_,λH3 s3=>?_⟩
  ·rcases hb with ⟨z,rfl,hb⟩|hb
   ·exact Bi kx hb
   ·exact Bh kx hb
  walk_at "";refine bS ?_;walk_at "";have last:∀H4,aB H H4->eI [(cK (cI (call "_law_stands" (dO K) [var 1,var 2])) [ret (cst (.bl false))] []:SX K)] (λ_=>E) {nx:=λσ H'=>(∃b3 b4,σ=[some (.ref a),some (.ref x),some (.ref p),b3,b4])/\aB H H',rt:=Q} [some (.ref a),some (.ref x),some (.ref p),some (.int (0+(i:Nat))),some (.int v2)] H4:=λH4 s4=>by
   walk_at "";refine ⟨x,p,rfl,hD.same s4,λH5 s5=>?_⟩;walk_at "";refine bS ?_;walk_at "";exact ⟨⟨_,_,rfl⟩,s4.trans s5⟩
  refine eQ (λc=>?_) λc=>?_
  ·walk_at "";refine ⟨_,rfl,λus hu H4 s4=>?_⟩;walk_at "";have s34:=s3.trans s4;refine ⟨x,dx,r,s,_,1,.non,rfl,s34 _ _ hx,WX,Ji kx hu (s34 _ _ hx),λH5 s5=>?_⟩;walk_at "";refine bS ?_;exact last H5 (s12.trans (s34.trans s5))
  ·refine bS ?_;exact last H3 (s12.trans s3)
 ·subst e;walk_at "";exact q H1 s1
def Sf (z:Str):Prop:=∃(w:Str) (us:List Str),Row z w us/\w≠sR/\w≠sP/\w≠sS/\1<=us.length
def eM (K:Fg):Sp:=λvs H Q _=>∃n:Int,vs=[.int n]/\0<=n/\n<2147483647/\∀z p H',aB H H'->Sf z->H' p=some (.lst [.str z])->Q (.ref p) H'
def fS (K:Fg):List (SX K):=
 [set 1 (HM (bin .Mod (bin .FloorDiv (var 0) (cst (.int 8))) (cst (.int 1000)))),
  ret (lst [ix (lst [bin .Add (cst (.str "letter ")) (var 1),bin .Add (bin .Add (cst (.str "stretch ")) (var 1)) (cst (.str " 3")),bin .Add (cst (.str "counts ")) (var 1),cst (.str "pieces 2"),cst (.str "again a")]) (bin .Mod (var 0) (cst (.int 5)))])]
theorem Dj {n:Nat} (h:n<2 ^ 1920):((n:Nat):Int).natAbs.log2<1920:=by
 rw[Int.natAbs_natCast];cases n with
 |zero=>decide
 |succ n=>exact (Nat.log2_lt (by lia)).mpr h
theorem xJ {n:Nat} (h:n<10000000000):((n:Nat):Int).natAbs.log2<1920:=Dj (lt_of_lt_of_le h (Nat.le_trans (show 10000000000<=2 ^ 34 by decide) (Nat.pow_le_pow_right (by decide) (by decide))))
theorem tP:TT (eM K) (fS K) ["_law_number","_law_place"]:=by
 intro vs H Q E h;obtain ⟨n,rfl,n0,n1,q⟩:=h;unfold fS;walk_at "";refine rW ?_;walk_at "";obtain ⟨k,hk,hk2⟩:∃k:Nat,n / 8 % 1000=(k:Nat)/\k<1000:=⟨(n / 8 % 1000).toNat,by lia,by lia⟩;rw[hk];have k10:k<10000000000:=by lia
 refine rX (xJ k10) ?_;walk_at "";have hl:=iG k10;refine dM (y:=bL) (z:=tn k) (small (by rw[Kv];lia)) ?_;walk_at "";refine dM (y:=bT) (z:=tn k) (small (by rw[Ku];lia)) ?_;walk_at "";refine dM (y:=bT++tn k) (z:=ofString " 3") (small (by
  have:bT.length=8:=by decide+kernel
  have:(ofString " 3").length=2:=by decide+kernel
  rw[len_app]
  lia)) ?_
 walk_at "";refine dM (y:=bC) (z:=tn k) (small (by rw[Kw];lia)) ?_;walk_at "";refine ⟨by show 5<=sizeLine;decide,λp1 m1=>?_⟩;have hall:∀v∈[V.str (bL++tn k),.str (bT++tn k++ofString " 3"),.str (bC++tn k),.str (ofString "pieces 2"),.str (ofString "again a")],∃z,v=.str z/\Sf z:=λv hv=>by
  simp only [mem_cons,not_mem_nil,or_false] at hv;rcases hv with rfl|rfl|rfl|rfl|rfl
  ·exact ⟨_,rfl,_,_,qY k10,by decide+kernel,by decide+kernel,by decide+kernel,by simp⟩
  ·exact ⟨_,rfl,_,_,oK (u:=ofString "3") (by decide+kernel) (by decide+kernel) (by decide+kernel) (AF (by decide+kernel)) (by decide+kernel) k10,by decide+kernel,by decide+kernel,by decide+kernel,by simp⟩
  ·exact ⟨_,rfl,_,_,qZ k10,by decide+kernel,by decide+kernel,by decide+kernel,by simp⟩
  ·exact ⟨_,rfl,_,_,Ba,by decide+kernel,by decide+kernel,by decide+kernel,by simp⟩
  ·exact ⟨_,rfl,_,_,Bf,by decide+kernel,by decide+kernel,by decide+kernel,by simp⟩
 have s1:=aC m1 (.lst [.str (bL++tn k),.str (bT++tn k++ofString " 3"),.str (bC++tn k),.str (ofString "pieces 2"),.str (ofString "again a")]);have hp:upd H p1 (.lst [.str (bL++tn k),.str (bT++tn k++ofString " 3"),.str (bC++tn k),.str (ofString "pieces 2"),.str (ofString "again a")]) p1=some (.lst [.str (bL++tn k),.str (bT++tn k++ofString " 3"),.str (bC++tn k),.str (ofString "pieces 2"),.str (ofString "again a")]):=aA;have h5:[V.str (bL++tn k),.str (bT++tn k++ofString " 3"),.str (bC++tn k),.str (ofString "pieces 2"),.str (ofString "again a")].length=5:=rfl;revert hall s1 hp h5;generalize [V.str (bL++tn k),.str (bT++tn k++ofString " 3"),.str (bC++tn k),.str (ofString "pieces 2"),.str (ofString "again a")]=ys;intro hall s1 hp h5;walk_at "";obtain ⟨j,hj,hj2⟩:∃j:Nat,n % 5=(j:Nat)/\j<5:=⟨(n % 5).toNat,by lia,by lia⟩;rw[hj];obtain ⟨z,ez,hz⟩:=hall ys[j] (getElem_mem _);refine aJ (v:=ys[j]) (aH.of hp) (bI (getElem?_eq_getElem (by lia))) ?_;rw[ez];walk_at "";exact ⟨by show 1<=sizeLine;decide,λp2 m2=>q z p2 _ (s1.trans (aC m2 _)) hz aA⟩
def iK (K:Fg):Sp:=λvs H Q _=>∃(x dx:Addr) (s:V) (n:Int),vs=[.ref x,.int n]/\0<=n/\n<2147483647/\KX K/\H x=some (Dk K dx .non s)/\∀H',aB H H'->Q (.bl true) H'
def fQ (K:Fg):List (SX K):=
 [kX (iV 2) (gG (bin .Add (lst [cst (.str "mixes"),cst (.str "keeps"),cst (.str "shares"),cst (.str "start a")]) (call "_law_of_word" (eM K) [var 1]))) [cK (cI (call "_law_refused" (aI K) [var 0,var 2,cst (.int 1),cst .non])) [ret (cst (.bl false))] []],
  ret (call "_law_same" (fA K) [SU (var 0) "Desk" "say" (aZ K) (cst (.str "repeat abab 2 1 from")),cst (.str "0 4 2")])]
theorem tM:TT (iK K) (fQ K) ["_law_desk","_law_number","_law_row"]:=by
 intro vs H Q E h;obtain ⟨x,dx,s,n,rfl,n0,n1,kx,hx,q⟩:=h;unfold fQ;walk_at "";refine ⟨by show 4<=sizeLine;decide,λp1 m1=>?_⟩;have s1:=aC m1 (.lst [.str (ofString "mixes"),.str (ofString "keeps"),.str (ofString "shares"),.str (ofString "start a")]);walk_at "";refine ⟨n,rfl,n0,n1,λz p2 H2 s2 hz h2=>?_⟩;refine rZ (s2 _ _ aA) h2 (by show 4+1<=sizeLine;decide) λp3 m3=>?_;have hall:∀v∈([.str (ofString "mixes"),.str (ofString "keeps"),.str (ofString "shares"),.str (ofString "start a")]++[.str z]:List V),∃z w us,v=.str z/\Row z w us/\w≠sR/\w≠sP:=λv hv=>by
  simp only [cons_append,nil_append,mem_cons,not_mem_nil,or_false] at hv;rcases hv with rfl|rfl|rfl|rfl|rfl
  ·exact ⟨_,_,_,rfl,nH,by decide+kernel,by decide+kernel⟩
  ·exact ⟨_,_,_,rfl,HW,by decide+kernel,by decide+kernel⟩
  ·exact ⟨_,_,_,rfl,qX,by decide+kernel,by decide+kernel⟩
  ·exact ⟨_,_,_,rfl,CY,by decide+kernel,by decide+kernel⟩
  ·obtain ⟨w,us,R,a1,a2,_⟩:=hz;exact ⟨_,_,_,rfl,R,a1,a2⟩
 have s3:=(s1.trans s2).trans (aC m3 (.lst ([.str (ofString "mixes"),.str (ofString "keeps"),.str (ofString "shares"),.str (ofString "start a")]++[.str z])));have h3:upd H2 p3 (.lst ([.str (ofString "mixes"),.str (ofString "keeps"),.str (ofString "shares"),.str (ofString "start a")]++[.str z])) p3=some (.lst ([.str (ofString "mixes"),.str (ofString "keeps"),.str (ofString "shares"),.str (ofString "start a")]++[.str z])):=aA;revert hall s3 h3;generalize ([.str (ofString "mixes"),.str (ofString "keeps"),.str (ofString "shares"),.str (ofString "start a")]++[.str z]:List V)=ys;generalize upd H2 p3 (.lst ys)=H3;intro hall s3 h3;walk_at "";refine mM (aH.of h3) ?_;refine mI (aH.of h3) (λ_ σ=>∃b2,σ=[some (.ref x),some (.int n),b2]) ⟨none,rfl⟩ (λi v σ H4 hv ⟨b2,e⟩ s4=>?_) λσ H4 ⟨b2,e⟩ s4=>?_
 ·subst e;obtain ⟨y,w,us,rfl,R,a1,a2⟩:=hall v (mem_of_getElem? hv);have s34:=s3.trans s4;walk_at "";refine ⟨x,dx,.non,s,_,1,.non,rfl,s34 _ _ hx,WX,HZ kx R (s34 _ _ hx) a1 a2,λH5 s5=>?_⟩;walk_at "";refine bS ?_;walk_at "";exact ⟨⟨_,rfl⟩,s4.trans s5⟩
 ·subst e;have s34:=s3.trans s4;walk_at "";refine mL ?_;walk_at "";refine ⟨⟨x,dx,_,rfl,s34 _ _ hx,rfl⟩,?_⟩;walk_at "";refine Av kx (s34 _ _ hx) λH5 s5=>?_;walk_at "";exact ⟨_,rfl,.inl ⟨_,rfl⟩,q H5 (s34.trans s5)⟩
def kin (K:Fg) (x:Str):List (Option Bool):=[kitOne K (.ref (clsAt K x)) (.ref (clsAt K "NoRow")),kitOne K (.ref (clsAt K x)) (.ref (clsAt K "NoRule")),kitOne K (.ref (clsAt K x)) (.ref (clsAt K "NoStart")),kitOne K (.ref (clsAt K x)) (.ref (clsAt K "NoPiece")),kitOne K (.ref (clsAt K x)) (.ref (clsAt K "NotMixed")),kitOne K (.ref (clsAt K x)) (.ref (clsAt K "NoShares")),kitOne K (.ref (clsAt K x)) (.ref (clsAt K "TooGreat")),kitOne K (.ref (clsAt K x)) (.type "ValueError")]
def kl (i:Nat):List (Option Bool):=[some (decide (0=i)),some (decide (1=i)),some (decide (2=i)),some (decide (3=i)),some (decide (4=i)),some (decide (5=i)),some (decide (6=i)),some true]
abbrev nm (K:Fg) (x:Str):Prop:=nsIn K mainGlobals x=some (some (.ref (clsAt K x)))
structure KF (K:Fg):Prop where
 n_WordError:nm K "WordError"
 n_NoRow:nm K "NoRow"
 n_NoRule:nm K "NoRule"
 n_NoStart:nm K "NoStart"
 n_NoPiece:nm K "NoPiece"
 n_NotMixed:nm K "NotMixed"
 n_NoShares:nm K "NoShares"
 n_TooGreat:nm K "TooGreat"
 n_Desk:nm K "Desk"
 ini:Gq K "TooGreat" "self" "most" "most"
 ina:BS K "TooGreat" "self" "most" "most"
 e_NoRow:BV K "NoRow"
 e_NoRule:BV K "NoRule"
 e_NoStart:BV K "NoStart"
 e_NoPiece:BV K "NoPiece"
 e_NotMixed:BV K "NotMixed"
 e_NoShares:BV K "NoShares"
 x0:XF K (clsAt K "NoRow")
 x1:XF K (clsAt K "NoRule")
 x2:XF K (clsAt K "NoStart")
 x3:XF K (clsAt K "NoPiece")
 x4:XF K (clsAt K "NotMixed")
 x5:XF K (clsAt K "NoShares")
 x6:XF K (clsAt K "TooGreat")
 w0:isW K "NoRow"
 w1:isW K "NoRule"
 w2:isW K "NoStart"
 w3:isW K "NoPiece"
 w4:isW K "NotMixed"
 w5:isW K "NoShares"
 w6:isW K "TooGreat"
 k0:kin K "NoRow"=kl 0
 k1:kin K "NoRule"=kl 1
 k2:kin K "NoStart"=kl 2
 k3:kin K "NoPiece"=kl 3
 k4:kin K "NotMixed"=kl 4
 k5:kin K "NoShares"=kl 5
 k6:kin K "TooGreat"=kl 6
 cl:yS K (clsAt K "Desk")
 a1:eB K (clsAt K "Desk") "rule"
 a2:eB K (clsAt K "Desk") "start"
theorem lG {x:Str} {i:Nat} (h:XF K (clsAt K x)) (k:kin K x=kl i):K81.Ask K (clsAt K x) (kb i):=by
 injection k with k0 k
 injection k with k1 k
 injection k with k2 k
 injection k with k3 k
 injection k with k4 k
 injection k with k5 k
 injection k with k6 k
 injection k with k7 k
 exact ⟨h,k0,k1,k2,k3,k4,k5,k6,k7⟩
theorem KF.kx (f:KF K):KX K:=⟨⟨f.cl,f.a1,f.a2⟩,lG f.x0 f.k0,lG f.x1 f.k1,lG f.x2 f.k2,lG f.x3 f.k3,lG f.x4 f.k4,lG f.x5 f.k5,lG f.x6 f.k6,f.w0,f.w1,f.w2,f.w3,f.w4,f.w5,f.w6,f.ini.fl⟩
def lU (K:Fg):Sp:=λvs H Q _=>∃n:Int,vs=[.int n]/\KF K/\∀H',Q (.bl true) H'
def jJ (K:Fg):List (SX K):=
 [ret (jO (cmp .Is (Hm "TooGreat" "self" "most" "most" "most" (by decide+kernel)) (cst .non)) [call "_law_same" (fA K) [Pa (Rx "TooGreat" "self" "most" "most" (var 0)) "most",var 0]])]
theorem KZ {H:Hp} {dx e:Addr} {v:V} (h:e≠dx):GU (upd (upd H dx (.xd [("most",v)])) e (.ext (GW e (.ref (clsAt K "TooGreat")) (some dx)))) (.ref e) (clsAt K "TooGreat") [("most",v)]:=
 ⟨e,rfl,.inr ⟨dx,aA,by rw[aE h.symm];exact aA⟩⟩
theorem yY:TT (lU K) (jJ K) ["_law_number"]:=by
 intro vs H Q E h;obtain ⟨n,rfl,kf,q⟩:=h;unfold jJ;walk_at "";refine Ee ?_;intro dx e hdx he hne;refine ⟨_,_,.non,KZ hne,kf.x6,kf.ini.fl,rfl,?_⟩;walk_at "";refine eQ (λ_=>?_) λc=>absurd rfl c;walk_at "";refine YX ?_;refine Lu ?_;walk_at "";intro dx3 e3 hdx3 he3 hne3;refine ⟨_,_,.int n,KZ hne3,kf.x6,kf.ini.fl,rfl,?_⟩;walk_at "";exact ⟨_,rfl,.inr ⟨_,rfl⟩,q _⟩
def Nx (x:Addr) (H H':Hp):Prop:=∀b u,b≠x->H b=some u->H' b=some u
theorem Nx.of {x:Addr} {H H':Hp} (s:aB H H'):Nx x H H':=λb u _ h=>s b u h
theorem Nx.trans {x:Addr} {H H1 H2:Hp} (s:Nx x H H1) (t:Nx x H1 H2):Nx x H H2:=λb u e h=>t b u e (s b u e h)
theorem Nx.upd {x:Addr} {H H1:Hp} {o:HO} (s:Nx x H H1):Nx x H (L2.upd H1 x o):=λb u e h=>by rw[aE e];exact s b u e h
theorem Nx.seq {x a dx:Addr} {r s:V} {H H':Hp} {xs:List V} (n:Nx x H H') (hx:H x=some (Dk K dx r s)) (h:aH K H a xs):aH K H' a xs:=by
 rcases h with (h|⟨o,h⟩)|h
 ·exact .inl (.inl (n _ _ (λe=>by subst e;rw[hx] at h;cases h) h))
 ·exact .inl (.inr ⟨o,n _ _ (λe=>by subst e;rw[hx] at h;cases h) h⟩)
 ·exact .inr h
abbrev W1:List Str:=[ofString "ab",ofString "b"]
abbrev W2:List Str:=[ofString "abb",ofString "ba"]
abbrev W3:List Str:=[ofString "abc",ofString "bca",ofString "cab"]
def Og (ws:List Str):Bool:=decide (1<=ws.length)&&(decide (ws.length<=4)&&ws.all λw=>decide (oW ws.length w)&&(decide (1<=w.length)&&decide (w.length<=100)))
theorem YD {ws:List Str} (h:Og ws=true):Ru ws:=by
 unfold Og at h;simp only [and_eq_true] at h;obtain ⟨h1,h2,h3⟩:=h;have h3:=λw hw=>(and_eq_true _ _).mp (all_eq_true.mp h3 w hw);refine ⟨of_decide_eq_true h1,of_decide_eq_true h2,λw hw=>of_decide_eq_true (h3 w hw).1,λw hw=>?_,λw hw=>?_⟩
 ·exact of_decide_eq_true ((and_eq_true _ _).mp (h3 w hw).2).1
 ·exact of_decide_eq_true ((and_eq_true _ _).mp (h3 w hw).2).2
theorem Sm:Og W1=true:=by decide+kernel
theorem KL:K26.Sw W1 97 98 1:=⟨YD Sm,rfl,by decide+kernel,by decide+kernel,by decide,by decide,by decide,by decide,by decide,by decide⟩
def OM (z:Str) (us:List Str):Bool:=startswith z (ofString "rule ")&&(decide (z.length<=100000)&&(decide (Txt.slice z (some 5) none=Txt.join bk us)&&(wB us&&nP (us.map V.str) 12)))
section
variable {H:Hp} {x dx a:Addr} {r s:V} {z:Str} {ws:List Str} {Q:VK} {E:XK} {c:Nat}
theorem uT (kx:KX K) (h:OM z ws=true) (hx:H x=some (Dk K dx r s)) (q:∀p HA,HA x=some (Dk K dx (.ref p) .non)->HA p=some (.tup (ws.map V.str))->Nx x H HA->Q sO HA):aZ K [.ref x,.str z] H Q E:=by
 unfold OM at h;simp only [and_eq_true] at h;obtain ⟨h1,h2,h3,h4,h5⟩:=h;refine ME kx h1 (of_decide_eq_true h2) (of_decide_eq_true h3) (XU h4) h5 hx λp H' s1 hp=>q p _ aA ?_ (Nx.of s1).upd;rw[aE (λe=>by subst e;rw[s1 _ _ hx] at hp;cases hp)];exact hp
theorem qV (kx:KX K) (R:Row z sS [aP [c]]) (hx:H x=some (Dk K dx (.ref a) s)) (ha:H a=some (.tup (ws.map V.str))) (hU:Ru ws) (hc:97<=c) (hg:aQ ws c=true)
  (q:∀HA,HA x=some (Dk K dx (.ref a) (sgn c))->HA a=some (.tup (ws.map V.str))->Nx x H HA->Q sO HA):aZ K [.ref x,.str z] H Q E:=
 HU kx R hx ⟨bX.of ha,hU.pos,hU.four⟩ (λw hw=>⟨hU.one w hw,hU.le w hw⟩) hc hg λH' s1=>q _ aA (by
  rw[aE (λe=>by subst e;rw[hx] at ha;cases ha)]
  exact s1 _ _ ha) (Nx.of s1).upd
end
def oH (K:Fg):Sp:=λvs H Q _=>∃(x dx:Addr) (r s:V) (n:Int),vs=[.ref x,.int n]/\0<=n/\n<2147483647/\KX K/\H x=some (Dk K dx r s)/\∀H',Nx x H H'->Q (.bl true) H'
def RK (K:Fg):List (SX K):=
 [cK (NH (cI (call "_law_refused" (aI K) [var 0,bin .Add (cst (.str "counts ")) (HM (var 2)),cst (.int 6),cst (.int 400)])) [cI (call "_law_refused" (aI K) [var 0,cst (.str "again b"),cst (.int 4),cst .non])]) [ret (cst (.bl false))] [],
  ret (call "_law_stands" (dO K) [var 0,lst [tup [cst (.str "letter 0"),cst (.str "a")],tup [cst (.str "letter 400"),cst (.str "b")],tup [cst (.str "mixes"),cst (.str "no")]]])]
def RM (K:Fg):List (SX K):=
 set 2 (bin .Add (cst (.int 401)) (bin .Mod (bin .FloorDiv (var 1) (cst (.int 64))) (bin .Pow (cst (.int 10)) (cst (.int 6)))))::
  cK (NH (cI (call "_law_refused" (aI K) [var 0,bin .Add (cst (.str "letter ")) (HM (var 2)),cst (.int 6),cst (.int 400)])) [cI (call "_law_refused" (aI K) [var 0,cst (.str "shares"),cst (.int 5),cst .non])]) [ret (cst (.bl false))] []::
  cK (cI (call "_law_refused" (aI K) [var 0,bin .Add (bin .Add (cst (.str "stretch ")) (HM (bin .Sub (var 2) (cst (.int 1))))) (cst (.str " 2")),cst (.int 6),cst (.int 400)])) [ret (cst (.bl false))] []::RK K
def lA (K:Fg):List (SX K):=
 cK (NH (cmp .NotEq (SU (var 0) "Desk" "say" (aZ K) (cst (.str "rule ab b"))) (cst (.str "ok"))) [cI (call "_law_refused" (aI K) [var 0,cst (.str "again b"),cst (.int 2),cst .non]),cmp .NotEq (SU (var 0) "Desk" "say" (aZ K) (cst (.str "start a"))) (cst (.str "ok"))]) [ret (cst (.bl false))] []::RM K
theorem QD:EJ (.int 400) (.int 400) true:=.inl ⟨400,400,rfl,rfl,rfl⟩
theorem Rv:KN W1=false:=by decide+kernel
theorem Sl:K82.Hb W1=false:=by decide+kernel
theorem An {i:Nat}:sz W1 i 97=((1+1 * i:Nat):Int):=KL.sz i
theorem Bd:Row (ofString "letter 0") sL [ofString "0"]:=cH (by decide+kernel)
theorem Bb:Row (ofString "letter 400") sL [ofString "400"]:=cH (by decide+kernel)
section
variable {H:Hp} {x dx a:Addr} {D:Ends} {E:XK} {v1:Option V} {n:Nat}
theorem Hx (kx:KX K) (hx:H x=some (Dk K dx (.ref a) (sgn 97))) (ha:H a=some (.tup (W1.map V.str))) (n1:401<=n) (n2:n<10000000000) (q:∀H',aB H H'->D.rt (.bl true) H'):eI (RK K) (λ_=>E) D [some (.ref x),v1,some (.int (n:Nat))] H:=by
 have hU:=KL.ru;have hR:iC K H a W1:=⟨bX.of ha,hU.pos,hU.four⟩;have hl:=iG n2;unfold RK;walk_at "";refine rW ?_;walk_at "";refine rX (xJ n2) ?_;refine dM (y:=bC) (z:=tn n) (small (by rw[Kw];lia)) ?_;walk_at "";refine ⟨x,dx,_,_,_,6,_,rfl,hx,QD,IB kx (qZ n2) (vZ n2) (by lia) hx hR hU (by decide) KL.gr (by decide) (λi hi=>by rw[An];lia),λH1 s1=>?_⟩;walk_at "";refine bS ?_;walk_at "";refine ⟨x,dx,_,_,_,4,_,rfl,s1 _ _ hx,WX,MN kx MI (s1 _ _ hx) (hR.same s1) hU (by decide) (by decide+kernel) (by decide+kernel) KL.gr (by decide) Rv,λH2 s2=>?_⟩;walk_at "";refine bS ?_;walk_at "";have s12:=s1.trans s2;refine ⟨by show 2<=sizeLine;decide,λp1 m1=>?_⟩;have t1:=aC m1 (.tup [.str (ofString "letter 0"),.str (ofString "a")]);walk_at "";refine ⟨by show 2<=sizeLine;decide,λp2 m2=>?_⟩;have t2:=aC m2 (.tup [.str (ofString "letter 400"),.str (ofString "b")]);walk_at "";refine ⟨by show 2<=sizeLine;decide,λp3 m3=>?_⟩;have t3:=aC m3 (.tup [.str (ofString "mixes"),.str (ofString "no")]);walk_at "";refine ⟨by show 3<=sizeLine;decide,λp4 m4=>?_⟩;have t4:=aC m4 (.lst [.ref p1,.ref p2,.ref p3]);have t24:=t2.trans (t3.trans t4);have t14:=s12.trans (t1.trans t24);have f1:=t24 _ _ (aA (a:=p1));have f2:=(t3.trans t4) _ _ (aA (a:=p2));have f3:=t4 _ _ (aA (a:=p3));walk_at "";refine ⟨x,p4,rfl,⟨dx,_,_,[(p1,ofString "letter 0",ofString "a"),(p2,ofString "letter 400",ofString "b"),(p3,ofString "mixes",ofString "no")],t14 _ _ hx,aA,λt ht=>?_⟩,λH5 s5=>q H5 (t14.trans s5)⟩;have pl:∀(k:Nat) H5,k<=400->aB H H5->Pl K H5 a W1 97 (k:Int):=λk H5 hk s5=>⟨hR.same s5,hU,by decide,by decide,KL.gr,by lia,400,by lia,by rw[An];lia⟩;simp only [mem_cons,not_mem_nil,or_false] at ht;rcases ht with rfl|rfl|rfl
 ·refine ⟨f1,λH5 s5 Q' E' q'=>kS kx Bd (n:=0) (by decide+kernel) (by decide+kernel) ((t14.trans s5) _ _ hx) (λH6 s6=>pl 0 H6 (by lia) ((t14.trans s5).trans s6)) λH6 s6=>?_⟩;rw[KL.ew];exact q' H6 s6
 ·refine ⟨f2,λH5 s5 Q' E' q'=>kS kx Bb (n:=400) (by decide+kernel) (by decide+kernel) ((t14.trans s5) _ _ hx) (λH6 s6=>pl 400 H6 (by lia) ((t14.trans s5).trans s6)) λH6 s6=>?_⟩;rw[KL.ew];exact q' H6 s6
 ·refine ⟨f3,λH5 s5 Q' E' q'=>uS kx nH ((t14.trans s5) _ _ hx) (hR.same (t14.trans s5)) hU λH6 s6=>?_⟩;rw[Rv];exact q' H6 s6
theorem Hy {m:Int} (kx:KX K) (hx:H x=some (Dk K dx (.ref a) (sgn 97))) (ha:H a=some (.tup (W1.map V.str))) (m0:0<=m) (m1:m<2147483647) (q:∀H',aB H H'->D.rt (.bl true) H'):eI (RM K) (λ_=>E) D [some (.ref x),some (.int m),none] H:=by
 have hU:=KL.ru;have hR:iC K H a W1:=⟨bX.of ha,hU.pos,hU.four⟩;unfold RM;walk_at "";refine OX ⟨by decide,by decide+kernel⟩ ?_;rw[show (10:Int) ^ (6:Int).toNat=1000000 by decide];walk_at "";obtain ⟨n,hn,n1,n2⟩:∃n:Nat,401+m / 64 % 1000000=(n:Nat)/\401<=n/\n<10000000000:=⟨(401+m / 64 % 1000000).toNat,by lia,by lia,by lia⟩;rw[hn];have hl:=iG n2;refine rW ?_;walk_at "";refine rX (xJ n2) ?_;refine dM (y:=bL) (z:=tn n) (small (by rw[Kv];lia)) ?_;walk_at "";refine ⟨x,dx,_,_,_,6,_,rfl,hx,QD,IA kx (qY n2) (vZ n2) (by lia) hx hR hU (by decide) KL.gr (by decide) (λi hi=>by rw[An];lia),λH1 s1=>?_⟩;walk_at "";refine bS ?_;walk_at "";refine ⟨x,dx,_,_,_,5,_,rfl,s1 _ _ hx,WX,HY kx qX (s1 _ _ hx) (hR.same s1) hU Sl,λH2 s2=>?_⟩;walk_at "";refine bS ?_;walk_at "";refine rW ?_;walk_at "";obtain ⟨k,rfl⟩:∃k:Nat,n=k+1:=⟨n - 1,by lia⟩;have k2:k<10000000000:=by lia
 have hl2:=iG k2;rw[show ((k+1:Nat):Int) - 1=(k:Nat) by lia];refine rX (xJ k2) ?_;refine dM (y:=bT) (z:=tn k) (small (by rw[Ku];lia)) ?_;walk_at "";refine dM (y:=bT++tn k) (z:=ofString " 2") (small (by
  have:bT.length=8:=by decide+kernel
  have:(ofString " 2").length=2:=by decide+kernel
  rw[len_app]
  lia)) ?_
 walk_at "";have s12:=s1.trans s2;refine ⟨x,dx,_,_,_,6,_,rfl,s12 _ _ hx,QD,CZ (n:=k) (m:=2) kx (oK (u:=ofString "2") (by decide+kernel) (by decide+kernel) (by decide+kernel) (AF (by decide+kernel)) (by decide+kernel) k2) (vZ k2) (by lia) (by decide+kernel) (by decide+kernel) (by decide) (s12 _ _ hx) (hR.same s12) hU (by decide) KL.gr (by decide) (λi hi=>by rw[An];lia),λH3 s3=>?_⟩;walk_at "";refine bS ?_;have s13:=s12.trans s3;exact Hx kx (s13 _ _ hx) (s13 _ _ ha) n1 n2 λH4 s4=>q H4 (s13.trans s4)
end
theorem CK:TT (oH K) (lA K) ["_law_desk","_law_number","_law_place"]:=by
 intro vs H Q E h;obtain ⟨x,dx,r,s,n,rfl,n0,n1,kx,hx,q⟩:=h;unfold lA;walk_at "";refine mL ?_;walk_at "";refine ⟨⟨x,dx,_,rfl,hx,rfl⟩,?_⟩;walk_at "";refine uT (ws:=W1) kx (by decide+kernel) hx λp HA xA pA nA=>?_;walk_at "";rw[decide_eq_true rfl];refine bS ?_;walk_at "";refine ⟨x,dx,_,_,_,2,_,rfl,xA,WX,rC kx MI xA (λk=>nomatch k) (by decide+kernel) (by decide+kernel) (by decide+kernel) (by decide),λH2 s2=>?_⟩;walk_at "";refine bS ?_;walk_at "";refine mL ?_;walk_at "";refine ⟨⟨x,dx,_,rfl,s2 _ _ xA,rfl⟩,?_⟩;walk_at "";refine qV (ws:=W1) kx CY (s2 _ _ xA) (s2 _ _ pA) KL.ru (by decide) KL.gr λHB xB pB nB=>?_;walk_at "";rw[decide_eq_true rfl];refine bS ?_;exact Hy kx xB pB n0 n1 λH3 s3=>q H3 ((nA.trans (.of s2)).trans (nB.trans (.of s3)))
structure Gw (ws:List Str):Prop where
 ru:Ru ws
 gr:aQ ws 97=true
 gd:aQ ws 100=false
 mx:KN ws=true
 l1:(mX ws 97 1).length<=300
 l2:[100]∉iA (mX ws 97 1)
 ew:ew ws 97 1=98
theorem TQ {ws:List Str} {f:List dZ} {k n:Nat} (h:(aT ws f k).length<=k) (hk:k<=n):aT ws f n=aT ws f k:=by
 obtain ⟨d,rfl⟩:=Nat.exists_eq_add_of_le hk;exact qL ws f h d
def Ry (ws:List Str):Bool:=Og ws&&(aQ ws 97&&(!aQ ws 100&&(KN ws&&(decide ((aT ws (f0 ws 97 1) 6).length<=6)&&(decide ([100]∉iA (aT ws (f0 ws 97 1) 6))&&decide (ew ws 97 1=98))))))
theorem ZF {ws:List Str} (h:Ry ws=true):Gw ws:=by
 unfold Ry at h;simp only [and_eq_true] at h;obtain ⟨h1,h2,h3,h4,h5,h6,h7⟩:=h;have h5:=of_decide_eq_true h5;have e:mX ws 97 1=aT ws (f0 ws 97 1) 6:=TQ h5 (by lia);exact ⟨YD h1,h2,by simpa using h3,h4,by rw[e];lia,by rw[e];exact of_decide_eq_true h6,of_decide_eq_true h7⟩
theorem Uq:Gw W2:=ZF (by decide+kernel)
theorem Up:Gw W3:=ZF (by decide+kernel)
def wL (K:Fg):Sp:=λvs H Q _=>∃(a:Addr) (ns:List Int),vs=[.ref a]/\KF K/\aH K H a (ns.map V.int)/\ns.length<=63/\∀H',Q (.bl true) H'
def RT (K:Fg):List (SX K):=
 [ret (jO (call "_law_slow" (oH K) [var 1,var 2]) [call "_law_mosts" (lU K) [bin .Mod (call "_law_raw" (K81.gK K) [var 0,cst (.int 2)]) (bin .Pow (cst (.int 10)) (cst (.int 18)))]])]
def RU (K:Fg):List (SX K):=
 cK (NH (cmp .NotEq (SU (var 1) "Desk" "say" (aZ K) (cst (.str "start a"))) (cst (.str "ok"))) [cI (call "_law_refused" (aI K) [var 1,cst (.str "again d"),cst (.int 3),cst .non])]) [ret (cst (.bl false))] []::
  cK (cI (call "_law_rows" (iL K) [var 0,var 1,lst [tup [cst (.str "mixes"),cst (.str "yes")],tup [cst (.str "letter 1"),cst (.str "b")]]])) [ret (cst (.bl false))] []::RT K
def RV (K:Fg):List (SX K):=
 cK (NH (cmp .NotEq (SU (var 1) "Desk" "say" (aZ K) (var 4)) (cst (.str "ok"))) [cI (call "_law_refused" (aI K) [var 1,ix (call "_law_of_word" (eM K) [var 2]) (cst (.int 0)),cst (.int 2),cst .non])]) [ret (cst (.bl false))] []::
  kX (iV 5) (gG (lst [cst (.str "start d"),ix (lst [cst (.str "start c"),cst (.str "start d")]) (bin .Sub (var 3) (cst (.int 2)))])) [cK (cI (call "_law_refused" (aI K) [var 1,var 5,cst (.int 2),cst .non])) [ret (cst (.bl false))] []]::RU K
def BQ (K:Fg):List (SX K):=
 set 1 (Km "Desk" (pM K))::
  set 2 (call "_law_mix" (K81.qR K) [var 0,cst (.int 1)])::
  cK (NH (cI (call "_law_rows" (iL K) [var 0,var 1,lst []])) [cI (call "_law_without" (iK K) [var 1,var 2])]) [ret (cst (.bl false))] []::
  set 3 (bin .Add (cst (.int 2)) (bin .Mod (bin .FloorDiv (var 2) (cst (.int 8))) (cst (.int 2))))::
  set 4 (ix (lst [cst (.str "rule abb ba"),cst (.str "rule abc bca cab")]) (bin .Sub (var 3) (cst (.int 2))))::RV K
theorem Kt:∀vs H Q E,wL K vs H Q E->vs.length=1:=by
 rintro vs H Q E ⟨_,_,rfl,_⟩;rfl
theorem Je (K:Fg) (H:Hp) (a:Addr) (ns:List Int) (kf:KF K) (h:ns.length<=63) (hS:aH K H a (ns.map V.int)):wL K [.ref a] H (λv _=>v=.bl true) (λ_ _ _=>False):=⟨a,ns,rfl,kf,hS,h,λ_=>rfl⟩
section
variable {H:Hp} {a x dx p:Addr} {D:Ends} {E:XK} {v:Int} {v3 v4 v5:Option V} {ws:List Str} {ns:List Int} {r s:V}
theorem Ig (kf:KF K) (hx:H x=some (Dk K dx r s)) (hS:aH K H a (ns.map V.int)) (v0:0<=v) (v1:v<2147483647) (q:∀H',D.rt (.bl true) H'):eI (RT K) (λ_=>E) D [some (.ref a),some (.ref x),some (.int v),v3,v4,v5] H:=by
 unfold RT;walk_at "";refine ⟨x,dx,_,_,v,rfl,v0,v1,kf.kx,hx,λH1 n1=>?_⟩;walk_at "";refine dE ?_;walk_at "";refine ⟨a,ns,_,rfl,n1.seq hx hS,by decide,λw=>?_⟩;walk_at "";refine OX ⟨by decide,by decide+kernel⟩ ?_;rw[show (10:Int) ^ (18:Int).toNat=1000000000000000000 by decide];walk_at "";exact ⟨_,rfl,kf,q⟩
theorem Bc:Row (ofString "letter 1") sL [ofString "1"]:=cH (by decide+kernel)
theorem Ih (kf:KF K) (g:Gw ws) (hx:H x=some (Dk K dx (.ref p) .non)) (hp:H p=some (.tup (ws.map V.str))) (hS:aH K H a (ns.map V.int)) (v0:0<=v) (v1:v<2147483647) (q:∀H',D.rt (.bl true) H'):eI (RU K) (λ_=>E) D [some (.ref a),some (.ref x),some (.int v),v3,v4,v5] H:=by
 have kx:=kf.kx;unfold RU;walk_at "";refine mL ?_;walk_at "";refine ⟨⟨x,dx,_,rfl,hx,rfl⟩,?_⟩;walk_at "";refine qV (ws:=ws) kx CY hx hp g.ru (by decide) g.gr λHA xA pA nA=>?_;have hR:iC K HA p ws:=⟨bX.of pA,g.ru.pos,g.ru.four⟩;have hl:97 - 97<ws.length:=g.ru.pos;have hS:=nA.seq hx hS;clear hx hp nA;walk_at "";rw[decide_eq_true rfl];refine bS ?_;walk_at "";have e1:(ofString "d").length=1:=by decide+kernel
 have e2:ls (ofString "d")=[100]:=by decide+kernel
 refine ⟨x,dx,_,_,_,3,_,rfl,xA,WX,ML kx Be xA hR g.ru (by decide) (by rw[e1];decide) (by rw[e1];decide) g.gr hl g.mx e1 (by rw[e1];exact g.l1) (by rw[e1,e2];exact g.l2),λH2 s2=>?_⟩;walk_at "";refine bS ?_;walk_at "";refine ⟨by show 2<=sizeLine;decide,λp1 m1=>?_⟩;have t1:=aC m1 (.tup [.str (ofString "mixes"),.str (ofString "yes")]);walk_at "";refine ⟨by show 2<=sizeLine;decide,λp2 m2=>?_⟩;have t2:=aC m2 (.tup [.str (ofString "letter 1"),.str (ofString "b")]);walk_at "";refine ⟨by show 2<=sizeLine;decide,λp3 m3=>?_⟩;have t3:=aC m3 (.lst [.ref p1,.ref p2]);have t13:=s2.trans (t1.trans (t2.trans t3));have f1:=(t2.trans t3) _ _ (aA (a:=p1));have f2:=t3 _ _ (aA (a:=p2));walk_at "";refine ⟨a,x,p3,ns,rfl,t13.seq hS,kx,⟨dx,_,_,[(p1,ofString "mixes",ofString "yes"),(p2,ofString "letter 1",ofString "b")],t13 _ _ xA,aA,λt ht=>?_⟩,λH5 s5=>?_⟩
 ·simp only [mem_cons,not_mem_nil,or_false] at ht;rcases ht with rfl|rfl
  ·refine ⟨f1,λH5 s5 Q' E' q'=>uS kx nH ((t13.trans s5) _ _ xA) (hR.same (t13.trans s5)) g.ru λH6 s6=>?_⟩;rw[g.mx];exact q' H6 s6
  ·refine ⟨f2,λH5 s5 Q' E' q'=>kS kx Bc (n:=1) (by decide+kernel) (by decide+kernel) ((t13.trans s5) _ _ xA) (λH6 s6=>⟨hR.same ((t13.trans s5).trans s6),g.ru,by decide,hl,g.gr,by decide,400,by lia,?_⟩) λH6 s6=>?_⟩
   ·have:=pL g.ru (by decide) hl g.gr 400;lia
   ·rw[g.ew];exact q' H6 s6
 ·walk_at "";refine bS ?_;exact Ig kf ((t13.trans s5) _ _ xA) ((t13.trans s5).seq hS) v0 v1 q
theorem XY {z z2:Str} {k c2:Nat} (kf:KF K) (g:Gw ws) (hk:OM z ws=true) (R2:Row z2 sS [aP [c2]]) (c1:97<=c2) (g2:aQ ws c2=false) (hz2:([.str (ofString "start c"),.str (ofString "start d")]:List V)[k]?=some (.str z2))
  (hx:H x=some (Dk K dx r s)) (hS:aH K H a (ns.map V.int)) (v0:0<=v) (v1:v<2147483647) (q:∀H',D.rt (.bl true) H'):eI (RV K) (λ_=>E) D [some (.ref a),some (.ref x),some (.int v),some (.int (2+(k:Nat))),some (.str z),none] H:=by
 have kx:=kf.kx;unfold RV;walk_at "";refine mL ?_;walk_at "";refine ⟨⟨x,dx,_,rfl,hx,rfl⟩,?_⟩;walk_at "";refine uT (ws:=ws) kx hk hx λp HA xA pA nA=>?_;have hS:=nA.seq hx hS;have hR:iC K HA p ws:=⟨bX.of pA,g.ru.pos,g.ru.four⟩;clear hx nA;walk_at "";rw[decide_eq_true rfl];refine bS ?_;walk_at "";refine ⟨v,rfl,v0,v1,λz3 p3 H3 s3 ⟨w3,us3,R3,n1,n2,n3,l3⟩ h3=>?_⟩;walk_at "";refine aJ (v:=.str z3) (aH.of h3) rfl ?_;walk_at "";refine ⟨x,dx,_,_,_,2,_,rfl,s3 _ _ xA,WX,rC kx R3 (s3 _ _ xA) (λk=>nomatch k) n1 n2 n3 l3,λH4 s4=>?_⟩;walk_at "";refine bS ?_;walk_at "";refine ⟨by show 2<=sizeLine;decide,λp5 m5=>?_⟩;have t5:=aC m5 (.lst [.str (ofString "start c"),.str (ofString "start d")]);walk_at "";rw[show (2+(k:Nat):Int) - 2=(k:Nat) by lia];refine aJ (v:=.str z2) (aH.of aA) (bI hz2) ?_;walk_at "";refine ⟨by show 2<=sizeLine;decide,λp6 m6=>?_⟩;have t6:=aC m6 (.lst [.str (ofString "start d"),.str z2]);have t36:=s3.trans (s4.trans (t5.trans t6));have h6:=aA (H:=upd H4 p5 (.lst [.str (ofString "start c"),.str (ofString "start d")])) (a:=p6) (o:=.lst [.str (ofString "start d"),.str z2]);revert t36 h6;generalize upd (upd H4 p5 (.lst [.str (ofString "start c"),.str (ofString "start d")])) p6 (.lst [.str (ofString "start d"),.str z2])=H6;intro t36 h6;walk_at "";refine mM (aH.of h6) ?_;refine mI (aH.of h6) (λ_ σ=>∃b5,σ=[some (.ref a),some (.ref x),some (.int v),some (.int (2+(k:Nat))),some (.str z),b5]) ⟨none,rfl⟩ (λi y σ H7 hy ⟨b5,e⟩ s7=>?_) λσ H7 ⟨b5,e⟩ s7=>?_
 ·subst e;have s37:=t36.trans s7;obtain ⟨zz,cc,rfl,RR,cc1,gg⟩:∃zz cc,y=.str zz/\Row zz sS [aP [cc]]/\97<=cc/\aQ ws cc=false:=by
   have:=mem_of_getElem? hy;simp only [mem_cons,not_mem_nil,or_false] at this;rcases this with rfl|rfl
   ·exact ⟨_,100,rfl,MG,by decide,g.gd⟩
   ·exact ⟨_,_,rfl,R2,c1,g2⟩
  walk_at "";refine ⟨x,dx,_,_,_,2,_,rfl,s37 _ _ xA,WX,MK kx RR (s37 _ _ xA) (hR.same s37) (λw hw=>⟨g.ru.one w hw,g.ru.le w hw⟩) cc1 gg,λH8 s8=>?_⟩;walk_at "";refine bS ?_;walk_at "";exact ⟨⟨_,rfl⟩,s7.trans s8⟩
 ·subst e;have s37:=t36.trans s7;exact Ih kf g (s37 _ _ xA) (s37 _ _ pA) (s37.seq hS) v0 v1 q
end
theorem Ii (kf:KF K):TT (wL K) (BQ K) ["_law_script","_law_desk","_law_number","_law_many","_law_rule","_law_row"]:=by
 intro vs H Q E h;obtain ⟨a,ns,rfl,_,hS,h63,q⟩:=h;have kx:=kf.kx;unfold BQ;walk_at "";refine Eo λx dx nx ndx hne=>?_;refine ⟨x,dx,rfl,kx.kd,aA,rfl,?_⟩;have sD:aB H (upd (upd (upd H dx (.own x)) x (.ins (clsAt K "Desk") dx [])) x (Dk K dx .non .non)):=λb u hb=>by
  rw[aE (aD hb nx),aE (aD hb nx),aE (aD hb ndx)];exact hb
 have xD:(upd (upd (upd H dx (.own x)) x (.ins (clsAt K "Desk") dx [])) x (Dk K dx .non .non)) x=some (Dk K dx .non .non):=aA;revert sD xD;generalize upd (upd (upd H dx (.own x)) x (.ins (clsAt K "Desk") dx [])) x (Dk K dx .non .non)=HD;intro sD xD;have hS:=sD.seq hS;clear sD nx ndx;walk_at "";refine ⟨a,ns,_,rfl,hS,h63,by decide,by decide,λv v0 v1=>?_⟩;walk_at "";refine ⟨zero_le _,λp m=>?_⟩;have t1:=aC m (.lst []);walk_at "";refine ⟨a,x,p,ns,rfl,t1.seq hS,kx,⟨dx,_,_,[],t1 _ _ xD,aA,λt ht=>nomatch ht⟩,λH1 s1=>?_⟩;walk_at "";refine bS ?_;walk_at "";have s01:=t1.trans s1;refine ⟨x,dx,_,v,rfl,v0,v1,kx,s01 _ _ xD,λH2 s2=>?_⟩;walk_at "";refine bS ?_;walk_at "";have s02:=s01.trans s2;refine ⟨by show 2<=sizeLine;decide,λp3 m3=>?_⟩;have t3:=aC m3 (.lst [.str (ofString "rule abb ba"),.str (ofString "rule abc bca cab")]);walk_at "";have s03:=s02.trans t3;have hk:v / 8 % 2=0\/v / 8 % 2=1:=by lia
 rcases hk with hk|hk
 ·rw[hk];refine aJ (v:=.str (ofString "rule abb ba")) (aH.of aA) rfl ?_;exact XY (k:=0) kf Uq (by decide+kernel) Ay (by decide) (by decide+kernel) rfl (s03 _ _ xD) (s03.seq hS) v0 v1 q
 ·rw[hk];refine aJ (v:=.str (ofString "rule abc bca cab")) (aH.of aA) rfl ?_;exact XY (k:=1) kf Up (by decide+kernel) MG (by decide) (by decide+kernel) rfl (s03 _ _ xD) (s03.seq hS) v0 v1 q
end L2.Na.K92
namespace L2.Na
open PySem PySem.Spec PyProof.Rows L2 L2.L3
def cS (st:Stmt) (n:Nat) (N:List Str) (b:∀K:Fg,List (SX K)):Prop:=cJ N (N.take n) (aF st)/\(∀K,yQ (b K) ⟨N,(aF st).names,true⟩ (aK st)=true)/\
 ∀(x y:Str) (kV doc pm:Value) (an:Option Addr) (cdv ct:Value) (us:List Value),us.length=(N.take n).length->bindArgs (PySem.W.fnOf x y (bF st) (aK st) (aF st) .none kV doc pm an cdv ct) ⟨us,[]⟩=pure ((N.take n).zip us)
theorem Vb {f:FuncData} {ps:List Str} (h:∀a:Value,bindArgs f ⟨[a],[]⟩=pure (ps.zip [a])) (us:List Value) (hl:us.length=1):bindArgs f ⟨us,[]⟩=pure (ps.zip us):=Sa (Z:=λus=>bindArgs f ⟨us,[]⟩=pure (ps.zip us)) h us hl
theorem Va {f:FuncData} {ps:List Str} (h:∀a b:Value,bindArgs f ⟨[a,b],[]⟩=pure (ps.zip [a,b])) (us:List Value) (hl:us.length=2):bindArgs f ⟨us,[]⟩=pure (ps.zip us):=Vd (Z:=λus=>bindArgs f ⟨us,[]⟩=pure (ps.zip us)) h us hl
theorem Uz {f:FuncData} {ps:List Str} (h:∀a b c:Value,bindArgs f ⟨[a,b,c],[]⟩=pure (ps.zip [a,b,c])) (us:List Value) (hl:us.length=3):bindArgs f ⟨us,[]⟩=pure (ps.zip us):=Vc (Z:=λus=>bindArgs f ⟨us,[]⟩=pure (ps.zip us)) h us hl
theorem Uy {f:FuncData} {ps:List Str} (h:∀a b c d:Value,bindArgs f ⟨[a,b,c,d],[]⟩=pure (ps.zip [a,b,c,d])) (us:List Value) (hl:us.length=4):bindArgs f ⟨us,[]⟩=pure (ps.zip us):=by4 (Z:=λus=>bindArgs f ⟨us,[]⟩=pure (ps.zip us)) h us hl
section
variable {K:Fg} {P:Program} {w:World} {h base:Heap} {mg:Str->Option Value}
theorem dn (X:K.In h) (G:h.Ns mainGlobals mg) (bl:∀x∈kB,mg x=none) (k:Nat) {x:Str} {st:Stmt} {sp:Sp} {n:Nat} {N:List Str} {b:∀K:Fg,List (SX K)} (F:FD K x st) (o:cS st n N b) (len:∀vs H Q E,sp vs H Q E->vs.length=(N.take n).length)
  (t:∀vs H Q E,sp vs H Q E->eI (b K) (λ_=>E) {nx:=λ_ H'=>Q .non H',rt:=Q} (start N vs) H) (hq:∀A,bM k A->BW (b K) ⟨P,w,K,mg,base,A⟩):Hl P w K mg base (k+1) x sp:=
 My F X G bl (b K) o.1 (o.2.1 K) (o.2.2 x x) len t hq
theorem Hl.a {j k:Nat} {x:Str} {sp:Sp} {A:Around} (D:Hl P w K mg base j x sp) (hr:bM k A) (h:j<=k:=by decide):FnAt ⟨P,w,K,mg,base,A⟩ x sp:=D.at hr h
end
end L2.Na
local macro_rules | `(tactic| walk_at "l") => `(tactic| (intro vs H Q E h; repeat (first | (obtain ⟨e, _⟩ := h; subst e; rfl) | (obtain ⟨_, h⟩ := h))))
local macro_rules | `(tactic| walk_at "o") => `(tactic| (refine ⟨⟨rfl, rfl, rfl, by decide +kernel, rfl, by decide +kernel, by decide +kernel⟩, fun K => by kernel_rfl, ?_⟩; intro x y kV doc pm an cdv ct us hl; first | exact L2.Na.Vb (fun _ => by exact rfl) us hl | exact L2.Na.Va (fun _ _ => by exact rfl) us hl | exact L2.Na.Uz (fun _ _ _ => by exact rfl) us hl | exact L2.Na.Uy (fun _ _ _ _ => by exact rfl) us hl | exact L2.Na.bz5 (fun _ _ _ _ _ => by exact rfl) us hl | exact L2.Na.bz6 (fun _ _ _ _ _ _ => by exact rfl) us hl))
local macro_rules | `(tactic| walk_at "e") => `(tactic| first | kernel_rfl | k_is)
local macro_rules | `(tactic| walk_at "f") => `(tactic| first
 | (refine' L2.Na.Mu ?a1 ?a2 ?a3 ?a4; (case a1 => k_is); (case a2 => k_is); (case a3 => k_is); (case a4 => k_is))
 | (refine' L2.Na.Ff ?a1; (case a1 => k_is))
 | (refine' L2.Na.Fh ?a1; (case a1 => k_is))
 | (refine' L2.Na.VC ?a1 ?a2 ?a3 ?a4 ?a5 ?a6 ?a7; (case a1 => k_is); (case a2 => k_is); (case a3 => k_is); (case a4 => k_is); (case a5 => k_is); (case a6 => (refine' L2.yS.mk ?x1 ?x2 ?x3 ?x4; (case x1 => walk_at "e"); (case x2 => walk_at "e"); (case x3 => walk_at "e"); (case x4 => walk_at "e"))); (case a7 => k_is))
 | (refine' L2.Na.VU ?a1 ?a2 ?a3 ?a4 ?a5 ?a6 ?a7 ?a8; (case a1 => k_is); (case a2 => k_is); (case a3 => k_is); (case a4 => k_is); (case a5 => k_is); (case a6 => k_is); (case a7 => k_is); (case a8 => k_is)))
local macro_rules | `(tactic| walk_at "k") => `(tactic| first
 | kernel_rfl
 | k_is
 | (show PySem.W.findIn _ _ _ = _; walk_at "e")
 | exact ⟨by walk_at "e", by walk_at "e"⟩
 | (refine' L2.Na.Gq.mk ?i1 ?i2 ?i3 ?i4 ?i5; (case i1 => walk_at "e"); (case i2 => walk_at "e"); (case i3 => walk_at "e"); (case i4 => walk_at "e"); (case i5 => (refine' L2.Na.Ec ?z1 ?z2 ?z3 ?z4 ?z5 ?z6 ?z7 ?z8; (case z1 => k_is); (case z2 => k_is); (case z3 => k_is); (case z4 => k_is); (case z5 => exact ⟨rfl, rfl, rfl⟩); (case z6 => exact ⟨rfl, rfl⟩); (case z7 => exact ⟨rfl, rfl, by decide⟩); (case z8 => exact fun s u v X => kp_binds X (fun S => by kernel_rfl)))))
 | (refine' L2.Na.BS.mk ?i2 ?i3 ?i4 ?i5; (case i2 => walk_at "e"); (case i3 => walk_at "e"); (case i4 => walk_at "e"); (case i5 => (refine' L2.Na.VW ?z1 ?z2 ?z3 ?z4 ?z5 ?z6 ?z7 ?z8 ?z9 ?z10; (case z1 => k_is); (case z2 => k_is); (case z3 => k_is); (case z4 => k_is); (case z5 => exact ⟨rfl, rfl, rfl⟩); (case z6 => exact ⟨rfl, rfl⟩); (case z7 => exact ⟨rfl, rfl, by decide⟩); (case z8 => exact fun s u v X => kp_binds X (fun S => by kernel_rfl)); (case z9 => exact fun s u v X => kp_binds X (fun S => by kernel_rfl)); (case z10 => exact fun s u X => kp_binds X (fun S => by kernel_rfl)))))
 | (refine' L2.Na.XF.mk ?x1 ?x2 ?x3 ?x4 ?x5 ?x6; (case x1 => walk_at "e"); (case x2 => walk_at "e"); (case x3 => walk_at "e"); (case x4 => walk_at "e"); (case x5 => intro od; walk_at "e"); (case x6 => walk_at "e"))
 | (refine' L2.yS.mk ?x1 ?x2 ?x3 ?x4; (case x1 => walk_at "e"); (case x2 => walk_at "e"); (case x3 => walk_at "e"); (case x4 => walk_at "e")))
namespace L2.Na.K92
open PySem PySem.Spec PyProof.Rows L2 L2.L3 L2.Na
abbrev FU:Stmt:=cm 83 0
theorem Pq:cS FU 1 ["self"] yJ:=by walk_at "o"
theorem Td:cS (top 95) 2 ["_law_script","_law_k"] K81.nZ:=by walk_at "o"
theorem Ta:cS (top 96) 2 ["_law_script","_law_k","_law_turn"] K81.oA:=by walk_at "o"
theorem Tr:cS (top 97) 2 ["_law_cell","_law_k","_law_number"] jK:=by walk_at "o"
theorem Tb:cS (top 2) 1 ["many"] nY:=by walk_at "o"
theorem Sz:cS (top 3) 2 ["thing","many","known"] oC:=by walk_at "o"
theorem o5:cS (top 86) 2 ["text","most"] dW:=by walk_at "o"
theorem Tq:cS (top 87) 1 ["text"] jM:=by walk_at "o"
theorem Tw:cS (top 88) 2 ["text","most"] jL:=by walk_at "o"
theorem Tj:cS (top 89) 1 ["words"] lD:=by walk_at "o"
theorem Sy:cS (top 85) 2 ["name","rest"] mV:=by walk_at "o"
theorem Uo:cS (top 84) 1 ["row","words"] cY:=by walk_at "o"
theorem Th:cS (top 93) 1 ["told"] lE:=by walk_at "o"
theorem Sx:cS (top 5) 2 ["word","many"] tF:=by walk_at "o"
theorem Su:cS (top 6) 1 ["rule"] yE:=by walk_at "o"
theorem o1:cS (top 28) 1 ["rule"] cZ:=by walk_at "o"
theorem So:cS (top 31) 2 ["rule","start","word"] yH:=by walk_at "o"
theorem o9:cS (top 11) 2 ["row","before"] eS:=by walk_at "o"
theorem Tx:cS (top 10) 2 ["rows","before"] gT:=by walk_at "o"
theorem Ss:cS (top 8) 2 ["rule","times","rows","made","turn"] yF:=by walk_at "o"
theorem Uj:cS (top 36) 3 ["rule","start","n","rows","at","made"] Pr.cP:=by walk_at "o"
theorem Te:cS (top 32) 3 ["rule","start","n","rows","word_for","pairs","letter","left","row","size_of","word","step"] Pr.jY:=by walk_at "o"
theorem Ts:cS (top 33) 3 ["rule","start","n","pairs"] K26.fC:=by walk_at "o"
theorem Uc:cS (top 34) 4 ["rule","start","n","many","last","steps","ahead","window","step"] Pr.eD:=by walk_at "o"
theorem Sn:cS (top 27) 2 ["rule","word","word_for"] RQ:=by walk_at "o"
theorem Sr:cS (top 12) 2 ["one","other"] yI:=by walk_at "o"
theorem Ul:cS (top 9) 2 ["rows","numbers","made","number","row"] fU:=by walk_at "o"
theorem o6:cS (top 7) 3 ["rule","numbers","times","rows","made","turn"] dY:=by walk_at "o"
theorem o2:cS (top 41) 2 ["rule","piece","made"] dA:=by walk_at "o"
theorem o8:cS (top 40) 3 ["rule","start","length","first","found","ahead","done","piece","word","base","place","met"] Pr.eV:=by walk_at "o"
theorem Ub:cS (top 52) 1 ["word"] K41.gU:=by walk_at "o"
theorem Sq:cS (top 45) 1 ["rule","known","held","turn"] K41.yG:=by walk_at "o"
theorem Tg:cS (top 46) 3 ["rule","start","piece","alike","ahead","parts","sights","turns"] lF:=by walk_at "o"
theorem Tp:cS (top 35) 3 ["rule","start","n","word_for","made","word","step","letter"] jN:=by walk_at "o"
theorem o0:cS (top 92) 3 ["rule","start","words","number"] bQ:=by walk_at "o"
theorem o3:cS (top 26) 2 ["thing","most","many"] dX:=by walk_at "o"
theorem Tu:cS (top 25) 1 ["text","rule"] K05.jH:=by walk_at "o"
abbrev mJ:Stmt:=cm 83 2
theorem Pt:cS mJ 2 ["self","text"] fD:=by walk_at "o"
theorem Um:cS (top 56) 2 ["period","limit","wanted"] eU:=by walk_at "o"
theorem o4:cS (top 55) 2 ["word","limit","period","length","stretch"] dU:=by walk_at "o"
theorem Tv:cS (top 54) 2 ["word","limit","end","repeat"] jG:=by walk_at "o"
theorem Ui:cS (top 90) 1 ["words","limit","repeat"] fO:=by walk_at "o"
abbrev kG:Stmt:=cm 83 3
theorem Pu:cS kG 2 ["self","letter"] eF:=by walk_at "o"
theorem Ud:cS (top 67) 1 ["rule","size"] K82.fP:=by walk_at "o"
theorem Sv:cS (top 66) 1 ["rule","lacks","weights","whole"] tE:=by walk_at "o"
theorem o7:cS (top 91) 2 ["rule","name","told"] eR:=by walk_at "o"
abbrev OR:Stmt:=cm 83 1
theorem Pp:cS OR 2 ["self","row","words"] BP:=by walk_at "o"
theorem tW:cJ ["_law_e","_law_some","_law_most"] ["_law_e"] (aF (top 100)):=⟨rfl,rfl,rfl,by decide+kernel,rfl,by decide+kernel,by decide+kernel⟩
theorem xG (K:Fg):yQ (K81.eE K) ⟨["_law_e","_law_some","_law_most"],(aF (top 100)).names,.hot⟩ (aK (top 100))=true:=by kernel_rfl
theorem Tz:cS (top 103) 2 ["_law_desk","_law_row","_law_found","_law_e"] gX:=by walk_at "o"
theorem Ue:cS (top 104) 4 ["_law_desk","_law_row","_law_which","_law_most"] fR:=by walk_at "o"
theorem Tt:cS (top 98) 1 ["_law_found"] jI:=by walk_at "o"
theorem Ti:cS (top 99) 2 ["_law_found","_law_due","_law_one","_law_other"] lB:=by walk_at "o"
theorem Ua:cS (top 105) 2 ["_law_desk","_law_due","_law_row","_law_found"] gW:=by walk_at "o"
theorem Tc:cS (top 101) 1 ["_law_number","_law_some"] oB:=by walk_at "o"
theorem Uk:cS (top 102) 1 ["_law_number","_law_some"] fT:=by walk_at "o"
theorem Tn:cS (top 106) 3 ["_law_script","_law_desk","_law_due","_law_k","_law_number"] lC:=by walk_at "o"
theorem Tf:cS (top 109) 2 ["_law_desk","_law_number","_law_place"] lA:=by walk_at "o"
theorem To:cS (top 110) 1 ["_law_number"] jJ:=by walk_at "o"
theorem Ug:cS (top 107) 1 ["_law_number","_law_place"] fS:=by walk_at "o"
theorem Uh:cS (top 108) 2 ["_law_desk","_law_number","_law_row"] fQ:=by walk_at "o"
theorem Au:cJ ["_law_script","_law_desk","_law_number","_law_many","_law_rule","_law_row"] ["_law_script"] (aF (top 111)):=⟨rfl,rfl,rfl,by decide+kernel,rfl,by decide+kernel,by decide+kernel⟩
theorem Ko (K:Fg):yQ (BQ K) ⟨["_law_script","_law_desk","_law_number","_law_many","_law_rule","_law_row"],(aF (top 111)).names,true⟩ (aK (top 111))=true:=by kernel_rfl
theorem Nj {K:Fg} {P:Program} {w:World} {h base:Heap} {mg:Str->Option Value} (X:K.In h) (G:h.Ns mainGlobals mg) (bl:∀x∈kB,mg x=none) (I_Desk:Gp K "Desk" "Desk.__init__" FU) (F44:FD K "_law_raw" (top 95)) (F47:FD K "_law_mix" (top 96)) (F35:FD K "_law_mixed" (top 97)) (F45:FD K "letters" (top 2)) (F46:FD K "is_word" (top 3)) (F3:FD K "is_word_up_to" (top 86)) (F30:FD K "is_number" (top 87)) (F29:FD K "is_within" (top 88)) (F38:FD K "is_limit" (top 89)) (F49:FD K "is_row" (top 85)) (F8:FD K "words_of_row" (top 84)) (F40:FD K "in_a_row" (top 93)) (F51:FD K "counts" (top 5)) (F56:FD K "table" (top 6)) (F1:FD K "words_by_letter" (top 28)) (F55:FD K "grows" (top 31)) (F11:FD K "signs_behind" (top 11)) (F25:FD K "sizes_once" (top 10)) (F53:FD K "sizes" (top 8)) (F12:FD K "sizes_until" (top 36)) (F48:FD K "figures" (top 32)) (F34:FD K "letter_at" (top 33)) (F26:FD K "stretch_at" (top 34)) (F58:FD K "put" (top 27)) (F52:FD K "added" (top 12)) (F13:FD K "counts_once" (top 9)) (F6:FD K "counts_behind" (top 7)) (F2:FD K "pieces_of_image" (top 41)) (F10:FD K "counts_ahead" (top 40)) (F23:FD K "letters_in" (top 52)) (F54:FD K "mixes" (top 45)) (F37:FD K "distance" (top 46)) (F31:FD K "counts_to" (top 35)) (F0:FD K "told_of_endless_word" (top 92)) (F5:FD K "is_rule_up_to" (top 26)) (F27:FD K "read_rule" (top 25)) (F32:SJ K "Desk" "keep_rule" "Desk.keep_rule" mJ) (F7:FD K "least_length" (top 56)) (F4:FD K "repeat_at_end" (top 55)) (F36:FD K "repeat_in" (top 54)) (F18:FD K "told_repeat" (top 90)) (F24:SJ K "Desk" "keep_start" "Desk.keep_start" kG) (F14:FD K "of_one_size" (top 67)) (F50:FD K "shares" (top 66)) (F9:FD K "told_of_rule" (top 91)) (F57:SJ K "Desk" "say" "Desk.say" OR) (F21:FD K "_law_caught" (top 100)) (F20:FD K "_law_answer" (top 103)) (F19:FD K "_law_refused" (top 104)) (F28:FD K "_law_whole" (top 98)) (F41:FD K "_law_same" (top 99)) (F22:FD K "_law_stands" (top 105)) (F43:FD K "_law_bad" (top 101)) (F17:FD K "_law_no_rule" (top 102)) (F42:FD K "_law_rows" (top 106)) (F39:FD K "_law_slow" (top 109)) (F33:FD K "_law_mosts" (top 110)) (F15:FD K "_law_of_word" (top 107)) (F16:FD K "_law_without" (top 108)) (k14:GC K "ALL_LETTERS" (.int 4)) (k10:GC K "ENOUGH_TURNS" (.int 10)) (k20:GC K "FIGURES" (.str "0123456789")) (k19:GC K "LETTERS" (.str "abcd")) (k12:GC K "MOST_FIGURES" (.int 30)) (k15:GC K "MOST_LENGTH" (.int 20)) (k11:GC K "MOST_LETTERS" (.int 4)) (k13:GC K "MOST_PIECES" (.int 300)) (k8:GC K "MOST_SIGNS_IN_TEXT" (.int 12)) (k0:GC K "MOST_SIGNS_OF_PIECE" (.int 12)) (k7:GC K "MOST_SIGNS_OF_WORD" (.int 300)) (k9:GC K "MOST_SIGNS_TOLD" (.int 200)) (k18:GC K "MOST_TOP" (.int 100)) (k17:GC K "MOST_TURNS" (.int 400)) (k16:GC K "RULE_AHEAD" (.str "rule ")) (kf:KF K) (A:Around) (hr:bM 14 A):BW (BQ K) ⟨P,w,K,mg,base,A⟩:=by
 have d:=@dn K P w h base mg X G bl;have u:=tI;have r0:=mg_of X G kf.n_WordError;have r7:=mg_of X G kf.n_NoRow;have r6:=mg_of X G kf.n_NoRule;have r5:=mg_of X G kf.n_NoStart;have r4:=mg_of X G kf.n_NoPiece;have r3:=mg_of X G kf.n_NotMixed;have r2:=mg_of X G kf.n_NoShares;have r1:=mg_of X G kf.n_TooGreat;have r8:=mg_of X G kf.n_Desk;have e_ini:=kf.ini;have e_ina:=kf.ina;have e_e_NoRow:=kf.e_NoRow;have e_e_NoRule:=kf.e_NoRule;have e_e_NoStart:=kf.e_NoStart;have e_e_NoPiece:=kf.e_NoPiece;have e_e_NotMixed:=kf.e_NotMixed;have e_e_NoShares:=kf.e_NoShares;have D57:Ou P w K mg base 1 "Desk" (pM K):=Fp I_Desk r8 bl (yJ K) Pq.1 (Pq.2.1 K) (Pq.2.2 _ _) Dn Aj (λA hr=>⟨⟨u,u⟩,⟨u,u⟩,u⟩);have D47:=d 0 F44 Td (by walk_at "l") K81.HG (λA hr=>⟨⟨⟨⟨u,u⟩,u⟩,⟨u,u⟩,u⟩,⟨u,u,u,u⟩,u⟩);have D46:=d 1 F47 Ta (by walk_at "l") K81.HH (λA hr=>⟨⟨⟨⟨u,u⟩,u⟩,⟨⟨⟨⟨⟨u,u⟩,u⟩,u⟩,u⟩,u⟩,u⟩,⟨u,u,u⟩,⟨⟨⟨⟨⟨D47.a hr,u,u,u⟩,u⟩,u⟩,u,⟨u,u⟩,u⟩,u⟩,u⟩);have D35:=d 0 F35 Tr (by walk_at "l") yZ (λA hr=>⟨⟨⟨⟨⟨⟨u,u⟩,u⟩,⟨u,u⟩,u⟩,u⟩,u⟩,⟨⟨u,u⟩,u⟩,u⟩);have D45:=d 0 F45 Tb (by walk_at "l") HF (λA hr=>⟨⟨(dH X G k19),u,u⟩,u⟩);have D48:=d 1 F46 Sz (by walk_at "l") HJ (λA hr=>⟨⟨⟨u,u,u⟩,⟨u,u⟩,u⟩,⟨D45.a hr,u,u⟩,⟨⟨u,⟨u,u⟩,u⟩,u⟩,u⟩);have D3:=d 2 F3 o5 (by walk_at "l") pC (λA hr=>⟨⟨⟨u,⟨u,u⟩,u⟩,⟨D48.a hr,u,(dH X G k14),u⟩,u⟩,u⟩);have D33:=d 0 F30 Tq (by walk_at "l") zH (λA hr=>⟨⟨⟨u,u⟩,⟨u,u⟩,u⟩,⟨⟨⟨⟨u,u⟩,u⟩,⟨⟨u,u⟩,(dH X G k12)⟩,⟨u,u,u⟩,u⟩,⟨u,u⟩,u⟩,⟨⟨u,⟨u,(dH X G k20)⟩,u⟩,u⟩,u⟩);have D29:=d 1 F29 Tw (by walk_at "l") zG (λA hr=>⟨⟨⟨D33.a hr,u,u⟩,⟨u,⟨u,u⟩,u⟩,u⟩,u⟩);have D42:=d 2 F38 Tj (by walk_at "l") CN (λA hr=>⟨⟨⟨⟨D29.a hr,⟨u,u⟩,(dH X G k18),u⟩,⟨D29.a hr,⟨u,u⟩,(dH X G k18),u⟩,u⟩,⟨u,u⟩,u⟩,⟨⟨⟨⟨u,u⟩,u⟩,⟨u,u⟩,u⟩,⟨⟨u,u⟩,u,u,u⟩,u⟩,u⟩);have D50:=d 3 F49 Sy (by walk_at "l") LS (λA hr=>⟨⟨⟨u,u,u,u,u⟩,⟨⟨⟨u,u⟩,u⟩,u⟩,u⟩,⟨⟨u,u⟩,⟨⟨⟨⟨u,u⟩,u⟩,⟨D33.a hr,⟨u,u⟩,u⟩,⟨D29.a hr,⟨u,u⟩,(dH X G k9),u⟩,u⟩,u⟩,u⟩,⟨⟨u,u⟩,⟨⟨⟨⟨u,u⟩,u⟩,⟨D3.a hr,⟨u,u⟩,(dH X G k7),u⟩,⟨D42.a hr,⟨u,u,u⟩,u⟩,u⟩,u⟩,u⟩,⟨⟨⟨u,u⟩,u⟩,⟨u,u⟩,u⟩,⟨⟨u,u⟩,⟨⟨D3.a hr,⟨u,u⟩,u,u⟩,u⟩,u⟩,⟨⟨u,u,u,u⟩,⟨⟨D33.a hr,⟨u,u⟩,u⟩,u⟩,u⟩,⟨⟨u,u⟩,⟨⟨D29.a hr,⟨u,u⟩,(dH X G k15),u⟩,u⟩,u⟩,⟨⟨u,u⟩,⟨D3.a hr,⟨u,u⟩,(dH X G k0),u⟩,u⟩,u⟩);have D8:=d 4 F8 Uo (by walk_at "l") qB (λA hr=>⟨⟨⟨u,u,u⟩,⟨⟨⟨r7,kf.e_NoRow⟩,u,u⟩,u⟩,u⟩,⟨⟨u,(dH X G k16),u⟩,⟨⟨u,⟨u,⟨(dH X G k16),u⟩,u⟩,u⟩,u⟩,u⟩,⟨u,u,u⟩,⟨⟨D50.a hr,⟨u,u⟩,⟨u,u,u⟩,u⟩,⟨⟨⟨r7,kf.e_NoRow⟩,u,u⟩,u⟩,u⟩,u,u⟩);have D39:=d 0 F40 Th (by walk_at "l") CO (λA hr=>⟨⟨u,⟨u,⟨u,u⟩,u⟩,u⟩,u⟩);have D51:=d 1 F51 Sx (by walk_at "l") LU (λA hr=>⟨⟨⟨D45.a hr,u,u⟩,⟨u,u,u⟩,u⟩,u⟩);have D53:=d 2 F56 Su (by walk_at "l") TC (λA hr=>⟨⟨u,⟨D51.a hr,u,⟨u,u⟩,u⟩,u⟩,u⟩);have D2:=d 1 F1 o1 (by walk_at "l") lK (λA hr=>⟨⟨⟨D45.a hr,⟨u,u⟩,u⟩,u,u⟩,u⟩);have D55:=d 2 F55 So (by walk_at "l") TJ (λA hr=>⟨⟨⟨D2.a hr,u,u⟩,u,u,u⟩,⟨⟨⟨u,u⟩,u⟩,⟨u,u,u⟩,u⟩,u⟩);have D9:=d 0 F11 o9 (by walk_at "l") qE (λA hr=>⟨⟨⟨⟨u,u,u⟩,⟨u,u⟩,u⟩,u⟩,u⟩);have D26:=d 1 F25 Tx (by walk_at "l") wC (λA hr=>⟨⟨u,⟨D9.a hr,u,u,u⟩,u⟩,u⟩);have D54:=d 3 F53 Ss (by walk_at "l") TF (λA hr=>⟨⟨D53.a hr,u,u⟩,⟨⟨u,u⟩,u,u⟩,⟨⟨u,u⟩,⟨D26.a hr,u,u,u⟩,u⟩,u,u⟩);have D14:=d 4 F12 Uj Pr.tY Pr.tK (λA hr=>⟨⟨⟨D55.a hr,u,u,u⟩,⟨⟨⟨r5,kf.e_NoStart⟩,u,u⟩,u⟩,u⟩,⟨D53.a hr,u,u⟩,⟨⟨D45.a hr,⟨u,u⟩,u⟩,u,u⟩,⟨⟨D54.a hr,u,u,u⟩,u⟩,⟨⟨⟨⟨u,u⟩,u⟩,u⟩,⟨⟨⟨u,u⟩,(dH X G k17)⟩,⟨⟨⟨r1,kf.ini,_,hr⟩,(dH X G k17)⟩,u⟩,u⟩,⟨u,⟨D26.a hr,u,⟨u,u⟩,u⟩,u⟩,u⟩,u,u⟩);have D44:=d 5 F48 Te Pr.IY Pr.HK (λA hr=>⟨⟨D14.a hr,u,u,u,u⟩,⟨D2.a hr,u,u⟩,u,u,u,⟨⟨⟨u,u,u⟩,u⟩,⟨⟨D45.a hr,⟨u,u⟩,u⟩,u,u⟩,⟨u,u⟩,u,⟨⟨⟨u,u,u⟩,u⟩,⟨u,u,u,u⟩,⟨u,u⟩,u⟩,⟨u,u⟩,⟨u,⟨u,u,u⟩,u⟩,u⟩,u,u⟩);have D34:=d 6 F34 Ts K26.AQ K26.yW (λA hr=>⟨⟨D44.a hr,u,u,u,u⟩,⟨⟨⟨u,u⟩,u⟩,⟨u,u⟩,u⟩,⟨⟨u,u⟩,u⟩,u⟩);have D21:=d 6 F26 Uc Pr.xK Pr.wA (λA hr=>⟨⟨D44.a hr,u,u,⟨⟨u,u⟩,u⟩,u⟩,⟨⟨D44.a hr,u,u,u,u⟩,u,u⟩,⟨⟨u,u⟩,⟨u,u⟩,u,u⟩,u,⟨⟨u,u⟩,u,u⟩,⟨u,u,u⟩,u⟩);have D59:=d 2 F58 Sn (by walk_at "l") Ie (λA hr=>⟨⟨D2.a hr,u,u⟩,⟨u,⟨u,⟨u,u⟩,u⟩,u⟩,u⟩);have D52:=d 0 F52 Sr (by walk_at "l") TK (λA hr=>⟨⟨⟨u,u,u⟩,⟨u,u⟩,u⟩,u⟩);have D13:=d 1 F13 Ul (by walk_at "l") tS (λA hr=>⟨⟨⟨u,u⟩,u,u⟩,⟨⟨u,u,u⟩,⟨D52.a hr,u,⟨u,⟨u,u⟩,u⟩,u⟩,u⟩,u,u⟩);have D4:=d 3 F6 o6 (by walk_at "l") pE (λA hr=>⟨⟨D53.a hr,u,u⟩,⟨u,u⟩,⟨⟨u,u⟩,⟨D13.a hr,u,u,u⟩,u⟩,u,u⟩);have D1:=d 3 F2 o2 (by walk_at "l") lL (λA hr=>⟨⟨D59.a hr,u,u,u⟩,⟨⟨⟨⟨D59.a hr,u,⟨u,u,u⟩,u⟩,u⟩,u⟩,⟨u,u,u,u,u⟩,u⟩,u⟩);have D11:=d 7 F10 o8 (by walk_at "l") Pr.qG (λA hr=>⟨⟨D21.a hr,u,u,u,u,u⟩,⟨u,u⟩,⟨u,⟨u,u⟩,u,u⟩,u,⟨⟨u,u,u⟩,⟨u,u⟩,⟨D59.a hr,u,⟨u,u,u⟩,u⟩,⟨D4.a hr,u,⟨u,u⟩,u,u⟩,⟨⟨⟨D1.a hr,u,u,u⟩,u⟩,⟨⟨u,u⟩,⟨⟨⟨⟨u,u⟩,(dH X G k13)⟩,⟨u,u⟩,u⟩,⟨u,u,u⟩,⟨u,u,D52.a hr,u,⟨D51.a hr,⟨u,u,u⟩,⟨u,u⟩,u⟩,u⟩,u⟩,u⟩,u⟩,⟨u,u⟩,u⟩,u,u⟩);have D25:=d 0 F23 Ub (by walk_at "l") K41.wD (λA hr=>⟨⟨u,⟨⟨u,u⟩,u⟩,u⟩,u⟩);have D56:=d 3 F54 Sq (by walk_at "l") K41.TH (λA hr=>⟨⟨D45.a hr,⟨u,u⟩,u⟩,⟨u,u⟩,⟨⟨(dH X G k10),u⟩,⟨u,⟨D25.a hr,⟨D59.a hr,u,u,u⟩,u⟩,u⟩,u⟩,⟨⟨u,⟨u,u⟩,u⟩,u⟩,u⟩);have D38:=d 8 F37 Tg (by walk_at "l") CP (λA hr=>⟨⟨⟨D55.a hr,u,u,u⟩,⟨u,u⟩,u⟩,⟨⟨D56.a hr,u,u⟩,⟨⟨⟨r3,kf.e_NotMixed⟩,u,u⟩,u⟩,u⟩,⟨⟨D11.a hr,u,u,⟨u,u⟩,u⟩,u⟩,⟨⟨u,u⟩,⟨⟨⟨r4,kf.e_NoPiece⟩,u,u⟩,u⟩,u⟩,u,u,u,u,u,u,u⟩);have D36:=d 6 F31 Tp (by walk_at "l") zI (λA hr=>⟨⟨D2.a hr,u,u⟩,⟨⟨u,u⟩,u,u⟩,⟨u,u,u,u⟩,⟨⟨D44.a hr,u,u,u,u⟩,u,u,u⟩,u,u⟩);have D0:=d 9 F0 o0 (by walk_at "l") gJ (λA hr=>⟨⟨⟨⟨u,u⟩,u⟩,⟨⟨D39.a hr,⟨D38.a hr,u,u,⟨u,u⟩,u⟩,u⟩,u⟩,u⟩,⟨⟨u,u⟩,u⟩,⟨⟨⟨u,u⟩,u⟩,⟨⟨D34.a hr,u,u,u,u⟩,u⟩,u⟩,⟨⟨⟨u,u⟩,u⟩,⟨⟨D21.a hr,u,u,u,⟨⟨u,u⟩,u⟩,u⟩,u⟩,u⟩,⟨⟨⟨u,u⟩,u⟩,⟨⟨D39.a hr,⟨D36.a hr,u,u,u,u⟩,u⟩,u⟩,u⟩,u,u⟩);have D5:=d 2 F5 o3 (by walk_at "l") pD (λA hr=>⟨⟨⟨u,u,u⟩,⟨u,u⟩,u⟩,⟨u,u⟩,⟨⟨⟨u,u⟩,⟨u,(dH X G k11)⟩,u⟩,⟨u,u⟩,u⟩,⟨⟨u,⟨⟨D48.a hr,u,u,u⟩,⟨u,⟨u,u⟩,u⟩,u⟩,u⟩,u⟩,u⟩);have D28:=d 3 F27 Tu (by walk_at "l") K05.yV (λA hr=>⟨⟨⟨u,u,u⟩,⟨⟨⟨r6,kf.e_NoRule⟩,u,u⟩,u⟩,u⟩,⟨⟨u,u,u⟩,u⟩,⟨⟨D5.a hr,u,(dH X G k8),u⟩,⟨⟨⟨r6,kf.e_NoRule⟩,u,u⟩,u⟩,u⟩,u,u⟩);have D31:Hk P w K mg base 5 "Desk" "keep_rule" (cV K):=DX F32 bl (fD K) Pt.1 (Pt.2.1 K) (Pt.2.2 _ _) AR zF (λA hr=>⟨⟨u,D28.a hr,u,u⟩,⟨u,u⟩,u,u⟩);have D10:=d 0 F7 Um (by walk_at "l") qF (λA hr=>⟨⟨⟨u,u⟩,u⟩,⟨⟨u,u⟩,⟨u,u⟩,u⟩,⟨⟨⟨u,u,u⟩,u⟩,u,u⟩,u⟩);have D6:=d 1 F4 o4 (by walk_at "l") oZ (λA hr=>⟨⟨⟨u,⟨u,u⟩,u⟩,⟨D10.a hr,u,u,u⟩,⟨⟨u,u,u⟩,⟨u,u⟩,u⟩,⟨u,⟨⟨u,u⟩,u⟩,u⟩,⟨⟨⟨u,u,u⟩,u,u,u,u⟩,⟨⟨⟨⟨u,u⟩,u⟩,u,u,u⟩,u⟩,u⟩,u⟩,u,u⟩);have D30:=d 2 F36 Tv (by walk_at "l") yU (λA hr=>⟨⟨⟨u,⟨⟨u,u⟩,u⟩,u⟩,⟨D6.a hr,⟨u,u,u⟩,u,u⟩,⟨⟨u,u⟩,⟨u,u⟩,u⟩,u⟩,u,u⟩);have D12:=d 3 F18 Ui (by walk_at "l") tJ (λA hr=>⟨⟨⟨⟨u,u⟩,u⟩,⟨⟨u,u⟩,u⟩,⟨⟨u,u⟩,u⟩,u⟩,⟨D30.a hr,⟨u,u⟩,u,u⟩,⟨⟨u,u⟩,⟨u,u⟩,u⟩,⟨D39.a hr,u,u⟩,u⟩);have D23:Hk P w K mg base 4 "Desk" "keep_start" (bW K):=DX F24 bl (eF K) Pu.1 (Pu.2.1 K) (Pu.2.2 _ _) xN wI (λA hr=>⟨⟨⟨D55.a hr,u,u,u⟩,⟨⟨⟨r5,kf.e_NoStart⟩,u,u⟩,u⟩,u⟩,⟨u,u⟩,u,u⟩);have D15:=d 0 F14 Ud (by walk_at "l") K82.tL (λA hr=>⟨⟨⟨u,u⟩,u⟩,⟨⟨u,u⟩,⟨⟨u,⟨⟨u,u⟩,u⟩,u⟩,u⟩,u⟩,u⟩);have D49:=d 1 F50 Sv (by walk_at "l") LR (λA hr=>⟨⟨⟨⟨D15.a hr,u,u⟩,u,u⟩,⟨⟨⟨r2,kf.e_NoShares⟩,u,u⟩,u⟩,u⟩,u,u,u,u,u⟩);have D7:=d 4 F9 o7 (by walk_at "l") qD (λA hr=>⟨⟨⟨u,u⟩,⟨⟨⟨D56.a hr,u,u⟩,u,u⟩,u⟩,u⟩,⟨⟨u,u⟩,⟨⟨u,⟨⟨D49.a hr,u,u⟩,u,u⟩,u⟩,u⟩,u⟩,u,u,u,u⟩);have D58:Hk P w K mg base 11 "Desk" "say" (aZ K):=DX F57 bl (BP K) Pp.1 (Pp.2.1 K) (Pp.2.2 _ _) Ks Hz (λA hr=>⟨⟨D8.a hr,u,u⟩,⟨⟨⟨u,u⟩,u⟩,⟨⟨D31.at hr (by decide),u,u,u⟩,u⟩,u⟩,⟨⟨⟨u,u⟩,u⟩,⟨⟨D12.a hr,u,u⟩,u⟩,u⟩,⟨⟨u,u⟩,⟨⟨⟨r6,kf.e_NoRule⟩,u,u⟩,u⟩,u⟩,⟨⟨⟨u,u⟩,u⟩,⟨⟨D23.at hr (by decide),u,u,u⟩,u⟩,u⟩,⟨⟨⟨u,u⟩,u⟩,⟨⟨D7.a hr,u,⟨u,u⟩,u⟩,u⟩,u⟩,⟨⟨u,u⟩,⟨⟨⟨r5,kf.e_NoStart⟩,u,u⟩,u⟩,u⟩,⟨D0.a hr,u,u,u,u⟩,u⟩);have D22:Ov P w K mg base 1 "_law_caught" (K81.cM K):=Fq F21 X G bl (K81.eE K) tW (xG K) (λ_ _ _ _ _ _ us hl=>Sa (Z:=λus=>bindArgs _ ⟨us,[]⟩=pure (List.zip _ us)) (λ_=>by exact rfl) us hl) K81.xM K81.wG (λA hr=>⟨⟨⟨u,⟨_,r7,rfl⟩,u⟩,⟨u,⟨_,r6,rfl⟩,u⟩,⟨u,⟨_,r5,rfl⟩,u⟩,⟨u,⟨_,r4,rfl⟩,u⟩,u⟩,⟨u,⟨u,⟨_,r3,rfl⟩,u⟩,⟨u,⟨_,r2,rfl⟩,u⟩,⟨u,⟨_,r1,rfl⟩,u⟩,u⟩,u,⟨⟨u,u⟩,⟨u,u⟩,u⟩,⟨u,u,⟨u,u,u⟩,u⟩,u⟩);have D20:=d 11 F20 Tz (by walk_at "l") wH (λA hr=>⟨u,⟨⟨r0,⟨⟨D58.at hr (by decide),⟨u,u⟩⟩,u⟩,λh=>⟨D22.at (L2.Na.bM.hot hr h) (by decide),⟨u,u⟩⟩⟩,⟨u,u⟩⟩⟩);have D16:=d 12 F19 Ue (by walk_at "l") tN (λA hr=>⟨⟨⟨D20.a hr,u,u,u⟩,⟨⟨u,u⟩,⟨u,u⟩,u⟩,u,u,u⟩,u⟩);have D27:=d 0 F28 Tt (by walk_at "l") yX (λA hr=>⟨⟨⟨u,u,u⟩,⟨u,u,u⟩,u⟩,u⟩);have D37:=d 1 F41 Ti (by walk_at "l") CL (λA hr=>⟨⟨⟨u,u⟩,⟨u,u⟩,u⟩,⟨⟨u,u,u⟩,⟨u,u⟩,u⟩,⟨⟨u,u,u⟩,⟨⟨⟨D27.a hr,u,u⟩,⟨u,u⟩,u⟩,u⟩,u⟩,⟨⟨u,u,u⟩,⟨⟨⟨u,u,u⟩,⟨u,u⟩,u⟩,u⟩,u⟩,u,u,u,u,u⟩);have D24:=d 11 F22 Ua (by walk_at "l") wF (λA hr=>⟨⟨u,⟨⟨D37.a hr,⟨D58.at hr (by decide),u,u⟩,u,u⟩,⟨u,u⟩,u⟩,u⟩,u,u⟩);have D43:=d 0 F43 Tc (by walk_at "l") HI (λA hr=>⟨⟨u,u,u,u,u,u,u,u,u,u,u,u⟩,⟨u,u,u,u,u,u,u,u,u,u⟩,⟨u,⟨u,u,u⟩,u,u,u,u,u,u,u⟩,⟨u,u,u,u,u,u,u,u⟩,⟨u,u,u,u,u,u,u,u,u⟩,⟨u,u,u,u,u,u,u,u,u,u⟩,⟨u,u,u,u⟩,⟨u,⟨u,u,u⟩,u,u,u,u,u,u,u,u,u⟩,⟨u,u,u,u,u,u,u,u⟩,⟨u,u,u,u,u,u,u⟩,⟨u,u,u,u,⟨⟨u,u,u⟩,u⟩,u⟩,⟨u,u,u,u,u,u,u,u,u⟩,⟨u,u,u,u,⟨u,u⟩,⟨u,u⟩,u,u,u⟩,⟨u,u,u,u⟩,u⟩);have D17:=d 0 F17 Uk (by walk_at "l") tQ (λA hr=>⟨⟨u,u,u,u,u,⟨u,u⟩,u,u,u,u,u,u,u⟩,⟨u,u,u,u⟩,u⟩);have D41:=d 13 F42 Tn (by walk_at "l") CM (λA hr=>⟨⟨⟨⟨⟨⟨u,u⟩,u,u⟩,u,u⟩,u⟩,⟨D35.a hr,⟨D47.a hr,u,u,u⟩,u,u⟩,⟨⟨D16.a hr,u,⟨D43.a hr,⟨⟨u,u⟩,u,u⟩,u⟩,u,u,u⟩,⟨u,u⟩,u⟩,⟨⟨⟨⟨u,u⟩,u⟩,⟨D16.a hr,u,⟨D17.a hr,⟨u,u⟩,u⟩,u,u,u⟩,u⟩,⟨u,u⟩,u⟩,⟨⟨D24.a hr,u,u,u⟩,⟨u,u⟩,u⟩,u⟩,u,u⟩);have D40:=d 13 F39 Tf (by walk_at "l") CK (λA hr=>⟨⟨⟨⟨⟨D58.at hr (by decide),u,u⟩,u⟩,⟨D16.a hr,u,u,u,u,u⟩,⟨⟨D58.at hr (by decide),u,u⟩,u⟩,u⟩,⟨u,u⟩,u⟩,⟨u,⟨u,u⟩,u,u⟩,⟨⟨⟨D16.a hr,u,⟨u,u,u⟩,u,u,u⟩,⟨D16.a hr,u,u,u,u,u⟩,u⟩,⟨u,u⟩,u⟩,⟨⟨D16.a hr,u,⟨⟨u,⟨u,u⟩,u⟩,u⟩,u,u,u⟩,⟨u,u⟩,u⟩,⟨⟨⟨D16.a hr,u,⟨u,u,u⟩,u,u,u⟩,⟨D16.a hr,u,u,u,u,u⟩,u⟩,⟨u,u⟩,u⟩,⟨D24.a hr,u,⟨⟨u,u,u⟩,⟨u,u,u⟩,⟨u,u,u⟩,u⟩,u⟩,u⟩);have D32:=d 2 F33 To (by walk_at "l") yY (λA hr=>⟨⟨⟨⟨r1,kf.ina,_,hr⟩,u⟩,⟨D37.a hr,⟨⟨r1,kf.ina,_,hr⟩,u⟩,u,u⟩,u⟩,u⟩);have D19:=d 0 F15 Ug (by walk_at "l") tP (λA hr=>⟨⟨⟨⟨u,u⟩,u⟩,u⟩,⟨⟨⟨⟨u,u⟩,⟨⟨u,u⟩,u⟩,⟨u,u⟩,u,u,u⟩,u,u⟩,u⟩,u⟩);have D18:=d 13 F16 Uh (by walk_at "l") tM (λA hr=>⟨⟨⟨⟨u,u,u,u,u⟩,D19.a hr,u,u⟩,⟨⟨D16.a hr,u,u,u,u,u⟩,⟨u,u⟩,u⟩,u⟩,⟨D37.a hr,⟨D58.at hr (by decide),u,u⟩,u,u⟩,u⟩);exact ⟨⟨D57.at hr (by decide),u⟩,⟨D46.a hr,u,u,u⟩,⟨⟨⟨D41.a hr,u,u,u,u⟩,⟨D18.a hr,u,u,u⟩,u⟩,⟨u,u⟩,u⟩,⟨u,⟨u,u⟩,u⟩,⟨⟨u,u,u⟩,u,u⟩,⟨⟨⟨⟨D58.at hr (by decide),u,u⟩,u⟩,⟨D16.a hr,u,⟨⟨D19.a hr,u,u⟩,u⟩,u,u,u⟩,u⟩,⟨u,u⟩,u⟩,⟨⟨u,⟨⟨u,u,u⟩,u,u⟩,u⟩,⟨⟨D16.a hr,u,u,u,u,u⟩,⟨u,u⟩,u⟩,u⟩,⟨⟨⟨⟨D58.at hr (by decide),u,u⟩,u⟩,⟨D16.a hr,u,u,u,u,u⟩,u⟩,⟨u,u⟩,u⟩,⟨⟨D41.a hr,u,u,⟨⟨u,u,u⟩,⟨u,u,u⟩,u⟩,u⟩,⟨u,u⟩,u⟩,⟨⟨D40.a hr,u,u,u⟩,⟨D32.a hr,⟨⟨D47.a hr,u,u,u⟩,u,u⟩,u⟩,u⟩,u⟩
end L2.Na.K92
open PySem PySem.W PyProof.Rows
set_option maxRecDepth 100000 in
set_option maxHeartbeats 0 in
theorem PySem.Challenge.cw_neveragain_k92_desk_refused_holds : PySem.Challenge.rw_neveragain_k92_desk_refused.Holds := by
 w_on
 refine L2.Hd.ol λsaid=>?_;refine holds_open (q:=L2.Hd.q PySem.Challenge.pw_neveragain_k92_desk_refused) (loose:=L2.Hd.lo) (XP:=XL (L2.Hd.q PySem.Challenge.pw_neveragain_k92_desk_refused) [])
  (Yf:=Hook.obs (kHook L2.Hd.K L2.Hd.ads L2.Hd.he)) (Ya:=Hook.val (kHook L2.Hd.K L2.Hd.ads L2.Hd.he))
  (YP:=Hook.says (kHook L2.Hd.K L2.Hd.ads L2.Hd.he)) (N:=4700) L2.Hd.left (Hook.of (kHook L2.Hd.K L2.Hd.ads L2.Hd.he))
  (Hook.keeps (kHook L2.Hd.K L2.Hd.ads L2.Hd.he)) (λs e=>xl_of s (Bool.and_eq_true_iff.mp e).1) XL.keeps (by rfl) (by rfl) (by rfl)
  (λs e=>recFacts_of (Bool.and_eq_true_iff.mp e).2) (by rfl) (by assumption) (by decide+kernel)
  ⟨rfl,rfl,rfl,rfl,rfl,by decide+kernel⟩ ?hw ?hc
 case hw=>w_witness2
 k_fill
 refine L2.Na.VJ (KF:=L2.Na.K92.KF) (l:=PySem.Challenge.rw_neveragain_k92_desk_refused) (k:=14) (x:="_law_script") (sp:=L2.Na.K92.wL) rfl rfl ⟨rfl,by decide,by decide⟩ (λw h Y=>PySem.W.kIn_of Y) ?KF rfl L2.Na.K92.BQ L2.Na.K92.Au L2.Na.K92.Ko (λ_ _ _ _ _ _ _=>rfl) (λ_=>L2.Na.K92.Kt) (λ_ kf=>L2.Na.K92.Ii kf) ?F ?Q L2.Na.K92.Je
 case KF=>
  intro w;constructor<;>walk_at "k"
 case F=>
  intro w h KX;refine ⟨?a,?b⟩
  case a=>walk_at "f"
  case b=>
   unfold L2.Na.kB;refine ⟨?_,?_,?_,?_,?_,?_,?_,?_,?_,?_,?_,?_,?_,?_,?_,?_,?_,?_,?_,?_,?_,?_,L2.tI⟩<;>k_is
 case Q=>
  intro w mg h base kf KX G bl A hr;refine' L2.Na.K92.Nj KX G bl ?_ ?_ ?_ ?_ ?_ ?_ ?_ ?_ ?_ ?_ ?_ ?_ ?_ ?_ ?_ ?_ ?_ ?_ ?_ ?_ ?_ ?_ ?_ ?_ ?_ ?_ ?_ ?_ ?_ ?_ ?_ ?_ ?_ ?_ ?_ ?_ ?_ ?_ ?_ ?_ ?_ ?_ ?_ ?_ ?_ ?_ ?_ ?_ ?_ ?_ ?_ ?_ ?_ ?_ ?_ ?_ ?_ ?_ ?_ ?_ ?_ ?_ ?_ ?_ ?_ ?_ ?_ ?_ ?_ ?_ ?_ ?_ ?_ ?_ ?_ kf A hr<;>walk_at "f"
#print axioms PySem.Challenge.cw_neveragain_k92_desk_refused_holds
