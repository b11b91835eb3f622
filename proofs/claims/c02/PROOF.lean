import PyProof.Rows.All
import Wide.All
import OpenK.AllK
import Wide.FinOn
import PyProof.EqAt
import PyProof.EqKinds
import PyProof.TupleCall
import KE.BitLaws
import Open.SpecLaws
import KE.OsHead
import KE.OsGo
import PySem.Challenge.RW_cabinetsdesk_s01_answers
import KE.KTab
import KE.KTabLook
import PyProof.P3Eq
import PyProof.Draws
import PyProof.ZipIter
import KE.KTurns
import KE.KNestM
set_option Elab.async false
set_option linter.all false
set_option maxRecDepth 100000
set_option maxHeartbeats 0
set_option compiler.extract_closed false
set_option bootstrap.genMatcherCode false
open Lean in
local macro_rules(kind:=Lean.Parser.Command.declaration)|s=>do
 if (s.getPos? true).isNone then Macro.throwUnsupported
 let d:=s[1]
 let f:=d.getKind== ``Parser.Command.definition
 let t:=d[2][1].getNumArgs>0
 let s:=if s[0][4].getNumArgs>0 then s else if f&&t&&d[1][0].getId.getString!.front.isLower then s.setArg 1 (.node .none ``Parser.Command.theorem #[.atom .none "",d[1],.node .none ``Parser.Command.declSig #[d[2][0],d[2][1][0]],d[3]]) else if f||d.getKind== ``Parser.Command.abbrev then (s.setArg 0 (s[0].setArg 4 (mkNullNode #[.node .none ``Parser.Command.noncomputable #[.atom .none ""]]))).setArg 1 (if t then d else .node .none ``Parser.Command.abbrev (d.getArgs.take 4)) else s
 pure (s.rewriteBottomUp fun|.ident _ r v p=>.ident .none r v p|.atom _ x=>.atom .none x|x=>x)
open Lean in
local macro_rules|`(command|#check"tw")=>withRef .missing do
 let mut c:=#[]
 let f:=fun (s:String)=>`(command|theorem $(mkIdent (.mkStr `PySem.W.Fast s)):ident:True:=trivial)
 let g:=fun (s:String) (i:Nat)=>f s!"tw{(Name.mkStr `L2.cw_hd s!"{s}_{i}").hash}"
 for i in [0:1100] do c:=c.push (←g "o" i)
 for i in [9, 67, 118, 180, 256, 315, 375, 416, 483, 560, 618, 688, 705, 759, 782, 838, 852, 905, 958, 1011, 1020, 1085, 1094] do c:=c.push (←g "tree" i)
 for i in [11, 68, 119, 181, 257, 318, 376, 419, 486, 561, 621, 689, 708, 760, 783, 839, 853, 906, 961, 1012, 1021, 1086] do c:=c.push (←g "sts" i)
 for i in [1, 8, 1095] do c:=c.push (←g "heap" i)
 return mkNullNode (c++#[←g "view" 1,←g "env" 3,←f "tw10928115641079155119",←f "tw1870720430694988643",←f "tw9169952050361672387"])
#check"tw"
namespace L2
open PySem PySem.Spec PyProof.Rows
theorem RR{α:Sort _}{a:α}:a=a:=rfl
open Ks470(five Hall house count plane share whom holdersOf Ans some_ both PLANE PARTIES does_ okParty mood formed act begin_)
open Ks466(House gets dear seat turns)
open Ks465(most seatsOf wide rows_ sets away better)
open Ks464(voting)
open Ks468(rather)
open Ks470Neutral(nats asked)
open PyFlat(told)
open PyKs470(answers_asked)
open PySem.W(Frag instObj methodObj lookIn handedIn plainGet_of takerIn emptyDict specialIn methodCall_KW callWith_K callWith_K0 cellsFrom_some codeRec_of kla_obj codeHd_of_K envX kla_fn)
open PySem.F(slot_list_index plainAttrs_list entry_min_loop plain_min_loop kind_min plain_min entry_min entry_max_loop plain_max_loop slot_list_extend type_list_extend)
open PySem.Builtin.SmallTypes(nextOf ownedTupleIsFree ownedTupleHandOut newClass iterAll)
abbrev _root_.PySem.Shared.hz(s:Shared):Nat:=s.heap.objs.size
def B3:=Str->Option Value
def O2:=Option Value
def Ag:=List Str
def Ae:=List Nat
def Am:=List Int
def Ay:=List Value
def Ax:=List Addr
def Bc:=List (Addr×Obj)
def DY:=List (Str×Str)
def CP:=Value->Shared->Prop
def aeN:0<=sizeLine:=by decide
def bq:1<=sizeLine:=by decide
def cQ:2<=sizeLine:=by decide
def sy:3<=sizeLine:=by decide
def aeM:5<=sizeLine:=by decide
def aeL:6<=sizeLine:=by decide
inductive BL{A0 A1 A2:Type}(p:A0->A1->A2->Prop):Prop|mk (a:A0)(b:A1)(c:A2)(h:p a b c):BL p
inductive VB{A0 A1 A2 A3 A4 A5 A6 A7 A8:Type}(p:A0->A1->A2->A3->A4->A5->A6->A7->A8->Prop):Prop|mk (a:A0)(b:A1)(c:A2)(d:A3)(e:A4)(f:A5)(g:A6)(h:A7)(i:A8)(h:p a b c d e f g h i):VB p
inductive Av(a b c:Prop):Prop|mk (_:a)(_:b)(_:c):Av a b c
inductive B9(a b c d e:Prop):Prop|mk (_:a)(_:b)(_:c)(_:d)(_:e):B9 a b c d e
inductive V where
 |BM|bl (b:Bool)|int (i:Int)|str (x:Str)|Nh (b:Array UInt8)|VY (b:UInt64)|ref (a:Addr)|ty (n:String)
 deriving DecidableEq
def RelV:V->Value->Prop
 | .BM,u=>u=Value.none
 | .bl b,u=>u=Value.bool b
 | .int i,u=>∃t,u=Value.int i t
 | .str x,u=>∃t,u=Value.str x t
 | .Nh b,u=>∃t,u=Value.bytes b t
 | .VY b,u=>∃t,u=Value.float b t
 | .ref a,u=>u=Value.ref a
 | .ty n,u=>u=Value.type n
abbrev Vals:List V->Ay->Prop:=Paired RelV
structure Jp(K:Frag)(C:Addr):Prop where
 pg:PySem.W.plainGet K C Str.empty=true
 hd:PySem.W.hasDictIn K C=true
 po:PySem.W.plainOver K C=true
 sa:PySem.W.findIn K (.ref C) "__setattr__" =some (some (.builtin "object.__setattr__"))
def AR(K:Frag)(C:Addr)(f:Str):Prop:=PySem.W.findIn K (.ref C) f=some none
structure Meth(K:Frag)(C:Addr)(m:Str)(f:Addr):Prop where
 at_:PySem.W.findIn K (.ref C) m=some (some (.ref f))
 fn:PySem.W.isFn K (.ref f)=true
 kp:PySem.W.keepIn K (.ref f)=true
variable{f C:Addr}in
structure Mk(K:Frag)(C f:Addr):Prop where
 makes:PySem.W.makesIn K C=true
 init:PySem.W.findIn K (.ref C) "__init__" =some (some (.ref f))
 fn:PySem.W.isFn K (.ref f)=true
 kp:PySem.W.keepIn K (.ref C)=true
noncomputable def inClass(s:Stmt)(j:Nat):Stmt:=match s with
 | .ClassDef _ _ _ body _ _ _ _ _ _ _=>body.getD j (.Pass ⟨0,0,0,0⟩)
 |_=>.Pass ⟨0,0,0,0⟩
def B5(s:Stmt):Arguments:=match s with
 | .FunctionDef _ a _ _ _ _ _ _ _ _=>a
 |_=>{posonlyargs:=[],args:=[],vararg:=none,kwonlyargs:=[],kw_defaults:=[],kwarg:=none,defaults:=[]}
def AX(s:Stmt):List Stmt:=match s with
 | .FunctionDef _ _ b _ _ _ _ _ _ _=>b
 |_=>[]
def Ap(s:Stmt):Scope:=match s with
 | .FunctionDef _ _ _ _ _ _ sc _ _ _=>sc
 |_=>{kind:=.function,names:=[],isGenerator:=false,isCoroutine:=false}
structure RO(K:Frag)(x qual:Str)(st:Stmt)(f:Addr)(fd:FuncData):Prop where
 ex:(VB λ(oc:Value) (od:Option Addr) (kV doc pm:Value) (an:Option Addr) (B_ ct:Value) (OG:Array (O2))=>Av (fd=PySem.W.fnOf x qual (B5 st) (AX st) (Ap st) .none kV doc pm an B_ ct) (K.lookup f=some ⟨oc,od,.func fd,OG⟩) (PySem.W.codeIn K B_ qual=true))
 kp:PySem.W.keepIn K (.ref f)=true
def rM{st:Stmt}{kV:Value}(l:kK.lookup f=some ⟨oc,od,.func (PySem.W.fnOf x qual (B5 st) (AX st) (Ap st) .none kV doc pm an B_ ct),OG⟩)
  (c:PySem.W.codeIn kK B_ qual=true)(k:PySem.W.keepIn kK (.ref f)=true):RO kK x qual st f (PySem.W.fnOf x qual (B5 st) (AX st) (Ap st) .none kV doc pm an B_ ct):=⟨⟨oc,od,kV,doc,pm,an,B_,ct,OG,RR,l,c⟩,k⟩
noncomputable def top(i:Nat):Stmt:=PySem.Challenge.pw_cabinetsdesk_s01_answers.main.body.getD i (.Pass ⟨0,0,0,0⟩)
structure Def(K:Frag)(mg:B3)(x:Str)(st:Stmt):Prop where
 ex:∃(f:Addr) (fd:FuncData),mg x=some (.ref f)/\RO K x x st f fd
structure EN(K:Frag)(C:Addr)(m qual:Str)(st:Stmt):Prop where
 ex:∃(f:Addr) (fd:FuncData),Meth K C m f/\RO K m qual st f fd
def TN:=top 2
def TM:=top 3
def La:=top 4
def Jw:=top 5
def Gs:=top 6
def Jr:=top 7
def QS:=top 8
def Js:=top 9
def Fx:=top 10
def Ha:=inClass (top 16) 0
def Gp:=top 17
def Gn:=top 18
def Gq:=top 19
def Gm:=top 20
def My:=top 30
def G3:=top 31
def G4:=top 32
def QU:=top 33
def CK:=top 34
def DJ:=top 35
def Ik:=top 38
def Lg:=top 39
def E5:=top 40
def Lc:=top 41
def K9:=top 46
def OA:=top 47
def Lh:=top 48
def Mx:=top 49
def D7:=top 50
def Gu:=top 51
def E7:=top 52
def D_:=top 53
def FA:=top 54
def Fc:=top 55
def Eb:=top 56
def Gv:=top 57
def Fy:=top 59
def DL:=top 60
def Lb:=top 63
def Le:=top 64
def G5:=top 65
def Iu:=top 66
def Io:=top 67
def Im:=top 68
def Ip:=top 69
def Il:=top 70
def Jy:=top 71
def Jz:=top 72
def MD:=top 73
def QV:=top 74
def MB:=top 75
def Mz:=top 76
def Iq:=top 78
def Gr:=top 79
def OC:=top 81
def G6:=top 83
def DK:=top 84
def Lf:=top 85
def D9:=top 86
def Jx:=top 87
def Jt:=top 88
def Gy:=top 89
def Gw:=top 90
def FF:=top 91
def E8:=top 92
def CI:=top 93
def Ct:=top 94
def Dr:=top 96
def CJ:=top 97
def Ir:=top 102
def MA:=top 103
def Oz:=top 104
def MC:=top 105
def Ez:=top 106
def Mw:=top 107
def Fw:=top 108
def E_:=top 109
def Fb:=top 110
def Ds:=top 111
def DN:=top 112
def Fd:=top 113
def E9:=top 114
def Fz:=top 116
def DO:=top 117
def Jv:=top 119
def OB:=top 120
def ED:=top 121
def Gx:=top 122
def C3:=top 124
def G7:=top 128
def Ju:=top 129
def ME:=top 130
def K_:=top 131
def FE:=top 132
def FD:=top 133
def FJ:=top 134
def FI:=top 135
def FG:=top 136
def FC:=top 137
def EA:=top 139
def C_:=top 140
def Iz:=inClass (top 146) 0
def GB:=inClass (top 147) 0
def Fg:=inClass (top 147) 1
def Dc:=inClass (top 147) 2
def Ef:=inClass (top 147) 3
def Dt:=inClass (top 147) 4
def DP:=inClass (top 147) 5
def E4:=top 149
def Ld:=top 150
def G8:=inClass (top 151) 0
def Ed:=inClass (top 151) 1
def GA:=inClass (top 151) 2
def Fe:=inClass (top 151) 3
def Ff:=inClass (top 151) 4
def Ec:=inClass (top 151) 5
def Ee:=inClass (top 151) 6
def FH:=top 152
def EE:=top 153
def DM:=top 154
def Gz:=top 155
def EC:=top 156
def EB:=top 157
def E6:=top 158
def B2:=top 159
def D8:=top 161
def C2:=top 162
def G_:=inClass (top 164) 0
def G9:=inClass (top 164) 1
def BQ:=top 169
def TQ:=top 170
def Iw:=inClass (top 171) 0
def Dy:=inClass (top 171) 1
def GC:=inClass (top 171) 2
def Iy:=inClass (top 171) 3
def Hc:=inClass (top 171) 4
def Iv:=inClass (top 171) 5
def GD:=inClass (top 171) 6
def Li:=top 173
structure Nz(K:Frag)(C:Addr)(qual:Str)(st:Stmt):Prop where
 ex:∃(f:Addr) (fd:FuncData),Mk K C f/\RO K "__init__" qual st f fd
structure Ad where
 Ey:Addr
 CG:Addr
 Cs:Addr
 Kj:Addr
 Party:Addr
 Call:Addr
 Reader:Addr
 Views:Addr
 State:Addr
 BE:Addr
structure Xw(K:Frag)(mg:B3):Prop where
 bit:Def K mg "bit" TN
 has:Def K mg "has" TM
 members:Def K mg "members" La
 RB:Def K mg "everyone" Jw
 Nd:Def K mg "every_group" Gs
 QR:Def K mg "seats_in" Jr
 wins:Def K mg "wins" QS
 BR:Def K mg "lessened" Js
 LU:Def K mg "least_groups" Fx
 MH:Def K mg "right_seats" Gp
 MG:Def K mg "right_wants" Gn
 MI:Def K mg "right_cares" Gq
 MF:Def K mg "right_worth" Gm
 C5:Def K mg "sooner" My
 NO:Def K mg "whose_turn" G3
 NP:Def K mg "turn_order" G4
 Aaj:Def K mg "gain" QU
 DH:Def K mg "all_taken" CK
 HP:Def K mg "holders_by_turns" DJ
 O1:Def K mg "yes_or_no" Ik
 Ti:Def K mg "counted" Lg
 KP:Def K mg "counted_pairs" E5
 SS:Def K mg "in_five" Lc
 Sb:Def K mg "vote_of" K9
 tally:Def K mg "tally" OA
 Tj:Def K mg "at_odds" Lh
 stands:Def K mg "stands" Mx
 IH:Def K mg "standing_groups" D7
 Nk:Def K mg "answer_vote" Gu
 KU:Def K mg "answer_stands" E7
 Jd:Def K mg "answer_standing" D_
 L8:Def K mg "answer_tight" FA
 K1:Def K mg "answer_fewest" Fc
 Je:Def K mg "answer_smallest" Eb
 Nl:Def K mg "answer_part" Gv
 LV:Def K mg "is_vote_call" Fy
 HW:Def K mg "answer_vote_call" DL
 install:Def K mg "install" Lb
 Tg:Def K mg "dismiss" Le
 settle:Def K mg "settle" G5
 PZ:Def K mg "add_party" Iu
 Ph:Def K mg "set_seats" Io
 Pg:Def K mg "set_wants" Im
 Pj:Def K mg "set_cares" Ip
 Pf:Def K mg "set_worth" Il
 RH:Def K mg "add_like" Jy
 RI:Def K mg "add_hate" Jz
 forget:Def K mg "forget" MD
 form:Def K mg "form" QV
 leaves:Def K mg "leaves" MB
 resign:Def K mg "resign" Mz
 PF:Def K mg "is_change" Iq
 MX:Def K mg "make_change" Gr
 chain:Def K mg "chain" OC
 N8:Def K mg "may_govern" G6
 HR:Def K mg "governing_groups" DK
 Th:Def K mg "deal_of" Lf
 Jc:Def K mg "governing_deals" D9
 RG:Def K mg "all_gain" Jx
 Ra:Def K mg "left_for" Jt
 Np:Def K mg "answer_deal" Gy
 Nm:Def K mg "answer_mays" Gw
 Mb:Def K mg "answer_leave" FF
 KW:Def K mg "answer_stable" E8
 EK:Def K mg "answer_on" CI
 De:Def K mg "answer_best" Ct
 Hm:Def K mg "is_coalition_call" Dr
 Fo:Def K mg "answer_coalition_call" CJ
 PH:Def K mg "in_middle" Ir
 places:Def K mg "places" MA
 width:Def K mg "width" Oz
 UU:Def K mg "is_row" MC
 Jq:Def K mg "winning_groups" Ez
 Us:Def K mg "way_to" Mw
 LD:Def K mg "seats_nearer" Fw
 KZ:Def K mg "answer_middle" E_
 K0:Def K mg "answer_joined" Fb
 Hu:Def K mg "answer_neighbours" Ds
 HY:Def K mg "answer_narrowest" DN
 K2:Def K mg "answer_centre" Fd
 KY:Def K mg "answer_motion" E9
 LW:Def K mg "is_line_call" Fz
 HZ:Def K mg "answer_line_call" DO
 RA:Def K mg "feelings" Jv
 Wh:Def K mg "stock" OB
 J2:Def K mg "answer_governs" ED
 Nn:Def K mg "answer_look" Gx
 Gj:Def K mg "answer_looking_call" C3
 N9:Def K mg "lookers_of" G7
 Rw:Def K mg "gains_of" Ju
 Vo:Def K mg "envies" ME
 Sf:Def K mg "swapped" K_
 Ma:Def K mg "answer_order" FE
 L_:Def K mg "answer_plain" FD
 Mf:Def K mg "answer_ahead" FJ
 Me:Def K mg "answer_alone" FI
 Mc:Def K mg "answer_gains" FG
 L9:Def K mg "answer_swaps" FC
 JS:Def K mg "is_office_call" EA
 GW:Def K mg "answer_office_call" C_
 KN:Def K mg "every_sharing" E4
 SY:Def K mg "how_far" Ld
 Md:Def K mg "answer_beats" FH
 J3:Def K mg "answer_beaters" EE
 HX:Def K mg "answer_unseaters" DM
 Nq:Def K mg "answer_calm" Gz
 J1:Def K mg "answer_holding" EC
 J0:Def K mg "answer_middles" EB
 KS:Def K mg "answer_strong" E6
 Dd:Def K mg "answer_fall" B2
 IZ:Def K mg "is_sharing_call" D8
 Gi:Def K mg "answer_sharing_call" C2
 LH:Def K mg "names_nobody" BQ
 ask:Def K mg "ask" TQ
 answers:Def K mg "answers" Li
structure Xx(K:Frag)(mg:B3):Prop where
 Dk:∃t,mg "NOBODY" =some (.int (0) t)
 Oq:∃t,mg "MOST_SEATS" =some (.int (200) t)
 Nw:∃t,mg "MOST_WANTED" =some (.int (30) t)
 Qe:∃t,mg "MOST_CARE" =some (.int (5) t)
 Oo:∃t,mg "MOST_WORTH" =some (.int (50) t)
 Tq:∃t,mg "NO_HALL" =some (.int (-61) t)
 To:∃t,mg "UNKNOWN" =some (.int (-2) t)
 Dv:∃t,mg "WRONG" =some (.int (-22) t)
 NA:∃t,mg "GOVERNED" =some (.int (-16) t)
 Aav:∃t,mg "FULL" =some (.int (-28) t)
 O0:∃t,mg "ALREADY" =some (.int (-17) t)
 G0:∃t,mg "ABSENT" =some (.int (-6) t)
 DV:∃t,mg "IMPOSSIBLE" =some (.int (-33) t)
 Oh:∃t,mg "WORDS_FIVE" =some (.int (5) t)
 F6:∃t,mg "IN_FAVOUR" =some (.int (0) t)
 Mn:∃t,mg "AGAINST" =some (.int (1) t)
 Tr:∃t,mg "NEITHER" =some (.int (2) t)
 Mj:∃t,mg "MOST_PARTIES" =some (.int (5) t)
 FIRST:∃t,mg "FIRST" =some (.int (0) t)
 Oj:∃t,mg "SECOND" =some (.int (1) t)
 Ot:∃t,mg "LAST_PLACE" =some (.int (100) t)
 OV:∃t,mg "PLAINLY" =some (.int (0) t)
 RW:∃t,mg "AHEAD" =some (.int (1) t)
 XB:∃t,mg "PARTY" =some (.str "i" t)
 XG:∃t,mg "GROUP" =some (.str "s" t)
 ROW:∃t,mg "ROW" =some (.str "w" t)
 Qg:∃t,mg "LAST_RULE" =some (.int (2) t)
 Ml:∃t,mg "MOST_OFFICES" =some (.int (5) t)
 Qc:∃t,mg "MOST_KEPT" =some (.int (16) t)
 OQ:mg "abs" =none
 RE:mg "all" =none
 Ue:mg "any" =none
 IE:mg "enumerate" =none
 AV:mg "len" =none
 DT:mg "list" =none
 ID:mg "max" =none
 IC:mg "min" =none
 Ck:mg "range" =none
 Fh:mg "sum" =none
 OP:mg "tuple" =none
 RD:mg "zip" =none
structure Xv(K:Frag)(mg:B3)(ad:Ad):Prop where
 Te:mg "Party" =some (.ref ad.Party)
 Bq:Jp K ad.Party
 Cy:AR K ad.Party "seats"
 Cw:AR K ad.Party "wants"
 Cz:AR K ad.Party "cares"
 Cv:AR K ad.Party "worth"
 rD:Nz K ad.Party "Party.__init__" Ha
 Vj:mg "Call" =some (.ref ad.Call)
 Cr:Jp K ad.Call
 BZ:AR K ad.Call "name"
 Hx:AR K ad.Call "kinds"
 Cn:AR K ad.Call "taken"
 vd:Nz K ad.Call "Call.__init__" Iz
 Rx:mg "Reader" =some (.ref ad.Reader)
 Bi:Jp K ad.Reader
 Cm:AR K ad.Reader "numbers"
 Bf:AR K ad.Reader "position"
 nN:Nz K ad.Reader "Reader.__init__" GB
 Tc:mg "Views" =some (.ref ad.Views)
 AF:Jp K ad.Views
 Ep:AR K ad.Views "seats"
 GG:AR K ad.Views "total"
 BD:AR K ad.Views "sharings"
 Br:AR K ad.Views "distances"
 rB:Nz K ad.Views "Views.__init__" G8
 Td:mg "State" =some (.ref ad.State)
 BG:Jp K ad.State
 CZ:AR K ad.State "rule"
 AS:AR K ad.State "offices"
 Ac:AR K ad.State "parties"
 BC:AR K ad.State "likes"
 Ba:AR K ad.State "hates"
 Aq:AR K ad.State "cabinet"
 Bv:AR K ad.State "holders"
 rC:Nz K ad.State "State.__init__" G_
 Vi:mg "Desk" =some (.ref ad.BE)
 AL:Jp K ad.BE
 AA:AR K ad.BE "current"
 Bg:AR K ad.BE "earlier"
 BK:AR K ad.BE "later"
 vc:Nz K ad.BE "Desk.__init__" Iw
 K5:EN K ad.Reader "at_end" "Reader.at_end" Fg
 GX:EN K ad.Reader "read_number" "Reader.read_number" Dc
 Jj:EN K ad.Reader "read_row" "Reader.read_row" Ef
 Hz:EN K ad.Reader "read_value" "Reader.read_value" Dt
 Ih:EN K ad.Reader "read_call" "Reader.read_call" DP
 Jg:EN K ad.Views "seats_for" "Views.seats_for" Ed
 Nt:EN K ad.Views "beats" "Views.beats" GA
 K3:EN K ad.Views "unseats" "Views.unseats" Fe
 K4:EN K ad.Views "beaters" "Views.beaters" Ff
 Jf:EN K ad.Views "unseaters" "Views.unseaters" Ec
 Jh:EN K ad.Views "is_strong" "Views.is_strong" Ee
 Oi:EN K ad.State "twin" "State.twin" G9
 Ou:EN K ad.BE "begin" "Desk.begin" Dy
 NB:EN K ad.BE "change" "Desk.change" GC
 Qk:EN K ad.BE "back" "Desk.back" Iy
 Ov:EN K ad.BE "again" "Desk.again" Hc
 Qj:EN K ad.BE "tell" "Desk.tell" Iv
 NC:EN K ad.BE "answer" "Desk.answer" GD
structure Kc(K:Frag)(mg:B3)(x:Str)(st:Stmt)(P:Addr):Prop where
 ex:∃(f:Addr) (fd:FuncData) (c:Addr),mg x=some (.ref f)/\RO K x x st f fd/\fd.code= .ref c/\PySem.W.codeHdIn K c P=true
def Gk(h:Heap)(m:B3)(x:Str)(D:DY):Prop:=∃d,m x=some (.ref d)/\KTD.TabOf (λy v=>m y=some v) h d D
def Gk.keep(t:Gk h m x D)(k:∀b o,h.get? b=some o->h'.get? b=some o):Gk h' m x D:=by obtain⟨d,e,q⟩:=t;exact⟨d,e,q.keep k λ_ _ z=>z⟩
def KTup(K:Frag)(a:Addr)(xs:List V):Prop:=(BL λ(o:Obj) (its:Array Value) (n:Nat)=>B9 (K.lookup a=some o) (o.cls= .type "tuple") (o.data= .seq its n) (its.size<=sizeLine) (Vals xs its.toList))
def Az:DY:=("begin","nn")::("party","nnnnnw")::("seats","in")::("wants","inn")::("cares","inn")::("worth","iw")::("like","ii")::("hate","ii")::("forget","ii")::("form","s")::("leaves","i")::("resign","")::("back","")::("again","")::("vote","s")::("stands","s")::("standing","")::("tight","")::("fewest","")::("smallest","")::("part","i")::("middle","")::("joined","s")::("neighbours","")::("narrowest","")::("centre","")::("motion","nn")::("order","s")::("plain","s")::("ahead","s")::("alone","si")::("gains","sn")::("swaps","sn")::("beats","iiii")::("beaters","ii")::("unseaters","ii")::("calm","")::("holding","")::("middles","")::("strong","")::("fall","ii")::("deal","s")::("mays","")::("leave","s")::("stable","")::("on","s")::("best","i")::("governs","")::("look","i")::("state","")::[]
def Ce:DY:=[("vote","answer_vote"),("stands","answer_stands"),("standing","answer_standing"),("tight","answer_tight"),("fewest","answer_fewest"),("smallest","answer_smallest"),("part","answer_part")]
def BU:DY:=[("party","add_party"),("seats","set_seats"),("wants","set_wants"),("cares","set_cares"),("worth","set_worth"),("like","add_like"),("hate","add_hate"),("forget","forget"),("form","form"),("leaves","leaves"),("resign","resign")]
def Bp:DY:=[("deal","answer_deal"),("mays","answer_mays"),("leave","answer_leave"),("stable","answer_stable"),("on","answer_on"),("best","answer_best")]
def Cf:DY:=[("middle","answer_middle"),("joined","answer_joined"),("neighbours","answer_neighbours"),("narrowest","answer_narrowest"),("centre","answer_centre"),("motion","answer_motion")]
def B1:DY:=[("governs","answer_governs"),("look","answer_look")]
def BS:DY:=[("order","answer_order"),("plain","answer_plain"),("ahead","answer_ahead"),("alone","answer_alone"),("gains","answer_gains"),("swaps","answer_swaps")]
def BH:DY:=[("beats","answer_beats"),("beaters","answer_beaters"),("unseaters","answer_unseaters"),("calm","answer_calm"),("holding","answer_holding"),("middles","answer_middles"),("strong","answer_strong"),("fall","answer_fall")]
def Party:=Ks470.Party
structure Sm where
 rule:Nat
 offices:Nat
 parties:List Party
 likes:Ae
 hates:Ae
 Af:Nat
 holders:Ae
abbrev Sm.nP(M:Sm):Nat:=M.parties.length
section
open PySem.W (Hook)
def CY:List (Str×DY):=[("VOTE_CALLS",Ce),("CHANGES",BU),("COALITION_CALLS",Bp),("LINE_CALLS",Cf),("LOOKING_CALLS",B1),("OFFICE_CALLS",BS),("SHARING_CALLS",BH)]
def EF(m:B3):List DictEntry->DY->Bool
 |[],[]=>true
 |e::es,(x,y)::D=>(match e.key with| .str z _=>z==x|_=>false)&&(match m y,e.val with|some (.ref a),.ref b=>a==b|_,_=>false)&&EF m es D
 |_,_=>false
def Ly(h:Heap)(x:Str)(D:DY):Bool:=match h.nsMap mainGlobals x with
 |some (.ref d)=>!(d==sysModules)&&(match h.get? d with
  |some o=>o.cls== .type "dict" &&o.dict.isNone&&o.slots.isEmpty&&(match o.data with| .dict es _=>EF (h.nsMap mainGlobals) es.toList D|_=>false)
  |none=>false)
 |_=>false
def jX:∀{es:List DictEntry}{D:DY},EF m es D=true->KTD.Rows (λy v=>m y=some v) es D
 |[],[],_=>.nil
 |e::es,(x,y)::D,h=>by
  simp only[EF,Bool.and_eq_true]at h;obtain⟨⟨h1,h2⟩,h3⟩:=h;split at h1
  ·rename_i z t hk;obtain rfl:=beq_iff_eq.mp h1;split at h2;·rename_i a b e1 e2;obtain rfl:=beq_iff_eq.mp h2;exact .cons hk (by rw[e1,e2]) (jX h3)
   ·cases h2
  ·cases h1
 |[],_::_,h=>by simp[EF]at h
 |_::_,[],h=>by simp[EF]at h
def rV(e:Ly h x D=true):Gk h (h.nsMap mainGlobals) x D:=by
 unfold Ly at e;split at e
 ·rename_i d hd;simp only[Bool.and_eq_true]at e;obtain⟨e0,e⟩:=e;split at e
  ·rename_i o ho;simp only[Bool.and_eq_true]at e;obtain⟨⟨⟨e1,e2⟩,e3⟩,e4⟩:=e;split at e4;·rename_i es ep Xf;exact⟨d,hd,by simpa using e0,o,es,ep,ho,⟨beq_iff_eq.mp e1,by simpa using e2,by simpa using e3⟩,Xf,jX e4⟩
   ·cases e4
  ·cases e
 ·cases e
def OU(h:Heap):Prop:=∃m,h.Ns mainGlobals m/\∀t∈CY,Gk h m t.1 t.2
def uL{h:Heap}(e:h.isNs a=true):h.Ns a (h.nsMap a):=by
 unfold Heap.isNs at e;split at e
 ·rename_i o ho;split at e
  ·rename_i es ep hd;refine⟨o,es,ep,ho,hd,?_,λn=>?_⟩
   ·intro en Vc;have:=(Array.all_eq_true_iff_forall_mem.mp e) en Vc;split at this;·rename_i s t hk;exact⟨s,t,hk⟩
    ·cases this
   ·unfold Heap.nsMap;rw[ho];simp only[hd]
  ·cases e
 ·cases e
def Qx:Hook where
 α:=Bool×List Bool
 obs:=λs=>(s.heap.isNs mainGlobals,CY.map λt=>Ly s.heap t.1 t.2)
 val:=λ_=>(true,CY.map λ_=>true)
 says:=λ_ h=>OU h
 of:=λ_ s x=>⟨_,uL (Prod.mk.inj x).1,λt ht=>rV (List.map_inj_left.mp (Prod.mk.inj x).2 t ht)⟩
 keeps:=λ_ _ _ x k=>let⟨m,n,q⟩:=x;⟨m,n.keeps k,λt ht=>(q t ht).keep k⟩
def JB(A B:Hook):Hook where
 α:=A.α×B.α
 obs:=λs=>(A.obs s,B.obs s)
 val:=λw=>(A.val w,B.val w)
 says:=λw h=>A.says w h/\B.says w h
 of:=λw s x=>⟨A.of w s (Prod.mk.inj x).1,B.of w s (Prod.mk.inj x).2⟩
 keeps:=λw h h' x k=>⟨A.keeps w h h' x.1 k,B.keeps w h h' x.2 k⟩
end
section
open PySem.W (WData Codec OpenSpec Well WellAll ReadsW ReadsAllW Hook)
structure Tp(K:Frag)(mg:B3)(ad:Ad):Prop where
 d:Xw K mg
 c:Xx K mg
 m:Xv K mg ad
 DH:Kc K mg "all_taken" CK ad.Ey
 De:Kc K mg "answer_best" Ct ad.CG
 Dd:Kc K mg "answer_fall" B2 ad.Cs
 EK:Kc K mg "answer_on" CI ad.Kj
 calls:∃t xs,mg "CALLS" =some (.ref t)/\KTup K t xs/\xs.length=Az.length/\∀(i:Nat) p,Az[i]? =some p->∃a,xs[i]? =some (.ref a)/\KTup K a [.str p.1,.str p.2]
def Eg:Ag:=["all_taken","answer_best","answer_fall","answer_on"]
abbrev Ft:OpenSpec:=PySem.Challenge.rw_cabinetsdesk_s01_answers
end
section
open PySem.W (nsIn findIn isFn codeIn keepIn plainGet hasDictIn plainOver makesIn codeHdIn fnOf mg_of mg_none_of)
def adU{st:Stmt}{kV:Value}(X:kK.In h)(G:h.Ns mainGlobals mg)(a:nsIn kK mainGlobals x=some (some (.ref f)))(l:kK.lookup f=some ⟨oc,od,.func (fnOf x x (B5 st) (AX st) (Ap st) .none kV doc pm an B_ ct),OG⟩)(c:codeIn kK B_ x=true)(k:keepIn kK (.ref f)=true):Def kK mg x st:=⟨f,_,mg_of X G a,rM l c k⟩
def mP{st:Stmt}{kV:Value}(X:kK.In h)(G:h.Ns mainGlobals mg)(a:nsIn kK mainGlobals x=some (some (.ref f)))(l:kK.lookup f=some ⟨oc,od,.func (fnOf x x (B5 st) (AX st) (Ap st) .none kV doc pm an (.ref cd) ct),OG⟩)(c:codeIn kK (.ref cd) x=true)(k:keepIn kK (.ref f)=true)(hh:codeHdIn kK cd P=true):Kc kK mg x st P:=⟨f,_,cd,mg_of X G a,rM l c k,RR,hh⟩
def abM{st:Stmt}{kV:Value}(a:findIn kK (.ref C) m=some (some (.ref f)))(i:isFn kK (.ref f)=true)(l:kK.lookup f=some ⟨oc,od,.func (fnOf m qual (B5 st) (AX st) (Ap st) .none kV doc pm an B_ ct),OG⟩)(c:codeIn kK B_ qual=true)(k:keepIn kK (.ref f)=true):EN kK C m qual st:=⟨f,_,⟨a,i,k⟩,rM l c k⟩
def abT{st:Stmt}{kV:Value}(a:findIn kK (.ref C) "__init__" =some (some (.ref f)))(i:isFn kK (.ref f)=true)(l:kK.lookup f=some ⟨oc,od,.func (fnOf "__init__" qual (B5 st) (AX st) (Ap st) .none kV doc pm an B_ ct),OG⟩)(c:codeIn kK B_ qual=true)(k:keepIn kK (.ref f)=true)(mk:makesIn kK C=true)(kc:keepIn kK (.ref C)=true):Nz kK C qual st:=⟨f,_,⟨mk,a,i,kc⟩,rM l c k⟩
def adZ(pg:plainGet kK C Str.empty=true)(hd:hasDictIn kK C=true)(po:plainOver kK C=true)(sa:findIn kK (.ref C) "__setattr__" =some (some (.builtin "object.__setattr__"))):Jp kK C:=⟨pg,hd,po,sa⟩
def int_mk(X:kK.In h)(G:h.Ns mainGlobals mg)(a:nsIn kK mainGlobals x=some (some (.int n t))):∃t,mg x=some (.int n t):=⟨t,mg_of X G a⟩
def str_mk(X:kK.In h)(G:h.Ns mainGlobals mg)(a:nsIn kK mainGlobals x=some (some (.str n t))):∃t,mg x=some (.str n t):=⟨t,mg_of X G a⟩
def RJ(l:Ay):List V:=l.map λv=>match v with
 | .ref a=>.ref a
 | .str s _=>.str s
 |_=>.BM
def Zm(l:Ay):Bool:=l.all λv=>match v with
 | .ref _=>true
 | .str _ _=>true
 |_=>false
def p8:∀{l:Ay},Zm l=true->Vals (RJ l) l
 |[],_=>.nil
 |v::l,e=>by unfold Zm at e;rw[List.all_cons,Bool.and_eq_true]at e;refine .cons ?_ (p8 e.2);cases v<;>first|exact rfl|exact⟨_,RR⟩|grind
def Jl(K:Frag)(a:Addr):Option (Ay):=match K.lookup a with
 |some ⟨.type "tuple",_,.seq its _,_⟩=>if its.size<=1000/\Zm its.toList=true then some its.toList else none
 |_=>none
def lW(e:Jl kK a=some l):KTup kK a (RJ l):=by
 unfold Jl at e;split at e
 ·rename_i od its n sl hk;split at e;·rename_i hc;cases e;exact⟨_,its,n,hk,RR,RR,Nat.le_trans hc.1 (by decide),p8 hc.2⟩
  ·cases e
 ·cases e
def OD(K:Frag)(v:Value)(p:Str×Str):Bool:=match v with
 | .ref a=>(match Jl K a with
  |some [.str s _,.str t _]=>s==p.1&&t==p.2
  |_=>false)
 |_=>false
def DF(K:Frag):Ay->DY->Bool
 |[],[]=>true
 |v::l,p::D=>OD K v p&&DF K l D
 |_,_=>false
def nc:∀{l:Ay}{D:DY},DF kK l D=true->(RJ l).length=D.length/\∀(i:Nat) p,D[i]? =some p->∃a,(RJ l)[i]? =some (.ref a)/\KTup kK a [.str p.1,.str p.2]
 |[],[],_=>⟨RR,λi p z=>by simp at z⟩
 |v::l,q::D,e=>by
  rw[DF,Bool.and_eq_true]at e;obtain⟨h1,h2⟩:=nc e.2;refine⟨by simp[RJ]at h1|-;exact h1,λi p z=>?_⟩;cases i with
  |succ i=>exact h2 i p (by simpa using z)
  |zero=>
   have z:q=p:=by simpa using z
   subst z;have e1:=e.1;unfold OD at e1;split at e1
   ·rename_i a;split at e1;·rename_i s ts t tt hs;rw[Bool.and_eq_true]at e1;obtain⟨rfl,rfl⟩:s=q.1/\t=q.2:=⟨beq_iff_eq.mp e1.1,beq_iff_eq.mp e1.2⟩;exact⟨a,RR,lW hs⟩
    ·cases e1
   ·cases e1
 |[],_::_,e=>by simp[DF]at e
 |_::_,[],e=>by simp[DF]at e
def Lp(K:Frag)(a:Addr):Bool:=match Jl K a with
 |some l=>DF K l Az
 |none=>false
def aaN(X:kK.In h)(G:h.Ns mainGlobals mg)(a:nsIn kK mainGlobals "CALLS" =some (some (.ref t)))(e:Lp kK t=true):∃t xs,mg "CALLS" =some (.ref t)/\KTup kK t xs/\xs.length=Az.length/\∀(i:Nat) p,Az[i]? =some p->∃a,xs[i]? =some (.ref a)/\KTup kK a [.str p.1,.str p.2]:=by
 unfold Lp at e;split at e;·rename_i l hl;obtain⟨h1,h2⟩:=nc e;exact⟨t,_,mg_of X G a,lW hl,h1,h2⟩
 ·cases e
end
section
open PySem.W (WData Codec OpenSpec Well WellAll ReadsW ReadsAllW Hook)
def Ug : Prop := ∀{q : Program}{loose : List Str}{XP : (Str -> Option Value) -> Heap -> Prop}{K : Params -> PySem.W.Frag}{as : List Addr}{e : ∀P, as = (K P).map (·.1)}{d : DefRec}(ad : Ad)
    (hn : d.name = "answers")(T1 : Ft.wellSaid = true)(PJ : (Eg.all λx => (recsOf q).any λe => e.name == x) = true)(Xm : ∀w : World, ∀P ∈ [ad.Ey, ad.CG, ad.Cs, ad.Kj], (K w.params).lookup P = none)
    (hT : ∀(w : World)(h : Heap)(mg : Str -> Option Value), (K w.params).In h -> h.Ns mainGlobals mg -> Tp (K w.params) mg ad), PySem.W.WalkOS q loose XP (Hook.says (JB (PySem.W.kHook K as e) Qx)) Ft d [] (λf vs => PySem.call f vs)
noncomputable def dW(_ : Ug)(P : World -> Heap -> Prop) : World -> Heap -> Prop := P
end
section
open PySem PySem.W PyProof.Rows
set_option hygiene false
local macro_rules | `(tactic| o_headS($f:ident $k $a $p)) => `(tactic| o_headS(L2.JB (PySem.W.kHook $k $a $p) L2.Qx))
local macro_rules|`(tactic|refine $h $x*)=>do
  if x.size>8&&x[6]!.raw[1].getId.eraseMacroScopes==`YP then
    let y:=(x.set! 6 x[7]!).set! 7 ⟨x[6]!.raw.setArg 3 (<-`(L2.dW W $(⟨x[6]!.raw[3]⟩)))⟩
    `(tactic|refine $h $y*)
  else Lean.Macro.throwUnsupported
set_option hygiene true
def cw_hd(W : Ug) : PySem.Challenge.rw_cabinetsdesk_s01_answers.Holds := by
  w_on; k_headS; (case hw => exact⟨[.list [.int 0, .int 0, .int 1]], by decide +kernel, by decide +kernel⟩);k_fillS;refine W { Ey := 144, CG := 456, Cs := 911, Kj := 449, Party := 86, Call := 745, Reader := 799, Views := 862, State := 955, BE := 1032 } RR (by decide +kernel) (by decide +kernel) ?xk ?xt;case xk =>intro w P hP;simp only[List.mem_cons, List.not_mem_nil, or_false]at hP;rcases hP with rfl | rfl | rfl | rfl <;> kernel_rfl
  case xt =>
    intro w h mg X G;refine Tp.mk ?xd ?xc ?xm ?xl1 ?xl2 ?xl3 ?xl4 ?Ur;case xd => constructor <;> (refine' adU X G ?a ?l ?c ?k; (case a => k_is); (case l => k_is); (case c => k_is); (case k => k_is))
    case xc => constructor <;> first
      | (refine' int_mk X G ?a; (case a => k_is))
      | (refine' str_mk X G ?a; (case a => k_is))
      | exact mg_none_of X G (by k_is)
    case xm => constructor <;> first
      | exact mg_of X G (by k_is)
      | (refine' adZ ?a ?b ?c ?d; (case a => k_is); (case b => k_is); (case c => k_is); (case d => k_is))
      | (refine' abT ?a ?i ?l ?c ?k ?mk ?kc; (case a => k_is); (case i => k_is); (case l => k_is); (case c => k_is); (case k => k_is); (case mk => k_is); (case kc => k_is))
      | (refine' abM ?a ?i ?l ?c ?k; (case a => k_is); (case i => k_is); (case l => k_is); (case c => k_is); (case k => k_is))
      | (show findIn _ _ _ = _; k_is)
    case xl1 => refine' mP X G ?a ?l ?c ?k ?h; (case a => k_is); (case l => k_is); (case c => k_is); (case k => k_is); (case h => kernel_rfl)
    case xl2 => refine' mP X G ?a ?l ?c ?k ?h; (case a => k_is); (case l => k_is); (case c => k_is); (case k => k_is); (case h => kernel_rfl)
    case xl3 => refine' mP X G ?a ?l ?c ?k ?h; (case a => k_is); (case l => k_is); (case c => k_is); (case k => k_is); (case h => kernel_rfl)
    case xl4 => refine' mP X G ?a ?l ?c ?k ?h; (case a => k_is); (case l => k_is); (case c => k_is); (case k => k_is); (case h => kernel_rfl)
    case Ur => refine' aaN X G ?a ?e; (case a => k_is); (case e => kernel_rfl)
end
def adx:=@PySem.Heap.get?_push_of_some
def ae0:=@Bool.false_ne_true
def ae1:=@List.length_map
def ae2:=@Option.some.inj
def ae3:=@List.getElem?_eq_some_iff
def ae4:=@PySem.Heap.get?_push_size
def ae5:=@List.mem_cons
def ae6:=@List.mem_cons_of_mem
def ae7:=@PySem.Heap.lt_size
def ae8:=@Nat.le_refl
def ae9:=@Nat.lt_of_lt_of_le
def afa:=@List.mem_of_getElem?
def afb:=@Bool.eq_iff_iff
def afc:=@List.getElem?_map
def afd:=@List.size_toArray
def afe:=@Nat.le_trans
def aff:=@List.mem_cons_self
def afg:=@List.length_append
def afh:=@List.length_filter_le
def afi:=@List.length_range
def afj:=@List.all_eq_true
def afk:=@Nat.zero_le
def afl:=@Nat.lt_of_le_of_lt
def afm:=@List.mem_singleton
def afn:=@Bool.and_eq_true
def afo:=@Nat.ne_of_lt
def afp:=@List.mem_filter
def afq:=@List.map_cons
def afr:=@List.map_map
def afs:=@List.getElem?_append_left
def aft:=@PySem.mem_of_lookup
def afu:=@List.getElem?_eq_getElem
def afv:=@PySem.Heap.size_push
def afw:=@List.mem_map
def afx:=@List.getElem?_append_right
def afy:=@List.map_congr_left
def afz:=@List.foldl_cons
def afA:=@Ne.symm
def afB:=@List.getD_eq_getElem?_getD
def afC:=@List.mem_append_right
def afD:=@List.mem_range
def afE:=@List.mem_append
def afF:=@PyProof.Rows.boot_list
def afG:=@List.length_cons
def afH:=@List.getElem?_range
def afI:=@List.length_eq_zero_iff
def afJ:=@List.length_take
def afK:=@List.map_append
def afL:=@Option.map_eq_some_iff
def afM:=@Nat.lt_irrefl
def afN:=@List.nodup_cons
def afO:=@List.getElem?_eq_none
def afP:=@PyProof.Rows.callWith_type1
def afQ:=@List.not_mem_nil
def afR:=@PySem.F.slot_dict_keyiterator_next
def afS:=@Nat.le_of_lt
def afT:=@List.length_set
def afU:=@Array.length_toList
def afV:=@List.filter_eq_self
def afW:=@PySem.Around.under_plainId
def afX:=@List.take_length
def afY:=@PySem.Heap.get?_update_other
def afZ:=@Nat.lt_succ_of_lt
def af0:=@Classical.byContradiction
def af1:=@List.any_eq_true
def af2:=@Int.toNat_natCast
def af3:=@List.flatMap_cons
def af4:=@List.append_nil
def af5:=@List.length_zip
def af6:=@List.length_pos_iff
def af7:=@Nat.min_le_left
def af8:=@PySem.F.slot_zip_next
def af9:=@List.length_reverse
def aga:=@List.getElem_cons_drop
def agb:=@Nat.lt_succ_self
def agc:=@List.zip_cons_cons
def agd:=@Bool.false_eq_true
def age:=@List.contains_iff_mem
def agf:=@Nat.pow_le_pow_right
def agg:=@List.getElem?_of_mem
def agh:=@Nat.ne_of_gt
def agi:=@List.filter_cons
def agj:=@List.take_of_length_le
def agk:=@List.range_succ_eq_map
def agl:=@List.filter_eq_nil_iff
def agm:=@Prod.mk.inj
def agn:=@List.of_mem_zip
def ago:=@PySem.Heap.get?_update_self
def agp:=@Nat.two_pow_pos
def agq:=@PyProof.Rows.boot_min
def agr:=@PyProof.Rows.boot_abs
def ags:=@List.idxOf_lt_length_of_mem
def agt:=@Bool.true_and
def agu:=@List.nodup_append
def agv:=@List.append_assoc
def agw:=@Bool.or_false
def agx:=@List.getElem?_zip_eq_some
def agy:=@Nat.le_add_right
def agz:=@List.getElem_mem
def agA:=@PySem.Heap.SameBut.update
def agB:=@List.getElem_of_mem
def agC:=@PySem.Walks.list
def agD:=@PySem.Paired.length
def agE:=@List.length_nil
def agF:=@List.any_cons
def agG:=@List.forIn_cons
def agH:=@List.sum_cons
def agI:=@List.range_succ
def agJ:=@List.pairwise_cons
def agK:=@List.not_any_eq_all_not
def agL:=@List.filter_append
def agM:=@List.pairwise_lt_range
def agN:=@Nat.testBit_lt_two_pow
def agO:=@List.drop_eq_nil_of_le
def agP:=@Nat.le_of_succ_le
def agQ:=@PySem.F.args_zip_next_1
def agR:=@Bool.false_and
def agS:=@PySem.F.args_dict_keyiterator_next_1
def agT:=@PyProof.Rows.boot_all
def agU:=@PySem.F.entry_dict_keyiterator_next
def agV:=@Nat.min_le_right
def agW:=@Nat.exists_testBit_of_ne_zero
def agX:=@PySem.F.entry_zip_next
def agY:=@List.getElem_map
def agZ:=@List.getElem?_set_ne
def ag0:=@List.all_cons
def ag1:=@PySem.F.slot_dict_keyiterator_iter
def ag2:=@PySem.W.length_le_weightAllW
def ag3:=@Nat.sub_le
def ag4:=@List.filterMap_cons
def ag5:=@List.sum_append
def ag6:=@Nat.min_eq_left
def ag7:=@Nat.not_lt_zero
def ag8:=@List.filter_map
def ag9:=@List.flatMap_append
def aha:=@List.nil_append
def ahb:=@List.reverse_append
def ahc:=@Nat.le_of_eq
def ahd:=@List.length_range'
def ahe:=@Int.ofNat_lt
def ahf:=@List.filter_filter
def ahg:=@Nat.zero_add
def ahh:=@PySem.getD_mem
def ahi:=@PySem.F.slot_dict_getitem
def ahj:=@Array.getElem?_eq_getElem
def ahk:=@Nat.ge_two_pow_of_testBit
def ahl:=@List.foldl_nil
def ahm:=@Nat.mul_le_mul
def ahn:=@List.forIn_nil
def aho:=@List.mem_or_eq_of_mem_set
def ahp:=@List.getLast?_eq_getElem?
def ahq:=@List.getLast?_eq_none_iff
def ahr:=@List.any_eq_false
def ahs:=@List.range'_eq_map_range
def aht:=@List.ext_getElem?
def ahu:=@PySem.F.type_list_index
def ahv:=@PyProof.Rows.boot_tuple
def ahw:=@List.getLast?_singleton
def ahx:=@List.getElem_inj
def ahy:=@List.length_drop
def ahz:=@List.lookup_cons
def ahA:=@List.ext_getElem
def ahB:=@Nat.zero_testBit
def ahC:=@List.getElem?_set_self
def ahD:=@Array.getElem?_eq_none
def ahE:=@List.any_map
def ahF:=@List.all_map
def ahG:=@Bool.or_eq_true
def ahH:=@Nat.testBit_and
def ahI:=@PyProof.Rows.boot_any
def ahJ:=@PyProof.Rows.boot_max
def ahK:=@PySem.F.slot_list_pop
def ahL:=@PySem.F.type_list_pop
def ahM:=@List.take_append_drop
def ahN:=@List.nodup_nil
def ahO:=@Int.le_refl
def ahP:=@Bool.false_or
def ahQ:=@List.map_drop
def ahR:=@Bool.and_comm
def ahS:=@Nat.not_le
def ahT:=@Nat.lt_trans
def ahU:=@Nat.lt_or_ge
set_option hygiene false
local macro_rules|`(tactic|show"r" $n)=>`(tactic|(rcases adJ $n Ln with rfl|Ln;cases ae2 hk))
set_option hygiene true
inductive RP{A0:Type}(p:A0->Prop):Prop|mk (a:A0)(h:p a):RP p
inductive Au{A0 A1:Type}(p:A0->A1->Prop):Prop|mk (a:A0)(b:A1)(h:p a b):Au p
inductive CO{A0 A1 A2 A3:Type}(p:A0->A1->A2->A3->Prop):Prop|mk (a:A0)(b:A1)(c:A2)(d:A3)(h:p a b c d):CO p
inductive FX{A0 A1 A2 A3 A4:Type}(p:A0->A1->A2->A3->A4->Prop):Prop|mk (a:A0)(b:A1)(c:A2)(d:A3)(e:A4)(h:p a b c d e):FX p
inductive Kd{A0 A1 A2 A3 A4 A5:Type}(p:A0->A1->A2->A3->A4->A5->Prop):Prop|mk (a:A0)(b:A1)(c:A2)(d:A3)(e:A4)(f:A5)(h:p a b c d e f):Kd p
inductive Qi{A0 A1 A2 A3 A4 A5 A6:Type}(p:A0->A1->A2->A3->A4->A5->A6->Prop):Prop|mk (a:A0)(b:A1)(c:A2)(d:A3)(e:A4)(f:A5)(g:A6)(h:p a b c d e f g):Qi p
inductive VC{A0 A1 A2 A3 A4 A5 A6 A7:Type}(p:A0->A1->A2->A3->A4->A5->A6->A7->Prop):Prop|mk (a:A0)(b:A1)(c:A2)(d:A3)(e:A4)(f:A5)(g:A6)(h:A7)(h:p a b c d e f g h):VC p
inductive Uo{A0 A1 A2 A3 A4 A5 A6 A7 A8 A9:Type}(p:A0->A1->A2->A3->A4->A5->A6->A7->A8->A9->Prop):Prop|mk (a:A0)(b:A1)(c:A2)(d:A3)(e:A4)(f:A5)(g:A6)(h:A7)(i:A8)(j:A9)(h:p a b c d e f g h i j):Uo p
inductive XJ{A0 A1 A2 A3 A4 A5 A6 A7 A8 A9 RX:Type}(p:A0->A1->A2->A3->A4->A5->A6->A7->A8->A9->RX->Prop):Prop|mk (a:A0)(b:A1)(c:A2)(d:A3)(e:A4)(f:A5)(g:A6)(h:A7)(i:A8)(j:A9)(k:RX)(h:p a b c d e f g h i j k):XJ p
inductive XI{A0 A1 A2 A3 A4 A5 A6 A7 A8 A9 RX Up:Type}(p:A0->A1->A2->A3->A4->A5->A6->A7->A8->A9->RX->Up->Prop):Prop|mk (a:A0)(b:A1)(c:A2)(d:A3)(e:A4)(f:A5)(g:A6)(h:A7)(i:A8)(j:A9)(k:RX)(l:Up)(h:p a b c d e f g h i j k l):XI p
inductive Um{A0 A1 A2 A3 A4 A5 A6 A7 A8 A9 RX Up XT:Type}(p:A0->A1->A2->A3->A4->A5->A6->A7->A8->A9->RX->Up->XT->Prop):Prop|mk (a:A0)(b:A1)(c:A2)(d:A3)(e:A4)(f:A5)(g:A6)(h:A7)(i:A8)(j:A9)(k:RX)(l:Up)(m:XT)(h:p a b c d e f g h i j k l m):Um p
inductive Ul{A0 A1 A2 A3 A4 A5 A6 A7 A8 A9 RX Up XT A13:Type}(p:A0->A1->A2->A3->A4->A5->A6->A7->A8->A9->RX->Up->XT->A13->Prop):Prop|mk (a:A0)(b:A1)(c:A2)(d:A3)(e:A4)(f:A5)(g:A6)(h:A7)(i:A8)(j:A9)(k:RX)(l:Up)(m:XT)(n:A13)(h:p a b c d e f g h i j k l m n):Ul p
inductive RV(a b:Prop):Prop|mk (_:a)(_:b):RV a b
inductive BO(a b c d:Prop):Prop|mk (_:a)(_:b)(_:c)(_:d):BO a b c d
inductive Dn(a b c d e f:Prop):Prop|mk (_:a)(_:b)(_:c)(_:d)(_:e)(_:f):Dn a b c d e f
inductive Oy(a b c d e f g:Prop):Prop|mk (_:a)(_:b)(_:c)(_:d)(_:e)(_:f)(_:g):Oy a b c d e f g
inductive Ox(a b c d e f g h:Prop):Prop|mk (_:a)(_:b)(_:c)(_:d)(_:e)(_:f)(_:g)(_:h):Ox a b c d e f g h
inductive Ow(a b c d e f g h i:Prop):Prop|mk (_:a)(_:b)(_:c)(_:d)(_:e)(_:f)(_:g)(_:h)(_:i):Ow a b c d e f g h i
inductive XS(a b c d e f g h i j:Prop):Prop|mk (_:a)(_:b)(_:c)(_:d)(_:e)(_:f)(_:g)(_:h)(_:i)(_:j):XS a b c d e f g h i j
inductive XR(a b c d e f g h i j k:Prop):Prop|mk (_:a)(_:b)(_:c)(_:d)(_:e)(_:f)(_:g)(_:h)(_:i)(_:j)(_:k):XR a b c d e f g h i j k
inductive XQ(a b c d e f g h i j k l:Prop):Prop|mk (_:a)(_:b)(_:c)(_:d)(_:e)(_:f)(_:g)(_:h)(_:i)(_:j)(_:k)(_:l):XQ a b c d e f g h i j k l
inductive XO(a b c d e f g h i j k l m:Prop):Prop|mk (_:a)(_:b)(_:c)(_:d)(_:e)(_:f)(_:g)(_:h)(_:i)(_:j)(_:k)(_:l)(_:m):XO a b c d e f g h i j k l m
inductive XN(a b c d e f g h i j k l m n:Prop):Prop|mk (_:a)(_:b)(_:c)(_:d)(_:e)(_:f)(_:g)(_:h)(_:i)(_:j)(_:k)(_:l)(_:m)(_:n):XN a b c d e f g h i j k l m n
def Key:=Sum Int Str
def IA:Key->Value->Bool
 | .inl k,v=>Value.isInt k v
 | .inr x,v=>Value.isStrOf x v
def Zz(w:World):Key->Int
 | .inl k=>hashInt k
 | .inr x=>hashStr w x
def bD:∀{k:Key}{v:Value},IA k v=true->((Au λi t=>k=Sum.inl i/\v=Value.int i t))\/((Au λx t=>k=Sum.inr x/\v=Value.str x t))
 | .inl i,v,h=>by obtain⟨t,e⟩:=Value.isInt_shape h;exact .inl ⟨i,t,RR,e⟩
 | .inr x,v,h=>by obtain⟨t,e⟩:=Value.isStrOf_shape h;exact .inr ⟨x,t,RR,e⟩
def x8(i:Int)(t:Tok):IA (.inl i) (.int i t)=true:=by simp[IA,Value.isInt]
def xZ(x:Str)(t:Tok):IA (.inr x) (.str x t)=true:=by simp[IA,Value.isStrOf]
def ads(a b:Int):decide ((Sum.inl a:Key)=Sum.inl b)=(a==b):=by grind
def ado(a b:Str):decide ((Sum.inr a:Key)=Sum.inr b)=decide (a=b):=by simp
def adq(a:Int)(b:Str):decide ((Sum.inl a:Key)=Sum.inr b)=false:=by simp
def adp(a:Str)(b:Int):decide ((Sum.inr a:Key)=Sum.inl b)=false:=by simp
def B4(prog:Program)(w:World):PySem.KeyKind prog w Key where
 is:=IA
 hash:=Zz w
 inj:=λv a b ha hb=>by
  rcases bD ha with⟨i,t,rfl,rfl⟩|⟨x,t,rfl,rfl⟩
  ·rcases bD hb with⟨j,u,rfl,e⟩|⟨y,u,rfl,e⟩;·injection e with e1 _;rw[e1]
   ·exact nomatch e
  ·rcases bD hb with⟨j,u,rfl,e⟩|⟨y,u,rfl,e⟩;·exact nomatch e
   ·injection e with e1 _;rw[e1]
 byValue:=λk v h=>by rcases bD h with⟨i,t,rfl,rfl⟩|⟨x,t,rfl,rfl⟩<;>rfl
 pyHash:=λhv h=>by
  rcases bD hv with⟨i,t,rfl,rfl⟩|⟨x,t,rfl,rfl⟩;·exact wpAny_pyHash_int h
  ·exact wpAny_pyHash_str h
 eqBool:=λhu hv h=>by
  rcases bD hu with⟨i,t,rfl,rfl⟩|⟨x,t,rfl,rfl⟩
  ·rcases bD hv with⟨j,u,rfl,rfl⟩|⟨y,u,rfl,rfl⟩;·rw[ads]at h;exact wpAny_eqBool_int h
   ·rw[adq]at h;exact SeqAt.EqAt.int_str i t y u _ _ _ _ h
  ·rcases bD hv with⟨j,u,rfl,rfl⟩|⟨y,u,rfl,rfl⟩;·rw[adp]at h;exact SeqAt.EqAt.str_int x t j u _ _ _ _ h
   ·rw[ado]at h;exact wpAny_eqBool_str h
 «strs»:=λk x t v h=>by
  rcases bD h with⟨i,u,rfl,e⟩|⟨y,u,rfl,e⟩;·exact nomatch e
  ·injection e with e1 _;subst e1;cases v<;>rfl
def sY(prog:Program)(w:World)(i:Int)(t:Tok):(B4 prog w).is (.inl i) (.int i t)=true:=x8 i t
def sX(prog:Program)(w:World)(x:Str)(t:Tok):(B4 prog w).is (.inr x) (.str x t)=true:=xZ x t
def Vals.length(r:Vals xs us):xs.length=us.length:=agD r
def Vals.get:∀{xs:List V}{us:Ay}{i:Nat}{x:V},Vals xs us->xs[i]? =some x->∃u,us[i]? =some u/\RelV x u
 |_,_,_,_,.nil,e=>by simp at e
 |_,_,0,_,.cons r _,e=>by grind
 |_,_,i+1,x,.cons _ t,e=>by obtain⟨u,h1,h2⟩:=Vals.get t (by simpa using e);grind
def Vals.set(r:RelV x u):∀{xs:List V}{us:Ay}(i:Nat),Vals xs us->Vals (xs.set i x) (us.set i u)
 |_,_,_,.nil=>.nil
 |_,_,0,.cons _ t=>.cons r t
 |_,_,i+1,.cons q t=>.cons q (Vals.set r i t)
def Vals.append:∀{xs ys:List V}{us ws:Ay},Vals xs us->Vals ys ws->Vals (xs++ys) (us++ws)
 |_,_,_,_,.nil,s=>s
 |_,_,_,_,.cons r t,s=>.cons r (Vals.append t s)
def Vals.take:∀{xs:List V}{us:Ay}(n:Nat),Vals xs us->Vals (xs.take n) (us.take n)
 |_,_,0,_=>.nil
 |_,_,_+1,.nil=>.nil
 |_,_,n+1,.cons r t=>.cons r (Vals.take n t)
def Vals.drop:∀{xs:List V}{us:Ay}(n:Nat),Vals xs us->Vals (xs.drop n) (us.drop n)
 |_,_,0,r=>r
 |_,_,_+1,.nil=>.nil
 |_,_,n+1,.cons _ t=>Vals.drop n t
def Vals.none_of:∀{xs:List V}{us:Ay}{i:Nat},Vals xs us->xs[i]? =none->us[i]? =none:=λ{xs us i} r e=>by have h1:=r.length;simp_all
def FV:Option V->O2->Prop
 |some v,some u=>RelV v u
 |none,none=>True
 |_,_=>False
def KV:List (κ×V)->List (κ×Value)->Prop:=Paired λ(p:κ×V) (q:κ×Value)=>p.1=q.1/\RelV p.2 q.2
noncomputable def kV:Key->V
 | .inl i=>.int i
 | .inr x=>.str x
inductive HO where
 |lst (xs:List V)
 |tup (xs:List V)
 |dK (AI:List (Key×V))|dT (AI:List (List Key×V))
 |set (S:Int->Bool)(n:Nat)
 |ins (C dx:Addr)(fs:List (Str×V))
 |own (x:Addr)
 |xd (fs:List (Str×V))
 |met (f x:Addr)
 |R3 (lo hi:Int)
 |FN (o:Obj)(u:HO)
 |F8 (ps:Array Value)
 |ext (φ:Heap->Prop)
def Hp:=Addr->Option HO
noncomputable def upd(H:Hp)(a:Addr)(o:HO):Hp:=λb=>if b=a then some o else H b
def ae:upd H a o a=some o:=by unfold upd;rw[if_pos RR]
def ai(h:b≠a):upd H a o b=H b:=by unfold upd;rw[if_neg h]
def gd{H:Hp}(h:H a=some o)(h':H b=some u)(d:o≠u):a≠b:=by intro e;simp_all
def ak{H:Hp}(h:H a=some o)(h':H b=none):a≠b:=by grind
section
variable(P:Program)(w:World)
def BW(H:Hp)(h:Heap)(a:Addr):HO->Prop
 | .lst xs=>xs.length<=sizeLine/\∃(its:Ay) (n:Nat),Vals xs its/\h.get? a=some {cls:=.type "list",data:=.seq its.toArray n}
 | .tup xs=>xs.length<=sizeLine/\∃its:Ay,Vals xs its/\IsTup h a its.toArray
 | .dK AI=>AI.length<=sizeLine/\(a==sysModules)=false/\∃vs,KV AI vs/\h.DictOf (B4 P w) a vs
 | .dT AI=>AI.length<=sizeLine/\(a==sysModules)=false/\∃xs:List (List Key×Addr×Value),
   Paired (λ(p:List Key×V) (q:List Key×Addr×Value)=>p.1=q.1/\H q.2.1=some (.tup (p.1.map kV))/\RelV p.2 q.2.2) AI xs/\
   ∃o es ep,h.get? a=some o/\o.ExactDict/\o.data= .dict es ep/\es.toList=xs.map (entryOfKey (tupleKind (B4 P w)))/\(xs.map (·.1)).Nodup
 | .set S n=>h.SetOf (intKind P w) a S n
 | .ins C dx fs=>H dx=some (.own a)/\fs.length<=1000/\dx≠a/\h.get? a=some (instObj C dx)/\
   ∃mA,h.Ns1 dx mA/\(∀f,FV (fs.lookup f) (mA f))/\PySem.Within mA (fs.map (·.1))
 | .own _=>∃o,h.get? a=some o
 | .xd fs=>∃mA,h.Ns1 a mA/\∀f,FV (fs.lookup f) (mA f)
 | .R3 lo hi=>∃t u v,h.get? a=some {cls:=.type "range",data:=.fields #[.int lo t,.int hi u,.int 1 v]}
 | .FN o u=>h.get? a=some o/\BW H h a u
 | .F8 ps=>h.get? a=some {cls:=.none,data:=.fields ps}
 | .met f x=>h.get? a=some (methodObj (.ref f) (.ref x))
 | .ext φ=>φ h/\(∃o,h.get? a=some o)/\∀h1 h2:Heap,φ h1->(∀o,h1.get? a=some o->h2.get? a=some o)->φ h2
def Fs(H:Hp)(h:Heap):Prop:=∀a o,H a=some o->BW P w H h a o
end
def BW.lt(x:BW P w H h a o):a<h.objs.size:=by
 cases o with
 |lst xs=>obtain⟨_,_,_,_,e⟩:=x;exact ae7 e
 |tup xs=>obtain⟨_,_,_,p⟩:=x;exact p.lt
 |dK AI=>obtain⟨_,_,_,_,o,_,_,e,_⟩:=x;exact ae7 e
 |dT AI=>obtain⟨_,_,_,_,o,_,_,e,_⟩:=x;exact ae7 e
 |set S n=>obtain⟨o,_,_,_,e,_⟩:=x;exact ae7 e
 |ins C dx fs=>obtain⟨_,_,_,e,_⟩:=x;exact ae7 e
 |own y=>obtain⟨_,e⟩:=x;exact ae7 e
 |xd fs=>obtain⟨_,⟨_,_,_,e,_⟩,_⟩:=x;exact ae7 e
 |R3 lo hi=>obtain⟨_,_,_,e⟩:=x;exact ae7 e
 |FN ob u=>obtain⟨e,_⟩:=x;exact ae7 e
 |F8 ps=>exact ae7 (x)
 |met f y=>exact ae7 (x)
 |ext φ=>obtain⟨_,⟨_,e⟩,_⟩:=x;exact ae7 e
def Paired.adh:∀{l₁:List α}{l₂:List β},Paired F l₁ l₂->(∀a b,F a b->G a b)->Paired G l₁ l₂
 |_,_,.nil,_=>.nil
 |_,_,.cons r t,f=>.cons (f _ _ r) (Paired.adh t f)
def BW.oX(x:BW P w H h a o)(k:∀b u,(b=a\/H b=some (.own a))->h.get? b=some u->h'.get? b=some u)
  (ho:∀b,H b=some (.own a)->H' b=some (.own a))(ht:∀b xs,H b=some (.tup xs)->H' b=some (.tup xs)):BW P w H' h' a o:=by
 induction o with
 |lst xs=>obtain⟨z,its,n,r,e⟩:=x;exact⟨z,its,n,r,k _ _ (.inl RR) e⟩
 |tup xs=>obtain⟨z,its,r,ob,e,c⟩:=x;exact⟨z,its,r,ob,k _ _ (.inl RR) e,c⟩
 |dK AI=>obtain⟨z,y,vs,r,ob,es,ep,e,c⟩:=x;exact⟨z,y,vs,r,ob,es,ep,k _ _ (.inl RR) e,c⟩
 |dT AI=>obtain⟨z,y,xs,r,ob,es,ep,e,c⟩:=x;exact⟨z,y,xs,Paired.adh r λp q z=>⟨z.1,ht _ _ z.2.1,z.2.2⟩,ob,es,ep,k _ _ (.inl RR) e,c⟩
 |set S n=>obtain⟨ob,es,ep,t,e,c⟩:=x;exact⟨ob,es,ep,t,k _ _ (.inl RR) e,c⟩
 |ins C dx fs=>obtain⟨d,z,ne,e,mA,⟨od,es,ep,e2,c⟩,r⟩:=x;exact⟨ho _ d,z,ne,k _ _ (.inl RR) e,mA,⟨od,es,ep,k _ _ (.inr d) e2,c⟩,r⟩
 |own y=>obtain⟨ob,e⟩:=x;exact⟨ob,k _ _ (.inl RR) e⟩
 |xd fs=>obtain⟨mA,⟨od,es,ep,e,c⟩,r⟩:=x;exact⟨mA,⟨od,es,ep,k _ _ (.inl RR) e,c⟩,r⟩
 |R3 lo hi=>obtain⟨t,u,v,e⟩:=x;exact⟨t,u,v,k _ _ (.inl RR) e⟩
 |FN ob u ih=>obtain⟨e,q⟩:=x;exact⟨k _ _ (.inl RR) e,ih q⟩
 |F8 ps=>have e:h.get? a=some {cls:=.none,data:=.fields ps}:=x;exact k a _ (.inl RR) e
 |met f y=>have e:h.get? a=some (methodObj (.ref f) (.ref y)):=x;exact k a _ (.inl RR) e
 |ext φ=>obtain⟨p,⟨o,e⟩,st⟩:=x;exact⟨st _ _ p λo q=>k _ _ (.inl RR) q,⟨o,k _ _ (.inl RR) e⟩,st⟩
def Fs.lt(x:Fs P w H h)(e:H a=some o):a<h.objs.size:=(x a o e).lt
def Fs.fresh{a:Addr}(x:Fs P w H h)(e:h.objs.size<=a):H a=none:=by
 cases q:H a with
 |none=>rfl
 |some u=>exact absurd (ae9 (x.lt q) e) (afM _)
def Fs.kept(x:Fs P w H h)(k:∀b u,h.get? b=some u->h'.get? b=some u):Fs P w H h':=λa o e=>
 (x a o e).oX (λb u _ q=>k b u q) (λ_ q=>q) λ_ _ q=>q
def Fs.laid{a:Addr}(x:Fs P w H h)(k:∀b u,h.get? b=some u->h'.get? b=some u)(hp:h.objs.size<=a)(new:BW P w (upd H a o) h' a o):Fs P w (upd H a o) h':=λb u e=>by
 have hn:=x.fresh hp;by_cases hb:b=a;·subst hb;rw[ae]at e;cases e;exact new
 ·rw[ai hb]at e;exact(x b u e).oX (λc v _ q=>k c v q) (λc q=>by rw[ai (ak q hn)];exact q) λc xs q=>by rw[ai (ak q hn)];exact q
def Rd(H:Hp)(a:Addr)(u:HO):Prop:=H a=some u\/∃o,H a=some (.FN o u)
def Rd.of(h:H a=some u):Rd H a u:=.inl h
def Rd.ok(r:Rd H a u)(x:Fs P w H h):BW P w H h a u:=by
 rcases r with r|⟨o,r⟩;·exact x a u r
 ·obtain⟨_,q⟩:=x a _ r;exact q
def Vv:Option HO->Prop
 |some (.lst _)=>True
 |some (.dK _)=>True
 |some (.dT _)=>True
 |some (.set _ _)=>True
 |some (.ins _ _ _)=>True
 |some (.ext _)=>True
 |_=>False
def Fs.write(ok:Fs P w H h)(mu:Vv (H x))(he:e=x\/H e=some (.own x))(k:∀b u,b≠e->h.get? b=some u->h'.get? b=some u)(VU:∃u,h'.get? e=some u)
  (new:BW P w (upd H x o') h' x o'):Fs P w (upd H x o') h':=λb u q=>by
 have WE:∀c y,H c=some (.own y)->c≠x:=λc y r z=>by subst z;rw[r]at mu;exact mu
 have Zn:∀c xs,H c=some (.tup xs)->c≠x:=λc xs r z=>by subst z;rw[r]at mu;exact mu
 by_cases hb:b=x;·subst hb;rw[ae]at q;cases q;exact new
 ·rw[ai hb]at q;by_cases Vg:b=e
  ·have q':H b=some (.own x):=by
    rcases he with z|z;·exact absurd (Vg.trans z) hb
    ·rw[Vg];exact z
   rw[q]at q';cases q';obtain⟨v,hv⟩:=VU;exact⟨v,by rw[Vg];exact hv⟩
  ·refine(ok b u q).oX (λc v hc r=>k c v ?_ r) (λc r=>by rw[ai (WE c b r)];exact r) λc xs r=>by rw[ai (Zn c xs r)];exact r
   rcases hc with rfl|hc;·exact Vg
   ·rintro rfl;rcases he with z|z;·exact WE c b hc z
    ·rw[hc]at z;cases z;exact hb RR
structure Un(fs ex:Ax)(H H':Hp)(h h':Heap):Prop where
 keep:∀b o,h.get? b=some o->H b=none->b∉fs->b∉ex->h'.get? b=some o
 slot:∀b o,h.get? b=some o->H b=none->b∈fs->b∉ex->∃sl,h'.get? b=some {o with slots:=sl}
 free:∀b o,h.get? b=some o->H b=none->b∉ex->H' b=none
 there:∀b o,h.get? b=some o->b∉ex->∃o',h'.get? b=some o'
 IG:∀b xs,H b=some (.tup xs)->H' b=some (.tup xs)
 HS:∀b o u,H b=some (.FN o u)->H' b=some (.FN o u)
 HF:∀b ps,H b=some (.F8 ps)->∃more,H' b=some (.F8 (ps++more))
def Un.any(u:Un fs ex H H1 h h1)(q:h.get? b=some ob)(n:H b=none)(hx:b∉ex):∃sl,h1.get? b=some {ob with slots:=sl}:=by
 by_cases hb:b∈fs;·exact u.slot b ob q n hb hx
 ·exact⟨ob.slots,u.keep b ob q n hb hx⟩
def Un.trans(a:Un fs ex H H1 h h1)(b:Un fs ex H1 H2 h1 h2):Un fs ex H H2 h h2 where
 keep:=λc ob q n hc hx=>b.keep c ob (a.keep c ob q n hc hx) (a.free c ob q n hx) hc hx
 slot:=λc ob q n hc hx=>by obtain⟨sl,e1⟩:=a.slot c ob q n hc hx;obtain⟨Y5,e2⟩:=b.slot c _ e1 (a.free c ob q n hx) hc hx;exact⟨Y5,e2⟩
 free:=λc ob q n hx=>by obtain⟨o',e1⟩:=a.there c ob q hx;exact b.free c o' e1 (a.free c ob q n hx) hx
 there:=λc ob q hx=>by obtain⟨o',e1⟩:=a.there c ob q hx;exact b.there c o' e1 hx
 IG:=λc xs q=>b.IG c xs (a.IG c xs q)
 HS:=λc ob xs q=>b.HS c ob xs (a.HS c ob xs q)
 HF:=λc ps q=>by obtain⟨m1,e1⟩:=a.HF c ps q;obtain⟨m2,e2⟩:=b.HF c _ e1;exact⟨m1++m2,by simp_all⟩
def Un.kept(k:∀b u,h.get? b=some u->h'.get? b=some u):Un fs ex H H h h':=
 ⟨λb ob q _ _ _=>k b ob q,λb ob q _ _ _=>⟨ob.slots,k b ob q⟩,λ_ _ _ n _=>n,λb ob q _=>⟨ob,k b ob q⟩,λ_ _ q=>q,λ_ _ _ q=>q,λ_ ps q=>⟨#[],by rw[q];simp⟩⟩
def Un.refl:Un fs ex H H h h:=Un.kept λ_ _ q=>q
def Un.laid{h:Heap}{a:Addr}(k:∀b u,h.get? b=some u->h'.get? b=some u)(hp:h.objs.size<=a)(hn:H a=none):Un fs ex H (upd H a o) h h' where
 keep:=λb u q _ _ _=>k b u q
 slot:=λb u q _ _ _=>⟨u.slots,k b u q⟩
 free:=λb u q n _=>by rw[ai (afo (ae9 (ae7 q) hp))];exact n
 there:=λb u q _=>⟨u,k b u q⟩
 IG:=λb xs q=>by rw[ai (ak q hn)];exact q
 HS:=λb u xs q=>by rw[ai (ak q hn)];exact q
 HF:=λb ps q=>⟨#[],by rw[ai (ak q hn),q];simp⟩
def Un.write(mu:Vv (H x))(he:e=x\/H e=some (.own x))(k:∀b u,b≠e->h.get? b=some u->h'.get? b=some u)(VU:∃u,h'.get? e=some u):Un fs ex H (upd H x o) h h':=by
 have hx:∀b,H b=none->b≠x:=λb n z=>by subst z;rw[n]at mu;exact mu
 have hb:∀b,H b=none->b≠e:=λb n z=>by grind
 have hm:∀b u,H b=some u->¬Vv (some u)->b≠x:=λb u q nm z=>by subst z;rw[q]at mu;exact nm mu
 refine⟨λb u q n _ _=>k b u (hb b n) q,λb u q n _ _=>⟨u.slots,k b u (hb b n) q⟩,λb u q n _=>by rw[ai (hx b n)];exact n,λb u q _=>?_,
  λb xs q=>by rw[ai (hm b _ q λz=>z)];exact q,λb u xs q=>by rw[ai (hm b _ q λz=>z)];exact q,λb ps q=>⟨#[],by rw[ai (hm b _ q λz=>z),q];simp⟩⟩;by_cases Vg:b=e;·subst Vg;exact VU
 ·exact⟨u,k b u Vg q⟩
def Un.mono(u:Un fs ex H H1 h h1)(hs:∀b∈fs,b∈R_)(hx:∀b∈ex,b∈ex'):Un R_ ex' H H1 h h1:=
 ⟨λb ob q n hb he=>u.keep b ob q n (λz=>hb (hs b z)) λz=>he (hx b z),λ_ _ q n _ he=>u.any q n λz=>he (hx _ z),λb ob q n he=>u.free b ob q n λz=>he (hx b z),λb ob q he=>u.there b ob q λz=>he (hx b z),u.IG,u.HS,u.HF⟩
def XZ(h:Heap)(H:Hp):Ax:=(List.range h.objs.size).filter λa=>(H a).isSome
def I_(h:Heap)(H:Hp):Heap:=PySem.W.hideAll h (XZ h H)
def yd(h:Heap)(H:Hp):(I_ h H).objs.size=h.objs.size:=PySem.W.hideAll_size _ _
def aaa(e:h.get? b=some o)(n:H b=none):(I_ h H).get? b=some o:=
 PySem.W.hideAll_get _ e λhm=>by have q:=(afp.mp hm).2;rw[n]at q;simp at q
def abE(e:(I_ h H).get? b=some o):h.get? b=some o/\H b=none:=by
 have e':=PySem.W.of_hideAll (XZ h H) e;refine⟨e',?_⟩;cases q:H b with
 |none=>rfl
 |some x=>have hm:b∈XZ h H:=afp.mpr ⟨afD.mpr (ae7 e'),by simp[q]⟩;have z:(I_ h H).get? b=none:=PySem.W.hideAll_none (XZ h H) hm;rw[z]at e;cases e
def Tn(g h:Heap)(L:Addr):Bc:=(List.range h.objs.size).filterMap λa=>if a=L\/(g.get? a).isSome=true then none else(h.get? a).map λo=>(a,o)
noncomputable def rest(g h:Heap)(L d:Addr):Bc:=(Tn g h L).filter λp=>decide (p.1≠d)
structure Mod(K:Frag)(mg:B3)(base:Heap):Prop where
 TX:K.In base
 glob:base.Ns mainGlobals mg
 blt:∃mb,base.Ns builtinsNs mb/\∀x:Str,x≠"__name__" ->mb x=bootBuiltins x
 nolimit:base.NoLimit
structure Cx where
 prog:Program
 w:World
 K:Frag
 mg:Str->O2
 base:Heap
 A:Around
 N:Ag
 Kf:Shared
 VA:Hp
 env:Env
 outer:List Env
 stack:List Env
 ex:Ax
 fn:Str->Bool
 calm:Bool
 pn:Bc
 xe:Value->Shared->Prop
abbrev CF{α:Type}(X:Cx)(t:Sem α)(Q:α->Shared->Prop)(E:CP)(s:Shared):Prop:=wpAny (model X.prog X.w) X.A t Q E s
abbrev Nu(X:Cx)(e:Expr)(es:List Expr):Prop:=starEach (e::es) X.env=(false,eval e X.env)::starEach es X.env
abbrev Om(X:Cx)(p:Pos)(es:List Expr):Prop:=(backTo p (starEach es X.env)).any (·.1)=false
abbrev GY(x:Str):Prop:=(x==("__debug__" :Str))=false
def Ry(l:List Env):Ax:=l.filterMap (·.frame)
abbrev Cx.fs(X:Cx):Ax:=Ry X.outer
def Qa(sc:Scope)(x:Str):Prop:=sc.names.lookup x=some .local\/sc.names.lookup x=some .cell\/sc.names.lookup x=some .free
def Loc(sc:Scope)(x:Str):Prop:=sc.names.lookup x=some .local\/sc.names.lookup x=some .cell
def Look(env:Env)(h:Heap)(m:B3)(x:Str)(u:Value):Prop:=
 (env.kindOf x=some .local/\m x=some u)\/((env.kindOf x=some .cell\/env.kindOf x=some .free)/\∃c,env.cells.lookup x=some c/\h.IsCell c (some u))
structure Cx.Ok(X:Cx):Prop where
 mod:Mod X.K X.mg X.base
 kind:X.env.scope.kind= .function
 glob:X.env.globals=mainGlobals
 blt:X.env.builtins=builtinsNs
 above:X.Kf.heap.objs.size<=X.env.locals
 inj:∀x y c,X.env.cells.lookup x=some c->X.env.cells.lookup y=some c->x=y
 has:∀x,(X.env.kindOf x=some .cell\/X.env.kindOf x=some .free)->∃c,X.env.cells.lookup x=some c
 cab:∀x c,X.fn x=true->X.env.cells.lookup x=some c->X.Kf.heap.objs.size<=c
 hd:X.calm=true->X.A.handled=none
 frames:X.A.frames=some X.stack
 VH:X.stack=X.outer\/(X.stack=X.env::X.outer/\X.env.frame=some X.env.locals)
 VZ:∀b∈X.ex,b≠X.env.locals/\∀x c,X.env.cells.lookup x=some c->c≠b
 bs:∀b o,X.base.get? b=some o->X.Kf.heap.get? b=some o/\X.VA b=none
 ON:X.base.objs.size<=X.Kf.heap.objs.size
 NX:∀b o,X.base.get? b=some o->b∉X.ex
 Og:∀b∈X.ex,b∉X.fs
 i_:X.Kf.heap.FunFrames X.base X.outer
 Rz:∀b∈X.fs,X.VA b=none
structure Inv(X:Cx)(pins:Bc)(σ:List (Option V))(H:Hp)(s:Shared):Prop where
 ok:X.Ok
 os:s.os=X.Kf.os
 bare:AllBare s.gens
 base:Un X.fs X.ex X.VA H X.Kf.heap s.heap
 loc:∃m,s.heap.Ns X.env.locals m/\∀(i:Nat)(x:Str)(v:V),X.N[i]? =some x->σ[i]? =some (some v)->Qa X.env.scope x->∃u,RelV v u/\Look X.env s.heap m x u
 cell:∀x c,X.env.cells.lookup x=some c->∃v,s.heap.IsCell c v
 free:H X.env.locals=none
 Eh:∀x c,X.env.cells.lookup x=some c->H c=none
 pin:∀p∈X.pn++pins,s.heap.get? p.1=some p.2/\H p.1=none/\p.1≠X.env.locals/\p.1∉X.fs/\∀v,p.2.data≠.cell v
 AU:Fs X.prog X.w H s.heap
 len:σ.length=X.N.length
def Cx.Ok.aeQ{X:Cx}(ok:X.Ok)(e:X.base.get? b=some o):b∉X.fs:=λhb=>by have:=(ok.i_.mem hb).1;grind
def Inv.bs(I:Inv X pins σ H s):∀b o,X.base.get? b=some o->s.heap.get? b=some o/\H b=none:=λb o e=>
 ⟨I.base.keep b o (I.ok.bs b o e).1 (I.ok.bs b o e).2 (I.ok.aeQ e) (I.ok.NX b o e),I.base.free b o (I.ok.bs b o e).1 (I.ok.bs b o e).2 (I.ok.NX b o e)⟩
def Inv.bk(I:Inv X pins σ H s):∀b o,X.base.get? b=some o->s.heap.get? b=some o:=λb o e=>(I.bs b o e).1
def Inv.mod(I:Inv X pins σ H s):Mod X.K X.mg X.base:=I.ok.mod
def Inv.rq(I:Inv X pins σ H s):X.K.In s.heap:=I.ok.mod.TX.keeps I.bk
def Inv.nolimit(I:Inv X pins σ H s):s.heap.NoLimit:=I.ok.mod.nolimit.keeps I.bk
def Inv.fr(I:Inv X pins σ H s):∃m,Fr X.base X.env.locals s.heap m:=
 let⟨m,hn,_⟩:=I.loc
 ⟨m,hn,I.bk,afe I.ok.ON I.ok.above⟩
def Inv.lt(I:Inv X pins σ H s):X.env.locals<s.hz:=let⟨_,hn,_⟩:=I.loc;hn.lt
def Inv.sz(I:Inv X pins σ H s):X.Kf.heap.objs.size<=s.hz:=afe I.ok.above (afS I.lt)
def Inv.aeP{a:Addr}(I:Inv X pins σ H s)(h:s.hz<=a):a∉X.fs:=λhb=>by obtain⟨_,o,ho,_⟩:=I.ok.i_.mem hb;exact absurd (ae9 (ae7 ho) (afe I.sz h)) (afM _)
def Inv.cne(I:Inv X pins σ H s):∀x c,X.env.cells.lookup x=some c->c≠X.env.locals:=λx c e z=>by obtain⟨v,o,ho,hd⟩:=I.cell x c e;obtain⟨m,⟨o',es,ep,HQ,Xf,_⟩,_⟩:=I.loc;grind
def Inv.i_(I:Inv X pins σ H s):s.heap.FunFrames X.base X.outer:=by
 have all:∀(l:List Env),(∀b∈Ry l,b∈X.fs)->X.Kf.heap.FunFrames X.base l->s.heap.FunFrames X.base l:=by
  intro l;induction l with
  |nil=>intro _ _;trivial
  |cons env r ih=>rintro hs ⟨hk,⟨L,o,hf,hn,ho,hd⟩,hr⟩;have hL:=hs L (by unfold Ry;rw[ag4,hf];exact aff);obtain⟨sl,e⟩:=I.base.slot L o ho (I.ok.Rz L hL) hL λz=>I.ok.Og L z hL;exact⟨hk,⟨L,_,hf,hn,e,hd⟩,ih (λb hb=>hs b (by unfold Ry;rw[ag4,hf];exact ae6 _ hb)) hr⟩
 exact all X.outer (λ_ hb=>hb) I.ok.i_
def Inv.stack(I:Inv X pins σ H s):s.heap.FunFrames X.base X.stack:=by
 rcases I.ok.VH with e|⟨e,hf⟩;·rw[e];exact I.i_
 ·rw[e];obtain⟨m,hn,_⟩:=I.loc;refine .cons (by rw[I.ok.kind];decide) hf hn ?_ I.i_;exact Heap.get?_none_of_le (afe I.ok.ON I.ok.above)
def Inv.uC(I:Inv X pins σ H s):∀b∈Ry X.stack,b∈X.env.locals::X.fs:=λb hb=>by
 rcases I.ok.VH with e|⟨e,hf⟩;·simp_all
 ·rw[e]at hb;unfold Ry at hb;rw[ag4,hf]at hb;exact hb
def Inv.vV(I:Inv X pins σ H s):∀b∈Ry X.stack,H b=none:=λb hb=>by
 rcases ae5.mp (I.uC b hb)with e|hb;·rw[e];exact I.free
 ·obtain⟨_,o,ho,_⟩:=I.ok.i_.mem hb;exact I.base.free b o ho (I.ok.Rz b hb) λz=>I.ok.Og b z hb
def Inv.step{ch:Ax}(I:Inv X pins σ H s)
  (R8:∀b∈ch,(b∈X.ex\/X.Kf.heap.objs.size<=b)/\b≠X.env.locals/\(∀x c,X.env.cells.lookup x=some c->c≠b)/\∀p∈X.pn++pins,p.1≠b)
  (keep:∀b o,b≠X.env.locals->b∉X.fs->b∉ch->s.heap.get? b=some o->H b=none->h'.get? b=some o)
  (slot:∀b o,b≠X.env.locals->b∈X.fs->b∉ch->s.heap.get? b=some o->H b=none->∃sl,h'.get? b=some {o with slots:=sl})(free:∀b o,b∉ch->s.heap.get? b=some o->H b=none->H' b=none)
  (there:∀b o,b∉ch->s.heap.get? b=some o->∃o',h'.get? b=some o')
  (IG:∀b xs,H b=some (.tup xs)->H' b=some (.tup xs))(HS:∀b o u,H b=some (.FN o u)->H' b=some (.FN o u))(HF:∀b ps,H b=some (.F8 ps)->∃more,H' b=some (.F8 (ps++more)))
  (ns:∀m,s.heap.Ns X.env.locals m->h'.Ns X.env.locals m)(AU:Fs X.prog X.w H' h')(hg:AllBare g'):
  Inv X pins σ H' {s with heap:=h',gens:=g',drawn:=d',toks:=t'}:=by
 have neL:∀b o,X.Kf.heap.get? b=some o->b≠X.env.locals:=λb o e=>afo (ae9 (ae7 e) I.ok.above);have X4:∀b o,X.Kf.heap.get? b=some o->b∉X.ex->b∉ch:=λb o e hx hb=>by
  rcases(R8 b hb).1 with z|z;·exact hx z
  ·exact absurd (ae9 (ae7 e) z) (afM _)
 have cellK:∀x c,X.env.cells.lookup x=some c->∀v,s.heap.IsCell c v->h'.IsCell c v:=λx c e v ⟨o,ho,hd⟩=>by
  have WH:c∉ch:=λz=>(R8 c z).2.2.1 x c e RR;by_cases hc:c∈X.fs;·obtain⟨sl,q⟩:=slot c o (I.cne x c e) hc WH ho (I.Eh x c e);exact⟨_,q,hd⟩
  ·exact⟨o,keep c o (I.cne x c e) hc WH ho (I.Eh x c e),hd⟩
 refine⟨I.ok,I.os,hg,⟨λb o e n hb hx=>?_,λb o e n hb hx=>?_,λb o e n hx=>?_,λb o e hx=>?_,λb xs e=>IG b xs (I.base.IG b xs e),λb o xs e=>HS b o xs (I.base.HS b o xs e),λb ps e=>?_⟩,?_,λx c e=>?_,?_,λx c e=>?_,λp hp=>?_,AU,I.len⟩;·exact keep b o (neL b o e) hb (X4 b o e hx) (I.base.keep b o e n hb hx) (I.base.free b o e n hx)
 ·obtain⟨sl,e1⟩:=I.base.slot b o e n hb hx;obtain⟨Y5,e2⟩:=slot b _ (neL b o e) hb (X4 b o e hx) e1 (I.base.free b o e n hx);exact⟨Y5,e2⟩
 ·obtain⟨o',e1⟩:=I.base.there b o e hx;exact free b o' (X4 b o e hx) e1 (I.base.free b o e n hx)
 ·obtain⟨o',e1⟩:=I.base.there b o e hx;exact there b o' (X4 b o e hx) e1
 ·obtain⟨m1,e1⟩:=I.base.HF b ps e;obtain⟨m2,e2⟩:=HF b _ e1;exact⟨m1++m2,by rw[e2,Array.append_assoc]⟩
 ·obtain⟨m,hn,hl⟩:=I.loc;refine⟨m,ns m hn,λi x v e1 e2 e3=>?_⟩;obtain⟨u,r,l⟩:=hl i x v e1 e2 e3;refine⟨u,r,?_⟩;rcases l with l|⟨k,c,e,z⟩;·exact .inl l
  ·exact .inr ⟨k,c,e,cellK x c e _ z⟩
 ·obtain⟨v,z⟩:=I.cell x c e;exact⟨v,cellK x c e v z⟩
 ·obtain⟨m,⟨o,_,_,ho,_⟩,_⟩:=I.loc;exact free _ o (λz=>(R8 _ z).2.1 RR) ho I.free
 ·obtain⟨v,o,ho,hd⟩:=I.cell x c e;exact free c o (λz=>(R8 c z).2.2.1 x c e RR) ho (I.Eh x c e)
 ·obtain⟨e,n,ne,nf,d⟩:=I.pin p hp;have WH:p.1∉ch:=λz=>(R8 p.1 z).2.2.2 p hp RR;exact⟨keep p.1 p.2 ne nf WH e n,free p.1 p.2 WH e n,ne,nf,d⟩
def Inv.un(I:Inv X pins σ H s)(u:Un X.fs [] H H' s.heap h')(AU:Fs X.prog X.w H' h'):Inv X pins σ H' {s with heap:=h',toks:=t'}:=by obtain⟨m,⟨o,es,ep,ho,r⟩,_⟩:=id I.loc;obtain⟨sl,hL⟩:=u.any ho I.free (by simp);exact I.step (ch:=[]) (λ_ z=>nomatch z) (λb o _ hb _ e n=>u.keep b o e n hb (by simp)) (λb o _ hb _ e n=>u.slot b o e n hb (by simp)) (λb o _ e n=>u.free b o e n (by simp)) (λb o _ e=>u.there b o e (by simp)) u.IG u.HS u.HF (λm' hm=>by obtain⟨o',PX,Sa,HQ,r'⟩:=hm;rw[ho]at HQ;cases HQ;exact⟨_,PX,Sa,hL,r'⟩) AU I.bare
def Inv.call(I:Inv X pins σ H s)(u:Un (Ry X.stack) ch H H' s.heap h')(AU:Fs X.prog X.w H' h')(hg:AllBare g')
  (R8:∀b∈ch,(b∈X.ex\/X.Kf.heap.objs.size<=b)/\b≠X.env.locals/\(∀x c,X.env.cells.lookup x=some c->c≠b)/\∀p∈X.pn++pins,p.1≠b):
  Inv X pins σ H' {s with heap:=h',gens:=g',drawn:=d',toks:=t'}:=by obtain⟨m,⟨o,es,ep,ho,r⟩,_⟩:=id I.loc;obtain⟨sl,hL⟩:=u.any ho I.free λz=>(R8 _ z).2.1 RR;exact I.step R8 (λb o hL hb hc e n=>u.keep b o e n (λz=>(ae5.mp (I.uC b z)).elim hL hb) hc) (λb o _ _ hc e n=>u.any e n hc) (λb o hc e n=>u.free b o e n hc) (λb o hc e=>u.there b o e hc) u.IG u.HS u.HF (λm' hm=>by obtain⟨o',PX,Sa,HQ,r'⟩:=hm;rw[ho]at HQ;cases HQ;exact⟨_,PX,Sa,hL,r'⟩) AU hg
def Inv.turned(I:Inv X pins σ H s)(k:∀b o,b≠it->s.heap.get? b=some o->h'.get? b=some o)(hn:H it=none)(hL:it≠X.env.locals)
  (h1:it∈X.ex\/X.Kf.heap.objs.size<=it)(h2:∀x c,X.env.cells.lookup x=some c->c≠it)(h3:∀p∈X.pn++pins,p.1≠it):Inv X pins σ H {s with heap:=h',toks:=t'}:=by
 have TV:∀b u,H b=some u->b≠it:=λb u e z=>by rw[z,hn]at e;cases e
 refine I.step (ch:=[it]) (λb hb=>?_) (λb o _ _ hc e _=>k b o (λz=>hc (by simp[z])) e) (λb o _ _ hc e _=>⟨o.slots,k b o (λz=>hc (by simp[z])) e⟩) (λ_ _ _ _ n=>n)
  (λb o hc e=>⟨o,k b o (λz=>hc (by simp[z])) e⟩) (λ_ _ e=>e) (λ_ _ _ e=>e) (λb ps e=>⟨#[],by rw[e];simp⟩) (λm hm=>?_) (λb u e=>?_) I.bare
 ·have e:b=it:=by simpa using hb
  subst e;exact⟨h1,hL,h2,h3⟩
 ·obtain⟨o,es,ep,ho,r⟩:=hm;exact⟨o,es,ep,k _ o (afA hL) ho,r⟩
 ·refine(I.AU b u e).oX (λc v hc q=>k c v ?_ q) (λ_ q=>q) λ_ _ q=>q;rcases hc with z|z;·rw[z];exact TV b u e
  ·exact TV c _ z
def Inv.tok(I:Inv X pins σ H s)(t:Nat):Inv X pins σ H {s with toks:=t}:=I.un Un.refl I.AU
def Inv.kept(I:Inv X pins σ H s)(k:∀b u,s.heap.get? b=some u->h'.get? b=some u):Inv X pins σ H {s with heap:=h',toks:=t'}:=I.un (Un.kept k) (I.AU.kept k)
def Inv.laid{a:Addr}(I:Inv X pins σ H s)(k:∀b u,s.heap.get? b=some u->h'.get? b=some u)(hp:s.hz<=a)(new:BW X.prog X.w (upd H a o) h' a o):
  Inv X pins σ (upd H a o) {s with heap:=h',toks:=t'}:=I.un (Un.laid k hp (I.AU.fresh hp)) (I.AU.laid k hp new)
def Inv.write(I:Inv X pins σ H s)(mu:Vv (H x))(he:e=x\/H e=some (.own x))(k:∀b u,b≠e->s.heap.get? b=some u->h'.get? b=some u)(VU:∃u,h'.get? e=some u)
  (new:BW X.prog X.w (upd H x o) h' x o):Inv X pins σ (upd H x o) {s with heap:=h',toks:=t'}:=I.un (Un.write mu he k VU) (I.AU.write mu he k VU new)
def Inv.weak(I:Inv X pins σ H s)(hl:σ'.length=σ.length)(w:∀(i:Nat) v,σ'[i]? =some (some v)->σ[i]? =some (some v)):Inv X pins σ' H s:=
 ⟨I.ok,I.os,I.bare,I.base,let⟨m,hn,hl'⟩:=I.loc;⟨m,hn,λi x v e1 e2 e3=>hl' i x v e1 (w i v e2) e3⟩,I.cell,I.free,I.Eh,I.pin,I.AU,hl.trans I.len⟩
def Inv.iQ(I:Inv X pins σ H s)(h:∀p∈pins',s.heap.get? p.1=some p.2/\H p.1=none/\p.1≠X.env.locals/\p.1∉X.fs/\∀v,p.2.data≠.cell v):Inv X pins' σ H s:=
 ⟨I.ok,I.os,I.bare,I.base,I.loc,I.cell,I.free,I.Eh,λp hp=>(afE.mp hp).elim (λz=>I.pin p (List.mem_append_left _ z)) (h p),I.AU,I.len⟩
def nB{N:Ag}{j:Nat}(hN:N.Nodup)(a:N[i]? =some x)(b:N[j]? =some x):i=j:=by obtain⟨h1,e1⟩:=ae3.mp a;obtain⟨h2,e2⟩:=ae3.mp b;exact(ahx hN).mp (e1.trans e2.symm)
def qa(I:Inv X pins σ H s)(hN:X.N.Nodup)(hi:X.N[i]? =some x)(hx:Loc X.env.scope x)(r:RelV v u)
  (h:∀s',Inv X pins (σ.set i (some v)) H s'->(∃a,Heap.SameBut a s.heap s'.heap/\(a=X.env.locals\/X.env.cells.lookup x=some a))->Q () s')(hf:X.fn x=true\/X.env.scope.names.lookup x=some .local:=by first|exact .inl RR|exact .inr RR|assumption):wpAny M A (storeName X.env x u) Q E s:=by
 obtain⟨m,hn,hl⟩:=id I.loc;have Aac:(X.env.scope.kind== .class||(X.env.scope.kind== .module&&X.env.locals !=X.env.globals))=false:=by rw[I.ok.kind];rfl
 have hiσ:i<σ.length:=by rw[I.len];exact(ae3.mp hi).1
 have cne:=I.cne;have tracked:∀{a:Addr}{h':Heap},(∃o,s.heap.get? a=some o/\H a=none)->Heap.SameBut a s.heap h'->Fs X.prog X.w H h':=λ{a h'} ha hs b ob e=>by
  obtain⟨_,_,EI⟩:=ha;refine(I.AU b ob e).oX (λc w' hc q=>(hs.2 c ?_).trans q) (λ_ q=>q) λ_ _ q=>q;rintro rfl;rcases hc with rfl|hc;·rw[EI]at e;cases e
  ·rw[EI]at hc;cases hc
 rcases hx with hk|hk
 ·refine wpAny_storeName_local hk hn (λh' Z6 hs=>?_) Aac;obtain⟨oL,_,_,hoL,_⟩:=id hn;refine h _ ⟨I.ok,I.os,I.bare,⟨λb o e n hb hx=>?_,λb o e n hb hx=>?_,I.base.free,λb o e hx=>?_,I.base.IG,I.base.HS,I.base.HF⟩,⟨_,Z6,λj y v' e1 e2 e3=>?_⟩,λy c e=>?_,I.free,I.Eh,λp hp=>?_,tracked ⟨oL,hoL,I.free⟩ hs,by simpa using I.len⟩ ⟨_,hs,.inl RR⟩;·exact(hs.2 b (afo (ae9 (ae7 e) I.ok.above))).trans (I.base.keep b o e n hb hx)
  ·obtain⟨sl,e1⟩:=I.base.slot b o e n hb hx;exact⟨sl,(hs.2 b (afo (ae9 (ae7 e) I.ok.above))).trans e1⟩
  ·obtain⟨o',e1⟩:=I.base.there b o e hx;exact⟨o',(hs.2 b (afo (ae9 (ae7 e) I.ok.above))).trans e1⟩
  ·by_cases hj:j=i;·subst hj;rw[hi]at e1;cases e1;rw[ahC hiσ]at e2;cases e2;exact⟨u,r,.inl ⟨hk,by simp⟩⟩
   ·rw[agZ (afA hj)]at e2;obtain⟨u',r',q⟩:=hl j y v' e1 e2 e3;refine⟨u',r',?_⟩;rcases q with⟨k,e⟩|⟨k,c,e,z⟩;·refine .inl ⟨k,?_⟩;have:y≠x:=λe=>hj (nB hN e1 (e▸hi));simp[this,e]
    ·exact .inr ⟨k,c,e,z.sameBut hs (cne y c e)⟩
  ·obtain⟨w',z⟩:=I.cell y c e;exact⟨w',z.sameBut hs (cne y c e)⟩
  ·obtain⟨e,n,ne,nf,d⟩:=I.pin p hp;exact⟨(hs.2 p.1 ne).trans e,n,ne,nf,d⟩
 ·have PR:X.fn x=true:=by
   rcases hf with z|z;·exact z
   ·rw[z]at hk;cases hk
  obtain⟨c,hc⟩:=I.ok.has x (.inl hk);obtain⟨w',z⟩:=I.cell x c hc;refine wpAny_storeName_cell I.ok.kind hk hc z (λh' EV hs=>?_);obtain⟨oc,VT,Z2⟩:=id z;refine h {s with heap:=h'} ⟨I.ok,I.os,I.bare,⟨λb o e n hb hx=>?_,λb o e n hb hx=>?_,I.base.free,λb o e hx=>?_,I.base.IG,I.base.HS,I.base.HF⟩,⟨m,hn.sameBut hs (afA (cne x c hc)),λj y v' e1 e2 e3=>?_⟩,λy c' e=>?_,I.free,I.Eh,λp hp=>?_,tracked ⟨oc,VT,I.Eh x c hc⟩ hs,by simpa using I.len⟩ ⟨c,hs,.inr hc⟩;·exact(hs.2 b (afo (ae9 (ae7 e) (I.ok.cab x c PR hc)))).trans (I.base.keep b o e n hb hx)
  ·obtain⟨sl,e1⟩:=I.base.slot b o e n hb hx;exact⟨sl,(hs.2 b (afo (ae9 (ae7 e) (I.ok.cab x c PR hc)))).trans e1⟩
  ·obtain⟨o',e1⟩:=I.base.there b o e hx;exact⟨o',(hs.2 b (afo (ae9 (ae7 e) (I.ok.cab x c PR hc)))).trans e1⟩
  ·by_cases hj:j=i;·subst hj;rw[hi]at e1;cases e1;rw[ahC hiσ]at e2;cases e2;exact⟨u,r,.inr ⟨.inl hk,c,hc,EV⟩⟩
   ·rw[agZ (afA hj)]at e2;obtain⟨u',r',q⟩:=hl j y v' e1 e2 e3;refine⟨u',r',?_⟩;rcases q with q|⟨k,c',e,z'⟩;·exact .inl q
    ·refine .inr ⟨k,c',e,z'.sameBut hs ?_⟩;rintro rfl;exact hj (nB hN e1 (I.ok.inj _ _ _ e hc▸hi))
  ·by_cases Ym:c'=c;·subst Ym;exact⟨_,EV⟩
   ·obtain⟨w2,z2⟩:=I.cell y c' e;exact⟨w2,z2.sameBut hs Ym⟩
  ·obtain⟨e,n,ne,nf,d⟩:=I.pin p hp;refine⟨(hs.2 p.1 ?_).trans e,n,ne,nf,d⟩;intro q;rw[q,VT]at e;have q':oc=p.2:=ae2 e;exact d w' (by rw[<-q'];exact Z2)
def m7(I:Inv X pins σ H s)(hN:X.N.Nodup)(hi:X.N[i]? =some x)(hx:Loc X.env.scope x)(r:RelV v u)
  (h:∀s',Inv X pins (σ.set i (some v)) H s'->Q () s')(hf:X.fn x=true\/X.env.scope.names.lookup x=some .local:=by first|exact .inl RR|exact .inr RR|assumption):wpAny M A (storeName X.env x u) Q E s:=
 qa I hN hi hx r (λs' I' _=>h s' I') hf
def Inv.aeC(I:Inv X pins σ H s)(ho:s'.os=s.os)(u:Un (Ry X.stack) ch H H' s.heap s'.heap)(AU:Fs X.prog X.w H' s'.heap)(hg:AllBare s'.gens)
  (R8:∀b∈ch,(b∈X.ex\/X.Kf.heap.objs.size<=b)/\b≠X.env.locals/\(∀x c,X.env.cells.lookup x=some c->c≠b)/\∀p∈X.pn++pins,p.1≠b):Inv X pins σ H' s':=by obtain⟨h',_⟩:=s';have e:=ho;subst e;exact I.call u AU hg R8
def XK:=Value->Option Addr->Hp->Prop
def St:=List (Option V)
def VK:=V->Hp->Prop
def TE:=St->Hp->VK->Prop
def TT:=St->Hp->(Bool->Hp->Prop)->Prop
def TA:=St->Hp->(List V->Hp->Prop)->Prop
structure Ends where
 nx:St->Hp->Prop
 rt:VK
 bk:St->Hp->Prop:=λ_ _=>False
 ct:St->Hp->Prop:=λ_ _=>False
def TS:=Ends->St->Hp->Prop
def EP(X:Cx)(pins:Bc)(σ:St)(Q:VK)(u:Value)(s':Shared):Prop:=(Au λv H'=>Av (Inv X pins σ H' s') (RelV v u) (Q v H'))
def TP(X:Cx)(pins:Bc)(σ:St)(Q:Bool->Hp->Prop)(b:Bool)(s':Shared):Prop:=∃H',Inv X pins σ H' s'/\Q b H'
def AP(X:Cx)(pins:Bc)(σ:St)(Q:List V->Hp->Prop)(us:Ay)(s':Shared):Prop:=(Au λvs H'=>Av (Inv X pins σ H' s') (Vals vs us) (Q vs H'))
def SP(X:Cx)(pins:Bc)(D:Ends)(f:Flow)(s':Shared):Prop:=
 match f with
 | .next=>(Au λσ' H'=>Inv X pins σ' H' s'/\D.nx σ' H')
 | .brk=>(Au λσ' H'=>Inv X pins σ' H' s'/\D.bk σ' H')
 | .cont=>(Au λσ' H'=>Inv X pins σ' H' s'/\D.ct σ' H')
 | .ret u=>(BL λv σ' H'=>Av (Inv X pins σ' H' s') (RelV v u) (D.rt v H'))
def PE(X:Cx)(e:Expr)(t:TE):Prop:=
 ∀(pins:Bc)(s:Shared)(σ:St)(H:Hp)(Q:VK),Inv X pins σ H s->t σ H Q->CF X (eval e X.env) (EP X pins σ Q) X.xe s
def PT(X:Cx)(e:Expr)(t:TT):Prop:=
 ∀(pins:Bc)(s:Shared)(σ:St)(H:Hp)(Q:Bool->Hp->Prop),Inv X pins σ H s->t σ H Q->CF X (isTrue e X.env (eval e X.env)) (TP X pins σ Q) X.xe s
def PW(X:Cx)(e:Expr)(t:TT):Prop:=
 ∀(whole:Sem Value)(pins:Bc)(s:Shared)(σ:St)(H:Hp)(Q:Bool->Hp->Prop),Inv X pins σ H s->t σ H Q->CF X (isTrue e X.env whole) (TP X pins σ Q) X.xe s
def PW.pt(h:PW X e t):PT X e t:=h _
def PA(X:Cx)(es:List Expr)(t:TA):Prop:=
 ∀(pos:Pos)(pins:Bc)(s:Shared)(σ:St)(H:Hp)(Q:List V->Hp->Prop),Inv X pins σ H s->t σ H Q->CF X (spliced (backTo pos (starEach es X.env))) (AP X pins σ Q) X.xe s
def PS(X:Cx)(st:Stmt)(t:TS):Prop:=
 ∀(pins:Bc)(s:Shared)(σ:St)(H:Hp)(D:Ends),Inv X pins σ H s->t D σ H->CF X (exec st X.env) (SP X pins D) X.xe s
def Nv(X:Cx)(st:List Stmt)(t:TS):Prop:=
 ∀(pins:Bc)(s:Shared)(σ:St)(H:Hp)(D:Ends),Inv X pins σ H s->t D σ H->CF X (execs st X.env) (SP X pins D) X.xe s
def iM{Q':α->Shared->Prop}(h:wpAny M A t Q E s)(hQ:∀a s,Q a s->Q' a s):wpAny M A t Q' E s:=wpAny_mono h hQ λ_ _ x=>x
def c7{X:Cx}{pins:Bc}{σ:St}{Q0:VK}{t:Sem Value}{Q':CP}{M:Model}{A:Around}{E:CP}{s:Shared}(h:wpAny M A t (EP X pins σ Q0) E s)(k:∀u s v H',Inv X pins σ H' s->RelV v u->Q0 v H'->Q' u s):wpAny M A t Q' E s:=iM h λu s ⟨v,H',I,r,q⟩=>k u s v H' I r q
def oW{X:Cx}{pins:Bc}{σ:St}{Q0:List V->Hp->Prop}{t:Sem (Ay)}{Q':Ay->Shared->Prop}{M:Model}{A:Around}{E:CP}{s:Shared}(h:wpAny M A t (AP X pins σ Q0) E s)(k:∀u s v H',Inv X pins σ H' s->Vals v u->Q0 v H'->Q' u s):wpAny M A t Q' E s:=iM h λu s ⟨v,H',I,r,q⟩=>k u s v H' I r q
def thT{X:Cx}{pins:Bc}{σ:St}{Q0:Bool->Hp->Prop}{t:Sem Bool}{Q':Bool->Shared->Prop}{M:Model}{A:Around}{E:CP}{s:Shared}(h:wpAny M A t (TP X pins σ Q0) E s)(k:∀u s H',Inv X pins σ H' s->Q0 u H'->Q' u s):wpAny M A t Q' E s:=iM h λu s ⟨H',I,q⟩=>k u s H' I q
def bin{σ:St}{R:V->V->Hp->Prop}{f:Value->Value->Sem α}(ha:PE X a ta)(hb:PE X b tb)(I:Inv X pins σ H s)(h:ta σ H λx H1=>tb σ H1 λy H2=>R x y H2)
  (hf:∀v u s2 x y H2,Inv X pins σ H2 s2->RelV x v->RelV y u->R x y H2->CF X (f v u) Q X.xe s2):
  CF X (eval a X.env) (λv s₁=>CF X (eval b X.env) (λu s₂=>CF X (f v u) Q X.xe s₂) X.xe s₁) X.xe s:=by refine c7 (ha pins s σ H _ I h) λv s1 x H1 I1 r1 q1=>?_;refine c7 (hb pins s1 σ H1 _ I1 q1) λu s2 y H2 I2 r2 q2=>?_;exact hf v u s2 x y H2 I2 r1 r2 q2
def YK(i:Nat):TE:=λσ H Q=>∃v,σ[i]? =some (some v)/\Q v H
noncomputable def tC(v:V):TE:=λ_ H Q=>Q v H
def acX{X:Cx}{pos:Pos}(hN:X.N[i]? =some x)(hv:Qa X.env.scope x)(hd:GY x:=by decide)(HC:(x==("__classdict__" :Str))=false:=by decide):PE X (.Name x pos) (YK i):=by
 rintro pins s σ H Q I ⟨v,e,h⟩;obtain⟨m,hn,hl⟩:=I.loc;obtain⟨u,r,l⟩:=hl i x v hN e hv;have fin:EP X pins σ Q u s:=⟨v,H,I,r,h⟩;rcases l with⟨hk,hm⟩|⟨hk,c,hc,OK⟩;·exact wpAny_Name (wpAny_loadName_local I.ok.kind hk hn hm fin) hd
 ·rcases hk with hk|hk;·exact wpAny_Name (wpAny_loadName_cell I.ok.kind hk hc OK fin) hd
  ·exact wpAny_Name (wpAny_loadName_free I.ok.kind hk hc OK fin HC) hd
def ac4:PE X (.Constant (.int i) j pos) (tC (.int i)):=λ_ _ _ H _ I h=>wpAny_Constant_int ⟨.int i,H,I.tok _,⟨_,RR⟩,h⟩
def aen:PE X (.Constant (.bool b) j pos) (tC (.bl b)):=λ_ _ _ H _ I h=>Constant_bool ⟨.bl b,H,I,RR,h⟩
def ac2:PE X (.Constant .none j pos) (tC .BM):=λ_ _ _ H _ I h=>Constant_none ⟨.BM,H,I,RR,h⟩
def acZ:PE X (.Constant (.str x) j pos) (tC (.str x)):=λ_ _ _ H _ I h=>Calls.Constant_str ⟨.str x,H,I.tok _,⟨_,RR⟩,h⟩
def Gl(X:Cx)(x:Str):Prop:=X.env.kindOf x=some .globalImplicit
def j_{σ:St}(I:Inv X pins σ H s)(hg:Gl X x)(hm:X.mg x=some u)(h:Q u s)
  (hd:GY x:=by decide):CF X (eval (.Name x pos) X.env) Q E s:=
 Calls.Name_function_global I.ok.kind hg (Calls.loadGlobal_global (by rw[I.ok.glob];exact I.mod.glob.keeps I.bk) hm h) hd
def fS{E:CP}{σ:St}{pos:Pos}(I:Inv X pins σ H s)(hg:Gl X x)(hm:X.mg x=none)(hv:bootBuiltins x=some u)(h:Q u s)
  (hn:x≠"__name__" :=by decide)(hd:GY x:=by decide):CF X (eval (.Name x pos) X.env) Q E s:=by obtain⟨mb,h1,h2⟩:=I.mod.blt;exact Calls.Name_function_global I.ok.kind hg (Calls.loadGlobal_builtin (by rw[I.ok.glob];exact I.mod.glob.keeps I.bk) hm (by rw[I.ok.blt];exact h1.keeps I.bk) ((h2 x hn).trans hv) h) hd
def abw(hg:Gl X x)(hm:X.mg x=some u)(r:RelV v u)(hd:GY x:=by decide):PE X (.Name x pos) (tC v):=
 λ_ _ _ H _ I h=>j_ I hg hm ⟨v,H,I,r,h⟩ hd
def PC(X:Cx)(op:CmpOp)(a b:Expr)(t:TE):Prop:=
 ∀(pins:Bc)(s:Shared)(σ:St)(H:Hp)(Q:VK),Inv X pins σ H s->t σ H Q->
  CF X (eval a X.env) (λv s₁=>CF X (eval b X.env) (λu s₂=>CF X (compareOp op v u) (EP X pins σ Q) X.xe s₂) X.xe s₁) X.xe s
def zF(b:Expr)(h:op≠.In)(h2:op≠.NotIn):behindInMarks op b=false:=by
 have e1:(op==CmpOp.In)=false:=by grind
 have e2:(op==CmpOp.NotIn)=false:=by grind
 cases b<;>simp[behindInMarks,e1,e2]
noncomputable def tB(t:TE):TT:=λσ H Q=>t σ H λx H1=>∃c,x= .bl c/\Q c H1
def aeO(h:PC X op a b t)(h1:behindInMarks op b=false:=by first|exact zF _ (by decide) (by decide)|rfl):PT X (.Compare a [op] [b] pos) (tB t):=by intro pins s σ H Q I hw;refine wpAny_isTrue_Compare1 (iM (h pins s σ H _ I hw) λv s1 h1=>iM h1 λu s2 h2=>c7 h2 λc s3 x H1 I1 r1 q1=>?_) h1;obtain⟨d,rfl,q⟩:=q1;cases r1;exact wpAny_truthy_bool ⟨H1,I1,q⟩
def acL(h:PE X e t)(he:∀whole,isTrue e X.env whole=(do let v<-whole;standAt e.pos;holding [v] (truthy v)):=by intro _;rfl):PT X e (tB t):=by intro pins s σ H Q I hw;refine isTrue_plain (c7 (h pins s σ H _ I hw) λv s1 x H1 I1 r1 q1=>?_) (he _);obtain⟨d,rfl,q⟩:=q1;cases r1;exact wpAny_truthy_bool ⟨H1,I1,q⟩
def YW(t u:TT):TT:=λσ H Q=>t σ H λc H1=>if c=true then u σ H1 Q else Q false H1
def AaF(t u:TT):TT:=λσ H Q=>t σ H λc H1=>if c=true then Q true H1 else u σ H1 Q
def YO(t:TT):TT:=λσ H Q=>t σ H λc H1=>Q (!c) H1
def pw_and1(ha:PT X a tA):PW X (.BoolOp .And [a] pos) tA:=by
 intro wh pins s σ H Q I h;refine isTrue_and (iM (ha pins s σ H Q I h) λc s1 e=>?_);cases c with
 |true=>exact isTrue_and_nil e
 |false=>exact e
def pw_or1(ha:PT X a tA):PW X (.BoolOp .Or [a] pos) tA:=by
 intro wh pins s σ H Q I h;refine isTrue_or (iM (ha pins s σ H Q I h) λc s1 e=>?_);cases c with
 |false=>exact isTrue_or_nil e
 |true=>exact e
def pw_and{rest:List Expr}(ha:PT X a tA)(hb:PW X (.BoolOp .And (b::rest) pos) YU):PW X (.BoolOp .And (a::b::rest) pos) (YW tA YU):=by
 intro wh pins s σ H Q I h;refine isTrue_and (thT (ha pins s σ H _ I h) λc s1 H1 I1 q1=>?_);cases c with
 |true=>exact hb wh pins s1 σ H1 Q I1 q1
 |false=>exact⟨H1,I1,q1⟩
def pw_or{rest:List Expr}(ha:PT X a tA)(hb:PW X (.BoolOp .Or (b::rest) pos) YU):PW X (.BoolOp .Or (a::b::rest) pos) (AaF tA YU):=by
 intro wh pins s σ H Q I h;refine isTrue_or (thT (ha pins s σ H _ I h) λc s1 H1 I1 q1=>?_);cases c with
 |true=>exact⟨H1,I1,q1⟩
 |false=>exact hb wh pins s1 σ H1 Q I1 q1
def acM(ha:PT X a tA):PT X (.UnaryOp .Not a pos) (YO tA):=by intro pins s σ H Q I h;exact isTrue_not (ha pins s σ H (λc H1=>Q (!c) H1) I h)
def We(ta tb:TE):TE:=λσ H Q=>ta σ H λx H1=>∃c,x= .bl c/\if c=true then tb σ H1 Q else Q (.bl false) H1
def V8(ta:TE):TE:=λσ H Q=>ta σ H λx H1=>∃c,x= .bl c/\Q (.bl (!c)) H1
def ac0(h:PE X a t):PE X (.BoolOp op [a] pos) t:=λpins s σ H Q I hw=>BoolOp_one (h pins s σ H Q I hw)
def ac7{rest:List Expr}(ha:PE X a ta)(hb:PE X (.BoolOp .And (b::rest) pos) tb):PE X (.BoolOp .And (a::b::rest) pos) (We ta tb):=by
 intro pins s σ H Q I h;refine BoolOp_and (c7 (ha pins s σ H _ I h) λv s1 x H1 I1 r1 q1=>?_);obtain⟨c,rfl,q1⟩:=q1;cases r1;refine wpAny_truthy_bool ?_;cases c with
 |true=>exact hb pins s1 σ H1 Q I1 q1
 |false=>exact⟨.bl false,H1,I1,RR,q1⟩
def ac1(ha:PE X a ta):PE X (.UnaryOp .Not a pos) (V8 ta):=by intro pins s σ H Q I h;refine UnaryOp_ (c7 (ha pins s σ H _ I h) λv s1 x H1 I1 r1 q1=>?_);obtain⟨c,rfl,q1⟩:=q1;cases r1;exact not_of (wpAny_truthy_bool ⟨.bl (!c),H1,I1,RR,q1⟩)
def AaG(t:TT)(ta tb:TE):TE:=λσ H Q=>t σ H λc H1=>if c=true then ta σ H1 Q else tb σ H1 Q
def zy(hc:PT X c tA)(ha:PE X a ta)(hb:PE X b tb):PE X (.IfExp c a b pos) (AaG tA ta tb):=by
 intro pins s σ H Q I h;refine wpAny_IfExp (thT (hc pins s σ H _ I h) λd s1 H1 I1 q1=>?_);cases d with
 |true=>exact ha pins s1 σ H1 Q I1 q1
 |false=>exact hb pins s1 σ H1 Q I1 q1
def Aj(K:Frag)(H:Hp)(a:Addr)(xs:List V):Prop:=
 Rd H a (.lst xs)\/
  (BL λ(o:Obj) (its:Array Value) (n:Nat)=>Dn (K.lookup a=some o) (o.cls= .type "list") (o.dict=none) (o.data= .seq its n) (its.size<=sizeLine) (Vals xs its.toList))
def Cd(K:Frag)(H:Hp)(a:Addr)(xs:List V):Prop:=
 Rd H a (.tup xs)\/
  (BL λ(o:Obj) (its:Array Value) (n:Nat)=>B9 (K.lookup a=some o) (o.cls= .type "tuple") (o.data= .seq its n) (its.size<=sizeLine) (Vals xs its.toList))
def Aaq:Value->Option V
 | .none=>some .BM
 | .bool b=>some (.bl b)
 | .int i _=>some (.int i)
 | .str x _=>some (.str x)
 | .bytes b _=>some (.Nh b)
 | .float b _=>some (.VY b)
 | .ref a=>some (.ref a)
 | .type n=>some (.ty n)
 |_=>none
def RelV.abs(r:RelV x u):Aaq u=some x:=by
 cases x with
 |BM=>cases r;rfl
 |bl _=>cases r;rfl
 |int _=>obtain⟨t,rfl⟩:=r;rfl
 |str _=>obtain⟨t,rfl⟩:=r;rfl
 |Nh _=>obtain⟨t,rfl⟩:=r;rfl
 |VY _=>obtain⟨t,rfl⟩:=r;rfl
 |ref _=>cases r;rfl
 |ty _=>cases r;rfl
def RelV.inj(r:RelV x u)(q:RelV y u):x=y:=ae2 (r.abs.symm.trans q.abs)
def Vals.inj:∀{xs ys:List V}{us:Ay},Vals xs us->Vals ys us->xs=ys
 |_,_,_,.nil,.nil=>rfl
 |_,_,_,.cons r t,.cons r' t'=>by rw[r.inj r',Vals.inj t t']
def Aj.of{K:Frag}(h:H a=some (.lst xs)):Aj K H a xs:=.inl (.inl h)
def Cd.of(h:H a=some (.tup xs)):Cd kK H a xs:=.inl (.inl h)
def Inv.list{σ:St}(I:Inv X pins σ H s)(h:Aj X.K H a xs):(∃its:Ay,Av (Vals xs its) (PlainL s.heap a its.toArray) (xs.length<=sizeLine)):=by
 rcases h with h|⟨o,its,n,hk,hc,hd,hs,hz,r⟩;·obtain⟨z,its,n,r,e⟩:=h.ok I.AU;exact⟨its,r,⟨_,n,e,RR,RR,RR⟩,z⟩
 ·refine⟨its.toList,r,⟨o,n,I.rq a o hk,hc,hd,by simpa using hs⟩,?_⟩;have e:=r.length;grind
def Inv.tuple{σ:St}(I:Inv X pins σ H s)(h:Cd X.K H a xs):(∃its:Ay,Av (Vals xs its) (IsTup s.heap a its.toArray) (xs.length<=sizeLine)):=by
 rcases h with h|⟨o,its,n,hk,hc,hs,hz,r⟩;·obtain⟨z,its,r,p⟩:=h.ok I.AU;exact⟨its,r,p,z⟩
 ·refine⟨its.toList,r,⟨o,I.rq a o hk,hc,n,by simpa using hs⟩,?_⟩;have e:=r.length;grind
def Inv.dS{σ:St}(I:Inv X pins σ H s)(h:Aj X.K H a xs)(h':Aj X.K H a ys):xs=ys:=by
 obtain⟨its,r,⟨o,n,e,_,_,d⟩,_⟩:=I.list h;obtain⟨its',r',⟨o',n',e',_,_,d'⟩,_⟩:=I.list h';rw[e]at e';cases e';rw[d]at d';injection d' with d1 _;have:its=its':=by simp_all
 subst this;exact r.inj r'
def Inv.xl{σ:St}(I:Inv X pins σ H s)(h:Cd X.K H a xs)(h':Cd X.K H a ys):xs=ys:=by
 obtain⟨its,r,⟨o,e,_,n,d⟩,_⟩:=I.tuple h;obtain⟨its',r',⟨o',e',_,n',d'⟩,_⟩:=I.tuple h';rw[e]at e';cases e';rw[d]at d';injection d' with d1 _;have:its=its':=by simp_all
 subst this;exact r.inj r'
abbrev Cx.mn(X:Cx)(E:CP):Cx:={X with xe:=E}
abbrev Cx.xM(X:Cx):Cx:=X.mn λ_ _=>False
def Cx.Ok.mn{X:Cx}(ok:X.Ok)(E:CP):(X.mn E).Ok:=
 ⟨ok.mod,ok.kind,ok.glob,ok.blt,ok.above,ok.inj,ok.has,ok.cab,ok.hd,ok.frames,ok.VH,ok.VZ,ok.bs,ok.ON,ok.NX,ok.Og,ok.i_,ok.Rz⟩
def Cx.Ok.fM{X:Cx}(ok:(X.mn E).Ok):X.Ok:=
 ⟨ok.mod,ok.kind,ok.glob,ok.blt,ok.above,ok.inj,ok.has,ok.cab,ok.hd,ok.frames,ok.VH,ok.VZ,ok.bs,ok.ON,ok.NX,ok.Og,ok.i_,ok.Rz⟩
def Inv.mn{σ:St}(I:Inv X pins σ H s)(E:CP):Inv (X.mn E) pins σ H s:=⟨I.ok.mn E,I.os,I.bare,I.base,I.loc,I.cell,I.free,I.Eh,I.pin,I.AU,I.len⟩
def Inv.fM{σ:St}(I:Inv (X.mn E) pins σ H s):Inv X pins σ H s:=⟨I.ok.fM,I.os,I.bare,I.base,I.loc,I.cell,I.free,I.Eh,I.pin,I.AU,I.len⟩
def SP.fM(h:SP (X.mn E) pins D f s'):SP X pins D f s':=by
 cases f with
 |next=>obtain⟨σ',H',I,q⟩:=h;exact⟨σ',H',I.fM,q⟩
 |brk=>obtain⟨σ',H',I,q⟩:=h;exact⟨σ',H',I.fM,q⟩
 |cont=>obtain⟨σ',H',I,q⟩:=h;exact⟨σ',H',I.fM,q⟩
 |ret u=>obtain⟨v,σ',H',I,r,q⟩:=h;exact⟨v,σ',H',I.fM,r,q⟩
def PE.xM(h:PE X.xM e t):PE X e t:=λpins s σ H Q I hw=>
 wpAny_mono (h pins s σ H Q (I.mn _) hw) (λ_ _ ⟨v,H',I',r,q⟩=>⟨v,H',I'.fM,r,q⟩) λ_ _ z=>False.elim z
def PT.xM(h:PT X.xM e t):PT X e t:=λpins s σ H Q I hw=>
 wpAny_mono (h pins s σ H Q (I.mn _) hw) (λ_ _ ⟨H',I',q⟩=>⟨H',I'.fM,q⟩) λ_ _ z=>False.elim z
def Nv.xM{st:List Stmt}(h:Nv X.xM st t):Nv X st t:=λpins s σ H D I hw=>
 wpAny_mono (h pins s σ H D (I.mn _) hw) (λ_ _ q=>q.fM) λ_ _ z=>False.elim z
def V9:TS:=λD σ H=>D.nx σ H
def YM(t u:TS):TS:=λD σ H=>t {D with nx:=u D} σ H
def abk:Nv X [] V9:=λ_ _ σ H _ I h=>wpAny_execs_nil ⟨σ,H,I,h⟩
def zj{st:Stmt}{rest:List Stmt}(h1:PS X st t)(h2:Nv X rest u):Nv X (st::rest) (YM t u):=by
 intro pins s σ H D I h;refine wpAny_execs_cons (iM (h1 pins s σ H {D with nx:=u D} I h) λf s1 q=>?_);cases f with
 |next=>obtain⟨σ',H',I',q⟩:=q;exact h2 pins s1 σ' H' D I' q
 |ret v=>exact q
 |brk=>exact q
 |cont=>exact q
def abj{st:Stmt}(h1:PS X st t):Nv X [st] t:=by
 intro pins s σ H D I h;refine wpAny_execs_cons (iM (h1 pins s σ H D I h) λf s1 q=>?_);cases f with
 |next=>exact wpAny_execs_nil q
 |ret v=>exact q
 |brk=>exact q
 |cont=>exact q
def Inv.quiet{σ:St}(I:Inv X pins σ H s):interactive X.env=false:=by simp[interactive,I.ok.kind]
def Wa(te:TE):TS:=λD σ H=>te σ H λ_ H1=>D.nx σ H1
def abl(he:PE X e te)(hs:swapsWith e none pos.line X.env=pure false:=by rfl):PS X (.Expr e pos) (Wa te):=by intro pins s σ H D I h;exact wpAny_Expr_any (c7 (he pins s σ H _ I h) λv s1 x H1 I1 r1 q1=>⟨σ,H1,I1,q1⟩) I.quiet hs
def YN(te:TE):TS:=λD σ H=>te σ H D.rt
def acO(he:PE X e te):PS X (.Return (some e) pos) (YN te):=by intro pins s σ H D I h;exact wpAny_Return_some (c7 (he pins s σ H _ I h) λv s1 x H1 I1 r1 q1=>⟨x,σ,H1,I1,r1,q1⟩)
def YR(c:TT)(t u:TS):TS:=λD σ H=>c σ H λb H1=>if b=true then t D σ H1 else u D σ H1
def aeh(hc:PT X c tc)(ha:Nv X a t)(hb:Nv X b u):PS X (.If c a b pos) (YR tc t u):=by
 intro pins s σ H D I h;refine wpAny_If (thT (hc pins s σ H _ I h) λd s1 H1 I1 q1=>?_);cases d with
 |true=>exact ha pins s1 σ H1 D I1 q1
 |false=>exact hb pins s1 σ H1 D I1 q1
def TG:=V->St->Hp->(St->Hp->Prop)->Prop
def Xz:=List V->St->Hp->(St->Hp->Prop)->Prop
def PG(X:Cx)(target:Expr)(t:TG):Prop:=
 ∀(pins:Bc)(s:Shared)(σ:St)(H:Hp)(v:V)(u:Value)(Q:St->Hp->Prop),Inv X pins σ H s->RelV v u->t v σ H Q->
  CF X (assign target X.env u) (λ_ s'=>(Au λσ' H'=>Inv X pins σ' H' s'/\Q σ' H')) X.xe s
def YA(X:Cx)(ts:List Expr)(t:Xz):Prop:=
 ∀(pins:Bc)(s:Shared)(σ:St)(H:Hp)(vs:List V)(us:Ay)(Q:St->Hp->Prop),Inv X pins σ H s->Vals vs us->t vs σ H Q->
  CF X (assignInOrder ((assignEach ts X.env).map (·.2)) us) (λ_ s'=>(Au λσ' H'=>Inv X pins σ' H' s'/\Q σ' H')) X.xe s
def Vs:=V->V->V->Hp->(Hp->Prop)->Prop
def RK(X:Cx)(t:Vs):Prop:=
 ∀(pins:Bc)(s:Shared)(σ:St)(H:Hp)(o i v:V)(ov iv u:Value)(Q:Hp->Prop),Inv X pins σ H s->RelV o ov->RelV i iv->RelV v u->t o i v H Q->
  CF X (setItem ov iv u) (λ_ s'=>∃H',Inv X pins σ H' s'/\Q H') X.xe s
def Yy:=V->V->Hp->VK->Prop
def Vt(X:Cx)(op:Operator)(t:Yy):Prop:=
 ∀(pins:Bc)(s:Shared)(σ:St)(H:Hp)(x y:V)(v u:Value)(Q:VK),Inv X pins σ H s->RelV x v->RelV y u->t x y H Q->
  CF X (inplaceOp op v u) (EP X pins σ Q) X.xe s
def Du(i:Nat):TG:=λv σ H Q=>Q (σ.set i (some v)) H
def qY(hN:X.N.Nodup)(hi:X.N[i]? =some x)(hx:Loc X.env.scope x)(hf:X.fn x=true\/X.env.scope.names.lookup x=some .local:=by first|exact .inl RR|exact .inr RR|assumption):PG X (.Name x pos) (Du i):=by intro pins s σ H v u Q I r h;exact wpAny_assign_Name (m7 I hN hi hx r (λs' I'=>⟨_,H,I',h⟩) hf)
def cT{X:Cx}{x:Str}{pos:Pos}(i:Nat)(hN:X.N.Nodup)(hi:X.N[i]? =some x:=by rfl)(hx:Loc X.env.scope x:=by exact Or.inl RR)(hf:X.fn x=true\/X.env.scope.names.lookup x=some .local:=by first|exact .inl RR|exact .inr RR|assumption):PG X (.Name x pos) (Du i):=qY hN hi hx hf
def Vm:Xz:=λvs σ H Q=>vs=[]/\Q σ H
def Lo(t:TG)(u:Xz):Xz:=λvs σ H Q=>(Au λv r=>vs=v::r/\t v σ H λσ' H'=>u r σ' H' Q)
def j6:YA X [] Vm:=by rintro pins s σ H vs us Q I r ⟨e,h⟩;exact assignInOrder_nil ⟨σ,H,I,h⟩
def cA(h1:PG X e t)(h2:YA X es u)
  (hs:(assignEach (e::es) X.env).map (·.2)=assign e X.env::(assignEach es X.env).map (·.2):=by rfl):YA X (e::es) (Lo t u):=by
 rintro pins s σ H vs us Q I r ⟨v,vr,e1,h⟩;subst e1;cases r with
 |cons r rr=>rw[hs];refine assignInOrder_cons (iM (h1 pins s σ H _ _ _ I r h) λ_ s1 ⟨σ1,H1,I1,q1⟩=>?_);exact h2 pins s1 σ1 H1 _ _ Q I1 rr q1
def Vk(K:Frag)(n:Nat)(t:Xz):TG:=λv σ H Q=>(Au λa xs=>BO (v= .ref a) (Cd K H a xs) (xs.length=n) (t xs σ H Q))
def nu{pos:Pos}{k:Nat}(hc:X.calm=true)(h:YA X es t)
  (hn:(assignEach es X.env).length=n:=by rfl)(WZ:(assignEach es X.env).findIdx? (·.1)=none:=by rfl):PG X (.Tuple es k pos) (Vk X.K n t):=by rintro pins s σ H v u Q I r ⟨a,xs,e1,hq,hl,hw⟩;subst e1;cases r;obtain⟨its,rv,ht,hz⟩:=I.tuple hq;refine assign_Tuple_tuple (I.ok.hd hc) ht (by simp[hn,<-hl,rv.length]) WZ λh' hx=>?_;have I1:=I.kept (t':=s.toks) λb o e=>hx b o (afo (ae7 e)) e;exact h pins _ σ H xs _ Q I1 (by simpa using rv) hw
def Aak(to ti:TE)(t:Vs):TG:=λv σ H Q=>to σ H λo H1=>ti σ H1 λi H2=>t o i v H2 λH3=>Q σ H3
def acW(ho:PE X o to)(hi:PE X i ti)(hs:RK X t)
  (ha:∀v,assign (.Subscript o i pos) X.env v=(do
   let ov<-holding [v] (eval o X.env)
   let iv<-holding [v,ov] (eval i X.env)
   standAt pos
   holding [v,ov,iv] (setItem ov iv v)
   release [v,ov,iv] []):=by intro _;rfl):PG X (.Subscript o i pos) (Aak to ti t):=by intro pins s σ H v u Q I r h;rw[ha];refine wpAny_bind (wpAny_holding (c7 (ho pins s σ H _ I h) λov s1 x H1 I1 r1 q1=>?_));refine wpAny_bind (wpAny_holding (c7 (hi pins s1 σ H1 _ I1 q1) λiv s2 y H2 I2 r2 q2=>?_));refine wpAny_bind (wpAny_standAt (wpAny_bind (wpAny_holding (iM (hs pins s2 σ H2 x y v ov iv u _ I2 r1 r2 r q2) λ_ s3 ⟨H3,I3,q3⟩=>?_))));exact wpAny_release ⟨σ,H3,I3,q3⟩
def Uw(te:TE)(g:TG):TS:=λD σ H=>te σ H λx H1=>g x σ H1 D.nx
def acS{pos:Pos}(he:PE X e te)(hg:PG X tg g)(hs:swapsWithSole [tg] e pos.line X.env=pure false:=by rfl)(hw:swappedStores [tg] e X.env=pure none:=by rfl)
  (h1:(assignEach [tg] X.env).map (·.2)=[assign tg X.env]:=by rfl):PS X (.Assign [tg] e pos) (Uw te g):=by intro pins s σ H D I h;refine wpAny_Assign_stores (c7 (he pins s σ H _ I h) λv s1 x H1 I1 r1 q1=>?_) hs hw;rw[h1];exact iM (hg pins s1 σ H1 x v _ I1 r1 q1) λ_ s2 q=>q
def acN{pos:Pos}(hN:X.N.Nodup)(hi:X.N[i]? =some x)(hx:Loc X.env.scope x)(he:PE X e te)(hs:swapsWith e (some (.Name x pos')) pos.line X.env=pure false:=by rfl)(hf:X.fn x=true\/X.env.scope.names.lookup x=some .local:=by first|exact .inl RR|exact .inr RR|assumption):
  PS X (.Assign [.Name x pos'] e pos) (Uw te (Du i)):=by intro pins s σ H D I h;refine wpAny_Assign_Name (c7 (he pins s σ H _ I h) λv s1 y H1 I1 r1 q1=>?_) hs;exact m7 I1 hN hi hx r1 (λs2 I2=>⟨_,H1,I2,q1⟩) hf
def YV(i:Nat)(te:TE)(ti:Yy):TS:=λD σ H=>∃x,σ[i]? =some (some x)/\te σ H λy H1=>ti x y H1 λz H2=>D.nx (σ.set i (some z)) H2
def acR(hN:X.N.Nodup)(hi:X.N[i]? =some x)(hx:Loc X.env.scope x)(he:PE X e te)(ho:Vt X op ti)(hf:X.fn x=true\/X.env.scope.names.lookup x=some .local:=by first|exact .inl RR|exact .inr RR|assumption):
  PS X (.AugAssign (.Name x pos') op e pos) (YV i te ti):=by
 intro pins s σ H D I h;obtain⟨v,e1,h⟩:=h;obtain⟨m,hn,hl⟩:=I.loc;have vis:Qa X.env.scope x:=by rcases hx with k|k;exact .inl k;exact .inr (.inl k)
 obtain⟨u,r,l⟩:=hl i x v hi e1 vis;refine wpAny_AugAssign_Name ?_;have go:CF X (eval e X.env) (λw s₂=>CF X (inplaceOp op u w) (λr s₃=>CF X (storeName X.env x r) (λ_=>SP X pins D .next) X.xe s₃) X.xe s₂) X.xe s:=by refine c7 (he pins s σ H _ I h) λw s1 y H1 I1 r1 q1=>?_;refine c7 (ho pins s1 σ H1 v y u w _ I1 r r1 q1) λz s2 zv H2 I2 r2 q2=>?_;exact m7 I2 hN hi hx r2 (λs3 I3=>⟨_,H2,I3,q2⟩) hf
 rcases l with⟨hk,hm⟩|⟨hk,c,hc,OK⟩;·exact wpAny_loadName_local I.ok.kind hk hn hm go
 ·rcases hk with hk|hk;·exact wpAny_loadName_cell I.ok.kind hk hc OK go
  ·rcases hx with k|k;·have:X.env.scope.names.lookup x=some .free:=hk;rw[k]at this;cases this
   ·have:X.env.scope.names.lookup x=some .free:=hk;rw[k]at this;cases this
def Wd(to ti te:TE)(Qv:V->V->Hp->VK->Prop)(V7:Yy)(Qu:Vs):TS:=λD σ H=>to σ H λo H1=>ti σ H1 λi H2=>Qv o i H2 λx H3=>te σ H3 λy H4=>V7 x y H4 λz H5=>Qu o i z H5 λH6=>D.nx σ H6
def Vu(X:Cx)(t:V->V->Hp->VK->Prop):Prop:=
 ∀(pins:Bc)(s:Shared)(σ:St)(H:Hp)(o i:V)(ov iv:Value)(Q:VK),Inv X pins σ H s->RelV o ov->RelV i iv->t o i H Q->
  CF X (getItem ov iv) (EP X pins σ Q) X.xe s
def abn(ho:PE X o to)(hi:PE X i ti)(hg:Vu X Qv)(he:PE X e te)(hp:Vt X op V7)(hs:RK X Qu)
  (ha:∀ov iv new,augStore i ov iv new=(do holding [new,ov,iv] (setItem ov iv new);release [new,ov,iv] [];pure .next):=by intros;rfl):PS X (.AugAssign (.Subscript o i Fl) op e pos) (Wd to ti te Qv V7 Qu):=by intro pins s σ H D I h;refine wpAny_AugAssign_SubscriptAny (c7 (ho pins s σ H _ I h) λov s1 x1 H1 I1 r1 q1=>?_) ha;refine c7 (hi pins s1 σ H1 _ I1 q1) λiv s2 x2 H2 I2 r2 q2=>?_;refine c7 (hg pins s2 σ H2 x1 x2 ov iv _ I2 r1 r2 q2) λold s3 x3 H3 I3 r3 q3=>?_;refine c7 (he pins s3 σ H3 _ I3 q3) λv s4 x4 H4 I4 r4 q4=>?_;refine c7 (hp pins s4 σ H4 x3 x4 old v _ I4 r3 r4 q4) λnew s5 x5 H5 I5 r5 q5=>?_;exact iM (hs pins s5 σ H5 x1 x2 x5 ov iv new _ I5 r1 r2 r5 q5) λ_ s6 ⟨H6,I6,q6⟩=>⟨σ,H6,I6,q6⟩
def ZC(f:Int->Int->Int):Yy:=λx y H Q=>(Au λi j=>Av (x= .int i) (y= .int j) (Q (.int (f i j)) H))
def u_:Vt X .Add (ZC λi j=>i+j):=by rintro pins s σ H x y v u Q I r1 r2 ⟨i,j,e1,e2,q⟩;subst e1;subst e2;obtain⟨t,rfl⟩:=r1;obtain⟨t',rfl⟩:=r2;exact iadd_int ⟨.int _,H,I.tok _,⟨_,RR⟩,q⟩
def Qw(c:TT)(tb:TS):TS:=λD σ H=>∃W:Nat->St->Hp->Prop,(∃m,W m σ H)/\∀m σ H,W m σ H->
 c σ H λb H1=>if b=true then∃N:St->Hp->Prop,(∀σ' H',N σ' H'->∃m',m'<m/\W m' σ' H')/\tb {D with nx:=N,ct:=N,bk:=D.nx} σ H1 else D.nx σ H1
def zm(hp:PassesOwn (model X.prog X.w) X.A X.env X.xe)(hc:PT X c tc)(hb:Nv X body tb):PS X (.While c body [] pos) (Qw tc tb):=by
 intro pins s σ H D I h;obtain⟨W,⟨m0,w0⟩,turn⟩:=h;refine wpAny_While (codeAny_whileLoop (λn s'=>(Au λσ' H'=>Inv X pins σ' H' s'/\W n σ' H')) ?_ m0 ⟨σ,H,I,w0⟩);rintro n s1 ⟨σ1,H1,I1,w1⟩;refine wpAny_passesOwn hp (thT (hc pins s1 σ1 H1 _ I1 (turn n σ1 H1 w1)) λb s2 H2 I2 q2=>?_);cases b with
 |true=>
  obtain⟨N,hN,q2⟩:=q2;rw[if_pos RR];refine wpAny_passesOwn hp (iM (hb pins s2 σ1 H2 _ I2 q2) λf s3 q3=>?_);cases f with
  |next=>obtain⟨σ3,H3,I3,n3⟩:=q3;obtain⟨m',hm,w3⟩:=hN σ3 H3 n3;exact⟨m',hm,σ3,H3,I3,w3⟩
  |cont=>obtain⟨σ3,H3,I3,n3⟩:=q3;obtain⟨m',hm,w3⟩:=hN σ3 H3 n3;exact⟨m',hm,σ3,H3,I3,w3⟩
  |brk=>exact q3
  |ret v=>exact q3
 |false=>exact wpAny_execs_nil ⟨σ1,H2,I2,q2⟩
structure It where
 go:Nat->Hp->Prop
 Ke:Nat->Hp->V->Hp->Prop
 stop:Nat->Hp->Prop
def DW(X:Cx)(pins:Bc)(H:Hp)(b:Addr):Prop:=
 H b=none/\b≠X.env.locals/\b∉X.fs/\(b∈X.ex\/X.Kf.heap.objs.size<=b)/\(∀x c,X.env.cells.lookup x=some c->c≠b)/\∀p∈X.pn++pins,p.1≠b
def Inv.oa{σ:St}{b:Addr}(I:Inv X pins σ H s)(hb:s.hz<=b)(hn:H' b=none):DW X pins H' b:=by
 refine⟨hn,agh (ae9 I.lt hb),I.aeP hb,.inr (afe I.sz hb),λx c e z=>?_,λp hp z=>?_⟩;·obtain⟨v,q⟩:=I.cell x c e;exact absurd (ae9 q.lt (by rw[z];exact hb)) (afM _)
 ·exact absurd (ae9 (ae7 (I.pin p hp).1) (by rw[z];exact hb)) (afM _)
structure Turn(P:Program)(w:World)(K:Frag)(tg:Expr)(J:It)(fp:Ax)(it:Addr)(tn:Nat->Heap->Prop):Prop where
 mem:it∈fp
 obj:∀i h,tn i h->∀b∈fp,∃o,h.get? b=some o/\∀v,o.data≠.cell v
 keep:∀i h h',tn i h->(∀b∈fp,∀o,h.get? b=some o->h'.get? b=some o)->tn i h'
 item:∀(X:Cx),X.prog=P->X.w=w->X.K=K->X.calm=true->∀(i:Nat)(pins:Bc)(s:Shared)(σ:St)(H:Hp)(E:CP),Inv X pins σ H s->(∀b∈fp,DW X pins H b)->tn i s.heap->J.go i H->
  wpAny (model P w) X.A (pyNext (.ref it)) (λr s1=>∃u,r=some u/\
   wpAny (model P w) X.A (letOwnedTupleGo tg (.ref it) u) (λ_ s2=>(Au λx H'=>B9 (Inv X pins σ H' s2) (RelV x u) (J.Ke i H x H') (tn (i+1) s2.heap) (∀b∈fp,H' b=none))) E s1) E s
 done:∀(X:Cx),X.prog=P->X.w=w->X.K=K->X.calm=true->∀(i:Nat)(pins:Bc)(s:Shared)(σ:St)(H:Hp)(E:CP),Inv X pins σ H s->(∀b∈fp,DW X pins H b)->tn i s.heap->J.stop i H->
  wpAny (model P w) X.A (pyNext (.ref it)) (λr s1=>r=none/\Inv X pins σ H s1) E s
 self:∀(A:Around)(i:Nat)(s:Shared)(Q:CP)(E:CP),tn i s.heap->Q (.ref it) s->wpAny (model P w) A (pyIter (.ref it)) Q E s
def TI:=St->Hp->(It->Hp->Prop)->Prop
def Yz(X:Cx)(pins:Bc)(σ:St)(tg:Expr)(R:It->Hp->Prop)(ZA:Value)(s2:Shared):Prop:=
 (FX λ(it:Addr) (fp:Ax) (tn:Nat->Heap->Prop) (J:It) (H':Hp)=>Dn (ZA= .ref it) (Inv X pins σ H' s2) (Turn X.prog X.w X.K tg J fp it tn) (tn 0 s2.heap) ((∀b∈fp,DW X pins H' b)) (R J H'))
def PI(X:Cx)(tg iter:Expr)(wi:TI):Prop:=
 ∀(pins:Bc)(s:Shared)(σ:St)(H:Hp)(R:It->Hp->Prop),Inv X pins σ H s->wi σ H R->
  CF X (eval iter X.env) (λv s1=>CF X (pyIter v) (Yz X pins σ tg R) X.xe s1) X.xe s
def qv(ho:s.heap.get? it=some o)(hc:o.cls= .type n)(hd:o.data= .fields vs)
  (hn:["enumerate","zip","dict_itemiterator","dict_reverseitemiterator","odict_iterator","itertools.zip_longest","itertools.pairwise"].contains n=false)(hQ:Q () s):wpAny M A (letOwnedTupleGo tg (.ref it) u) Q E s:=by
 cases tg<;>first
  |exact wpAny_pure hQ
  |(cases u<;>first
    |exact wpAny_pure hQ
    |(refine wpAny_bind (wpAny_load ho ?_);rw[hc,hd];show wpAny M A (if(["enumerate","zip","dict_itemiterator","dict_reverseitemiterator","odict_iterator","itertools.zip_longest","itertools.pairwise"].contains n&&vs[0]? ==some (rawInt _))=true then _ else _) Q E s;rw[if_neg (by intro h;rw[hn,agR]at h;cases h)];exact wpAny_pure hQ))
def XF(K:Frag)(a:Addr):It:=
 ⟨λi H=>(Au λxs x=>Aj K H a xs/\xs[i]? =some x),λi H x H'=>H'=H/\∀xs,Aj K H a xs->xs[i]? =some x,λi H=>∃xs,Aj K H a xs/\xs.length<=i⟩
def YC(K:Frag)(a:Addr):It:=
 ⟨λi H=>(Au λxs x=>Cd K H a xs/\xs[i]? =some x),λi H x H'=>H'=H/\∀xs,Cd K H a xs->xs[i]? =some x,λi H=>∃xs,Cd K H a xs/\xs.length<=i⟩
def Uk(lo:Int)(n:Nat):It:=⟨λi _=>i<n,λi H x H'=>H'=H/\x= .int (lo+i),λi _=>n<=i⟩
def xh(a it:Addr):Turn P w kK tg (XF kK a) [it] it (λi h=>h.IsListIter it a i) where
 mem:=by simp
 obj:=λi h st b hb=>by
  have e:b=it:=by simpa using hb
  subst e;obtain⟨o,e,c,d⟩:=st;exact⟨o,e,λv z=>by rw[d]at z;cases z⟩
 keep:=λi h h' st k=>st.at λo e=>k it (by simp) o e
 item:=by intro X hP hw hK hc i pins s σ H E I hf st hg;subst hP hw hK;obtain⟨xs,x,hq,hx⟩:=hg;obtain⟨its,rv,p,hz⟩:=I.list hq;obtain⟨u,hu,ru⟩:=rv.get hx;obtain⟨f0,f1,f2,f3,f4,f5⟩:=hf it (by simp);refine wpAny_pyNext_list_item st p.isList (x:=u) (by simpa using hu) λh' Mt sb=>?_;have I1:Inv X pins σ H {s with heap:=h'}:=I.turned (t':=s.toks) (λb o hb e=>(sb.2 b hb).trans e) f0 f1 f3 f4 f5;obtain⟨o,e,c,d⟩:=id Mt;exact⟨u,RR,qv (s:={s with heap:=h'}) e c d (by decide) ⟨x,H,I1,ru,⟨RR,λys hy=>by rw[I.dS hy hq];exact hx⟩,Mt,λb hb=>(hf b hb).1⟩⟩
 done:=by intro X hP hw hK hc i pins s σ H E I hf st hg;subst hP hw hK;obtain⟨xs,hq,hx⟩:=hg;obtain⟨its,rv,p,hz⟩:=I.list hq;obtain⟨f0,f1,f2,f3,f4,f5⟩:=hf it (by simp);have hl:=rv.length;exact wpAny_pyNext_list_end (I.ok.hd hc) st p.isList (by simp;omega) λh' eb=>⟨RR,I.turned (t':=s.toks) (λb o hb e=>eb b o hb e) f0 f1 f3 f4 f5⟩
 self:=λ_ _ _ _ _ st h=>wpAny_pyIter_listiter st h
def ux(a it:Addr):Turn P w kK tg (YC kK a) [it] it (λi h=>h.IsTupleIter it a i) where
 mem:=by simp
 obj:=λi h st b hb=>by
  have e:b=it:=by simpa using hb
  subst e;obtain⟨o,e,c,d⟩:=st;exact⟨o,e,λv z=>by rw[d]at z;cases z⟩
 keep:=λi h h' st k=>st.at λo e=>k it (by simp) o e
 item:=by intro X hP hw hK hc i pins s σ H E I hf st hg;subst hP hw hK;obtain⟨xs,x,hq,hx⟩:=hg;obtain⟨its,rv,p,hz⟩:=I.tuple hq;obtain⟨u,hu,ru⟩:=rv.get hx;obtain⟨f0,f1,f2,f3,f4,f5⟩:=hf it (by simp);refine wpAny_pyNext_tuple_item st (show s.heap.IsTuple a its.toArray from p) (x:=u) (by simpa using hu) λh' Mt sb=>?_;have I1:=I.turned (t':=s.toks) (λb o hb e=>(sb.2 b hb).trans e) f0 f1 f3 f4 f5;obtain⟨o,e,c,d⟩:=id Mt;exact⟨u,RR,qv (s:={s with heap:=h'}) e c d (by decide) ⟨x,H,I1,ru,⟨RR,λys hy=>by rw[I.xl hy hq];exact hx⟩,Mt,λb hb=>(hf b hb).1⟩⟩
 done:=by intro X hP hw hK hc i pins s σ H E I hf st hg;subst hP hw hK;obtain⟨xs,hq,hx⟩:=hg;obtain⟨its,rv,p,hz⟩:=I.tuple hq;obtain⟨f0,f1,f2,f3,f4,f5⟩:=hf it (by simp);have hl:=rv.length;exact wpAny_pyNext_tuple_end (I.ok.hd hc) st (show s.heap.IsTuple a its.toArray from p) (by simp;omega) λh' eb=>⟨RR,I.turned (t':=s.toks) (λb o hb e=>eb b o hb e) f0 f1 f3 f4 f5⟩
 self:=λ_ _ _ _ _ st h=>wpAny_pyIter_tupleiter st h
def uz(it:Addr)(lo:Int)(n:Nat):Turn P w kK tg (Uk lo n) [it] it (λi h=>IsRangeIter h it (lo+(i:Nat)*1) ((n:Int)-(i:Nat)) 1) where
 mem:=by simp
 obj:=λi h st b hb=>by
  have e:b=it:=by simpa using hb
  subst e;exact⟨_,st,λv z=>by have z':Data.fields _=Data.cell v:=z;cases z'⟩
 keep:=λi h h' st k=>k it (by simp) _ st
 item:=by intro X hP hw hK hc i pins s σ H E I hf st hg;subst hP hw hK;obtain⟨f0,f1,f2,f3,f4,f5⟩:=hf it (by simp);have W:=Walks.range (prog:=X.prog) (w:=X.w) (I.ok.hd hc) it lo 1 n;refine W.item i s _ _ hg st λv h' tk hv Mt kk=>?_;obtain⟨t,rfl⟩:=hv;have I1:Inv X pins σ H {s with heap:=h',toks:=tk}:=I.turned (λb o hb e=>kk b o (by simpa using hb) e) f0 f1 f3 f4 f5;refine⟨_,RR,qv (n:="range_iterator") Mt RR RR (by decide) ⟨.int (lo+i),H,I1,⟨t,?_⟩,⟨RR,RR⟩,Mt,λb hb=>(hf b hb).1⟩⟩;rw[Int.mul_one]
 done:=by intro X hP hw hK hc i pins s σ H E I hf st hg;subst hP hw hK;obtain⟨f0,f1,f2,f3,f4,f5⟩:=hf it (by simp);exact wpAny_pyNext_range_end (I.ok.hd hc) st (by have:n<=i:=hg;omega) λh' eb=>⟨RR,I.turned (t':=s.toks) (λb o hb e=>eb b o hb e) f0 f1 f3 f4 f5⟩
 self:=λ_ _ _ _ _ st h=>wpAny_pyIter_rangeiter st h
def WQ(K:Frag)(tl:TE):TI:=λσ H R=>tl σ H λx H1=>(∃a,Av (x= .ref a) ((∃xs,Aj K H1 a xs)) (R (XF K a) H1))
def ZE(K:Frag)(tl:TE):TI:=λσ H R=>tl σ H λx H1=>(∃a,Av (x= .ref a) ((∃xs,Cd K H1 a xs)) (R (YC K a) H1))
def abq{tl:TE}(hl:PE X l tl):PI X tg l (WQ X.K tl):=by
 intro pins s σ H R I h;refine c7 (hl pins s σ H _ I h) λv s1 x H1 I1 r1 q1=>?_;obtain⟨a,e,⟨xs,hq⟩,q⟩:=q1;subst e;cases r1;obtain⟨its,rv,p,hz⟩:=I1.list hq;refine wpAny_pyIter_list p.isList<|⟨s1.hz,[s1.hz],_,_,H1,RR,I1.kept λb o e=>adx _ e,xh a _,⟨_,ae4 _ RR,RR,RR⟩,λb hb=>?_,q⟩;have e:b=s1.hz:=by simpa using hb
 subst e;exact I1.oa (ae8 _) (I1.AU.fresh (ae8 _))
def acU{tl:TE}(hl:PE X l tl):PI X tg l (ZE X.K tl):=by
 intro pins s σ H R I h;refine c7 (hl pins s σ H _ I h) λv s1 x H1 I1 r1 q1=>?_;obtain⟨a,e,⟨xs,hq⟩,q⟩:=q1;subst e;cases r1;obtain⟨its,rv,p,hz⟩:=I1.tuple hq;refine wpAny_pyIter_tuple (p)<|⟨s1.hz,[s1.hz],_,_,H1,RR,I1.kept λb o e=>adx _ e,ux a _,⟨_,ae4 _ RR,RR,RR⟩,λb hb=>?_,q⟩;have e:b=s1.hz:=by simpa using hb
 subst e;exact I1.oa (ae8 _) (I1.AU.fresh (ae8 _))
def sO{σ:St}{lo:Int}(I:Inv X pins σ H s)(h1: -(2^62)<=lo)(h2:lo<2^62)(h3: -(2^62)<=hi)(h4:hi<2^62)
  (q:R (Uk lo (hi-lo).toNat) H):CF X (pyIter (.ref s.hz)) (Yz X pins σ tg R) E {s with heap:=s.heap.push {cls:=.type "range",data:=.fields #[.int lo t,.int hi u,.int 1 v]},toks:=tk}:=by
 refine wpAny_pyIter_range (IsRange.new ..) (small_one h1 h2 h3 h4) ?_;have I1:Inv X pins σ H {s with heap:=s.heap.push {cls:=.type "range",data:=.fields #[.int lo t,.int hi u,.int 1 v]},toks:=tk}:=I.kept λb o e=>adx _ e;refine⟨(s.heap.push {cls:=.type "range",data:=.fields #[.int lo t,.int hi u,.int 1 v]}).objs.size,[(s.heap.push {cls:=.type "range",data:=.fields #[.int lo t,.int hi u,.int 1 v]}).objs.size],_,_,H,RR,
  I1.kept (t':=tk) λb o e=>adx _ e,uz _ lo (hi-lo).toNat,?_,λb hb=>?_,q⟩
 ·have e1:lo+((0:Nat):Int)*1=lo:=by simp
  have e2:(((hi-lo).toNat:Nat):Int)-((0:Nat):Int)=Builtin.Range.rangeSize lo hi 1:=by rw[rangeSize_one];split<;>omega
  rw[e1,e2];exact ae4 _ RR
 ·have e:b=(s.heap.push {cls:=.type "range",data:=.fields #[.int lo t,.int hi u,.int 1 v]}).objs.size:=by simpa using hb
  subst e;exact I1.oa (ae8 _) (I1.AU.fresh (ae8 _))
def WO(ta:TA):TI:=λσ H R=>ta σ H λvs H1=>(∃j:Int,BO (vs=[.int j]) (-(2^62)<=j) (j<2^62) (R (Uk 0 j.toNat) H1))
def WN(ta:TA):TI:=λσ H R=>ta σ H λvs H1=>(Au λi j:Int=>Av (vs=[.int i,.int j]) ((-(2^62)<=i/\i<2^62/\ -(2^62)<=j/\j<2^62)) (R (Uk i (j-i).toNat) H1))
def xG(hg:Gl X "range")(hm:X.mg "range" =none)(ha:PA X [a] ta)(hs:starEach [a] X.env=[(false,eval a X.env)]:=by rfl):PI X tg (.Call (.Name "range" p) [a] [] pos) (WO ta):=by
 intro pins s σ H R I h;refine Call_ (fS I hg hm boot_range (afP (oW (ha pos pins s σ H _ I h) λus s1 vs H1 I1 r1 q1=>?_) hs RR));obtain⟨j,e,q1,q2,q⟩:=q1;subst e;cases r1 with
 |cons r rr=>cases rr;obtain⟨t,rfl⟩:=r;exact call_range_1 (sO I1 (by omega) (by omega) q1 q2 (by simpa using q))
def xF{tg:Expr}{p pos:Pos}(hg:Gl X "range")(hm:X.mg "range" =none)(ha:PA X [a,b] ta)(hs:starEach [a,b] X.env=[(false,eval a X.env),(false,eval b X.env)]:=by rfl)(OI:starEach [b] X.env=[(false,eval b X.env)]:=by rfl):
  PI X tg (.Call (.Name "range" p) [a,b] [] pos) (WN ta):=by
 intro pins s σ H R I h;refine Call_ (fS I hg hm boot_range (afP (oW (ha pos pins s σ H _ I h) λus s1 vs H1 I1 r1 q1=>?_) (by rw[hs,OI]) (by rw[OI];rfl)));obtain⟨i,j,e,⟨q1,q2,q3,q4⟩,q⟩:=q1;subst e;cases r1 with
 |cons r rr=>
  cases rr with
  |cons r' rr=>cases rr;obtain⟨t,rfl⟩:=r;obtain⟨t',rfl⟩:=r';exact call_range_2 (sO I1 q1 q2 q3 q4 q)
def V_(wi:TI)(g:TG)(tb:TS):TS:=λD σ H=>wi σ H λJ H1=>∃W:Nat->Nat->St->Hp->Prop,(∃m,W 0 m σ H1)/\∀i m σ H,W i m σ H->
 (J.stop i H/\D.nx σ H)\/(J.go i H/\∃N:St->Hp->Prop,(∀σ' H',N σ' H'->∃m',m'<m/\W (i+1) m' σ' H')/\∀x H',J.Ke i H x H'->g x σ H' λσ2 H2=>tb {D with nx:=N,ct:=N,bk:=D.nx} σ2 H2)
def JC(fp:Ax)(h:Heap):Bc:=fp.filterMap λb=>(h.get? b).map λo=>(b,o)
def jv(hb:b∈fp)(e:h.get? b=some o):(b,o)∈JC fp h:=List.mem_filterMap.mpr ⟨b,hb,by rw[e];rfl⟩
def xK(hp:p∈JC fp h):p.1∈fp/\h.get? p.1=some p.2:=by
 obtain⟨b,hb,e⟩:=List.mem_filterMap.mp hp;cases q:h.get? b with
 |none=>rw[q]at e;cases e
 |some o=>rw[q]at e;have e':=ae2 e;subst e';exact⟨hb,q⟩
def Inv.pinned{σ:St}(I:Inv X pins σ H s)(hf:∀b∈fp,DW X pins H b)(ho:∀b∈fp,∃o,s.heap.get? b=some o/\∀v,o.data≠.cell v):Inv X (pins++JC fp s.heap) σ H s:=
 I.iQ λp hp=>(afE.mp hp).elim (λz=>I.pin p (afC _ z)) λz=>by obtain⟨hb,e⟩:=xK z;obtain⟨f0,f1,f2,_⟩:=hf p.1 hb;obtain⟨o,e',d⟩:=ho p.1 hb;simp_all
def Inv.jQ{σ:St}(I:Inv X (pins++pl) σ H s):Inv X pins σ H s:=I.iQ λp hp=>I.pin p (afC _ (List.mem_append_left _ hp))
def acP(hp:PassesOwn (model X.prog X.w) X.A X.env X.xe)(hc:X.calm=true)(hi:PI X tg iter wi)(hg:PG X tg g)(hb:Nv X body tb)
  (hs:∀x,foldedSetIterable iter X.env x=pure x:=by intro _;rfl):PS X (.For tg iter body [] pos) (V_ wi g tb):=by
 intro pins s σ H D I h;refine wpAny_For (iM (hi pins s σ H _ I h) λv s1 h1=>iM h1 λZA s2 h2=>?_) hs;obtain⟨it,fp,tn,J,H2,e,I2,T,Ql,f2,W,⟨m0,w0⟩,turn⟩:=h2;subst e;have NQ:∀{H':Hp},(∀b∈fp,H' b=none)->∀b∈fp,DW X pins H' b:=λhn b hb=>⟨hn b hb,(f2 b hb).2⟩;refine codeAny_forLoop_any (λn s'=>∃i σ' H',Inv X pins σ' H' s'/\tn i s'.heap/\(∀b∈fp,H' b=none)/\W i n σ' H') ?_ m0 ⟨0,σ,H2,I2,Ql,λb hb=>(f2 b hb).1,w0⟩;rintro n s3 ⟨i,σ3,H3,I3,TH,fr3,w3⟩;rcases turn i n σ3 H3 w3 with⟨stop,qn⟩|⟨go,N,hN,step⟩;·refine wpAny_passesOwn hp (iM (T.done X RR RR RR hc i pins s3 σ3 H3 X.xe I3 (NQ fr3) TH stop) λr s4 ⟨hr,I4⟩=>?_);subst hr;exact wpAny_execs_nil ⟨σ3,H3,I4,qn⟩
 ·refine wpAny_passesOwn hp (iM (T.item X RR RR RR hc i pins s3 σ3 H3 X.xe I3 (NQ fr3) TH go) λr s4 ⟨u,hr,h4⟩=>?_);subst hr;refine wpAny_passesOwn hp (iM h4 λ_ s5 ⟨x,H5,I5,r5,y5,VI,fr5⟩=>?_);have I5':=I5.pinned (NQ fr5) (T.obj _ _ VI);refine wpAny_passesOwn hp (iM (hg _ s5 σ3 H5 x u _ I5' r5 (step x H5 y5)) λ_ s6 ⟨σ6,H6,I6,q6⟩=>?_);refine wpAny_passesOwn hp (iM (hb _ s6 σ6 H6 _ I6 q6) λf s7 q7=>?_);have again:∀{σ7:St}{H7:Hp},Inv X (pins++JC fp s5.heap) σ7 H7 s7->N σ7 H7->∃m,m<n/\∃i σ' H',Inv X pins σ' H' s7/\tn i s7.heap/\(∀b∈fp,H' b=none)/\W i m σ' H':=λ{σ7 H7} I7 n7=>by obtain⟨m',hm,w7⟩:=hN σ7 H7 n7;refine⟨m',hm,i+1,σ7,H7,I7.jQ,T.keep _ _ _ VI λb hb o e=>(I7.pin (b,o) (afC _ (afC _ (jv hb e)))).1,λb hb=>?_,w7⟩;obtain⟨o,e,d⟩:=T.obj _ _ VI b hb;exact(I7.pin (b,o) (afC _ (afC _ (jv hb e)))).2.1
  cases f with
  |next=>obtain⟨σ7,H7,I7,n7⟩:=q7;exact again I7 n7
  |cont=>obtain⟨σ7,H7,I7,n7⟩:=q7;exact again I7 n7
  |brk=>obtain⟨σ7,H7,I7,q7⟩:=q7;exact⟨σ7,H7,I7.jQ,q7⟩
  |ret v=>obtain⟨x7,σ7,H7,I7,r7,q7⟩:=q7;exact⟨x7,σ7,H7,I7.jQ,r7,q7⟩
def yR(Pv:St->Hp->Prop)(μ:St->Hp->Nat)(h0:Pv σ H)
  (hs:∀σ H,Pv σ H->c σ H λb H1=>if b=true then tb {D with nx:=λσ' H'=>Pv σ' H'/\μ σ' H'<μ σ H,ct:=λσ' H'=>Pv σ' H'/\μ σ' H'<μ σ H,bk:=D.nx} σ H1 else D.nx σ H1)
  (mono:∀σ H Q Q',(∀b H1,Q b H1->Q' b H1)->c σ H Q->c σ H Q'):Qw c tb D σ H:=by
 refine⟨λm σ H=>m=μ σ H/\Pv σ H,⟨_,RR,h0⟩,?_⟩;rintro m σ H ⟨rfl,p⟩;refine mono σ H _ _ (λb H1 q=>?_) (hs σ H p);cases b with
 |true=>exact⟨_,λσ' H' ⟨p',l⟩=>⟨_,l,RR,p'⟩,q⟩
 |false=>exact q
def R2:=V->V->Hp->VK->Prop
def Eu(X:Cx)(f:Value->Value->Sem Value)(r:R2):Prop:=
 ∀(pins:Bc)(s:Shared)(σ:St)(H:Hp)(x y:V)(v u:Value)(Q:VK),Inv X pins σ H s->RelV x v->RelV y u->r x y H Q->
  CF X (f v u) (EP X pins σ Q) X.xe s
def Xu(X:Cx)(f:Value->Sem Value)(r:V->Hp->VK->Prop):Prop:=
 ∀(pins:Bc)(s:Shared)(σ:St)(H:Hp)(x:V)(v:Value)(Q:VK),Inv X pins σ H s->RelV x v->r x H Q->
  CF X (f v) (EP X pins σ Q) X.xe s
def Cc(X:Cx)(f:Value)(r:List V->Hp->VK->Prop):Prop:=
 ∀(pins:Bc)(s:Shared)(σ:St)(H:Hp)(xs:List V)(us:Ay)(Q:VK),Inv X pins σ H s->Vals xs us->r xs H Q->
  CF X (call f us) (EP X pins σ Q) X.xe s
def X0(r:R2)(ta tb:TE):TE:=λσ H Q=>ta σ H λx H1=>tb σ H1 λy H2=>r x y H2 Q
def AaD(r:V->Hp->VK->Prop)(ta:TE):TE:=λσ H Q=>ta σ H λx H1=>r x H1 Q
noncomputable def rI(C:Int->Int->Prop)(g:Int->Int->V):R2:=λx y H Q=>(Au λi j=>BO (x= .int i) (y= .int j) (C i j) (Q (g i j) H))
def R4(g:Int->Int->V):R2:=λx y H Q=>(Au λi j=>Av (x= .int i) (y= .int j) (Q (g i j) H))
noncomputable def rU(g:Int->V):V->Hp->VK->Prop:=λx H Q=>∃i,x= .int i/\Q (g i) H
def ad2{σ:St}{R:V->V->Hp->Prop}{f:Value->Value->Sem Value}(ha:PE X a ta)(hb:PE X b tb)(I:Inv X pins σ H s)
  (h:ta σ H λx H1=>tb σ H1 λy H2=>R x y H2)
  (hf:∀v u s2 x y H2,Inv X pins σ H2 s2->RelV x v->RelV y u->R x y H2->CF X (f v u) Q X.xe s2):
  CF X (eval a X.env) (λv s₁=>CF X (eval b X.env) (λu s₂=>CF X (f v u) Q X.xe s₂) X.xe s₁) X.xe s:=by refine c7 (ha pins s σ H _ I h) λv s1 x H1 I1 r1 q1=>?_;refine c7 (hb pins s1 σ H1 _ I1 q1) λu s2 y H2 I2 r2 q2=>?_;exact hf v u s2 x y H2 I2 r1 r2 q2
def aej(ho:Eu X (binaryOp op) r)(ha:PE X a ta)(hb:PE X b tb):PE X (.BinOp a op b pos) (X0 r ta tb):=by intro pins s σ H Q I h;exact wpAny_BinOp (ad2 ha hb I h λv u s2 x y H2 I2 rx ry q=>ho pins s2 σ H2 x y v u Q I2 rx ry q)
def aei(ho:Xu X (unaryOp op) r)(ha:PE X a ta):PE X (.UnaryOp op a pos) (AaD r ta):=by intro pins s σ H Q I h;exact UnaryOp_ (c7 (ha pins s σ H _ I h) λv s1 x H1 I1 r1 q1=>ho pins s1 σ H1 x v Q I1 r1 q1)
def opI{g:Int->Int->Int}
  (rule:∀(i j:Int)(t u:Tok)(s:Shared)(Q:CP)(E:CP),C i j->Q (.int (g i j) s.toks) {s with toks:=s.toks+1}->CF X (f (.int i t) (.int j u)) Q E s):
  Eu X f (rI C λi j=>.int (g i j)):=by rintro pins s σ H x y v u Q I rx ry ⟨i,j,rfl,rfl,hc,q⟩;obtain⟨t,rfl⟩:=rx;obtain⟨t',rfl⟩:=ry;exact rule i j t t' s _ _ hc ⟨.int (g i j),H,I.tok _,⟨_,RR⟩,q⟩
def abC{g:Int->Int->Int}
  (rule:∀(i j:Int)(t u:Tok)(s:Shared)(Q:CP)(E:CP),Q (.int (g i j) s.toks) {s with toks:=s.toks+1}->CF X (f (.int i t) (.int j u)) Q E s):
  Eu X f (R4 λi j=>.int (g i j)):=by rintro pins s σ H x y v u Q I rx ry ⟨i,j,rfl,rfl,q⟩;obtain⟨t,rfl⟩:=rx;obtain⟨t',rfl⟩:=ry;exact rule i j t t' s _ _ ⟨.int (g i j),H,I.tok _,⟨_,RR⟩,q⟩
def abD{g:Int->Int->Bool}
  (rule:∀(i j:Int)(t u:Tok)(s:Shared)(Q:CP)(E:CP),Q (.bool (g i j)) s->CF X (f (.int i t) (.int j u)) Q E s):
  Eu X f (R4 λi j=>.bl (g i j)):=by rintro pins s σ H x y v u Q I rx ry ⟨i,j,rfl,rfl,q⟩;obtain⟨t,rfl⟩:=rx;obtain⟨t',rfl⟩:=ry;exact rule i j t t' s _ _ ⟨.bl (g i j),H,I,RR,q⟩
def Aax(i j:Int):Prop:=0<j/\j<1073741824
def Aaw(i j:Int):Prop:=0<=j/\j<=1000000/\i.natAbs<2^64
def VD(i j:Int):Prop:=(-(2^64)<i/\i<2^64)\/(-(2^64)<j/\j<2^64)
def VD.ok(h:VD i j):IntMulOk i j:=by
 rcases h with⟨h1,h2⟩|⟨h1,h2⟩;·exact .of_left (intBits_le_64 h1 h2)
 ·exact .of_right (intBits_le_64 h1 h2)
def k6:Eu X (binaryOp .Add) (R4 λi j=>.int (i+j)):=abC λ_ _ _ _ _ _ _ q=>add_int q
def fP:Eu X (binaryOp .Sub) (R4 λi j=>.int (i-j)):=abC λ_ _ _ _ _ _ _ q=>sub_int q
def fQ:Eu X (binaryOp .Mult) (rI VD λi j=>.int (i*j)):=opI λ_ _ _ _ _ _ _ hc q=>mul_int q hc.ok
def abB:Eu X (binaryOp .FloorDiv) (rI Aax λi j=>.int (i / j)):=opI λi j _ _ _ _ _ hc q=>by have h1:=hc.1;have h2:=hc.2;exact floordiv_int (by omega) (by rw[Int.fdiv_eq_ediv_of_nonneg i (by omega)];exact q) (.inl (PyProof.noPylong_small (by omega)))
def ada:Eu X (binaryOp .LShift) (rI Aaw λi j=>.int (i*2^j.toNat)):=opI λ_ _ _ _ _ _ _ hc q=>lshift_int_small hc.1 hc.2.1 hc.2.2 q
def rf:Eu X (binaryOp .BitAnd) (R4 λi j=>.int (Builtin.bitAnd i j)):=abC λ_ _ _ _ _ _ _ q=>and_int q
def aer:Eu X (binaryOp .BitOr) (R4 λi j=>.int (Builtin.bitOr i j)):=abC λ_ _ _ _ _ _ _ q=>or_int q
def unI{g:Int->Int}
  (rule:∀(i:Int)(t:Tok)(s:Shared)(Q:CP)(E:CP),Q (.int (g i) s.toks) {s with toks:=s.toks+1}->CF X (f (.int i t)) Q E s):
  Xu X f (rU λi=>.int (g i)):=by rintro pins s σ H x v Q I rx ⟨i,rfl,q⟩;obtain⟨t,rfl⟩:=rx;exact rule i t s _ _ ⟨.int (g i),H,I.tok _,⟨_,RR⟩,q⟩
def acC:Xu X (unaryOp .USub) (rU λi=>.int (-i)):=unI λ_ _ _ _ _ q=>neg_int q
def uw:Xu X (unaryOp .Invert) (rU λi=>.int (Builtin.bitNot i)):=unI λ_ _ _ _ _ q=>invert_int q
def Ws:V->V->Bool
 | .BM,.BM=>true| .BM,.int _=>true| .int _,.BM=>true| .BM,.bl _=>true| .bl _,.BM=>true| .BM,.str _=>true| .str _,.BM=>true
 | .int _,.int _=>true| .bl _,.bl _=>true| .str _,.str _=>true| .Nh _,.Nh _=>true
 | .int _,.str _=>true| .str _,.int _=>true| .bl _,.str _=>true| .str _,.bl _=>true
 |_,_=>false
def AaJ:R2:=λx y H Q=>Ws x y=true/\Q (.bl (decide (x=y))) H
def AaI:R2:=λx y H Q=>Ws x y=true/\Q (.bl (!decide (x=y))) H
def wL:decide (V.int i=V.int j)=(i==j):=by rw[afb];simp
def aaD:decide (V.bl i=V.bl j)=(i==j):=by rw[afb];simp
def wK:decide (V.str i=V.str j)=(i==j):=by rw[afb];simp
def wM:decide (V.Nh i=V.Nh j)=(i.toList==j.toList):=by rw[afb];cases i;cases j;simp
def ba{σ:St}(I:Inv X pins σ H s)(q:Q (.bl k) H)(e:k=k'):EP X pins σ Q (.bool k') s:=by subst e;exact⟨.bl k,H,I,RR,q⟩
def bO:Eu X (compareOp .Eq) AaJ:=by
 intro pins s σ H x y v u Q I rx ry h;obtain⟨hs,q⟩:=h;cases x with
 |BM=>
  cases rx;cases y with
  |BM=>cases ry;exact PySem.EqNone.eq_none_none (ba I q (by simp))
  |bl j=>cases ry;exact PySem.EqNone.eq_none_bool (ba I q (by simp))
  |int j=>obtain⟨t',rfl⟩:=ry;exact PySem.EqNone.eq_none_int (ba I q (by simp))
  |str j=>obtain⟨t',rfl⟩:=ry;exact PySem.EqNone.eq_none_str (ba I q (by simp))
  |_=>exact absurd (show false=true from hs) ae0
 |bl i=>
  cases rx;cases y with
  |BM=>cases ry;exact PySem.EqNone.eq_bool_none (ba I q (by simp))
  |bl j=>cases ry;exact eq_bool (ba I q aaD)
  |str j=>obtain⟨t',rfl⟩:=ry;exact PySem.EqMixed.eq_bool_str (ba I q (by simp))
  |_=>exact absurd (show false=true from hs) ae0
 |int i=>
  obtain⟨t,rfl⟩:=rx;cases y with
  |BM=>cases ry;exact PySem.EqNone.eq_int_none (ba I q (by simp))
  |int j=>obtain⟨t',rfl⟩:=ry;exact eq_int (ba I q wL)
  |str j=>obtain⟨t',rfl⟩:=ry;exact PySem.EqMixed.eq_int_str (ba I q (by simp))
  |_=>exact absurd (show false=true from hs) ae0
 |str i=>
  obtain⟨t,rfl⟩:=rx;cases y with
  |BM=>cases ry;exact PySem.EqNone.eq_str_none (ba I q (by simp))
  |bl j=>cases ry;exact PySem.EqMixed.eq_str_bool (ba I q (by simp))
  |int j=>obtain⟨t',rfl⟩:=ry;exact PySem.EqMixed.eq_str_int (ba I q (by simp))
  |str j=>obtain⟨t',rfl⟩:=ry;exact eq_str (ba I q wK)
  |_=>exact absurd (show false=true from hs) ae0
 |Nh i=>
  obtain⟨t,rfl⟩:=rx;cases y with
  |Nh j=>obtain⟨t',rfl⟩:=ry;exact PySem.W.eq_bytes (ba I q wM)
  |_=>exact absurd (show false=true from hs) ae0
 |_=>cases y<;>exact absurd (show false=true from hs) ae0
def qh:Eu X (compareOp .NotEq) AaI:=by
 intro pins s σ H x y v u Q I rx ry h;obtain⟨hs,q⟩:=h;cases x with
 |BM=>
  cases rx;cases y with
  |BM=>cases ry;exact PySem.EqNone.ne_none_none (ba I q (by simp))
  |bl j=>cases ry;exact PySem.EqNone.ne_none_bool (ba I q (by simp))
  |int j=>obtain⟨t',rfl⟩:=ry;exact PySem.EqNone.ne_none_int (ba I q (by simp))
  |str j=>obtain⟨t',rfl⟩:=ry;exact PySem.EqNone.ne_none_str (ba I q (by simp))
  |_=>exact absurd (show false=true from hs) ae0
 |bl i=>
  cases rx;cases y with
  |BM=>cases ry;exact PySem.EqNone.ne_bool_none (ba I q (by simp))
  |bl j=>cases ry;exact ne_bool (ba I q (congrArg not aaD))
  |str j=>obtain⟨t',rfl⟩:=ry;exact PySem.EqMixed.ne_bool_str (ba I q (by simp))
  |_=>exact absurd (show false=true from hs) ae0
 |int i=>
  obtain⟨t,rfl⟩:=rx;cases y with
  |BM=>cases ry;exact PySem.EqNone.ne_int_none (ba I q (by simp))
  |int j=>obtain⟨t',rfl⟩:=ry;exact ne_int (ba I q (congrArg not wL))
  |str j=>obtain⟨t',rfl⟩:=ry;exact PySem.EqMixed.ne_int_str (ba I q (by simp))
  |_=>exact absurd (show false=true from hs) ae0
 |str i=>
  obtain⟨t,rfl⟩:=rx;cases y with
  |BM=>cases ry;exact PySem.EqNone.ne_str_none (ba I q (by simp))
  |bl j=>cases ry;exact PySem.EqMixed.ne_str_bool (ba I q (by simp))
  |int j=>obtain⟨t',rfl⟩:=ry;exact PySem.EqMixed.ne_str_int (ba I q (by simp))
  |str j=>obtain⟨t',rfl⟩:=ry;exact ne_str (ba I q (congrArg not wK))
  |_=>exact absurd (show false=true from hs) ae0
 |Nh i=>
  obtain⟨t,rfl⟩:=rx;cases y with
  |Nh j=>obtain⟨t',rfl⟩:=ry;exact PySem.W.ne_bytes (ba I q (congrArg not wM))
  |_=>exact absurd (show false=true from hs) ae0
 |_=>cases y<;>exact absurd (show false=true from hs) ae0
def nv:Eu X (compareOp .Lt) (R4 λi j=>.bl (decide (i<j))):=abD λ_ _ _ _ _ _ _ q=>lt_int q
def gb:Eu X (compareOp .LtE) (R4 λi j=>.bl (decide (i<=j))):=abD λ_ _ _ _ _ _ _ q=>le_int q
def jf:Eu X (compareOp .Gt) (R4 λi j=>.bl (decide (j<i))):=abD λ_ _ _ _ _ _ _ q=>gt_int q
def acq:Eu X (compareOp .GtE) (R4 λi j=>.bl (decide (j<=i))):=abD λ_ _ _ _ _ _ _ q=>ge_int q
def adb:Eu X (compareOp .Is) (λx y H Q=>y= .BM/\Q (.bl (decide (x= .BM))) H):=by
 rintro pins s σ H x y v u Q I rx ry ⟨rfl,q⟩;cases ry;refine is_none_gen (ba I q ?_);cases x<;>first
  |(rfl)
  |(obtain⟨t,rfl⟩:=rx;rfl)
def Eu.or(h:Eu X f r)(h':Eu X f r'):Eu X f (λx y H Q=>r x y H Q\/r' x y H Q):=by
 intro pins s σ H x y v u Q I rx ry q;rcases q with q|q;·exact h pins s σ H x y v u Q I rx ry q
 ·exact h' pins s σ H x y v u Q I rx ry q
def aJ(b:Expr)(h:op≠.In:=by decide)(h2:op≠.NotIn:=by decide):behindInMarks op b=false:=by
 have e1:(op==CmpOp.In)=false:=by grind
 have e2:(op==CmpOp.NotIn)=false:=by grind
 cases b<;>simp[behindInMarks,e1,e2]
def aby(ho:Eu X (compareOp op) r)(ha:PE X a ta)(hb:PE X b tb)(hm:behindInMarks op b=false):PE X (.Compare a [op] [b] pos) (X0 r ta tb):=by intro pins s σ H Q I h;exact wpAny_Compare1 (ad2 ha hb I h λv u s2 x y H2 I2 rx ry q=>ho pins s2 σ H2 x y v u Q I2 rx ry q) hm
def Tv(t:TE):TT:=λσ H Q=>t σ H λx H'=>∃k,x= .bl k/\Q k H'
def abi(ho:Eu X (compareOp op) r)(ha:PE X a ta)(hb:PE X b tb)(hm:behindInMarks op b=false):PT X (.Compare a [op] [b] pos) (Tv (X0 r ta tb)):=by
 intro pins s σ H Q I h;refine wpAny_isTrue_Compare1 (c7 (ha pins s σ H _ I h) λv s1 x H1 I1 r1 q1=>c7 (hb pins s1 σ H1 _ I1 q1) λu s2 y H2 I2 r2 q2=>
  c7 (ho pins s2 σ H2 x y v u _ I2 r1 r2 q2) λc s3 z H3 I3 r3 q=>?_) hm;obtain⟨k,e,q3⟩:=q;subst e;cases r3;exact wpAny_truthy_bool ⟨H3,I3,q3⟩
def Lz(r r':R2)(ta tb tc:TE):TE:=λσ H Q=>ta σ H λx H1=>tb σ H1 λy H2=>r x y H2 λz H3=>∃k,z= .bl k/\
 (if k=true then tc σ H3 λw' H4=>r' y w' H4 Q else Q (.bl false) H3)
def zB(ho:Eu X (compareOp op) r)(HQ:Eu X (compareOp QZ) r')(ha:PE X a ta)(hb:PE X b tb)(hc:PE X c tc)
  (hm:lastMarks [op,QZ] [b,c]=false:=by with_unfolding_all rfl):PE X (.Compare a [op,QZ] [b,c] pos) (Lz r r' ta tb tc):=by
 intro pins s σ H Q I h;refine Compare_chain (c7 (ha pins s σ H _ I h) λv s1 x H1 I1 r1 q1=>chain_link (c7 (hb pins s1 σ H1 _ I1 q1) λu s2 y H2 I2 r2 q2=>
  c7 (ho pins s2 σ H2 x y v u _ I2 r1 r2 q2) λd s3 z H3 I3 r3 q=>?_)) hm;obtain⟨k,e,q3⟩:=q;subst e;cases r3;refine wpAny_truthy_bool ?_;cases k with
 |false=>exact ite_ff ⟨.bl false,H3,I3,RR,q3⟩
 |true=>exact ite_tt (chain_last (c7 (hc pins s3 σ H3 _ I3 q3) λw' s4 z' H4 I4 r4 q4=>HQ pins s4 σ H4 y z' u w' Q I4 r2 r4 q4))
def zh(ho:Eu X (compareOp op) r)(HQ:Eu X (compareOp QZ) r')(ha:PE X a ta)(hb:PE X b tb)(hc:PE X c tc)
  (hm:lastMarks [op,QZ] [b,c]=false:=by with_unfolding_all rfl):PT X (.Compare a [op,QZ] [b,c] pos) (Tv (Lz r r' ta tb tc)):=by
 intro pins s σ H Q I h;refine isTrue_chain (c7 (ha pins s σ H _ I h) λv s1 x H1 I1 r1 q1=>test_link (c7 (hb pins s1 σ H1 _ I1 q1) λu s2 y H2 I2 r2 q2=>
  c7 (ho pins s2 σ H2 x y v u _ I2 r1 r2 q2) λd s3 z H3 I3 r3 q=>?_)) hm;obtain⟨k,e,q3⟩:=q;subst e;cases r3;refine wpAny_truthy_bool ?_;cases k with
 |false=>obtain⟨k',e',q'⟩:=q3;cases e';exact ite_ff ⟨H3,I3,q'⟩
 |true=>refine ite_tt (test_last (c7 (hc pins s3 σ H3 _ I3 q3) λw' s4 z' H4 I4 r4 q4=>c7 (HQ pins s4 σ H4 y z' u w' _ I4 r2 r4 q4) λd' s5 z2 H5 I5 r5 q=>?_));obtain⟨k2,e2,q5⟩:=q;subst e2;cases r5;exact wpAny_truthy_bool ⟨H5,I5,q5⟩
def nH:(sizeLine:Nat)<2^63:=by decide
def vals1(r:Vals [x] us):∃u,us=[u]/\RelV x u:=by
 cases r with
 |cons r1 r2=>cases r2;exact⟨_,RR,r1⟩
def vals2(r:Vals [x,y] us):(Au λu w'=>Av (us=[u,w']) (RelV x u) (RelV y w')):=by
 cases r with
 |cons r1 r2=>
  cases r2 with
  |cons r3 r4=>cases r4;exact⟨_,_,RR,r1,r3⟩
def kJ:Cc X (.builtin "abs") (λxs H Q=>∃i,xs=[.int i]/\Q (.int (if i<0 then -i else i)) H):=by rintro pins s σ H xs us Q I r ⟨i,rfl,q⟩;obtain⟨u,rfl,t,rfl⟩:=vals1 r;exact call_abs_int λu tk=>⟨.int (if i<0 then -i else i),H,I.tok _,⟨_,RR⟩,q⟩
structure Ol(h:Heap)(x dx C:Addr)(mA:B3):Prop where
 obj:h.get? x=some (instObj C dx)
 ns:h.Ns1 dx mA
 ne:dx≠x
def xW{h:Heap}(n:h.Ns1 dx mA):∃od,h.get? dx=some od/\∀name,lookIn name od=some (mA name):=by
 obtain⟨o,es,ep,ho,hd,hk,_,hm⟩:=n;refine⟨o,ho,λname=>?_⟩;have e:=hm name;unfold nsFind findBy at e;rw[<-Array.find?_toList]at e;unfold lookIn;rw[hd];dsimp only;split;·rename_i y q;rw[q]at e;exact congrArg some e
 ·rename_i q;rw[q]at e;have a:es.toList.any (·.refKey)=false:=by rw[ahr];intro y hy;obtain⟨z,t,Ro⟩:=hk y (Array.mem_toList_iff.mp hy);simp[DictEntry.refKey,Ro]
  have a':¬es.toList.any (·.refKey)=true:=by rw[a];exact ae0
  rw[if_neg a'];exact congrArg some e
def Ol.look(I:Ol h x dx C mA):∃od,PySem.W.InstAt h x (instObj C dx) C (some od)/\∀name,lookIn name od=some (mA name):=
 let⟨od,ho,hl⟩:=xW I.ns
 ⟨od,⟨I.obj,RR,RR,ho⟩,hl⟩
def get_map(X:kK.In s.heap)(I:Ol s.heap x dx C mA)(hg:PySem.W.plainGet kK C name=true)(hh:PySem.W.hasDictIn kK C=true)
  (ha:PySem.W.findIn kK (.ref C) name=some none)(hv:mA name=some v)(Ob:handedIn v=true)(h:Q v {s with toks:=s.toks+1}):
  wpAny (model prog w) A (getAttr (.ref x) name expr) Q E s:=by obtain⟨od,J,hl⟩:=I.look;exact PySem.W.get_value X J (plainGet_of hg).1 (PySem.W.findObj_own hh ha RR (by rw[hl,hv])) Ob h
def aac(X:kK.In s.heap)(I:Ol s.heap x dx C mA)(hg:PySem.W.plainGet kK C name=true)
  (hf:PySem.W.findIn kK (.ref C) name=some (some (.ref f)))(ht:PySem.W.isFn kK (.ref f)=true)(hv:mA name=none)(h:Q (.ref f,[.ref x]) s):
  wpAny (model prog w) A (getMethod (.ref x) name pl) Q E s:=by obtain⟨od,J,hl⟩:=I.look;exact PySem.W.method_fn X J (plainGet_of hg).1 (plainGet_of hg).2 hf (beq_iff_eq.mp ht) (by show(lookIn name od).map (·.isSome)=some false;rw[hl,hv];rfl) h
def aba(X:kK.In s.heap)(I:Ol s.heap x dx C mA)
  (hs:PySem.W.findIn kK (.ref C) "__setattr__" =some (some (.builtin "object.__setattr__")))(hp:PySem.W.plainOver kK C=true)(ht:takerIn kK C name=some none)(hh:PySem.W.hasDictIn kK C=true)
  (hw:PySem.Within mA ns)(hsz:ns.length<=sizeLine)
  (h:∀h',Ol h' x dx C (λy=>if y=name then some v else mA y)->Heap.SameBut dx s.heap h'->Q () {s with heap:=h',toks:=s.toks+2}):
  wpAny (model prog w) A (setAttr (.ref x) name v) Q E s:=by obtain⟨od,J,hl⟩:=I.look;refine PySem.W.set_plain X J hs (PySem.W.osa_open (s:={s with toks:=s.toks+1}) (r:=none) X J hp ht λb=>?_);obtain⟨cd,hc,Xf⟩:=PySem.W.any_some hh;have hx:s.heap.get? x=some ⟨.ref C,some dx,.plain,#[]⟩:=I.obj;refine wpAny_bind (wpAny_pure (wpAny_bind (wpAny_bind (wpAny_loadPart hx (wpAny_bind (PySem.W.Looks.here (s:={s with toks:=s.toks+1}) (PySem.W.looks_clsIn X hc) ?_))))));rw[Xf];refine wpAny_pure (a:=some dx) (wpAny_bind (wpAny_pure (wpAny_bind ?_)));refine wpAny_nsSet1 (s:={s with toks:=s.toks+1}) I.ns λh' hn2 OI=>?_;obtain⟨oD,esD,epD,hoD,hdD,hcD⟩:=hn2.count (PySem.Within.cons name v hw);refine wpAny_bind (wpAny_lookBehind hoD (by rw[hdD];exact pastItsLine_dict (afe hcD (by rw[afG];omega))) ?_);exact wpAny_pure (h _ ⟨(OI.2 _ (afA I.ne)).trans I.obj,hn2,I.ne⟩ OI)
def zR{s:Shared}(X:kK.In s.heap)(hm:PySem.W.makesIn kK C=true)
  (hi:PySem.W.findIn kK (.ref C) "__init__" =some (some (.ref f)))(hf:PySem.W.typeIn kK (.ref f)=some (.type "function"))
  (h:codeAny (model prog w) (A.under (.builtin "type.__call__" ⟨.ref C::vs,kw⟩)) (.call (.ref f) ⟨.ref (s.hz+1)::vs,kw⟩) (PySem.W.InitBack (s.hz+1) R)
   {s with heap:=(s.heap.push emptyDict).push (instObj C s.hz)}):
  codeAny (model prog w) A (.call (.ref C) ⟨vs,kw⟩) R s:=PySem.W.make_core (PySem.W.makes_of X hm) (PySem.W.looks_findIn X hi) (λself=>PySem.W.bind_fn X self hf) (.inl RR) h
def AO(f:Str)(v:V):List (Str×V)->List (Str×V)
 |[]=>[(f,v)]
 |(g,x)::r=>if g=f then(g,v)::r else(g,x)::AO f v r
def l_(f g:Str)(v:V):∀fs:List (Str×V),(AO f v fs).lookup g=if g=f then some v else fs.lookup g
 |[]=>by show List.lookup g [(f,v)]=_;grind
 |(k,x)::r=>by have ih:=l_ f g v r;rw[show AO f v ((k,x)::r)=(if k=f then(k,v)::r else(k,x)::AO f v r)from rfl];grind
def lh(f:Str)(v:V):∀fs:List (Str×V),f∈(AO f v fs).map (·.1)/\∀g,g∈fs.map (·.1)->g∈(AO f v fs).map (·.1)
 |[]=>⟨by simp[AO],λg h=>by simp at h⟩
 |(k,x)::r=>by obtain⟨i1,i2⟩:=lh f v r;rw[show AO f v ((k,x)::r)=(if k=f then(k,v)::r else(k,x)::AO f v r)from rfl];grind
def me(f:Str)(v:V):∀fs:List (Str×V),(AO f v fs).length<=fs.length+1
 |[]=>by simp[AO]
 |(k,x)::r=>by have ih:=me f v r;rw[show AO f v ((k,x)::r)=(if k=f then(k,v)::r else(k,x)::AO f v r)from rfl];grind
def FV.some_of(r:FV (some v) o):∃u,o=some u/\RelV v u:=by
 cases o with
 |none=>exact(r).elim
 |some u=>exact⟨u,RR,r⟩
def FV.none_of(r:FV none o):o=none:=by
 cases o with
 |none=>rfl
 |some u=>exact(r).elim
def yf(r:RelV v u):handedIn u=true:=by
 cases v with
 |BM=>cases(r);rfl
 |bl b=>cases(r);rfl
 |int i=>obtain⟨t,e⟩:=(r);cases e;rfl
 |str x=>obtain⟨t,e⟩:=(r);cases e;rfl
 |Nh b=>obtain⟨t,e⟩:=(r);cases e;rfl
 |VY b=>obtain⟨t,e⟩:=(r);cases e;rfl
 |ref a=>cases(r);rfl
 |ty n=>cases(r);rfl
def rA(AU:Fs P w H h)(e:H a=some (.ins C dx fs)):(∃mA,B9 (Ol h a dx C mA) ((∀f,FV (fs.lookup f) (mA f))) (PySem.Within mA (fs.map (·.1))) (fs.length<=1000) (H dx=some (.own a))):=by obtain⟨d,z,ne,ob,mA,n,r,q⟩:=(AU a _ e);exact⟨mA,⟨ob,n,ne⟩,r,q,z,d⟩
def Jp.get(c:Jp kK C)(f:Str):PySem.W.plainGet kK C f=true:=c.pg
def AR.aea(n:AR kK C f):takerIn kK C f=some none:=by unfold takerIn;rw[n];rfl
structure Con(K:Frag)(C:Addr)(f:Str)(v:V)(u:Value):Prop where
 at_:PySem.W.findIn K (.ref C) f=some (some u)
 rel:RelV v u
 get:specialIn K u "__get__" =some none
 cp:PySem.W.copiedNames.contains f=false
def nQ{σ:St}(I:Inv X pins σ H s)(e:H a=some (.ins C dx fs))(c:Jp X.K C)(n:AR X.K C f)(l:fs.lookup f=some v)
  (h:∀u s',Inv X pins σ H s'->RelV v u->Q u s'):wpAny (model X.prog X.w) A (getAttr (.ref a) f b) Q E s:=by obtain⟨mA,O,r,_⟩:=rA I.AU e;obtain⟨u,hu,ru⟩:=FV.some_of (by rw[<-l];exact r f);exact get_map I.rq O (c.get f) c.hd n hu (yf ru) (h u _ (I.tok _) ru)
def jx{σ:St}(I:Inv X pins σ H s)(e:H a=some (.ins C dx fs))(c:Jp X.K C)(k:Meth X.K C m g)(l:fs.lookup m=none)
  (h:Q (.ref g,[.ref a]) s):wpAny (model X.prog X.w) A (getMethod (.ref a) m pl) Q E s:=by obtain⟨mA,O,r,_⟩:=rA I.AU e;have hn:=FV.none_of (by rw[<-l];exact r m);exact aac I.rq O (c.get m) k.at_ k.fn hn h
def m_{σ:St}(I:Inv X pins σ H s)(e:H a=some (.ins C dx fs))(c:Jp X.K C)(n:AR X.K C f)(hl:fs.length<1000)(ry:RelV y u)
  (h:∀s',Inv X pins σ (upd H a (.ins C dx (AO f y fs))) s'->Q () s'):wpAny (model X.prog X.w) A (setAttr (.ref a) f u) Q E s:=by
 obtain⟨mA,O,r,wi,_,ho⟩:=rA I.AU e;have hz:(fs.map (·.1)).length<=sizeLine:=by rw[ae1,sizeLine_eq];omega
 refine aba I.rq O c.sa c.po n.aea c.hd wi hz λh' O' sb=>h _ ?_;have hd:∃o,h'.get? dx=some o:=let⟨o,_,_,e',_⟩:=O'.ns;⟨o,e'⟩;refine I.write (x:=a) (e:=dx) (by rw[e];exact True.intro) (.inr ho) (λb q hb z=>(sb.2 b hb).trans z) hd ?_;refine⟨by rw[ai O.ne];exact ho,?_,O.ne,O'.obj,_,O'.ns,λg=>?_,λg hg=>?_⟩;·have:=me f y fs;omega
 ·rw[l_];by_cases q:g=f;·rw[if_pos q,if_pos q];exact ry
  ·rw[if_neg q,if_neg q];exact r g
 ·by_cases q:g=f;·rw[q];exact(lh f y fs).1
  ·refine(lh f y fs).2 g (wi g λz=>hg ?_);show(if g=f then some u else mA g)=none;rw[if_neg q];exact z
def Inv.made{σ:St}(I:Inv X pins σ H s):Inv X pins σ (upd (upd H s.hz (.own (s.hz+1))) (s.hz+1) (.ins C s.hz []))
  {s with heap:=(s.heap.push emptyDict).push (instObj C s.hz)}:=by
 have e1:(s.heap.push emptyDict).get? s.hz=some emptyDict:=ae4 s.heap RR;have e2:((s.heap.push emptyDict).push (instObj C s.hz)).get? (s.hz+1)=some (instObj C s.hz):=by have:=ae4 (s.heap.push emptyDict) (o:=instObj C s.hz) RR;rwa[afv]at this
 have e3:(s.heap.push emptyDict).Ns s.hz (λ_=>none):=⟨emptyDict,#[],_,e1,RR,(λe he=>absurd he (by simp)),λ_=>rfl⟩;have I1:=I.laid (a:=s.hz) (o:=.own (s.hz+1)) (t':=s.toks) (λb u q=>adx _ q) (ae8 _) ⟨_,e1⟩;refine I1.laid (t':=s.toks) (λb u q=>adx _ q) (ahc (afv _ _)) ?_;have ne:s.hz≠s.hz+1:=afo (agb _);refine⟨by rw[ai ne,ae],afk _,ne,e2,λ_=>none,(Heap.Ns1.of_empty e3).at λo q=>adx _ q,λ_=>True.intro,λy hy=>absurd RR hy⟩
def ach(hb:attributeBase e f env (eval e env)=eval e env)
  (h:wpAny (model prog w) A (eval e env) (λo s₁=>wpAny (model prog w) A (getAttr o f true) Q E s₁) E s):wpAny (model prog w) A (eval (.Attribute e f pos) env) Q E s:=
 Attribute_any_ h (by rw[arm_eval_Attribute,hb])
def YS(K:Frag)(ta:TE)(f:Str):TE:=λσ H Q=>ta σ H λx H1=>(FX λa C dx fs v=>Dn (x= .ref a) (H1 a=some (.ins C dx fs)) (Jp K C) (AR K C f) (fs.lookup f=some v) (Q v H1))
def Y6(K:Frag)(ta tv:TE)(f:Str):TS:=λD σ H=>tv σ H λy H1=>ta σ H1 λx H2=>(CO λa C dx fs=>Dn (x= .ref a) (H2 a=some (.ins C dx fs)) (Jp K C) (AR K C f) (fs.length<1000) (D.nx σ (upd H2 a (.ins C dx (AO f y fs)))))
def Vz(X:Cx)(op:Operator)(rd:V->V->Hp->VK->Prop):Prop:=
 ∀(pins:Bc)(s:Shared)(σ:St)(H:Hp)(x y:V)(u v:Value)(Q:VK),Inv X pins σ H s->RelV x u->RelV y v->rd x y H Q->CF X (inplaceOp op u v) (EP X pins σ Q) X.xe s
def SE(K:Frag)(ta tv:TE)(rd:V->V->Hp->VK->Prop)(f:Str):TS:=λD σ H=>ta σ H λx H1=>(FX λa C dx fs v=>Dn (x= .ref a) (H1 a=some (.ins C dx fs)) (Jp K C) (AR K C f) (fs.lookup f=some v) (tv σ H1 λy H2=>rd v y H2 λz H3=>(Au λNN R_=>Av (H3 a=some (.ins C NN R_)) (R_.length<1000) (D.nx σ (upd H3 a (.ins C NN (AO f z R_)))))))
def ac5(he:PE X e ta)(hb:attributeBase e f X.env (eval e X.env)=eval e X.env):PE X (.Attribute e f pos) (YS X.K ta f):=by intro pins s σ H Q I h;refine ach hb (c7 (he pins s σ H _ I h) λu s1 x H1 I1 rx q=>?_);obtain⟨a,C,dx,fs,v,ex,ea,c,n,l,q⟩:=q;subst ex;obtain rfl:u=Value.ref a:=rx;exact nQ I1 ea c n l λu' s2 I2 ru=>⟨v,H1,I2,ru,q⟩
def acQ(ha:PE X o ta)(hv:PE X value tv)(hs:swapsWith value (some (.Attribute o f pos')) pos.line X.env=pure false):PS X (.Assign [.Attribute o f pos'] value pos) (Y6 X.K ta tv f):=by intro pins s σ H D I h;refine plainObj_wpAny_Assign_Attribute (c7 (hv pins s σ H _ I h) λu s1 y H1 I1 ry q=>c7 (ha pins s1 σ H1 _ I1 q) λov s2 x H2 I2 rx q=>?_) hs;obtain⟨a,C,dx,fs,ex,ea,c,n,l,q2⟩:=q;subst ex;obtain rfl:ov=Value.ref a:=rx;exact m_ I2 ea c n l ry λs3 I3=>⟨σ,_,I3,q2⟩
def xE(ha:PE X o ta)(hv:PE X value tv)(ZZ:Vz X op rd):PS X (.AugAssign (.Attribute o f Fl) op value pos) (SE X.K ta tv rd f):=by intro pins s σ H D I h;refine wpAny_AugAssign_AttributeAny (c7 (ha pins s σ H _ I h) λov s1 x H1 I1 rx q=>?_);obtain⟨a,C,dx,fs,v,ex,ea,c,n,l,q⟩:=q;subst ex;obtain rfl:ov=Value.ref a:=rx;refine nQ I1 ea c n l λu s2 I2 ru=>c7 (hv pins s2 σ H1 _ I2 q) λw3 s3 y H2 I3 ry q3=>c7 (ZZ pins s3 σ H2 v y u w3 _ I3 ru ry q3) λw4 s4 z H3 I4 rz q=>?_;obtain⟨NN,R_,ea',l',q4⟩:=q;exact m_ I4 ea' c n l' rz λs5 I5=>⟨σ,_,I5,q4⟩
def Zj:V->V->Hp->VK->Prop:=λx y H Q=>(Au λi j=>Av (x= .int i) (y= .int j) (Q (.int (i+j)) H))
def zZ:Vz X .Add Zj:=by rintro pins s σ H x y u v Q I rx ry ⟨i,j,rfl,rfl,q⟩;obtain⟨t,rfl⟩:=(rx);obtain⟨t',rfl⟩:=(ry);exact PyProof.Rows.iadd_int ⟨.int (i+j),H,I.tok _,⟨_,RR⟩,q⟩
def acs{σ:St}(he:PE X e te)(I:Inv X pins σ H s)
  (h:te σ H λx H1=>(FX λa C dx fs g=>Dn (x= .ref a) (H1 a=some (.ins C dx fs)) (Jp X.K C) (Meth X.K C m g) (fs.lookup m=none) (∀s1,Inv X pins σ H1 s1->CF X (callWith pos (.ref g) [.ref a] (backTo pos (starEach args X.env)) (backToKw pos (keywordEach [] X.env))) Q X.xe s1)))
  (ht:eval (.Call (.Attribute e m apos) args [] pos) X.env=(do
   let ov<-eval e X.env
   standAt apos.atName
   let(f,first)<-holding [ov] (getMethod ov m pl)
   callWith pos f first (backTo pos (starEach args X.env)) (backToKw pos (keywordEach [] X.env)))):
  CF X (eval (.Call (.Attribute e m apos) args [] pos) X.env) Q X.xe s:=by refine methodCall_KW (c7 (he pins s σ H _ I h) λu s1 x H1 I1 rx q=>?_) ht;obtain⟨a,C,dx,fs,g,ex,ea,c,k,l,q⟩:=q;subst ex;obtain rfl:u=Value.ref a:=rx;exact jx I1 ea c k l (q s1 I1)
variable{H:Hp}in
inductive Ka(K:Frag)(H:Hp):V->Value->Prop where
 |BM:Ka K H .BM (.type "NoneType")
 |bl (x:Bool):Ka K H (.bl x) (.type "bool")
 |int (i:Int):Ka K H (.int i) (.type "int")
 |str (x:Str):Ka K H (.str x) (.type "str")
 |VY (x:UInt64):Ka K H (.VY x) (.type "float")
 |lst {a:Addr}{xs:List V}(e:H a=some (.lst xs)):Ka K H (.ref a) (.type "list")
 |FN {a:Addr}{o:Obj}{xs:List V}(e:H a=some (.FN o (.lst xs))):Ka K H (.ref a) (.type "list")
 |tup {a:Addr}{xs:List V}(e:H a=some (.tup xs)):Ka K H (.ref a) (.type "tuple")
 |dK {a:Addr}{AI:List (Key×V)}(e:H a=some (.dK AI)):Ka K H (.ref a) (.type "dict")
 |dT {a:Addr}{AI:List (List Key×V)}(e:H a=some (.dT AI)):Ka K H (.ref a) (.type "dict")
 |ins {a C dx:Addr}{fs:List (Str×V)}(e:H a=some (.ins C dx fs))(cl:Jp K C)(ha:PySem.W.findIn K (.ref C) "__class__" =some (some (.builtin "object.__class__")))
   (hn:specialIn K (.builtin "object.__class__") "__get__" =some (some (.builtin "getset_descriptor.__get__")))(VQ:PySem.W.takesIn K (.builtin "object.__class__")=some true)
   (hm:PySem.W.mroIn K C (.type "object")=some true):Ka K H (.ref a) (.ref C)
structure Bm(k:Nat)(A:Around):Prop where
 hd:A.handled=none
 dp:A.depth+3*k+5<recursionLimit
 un:A.units+16*k+200<cLine
def Bm.mono(r:Bm k A)(h:j<=k):Bm j A:=⟨r.hd,by have:=r.dp;omega,by have:=r.un;omega⟩
def Bm.deeper(r:Bm (k+1) A)(env:Env):Bm k (A.deeper env):=
 ⟨r.hd,by have:=r.dp;show A.depth+1+3*k+5<_;omega,by have:=r.un;show A.units+3+16*k+200<_;omega⟩
def Bm.in1(r:Bm (k+1) A):Bm k A.in1:=
 ⟨r.hd,by have:=r.dp;grind,by have:=r.un;grind⟩
def uR{A:Around}:(A.under (.builtin "type.__call__" ⟨.ref C::us,kw⟩)).depth=A.depth+1:=rfl
def uQ{A:Around}:(A.under (.builtin "type.__call__" ⟨.ref C::us,kw⟩)).units=A.units+1:=rfl
def Bm.make(r:Bm (k+1) A)(C:Addr)(us:Ay)(kw:List (Str×Value)):Bm k (A.under (.builtin "type.__call__" ⟨.ref C::us,kw⟩)):=
 ⟨r.hd,by have:=r.dp;rw[uR];omega,by have:=r.un;rw[uQ];omega⟩
def Bm.depth(r:Bm k A):A.depth<recursionLimit:=by have:=r.dp;omega
def Bm.units(r:Bm k A):A.units+64<cLine:=by have:=r.un;omega
def Se:TA:=λ_ H Q=>Q [] H
def TF(ta:TE)(tr:TA):TA:=λσ H Q=>ta σ H λx H1=>tr σ H1 λxs H2=>Q (x::xs) H2
def ac8:PA X [] Se:=λ_ _ _ _ H Q I h=>Calls.spliced_nil ⟨[],H,I,.nil,h⟩
def abA(ha:PE X e te)(hr:PA X es t)(hs:Nu X e es:=by rfl):PA X (e::es) (TF te t):=by intro pos pins s σ H Q I h;rw[hs];refine Calls.spliced_cons (c7 (ha pins s σ H _ I h) λu s1 x H1 I1 r1 q1=>?_);exact oW (hr pos pins s1 σ H1 _ I1 q1) λus s2 xs H2 I2 r2 q2=>⟨x::xs,H2,I2,.cons r1 r2,q2⟩
def YL(t:TA):TE:=λσ H Q=>t σ H λxs H1=>xs.length<=sizeLine/\∀p,H1 p=none->Q (.ref p) (upd H1 p (.tup xs))
def YQ(t:TA):TE:=λσ H Q=>t σ H λxs H1=>xs.length<=sizeLine/\∀p,H1 p=none->Q (.ref p) (upd H1 p (.lst xs))
def acY(h:PA X es t):PE X (.Tuple es x1 pos) (YL t):=by intro pins s σ H Q I hq;refine wpAny_Tuple_spliced (iM (h pos pins s σ H _ I hq) λus s1 ⟨xs,H1,I1,r,z,q⟩=>⟨by rw[<-r.length];exact z,?_⟩);have hf:=I1.AU.fresh (ae8 _);refine⟨.ref s1.hz,upd H1 s1.hz (.tup xs),I1.laid (λb u e=>adx _ e) (ae8 _) ?_,RR,q _ hf⟩;exact⟨z,us,r,⟨_,ae4 _ RR,RR,_,RR⟩⟩
def ac3(h:PA X es t):PE X (.List es pos) (YQ t):=by intro pins s σ H Q I hq;refine wpAny_List_spliced (iM (h pos pins s σ H _ I hq) λus s1 ⟨xs,H1,I1,r,z,q⟩=>⟨by rw[<-r.length];exact z,?_⟩);have hf:=I1.AU.fresh (ae8 _);refine⟨.ref s1.hz,upd H1 s1.hz (.lst xs),I1.laid (λb u e=>adx _ e) (ae8 _) ?_,RR,q _ hf⟩;exact⟨z,us,0,r,ae4 _ RR⟩
def Sp:=List V->Hp->VK->XK->Prop
def XM:=List Env->Hp->Shared->XK->Value->Shared->Prop
structure GZ(P:Program)(w:World)(K:Frag)(mg:B3)(base:Heap)(A:Around)(outer:List Env)(s:Shared)(H:Hp):Prop where
 frames:A.frames=some outer
 mod:Mod K mg base
 bs:∀b o,base.get? b=some o->s.heap.get? b=some o/\H b=none
 ON:base.objs.size<=s.hz
 i_:s.heap.FunFrames base outer
 Rz:∀b∈Ry outer,H b=none
 AU:Fs P w H s.heap
 bare:AllBare s.gens
def CE(outer:List Env)(P:Program)(w:World)(H:Hp)(s:Shared)(Q:VK)(u:Value)(s':Shared):Prop:=
 (Au λv H'=>Dn (s'.os=s.os) (AllBare s'.gens) (Un (Ry outer) [] H H' s.heap s'.heap) (Fs P w H' s'.heap) (RelV v u) (Q v H'))
def CR(CX:XM)(outer:List Env)(P:Program)(w:World)(H:Hp)(s:Shared)(Q:VK)(E:XK)(r:Result)(s':Shared):Prop:=
 match r with
 | .ok (.ret u)=>CE outer P w H s Q u s'
 | .ok _=>False
 | .error e=>CX outer H s E e s'
structure E2(P:Program)(w:World)(K:Frag)(mg:B3)(base:Heap)(CX:XM)(k:Nat)(f:Addr)(fd:FuncData)(ps:Ag)(sp:Sp):Prop where
 len:∀vs H Q E,sp vs H Q E->vs.length=ps.length
 run:∀(A:Around)(outer:List Env)(s:Shared)(H:Hp)(args:Args)(us:Ay)(vs:List V)(Q:VK)(E:XK),Bm k A->GZ P w K mg base A outer s H->BindsTo s fd args (ps.zip us)->Vals vs us->sp vs H Q E->
  codeAny (model P w) A (.call (.ref f) args) (CR CX outer P w H s Q E) s
def E2.mono(F:E2 P w kK mg base CX j f fd ps sp)(h:j<=k):
  E2 P w kK mg base CX k f fd ps sp:=⟨F.len,λA outer s H args us vs Q E hr=>F.run A outer s H args us vs Q E (hr.mono h)⟩
def E2.imp(F:E2 P w kK mg base CX k f fd ps sp)
  (h:∀vs H Q E,sp' vs H Q E->sp vs H Q E):E2 P w kK mg base CX k f fd ps sp':=
 ⟨λvs H Q E q=>F.len vs H Q E (h _ _ _ _ q),λA outer s H args us vs Q E hr he hb hv hs=>F.run A outer s H args us vs Q E hr he hb hv (h _ _ _ _ hs)⟩
def GZ.make(e:GZ P w kK mg base A outer s H)(C:Addr)(us:Ay)(kw:List (Str×Value)):
  GZ P w kK mg base (A.under (.builtin "type.__call__" ⟨.ref C::us,kw⟩)) outer s H:=⟨by first|exact e.frames|grind,e.mod,e.bs,e.ON,e.i_,e.Rz,e.AU,e.bare⟩
def GZ.in1(e:GZ P w kK mg base A outer s H):
  GZ P w kK mg base A.in1 outer s H:=⟨e.frames,e.mod,e.bs,e.ON,e.i_,e.Rz,e.AU,e.bare⟩
def Inv.yp{σ:St}(I:Inv X pins σ H s):GZ X.prog X.w X.K X.mg X.base X.A X.stack s H:=
 ⟨I.ok.frames,I.ok.mod,I.bs,afe I.ok.ON I.sz,I.stack,I.vV,I.AU,I.bare⟩
def Inv.after{σ:St}(I:Inv X pins σ H s)(h:CE X.stack X.prog X.w H s Q u s'):EP X pins σ Q u s':=by obtain⟨v,H',os,bare,un,AU,r,q⟩:=h;obtain⟨hh,g,d,t,os'⟩:=s';obtain rfl:os'=s.os:=os;exact⟨v,H',I.call un AU bare (λb z=>absurd z (by simp)),r,q⟩
def Wc(sp:Sp)(KO:List V)(E:XK)(t:TA):TE:=λσ H Q=>t σ H λvs H1=>sp (vs++KO) H1 Q E
def Tz(C:Addr)(m:Str)(sp:Sp)(KO:List V)(E:XK)(ta:TE)(t:TA):TE:=λσ H Q=>ta σ H λx H1=>(BL λa dx fs=>BO (x= .ref a) (H1 a=some (.ins C dx fs)) (fs.lookup m=none) (t σ H1 λvs H2=>sp (x::(vs++KO)) H2 Q E))
def TB(C:Addr)(sp:Sp)(KO:List V)(E:XK)(t:TA):TE:=λσ H Q=>t σ H λvs H1=>∀x dx,H1 x=none->H1 dx=none->dx≠x->
 sp (.ref x::(vs++KO)) (upd (upd H1 dx (.own x)) x (.ins C dx [])) (λv H2=>v= .BM/\Q (.ref x) H2) E
def Binds(K:Frag)(fd:FuncData)(ps:Ag)(ds:Ay):Prop:=
 ∀(s:Shared)(us:Ay),K.In s.heap->(us++ds).length=ps.length->BindsTo s fd ⟨us,[]⟩ (ps.zip (us++ds))
def Binds.all(h:∀us:Ay,us.length=ps.length->bindArgs fd ⟨us,[]⟩=pure (ps.zip us)):Binds kK fd ps []:=λs us _ hl=>by rw[af4]at hl|-;exact .of_eq (h us hl)
def Passes(CX:XM)(X:Cx)(E:XK):Prop:=∀(pins:Bc)(σ:St)(H:Hp)(s:Shared)(e:Value)(s':Shared),Inv X pins σ H s->CX X.stack H s E e s'->X.xe e s'
def qS{σ:St}(F:E2 X.prog X.w X.K X.mg X.base CX k f fd ps sp)(hr:Bm k X.A)(hb:Binds X.K fd ps ds)(hd:Vals KO ds)(hx:Passes CX X E)
  (I:Inv X pins σ H s)(r:Vals vs us)(h:sp (vs++KO) H Q E):CF X (call (.ref f) us) (EP X pins σ Q) X.xe s:=by
 have r2:=r.append hd;have hl:(us++ds).length=ps.length:=by rw[<-r2.length];exact F.len _ _ _ _ h
 refine wpAny_call (codeAny_mono (F.run X.A X.stack s H ⟨us,[]⟩ (us++ds) (vs++KO) Q E hr I.yp (hb s us I.rq hl) r2 h) λr s' hq=>?_);cases r with
 |error e=>exact hx pins σ H s e s' I hq
 |ok fl=>
  cases fl with
  |ret u=>exact I.after hq
  |next=>exact False.elim hq
  |brk=>exact False.elim hq
  |cont=>exact False.elim hq
def abz{p pos:Pos}(F:E2 X.prog X.w X.K X.mg X.base CX k f fd ps sp)(hr:Bm k X.A)(hg:Gl X x)(hm:X.mg x=some (.ref f))(hk:PySem.W.keepIn X.K (.ref f)=true)(hb:Binds X.K fd ps ds)(hd:Vals KO ds)(hx:Passes CX X E)
  (ha:PA X (e::es) t)(Ja:GY x:=by decide)(he:Nu X e es:=by rfl)(B8:Om X pos es:=by rfl):
  PE X (.Call (.Name x p) (e::es) [] pos) (Wc sp KO E t):=by intro pins s σ H Q I h;refine wpAny_Call_Name_kw (j_ I hg hm ?_ Ja);refine callWith_K I.ok.mod.TX hk (oW (ha pos pins s σ H _ I h) λus s1 vs H1 I1 r q=>⟨I1.rq,?_⟩) he B8;exact qS F hr hb hd hx I1 r q
def abu{pos apos:Pos}{pl:Sem Bool}(he:PE X o ta)(c:Jp X.K C)(hm:Meth X.K C m f)(F:E2 X.prog X.w X.K X.mg X.base CX k f fd ps sp)(hr:Bm k X.A)(hb:Binds X.K fd ps ds)(hd:Vals KO ds)(hx:Passes CX X E)(ha:PA X (e::es) t)
  (WZ:Nu X e es:=by rfl)(B8:Om X pos es:=by rfl)
  (ht:eval (.Call (.Attribute o m apos) (e::es) [] pos) X.env=(do
   let ov<-eval o X.env
   standAt apos.atName
   let(f,first)<-holding [ov] (getMethod ov m pl)
   callWith pos f first (backTo pos (starEach (e::es) X.env)) (backToKw pos (keywordEach [] X.env))):=by rfl):
  PE X (.Call (.Attribute o m apos) (e::es) [] pos) (Tz C m sp KO E ta t):=by intro pins s σ H Q I h;refine methodCall_KW (pl:=pl) (c7 (he pins s σ H _ I h) λu s1 x H1 I1 rx q=>?_) ht;obtain⟨a,dx,fs,ex,ea,l,q⟩:=q;subst ex;obtain rfl:u=Value.ref a:=rx;refine jx I1 ea c hm l ?_;refine callWith_K (first:=[.ref a]) (h₀:=X.base) I.ok.mod.TX hm.kp (oW (ha pos pins s1 σ H1 _ I1 q) λus s2 vs H2 I2 r q2=>⟨I2.rq,?_⟩) WZ B8;exact qS (vs:=.ref a::vs) F hr hb hd hx I2 (.cons RR r) q2
def zw(he:PE X o ta)(c:Jp X.K C)(hm:Meth X.K C m f)(F:E2 X.prog X.w X.K X.mg X.base CX k f fd ps sp)(hr:Bm k X.A)(hb:Binds X.K fd ps ds)(hd:Vals KO ds)(hx:Passes CX X E)
  (ht:eval (.Call (.Attribute o m apos) [] [] pos) X.env=(do
   let ov<-eval o X.env
   standAt apos.atName
   let(f,first)<-holding [ov] (getMethod ov m pl)
   callWith pos f first (backTo pos (starEach [] X.env)) (backToKw pos (keywordEach [] X.env))):=by rfl):
  PE X (.Call (.Attribute o m apos) [] [] pos) (Tz C m sp KO E ta Se):=by intro pins s σ H Q I h;refine methodCall_KW (pl:=pl) (c7 (he pins s σ H _ I h) λu s1 x H1 I1 rx q=>?_) ht;obtain⟨a,dx,fs,ex,ea,l,q⟩:=q;subst ex;obtain rfl:u=Value.ref a:=rx;refine jx I1 ea c hm l ?_;exact callWith_K0 I1.rq hm.kp (qS (us:=[.ref a]) (vs:=[.ref a]) F hr hb hd hx I1 (.cons RR .nil) q)
def sM{σ:St}(M:Mk X.K C f)(F:E2 X.prog X.w X.K X.mg X.base CX k f fd ps sp)(hr:Bm (k+1) X.A)(hb:Binds X.K fd ps ds)(hd:Vals KO ds)
  (hx:Passes CX X E)(I:Inv X pins σ H s)(r:Vals vs us)
  (h:∀x dx,H x=none->H dx=none->dx≠x->sp (.ref x::(vs++KO)) (upd (upd H dx (.own x)) x (.ins C dx [])) (λv H2=>v= .BM/\Q (.ref x) H2) E):
  CF X (call (.ref C) us) (EP X pins σ Q) X.xe s:=by
 have hq:=h (s.hz+1) s.hz (I.AU.fresh (Nat.le_succ _)) (I.AU.fresh (ae8 _)) (afo (agb _));have I2:=Inv.made (C:=C) I;have r2:Vals (V.ref (s.hz+1)::(vs++KO)) (Value.ref (s.hz+1)::(us++ds)):=.cons RR (r.append hd);have hl:(Value.ref (s.hz+1)::us++ds).length=ps.length:=by have e:=r2.length;rw[F.len _ _ _ _ hq]at e;exact e.symm
 refine wpAny_call (zR I.rq M.makes M.init (beq_iff_eq.mp M.fn) (codeAny_mono (F.run _ X.stack _ _ ⟨Value.ref (s.hz+1)::us,[]⟩ (Value.ref (s.hz+1)::(us++ds)) _ _ E (hr.make C us [])
  (I2.yp.make C us []) (hb _ (Value.ref (s.hz+1)::us) I2.rq hl) r2 hq) λr s' T5=>?_));cases r with
 |error e=>exact hx pins σ _ _ e s' I2 T5
 |ok fl=>
  cases fl with
  |ret u=>obtain⟨v,H',I3,rv,ev,q3⟩:=I2.after T5;subst ev;exact⟨rv,⟨V.ref (s.hz+1),H',I3,RR,q3⟩⟩
  |next=>exact False.elim T5
  |brk=>exact False.elim T5
  |cont=>exact False.elim T5
def abv{p pos:Pos}(M:Mk X.K C f)(F:E2 X.prog X.w X.K X.mg X.base CX k f fd ps sp)(hr:Bm (k+1) X.A)(hg:Gl X x)(hm:X.mg x=some (.ref C))(hb:Binds X.K fd ps ds)(hd:Vals KO ds)(hx:Passes CX X E)
  (ha:PA X (e::es) t)(Ja:GY x:=by decide)(he:Nu X e es:=by rfl)(B8:Om X pos es:=by rfl):
  PE X (.Call (.Name x p) (e::es) [] pos) (TB C sp KO E t):=by intro pins s σ H Q I h;refine wpAny_Call_Name_kw (j_ I hg hm ?_ Ja);refine callWith_K I.ok.mod.TX M.kp (oW (ha pos pins s σ H _ I h) λus s1 vs H1 I1 r q=>⟨I1.rq,?_⟩) he B8;exact sM M F hr hb hd hx I1 r q
def zx(M:Mk X.K C f)(F:E2 X.prog X.w X.K X.mg X.base CX k f fd ps sp)(hr:Bm (k+1) X.A)(hg:Gl X x)(hm:X.mg x=some (.ref C))(hb:Binds X.K fd ps ds)(hd:Vals KO ds)(hx:Passes CX X E)
  (Ja:GY x:=by decide):PE X (.Call (.Name x p) [] [] pos) (TB C sp KO E Se):=by intro pins s σ H Q I h;refine wpAny_Call_Name_kw (j_ I hg hm ?_ Ja);exact callWith_K0 I.rq M.kp (sM M F hr hb hd hx I .nil h)
def PK(X:Cx)(Zy:List Keyword)(t:TA):Prop:=
 ∀(pos:Pos)(pins:Bc)(s:Shared)(σ:St)(H:Hp)(Q:List V->Hp->Prop),Inv X pins σ H s->t σ H Q->CF X (evalAll ((backToKw pos (keywordEach Zy X.env)).map (·.2))) (AP X pins σ Q) X.xe s
def zt:PK X [] Se:=λ_ _ _ _ H Q I h=>wpAny_evalAll_nil ⟨[],H,I,.nil,h⟩
def wb(ha:PE X e te)(hr:PK X Zy t):PK X (⟨nm,e,kpos⟩::Zy) (TF te t):=by intro pos pins s σ H Q I h;refine wpAny_evalAll_cons (wpAny_bind (c7 (ha pins s σ H _ I h) λu s1 x H1 I1 r1 q1=>wpAny_bind (wpAny_standAt (wpAny_pure ?_))));exact oW (hr pos pins s1 σ H1 _ I1 q1) λus s2 xs H2 I2 r2 q2=>⟨x::xs,H2,I2,.cons r1 r2,q2⟩
variable{fd:FuncData}{ps ks:Ag}in
structure Aau(K:Frag)(fd:FuncData)(ps ks:Ag)(g:Ay->Ay->Ay)(gV:List V->List V->List V):Prop where
 to:∀(s:Shared)(us ws:Ay),K.In s.heap->(g us ws).length=ps.length->BindsTo s fd ⟨us,ks.zip ws⟩ (ps.zip (g us ws))
 rel:∀{vs:List V}{us:Ay}{zs:List V}{ws:Ay},Vals vs us->Vals zs ws->Vals (gV vs zs) (g us ws)
structure C0(N P:Ag)(sc:Scope):Prop where
 kind:sc.kind= .function
 co:sc.isCoroutine=false
 gen:sc.isGenerator=false
 nd:N.Nodup
 pre:N.take P.length=P
 par:∀x∈P,sc.names.lookup x=some .local\/sc.names.lookup x=some .cell
 UO:∀y∈sc.names,y.2≠.free
def qC{kindOf:Str->Option NameKind}:∀{binds:List (Str×Value)}{m:B3},(∀v,(x,v)∉binds)->bindL kindOf binds m x=m x
 |[],_,_=>rfl
 |(n,v)::r,m,h=>by
  unfold bindL;rw[qC λw hw=>h w (ae6 _ hw)];split;·grind
  ·rfl
def qE{kindOf:Str->Option NameKind}:∀{binds:List (Str×Value)}{m:B3},(∀v,(x,v)∉binds)->bindC kindOf binds m x=m x
 |[],_,_=>rfl
 |(n,v)::r,m,h=>by
  unfold bindC;rw[qE λw hw=>h w (ae6 _ hw)];split;·rfl
  grind
def qD{kindOf:Str->Option NameKind}:∀{P:Ag}{vs:Ay}{i:Nat}{m:B3},P.Nodup->P[i]? =some x->vs[i]? =some v->kindOf x=some .local->
  bindL kindOf (P.zip vs) m x=some v
 |[],_,_,_,_,h,_,_=>by simp at h
 |_::_,[],_,_,_,_,h,_=>by simp at h
 |p::P,w::vs,0,m,nd,h1,h2,hk=>by simp at h1 h2;subst h1;subst h2;show bindL kindOf ((p,w)::P.zip vs) m p=_;unfold bindL;rw[qC λv hv=>(afN.mp nd).1 (agn hv).1,if_pos hk];simp
 |p::P,w::vs,i+1,m,nd,h1,h2,hk=>by unfold bindL;exact qD (afN.mp nd).2 (by simpa using h1) (by simpa using h2) hk
def qF{kindOf:Str->Option NameKind}:∀{P:Ag}{vs:Ay}{i:Nat}{m:B3},P.Nodup->P[i]? =some x->vs[i]? =some v->kindOf x≠some .local->
  bindC kindOf (P.zip vs) m x=some v
 |[],_,_,_,_,h,_,_=>by simp at h
 |_::_,[],_,_,_,_,h,_=>by simp at h
 |p::P,w::vs,0,m,nd,h1,h2,hk=>by simp at h1 h2;subst h1;subst h2;show bindC kindOf ((p,w)::P.zip vs) m p=_;unfold bindC;rw[qE λv hv=>(afN.mp nd).1 (agn hv).1,if_neg hk];simp
 |p::P,w::vs,i+1,m,nd,h1,h2,hk=>by unfold bindC;exact qF (afN.mp nd).2 (by simpa using h1) (by simpa using h2) hk
noncomputable def start(N:Ag)(vs:List V):St:=vs.map some++List.replicate (N.length-vs.length) none
def JV(CX:XM)(P:Program)(w:World)(K:Frag)(mg:B3)(base:Heap)(N:Ag)(qual:Str)(scope:Scope)(f:Addr)(cd:Value)(A:Around)(outer:List Env)(s:Shared)(H:Hp)(E:XK):Cx where
 prog:=P
 w:=w
 K:=K
 mg:=mg
 base:=base
 A:=A.deeper (envOfC qual scope s.hz f cd)
 N:=N
 Kf:=s
 VA:=H
 env:=envOfC qual scope s.hz f cd
 outer:=outer
 stack:=envOfC qual scope s.hz f cd::outer
 ex:=[]
 calm:=true
 fn:=λ_=>true
 pn:=[]
 xe:=λe s'=>wpAny (model P w) (A.deeper (envOfC qual scope s.hz f cd)) (leaving (envOfC qual scope s.hz f cd) e) (λ_ RZ=>CX outer H s E e RZ) (λe' RZ=>CX outer H s E e' RZ) s'
def ua{sc:Scope}(h:sc.names.lookup x=some .cell):∃c,(cellsFrom n sc.names []).lookup x=some c:=by have q:=cellsFrom_some sc.names n [] (.inl h);exact Option.isSome_iff_exists.mp q
def qr
  (S:C0 N ps scope)(hd:A.handled=none)(e0:GZ P w kK mg base A outer s H)(hl:vs.length=ps.length)(r:Vals vs us)
  (x:InCallC s s.hz (bindL (envOfC qual scope s.hz f cd).kindOf (ps.zip us) λ_=>none) (cellsFrom (s.hz+1) scope.names []) (bindC (envOfC qual scope s.hz f cd).kindOf (ps.zip us) λ_=>none) s1):
  Inv (JV CX P w kK mg base N qual scope f cd A outer s H E) [] (start N vs) H s1:=by
 have B8:ps.length<=N.length:=by have:=congrArg List.length S.pre;rw[afJ]at this;omega
 obtain⟨h1,tk,rfl,hk⟩:=x.done;have UP:∀b:Addr,b∉(JV CX P w kK mg base N qual scope f cd A outer s H E).ex:=λb z=>absurd (show b∈([]:Ax)from z) (by simp);refine⟨⟨e0.mod,S.kind,RR,RR,ae8 _,λy z c h1 h2=>?_,λy hy=>?_,λy c _ h=>?_,λ_=>hd,Around.frames_deeper e0.frames,.inr ⟨RR,RR⟩,λb z=>absurd z (UP b),e0.bs,e0.ON,λb _ _=>UP b,λb z=>absurd z (UP b),e0.i_,e0.Rz⟩,
  RR,e0.bare,Un.kept hk,⟨_,x.toInCall.ns,λi y v h1 h2 h3=>?_⟩,λy c h=>⟨_,x.cell y c h⟩,e0.AU.fresh (ae8 _),λy c h=>?_,λp hp=>absurd (show p∈([]:Bc)from hp) (by simp),e0.AU.kept hk,?_⟩;·exact name_of_addr x.apart (aft h1) (aft h2)
 ·rcases hy with hy|hy;·exact ua hy
  ·exact absurd RR (S.UO _ (aft hy))
 ·exact afS (x.above y c (aft h))
 ·have hi:i<vs.length:=by
   unfold start at h2;by_cases hi:i<vs.length;·exact hi
   ·rw[afx (by simpa using hi)]at h2;rw[List.getElem?_replicate]at h2;split at h2<;>cases h2
  have ha:vs[i]? =some v:=by
   unfold start at h2;rw[afs (by simpa using hi),afc]at h2;cases e:vs[i]? with
   |none=>rw[e]at h2;cases h2
   |some a=>rw[e]at h2;cases h2;rfl
  obtain⟨u,hu,rv⟩:=r.get ha;have hp:ps[i]? =some y:=by rw[<-S.pre,List.getElem?_take_of_lt (by omega)];exact h1
  have ndP:ps.Nodup:=by rw[<-S.pre];exact S.nd.sublist (List.take_sublist _ _)
  refine⟨u,rv,?_⟩;rcases S.par y (afa hp)with k|k;·exact .inl ⟨k,qD ndP hp hu k⟩
  ·obtain⟨c,e⟩:=ua (n:=s.hz+1) k;refine .inr ⟨.inl k,c,e,?_⟩;have q:=x.cell y c e;rw[qF ndP hp hu (by show scope.names.lookup y≠_;rw[k];decide)]at q;exact q
 ·exact e0.AU.fresh (afS (x.above y c (aft h)))
 ·unfold start;show _=N.length;rw[afg,ae1,List.length_replicate];omega
def acx{kV:Value}
  (lk:kK.lookup f=some ⟨oc,od,.func (PySem.W.fnOf name qual params body scope dV kV doc pm an B_ ct),OG⟩)(HC:PySem.W.codeIn kK B_ qual=true)(S:C0 N ps scope)
  (len:∀vs H Q E,sp vs H Q E->vs.length=ps.length)
  (JU:∀(A:Around)(outer:List Env)(s:Shared)(H:Hp)(vs:List V)(Q:VK)(E:XK),Bm k (A.deeper (envOfC qual scope s.hz f B_))->sp vs H Q E->
   ∃t,Nv (JV CX P w kK mg base N qual scope f B_ A outer s H E) body t/\t {nx:=λ_ H'=>Q .BM H',rt:=Q} (start N vs) H):
  E2 P w kK mg base CX (k+1) f (PySem.W.fnOf name qual params body scope dV kV doc pm an B_ ct) ps sp:=by
 refine⟨len,λA outer s H args us vs Q E hr e0 hb r R5=>?_⟩;have hl:=len _ _ _ _ R5;have KX:kK.In s.heap:=e0.mod.TX.keeps λb o e=>(e0.bs b o e).1;have lim:s.heap.NoLimit:=e0.mod.nolimit.keeps λb o e=>(e0.bs b o e).1;have Rn:∀y∈ps.zip us,scope.names.lookup y.1=some .local\/(scope.names.lookup y.1=some .cell/\((cellsFrom (s.hz+1) scope.names []).lookup y.1).isSome=true):=λ⟨n,v⟩ hy=>by
  rcases S.par n (agn hy).1 with q|q;·exact .inl q
  ·exact .inr ⟨q,cellsFrom_some _ _ _ (.inl q)⟩
 refine codeAny_call_function hr.depth (KX _ _ lk) RR S.co S.gen RR (codeRec_of KX HC) (hb _ _ _ _ ?_);refine wpAny_newFunctionEnv_cells S.kind Rn λenv he s1 x=>?_;subst he;refine⟨lim.keeps x.toInCall.keep,codeAny_func ?_⟩;obtain⟨t,ht,hq⟩:=JU A outer s H vs Q E (hr.deeper _) R5;have I:Inv (JV CX P w kK mg base N qual scope f B_ A outer s H E) [] (start N vs) H s1:=qr S hr.hd e0 hl r x;refine wpAny_mono (ht [] s1 (start N vs) H _ I hq) (λfl s' hs=>?_) λe s' hs=>hs;have fin:∀{σ':St}{H':Hp}{v:V}{u:Value},Inv (JV CX P w kK mg base N qual scope f B_ A outer s H E) [] σ' H' s'->RelV v u->Q v H'->CE outer P w H s Q u s':=
  λ{σ' H' v u} J rv q=>⟨v,H',J.os,J.bare,J.base,J.AU,rv,q⟩;cases fl with
 |ret u=>obtain⟨v,σ',H',J,rv,q⟩:=hs;exact fin J rv q
 |next=>obtain⟨σ',H',J,q⟩:=hs;exact fin (v:=V.BM) (u:=Value.none) J RR q
 |brk=>obtain⟨_,_,_,q⟩:=hs;exact False.elim q
 |cont=>obtain⟨_,_,_,q⟩:=hs;exact False.elim q
def Aaz(r:List V->Hp->VK->Prop)(t:TA):TE:=λσ H Q=>t σ H λvs H1=>r vs H1 Q
def zC{p pos:Pos}{id:String}(hc:Cc X (.builtin id) r)(hg:Gl X x)(hm:X.mg x=none)(hv:bootBuiltins x=some (.builtin id))(ha:PA X (e::es) t)(hn:x≠"__name__" :=by decide)(Ja:GY x:=by decide)
  (he:Nu X e es:=by rfl)(B8:Om X pos es:=by rfl):PE X (.Call (.Name x p) (e::es) [] pos) (Aaz r t):=by intro pins s σ H Q I h;refine wpAny_Call_Name_kw (fS I hg hm hv ?_ hn Ja);exact PyProof.Rows.callWith_builtin1 (oW (ha pos pins s σ H _ I h) λus s1 vs H1 I1 r1 q1=>hc pins s1 σ H1 vs us Q I1 r1 q1) he B8
def xH{p pos:Pos}(hc:Cc X (.type T) r)(hg:Gl X x)(hm:X.mg x=none)(hv:bootBuiltins x=some (.type T))(ha:PA X (e::es) t)(hn:x≠"__name__" :=by decide)(Ja:GY x:=by decide)
  (he:Nu X e es:=by rfl)(B8:Om X pos es:=by rfl):PE X (.Call (.Name x p) (e::es) [] pos) (Aaz r t):=by intro pins s σ H Q I h;refine wpAny_Call_Name_kw (fS I hg hm hv ?_ hn Ja);exact afP (oW (ha pos pins s σ H _ I h) λus s1 vs H1 I1 r1 q1=>hc pins s1 σ H1 vs us Q I1 r1 q1) he B8
namespace HT
noncomputable def lexLt:Am->Am->Bool
 |[],[]=>false
 |[],_::_=>true
 |_::_,[]=>false
 |x::xs,y::ys=>if x=y then lexLt xs ys else decide (x<y)
def bZ(x y:Int)(xs ys:Am):lexLt (x::xs) (y::ys)=if x=y then lexLt xs ys else decide (x<y):=rfl
def pk:lexLt [] []=false:=rfl
def nI(y:Int)(ys:Am):lexLt [] (y::ys)=true:=rfl
def nJ(x:Int)(xs:Am):lexLt (x::xs) []=false:=rfl
def aas(A:Around)(s:Shared)(a:Int)(t:Tok)(c:Int)(u:Tok):∃e,SeqAt.EqAt A s (.int a t) (.int c u) e/\(e=true↔a=c):=
 ⟨(a==c),SeqAt.EqAt.int_int a t c u,by simp⟩
def zg(A:Around)(s:Shared)(a:Int)(t:Tok)(c:Int)(u:Tok)(prog:Program)(w:World)(E:CP)(Q:CP)(h:Q (.bool (decide (a<c))) s):
  wpAny (model prog w) A (richCompare .Lt (.int a t) (.int c u)) Q E s:=
 (PyProof.Rows.lt_int h)
section
open PySem.SeqAt
open PySem.AutoSeq1 (wpAny_loadPart')
open PySem.MeetsSeq PySem.MeetsSeq2 PySem.MeetsSeq3
def oV(l b:Addr)(items CC:Array Value)(n n2:Nat)(dd dd2:Option Addr)(sl Y4:Array (O2))(ns ms:Am)(hi:IntsAre items.toList ns)(hj:IntsAre CC.toList ms):
  Meets (Builtin.«tuple.__lt__» ⟨[.ref l,.ref b],[]⟩)
   (λ_ R s=>s.heap.get? l=some {cls:=.type "tuple",dict:=dd,data:=.seq items n,slots:=sl}/\s.heap.get? b=some {cls:=.type "tuple",dict:=dd2,data:=.seq CC n2,slots:=Y4}/\
    R (.ok (.ret (.bool (lexLt ns ms)))) s):=
 .of_wp λprog w A R s h=>by
  obtain⟨hp,g,d,tk,os⟩:=s;obtain⟨hl,hb,h⟩:=h;have f2:=AutoSeq1.sub_tuple_tuple;have z1:items.size=ns.length:=by rw[<-hi.length];simp
  have z2:CC.size=ms.length:=by rw[<-hj.length];simp
  wp_walk using wpAny_loadPart' hl,wpAny_loadPart' hb,wpAny_forIn_list _ (λrest b s'=>b.1=none/\s'=⟨hp,g,d,tk,os⟩/\∃(vs ws:Ay) (VM VN:Am),rest=vs.zip ws/\
   IntsAre vs VM/\IntsAre ws VN/\VM.length+CC.size=VN.length+items.size/\R (.ok (.ret (.bool (lexLt VM VN)))) ⟨hp,g,d,tk,os⟩) _;case turn=>
   rintro⟨y,x⟩ rest b s' ⟨HD,rfl,vs,ws,VM,VN,hz,ZP,U0,hlen,hR⟩;cases ZP with
   |nil=>rw[List.zip_nil_left]at hz;cases hz
   |cons a t ZO=>
    cases U0 with
    |nil=>rw[List.zip_nil_right]at hz;cases hz
    |cons c u ZL=>
     rw[agc]at hz;injection hz with hyx Rj;injection hyx with hy hx;subst hy hx;rw[bZ]at hR;simp only[afG]at hlen;obtain⟨e,he,W9⟩:=aas A.in1 ⟨hp,g,d,tk,os⟩ a t c u;refine wpAny_bind (he prog w _ _ ?_);cases e with
     |true=>rw[if_pos (W9.mp RR)]at hR;wp_walk;exact⟨RR,RR,_,_,_,_,Rj,ZO,ZL,by omega,hR⟩
     |false=>rw[if_neg (λq=>absurd (W9.mpr q) ae0)]at hR;have hri:=zg A.in1 ⟨hp,g,d,tk,os⟩ a t c u prog w;wp_walk using hri;exact⟨_,RR,by simpa using hR⟩
  case fin=>
   rintro⟨b1,b2⟩ s' ⟨HD,rfl,vs,ws,VM,VN,hz,ZP,U0,hlen,hR⟩;simp only at HD;subst HD;have hv:lexLt VM VN=decide (items.size<CC.size):=by
    cases ZP with
    |nil=>
     cases U0 with
     |nil=>simp only[agE]at hlen;rw[pk];exact(decide_eq_false (by omega)).symm
     |cons c u hw=>simp only[agE,afG]at hlen;rw[nI];exact(decide_eq_true (by omega)).symm
    |cons a t hv=>
     cases U0 with
     |nil=>simp only[agE,afG]at hlen;rw[nJ];exact(decide_eq_false (by omega)).symm
     |cons c u hw=>rw[agc]at hz;cases hz
   rw[hv]at hR;wp_walk;exact⟨_,RR,by simpa[Builtin.Tuple.tupleCompareSizes]using hR⟩
  case h=>exact⟨RR,RR,items.toList,CC.toList,ns,ms,RR,hi,hj,by omega,h⟩
end
def uT(hl:IsTup s.heap l items)(hb:IsTup s.heap b CC)(hi:IntsAre items.toList ns)(hj:IntsAre CC.toList ms)
  (hu:A.units<cLine)(h:Q (.bool (lexLt ns ms)) s):wpAny (model prog w) A (compareOp .Lt (.ref l) (.ref b)) Q E s:=by
 obtain⟨⟨cls,dd,data,sl⟩,ho,hc,n,hd⟩:=id hl;obtain⟨⟨AaN,dd2,data2,Y4⟩,U_,Jb,n2,hd2⟩:=id hb;simp only at hc hd Jb hd2;subst hc hd Jb hd2;exact richCompare_meets_room (op:=.Lt) ⟨_,ho,RR⟩ ⟨_,U_,RR⟩ PySem.F.slot_tuple_lt PySem.F.entry_tuple_lt (PySem.F.args_tuple_lt_2 _ _) (oV l b items CC n n2 dd dd2 sl Y4 ns ms hi hj)
  ⟨ho,U_,⟨(λx=>nomatch x),h⟩⟩ hu
def Lj(n d:Nat):Option Int->Nat
 |none=>d
 |some v=>if v<0 then(v+(n:Int)).toNat else min v.toNat n
def sL(n d:Nat):Lj n d none=d:=rfl
def qR(n d k:Nat):Lj n d (some (k:Int))=min k n:=rfl
end HT
def TO:=St->Hp->(Option Int->Hp->Prop)->Prop
def PO(X:Cx)(e:Option Expr)(t:TO):Prop:=
 ∀(pins:Bc)(s:Shared)(σ:St)(H:Hp)(Q:Option Int->Hp->Prop),Inv X pins σ H s->t σ H Q->
  CF X (evalPart e X.env) (λu s'=>(Au λo H'=>Av (Inv X pins σ H' s') (IsPart u o) (Q o H'))) X.xe s
def Sd:TO:=λ_ H Q=>Q none H
def Tw(t:TE):TO:=λσ H Q=>t σ H λx H1=>∃i,x= .int i/\Q (some i) H1
def wa:PO X none Sd:=by intro pins s σ H Q I h;exact wpAny_pure ⟨none,H,I,.none,h⟩
def abo(h:PE X e te):PO X (some e) (Tw te):=by intro pins s σ H Q I hw;refine c7 (h pins s σ H _ I hw) λu s1 x H1 I1 r1 q1=>?_;obtain⟨i,rfl,q⟩:=q1;obtain⟨t,rfl⟩:=r1;exact⟨some i,H1,I1,.int i t,q⟩
def V1(X:Cx)(r:V->Option Int->Option Int->Hp->VK->Prop):Prop:=
 ∀(pins:Bc)(s:Shared)(σ:St)(H:Hp)(x:V)(v vl vu:Value)(lo hi:Option Int)(sl:Addr)(Q:VK),Inv X pins σ H s->RelV x v->s.heap.IsSliceOf sl vl vu .none->IsPart vl lo->IsPart vu hi->r x lo hi H Q->
  (Au λT id=>Av (typeLookup (.type T) "__getitem__" =pure (some (.builtin id))) (s.TypeIs v T) (CF X (getItem v (.ref sl)) (EP X pins σ Q) X.xe s))
def V1.or(h:V1 X r)(h':V1 X r'):V1 X (λx lo hi H Q=>r x lo hi H Q\/r' x lo hi H Q):=by
 intro pins s σ H x v vl vu lo hi sl Q I rx hs pl pu q;rcases q with q|q;·exact h pins s σ H x v vl vu lo hi sl Q I rx hs pl pu q
 ·exact h' pins s σ H x v vl vu lo hi sl Q I rx hs pl pu q
def AaE(r:V->Option Int->Option Int->Hp->VK->Prop)(te:TE)(tl th:TO):TE:=λσ H Q=>te σ H λx H1=>tl σ H1 λl H2=>th σ H2 λu H3=>r x l u H3 Q
def zu{lo:Option Expr}{tl:TO}(hr:V1 X r)(he:PE X e te)(hl:PO X lo tl)(hu:PO X hi th):PE X (.Subscript e (.Slice lo hi none p2) pos) (AaE r te tl th):=by intro pins s σ H Q I h;refine Subscript_ (c7 (he pins s σ H _ I h) λv s1 x H1 I1 r1 q1=>?_);refine wpAny_Slice (iM (hl pins s1 σ H1 _ I1 q1) λvl s2 ⟨l,H2,I2,pl,q2⟩=>iM (hu pins s2 σ H2 _ I2 q2) λvu s3 ⟨u,H3,I3,pu,q3⟩=>?_);rw[evalPart_none];refine wpAny_pure ?_;have I4:Inv X pins σ H3 {s3 with heap:=s3.heap.push {cls:=.type "slice",data:=.fields #[vl,vu,.none]}}:=I3.kept (t':=s3.toks) λb ob q=>adx _ q;obtain⟨T,id,hT,ht,hg⟩:=hr pins {s3 with heap:=s3.heap.push {cls:=.type "slice",data:=.fields #[vl,vu,.none]}} σ H3 x v vl vu l u s3.hz Q I4 r1 (Heap.IsSliceOf.new ..) pl pu q3;exact tail_any ht hT hg (by with_unfolding_all rfl)
def JW(xs:List V)(lo hi:Option Int):List V:=(xs.drop (HT.Lj xs.length 0 lo)).take (HT.Lj xs.length xs.length hi-HT.Lj xs.length 0 lo)
def t_(xs:List V)(lo hi:Option Int):(JW xs lo hi).length<=xs.length:=by unfold JW;rw[afJ,ahy];omega
def Rb(n:Nat)(i:Int):Option Nat:=if 0<=i then(if i<n then some i.toNat else none)else if -(n:Int)<=i then some (i+n).toNat else none
def V0{α:Type}(xs:List α)(i:Int):Option α:=(Rb xs.length i).bind λj=>xs[j]?
def wx(h:Rb n i=some j):seqIndex? i n=some j/\j<n/\ -(n:Int)<=i/\i<n:=by
 unfold Rb at h;by_cases h0:0<=i
 ·rw[if_pos h0]at h;by_cases h1:i<n;·rw[if_pos h1]at h;have e:i.toNat=j:=ae2 h;exact⟨by rw[seqIndex_of h0 h1,e],by omega,by omega,h1⟩
  ·rw[if_neg h1]at h;cases h
 ·rw[if_neg h0]at h;by_cases h1: -(n:Int)<=i;·rw[if_pos h1]at h;have e:=ae2 h;exact⟨by rw[seqIndex_neg (by omega) h1,e],by omega,h1,by omega⟩
  ·rw[if_neg h1]at h;cases h
def wV{v:α}(h:V0 xs i=some v):(∃j,B9 (seqIndex? i xs.length=some j) (xs[j]? =some v) (j<xs.length) (-(xs.length:Int)<=i) (i<xs.length)):=by
 unfold V0 at h;cases e:Rb xs.length i with
 |none=>rw[e]at h;cases h
 |some j=>rw[e]at h;obtain⟨h1,h2,h3,h4⟩:=wx e;exact⟨j,h1,h,h2,h3,h4⟩
def aS{j:Nat}{v:α}(h:xs[j]? =some v):V0 xs (j:Int)=some v:=by
 have hj:=(ae3.mp h).1;have e:Rb xs.length (j)=some j:=by unfold Rb;simp_all
 unfold V0;rw[e];exact h
def F5(b:Expr):Prop:=∀o i,subscripted b false o i=operate [o,i] (getItem o i)
def Uj(X:Cx)(r:R2):Prop:=
 ∀(value slice:Expr)(pins:Bc)(s:Shared)(σ:St)(H:Hp)(x y:V)(v u:Value)(Q:VK),Inv X pins σ H s->RelV x v->RelV y u->r x y H Q->
  subscripted slice false v u=operate [v,u] (getItem v u)->CF X (subscriptTail value slice v u) (EP X pins σ Q) X.xe s
def Ts(X:Cx)(id:String)(r:V->List V->Hp->VK->Prop):Prop:=
 ∀(pins:Bc)(s:Shared)(σ:St)(H:Hp)(x:V)(xs:List V)(v:Value)(us:Ay)(Q:VK),Inv X pins σ H s->RelV x v->Vals xs us->r x xs H Q->
  CF X (call (.builtin id) (v::us)) (EP X pins σ Q) X.xe s
def Uj.or(h:Uj X r)(h':Uj X r'):Uj X (λx y H Q=>r x y H Q\/r' x y H Q):=by
 intro value slice pins s σ H x y v u Q I rx ry q hs;rcases q with q|q;·exact h value slice pins s σ H x y v u Q I rx ry q hs
 ·exact h' value slice pins s σ H x y v u Q I rx ry q hs
def Ts.or{id:String}(h:Ts X id r)(h':Ts X id r'):Ts X id (λx xs H Q=>r x xs H Q\/r' x xs H Q):=by
 intro pins s σ H x xs v us Q I rx rs q;rcases q with q|q;·exact h pins s σ H x xs v us Q I rx rs q
 ·exact h' pins s σ H x xs v us Q I rx rs q
def ael(hr:Uj X r)(ha:PE X a ta)(hb:PE X b tb)(hs:F5 b):PE X (.Subscript a b pos) (X0 r ta tb):=by intro pins s σ H Q I h;exact Subscript_ (ad2 ha hb I h λv u s2 x y H2 I2 rx ry q=>hr a b pins s2 σ H2 x y v u Q I2 rx ry q (hs _ _))
def Zf(K:Frag):R2:=λx y H Q=>(CO λp xs i v=>B9 (x= .ref p) (y= .int i) (Aj K H p xs) (V0 xs i=some v) (Q v H))
def Ze(K:Frag):R2:=λx y H Q=>(CO λp xs i v=>B9 (x= .ref p) (y= .int i) (Cd K H p xs) (V0 xs i=some v) (Q v H))
def bj:Uj X (Zf X.K):=by
 intro value slice pins s σ H x y v u Q I rx ry h hs;obtain⟨p,xs,i,z,rfl,rfl,hq,he,q⟩:=h;cases rx;obtain⟨t,rfl⟩:=ry;obtain⟨its,r,pl,hz⟩:=I.list hq;obtain⟨j,h1,h2,h3,h4,h5⟩:=wV he;obtain⟨w,ew,Mp⟩:=r.get h2;have hl:=r.length;have hn:=nH;have fin:EP X pins σ Q w s:=⟨z,H,I,Mp,q⟩;by_cases h0:0<=i
 ·have hj:i.toNat=j:=by rw[seqIndex_of h0 h5]at h1;exact ae2 h1
  exact item_listR pl.isList h0 (by omega) (by rw[hj];simpa using ew) fin hs
 ·have hj:(i+(its.toArray.size:Int)).toNat=j:=by rw[seqIndex_neg (by omega) h4]at h1;rw[afd,<-hl];exact ae2 h1
  exact subscriptTail_builtinR (x:=w) pl.isList.typeIs slot_list_getitem.lookup
   (wpAny_getItem_list_neg pl.isList (by omega) (by rw[afd]<;>omega) (by omega) (by rw[hj];simpa using ew) ⟨RR,fin⟩) hs
def cR:Uj X (Ze X.K):=by
 intro value slice pins s σ H x y v u Q I rx ry h hs;obtain⟨p,xs,i,z,rfl,rfl,hq,he,q⟩:=h;cases rx;obtain⟨t,rfl⟩:=ry;obtain⟨its,r,pl,hz⟩:=I.tuple hq;obtain⟨j,h1,h2,h3,h4,h5⟩:=wV he;obtain⟨w,ew,Mp⟩:=r.get h2;have hl:=r.length;have hn:=nH;have fin:EP X pins σ Q w s:=⟨z,H,I,Mp,q⟩;exact subscriptTail_builtinR (x:=w) pl.typeIs slot_tuple_getitem.lookup
  (getItem_tuple (j:=j) pl (by omega) (by omega) (by simp_all) (by simpa using ew) ⟨RR,fin⟩) hs
def uP(its:Ay)(n j:Nat)(u:Value):Obj.mapSeq (·.setIfInBounds j u) {cls:=.type "list",data:=.seq its.toArray n}={cls:=.type "list",data:=.seq (its.set j u).toArray n}:=by simp[Obj.mapSeq]
def Inv.lst{σ:St}(I:Inv X pins σ H s)(h:H p=some (.lst xs)):
  (Au λ(its:Ay) (n:Nat)=>Av (Vals xs its) (s.heap.get? p=some {cls:=.type "list",data:=.seq its.toArray n}) (xs.length<=sizeLine)):=by obtain⟨z,its,n,r,e⟩:=I.AU p _ h;exact⟨its,n,r,e,z⟩
def Inv.adl{σ:St}{its:Ay}(I:Inv X pins σ H s)(h:H p=some (.lst xs))
  (ho:s.heap.get? p=some {cls:=.type "list",data:=.seq its.toArray n})(hf:f {cls:=.type "list",data:=.seq its.toArray n}={cls:=.type "list",data:=.seq its'.toArray n'})(r:Vals ys its')(hz:ys.length<=sizeLine)(t:Nat):
  Inv X pins σ (upd H p (.lst ys)) {s with heap:=s.heap.update p f,toks:=t}:=by
 have e:(s.heap.update p f).get? p=some {cls:=.type "list",data:=.seq its'.toArray n'}:=by rw[ago f ho (by rw[hf]<;>rfl),hf]
 refine I.write (by rw[h];trivial) (.inl RR) (λb u hb q=>(afY _ _ (afA hb)).trans q) ⟨_,e⟩<|⟨hz,its',n',r,e⟩
def Wy:V->V->V->Hp->(Hp->Prop)->Prop:=λo i v H Q=>(CO λp xs k j=>B9 (o= .ref p) (i= .int k) (H p=some (.lst xs)) (Rb xs.length k=some j) (Q (upd H p (.lst (xs.set j v)))))
def set_list:RK X Wy:=by
 intro pins s σ H o i v ov iv u Q I ro ri rv h;obtain⟨p,xs,k,j,rfl,rfl,hp,hj,q⟩:=h;cases ro;obtain⟨t,rfl⟩:=ri;obtain⟨its,n,r,ho,hz⟩:=I.lst hp;obtain⟨h1,h2,h3,h4⟩:=wx hj;have hl:=r.length;have hn:=nH;have I':=
  I.adl hp ho (uP its n j u) (r.set rv j) (by rw[afT];exact hz) s.toks;by_cases h0:0<=k
 ·have hk:k.toNat=j:=by rw[seqIndex_of h0 h4]at h1;exact ae2 h1
  exact PySem.W.ki_setAt ho h0 (by omega) (by rw[afd,<-hl];exact h4) (by rw[hk];exact⟨_,I',q⟩)
 ·have hk:(k+(its.toArray.size:Int)).toNat=j:=by rw[seqIndex_neg (by omega) h3]at h1;rw[afd,<-hl];exact ae2 h1
  exact PySem.W.ki_setBack ho (by omega) (by rw[afd,<-hl];exact h3) (by omega) (by rw[hk];exact⟨_,I',q⟩)
def qQ(lo hi:Option Int)(n:Nat):(sliceBounds lo hi none n).1=((HT.Lj n 0 lo:Nat):Int)/\(sliceBounds lo hi none n).2.1=((HT.Lj n n hi:Nat):Int)/\(sliceBounds lo hi none n).2.2=1:=by
 refine⟨?_,?_,RR⟩
 ·cases lo with
  |none=>simp[sliceBounds,HT.Lj]
  |some i=>
   simp only[sliceBounds,HT.Lj,Option.getD_none,show(1:Int)>0 by decide,if_true];by_cases h:i<0;·simp only[h,if_true]<;>omega
   ·simp only[h,if_false]<;>omega
 ·cases hi with
  |none=>simp[sliceBounds,HT.Lj]
  |some i=>
   simp only[sliceBounds,HT.Lj,Option.getD_none,show(1:Int)>0 by decide,if_true];by_cases h:i<0;·simp only[h,if_true]<;>omega
   ·simp only[h,if_false]<;>omega
def oY(its:Ay)(lo hi:Option Int):slicePick its.toArray lo hi none=((its.drop (HT.Lj its.length 0 lo)).take (HT.Lj its.length its.length hi-HT.Lj its.length 0 lo)).toArray:=by obtain⟨h1,h2,h3⟩:=qQ lo hi its.toArray.size;unfold slicePick;rw[h1,h2,h3];simp only[sliceRange_one,pick_run]<;>rfl
def Za(K:Frag):V->Option Int->Option Int->Hp->VK->Prop:=λx lo hi H Q=>(Au λa xs=>Av (x= .ref a) (Aj K H a xs) (∀p,H p=none->Q (.ref p) (upd H p (.lst (JW xs lo hi)))))
def aa9:V1 X (Za X.K):=by rintro pins s σ H x v vl vu lo hi sl Q I rx hs pl pu ⟨a,xs,rfl,hx,q⟩;cases rx;obtain⟨its,r,ht,hz⟩:=I.list hx;have hlen:=r.length;refine⟨"list",_,slot_list_getitem.lookup,ht.isList.typeIs,?_⟩;refine wpAny_getItem_list_slice ht.isList hs pl pu .none (by simp) ?_ (by rw[afd]<;>omega);rw[oY,<-hlen];refine⟨.ref s.hz,_,I.laid (λb ob q=>adx _ q) (ae8 _) ?_,RR,q _ (I.AU.fresh (ae8 _))⟩;exact⟨afe (t_ xs lo hi) hz,_,0,(r.drop (HT.Lj xs.length 0 lo)).take (HT.Lj xs.length xs.length hi-HT.Lj xs.length 0 lo),ae4 _ RR⟩
def Ej:V->Bool
 | .BM=>true
 | .bl _=>true
 | .int _=>true
 | .str _=>true
 |_=>false
def RC:V->V->Bool
 | .BM,.BM=>true
 | .bl a,.bl b=>a==b
 | .bl a,.int b=>(if a then 1 else 0)==b
 | .int a,.bl b=>a==(if b then 1 else 0)
 | .int a,.int b=>a==b
 | .str a,.str b=>a==b
 |_,_=>false
def adK(ry:RelV y u)(rx:RelV x v)(fy:Ej y=true)(fx:Ej x=true):SeqAt.EqAt A s u v (RC y x):=by
 cases y with
 |BM=>
  cases ry;cases x with
  |BM=>cases rx;exact SeqAt.EqAt.same _
  |bl b=>cases rx;exact SeqAt.EqAt.none_bool b
  |int b=>obtain⟨t,rfl⟩:=rx;exact SeqAt.EqAt.none_int b t
  |str b=>obtain⟨t,rfl⟩:=rx;exact SeqAt.EqAt.none_str b t
  |_=>exact absurd (show false=true from fx) ae0
 |bl a=>
  cases ry;cases x with
  |BM=>cases rx;exact SeqAt.EqAt.bool_none a
  |bl b=>cases rx;exact SeqAt.EqAt.bool_bool a b
  |int b=>obtain⟨t,rfl⟩:=rx;exact SeqAt.EqAt.bool_int a b t
  |str b=>obtain⟨t,rfl⟩:=rx;exact SeqAt.EqAt.bool_str a b t
  |_=>exact absurd (show false=true from fx) ae0
 |int a=>
  obtain⟨t',rfl⟩:=ry;cases x with
  |BM=>cases rx;exact SeqAt.EqAt.int_none a t'
  |bl b=>cases rx;exact SeqAt.EqAt.int_bool a t' b
  |int b=>obtain⟨t,rfl⟩:=rx;exact SeqAt.EqAt.int_int a t' b t
  |str b=>obtain⟨t,rfl⟩:=rx;exact SeqAt.EqAt.int_str a t' b t
  |_=>exact absurd (show false=true from fx) ae0
 |str a=>
  obtain⟨t',rfl⟩:=ry;cases x with
  |BM=>cases rx;exact SeqAt.EqAt.str_none a t'
  |bl b=>cases rx;exact SeqAt.EqAt.str_bool a t' b
  |int b=>obtain⟨t,rfl⟩:=rx;exact SeqAt.EqAt.str_int a t' b t
  |str b=>obtain⟨t,rfl⟩:=rx;exact SeqAt.EqAt.str_str a t' b t
  |_=>exact absurd (show false=true from fx) ae0
 |_=>exact absurd (show false=true from fy) ae0
def NM(x:V)(u:Value):Bool:=match u with
 | .none=>RC .BM x
 | .bool b=>RC (.bl b) x
 | .int i _=>RC (.int i) x
 | .str z _=>RC (.str z) x
 |_=>false
def rR(r:RelV y u)(f:Ej y=true):NM x u=RC y x:=by
 cases y with
 |BM=>cases r;rfl
 |bl b=>cases r;rfl
 |int i=>obtain⟨t,rfl⟩:=r;rfl
 |str z=>obtain⟨t,rfl⟩:=r;rfl
 |_=>exact absurd (f) ae0
def kT:∀{xs:List V}{us:Ay},Vals xs us->xs.all Ej=true->us.any (NM x)=xs.any λy=>RC y x
 |_,_,.nil,_=>rfl
 |y::xs,u::us,.cons r t,f=>by rw[ag0,afn]at f;rw[agF,agF,rR r f.1,kT t f.2]
def gf(rx:RelV x v)(fx:Ej x=true):∀{xs:List V}{us:Ay},Vals xs us->xs.all Ej=true->∀u∈us,SeqAt.EqAt A s u v (NM x u)
 |_,_,.nil,_=>λu hu=>by cases hu
 |y::xs,u::us,.cons r t,f=>λu' hu=>by
  rw[ag0,afn]at f;rcases ae5.mp hu with rfl|hu;·rw[rR r f.1];exact adK r rx f.1 fx
  ·exact gf rx fx t f.2 u' hu
def UW(x:V)(xs:List V):Bool:=xs.any λy=>RC y x
def AaA(K:Frag)(neg:Bool):R2:=λx y H Q=>(Au λp xs=>B9 (y= .ref p) ((Aj K H p xs\/Cd K H p xs)) (Ej x=true) (xs.all Ej=true) (Q (.bl (if neg then !UW x xs else UW x xs)) H))
def k0:Eu X (compareOp .In) (AaA X.K false):=by
 rintro pins s σ H x y v u Q I rx ry ⟨p,xs,rfl,hq,fx,fs,q⟩;cases ry;rcases hq with hq|hq;·obtain⟨its,r,pl,hz⟩:=I.list hq;refine SeqAt.in_listAt (NM x) pl.isList (λw hw=>gf rx fx r fs w (by simpa using hw)) ⟨.bl _,H,I,RR,?_⟩;rw[show its.toArray.any (NM x)=its.any (NM x) by simp,kT r fs];exact q
 ·obtain⟨its,r,pl,hz⟩:=I.tuple hq;refine SeqAt.in_tupleAt (NM x) pl (λw hw=>gf rx fx r fs w (by simpa using hw)) ⟨.bl _,H,I,RR,?_⟩;rw[show its.toArray.any (NM x)=its.any (NM x) by simp,kT r fs];exact q
def gF:Eu X (compareOp .NotIn) (AaA X.K true):=by
 rintro pins s σ H x y v u Q I rx ry ⟨p,xs,rfl,hq,fx,fs,q⟩;cases ry;rcases hq with hq|hq;·obtain⟨its,r,pl,hz⟩:=I.list hq;refine SeqAt.notIn_listAt (NM x) pl.isList (λw hw=>gf rx fx r fs w (by simpa using hw)) ⟨.bl _,H,I,RR,?_⟩;rw[show its.toArray.any (NM x)=its.any (NM x) by simp,kT r fs];exact q
 ·obtain⟨its,r,pl,hz⟩:=I.tuple hq;refine SeqAt.notIn_tupleAt (NM x) pl (λw hw=>gf rx fx r fs w (by simpa using hw)) ⟨.bl _,H,I,RR,?_⟩;rw[show its.toArray.any (NM x)=its.any (NM x) by simp,kT r fs];exact q
def kI:Cc X (.builtin "len") (λxs H Q=>(Au λp ys=>Av (xs=[.ref p]) ((Aj X.K H p ys\/Cd X.K H p ys)) (Q (.int ys.length) H))):=by
 rintro pins s σ H xs us Q I r ⟨p,ys,rfl,hq,q⟩;obtain⟨u,rfl,rx⟩:=vals1 r;cases rx;have hn:=nH;rcases hq with hq|hq;·obtain⟨its,r',pl,hz⟩:=I.list hq;have hlen:=r'.length;exact Calls.call_len_list pl.isList (by simp only[afd]<;>omega) ⟨.int ys.length,H,I.tok _,⟨s.toks+1,by rw[afd,hlen]⟩,q⟩
 ·obtain⟨its,r',pl,hz⟩:=I.tuple hq;have hlen:=r'.length;exact len_tuple pl (by simp only[afd]<;>omega) ⟨.int ys.length,H,I.tok _,⟨s.toks+1,by rw[afd,hlen]⟩,q⟩
def Cc.or(h:Cc X f r)(h':Cc X f r'):Cc X f (λxs H Q=>r xs H Q\/r' xs H Q):=by
 intro pins s σ H xs us Q I rs q;rcases q with q|q;·exact h pins s σ H xs us Q I rs q
 ·exact h' pins s σ H xs us Q I rs q
def bC:Cc X (.type "list") (λxs H Q=>(Au λp ys=>Av (xs=[.ref p]) ((Aj X.K H p ys\/Cd X.K H p ys)) (∀l,H l=none->Q (.ref l) (upd H l (.lst ys))))):=by
 rintro pins s σ H xs us Q I r ⟨p,ys,rfl,hq,q⟩;obtain⟨u,rfl,rx⟩:=vals1 r;cases rx;have fin:∀(its:Ay),Vals ys its->ys.length<=sizeLine->∀(h':Heap)(c':Nat),(∀b o',s.heap.get? b=some o'->h'.get? b=some o')->
   h'.get? s.hz=some {cls:=.type "list",dict:=none,data:=.seq its.toArray c',slots:=#[]}->EP X pins σ Q (.ref s.hz) {s with heap:=h'}:=λits r' hz h' c' kp e=>
  ⟨.ref s.hz,_,I.laid kp (ae8 _) (show BW X.prog X.w _ h' _ (.lst ys)from⟨hz,its,c',r',e⟩),RR,q _ (I.AU.fresh (ae8 _))⟩;rcases hq with hq|hq;·obtain⟨its,r',pl,hz⟩:=I.list hq;have hlen:=r'.length;obtain⟨o,ho,hc,n,hd⟩:=pl.isList;exact call_list_seq p (.inl RR) ho hc hd (λh' c' kp e=>fin its r' hz h' c' kp e) (by simp only[afd]<;>omega)
 ·obtain⟨its,r',pl,hz⟩:=I.tuple hq;have hlen:=r'.length;obtain⟨o,ho,hc,n,hd⟩:=pl;exact call_list_seq p (.inr RR) ho hc hd (λh' c' kp e=>fin its r' hz h' c' kp e) (by simp only[afd]<;>omega)
def jl:Cc X (.type "tuple") (λxs H Q=>(Au λp ys=>xs=[.ref p]/\((Aj X.K H p ys/\∀l,H l=none->Q (.ref l) (upd H l (.tup ys)))\/(Cd X.K H p ys/\Q (.ref p) H)))):=by
 rintro pins s σ H xs us Q I r ⟨p,ys,rfl,h⟩;obtain⟨u,rfl,rx⟩:=vals1 r;cases rx;rcases h with⟨hq,q⟩|⟨hq,q⟩
 ·obtain⟨its,r',pl,hz⟩:=I.list hq;have hlen:=r'.length;refine call_tuple_list pl.isList (λh' kp=>?_) (by simp only[afd]<;>omega);have I1:=I.kept (t':=s.toks) kp;have I2:=
   I1.laid (t':=s.toks) (λb o e=>adx _ e) (ae8 _) (show BW X.prog X.w _ _ _ (.tup ys)from⟨hz,its,r',IsTup.new _ _⟩);exact⟨.ref h'.objs.size,_,I2,RR,q _ (I1.AU.fresh (ae8 _))⟩
 ·obtain⟨its,r',pl,hz⟩:=I.tuple hq;exact call_tuple_same pl ⟨.ref p,H,I,RR,q⟩
def VF(K:Frag)(T:String)(x:V)(H:Hp):Prop:=match x with
 | .str _=>T= "str"
 | .int _=>T= "int"
 | .ref p=>(T= "list" /\∃xs,Aj K H p xs)\/(T= "tuple" /\(∃o,Av (K.lookup p=some o) (o.cls= .type "tuple") (o.dict=none)))\/
   (T= "dict" /\((∃AI,H p=some (.dK AI))\/∃AI,H p=some (.dT AI)))\/(T= "set" /\(Au λS n=>H p=some (.set S n)))
 |_=>False
def yV{σ:St}(I:Inv X pins σ H s)(r:RelV x v)(ty:VF X.K T x H):
  s.TypeIs v T/\∀a,v= .ref a->∃ob,s.heap.get? a=some ob/\ob.dict=none:=by
 cases x with
 |str z=>obtain⟨t,rfl⟩:=r;cases(show T= "str"from ty);exact⟨typeIs_str s z t,λ_ e=>nomatch e⟩
 |int i=>obtain⟨t,rfl⟩:=r;cases(show T= "int"from ty);exact⟨typeIs_int s i t,λ_ e=>nomatch e⟩
 |ref p=>
  cases r;rcases ty with⟨rfl,xs,hq⟩|⟨rfl,o,hk,hc,hd⟩|⟨rfl,hk⟩|⟨rfl,S,n,hk⟩;·obtain⟨its,_,pl,_⟩:=I.list hq;refine⟨pl.isList.typeIs,λa e=>?_⟩;cases e;obtain⟨o,n,e,c,hd,_⟩:=pl;exact⟨o,e,hd⟩
  ·refine⟨⟨o,I.rq p o hk,hc⟩,λa e=>?_⟩;cases e;exact⟨o,I.rq _ o hk,hd⟩
  ·have z:∃o,s.heap.get? p=some o/\o.ExactDict:=by
    rcases hk with⟨AI,hk⟩|⟨AI,hk⟩;·obtain⟨_,_,_,_,o,_,_,e,ex,_⟩:=I.AU p _ hk;exact⟨o,e,ex⟩
    ·obtain⟨_,_,_,_,o,_,_,e,ex,_⟩:=I.AU p _ hk;exact⟨o,e,ex⟩
   obtain⟨o,e,ex⟩:=z;refine⟨⟨o,e,ex.1⟩,λa e2=>?_⟩;cases e2;exact⟨o,e,ex.2.1⟩
  ·obtain⟨o,_,_,_,e,ex,_⟩:=I.AU p _ hk;refine⟨⟨o,e,ex.1⟩,λa e2=>?_⟩;cases e2;exact⟨o,e,ex.2.1⟩
 |_=>exact False.elim ty
def YT(K:Frag)(T:String)(r:V->List V->Hp->VK->Prop)(to:TE):TE:=λσ H Q=>to σ H λx H1=>VF K T x H1/\r x [] H1 Q
def AaH(K:Frag)(T:String)(r:V->List V->Hp->VK->Prop)(to:TE)(t:TA):TE:=λσ H Q=>to σ H λx H1=>VF K T x H1/\t σ H1 λxs H2=>r x xs H2 Q
def ac6{apos BN:Pos}{id:String}(pa:PlainAttrs T)(slot:Slot T name id)(OH:typeOf (.builtin id)=pure (.type "method_descriptor"))(hm:Ts X id r)(ho:PE X o to)
  (Hq:attributeBase o name X.env (eval o X.env)=eval o X.env:=by rfl)(Ho:(apos.endLine==BN.line)=true:=by rfl):PE X (.Call (.Attribute o name apos) [] [] BN) (YT X.K T r to):=by intro pins s σ H Q I h;refine wpAny_Call_method0_late Hq Ho (c7 (ho pins s σ H _ I h) λv s1 x H1 I1 r1 q=>?_);obtain⟨ty,q1⟩:=q;obtain⟨h1,h2⟩:=yV I1 r1 ty;exact⟨T,id,pa,slot,OH,h1,h2,Calls.callWith_builtin RR (PySem.evalArgs_none (hm pins s1 σ H1 x [] v [] Q I1 r1 .nil q1))⟩
def aem{apos BN:Pos}{id:String}(pa:PlainAttrs T)(slot:Slot T name id)(OH:typeOf (.builtin id)=pure (.type "method_descriptor"))(hm:Ts X id r)(ho:PE X o to)(ha:PA X (e::es) t)
  (Hq:attributeBase o name X.env (eval o X.env)=eval o X.env:=by rfl)
  (Rt:((backTo BN (starEach (e::es) X.env)).all (λx=>!x.1)&&(backToKw BN (keywordEach [] X.env)).all (λx=>x.1.isSome)
   &&decide ((e::es).length+([]:List Keyword).length+(if([]:List Keyword).isEmpty then 0 else 1)<30))=true:=by rfl)
  (Ho:(apos.endLine==BN.line)=true:=by rfl)(hs:Nu X e es:=by rfl)(JT:Om X BN es:=by rfl):
  PE X (.Call (.Attribute o name apos) (e::es) [] BN) (AaH X.K T r to t):=by intro pins s σ H Q I h;refine wpAny_Call_method_late Hq Rt Ho RR (c7 (ho pins s σ H _ I h) λv s1 x H1 I1 r1 q=>?_);obtain⟨ty,q1⟩:=q;obtain⟨h1,h2⟩:=yV I1 r1 ty;refine⟨T,id,pa,slot,OH,h1,h2,?_⟩;have hA:=ha BN pins s1 σ H1 _ I1 q1;rw[hs]at hA|-;refine Calls.callWith_builtin (by show(false||(backTo BN (starEach es X.env)).any (·.1))=false;rw[JT]<;>rfl) (Calls.evalArgs_plain ?_);exact oW hA λus s2 vs H2 I2 r2 q2=>hm pins s2 σ H2 x vs v us Q I2 r1 r2 q2
def XC(X:Cx)(id:String)(r:V->List V->Hp->VK->Prop):Prop:=
 ∀(pins:Bc)(s:Shared)(σ:St)(H:Hp)(x:V)(xs:List V)(v:Value)(us:Ay)(Q:VK),Inv X pins σ H s->RelV x v->Vals xs us->r x xs H Q->
  CF X (call (.builtin id) (v::us)) (EP X pins σ Q) X.xe s
def Vals.one:∀{x:V}{us:Ay},Vals [x] us->∃u,us=[u]/\RelV x u
 |_,_,.cons r .nil=>⟨_,RR,r⟩
def Vals.zero:∀{us:Ay},Vals [] us->us=[]
 |_,.nil=>rfl
def Vals.dropLast(h:Vals xs us):Vals xs.dropLast us.dropLast:=by
 induction h with
 |nil=>exact .nil
 |cons r t ih=>
  cases t with
  |nil=>exact .nil
  |cons q t'=>exact .cons r ih
def Vals.eraseIdx:∀{xs:List V}{us:Ay}(i:Nat),Vals xs us->Vals (xs.eraseIdx i) (us.eraseIdx i)
 |_,_,_,.nil=>.nil
 |_,_,0,.cons _ t=>t
 |_,_,i+1,.cons r t=>.cons r (Vals.eraseIdx i t)
def Vals.reverse(h:Vals xs us):Vals xs.reverse us.reverse:=by
 induction h with
 |nil=>exact .nil
 |cons r t ih=>rw[List.reverse_cons,List.reverse_cons];exact Vals.append ih (.cons r .nil)
def vo{α:Type}(l:List α):l.eraseIdx (l.length-1)=l.dropLast:=by simp
def Inv.pj{σ:St}{its:Ay}(I:Inv X pins σ H s)(hH:H l=some (.lst xs))
  (e:s.heap.get? l=some {cls:=.type "list",data:=.seq its.toArray n})(hf:f its.toArray=its'.toArray)(hv:Vals ys its')(hz:ys.length<=sizeLine):
  Inv X pins σ (upd H l (.lst ys)) {s with heap:=s.heap.update l (Obj.mapSeq f),toks:=t'}:=by have q:=PySem.IsL.update e f;rw[hf]at q;refine I.write (by rw[hH];exact trivial) (.inl RR) (λb' u hb hu=>(afY s.heap (Obj.mapSeq f) (afA hb)).trans hu) ⟨_,q⟩<|⟨hz,its',_,hv,q⟩
def Inv.adm{σ:St}(I:Inv X pins σ H s)(hv:Vals ys its)(hz:ys.length<=sizeLine):
  Inv X pins σ (upd H s.hz (.lst ys)) {s with heap:=s.heap.push {cls:=.type "list",data:=.seq its.toArray},toks:=t'}:=
 I.laid (λ_ _ q=>adx _ q) (ae8 _) ⟨hz,its,0,hv,ae4 _ RR⟩
def Inv.fresh{σ:St}(I:Inv X pins σ H s):H s.hz=none:=I.AU.fresh (ae8 _)
def Inv.gH{σ:St}(I:Inv X pins σ H s)(hH:H l=some (.lst xs)):xs.length<=sizeLine/\(Au λ(its:Ay) (n:Nat)=>Av (Vals xs its) (xs.length=its.length) (s.heap.get? l=some {cls:=.type "list",data:=.seq its.toArray n})):=by obtain⟨z,its,n,r,e⟩:=I.AU l _ hH;exact⟨z,its,n,r,r.length,e⟩
def sU(h:n<=sizeLine):Builtin.List.listTooLong n=false:=decide_eq_false (by omega)
def SG:V->List V->Hp->VK->Prop:=λx vs H Q=>(BL λl xs y=>B9 (x= .ref l) (vs=[y]) (H l=some (.lst xs)) (xs.length<sizeLine) (Q .BM (upd H l (.lst (xs++[y])))))
def xQ:XC X "list.append" SG:=by intro pins s σ H x vs v us Q I rx rv h;obtain⟨l,xs,y,rfl,rfl,hH,hz,q⟩:=h;cases rx;obtain⟨u,rfl,ru⟩:=rv.one;obtain⟨z,its,n,r,hl,e⟩:=I.gH hH;refine call_meets F.slot_list_append ⟨_,e,RR⟩ F.entry_list_append (F.args_list_append_2 _ _) (PySem.list_append l its.toArray n u (by rw[afd];omega)) ⟨e,?_⟩;refine⟨.BM,_,I.pj hH e (by simp) (r.append (.cons ru .nil)) ?_,RR,q⟩;grind
def SF:V->List V->Hp->VK->Prop:=λx vs H Q=>(CO λl b xs zs=>Dn (x= .ref l) (vs=[.ref b]) (H l=some (.lst xs)) (H b=some (.lst zs)) (xs.length+zs.length<=sizeLine) (Q .BM (upd H l (.lst (xs++zs)))))
def qk:XC X "list.extend" SF:=by
 intro pins s σ H x vs v us Q I rx rv h;obtain⟨l,b,xs,zs,rfl,rfl,hH,hB,hz,q⟩:=h;cases rx;obtain⟨u,rfl,ru⟩:=rv.one;cases ru;obtain⟨z,its,n,r,hl,e⟩:=I.gH hH;obtain⟨z2,C7,n2,r2,Rm,e2⟩:=I.gH hB;have hsz:its.toArray.size+C7.toArray.size<=sizeLine:=by rw[afd,afd];omega
 have Rl:¬(!its.toArray.isEmpty&&Builtin.List.listTooLong (its.toArray.size+C7.toArray.size))=true:=by rw[sU hsz,Bool.and_false];exact ae0
 refine call_meets F.slot_list_extend ⟨_,e,RR⟩ F.entry_list_extend (F.args_list_extend_2 _ _)
  (AutoSeq1.list_extend_list_list_0 l its.toArray n b C7.toArray n2 Rl (by rw[afd];omega) (by omega)) ⟨e,e2,?_⟩;refine⟨.BM,_,I.pj hH e (by simp) (r.append r2) ?_,RR,q⟩;rw[afg];omega
def Zb:V->List V->Hp->VK->Prop:=λx vs H Q=>(BL λl xs y=>B9 (x= .ref l) (vs=[]) (H l=some (.lst xs)) (xs[xs.length-1]? =some y) (Q y (upd H l (.lst xs.dropLast))))
def zG:XC X "list.pop" Zb:=by
 intro pins s σ H x vs v us Q I rx rv h;obtain⟨l,xs,y,rfl,rfl,hH,hy,q⟩:=h;cases rx;have hus:=rv.zero;subst hus;obtain⟨z,its,n,r,hl,e⟩:=I.gH hH;obtain⟨u,hu,ru⟩:=r.get hy;have G1:its.toArray[its.toArray.size-1]? =some u:=by show its.toArray[its.length-1]? =some u;rw[<-Array.getElem?_toList,<-hl];exact hu
 refine call_meets F.slot_list_pop ⟨_,e,RR⟩ F.entry_list_pop (F.args_list_pop_1 _) (MeetsSeq.list_pop_last l its.toArray n u G1 (by rw[afd];omega)) ⟨e,?_⟩;refine⟨y,_,I.pj hH e ?_ r.dropLast ?_,ru,q⟩;·rw[afd,List.eraseIdxIfInBounds_toArray,vo]
 ·rw[List.length_dropLast];omega
def Zg:R2:=λx y H Q=>(CO λl b xs zs=>Dn (x= .ref l) (y= .ref b) (H l=some (.lst xs)) (H b=some (.lst zs)) (xs.length+zs.length<=sizeLine) (∀p,H p=none->Q (.ref p) (upd H p (.lst (xs++zs)))))
def eE:Eu X (binaryOp .Add) Zg:=by
 rintro pins s σ H x y v u Q I rx ry ⟨l,b,xs,zs,rfl,rfl,hH,hB,hz,q⟩;cases rx;cases ry;obtain⟨z,its,n,r,hl,e⟩:=I.gH hH;obtain⟨z2,C7,n2,r2,Rm,e2⟩:=I.gH hB;refine PySem.P.add_list e e2 ?_ (by rw[afd,afd];omega);have ea:its.toArray++C7.toArray=(its++C7).toArray:=by simp
 rw[ea];exact⟨.ref _,_,I.adm (r.append r2) (by rw[afg];omega),RR,q _ I.fresh⟩
def Vals.ints:∀{ns:Am}{us:Ay},Vals (ns.map V.int) us->IntsAre us ns
 |[],us,h=>by cases h;exact IntsAre.nil
 |n::ns,us,h=>by
  cases h with
  |cons r t=>obtain⟨k,rfl⟩:=r;exact IntsAre.cons n k (Vals.ints t)
def Vals.strs:∀{xs:Ag}{us:Ay},Vals (xs.map V.str) us->StrsAre us xs
 |[],us,h=>by cases h;exact StrsAre.nil
 |x::xs,us,h=>by
  cases h with
  |cons r t=>obtain⟨k,rfl⟩:=r;exact StrsAre.cons x k (Vals.strs t)
def Vals.bls:∀{bs:List Bool}{us:Ay},Vals (bs.map V.bl) us->us=bs.map Value.bool
 |[],us,h=>by cases h;rfl
 |b::bs,us,h=>by
  cases h with
  |cons r t=>cases r;rw[Vals.bls t,afq]
def Vals.ni(r:Vals [V.ref a] us):us=[Value.ref a]:=by
 cases r with
 |cons r t=>cases t;cases r;rfl
def aa6(hh:A.handled=none)(hl:s.heap.IsList l its.toArray)(hi:IntsAre its ns)
  (h:∀h' tk t',(∀b o,s.heap.get? b=some o->h'.get? b=some o)->Q (.int ns.sum t') {s with heap:=h',toks:=tk}):wpAny (model prog w) A (call (.builtin "sum") [.ref l]) Q E s:=by
 obtain⟨xs,e⟩:=hi.allInts.items;have hn:numsOf (intItems xs).toList=ns:=by rw[<-e];exact hi.numsOf
 rw[nums_intItems]at hn;rw[e]at hl;refine PySem.sum_intListG hh hl λh' tk t' hk=>?_;have:=h h' tk t' hk;rw[preSum_eq,agj (by simp),hn];exact this
def abN(hh:A.handled=none)(hl:s.heap.IsList l its.toArray)(hi:IntsAre its ns)(AW:0<ns.length)
  (h:∀h' tk M t',(∀b o,s.heap.get? b=some o->h'.get? b=some o)->M∈ns->(∀a,a∈ns->a<=M)->Q (.int M t') {s with heap:=h',toks:=tk}):wpAny (model prog w) A (call (.builtin "max") [.ref l]) Q E s:=by
 obtain⟨xs,e⟩:=hi.allInts.items;have hn:numsOf (intItems xs).toList=ns:=by rw[<-e];exact hi.numsOf
 rw[nums_intItems]at hn;subst hn;rw[e]at hl;have hsz:0<xs.size:=by simpa using AW
 refine PySem.max_intList hh hl hsz λv h' tk hv hk=>?_;obtain⟨t,rfl⟩:=intItems_at hv;obtain⟨h1,h2⟩:=argBest_gt (numAt xs) (xs.size-1);refine h h' tk _ t hk ?_ λa ha=>?_;·rw[numAt_eq];exact ahh (by rw[ae1,afU];omega)
 ·obtain⟨j,hj,rfl⟩:=mem_getD ha;rw[ae1,afU]at hj;rw[<-numAt_eq];exact h2 j (by omega)
def abK(hh:A.handled=none)(hl:s.heap.IsList l its.toArray)(hi:IntsAre its ns)(AW:0<ns.length)
  (h:∀h' tk M t',(∀b o,s.heap.get? b=some o->h'.get? b=some o)->M∈ns->(∀a,a∈ns->M<=a)->Q (.int M t') {s with heap:=h',toks:=tk}):wpAny (model prog w) A (call (.builtin "min") [.ref l]) Q E s:=by
 obtain⟨xs,e⟩:=hi.allInts.items;have hn:numsOf (intItems xs).toList=ns:=by rw[<-e];exact hi.numsOf
 rw[nums_intItems]at hn;subst hn;rw[e]at hl;have hsz:0<xs.size:=by simpa using AW
 refine PySem.min_intList hh hl hsz λv h' tk hv hk=>?_;obtain⟨t,rfl⟩:=intItems_at hv;obtain⟨h1,h2⟩:=argBest_lt (numAt xs) (xs.size-1);refine h h' tk _ t hk ?_ λa ha=>?_;·rw[numAt_eq];exact ahh (by rw[ae1,afU];omega)
 ·obtain⟨j,hj,rfl⟩:=mem_getD ha;rw[ae1,afU]at hj;rw[<-numAt_eq];exact h2 j (by omega)
def Y_(K:Frag):List V->Hp->VK->Prop:=λvs H Q=>(Au λ(a:Addr) (ns:Am)=>Av (vs=[V.ref a]) (Aj K H a (ns.map V.int)) (Q (.int ns.sum) H))
def Zd(K:Frag):List V->Hp->VK->Prop:=λvs H Q=>(Au λ(a:Addr) (ns:Am)=>BO (vs=[V.ref a]) (Aj K H a (ns.map V.int)) (0<ns.length) (∀m,m∈ns->(∀y,y∈ns->y<=m)->Q (.int m) H))
def Zc(K:Frag):List V->Hp->VK->Prop:=λvs H Q=>(Au λ(a:Addr) (ns:Am)=>BO (vs=[V.ref a]) (Aj K H a (ns.map V.int)) (0<ns.length) (∀m,m∈ns->(∀y,y∈ns->m<=y)->Q (.int m) H))
def adW(hc:X.calm=true):Cc X (.builtin "sum") (Y_ X.K):=by rintro pins s σ H vs us Q I r ⟨a,ns,rfl,hs,q⟩;obtain⟨its,rv,hl,_⟩:=I.list hs;rw[Vals.ni r];exact aa6 (I.ok.hd hc) hl.isList rv.ints λh' tk t' hk=>⟨.int _,H,I.kept hk,⟨_,RR⟩,q⟩
def adY(hc:X.calm=true):Cc X (.builtin "max") (Zd X.K):=by rintro pins s σ H vs us Q I r ⟨a,ns,rfl,hs,AW,q⟩;obtain⟨its,rv,hl,_⟩:=I.list hs;rw[Vals.ni r];exact abN (I.ok.hd hc) hl.isList rv.ints AW λh' tk m t' hk h1 h2=>⟨.int _,H,I.kept hk,⟨_,RR⟩,q m h1 h2⟩
def adX(hc:X.calm=true):Cc X (.builtin "min") (Zc X.K):=by rintro pins s σ H vs us Q I r ⟨a,ns,rfl,hs,AW,q⟩;obtain⟨its,rv,hl,_⟩:=I.list hs;rw[Vals.ni r];exact abK (I.ok.hd hc) hl.isList rv.ints AW λh' tk m t' hk h1 h2=>⟨.int _,H,I.kept hk,⟨_,RR⟩,q m h1 h2⟩
def UL(K:Frag):V->List V->Hp->VK->Prop:=λx xs H Q=>(FX λ(a:Addr) (ys:List V) (y:V) (j:Nat) (z:V)=>Ow (x=V.ref a) (xs=[y]) (Aj K H a ys) (Ej y=true) (ys.all Ej=true) (ys[j]? =some z) (RC z y=true) ((∀(m:Nat)(z':V),m<j->ys[m]? =some z'->RC z' y=false)) (Q (.int (j:Nat)) H))
def wC{ys:List V}{j:Nat}(f:ys.all Ej=true)(h:ys[j]? =some z):Ej z=true:=afj.mp f z (afa h)
def sW:Ts X "list.index" (UL X.K):=by
 intro pins s σ H x xs v us Q I rx rxs h;obtain⟨a,ys,y,j,z,rfl,rfl,hs,fy,fys,hz,hzj,Z4,q⟩:=h;cases rx;cases rxs with
 |cons ry rt=>
  rename_i uy ut;cases rt;obtain⟨its,rv,⟨⟨cls,dd,data,sl⟩,n,ho,hc,hdn,hd⟩,hlen⟩:=I.list hs;simp only at hc hd;subst hc hd;obtain⟨u,hu,ru⟩:=rv.get hz;obtain⟨S9,hje⟩:=ae3.mp hu;have hvl:=rv.length;have hj:j<its.toArray.size:=by simpa using S9
  have ZS:=sizeLine_eq;refine call_meets slot_list_index ⟨_,ho,RR⟩ PySem.F.entry_list_index (PySem.F.args_list_index_2 _ _)
   (SeqAt.list_indexAt a its.toArray n dd sl uy (NM y) j hj (by omega) ?_ ?_) ⟨ho,λu' X8=>gf ry fy rv fys u' (by simpa using X8),?_⟩
  ·have e1:its.toArray[j]=u:=by simpa using hje
   rw[e1,rR ru (wC fys hz)];exact hzj
  ·intro m hm hmj;have hml:m<its.length:=by simpa using hm
   have hmy:m<ys.length:=by omega
   have G1:ys[m]? =some ys[m]:=afu hmy;obtain⟨u2,SW,UJ⟩:=rv.get G1;obtain⟨_,hme⟩:=ae3.mp SW;have e1:its.toArray[m]=u2:=by simpa using hme
   rw[e1,rR UJ (wC fys G1)];exact Z4 m _ hmj G1
  ·exact⟨.int (j:Nat),H,I.tok _,⟨_,RR⟩,q⟩
def tH(hl:s.heap.IsList l items)
  (h:∀s₂:Shared,s₂={s with heap:=s.heap.push {cls:=.type "list_iterator",data:=.fields #[.ref l,.int 0 0]}}->
   (s₂.heap.IsListIter s.hz l 0/\s₂.heap.IsList l items)->l≠s.hz->Q (.ref s.hz) s₂):wpAny (model prog w) A (pyIter (.ref l)) Q E s:=by
 have Bz:l<s.hz:=by obtain⟨_,e,_⟩:=hl;exact ae7 e
 exact wpAny_pyIter_list hl (h _ RR ⟨⟨_,ae4 _ RR,RR,RR⟩,hl.push _⟩ (afo Bz))
def lX{bs:List Bool}(e:its=bs.map Value.bool):
  TruthOf prog w A (λi v=>its.toArray[i]? =some v) (λi=>bs.getD i false):=λi v s Q E hv hq=>by
 have Ob:its[i]? =some v:=by simpa using hv
 rw[e,afc]at Ob;obtain⟨b,hb,rfl⟩:=afL.mp Ob;have hg:bs.getD i false=b:=by rw[afB,hb]<;>rfl
 have T5:Q (bs.getD i false) s:=hq;rw[hg]at T5;exact wpAny_truthy_bool T5
def any_range:∀bs:List Bool,(List.range bs.length).any (λi=>bs.getD i false)=bs.any id
 |[]=>rfl
 |b::bs=>by rw[afG,agk,agF,ahE,agF,<-any_range bs];all_goals rfl
def all_range:∀bs:List Bool,(List.range bs.length).all (λi=>bs.getD i false)=bs.all id
 |[]=>rfl
 |b::bs=>by rw[afG,agk,ag0,ahF,ag0,<-all_range bs];all_goals rfl
def Zh(K:Frag):List V->Hp->VK->Prop:=λvs H Q=>(Au λ(a:Addr) (bs:List Bool)=>Av (vs=[V.ref a]) (Aj K H a (bs.map V.bl)) (Q (.bl (bs.any id)) H))
def Zi(K:Frag):List V->Hp->VK->Prop:=λvs H Q=>(Au λ(a:Addr) (bs:List Bool)=>Av (vs=[V.ref a]) (Aj K H a (bs.map V.bl)) (Q (.bl (bs.all id)) H))
def aaF(hc:X.calm=true):Cc X (.builtin "any") (Zh X.K):=by
 rintro pins s σ H vs us Q I r ⟨a,bs,rfl,hs,q⟩;obtain⟨its,rv,hl,_⟩:=I.list hs;rw[Vals.ni r];have hb:=rv.bls;refine call_any_walk (tH hl.isList λs₂ e2 st AW=>?_);subst e2;refine⟨_,_,_,_,_,_,_,RR,agC (A:=X.A.in1) (I.ok.hd hc) _ a AW its.toArray,st,lX hb,λh' tk hk=>?_⟩;refine⟨.bl _,H,I.kept λb o eo=>hk b o (λL1=>?_) (adx _ eo),?_,q⟩
 ·rcases ae5.mp L1 with e1|L1;·exact absurd (e1▸ae7 eo) (afM _)
  ·cases L1
 ·show Value.bool _=Value.bool _;rw[<-any_range,hb,afd,ae1]
def vv(hc:X.calm=true):Cc X (.builtin "all") (Zi X.K):=by
 rintro pins s σ H vs us Q I r ⟨a,bs,rfl,hs,q⟩;obtain⟨its,rv,hl,_⟩:=I.list hs;rw[Vals.ni r];have hb:=rv.bls;refine call_all_walk (tH hl.isList λs₂ e2 st AW=>?_);subst e2;refine⟨_,_,_,_,_,_,_,RR,agC (A:=X.A.in1) (I.ok.hd hc) _ a AW its.toArray,st,lX hb,λh' tk hk=>?_⟩;refine⟨.bl _,H,I.kept λb o eo=>hk b o (λL1=>?_) (adx _ eo),?_,q⟩
 ·rcases ae5.mp L1 with e1|L1;·exact absurd (e1▸ae7 eo) (afM _)
  ·cases L1
 ·show Value.bool _=Value.bool _;rw[<-all_range,hb,afd,ae1]
mutual
inductive Dp(K:Frag)(H:Hp):V->PyData->Prop
 |BM:Dp K H .BM .none
 |bl (b:Bool):Dp K H (.bl b) (.bool b)
 |int (i:Int):Dp K H (.int i) (.int i)
 |str (x:Str):Dp K H (.str x) (.str x)
 |lst {a:Addr}{xs:List V}{ds:List PyData}:Aj K H a xs->Lv K H xs ds->Dp K H (.ref a) (.list ds)
 |tup {a:Addr}{xs:List V}{ds:List PyData}:Cd K H a xs->Lv K H xs ds->Dp K H (.ref a) (.tuple ds)
inductive Lv(K:Frag)(H:Hp):List V->List PyData->Prop
 |nil:Lv K H [] []
 |cons {v:V}{vs:List V}{d:PyData}{ds:List PyData}:Dp K H v d->Lv K H vs ds->Lv K H (v::vs) (d::ds)
end
variable{X:Cx}{pins:Bc}{σ:St}{H:Hp}{s:Shared}in
mutual
theorem Dp.reads(I:Inv X pins σ H s):∀(d:PyData)(v:V)(u:Value),Dp X.K H v d->RelV v u->∃as,Reads s.heap u d as
 | .none,_,_,h,r=>by cases h;cases r;exact⟨_,Reads.none⟩
 | .bool b,_,_,h,r=>by cases h;cases r;exact⟨_,Reads.bool b⟩
 | .int i,_,_,h,r=>by cases h;obtain⟨t,rfl⟩:=r;exact⟨_,Reads.int i t⟩
 | .str x,_,_,h,r=>by cases h;obtain⟨t,rfl⟩:=r;exact⟨_,Reads.str x t⟩
 | .list ds,_,_,h,r=>by
  cases h with
  |lst hs ha=>cases r;obtain⟨its,rv,⟨o,n,ho,hc,_,hd⟩,_⟩:=I.list hs;obtain⟨as,hr⟩:=Dp.readsAll I ds _ its ha rv;exact⟨_,Reads.list ho hc hd hr⟩
 | .tuple ds,_,_,h,r=>by
  cases h with
  |tup hs ha=>cases r;obtain⟨its,rv,⟨o,ho,hc,n,hd⟩,_⟩:=I.tuple hs;obtain⟨as,hr⟩:=Dp.readsAll I ds _ its ha rv;exact⟨_,Reads.tuple ho hc hd hr⟩
 | .dict _,_,_,h,_=>by cases h
theorem Dp.readsAll(I:Inv X pins σ H s):∀(ds:List PyData)(vs:List V)(us:Ay),Lv X.K H vs ds->Vals vs us->∃as,ReadsAll s.heap us ds as
 |[],_,_,h,r=>by cases h;cases r;exact⟨_,ReadsAll.nil⟩
 |d::ds,_,_,h,r=>by
  cases h with
  |cons h1 h2=>
   cases r with
   |cons r1 r2=>obtain⟨as,q1⟩:=Dp.reads I d _ _ h1 r1;obtain⟨bs,q2⟩:=Dp.readsAll I ds _ _ h2 r2;exact⟨_,ReadsAll.cons q1 q2⟩
end
abbrev RS(h:Heap)(c:Addr)(v:O2):Prop:=h.IsCell c v
def Y9(scope sc:Scope):Scope:=
 {scope with names:=scope.names.map λ(n,k)=>if(k== .free&&sc.kind== .function&&sc.names.lookup n==some .cell)then(n,.cell)else(n,k)}
def AM(cells:List (Str×Addr)):List (Str×NameKind)->List (Str×Addr)->List (Str×Addr)
 |[],acc=>acc
 |(n,k)::r,acc=>if k== .free then AM cells r ((n,(cells.lookup n).getD 0)::acc)else AM cells r acc
def kH(env:Env)(f:Str×NameKind->List (Str×Addr)->Sem (ForInStep (List (Str×Addr))))
  (hf:∀n k c,f (n,k) c=if k== .free then(do let a<-cellOf env n;pure (.yield ((n,a)::c)))else pure (.yield c)):
  ∀(names:List (Str×NameKind))(acc:List (Str×Addr)),(∀y∈names,y.2= .free->∃c,env.cells.lookup y.1=some c)->forIn names acc f=pure (AM env.cells names acc)
 |[],acc,_=>by rfl
 |(n,k)::r,acc,h=>by
  rw[agG,hf];have ih:=λacc=>kH env f hf r acc λy hy=>h y (ae6 _ hy);unfold AM;by_cases hk:(k==NameKind.free)=true
  ·rw[if_pos hk,if_pos hk];obtain⟨c,hc⟩:=h (n,k) aff (by simpa using hk);have e:cellOf env n=pure c:=by unfold cellOf;rw[hc]
   rw[e];have e2:(env.cells.lookup n).getD 0=c:=by rw[hc];rfl
   rw[e2];exact ih _
  ·rw[if_neg hk,if_neg hk];exact ih _
def oy(h:∀y∈scope.names,y.2= .free->∃c,env.cells.lookup y.1=some c):closureFor scope env=pure (AM env.cells scope.names []):=by simp only[closureFor];rw[kH env _ (λn k c=>rfl) scope.names [] h];rfl
def mem_lookup{α:Type}:∀{l:List (Str×α)}{n:Str}{c:α},(n,c)∈l->∃c',l.lookup n=some c'
 |(k,v)::r,n,c,h=>by
  rw[ahz];cases hb:n==k with
  |true=>exact⟨_,RR⟩
  |false=>
   rcases ae5.mp h with e|h;·cases e;simp at hb
   ·exact mem_lookup h
def d8:∀{names:List (Str×NameKind)}{acc:List (Str×Addr)}{n:Str}{c:Addr},(n,c)∈AM cells names acc->(n,c)∈acc\/((n,.free)∈names/\c=(cells.lookup n).getD 0)
 |[],_,_,_,h=>.inl h
 |(m,k)::r,acc,n,c,h=>by
  unfold AM at h;split at h
  ·rename_i hk;have hk:k= .free:=by simpa using hk
   rcases d8 h with h|⟨h1,h2⟩;·grind
   ·exact .inr ⟨ae6 _ h1,h2⟩
  ·rcases d8 h with h|⟨h1,h2⟩;·exact .inl h
   ·exact .inr ⟨ae6 _ h1,h2⟩
def iB:∀{names:List (Str×NameKind)}{acc:List (Str×Addr)}{p:Str×Addr},p∈acc->p∈AM cells names acc
 |[],_,_,h=>h
 |(m,k)::r,acc,p,h=>by
  unfold AM;split;·exact iB (ae6 _ h)
  ·exact iB h
def fJ:∀{names:List (Str×NameKind)}{acc:List (Str×Addr)}{n:Str},(n,.free)∈names->(n,(cells.lookup n).getD 0)∈AM cells names acc
 |(m,k)::r,acc,n,h=>by
  unfold AM;rcases ae5.mp h with e|h;·cases e;exact iB aff
  ·split;·exact fJ h
   ·exact fJ h
def gy:∀{names:List (Str×NameKind)}{h:Heap}{acc:List (Str×Addr)}{x:Str}{c:Addr},(x,c)∈cellsFrom h.objs.size names acc->
  (x,c)∈acc\/((x,.cell)∈names/\h.objs.size<=c/\RS (pushCells h names) c none)
 |[],_,_,_,_,h=>.inl h
 |(n,k)::r,h,acc,x,c,hm=>by
  unfold cellsFrom at hm;unfold pushCells;split at hm
  ·rename_i hk;rw[if_pos hk];have hk:k= .cell:=by simpa using hk
   rw[<-afv h {cls:=.type "cell",data:=.cell none}]at hm;rcases gy hm with hm|⟨h1,h2,h3⟩
   ·rcases ae5.mp hm with e|hm;·cases e;exact .inr ⟨hk▸aff,ae8 _,_,pushCells_keeps r _ _ _ (ae4 _ RR),RR⟩
    ·exact .inl hm
   ·rw[afv]at h2;exact .inr ⟨ae6 _ h1,agP h2,h3⟩
  ·rename_i hk;rw[if_neg hk];rcases gy hm with hm|⟨h1,h2,h3⟩;·exact .inl hm
   ·exact .inr ⟨ae6 _ h1,h2,h3⟩
def i6:∀{names:List (Str×NameKind)}{n:Nat}{acc:List (Str×Addr)}{p:Str×Addr},p∈acc->p∈cellsFrom n names acc
 |[],_,_,_,h=>h
 |(m,k)::r,n,acc,p,h=>by
  unfold cellsFrom;split;·exact i6 (ae6 _ h)
  ·exact i6 h
def lI:∀{names:List (Str×NameKind)}{n:Nat}{acc:List (Str×Addr)}{x:Str},(x,.cell)∈names->∃c,(x,c)∈cellsFrom n names acc
 |(m,k)::r,n,acc,x,h=>by
  unfold cellsFrom;rcases ae5.mp h with e|h;·cases e;exact⟨n,i6 aff⟩
  ·split;·exact lI h
   ·exact lI h
def lH:∀{names:List (Str×NameKind)}{h:Heap}{acc:List (Str×Addr)}{x y:Str}{c:Addr},(∀p∈acc,p.2<h.objs.size)->(∀x y c,(x,c)∈acc->(y,c)∈acc->x=y)->
  (x,c)∈cellsFrom h.objs.size names acc->(y,c)∈cellsFrom h.objs.size names acc->x=y
 |[],_,_,_,_,_,_,hi,h1,h2=>hi _ _ _ h1 h2
 |(n,k)::r,h,acc,x,y,c,hl,hi,h1,h2=>by
  unfold cellsFrom at h1 h2;split at h1
  ·rename_i hk;rw[if_pos hk]at h2;rw[<-afv h {cls:=.type "cell",data:=.cell none}]at h1 h2;refine lH (h:=h.push _) (λp hp=>?_) (λx y c a b=>?_) h1 h2
   ·rw[afv];rcases ae5.mp hp with rfl|hp;·exact agb _
    ·exact afZ (hl p hp)
   ·rcases ae5.mp a with e|a<;>rcases ae5.mp b with e'|b;·cases e;cases e';rfl
    ·cases e;exact absurd (hl _ b) (afM _)
    ·cases e';exact absurd (hl _ a) (afM _)
    ·exact hi _ _ _ a b
  ·rename_i hk;rw[if_neg hk]at h2;exact lH hl hi h1 h2
def sV{code:Value}
  (h:Q (newEnv scope s.hz globals (cellsFrom (s.hz+1) scope.names closure) qual func code (some around) builtins)
   {s with heap:=pushCells (s.heap.push {cls:=.type "dict",data:=.dict #[]}) scope.names}):
  wpAny M A (newFunctionEnv scope globals closure [] qual func code (some around) builtins) Q E s:=by refine wpAny_bind (wpAny_alloc ?_);refine wpAny_bind (wpAny_layCells _ (λn k c=>rfl) scope.names closure _ _ ?_);rw[afv ..];exact wpAny_bind (wpAny_pure (wpAny_pure h))
def ic{sc:Scope}:∀{names:List (Str×NameKind)}{x:Str}{k:NameKind},
  (names.map λ(n,k)=>if(k==NameKind.free&&sc.kind== .function&&sc.names.lookup n==some .cell)then(n,NameKind.cell)else(n,k)).lookup x=some k->
  ∃k',names.lookup x=some k'/\(k=k'\/(k'= .free/\k= .cell))
 |[],_,_,h=>by simp at h
 |(n,k₀)::r,x,k,h=>by have ih:=@ic sc r x k;grind
structure ER(N:Ag)(sc scope:Scope)(own:List (Str×Nat)):Prop where
 kind:scope.kind= .function
 uniq:∀y∈scope.names,scope.names.lookup y.1=some y.2
 ix:∀p∈own,N[p.2]? =some p.1
 free:∀y∈scope.names,y.2= .free->sc.names.lookup y.1=some .cell\/sc.names.lookup y.1=some .free
 own:∀y∈scope.names,y.2= .local\/y.2= .cell->y.1∈own.map (·.1)\/y.1∉N
noncomputable def wipe(σ:St):Ae->St
 |[]=>σ
 |v::vs=>(wipe σ vs).set v none
def gX(σ:St):∀vs:Ae,(wipe σ vs).length=σ.length
 |[]=>rfl
 |v::vs=>by unfold wipe;rw[afT,gX σ vs]
def kX:∀{vs:Ae},(wipe σ vs)[i]? =some (some x)->σ[i]? =some (some x)/\i∉vs
 |[],h=>⟨h,by simp⟩
 |v::vs,h=>by
  unfold wipe at h;by_cases hi:v=i;·grind
  ·rw[agZ hi]at h;obtain⟨h1,h2⟩:=kX h;exact⟨h1,by simp only[ae5,not_or];exact⟨λe=>hi e.symm,h2⟩⟩
abbrev Cx.Lq(X:Cx)(s:Shared)(H:Hp)(scope:Scope)(CN:Env)(fp:Ax):Cx:={X with Kf:=s,VA:=H,env:=CN,outer:=X.stack,ex:=fp,fn:=λx=>scope.names.lookup x==some .cell,pn:=[],xe:=λ_ _=>False}
def uo{σ:St}(I:Inv X pins σ H s)(ok:ER X.N X.env.scope scope own)(hN:X.N.Nodup)(R7:∀b∈fp,DW X pins H b/\b<s.hz):
  Inv (X.Lq s H scope (compEnvC scope (cellsFrom (s.hz+1) scope.names (AM X.env.cells scope.names [])) s.hz X.env) fp) [] (wipe σ (own.map (·.2))) H {s with heap:=pushCells (s.heap.push {cls:=.type "dict",data:=.dict #[]}) scope.names}:=by
 have EI:∀y∈scope.names,y.2= .free->∃c,X.env.cells.lookup y.1=some c:=λy hy e=>by
  rcases ok.free y hy e with k|k;·exact I.ok.has _ (.inl k)
  ·exact I.ok.has _ (.inr k)
 generalize M8:compEnvC scope (cellsFrom (s.hz+1) scope.names (AM X.env.cells scope.names [])) s.hz X.env=CN;have kp:∀b o,s.heap.get? b=some o->(pushCells (s.heap.push {cls:=.type "dict",data:=.dict #[]}) scope.names).get? b=some o:=λb o e=>pushCells_keeps _ _ _ _ (adx _ e);have hL:CN.locals=s.hz:=by rw[<-M8];rfl
 have PU:CN.cells=cellsFrom (s.hz+1) scope.names (AM X.env.cells scope.names []):=by rw[<-M8];rfl
 have ZU:CN.scope=Y9 scope X.env.scope:=by rw[<-M8];rfl
 rw[<-afv s.heap {cls:=.type "dict",data:=.dict #[]}]at PU;have cm:∀{y c},(y,c)∈AM X.env.cells scope.names []->X.env.cells.lookup y=some c/\c<s.hz:=λ{y c} hm=>by
  rcases d8 hm with hm|⟨h1,rfl⟩;·cases hm
  ·obtain⟨c,hc⟩:=EI _ h1 RR;rw[hc];obtain⟨w,z⟩:=I.cell _ _ hc;exact⟨RR,z.lt⟩
 have mem:∀{y c},CN.cells.lookup y=some c->(X.env.cells.lookup y=some c/\c<s.hz)\/(s.hz+1<=c/\RS (pushCells (s.heap.push {cls:=.type "dict",data:=.dict #[]}) scope.names) c none):=λ{y c} e=>by
  rw[PU]at e;rcases gy (aft e)with hm|⟨_,h2,h3⟩;·exact .inl (cm hm)
  ·rw[afv]at h2;exact .inr ⟨h2,h3⟩
 have look:∀{y},scope.names.lookup y=some .free->∃c,CN.cells.lookup y=some c/\X.env.cells.lookup y=some c:=λ{y} hl=>by
  have hy:(y,NameKind.free)∈scope.names:=aft hl;obtain⟨c',e'⟩:=mem_lookup (i6 (names:=scope.names) (n:=(s.heap.push {cls:=.type "dict",data:=.dict #[]}).objs.size) (fJ (cells:=X.env.cells) (acc:=[]) hy));rw[<-PU]at e';refine⟨c',e',?_⟩;rw[PU]at e';rcases gy (aft e')with hm|⟨h1,_,_⟩;·exact(cm hm).1
  ·have:=ok.uniq _ h1;rw[hl]at this;cases this
 have okB:(X.Lq s H scope CN fp).Ok:=by
  refine⟨I.ok.mod,by show CN.scope.kind=_;rw[ZU];exact ok.kind,by show CN.globals=_;rw[<-M8];exact I.ok.glob,by show CN.builtins=_;rw[<-M8];exact I.ok.blt,by show s.hz<=CN.locals;rw[hL];exact ae8 _,
   λy z c e1 e2=>?_,λy hy=>?_,λy c z e=>?_,I.ok.hd,I.ok.frames,.inl RR,λb hb=>⟨?_,λy c e z=>?_⟩,I.bs,afe I.ok.ON I.sz,λb o e hb=>?_,λb hb z=>?_,I.stack,I.vV⟩;·have e1:CN.cells.lookup y=some c:=e1;have e2:CN.cells.lookup z=some c:=e2;rw[PU]at e1 e2;refine lH (λp hp=>?_) (λy z c a b=>I.ok.inj y z c (cm a).1 (cm b).1) (aft e1) (aft e2);rw[afv];exact afZ (cm (y:=p.1) (c:=p.2) hp).2
  ·show∃c,CN.cells.lookup y=some c;have key:∀k,CN.kindOf y=some k->(k= .cell\/k= .free)->∃c,CN.cells.lookup y=some c:=λk hk L3=>by
    unfold Env.kindOf at hk;rw[ZU]at hk;obtain⟨k',e,r⟩:=ic hk;have:k'= .cell\/k'= .free:=by
     rcases r with rfl|⟨rfl,_⟩;·exact L3
     ·exact .inr RR
    rcases this with rfl|rfl;·obtain⟨c,hm⟩:=lI (n:=(s.heap.push {cls:=.type "dict",data:=.dict #[]}).objs.size) (acc:=AM X.env.cells scope.names []) (aft e);obtain⟨c',e'⟩:=mem_lookup hm;exact⟨c',by rw[PU];exact e'⟩
    ·obtain⟨c,h1,_⟩:=look e;exact⟨c,h1⟩
   rcases hy with hy|hy;·exact key _ hy (.inl RR)
   ·exact key _ hy (.inr RR)
  ·have z:(scope.names.lookup y==some NameKind.cell)=true:=z;have z:scope.names.lookup y=some .cell:=by simpa using z
   have e:CN.cells.lookup y=some c:=e;rw[PU]at e;rcases gy (aft e)with hm|⟨_,h2,_⟩
   ·rcases d8 hm with hm|⟨h1,_⟩;·cases hm
    ·have q:=ok.uniq _ h1;rw[z]at q;cases q
   ·rw[afv]at h2;exact agP h2
  ·show b≠CN.locals;rw[hL];exact afo (R7 b hb).2
  ·have e:CN.cells.lookup y=some c:=e;rcases mem e with⟨h1,_⟩|⟨h1,_⟩;·exact(R7 b hb).1.2.2.2.2.1 y c h1 z
   ·have h2:s.hz+1<=b:=by rw[<-z];exact h1
    exact absurd (ae9 (R7 b hb).2 (agP h2)) (afM _)
  ·rcases(R7 b hb).1.2.2.2.1 with z|z;·exact I.ok.NX b o e z
   ·exact absurd (ae9 (ae7 e) (afe I.ok.ON z)) (afM _)
  ·rcases ae5.mp (I.uC b z)with z|z;·exact(R7 b hb).1.2.1 z
   ·exact(R7 b hb).1.2.2.1 z
 refine⟨okB,RR,I.bare,Un.kept kp,⟨λ_=>none,?_,λi y av e1 e2 e3=>?_⟩,λy c e=>?_,?_,λy c e=>?_,λp hp=>?_,I.AU.kept kp,by rw[gX];exact I.len⟩;·show Heap.Ns _ CN.locals _;rw[hL];exact Heap.Ns.keeps (Heap.Ns.new ..) λb o e=>pushCells_keeps _ _ _ _ e
 ·obtain⟨e2,AW⟩:=kX e2;have Xa:scope.names.lookup y=some .free/\(CN.kindOf y=some .cell\/CN.kindOf y=some .free):=by
   have key:∀k,CN.scope.names.lookup y=some k->k= .local\/k= .cell\/k= .free->scope.names.lookup y=some .free/\(CN.kindOf y=some .cell\/CN.kindOf y=some .free):=λk hk L3=>by
    have Yh:=hk;rw[ZU]at hk;obtain⟨k',e,r⟩:=ic hk;have no:¬(k'= .local\/k'= .cell):=λhh=>by
     rcases ok.own _ (aft e) hh with e'|e';·obtain⟨p,hp,hpy⟩:=afw.mp e';have e3:=ok.ix p hp;have:p.1=y:=hpy;rw[this]at e3;exact AW (afw.mpr ⟨p,hp,nB hN e3 e1⟩)
     ·exact e' (afa e1)
    rcases r with rfl|⟨rfl,rfl⟩
    ·rcases L3 with rfl|rfl|rfl;·exact absurd (.inl RR) no
     ·exact absurd (.inr RR) no
     ·exact⟨e,.inr Yh⟩
    ·exact⟨e,.inl Yh⟩
   have e3:Qa CN.scope y:=e3;rcases e3 with e3|e3|e3;·exact key _ e3 (.inl RR)
   ·exact key _ e3 (.inr (.inl RR))
   ·exact key _ e3 (.inr (.inr RR))
  obtain⟨m,hn,hl⟩:=I.loc;have ZN:Qa X.env.scope y:=(ok.free _ (aft Xa.1) RR).elim (λk=>.inr (.inl k)) (λk=>.inr (.inr k));obtain⟨w,r,q⟩:=hl i y av e1 e2 ZN;refine⟨w,r,.inr ⟨Xa.2,?_⟩⟩;obtain⟨c,h1,h2⟩:=look Xa.1;rcases q with⟨k,_⟩|⟨_,c',e',z⟩;·have k:X.env.scope.names.lookup y=some .local:=k;rcases ok.free _ (aft Xa.1) RR with k'|k'<;>rw[show X.env.scope.names.lookup y=_ from k']at k<;>cases k
  ·rw[h2]at e';cases e';exact⟨c,h1,z.keeps kp⟩
 ·have e:CN.cells.lookup y=some c:=e;rcases mem e with⟨h1,_⟩|⟨_,z⟩;·obtain⟨w,z⟩:=I.cell y c h1;exact⟨w,z.keeps kp⟩
  ·exact⟨_,z⟩
 ·show H CN.locals=none;rw[hL];exact I.AU.fresh (ae8 _)
 ·have e:CN.cells.lookup y=some c:=e;rcases mem e with⟨h1,_⟩|⟨h1,_⟩;·exact I.Eh y c h1
  ·exact I.AU.fresh (agP h1)
 ·exact absurd (show p∈([]:Bc)++[]from hp) (by simp)
def ad4{σ:St}(I:Inv X pins σ H s)(hD:H D=some (.lst xs))(hz:xs.length<sizeLine)(r:RelV y v)
  (h:∀s',Inv X pins σ (upd H D (.lst (xs++[y]))) s'->Q .none s'):CF X (call (.builtin "list.append") [.ref D,v]) Q E s:=by obtain⟨UY,its,n,ri,e⟩:=I.AU D _ hD;have hl:=ri.length;refine append_at (hsz:=by rw[afd];omega) e λh' sb HQ=>?_;refine h {s with heap:=h'} (I.write (by rw[hD];trivial) (.inl RR) (λb u hb q=>(sb.2 b hb).trans q) ⟨_,HQ⟩ ⟨by grind,its++[v],n+1,ri.append (.cons r .nil),?_⟩);rw[HQ];simp
def XA(X:Cx)(ifs:List Expr)(t:TT):Prop:=
 ∀(pins:Bc)(s:Shared)(σ:St)(H:Hp)(Q:Bool->Hp->Prop),Inv X pins σ H s->t σ H Q->
  CF X (forIn ifs true λc r=>if r=true then do let ok<-isTrue c X.env (eval c X.env);pure (ForInStep.yield ok)else pure (ForInStep.yield r)) (TP X pins σ Q) X.xe s
def YJ:TT:=λ_ H Q=>Q true H
def abh:XA X [] YJ:=λ_ _ _ H _ I h=>wpAny_tests_nil ⟨H,I,h⟩
def abg(h:PT X c t):XA X [c] t:=λpins s σ H Q I hw=>wpAny_tests_one (h pins s σ H Q I hw)
def xn{Q':α->Shared->Prop}(h:wpAny M A t Q (λ_ _=>False) s)(hQ:∀a s,Q a s->Q' a s):wpAny M A t Q' E s:=wpAny_mono h hQ λ_ _ z=>False.elim z
def rY(I:Nat->Shared->Prop)
  (turn:∀n s,I n s->wpAny (model prog w) A (pyNext it) (λr s₁=>match r with
   |none=>R (.ok .next) s₁
   |some v=>wpAny (model prog w) A (letOwnedTupleGo target it v) (λ_ s₁'=>wpAny (model prog w) A (assign target env v) (λ_ s₂=>
     wpAny (model prog w) A (forIn ifs true λc r=>if r=true then do let ok<-isTrue c env (eval c env);pure (ForInStep.yield ok)else pure (ForInStep.yield r)) (λok s₃=>
      if ok=true then wpAny (model prog w) A (eval elt env) (λx s₄=>
       wpAny (model prog w) A (call (.builtin "list.append") [acc,x]) (λ_ s₅=>∃m,m<n/\I m s₅) (notedBy (model prog w) A env λe s'=>R (.error e) s') s₄) (notedBy (model prog w) A env λe s'=>R (.error e) s') s₃
      else∃m,m<n/\I m s₃) (notedBy (model prog w) A env λe s'=>R (.error e) s') s₂) (notedBy (model prog w) A env λe s'=>R (.error e) s') s₁') (notedBy (model prog w) A env λe s'=>R (.error e) s') s₁) (notedBy (model prog w) A env λe s'=>R (.error e) s') s)
  (n:Nat)(h:I n s):
  codeAny (model prog w) A (.compLoop (.ListComp elt [⟨target,iter,ifs,0⟩] scope pos) 0 it acc env) R s:=by
 refine codeAny_loop RR I (λn s hI=>?_) n h;refine wpAny_noted ?_;rw[compTurn_list];refine wpAny_bind (wpAny_standAt (wpAny_bind (wpAny_mono (turn n s hI) (λr s₁ h₁=>?_) λ_ _ h'=>h')));cases r with
 |none=>exact wpAny_pure h₁
 |some v=>
  refine wpAny_bind (wpAny_mono h₁ (λ_ s₁' h₁'=>?_) λ_ _ h'=>h');refine wpAny_bind (wpAny_mono h₁' (λ_ s₂ h₂=>wpAny_bind (wpAny_mono h₂ (λok s₃ h₃=>?_) λ_ _ h'=>h')) λ_ _ h'=>h');cases ok with
  |false=>exact wpAny_pure ⟨RR,h₃⟩
  |true=>exact wpAny_bind (wpAny_bind (wpAny_mono h₃ (λx s₄ h₄=>wpAny_bind (wpAny_mono h₄ (λ_ s₅ h₅=>wpAny_pure (wpAny_pure ⟨RR,h₅⟩)) λ_ _ h'=>h')) λ_ _ h'=>h'))
def TC(wi:TI)(g:TG)(tt:TT)(te:TE)(vs:Ae):TE:=λσ H Q=>wi σ H λJ H1=>∀D,H1 D=none->∃W:Nat->Nat->Hp->Prop,(∃m,W 0 m (upd H1 D (.lst [])))/\∀i m H,W i m H->
 (J.stop i H/\Q (.ref D) H)\/(J.go i H/\∃Nx:Hp->Prop,(∀H',Nx H'->∃m',m'<m/\W (i+1) m' H')/\∀x H',J.Ke i H x H'->g x (wipe σ vs) H' λσ2 H2=>wipe σ2 vs=wipe σ vs/\tt σ2 H2 λb H3=>
  if b=true then te σ2 H3 λy H4=>(∃acc,Av (H4 D=some (.lst acc)) (acc.length<sizeLine) (Nx (upd H4 D (.lst (acc++[y])))))else Nx H3)
def wo{σ:St}
  (hc:X.calm=true)(hN:X.N.Nodup)(I:Inv X pins σ H s)(hi:PI X tg iter wi)(ok:ER X.N X.env.scope scope own)
  (hg:∀(s:Shared)(H:Hp)(C:Addr)(cl:List (Str×Addr))(fp:Ax),PG (X.Lq s H scope (compEnvC scope cl C X.env) fp) tg g)(ht:∀(s:Shared)(H:Hp)(C:Addr)(cl:List (Str×Addr))(fp:Ax),XA (X.Lq s H scope (compEnvC scope cl C X.env) fp) ifs tt)
  (he:∀(s:Shared)(H:Hp)(C:Addr)(cl:List (Str×Addr))(fp:Ax),PE (X.Lq s H scope (compEnvC scope cl C X.env) fp) elt te)(hs:∀x,foldedSetIterable iter X.env x=pure x)
  (h:TC wi g tt te (own.map (·.2)) σ H Q)
  (hRR:∀D C s' m H',Inv X pins σ H' s'->Q (.ref D) H'->s'.heap.Ns C m->DW X pins H' C->compPost (model X.prog X.w) X.A X.xe use Qf (.ref D) C (.ok .next) s'):
  wpAny (model X.prog X.w) X.A (comprehension (.ListComp elt [⟨tg,iter,ifs,0⟩] scope pos) scope X.env pos' (newList []) false (eval iter X.env) use) Qf X.xe s:=by
 have EI:∀y∈scope.names,y.2= .free->∃c,X.env.cells.lookup y.1=some c:=λy hy e=>by
  rcases ok.free y hy e with k|k;·exact I.ok.has _ (.inl k)
  ·exact I.ok.has _ (.inr k)
 refine wpAny_comprehension_free (use:=use) RR hs (oy EI) ok.kind (λy hy e=>by rw[ok.uniq y hy,e])
  (iM (hi pins s σ H _ I h) λxv s1 hx=>iM hx λZA s2 h2=>?_);obtain⟨it,fp,tn,J,H2,e,I2,T,Ql,f2,q⟩:=h2;subst e;refine wpAny_newObj_type (sV ?_) aeN;generalize hD:s2.heap.objs.size=D;have hDn:H2 D=none:=I2.AU.fresh (ahc hD);obtain⟨W,⟨m0,w0⟩,turn⟩:=q D hDn;generalize T3:({s2 with heap:=s2.heap.push {cls:=.type "list",data:=.seq ([]:Ay).toArray}}:Shared)=s3;have I3:Inv X pins σ (upd H2 D (.lst [])) s3:=by rw[<-T3];refine I2.laid (t':=s2.toks) (λb o e=>adx _ e) (ahc hD) ⟨afk _,[],0,.nil,?_⟩;rw[<-hD];exact ae4 _ RR
 have h3:s3.heap=s2.heap.push {cls:=.type "list",data:=.seq ([]:Ay).toArray}:=by rw[<-T3]
 have sz:∀b∈fp,b<s2.heap.objs.size:=λb hb=>by obtain⟨o,e,_⟩:=T.obj _ _ Ql b hb;exact ae7 e
 have f3:∀b∈fp,DW X pins (upd H2 D (.lst [])) b/\b<s3.heap.objs.size:=λb hb=>by have Bz:=sz b hb;refine⟨⟨?_,(f2 b hb).2⟩,by rw[h3,afv];exact afZ Bz⟩;rw[ai (by rw[<-hD];exact afo Bz)];exact(f2 b hb).1
 have TH:tn 0 s3.heap:=T.keep _ _ _ Ql λb _ o e=>by rw[h3];exact adx _ e
 have I4:=uo I3 ok hN f3;have pg:=hg s3 (upd H2 D (.lst [])) s3.heap.objs.size (cellsFrom (s3.heap.objs.size+1) scope.names (AM X.env.cells scope.names [])) fp;have pt:=ht s3 (upd H2 D (.lst [])) s3.heap.objs.size (cellsFrom (s3.heap.objs.size+1) scope.names (AM X.env.cells scope.names [])) fp;have pe:=he s3 (upd H2 D (.lst [])) s3.heap.objs.size (cellsFrom (s3.heap.objs.size+1) scope.names (AM X.env.cells scope.names [])) fp;show codeAny _ _ (.compStart (.ListComp elt [⟨tg,iter,ifs,0⟩] scope pos) 0 (.ref it) (.ref D) (compEnvC scope (cellsFrom (s3.heap.objs.size+1) scope.names (AM X.env.cells scope.names [])) s3.heap.objs.size X.env)) (compPost (model X.prog X.w) X.A X.xe use Qf (.ref D) s3.heap.objs.size) {s3 with heap:=pushCells (s3.heap.push {cls:=.type "dict",data:=.dict #[]}) scope.names};have nfp:∀b∈fp,(upd H2 D (.lst [])) b=none:=λb hb=>(f3 b hb).1.1;generalize Ve:compEnvC scope (cellsFrom (s3.heap.objs.size+1) scope.names (AM X.env.cells scope.names [])) s3.heap.objs.size X.env=ce at I4 pg pt pe|-;have cL:ce.locals=s3.heap.objs.size:=by subst Ve;rfl
 generalize hH3:upd H2 D (.lst [])=H3 at I3 I4 pg pt pe w0 nfp f3;generalize hs4:({s3 with heap:=pushCells (s3.heap.push {cls:=.type "dict",data:=.dict #[]}) scope.names}:Shared)=s4 at I4|-;have st4:tn 0 s4.heap:=T.keep _ _ _ TH λb _ o e=>by rw[<-hs4];exact pushCells_keeps _ _ _ _ (adx _ e)
 have NQ:∀{σ':St}{H':Hp}{s':Shared},Inv (X.Lq s3 H3 scope ce fp) [] σ' H' s'->(∀b∈fp,H' b=none)->∀b∈fp,DW (X.Lq s3 H3 scope ce fp) [] H' b:=λ{σ' H' s'} I' hn b hb=>
  ⟨hn b hb,(I'.ok.VZ b hb).1,I'.ok.Og b hb,.inl hb,λx c e=>(I'.ok.VZ b hb).2 x c e,λp hp=>absurd (show p∈([]:Bc)++[]from hp) (by simp)⟩;have loop:codeAny (model X.prog X.w) X.A (.compLoop (.ListComp elt [⟨tg,iter,ifs,0⟩] scope pos) 0 (.ref it) (.ref D) ce) (compPost (model X.prog X.w) X.A X.xe use Qf (.ref D) s3.heap.objs.size) s4:=by
  refine rY (λn s'=>∃i H',Inv (X.Lq s3 H3 scope ce fp) [] (wipe σ (own.map (·.2))) H' s'/\tn i s'.heap/\(∀b∈fp,H' b=none)/\W i n H') ?_ m0 ⟨0,H3,I4,st4,nfp,w0⟩;rintro n s5 ⟨i,H5,I5,VI,n5,w5⟩;rcases turn i n H5 w5 with⟨stop,qq⟩|⟨go,Nx,hNx,step⟩
  ·have td:=T.done (X.Lq s3 H3 scope ce fp) RR RR RR hc i [] s5 _ H5 (λ_ _=>False) I5 (NQ I5 n5) VI stop;refine xn td λr s6 ⟨hr,I6⟩=>?_;subst hr;have I7:Inv X pins σ H5 s6:=I3.aeC (ch:=fp) I6.os I6.base I6.AU I6.bare λb hb=>⟨(f3 b hb).1.2.2.2.1,(f3 b hb).1.2.1,(f3 b hb).1.2.2.2.2.1,(f3 b hb).1.2.2.2.2.2⟩;have nC:H5 s3.heap.objs.size=none:=by have z:H5 ce.locals=none:=I6.free;rw[cL]at z;exact z
   obtain⟨m,hn,_⟩:=I6.loc;have hn:s6.heap.Ns ce.locals m:=hn;rw[cL]at hn;exact hRR D s3.heap.objs.size s6 m H5 I7 qq hn (I3.oa (ae8 _) nC)
  ·have ti:=T.item (X.Lq s3 H3 scope ce fp) RR RR RR hc i [] s5 _ H5 (λ_ _=>False) I5 (NQ I5 n5) VI go;refine xn ti λr s6 ⟨u,hr,h6⟩=>?_;subst hr;refine xn h6 λ_ s7 ⟨x,H7,I7,r7,y7,YX,n7⟩=>?_;have I7':=I7.pinned (NQ I7 n7) (T.obj _ _ YX);refine xn (pg _ s7 _ H7 x u _ I7' r7 (step x H7 y7)) λ_ s8 ⟨σ8,H8,I8,hw8,q8⟩=>?_;refine xn (pt _ s8 σ8 H8 _ I8 q8) λb s9 ⟨H9,I9,q9⟩=>?_;have fin:∀{s':Shared}{H':Hp},Inv (X.Lq s3 H3 scope ce fp) ([]++JC fp s7.heap) σ8 H' s'->Nx H'->∃m,m<n/\∃i H',Inv (X.Lq s3 H3 scope ce fp) [] (wipe σ (own.map (·.2))) H' s'/\tn i s'.heap/\(∀b∈fp,H' b=none)/\W i m H':=λ{s' H'} I' nx=>by
    obtain⟨m',hm,w'⟩:=hNx H' nx;have Wz:∀b∈fp,∀o,s7.heap.get? b=some o->s'.heap.get? b=some o/\H' b=none:=λb hb o e=>
     let z:=I'.pin (b,o) (afC _ (afC _ (jv hb e)))
     ⟨z.1,z.2.1⟩;have hl:(wipe σ (own.map (·.2))).length=σ8.length:=by rw[<-hw8,gX]
    refine⟨m',hm,i+1,H',(I'.jQ (pins:=[])).weak hl (λj v e=>?_),T.keep _ _ _ YX λb hb o e=>(Wz b hb o e).1,λb hb=>?_,w'⟩;·rw[<-hw8]at e;exact(kX e).1
    ·obtain⟨o,e,_⟩:=T.obj _ _ YX b hb;exact(Wz b hb o e).2
   cases b with
   |false=>simp only[agd,if_false]at q9|-;exact fin I9 q9
   |true=>simp only[if_true]at q9|-;refine xn (pe _ s9 σ8 H9 _ I9 q9) λz s10 ⟨yv,H10,I10,r10,acc,Aai,ZH,nx⟩=>?_;exact ad4 (X:=X.Lq s3 H3 scope ce fp) I10 Aai ZH r10 λs11 I11=>fin I11 nx
 exact codeAny_compStart_list loop (T.self X.A 0 _ _ _ st4 loop)
def aek(hc:X.calm=true)(hN:X.N.Nodup)(hi:PI X tg iter wi)(ok:ER X.N X.env.scope scope own)
  (hg:∀(s:Shared)(H:Hp)(C:Addr)(cl:List (Str×Addr))(fp:Ax),PG (X.Lq s H scope (compEnvC scope cl C X.env) fp) tg g)(ht:∀(s:Shared)(H:Hp)(C:Addr)(cl:List (Str×Addr))(fp:Ax),XA (X.Lq s H scope (compEnvC scope cl C X.env) fp) ifs tt)
  (he:∀(s:Shared)(H:Hp)(C:Addr)(cl:List (Str×Addr))(fp:Ax),PE (X.Lq s H scope (compEnvC scope cl C X.env) fp) elt te)(hs:∀x,foldedSetIterable iter X.env x=pure x:=by intro _;rfl):
  PE X (.ListComp elt [⟨tg,iter,ifs,0⟩] scope pos) (TC wi g tt te (own.map (·.2))):=by intro pins s σ H Q I h;refine wo hc hN I hi ok hg ht he hs h λD C s' m H' I' q hn f=>⟨m,hn,λOM sb=>?_⟩;obtain⟨f0,f1,f2,f3,f4,f5⟩:=f;exact⟨.ref D,H',I'.turned (λb o hb e=>(sb.2 b hb).trans e) f0 f1 f3 f4 f5,RR,q⟩
def zp(hc:X.calm=true)(hN:X.N.Nodup)(hy:X.N[i]? =some y)(X7:X.env.scope.names.lookup y=some .local)
  (WX:swapsWith (.ListComp elt [⟨tg,iter,ifs,0⟩] scope pos) (some (.Name y py)) Sg.line X.env=pure true)(hi:PI X tg iter wi)(ok:ER X.N X.env.scope scope own)
  (hg:∀(s:Shared)(H:Hp)(C:Addr)(cl:List (Str×Addr))(fp:Ax),PG (X.Lq s H scope (compEnvC scope cl C X.env) fp) tg g)(ht:∀(s:Shared)(H:Hp)(C:Addr)(cl:List (Str×Addr))(fp:Ax),XA (X.Lq s H scope (compEnvC scope cl C X.env) fp) ifs tt)
  (he:∀(s:Shared)(H:Hp)(C:Addr)(cl:List (Str×Addr))(fp:Ax),PE (X.Lq s H scope (compEnvC scope cl C X.env) fp) elt te)(hs:∀x,foldedSetIterable iter X.env x=pure x:=by intro _;rfl):
  PS X (.Assign [.Name y py] (.ListComp elt [⟨tg,iter,ifs,0⟩] scope pos) Sg) (Uw (TC wi g tt te (own.map (·.2))) (Du i)):=by
 intro pins s σ H D I h;rw[exec_Assign_Name_used _ _ _ _ WX];refine wpAny_bind (wpAny_standAt (wpAny_bind ?_));refine wpAny_bind (iM (wo (Qf:=λ_ s'=>SP X pins D .next s') hc hN I hi ok hg ht he hs h λL C s' m H' I' q hn f=>?_) λ_ s' hq=>wpAny_pure (wpAny_pure hq));refine wpAny_assign_Name (qa (v:=V.ref L) I' hN hy (.inl X7) RR (λs2 I2 ⟨a,sb,ha⟩=>?_) (.inr X7));obtain⟨f0,f1,f2,f3,f4,f5⟩:=f;have haC:C≠a:=by
  rcases ha with z|z;·rw[z];exact f1
  ·exact λe=>f4 y a z e.symm
 refine⟨m,hn.sameBut sb haC,λh3 sb3=>?_⟩;exact⟨_,H',I2.turned (t':=s2.toks) (λb o hb e=>(sb3.2 b hb).trans e) f0 f1 f3 f4 f5,q⟩
def aa5(hk:env.scope.kind= .function)(hy:env.scope.names.lookup y=some .local)(hl:(py.line==pos.line)=true)
  (ha:(scope.names.any λ(n,k)=>n==y&&(k== .local||k== .cell))=false):swapsWith (.ListComp elt gs scope pos) (some (.Name y py)) l env=pure true:=by
 have ky:env.kindOf y=some .local:=hy;have hb:env.blockKind= .function:=by unfold Env.blockKind;rw[hk];rfl
 unfold swapsWith;simp only[hb,ky,ha,Expr.pos,hl];rfl
def Xs(N:Ag)(sc scope:Scope)(own:List (Str×Nat)):Bool:=
 (match scope.kind with| .function=>true|_=>false)&&(scope.names.all λy=>decide (scope.names.lookup y.1=some y.2))&&(own.all λp=>decide (N[p.2]? =some p.1))&&
  (scope.names.all λy=>match y.2 with
   | .free=>(match sc.names.lookup y.1 with|some .cell=>true|some .free=>true|_=>false)
   | .local=>decide (y.1∈own.map (·.1))||decide (y.1∉N)
   | .cell=>decide (y.1∈own.map (·.1))||decide (y.1∉N)
   |_=>true)
def aB(h:Xs N sc scope own=true):ER N sc scope own:=by
 unfold Xs at h;simp only[afn,afj,decide_eq_true_eq]at h;obtain⟨⟨⟨h1,h2⟩,h3⟩,h4⟩:=h;refine⟨?_,h2,h3,λy hy e=>?_,λy hy e=>?_⟩
 ·split at h1;·assumption
  ·cases h1
 ·have q:=h4 y hy;simp only[e]at q;split at q<;>first|exact .inl (by assumption)|exact .inr (by assumption)|cases q
 ·have q:=h4 y hy;rcases e with e|e<;>(simp only[e,ahG,decide_eq_true_eq]at q;exact q)
section
variable{κ:Type}[DecidableEq κ]
def HE(AI:List (κ×V))(k:κ):Option V:=(AI.find? λkv=>decide (kv.1=k)).map (·.2)
noncomputable def putK(AI:List (κ×V))(k:κ)(v:V):List (κ×V):=
 if(AI.any λkv=>decide (kv.1=k))=true then AI.map (λkv=>if kv.1=k then(kv.1,v)else kv)else AI++[(k,v)]
def Ud(AI:List (κ×V))(k:κ):List (κ×V):=AI.filter λkv=>decide (kv.1≠k)
def gZ{k:κ}(e:p.1=k):HE (p::r) k=some p.2:=by simp[HE,e]
def g0{k:κ}(e:¬p.1=k):HE (p::r) k=HE r k:=by simp[HE,e]
def so(k:κ):∀AI:List (κ×V),(AI.any λkv=>decide (kv.1=k))=(HE AI k).isSome
 |[]=>rfl
 |p::r=>by
  rw[agF];by_cases e:p.1=k;·simp only[gZ e,decide_eq_true e,Bool.true_or,Option.isSome_some]
  ·rw[g0 e,decide_eq_false e,ahP];exact so k r
def md(AI:List (κ×V))(k:κ)(v:V):(putK AI k v).length<=AI.length+1:=by unfold putK;grind
def FV.x9(r:FV o u):o.isSome=u.isSome:=by
 cases o with
 |none=>cases u with
  |none=>rfl
  |some _=>exact(r).elim
 |some _=>cases u with
  |none=>exact(r).elim
  |some _=>rfl
def FV.getD(r:FV o u)(rd:RelV d d'):RelV (o.getD d) (u.getD d'):=by
 cases o with
 |none=>cases u with
  |none=>exact rd
  |some _=>exact(r).elim
 |some _=>cases u with
  |none=>exact(r).elim
  |some _=>exact r
def KV.val(r:KV AI vs)(k:κ):FV (HE AI k) (valueAt vs k):=by
 induction r with
 |nil=>exact True.intro
 |@cons p q ps qs h t ih=>
  obtain⟨h1,h2⟩:=h;by_cases e:p.1=k
  ·have e':=h1.symm.trans e;have b:valueAt (q::qs) k=some q.2:=by simp[valueAt,e']
   rw[gZ e,b];exact h2
  ·have e':¬q.1=k:=λz=>e (h1.trans z);have b:valueAt (q::qs) k=valueAt qs k:=by simp[valueAt,e']
   rw[g0 e,b];exact ih
def KV.any(r:KV AI vs)(k:κ):(AI.any λkv=>decide (kv.1=k))=vs.any λkv=>decide (kv.1=k):=by
 induction r with
 |nil=>rfl
 |cons h t ih=>simp_all
def KV.acK(r:KV AI vs)(k:κ)(ry:RelV y u):
  KV (AI.map λkv=>if kv.1=k then(kv.1,y)else kv) (vs.map λkv=>if kv.1=k then(kv.1,u)else kv):=by
 induction r with
 |nil=>exact .nil
 |@cons p q ps qs h t ih=>
  rw[afq,afq];refine .cons ?_ ih;obtain⟨h1,h2⟩:=h;by_cases e:p.1=k;·rw[if_pos e,if_pos (h1.symm.trans e)];exact⟨h1,ry⟩
  ·rw[if_neg e,if_neg (λz=>e (h1.trans z))];exact⟨h1,h2⟩
def KV.put(r:KV AI vs)(k:κ)(ry:RelV y u):KV (putK AI k y) (stored vs k u):=by
 unfold putK stored;rw[r.any k];by_cases e:(vs.any λkv=>decide (kv.1=k))=true;·rw[if_pos e,if_pos e];exact r.acK k ry
 ·rw[if_neg e,if_neg e];exact Paired.snoc r ⟨RR,ry⟩
def KV.drop(r:KV AI vs)(k:κ):KV (Ud AI k) (without vs k):=by
 unfold Ud without;induction r with
 |nil=>exact .nil
 |@cons p q ps qs h t ih=>
  obtain⟨h1,h2⟩:=h;rw[agi,agi];by_cases e:p.1=k;·simp_all
  ·have e':¬q.1=k:=λz=>e (h1.trans z);have a:decide (p.1≠k)=true:=by simp[e]
   have b:decide (q.1≠k)=true:=by simp[e']
   rw[if_pos a,if_pos b];exact .cons ⟨h1,h2⟩ ih
def KV.length{vs:List (κ×Value)}(r:KV AI vs):AI.length=vs.length:=agD r
end
def zX(r:RelV (kV k) u):(B4 P w).is k u=true:=by
 cases k with
 |inl i=>obtain⟨t,e⟩:=(r);subst e;exact sY P w i t
 |inr x=>obtain⟨t,e⟩:=(r);subst e;exact sX P w x t
def qp:∀{ks:List Key}{us:Ay},Vals (ks.map kV) us->ItemsAre (B4 P w) ks us
 |[],_,r=>by cases r;exact .nil
 |k::ks,_,r=>by
  cases r with
  |cons h t=>exact .cons (zX h) (qp t)
abbrev KT(H:Hp):List (List Key×V)->List (List Key×Addr×Value)->Prop:=Paired λp q=>p.1=q.1/\H q.2.1=some (.tup (p.1.map kV))/\RelV p.2 q.2.2
def KT.val(r:KT H AI xs)(k:List Key):FV (HE AI k) ((atKey xs k).map (·.2)):=by
 induction r with
 |nil=>exact True.intro
 |@cons p q ps qs h t ih=>
  obtain⟨h1,_,h2⟩:=h;by_cases e:p.1=k
  ·have e':=h1.symm.trans e;have b:atKey (q::qs) k=some q.2:=by simp[atKey,e']
   rw[gZ e,b];exact h2
  ·have e':¬q.1=k:=λz=>e (h1.trans z);have b:atKey (q::qs) k=atKey qs k:=by simp[atKey,e']
   rw[g0 e,b];exact ih
def KT.acK(r:KT H AI xs)(k:List Key)(ry:RelV y u):
  KT H (AI.map λkv=>if kv.1=k then(kv.1,y)else kv) (xs.map (putAt k u)):=by
 induction r with
 |nil=>exact .nil
 |@cons p q ps qs h t ih=>
  rw[afq,afq];refine .cons ?_ ih;obtain⟨h1,h2,h3⟩:=h;unfold putAt;by_cases e:p.1=k;·rw[if_pos e,if_pos (h1.symm.trans e)];exact⟨h1,h2,ry⟩
  ·rw[if_neg e,if_neg (λz=>e (h1.trans z))];exact⟨h1,h2,h3⟩
def KT.put(r:KT H AI xs)(k:List Key)(hb:H b=some (.tup (k.map kV)))(ry:RelV y u):
  KT H (putK AI k y) (storedH xs k b u):=by
 have e:(AI.any λkv=>decide (kv.1=k))=(atKey xs k).isSome:=by rw[so,(r.val k).x9,Option.isSome_map]
 unfold putK storedH;rw[e];by_cases q:(atKey xs k).isSome=true;·rw[if_pos q,if_pos q];exact r.acK k ry
 ·rw[if_neg q,if_neg q];exact Paired.snoc r ⟨RR,hb,ry⟩
def KT.keeps(r:KT H AI xs)(ht:∀b ys,H b=some (.tup ys)->H' b=some (.tup ys)):KT H' AI xs:=
 Paired.adh r λ_ _ z=>⟨z.1,ht _ _ z.2.1,z.2.2⟩
def acp(ok:Fs P w H h)(e:Rd H a u):BW P w H h a u:=e.ok ok
def aaB(ok:Fs P w H h)(e:Rd H a (.dK AI)):AI.length<=sizeLine/\(a==sysModules)=false/\∃vs,KV AI vs/\h.DictOf (B4 P w) a vs:=
 acp ok e
def aeA(ok:Fs P w H h)(e:H a=some (.dK AI)):AI.length<=sizeLine/\(a==sysModules)=false/\∃vs,KV AI vs/\h.DictOf (B4 P w) a vs:=aaB ok (.inl e)
def uY(ok:Fs P w H h)(e:H a=some (.tup (ks.map kV))):(tupleKind (B4 P w)).is h ks a:=by obtain⟨_,its,r,o,h1,h2,n,h3⟩:=(ok a _ e);exact⟨o,its.toArray,n,h1,h2,h3,by simpa using qp r⟩
def aaz(ok:Fs P w H h)(e:Rd H a (.dT AI)):AI.length<=sizeLine/\(a==sysModules)=false/\
  ∃xs,KT H AI xs/\h.DictOfH (tupleKind (B4 P w)) a xs:=by
 obtain⟨z,y,xs,r,o,es,ep,h1,h2,h3,h4,h5⟩:=(acp ok e);refine⟨z,y,xs,r,o,es,ep,h1,h2,h3,h4,λx hx=>?_,h5⟩;have all:∀{l:List (List Key×V)}{m:List (List Key×Addr×Value)},KT H l m->∀x∈m,(tupleKind (B4 P w)).is h x.1 x.2.1:=by
  intro l m q;induction q with
  |nil=>intro x hx;exact nomatch hx
  |@cons p q ps qs hq t ih=>
   intro x hx;rcases ae5.mp hx with e|hx;·subst e;exact uY ok (by rw[<-hq.1];exact hq.2.1)
   ·exact ih x hx
 exact all r x hx
def aez(ok:Fs P w H h)(e:H a=some (.dT AI)):AI.length<=sizeLine/\(a==sysModules)=false/\
  ∃xs,KT H AI xs/\h.DictOfH (tupleKind (B4 P w)) a xs:=aaz ok (.inl e)
def ND(H:Hp)(a:Addr)(y:V)(r:Option V):Prop:=
 ((Au λAI k=>Av (Rd H a (.dK AI)) (y=kV k) (r=HE AI k)))\/(BL λAI k b=>BO (Rd H a (.dT AI)) (y= .ref b) (H b=some (.tup (k.map kV))) (r=HE AI k))
def Mm(H:Hp)(a:Addr)(y v:V)(H':Hp):Prop:=
 ((Au λAI k=>BO (H a=some (.dK AI)) (y=kV k) (AI.length<sizeLine) (H'=upd H a (.dK (putK AI k v)))))\/
 (BL λAI k b=>B9 (H a=some (.dT AI)) (y= .ref b) (H b=some (.tup (k.map kV))) (AI.length<sizeLine) (H'=upd H a (.dT (putK AI k v))))
def ND.t(e:H a=some (.dT AI))(eb:H b=some (.tup (k.map kV))):ND H a (.ref b) (HE AI k):=.inr ⟨AI,k,b,.inl e,RR,eb,RR⟩
def Mm.k{k:Key}(e:H a=some (.dK AI))(hl:AI.length<sizeLine):Mm H a (kV k) v (upd H a (.dK (putK AI k v))):=.inl ⟨AI,k,e,RR,hl,RR⟩
def Mm.t{k:List Key}(e:H a=some (.dT AI))(eb:H b=some (.tup (k.map kV)))(hl:AI.length<sizeLine):
  Mm H a (.ref b) v (upd H a (.dT (putK AI k v))):=.inr ⟨AI,k,b,e,RR,eb,hl,RR⟩
def Inv.big{σ:St}(I:Inv X pins σ H s):sysModules<s.hz:=by have h:=(I.mod.glob.keeps I.bk).lt;exact ahT (by decide) h
def yw{σ:St}(hu:A.units+1<cLine)(I:Inv X pins σ H s)(g:ND H a y (some v))(ry:RelV y u)(h:∀w' s',Inv X pins σ H s'->RelV v w'->Q w' s'):
  wpAny (model X.prog X.w) A (getItem (.ref a) u) Q E s:=by
 rcases g with⟨AI,k,e,ey,l⟩|⟨AI,k,b,e,ey,eb,l⟩;·subst ey;obtain⟨z,hd,vs,rel,dd⟩:=aaB I.AU e;obtain⟨w',hw,Mp⟩:=FV.some_of (v:=v) (o:=valueAt vs k) (by rw[l];exact rel.val k);exact wpAny_getItem_of (zX ry) dd.mapOf hw (h w' _ (I.tok _) Mp)
 ·subst ey;cases(show u=Value.ref b from ry);obtain⟨z,hd,xs,rel,dd⟩:=aaz I.AU e;obtain⟨w',hw,Mp⟩:=FV.some_of (v:=v) (by rw[l];exact rel.val k);obtain⟨p,hp,Mq⟩:=afL.mp hw;refine wpAny_getItem_heap (tupleKind_room_in1 hu) (uY I.AU eb) dd hp ?_;rw[Mq];exact h w' _ (I.tok _) Mp
def wN{σ:St}(I:Inv X pins σ H s)(mu:Vv (H a))(hs:Heap.SameBut a s.heap h')(he:∃q,h'.get? a=some q)(new:BW X.prog X.w (upd H a ob) h' a ob):
  Inv X pins σ (upd H a ob) {s with heap:=h',toks:=t'}:=
 I.write mu (.inl RR) (λb q hb z=>(hs.2 b hb).trans z) he new
def adT(z:AI.length<=sizeLine)(hd:(a==sysModules)=false)(rel:KV AI vs)(dd:h'.DictOf (B4 P w) a vs):
  BW P w H' h' a (.dK AI):=⟨z,hd,vs,rel,dd⟩
def yu{σ:St}(hu:A.units+1<cLine)(I:Inv X pins σ H s)(g:Mm H a y v H')(ry:RelV y u)(rv:RelV v r)(h:∀s',Inv X pins σ H' s'->Q () s'):
  wpAny (model X.prog X.w) A (setItem (.ref a) u r) Q E s:=by
 rcases g with⟨AI,k,e,ey,l,eH⟩|⟨AI,k,b,e,ey,eb,l,eH⟩
 ·subst ey eH;obtain⟨z,hd,vs,rel,dd⟩:=aeA I.AU e;have hz:vs.length<=sizeLine:=by rw[<-rel.length];exact z
  have hl:(putK AI k v).length<=sizeLine:=by have:=md AI k v;omega
  refine wpAny_setItem_pairs (hsz:=hz) (zX ry) dd λh' Yx hs=>h _ ?_;have he:∃q,h'.get? a=some q:=let⟨q,_,_,hq,_⟩:=Yx;⟨q,hq⟩;exact wN I (by rw[e];exact True.intro) hs he (adT hl hd (rel.put k rv) Yx)
 ·subst ey eH;cases(show u=Value.ref b from ry);obtain⟨z,hd,xs,rel,dd⟩:=aez I.AU e;have hz:xs.length<=sizeLine:=by rw[<-agD rel];exact z
  have hl:(putK AI k v).length<=sizeLine:=by have:=md AI k v;omega
  refine wpAny_setItem_heap (hsz:=hz) (tupleKind_room_in1 hu) (uY I.AU eb) dd λh' Yx hs=>h _ ?_;obtain⟨q,es,ep,hq,h2,h3,h4,_,h5⟩:=Yx;refine wN I (by rw[e];exact True.intro) hs ⟨q,hq⟩ ⟨hl,hd,_,(rel.put k eb rv).keeps λc ys ec=>?_,q,es,ep,hq,h2,h3,h4,h5⟩;rw[ai (gd ec e (λz=>nomatch z))];exact ec
def RL(i:Expr):Prop:=∀ov iv,subscripted i false ov iv=operate [ov,iv] (getItem ov iv)
def vU{id:String}
  (hl:typeLookup (.type T) "__getitem__" =pure (some (.builtin id)))(hs:RL slice)
  (h:wpAny (model prog w) A (eval value env) (λo s₁=>wpAny (model prog w) A (eval slice env) (λi s₂=>s₂.TypeIs o T/\wpAny (model prog w) A (getItem o i) Q E s₂) E s₁) E s):
  wpAny (model prog w) A (eval (.Subscript value slice pos) env) Q E s:=by
 refine Subscript_ (wpAny_mono h (λo s₁ h₁=>wpAny_mono h₁ (λi s₂ h₂=>?_) λ_ _ x=>x) λ_ _ x=>x);obtain⟨hT,h₂⟩:=h₂;refine wpAny_bind<|wpAny_bind (wpAny_specialOf hT hl ?_);have fin:wpAny (model prog w) A (subscripted slice false o i) (λr s₃=>wpAny (model prog w) A (letTemporaryGo value o r>>=λ_=>pure r) Q E s₃) E s₂:=by rw[hs o i];exact wpAny_operating (wpAny_mono h₂ (λr s₃ h₃=>wpAny_bind (wpAny_letTemporaryGo (wpAny_pure h₃))) λ_ _ x=>x)
 first
  |exact wpAny_pure (wpAny_bind fin)
  |exact wpAny_bind (wpAny_pure (wpAny_bind fin))
  |exact wpAny_bind fin
def t9{σ:St}(I:Inv X pins σ H s)(g:ND H a y o):s.TypeIs (.ref a) "dict" :=by
 rcases g with⟨AI,k,e,_⟩|⟨AI,k,b,e,_⟩;·obtain⟨_,_,vs,_,dd⟩:=aaB I.AU e;exact dd.typeIs
 ·obtain⟨_,_,xs,_,dd⟩:=aaz I.AU e;exact dd.typeIs
def Wb(td ty:TE):TE:=λσ H Q=>td σ H λx H1=>ty σ H1 λy H2=>(Au λa v=>Av (x= .ref a) (ND H2 a y (some v)) (Q v H2))
def Wt(td ty tv:TE):TS:=λD σ H=>tv σ H λv H1=>td σ H1 λx H2=>ty σ H2 λy H3=>(Au λa H4=>Av (x= .ref a) (Mm H3 a y v H4) (D.nx σ H4))
def abx(hu:X.A.units+1<cLine)(ho:PE X o td)(hi:PE X i ty)(hs:RL i):PE X (.Subscript o i pos) (Wb td ty):=by intro pins s σ H Q I h;refine vU ahi.lookup hs (c7 (ho pins s σ H _ I h) λu s1 x H1 I1 rx q1=>c7 (hi pins s1 σ H1 _ I1 q1) λiv s2 y H2 I2 ry q=>?_);obtain⟨a,v,ex,g,q2⟩:=q;subst ex;obtain rfl:u=Value.ref a:=rx;exact⟨t9 I2 g,yw hu I2 g ry λw' s3 I3 Mp=>⟨v,H2,I3,Mp,q2⟩⟩
def abm(hu:X.A.units+1<cLine)(ho:PE X o td)(hi:PE X i ty)(hv:PE X value tv)(hs:swapsWith value (some (.Subscript o i pos')) pos.line X.env=pure false):
  PS X (.Assign [.Subscript o i pos'] value pos) (Wt td ty tv):=by intro pins s σ H D I h;refine wpAny_Assign_Subscript (c7 (hv pins s σ H _ I h) λr s1 v H1 I1 rv q1=>c7 (ho pins s1 σ H1 _ I1 q1) λu s2 x H2 I2 rx q2=>c7 (hi pins s2 σ H2 _ I2 q2) λiv s3 y H3 I3 ry q=>?_) hs;obtain⟨a,H4,ex,g,q3⟩:=q;subst ex;obtain rfl:u=Value.ref a:=rx;exact yu hu I3 g ry rv λs4 I4=>⟨σ,H4,I4,q3⟩
def aaC(h:Heap)(hb:sysModules<h.objs.size):BW P w H (h.push {cls:=.type "dict",data:=.dict #[]}) h.objs.size (.dK []):=
 ⟨afk _,beq_eq_false_iff_ne.mpr (afA (afo hb)),[],.nil,Heap.DictOf.new h⟩
def aaA(h:Heap)(hb:sysModules<h.objs.size):BW P w H (h.push {cls:=.type "dict",data:=.dict #[]}) h.objs.size (.dT []):=
 ⟨afk _,beq_eq_false_iff_ne.mpr (afA (afo hb)),[],.nil,_,#[],0,ae4 _ RR,⟨RR,RR,RR⟩,RR,RR,ahN⟩
def Uv:TE:=λ_ H Q=>∀p,H p=none->Q (.ref p) (upd H p (.dK []))
def Uu:TE:=λ_ H Q=>∀p,H p=none->Q (.ref p) (upd H p (.dT []))
def zA:PE X (.Dict [] [] pos) Uv:=λpins s σ H Q I h=>
 wpAny_Dict_empty ⟨.ref s.hz,_,I.laid (λ_ _ q=>adx _ q) (ae8 _) (aaC s.heap I.big),RR,h _ (I.AU.fresh (ae8 _))⟩
def zz:PE X (.Dict [] [] pos) Uu:=λpins s σ H Q I h=>
 wpAny_Dict_empty ⟨.ref s.hz,_,I.laid (λ_ _ q=>adx _ q) (ae8 _) (aaA s.heap I.big),RR,h _ (I.AU.fresh (ae8 _))⟩
structure M1(X:Cx)(o:Expr)(m:Str)(apos:Pos)(e:Expr)(BN:Pos):Prop where
 base:attributeBase o m X.env (eval o X.env)=eval o X.env
 few:((backTo BN (starEach [e] X.env)).all (λx=>!x.1)&&(backToKw BN (keywordEach [] X.env)).all (λx=>x.1.isSome)
  &&decide (([e]:List Expr).length+([]:List Keyword).length+(if([]:List Keyword).isEmpty then 0 else 1)<30))=true
 line:(apos.endLine==BN.line)=true
 trees:backTo BN (starEach [e] X.env)=[(false,eval e X.env)]
structure M2(X:Cx)(o:Expr)(m:Str)(apos:Pos)(e f:Expr)(BN:Pos):Prop where
 base:attributeBase o m X.env (eval o X.env)=eval o X.env
 few:((backTo BN (starEach [e,f] X.env)).all (λx=>!x.1)&&(backToKw BN (keywordEach [] X.env)).all (λx=>x.1.isSome)
  &&decide (([e,f]:List Expr).length+([]:List Keyword).length+(if([]:List Keyword).isEmpty then 0 else 1)<30))=true
 line:(apos.endLine==BN.line)=true
 trees:backTo BN (starEach [e,f] X.env)=[(false,eval e X.env),(false,eval f X.env)]
def v9:∀{ps:Ax}{us:Ay},Vals (ps.map V.ref) us->us=ps.map Value.ref
 |[],us,r=>by cases r;rfl
 |p::ps,us,r=>by
  cases r with
  |cons h t=>cases h;rw[afq,<-v9 t]
def Inv.qK{σ:St}{ch:Ax}(I:Inv X pins σ H s)(k:∀b o,b∉ch->s.heap.get? b=some o->h'.get? b=some o)(hf:∀b∈ch,DW X pins H b):Inv X pins σ H {s with heap:=h',toks:=t'}:=by
 have TV:∀b u,H b=some u->b∉ch:=λb u e z=>by have q:=(hf b z).1;rw[q]at e;cases e
 refine I.step (λb hb=>⟨(hf b hb).2.2.2.1,(hf b hb).2.1,(hf b hb).2.2.2.2.1,(hf b hb).2.2.2.2.2⟩) (λb o _ _ hc e _=>k b o hc e) (λb o _ _ hc e _=>⟨o.slots,k b o hc e⟩)
  (λ_ _ _ _ n=>n) (λb o hc e=>⟨o,k b o hc e⟩) (λ_ _ e=>e) (λ_ _ _ e=>e) (λb ps e=>⟨#[],by rw[e];simp⟩) (λm hm=>?_) (λb u e=>?_) I.bare;·obtain⟨o,es,ep,ho,r⟩:=hm;exact⟨o,es,ep,k _ o (λz=>(hf _ z).2.1 RR) ho,r⟩
 ·refine(I.AU b u e).oX (λc v hc q=>k c v ?_ q) (λ_ q=>q) λ_ _ q=>q;rcases hc with z|z;·rw[z];exact TV b u e
  ·exact TV c _ z
def Inv.iL{σ:St}{ch:Ax}{T:Addr}(I:Inv X pins σ H s)(k:∀b o,b∉ch->s.heap.get? b=some o->h'.get? b=some o)(hf:∀b∈ch,DW X pins H b)(hT:s.hz<=T)
  (new:BW X.prog X.w (upd H T ob) h' T ob):Inv X pins σ (upd H T ob) {s with heap:=h',toks:=t'}:=by
 have hn:H T=none:=I.AU.fresh hT;have TV:∀b u,H b=some u->b∉ch:=λb u e z=>by have q:=(hf b z).1;rw[q]at e;cases e
 refine I.step (g':=s.gens) (d':=s.drawn) (ch:=ch) (λb hb=>⟨(hf b hb).2.2.2.1,(hf b hb).2.1,(hf b hb).2.2.2.2.1,(hf b hb).2.2.2.2.2⟩) (λb o _ _ hc e _=>k b o hc e) (λb o _ _ hc e _=>⟨o.slots,k b o hc e⟩)
  (λb o _ e n=>?_) (λb o hc e=>⟨o,k b o hc e⟩) (λb xs e=>?_) (λb o u e=>?_) (λb ps e=>⟨#[],?_⟩) (λm hm=>?_) (λb u e=>?_) I.bare;·rw[ai (afo (ae9 (ae7 e) hT))];exact n
 ·rw[ai (ak e hn)];exact e
 ·rw[ai (ak e hn)];exact e
 ·rw[ai (ak e hn),e];simp
 ·obtain⟨o,es,ep,ho,r⟩:=hm;exact⟨o,es,ep,k _ o (λz=>(hf _ z).2.1 RR) ho,r⟩
 ·by_cases hb:b=T;·subst hb;rw[ae]at e;cases e;exact new
  ·rw[ai hb]at e;refine(I.AU b u e).oX (λc v hc q=>k c v ?_ q) (λc q=>by rw[ai (ak q hn)];exact q) λc xs q=>by rw[ai (ak q hn)];exact q
   rcases hc with z|z;·rw[z];exact TV b u e
   ·exact TV c _ z
def Inv.lock{σ:St}(I:Inv X pins σ H s)(h:H d=some u)(mu:Vv (some u)):∃od,Inv X pins σ (upd H d (.FN od u)) s:=by
 have x:=I.AU d u h;have ex:∃od,s.heap.get? d=some od:=by
  cases u with
  |lst xs=>obtain⟨_,_,_,_,e⟩:=x;exact⟨_,e⟩
  |dK AI=>obtain⟨_,_,_,_,o,_,_,e,_⟩:=x;exact⟨o,e⟩
  |dT AI=>obtain⟨_,_,_,_,o,_,_,e,_⟩:=x;exact⟨o,e⟩
  |set S n=>obtain⟨o,_,_,_,e,_⟩:=x;exact⟨o,e⟩
  |ins C dx fs=>obtain⟨_,_,_,e,_⟩:=x;exact⟨_,e⟩
  |ext φ=>obtain⟨_,⟨_,e⟩,_⟩:=x;exact⟨_,e⟩
  |_=>exact False.elim mu
 obtain⟨od,e⟩:=ex;have new:BW X.prog X.w (upd H d (.FN od u)) s.heap d (.FN od u):=by
  refine⟨e,x.oX (λb v _ q=>q) (λb q=>?_) λb xs q=>?_⟩;·rw[ai (λz=>by rw[z,h]at q;cases q;exact mu)];exact q
  ·rw[ai (λz=>by rw[z,h]at q;cases q;exact mu)];exact q
 exact⟨od,I.write (x:=d) (e:=d) (h':=s.heap) (by rw[h];exact mu) (.inl RR) (λb v _ q=>q) ⟨od,e⟩ new⟩
def qX{σ:St}(I:Inv X pins σ H s)(o:Obj)
  (T:Turn X.prog X.w X.K tg J [s.hz] s.hz tn)(st:tn 0 (s.heap.push o))(q:R J H):Yz X pins σ tg R (.ref s.hz) {s with heap:=s.heap.push o,toks:=tk}:=by
 refine⟨s.hz,[s.hz],tn,J,H,RR,I.kept λb ob e=>adx _ e,T,st,λb hb=>?_,q⟩;have e:b=s.hz:=by simpa using hb
 subst e;exact I.oa (ae8 _) (I.AU.fresh (ae8 _))
def RgC(i j c:Int)(n:Nat):Prop:=c≠0/\c.natAbs<1073741824/\Builtin.Range.small i j c=true/\Builtin.Range.rangeSize i j c=n
def RgC.neg(ha: -(2^62)<=i)(ha':i<2^62)(hb: -(2^62)<=j)(HD:j<2^62):RgC i j (-1) (i-j).toNat:=
 ⟨by decide,by decide,PySem.W.small_down ha ha' hb HD,PySem.W.rangeSize_downNat i j⟩
def Its(x:Str):It:=⟨λi _=>i<x.cps.size,λi H v H'=>H'=H/\∃c,x.cps[i]? =some c/\v= .str ⟨#[c]⟩,λi _=>x.cps.size<=i⟩
def sr(it:Addr)(x:Str)(t:Tok)(ty:String)(OH:ty= "str_ascii_iterator" \/ty= "str_iterator"):
  Turn P w kK tg (Its x) [it] it (λi h=>h.IsStrIter it ty x t i) where
 mem:=by simp
 obj:=λi h st b hb=>by
  have e:b=it:=by simpa using hb
  subst e;obtain⟨o,e,c,d⟩:=st;exact⟨o,e,λv z=>by rw[d]at z;cases z⟩
 keep:=λi h h' st k=>let⟨o,ho,r⟩:=st;⟨o,k it (by simp) o ho,r⟩
 item:=by
  intro X hP hw hK hc i pins s σ H E I hf st hg;subst hP hw hK;obtain⟨f0,f1,f2,f3,f4,f5⟩:=hf it (by simp);have W:Walks X.prog X.w X.A it [it] [it] x.cps.size (SignAt x) (λi h=>h.IsStrIter it ty x t i):=by
   rcases OH with e|e;·rw[e];exact Walks.strAscii (I.ok.hd hc) it x t
   ·rw[e];exact Walks.strWide (I.ok.hd hc) it x t
  have Z4:["enumerate","zip","dict_itemiterator","dict_reverseitemiterator","odict_iterator","itertools.zip_longest","itertools.pairwise"].contains ty=false:=by
   rcases OH with e|e;·rw[e];decide
   ·rw[e];decide
  refine W.item i s _ _ hg st λv h' tk hv Mt kk=>?_;obtain⟨c,u,Xg,rfl⟩:=hv;have I1:Inv X pins σ H {s with heap:=h',toks:=tk}:=I.turned (λb o hb e=>kk b o (by simpa using hb) e) f0 f1 f3 f4 f5;obtain⟨oi,e,cc,dd⟩:=id Mt;exact⟨_,RR,qv (s:={s with heap:=h',toks:=tk}) e cc dd Z4 ⟨.str ⟨#[c]⟩,H,I1,⟨u,RR⟩,⟨RR,c,Xg,RR⟩,Mt,λb hb=>(hf b hb).1⟩⟩
 done:=by
  intro X hP hw hK hc i pins s σ H E I hf st hg;subst hP hw hK;obtain⟨f0,f1,f2,f3,f4,f5⟩:=hf it (by simp);have hx:x.cps[i]? =none:=ahD hg;rcases OH with e|e;·rw[e]at st;exact wpAny_pyNext_ascii_end (I.ok.hd hc) st hx λh' eb=>⟨RR,I.turned (t':=s.toks) (λb o hb e=>eb b o hb e) f0 f1 f3 f4 f5⟩
  ·rw[e]at st;exact wpAny_pyNext_wide_end (I.ok.hd hc) st hx λh' eb=>⟨RR,I.turned (t':=s.toks) (λb o hb e=>eb b o hb e) f0 f1 f3 f4 f5⟩
 self:=λA i s Q E st h=>by
  rcases OH with e|e;·rw[e]at st;exact wpAny_pyIter_striter_ascii st h
  ·rw[e]at st;exact wpAny_pyIter_striter_wide st h
def ZF(te:TE):TI:=λσ H R=>te σ H λv H1=>∃x,v= .str x/\R (Its x) H1
def acV(he:PE X e te):PI X tg e (ZF te):=by
 intro pins s σ H R I h;refine c7 (he pins s σ H _ I h) λv s1 y H1 I1 r1 q=>?_;obtain⟨x,ex,q⟩:=q;subst ex;obtain⟨t,rfl⟩:=r1;cases ha:x.cps.all (·<128);·exact wpAny_pyIter_wide ha (qX I1 _ (sr _ x t "str_iterator" (.inr RR)) ⟨_,ae4 _ RR,RR,RR⟩ q)
 ·exact wpAny_pyIter_ascii ha (qX I1 _ (sr _ x t "str_ascii_iterator" (.inl RR)) ⟨_,ae4 _ RR,RR,RR⟩ q)
def qo(hd:(d==sysModules)=false)(ho:s.heap.get? d=some o)(hc:o.ExactDict)(Xe:o.data= .dict es ep)
  (hQ:Q (.ref s.hz) {s with heap:=s.heap.push {cls:=.type "dict_keyiterator",data:=.fields #[.ref d,.int 0 0,.int es.size 0,.int ep 0]}}):
  wpAny (model prog w) A (pyIter (.ref d)) Q E s:=by have hT:s.TypeIs (.ref d) "dict" :=⟨o,ho,hc.1⟩;refine wpAny_pyIter_slot hT F.slot_dict_iter (wpAny_call_entry F.slot_dict_iter hT F.entry_dict_iter ?_ (F.args_dict_iter_1 _));refine wpAny_bind ?_;unfold Builtin.Dict.dictSlotNone;refine wpAny_bind (wpAny_notOrdered_dict hT ?_);refine wpAny_pure ?_;show wpAny _ _ (Builtin.Dict.showsAll d>>=_) _ _ s;unfold Builtin.Dict.showsAll;rw[if_neg (by simp_all)];refine wpAny_bind (wpAny_pure ?_);refine wpAny_bind (wpAny_dictEntries ho Xe ?_);refine wpAny_bind (wpAny_dictEpoch ho Xe ?_);refine wpAny_bind (wpAny_newObj_type (wpAny_pure ⟨_,RR,"dict_keyiterator",_,⟨_,ae4 _ RR,RR⟩,afR.lookup,?_⟩));simpa[rawInt]using hQ
def pd(hit:s.heap.IsKeyIter it d i n ep)(M5:s.heap.get? d=some od)(Xd:od.data= .dict es ep)
  (hsz:es.size=n)(hx:es[i]? =some en)(hQ:∀h',h'.IsKeyIter it d (i+1) n ep->Heap.SameBut it s.heap h'->Q (some en.key) {s with heap:=h'}):wpAny (model prog w) A (pyNext (.ref it)) Q E s:=by
 obtain⟨o,ho,hc,hd⟩:=id hit;unfold pyNext;refine wpAny_bind (wpAny_attempt (wpAny_callSpecial?_slot (name:=Str.ofString "__next__") hit.typeIs afR
  (wpAny_call_entry afR hit.typeIs agU ?_ (agS _))));refine wpAny_bind (wpAny_pure ?_);refine wpAny_bind ?_;refine wpAny_bind ?_;first|refine wpAny_bind (wpAny_typeNameOfWhole_keyiter hit.typeIs (wpAny_pure ?_))|refine wpAny_bind (wpAny_typeNameOf_keyiter hit.typeIs (wpAny_pure ?_))
 refine wpAny_bind (wpAny_fieldsOf ho hd ?_);have U7:Builtin.Dict_items.ownsTuple "dict_keyiterator" =false:=by decide
 simp only[U7,agd,if_false];show wpAny _ _ (if(Value.ref d==Value.none)=true then _ else _) _ _ s;refine wpAny_bind (wpAny_pure ?_);refine wpAny_bind (wpAny_dictEntries M5 Xd ?_);rw[if_neg (by rw[hsz];simp)];refine wpAny_bind (wpAny_pure ?_);refine wpAny_bind (wpAny_dictEpoch M5 Xd ?_);rw[if_neg (by simp)];refine wpAny_pure ?_;obtain⟨KI,Vc⟩:=Array.getElem?_eq_some_iff.mp hx;simp only[show¬((i:Int)<0)from by omega,if_false,af2,ahj KI];refine wpAny_bind ?_;first|refine wpAny_bind (wpAny_typeNameOfWhole_keyiter hit.typeIs (wpAny_pure ?_))|refine wpAny_bind (wpAny_typeNameOf_keyiter hit.typeIs (wpAny_pure ?_))
 refine wpAny_bind (wpAny_isOneOf_keyiter hit.typeIs ?_);show wpAny _ _ (setField (.ref it) 1 (rawInt ((i:Int)+1))>>=_) _ _ s;refine wpAny_bind (wpAny_setField ho hd (by simp) ?_);have S_:(s.heap.update it (Obj.mapFields (·.setIfInBounds 1 (rawInt ((i:Int)+1))))).IsKeyIter it d (i+1) n ep:=
  ⟨_,ago _ ho (Obj.isFreed_of_fields (Obj.data_mapFields hd _)),(Obj.cls_mapFields ..).trans hc,by rw[Obj.data_mapFields hd];simp[rawInt]⟩;refine wpAny_bind (wpAny_holding ?_);refine wpAny_bind (wpAny_isOneOf_keyiter S_.typeIs ?_);show wpAny _ _ (pure es[i].key) _ _ _;rw[Vc];exact wpAny_pure (wpAny_pure ⟨_,RR,wpAny_pure (hQ _ S_ (agA ..))⟩)
def j8(hh:A.handled=none)(hit:s.heap.IsKeyIter it d i n ep)(M5:s.heap.get? d=some od)(Xd:od.data= .dict es ep)
  (hsz:es.size=n)(W_:n<=i)(hQ:∀h',Heap.ExtBut it s.heap h'->Q none {s with heap:=h'}):wpAny (model prog w) A (pyNext (.ref it)) Q E s:=by
 obtain⟨o,ho,hc,hd⟩:=id hit;unfold pyNext;refine wpAny_bind (wpAny_attempt (wpAny_callSpecial?_slot (name:=Str.ofString "__next__") hit.typeIs afR
  (wpAny_call_entry afR hit.typeIs agU ?_ (agS _))));refine wpAny_bind (wpAny_pure ?_);refine wpAny_bind ?_;refine wpAny_bind ?_;first|refine wpAny_bind (wpAny_typeNameOfWhole_keyiter hit.typeIs (wpAny_pure ?_))|refine wpAny_bind (wpAny_typeNameOf_keyiter hit.typeIs (wpAny_pure ?_))
 refine wpAny_bind (wpAny_fieldsOf ho hd ?_);have U7:Builtin.Dict_items.ownsTuple "dict_keyiterator" =false:=by decide
 simp only[U7,agd,if_false];refine wpAny_bind (wpAny_pure ?_);refine wpAny_bind (wpAny_dictEntries M5 Xd ?_);rw[if_neg (by rw[hsz];simp)];refine wpAny_bind (wpAny_pure ?_);refine wpAny_bind (wpAny_dictEpoch M5 Xd ?_);rw[if_neg (by simp)];refine wpAny_pure ?_;have Aaa:es.size<=i:=by rw[hsz];exact W_
 simp only[show¬((i:Int)<0)from by omega,if_false,af2,ahD Aaa];refine wpAny_bind ?_;first|refine wpAny_bind (wpAny_typeNameOfWhole_keyiter hit.typeIs (wpAny_pure ?_))|refine wpAny_bind (wpAny_typeNameOf_keyiter hit.typeIs (wpAny_pure ?_))
 show wpAny _ _ (setField (.ref it) 0 .none>>=_) _ _ s;refine wpAny_bind (wpAny_setField ho hd (by simp) ?_);refine wpAny_bind ?_;simp only[newExc,newTuple];refine wpAny_bind (wpAny_newObj_type ?_ (by size_fits));refine wpAny_bind (m:=firstArgMember _ _) (wpAny_of_eq (a:=Value.none) (by first|rfl|(simp only[firstArgMember];rfl)) ?_);refine wpAny_newObj_type ?_ (by size_fits);simp only[raiseNew];refine wpAny_bind (wpAny_handled ?_);rw[show A.in1.handled=none from hh];refine wpAny_bind (wpAny_pure (wpAny_throw ?_));refine wpAny_bind (wpAny_isInstance (T:="StopIteration") (b:=true) ⟨_,ae4 _ RR,RR⟩ isSubtype_stop ?_);exact wpAny_pure (hQ _ (((agA ..).extBut.push _).push _))
def adn{vs:List (κ×Value)}(h:KV AI vs):∀{i:Nat}{k:κ}{v:V},AI[i]? =some (k,v)->∃u,vs[i]? =some (k,u)/\RelV v u:=by
 induction h with
 |nil=>intro i k v e;simp at e
 |@cons a b l₁ l₂ r t ih=>
  intro i k v e;cases i with
  |zero=>simp only[List.getElem?_cons_zero,Option.some.injEq]at e;subst e;refine⟨b.2,?_,r.2⟩;exact congrArg some (Prod.ext r.1.symm RR)
  |succ j=>exact ih e
def uI{l₁:List α}{l₂:List β}(h:Paired G l₁ l₂):∀{i:Nat}{a:α},l₁[i]? =some a->∃b,l₂[i]? =some b/\G a b:=by
 induction h with
 |nil=>intro i a e;simp at e
 |@cons a b l₁ l₂ r t ih=>
  intro i a' e;cases i with
  |zero=>simp_all
  |succ j=>exact ih e
def zf(h:IA k u=true):RelV (kV k) u:=by
 rcases bD h with⟨i,t,rfl,rfl⟩|⟨x,t,rfl,rfl⟩;·exact⟨t,RR⟩
 ·exact⟨t,RR⟩
def Inv.adB{σ:St}(I:Inv X pins σ H s)(h:H d=some (.FN o (.dK AI))):
  (d==sysModules)=false/\s.heap.get? d=some o/\o.ExactDict/\(BL λ(es:Array DictEntry) (ep:Nat) (vs:List (Key×Value))=>BO (o.data= .dict es ep) (es.size=AI.length) (KV AI vs) (s.heap.DictAt (B4 X.prog X.w) d vs ep)):=by obtain⟨hd,z,hs,vs,kv,o',es,ep,ho,hx,KJ,r⟩:=I.AU d _ h;rw[hd]at ho;cases ho;refine⟨hs,hd,hx,es,ep,vs,KJ,?_,kv,o,es,hd,hx,KJ,r⟩;have l1:=r.2.1.length;have l2:=agD kv;rw[afU]at l1;omega
def Inv.adA{σ:St}(I:Inv X pins σ H s)(h:H d=some (.FN o (.dT AI))):
  (d==sysModules)=false/\s.heap.get? d=some o/\o.ExactDict/\(Au λ(es:Array DictEntry) (ep:Nat)=>Av (o.data= .dict es ep) (es.size=AI.length) (∀(i:Nat)(k:List Key)(v:V),AI[i]? =some (k,v)->(Au λ(en:DictEntry) (q:Addr)=>Av (es[i]? =some en) (en.key= .ref q) (H q=some (.tup (k.map kV)))))):=by
 obtain⟨hd,z,hs,xs,pr,o',es,ep,ho,hx,KJ,he,_⟩:=I.AU d _ h;rw[hd]at ho;cases ho;refine⟨hs,hd,hx,es,ep,KJ,?_,λi k v e=>?_⟩;·have l1:=size_of_entries he;have l2:=agD pr;omega
 ·obtain⟨b,hb,e1,e2,_⟩:=uI pr e;have q:=entry_at he i;rw[hb]at q;exact⟨_,b.2.1,q,RR,e2⟩
def YD(d:Addr)(o:Obj)(AI:List (Key×V)):It:=
 ⟨λi H=>H d=some (.FN o (.dK AI))/\i<AI.length,λi H x H'=>H'=H/\(Au λk v=>AI[i]? =some (k,v)/\x=kV k),λi H=>H d=some (.FN o (.dK AI))/\AI.length<=i⟩
def Vy(d:Addr)(o:Obj)(AI:List (List Key×V)):It:=
 ⟨λi H=>H d=some (.FN o (.dT AI))/\i<AI.length,λi H x H'=>H'=H/\(BL λ(k:List Key) (v:V) (q:Addr)=>Av (AI[i]? =some (k,v)) (x= .ref q) (H q=some (.tup (k.map kV)))),λi H=>H d=some (.FN o (.dT AI))/\AI.length<=i⟩
def mT{o:Obj}(h:o.data= .dict es ep)(h':o.data= .dict PX Sa):PX=es/\Sa=ep:=by grind
def xi(it:Addr)(M5:o.data= .dict es ep):Turn P w kK tg (YD d o AI) [it] it (λi h=>h.IsKeyIter it d i AI.length ep) where
 mem:=by simp
 obj:=λi h st b hb=>by
  have e:b=it:=by simpa using hb
  subst e;obtain⟨oi,e,c,dd⟩:=st;exact⟨oi,e,λv z=>by rw[dd]at z;cases z⟩
 keep:=λi h h' st k=>st.at λoi e=>k it (by simp) oi e
 item:=by intro X hP hw hK hc i pins s σ H E I hf st hg;subst hP hw hK;obtain⟨hd,hi⟩:=hg;obtain⟨f0,f1,f2,f3,f4,f5⟩:=hf it (by simp);obtain⟨hs,R6,hx,PX,Sa,vs,KJ,hsz,kv,hm⟩:=I.adB hd;obtain⟨rfl,rfl⟩:=mT M5 KJ;obtain⟨⟨k,v⟩,W8⟩:∃p,AI[i]? =some p:=⟨AI[i],afu hi⟩;obtain⟨u,hu,ru⟩:=adn kv W8;have hl:AI.length=vs.length:=agD kv;rw[hl]at st;refine wpAny_pyNext_dict_item st hm hu λkey h' Ro Mt sb=>?_;have I1:Inv X pins σ H {s with heap:=h'}:=I.turned (t':=s.toks) (λb ob hb e=>(sb.2 b hb).trans e) f0 f1 f3 f4 f5;obtain⟨oi,e,c,dd⟩:=id Mt;refine⟨key,RR,qv (s:={s with heap:=h'}) e c dd (by decide) ⟨kV k,H,I1,zf (show IA k key=true from Ro),⟨RR,k,v,W8,RR⟩,?_,λb hb=>(hf b hb).1⟩⟩;rw[hl];exact Mt
 done:=by intro X hP hw hK hc i pins s σ H E I hf st hg;subst hP hw hK;obtain⟨hd,hi⟩:=hg;obtain⟨f0,f1,f2,f3,f4,f5⟩:=hf it (by simp);obtain⟨hs,R6,hx,PX,Sa,vs,KJ,hsz,kv,hm⟩:=I.adB hd;obtain⟨rfl,rfl⟩:=mT M5 KJ;exact j8 (I.ok.hd hc) st R6 KJ hsz hi λh' eb=>⟨RR,I.turned (t':=s.toks) (λb ob hb e=>eb b ob hb e) f0 f1 f3 f4 f5⟩
 self:=λA i s Q E st h=>wpAny_pyIter_keyiter st h
def uA(it:Addr)(M5:o.data= .dict es ep):Turn P w kK tg (Vy d o AI) [it] it (λi h=>h.IsKeyIter it d i AI.length ep) where
 mem:=by simp
 obj:=λi h st b hb=>by
  have e:b=it:=by simpa using hb
  subst e;obtain⟨oi,e,c,dd⟩:=st;exact⟨oi,e,λv z=>by rw[dd]at z;cases z⟩
 keep:=λi h h' st k=>st.at λoi e=>k it (by simp) oi e
 item:=by intro X hP hw hK hc i pins s σ H E I hf st hg;subst hP hw hK;obtain⟨hd,hi⟩:=hg;obtain⟨f0,f1,f2,f3,f4,f5⟩:=hf it (by simp);obtain⟨hs,R6,hx,PX,Sa,KJ,hsz,ent⟩:=I.adA hd;obtain⟨rfl,rfl⟩:=mT M5 KJ;obtain⟨⟨k,v⟩,W8⟩:∃p,AI[i]? =some p:=⟨AI[i],afu hi⟩;obtain⟨en,q,Vc,Ro,hq⟩:=ent i k v W8;refine pd st R6 KJ hsz Vc λh' Mt sb=>?_;have I1:Inv X pins σ H {s with heap:=h'}:=I.turned (t':=s.toks) (λb ob hb e=>(sb.2 b hb).trans e) f0 f1 f3 f4 f5;obtain⟨oi,e,c,dd⟩:=id Mt;exact⟨en.key,RR,qv (s:={s with heap:=h'}) e c dd (by decide) ⟨.ref q,H,I1,Ro,⟨RR,k,v,q,W8,RR,hq⟩,Mt,λb hb=>(hf b hb).1⟩⟩
 done:=by intro X hP hw hK hc i pins s σ H E I hf st hg;subst hP hw hK;obtain⟨hd,hi⟩:=hg;obtain⟨f0,f1,f2,f3,f4,f5⟩:=hf it (by simp);obtain⟨hs,R6,hx,PX,Sa,KJ,hsz,ent⟩:=I.adA hd;obtain⟨rfl,rfl⟩:=mT M5 KJ;exact j8 (I.ok.hd hc) st R6 KJ hsz hi λh' eb=>⟨RR,I.turned (t':=s.toks) (λb ob hb e=>eb b ob hb e) f0 f1 f3 f4 f5⟩
 self:=λA i s Q E st h=>by refine wpAny_pyIter_slot st.typeIs ag1 (wpAny_call_entry ag1 st.typeIs F.entry_dict_keyiterator_iter ?_ (F.args_dict_keyiterator_iter_1 _));show wpAny _ _ (ret (.ref it)) _ _ s;exact wpAny_pure ⟨_,RR,"dict_keyiterator",_,st.typeIs,afR.lookup,h⟩
def WR(td:TE):TI:=λσ H R=>td σ H λx H1=>(Au λd o=>x= .ref d/\((∃AI,H1 d=some (.FN o (.dK AI))/\R (YD d o AI) H1)\/∃AI,H1 d=some (.FN o (.dT AI))/\R (Vy d o AI) H1))
def abr(he:PE X e td):PI X tg e (WR td):=by
 intro pins s σ H R I h;refine c7 (he pins s σ H _ I h) λu s1 x H1 I1 rx q=>?_;obtain⟨d,o,ex,q⟩:=q;subst ex;obtain rfl:u=Value.ref d:=rx;rcases q with⟨AI,hd,q⟩|⟨AI,hd,q⟩;·obtain⟨hs,R6,hx,es,ep,vs,KJ,hsz,kv,hm⟩:=I1.adB hd;refine qo hs R6 hx KJ (qX I1 _ (xi _ KJ) ⟨_,ae4 _ RR,RR,?_⟩ q);rw[hsz]<;>rfl
 ·obtain⟨hs,R6,hx,es,ep,KJ,hsz,ent⟩:=I1.adA hd;refine qo hs R6 hx KJ (qX (tk:=s1.toks) I1 _ (uA _ KJ) ⟨_,ae4 _ RR,RR,?_⟩ q);rw[hsz]<;>rfl
def YE(K:Frag)(a:Addr):It:=
 ⟨λi H=>(Au λ(xs:List V) (x:V)=>Aj K H a xs/\xs[i]? =some x),λi H v H'=>(Au λT x=>BO (v= .ref T) (H T=none) (H'=upd H T (.tup [.int (i:Nat),x])) (∀xs,Aj K H a xs->xs[i]? =some x)),λi H=>∃xs:List V,Aj K H a xs/\xs.length<=i⟩
def xj(a e it:Addr):
  Turn P w kK (.Tuple elts kk Fl) (YE kK a) [e,it] e (λi h=>(∃old,IsEnum h e it ((i:Nat):Int) old)/\h.IsListIter it a i/\e≠it) where
 mem:=by simp
 obj:=λi h st b hb=>by
  obtain⟨⟨old,he⟩,⟨o,ho,hc,hd⟩,_⟩:=st;have e':b=e\/b=it:=by simpa using hb
  rcases e' with z|z;·rw[z];exact⟨_,he,λv q=>nomatch q⟩
  ·rw[z];exact⟨o,ho,λv q=>by rw[hd]at q;cases q⟩
 keep:=λi h h' st k=>let⟨⟨old,he⟩,hi,AW⟩:=st;⟨⟨old,k e (by simp) _ he⟩,hi.at λo q=>k it (by simp) o q,AW⟩
 item:=by
  intro X hP hw hK hc i pins s σ H E I hf st hg;subst hP hw hK;obtain⟨⟨old,he⟩,hit,AW⟩:=st;obtain⟨xs,x,hq,hx⟩:=hg;obtain⟨its,rv,p,hz⟩:=I.list hq;obtain⟨u,hu,ru⟩:=rv.get hx;have Xc:e<s.hz:=ae7 he;have L4:it<s.hz:=by obtain⟨_,q,_⟩:=hit;exact ae7 q
  refine wpAny_pyNext_enum_item he hit p.isList (x:=u) (by simpa using hu) AW λh' ho S_ hT hsz hk=>?_;refine⟨_,RR,wpAny_letOwnedTupleGo_enum (s:={s with heap:=h',toks:=s.toks+1}) ho λOM T8 sb=>?_⟩;have Vh:=(sb.2 _ (agh Xc)).trans hT;have new:BW X.prog X.w (upd H s.hz (.tup [.int (i:Nat),x])) OM s.hz (.tup [.int (i:Nat),x]):=
   ⟨cQ,[.int i s.toks,u],.cons ⟨_,RR⟩ (.cons ru .nil),⟨_,Vh,RR,_,RR⟩⟩;have I1:Inv X pins σ (upd H s.hz (.tup [.int (i:Nat),x])) {s with heap:=OM,toks:=s.toks+1}:=
   I.iL (ch:=[e,it]) (λb ob hb q=>(sb.2 b (λz=>hb (by simp[z]))).trans (hk b ob (λz=>hb (by simp[z])) (λz=>hb (by simp[z])) q)) hf (ae8 _) new;refine⟨.ref s.hz,_,I1,RR,⟨_,x,RR,I.AU.fresh (ae8 _),RR,λys hy=>by rw[I.dS hy hq];exact hx⟩,⟨⟨u,?_⟩,S_.at λo q=>(sb.2 it (afA AW)).trans q,AW⟩,λb hb=>?_⟩
  ·have e1:((i+1:Nat):Int)=(i:Int)+1:=by omega
   rw[e1];exact T8
  ·have HD:b<s.hz:=by
    have e':b=e\/b=it:=by simpa using hb
    rcases e' with z|z;·rw[z];exact Xc
    ·rw[z];exact L4
   rw[ai (afo HD)];exact(hf b hb).1
 done:=by intro X hP hw hK hc i pins s σ H E I hf st hg;subst hP hw hK;obtain⟨⟨old,he⟩,hit,AW⟩:=st;obtain⟨xs,hq,hx⟩:=hg;obtain⟨its,rv,p,hz⟩:=I.list hq;obtain⟨f0,f1,f2,f3,f4,f5⟩:=hf it (by simp);have hl:=rv.length;exact wpAny_pyNext_enum_end (I.ok.hd hc) he hit p.isList (by simp;omega) λh' eb=>⟨RR,I.turned (t':=s.toks) (λb o hb q=>eb b o hb q) f0 f1 f3 f4 f5⟩
 self:=λA i s Q E st h=>let⟨⟨_,he⟩,_⟩:=st;wpAny_pyIter_enum he h
def WS(K:Frag)(ta:TA):TI:=λσ H R=>ta σ H λvs H1=>(Au λa xs=>Av (vs=[.ref a]) (Aj K H1 a xs) (R (YE K a) H1))
def abt(hg:Gl X "enumerate")(hm:X.mg "enumerate" =none)(ha:PA X [e] ta)(hs:starEach [e] X.env=[(false,eval e X.env)]:=by rfl):
  PI X (.Tuple elts kk Fl) (.Call (.Name "enumerate" p) [e] [] pos) (WS X.K ta):=by
 intro pins s σ H R I h;refine Call_ (fS I hg hm boot_enumerate (afP (oW (ha pos pins s σ H _ I h) λus s1 vs H1 I1 r1 q1=>?_) hs RR));obtain⟨a,xs,ex,hq,q⟩:=q1;subst ex;cases r1 with
 |cons r rr=>
  cases rr;cases r;obtain⟨its,rv,p',hz⟩:=I1.list hq;refine call_enumerate_list p'.isList λh' he hit hsz hk=>wpAny_pyIter_enum he ?_;have I2:=I1.kept (t':=s1.toks) hk;refine⟨s1.hz+1,[s1.hz+1,s1.hz],_,_,H1,RR,I2,xj a (s1.hz+1) s1.hz,⟨⟨.none,he⟩,hit,Nat.succ_ne_self _⟩,λb hb=>?_,q⟩;have e':b=s1.hz+1\/b=s1.hz:=by simpa using hb
  have hle:s1.hz<=b:=by
   rcases e' with z|z;·rw[z];exact agy _ _
   ·rw[z];exact ae8 _
  exact I1.oa hle (I1.AU.fresh hle)
def lR:bootBuiltins "zip" =some (.type "zip"):=by decide+kernel
def YB(K:Frag)(a b:Addr):It:=
 ⟨λi H=>(CO λ(xs ys:List V) (x y:V)=>BO (Aj K H a xs) (Aj K H b ys) (xs[i]? =some x) (ys[i]? =some y)),
  λi H v H'=>(BL λT x y=>B9 (v= .ref T) (H T=none) (H'=upd H T (.tup [x,y])) ((∀xs,Aj K H a xs->xs[i]? =some x)) (∀ys,Aj K H b ys->ys[i]? =some y)),
  λi H=>(Au λxs ys:List V=>Av (Aj K H a xs) (Aj K H b ys) ((xs.length<=i\/ys.length<=i)))⟩
def yX{TI TO:Addr}(D:ZipApart z TI TO i1 i2 a b):
  Turn P w kK (.Tuple elts kk Fl) (YB kK a b) [z,TI,TO,i1,i2] z (λi h=>IsZip h z TI TO .none/\IsPair h TI (.ref i1) (.ref i2)/\((Au λx y=>IsPair h TO x y))/\h.IsListIter i1 a i/\h.IsListIter i2 b i) where
 mem:=by simp
 obj:=λi h st c hc=>by
  obtain⟨hz,Di,⟨x,y,DX⟩,⟨o1,e1,_,d1⟩,⟨o2,e2,_,d2⟩⟩:=st;have e':c=z\/c=TI\/c=TO\/c=i1\/c=i2:=by simpa using hc
  rcases e' with q|q|q|q|q;·rw[q];exact⟨_,hz,λv q=>nomatch q⟩
  ·rw[q];exact⟨_,Di,λv q=>nomatch q⟩
  ·rw[q];exact⟨_,DX,λv q=>nomatch q⟩
  ·rw[q];exact⟨o1,e1,λv q=>by rw[d1]at q;cases q⟩
  ·rw[q];exact⟨o2,e2,λv q=>by rw[d2]at q;cases q⟩
 keep:=λi h h' st k=>by obtain⟨hz,Di,⟨x,y,DX⟩,h1,h2⟩:=st;exact⟨k z (by simp) _ hz,k TI (by simp) _ Di,⟨x,y,k TO (by simp) _ DX⟩,h1.at λo q=>k i1 (by simp) o q,h2.at λo q=>k i2 (by simp) o q⟩
 item:=by
  intro X hP hw hK hc i pins s σ H E I hf st hg;subst hP hw hK;obtain⟨hz,Di,⟨x0,y0,DX⟩,h1,h2⟩:=st;obtain⟨xs,ys,x,y,PL,NJ,hx,hy⟩:=hg;obtain⟨its,rv,p,_⟩:=I.list PL;obtain⟨C7,NV,p2,_⟩:=I.list NJ;obtain⟨u,hu,ru⟩:=rv.get hx;obtain⟨u2,SW,UJ⟩:=NV.get hy;have LX:z<s.hz:=ae7 hz;refine wpAny_pyNext_zip_item D hz Di DX h1 h2 p.isList p2.isList (x:=u) (y:=u2) (by simpa using hu) (by simpa using SW) λh' z' Xy R9 Xn hT hsz hk=>?_;refine⟨_,RR,wpAny_letOwnedTupleGo_zip (s:={s with heap:=h'}) z' λOM V5 sb=>?_⟩;have Vh:OM.get? s.hz=some {cls:=.type "tuple",data:=.seq #[u,u2]}:=(sb.2 _ (agh LX)).trans hT;have new:BW X.prog X.w (upd H s.hz (.tup [x,y])) OM s.hz (.tup [x,y]):=
   ⟨cQ,[u,u2],.cons ru (.cons UJ .nil),⟨_,Vh,RR,_,RR⟩⟩;have I1:Inv X pins σ (upd H s.hz (.tup [x,y])) {s with heap:=OM}:=
   I.iL (t':=s.toks) (ch:=[z,TI,TO,i1,i2]) (λc o hb q=>(sb.2 c (λq'=>hb (by simp[q']))).trans (hk c o (λq'=>hb (by simp[q'])) (λq'=>hb (by simp[q'])) (λq'=>hb (by simp[q'])) (λq'=>hb (by simp[q'])) q)) hf (ae8 _) new;refine⟨.ref s.hz,_,I1,RR,⟨_,x,y,RR,I.AU.fresh (ae8 _),RR,λl hl=>by rw[I.dS hl PL];exact hx,λl hl=>by rw[I.dS hl NJ];exact hy⟩,⟨V5,?_,⟨u,u2,?_⟩,?_,?_⟩,λc Kh=>?_⟩;·exact(sb.2 _ D.TIz).trans (hk _ _ D.TIz D.TITO D.TIi1 D.TIi2 Di)
  ·exact(sb.2 _ D.TOz).trans Xy
  ·exact R9.at λo q=>(sb.2 _ D.i1z).trans q
  ·exact Xn.at λo q=>(sb.2 _ D.i2z).trans q
  ·have Bz:c<s.hz:=by
    have e':c=z\/c=TI\/c=TO\/c=i1\/c=i2:=by simpa using Kh
    rcases e' with q|q|q|q|q;·rw[q];exact LX
    ·rw[q];exact ae7 Di
    ·rw[q];exact ae7 DX
    ·rw[q];obtain⟨_,e1,_⟩:=h1;exact ae7 e1
    ·rw[q];obtain⟨_,e2,_⟩:=h2;exact ae7 e2
   rw[ai (afo Bz)];exact(hf c Kh).1
 done:=by
  intro X hP hw hK hc i pins s σ H E I hf st hg;subst hP hw hK;obtain⟨hz,Di,⟨x0,y0,DX⟩,h1,h2⟩:=st;obtain⟨xs,ys,PL,NJ,Xb⟩:=hg;obtain⟨its,rv,p,_⟩:=I.list PL;obtain⟨C7,NV,p2,_⟩:=I.list NJ;have l1:=rv.length;have l2:=NV.length;have he:its.toArray[i]? =none\/C7.toArray[i]? =none:=by
   rcases Xb with q|q;·exact .inl (by simp;omega)
   ·exact .inr (by simp;omega)
  exact wpAny_pyNext_zip_end (I.ok.hd hc) D hz Di DX h1 h2 p.isList p2.isList he λh' hk=>⟨RR,I.qK (t':=s.toks) (ch:=[z,TI,TO,i1,i2]) (λc o hb q=>
   hk c o (λq'=>hb (by simp[q'])) (λq'=>hb (by simp[q'])) (λq'=>hb (by simp[q'])) (λq'=>hb (by simp[q'])) q) hf⟩
 self:=λA i s Q E st h=>wpAny_pyIter_zip st.1 h
def ZD(K:Frag)(ta:TA):TI:=λσ H R=>ta σ H λvs H1=>(CO λa b xs ys=>BO (vs=[.ref a,.ref b]) (Aj K H1 a xs) (Aj K H1 b ys) (R (YB K a b) H1))
def acT{p pos Fl:Pos}{elts:List Expr}{kk:Nat}(hg:Gl X "zip")(hm:X.mg "zip" =none)(ha:PA X [e,e2] ta)
  (hs:starEach [e,e2] X.env=(false,eval e X.env)::starEach [e2] X.env:=by rfl)(B8:(backTo pos (starEach [e2] X.env)).any (·.1)=false:=by rfl):
  PI X (.Tuple elts kk Fl) (.Call (.Name "zip" p) [e,e2] [] pos) (ZD X.K ta):=by
 intro pins s σ H R I h;refine Call_ (fS I hg hm lR (afP (oW (ha pos pins s σ H _ I h) λus s1 vs H1 I1 r1 q1=>?_) hs B8));obtain⟨a,b,xs,ys,ex,PL,NJ,q⟩:=q1;subst ex;cases r1 with
 |cons r rr=>
  cases rr with
  |cons r' rr=>
   cases rr;cases r;cases r';obtain⟨its,rv,p1,_⟩:=I1.list PL;obtain⟨C7,NV,p2,_⟩:=I1.list NJ;have la:a<s1.hz:=p1.lt;have lb:b<s1.hz:=p2.lt;refine call_zip_2 p1.isList p2.isList λh' hz Di DX h1 h2 hsz hk=>wpAny_pyIter_zip hz ?_;have I2:Inv X pins σ H1 {s1 with heap:=h'}:=I1.kept (t':=s1.toks) hk;refine⟨s1.hz+4,[s1.hz+4,s1.hz+2,s1.hz+3,s1.hz,s1.hz+1],_,_,H1,RR,I2,yX (PySem.W.ktu_apart s1.hz a b la lb),⟨hz,Di,⟨_,_,DX⟩,h1,h2⟩,λc Kh=>?_,q⟩;have e':c=s1.hz+4\/c=s1.hz+2\/c=s1.hz+3\/c=s1.hz\/c=s1.hz+1:=by simpa using Kh
   have hle:s1.hz<=c:=by
    rcases e' with z|z|z|z|z;·rw[z];exact agy _ _
    ·rw[z];exact agy _ _
    ·rw[z];exact agy _ _
    ·rw[z];exact ae8 _
    ·rw[z];exact agy _ _
   exact I1.oa hle (I1.AU.fresh hle)
namespace TL
open PySem PySem.Builtin PySem.Builtin.Str PySem.StrLaws
abbrev tl(x:Str):Ae:=x.cps.toList
noncomputable def pre(S l:Ae):Bool:=l.take S.length==S
noncomputable def par(S:Ae):Ae->Ae->Option (Ae×Ae)
 |_,[]=>none
 |acc,c::r=>if pre S (c::r)=true then some (acc,(c::r).drop S.length)else par S (acc++[c]) r
end TL
def IsPart.raw(p:IsPart v o):∃l:Option (Int×Tok),v=partValue l/\l.map (·.1)=o:=by
 cases p with
 |none=>exact⟨none,RR,RR⟩
 |int i t=>exact⟨some (i,t),RR,RR⟩
abbrev Mr:XM:=λ_ _ _ _ _ _=>False
abbrev E0:XK:=λ_ _ _=>False
def qg:Passes Mr X E0:=λ_ _ _ _ _ _ _ h=>h.elim
def RO.ok{st:Stmt}(F:RO kK x qual st f fd)(S:C0 N ps (Ap st))(len:∀vs H Q E,sp vs H Q E->vs.length=ps.length)
  (JU:∀(B_:Value)(A:Around)(outer:List Env)(s:Shared)(H:Hp)(vs:List V)(Q:VK)(E:XK),Bm k (A.deeper (envOfC qual (Ap st) s.hz f B_))->sp vs H Q E->
   ∃t,Nv (JV Mr P w kK mg base N qual (Ap st) f B_ A outer s H E).xM (AX st) t/\t {nx:=λ_ H'=>Q .BM H',rt:=Q} (start N vs) H):E2 P w kK mg base Mr (k+1) f fd ps sp:=by obtain⟨oc,od,kV,doc,pm,an,B_,ct,OG,rfl,lk,HC⟩:=F.ex;refine acx lk HC S len λA outer s H vs Q E hr R5=>?_;obtain⟨t,h,q⟩:=JU B_ A outer s H vs Q E hr R5;exact⟨t,h.xM,q⟩
def RO.binds{st:Stmt}(F:RO kK x qual st f fd)
  (h:∀(kV doc pm:Value)(an:Option Addr)(B_ ct:Value)(us:Ay),us.length=ps.length->bindArgs (PySem.W.fnOf x qual (B5 st) (AX st) (Ap st) .none kV doc pm an B_ ct) ⟨us,[]⟩=pure (ps.zip us)):Binds kK fd ps []:=by obtain⟨oc,od,kV,doc,pm,an,B_,ct,OG,rfl,_⟩:=F.ex;exact .all (h kV doc pm an B_ ct)
def jg(hr:Bm k A):A.units+1<cLine:=afl (Nat.add_le_add_left (by decide) _) hr.units
def Ji(H H':Hp):Prop:=∀b o,H b=some o->H' b=some o
def Ji.refl(H:Hp):Ji H H:=λ_ _ h=>h
def Ji.trans(a:Ji H H1)(b:Ji H1 H2):Ji H H2:=λc o h=>b c o (a c o h)
def Ji.free(e:Ji H H')(h:H' l=Option.none):H l=Option.none:=by
 cases q:H l with
 |none=>rfl
 |some o=>rw[e l o q]at h;cases h
def Ji.seq(e:Ji H H')(h:Aj kK H a xs):Aj kK H' a xs:=by
 rcases h with(h|⟨o,h⟩)|h;·exact .inl (.inl (e _ _ h))
 ·exact .inl (.inr ⟨o,e _ _ h⟩)
 ·exact .inr h
def Ji.made(nx:H x=Option.none)(nd:H dx=Option.none)(k:∀b o,(upd (upd H dx (.own x)) x (.ins C dx [])) b=some o->b≠x->H1 b=some o):Ji H H1:=λb o e=>
 k b o (by rw[ai (ak e nx),ai (ak e nd)];exact e) (ak e nx)
section
open PySem.W (WData Codec OpenSpec Well WellAll ReadsW ReadsAllW)
mutual
inductive Dw(K:Frag)(H:Hp):V->WData->Prop
 |BM:Dw K H .BM .none
 |bl (b:Bool):Dw K H (.bl b) (.bool b)
 |int (i:Int):Dw K H (.int i) (.int i)
 |str (x:Str):Dw K H (.str x) (.str x)
 |Nh (b:Array UInt8):Dw K H (.Nh b) (.bytes b.toList)
 |lst {a:Addr}{xs:List V}{ds:List WData}:Aj K H a xs->EO K H xs ds->Dw K H (.ref a) (.list ds)
 |tup {a:Addr}{xs:List V}{ds:List WData}:Cd K H a xs->EO K H xs ds->Dw K H (.ref a) (.tuple ds)
inductive EO(K:Frag)(H:Hp):List V->List WData->Prop
 |nil:EO K H [] []
 |cons {v:V}{vs:List V}{d:WData}{ds:List WData}:Dw K H v d->EO K H vs ds->EO K H (v::vs) (d::ds)
end
def wJ:∀ns:Am,EO kK H (ns.map V.int) (ns.map WData.int)
 |[]=>.nil
 |n::r=>.cons (.int n) (wJ r)
def wy:∀(ns:Am)(xs:List V),EO kK H xs (ns.map WData.int)->xs=ns.map V.int
 |[],xs,h=>by cases h;rfl
 |n::r,xs,h=>by
  cases h with
  |cons h1 h2=>cases h1;rw[wy r _ h2]<;>rfl
def acJ(AU:Fs P w H h)(KX:kK.In h)(q:Aj kK H a xs):∃(its:Ay) (o:Obj) (n:Nat),Vals xs its/\h.get? a=some o/\o.cls= .type "list" /\o.data= .seq its.toArray n:=by
 rcases q with q|⟨o,its,n,e,hc,_,hd,_,hv⟩;·obtain⟨_,its,n,hv,e⟩:=(q.ok AU);exact⟨its,_,n,hv,e,RR,RR⟩
 ·exact⟨its.toList,o,n,hv,KX _ _ e,hc,by simp[hd]⟩
def acI(AU:Fs P w H h)(KX:kK.In h)(q:Cd kK H a xs):∃(its:Ay) (o:Obj) (n:Nat),Vals xs its/\h.get? a=some o/\o.cls= .type "tuple" /\o.data= .seq its.toArray n:=by
 rcases q with q|⟨o,its,n,e,hc,hd,_,hv⟩;·obtain⟨_,its,hv,o,e,hc,n,hd⟩:=(q.ok AU);exact⟨its,o,n,hv,e,hc,hd⟩
 ·exact⟨its.toList,o,n,hv,KX _ _ e,hc,by simp[hd]⟩
variable{P:Program}{w:World}{K:Frag}{H:Hp}{h:Heap}{R:PySem.W.WRecords}{cl:Str->Option Addr}in
mutual
theorem Dw.reads(AU:Fs P w H h)(KX:K.In h):∀(d:WData)(v:V)(u:Value),Dw K H v d->RelV v u->∃as,ReadsW R cl h u d as
 | .none,_,_,x,r=>by cases x;cases r;exact⟨_,ReadsW.none⟩
 | .bool b,_,_,x,r=>by cases x;cases r;exact⟨_,ReadsW.bool b⟩
 | .int i,_,_,x,r=>by cases x;obtain⟨t,rfl⟩:=r;exact⟨_,ReadsW.int i t⟩
 | .str s,_,_,x,r=>by cases x;obtain⟨t,rfl⟩:=r;exact⟨_,ReadsW.str s t⟩
 | .bytes b,_,_,x,r=>by cases x;obtain⟨t,rfl⟩:=r;exact⟨_,ReadsW.bytes _ t⟩
 | .list ds,_,_,x,r=>by
  cases x with
  |lst hs ha=>cases r;obtain⟨its,o,n,rv,ho,hc,hd⟩:=acJ AU KX hs;obtain⟨as,hr⟩:=Dw.readsAll AU KX ds _ its ha rv;exact⟨_,ReadsW.list ho hc hd hr⟩
 | .tuple ds,_,_,x,r=>by
  cases x with
  |tup hs ha=>cases r;obtain⟨its,o,n,rv,ho,hc,hd⟩:=acI AU KX hs;obtain⟨as,hr⟩:=Dw.readsAll AU KX ds _ its ha rv;exact⟨_,ReadsW.tuple ho hc hd hr⟩
 | .float _,_,_,x,_=>by cases x
 | .dict _,_,_,x,_=>by cases x
 | .bytearray _,_,_,x,_=>by cases x
 | .set _,_,_,x,_=>by cases x
 | .frozenset _,_,_,x,_=>by cases x
 | .obj _ _,_,_,x,_=>by cases x
theorem Dw.readsAll(AU:Fs P w H h)(KX:K.In h):∀(ds:List WData)(vs:List V)(us:Ay),EO K H vs ds->Vals vs us->∃as,ReadsAllW R cl h us ds as
 |[],_,_,x,r=>by cases x;cases r;exact⟨_,ReadsAllW.nil⟩
 |d::ds,_,_,x,r=>by
  cases x with
  |cons h1 h2=>
   cases r with
   |cons r1 r2=>obtain⟨as,q1⟩:=Dw.reads AU KX d _ _ h1 r1;obtain⟨bs,q2⟩:=Dw.readsAll AU KX ds _ _ h2 r2;exact⟨_,ReadsAllW.cons q1 q2⟩
end
mutual
def OE:WData->Bool
 | .none=>true
 | .bool _=>true
 | .int _=>true
 | .str _=>true
 | .bytes _=>true
 | .list xs=>II xs
 | .tuple xs=>II xs
 |_=>false
def II:List WData->Bool
 |[]=>true
 |x::r=>OE x&&II r
end
def sQ{α:Type}{f:α->WData}(h:∀a,OE (f a)=true):∀l:List α,II (l.map f)=true
 |[]=>rfl
 |x::r=>by show(OE (f x)&&II (r.map f))=true;rw[h x,sQ h r]<;>rfl
def hY:∀(c:Codec)(a:c.denote),OE (c.enc a)=true
 | .unit,_=>rfl
 | .bool,_=>rfl
 | .int _ _,_=>rfl
 | .nat _ _,_=>rfl
 | .u8,_=>rfl
 | .bytes _ _,_=>rfl
 | .text _ _ _ _,_=>rfl
 | .list _ _ c,a=>sQ (λx=>hY c x) a
 | .pair c d,a=>by show(OE (c.enc a.1)&&(OE (d.enc a.2)&&true))=true;rw[hY c a.1,hY d a.2]<;>rfl
 | .triple c d e,a=>by show(OE (c.enc a.1)&&(OE (d.enc a.2.1)&&(OE (e.enc a.2.2)&&true)))=true;rw[hY c a.1,hY d a.2.1,hY e a.2.2]<;>rfl
 | .option c,none=>rfl
 | .option c,some x=>hY c x
def qf:∀(cs:List Codec)(a:Codec.denoteAll cs),II (Codec.encAll cs a)=true
 |[],_=>rfl
 |c::cs,a=>by show(OE (c.enc a.1)&&II (Codec.encAll cs a.2))=true;rw[hY c a.1,qf cs a.2]<;>rfl
def jr:∀{xs:List WData}{d:WData},d∈xs->d.weight<=WData.weightAll xs
 |[],d,h=>absurd h (by simp)
 |x::r,d,h=>by
  show d.weight<=x.weight+1+WData.weightAll r;rcases ae5.mp h with e|m;·rw[e];omega
  ·have z:=jr m;omega
noncomputable def toV:Value->V
 | .none=>.BM
 | .bool b=>.bl b
 | .int i _=>.int i
 | .str x _=>.str x
 | .bytes b _=>.Nh b
 | .ref a=>.ref a
 |_=>.BM
def Qb(A:Ax):Value->Prop
 | .none=>True
 | .bool _=>True
 | .int _ _=>True
 | .str _ _=>True
 | .bytes _ _=>True
 | .ref a=>a∈A
 |_=>False
def Qb.mono(h:∀a∈A,a∈B):∀{u:Value},Qb A u->Qb B u:=λ{u} x=>by
 cases u with
 |ref a=>exact h a x
 |none=>trivial
 |bool b=>trivial
 |int i t=>trivial
 |str s t=>trivial
 |bytes b t=>trivial
 |_=>exact False.elim x
def ze(x:Qb A u):RelV (toV u) u:=by
 cases u with
 |ref a=>rfl
 |none=>rfl
 |bool b=>rfl
 |int i t=>exact⟨t,RR⟩
 |str s t=>exact⟨t,RR⟩
 |bytes b t=>exact⟨t,RR⟩
 |_=>exact False.elim x
def fY:∀{vs:Ay},(∀u∈vs,Qb A u)->Vals (vs.map toV) vs
 |[],_=>.nil
 |u::r,h=>.cons (ze (h u (aff ..))) (fY λx hx=>h x (ae6 _ hx))
def Fj(h:Heap)(A:Ax)(a:Addr):Prop:=∃vs:Ay,vs.length<=sizeLine/\(∀u∈vs,Qb A u)/\
 (h.get? a=some {cls:=.type "list",data:=.seq vs.toArray}\/h.get? a=some {cls:=.type "tuple",data:=.seq vs.toArray})
def Fj.mono(k:∀a∈A,a∈B)(x:Fj h A a):Fj h B a:=by obtain⟨vs,h1,h2,h3⟩:=x;exact⟨vs,h1,λu hu=>(h2 u hu).mono k,h3⟩
def gY:∀{vs:Ay}{ds:List WData},WellAll P h vs ds->vs.length=ds.length
 |_,_,.nil=>rfl
 |_,_,.cons _ b=>by show _+1=_+1;rw[gY b]
def pY(x:Well P h v (.list ds)):∃(a:Addr) (vs:Ay),v= .ref a/\h.get? a=some {cls:=.type "list",data:=.seq vs.toArray}/\WellAll P h vs ds:=by
 cases x with
 |list ho Ek=>exact⟨_,_,RR,ho,Ek⟩
def mW(x:Well P h v (.tuple ds)):∃(a:Addr) (vs:Ay),v= .ref a/\h.get? a=some {cls:=.type "tuple",data:=.seq vs.toArray}/\WellAll P h vs ds:=by
 cases x with
 |tuple ho Ek=>exact⟨_,_,RR,ho,Ek⟩
def pZ(x:WellAll P h us (d::ds)):∃(v:Value) (vs:Ay),us=v::vs/\Well P h v d/\WellAll P h vs ds:=by
 cases x with
 |cons a b=>exact⟨_,_,RR,a,b⟩
def wk(h:n<=1048576):n<=sizeLine:=afe h (by decide)
variable{P:Params}{h:Heap}in
mutual
theorem aaZ:∀(d:WData)(v:Value),Well P h v d->OE d=true->d.weight<=1048576->∃A:Ax,Qb A v/\∀a∈A,Fj h A a
 | .none,_,x,_,_=>by cases x;exact⟨[],trivial,λa m=>absurd m (by simp)⟩
 | .bool b,_,x,_,_=>by cases x;exact⟨[],trivial,λa m=>absurd m (by simp)⟩
 | .int i,_,x,_,_=>by cases x;exact⟨[],trivial,λa m=>absurd m (by simp)⟩
 | .str s,_,x,_,_=>by cases x;exact⟨[],trivial,λa m=>absurd m (by simp)⟩
 | .bytes b,_,x,_,_=>by cases x;exact⟨[],trivial,λa m=>absurd m (by simp)⟩
 | .list ds,_,x,p,z=>by
  obtain⟨a,vs,rfl,ho,Ek⟩:=pY x;have z2:WData.weightAll ds<=1048576:=z;obtain⟨A,h1,h2⟩:=kS ds _ Ek p λd hd=>afe (jr hd) z2;have k:∀b∈A,b∈a::A:=λb hb=>ae6 _ hb;refine⟨a::A,aff ..,λb hb=>?_⟩;rcases ae5.mp hb with e|m;·rw[e];exact⟨vs,wk (by rw[gY Ek];exact afe (ag2 ds) z2),λu hu=>(h1 u hu).mono k,.inl ho⟩
  ·exact(h2 b m).mono k
 | .tuple ds,_,x,p,z=>by
  obtain⟨a,vs,rfl,ho,Ek⟩:=mW x;have z2:WData.weightAll ds<=1048576:=z;obtain⟨A,h1,h2⟩:=kS ds _ Ek p λd hd=>afe (jr hd) z2;have k:∀b∈A,b∈a::A:=λb hb=>ae6 _ hb;refine⟨a::A,aff ..,λb hb=>?_⟩;rcases ae5.mp hb with e|m;·rw[e];exact⟨vs,wk (by rw[gY Ek];exact afe (ag2 ds) z2),λu hu=>(h1 u hu).mono k,.inr ho⟩
  ·exact(h2 b m).mono k
 | .float _,_,_,p,_=>Bool.noConfusion (show false=true from p)
 | .dict _,_,_,p,_=>Bool.noConfusion (show false=true from p)
 | .bytearray _,_,_,p,_=>Bool.noConfusion (show false=true from p)
 | .set _,_,_,p,_=>Bool.noConfusion (show false=true from p)
 | .frozenset _,_,_,p,_=>Bool.noConfusion (show false=true from p)
 | .obj _ _,_,_,p,_=>Bool.noConfusion (show false=true from p)
theorem kS:∀(ds:List WData)(vs:Ay),WellAll P h vs ds->II ds=true->(∀d∈ds,d.weight<=1048576)->∃A:Ax,(∀u∈vs,Qb A u)/\∀a∈A,Fj h A a
 |[],_,x,_,_=>by cases x;exact⟨[],λu m=>absurd m (by simp),λa m=>absurd m (by simp)⟩
 |d::ds,_,x,p,z=>by
  obtain⟨v,vs,rfl,x1,x2⟩:=pZ x;have q:OE d=true/\II ds=true:=Bool.and_eq_true_iff.mp p;obtain⟨A,a1,a2⟩:=aaZ d v x1 q.1 (z d (aff ..));obtain⟨B,b1,b2⟩:=kS ds vs x2 q.2 λe he=>z e (ae6 _ he);have kA:∀b∈A,b∈A++B:=λb hb=>afE.mpr (.inl hb);have kB:∀b∈B,b∈A++B:=λb hb=>afE.mpr (.inr hb);refine⟨A++B,λu hu=>?_,λb hb=>?_⟩
  ·rcases ae5.mp hu with e|m;·rw[e];exact a1.mono kA
   ·exact(b1 u m).mono kB
  ·rcases afE.mp hb with m|m;·exact(a2 b m).mono kA
   ·exact(b2 b m).mono kB
end
def S7(o:Obj):Option HO:=match o.data with
 | .seq vs _=>if(o.cls==Value.type "list")=true then some (.FN o (.lst (vs.toList.map toV)))else some (.FN o (.tup (vs.toList.map toV)))
 |_=>none
def Em(K:Frag)(h:Heap)(A:Ax):Hp:=λb=>if b∈A then(if(K.lookup b).isNone=true then(h.get? b).bind S7 else none)else none
def Uh(H:Hp):Prop:=∀b,H b=none\/∃o u,H b=some (.FN o u)
def tJ(vs:Ay):S7 {cls:=.type "list",data:=.seq vs.toArray}=some (.FN {cls:=.type "list",data:=.seq vs.toArray} (.lst (vs.map toV))):=rfl
def tI(vs:Ay):S7 {cls:=.type "tuple",data:=.seq vs.toArray}=some (.FN {cls:=.type "tuple",data:=.seq vs.toArray} (.tup (vs.map toV))):=rfl
def mU(hb:b∈A)(hk:kK.lookup b=none)(e:h.get? b=some o):Em kK h A b=S7 o:=by unfold Em;rw[if_pos hb,hk,if_pos (show(none).isNone=true from rfl),e]<;>rfl
def abF(q:Em kK h A b=some u):b∈A/\kK.lookup b=none:=by
 unfold Em at q;by_cases hb:b∈A
 ·rw[if_pos hb]at q;cases hk:kK.lookup b with
  |none=>exact⟨hb,RR⟩
  |some o=>grind
 simp_all
def kR(ar:∀a∈A,Fj h A a)(q:Em kK h A b=some u):kK.lookup b=none/\∃vs:Ay,vs.length<=sizeLine/\(∀u∈vs,Qb A u)/\
  ((h.get? b=some {cls:=.type "list",data:=.seq vs.toArray}/\u= .FN {cls:=.type "list",data:=.seq vs.toArray} (.lst (vs.map toV)))\/
   (h.get? b=some {cls:=.type "tuple",data:=.seq vs.toArray}/\u= .FN {cls:=.type "tuple",data:=.seq vs.toArray} (.tup (vs.map toV)))):=by
 obtain⟨hb,hk⟩:=abF q;obtain⟨vs,h1,h2,h3⟩:=ar b hb;refine⟨hk,vs,h1,h2,?_⟩;rcases h3 with e|e;·rw[mU hb hk e,tJ]at q;exact .inl ⟨e,(ae2 q).symm⟩
 ·rw[mU hb hk e,tI]at q;exact .inr ⟨e,(ae2 q).symm⟩
def yN(ar:∀a∈A,Fj h A a):Uh (Em kK h A):=λb=>by
 cases q:Em kK h A b with
 |none=>exact .inl RR
 |some u=>
  obtain⟨_,vs,_,_,⟨_,e⟩|⟨_,e⟩⟩:=kR ar q;·exact .inr ⟨_,_,by rw[e]⟩
  ·exact .inr ⟨_,_,by rw[e]⟩
def aci(ar:∀a∈A,Fj h A a):Fs P w (Em kK h A) h:=λb u q=>by
 obtain⟨_,vs,h1,h2,⟨e,rfl⟩|⟨e,rfl⟩⟩:=kR ar q;·exact⟨e,by simp_all,vs,_,fY h2,e⟩
 ·exact⟨e,by simp_all,vs,fY h2,_,e,RR,_,RR⟩
def aeK{us:Ay}(e:(some {cls:=c,data:=.seq vs.toArray}:Option Obj)=some {cls:=c',data:=.seq us.toArray}):c=c'/\vs=us:=by grind
def aeU{vs:Ay}(KX:kK.In h)(ar:∀a∈A,Fj h A a)(ha:a∈A)(e:h.get? a=some {cls:=.type "list",data:=.seq vs.toArray}):(∀u∈vs,Qb A u)/\Aj kK (Em kK h A) a (vs.map toV):=by
 obtain⟨us,h1,h2,h3⟩:=ar a ha;have hu:us=vs:=by grind
 subst hu;refine⟨h2,?_⟩;cases hk:kK.lookup a with
 |none=>exact .inl (.inr ⟨_,by rw[mU ha hk e,tJ]⟩)
 |some o=>have e2:=KX a o hk;rw[e]at e2;obtain rfl:=ae2 e2;exact .inr ⟨_,us.toArray,_,hk,RR,RR,RR,h1,by simpa using fY h2⟩
def aeT{vs:Ay}(KX:kK.In h)(ar:∀a∈A,Fj h A a)(ha:a∈A)(e:h.get? a=some {cls:=.type "tuple",data:=.seq vs.toArray}):(∀u∈vs,Qb A u)/\Cd kK (Em kK h A) a (vs.map toV):=by
 obtain⟨us,h1,h2,h3⟩:=ar a ha;have hu:us=vs:=by grind
 subst hu;refine⟨h2,?_⟩;cases hk:kK.lookup a with
 |none=>exact .inl (.inr ⟨_,by rw[mU ha hk e,tI]⟩)
 |some o=>have e2:=KX a o hk;rw[e]at e2;obtain rfl:=ae2 e2;exact .inr ⟨_,us.toArray,_,hk,RR,RR,h1,by simpa using fY h2⟩
variable{K:Frag}{h:Heap}{A:Ax}in
mutual
theorem adS{Pm:Params}(KX:K.In h)(ar:∀a∈A,Fj h A a):∀(d:WData)(v:Value),Well Pm h v d->OE d=true->Qb A v->Dw K (Em K h A) (toV v) d
 | .none,_,x,_,_=>by cases x;exact .BM
 | .bool b,_,x,_,_=>by cases x;exact .bl b
 | .int i,_,x,_,_=>by cases x;exact .int i
 | .str s,_,x,_,_=>by cases x;exact .str s
 | .bytes b,_,x,_,_=>by cases x;have z:=Dw.Nh (K:=K) (H:=Em K h A) b.toArray;exact z
 | .list ds,_,x,p,hu=>by obtain⟨a,vs,rfl,ho,Ek⟩:=pY x;obtain⟨h2,hs⟩:=aeU KX ar hu ho;exact .lst hs (rT KX ar ds _ Ek p h2)
 | .tuple ds,_,x,p,hu=>by obtain⟨a,vs,rfl,ho,Ek⟩:=mW x;obtain⟨h2,hs⟩:=aeT KX ar hu ho;exact .tup hs (rT KX ar ds _ Ek p h2)
 | .float _,_,_,p,_=>Bool.noConfusion (show false=true from p)
 | .dict _,_,_,p,_=>Bool.noConfusion (show false=true from p)
 | .bytearray _,_,_,p,_=>Bool.noConfusion (show false=true from p)
 | .set _,_,_,p,_=>Bool.noConfusion (show false=true from p)
 | .frozenset _,_,_,p,_=>Bool.noConfusion (show false=true from p)
 | .obj _ _,_,_,p,_=>Bool.noConfusion (show false=true from p)
theorem rT{Pm:Params}(KX:K.In h)(ar:∀a∈A,Fj h A a):∀(ds:List WData)(vs:Ay),WellAll Pm h vs ds->II ds=true->(∀u∈vs,Qb A u)->EO K (Em K h A) (vs.map toV) ds
 |[],_,x,_,_=>by cases x;exact .nil
 |d::ds,_,x,p,hu=>by obtain⟨v,vs,rfl,x1,x2⟩:=pZ x;have q:OE d=true/\II ds=true:=Bool.and_eq_true_iff.mp p;exact .cons (adS KX ar d v x1 q.1 (hu _ (aff ..))) (rT KX ar ds vs x2 q.2 λu m=>hu u (ae6 _ m))
end
def nL(h:WData.layableAll ds=true):∀d∈ds,d.weight<=1048576:=λd hd=>
 (PySem.W.layableW_iff.mp (afj.mp h d hd)).2.2
end
structure Ev(X:Cx)(e:Expr)(σ:St)(H:Hp)(Q:VK):Prop where
 run:∀(pins:Bc)(s:Shared),Inv X pins σ H s->CF X (eval e X.env) (EP X pins σ Q) X.xe s
structure Et(X:Cx)(e:Expr)(σ:St)(H:Hp)(Q:Bool->Hp->Prop):Prop where
 run:∀(pins:Bc)(s:Shared),Inv X pins σ H s->CF X (isTrue e X.env (eval e X.env)) (TP X pins σ Q) X.xe s
structure Ew(X:Cx)(e:Expr)(σ:St)(H:Hp)(Q:Bool->Hp->Prop):Prop where
 run:∀(whole:Sem Value)(pins:Bc)(s:Shared),Inv X pins σ H s->CF X (isTrue e X.env whole) (TP X pins σ Q) X.xe s
structure Ea(X:Cx)(es:List Expr)(σ:St)(H:Hp)(Q:List V->Hp->Prop):Prop where
 run:∀(pos:Pos)(pins:Bc)(s:Shared),Inv X pins σ H s->CF X (spliced (backTo pos (starEach es X.env))) (AP X pins σ Q) X.xe s
structure Es(X:Cx)(st:Stmt)(D:Ends)(σ:St)(H:Hp):Prop where
 run:∀(pins:Bc)(s:Shared),Inv X pins σ H s->CF X (exec st X.env) (SP X pins D) X.xe s
structure Lu(X:Cx)(st:List Stmt)(D:Ends)(σ:St)(H:Hp):Prop where
 run:∀(pins:Bc)(s:Shared),Inv X pins σ H s->CF X (execs st X.env) (SP X pins D) X.xe s
structure Ei(X:Cx)(tg iter:Expr)(σ:St)(H:Hp)(R:It->Hp->Prop):Prop where
 run:∀(pins:Bc)(s:Shared),Inv X pins σ H s->CF X (eval iter X.env) (λv s1=>CF X (pyIter v) (Yz X pins σ tg R) X.xe s1) X.xe s
def aF:PE X e (Ev X e):=λpins s _ _ _ I h=>h.run pins s I
def cY:PT X e (Et X e):=λpins s _ _ _ I h=>h.run pins s I
def cK:PA X es (Ea X es):=λpos pins s _ _ _ I h=>h.run pos pins s I
def v_{st:Stmt}:PS X st (Es X st):=λpins s _ _ _ I h=>h.run pins s I
def dQ:Nv X Wg (Lu X Wg):=λpins s _ _ _ I h=>h.run pins s I
def qW:PI X tg iter (Ei X tg iter):=λpins s _ _ _ I h=>h.run pins s I
def bH(h:PE X e t)(q:t σ H Q):Ev X e σ H Q:=⟨λpins s I=>h pins s σ H Q I q⟩
def ou(h:PT X e t)(q:t σ H QT):Et X e σ H QT:=⟨λpins s I=>h pins s σ H QT I q⟩
def acz(h:PA X es t)(q:t σ H QA):Ea X es σ H QA:=⟨λpos pins s I=>h pos pins s σ H QA I q⟩
def gx{st:Stmt}(h:PS X st t)(q:t D σ H):Es X st D σ H:=⟨λpins s I=>h pins s σ H D I q⟩
def vn(h:Nv X Wg t)(q:t D σ H):Lu X Wg D σ H:=⟨λpins s I=>h pins s σ H D I q⟩
def ml(h:PI X tg iter t)(q:t σ H R):Ei X tg iter σ H R:=⟨λpins s I=>h pins s σ H R I q⟩
def Ev.mono(h:Ev X e σ H Q)(k:∀v H',Q v H'->Q' v H'):Ev X e σ H Q':=⟨λpins s I=>c7 (h.run pins s I) λ_ _ v H' I' r q=>⟨v,H',I',r,k v H' q⟩⟩
def Et.mono(h:Et X e σ H QT)(k:∀v H',QT v H'->Q' v H'):Et X e σ H Q':=⟨λpins s I=>thT (h.run pins s I) λ_ _ H' I' q=>⟨H',I',k _ H' q⟩⟩
def rO{X:Cx}{Q:VK}{pos:Pos}(i:Nat)(hN:X.N[i]? =some x)(hv:Qa X.env.scope x)(hs:σ[i]? =some (some v))(q:Q v H)(hd:GY x:=by decide)(HC:(x==("__classdict__" :Str))=false:=by decide):Ev X (.Name x pos) σ H Q:=
 bH (acX hN hv hd HC) ⟨v,hs,q⟩
def aG(q:Q (.int n) H):Ev X (.Constant (.int n) j pos) σ H Q:=bH ac4 q
def mj(q:Q (.bl n) H):Ev X (.Constant (.bool n) j pos) σ H Q:=bH aen q
def aal(q:Q .BM H):Ev X (.Constant .none j pos) σ H Q:=bH ac2 q
def rP(q:Q (.str n) H):Ev X (.Constant (.str n) j pos) σ H Q:=bH acZ q
def kC(hg:Gl X x)(hm:X.mg x=some u)(r:RelV v u)(q:Q v H)(hd:GY x:=by decide):Ev X (.Name x pos) σ H Q:=bH (abw hg hm r hd) q
def a0(ho:Eu X (binaryOp op) r)(h:Ev X a σ H λx H1=>Ev X b σ H1 λy H2=>r x y H2 Q):Ev X (.BinOp a op b pos) σ H Q:=bH (aej ho aF aF) h
def wF(ho:Xu X (unaryOp op) r)(h:Ev X a σ H λx H1=>r x H1 Q):Ev X (.UnaryOp op a pos) σ H Q:=bH (aei ho aF) h
def bh(ho:Eu X (compareOp op) r)(hm:behindInMarks op b=false)(h:Ev X a σ H λx H1=>Ev X b σ H1 λy H2=>r x y H2 Q):Ev X (.Compare a [op] [b] pos) σ H Q:=bH (aby ho aF aF hm) h
def aV(ho:Eu X (compareOp op) r)(hm:behindInMarks op b=false)(h:Ev X a σ H λx H1=>Ev X b σ H1 λy H2=>r x y H2 λz H3=>∃k,z= .bl k/\QT k H3):Et X (.Compare a [op] [b] pos) σ H QT:=ou (abi ho aF aF hm) h
def aap(ho:Eu X (compareOp op) r)(HQ:Eu X (compareOp QZ) r')(h:Lz r r' (Ev X a) (Ev X b) (Ev X c) σ H Q)(hm:lastMarks [op,QZ] [b,c]=false:=by with_unfolding_all rfl):Ev X (.Compare a [op,QZ] [b,c] pos) σ H Q:=bH (zB ho HQ aF aF aF hm) h
def ow(ho:Eu X (compareOp op) r)(HQ:Eu X (compareOp QZ) r')(h:Lz r r' (Ev X a) (Ev X b) (Ev X c) σ H λz H3=>∃k,z= .bl k/\QT k H3)(hm:lastMarks [op,QZ] [b,c]=false:=by with_unfolding_all rfl):Et X (.Compare a [op,QZ] [b,c] pos) σ H QT:=ou (zh ho HQ aF aF aF hm) h
def ku(h:Et X c σ H λk H1=>if k=true then Ev X a σ H1 Q else Ev X b σ H1 Q):Ev X (.IfExp c a b pos) σ H Q:=bH (zy cY aF aF) h
def adG(h:Ev X a σ H λx H1=>∃c,x= .bl c/\Q (.bl (!c)) H1):Ev X (.UnaryOp .Not a pos) σ H Q:=bH (ac1 aF) h
def cH(h:Et X a σ H λc H1=>QT (!c) H1):Et X (.UnaryOp .Not a pos) σ H QT:=ou (acM cY) h
def aO(h:Ev X e σ H λx H1=>∃c,x= .bl c/\QT c H1)(he:∀whole,isTrue e X.env whole=(do let v<-whole;standAt e.pos;holding [v] (truthy v)):=by intro _;rfl):Et X e σ H QT:=ou (acL aF he) h
def kD(h:Ev X a σ H λx H1=>∃c,x= .bl c/\if c=true then Ev X b σ H1 Q else Q (.bl false) H1):Ev X (.BoolOp .And [a,b] pos) σ H Q:=bH (ac7 aF (ac0 aF)) h
def kF(h:Et X a σ H λc H1=>if c=true then Et X b σ H1 QT else QT false H1):Et X (.BoolOp .And [a,b] pos) σ H QT:=ou (pw_and cY (pw_and1 cY)).pt h
def vm(h:Et X a σ H λc H1=>if c=true then QT true H1 else Et X b σ H1 QT):Et X (.BoolOp .Or [a,b] pos) σ H QT:=ou (pw_or cY (pw_or1 cY)).pt h
def ab0(h:Et X a σ H λk H1=>if k=true then Et X b σ H1 (λk H2=>if k=true then Et X c σ H2 QT else QT false H2)else QT false H1):Et X (.BoolOp .And [a,b,c] pos) σ H QT:=ou (pw_and cY (pw_and cY (pw_and1 cY))).pt h
def ab(q:QA [] H):Ea X [] σ H QA:=acz ac8 q
def aa(h:Ev X e σ H λx H1=>Ea X es σ H1 λxs H2=>QA (x::xs) H2)(hs:Nu X e es:=by rfl):Ea X (e::es) σ H QA:=acz (abA aF cK hs) h
def bT(h:Ea X es σ H λxs H1=>xs.length<=sizeLine/\∀p,H1 p=none->Q (.ref p) (upd H1 p (.tup xs))):Ev X (.Tuple es k pos) σ H Q:=bH (acY cK) h
def ay(h:Ea X es σ H λxs H1=>xs.length<=sizeLine/\∀p,H1 p=none->Q (.ref p) (upd H1 p (.lst xs))):Ev X (.List es pos) σ H Q:=bH (ac3 cK) h
def bI{pos p:Pos}{id:String}(hc:Cc X (.builtin id) r)(hg:Gl X x)(hm:X.mg x=none)(hv:bootBuiltins x=some (.builtin id))(h:Ea X (e::es) σ H λvs H1=>r vs H1 Q)(hn:x≠"__name__" :=by decide)(Ja:GY x:=by decide)
  (he:Nu X e es:=by rfl)(B8:Om X pos es:=by rfl):Ev X (.Call (.Name x p) (e::es) [] pos) σ H Q:=bH (zC hc hg hm hv cK hn Ja he B8) h
def br{pos p:Pos}(hc:Cc X (.type T) r)(hg:Gl X x)(hm:X.mg x=none)(hv:bootBuiltins x=some (.type T))(h:Ea X (e::es) σ H λvs H1=>r vs H1 Q)(hn:x≠"__name__" :=by decide)(Ja:GY x:=by decide)
  (he:Nu X e es:=by rfl)(B8:Om X pos es:=by rfl):Ev X (.Call (.Name x p) (e::es) [] pos) σ H Q:=bH (xH hc hg hm hv cK hn Ja he B8) h
def bg(hr:Uj X r)(h:Ev X a σ H λx H1=>Ev X b σ H1 λy H2=>r x y H2 Q)(hs:F5 b:=by intro _ _;rfl):Ev X (.Subscript a b pos) σ H Q:=bH (ael hr aF aF hs) h
def aC(h:Ev X e σ H λx H1=>(FX λa C dx fs v=>Dn (x= .ref a) (H1 a=some (.ins C dx fs)) (Jp X.K C) (AR X.K C f) (fs.lookup f=some v) (Q v H1)))(hb:attributeBase e f X.env (eval e X.env)=eval e X.env:=by rfl):Ev X (.Attribute e f pos) σ H Q:=bH (ac5 aF hb) h
def aA(h:D.nx σ H):Lu X [] D σ H:=vn abk h
def ag{st:Stmt}(h:Es X st {D with nx:=Lu X Wg D} σ H):Lu X (st::Wg) D σ H:=vn (zj v_ dQ) h
def ah{st:Stmt}(h:Es X st D σ H):Lu X [st] D σ H:=vn (abj v_) h
def aj(h:Ev X e σ H D.rt):Es X (.Return (some e) pos) D σ H:=gx (acO aF) h
def aW(h:Et X c σ H λk H1=>if k=true then Lu X t D σ H1 else Lu X u D σ H1):Es X (.If c t u pos) D σ H:=gx (aeh cY dQ dQ) h
def bJ{D:Ends}{pos:Pos}(i:Nat)(hN:X.N.Nodup)(hi:X.N[i]? =some x)(hx:Loc X.env.scope x)(h:Ev X e σ H λy H1=>D.nx (σ.set i (some y)) H1)(hs:swapsWith e (some (.Name x pos')) pos.line X.env=pure false:=by rfl)(hf:X.fn x=true\/X.env.scope.names.lookup x=some .local:=by first|exact .inl RR|exact .inr RR):
  Es X (.Assign [.Name x pos'] e pos) D σ H:=gx (acN hN hi hx aF hs hf) h
def aP{X:Cx}{σ:St}{H:Hp}{x:Str}{e:Expr}{pos':Pos}{D:Ends}{pos:Pos}(i:Nat)(hN:X.N.Nodup)(h:Ev X e σ H λy H1=>D.nx (σ.set i (some y)) H1)(hi:X.N[i]? =some x:=by rfl)(hx:Loc X.env.scope x:=by exact Or.inl RR)(hs:swapsWith e (some (.Name x pos')) pos.line X.env=pure false:=by rfl)(hf:X.fn x=true\/X.env.scope.names.lookup x=some .local:=by first|exact .inl RR|exact .inr RR):Es X (.Assign [.Name x pos'] e pos) D σ H:=bJ i hN hi hx h hs hf
def eV(h:Ev X e σ H λ_ H1=>D.nx σ H1)(hs:swapsWith e none pos.line X.env=pure false:=by rfl):Es X (.Expr e pos) D σ H:=gx (abl aF hs) h
def aY(h:Ev X value σ H λy H1=>Ev X o σ H1 λx H2=>(CO λa C dx fs=>Dn (x= .ref a) (H2 a=some (.ins C dx fs)) (Jp X.K C) (AR X.K C f) (fs.length<1000) (D.nx σ (upd H2 a (.ins C dx (AO f y fs))))))(hs:swapsWith value (some (.Attribute o f pos')) pos.line X.env=pure false:=by rfl):
  Es X (.Assign [.Attribute o f pos'] value pos) D σ H:=gx (acQ aF aF hs) h
structure Bo where
 f:Addr
 B_:Value
 A:Around
 outer:List Env
 s:Shared
abbrev EX(N:Ag)(qual:Str)(st:Stmt)(P:Program)(w:World)(K:Frag)(mg:B3)(base:Heap)(b:Bo)(H:Hp)(E:XK):Cx:=(JV Mr P w K mg base N qual (Ap st) b.f b.B_ b.A b.outer b.s H E).xM
def RO.okE{st:Stmt}(F:RO kK x qual st f fd)(S:C0 N ps (Ap st))(len:∀vs H Q E,sp vs H Q E->vs.length=ps.length)
  (JU:∀(B_:Value)(A:Around)(outer:List Env)(s:Shared)(H:Hp)(vs:List V)(Q:VK)(E:XK),Bm k (A.deeper (envOfC qual (Ap st) s.hz f B_))->sp vs H Q E->
   Lu (EX N qual st P w kK mg base ⟨f,B_,A,outer,s⟩ H E) (AX st) {nx:=λ_ H'=>Q .BM H',rt:=Q} (start N vs) H):E2 P w kK mg base Mr (k+1) f fd ps sp:=
 F.ok S len λB_ A outer s H vs Q E hr h=>⟨_,dQ,JU B_ A outer s H vs Q E hr h⟩
variable{P:Program}{w:World}{K:Frag}{mg:B3}{base:Heap}in
structure Ab(P:Program)(w:World)(K:Frag)(mg:B3)(base:Heap)(k:Nat)(x:Str)(sp:Sp):Prop where
 ex:∃(f:Addr) (fd:FuncData) (ps:Ag),mg x=some (.ref f)/\PySem.W.keepIn K (.ref f)=true/\Binds K fd ps []/\E2 P w K mg base Mr k f fd ps sp
def bQ{p pos:Pos}(C:Ab X.prog X.w X.K X.mg X.base k x sp)(hr:Bm k X.A)(hg:Gl X x)(h:Ea X (e::es) σ H λvs H1=>sp vs H1 Q E0)(Ja:GY x:=by decide)
  (he:Nu X e es:=by rfl)(B8:Om X pos es:=by rfl):Ev X (.Call (.Name x p) (e::es) [] pos) σ H Q:=by obtain⟨f,fd,ps,hm,hk,hb,F⟩:=C.ex;refine bH (abz F hr hg hm hk hb .nil qg cK Ja he B8) ?_;show Ea X (e::es) σ H λvs H1=>sp (vs++[]) H1 Q E0;simp_all
def ao{p pos:Pos}(C:Ab X.prog X.w X.K X.mg X.base k x sp)(hr:Bm n X.A)(h:Ev X e σ H λv H1=>Ea X es σ H1 λvs H2=>sp (v::vs) H2 Q E0)(hk:k<=n:=by first|decide|omega)(hg:Gl X x:=by rfl)(Ja:GY x:=by decide)
  (he:Nu X e es:=by rfl)(B8:Om X pos es:=by rfl):Ev X (.Call (.Name x p) (e::es) [] pos) σ H Q:=bQ C (hr.mono hk) hg (aa h he) Ja he B8
structure Tt(base:Heap)(mg:B3):Prop where
 ex:(Au λbm ob=>Oy (mg "__builtins__" =some (.ref bm)) (bm≠builtinsNs) (bm≠mainGlobals) (base.get? bm=some ob) (ob.cls= .type "module") (ob.dict=some builtinsNs) (ob.data= .plain))
def Kp(H:Hp)(b:Addr):HO->Prop
 | .F8 _=>∃ps,H b=some (.F8 ps)
 |o=>H b=some o
noncomputable def nt:Option HO->Bool
 |some (.F8 _)=>false
 |some (.ext _)=>false
 |_=>true
def GU(c:Addr)(q:Str):HO:=.ext λh=>h.CodeRec (.ref c) q
def SQ(x:Str):Str:=x++(".<locals>." :Str)++("<lambda>" :Str)
def Pn(line:Nat):Str:=if line<100 then SQ "all_taken"else if line<300 then SQ "answer_on"else if line<310 then SQ "answer_best"else SQ "answer_fall"
structure Bs(H:Hp)(ps:Array Value):Prop where
 ok:PySem.TriplesOk ps.toList
 code:∀(pos:Pos) v,codeAmong pos ps.toList=some v->∃c,v= .ref c/\H c=some (GU c (Pn pos.line))
structure Aa(H H':Hp):Prop where
 go:∀b o,H b=some o->Kp H' b o
 good:∀P ps,H P=some (.F8 ps)->Bs H ps->∃ps',H' P=some (.F8 ps')/\Bs H' ps'
noncomputable instance{H H':Hp}:CoeFun (Aa H H') (λ_=>(b:Addr)->(o:HO)->H b=some o->Kp H' b o):=⟨λs b o h=>s.go b o h⟩
def Kp.refl(h:H b=some o):Kp H b o:=by cases o<;>first|exact h|exact⟨_,h⟩
def Kp.ne(h:Kp H b o):H b≠none:=λz=>by cases o<;>first|(have h':H b=some _:=h;rw[z]at h';cases h')|(obtain⟨_,h'⟩:=h;rw[z]at h';cases h')
def aM(h:x=none):nt x=true:=by rw[h];rfl
def aw(h:x=some o)(e:nt (some o)=true):nt x=true:=by rw[h];exact e
def Aa.refl(H:Hp):Aa H H:=⟨λ_ _ h=>Kp.refl h,λ_ ps h g=>⟨ps,h,g⟩⟩
def Aa.trans(a:Aa H H1)(b:Aa H1 H2):Aa H H2:=⟨λc o h=>by
 have h1:=a.go c o h;cases o with
 |F8 ps=>obtain⟨ps',h'⟩:=h1;have h2:=b.go c (.F8 ps') h';exact h2
 |_=>exact b.go c _ h1,λP ps h g=>let⟨ps',h',g'⟩:=a.good P ps h g;b.good P ps' h' g'⟩
def Aa.free(e:Aa H H')(h:H' l=Option.none):H l=Option.none:=by
 cases q:H l with
 |none=>rfl
 |some o=>exact absurd h (e.go l o q).ne
def Aa.seq(e:Aa H H')(h:Aj kK H a xs):Aj kK H' a xs:=by
 rcases h with(h|⟨o,h⟩)|h;·exact .inl (.inl (e.go _ _ h))
 ·exact .inl (.inr ⟨o,e.go _ _ h⟩)
 ·exact .inr h
def Aa.tup(e:Aa H H')(h:Cd kK H a xs):Cd kK H' a xs:=by
 rcases h with(h|⟨o,h⟩)|h;·exact .inl (.inl (e.go _ _ h))
 ·exact .inl (.inr ⟨o,e.go _ _ h⟩)
 ·exact .inr h
def Bs.upd(g:Bs H ps)(hp:nt (H p)=true):Bs (upd H p o) ps:=
 ⟨g.ok,λpos v e=>by obtain⟨c,rfl,hc⟩:=g.code pos v e;refine⟨c,RR,?_⟩;rw[ai (λz=>by rw[<-z,hc]at hp;cases hp)];exact hc⟩
def Aa.aL(e:Aa H H')(h:H p=none)(hp:nt (H' p)=true:=by first|exact aM (by assumption)|exact aw (by assumption) RR):Aa H (upd H' p o) where
 go:=λb u hb=>by
  have hk:=e.go b u hb;have ne:=ak hb h;cases u with
  |F8 ps=>obtain⟨ps',h'⟩:=hk;exact⟨ps',by rw[ai ne];exact h'⟩
  |_=>exact(ai ne).trans hk
 good:=λP ps hP g=>by obtain⟨ps',h1,g1⟩:=e.good P ps hP g;rw[ai (ak hP h)];exact⟨ps',h1,g1.upd hp⟩
def Aa.ntL(e:Aa H H')(h:H l=some (.lst xs)):nt (H' l)=true:=aw (e.go _ _ h) RR
def Aa.ax(h:H p=none):Aa H (upd H p o):=(Aa.refl H).aL h (aM h)
def Aa.lst(e:Aa H H')(h:H l=some (.lst xs)):H' l=some (.lst xs):=e.go _ _ h
structure BA{α:Type}(J:It)(H1:Hp)(xs:List α)(yl:α->V->Hp->Prop):Prop where
 go:∀i H',Aa H1 H'->i<xs.length->J.go i H'
 Ke:∀i H' x Ls,Aa H1 H'->i<xs.length->J.Ke i H' x Ls->(∃y,Av (xs[i]? =some y) (Aa H' Ls) (yl y x Ls))
 stop:∀i H',Aa H1 H'->xs.length<=i->J.stop i H'
def az{xs:List α}(h:Aj kK H1 a (xs.map val)):BA (XF kK a) H1 xs λy x _=>x=val y where
 go:=λi H' s hi=>⟨_,val xs[i],s.seq h,by simp[hi]⟩
 Ke:=λi H' x Ls s hi y=>by obtain⟨rfl,y⟩:=y;refine⟨xs[i],by simp,Aa.refl _,?_⟩;have:=y _ (s.seq h);simp_all
 stop:=λi H' s hi=>⟨_,s.seq h,by simpa using hi⟩
def jq{xs:List α}(h:Cd kK H1 a (xs.map val)):BA (YC kK a) H1 xs λy x _=>x=val y where
 go:=λi H' s hi=>⟨_,val xs[i],s.tup h,by simp[hi]⟩
 Ke:=λi H' x Ls s hi y=>by obtain⟨rfl,y⟩:=y;refine⟨xs[i],by simp,Aa.refl _,?_⟩;have:=y _ (s.tup h);simp_all
 stop:=λi H' s hi=>⟨_,s.tup h,by simpa using hi⟩
def bu:BA (Uk 0 n) H1 (List.range n) λy x _=>x=V.int (y:Int) where
 go:=λi H' s hi=>show i<n by simpa using hi
 Ke:=λi H' x Ls s hi y=>by
  obtain⟨rfl,y⟩:=y;have L5:i<n:=by simpa using hi
  refine⟨i,by simp[L5],Aa.refl _,?_⟩;rw[y];simp
 stop:=λi H' s hi=>show n<=i by simpa using hi
def oU{lo:Nat}:BA (Uk (lo:Int) n) H1 (List.range' lo n) λy x _=>x=V.int (y:Int) where
 go:=λi H' s hi=>show i<n by simpa using hi
 Ke:=λi H' x Ls s hi y=>by
  obtain⟨rfl,y⟩:=y;refine⟨lo+i,?_,Aa.refl _,?_⟩;·simp_all
  ·rw[y];simp
 stop:=λi H' s hi=>show n<=i by simpa using hi
abbrev KQ(X:Cx)(scope:Scope)(s0:Shared)(H0:Hp)(C:Addr)(cl:List (Str×Addr))(fp:Ax):Cx:=X.Lq s0 H0 scope (compEnvC scope cl C X.env) fp
structure V3(X:Cx)(ifs:List Expr)(σ:St)(H:Hp)(Q:Bool->Hp->Prop):Prop where
 run:∀(pins:Bc)(s:Shared),Inv X pins σ H s->
  CF X (forIn ifs true λc r=>if r=true then do let ok<-isTrue c X.env (eval c X.env);pure (ForInStep.yield ok)else pure (ForInStep.yield r)) (TP X pins σ Q) X.xe s
def KR(X:Cx)(scope:Scope)(ifs:List Expr):TT:=λσ H Q=>∀s0 H0 C cl fp,V3 (KQ X scope s0 H0 C cl fp) ifs σ H Q
def OR(X:Cx)(scope:Scope)(e:Expr):TE:=λσ H Q=>∀s0 H0 C cl fp,Ev (KQ X scope s0 H0 C cl fp) e σ H Q
def kE(q:QT true H):V3 X [] σ H QT:=⟨λpins s I=>abh pins s σ H QT I q⟩
def bp(h:Et X c σ H QT):V3 X [c] σ H QT:=⟨λpins s I=>abg cY pins s σ H QT I h⟩
def V3.mono(h:V3 X ifs σ H QT)(k:∀v H',QT v H'->Q' v H'):V3 X ifs σ H Q':=⟨λpins s I=>thT (h.run pins s I) λ_ _ H' I' q=>⟨H',I',k _ H' q⟩⟩
def Ei.mono(h:Ei X tg iter σ H R)(k:∀J H',R J H'->R' J H'):Ei X tg iter σ H R':=⟨λpins s I=>iM (h.run pins s I) λ_ _ h1=>iM h1 λ_ _ ⟨it,fp,tn,J,H',e,I',T,t0,f,r⟩=>⟨it,fp,tn,J,H',e,I',T,t0,f,k J H' r⟩⟩
def t5(hc:X.calm=true)(hN:X.N.Nodup)(ok:ER X.N X.env.scope scope own)(hg:∀(s:Shared)(H:Hp)(C:Addr)(cl:List (Str×Addr))(fp:Ax),PG (KQ X scope s H C cl fp) tg g)
  (h:TC (Ei X tg iter) g (KR X scope ifs) (OR X scope elt) (own.map (·.2)) σ H Q)(hs:∀x,foldedSetIterable iter X.env x=pure x:=by intro _;rfl):Ev X (.ListComp elt [⟨tg,iter,ifs,0⟩] scope pos) σ H Q:=
 bH (aek hc hN qW ok hg (λs0 H0 C cl fp pins s σ H Q I q=>(q s0 H0 C cl fp).run pins s I) (λs0 H0 C cl fp pins s σ H Q I q=>(q s0 H0 C cl fp).run pins s I) hs) h
def de{α:Type}(p:α->Bool)(l:List α)(x:α):(l++[x]).filter p=l.filter p++(if p x=true then[x]else[]):=by grind
def a_{α:Type}{l:List α}{x:α}(h:l[i]? =some x):l.take (i+1)=l.take i++[x]:=by rw[List.take_add_one,h];rfl
def mQ{f:α->V}{g:TG}{tt:TT}{te:TE}{Qd:Hp->Prop}
  (Y:BA J H1 xs yl)(hD:H1 D=none)(hsz:xs.length<=sizeLine)
  (turn:∀y∈xs,∀x H',Aa H1 H'->yl y x H'->g x (wipe σ vs) H' λσ2 H2=>wipe σ2 vs=wipe σ vs/\tt σ2 H2 λb H3=>Aa H' H3/\b=pr y/\(b=true->te σ2 H3 λz H4=>Aa H3 H4/\z=f y))
  (gm:∀x σ H Q Q',(∀σ2 H2,Q σ2 H2->Q' σ2 H2)->g x σ H Q->g x σ H Q')(tm:∀σ H Q Q',(∀b H2,Q b H2->Q' b H2)->tt σ H Q->tt σ H Q')(em:∀σ H Q Q',(∀b H2,Q b H2->Q' b H2)->te σ H Q->te σ H Q')
  (hd:∀H',Aa H1 H'->H' D=some (.lst ((xs.filter pr).map f))->Qd H'):
  ∃W:Nat->Nat->Hp->Prop,(∃m,W 0 m (upd H1 D (.lst [])))/\∀i m H,W i m H->
   (J.stop i H/\Qd H)\/(J.go i H/\∃Nx:Hp->Prop,(∀H',Nx H'->∃m',m'<m/\W (i+1) m' H')/\∀x H',J.Ke i H x H'->g x (wipe σ vs) H' λσ2 H2=>wipe σ2 vs=wipe σ vs/\tt σ2 H2 λb H3=>
    if b=true then te σ2 H3 λy H4=>(∃acc,Av (H4 D=some (.lst acc)) (acc.length<sizeLine) (Nx (upd H4 D (.lst (acc++[y])))))else Nx H3):=by
 refine⟨λi m H=>m=xs.length-i/\i<=xs.length/\Aa H1 H/\H D=some (.lst (((xs.take i).filter pr).map f)),⟨xs.length,by simp,afk _,Aa.ax hD,ae⟩,?_⟩;rintro i m H ⟨rfl,hi,sm,hh⟩;by_cases Bz:i<xs.length
 ·refine .inr ⟨Y.go i H sm Bz,λH'=>Aa H1 H'/\H' D=some (.lst (((xs.take (i+1)).filter pr).map f)),λH' ⟨s',q⟩=>⟨xs.length-(i+1),by omega,RR,Bz,s',q⟩,λx H' y=>?_⟩;obtain⟨z,hz,s2,hy⟩:=Y.Ke i H x H' sm Bz y;refine gm _ _ _ _ _ (λσ2 H2 ⟨e,q⟩=>⟨e,?_⟩) (turn z (afa hz) x H' (sm.trans s2) hy);refine tm _ _ _ _ (λb H3 ⟨s3,eb,q⟩=>?_) q;have Ua:H3 D=some (.lst (((xs.take i).filter pr).map f)):=s3 _ _ (s2 _ _ hh);rw[a_ hz,de,<-eb];cases b with
  |false=>rw[if_neg ae0];exact⟨(sm.trans s2).trans s3,by simpa using Ua⟩
  |true=>
   rw[if_pos RR];refine em _ _ _ _ (λu H4 ⟨s4,eu⟩=>⟨_,s4 _ _ Ua,?_,?_,?_⟩) (q RR);·rw[ae1];exact afl (afh _ _) (by rw[afJ];omega)
   ·exact(((sm.trans s2).trans s3).trans s4).aL hD (aw (s4.go _ _ Ua) RR)
   ·rw[ae,eu];simp
 ·have e:i=xs.length:=by omega
  subst e;refine .inl ⟨Y.stop _ H sm (ae8 _),hd H sm ?_⟩;rw[afX]at hh;exact hh
def sj(σ:St)(j:Nat)(v:Option V):wipe ((wipe σ [j]).set j v) [j]=wipe σ [j]:=by show(((σ.set j none).set j v).set j none)=σ.set j none;simp_all
def dG(hc:X.calm=true)(hN:X.N.Nodup)(ok:ER X.N X.env.scope scope [(x,j)])(hg:∀(s:Shared)(H:Hp)(C:Addr)(cl:List (Str×Addr))(fp:Ax),PG (KQ X scope s H C cl fp) (.Name x px) (Du j))
  (h:Ei X (.Name x px) iter σ H λJ H1=>(Au λ(xs:List α) (val:α->V)=>B9 (BA J H1 xs (λy x _=>x=val y)) (xs.length<=sizeLine) ((∀y∈xs,∀H',Aa H1 H'->KR X scope ifs ((σ.set j none).set j (some (val y))) H' λb H3=>Aa H' H3/\b=pr y)) ((∀y∈xs,pr y=true->∀H',Aa H1 H'->OR X scope elt ((σ.set j none).set j (some (val y))) H' λz H4=>Aa H' H4/\z=f y)) (∀D H',H1 D=none->Aa H1 H'->H' D=some (.lst ((xs.filter pr).map f))->Q (.ref D) H')))(hs:∀x,foldedSetIterable iter X.env x=pure x:=by intro _;rfl):Ev X (.ListComp elt [⟨.Name x px,iter,ifs,0⟩] scope pos) σ H Q:=by refine t5 hc hN ok hg ?_ hs;refine Ei.mono h λJ H1 ⟨xs,val,Y,hz,ht,he,hq⟩=>?_;intro D hD;refine mQ (f:=f) Y hD hz ?_ (λx σ H Q Q' k q=>k _ _ q) (λσ H Q Q' k q s0 H0 C cl fp=>(q s0 H0 C cl fp).mono k) (λσ H Q Q' k q s0 H0 C cl fp=>(q s0 H0 C cl fp).mono k) λH' s' q=>hq D H' hD s' q;intro y hy v H' sm e;subst e;refine⟨sj _ _ _,λs0 H0 C cl fp=>(ht y hy H' sm s0 H0 C cl fp).mono ?_⟩;rintro b H3 ⟨s3,rfl⟩;exact⟨s3,RR,λhb s0 H0 C cl fp=>(he y hy hb H3 (sm.trans s3) s0 H0 C cl fp)⟩
def bL(hc:X.calm=true)(hN:X.N.Nodup)(ok:ER X.N X.env.scope scope [(x,j)])(hg:∀(s:Shared)(H:Hp)(C:Addr)(cl:List (Str×Addr))(fp:Ax),PG (KQ X scope s H C cl fp) (.Name x px) (Du j))
  (h:Ei X (.Name x px) iter σ H λJ H1=>(Au λ(xs:List α) (val:α->V)=>BO (BA J H1 xs (λy x _=>x=val y)) (xs.length<=sizeLine) ((∀y∈xs,∀H',Aa H1 H'->OR X scope elt ((σ.set j none).set j (some (val y))) H' λz H4=>Aa H' H4/\z=f y)) (∀D H',H1 D=none->Aa H1 H'->H' D=some (.lst (xs.map f))->Q (.ref D) H')))(hs:∀x,foldedSetIterable iter X.env x=pure x:=by intro _;rfl):Ev X (.ListComp elt [⟨.Name x px,iter,[],0⟩] scope pos) σ H Q:=by refine dG hc hN ok hg (Ei.mono h λJ H1 ⟨xs,val,Y,hz,he,hq⟩=>⟨xs,val,Y,hz,λy hy H' sm s0 H0 C cl fp=>kE ⟨Aa.refl _,RR⟩,λy hy _=>he y hy,λD H' hD sm q=>hq D H' hD sm ?_⟩) hs;rw[q,afV.mpr (λ_ _=>rfl)]
def aQ(h:Ev X iter σ H λv H1=>(∃a,Av (v= .ref a) ((∃xs,Aj X.K H1 a xs)) (R (XF X.K a) H1))):Ei X tg iter σ H R:=ml (abq aF) h
def vp(h:Ev X iter σ H λv H1=>(∃a,Av (v= .ref a) ((∃xs,Cd X.K H1 a xs)) (R (YC X.K a) H1))):Ei X tg iter σ H R:=ml (acU aF) h
def cn(hg:Gl X "range")(hm:X.mg "range" =none)(h:Ea X [a] σ H λvs H1=>(∃n:Nat,Av (vs=[.int n]) (n<2^62) (R (Uk 0 n) H1)))(hs:starEach [a] X.env=[(false,eval a X.env)]:=by rfl):Ei X tg (.Call (.Name "range" p) [a] [] pos) σ H R:=by refine ml (xG hg hm cK hs)<|⟨λpos pins s I=>iM (h.run pos pins s I) λus s' ⟨vs,H',I',r,n,e,hn,q⟩=>⟨vs,H',I',r,(n),e,by omega,by omega,by simpa using q⟩⟩
def yq{tg:Expr}{pos p:Pos}(hg:Gl X "range")(hm:X.mg "range" =none)(h:Ea X [a,b] σ H λvs H1=>(Au λi j:Int=>Av (vs=[.int i,.int j]) ((-(2^62)<=i/\i<2^62/\ -(2^62)<=j/\j<2^62)) (R (Uk i (j-i).toNat) H1)))
  (hs:starEach [a,b] X.env=[(false,eval a X.env),(false,eval b X.env)]:=by rfl)(OI:starEach [b] X.env=[(false,eval b X.env)]:=by rfl):Ei X tg (.Call (.Name "range" p) [a,b] [] pos) σ H R:=ml (xF hg hm cK hs OI) h
section
structure EY(x qual:Str)(st:Stmt)(N ps:Ag):Prop where
 sc:C0 N ps (Ap st)
 bd:∀(kV doc pm:Value)(an:Option Addr)(B_ ct:Value)(us:Ay),us.length=ps.length->bindArgs (PySem.W.fnOf x qual (B5 st) (AX st) (Ap st) .none kV doc pm an B_ ct) ⟨us,[]⟩=pure (ps.zip us)
def Ao(x:Str)(st:Stmt)(N:Ag)(k:Nat):=EY x x st N (N.take k)
def EY.m1{st:Stmt}(s:C0 N ps (Ap st))(h:1=ps.length)(g:∀(kV doc pm:Value)(an:Option Addr)(B_ ct a:Value),bindArgs (PySem.W.fnOf x q (B5 st) (AX st) (Ap st) .none kV doc pm an B_ ct) ⟨[a],[]⟩=pure (ps.zip [a])):EY x q st N ps:=⟨s,by
 intro kV doc pm an B_ ct us hl;rw[<-h]at hl;match us,hl with
 |[a],_=>exact g ..⟩
def EY.m2{st:Stmt}(s:C0 N ps (Ap st))(h:2=ps.length)(g:∀(kV doc pm:Value)(an:Option Addr)(B_ ct a b:Value),bindArgs (PySem.W.fnOf x q (B5 st) (AX st) (Ap st) .none kV doc pm an B_ ct) ⟨[a,b],[]⟩=pure (ps.zip [a,b])):EY x q st N ps:=⟨s,by
 intro kV doc pm an B_ ct us hl;rw[<-h]at hl;match us,hl with
 |[a,b],_=>exact g ..⟩
def EY.m3{st:Stmt}(s:C0 N ps (Ap st))(h:3=ps.length)(g:∀(kV doc pm:Value)(an:Option Addr)(B_ ct a b c:Value),bindArgs (PySem.W.fnOf x q (B5 st) (AX st) (Ap st) .none kV doc pm an B_ ct) ⟨[a,b,c],[]⟩=pure (ps.zip [a,b,c])):EY x q st N ps:=⟨s,by
 intro kV doc pm an B_ ct us hl;rw[<-h]at hl;match us,hl with
 |[a,b,c],_=>exact g ..⟩
def EY.m4{st:Stmt}(s:C0 N ps (Ap st))(h:4=ps.length)(g:∀(kV doc pm:Value)(an:Option Addr)(B_ ct a b c d:Value),bindArgs (PySem.W.fnOf x q (B5 st) (AX st) (Ap st) .none kV doc pm an B_ ct) ⟨[a,b,c,d],[]⟩=pure (ps.zip [a,b,c,d])):EY x q st N ps:=⟨s,by
 intro kV doc pm an B_ ct us hl;rw[<-h]at hl;match us,hl with
 |[a,b,c,d],_=>exact g ..⟩
def EY.m5{st:Stmt}(s:C0 N ps (Ap st))(h:5=ps.length)(g:∀(kV doc pm:Value)(an:Option Addr)(B_ ct a b c d e:Value),bindArgs (PySem.W.fnOf x q (B5 st) (AX st) (Ap st) .none kV doc pm an B_ ct) ⟨[a,b,c,d,e],[]⟩=pure (ps.zip [a,b,c,d,e])):EY x q st N ps:=⟨s,by
 intro kV doc pm an B_ ct us hl;rw[<-h]at hl;match us,hl with
 |[a,b,c,d,e],_=>exact g ..⟩
local macro_rules|`(tactic|walk_at"g")=>`(tactic|first
 |exact .m2 ⟨RR,RR,RR,by decide+kernel,RR,by decide+kernel,by decide+kernel⟩ RR λ_ _ _ _ _ _ _ _=>by kernel_rfl
 |exact .m1 ⟨RR,RR,RR,by decide+kernel,RR,by decide+kernel,by decide+kernel⟩ RR λ_ _ _ _ _ _ _=>by kernel_rfl
 |exact .m3 ⟨RR,RR,RR,by decide+kernel,RR,by decide+kernel,by decide+kernel⟩ RR λ_ _ _ _ _ _ _ _ _=>by kernel_rfl
 |exact .m4 ⟨RR,RR,RR,by decide+kernel,RR,by decide+kernel,by decide+kernel⟩ RR λ_ _ _ _ _ _ _ _ _ _=>by kernel_rfl
 |exact .m5 ⟨RR,RR,RR,by decide+kernel,RR,by decide+kernel,by decide+kernel⟩ RR λ_ _ _ _ _ _ _ _ _ _ _=>by kernel_rfl)
abbrev WJ:Ag:=["party"]
def aev:Ao "bit" TN WJ 1:=by walk_at"g"
abbrev WI:Ag:=["group","party"]
def aeu:Ao "has" TM WI 2:=by walk_at"g"
abbrev Pq:Ag:=["state","group","i"]
def lq:Ao "members" La Pq 2:=by walk_at"g"
abbrev N4:Ag:=["state"]
def vg:Ao "everyone" Jw N4 1:=by walk_at"g"
abbrev Kr:Ag:=["state"]
def pG:Ao "every_group" Gs Kr 1:=by walk_at"g"
abbrev NZ:Ag:=["state","group","i"]
def jy:Ao "seats_in" Jr NZ 2:=by walk_at"g"
abbrev UQ:Ag:=["state","group"]
def ady:Ao "wins" QS UQ 2:=by walk_at"g"
abbrev N0:Ag:=["state","group","i"]
def jz:Ao "lessened" Js N0 2:=by walk_at"g"
abbrev JG:Ag:=["state","groups","least","group","rest"]
def cF:Ao "least_groups" Fx JG 2:=by walk_at"g"
abbrev LP:Ag:=["self","seats","wants","cares","worth"]
def rJ:EY "__init__" "Party.__init__" Ha LP ["self","seats","wants","cares","worth"]:=by walk_at"g"
abbrev Kn:Ag:=["seats"]
def pD:Ao "right_seats" Gp Kn 1:=by walk_at"g"
abbrev Km:Ag:=["wants"]
def pC:Ao "right_wants" Gn Km 1:=by walk_at"g"
abbrev Ko:Ag:=["cares"]
def pE:Ao "right_cares" Gq Ko 1:=by walk_at"g"
abbrev Kl:Ag:=["worth","offices"]
def pB:Ao "right_worth" Gm Kl 2:=by walk_at"g"
abbrev Q4:Ag:=["state","had","one","other"]
def aaf:Ao "sooner" My Q4 4:=by walk_at"g"
abbrev LI:Ag:=["state","parties","had","chosen","party"]
def eQ:Ao "whose_turn" G3 LI 3:=by walk_at"g"
abbrev LJ:Ag:=["state","group","parties","had","party","order"]
def cM:Ao "turn_order" G4 LJ 2:=by walk_at"g"
abbrev UR:Ag:=["state","order","taken","party","worth","chooser","office"]
def nV:Ao "gain" QU UR 4:=by walk_at"g"
abbrev MR:Ag:=["state","order","taken","lookers","party","free","office","ends","worth","plainly"]
def bP:Ao "all_taken" CK MR 4:=by walk_at"g"
abbrev GL:Ag:=["state","group","lookers","order","taken","office"]
def bG:Ao "holders_by_turns" DJ GL 3:=by walk_at"g"
abbrev MJ:Ag:=["held"]
def tM:Ao "yes_or_no" Ik MJ 1:=by walk_at"g"
abbrev Pz:Ag:=["numbers"]
def yn:Ao "counted" Lg Pz 1:=by walk_at"g"
abbrev IK:Ag:=["pairs","numbers","pair"]
def eG:Ao "counted_pairs" E5 IK 1:=by walk_at"g"
abbrev Pt:Ag:=["numbers","missing"]
def lx:Ao "in_five" Lc Pt 1:=by walk_at"g"
abbrev Po:Ag:=["state","party","group"]
def yh:Ao "vote_of" K9 Po 3:=by walk_at"g"
abbrev SK:Ag:=["state","group","seats","i","party"]
def mR:Ao "tally" OA SK 2:=by walk_at"g"
abbrev PB:Ag:=["state","group","i"]
def ly:Ao "at_odds" Lh PB 2:=by walk_at"g"
abbrev Q3:Ag:=["state","group","seats"]
def tN:Ao "stands" Mx Q3 2:=by walk_at"g"
abbrev Hd:Ag:=["state","group"]
def dr:Ao "standing_groups" D7 Hd 1:=by walk_at"g"
abbrev Ks:Ag:=["state","values"]
def pH:Ao "answer_vote" Gu Ks 2:=by walk_at"g"
abbrev IM:Ag:=["state","values"]
def mv:Ao "answer_stands" E7 IM 2:=by walk_at"g"
abbrev Hg:Ag:=["state","values"]
def kj:Ao "answer_standing" D_ Hg 2:=by walk_at"g"
abbrev JJ:Ag:=["state","values"]
def nX:Ao "answer_tight" FA JJ 2:=by walk_at"g"
abbrev IU:Ag:=["state","values","ranked","group"]
def eJ:Ao "answer_fewest" Fc IU 2:=by walk_at"g"
abbrev Hh:Ag:=["state","values","ranked","group"]
def dv:Ao "answer_smallest" Eb Hh 2:=by walk_at"g"
abbrev Kt:Ag:=["state","values","groups","group"]
def dI:Ao "answer_part" Gv Kt 2:=by walk_at"g"
abbrev JH:Ag:=["name"]
def nT:Ao "is_vote_call" Fy JH 1:=by walk_at"g"
abbrev GO:Ag:=["state","name","values"]
def jC:Ao "answer_vote_call" DL GO 3:=by walk_at"g"
abbrev Pr:Ag:=["state","group"]
def yj:Ao "install" Lb Pr 2:=by walk_at"g"
abbrev Pw:Ag:=["state"]
def yk:Ao "dismiss" Le Pw 1:=by walk_at"g"
abbrev JE:Ag:=["state"]
def aag:Ao "settle" G5 JE 1:=by walk_at"g"
abbrev MS:Ag:=["state","values","wants","cares","worth"]
def fF:Ao "add_party" Iu MS 2:=by walk_at"g"
abbrev MM:Ag:=["state","values","old"]
def mh:Ao "set_seats" Io MM 2:=by walk_at"g"
abbrev ML:Ag:=["state","values","wants","old"]
def iw:Ao "set_wants" Im ML 2:=by walk_at"g"
abbrev MN:Ag:=["state","values","cares","old"]
def iy:Ao "set_cares" Ip MN 2:=by walk_at"g"
abbrev MK:Ag:=["state","values","worth","old"]
def iu:Ao "set_worth" Il MK 2:=by walk_at"g"
abbrev N6:Ag:=["state","values"]
def vh:Ao "add_like" Jy N6 2:=by walk_at"g"
abbrev N7:Ag:=["state","values"]
def vi:Ao "add_hate" Jz N7 2:=by walk_at"g"
abbrev Q9:Ag:=["state","values","one","other"]
def nW:Ao "forget" MD Q9 2:=by walk_at"g"
abbrev US:Ag:=["state","values"]
def adz:Ao "form" QV US 2:=by walk_at"g"
abbrev Q7:Ag:=["state","values","rest"]
def tP:Ao "leaves" MB Q7 2:=by walk_at"g"
abbrev Q5:Ag:=["state","values","gone"]
def tO:Ao "resign" Mz Q5 2:=by walk_at"g"
abbrev MO:Ag:=["name"]
def tQ:Ao "is_change" Iq MO 1:=by walk_at"g"
abbrev Kq:Ag:=["state","name","values"]
def pF:Ao "make_change" Gr Kq 3:=by walk_at"g"
abbrev SN:Ag:=["start","following","there","comers","known"]
def iY:Ao "chain" OC SN 2:=by walk_at"g"
abbrev LK:Ag:=["state","group"]
def rF:Ao "may_govern" G6 LK 2:=by walk_at"g"
abbrev GN:Ag:=["state","group"]
def c9:Ao "governing_groups" DK GN 1:=by walk_at"g"
abbrev Px:Ag:=["state","group","order","party"]
def iX:Ao "deal_of" Lf Px 2:=by walk_at"g"
abbrev Hf:Ag:=["state","deals","group"]
def du:Ao "governing_deals" D9 Hf 1:=by walk_at"g"
abbrev N5:Ag:=["group","new","old","party"]
def jF:Ao "all_gain" Jx N5 3:=by walk_at"g"
abbrev N1:Ag:=["deals","old","group"]
def jA:Ao "left_for" Jt N1 2:=by walk_at"g"
abbrev Kx:Ag:=["state","values"]
def pJ:Ao "answer_deal" Gy Kx 2:=by walk_at"g"
abbrev Ku:Ag:=["state","values"]
def pI:Ao "answer_mays" Gw Ku 2:=by walk_at"g"
abbrev JN:Ag:=["state","values"]
def n8:Ao "answer_leave" FF JN 2:=by walk_at"g"
abbrev IP:Ag:=["state","values","deals","group"]
def c3:Ao "answer_stable" E8 IP 2:=by walk_at"g"
abbrev MQ:Ag:=["state","values","deals"]
def mi:Ao "answer_on" CI MQ 2:=by walk_at"g"
abbrev Kz:Ag:=["state","values","party","deals","with_it","group","best"]
def cj:Ao "answer_best" Ct Kz 2:=by walk_at"g"
abbrev F_:Ag:=["name"]
def i8:Ao "is_coalition_call" Dr F_ 1:=by walk_at"g"
abbrev EH:Ag:=["state","name","values"]
def gu:Ao "answer_coalition_call" CJ EH 3:=by walk_at"g"
abbrev MP:Ag:=["state","party","question","place","below","other","above","total"]
def bx:Ao "in_middle" Ir MP 3:=by walk_at"g"
abbrev Q6:Ag:=["state","group","i"]
def nS:Ao "places" MA Q6 2:=by walk_at"g"
abbrev SJ:Ag:=["state","group","taken"]
def wB:Ao "width" Oz SJ 2:=by walk_at"g"
abbrev Q8:Ag:=["state","group","taken","least","greatest","i","party"]
def gn:Ao "is_row" MC Q8 2:=by walk_at"g"
abbrev HI:Ag:=["state","group"]
def dD:Ao "winning_groups" Ez HI 1:=by walk_at"g"
abbrev Q2:Ag:=["state","place","party"]
def nR:Ao "way_to" Mw Q2 2:=by walk_at"g"
abbrev JF:Ag:=["state","place","other","near","party"]
def cE:Ao "seats_nearer" Fw JF 3:=by walk_at"g"
abbrev IS:Ag:=["state","values","i"]
def eI:Ao "answer_middle" E_ IS 2:=by walk_at"g"
abbrev IT:Ag:=["state","values","group"]
def gP:Ao "answer_joined" Fb IT 2:=by walk_at"g"
abbrev Ga:Ag:=["state","values","rows","group"]
def cS:Ao "answer_neighbours" Ds Ga 2:=by walk_at"g"
abbrev GQ:Ag:=["state","values","ranked","group","best"]
def b8:Ao "answer_narrowest" DN GQ 2:=by walk_at"g"
abbrev IV:Ag:=["state","values","ways","place"]
def eK:Ao "answer_centre" Fd IV 2:=by walk_at"g"
abbrev IQ:Ag:=["state","values"]
def mw:Ao "answer_motion" E9 IQ 2:=by walk_at"g"
abbrev JI:Ag:=["name"]
def nU:Ao "is_line_call" Fz JI 1:=by walk_at"g"
abbrev GR:Ag:=["state","name","values"]
def jE:Ao "answer_line_call" DO GR 3:=by walk_at"g"
abbrev N3:Ag:=["state","groups","group"]
def jB:Ao "feelings" Jv N3 2:=by walk_at"g"
abbrev SM:Ag:=["state","likes","hates"]
def rE:Ao "stock" OB SM 1:=by walk_at"g"
abbrev HM:Ag:=["state","values"]
def lA:Ao "answer_governs" ED HM 2:=by walk_at"g"
abbrev Kv:Ag:=["state","values","party"]
def jh:Ao "answer_look" Gx Kv 2:=by walk_at"g"
abbrev Fn:Ag:=["state","name","values"]
def gT:Ao "answer_looking_call" C3 Fn 3:=by walk_at"g"
abbrev LL:Ag:=["group","way"]
def rG:Ao "lookers_of" G7 LL 2:=by walk_at"g"
abbrev N2:Ag:=["state","group","lookers","order","taken","party"]
def fm:Ao "gains_of" Ju N2 3:=by walk_at"g"
abbrev Q_:Ag:=["state","holders","one","other","worth"]
def tR:Ao "envies" ME Q_ 4:=by walk_at"g"
abbrev Pp:Ag:=["state","holders","pairs","one","other"]
def iW:Ao "swapped" K_ Pp 2:=by walk_at"g"
abbrev JM:Ag:=["state","values"]
def n0:Ao "answer_order" FE JM 2:=by walk_at"g"
abbrev JL:Ag:=["state","values"]
def nZ:Ao "answer_plain" FD JL 2:=by walk_at"g"
abbrev JR:Ag:=["state","values"]
def n_:Ao "answer_ahead" FJ JR 2:=by walk_at"g"
abbrev JQ:Ag:=["state","values","group","party","order","endings","lookers","taken"]
def bz:Ao "answer_alone" FI JQ 2:=by walk_at"g"
abbrev JO:Ag:=["state","values"]
def n9:Ao "answer_gains" FG JO 2:=by walk_at"g"
abbrev JK:Ag:=["state","values"]
def nY:Ao "answer_swaps" FC JK 2:=by walk_at"g"
abbrev HJ:Ag:=["name"]
def lu:Ao "is_office_call" EA HJ 1:=by walk_at"g"
abbrev FK:Ag:=["state","name","values"]
def iz:Ao "answer_office_call" C_ FK 3:=by walk_at"g"
abbrev MW:Ag:=["self","name","kinds","taken"]
def tV:EY "__init__" "Call.__init__" Iz MW ["self","name","kinds","taken"]:=by walk_at"g"
abbrev KC:Ag:=["self","numbers"]
def pL:EY "__init__" "Reader.__init__" GB KC ["self","numbers"]:=by walk_at"g"
abbrev IY:Ag:=["self"]
def mx:EY "at_end" "Reader.at_end" Fg IY ["self"]:=by walk_at"g"
abbrev FL:Ag:=["self","number"]
def dX:EY "read_number" "Reader.read_number" Dc FL ["self"]:=by walk_at"g"
abbrev Hl:Ag:=["self","length","row"]
def dA:EY "read_row" "Reader.read_row" Ef Hl ["self"]:=by walk_at"g"
abbrev Gb:Ag:=["self","kind"]
def i9:EY "read_value" "Reader.read_value" Dt Gb ["self","kind"]:=by walk_at"g"
abbrev GS:Ag:=["self","shape","kind"]
def b9:EY "read_call" "Reader.read_call" DP GS ["self"]:=by walk_at"g"
abbrev IJ:Ag:=["state","parties","sharings","first","second"]
def bN:Ao "every_sharing" E4 IJ 1:=by walk_at"g"
abbrev Pu:Ag:=["state","sharing","party","far","question","done"]
def gq:Ao "how_far" Ld Pu 3:=by walk_at"g"
abbrev LM:Ag:=["self","state","party","sharing"]
def cO:EY "__init__" "Views.__init__" G8 LM ["self","state"]:=by walk_at"g"
abbrev Hj:Ag:=["self","one","other","nearer","farther","seats","near","far"]
def bc:EY "seats_for" "Views.seats_for" Ed Hj ["self","one","other"]:=by walk_at"g"
abbrev KA:Ag:=["self","one","other"]
def pK:EY "beats" "Views.beats" GA KA ["self","one","other"]:=by walk_at"g"
abbrev IW:Ag:=["self","one","other","nearer","farther","holder"]
def cf:EY "unseats" "Views.unseats" Fe IW ["self","one","other"]:=by walk_at"g"
abbrev IX:Ag:=["self","sharing","other"]
def eL:EY "beaters" "Views.beaters" Ff IX ["self","sharing"]:=by walk_at"g"
abbrev Hi:Ag:=["self","sharing","other"]
def dy:EY "unseaters" "Views.unseaters" Ec Hi ["self","sharing"]:=by walk_at"g"
abbrev Hk:Ag:=["self","party","other"]
def dz:EY "is_strong" "Views.is_strong" Ee Hk ["self","party"]:=by walk_at"g"
abbrev JP:Ag:=["state","values","views","one","other"]
def dw:Ao "answer_beats" FH JP 2:=by walk_at"g"
abbrev HN:Ag:=["state","values"]
def lB:Ao "answer_beaters" EE HN 2:=by walk_at"g"
abbrev GP:Ag:=["state","values"]
def jD:Ao "answer_unseaters" DM GP 2:=by walk_at"g"
abbrev Ky:Ag:=["state","values","views","sharing"]
def dJ:Ao "answer_calm" Gz Ky 2:=by walk_at"g"
abbrev HL:Ag:=["state","values","views","sharing"]
def cN:Ao "answer_holding" EC HL 2:=by walk_at"g"
abbrev HK:Ag:=["state","values","found","sharing"]
def dE:Ao "answer_middles" EB HK 2:=by walk_at"g"
abbrev IL:Ag:=["state","values","views","party"]
def cZ:Ao "answer_strong" E6 IL 2:=by walk_at"g"
abbrev Kw:Ag:=["state","values","views"]
def ji:Ao "answer_fall" B2 Kw 2:=by walk_at"g"
abbrev He:Ag:=["name"]
def kh:Ao "is_sharing_call" D8 He 1:=by walk_at"g"
abbrev Fm:Ag:=["state","name","values"]
def gS:Ao "answer_sharing_call" C2 Fm 3:=by walk_at"g"
abbrev LO:Ag:=["self","rule","offices"]
def rH:EY "__init__" "State.__init__" G_ LO ["self","rule","offices"]:=by walk_at"g"
abbrev LN:Ag:=["self","other"]
def kl:EY "twin" "State.twin" G9 LN ["self"]:=by walk_at"g"
abbrev DR:Ag:=["state","call","kind","value"]
def fk:Ao "names_nobody" BQ DR 2:=by walk_at"g"
abbrev WK:Ag:=["state","name","values"]
def aew:Ao "ask" TQ WK 3:=by walk_at"g"
abbrev MU:Ag:=["self"]
def tT:EY "__init__" "Desk.__init__" Iw MU ["self"]:=by walk_at"g"
abbrev EU:Ag:=["self","rule","offices"]
def rK:EY "begin" "Desk.begin" Dy EU ["self","rule","offices"]:=by walk_at"g"
abbrev KD:Ag:=["self","name","values","draft","answer"]
def fU:EY "change" "Desk.change" GC KD ["self","name","values"]:=by walk_at"g"
abbrev MV:Ag:=["self"]
def tU:EY "back" "Desk.back" Iy MV ["self"]:=by walk_at"g"
abbrev LQ:Ag:=["self"]
def rL:EY "again" "Desk.again" Hc LQ ["self"]:=by walk_at"g"
abbrev MT:Ag:=["self"]
def tS:EY "tell" "Desk.tell" Iv MT ["self"]:=by walk_at"g"
abbrev KG:Ag:=["self","call"]
def pM:EY "answer" "Desk.answer" GD KG ["self","call"]:=by walk_at"g"
abbrev PD:Ag:=["calls","reader","desk","given","answer"]
def gr:Ao "answers" Li PD 1:=by walk_at"g"
end
structure Aar(K:Frag)(mg:B3)(ad:Ad)(base:Heap):Prop where
 DH:Kc K mg "all_taken" CK ad.Ey
 De:Kc K mg "answer_best" Ct ad.CG
 Dd:Kc K mg "answer_fall" B2 ad.Cs
 EK:Kc K mg "answer_on" CI ad.Kj
 bm:Tt base mg
 calls:∃t xs,mg "CALLS" =some (.ref t)/\KTup K t xs/\xs.length=Az.length/\∀(i:Nat) p,Az[i]? =some p->∃a,xs[i]? =some (.ref a)/\KTup K a [.str p.1,.str p.2]
 J_:Gk base mg "VOTE_CALLS" Ce
 OZ:Gk base mg "CHANGES" BU
 Fi:Gk base mg "COALITION_CALLS" Bp
 Kb:Gk base mg "LINE_CALLS" Cf
 K6:Gk base mg "LOOKING_CALLS" B1
 HA:Gk base mg "OFFICE_CALLS" BS
 GH:Gk base mg "SHARING_CALLS" BH
structure Txt(K:Frag)(mg:B3)(ad:Ad)(base:Heap):Prop where
 d:Xw K mg
 c:Xx K mg
 m:Xv K mg ad
 l:Aar K mg ad base
def Bx(P:Program)(w:World){K:Frag}{mg:B3}{ad:Ad}{base:Heap}(_:Txt K mg ad base):=Ab P w K mg base
structure FW(m:Nat)(p:Party):Prop where
 s1:1<=p.seats
 s2:p.seats<=200
 x2:p.x<=30
 y2:p.y<=30
 c1:1<=p.carex
 c2:p.carex<=5
 d1:1<=p.carey
 d2:p.carey<=5
 wl:p.worth.length=m
 w2:∀v∈p.worth,v<=50
structure Good(M:Sm):Prop where
 rule:M.rule<=2
 m1:1<=M.offices
 m2:M.offices<=5
 n5:M.nP<=5
 ps:∀p∈M.parties,FW M.offices p
 ll:M.likes.length=M.nP
 hl:M.hates.length=M.nP
 lb:∀v∈M.likes,v<2^M.nP
 hb:∀v∈M.hates,v<2^M.nP
 cb:M.Af<2^M.nP
 L0:M.holders.length<=5
 W5:∀v∈M.holders,v<5
noncomputable def nums(l:Ae):List V:=l.map λ(n:Nat)=>V.int (n:Int)
def F9(r m:Nat)(pl ll hl:Addr)(c:Nat)(ho:Addr):List (Str×V):=[("rule",.int r),("offices",.int m),("parties",.ref pl),("likes",.ref ll),("hates",.ref hl),("cabinet",.int c),("holders",.ref ho)]
def UM(n:Nat)(w c x:Addr):List (Str×V):=[("seats",.int n),("wants",.ref w),("cares",.ref c),("worth",.ref x)]
def jT:(F9 r m pl ll hl c ho).lookup ("rule" :Str)=some (V.int r):=by kernel_rfl
def bX:(F9 r m pl ll hl c ho).lookup ("offices" :Str)=some (V.int m):=by kernel_rfl
def aI:(F9 r m pl ll hl c ho).lookup ("parties" :Str)=some (V.ref pl):=by kernel_rfl
def eX:(F9 r m pl ll hl c ho).lookup ("likes" :Str)=some (V.ref ll):=by kernel_rfl
def dc:(F9 r m pl ll hl c ho).lookup ("hates" :Str)=some (V.ref hl):=by kernel_rfl
def bf:(F9 r m pl ll hl c ho).lookup ("cabinet" :Str)=some (V.int c):=by kernel_rfl
def hJ:(F9 r m pl ll hl c ho).lookup ("holders" :Str)=some (V.ref ho):=by kernel_rfl
def iT:(UM n w cc x).lookup ("seats" :Str)=some (V.int n):=by kernel_rfl
def iS:(UM n w cc x).lookup ("wants" :Str)=some (V.ref w):=by kernel_rfl
def iU:(UM n w cc x).lookup ("cares" :Str)=some (V.ref cc):=by kernel_rfl
def iR:(UM n w cc x).lookup ("worth" :Str)=some (V.ref x):=by kernel_rfl
structure BB(ad:Ad)(H:Hp)(a:Addr)(p:Party):Prop where
 ex:∃dx tw tc tx,H a=some (.ins ad.Party dx (UM p.seats tw tc tx))/\H tw=some (.tup [.int p.x,.int p.y])/\H tc=some (.tup [.int p.carex,.int p.carey])/\H tx=some (.tup (nums p.worth))
def BB.mono(h:BB aD H a p)(s:Aa H H'):BB aD H' a p:=by obtain⟨dx,tw,tc,tx,h1,h2,h3,h4⟩:=h.ex;exact⟨dx,tw,tc,tx,s _ _ h1,s _ _ h2,s _ _ h3,s _ _ h4⟩
structure BV(ad:Ad)(H:Hp)(a dx pl ll hl ho:Addr)(ps:Ax)(M:Sm):Prop where
 obj:H a=some (.ins ad.State dx (F9 M.rule M.offices pl ll hl M.Af ho))
 pl:H pl=some (.lst (ps.map V.ref))
 ll:H ll=some (.lst (nums M.likes))
 hl:H hl=some (.lst (nums M.hates))
 ho:H ho=some (.lst (nums M.holders))
 len:ps.length=M.nP
 at_:∀(i:Nat) p q,ps[i]? =some p->M.parties[i]? =some q->BB ad H p q
def BV.mono{pl ll hl ho:Addr}(h:BV aD H a dx pl ll hl ho ps M)(s:Aa H H'):BV aD H' a dx pl ll hl ho ps M:=
 ⟨s _ _ h.obj,s _ _ h.pl,s _ _ h.ll,s _ _ h.hl,s _ _ h.ho,h.len,λi p q a b=>(h.at_ i p q a b).mono s⟩
def BV.one{pl ll hl ho:Addr}(h:BV aD H a dx pl ll hl ho ps M)(hi:i<M.nP):∃p,(ps.map V.ref)[i]? =some (.ref p)/\BB aD H p M.parties[i]:=by
 have L5:i<ps.length:=by rw[h.len];exact hi
 exact⟨ps[i],by simp,h.at_ i _ _ (by simp) (by simp)⟩
structure Hy(ad:Ad)(H:Hp):Prop where
 all:∃ps,H ad.Ey=some (.F8 ps)/\Bs H ps
 best:∃ps,H ad.CG=some (.F8 ps)/\Bs H ps
 fall:∃ps,H ad.Cs=some (.F8 ps)/\Bs H ps
 on:∃ps,H ad.Kj=some (.F8 ps)/\Bs H ps
def Hy.mono(h:Hy aD H)(s:Aa H H'):Hy aD H':=
 ⟨let⟨ps,h1,g⟩:=h.all;s.good _ ps h1 g,let⟨ps,h1,g⟩:=h.best;s.good _ ps h1 g,let⟨ps,h1,g⟩:=h.fall;s.good _ ps h1 g,let⟨ps,h1,g⟩:=h.on;s.good _ ps h1 g⟩
structure Ai(ad:Ad)(H:Hp)(a:Addr)(M:Sm):Prop where
 ex:Kd λdx pl ll hl ho ps=>BV ad H a dx pl ll hl ho ps M
 good:Good M
 tabs:Hy ad H
def Ai.mono(h:Ai aD H a M)(s:Aa H H'):Ai aD H' a M:=by obtain⟨dx,pl,ll,hl,ho,ps,h1⟩:=h.ex;exact⟨⟨dx,pl,ll,hl,ho,ps,h1.mono s⟩,h.good,h.tabs.mono s⟩
def ET(H:Hp)(v:V)(Q:VK):Prop:=∀H',Aa H H'->Q v H'
def C6(H:Hp)(xs:List V)(Q:VK):Prop:=∀p H',Aa H H'->H p=none->H' p=some (.lst xs)->Q (.ref p) H'
def bt{st:Stmt}(d:Def kK mg x st)(g:EY x x st N ps)
  (body:∀(bo:Bo)(H:Hp)(vs:List V)(Q:VK)(E:XK),Bm k (bo.A.deeper (envOfC x (Ap st) bo.s.heap.objs.size bo.f bo.B_))->sp vs H Q E->
   Lu (EX N x st P w kK mg base bo H E) (AX st) {nx:=λ_ H'=>Q .BM H',rt:=Q} (start N vs) H)(len:∀vs H Q E,sp vs H Q E->vs.length=ps.length:=by intro _ _ _ _ h;cases h;rename_i h;cases h;subst_vars;rfl):Ab P w kK mg base (k+1) x sp:=by obtain⟨f,fd,hm,F⟩:=d.ex;exact⟨f,fd,ps,hm,F.kp,F.binds g.bd,F.okE g.sc len λB_ A outer s=>body ⟨f,B_,A,outer,s⟩⟩
def mkL{st:Stmt}{PT:Addr}(d:Kc kK mg x st PT)(g:EY x x st N ps)(len:∀vs H Q E,sp vs H Q E->vs.length=ps.length)
  (body:∀(f c:Addr)(A:Around)(outer:List Env)(s:Shared)(H:Hp)(vs:List V)(Q:VK)(E:XK),PySem.W.codeHdIn kK c PT=true->Bm k (A.deeper (envOfC x (Ap st) s.hz f (.ref c)))->sp vs H Q E->
   Lu (EX N x st P w kK mg base ⟨f,.ref c,A,outer,s⟩ H E) (AX st) {nx:=λ_ H'=>Q .BM H',rt:=Q} (start N vs) H):Ab P w kK mg base (k+1) x sp:=by obtain⟨f,fd,c,hm,F,hc,hh⟩:=d.ex;refine⟨f,fd,ps,hm,F.kp,F.binds g.bd,?_⟩;obtain⟨oc,od,kV,doc,pm,an,B_,ct,OG,rfl,lk,HC⟩:=F.ex;have e:=hc;subst e;exact acx lk HC g.sc len λA outer s H vs Q E hr R5=>⟨_,Nv.xM dQ,body f c A outer s H vs Q E hh hr R5⟩
def af{X:Cx}{σ:St}{Q:VK}{pos:Pos}(i:Nat)(q:Q v H)(hN:X.N[i]? =some x:=by rfl)(hv:Qa X.env.scope x:=by first|exact Or.inl RR|exact Or.inr (Or.inl RR)|exact Or.inr (Or.inr RR))(hs:σ[i]? =some (some v):=by rfl)(hd:GY x:=by decide)(HC:(x==("__classdict__" :Str))=false:=by decide):Ev X (.Name x pos) σ H Q:=
 rO i hN hv hs q hd HC
noncomputable def pt(M:Sm)(i:Nat):Party:=M.parties.getD i {seats:=0,x:=0,y:=0,carex:=1,carey:=1,worth:=[]}
noncomputable def mem(M:Sm)(g:Nat):Ae:=(List.range M.nP).filter g.testBit
def As(M:Sm):Nat:=2^M.nP-1
noncomputable def groups(M:Sm):Ae:=List.range' 1 (As M)
def AB(M:Sm)(g:Nat):Nat:=((mem M g).map λi=>(pt M i).seats).sum
noncomputable def wins(M:Sm)(g:Nat):Bool:=decide (AB M (As M)<2*AB M g)
def BR(M:Sm)(g:Nat):Ae:=(mem M g).map λi=>g-2^i
def Dz(M:Sm)(gs:Ae):Ae:=gs.filter λg=>!((BR M g).any λr=>gs.contains r)
def qc(h:i<M.nP):pt M i=M.parties[i]:=by simp[pt,h]
def dn(h:i∈mem M g):i<M.nP:=by simpa using(afp.mp h).1
def fD(M:Sm)(g:Nat):(mem M g).length<=M.nP:=by have:=afh g.testBit (List.range M.nP);rw[afi]at this;exact this
def aq(l:Ae):(nums l).length=l.length:=ae1 ..
def aU{i:Nat}{n:Nat}(h:l[i]? =some n):(nums l)[i]? =some (.int (n:Int)):=by unfold nums;simp_all
def sF:∀l:Ae,(l.map (λ(n:Nat)=>(n:Int))).sum=((l.sum:Nat):Int)
 |[]=>rfl
 |a::r=>by rw[afq,agH,agH,sF r];omega
def small(h:n<=k)(hk:k<=1000000:=by decide):n<=sizeLine:=afe h (afe hk (by decide))
def and_zero(g i:Nat):(g&&& 2^i=0)↔g.testBit i=false:=by
 constructor;·intro h;have:=congrArg (λn=>Nat.testBit n i) h;simpa[ahH,Nat.testBit_two_pow_self]using this
 ·intro h;apply Nat.eq_of_testBit_eq;intro j;by_cases e:i=j;·subst e;simp[h]
  ·simp[e]
def dm(i:Nat):((2:Int)^i)=((2^i:Nat):Int):=by norm_cast
def wX(g h:Nat):Builtin.bitAnd (g:Int) (h:Int)=((g&&& h:Nat):Int):=rfl
def acj(g i:Nat):(!decide (V.int (Builtin.bitAnd (g:Int) ((2:Int)^i))=V.int 0))=g.testBit i:=by rw[dm,wX];have h:=and_zero g i;grind
def aX{p pos:Pos}(hg:Gl X "len")(hm:X.mg "len" =none)(h:Ev X e σ H λv H1=>∃b ys,v= .ref b/\Aj X.K H1 b ys/\Q (.int ys.length) H1)(he:starEach [e] X.env=(false,eval e X.env)::starEach [] X.env:=by rfl)(B8:(backTo pos (starEach [] X.env)).any (·.1)=false:=by rfl):Ev X (.Call (.Name "len" p) [e] [] pos) σ H Q:=
 bI kI hg hm PySem.boot_len (aa (h.mono λv H1 ⟨b,ys,e,s,q⟩=>ab ⟨b,ys,by rw[e],.inl s,q⟩) he) (by decide) (by decide) he B8
def aE{X:Cx}{σ:St}{p pos:Pos}(i:Nat)(S:BV aD H a dx pl ll hl ho ps M)(T:Txt X.K X.mg aD X.base)(na:AR X.K aD.State f)(lk:(F9 M.rule M.offices pl ll hl M.Af ho).lookup f=some v)(q:Q v H)(hN:X.N[i]? =some x:=by rfl)(hv:Qa X.env.scope x:=by first|exact Or.inl RR|exact Or.inr (Or.inl RR)|exact Or.inr (Or.inr RR))(hs:σ[i]? =some (some (.ref a)):=by rfl)
  (hd:GY x:=by decide)(HC:(x==("__classdict__" :Str))=false:=by decide)(hb:attributeBase (.Name x p) f X.env (eval (.Name x p) X.env)=eval (.Name x p) X.env:=by rfl):Ev X (.Attribute (.Name x p) f pos) σ H Q:=
 aC (rO i hN hv hs ⟨a,_,_,_,v,RR,S.obj,T.m.BG,na,lk,q⟩ hd HC) hb
def fG{p pos p2:Pos}(i:Nat)(S:BV aD H a dx pl ll hl ho ps M)(T:Txt X.K X.mg aD X.base)(h:Ev X e2 σ H λy H1=>∃j:Nat,y= .int j/\j<M.nP/\Aa H H1/\∀b,BB aD H1 b (pt M j)->Q (.ref b) H1)(hN:X.N[i]? =some x:=by rfl)(hv:Qa X.env.scope x:=by first|exact Or.inl RR|exact Or.inr (Or.inl RR)|exact Or.inr (Or.inr RR))(hs:σ[i]? =some (some (.ref a)):=by rfl)
  (hd:GY x:=by decide)(HC:(x==("__classdict__" :Str))=false:=by decide)(hb:attributeBase (.Name x p) "parties" X.env (eval (.Name x p) X.env)=eval (.Name x p) X.env:=by rfl)(hi:F5 e2:=by intro _ _;rfl):Ev X (.Subscript (.Attribute (.Name x p) "parties" pos) e2 p2) σ H Q:=by refine bg bj (aE i S T T.m.Ac aI (h.mono λy H1 ⟨j,e,hj,sm,q⟩=>?_) hN hv hs hd HC hb) hi;obtain⟨b,h1,h2⟩:=S.one hj;rw[<-qc hj]at h2;exact⟨pl,_,j,_,RR,e,Aj.of (sm _ _ S.pl),aS h1,q b (h2.mono sm)⟩
def cG(T:Txt X.K X.mg aD X.base)(h:Ev X e σ H λv H1=>∃b,v= .ref b/\BB aD H1 b q1/\Q (.int q1.seats) H1)(hb:attributeBase e "seats" X.env (eval e X.env)=eval e X.env:=by rfl):Ev X (.Attribute e "seats" pos) σ H Q:=
 aC (h.mono λv H1 ⟨b,e,hp,q⟩=>by obtain⟨dx,tw,tc,tx,h1,_⟩:=hp.ex;exact⟨b,_,_,_,_,e,h1,T.m.Bq,T.m.Cy,iT,q⟩) hb
def tY(T:Txt X.K X.mg aD X.base)(h:Ev X e σ H λv H1=>∃b,v= .ref b/\BB aD H1 b q1/\∀t,H1 t=some (.tup [.int q1.x,.int q1.y])->Q (.ref t) H1)(hb:attributeBase e "wants" X.env (eval e X.env)=eval e X.env:=by rfl):Ev X (.Attribute e "wants" pos) σ H Q:=
 aC (h.mono λv H1 ⟨b,e,hp,q⟩=>by obtain⟨dx,tw,tc,tx,h1,h2,_⟩:=hp.ex;exact⟨b,_,_,_,_,e,h1,T.m.Bq,T.m.Cw,iS,q tw h2⟩) hb
def t6(T:Txt X.K X.mg aD X.base)(h:Ev X e σ H λv H1=>∃b,v= .ref b/\BB aD H1 b q1/\∀t,H1 t=some (.tup [.int q1.carex,.int q1.carey])->Q (.ref t) H1)(hb:attributeBase e "cares" X.env (eval e X.env)=eval e X.env:=by rfl):Ev X (.Attribute e "cares" pos) σ H Q:=
 aC (h.mono λv H1 ⟨b,e,hp,q⟩=>by obtain⟨dx,tw,tc,tx,h1,h2,h3,_⟩:=hp.ex;exact⟨b,_,_,_,_,e,h1,T.m.Bq,T.m.Cz,iU,q tc h3⟩) hb
def kq(T:Txt X.K X.mg aD X.base)(h:Ev X e σ H λv H1=>∃b,v= .ref b/\BB aD H1 b q1/\∀t,H1 t=some (.tup (nums q1.worth))->Q (.ref t) H1)(hb:attributeBase e "worth" X.env (eval e X.env)=eval e X.env:=by rfl):Ev X (.Attribute e "worth" pos) σ H Q:=
 aC (h.mono λv H1 ⟨b,e,hp,q⟩=>by obtain⟨dx,tw,tc,tx,h1,h2,h3,h4⟩:=hp.ex;exact⟨b,_,_,_,_,e,h1,T.m.Bq,T.m.Cv,iR,q tx h4⟩) hb
def eM{p pos:Pos}(hc:X.calm=true)(hg:Gl X "sum")(hm:X.mg "sum" =none)(h:Ev X e σ H λv H1=>∃(b:Addr) (l:Ae),v= .ref b/\Aj X.K H1 b (nums l)/\Q (.int (l.sum:Nat)) H1)(he:starEach [e] X.env=(false,eval e X.env)::starEach [] X.env:=by rfl)(B8:(backTo pos (starEach [] X.env)).any (·.1)=false:=by rfl):Ev X (.Call (.Name "sum" p) [e] [] pos) σ H Q:=
 bI (adW hc) hg hm PyProof.Rows.boot_sum (aa (h.mono λv H1 ⟨b,l,e,s,q⟩=>ab ⟨b,l.map (λ(n:Nat)=>(n)),by rw[e],by
  have e2:(l.map (λ(n:Nat)=>(n:Int))).map V.int=nums l:=by rw[afr];rfl
  rw[e2];exact s,by rw[sF];exact q⟩) he) (by decide) (by decide) he B8
def Wo:Sp:=λvs H Q _=>RP λi:Nat=>Av (vs=[.int i]) (i<=1000) (Q (.int ((2:Int)^i)) H)
def iI(T:Txt kK mg aD base):Bx P w T 1 "bit" Wo:=by
 refine bt T.d.bit aev ?_;rintro bo H vs Q E hr ⟨i,rfl,hi,q⟩;refine ah (aj (a0 ada (aG (af 0 ⟨_,_,RR,RR,⟨?_,?_,?_⟩,?_⟩))));·omega
 ·omega
 ·decide
 simp_all
def Wl:Sp:=λvs H Q _=>Au λg i:Nat=>Av (vs=[.int g,.int i]) (i<=1000) (Q (.bl (g.testBit i)) H)
def gQ(T:Txt kK mg aD base):Bx P w T 2 "has" Wl:=by refine bt T.d.has aeu ?_;rintro bo H vs Q E hr ⟨g,i,rfl,hi,q⟩;refine ah (aj (bh qh (aJ _) (a0 rf (af 0 (bQ (iI T) (hr.mono (by decide)) RR (aa (af 1 (ab ⟨i,RR,hi,⟨_,_,RR,RR,aG ⟨RR,?_⟩⟩⟩))))))));rw[acj];exact q
def O6(ad:Ad):Sp:=λvs H Q _=>BL λ(a:Addr) (M:Sm) (g:Nat)=>Av (vs=[.ref a,.int g]) (Ai ad H a M) (C6 H (nums (mem M g)) Q)
def dg(T:Txt kK mg aD base):Bx P w T 3 "members" (O6 aD):=by
 refine bt T.d.members lq ?_;rintro bo H vs Q E hr ⟨a,M,g,rfl,hS,q⟩;obtain⟨dx,pl,ll,hl,ho,ps,S⟩:=hS.ex;have hn:=hS.good.n5;refine ah (aj (dG (α:=Nat) (pr:=g.testBit) (f:=λi=>.int i) RR lq.sc.nd (aB (by kernel_rfl)) (λ_ _ _ _ _=>cT 2 lq.sc.nd)
  (cn RR T.c.Ck (aa (aX RR T.c.AV (aE 0 S T T.m.Ac aI ⟨_,_,RR,Aj.of S.pl,ab ⟨_,RR,?_,_,_,bu,?_,?_,?_,?_⟩⟩))))));·rw[ae1,S.len];omega
 ·rw[afi,ae1,S.len];exact small hn
 ·intro y hy H' sm s0 H0 C cl fp;exact bp (aO (bQ (gQ T) (hr.mono (by decide)) RR (aa (af 1 (aa (af 2 (ab ⟨g,y,RR,by
   have:y<ps.length:=by simpa using hy
   rw[S.len]at this;omega,_,RR,Aa.refl _,RR⟩)))))))
 ·intro y hy _ H' sm s0 H0 C cl fp;exact af 2 ⟨Aa.refl _,RR⟩
 ·intro D H' hD sm e;refine q D H' sm hD ?_;rw[e,ae1,S.len];rfl
def NU(ad:Ad):Sp:=λvs H Q _=>Au λ(a:Addr) (M:Sm)=>Av (vs=[.ref a]) (Ai ad H a M) (Q (.int (As M)) H)
def vk(M:Sm):((2:Int)^M.nP)-1=((As M:Nat):Int):=by have:0<2^M.nP:=agp _;rw[dm];unfold As;omega
def jJ(T:Txt kK mg aD base):Bx P w T 2 "everyone" (NU aD):=by
 refine bt T.d.RB vg ?_;rintro bo H vs Q E hr ⟨a,M,rfl,hS,q⟩;obtain⟨dx,pl,ll,hl,ho,ps,S⟩:=hS.ex;have hn:=hS.good.n5;refine ah (aj (a0 fP (bQ (iI T) (hr.mono (by decide)) RR (aa (aX RR T.c.AV (aE 0 S T T.m.Ac aI ⟨_,_,RR,Aj.of S.pl,ab ⟨_,RR,?_,aG ⟨_,_,RR,RR,?_⟩⟩⟩))))));·rw[ae1,S.len];omega
 ·dsimp only;rw[ae1,S.len,vk];exact q
def yy:Cc X (.type "range") (λxs H Q=>∃n:Int,xs=[.int n]/\∀p,H p=none->Q (.ref p) (upd H p (.R3 0 n))):=by rintro pins s σ H xs us Q I r ⟨n,rfl,q⟩;obtain⟨u,rfl,t,rfl⟩:=vals1 r;refine call_range_1 ⟨.ref s.hz,_,I.laid (o:=.R3 0 n) (λb o e=>adx _ e) (ae8 _) ⟨_,_,_,ae4 _ RR⟩,RR,q _ I.fresh⟩
def yx:Cc X (.type "range") (λxs H Q=>(Au λm n:Int=>xs=[.int m,.int n]/\∀p,H p=none->Q (.ref p) (upd H p (.R3 m n)))):=by rintro pins s σ H xs us Q I r ⟨m,n,rfl,q⟩;obtain⟨u,u',rfl,⟨t,rfl⟩,t',rfl⟩:=vals2 r;refine call_range_2 ⟨.ref s.hz,_,I.laid (o:=.R3 m n) (λb o e=>adx _ e) (ae8 _) ⟨_,_,_,ae4 _ RR⟩,RR,q _ I.fresh⟩
def sk:∀{n:Nat}{us:Ay},us.length=n->(∀(j:Nat) v,us[j]? =some v->RelV (f j) v)->Vals ((List.range n).map f) us:=by
 intro n;induction n generalizing f with
 |zero=>intro us hl _;cases us with|nil=>exact .nil|cons _ _=>cases hl
 |succ n ih=>
  intro us hl h;cases us with
  |nil=>cases hl
  |cons u r=>rw[agk,afq,afr];exact .cons (h 0 u RR) (ih (by simpa using hl) λj v e=>h (j+1) v (by simpa using e))
def mm(hc:X.calm=true):Cc X (.type "list") (λxs H Q=>(BL λ(r:Addr) (lo:Nat) (n:Nat)=>BO (xs=[.ref r]) (H r=some (.R3 lo ((lo:Int)+n))) (lo+n<=100000) (∀l,H l=none->Q (.ref l) (upd H l (.lst ((List.range' lo n).map λ(k:Nat)=>V.int (k:Int))))))):=by
 intro pins s σ H xs us Q I r h;obtain⟨a,lo,n,rfl,ha,hz,q⟩:=h;obtain⟨u,rfl,ru⟩:=vals1 r;cases ru;obtain⟨t,u,v,e⟩:=I.AU a _ ha;refine call_list_range (n:=n) (I.ok.hd hc) e (small_one (by omega) (by omega) (by omega) (by omega)) (by rw[rangeSize_one];split<;>omega) (by omega) λh' tk Aap c' hk hS' Xh=>?_;refine⟨.ref s.hz,_,I.laid (a:=s.hz) (o:=.lst ((List.range' lo n).map λ(k:Nat)=>V.int (k:Int))) hk (ae8 _) ⟨?_,Aap.toList,c',?_,?_⟩,RR,q _ I.fresh⟩;·rw[ae1,ahd];exact afe (show n<=100000 by omega) (by decide)
 ·have e2:(List.range' lo n).map (λ(k:Nat)=>V.int (k:Int))=(List.range n).map λj=>V.int ((lo+j:Nat):Int):=by rw[ahs,afr];rfl
  rw[e2];refine sk (by simpa using Xh.1) λj v hv=>?_;obtain⟨tk,rfl⟩:=Xh.2 j v (by simpa using hv);exact⟨tk,by congr 1;push_cast;omega⟩
 ·simpa using hS'
def dH{pos:Pos}(hc:X.calm=true)(hg:PG X tg g)(h:V_ (Ei X tg iter) g (Lu X body) D σ H)(hp:PassesOwn (model X.prog X.w) X.A X.env X.xe:=by exact PassesOwn.never)(hs:∀x,foldedSetIterable iter X.env x=pure x:=by intro _;rfl):Es X (.For tg iter body [] pos) D σ H:=
 gx (acP hp hc qW hg dQ hs) h
def gw{g:TG}{D:Ends}{yl:α->V->Hp->Prop}{tb:TS}(Y:BA J Hb xs yl)(Pv:Nat->St->Hp->Prop)(h0:Pv 0 σ H1)(sm:∀i σ H,Pv i σ H->Aa Hb H)
  (hs:∀i y x σ H H',xs[i]? =some y->Pv i σ H->Aa H H'->yl y x H'->g x σ H' λσ2 H2=>tb {D with nx:=Pv (i+1),ct:=Pv (i+1),bk:=D.nx} σ2 H2)(hd:∀σ H,Pv xs.length σ H->D.nx σ H):
  ∃W:Nat->Nat->St->Hp->Prop,(∃m,W 0 m σ H1)/\∀i m σ H,W i m σ H->
   (J.stop i H/\D.nx σ H)\/(J.go i H/\∃N:St->Hp->Prop,(∀σ' H',N σ' H'->∃m',m'<m/\W (i+1) m' σ' H')/\∀x H',J.Ke i H x H'->g x σ H' λσ2 H2=>tb {D with nx:=N,ct:=N,bk:=D.nx} σ2 H2):=by
 refine⟨λi m σ H=>m=xs.length-i/\i<=xs.length/\Pv i σ H,⟨xs.length,by simp,afk _,h0⟩,?_⟩;rintro i m σ H ⟨rfl,hi,q⟩;by_cases Bz:i<xs.length;·refine .inr ⟨Y.go i H (sm i σ H q) Bz,Pv (i+1),λσ' H' p'=>⟨xs.length-(i+1),by omega,RR,Bz,p'⟩,λx H' y=>?_⟩;obtain⟨z,hz,s2,hy⟩:=Y.Ke i H x H' (sm i σ H q) Bz y;exact hs i z x σ H H' hz q s2 hy
 ·have e:i=xs.length:=by omega
  subst e;exact .inl ⟨Y.stop _ H (sm _ σ H q) (ae8 _),hd σ H q⟩
def ox(Pv:St->Hp->Prop)(μ:St->Hp->Nat)(h0:Pv σ H)
  (hs:∀σ H,Pv σ H->Et X c σ H λb H1=>if b=true then Lu X body {D with nx:=λσ' H'=>Pv σ' H'/\μ σ' H'<μ σ H,ct:=λσ' H'=>Pv σ' H'/\μ σ' H'<μ σ H,bk:=D.nx} σ H1 else D.nx σ H1)(hp:PassesOwn (model X.prog X.w) X.A X.env X.xe:=by exact PassesOwn.never):Es X (.While c body [] pos) D σ H:=
 gx (zm hp cY dQ) (yR Pv μ h0 hs λσ H Q Q' k q=>q.mono k)
def ot{apos BN:Pos}{id:String}(pa:PlainAttrs T)(slot:Slot T name id)(OH:typeOf (.builtin id)=pure (.type "method_descriptor"))(hm:Ts X id r)(h:Ev X o σ H λx H1=>VF X.K T x H1/\Ea X (e::es) σ H1 λxs H2=>r x xs H2 Q)
  (Hq:attributeBase o name X.env (eval o X.env)=eval o X.env:=by rfl)
  (Rt:((backTo BN (starEach (e::es) X.env)).all (λx=>!x.1)&&(backToKw BN (keywordEach [] X.env)).all (λx=>x.1.isSome)
   &&decide ((e::es).length+([]:List Keyword).length+(if([]:List Keyword).isEmpty then 0 else 1)<30))=true:=by rfl)
  (Ho:(apos.endLine==BN.line)=true:=by rfl)(hs:Nu X e es:=by rfl)(JT:Om X BN es:=by rfl):Ev X (.Call (.Attribute o name apos) (e::es) [] BN) σ H Q:=
 bH (aem pa slot OH hm aF cK Hq Rt Ho hs JT) h
def aaq{apos BN:Pos}{id:String}(pa:PlainAttrs T)(slot:Slot T name id)(OH:typeOf (.builtin id)=pure (.type "method_descriptor"))(hm:Ts X id r)(h:Ev X o σ H λx H1=>VF X.K T x H1/\r x [] H1 Q)
  (Hq:attributeBase o name X.env (eval o X.env)=eval o X.env:=by rfl)(Ho:(apos.endLine==BN.line)=true:=by rfl):Ev X (.Call (.Attribute o name apos) [] [] BN) σ H Q:=
 bH (ac6 pa slot OH hm aF Hq Ho) h
def bV{D:Ends}{pos apos BN:Pos}(h:Ev X o σ H λx H1=>(Au λl xs=>Av (x= .ref l) (H1 l=some (.lst xs)) (Ev X e σ H1 λy H2=>(∃V6,Av (H2 l=some (.lst V6)) (V6.length<sizeLine) (D.nx σ (upd H2 l (.lst (V6++[y]))))))))
  (Hq:attributeBase o "append" X.env (eval o X.env)=eval o X.env:=by rfl)
  (Rt:((backTo BN (starEach [e] X.env)).all (λx=>!x.1)&&(backToKw BN (keywordEach [] X.env)).all (λx=>x.1.isSome)
   &&decide (([e]:List Expr).length+([]:List Keyword).length+(if([]:List Keyword).isEmpty then 0 else 1)<30))=true:=by rfl)
  (Ho:(apos.endLine==BN.line)=true:=by rfl)(hs:starEach [e] X.env=(false,eval e X.env)::starEach [] X.env:=by rfl)(JT:(backTo BN (starEach [] X.env)).any (·.1)=false:=by rfl)
  (WX:swapsWith (.Call (.Attribute o "append" apos) [e] [] BN) none pos.line X.env=pure false:=by rfl):Es X (.Expr (.Call (.Attribute o "append" apos) [e] [] BN) pos) D σ H:=
 eV (ot plainAttrs_list PySem.F.slot_list_append PySem.F.type_list_append xQ (h.mono λx H1 ⟨l,xs,ex,hl,k⟩=>⟨by rw[ex];exact .inl ⟨RR,_,Aj.of hl⟩,aa (k.mono λy H2 ⟨V6,h2,hz,q⟩=>ab ⟨l,V6,y,ex,RR,h2,hz,q⟩) hs⟩) Hq Rt Ho hs JT) WX
def gL{D:Ends}{pos:Pos}(hs:RK X t)(h:Ev X e σ H λv H1=>Ev X o σ H1 λov H2=>Ev X i σ H2 λiv H3=>t ov iv v H3 λH4=>D.nx σ H4)
  (ha:∀v,assign (.Subscript o i p) X.env v=(do
   let ov<-holding [v] (eval o X.env)
   let iv<-holding [v,ov] (eval i X.env)
   standAt p
   holding [v,ov,iv] (setItem ov iv v)
   release [v,ov,iv] []):=by intro _;rfl)
  (hw1:swapsWithSole [.Subscript o i p] e pos.line X.env=pure false:=by rfl)(hw:swappedStores [.Subscript o i p] e X.env=pure none:=by rfl)(h1:(assignEach [.Subscript o i p] X.env).map (·.2)=[assign (.Subscript o i p) X.env]:=by rfl):Es X (.Assign [.Subscript o i p] e pos) D σ H:=
 gx (acS aF (acW aF aF hs ha) hw1 hw h1) h
def dU:Vu X (λo i H Q=>(CO λ(p:Addr) (xs:List V) (j:Nat) (v:V)=>B9 (o= .ref p) (i= .int j) (Aj X.K H p xs) (xs[j]? =some v) (Q v H))):=by intro pins s σ H o i ov iv Q I r1 r2 h;obtain⟨p,xs,j,v,rfl,rfl,hq,he,q⟩:=h;cases r1;obtain⟨t,rfl⟩:=r2;obtain⟨its,r,pl,hz⟩:=I.list hq;obtain⟨w,ew,Mp⟩:=r.get he;have hj:=(ae3.mp he).1;have hn:=nH;exact wpAny_getItem_list pl.isList (by omega) (by omega) (by simpa using ew) ⟨v,H,I,Mp,q⟩
def fI(hg:Vu X Qv)(hp:Vt X op V7)(hs:RK X Qu)(h:Ev X o σ H λov H1=>Ev X i σ H1 λiv H2=>Qv ov iv H2 λu H3=>Ev X e σ H3 λy H4=>V7 u y H4 λz H5=>Qu ov iv z H5 λH6=>D.nx σ H6)
  (ha:∀ov iv new,augStore i ov iv new=(do holding [new,ov,iv] (setItem ov iv new);release [new,ov,iv] [];pure .next):=by intros;rfl):Es X (.AugAssign (.Subscript o i Fl) op e pos) D σ H:=
 gx (abn aF aF hg aF hp hs ha) h
def lT(h:Aj kK H1 a xs):BA (YE kK a) H1 (List.range xs.length) λi v H'=>(Au λT x=>Av (v= .ref T) (xs[i]? =some x) (H' T=some (.tup [.int (i:Nat),x]))) where
 go:=λi H' s hi=>by
  have L5:i<xs.length:=by simpa using hi
  exact⟨xs,xs[i],s.seq h,by simp⟩
 Ke:=λi H' v Ls s hi y=>by
  have L5:i<xs.length:=by simpa using hi
  obtain⟨T,x,rfl,hT,rfl,hx⟩:=y;exact⟨i,by simp[L5],Aa.ax hT,T,x,RR,hx _ (s.seq h),ae⟩
 stop:=λi H' s hi=>⟨xs,s.seq h,by simpa using hi⟩
def uu(h:Aj kK H1 a xs)(h2:Aj kK H1 b ys):BA (YB kK a b) H1 (xs.zip ys) λp v H'=>∃T,v= .ref T/\H' T=some (.tup [p.1,p.2]) where
 go:=λi H' s hi=>by rw[af5]at hi;exact⟨xs,ys,xs[i],ys[i],s.seq h,s.seq h2,by simp,by simp⟩
 Ke:=λi H' v Ls s hi y=>by obtain⟨T,x,y,rfl,hT,rfl,hx,hy⟩:=y;refine⟨(x,y),?_,Aa.ax hT,T,RR,ae⟩;exact agx.mpr ⟨hx _ (s.seq h),hy _ (s.seq h2)⟩
 stop:=λi H' s hi=>⟨xs,ys,s.seq h,s.seq h2,by grind⟩
def wH{p pos Fl:Pos}{elts:List Expr}{kk:Nat}(hg:Gl X "enumerate")(hm:X.mg "enumerate" =none)(h:Ev X e σ H λv H1=>(Au λa xs=>Av (v= .ref a) (Aj X.K H1 a xs) (R (YE X.K a) H1)))(hs:starEach [e] X.env=[(false,eval e X.env)]:=by rfl)(hs':starEach [e] X.env=(false,eval e X.env)::starEach [] X.env:=by rfl):Ei X (.Tuple elts kk Fl) (.Call (.Name "enumerate" p) [e] [] pos) σ H R:=
 ml (abt hg hm cK hs) (aa (h.mono λv H1 ⟨a,xs,e,hx,q⟩=>ab ⟨a,xs,by rw[e],hx,q⟩) hs')
def adL{p pos Fl:Pos}{elts:List Expr}{kk:Nat}(hg:Gl X "zip")(hm:X.mg "zip" =none)(h:Ea X [e,e2] σ H λvs H1=>(CO λa b xs ys=>BO (vs=[.ref a,.ref b]) (Aj X.K H1 a xs) (Aj X.K H1 b ys) (R (YB X.K a b) H1)))(hs:starEach [e,e2] X.env=(false,eval e X.env)::starEach [e2] X.env:=by rfl)(B8:(backTo pos (starEach [e2] X.env)).any (·.1)=false:=by rfl):
  Ei X (.Tuple elts kk Fl) (.Call (.Name "zip" p) [e,e2] [] pos) σ H R:=ml (acT hg hm cK hs B8) h
def eY:∀l:Ae,(nums l).all Ej=true
 |[]=>rfl
 |a::r=>by show(true&&(nums r).all Ej)=true;rw[eY r];rfl
def gh(r:Nat):∀l:Ae,UW (.int (r:Int)) (nums l)=l.contains r
 |[]=>rfl
 |a::l=>by show(RC (.int (a)) (.int (r))||UW (.int (r)) (nums l))=_;rw[gh r l,List.contains_cons];congr 1;show((a)==(r:Int))=(r==a);grind
def rh(h:i∈mem M g):g.testBit i=true:=(afp.mp h).2
def je(h:g.testBit i=true):2^i<=g:=ahk h
def kZ(h:Good M):2^M.nP<=32:=by have:=agf (n:=2) (by decide) h.n5;exact this
def LA(ad:Ad):Sp:=λvs H Q _=>Au λ(a:Addr) (M:Sm)=>Av (vs=[.ref a]) (Ai ad H a M) (C6 H (nums (groups M)) Q)
def fX(T:Txt kK mg aD base):Bx P w T 3 "every_group" (LA aD):=by
 refine bt T.d.Nd pG ?_;rintro bo H vs Q E hr ⟨a,M,rfl,hS,q⟩;have hp:=kZ hS.good;refine ah<|aj<|br (mm RR) RR T.c.DT afF<|aa<|br yx RR T.c.Ck boot_range<|aa<|aG<|aa<|a0 k6<|ao (jJ T) hr<|af 0<|ab ⟨a,M,RR,hS,aG ⟨_,_,RR,RR,ab ⟨_,_,RR,λp hp=>ab ⟨p,1,As M,RR,?_,?_,λl hl=>?_⟩⟩⟩⟩;·rw[ae];congr 2;omega
 ·unfold As;omega
 ·have hl':=(Aa.ax hp).free hl;exact q l _ ((Aa.ax hp).aL hl') hl' ae
def O5(ad:Ad):Sp:=λvs H Q _=>BL λ(a:Addr) (M:Sm) (g:Nat)=>Av (vs=[.ref a,.int g]) (Ai ad H a M) (ET H (.int (AB M g)) Q)
def fw(T:Txt kK mg aD base):Bx P w T 4 "seats_in" (O5 aD):=by
 refine bt T.d.QR jy ?_;rintro bo H vs Q E hr ⟨a,M,g,rfl,hS,q⟩;have hn:=hS.good.n5;refine ah (aj (eM RR RR T.c.Fh (bL (α:=Nat) (f:=λi=>.int (pt M i).seats) RR jy.sc.nd (aB (by kernel_rfl)) (λ_ _ _ _ _=>cT 2 jy.sc.nd)
  (aQ (bQ (dg T) (hr.mono (by decide)) RR (aa (af 0 (aa (af 1 (ab ⟨a,M,g,RR,hS,λp H1 sm hp e=>⟨p,RR,⟨_,Aj.of e⟩,_,_,az (Aj.of e),?_,?_,?_⟩⟩))))))))));·exact small (afe (fD M g) hn)
 ·intro y hy H' Cq s0 H0 C cl fp;obtain⟨dx,pl,ll,hl,ho,ps,S⟩:=(hS.mono (sm.trans Cq)).ex;exact cG T (fG 0 S T (af 2 ⟨y,RR,dn hy,Aa.refl _,λb hb=>⟨b,RR,hb,Aa.refl _,RR⟩⟩))
 ·intro D H' hD Cq e';exact⟨D,(mem M g).map λi=>(pt M i).seats,RR,by
   have:nums ((mem M g).map λi=>(pt M i).seats)=(mem M g).map λi=>V.int ((pt M i).seats:Nat):=by unfold nums;rw[afr];rfl
   rw[this];exact Aj.of e',q H' (sm.trans Cq)⟩
def Ux(ad:Ad):Sp:=λvs H Q _=>BL λ(a:Addr) (M:Sm) (g:Nat)=>Av (vs=[.ref a,.int g]) (Ai ad H a M) (ET H (.bl (wins M g)) Q)
def aaO(T:Txt kK mg aD base):Bx P w T 5 "wins" (Ux aD):=by
 refine bt T.d.wins ady ?_;rintro bo H vs Q E hr ⟨a,M,g,rfl,hS,q⟩;refine ah<|aj<|bh jf (aJ _)<|a0 fQ<|aG<|ao (fw T) hr<|af 0<|aa<|af 1<|ab ⟨a,M,g,RR,hS,λH1 s1=>⟨_,_,RR,RR,.inl (by constructor<;>decide),
  ao (fw T) hr<|af 0<|aa<|ao (jJ T) hr<|af 0<|ab ⟨a,M,RR,hS.mono s1,ab ⟨a,M,As M,RR,hS.mono s1,λH2 s2=>⟨_,_,RR,RR,?_⟩⟩⟩⟩⟩;have e:decide (((AB M (As M):Nat):Int)<2*((AB M g:Nat):Int))=wins M g:=by congr 1;exact propext (by omega)
 dsimp only;rw[e];exact q H2 (s1.trans s2)
def NS(ad:Ad):Sp:=λvs H Q _=>BL λ(a:Addr) (M:Sm) (g:Nat)=>Av (vs=[.ref a,.int g]) (Ai ad H a M) (C6 H (nums (BR M g)) Q)
def vB(T:Txt kK mg aD base):Bx P w T 4 "lessened" (NS aD):=by
 refine bt T.d.BR jz ?_;rintro bo H vs Q E hr ⟨a,M,g,rfl,hS,q⟩;have hn:=hS.good.n5;refine ah (aj (bL (α:=Nat) (f:=λi=>.int ((g-2^i:Nat):Int)) RR jz.sc.nd (aB (by kernel_rfl)) (λ_ _ _ _ _=>cT 2 jz.sc.nd)
  (aQ (bQ (dg T) (hr.mono (by decide)) RR (aa (af 0 (aa (af 1 (ab ⟨a,M,g,RR,hS,λp H1 sm hp e=>⟨p,RR,⟨_,Aj.of e⟩,_,_,az (Aj.of e),?_,?_,?_⟩⟩)))))))));·exact small (afe (fD M g) hn)
 ·intro y hy H' Cq s0 H0 C cl fp;refine a0 fP (af 1 (bQ (iI T) (hr.mono (by decide)) RR (aa (af 2 (ab ⟨y,RR,?_,⟨_,_,RR,RR,Aa.refl _,?_⟩⟩)))));·have:=dn hy;omega
  ·have:=je (rh hy);rw[dm,Int.ofNat_sub this]
 ·intro D H' hD Cq e';have Yr:=sm.free hD;refine q D H' (sm.trans Cq) Yr ?_;rw[e'];unfold nums BR;rw[afr];rfl
def Sv(ad:Ad):Sp:=λvs H Q _=>CO λ(a b:Addr) (M:Sm) (gs:Ae)=>B9 (vs=[.ref a,.ref b]) (Ai ad H a M) (H b=some (.lst (nums gs))) (gs.length<=1000) (C6 H (nums (Dz M gs)) Q)
def iG(T:Txt kK mg aD base):Bx P w T 5 "least_groups" (Sv aD):=by
 refine bt T.d.LU cF ?_;rintro bo H vs Q E hr ⟨a,b,M,gs,rfl,hS,hb,hz,q⟩;have hn:=hS.good.n5;refine ag (bJ 2 cF.sc.nd RR (Or.inl RR) (ay (ab ⟨afk _,λl hl=>?_⟩)));refine ag (dH RR (cT 3 cF.sc.nd) (aQ (af 1 ⟨b,RR,⟨_,Aj.of (Aa.ax hl _ _ hb)⟩,
  gw (Hb:=H) (xs:=gs) (az (Aj.of hb)) (λi σ H'=>(Au λv3 v4=>Av (σ=[some (.ref a),some (.ref b),some (.ref l),v3,v4]) (Aa H H') (H' l=some (.lst (nums ((gs.take i).filter λg=>!((BR M g).any λr=>gs.contains r)))))))
  ⟨_,_,RR,Aa.ax hl,ae⟩ (λi σ H' ⟨_,_,_,s,_⟩=>s) ?_ ?_⟩)))
 ·rintro i g x σ H1 H2 hg ⟨v3,v4,rfl,s1,e1⟩ s2 rfl;refine ah (aW (cH (aO (bI (aaF RR) RR T.c.Ue ahI (aa (bL (α:=Nat) (f:=λr=>.bl (gs.contains r)) RR cF.sc.nd (aB (by kernel_rfl)) (λ_ _ _ _ _=>cT 4 cF.sc.nd)
   (aQ (bQ (vB T) (hr.mono (by decide)) RR (aa (af 0 (aa (af 3 (ab ⟨a,M,g,RR,hS.mono (s1.trans s2),λp H3 s3 hp e3=>⟨p,RR,⟨_,Aj.of e3⟩,_,_,az (Aj.of e3),?_,?_,?_⟩⟩)))))))))))));·exact small (show(BR M g).length<=5 by unfold BR;rw[ae1];exact afe (fD M g) hn)
  ·intro y hy H' Cq s0 H0 C cl fp;refine bh k0 (by with_unfolding_all rfl) (af 4 (af 1 ⟨b,_,RR,.inl (Aj.of (((s1.trans s2).trans s3).trans Cq _ _ hb)),RR,eY gs,Aa.refl _,?_⟩));rw[if_neg ae0,gh]
  ·intro D H' hD Cq e';refine ab ⟨D,(BR M g).map λr=>gs.contains r,RR,by rw[afr];exact Aj.of e',⟨_,RR,?_⟩⟩;have sA:Aa H1 H':=(s2.trans s3).trans Cq;rw[a_ hg,de];rw[ahE];cases HD:(BR M g).any λr=>gs.contains r with
   |true=>have e5:List.any (BR M g) (id ∘ λr=>gs.contains r)=true:=HD;rw[e5];exact aA ⟨_,_,RR,s1.trans sA,by simpa using sA.lst e1⟩
   |false=>
    have e5:List.any (BR M g) (id ∘ λr=>gs.contains r)=false:=HD;rw[e5];refine ah (bV (af 2 ⟨l,_,RR,sA _ _ e1,af 3 ⟨_,sA _ _ e1,?_,⟨_,_,RR,(s1.trans sA).aL hl (sA.ntL e1),?_⟩⟩⟩));·rw[aq];exact afl (afe (afh _ _) (afe (by rw[afJ];exact agV _ _) hz)) (by decide)
    ·rw[ae];simp[nums]
 ·rintro σ H1 ⟨v3,v4,rfl,s1,e1⟩;refine ah (aj (af 2 ?_));rw[afX]at e1;exact q l H1 s1 hl e1
def su{s:Shared}{its:Ay}(hl:s.heap.IsTuple l its.toArray)(k:∀s2:Shared,s2={s with heap:=s.heap.push {cls:=.type "tuple_iterator",data:=.fields #[.ref l,.int 0 0]}}->s2.heap.IsTupleIter s.heap.objs.size l 0->s2.heap.IsTuple l its.toArray->
  (∀b∈[s.heap.objs.size,l],b<s2.heap.objs.size)->l≠s.heap.objs.size->Q (.ref s.heap.objs.size) s2):wpAny (model prog w) A (pyIter (.ref l)) Q E s:=by
 have lt:l<s.heap.objs.size:=by obtain⟨_,e,_⟩:=hl;exact ae7 e
 refine wpAny_pyIter_tuple hl (k _ RR ⟨_,ae4 _ RR,RR,RR⟩ (hl.push _) (λb hb=>?_) (afo lt));have sz:(s.heap.push {cls:=.type "tuple_iterator",data:=.fields #[.ref l,.int 0 0]}).objs.size=s.heap.objs.size+1:=afv ..;rw[sz];simp only[ae5,afQ,or_false]at hb;rcases hb with rfl|rfl;·exact agb _
 ·exact afZ lt
def vS{s:Shared}{h':Heap}(hk:∀b o,b∉[s.hz]->(s.heap.push {cls:=.type "tuple_iterator",data:=.fields #[.ref l,.int 0 0]}).get? b=some o->h'.get? b=some o):
  ∀b o,s.heap.get? b=some o->h'.get? b=some o:=λb o e=>
 hk b o (λhm=>absurd (ae7 e) (by simp_all)) (adx _ e)
def zP(hh:A.handled=none)(hl:s.heap.IsTuple l its.toArray)(hi:IntsAre its ns)(AW:0<ns.length)
  (k:∀h' tk M t',(∀b o,s.heap.get? b=some o->h'.get? b=some o)->M∈ns->(∀a,a∈ns->a<=M)->Q (.int M t') {s with heap:=h',toks:=tk}):wpAny (model prog w) A (call (.builtin "max") [.ref l]) Q E s:=by
 obtain⟨xs,e⟩:=hi.allInts.items;have hn:numsOf (intItems xs).toList=ns:=by rw[<-e];exact hi.numsOf
 rw[nums_intItems]at hn;subst hn;have pos:0<xs.size:=by simpa using AW
 have ei:its.toArray=intItems xs:=e;refine call_max_walk (su hl λs2 e2 it tu R7 ne=>?_);subst e2;rw[ei]at tu;refine⟨_,_,_,_,_,_,_,RR,Walks.tuple (A:=A.in1) hh _ l ne (intItems xs),⟨it,tu⟩,R7,by simpa[intItems]using pos,CmpOf.ints_gt (numAt xs) (λ_ _=>intItems_at),λv h' tk hP hk=>?_⟩;have hv:(intItems xs)[argBest (λi j=>decide (numAt xs i>numAt xs j)) (xs.size-1)]? =some v:=by simpa[intItems]using hP
 obtain⟨t,rfl⟩:=intItems_at hv;obtain⟨b1,b2⟩:=argBest_gt (numAt xs) (xs.size-1);refine k h' tk _ t (vS hk) ?_ λa ha=>?_;·rw[numAt_eq];exact ahh (by rw[ae1,afU];omega)
 ·obtain⟨j,hj,rfl⟩:=mem_getD ha;rw[ae1,afU]at hj;rw[<-numAt_eq];exact b2 j (by omega)
def zJ(hh:A.handled=none)(hl:s.heap.IsTuple l its.toArray)(hi:IntsAre its ns)(AW:0<ns.length)
  (k:∀h' tk M t',(∀b o,s.heap.get? b=some o->h'.get? b=some o)->M∈ns->(∀a,a∈ns->M<=a)->Q (.int M t') {s with heap:=h',toks:=tk}):wpAny (model prog w) A (call (.builtin "min") [.ref l]) Q E s:=by
 obtain⟨xs,e⟩:=hi.allInts.items;have hn:numsOf (intItems xs).toList=ns:=by rw[<-e];exact hi.numsOf
 rw[nums_intItems]at hn;subst hn;have pos:0<xs.size:=by simpa using AW
 have ei:its.toArray=intItems xs:=e;refine call_min_walk (su hl λs2 e2 it tu R7 ne=>?_);subst e2;rw[ei]at tu;refine⟨_,_,_,_,_,_,_,RR,Walks.tuple (A:=A.in1) hh _ l ne (intItems xs),⟨it,tu⟩,R7,by simpa[intItems]using pos,CmpOf.ints_lt (numAt xs) (λ_ _=>intItems_at),λv h' tk hP hk=>?_⟩;have hv:(intItems xs)[argBest (λi j=>decide (numAt xs i<numAt xs j)) (xs.size-1)]? =some v:=by simpa[intItems]using hP
 obtain⟨t,rfl⟩:=intItems_at hv;obtain⟨b1,b2⟩:=argBest_lt (numAt xs) (xs.size-1);refine k h' tk _ t (vS hk) ?_ λa ha=>?_;·rw[numAt_eq];exact ahh (by rw[ae1,afU];omega)
 ·obtain⟨j,hj,rfl⟩:=mem_getD ha;rw[ae1,afU]at hj;rw[<-numAt_eq];exact b2 j (by omega)
def aca(hc:X.calm=true):Cc X (.builtin "max") (λvs H Q=>(Au λ(a:Addr) (ns:Am)=>BO (vs=[V.ref a]) (Cd X.K H a (ns.map V.int)) (0<ns.length) (∀m,m∈ns->(∀y,y∈ns->y<=m)->Q (.int m) H))):=by rintro pins s σ H vs us Q I r ⟨a,ns,rfl,hs,AW,q⟩;obtain⟨its,rv,hl,_⟩:=I.tuple hs;rw[Vals.ni r];exact zP (I.ok.hd hc) hl rv.ints AW λh' tk m t' hk h1 h2=>⟨.int _,H,I.kept hk,⟨_,RR⟩,q m h1 h2⟩
def ab9(hc:X.calm=true):Cc X (.builtin "min") (λvs H Q=>(Au λ(a:Addr) (ns:Am)=>BO (vs=[V.ref a]) (Cd X.K H a (ns.map V.int)) (0<ns.length) (∀m,m∈ns->(∀y,y∈ns->m<=y)->Q (.int m) H))):=by rintro pins s σ H vs us Q I r ⟨a,ns,rfl,hs,AW,q⟩;obtain⟨its,rv,hl,_⟩:=I.tuple hs;rw[Vals.ni r];exact zJ (I.ok.hd hc) hl rv.ints AW λh' tk m t' hk h1 h2=>⟨.int _,H,I.kept hk,⟨_,RR⟩,q m h1 h2⟩
def k7(l:Ae):nums l=(l.map λ(n:Nat)=>(n:Int)).map V.int:=by rw[afr];rfl
def om{p pos:Pos}(hc:X.calm=true)(hg:Gl X "max")(hm:X.mg "max" =none)(h:Ev X e σ H λv H1=>(Au λ(b:Addr) (l:Ae)=>BO (v= .ref b) ((Aj X.K H1 b (nums l)\/Cd X.K H1 b (nums l))) (l≠[]) (∀m,m∈l->(∀y∈l,y<=m)->Q (.int (m:Nat)) H1)))
  (he:starEach [e] X.env=(false,eval e X.env)::starEach [] X.env:=by rfl)(B8:(backTo pos (starEach [] X.env)).any (·.1)=false:=by rfl):Ev X (.Call (.Name "max" p) [e] [] pos) σ H Q:=by
 refine bI ((adY hc).or (aca hc)) hg hm ahJ (aa (h.mono λv H1 ⟨b,l,e,s,ne,q⟩=>ab ?_) he) (by decide) (by decide) he B8;subst e;have Oc:0<(l.map λ(n:Nat)=>(n:Int)).length:=by rw[ae1];exact af6.mpr ne
 have fin:∀m,m∈(l.map λ(n:Nat)=>(n:Int))->(∀y,y∈(l.map λ(n:Nat)=>(n:Int))->y<=m)->Q (.int m) H1:=λm hm hy=>by obtain⟨n,hn,rfl⟩:=afw.mp hm;exact q n hn λy G1=>by have:=hy (y:Int) (afw.mpr ⟨y,G1,RR⟩);omega
 rw[k7]at s;rcases s with s|s;·exact .inl ⟨b,_,RR,s,Oc,fin⟩
 ·exact .inr ⟨b,_,RR,s,Oc,fin⟩
def oj{p pos:Pos}(hc:X.calm=true)(hg:Gl X "min")(hm:X.mg "min" =none)(h:Ev X e σ H λv H1=>(Au λ(b:Addr) (l:Ae)=>BO (v= .ref b) ((Aj X.K H1 b (nums l)\/Cd X.K H1 b (nums l))) (l≠[]) (∀m,m∈l->(∀y∈l,m<=y)->Q (.int (m:Nat)) H1)))
  (he:starEach [e] X.env=(false,eval e X.env)::starEach [] X.env:=by rfl)(B8:(backTo pos (starEach [] X.env)).any (·.1)=false:=by rfl):Ev X (.Call (.Name "min" p) [e] [] pos) σ H Q:=by
 refine bI ((adX hc).or (ab9 hc)) hg hm agq (aa (h.mono λv H1 ⟨b,l,e,s,ne,q⟩=>ab ?_) he) (by decide) (by decide) he B8;subst e;have Oc:0<(l.map λ(n:Nat)=>(n:Int)).length:=by rw[ae1];exact af6.mpr ne
 have fin:∀m,m∈(l.map λ(n:Nat)=>(n:Int))->(∀y,y∈(l.map λ(n:Nat)=>(n:Int))->m<=y)->Q (.int m) H1:=λm hm hy=>by obtain⟨n,hn,rfl⟩:=afw.mp hm;exact q n hn λy G1=>by have:=hy (y:Int) (afw.mpr ⟨y,G1,RR⟩);omega
 rw[k7]at s;rcases s with s|s;·exact .inl ⟨b,_,RR,s,Oc,fin⟩
 ·exact .inr ⟨b,_,RR,s,Oc,fin⟩
def au(h:∃t,X.mg x=some (.int n t))(hg:Gl X x)(q:Q (.int n) H)(hd:GY x:=by decide):Ev X (.Name x pos) σ H Q:=by obtain⟨t,h⟩:=h;exact kC (v:=.int n) hg h ⟨t,RR⟩ q hd
def lF(h:∃t,X.mg x=some (.str n t))(hg:Gl X x)(q:Q (.str n) H)(hd:GY x:=by decide):Ev X (.Name x pos) σ H Q:=by obtain⟨t,h⟩:=h;exact kC (v:=.str n) hg h ⟨t,RR⟩ q hd
def Bk(n:Nat):Bool:=decide (1<=n)&&decide (n<=200)
def QG:Sp:=λvs H Q _=>RP λn:Nat=>RV (vs=[.int n]) (Q (.bl (Bk n)) H)
def jn(T:Txt kK mg aD base):Bx P w T 1 "right_seats" QG:=by
 refine bt T.d.MH pD ?_;rintro bo H vs Q E hr ⟨n,rfl,q⟩;refine ah<|aj<|aap gb gb<|aG<|af 0 ⟨_,_,RR,RR,_,RR,?_⟩;unfold Bk at q;by_cases h1:1<=n
 ·rw[decide_eq_true (show(1:Int)<=(n:Int) by omega),if_pos RR];refine au T.c.Oq RR ⟨_,_,RR,RR,?_⟩;rw[decide_eq_true h1,agt]at q;have e:decide ((n:Int)<=200)=decide (n<=200):=by congr 1;exact propext (by omega)
  dsimp only;rw[e];exact q
 ·rw[decide_eq_false (show¬(1:Int)<=(n:Int) by omega),if_neg ae0];rw[decide_eq_false h1,agR]at q;exact q
def max_le{l:Ae}{k:Nat}(hm:m∈l)(h:∀y∈l,y<=m):decide (((m:Nat):Int)<=(k:Int))=l.all λv=>decide (v<=k):=by grind
def adf{l:Ae}{k:Nat}(hm:m∈l)(h:∀y∈l,m<=y):decide ((k:Int)<=((m:Nat):Int))=l.all λv=>decide (k<=v):=by grind
def QF(K:Frag):Sp:=λvs H Q _=>Au λ(a:Addr) (l:Ae)=>BO (vs=[.ref a]) (Aj K H a (nums l)\/Cd K H a (nums l)) (l≠[]) (Q (.bl (l.all λv=>decide (v<=30))) H)
def fV(T:Txt kK mg aD base):Bx P w T 1 "right_wants" (QF kK):=by refine bt T.d.MG pC ?_;rintro bo H vs Q E hr ⟨a,l,rfl,hl,AW,q⟩;refine ah<|aj<|bh gb (aJ _)<|om RR RR T.c.ID<|af 0 ⟨a,l,RR,hl,AW,λm hm hy=>au T.c.Nw RR ⟨_,_,RR,RR,?_⟩⟩;rw[<-max_le hm hy]at q;exact q
def QH(K:Frag):Sp:=λvs H Q _=>Au λ(a:Addr) (l:Ae)=>BO (vs=[.ref a]) (Aj K H a (nums l)\/Cd K H a (nums l)) (l≠[]) (Q (.bl ((l.all λv=>decide (1<=v))&&l.all λv=>decide (v<=5))) H)
def jo(T:Txt kK mg aD base):Bx P w T 1 "right_cares" (QH kK):=by
 refine bt T.d.MI pE ?_;rintro bo H vs Q E hr ⟨a,l,rfl,hl,AW,q⟩;refine ah<|aj<|kD<|bh gb (aJ _)<|aG<|oj RR RR T.c.IC<|af 0 ⟨a,l,RR,hl,AW,λm hm hy=>⟨_,_,RR,RR,_,RR,?_⟩⟩;have e1:=adf (k:=1) hm hy;have e1':decide ((1:Int)<=((m:Nat):Int))=l.all λv=>decide (1<=v):=e1;rw[e1'];cases h1:l.all λv=>decide (1<=v)with
 |false=>rw[h1,agR]at q;exact q
 |true=>rw[h1,agt]at q;refine bh gb (aJ _)<|om RR RR T.c.ID<|af 0 ⟨a,l,RR,hl,AW,λm hm hy=>au T.c.Qe RR ⟨_,_,RR,RR,?_⟩⟩;rw[<-max_le hm hy]at q;exact q
def Bd(l:Ae)(m:Nat):Bool:=(l.length==m)&&l.all λv=>decide (v<=50)
def QE(K:Frag):Sp:=λvs H Q _=>BL λ(a:Addr) (l:Ae) (m:Nat)=>BO (vs=[.ref a,.int m]) (Cd K H a (nums l)) (1<=m) (Q (.bl (Bd l m)) H)
def jm(T:Txt kK mg aD base):Bx P w T 1 "right_worth" (QE kK):=by
 refine bt T.d.MF pB ?_;rintro bo H vs Q E hr ⟨a,l,m,rfl,hl,hm1,q⟩;refine ah<|aj<|kD<|bh bO (aJ _)<|bI kI RR T.c.AV PySem.boot_len<|aa<|af 0<|ab ⟨a,_,RR,.inr hl,af 1 ⟨RR,_,RR,?_⟩⟩;unfold Bd at q;rw[aq];by_cases h1:l.length=m
 ·rw[decide_eq_true (by rw[h1]),if_pos RR];rw[h1,beq_self_eq_true,agt]at q;have AW:l≠[]:=λz=>by rw[z]at h1;simp at h1;omega
  refine bh gb (aJ _)<|om RR RR T.c.ID<|af 0 ⟨a,l,RR,.inr hl,AW,λm hm hy=>au T.c.Oo RR ⟨_,_,RR,RR,?_⟩⟩;rw[<-max_le hm hy]at q;exact q
 ·rw[decide_eq_false (λz=>h1 (by injection z with z;omega)),if_neg ae0];rw[beq_false_of_ne h1,agR]at q;exact q
def Wi:Sp:=λvs H Q _=>RP λb:Bool=>RV (vs=[.bl b]) (Q (.int (if b then 1 else 0)) H)
def fK(T:Txt kK mg aD base):Bx P w T 1 "yes_or_no" Wi:=by
 refine bt T.d.O1 tM ?_;rintro bo H vs Q E hr ⟨b,rfl,q⟩;refine ah<|aj<|ku<|aO<|af 0 ⟨b,RR,?_⟩;cases b with
 |true=>exact aG q
 |false=>exact aG q
def Pd:Sp:=λvs H Q _=>Au λ(a:Addr) (l:List V)=>BO (vs=[.ref a]) (H a=some (.lst l)) (l.length<100000) (C6 H (.int l.length::l) Q)
def bF(T:Txt kK mg aD base):Bx P w T 1 "counted" Pd:=by
 refine bt T.d.Ti yn ?_;rintro bo H vs Q E hr ⟨a,l,rfl,ha,hz,q⟩;refine ah<|aj<|a0 eE<|ay<|aa<|aX RR T.c.AV<|af 0 ⟨a,l,RR,Aj.of ha,ab ⟨bq,λp hp=>af 0 ⟨p,a,_,_,RR,RR,ae,Aa.ax hp _ _ ha,?_,λr I0=>?_⟩⟩⟩;·exact afe (show[V.int (l.length:Int)].length+l.length<=100000 by simp;omega) (by decide)
 ·have Qn:=(Aa.ax hp).free I0;exact q r _ ((Aa.ax hp).aL Qn) Qn ae
def QL:Sp:=λvs H Q _=>Au λ(a:Addr) (l:Ae)=>BO (vs=[.ref a]) (H a=some (.lst (nums l))) (l.length<=5) (C6 H (nums (five l)) Q)
def abV(h:l.length<=5):nums l++(List.range (5-l.length)).map (λ_=>V.int 0)=nums (five l):=by
 match l,h with
 |[],_=>rfl
 |[_],_=>rfl
 |[_,_],_=>rfl
 |[_,_,_],_=>rfl
 |[_,_,_,_],_=>rfl
 |[_,_,_,_,_],_=>rfl
 |_::_::_::_::_::_::_,h=>simp at h
def lL(T:Txt kK mg aD base):Bx P w T 1 "in_five" QL:=by
 refine bt T.d.SS lx ?_;rintro bo H vs Q E hr ⟨a,l,rfl,ha,hz,q⟩;refine ah<|aj<|a0 eE<|af 0<|bL (α:=Nat) (f:=λ_=>.int 0) RR lx.sc.nd (aB (by kernel_rfl)) (λ_ _ _ _ _=>cT 1 lx.sc.nd)<|
  cn RR T.c.Ck<|aa<|a0 fP<|au T.c.Oh RR<|aX RR T.c.AV<|af 0 ⟨a,_,RR,Aj.of ha,⟨_,_,RR,RR,ab ⟨5-l.length,?_,?_,List.range (5-l.length),_,bu,?_,?_,?_⟩⟩⟩;·rw[aq,Int.ofNat_sub hz];rfl
 ·omega
 ·rw[afi];exact small (show 5-l.length<=5 by omega)
 ·intro y hy H' sm s0 H0 C cl fp;exact aG ⟨Aa.refl _,RR⟩
 ·intro D H' hD sm e;refine⟨a,D,_,_,RR,RR,sm _ _ ha,e,?_,λr I0=>?_⟩;·rw[aq,ae1,afi];exact small (show l.length+(5-l.length)<=5 by omega)
  ·have Qn:=sm.free I0;exact q r _ (sm.aL Qn) Qn (by rw[ae,abV hz])
def BP(M:Sm)(i g:Nat):Nat:=if g.testBit i then 0 else if M.hates.getD i 0&&& g !=0 then 1 else if M.likes.getD i 0&&& g !=0 then 0 else 2
def Bh(M:Sm)(g k v:Nat):Nat:=(((List.range k).filter λi=>BP M i g==v).map λi=>(pt M i).seats).sum
noncomputable def tally(M:Sm)(g v:Nat):Nat:=Bh M g M.nP v
def HV(M:Sm)(g:Nat):Bool:=(mem M g).any λi=>M.hates.getD i 0&&& g !=0
noncomputable def stands(M:Sm)(g:Nat):Bool:=if g=0\/HV M g=true then false else
 match M.rule with
 |0=>decide (tally M g 1<tally M g 0)
 |1=>decide (tally M g 0+tally M g 1+tally M g 2<2*tally M g 0)
 |_=>decide (2*tally M g 1<=tally M g 0+tally M g 1+tally M g 2)
noncomputable def standing(M:Sm):Ae:=(groups M).filter (stands M)
def vK(a b:Nat):(!decide (V.int (Builtin.bitAnd (a:Int) (b:Int))=V.int 0))=(a&&& b !=0):=by rw[wX];grind
def mH(M:Sm)(i g:Nat):BP M i g<=2:=by
 unfold BP;repeat' split
 all_goals omega
def cJ(M:Sm)(g k v:Nat):Bh M g (k+1) v=Bh M g k v+(if BP M k g==v then(pt M k).seats else 0):=by unfold Bh;rw[agI,de,afK,ag5];split<;>simp
def xq(M:Sm)(g k:Nat):(nums [Bh M g k 0,Bh M g k 1,Bh M g k 2]).set (BP M k g) (.int (((Bh M g k (BP M k g):Nat):Int)+((pt M k).seats:Int)))=nums [Bh M g (k+1) 0,Bh M g (k+1) 1,Bh M g (k+1) 2]:=by
 rw[cJ,cJ,cJ];have:=mH M k g;match h:BP M k g,this with
 |0,_=>simp[nums]
 |1,_=>simp[nums]
 |2,_=>simp[nums]
def y8(M:Sm)(g k:Nat):(nums [Bh M g k 0,Bh M g k 1,Bh M g k 2])[BP M k g]? =some (.int ((Bh M g k (BP M k g):Nat):Int)):=by
 have:=mH M k g;match h:BP M k g,this with
 |0,_=>rfl
 |1,_=>rfl
 |2,_=>rfl
def getD_at{l:Ae}(h:i<l.length):l[i]? =some (l.getD i 0):=by simp[h]
def kz{p pos p2:Pos}(i:Nat)(S:BV aD H a dx pl ll hl ho ps M)(G:Good M)(T:Txt X.K X.mg aD X.base)(h:Ev X e2 σ H λy H1=>∃j:Nat,y= .int j/\j<M.nP/\Aa H H1/\Q (.int (M.hates.getD j 0:Nat)) H1)(hN:X.N[i]? =some x:=by rfl)(hv:Qa X.env.scope x:=by first|exact Or.inl RR|exact Or.inr (Or.inl RR)|exact Or.inr (Or.inr RR))(hs:σ[i]? =some (some (.ref a)):=by rfl)
  (hd:GY x:=by decide)(HC:(x==("__classdict__" :Str))=false:=by decide)(hb:attributeBase (.Name x p) "hates" X.env (eval (.Name x p) X.env)=eval (.Name x p) X.env:=by rfl)(hi:F5 e2:=by intro _ _;rfl):Ev X (.Subscript (.Attribute (.Name x p) "hates" pos) e2 p2) σ H Q:=by refine bg bj (aE i S T T.m.Ba dc (h.mono λy H1 ⟨j,e,hj,sm,q⟩=>?_) hN hv hs hd HC hb) hi;exact⟨hl,_,j,_,RR,e,Aj.of (sm _ _ S.hl),aS (aU (getD_at (by rw[G.hl];exact hj))),q⟩
def oo{p pos p2:Pos}(i:Nat)(S:BV aD H a dx pl ll hl ho ps M)(G:Good M)(T:Txt X.K X.mg aD X.base)(h:Ev X e2 σ H λy H1=>∃j:Nat,y= .int j/\j<M.nP/\Aa H H1/\Q (.int (M.likes.getD j 0:Nat)) H1)(hN:X.N[i]? =some x:=by rfl)(hv:Qa X.env.scope x:=by first|exact Or.inl RR|exact Or.inr (Or.inl RR)|exact Or.inr (Or.inr RR))(hs:σ[i]? =some (some (.ref a)):=by rfl)
  (hd:GY x:=by decide)(HC:(x==("__classdict__" :Str))=false:=by decide)(hb:attributeBase (.Name x p) "likes" X.env (eval (.Name x p) X.env)=eval (.Name x p) X.env:=by rfl)(hi:F5 e2:=by intro _ _;rfl):Ev X (.Subscript (.Attribute (.Name x p) "likes" pos) e2 p2) σ H Q:=by refine bg bj (aE i S T T.m.BC eX (h.mono λy H1 ⟨j,e,hj,sm,q⟩=>?_) hN hv hs hd HC hb) hi;exact⟨ll,_,j,_,RR,e,Aj.of (sm _ _ S.ll),aS (aU (getD_at (by rw[G.ll];exact hj))),q⟩
def ite_bool{B:Prop}(h1:b=true->A)(h2:b=false->B):if b=true then A else B:=by simp_all
def Qy(ad:Ad):Sp:=λvs H Q _=>CO λ(a:Addr) (M:Sm) (i g:Nat)=>BO (vs=[.ref a,.int i,.int g]) (Ai ad H a M) (i<M.nP) (Q (.int (BP M i g:Nat)) H)
def yI(T:Txt kK mg aD base):Bx P w T 3 "vote_of" (Qy aD):=by
 refine bt T.d.Sb yh ?_;rintro bo H vs Q E hr ⟨a,M,i,g,rfl,hS,hi,q⟩;obtain⟨dx,pl,ll,hl,ho,ps,S⟩:=hS.ex;have hn:=hS.good.n5;unfold BP at q;refine ag<|aW<|aO<|ao (gQ T) hr<|af 2<|aa<|af 1<|ab ⟨g,i,RR,by omega,_,RR,ite_bool (λe=>?_) (λe=>?_)⟩;·rw[e]at q;exact ah<|aj<|au T.c.F6 RR q
 ·rw[e]at q;refine aA<|ag<|aW<|aV qh (aJ _)<|a0 rf<|kz 0 S hS.good T<|af 1 ⟨i,RR,hi,Aa.refl _,af 2 ⟨_,_,RR,RR,aG ⟨RR,_,RR,?_⟩⟩⟩;rw[vK];refine ite_bool (λe=>?_) (λe=>?_);·rw[e]at q;exact ah<|aj<|au T.c.Mn RR q
  ·rw[e]at q;refine aA<|ag<|aW<|aV qh (aJ _)<|a0 rf<|oo 0 S hS.good T<|af 1 ⟨i,RR,hi,Aa.refl _,af 2 ⟨_,_,RR,RR,aG ⟨RR,_,RR,?_⟩⟩⟩;rw[vK];refine ite_bool (λe=>?_) (λe=>?_);·rw[e]at q;exact ah<|aj<|au T.c.F6 RR q
   ·rw[e]at q;exact aA<|ah<|aj<|au T.c.Tr RR q
def Sl(ad:Ad):Sp:=λvs H Q _=>BL λ(a:Addr) (M:Sm) (g:Nat)=>Av (vs=[.ref a,.int g]) (Ai ad H a M) (C6 H (nums [tally M g 0,tally M g 1,tally M g 2]) Q)
def wR(T:Txt kK mg aD base):Bx P w T 4 "tally" (Sl aD):=by
 refine bt T.d.tally mR ?_;rintro bo H vs Q E hr ⟨a,M,g,rfl,hS,q⟩;obtain⟨dx,pl,ll,hl,ho,ps,S⟩:=hS.ex;have hn:=hS.good.n5;refine ag<|aP 2 mR.sc.nd<|ay<|aa<|aG<|aa<|aG<|aa<|aG<|ab ⟨sy,λl hl'=>?_⟩;have S1:=S.mono (Aa.ax (o:=.lst [.int 0,.int 0,.int 0]) hl');refine ag<|dH RR (nu RR (cA (cT 3 mR.sc.nd) (cA (cT 4 mR.sc.nd) j6)))<|wH RR T.c.IE<|aE 0 S1 T T.m.Ac aI ⟨pl,_,RR,Aj.of S1.pl,
  gw (Hb:=H) (lT (Aj.of S.pl)) (λi σ H'=>(Au λv3 v4=>Av (σ=[some (.ref a),some (.int g),some (.ref l),v3,v4]) (Aa H H') (H' l=some (.lst (nums [Bh M g i 0,Bh M g i 1,Bh M g i 2])))))
   ⟨_,_,RR,Aa.ax hl',ae⟩ (λi σ H' ⟨_,_,_,s,_⟩=>s) ?_ ?_⟩
 ·rintro i y x σ H1 H2 hy ⟨v3,v4,rfl,s1,e1⟩ s2 ⟨t,z,rfl,hz,ht⟩;have SV:=ae3.mp hy;obtain⟨Bz,ey⟩:=SV;have KI:i<M.nP:=by rw[afi,ae1,S.len]at Bz;exact Bz
  have Xo:i=y:=by simpa using ey
  subst Xo;obtain⟨b,PV,Od⟩:=S.one KI;rw[hz]at PV;cases PV;refine⟨t,_,RR,.inl (.inl ht),RR,_,_,RR,_,_,RR,RR,?_⟩;have C1:=s1.trans s2;refine ah<|fI dU u_ set_list<|af 2<|ao (yI T) hr<|af 0<|aa<|af 3<|aa<|af 1<|ab ⟨a,M,i,g,RR,hS.mono C1,KI,l,_,BP M i g,_,RR,RR,Aj.of (s2 _ _ e1),y8 M g i,
   cG T<|af 4 ⟨b,RR,Od.mono C1,_,_,RR,RR,l,_,_,BP M i g,RR,RR,s2 _ _ e1,?_,?_⟩⟩;·have:=mH M i g;unfold Rb;rw[if_pos (by omega),if_pos (by rw[aq];show((BP M i g:Nat):Int)<((3:Nat):Int);omega),af2]
  ·refine⟨_,_,RR,C1.aL hl' (s2.ntL e1),?_⟩;rw[ae,<-qc KI,xq]
 ·rintro σ H1 ⟨v3,v4,rfl,s1,e1⟩;rw[afi,ae1,S.len]at e1;exact ah<|aj<|af 2<|q l H1 s1 hl' e1
def UB(ad:Ad):Sp:=λvs H Q _=>BL λ(a:Addr) (M:Sm) (g:Nat)=>Av (vs=[.ref a,.int g]) (Ai ad H a M) (ET H (.bl (HV M g)) Q)
def qB(T:Txt kK mg aD base):Bx P w T 4 "at_odds" (UB aD):=by
 refine bt T.d.Tj ly ?_;rintro bo H vs Q E hr ⟨a,M,g,rfl,hS,q⟩;have hn:=hS.good.n5;refine ah<|aj<|bI (aaF RR) RR T.c.Ue ahI<|aa<|bL (α:=Nat) (f:=λi=>.bl (M.hates.getD i 0&&& g !=0)) RR ly.sc.nd (aB (by kernel_rfl)) (λ_ _ _ _ _=>cT 2 ly.sc.nd)<|
  aQ<|ao (dg T) hr<|af 0<|aa<|af 1<|ab ⟨a,M,g,RR,hS,λp H1 sm hp e=>⟨p,RR,⟨_,Aj.of e⟩,_,_,az (Aj.of e),?_,?_,?_⟩⟩;·exact small (afe (fD M g) hn)
 ·intro y hy H' Cq s0 H0 C cl fp;obtain⟨dx,pl,ll,hl,ho,ps,S⟩:=(hS.mono (sm.trans Cq)).ex;refine bh qh (aJ _)<|a0 rf<|kz 0 S hS.good T<|af 2 ⟨y,RR,dn hy,Aa.refl _,af 1 ⟨_,_,RR,RR,aG ⟨RR,Aa.refl _,?_⟩⟩⟩;rw[vK]
 ·intro D H' hD Cq e';refine ab ⟨D,(mem M g).map λi=>(M.hates.getD i 0&&& g !=0),RR,by rw[afr];exact Aj.of e',?_⟩;rw[ahE];exact q H' (sm.trans Cq)
def QB(ad:Ad):Sp:=λvs H Q _=>BL λ(a:Addr) (M:Sm) (g:Nat)=>Av (vs=[.ref a,.int g]) (Ai ad H a M) (ET H (.bl (stands M g)) Q)
def iE(T:Txt kK mg aD base):Bx P w T 5 "stands" (QB aD):=by
 refine bt T.d.stands tN ?_;rintro bo H vs Q E hr ⟨a,M,g,rfl,hS,q⟩;refine ag<|aW<|vm<|aV bO (aJ _)<|af 1<|au T.c.Dk RR ⟨RR,_,RR,?_⟩;by_cases hg:g=0
 ·subst hg;refine ah<|aj<|mj ?_;have e:stands M 0=false:=by unfold stands;rw[if_pos (.inl RR)]
  rw[e]at q;exact q H (Aa.refl H)
 ·rw[decide_eq_false (λz=>hg (by injection z with z;omega)),if_neg ae0];refine aO<|ao (qB T) hr<|af 0<|aa<|af 1<|ab ⟨a,M,g,RR,hS,λH1 s1=>⟨_,RR,ite_bool (λe=>?_) (λe=>?_)⟩⟩
  ·refine ah<|aj<|mj ?_;have e:stands M g=false:=by unfold stands;rw[if_pos (.inr e)]
   rw[e]at q;exact q H1 s1
  ·refine aA<|ag<|aP 2 tN.sc.nd<|ao (wR T) hr<|af 0<|aa<|af 1<|ab ⟨a,M,g,RR,hS.mono s1,λl H2 s2 hl el=>?_⟩;have e2:stands M g=match M.rule with
     |0=>decide (tally M g 1<tally M g 0)
     |1=>decide (tally M g 0+tally M g 1+tally M g 2<2*tally M g 0)
     |_=>decide (2*tally M g 1<=tally M g 0+tally M g 1+tally M g 2):=by unfold stands;rw[if_neg (by rintro(z|z);exact hg z;rw[e]at z;cases z)]
   obtain⟨dx,pl,ll,hl',ho,ps,S⟩:=(hS.mono (s1.trans s2)).ex;have C1:=s1.trans s2;have Wf:([tally M g 0,tally M g 1,tally M g 2].sum:Nat)=tally M g 0+tally M g 1+tally M g 2:=by simp;omega
   refine ag<|aW<|aV bO (aJ _)<|aE 0 S T T.m.CZ jT<|aG ⟨RR,_,RR,?_⟩;by_cases r0:M.rule=0
   ·rw[decide_eq_true (by rw[r0];rfl),if_pos RR];refine ah<|aj<|bh jf (aJ _)<|bg bj<|af 2<|au T.c.F6 RR ⟨l,_,_,_,RR,RR,Aj.of el,aS (j:=0) RR,bg bj<|af 2<|au T.c.Mn RR ⟨l,_,_,_,RR,RR,Aj.of el,aS (j:=1) RR,_,_,RR,RR,?_⟩⟩;rw[r0]at e2;have e3:decide (((tally M g 1:Nat):Int)<((tally M g 0:Nat):Int))=stands M g:=by rw[e2];congr 1;exact propext (by omega)
    dsimp only;rw[e3];exact q H2 C1
   ·rw[decide_eq_false (λz=>r0 (by injection z with z;omega)),if_neg ae0];refine aA<|ag<|aW<|aV bO (aJ _)<|aE 0 S T T.m.CZ jT<|aG ⟨RR,_,RR,?_⟩;by_cases r1:M.rule=1
    ·rw[decide_eq_true (by rw[r1];rfl),if_pos RR];refine ah<|aj<|bh jf (aJ _)<|a0 fQ<|aG<|bg bj<|af 2<|au T.c.F6 RR ⟨l,_,_,_,RR,RR,Aj.of el,aS (j:=0) RR,⟨_,_,RR,RR,.inl (by constructor<;>decide),eM RR RR T.c.Fh<|af 2 ⟨l,_,RR,Aj.of el,_,_,RR,RR,?_⟩⟩⟩;rw[r1]at e2;rw[Wf];have e3:decide (((tally M g 0+tally M g 1+tally M g 2:Nat):Int)<2*((tally M g 0:Nat):Int))=stands M g:=by rw[e2];congr 1;exact propext (by omega)
     dsimp only;rw[e3];exact q H2 C1
    ·rw[decide_eq_false (λz=>r1 (by injection z with z;omega)),if_neg ae0];refine aA<|ah<|aj<|bh gb (aJ _)<|a0 fQ<|aG<|bg bj<|af 2<|au T.c.Mn RR ⟨l,_,_,_,RR,RR,Aj.of el,aS (j:=1) RR,⟨_,_,RR,RR,.inl (by constructor<;>decide),eM RR RR T.c.Fh<|af 2 ⟨l,_,RR,Aj.of el,_,_,RR,RR,?_⟩⟩⟩;rw[Wf];have e4:stands M g=decide (2*tally M g 1<=tally M g 0+tally M g 1+tally M g 2):=by
      rw[e2];split;·rename_i h;exact absurd h r0
      ·rename_i h;exact absurd h r1
      ·rfl
     have e3:decide (2*((tally M g 1:Nat):Int)<=((tally M g 0+tally M g 1+tally M g 2:Nat):Int))=stands M g:=by rw[e4];congr 1;exact propext (by omega)
     dsimp only;rw[e3];exact q H2 C1
abbrev Cx.in1(X:Cx):Cx:={X with A:=X.A.in1}
def Cx.Ok.in1{X:Cx}(ok:X.Ok):X.in1.Ok:=⟨ok.mod,ok.kind,ok.glob,ok.blt,ok.above,ok.inj,ok.has,ok.cab,ok.hd,ok.frames,ok.VH,ok.VZ,ok.bs,ok.ON,ok.NX,ok.Og,ok.i_,ok.Rz⟩
def Cx.Ok.uJ{X:Cx}(ok:X.in1.Ok):X.Ok:=⟨ok.mod,ok.kind,ok.glob,ok.blt,ok.above,ok.inj,ok.has,ok.cab,ok.hd,ok.frames,ok.VH,ok.VZ,ok.bs,ok.ON,ok.NX,ok.Og,ok.i_,ok.Rz⟩
def Inv.in1{σ:St}(I:Inv X pins σ H s):Inv X.in1 pins σ H s:=⟨I.ok.in1,I.os,I.bare,I.base,I.loc,I.cell,I.free,I.Eh,I.pin,I.AU,I.len⟩
def Inv.uJ{σ:St}(I:Inv X.in1 pins σ H s):Inv X pins σ H s:=⟨I.ok.uJ,I.os,I.bare,I.base,I.loc,I.cell,I.free,I.Eh,I.pin,I.AU,I.len⟩
def Inv.gC{σ:St}(I:Inv X pins σ H s)(f:DW X pins H b)(k:∀c o,c∉[b]->s.heap.get? c=some o->h'.get? c=some o):Inv X pins σ H {s with heap:=h',toks:=tk}:=
 I.turned (λc o hc e=>k c o (by simpa using hc) e) f.1 f.2.1 f.2.2.2.1 f.2.2.2.2.1 f.2.2.2.2.2
def DW.same(f:DW X pins H b)(h:H' b=none):DW X pins H' b:=⟨h,f.2⟩
def DE(rows:List (Am))(i n:Nat):Prop:=∀j,j<n->∀a b,rows[i]? =some a->rows[j]? =some b->(HT.lexLt b a=false/\(j<i->HT.lexLt a b=true))
def ma:∀{a b:Am},a.length=b.length->HT.lexLt a b=false->HT.lexLt b a=false->a=b
 |[],[],_,_,_=>rfl
 |x::a,y::b,hl,h1,h2=>by
  rw[HT.bZ]at h1 h2;by_cases e:x=y;·subst e;rw[if_pos RR]at h1 h2;rw[ma (by simpa using hl) h1 h2]
  grind
def ie:∀{a b c:Am},HT.lexLt a b=true->HT.lexLt b c=true->HT.lexLt a c=true
 |[],[],_,h1,_=>by cases h1
 |[],_::_,[],_,h2=>by cases h2
 |[],_::_,_::_,_,_=>rfl
 |_::_,[],_,h1,_=>by cases h1
 |_::_,_::_,[],_,h2=>by cases h2
 |x::a,y::b,z::c,h1,h2=>by
  rw[HT.bZ]at h1 h2|-;by_cases e1:x=y
  ·subst e1;rw[if_pos RR]at h1;by_cases e2:x=z;·subst e2;rw[if_pos RR]at h2|-;exact ie h1 h2
   ·rw[if_neg e2]at h2|-;exact h2
  grind
def iV:∀a:Am,HT.lexLt a a=false
 |[]=>rfl
 |x::a=>by rw[HT.bZ,if_pos RR];exact iV a
def uU(h:HT.lexLt a b=true):HT.lexLt b a=false:=by
 cases q:HT.lexLt b a with
 |false=>rfl
 |true=>have:=ie h q;rw[iV]at this;cases this
variable{X:Cx}{pins:Bc}{σ:St}{H0:Hp}{l b S:Addr}in
structure XD(X:Cx)(pins:Bc)(σ:St)(H0:Hp)(l b S:Addr)(i j:Nat)(v:Addr)(s:Shared)(H:Hp):Prop where
 inv:Inv X.in1 pins σ H s
 same:Aa H0 H
 best:H S=some (.lst [.ref v,.ref v])
 it:s.heap.IsListIter b l j
 fp:DW X.in1 pins H b
def jY{ps:Ax}(r:Vals (ps.map V.ref) its):its=ps.map Value.ref:=v9 r
def zI{σ:St}{ps:Ax}(hc:X.calm=true)(hu:X.A.units+64<cLine)(hlen:rows.length=ps.length)(hl:Aj X.K H0 l (ps.map V.ref))(ht:∀(k:Nat) p a,ps[k]? =some p->rows[k]? =some a->Cd X.K H0 p (a.map V.int))(T_:H0 S=none)(T6:l≠b)
  (eq:∀(k m:Nat) a c,rows[k]? =some a->rows[m]? =some c->a.length=c.length)
  (hR:∀i v s' H',ps[i]? =some v->DE rows i ps.length->Inv X.in1 pins σ H' s'->Aa H0 H'->R (.ok (.ret (.ref v))) s'):
  ∀(r j i:Nat)(s:Shared)(H:Hp)(v:Addr),ps.length-(j+1)=r->j+1<=ps.length->XD X pins σ H0 l b S i (j+1) v s H->ps[i]? =some v->i<=j->DE rows i (j+1)->
   codeAny (model X.prog X.w) X.A (.builtin "min.loop" ⟨[.ref b,.none,.ref S],kw⟩) R s:=by
 have nm:(toString "min" ++toString ".loop" :String)= "min.loop" :=by decide
 intro r;induction r with
 |zero=>
  intro j i s H v hr hj M hv hij hb;have Vb:j+1=ps.length:=by omega
  obtain⟨its,rv,pl,_⟩:=M.inv.list (M.same.seq hl);have ei:=jY rv;have W:=agC (prog:=X.prog) (w:=X.w) (A:=X.A.in1) (M.inv.ok.hd hc) b l T6 its.toArray;have sz:its.toArray.size=ps.length:=by rw[afd,ei,ae1]
  obtain⟨_,bits,n,rb,_,eS⟩:=M.inv.gH M.best;obtain⟨u1,u2,rfl,z1,z2⟩:=vals2 rb;cases z1;cases z2;refine codeAny_builtin entry_min_loop ?_;rw[afW plain_min_loop _];show wpAny _ X.A.in1 (seqItems? (.ref S)>>=_) _ _ _;refine wpAny_bind (wpAny_seqItems eS RR ?_);show wpAny _ X.A.in1 (tryCatch (pyNext (.ref b)) _>>=_) _ _ _;refine wpAny_bind (wpAny_tryCatch (W.done _ _ _ ⟨by rw[sz,<-Vb];exact M.it,pl.isList⟩ λh' Mo L3=>?_));have I1:=M.inv.gC (tk:=Mo) M.fp L3;obtain⟨_,bits,n,rb,_,eS⟩:=I1.gH M.best;obtain⟨u1,u2,rfl,z1,z2⟩:=vals2 rb;cases z1;cases z2;show wpAny _ X.A.in1 (updateSeq S (λ_=>#[])>>=_) _ _ _;refine wpAny_bind ?_;refine wpAny_updateSeq eS RR (wpAny_bind (wpAny_letGo (wpAny_pure ?_)));have I2:=I1.pj (f:=λ_=>#[]) (its':=[]) (ys:=[]) (t':=Mo) M.best eS RR .nil (afk _);exact hR i v _ _ hv (by rw[<-Vb];exact hb) I2 (M.same.aL T_ (aw M.best RR))
 |succ r ih=>
  intro j i s H v hr hj M hv hij hb;have Bz:j+1<ps.length:=by omega
  obtain⟨its,rv,pl,_⟩:=M.inv.list (M.same.seq hl);have ei:=jY rv;have W:=agC (prog:=X.prog) (w:=X.w) (A:=X.A.in1) (M.inv.ok.hd hc) b l T6 its.toArray;have sz:its.toArray.size=ps.length:=by rw[afd,ei,ae1]
  obtain⟨_,bits,n,rb,_,eS⟩:=M.inv.gH M.best;obtain⟨u1,u2,rfl,z1,z2⟩:=vals2 rb;cases z1;cases z2;refine codeAny_builtin entry_min_loop ?_;rw[afW plain_min_loop _];show wpAny _ X.A.in1 (seqItems? (.ref S)>>=_) _ _ _;refine wpAny_bind (wpAny_seqItems eS RR ?_);show wpAny _ X.A.in1 (tryCatch (pyNext (.ref b)) _>>=_) _ _ _;refine wpAny_bind (wpAny_tryCatch (W.item (j+1) _ _ _ (by rw[sz];exact Bz) ⟨M.it,pl.isList⟩ λu h' Mo hP M0 L3=>?_));have I1:=M.inv.gC (tk:=Mo) M.fp L3;obtain⟨y,hy,rfl⟩:∃y,ps[j+1]? =some y/\u= .ref y:=by
   have:its[j+1]? =some u:=by simpa using hP
   rw[ei,afc]at this;cases e:ps[j+1]? with
   |none=>rw[e]at this;cases this
   |some y=>rw[e]at this;exact⟨y,RR,(ae2 this).symm⟩
  have Yi:j+1<rows.length:=by rw[hlen];exact Bz
  have Yj:i<rows.length:=by rw[hlen];omega
  obtain⟨ra,era⟩:∃a,rows[j+1]? =some a:=⟨_,afu Yi⟩;obtain⟨X2,Yt⟩:∃a,rows[i]? =some a:=⟨_,afu Yj⟩;obtain⟨ia,va,ta,_⟩:=I1.tuple (M.same.tup (ht (j+1) y ra hy era));obtain⟨ib,vb,tb,_⟩:=I1.tuple (M.same.tup (ht i v X2 hv Yt));have hu1:(X.A.in1).units<cLine:=afl (show X.A.units+1<=X.A.units+64 by omega) hu;show wpAny _ X.A.in1 (tryCatch (holding [Value.ref y,Value.ref y] (richCompare .Lt (.ref y) (.ref v)>>=_)) _>>=_) _ _ _;refine wpAny_bind (wpAny_tryCatch (wpAny_holding (wpAny_bind (HT.uT ta tb va.ints vb.ints hu1 ?_))));refine wpAny_bind (wpAny_holding (wpAny_truthy_bool ?_));refine wpAny_bind (wpAny_letGo (wpAny_pure ?_));obtain⟨_,bits,n,VL,_,eS⟩:=I1.gH M.best;obtain⟨u1,u2,rfl,z1,z2⟩:=vals2 VL;cases z1;cases z2;cases PQ:HT.lexLt ra X2 with
  |true=>
   simp only[if_true];refine wpAny_bind ?_;refine wpAny_updateSeq eS RR (wpAny_bind (wpAny_letGo ?_));rw[nm];have I2:=I1.pj (f:=λ_=>#[Value.ref y,Value.ref y]) (its':=[Value.ref y,Value.ref y]) (ys:=[.ref y,.ref y]) (t':=Mo) M.best eS RR (.cons RR (.cons RR .nil)) cQ;have bS:b≠S:=λz=>by have:=M.best;rw[<-z,M.fp.1]at this;cases this
   refine wpAny_pure ⟨plainId_quiet plain_min_loop _,ih (j+1) (j+1) _ _ y (by omega) Bz ⟨I2,M.same.aL T_ (aw M.best RR),ae,?_,M.fp.same (by rw[ai bS];exact M.fp.1)⟩ hy (ae8 _) ?_⟩;·exact M0.1.at λo e=>(afY _ _ (afA bS)).trans e
   ·intro k hk a c ea ec;rw[era]at ea;cases ea;by_cases e:k=j+1;·subst e;rw[era]at ec;cases ec;exact⟨iV _,λz=>absurd z (afM _)⟩
    ·obtain⟨q1,q2⟩:=hb k (by omega) X2 c Yt ec;have q3:HT.lexLt ra c=true:=by
      cases q4:HT.lexLt X2 c with
      |true=>exact ie PQ q4
      |false=>rw[<-ma (eq i k _ _ Yt ec) q4 q1];exact PQ
     exact⟨uU q3,λ_=>q3⟩
  |false=>
   simp only[agd,if_false];refine wpAny_bind (wpAny_letGo ?_);rw[nm];refine wpAny_pure ⟨plainId_quiet plain_min_loop _,ih (j+1) i _ _ v (by omega) Bz ⟨I1,M.same,M.best,M0.1,M.fp⟩ hv (by omega) ?_⟩;intro k hk a c ea ec;by_cases e:k=j+1;·subst e;rw[Yt]at ea;cases ea;rw[era]at ec;cases ec;exact⟨PQ,λz=>by omega⟩
   ·exact hb k (by omega) a c ea ec
def vJ(a v:Value):argsOk "min" ⟨[a],[(Str.ofString "default",v)]⟩:=by kernel_rfl
def ql{X:Cx}{σ:St}{ps:Ax}(hc:X.calm=true)(hu:X.A.units+64<cLine)(hlen:rows.length=ps.length)(hl:Aj X.K H0 l (ps.map V.ref))(ht:∀(k:Nat) p a,ps[k]? =some p->rows[k]? =some a->Cd X.K H0 p (a.map V.int))(T_:H0 S=none)(T6:l≠b)
  (eq:∀(k m:Nat) a c,rows[k]? =some a->rows[m]? =some c->a.length=c.length)(AW:0<ps.length)(I:Inv X.in1 pins σ H s)(sm:Aa H0 H)(hS:H S=some (.lst []))(it:s.heap.IsListIter b l 0)(fp:DW X.in1 pins H b)
  (hR:∀i v s' H',ps[i]? =some v->DE rows i ps.length->Inv X.in1 pins σ H' s'->Aa H0 H'->R (.ok (.ret (.ref v))) s'):
   codeAny (model X.prog X.w) X.A (.builtin "min.loop" ⟨[.ref b,.none,.ref S],kw⟩) R s:=by
 have nm:(toString "min" ++toString ".loop" :String)= "min.loop" :=by decide
 obtain⟨its,rv,pl,_⟩:=I.list (sm.seq hl);have ei:=jY rv;have W:=agC (prog:=X.prog) (w:=X.w) (A:=X.A.in1) (I.ok.hd hc) b l T6 its.toArray;have sz:its.toArray.size=ps.length:=by rw[afd,ei,ae1]
 obtain⟨_,bits,n,rb,_,eS⟩:=I.gH hS;cases rb;refine codeAny_builtin entry_min_loop ?_;rw[afW plain_min_loop _];show wpAny _ X.A.in1 (seqItems? (.ref S)>>=_) _ _ _;refine wpAny_bind (wpAny_seqItems eS RR ?_);show wpAny _ X.A.in1 (tryCatch (pyNext (.ref b)) _>>=_) _ _ _;refine wpAny_bind (wpAny_tryCatch (W.item 0 _ _ _ (by rw[sz];exact AW) ⟨it,pl.isList⟩ λu h' Mo hP M0 L3=>?_));have I1:=I.gC (tk:=Mo) fp L3;obtain⟨y,hy,rfl⟩:∃y,ps[0]? =some y/\u= .ref y:=by
  have:its[0]? =some u:=by simpa using hP
  rw[ei,afc]at this;cases e:ps[0]? with
  |none=>rw[e]at this;cases this
  |some y=>rw[e]at this;exact⟨y,RR,(ae2 this).symm⟩
 obtain⟨_,bits,n,VL,_,eS⟩:=I1.gH hS;cases VL;show wpAny _ X.A.in1 (updateSeq S (λ_=>#[Value.ref y,Value.ref y])>>=_) _ _ _;refine wpAny_bind ?_;refine wpAny_updateSeq eS RR ?_;rw[nm];have I2:=I1.pj (f:=λ_=>#[Value.ref y,Value.ref y]) (its':=[Value.ref y,Value.ref y]) (ys:=[.ref y,.ref y]) (t':=Mo) hS eS RR (.cons RR (.cons RR .nil)) cQ;have bS:b≠S:=λz=>by have:=hS;rw[<-z,fp.1]at this;cases this
 refine wpAny_pure ⟨plainId_quiet plain_min_loop _,zI hc hu hlen hl ht T_ T6 eq hR _ 0 0 _ _ y RR AW ⟨I2,sm.aL T_ (aw hS RR),ae,?_,fp.same (by rw[ai bS];exact fp.1)⟩ hy (ae8 _) ?_⟩;·exact M0.1.at λo e=>(afY _ _ (afA bS)).trans e
 ·intro k hk a c ea ec;have e:k=0:=by omega
  subst e;rw[ea]at ec;cases ec;exact⟨iV _,λz=>absurd z (afM _)⟩
def sZ{σ:St}{ps:Ax}(I:Inv X pins σ H s)(hl:Aj X.K H l (ps.map V.ref)):∃its:Ay,s.heap.IsList l its.toArray/\its=ps.map Value.ref/\l≠s.hz/\
  Inv X.in1 pins σ (upd H ((s.heap.push {cls:=.type "list_iterator",data:=.fields #[.ref l,.int 0 0]}).objs.size) (.lst [])) {s with heap:=(s.heap.push {cls:=.type "list_iterator",data:=.fields #[.ref l,.int 0 0]}).push {cls:=.type "list",data:=.seq #[]}}/\
  ((s.heap.push {cls:=.type "list_iterator",data:=.fields #[.ref l,.int 0 0]}).push {cls:=.type "list",data:=.seq #[]}).IsListIter s.hz l 0/\
  DW X.in1 pins (upd H ((s.heap.push {cls:=.type "list_iterator",data:=.fields #[.ref l,.int 0 0]}).objs.size) (.lst [])) s.hz/\H (s.heap.push {cls:=.type "list_iterator",data:=.fields #[.ref l,.int 0 0]}).objs.size=none:=by
 obtain⟨its,rv,pl,_⟩:=I.list hl;have sz:(s.heap.push {cls:=.type "list_iterator",data:=.fields #[.ref l,.int 0 0]}).objs.size=s.hz+1:=afv ..;have lt:l<s.hz:=by obtain⟨_,e,_⟩:=pl.isList;exact ae7 e
 have I1:Inv X.in1 pins σ H {s with heap:=s.heap.push {cls:=.type "list_iterator",data:=.fields #[.ref l,.int 0 0]}}:=(I.in1.kept (t':=s.toks) λb o e=>adx _ e);have I2:=I1.adm (its:=[]) (ys:=[]) (t':=s.toks) .nil (afk _);have f:=I.in1.oa (H':=H) (ae8 _) I.fresh;refine⟨its,pl.isList,jY rv,afo lt,I2,⟨_,adx _ (ae4 _ RR),RR,RR⟩,f.same ?_,I1.fresh⟩;rw[ai (by rw[sz];exact afo (agb _))];exact I.fresh
def zH{σ:St}{ps:Ax}(hc:X.calm=true)(hu:X.A.units+64<cLine)(hlen:rows.length=ps.length)(I:Inv X pins σ H s)(hl:Aj X.K H l (ps.map V.ref))(ht:∀(k:Nat) p a,ps[k]? =some p->rows[k]? =some a->Cd X.K H p (a.map V.int))
  (eq:∀(k m:Nat) a c,rows[k]? =some a->rows[m]? =some c->a.length=c.length)(AW:0<ps.length)(hR:∀i v s' H',ps[i]? =some v->DE rows i ps.length->Inv X pins σ H' s'->Aa H H'->Q (.ref v) s'):
  CF X (call (.builtin "min") [.ref l]) Q E s:=by
 have nm:(toString "min" ++toString ".loop" :String)= "min.loop" :=by decide
 obtain⟨its,pl,ei,ne,I2,it,fp,fr⟩:=sZ I hl;refine call_function_tree kind_min plain_min entry_min (PySem.F.args_min1 _) ?_;refine wpAny_bind (wpAny_of_eq (rfl) ?_);refine wpAny_bind (wpAny_pure ?_);refine wpAny_bind (wpAny_pyIter_list pl ?_);refine wpAny_bind (wpAny_newList ?_ (afk _));rw[nm];exact wpAny_pure ⟨plainId_quiet plain_min_loop _,ql hc hu hlen hl ht fr ne eq AW I2 (Aa.ax fr) ae it fp λi v s' H' hv hb I' RZ=>hR i v s' H' hv hb I'.uJ RZ⟩
def xR{σ:St}(hc:X.calm=true)(hu:X.A.units+64<cLine)(hlen:rows.length=ps.length)(I:Inv X pins σ H s)(hl:Aj X.K H l (ps.map V.ref))(ht:∀(k:Nat) p a,ps[k]? =some p->rows[k]? =some a->Cd X.K H p (a.map V.int))
  (eq:∀(k m:Nat) a c,rows[k]? =some a->rows[m]? =some c->a.length=c.length)(hD:ps=[]->∀s' H',Inv X pins σ H' s'->Aa H H'->Q d s')
  (hR:∀i v s' H',ps[i]? =some v->DE rows i ps.length->Inv X pins σ H' s'->Aa H H'->Q (.ref v) s'):
  CF X (call (.builtin "min") [.ref l] [(Str.ofString "default",d)]) Q E s:=by
 have nm:(toString "min" ++toString ".loop" :String)= "min.loop" :=by decide
 obtain⟨its,pl,ei,ne,I2,it,fp,fr⟩:=sZ I hl;refine kmk_tree kind_min plain_min entry_min (vJ _ _) ?_;refine wpAny_bind (wpAny_of_eq (show Builtin.Builtins.bindParams "min" ["key","default"] 0 ⟨[],[(Str.ofString "default",d)]⟩=pure [none,some d]from rfl) ?_);refine wpAny_bind (wpAny_pure ?_);refine wpAny_bind (wpAny_pyIter_list pl ?_);refine wpAny_bind (wpAny_newList ?_ (afk _));rw[nm];by_cases AW:0<ps.length;·exact wpAny_pure ⟨plainId_quiet plain_min_loop _,ql hc hu hlen hl ht fr ne eq AW I2 (Aa.ax fr) ae it fp λi v s' H' hv hb I' RZ=>hR i v s' H' hv hb I'.uJ RZ⟩
 ·have e0:ps=[]:=afI.mp (by omega);refine wpAny_pure ⟨plainId_quiet plain_min_loop _,?_⟩;obtain⟨C7,NV,X3,_⟩:=I2.list ((Aa.ax fr).seq hl);have ei2:=jY NV;subst ei2;have W:=agC (prog:=X.prog) (w:=X.w) (A:=X.A.in1) (I2.ok.hd hc) s.hz l ne (ps.map Value.ref).toArray;obtain⟨_,bits,n,rb,_,eS⟩:=I2.gH ae;cases rb;refine codeAny_builtin entry_min_loop ?_;rw[afW plain_min_loop _];show wpAny _ X.A.in1 (seqItems? (.ref _)>>=_) _ _ _;refine wpAny_bind (wpAny_seqItems eS RR ?_);refine wpAny_bind (wpAny_tryCatch (W.done _ _ _ ⟨by rw[e0];exact it,X3.isList⟩ λh' Mo L3=>?_));have I3:=I2.gC (tk:=Mo) fp L3;refine wpAny_bind (wpAny_rule (wpAny_pure ?_));exact hD e0 _ _ I3.uJ (Aa.ax fr)
def RU(X:Cx)(id:String)(nm:Str)(r:List V->V->Hp->VK->Prop):Prop:=
 ∀(pins:Bc)(s:Shared)(σ:St)(H:Hp)(xs:List V)(us:Ay)(z:V)(w:Value)(Q:VK),Inv X pins σ H s->Vals xs us->RelV z w->r xs z H Q->
  CF X (call (.builtin id) us [(nm,w)]) (EP X pins σ Q) X.xe s
def qx{p pos kp:Pos}{id:String}(hc:RU X id nm r)(hg:Gl X x)(hm:X.mg x=none)(hv:bootBuiltins x=some (.builtin id))(h:Ea X (e::es) σ H λvs H1=>Ev X ke σ H1 λz H2=>r vs z H2 Q)(hn:x≠"__name__" :=by decide)(Ja:GY x:=by decide)
  (he:backTo pos (starEach (e::es) X.env)=(false,eval e X.env)::backTo pos (starEach es X.env):=by rfl)(B8:(backTo pos (starEach (e::es) X.env)).any (·.1)=false:=by rfl):Ev X (.Call (.Name x p) (e::es) [⟨some nm,ke,kp⟩] pos) σ H Q:=by refine⟨λpins s I=>wpAny_Call_Name_kw (fS I hg hm hv ?_ hn Ja)⟩;refine callWith_kw (oW (h.run pos pins s I) λus s1 vs H1 I1 r1 q1=>?_) he B8 RR RR;refine oW (wb (kpos:=kp) aF zt pos pins s1 σ H1 (λzs H2=>∃z,zs=[z]/\r vs z H2 Q) I1 (q1.mono λz H2 q2=>⟨z,RR,q2⟩)) λws s2 zs H2 I2 rz q=>?_;obtain⟨z,e2,q2⟩:=q;subst e2;obtain⟨w,rfl,Mp⟩:=vals1 rz;exact hc pins s2 σ H2 vs us z w Q I2 r1 Mp q2
variable{H:Hp}{p:Pos}in
structure Vr(K:Frag)(H:Hp)(b:Addr)(ps:Ax)(rows:List (Am)):Prop where
 lst:Aj K H b (ps.map V.ref)
 len:rows.length=ps.length
 tup:∀(k:Nat) p a,ps[k]? =some p->rows[k]? =some a->Cd K H p (a.map V.int)
def vt(hc:X.calm=true)(hu:X.A.units+64<cLine):Cc X (.builtin "min") (λvs H Q=>∃(b:Addr) (ps:Ax) (rows:List (Am)),vs=[.ref b]/\Vr X.K H b ps rows/\(∀(k m:Nat) a c,rows[k]? =some a->rows[m]? =some c->a.length=c.length)/\0<ps.length/\
  ∀i p H',ps[i]? =some p->DE rows i ps.length->Aa H H'->Q (.ref p) H'):=by rintro pins s σ H vs us Q I r ⟨b,ps,rows,rfl,T,eq,AW,q⟩;rw[Vals.ni r];exact zH hc hu T.len I T.lst T.tup eq AW λi v s' H' hv hb I' sm=>⟨.ref v,H',I',RR,q i v H' hv hb sm⟩
def oz(hc:X.calm=true)(hu:X.A.units+64<cLine):RU X "min" "default" (λvs z H Q=>∃(b:Addr) (ps:Ax) (rows:List (Am)),vs=[.ref b]/\Vr X.K H b ps rows/\(∀(k m:Nat) a c,rows[k]? =some a->rows[m]? =some c->a.length=c.length)/\
  (ps=[]->∀H',Aa H H'->Q z H')/\∀i p H',ps[i]? =some p->DE rows i ps.length->Aa H H'->Q (.ref p) H'):=by rintro pins s σ H vs us z w Q I r rz ⟨b,ps,rows,rfl,T,eq,q0,q⟩;rw[Vals.ni r];exact xR hc hu T.len I T.lst T.tup eq (λe s' H' I' sm=>⟨z,H',I',rz,q0 e H' sm⟩) λi v s' H' hv hb I' sm=>⟨.ref v,H',I',RR,q i v H' hv hb sm⟩
def Al(D:Addr)(H:Hp):Hp:=λb=>if b=D then none else H b
def x_:Al D (upd H D o)=Al D H:=by funext b;unfold Al upd;split<;>rfl
def Qt(H H':Hp):Prop:=∀b o,H b=some o->Kp H' b o
def nO(s:Qt H H'):Qt (Al D H) (Al D H'):=λb o e=>by
 unfold Al at e;split at e;·cases e
 ·rename_i h;have k:=s b o e;have eq:Al D H' b=H' b:=by unfold Al;rw[if_neg h]
  cases o with
  |F8 ps=>obtain⟨ps',k⟩:=k;exact⟨ps',eq.trans k⟩
  |_=>exact eq.trans k
def eZ:Qt (Al D H) H:=λb o e=>by
 unfold Al at e;split at e;·cases e
 ·exact Kp.refl e
def cW(h:H p=some o)(ne:p≠D):Al D H p=some o:=by unfold Al;rw[if_neg ne];exact h
def Aw{α:Type}(rel:α->V->Hp->Prop)(ys:List α)(zs:List V)(H:Hp):Prop:=zs.length=ys.length/\∀(k:Nat) y z,ys[k]? =some y->zs[k]? =some z->rel y z H
def zW{rel:α->V->Hp->Prop}{g:TG}{tt:TT}{te:TE}{Qd:Hp->Prop}
  (Y:BA J H1 xs yl)(hD:H1 D=none)(hsz:xs.length<=sizeLine)(hm:∀y z H H',rel y z H->Qt H H'->rel y z H')
  (turn:∀y∈xs,∀x H' acc,Aa H1 H'->H' D=some (.lst acc)->yl y x H'->g x (wipe σ vs) H' λσ2 H2=>wipe σ2 vs=wipe σ vs/\tt σ2 H2 λb H3=>Aa H' H3/\b=pr y/\(b=true->te σ2 H3 λz H4=>Aa H3 H4/\rel y z (Al D H4)))
  (gm:∀x σ H Q Q',(∀σ2 H2,Q σ2 H2->Q' σ2 H2)->g x σ H Q->g x σ H Q')(tm:∀σ H Q Q',(∀b H2,Q b H2->Q' b H2)->tt σ H Q->tt σ H Q')(em:∀σ H Q Q',(∀b H2,Q b H2->Q' b H2)->te σ H Q->te σ H Q')
  (hd:∀H' zs,Aa H1 H'->H' D=some (.lst zs)->Aw rel (xs.filter pr) zs H'->Qd H'):
  ∃W:Nat->Nat->Hp->Prop,(∃m,W 0 m (upd H1 D (.lst [])))/\∀i m H,W i m H->
   (J.stop i H/\Qd H)\/(J.go i H/\∃Nx:Hp->Prop,(∀H',Nx H'->∃m',m'<m/\W (i+1) m' H')/\∀x H',J.Ke i H x H'->g x (wipe σ vs) H' λσ2 H2=>wipe σ2 vs=wipe σ vs/\tt σ2 H2 λb H3=>
    if b=true then te σ2 H3 λy H4=>(∃acc,Av (H4 D=some (.lst acc)) (acc.length<sizeLine) (Nx (upd H4 D (.lst (acc++[y])))))else Nx H3):=by
 refine⟨λi m H=>m=xs.length-i/\i<=xs.length/\Aa H1 H/\∃zs,H D=some (.lst zs)/\Aw rel ((xs.take i).filter pr) zs (Al D H),⟨xs.length,by simp,afk _,Aa.ax hD,[],ae,by simp[Aw]⟩,?_⟩;rintro i m H ⟨rfl,hi,sm,zs,hh,hl,ha⟩;by_cases Bz:i<xs.length
 ·refine .inr ⟨Y.go i H sm Bz,λH'=>Aa H1 H'/\∃zs,H' D=some (.lst zs)/\Aw rel ((xs.take (i+1)).filter pr) zs (Al D H'),λH' ⟨s',q⟩=>⟨xs.length-(i+1),by omega,RR,Bz,s',q⟩,λx H' y=>?_⟩;obtain⟨z,hz,s2,hy⟩:=Y.Ke i H x H' sm Bz y;refine gm _ _ _ _ _ (λσ2 H2 ⟨e,q⟩=>⟨e,?_⟩) (turn z (afa hz) x H' zs (sm.trans s2) (s2 _ _ hh) hy);refine tm _ _ _ _ (λb H3 ⟨s3,eb,q⟩=>?_) q;have Ua:H3 D=some (.lst zs):=s3 _ _ (s2 _ _ hh);rw[a_ hz,de,<-eb];cases b with
  |false=>rw[if_neg ae0];refine⟨(sm.trans s2).trans s3,zs,Ua,?_⟩;rw[if_neg ae0,af4];exact⟨hl,λk y z e1 e2=>hm _ _ _ _ (ha k y z e1 e2) (nO (s2.trans s3).go)⟩
  |true=>
   rw[if_pos RR];refine em _ _ _ _ (λu H4 ⟨s4,eu⟩=>⟨_,s4 _ _ Ua,?_,?_,_,ae,?_⟩) (q RR);·rw[hl];exact afl (afh _ _) (by rw[afJ];omega)
   ·exact(((sm.trans s2).trans s3).trans s4).aL hD (aw (s4.go _ _ Ua) RR)
   ·rw[if_pos RR,x_];refine⟨by simp[hl],λk y w e1 e2=>?_⟩;by_cases hk:k<zs.length;·rw[afs (by rw[<-hl];exact hk)]at e1;rw[afs hk]at e2;exact hm _ _ _ _ (ha k y w e1 e2) (nO ((s2.trans s3).trans s4).go)
    ·have hk2:k<(zs++[u]).length:=(ae3.mp e2).1;have e:k=zs.length:=by simp at hk2;omega
     subst e;rw[hl,afx (ae8 _),Nat.sub_self]at e1;rw[afx (ae8 _),Nat.sub_self]at e2;cases e1;cases e2;exact eu
 ·have e:i=xs.length:=by omega
  subst e;rw[afX]at ha hl;exact .inl ⟨Y.stop _ H sm (ae8 _),hd H zs sm hh ⟨hl,λk y z e1 e2=>hm _ _ _ _ (ha k y z e1 e2) eZ⟩⟩
def oq{rel:α->V->Hp->Prop}(hc:X.calm=true)(hN:X.N.Nodup)(ok:ER X.N X.env.scope scope [(x,j)])(hg:∀(s:Shared)(H:Hp)(C:Addr)(cl:List (Str×Addr))(fp:Ax),PG (KQ X scope s H C cl fp) (.Name x px) (Du j))(hm:∀y z H H',rel y z H->Qt H H'->rel y z H')
  (h:Ei X (.Name x px) iter σ H λJ H1=>(Au λ(xs:List α) (val:α->V)=>B9 (BA J H1 xs (λy x _=>x=val y)) (xs.length<=sizeLine) ((∀y∈xs,∀H',Aa H1 H'->KR X scope ifs ((σ.set j none).set j (some (val y))) H' λb H3=>Aa H' H3/\b=pr y)) ((∀y∈xs,pr y=true->∀D acc H',Aa H1 H'->H' D=some (.lst acc)->OR X scope elt ((σ.set j none).set j (some (val y))) H' λz H4=>Aa H' H4/\rel y z (Al D H4))) (∀D H' zs,H1 D=none->Aa H1 H'->H' D=some (.lst zs)->Aw rel (xs.filter pr) zs H'->Q (.ref D) H')))(hs:∀x,foldedSetIterable iter X.env x=pure x:=by intro _;rfl):Ev X (.ListComp elt [⟨.Name x px,iter,ifs,0⟩] scope pos) σ H Q:=by refine t5 hc hN ok hg ?_ hs;refine Ei.mono h λJ H1 ⟨xs,val,Y,hz,ht,he,hq⟩=>?_;intro D hD;refine zW (pr:=pr) Y hD hz hm ?_ (λx σ H Q Q' k q=>k _ _ q) (λσ H Q Q' k q s0 H0 C cl fp=>(q s0 H0 C cl fp).mono k) (λσ H Q Q' k q s0 H0 C cl fp=>(q s0 H0 C cl fp).mono k) λH' zs s' q r=>hq D H' zs hD s' q r;intro y hy v H' acc sm eD e;subst e;refine⟨sj _ _ _,λs0 H0 C cl fp=>(ht y hy H' sm s0 H0 C cl fp).mono ?_⟩;rintro b H3 ⟨s3,rfl⟩;exact⟨s3,RR,λhb s0 H0 C cl fp=>(he y hy hb D acc H3 (sm.trans s3) (s3 _ _ eD) s0 H0 C cl fp)⟩
def abZ{rel:α->V->Hp->Prop}(hc:X.calm=true)(hN:X.N.Nodup)(ok:ER X.N X.env.scope scope [(x,j)])(hg:∀(s:Shared)(H:Hp)(C:Addr)(cl:List (Str×Addr))(fp:Ax),PG (KQ X scope s H C cl fp) (.Name x px) (Du j))(hm:∀y z H H',rel y z H->Qt H H'->rel y z H')
  (h:Ei X (.Name x px) iter σ H λJ H1=>(Au λ(xs:List α) (val:α->V)=>BO (BA J H1 xs (λy x _=>x=val y)) (xs.length<=sizeLine) ((∀y∈xs,∀D acc H',Aa H1 H'->H' D=some (.lst acc)->OR X scope elt ((σ.set j none).set j (some (val y))) H' λz H4=>Aa H' H4/\rel y z (Al D H4))) (∀D H' zs,H1 D=none->Aa H1 H'->H' D=some (.lst zs)->Aw rel xs zs H'->Q (.ref D) H')))(hs:∀x,foldedSetIterable iter X.env x=pure x:=by intro _;rfl):Ev X (.ListComp elt [⟨.Name x px,iter,[],0⟩] scope pos) σ H Q:=by refine oq hc hN ok hg hm (Ei.mono h λJ H1 ⟨xs,val,Y,hz,he,hq⟩=>⟨xs,val,Y,hz,λy hy H' sm s0 H0 C cl fp=>kE ⟨Aa.refl _,RR⟩,λy hy _=>he y hy,λD H' zs hD sm q r=>hq D H' zs hD sm q ?_⟩) hs;rw[afV.mpr (λ_ _=>rfl)]at r;exact r
def cI{D:Ends}{Sg:Pos}(hc:X.calm=true)(hN:X.N.Nodup)(hy:X.N[i]? =some y)(X7:X.env.scope.names.lookup y=some .local)(ok:ER X.N X.env.scope scope own)(hg:∀(s:Shared)(H:Hp)(C:Addr)(cl:List (Str×Addr))(fp:Ax),PG (KQ X scope s H C cl fp) tg g)
  (h:TC (Ei X tg iter) g (KR X scope ifs) (OR X scope elt) (own.map (·.2)) σ H λv H1=>D.nx (σ.set i (some v)) H1)
  (WX:swapsWith (.ListComp elt [⟨tg,iter,ifs,0⟩] scope pos) (some (.Name y py)) Sg.line X.env=pure true:=by exact aa5 RR RR RR (by kernel_rfl))(hs:∀x,foldedSetIterable iter X.env x=pure x:=by intro _;rfl):Es X (.Assign [.Name y py] (.ListComp elt [⟨tg,iter,ifs,0⟩] scope pos) Sg) D σ H:=
 gx (zp hc hN hy X7 WX qW ok hg (λs0 H0 C cl fp pins s σ H Q I q=>(q s0 H0 C cl fp).run pins s I) (λs0 H0 C cl fp pins s σ H Q I q=>(q s0 H0 C cl fp).run pins s I) hs) h
def yZ
  (h:Ei X (.Name x px) iter σ H λJ H1=>(Au λ(xs:List α) (val:α->V)=>B9 (BA J H1 xs (λy x _=>x=val y)) (xs.length<=sizeLine) ((∀y∈xs,∀H',Aa H1 H'->KR X scope ifs ((σ.set j none).set j (some (val y))) H' λb H3=>Aa H' H3/\b=pr y)) ((∀y∈xs,pr y=true->∀H',Aa H1 H'->OR X scope elt ((σ.set j none).set j (some (val y))) H' λz H4=>Aa H' H4/\z=f y)) (∀D H',H1 D=none->Aa H1 H'->H' D=some (.lst ((xs.filter pr).map f))->Q (.ref D) H'))):TC (Ei X (.Name x px) iter) (Du j) (KR X scope ifs) (OR X scope elt) [j] σ H Q:=by refine Ei.mono h λJ H1 ⟨xs,val,Y,hz,ht,he,hq⟩=>?_;intro D hD;refine mQ Y hD hz ?_ (λx σ H Q Q' k q=>k _ _ q) (λσ H Q Q' k q s0 H0 C cl fp=>(q s0 H0 C cl fp).mono k) (λσ H Q Q' k q s0 H0 C cl fp=>(q s0 H0 C cl fp).mono k) λH' s' q=>hq D H' hD s' q;intro y hy v H' sm e;subst e;refine⟨sj _ _ _,λs0 H0 C cl fp=>(ht y hy H' sm s0 H0 C cl fp).mono ?_⟩;rintro b H3 ⟨s3,rfl⟩;exact⟨s3,RR,λhb s0 H0 C cl fp=>(he y hy hb H3 (sm.trans s3) s0 H0 C cl fp)⟩
def acm
  (h:Ei X (.Name x px) iter σ H λJ H1=>(Au λ(xs:List α) (val:α->V)=>BO (BA J H1 xs (λy x _=>x=val y)) (xs.length<=sizeLine) ((∀y∈xs,∀H',Aa H1 H'->OR X scope elt ((σ.set j none).set j (some (val y))) H' λz H4=>Aa H' H4/\z=f y)) (∀D H',H1 D=none->Aa H1 H'->H' D=some (.lst (xs.map f))->Q (.ref D) H'))):TC (Ei X (.Name x px) iter) (Du j) (KR X scope []) (OR X scope elt) [j] σ H Q:=by refine yZ (Ei.mono h λJ H1 ⟨xs,val,Y,hz,he,hq⟩=>⟨xs,val,Y,hz,λy hy H' sm s0 H0 C cl fp=>kE ⟨Aa.refl _,RR⟩,λy hy _=>he y hy,λD H' hD sm q=>hq D H' hD sm ?_⟩);rw[q,afV.mpr (λ_ _=>rfl)]
def sv{rel:α->V->Hp->Prop}(hm:∀y z H H',rel y z H->Qt H H'->rel y z H')
  (h:Ei X (.Name x px) iter σ H λJ H1=>(Au λ(xs:List α) (val:α->V)=>BO (BA J H1 xs (λy x _=>x=val y)) (xs.length<=sizeLine) ((∀y∈xs,∀D acc H',Aa H1 H'->H' D=some (.lst acc)->OR X scope elt ((σ.set j none).set j (some (val y))) H' λz H4=>Aa H' H4/\rel y z (Al D H4))) (∀D H' zs,H1 D=none->Aa H1 H'->H' D=some (.lst zs)->Aw rel xs zs H'->Q (.ref D) H'))):TC (Ei X (.Name x px) iter) (Du j) (KR X scope []) (OR X scope elt) [j] σ H Q:=by refine Ei.mono h λJ H1 ⟨xs,val,Y,hz,he,hq⟩=>?_;intro D hD;refine zW Y hD hz hm ?_ (λx σ H Q Q' k q=>k _ _ q) (λσ H Q Q' k q s0 H0 C cl fp=>(q s0 H0 C cl fp).mono k) (λσ H Q Q' k q s0 H0 C cl fp=>(q s0 H0 C cl fp).mono k) λH' zs s' q r=>hq D H' zs hD s' q (by rw[afV.mpr (λ_ _=>rfl)]at r;exact r);intro y hy v H' acc sm eD e;subst e;exact⟨sj _ _ _,λs0 H0 C cl fp=>kE ⟨Aa.refl _,RR,λ_ s0 H0 C cl fp=>he y hy D acc H' sm eD s0 H0 C cl fp⟩⟩
def GI{α:Type}(row:α->Am):α->V->Hp->Prop:=λy z H=>∃p,z= .ref p/\H p=some (.tup ((row y).map V.int))
def aR(y:α)(z:V)(H H':Hp)(h:GI row y z H)(s:Qt H H'):GI row y z H':=by obtain⟨p,e,h⟩:=h;exact⟨p,e,s _ _ h⟩
def qL{K:Frag}{ys:List α}{zs:List V}(hb:H b=some (.lst zs))(r:Aw (GI row) ys zs H):∃ps,Vr K H b ps (ys.map row)/\ps.length=ys.length:=by
 have:∃ps:Ax,zs=ps.map V.ref/\∀(k:Nat) p y,ps[k]? =some p->ys[k]? =some y->H p=some (.tup ((row y).map V.int)):=by
  clear hb;obtain⟨hl,ha⟩:=r;induction zs generalizing ys with
  |nil=>exact⟨[],RR,λk p y e=>by simp at e⟩
  |cons z zs ih=>
   cases ys with
   |nil=>simp at hl
   |cons y ys=>
    obtain⟨p,rfl,hp⟩:=ha 0 y z RR RR;obtain⟨ps,rfl,ZW⟩:=ih (by simpa using hl) λk y z e1 e2=>ha (k+1) y z (by simpa using e1) (by simpa using e2);refine⟨p::ps,RR,λk q y' e1 e2=>?_⟩;cases k with
    |zero=>simp at e1 e2;subst e1;subst e2;exact hp
    |succ k=>exact ZW k q y' (by simpa using e1) (by simpa using e2)
 obtain⟨ps,rfl,ZW⟩:=this;have hlen:ps.length=ys.length:=by have:=r.1;simpa using this
 refine⟨ps,⟨Aj.of hb,by simp[hlen],λk p a e1 e2=>?_⟩,hlen⟩;rw[afc]at e2;cases e3:ys[k]? with
 |none=>rw[e3]at e2;cases e2
 |some y=>rw[e3]at e2;cases e2;exact Cd.of (ZW k p y e1 e3)
noncomputable def zs(l:Ae):Am:=l.map λ(n:Nat)=>(n:Int)
noncomputable def cnt(l:Ae):Am:=(l.length:Int)::zs l
def gB(l:Ae):(zs l).map V.int=nums l:=by unfold zs nums;rw[afr];rfl
def bW(l:Ae):(cnt l).map V.int= .int l.length::nums l:=by unfold cnt;rw[afq,gB]
def GJ(ad:Ad)(Fp:Sm->Am):Sp:=λvs H Q _=>CO λ(a v:Addr) (M:Sm) (l:List V)=>BO (vs=[.ref a,.ref v]) (Ai ad H a M) (H v=some (.lst l)) (C6 H ((Fp M).map V.int) Q)
def LC(ad:Ad)(Fp:Sm->Nat->Am):Sp:=λvs H Q _=>CO λ(a v:Addr) (M:Sm) (g:Nat)=>Dn (vs=[.ref a,.ref v]) (Ai ad H a M) (H v=some (.lst [.int g])) (1<=g) (g<=As M) (C6 H ((Fp M g).map V.int) Q)
def UG(ad:Ad)(Fp:Sm->Nat->Am):Sp:=λvs H Q _=>CO λ(a v:Addr) (M:Sm) (i:Nat)=>B9 (vs=[.ref a,.ref v]) (Ai ad H a M) (H v=some (.lst [.int i])) (i<M.nP) (C6 H ((Fp M i).map V.int) Q)
def Wr(ad:Ad)(Fp:Sm->Nat->Nat->Am):Sp:=λvs H Q _=>FX λ(a v:Addr) (M:Sm) (x y:Nat)=>BO (vs=[.ref a,.ref v]) (Ai ad H a M) (H v=some (.lst [.int x,.int y])) (C6 H ((Fp M x y).map V.int) Q)
def Wq(ad:Ad)(Fp:Sm->Nat->Nat->Am):Sp:=λvs H Q _=>FX λ(a v:Addr) (M:Sm) (g i:Nat)=>Oy (vs=[.ref a,.ref v]) (Ai ad H a M) (H v=some (.lst [.int g,.int i])) (1<=g) (g<=As M) (i<M.nP) (C6 H ((Fp M g i).map V.int) Q)
def TJ(ad:Ad)(Fp:Sm->Nat->Nat->Am):Sp:=λvs H Q _=>FX λ(a v:Addr) (M:Sm) (g k:Nat)=>Dn (vs=[.ref a,.ref v]) (Ai ad H a M) (H v=some (.lst [.int g,.int k])) (1<=g) (g<=As M) (C6 H ((Fp M g k).map V.int) Q)
def QQ(ad:Ad)(Fp:Sm->Nat->Nat->Am):Sp:=λvs H Q _=>FX λ(a v:Addr) (M:Sm) (i j:Nat)=>Dn (vs=[.ref a,.ref v]) (Ai ad H a M) (H v=some (.lst [.int i,.int j])) (i<M.nP) (j<M.nP) (C6 H ((Fp M i j).map V.int) Q)
def aak(h:Good M):As M<32:=by have:=kZ h;unfold As;omega
def c8(h:Good M):(groups M).length<32:=by unfold groups;rw[ahd];exact aak h
def dj(h:Good M):(standing M).length<32:=afl (afh _ _) (c8 h)
def cD(h:g∈groups M):1<=g/\g<=As M:=by unfold groups at h;grind
def aH{X:Cx}{σ:St}{p pos p2:Pos}{a:Addr}{j:Nat}(i:Nat)(k:Nat)(hl:H a=some (.lst l))(hk:l[k]? =some v)(q:Q v H)(hN:X.N[i]? =some x:=by rfl)(hv:Qa X.env.scope x:=by first|exact Or.inl RR|exact Or.inr (Or.inl RR)|exact Or.inr (Or.inr RR))(hs:σ[i]? =some (some (.ref a)):=by rfl)
  (hd:GY x:=by decide)(HC:(x==("__classdict__" :Str))=false:=by decide):Ev X (.Subscript (.Name x p) (.Constant (.int (k:Nat)) j p2) pos) σ H Q:=
 bg bj (rO i hN hv hs (aG ⟨a,l,k,v,RR,RR,Aj.of hl,aS hk,q⟩) hd HC) (λ_ _=>rfl)
def Mu(ad:Ad):Sp:=λvs H Q _=>Au λ(a:Addr) (M:Sm)=>Av (vs=[.ref a]) (Ai ad H a M) (C6 H (nums (standing M)) Q)
def bR(T:Txt kK mg aD base):Bx P w T 6 "standing_groups" (Mu aD):=by
 refine bt T.d.IH dr ?_;rintro bo H vs Q E hr ⟨a,M,rfl,hS,q⟩;refine ah<|aj<|dG (α:=Nat) (pr:=stands M) (f:=λg=>.int (g:Nat)) RR dr.sc.nd (aB (by kernel_rfl)) (λ_ _ _ _ _=>cT 1 dr.sc.nd)<|
  aQ<|ao (fX T) hr<|af 0<|ab ⟨a,M,RR,hS,λp H1 sm hp e=>⟨p,RR,⟨_,Aj.of e⟩,groups M,_,az (Aj.of e),?_,?_,?_,?_⟩⟩;·exact small (afS (c8 hS.good))
 ·intro y hy H' Cq s0 H0 C cl fp;exact bp<|aO<|ao (iE T) hr<|af 0<|aa<|af 1<|ab ⟨a,M,y,RR,hS.mono (sm.trans Cq),λH2 s2=>⟨_,RR,s2,RR⟩⟩
 ·intro y hy _ H' Cq s0 H0 C cl fp;exact af 1 ⟨Aa.refl _,RR⟩
 ·intro D H' hD Cq e';exact q D H' (sm.trans Cq) (sm.free hD) e'
def Mg(M:Sm)(g:Nat):Am:=zs [tally M g 0,tally M g 1,tally M g 2]
def pO(T:Txt kK mg aD base):Bx P w T 5 "answer_vote" (LC aD Mg):=by refine bt T.d.Nk pH ?_;rintro bo H vs Q E hr ⟨a,v,M,g,rfl,hS,hv,h1,h2,q⟩;exact ah<|aj<|ao (wR T) hr<|af 0<|aa<|aH 1 0 hv RR<|ab ⟨a,M,g,RR,hS,q⟩
def Ia(M:Sm)(g:Nat):Am:=[if stands M g then 1 else 0]
def mz(T:Txt kK mg aD base):Bx P w T 6 "answer_stands" (LC aD Ia):=by refine bt T.d.KU mv ?_;rintro bo H vs Q E hr ⟨a,v,M,g,rfl,hS,hv,h1,h2,q⟩;refine ah<|aj<|ay<|aa<|ao (fK T) hr<|ao (iE T) hr<|af 0<|aa<|aH 1 0 hv RR<|ab ⟨a,M,g,RR,hS,λH1 s1=>ab ⟨_,RR,ab ⟨bq,λp hp=>?_⟩⟩⟩;exact q p _ (s1.aL (s1.free hp)) (s1.free hp) ae
def FQ(M:Sm):Am:=cnt (standing M)
def kO(T:Txt kK mg aD base):Bx P w T 7 "answer_standing" (GJ aD FQ):=by
 refine bt T.d.Jd kj ?_;rintro bo H vs Q E hr ⟨a,v,M,l,rfl,hS,hv,q⟩;unfold FQ at q;rw[bW]at q;refine ah<|aj<|ao (bF T) hr<|ao (bR T) hr<|af 0<|ab ⟨a,M,RR,hS,λp H1 s1 hp e=>ab ⟨p,_,RR,e,?_,λr H2 s2 hr e2=>?_⟩⟩;·rw[aq];have:=dj hS.good;omega
 ·rw[aq]at e2;exact q r H2 (s1.trans s2) (s1.free hr) e2
def J4(M:Sm):Am:=cnt (Dz M (standing M))
def oF(T:Txt kK mg aD base):Bx P w T 7 "answer_tight" (GJ aD J4):=by
 refine bt T.d.L8 nX ?_;rintro bo H vs Q E hr ⟨a,v,M,l,rfl,hS,hv,q⟩;unfold J4 at q;rw[bW]at q;have hz:=dj hS.good;refine ah<|aj<|ao (bF T) hr<|ao (iG T) hr<|af 0<|aa<|ao (bR T) hr<|af 0<|ab ⟨a,M,RR,hS,λp H1 s1 hp e=>ab ⟨a,p,M,_,RR,hS.mono s1,e,by omega,λp2 H2 s2 Mq e2=>ab ⟨p2,_,RR,e2,?_,λr H3 s3 hr e3=>?_⟩⟩⟩;·rw[aq];have:(Dz M (standing M)).length<=_:=afh _ _;omega
 ·rw[aq]at e3;have C1:=s1.trans s2;exact q r H3 (C1.trans s3) (C1.free hr) e3
noncomputable def leastBy(f:Nat->Nat):Ae->Am
 |[]=>[-33]
 |a::l=>let b:=l.foldl (λb s=>if f s<f b then s else b) a;[(f b:Int),(b:Int)]
def fq(f:Nat->Nat):∀(l:Ae)(a:Nat),let b:=l.foldl (λb s=>if f s<f b then s else b) a
  b∈a::l/\∀y∈a::l,f b<=f y:=by
 intro l;induction l with
 |nil=>intro a;simp
 |cons x l ih=>
  intro a;obtain⟨h1,h2⟩:=ih (if f x<f a then x else a);rw[afz];refine⟨?_,?_⟩
  ·rcases ae5.mp h1 with e|e;·rw[e];split<;>simp
   ·exact ae6 _ (ae6 _ e)
  ·intro y hy;have h3:=h2 _ (aff ..);rcases ae5.mp hy with rfl|hy;·refine afe h3 ?_;split<;>omega
   ·rcases ae5.mp hy with rfl|hy;·refine afe h3 ?_;split<;>omega
    ·exact h2 y (ae6 _ hy)
def lC(f:Nat->Nat):∀(l:Ae)(a:Nat),(a::l).Pairwise (·<·)->let b:=l.foldl (λb s=>if f s<f b then s else b) a
  ∀y∈a::l,f y=f b->b<=y:=by
 intro l;induction l with
 |nil=>intro a _;simp
 |cons x l ih=>
  intro a hp;rw[agJ]at hp;have hxl:=hp.2;rw[agJ]at hxl;rw[afz];by_cases h:f x<f a
  ·rw[if_pos h];show∀y∈a::x::l,f y=f (l.foldl (λb s=>if f s<f b then s else b) x)->l.foldl (λb s=>if f s<f b then s else b) x<=y;intro y hy e;rcases ae5.mp hy with e1|hy;·have h2:=(fq f l x).2 x (aff ..);rw[e1]at e;omega
   ·exact ih x hp.2 y hy e
  ·rw[if_neg h];have Qp:(a::l).Pairwise (·<·):=agJ.mpr ⟨λy hy=>hp.1 y (ae6 _ hy),hxl.2⟩;show∀y∈a::x::l,f y=f (l.foldl (λb s=>if f s<f b then s else b) a)->l.foldl (λb s=>if f s<f b then s else b) a<=y;intro y hy e;rcases ae5.mp hy with e1|hy;·rw[e1]at e|-;exact ih a Qp a (aff ..) e
   ·rcases ae5.mp hy with e1|hy;·rw[e1]at e|-;have h2:=(fq f l a).2 a (aff ..);have h1:l.foldl (λb s=>if f s<f b then s else b) a<=a:=ih a Qp a (aff ..) (by omega);have:=hp.1 x (aff ..);omega
    ·exact ih a Qp y (ae6 _ hy) e
def ip(M:Sm):(groups M).Pairwise (·<·):=List.pairwise_lt_range'
def jc(M:Sm):(standing M).Pairwise (·<·):=(ip M).filter _
def nK(hl:l.Pairwise (·<·))(h:DE (l.map λs=>[(f s:Int),(s:Int)]) i l.length)(hs:l[i]? =some s):leastBy f l=[(f s:Int),(s:Int)]:=by
 cases l with
 |nil=>simp at hs
 |cons a l=>
  have fl:=fq f l a;have fr:=lC f l a hl;show[(f _:Int),(_:Int)]=_;generalize e:l.foldl (λb s=>if f s<f b then s else b) a=b at fl fr;obtain⟨hb,Rk⟩:=fl;obtain⟨j,hj,ej⟩:=agB hb;have U2:s∈a::l:=afa hs;have hj':((a::l).map λs=>[(f s:Int),(s:Int)])[j]? =some [(f b:Int),(b:Int)]:=by rw[afc,afu hj,ej];rfl
  have L5:((a::l).map λs=>[(f s:Int),(s:Int)])[i]? =some [(f s:Int),(s:Int)]:=by rw[afc,hs];rfl
  have Bz:=(h j hj _ _ L5 hj').1;rw[HT.bZ]at Bz;have h1:=Rk s U2;have h2:f s=f b:=by
   by_cases e1:f b=f s;·exact e1.symm
   ·rw[if_neg (by omega)]at Bz;have:=of_decide_eq_false Bz;omega
  have h3:=fr s U2 h2;have h4:b=s:=by
   rw[h2,if_pos RR,HT.bZ]at Bz;by_cases e1:b=s;·exact e1
   ·rw[if_neg (by omega)]at Bz;have:=of_decide_eq_false Bz;omega
  rw[h4]
def v7{f g:Nat->Int}{l:Ae}(k m:Nat)(a c:Am)(h1:(l.map λs=>[f s,g s])[k]? =some a)(h2:(l.map λs=>[f s,g s])[m]? =some c):a.length=c.length:=by grind
def DG(M:Sm):Am:=leastBy (λs=>(mem M s).length) (standing M)
def mF{K:Frag}(T:Txt K mg aD base):Bx P w T 7 "answer_fewest" (GJ aD DG):=by
 refine bt T.d.K1 eJ ?_;rintro bo H vs Q E hr ⟨a,v,M,l,rfl,hS,hv,q⟩;have hz:=dj hS.good;refine ag<|cI (i:=2) RR eJ.sc.nd RR RR (own:=[("group",3)]) (aB (by kernel_rfl)) (λ_ _ _ _ _=>cT 3 eJ.sc.nd)<|sv (α:=Nat) (rel:=GI λs=>[((mem M s).length:Int),(s:Int)]) aR<|
  aQ<|ao (bR T) hr<|af 0<|ab ⟨a,M,RR,hS,λp H1 sm hp e=>⟨p,RR,⟨_,Aj.of e⟩,standing M,_,az (Aj.of e),small (afS hz),?_,?_⟩⟩;·intro y hy D acc H' Cq hD s0 H0 C cl fp;refine bT<|aa<|aX RR T.c.AV<|ao (dg T) hr<|af 0<|aa<|af 3<|ab ⟨a,M,y,RR,hS.mono (sm.trans Cq),λp2 H2 s2 Mq e2=>⟨p2,_,RR,Aj.of e2,aa<|af 3<|ab ⟨cQ,λt ht=>⟨s2.aL (s2.free ht),t,RR,?_⟩⟩⟩⟩;rw[cW ae (afA (ak (s2 _ _ hD) ht)),aq];rfl
 ·intro D H' zs hD Cq VV rel;obtain⟨ps,Tu,hlen⟩:=qL (K:=K) VV rel;refine ah<|aj<|br bC RR T.c.DT afF<|aa<|qx (oz RR hr.units) RR T.c.IC agq<|aa<|af 2<|ab<|bT<|aa<|au T.c.DV RR<|ab ⟨bq,λt ht=>⟨D,ps,_,RR,⟨(Aa.ax ht).seq Tu.lst,Tu.len,λk p a e1 e2=>(Aa.ax ht).tup (Tu.tup k p a e1 e2)⟩,v7,λe0 H2 s2=>?_,λi p' H2 hi hb s2=>?_⟩⟩;·have es:standing M=[]:=afI.mp (by rw[<-hlen,e0];rfl);refine ab ⟨t,_,RR,.inr (Cd.of (s2 _ _ ae)),λr hr=>?_⟩;have sA:=(sm.trans Cq).trans ((Aa.ax ht).trans s2);unfold DG at q;rw[es]at q;exact q r _ (sA.aL (sA.free hr)) (sA.free hr) ae
  ·have Rp:i<(standing M).length:=by rw[<-hlen];exact(ae3.mp hi).1
   have hg:(standing M)[i]? =some (standing M)[i]:=by simp[Rp]
   have Gh:((standing M).map λs=>[((mem M s).length:Int),(s:Int)])[i]? =some [((mem M (standing M)[i]).length:Int),((standing M)[i]:Int)]:=by rw[afc,hg];rfl
   refine ab ⟨p',_,RR,.inr (s2.tup ((Aa.ax ht).tup (Tu.tup i p' _ hi Gh))),λr hr=>?_⟩;have sA:=(sm.trans Cq).trans ((Aa.ax ht).trans s2);unfold DG at q;rw[hlen]at hb;rw[nK (f:=λs=>(mem M s).length) (jc M) hb hg]at q;exact q r _ (sA.aL (sA.free hr)) (sA.free hr) ae
def CL(M:Sm):Am:=leastBy (AB M) (standing M)
def kP{K:Frag}(T:Txt K mg aD base):Bx P w T 7 "answer_smallest" (GJ aD CL):=by
 refine bt T.d.Je dv ?_;rintro bo H vs Q E hr ⟨a,v,M,l,rfl,hS,hv,q⟩;have hz:=dj hS.good;refine ag<|cI (i:=2) RR dv.sc.nd RR RR (own:=[("group",3)]) (aB (by kernel_rfl)) (λ_ _ _ _ _=>cT 3 dv.sc.nd)<|sv (α:=Nat) (rel:=GI λs=>[(AB M s:Int),(s:Int)]) aR<|
  aQ<|ao (bR T) hr<|af 0<|ab ⟨a,M,RR,hS,λp H1 sm hp e=>⟨p,RR,⟨_,Aj.of e⟩,standing M,_,az (Aj.of e),small (afS hz),?_,?_⟩⟩;·intro y hy D acc H' Cq hD s0 H0 C cl fp;refine bT<|aa<|ao (fw T) hr<|af 0<|aa<|af 3<|ab ⟨a,M,y,RR,hS.mono (sm.trans Cq),λH2 s2=>aa<|af 3<|ab ⟨cQ,λt ht=>⟨s2.aL (s2.free ht),t,RR,?_⟩⟩⟩;rw[cW ae (afA (ak (s2 _ _ hD) ht))];rfl
 ·intro D H' zs hD Cq VV rel;obtain⟨ps,Tu,hlen⟩:=qL (K:=K) VV rel;refine ah<|aj<|br bC RR T.c.DT afF<|aa<|qx (oz RR hr.units) RR T.c.IC agq<|aa<|af 2<|ab<|bT<|aa<|au T.c.DV RR<|ab ⟨bq,λt ht=>⟨D,ps,_,RR,⟨(Aa.ax ht).seq Tu.lst,Tu.len,λk p a e1 e2=>(Aa.ax ht).tup (Tu.tup k p a e1 e2)⟩,v7,λe0 H2 s2=>?_,λi p' H2 hi hb s2=>?_⟩⟩;·have es:standing M=[]:=afI.mp (by rw[<-hlen,e0];rfl);refine ab ⟨t,_,RR,.inr (Cd.of (s2 _ _ ae)),λr hr=>?_⟩;have sA:=(sm.trans Cq).trans ((Aa.ax ht).trans s2);unfold CL at q;rw[es]at q;exact q r _ (sA.aL (sA.free hr)) (sA.free hr) ae
  ·have Rp:i<(standing M).length:=by rw[<-hlen];exact(ae3.mp hi).1
   have hg:(standing M)[i]? =some (standing M)[i]:=by simp[Rp]
   have Gh:((standing M).map λs=>[(AB M s:Int),(s:Int)])[i]? =some [(AB M (standing M)[i]:Int),((standing M)[i]:Int)]:=by rw[afc,hg];rfl
   refine ab ⟨p',_,RR,.inr (s2.tup ((Aa.ax ht).tup (Tu.tup i p' _ hi Gh))),λr hr=>?_⟩;have sA:=(sm.trans Cq).trans ((Aa.ax ht).trans s2);unfold CL at q;rw[hlen]at hb;rw[nK (f:=AB M) (jc M) hb hg]at q;exact q r _ (sA.aL (sA.free hr)) (sA.free hr) ae
def Mh(M:Sm)(i:Nat):Am:=[(((standing M).filter λg=>g.testBit i).length:Int),((standing M).length:Int)]
def pP(T:Txt kK mg aD base):Bx P w T 7 "answer_part" (UG aD Mh):=by
 refine bt T.d.Nl dI ?_;rintro bo H vs Q E hr ⟨a,v,M,i,rfl,hS,hv,hi,q⟩;have hz:=dj hS.good;have hn:=hS.good.n5;refine ag<|aP 2 dI.sc.nd<|ao (bR T) hr<|af 0<|ab ⟨a,M,RR,hS,λp H1 s1 hp e=>?_⟩;refine ah<|aj<|ay<|aa<|aX RR T.c.AV<|dG (α:=Nat) (pr:=λg=>g.testBit i) (f:=λg=>.int (g:Nat)) RR dI.sc.nd (aB (by kernel_rfl)) (λ_ _ _ _ _=>cT 3 dI.sc.nd)<|
  aQ<|af 2 ⟨p,RR,⟨_,Aj.of e⟩,standing M,_,az (Aj.of e),small (afS hz),?_,?_,?_⟩;·intro y hy H' Cq s0 H0 C cl fp;exact bp<|aO<|ao (gQ T) hr<|af 3<|aa<|aH 1 0 ((s1.trans Cq) _ _ hv) RR<|ab ⟨y,i,RR,by omega,⟨_,RR,Aa.refl _,RR⟩⟩
 ·intro y hy _ H' Cq s0 H0 C cl fp;exact af 3 ⟨Aa.refl _,RR⟩
 ·intro D H' hD Cq e';refine⟨D,_,RR,Aj.of e',aa<|aX RR T.c.AV<|af 2 ⟨p,_,RR,Aj.of (Cq _ _ e),ab ⟨cQ,λr hr=>?_⟩⟩⟩;have sA:=s1.trans Cq;refine q r _ (sA.aL (sA.free hr)) (sA.free hr) ?_;rw[ae,ae1,aq];rfl
def AK(p:Party)(q:Nat):Nat:=if q=0 then p.x else p.y
def Bt(M:Sm)(pr:Party->Bool):Nat:=(((List.range M.nP).filter λi=>pr (pt M i)).map λi=>(pt M i).seats).sum
noncomputable def total(M:Sm):Nat:=((List.range M.nP).map λi=>(pt M i).seats).sum
def Be(M:Sm)(i q:Nat):Bool:=decide (2*Bt M (λo=>decide (AK o q<AK (pt M i) q))<=total M)&&decide (2*Bt M (λo=>decide (AK (pt M i) q<AK o q))<=total M)
def BV.items{pl ll hl ho:Addr}(S:BV aD H a dx pl ll hl ho ps M):Aj kK H pl ((List.range M.nP).map λi=>V.ref (ps.getD i 0)):=by
 have e:(List.range M.nP).map (λi=>V.ref (ps.getD i 0))=ps.map V.ref:=by
  rw[<-S.len];apply ahA;·simp
  ·intro i h1 h2;have:i<ps.length:=by simpa using h2
   simp[this]
 rw[e];exact Aj.of S.pl
def BV.party{pl ll hl ho:Addr}(S:BV aD H a dx pl ll hl ho ps M)(h:i∈List.range M.nP):BB aD H (ps.getD i 0) (pt M i):=by
 have hi:i<M.nP:=by simpa using h
 have L5:i<ps.length:=by rw[S.len];exact hi
 rw[qc hi];exact S.at_ i _ _ (by simp[L5]) (by simp)
def yT(h:q<=1):([V.int (p.x:Int),V.int (p.y:Int)]:List V)[q]? =some (.int (AK p q:Nat)):=by
 match q,h with
 |0,_=>rfl
 |1,_=>rfl
def dM{pos p2:Pos}(T:Txt X.K X.mg aD X.base)(h:Ev X e σ H λv H1=>∃b,v= .ref b/\BB aD H1 b q1/\Ev X e2 σ H1 λy H2=>∃q:Nat,y= .int q/\q<=1/\H2=H1/\Q (.int (AK q1 q:Nat)) H1)(hb:attributeBase e "wants" X.env (eval e X.env)=eval e X.env:=by rfl)(hi:F5 e2:=by intro _ _;rfl):Ev X (.Subscript (.Attribute e "wants" pos) e2 p2) σ H Q:=
 bg cR (tY T (h.mono λv H1 ⟨b,e,hp,k⟩=>⟨b,e,hp,λt ht=>k.mono λy H2 ⟨q,ey,hq,eH,fin⟩=>by subst eH;exact⟨t,_,q,_,RR,ey,Cd.of ht,aS (yT hq),fin⟩⟩) hb) hi
def NT(ad:Ad):Sp:=λvs H Q _=>CO λ(a:Addr) (M:Sm) (i q:Nat)=>B9 (vs=[.ref a,.int i,.int q]) (Ai ad H a M) (i<M.nP) (q<=1) (ET H (.bl (Be M i q)) Q)
def gg(M:Sm)(l:Ae):(l.map λi=>V.int ((pt M i).seats:Nat))=nums (l.map λi=>(pt M i).seats):=by unfold nums;rw[afr];rfl
def eC(h:Good M):(List.range M.nP).length<=sizeLine:=by rw[afi];exact small h.n5
def iH(T:Txt kK mg aD base):Bx P w T 1 "in_middle" (NT aD):=by
 refine bt T.d.PH bx ?_;rintro bo H vs Q E hr ⟨a,M,i,qn,rfl,hS,hi,hq,q⟩;obtain⟨dx,pl,ll,hl,ho,ps,S⟩:=hS.ex;refine ag<|bJ 3 bx.sc.nd RR (Or.inr RR)<|dM T<|fG 0 S T<|af 1 ⟨i,RR,hi,Aa.refl _,λb hb=>⟨b,RR,hb,af 2 ⟨qn,RR,hq,RR,?_⟩⟩⟩;refine ag<|aP 4 bx.sc.nd<|eM RR RR T.c.Fh<|dG (α:=Nat) (pr:=λj=>decide (AK (pt M j) qn<AK (pt M i) qn)) (f:=λj=>.int (pt M j).seats) RR bx.sc.nd (aB (by kernel_rfl)) (λ_ _ _ _ _=>cT 5 bx.sc.nd)<|
  aQ<|aE 0 S T T.m.Ac aI ⟨pl,RR,⟨_,S.items⟩,_,_,az S.items,eC hS.good,?_,?_,?_⟩;·intro y hy H' sm s0 H0 C cl fp;refine bp<|aV nv (aJ _)<|dM T<|af 5 ⟨_,RR,(S.mono sm).party hy,af 2 ⟨qn,RR,hq,RR,af 3 ⟨_,_,RR,RR,_,RR,Aa.refl _,?_⟩⟩⟩;congr 1;exact propext (by omega)
 ·intro y hy _ H' sm s0 H0 C cl fp;exact cG T<|af 5 ⟨_,RR,(S.mono sm).party hy,Aa.refl _,RR⟩
 ·intro D1 H1 hD1 s1 e1;refine⟨D1,_,RR,by rw[gg]at e1;exact Aj.of e1,?_⟩;have S1:=S.mono s1;refine ag<|aP 6 bx.sc.nd<|eM RR RR T.c.Fh<|dG (α:=Nat) (pr:=λj=>decide (AK (pt M i) qn<AK (pt M j) qn)) (f:=λj=>.int (pt M j).seats) RR bx.sc.nd (aB (by kernel_rfl)) (λ_ _ _ _ _=>cT 5 bx.sc.nd)<|
   aQ<|aE 0 S1 T T.m.Ac aI ⟨pl,RR,⟨_,S1.items⟩,_,_,az S1.items,eC hS.good,?_,?_,?_⟩;·intro y hy H' sm s0 H0 C cl fp;refine bp<|aV jf (aJ _)<|dM T<|af 5 ⟨_,RR,(S1.mono sm).party hy,af 2 ⟨qn,RR,hq,RR,af 3 ⟨_,_,RR,RR,_,RR,Aa.refl _,?_⟩⟩⟩;congr 1;exact propext (by omega)
  ·intro y hy _ H' sm s0 H0 C cl fp;exact cG T<|af 5 ⟨_,RR,(S1.mono sm).party hy,Aa.refl _,RR⟩
  ·intro D2 H2 VW s2 e2;refine⟨D2,_,RR,by rw[gg]at e2;exact Aj.of e2,?_⟩;have C1:=s1.trans s2;have S2:=S.mono C1;refine ag<|aP 7 bx.sc.nd<|eM RR RR T.c.Fh<|bL (α:=Nat) (f:=λj=>.int (pt M j).seats) RR bx.sc.nd (aB (by kernel_rfl)) (λ_ _ _ _ _=>cT 5 bx.sc.nd)<|
    aQ<|aE 0 S2 T T.m.Ac aI ⟨pl,RR,⟨_,S2.items⟩,_,_,az S2.items,eC hS.good,?_,?_⟩;·intro y hy H' sm s0 H0 C cl fp;exact cG T<|af 5 ⟨_,RR,(S2.mono sm).party hy,Aa.refl _,RR⟩
   ·intro D3 H3 Ua s3 e3;refine⟨D3,_,RR,by rw[gg]at e3;exact Aj.of e3,?_⟩;have QX:=C1.trans s3;refine ah<|aj<|kD<|bh gb (aJ _)<|a0 fQ<|aG<|af 4 ⟨_,_,RR,RR,.inl (by constructor<;>decide),af 7 ⟨_,_,RR,RR,_,RR,?_⟩⟩;have eA:decide (2*((Bt M (λo=>decide (AK o qn<AK (pt M i) qn)):Nat):Int)<=((total M:Nat):Int))=decide (2*Bt M (λo=>decide (AK o qn<AK (pt M i) qn))<=total M):=by congr 1;exact propext (by omega)
    have eB:decide (2*((Bt M (λo=>decide (AK (pt M i) qn<AK o qn)):Nat):Int)<=((total M:Nat):Int))=decide (2*Bt M (λo=>decide (AK (pt M i) qn<AK o qn))<=total M):=by congr 1;exact propext (by omega)
    unfold Be at q;show if decide (2*((Bt M (λo=>decide (AK o qn<AK (pt M i) qn)):Nat):Int)<=((total M:Nat):Int))=true then _ else _;rw[eA];refine ite_bool (λe=>?_) (λe=>?_);·rw[e,agt]at q;refine bh gb (aJ _)<|a0 fQ<|aG<|af 6 ⟨_,_,RR,RR,.inl (by constructor<;>decide),af 7 ⟨_,_,RR,RR,?_⟩⟩;show Q (.bl (decide (2*((Bt M (λo=>decide (AK (pt M i) qn<AK o qn)):Nat):Int)<=((total M:Nat):Int)))) H3;rw[eB];exact q H3 QX
    ·rw[e,agR]at q;exact q H3 QX
noncomputable def places(M:Sm)(g:Nat):Ae:=(mem M g).map λi=>(pt M i).x
def QI(ad:Ad):Sp:=λvs H Q _=>BL λ(a:Addr) (M:Sm) (g:Nat)=>Av (vs=[.ref a,.int g]) (Ai ad H a M) (C6 H (nums (places M g)) Q)
def ug(T:Txt kK mg aD base):Bx P w T 4 "places" (QI aD):=by
 refine bt T.d.places nS ?_;rintro bo H vs Q E hr ⟨a,M,g,rfl,hS,q⟩;have hn:=hS.good.n5;refine ah<|aj<|bL (α:=Nat) (f:=λi=>.int ((pt M i).x:Nat)) RR nS.sc.nd (aB (by kernel_rfl)) (λ_ _ _ _ _=>cT 2 nS.sc.nd)<|
  aQ<|ao (dg T) hr<|af 0<|aa<|af 1<|ab ⟨a,M,g,RR,hS,λp H1 sm hp e=>⟨p,RR,⟨_,Aj.of e⟩,_,_,az (Aj.of e),?_,?_,?_⟩⟩;·exact small (afe (fD M g) hn)
 ·intro y hy H' Cq s0 H0 C cl fp;obtain⟨dx,pl,ll,hl,ho,ps,S⟩:=(hS.mono (sm.trans Cq)).ex;exact dM T<|fG 0 S T<|af 2 ⟨y,RR,dn hy,Aa.refl _,λb hb=>⟨b,RR,hb,au T.c.FIRST RR ⟨0,RR,by decide,RR,Aa.refl _,RR⟩⟩⟩
 ·intro D H' hD Cq e';refine q D H' (sm.trans Cq) (sm.free hD) ?_;rw[e'];unfold places nums;rw[afr];rfl
def eU:∀(l:Ae)(a:Nat),a<=l.foldl max a/\(∀y∈l,y<=l.foldl max a)/\(l.foldl max a=a\/l.foldl max a∈l)
 |[],a=>by simp
 |x::l,a=>by
  obtain⟨h1,h2,h3⟩:=eU l (max a x);rw[afz];refine⟨by omega,λy hy=>?_,?_⟩
  ·rcases ae5.mp hy with rfl|hy;·omega
   ·exact h2 y hy
  grind
def eR:∀(l:Ae)(a:Nat),l.foldl min a<=a/\(∀y∈l,l.foldl min a<=y)/\(l.foldl min a=a\/l.foldl min a∈l)
 |[],a=>by simp
 |x::l,a=>by
  obtain⟨h1,h2,h3⟩:=eR l (min a x);rw[afz];refine⟨by omega,λy hy=>?_,?_⟩
  ·rcases ae5.mp hy with rfl|hy;·omega
   ·exact h2 y hy
  ·rcases h3 with e|e
   ·rw[e];rcases Nat.le_total a x with z|z;·left;exact ag6 z
    ·right;rw[Nat.min_eq_right z];exact aff ..
   ·right;exact ae6 _ e
def wg(hm:m∈l)(h:∀y∈l,y<=m):m=most l:=by
 cases l with
 |nil=>cases hm
 |cons a l=>obtain⟨h1,h2,h3⟩:=eU l a;show m=l.foldl max a;grind
def tE(hm:m∈l)(h:∀y∈l,m<=y):m=Ks465.least l:=by
 cases l with
 |nil=>cases hm
 |cons a l=>obtain⟨h1,h2,h3⟩:=eR l a;show m=l.foldl min a;grind
def dF(M:Sm):As M+1=2^M.nP:=by have:0<2^M.nP:=agp _;unfold As;omega
def cC(h1:1<=g)(h2:g<=As M):mem M g≠[]:=by
 obtain⟨i,hi⟩:=agW (show g≠0 by omega);have h3:=je hi;have h4:=dF M;have h5:i<M.nP:=by
  rcases ahU i M.nP with h|h;·exact h
  ·have:=agf (n:=2) (by decide) h;omega
 intro e;have:i∈mem M g:=afp.mpr ⟨by simpa using h5,hi⟩;grind
def qe(h1:1<=g)(h2:g<=As M):places M g≠[]:=λe=>cC h1 h2 (List.map_eq_nil_iff.mp e)
noncomputable def widthOf(M:Sm)(g:Nat):Nat:=most (places M g)-Ks465.least (places M g)
def pv(h:l≠[]):Ks465.least l<=most l:=by
 cases l with
 |nil=>exact absurd RR h
 |cons a l=>have h1:=(eU l a).1;have h2:=(eR l a).1;show l.foldl min a<=l.foldl max a;omega
noncomputable def rowAt(M:Sm)(g i:Nat):Bool:=!(decide (Ks465.least (places M g)<(pt M i).x)&&decide ((pt M i).x<most (places M g)))||g.testBit i
def C4(M:Sm)(g:Nat):Bool:=(List.range M.nP).all (rowAt M g)
def AJ(M:Sm):Ae:=(groups M).filter (wins M)
def BX(M:Sm)(x:Nat):Nat:=((List.range M.nP).map λi=>(pt M i).seats*(max x (pt M i).x-min x (pt M i).x)).sum
noncomputable def nearer(M:Sm)(x y:Nat):Nat:=Bt M λo=>decide (max x o.x-min x o.x<max y o.x-min y o.x)
def Sh(ad:Ad):Sp:=λvs H Q _=>BL λ(a:Addr) (M:Sm) (g:Nat)=>B9 (vs=[.ref a,.int g]) (Ai ad H a M) (1<=g) (g<=As M) (ET H (.int (widthOf M g:Nat)) Q)
def wQ(T:Txt kK mg aD base):Bx P w T 5 "width" (Sh aD):=by
 refine bt T.d.width wB ?_;rintro bo H vs Q E hr ⟨a,M,g,rfl,hS,h1,h2,q⟩;have ne:=qe h1 h2;refine ag<|aP 2 wB.sc.nd<|ao (ug T) hr<|af 0<|aa<|af 1<|ab ⟨a,M,g,RR,hS,λp H1 s1 hp e=>?_⟩;refine ah<|aj<|a0 fP<|om RR RR T.c.ID<|af 2 ⟨p,_,RR,.inl (Aj.of e),ne,λm hm hy=>oj RR RR T.c.IC<|af 2 ⟨p,_,RR,.inl (Aj.of e),ne,λn hn SV=>⟨_,_,RR,RR,?_⟩⟩⟩;rw[wg hm hy,tE hn SV];have:=pv ne;have e:((most (places M g):Nat):Int)-((Ks465.least (places M g)):Int)=((widthOf M g:Nat):Int):=by unfold widthOf;omega
 dsimp only;rw[e];exact q H1 s1
def Sw(ad:Ad):Sp:=λvs H Q _=>BL λ(a:Addr) (M:Sm) (g:Nat)=>B9 (vs=[.ref a,.int g]) (Ai ad H a M) (1<=g) (g<=As M) (ET H (.bl (C4 M g)) Q)
def uh(T:Txt kK mg aD base):Bx P w T 5 "is_row" (Sw aD):=by
 refine bt T.d.UU gn ?_;rintro bo H vs Q E hr ⟨a,M,g,rfl,hS,h1,h2,q⟩;have ne:=qe h1 h2;have hn:=hS.good.n5;refine ag<|aP 2 gn.sc.nd<|ao (ug T) hr<|af 0<|aa<|af 1<|ab ⟨a,M,g,RR,hS,λp H1 s1 hp e=>?_⟩;refine ag<|aP 3 gn.sc.nd<|oj RR RR T.c.IC<|af 2 ⟨p,_,RR,.inl (Aj.of e),ne,λn Z6 SV=>?_⟩;refine ag<|aP 4 gn.sc.nd<|om RR RR T.c.ID<|af 2 ⟨p,_,RR,.inl (Aj.of e),ne,λm hm hy=>?_⟩;obtain⟨dx,pl,ll,hl,ho,ps,S⟩:=(hS.mono s1).ex;have eqm:=wg hm hy;have eqn:=tE Z6 SV;subst eqm eqn;refine ag<|dH RR (nu RR (cA (cT 5 gn.sc.nd) (cA (cT 6 gn.sc.nd) j6)))<|wH RR T.c.IE<|aE 0 S T T.m.Ac aI ⟨pl,_,RR,Aj.of S.pl,
  gw (Hb:=H1) (lT (Aj.of S.pl)) (λi σ H'=>(Au λv5 v6=>Av (σ=[some (.ref a),some (.int g),some (.ref p),some (.int (Ks465.least (places M g):Nat)),some (.int (most (places M g):Nat)),v5,v6]) (Aa H1 H') (∀j,j<i->rowAt M g j=true)))
   ⟨_,_,RR,Aa.refl _,λj hj=>absurd hj (ag7 _)⟩ (λi σ H' ⟨_,_,_,s,_⟩=>s) ?_ ?_⟩
 ·rintro i y x σ H2 H3 G1 ⟨v5,v6,rfl,s2,Ek⟩ s3 ⟨t,z,rfl,hz,ht⟩;obtain⟨Bz,ey⟩:=ae3.mp G1;have KI:i<M.nP:=by rw[afi,ae1,S.len]at Bz;exact Bz
  have Xo:i=y:=by simpa using ey
  subst Xo;obtain⟨b,PV,Od⟩:=S.one KI;rw[hz]at PV;cases PV;rw[<-qc KI]at Od;refine⟨t,_,RR,.inl (.inl ht),RR,_,_,RR,_,_,RR,RR,?_⟩;have JA:=s2.trans s3;have next:rowAt M g i=true->∀j,j<i+1->rowAt M g j=true:=λh j hj=>by
   rcases ahU j i with z|z;·exact Ek j z
   ·have:j=i:=by omega
    rw[this];exact h
  refine ah<|aW<|kF<|ow nv nv<|af 3<|dM T<|af 6 ⟨b,RR,Od.mono JA,au T.c.FIRST RR ⟨0,RR,by decide,RR,_,_,RR,RR,_,RR,?_⟩⟩;have ex:AK (pt M i) 0=(pt M i).x:=rfl;rw[ex];by_cases c1:Ks465.least (places M g)<(pt M i).x
  ·rw[decide_eq_true (show((Ks465.least (places M g):Nat):Int)<((pt M i).x:Int) by omega),if_pos RR];refine af 4 ⟨_,_,RR,RR,_,RR,?_⟩;by_cases c2:(pt M i).x<most (places M g)
   ·rw[decide_eq_true (show((pt M i).x:Int)<((most (places M g):Nat):Int) by omega),if_pos RR];refine cH<|aO<|ao (gQ T) hr<|af 1<|aa<|af 5<|ab ⟨g,i,RR,by omega,_,RR,?_⟩;have er:rowAt M g i=g.testBit i:=by unfold rowAt;rw[decide_eq_true c1,decide_eq_true c2];rfl
    cases hb:g.testBit i with
    |true=>exact aA ⟨_,_,RR,JA,next (by rw[er];exact hb)⟩
    |false=>
     refine ah<|aj<|mj ?_;have e0:C4 M g=false:=by unfold C4;rw[List.all_eq_false];exact⟨i,by simpa using KI,by rw[er,hb];decide⟩
     rw[e0]at q;exact q H3 (s1.trans JA)
   ·rw[decide_eq_false (show¬((pt M i).x:Int)<((most (places M g):Nat):Int) by omega),if_neg ae0,if_neg ae0];exact aA ⟨_,_,RR,JA,next (by unfold rowAt;rw[decide_eq_false c2];simp)⟩
  ·rw[decide_eq_false (show¬((Ks465.least (places M g):Nat):Int)<((pt M i).x:Int) by omega),if_neg ae0];refine⟨_,RR,?_⟩;rw[if_neg ae0,if_neg ae0];exact aA ⟨_,_,RR,JA,next (by unfold rowAt;rw[decide_eq_false c1];simp)⟩
 ·rintro σ H2 ⟨v5,v6,rfl,s2,Ek⟩;refine ah<|aj<|mj ?_;have e0:C4 M g=true:=by unfold C4;rw[afj];intro j hj;refine Ek j ?_;rw[afi,ae1,S.len];simpa using hj
  rw[e0]at q;exact q H2 (s1.trans s2)
def O3(ad:Ad):Sp:=λvs H Q _=>Au λ(a:Addr) (M:Sm)=>Av (vs=[.ref a]) (Ai ad H a M) (C6 H (nums (AJ M)) Q)
def gz(T:Txt kK mg aD base):Bx P w T 6 "winning_groups" (O3 aD):=by
 refine bt T.d.Jq dD ?_;rintro bo H vs Q E hr ⟨a,M,rfl,hS,q⟩;refine ah<|aj<|dG (α:=Nat) (pr:=wins M) (f:=λg=>.int (g:Nat)) RR dD.sc.nd (aB (by kernel_rfl)) (λ_ _ _ _ _=>cT 1 dD.sc.nd)<|
  aQ<|ao (fX T) hr<|af 0<|ab ⟨a,M,RR,hS,λp H1 sm hp e=>⟨p,RR,⟨_,Aj.of e⟩,groups M,_,az (Aj.of e),?_,?_,?_,?_⟩⟩;·exact small (afS (c8 hS.good))
 ·intro y hy H' Cq s0 H0 C cl fp;exact bp<|aO<|ao (aaO T) hr<|af 0<|aa<|af 1<|ab ⟨a,M,y,RR,hS.mono (sm.trans Cq),λH2 s2=>⟨_,RR,s2,RR⟩⟩
 ·intro y hy _ H' Cq s0 H0 C cl fp;exact af 1 ⟨Aa.refl _,RR⟩
 ·intro D H' hD Cq e';exact q D H' (sm.trans Cq) (sm.free hD) e'
def mV(a b:Nat):(if((a:Int)-(b:Int))<0 then -((a:Int)-(b:Int))else((a:Int)-(b:Int)))=((max b a-min b a:Nat):Int):=by grind
def Sj(ad:Ad):Sp:=λvs H Q _=>BL λ(a:Addr) (M:Sm) (x:Nat)=>Av (vs=[.ref a,.int x]) (Ai ad H a M) (ET H (.int (BX M x:Nat)) Q)
def aaP(T:Txt kK mg aD base):Bx P w T 1 "way_to" (Sj aD):=by
 refine bt T.d.Us nR ?_;rintro bo H vs Q E hr ⟨a,M,x,rfl,hS,q⟩;obtain⟨dx,pl,ll,hl,ho,ps,S⟩:=hS.ex;refine ah<|aj<|eM RR RR T.c.Fh<|bL (α:=Nat) (f:=λi=>.int ((((pt M i).seats*(max x (pt M i).x-min x (pt M i).x):Nat)):Int)) RR nR.sc.nd (aB (by kernel_rfl)) (λ_ _ _ _ _=>cT 2 nR.sc.nd)<|
  aQ<|aE 0 S T T.m.Ac aI ⟨pl,RR,⟨_,S.items⟩,_,_,az S.items,eC hS.good,?_,?_⟩
 ·intro y hy H' sm s0 H0 C cl fp;have Py:=(S.mono sm).party hy;have G1:y<M.nP:=by simpa using hy
  have gp:=hS.good.ps (pt M y) (by rw[qc G1];exact agz G1);refine a0 fQ<|cG T<|af 2 ⟨_,RR,Py,bI kJ RR T.c.OQ agr<|aa<|a0 fP<|dM T<|af 2 ⟨_,RR,Py,au T.c.FIRST RR ⟨0,RR,by decide,RR,af 1 ⟨_,_,RR,RR,ab ⟨_,RR,_,_,RR,RR,.inl ⟨by have:=gp.s1;omega,by have:=gp.s2;omega⟩,Aa.refl _,?_⟩⟩⟩⟩⟩;have ex:AK (pt M y) 0=(pt M y).x:=rfl;rw[ex,mV];congr 1
 ·intro D H' hD Cq e';refine⟨D,(List.range M.nP).map λi=>(pt M i).seats*(max x (pt M i).x-min x (pt M i).x),RR,?_,q H' Cq⟩;have:nums ((List.range M.nP).map λi=>(pt M i).seats*(max x (pt M i).x-min x (pt M i).x))=(List.range M.nP).map λi=>V.int ((((pt M i).seats*(max x (pt M i).x-min x (pt M i).x):Nat)):Int):=by unfold nums;rw[afr];rfl
  rw[this];exact Aj.of e'
def ty_list(h:Aj kK H a xs):VF kK "list" (.ref a) H:=Or.inl ⟨RR,_,h⟩
def QK(ad:Ad):Sp:=λvs H Q _=>CO λ(a:Addr) (M:Sm) (x y:Nat)=>Av (vs=[.ref a,.int x,.int y]) (Ai ad H a M) (ET H (.int (nearer M x y:Nat)) Q)
def iF(T:Txt kK mg aD base):Bx P w T 1 "seats_nearer" (QK aD):=by
 refine bt T.d.LD cE ?_;rintro bo H vs Q E hr ⟨a,M,x,y,rfl,hS,q⟩;obtain⟨dx,pl,ll,hl,ho,ps,S⟩:=hS.ex;refine ag<|cI (i:=3) RR cE.sc.nd RR RR (own:=[("party",4)]) (aB (by kernel_rfl)) (λ_ _ _ _ _=>cT 4 cE.sc.nd)<|yZ (α:=Nat) (pr:=λi=>decide (max x (pt M i).x-min x (pt M i).x<max y (pt M i).x-min y (pt M i).x)) (f:=λi=>V.ref (ps.getD i 0))<|
  aQ<|aE 0 S T T.m.Ac aI ⟨pl,RR,⟨_,S.items⟩,_,_,az S.items,eC hS.good,?_,?_,?_⟩
 ·intro z hz H' sm s0 H0 C cl fp;have Py:=(S.mono sm).party hz;refine bp<|aV nv (aJ _)<|bI kJ RR T.c.OQ agr<|aa<|a0 fP<|dM T<|af 4 ⟨_,RR,Py,au T.c.FIRST RR ⟨0,RR,by decide,RR,af 1 ⟨_,_,RR,RR,ab ⟨_,RR,
   bI kJ RR T.c.OQ agr<|aa<|a0 fP<|dM T<|af 4 ⟨_,RR,Py,au T.c.FIRST RR ⟨0,RR,by decide,RR,af 2 ⟨_,_,RR,RR,ab ⟨_,RR,_,_,RR,RR,_,RR,Aa.refl _,?_⟩⟩⟩⟩⟩⟩⟩⟩;have ex:AK (pt M z) 0=(pt M z).x:=rfl;rw[ex,mV,mV];congr 1;exact propext (by omega)
 ·intro z hz _ H' sm s0 H0 C cl fp;exact af 4 ⟨Aa.refl _,RR⟩
 ·intro D1 H1 hD1 s1 e1;refine ah<|aj<|eM RR RR T.c.Fh<|bL (α:=Nat) (f:=λj=>.int (pt M j).seats) RR cE.sc.nd (aB (by kernel_rfl)) (λ_ _ _ _ _=>cT 4 cE.sc.nd)<|
   aQ<|af 3 ⟨D1,RR,⟨_,Aj.of e1⟩,_,_,az (Aj.of e1),afe (afh _ _) (eC hS.good),?_,?_⟩;·intro z hz H' sm s0 H0 C cl fp;exact cG T<|af 4 ⟨_,RR,(S.mono (s1.trans sm)).party (afp.mp hz).1,Aa.refl _,RR⟩
  ·intro D2 H2 VW s2 e2;refine⟨D2,_,RR,by rw[gg]at e2;exact Aj.of e2,?_⟩;exact q H2 (s1.trans s2)
def Ic(M:Sm):Am:=cnt ((List.range M.nP).filter λi=>Be M i 0)
def mD(T:Txt kK mg aD base):Bx P w T 3 "answer_middle" (GJ aD Ic):=by
 refine bt T.d.KZ eI ?_;rintro bo H vs Q E hr ⟨a,v,M,l,rfl,hS,hv,q⟩;unfold Ic at q;rw[bW]at q;obtain⟨dx,pl,ll,hl,ho,ps,S⟩:=hS.ex;have hn:=hS.good.n5;refine ah<|aj<|ao (bF T) hr<|dG (α:=Nat) (pr:=λi=>Be M i 0) (f:=λi=>.int (i:Nat)) RR eI.sc.nd (aB (by kernel_rfl)) (λ_ _ _ _ _=>cT 2 eI.sc.nd)<|
  cn RR T.c.Ck<|aa<|aX RR T.c.AV<|aE 0 S T T.m.Ac aI ⟨_,_,RR,Aj.of S.pl,ab ⟨M.nP,?_,by omega,_,_,bu,eC hS.good,?_,?_,?_⟩⟩;·rw[ae1,S.len]
 ·intro y hy H' sm s0 H0 C cl fp;have G1:y<M.nP:=by simpa using hy
  exact bp<|aO<|ao (iH T) hr<|af 0<|aa<|af 2<|aa<|au T.c.FIRST RR<|ab ⟨a,M,y,0,RR,hS.mono sm,G1,by decide,λH2 s2=>⟨_,RR,s2,RR⟩⟩
 ·intro y hy _ H' sm s0 H0 C cl fp;exact af 2 ⟨Aa.refl _,RR⟩
 ·intro D H' hD sm e;refine ab ⟨D,_,RR,e,?_,λr H2 s2 hr e2=>?_⟩;·rw[ae1];have:=afh (λi=>Be M i 0) (List.range M.nP);rw[afi]at this;omega
  ·rw[ae1]at e2;exact q r H2 (sm.trans s2) (sm.free hr) e2
def Ie(M:Sm)(g:Nat):Am:=[if C4 M g then 1 else 0,(widthOf M g:Nat),(AB M g:Nat)]
def mE(T:Txt kK mg aD base):Bx P w T 6 "answer_joined" (LC aD Ie):=by
 refine bt T.d.K0 gP ?_;rintro bo H vs Q E hr ⟨a,v,M,g,rfl,hS,hv,h1,h2,q⟩;refine ag<|aP 2 gP.sc.nd<|aH 1 0 hv RR<|ah<|aj<|ay<|aa<|ao (fK T) hr<|ao (uh T) hr<|af 0<|aa<|af 2<|ab ⟨a,M,g,RR,hS,h1,h2,λH1 s1=>ab ⟨_,RR,
  aa<|ao (wQ T) hr<|af 0<|aa<|af 2<|ab ⟨a,M,g,RR,hS.mono s1,h1,h2,λH2 s2=>
  aa<|ao (fw T) hr<|af 0<|aa<|af 2<|ab ⟨a,M,g,RR,hS.mono (s1.trans s2),λH3 s3=>ab ⟨sy,λr hr=>?_⟩⟩⟩⟩⟩;have sA:=(s1.trans s2).trans s3;exact q r _ (sA.aL (sA.free hr)) (sA.free hr) ae
def lU(h:Good M):(AJ M).length<32:=afl (afh _ _) (c8 h)
def fC(h:g∈AJ M):1<=g/\g<=As M:=cD (afp.mp h).1
def En(M:Sm):Am:=cnt (Dz M ((AJ M).filter (C4 M)))
def jb(T:Txt kK mg aD base):Bx P w T 7 "answer_neighbours" (GJ aD En):=by
 refine bt T.d.Hu cS ?_;rintro bo H vs Q E hr ⟨a,v,M,l,rfl,hS,hv,q⟩;unfold En at q;rw[bW]at q;have hz:=lU hS.good;refine ag<|cI (i:=2) RR cS.sc.nd RR RR (own:=[("group",3)]) (aB (by kernel_rfl)) (λ_ _ _ _ _=>cT 3 cS.sc.nd)<|yZ (α:=Nat) (pr:=C4 M) (f:=λg=>.int (g:Nat))<|
  aQ<|ao (gz T) hr<|af 0<|ab ⟨a,M,RR,hS,λp H1 s1 hp e=>⟨p,RR,⟨_,Aj.of e⟩,AJ M,_,az (Aj.of e),small (afS hz),?_,?_,?_⟩⟩;·intro y hy H' sm s0 H0 C cl fp;exact bp<|aO<|ao (uh T) hr<|af 0<|aa<|af 3<|ab ⟨a,M,y,RR,hS.mono (s1.trans sm),(fC hy).1,(fC hy).2,λH2 s2=>⟨_,RR,s2,RR⟩⟩
 ·intro y hy _ H' sm s0 H0 C cl fp;exact af 3 ⟨Aa.refl _,RR⟩
 ·intro D H2 hD s2 e2;have C1:=s1.trans s2;have Qm:((AJ M).filter (C4 M)).length<=(AJ M).length:=afh _ _;refine ah<|aj<|ao (bF T) hr<|ao (iG T) hr<|af 0<|aa<|af 2<|ab ⟨a,D,M,_,RR,hS.mono C1,e2,by omega,λp2 H3 s3 Mq e3=>ab ⟨p2,_,RR,e3,?_,λr H4 s4 hr e4=>?_⟩⟩;·rw[aq];have:(Dz M ((AJ M).filter (C4 M))).length<=_:=afh _ _;omega
  ·rw[aq]at e4;have QX:=C1.trans s3;exact q r H4 (QX.trans s4) (QX.free hr) e4
def EM(M:Sm)(x y:Nat):Am:=if x<=30/\y<=30 then zs [nearer M x y,nearer M y x]else[-22]
def mC(T:Txt kK mg aD base):Bx P w T 2 "answer_motion" (Wr aD EM):=by
 refine bt T.d.KY mw ?_;rintro bo H vs Q E hr ⟨a,v,M,x,y,rfl,hS,hv,q⟩;refine ag<|aW<|cH<|aO<|ao (fV T) hr<|af 1<|ab ⟨v,[x,y],RR,.inl (Aj.of hv),by simp,_,RR,?_⟩;unfold EM at q;have e0:([x,y].all λv=>decide (v<=30))=decide (x<=30/\y<=30):=by by_cases h1:x<=30<;>by_cases h2:y<=30<;>simp[h1,h2]
 rw[e0];by_cases hb:x<=30/\y<=30
 ·rw[if_pos hb]at q;rw[decide_eq_true hb];refine aA<|ah<|aj<|ay<|aa<|ao (iF T) hr<|af 0<|aa<|aH 1 0 hv RR<|aa<|aH 1 1 hv RR<|ab ⟨a,M,x,y,RR,hS,λH1 s1=>
   aa<|ao (iF T) hr<|af 0<|aa<|aH 1 1 (s1 _ _ hv) RR<|aa<|aH 1 0 (s1 _ _ hv) RR<|ab ⟨a,M,y,x,RR,hS.mono s1,λH2 s2=>ab ⟨cQ,λr hr=>?_⟩⟩⟩;have sA:=s1.trans s2;exact q r _ (sA.aL (sA.free hr)) (sA.free hr) ae
 ·rw[if_neg hb]at q;rw[decide_eq_false hb];refine ah<|aj<|ay<|aa<|au T.c.Dv RR<|ab ⟨bq,λr hr=>?_⟩;exact q r _ (Aa.ax hr) hr ae
def PY(M:Sm):Nat:=(List.range' 1 100).foldl (λb x=>if BX M x<BX M b then x else b) 0
def F0(M:Sm):Am:=zs [PY M,BX M (PY M)]
def j0:List.range 101=0::List.range' 1 100:=by decide
def mG(T:Txt kK mg aD base):Bx P w T 2 "answer_centre" (GJ aD F0):=by
 refine bt T.d.K2 eK ?_;rintro bo H vs Q E hr ⟨a,v,M,l,rfl,hS,hv,q⟩;unfold F0 at q;rw[gB]at q;refine ag<|cI (i:=2) RR eK.sc.nd RR RR (own:=[("place",3)]) (aB (by kernel_rfl)) (λ_ _ _ _ _=>cT 3 eK.sc.nd)<|acm (α:=Nat) (f:=λx=>.int (BX M x:Nat))<|
  cn RR T.c.Ck<|aa<|a0 k6<|au T.c.Ot RR<|aG ⟨_,_,RR,RR,ab ⟨101,RR,by decide,_,_,bu,?_,?_,?_⟩⟩;·rw[afi];exact small (show 101<=101 by decide)
 ·intro y hy H' sm s0 H0 C cl fp;exact ao (aaP T) hr<|af 0<|aa<|af 3<|ab ⟨a,M,y,RR,hS.mono sm,λH2 s2=>⟨s2,RR⟩⟩
 ·intro D H1 hD s1 e1;have en:(List.range 101).map (λx=>V.int (BX M x:Nat))=nums ((List.range 101).map (BX M)):=by unfold nums;rw[afr];rfl
  rw[en]at e1;have nem:(List.range 101).map (BX M)≠[]:=by rw[j0];simp
  refine ah<|aj<|ay<|aa<|ot plainAttrs_list slot_list_index ahu sW<|af 2 ⟨ty_list (Aj.of e1),aa<|oj RR RR T.c.IC<|af 2 ⟨D,_,RR,.inl (Aj.of e1),nem,λm hm hy=>ab ?_⟩⟩;have Rk:∀y,y<101->m<=BX M y:=λy G1=>hy _ (afw.mpr ⟨y,by simpa using G1,RR⟩);obtain⟨x0,hx0,ex0⟩:=afw.mp hm;have AaL:x0<101:=by simpa using hx0
  have hc:=fq (BX M) (List.range' 1 100) 0;have I0:=lC (BX M) (List.range' 1 100) 0 (by rw[<-j0];exact agM);rw[<-j0]at hc I0;have M9:PY M<101:=afD.mp hc.1;have Jb:BX M (PY M)=m:=by have h1:BX M (PY M)<=BX M x0:=hc.2 x0 hx0;have h2:=Rk _ M9;omega
  have gO:(nums ((List.range 101).map (BX M)))[PY M]? =some (.int (BX M (PY M):Nat)):=aU (by rw[afc,afH M9];rfl);refine⟨D,_,_,PY M,_,RR,RR,Aj.of e1,RR,eY _,gO,?_,?_,?_⟩;·show((BX M (PY M):Int)==(m:Int))=true;rw[Jb];exact beq_self_eq_true _
  ·intro i' u L5 hu;have Rp:i'<101:=by omega
   have Aaf:(nums ((List.range 101).map (BX M)))[i']? =some (.int (BX M i':Nat)):=aU (by rw[afc,afH Rp];rfl);rw[Aaf]at hu;cases hu;show((BX M i':Int)==(m:Int))=false;refine beq_false_of_ne λz=>?_;have h3:PY M<=i':=I0 i' (by simpa using Rp) (show BX M i'=BX M (PY M) by omega);omega
  ·refine aa<|oj RR RR T.c.IC<|af 2 ⟨D,_,RR,.inl (Aj.of e1),nem,λm2 NK SV=>ab ⟨cQ,λr hr=>?_⟩⟩;have h5:m2=m:=by have:=SV _ hm;have:=hy _ NK;omega
   rw[h5,<-Jb];exact q r _ (s1.aL (s1.free hr)) (s1.free hr) ae
def bU(h:Good M)(hi:i<M.nP):FW M.offices (pt M i):=by rw[qc hi];exact h.ps _ (agz hi)
def uB{l:Ae}(h:∀x∈l,x<=b):l.sum<=l.length*b:=by
 induction l with
 |nil=>simp
 |cons a l ih=>have h1:=h a (aff ..);have h2:=ih λx hx=>h x (ae6 _ hx);rw[agH,afG,Nat.add_mul];omega
def jV(h:Good M)(g:Nat):AB M g<=1000:=by
 have h1:AB M g<=((mem M g).map λi=>(pt M i).seats).length*200:=uB λx hx=>by obtain⟨i,hi,rfl⟩:=afw.mp hx;exact(bU h (dn hi)).s2
 rw[ae1]at h1;have:=fD M g;have:=h.n5;omega
def Bn(M:Sm)(s:Nat):Nat:=widthOf M s*2000+AB M s
def CM(M:Sm):Am:=match AJ M with
 |[]=>[-33]
 |a::l=>let b:=l.foldl (λb s=>if Bn M s<Bn M b then s else b) a
  [(widthOf M b:Int),(b:Int),(AB M b:Int)]
def abd{f g h:Nat->Int}{l:Ae}(k m:Nat)(a c:Am)(h1:(l.map λs=>[f s,g s,h s])[k]? =some a)(h2:(l.map λs=>[f s,g s,h s])[m]? =some c):a.length=c.length:=by
 rw[afc]at h1 h2;cases e1:l[k]? with
 |none=>rw[e1]at h1;cases h1
 |some x=>cases e2:l[m]? with
  |none=>rw[e2]at h2;cases h2
  |some y=>rw[e1]at h1;rw[e2]at h2;cases h1;cases h2;rfl
def qH(M:Sm):(AJ M).Pairwise (·<·):=(ip M).filter _
def aeR(h:HT.lexLt [a,b,c] [x,y,z]=false):x<a\/(a=x/\(y<b\/(b=y/\z<=c))):=by
 rw[HT.bZ]at h;by_cases e:a=x
 ·rw[if_pos e,HT.bZ]at h;by_cases e2:b=y;·rw[if_pos e2,HT.bZ]at h;grind
  ·rw[if_neg e2]at h;have:=of_decide_eq_false h;omega
 ·rw[if_neg e]at h;have:=of_decide_eq_false h;omega
def rp(hG:Good M)(h:DE ((AJ M).map λs=>[(widthOf M s:Int),(AB M s:Int),(s:Int)]) i (AJ M).length)(hs:(AJ M)[i]? =some s):CM M=[(widthOf M s:Int),(s:Int),(AB M s:Int)]:=by
 have hr:=qH M;unfold CM;generalize AJ M=l at h hs hr;cases l with
 |nil=>simp at hs
 |cons a l=>
  have fl:=fq (Bn M) l a;have fr:=lC (Bn M) l a hr;show[(widthOf M _:Int),(_:Int),(AB M _:Int)]=_;generalize l.foldl (λb s=>if Bn M s<Bn M b then s else b) a=b at fl fr;obtain⟨hb,Rk⟩:=fl;obtain⟨j,hj,ej⟩:=agB hb;have U2:s∈a::l:=afa hs;have hj':((a::l).map λs=>[(widthOf M s:Int),(AB M s:Int),(s:Int)])[j]? =some [(widthOf M b:Int),(AB M b:Int),(b:Int)]:=by rw[afc,afu hj,ej];rfl
  have L5:((a::l).map λs=>[(widthOf M s:Int),(AB M s:Int),(s:Int)])[i]? =some [(widthOf M s:Int),(AB M s:Int),(s:Int)]:=by rw[afc,hs];rfl
  have Bz:=aeR (h j hj _ _ L5 hj').1;have h1:Bn M b<=Bn M s:=Rk s U2;have h2:=fr s U2;have b1:=jV hG b;have b2:=jV hG s;unfold Bn at h1 h2;have e:b=s:=by
   rcases Bz with z|⟨z1,z|⟨z2,z3⟩⟩;·omega
   ·omega
   ·have:=h2 (by omega);omega
  rw[e]
def jM{K:Frag}(T:Txt K mg aD base):Bx P w T 7 "answer_narrowest" (GJ aD CM):=by
 refine bt T.d.HY b8 ?_;rintro bo H vs Q E hr ⟨a,v,M,l,rfl,hS,hv,q⟩;have hz:=lU hS.good;refine ag<|cI (i:=2) RR b8.sc.nd RR RR (own:=[("group",3)]) (aB (by kernel_rfl)) (λ_ _ _ _ _=>cT 3 b8.sc.nd)<|sv (α:=Nat) (rel:=GI λs=>[(widthOf M s:Int),(AB M s:Int),(s:Int)]) aR<|
  aQ<|ao (gz T) hr<|af 0<|ab ⟨a,M,RR,hS,λp H1 sm hp e=>⟨p,RR,⟨_,Aj.of e⟩,AJ M,_,az (Aj.of e),small (afS hz),?_,?_⟩⟩;·intro y hy D acc H' Cq hD s0 H0 C cl fp;refine bT<|aa<|ao (wQ T) hr<|af 0<|aa<|af 3<|ab ⟨a,M,y,RR,hS.mono (sm.trans Cq),(fC hy).1,(fC hy).2,λH2 s2=>aa<|ao (fw T) hr<|af 0<|aa<|af 3<|ab ⟨a,M,y,RR,hS.mono ((sm.trans Cq).trans s2),λH3 s3=>aa<|af 3<|ab ⟨sy,λt ht=>⟨(s2.trans s3).aL ((s2.trans s3).free ht),t,RR,?_⟩⟩⟩⟩;rw[cW ae (afA (ak ((s2.trans s3) _ _ hD) ht))];rfl
 ·intro D H' zs hD Cq VV rel;obtain⟨ps,Tu,hlen⟩:=qL (K:=K) VV rel;have hlz:zs.length=(AJ M).length:=rel.1;have sA:=sm.trans Cq;refine ag<|aW<|aV bO (aJ _)<|aX RR T.c.AV<|af 2 ⟨D,_,RR,Aj.of VV,aG ⟨RR,_,RR,?_⟩⟩;by_cases h0:zs.length=0;·rw[decide_eq_true (by rw[h0];rfl),if_pos RR];refine ah<|aj<|ay<|aa<|au T.c.DV RR<|ab ⟨bq,λr hr=>?_⟩;have e0:AJ M=[]:=afI.mp (by omega);unfold CM at q;rw[e0]at q;exact q r _ (sA.aL (sA.free hr)) (sA.free hr) ae
  ·rw[decide_eq_false (λz=>h0 (by injection z with z;omega)),if_neg ae0];refine aA<|ag<|aP 4 b8.sc.nd<|bI (vt RR hr.units) RR T.c.IC agq<|aa<|af 2<|ab ⟨D,ps,_,RR,Tu,abd,by omega,λi p' H2 hi hb s2=>?_⟩;have Rp:i<(AJ M).length:=by rw[<-hlen];exact(ae3.mp hi).1
   have hg:(AJ M)[i]? =some (AJ M)[i]:=by simp[Rp]
   have Gh:((AJ M).map λs=>[(widthOf M s:Int),(AB M s:Int),(s:Int)])[i]? =some [(widthOf M (AJ M)[i]:Int),(AB M (AJ M)[i]:Int),((AJ M)[i]:Int)]:=by rw[afc,hg];rfl
   have ht:=s2.tup (Tu.tup i p' _ hi Gh);rw[hlen]at hb;rw[rp hS.good hb hg]at q;refine ah<|aj<|ay<|aa<|bg cR<|af 4<|aG ⟨p',_,_,_,RR,RR,ht,aS (j:=0) RR,aa<|bg cR<|af 4<|aG ⟨p',_,_,_,RR,RR,ht,aS (j:=2) RR,aa<|bg cR<|af 4<|aG ⟨p',_,_,_,RR,RR,ht,aS (j:=1) RR,ab ⟨sy,λr hr=>?_⟩⟩⟩⟩;have sB:=sA.trans s2;exact q r _ (sB.aL (sB.free hr)) (sB.free hr) ae
def abY{pt:Pos}(hc:X.calm=true)(hN:X.N.Nodup)(ok:ER X.N X.env.scope scope [(x,j1),(y,j2)])
  (hg:∀(s:Shared)(H:Hp)(C:Addr)(cl:List (Str×Addr))(fp:Ax),PG (KQ X scope s H C cl fp) (.Tuple [.Name x px,.Name y py] kk pt) (Vk X.K 2 (Lo (Du j1) (Lo (Du j2) Vm))))
  (hw:∀a b:V,wipe (((wipe σ [j1,j2]).set j1 (some a)).set j2 (some b)) [j1,j2]=wipe σ [j1,j2])
  (h:Ei X (.Tuple [.Name x px,.Name y py] kk pt) iter σ H λJ H1=>(BL λ(xs:List α) (v1 v2:α->V)=>B9 (BA J H1 xs (λy v H'=>∃T,v= .ref T/\H' T=some (.tup [v1 y,v2 y]))) (xs.length<=sizeLine) ((∀y∈xs,∀H',Aa H1 H'->KR X scope ifs (((wipe σ [j1,j2]).set j1 (some (v1 y))).set j2 (some (v2 y))) H' λb H3=>Aa H' H3/\b=pr y)) ((∀y∈xs,pr y=true->∀H',Aa H1 H'->OR X scope elt (((wipe σ [j1,j2]).set j1 (some (v1 y))).set j2 (some (v2 y))) H' λz H4=>Aa H' H4/\z=f y)) (∀D H',H1 D=none->Aa H1 H'->H' D=some (.lst ((xs.filter pr).map f))->Q (.ref D) H')))(hs:∀x,foldedSetIterable iter X.env x=pure x:=by intro _;rfl):Ev X (.ListComp elt [⟨.Tuple [.Name x px,.Name y py] kk pt,iter,ifs,0⟩] scope pos) σ H Q:=by refine t5 hc hN ok hg ?_ hs;refine Ei.mono h λJ H1 ⟨xs,v1,v2,Y,hz,ht,he,hq⟩=>?_;intro D hD;refine mQ (f:=f) Y hD hz ?_ (λx σ H Q Q' k ⟨a,ys,e1,e2,e3,v,r,e4,v',r',e5,e6,q⟩=>⟨a,ys,e1,e2,e3,v,r,e4,v',r',e5,e6,k _ _ q⟩) (λσ H Q Q' k q s0 H0 C cl fp=>(q s0 H0 C cl fp).mono k) (λσ H Q Q' k q s0 H0 C cl fp=>(q s0 H0 C cl fp).mono k) λH' s' q=>hq D H' hD s' q;rintro y hy v H' sm ⟨T,rfl,hT⟩;refine⟨T,_,RR,Cd.of hT,RR,_,_,RR,_,_,RR,RR,hw _ _,λs0 H0 C cl fp=>(ht y hy H' sm s0 H0 C cl fp).mono ?_⟩;rintro b H3 ⟨s3,rfl⟩;exact⟨s3,RR,λhb s0 H0 C cl fp=>(he y hy hb H3 (sm.trans s3) s0 H0 C cl fp)⟩
def C5(M:Sm)(had:Nat->Nat)(one other:Nat):Bool:=decide ((pt M other).seats*(had one+1)<(pt M one).seats*(had other+1))
def Dg(M:Sm)(had:Nat->Nat)(l:Ae):Nat:=l.foldl (λb i=>if C5 M had i b then i else b) (l.headD 0)
def AE(M:Sm)(g:Nat):Nat->Ae
 |0=>[]
 |k+1=>AE M g k++[Dg M (λi=>(AE M g k).count i) (mem M g)]
noncomputable def order(M:Sm)(g:Nat):Ae:=AE M g M.offices
def mY(h:l≠[]):Dg M had l∈l:=by
 have:∀(r:Ae)(b:Nat),b∈l->(∀x∈r,x∈l)->r.foldl (λb i=>if C5 M had i b then i else b) b∈l:=by
  intro r;induction r with
  |nil=>intro b hb _;exact hb
  |cons x r ih=>intro b hb hr;rw[afz];exact ih _ (by split;exact hr x (aff ..);exact hb) λy hy=>hr y (ae6 _ hy)
 refine this l _ ?_ λx hx=>hx;cases l with
 |nil=>exact absurd RR h
 |cons a l=>exact aff ..
def dN(M:Sm)(g:Nat):∀k,(AE M g k).length=k
 |0=>rfl
 |k+1=>by show(AE M g k++[_]).length=_;rw[afg,dN M g k];rfl
def g8(h:mem M g≠[]):∀k,∀x∈AE M g k,x∈mem M g
 |0,x,hx=>by cases hx
 |k+1,x,hx=>by
  rcases afE.mp hx with hx|hx;·exact g8 h k x hx
  ·rw[afm.mp hx];exact mY h
def bM(M:Sm)(g:Nat):(order M g).length=M.offices:=dN M g _
def f_(h:mem M g≠[]):∀x∈order M g,x<M.nP:=λx hx=>dn (g8 h _ x hx)
def Bu(M:Sm)(ord tk:Ae)(i:Nat):Nat:=(((ord.zip tk).filter λx=>x.1==i).map λx=>(pt M i).worth.getD x.2 0).sum
def EJ(n:Nat)(l:Ae):Ae:=(List.range n).map λi=>l.count i
def i4(h:i<n):(EJ n l)[i]? =some (l.count i):=by unfold EJ;rw[afc,afH h];rfl
def aaG(h:i<n):(nums (EJ n l)).set i (.int ((l.count i:Int)+1))=nums (EJ n (l++[i])):=by
 apply aht;intro k;rw[List.getElem?_set];by_cases hk:k<n
 ·rw[aU (i4 hk),aU (i4 hk)];by_cases e:i=k;·subst e;rw[if_pos RR,if_pos (by rw[aq];unfold EJ;simpa using h),List.count_append];simp
  ·simp[e]
 ·have h1:(nums (EJ n l)).length=n:=by rw[aq];unfold EJ;simp
  have h2:(nums (EJ n (l++[i]))).length=n:=by rw[aq];unfold EJ;simp
  rw[if_neg (by omega),afO (by omega),afO (by omega)]
def QC(ad:Ad):Sp:=λvs H Q _=>Kd λ(a h:Addr) (M:Sm) (l:Ae) (i j:Nat)=>Dn (vs=[.ref a,.ref h,.int i,.int j]) (Ai ad H a M) (H h=some (.lst (nums (EJ M.nP l)))) (i<M.nP) (j<M.nP) (Q (.bl (C5 M (λi=>l.count i) i j)) H)
def aaQ(T:Txt kK mg aD base):Bx P w T 1 "sooner" (QC aD):=by
 refine bt T.d.C5 aaf ?_;rintro bo H vs Q E hr ⟨a,h,M,l,i,j,rfl,hS,hh,hi,hj,q⟩;obtain⟨dx,pl,ll,hl,ho,ps,S⟩:=hS.ex;have gi:=bU hS.good hi;have gj:=bU hS.good hj;refine ah<|aj<|bh jf (aJ _)<|a0 fQ<|cG T<|fG 0 S T<|af 2 ⟨i,RR,hi,Aa.refl _,λb hb=>⟨b,RR,hb,a0 k6<|bg bj<|af 1<|af 3 ⟨h,_,_,_,RR,RR,Aj.of hh,aS (aU (i4 hj)),aG ⟨_,_,RR,RR,_,_,RR,RR,.inl ⟨by have:=gi.s1;omega,by have:=gi.s2;omega⟩,
  a0 fQ<|cG T<|fG 0 S T<|af 3 ⟨j,RR,hj,Aa.refl _,λb hb=>⟨b,RR,hb,a0 k6<|bg bj<|af 1<|af 2 ⟨h,_,_,_,RR,RR,Aj.of hh,aS (aU (i4 hi)),aG ⟨_,_,RR,RR,_,_,RR,RR,.inl ⟨by have:=gj.s1;omega,by have:=gj.s2;omega⟩,_,_,RR,RR,?_⟩⟩⟩⟩⟩⟩⟩⟩;have e:decide (((pt M j).seats:Int)*((l.count i:Int)+1)<((pt M i).seats:Int)*((l.count j:Int)+1))=C5 M (λi=>l.count i) i j:=by
  congr 1;apply propext;have e1:((pt M j).seats:Int)*((l.count i:Int)+1)=(((pt M j).seats*(l.count i+1):Nat):Int):=by push_cast;rfl
  have e2:((pt M i).seats:Int)*((l.count j:Int)+1)=(((pt M i).seats*(l.count j+1):Nat):Int):=by push_cast;rfl
  rw[e1,e2];exact ahe
 dsimp only;rw[e];exact q
def Si(ad:Ad):Sp:=λvs H Q _=>Kd λ(a p h:Addr) (M:Sm) (ms l:Ae)=>Oy (vs=[.ref a,.ref p,.ref h]) (Ai ad H a M) (H p=some (.lst (nums ms))) (ms≠[]) (∀x∈ms,x<M.nP) (H h=some (.lst (nums (EJ M.nP l)))) (ET H (.int (Dg M (λi=>l.count i) ms:Nat)) Q)
def r9(T:Txt kK mg aD base):Bx P w T 2 "whose_turn" (Si aD):=by
 refine bt T.d.NO eQ ?_;rintro bo H vs Q E hr ⟨a,p,h,M,ms,l,rfl,hS,hp,AW,hms,hh,q⟩;have h0:ms[0]? =some (ms.headD 0):=by cases ms with|nil=>exact absurd RR AW|cons x r=>rfl
 refine ag<|aP 3 eQ.sc.nd<|aH 1 0 hp (aU h0) ?_;refine ag<|dH RR (cT 4 eQ.sc.nd)<|aQ<|af 1 ⟨p,RR,⟨_,Aj.of hp⟩,
  gw (Hb:=H) (xs:=ms) (az (Aj.of hp)) (λi σ H'=>(∃v4,Av (σ=[some (.ref a),some (.ref p),some (.ref h),some (.int ((ms.take i).foldl (λb i=>if C5 M (λi=>l.count i) i b then i else b) (ms.headD 0):Nat)),v4]) (Aa H H') ((ms.take i).foldl (λb i=>if C5 M (λi=>l.count i) i b then i else b) (ms.headD 0)<M.nP)))
   ⟨_,RR,Aa.refl _,hms _ (afa h0)⟩ (λi σ H' ⟨_,_,e,_⟩=>e) ?_ ?_⟩
 ·rintro i y x σ H1 H2 hy ⟨v4,rfl,s1,hb⟩ s2 rfl;have G1:=hms y (afa hy);have C1:=s1.trans s2;refine ah<|aW<|aO<|ao (aaQ T) hr<|af 0<|aa<|af 2<|aa<|af 4<|aa<|af 3<|ab ⟨a,h,M,l,y,_,RR,hS.mono C1,C1 _ _ hh,G1,hb,_,RR,?_⟩;rw[a_ hy,List.foldl_append];refine ite_bool (λe=>?_) (λe=>?_)
  ·refine ah<|aP 3 eQ.sc.nd<|af 4 ⟨some (.int y),?_,C1,?_⟩;·rw[afz,ahl,if_pos e];rfl
   ·rw[afz,ahl,if_pos e];exact G1
  ·refine aA ⟨some (.int y),?_,C1,?_⟩;·rw[afz,ahl,if_neg (by rw[e];exact ae0)];rfl
   ·rw[afz,ahl,if_neg (by rw[e];exact ae0)];exact hb
 ·rintro σ H1 ⟨v4,rfl,s1,hb⟩;refine ah<|aj<|af 3 ?_;rw[afX];exact q H1 s1
def Su(ad:Ad):Sp:=λvs H Q _=>BL λ(a:Addr) (M:Sm) (g:Nat)=>B9 (vs=[.ref a,.int g]) (Ai ad H a M) (1<=g) (g<=As M) (C6 H (nums (order M g)) Q)
def b_(T:Txt kK mg aD base):Bx P w T 4 "turn_order" (Su aD):=by
 refine bt T.d.NP cM ?_;rintro bo H vs Q E hr ⟨a,M,g,rfl,hS,h1,h2,q⟩;have AW:=cC h1 h2;have NK:=hS.good.m2;refine ag<|aP 2 cM.sc.nd<|ao (dg T) hr<|af 0<|aa<|af 1<|ab ⟨a,M,g,RR,hS,λp H1 s1 hp ep=>?_⟩;obtain⟨dx,pl,ll,hl,ho,ps,S⟩:=(hS.mono s1).ex;refine ag<|cI (i:=3) RR cM.sc.nd RR RR (own:=[("party",4)]) (aB (by kernel_rfl)) (λ_ _ _ _ _=>cT 4 cM.sc.nd)<|acm (α:=Nat) (f:=λ_=>.int 0)<|
  aQ<|aE 0 S T T.m.Ac aI ⟨pl,RR,⟨_,S.items⟩,_,_,az S.items,eC hS.good,λy hy H' sm s0 H0 C cl fp=>aG ⟨Aa.refl _,RR⟩,λh H2 hh s2 eh=>?_⟩;have C1:=s1.trans s2;have eh0:H2 h=some (.lst (nums (EJ M.nP (AE M g 0)))):=by rw[eh];unfold EJ nums AE;rw[afr];rfl
 refine ag<|aP 5 cM.sc.nd<|ay<|ab ⟨afk _,λo ho=>?_⟩;have hHh:H h=none:=s1.free hh;have hHo:H o=none:=C1.free ho;have nhp:p≠h:=ak ep hh;have nop:p≠o:=ak (s2 _ _ ep) ho;have Zq:h≠o:=ak eh0 ho;refine ag<|ox (λσ H'=>(Au λk v4=>Dn (k<=M.offices) (σ=[some (.ref a),some (.int g),some (.ref p),some (.ref h),v4,some (.ref o)]) (Aa H H') (H' p=some (.lst (nums (mem M g)))) (H' h=some (.lst (nums (EJ M.nP (AE M g k))))) (H' o=some (.lst (nums (AE M g k))))))
  (λσ H'=>match H' o with|some (.lst xs)=>M.offices-xs.length|_=>0) ⟨0,none,afk _,RR,C1.aL hHo,by rw[ai nop];exact s2 _ _ ep,by rw[ai Zq];exact eh0,ae⟩ ?_;rintro σ H3 ⟨k,v4,hk,rfl,s3,ep3,Yv,Yu⟩;obtain⟨dx3,pl3,ll3,Yg,ho3,ps3,S3⟩:=(hS.mono s3).ex;refine aV nv (aJ _)<|aX RR T.c.AV<|af 5 ⟨o,_,RR,Aj.of Yu,aE 0 S3 T T.m.AS bX ⟨_,_,RR,RR,_,RR,?_⟩⟩;rw[aq,dN];by_cases Bz:k<M.offices
 ·rw[decide_eq_true (show(k:Int)<(M.offices:Int) by omega),if_pos RR];have L1:Dg M (λi=>(AE M g k).count i) (mem M g)∈mem M g:=mY AW;have PQ:=dn L1;refine ag<|aP 4 cM.sc.nd<|ao (r9 T) hr<|af 0<|aa<|af 2<|aa<|af 3<|ab ⟨a,p,h,M,mem M g,AE M g k,RR,hS.mono s3,ep3,AW,λx hx=>dn hx,Yv,λH4 s4=>?_⟩;refine ag<|fI dU u_ set_list<|af 3<|af 4 ⟨h,_,Dg M (λi=>(AE M g k).count i) (mem M g),_,RR,RR,Aj.of (s4 _ _ Yv),aU (i4 PQ),aG ⟨_,_,RR,RR,h,_,_,Dg M (λi=>(AE M g k).count i) (mem M g),RR,RR,s4 _ _ Yv,?_,?_⟩⟩;·unfold Rb;rw[if_pos (by omega),if_pos (by rw[aq];unfold EJ;rw[ae1,afi];omega),af2]
  ·rw[aaG PQ];have eo5:(upd H4 h (.lst (nums (EJ M.nP (AE M g k++[Dg M (λi=>(AE M g k).count i) (mem M g)]))))) o=some (.lst (nums (AE M g k))):=by rw[ai (afA Zq)];exact s4 _ _ Yu
   refine ah<|bV<|af 5 ⟨o,_,RR,eo5,af 4 ⟨_,eo5,?_,⟨k+1,_,Bz,RR,((s3.trans s4).aL hHh (s4.ntL Yv)).aL hHo (aw eo5 RR),?_,?_,?_⟩,?_⟩⟩;·rw[aq,dN];exact ae9 Bz (small NK)
   ·rw[ai nop,ai nhp];exact s4 _ _ ep3
   ·rw[ai Zq,ae];rfl
   ·rw[ae];show some (HO.lst (nums (AE M g k)++[V.int _]))=some (HO.lst (nums (AE M g k++[_])));unfold nums;rw[afK];rfl
   ·rw[ae,Yu];show M.offices-(nums (AE M g k)++[_]).length<M.offices-(nums (AE M g k)).length;rw[afg,aq,dN];simp;omega
 ·rw[decide_eq_false (show¬(k:Int)<(M.offices:Int) by omega),if_neg ae0];have ek:k=M.offices:=by omega
  subst ek;exact ah<|aj<|af 5<|q o H3 s3 hHo Yu
def UD(ad:Ad):Sp:=λvs H Q _=>Qi λ(a o t:Addr) (M:Sm) (ord tk:Ae) (i:Nat)=>Ox (vs=[.ref a,.ref o,.ref t,.int i]) (Ai ad H a M) (H o=some (.lst (nums ord))) (H t=some (.lst (nums tk))) (ord.length<=5) (∀x∈tk,x<M.offices) (i<M.nP) (ET H (.int (Bu M ord tk i:Nat)) Q)
def ny(a b:Ae):(nums a).zip (nums b)=(a.zip b).map λx=>(V.int (x.1:Nat),V.int (x.2:Nat)):=by unfold nums;rw[List.zip_map];rfl
def vD(T:Txt kK mg aD base):Bx P w T 1 "gain" (UD aD):=by
 refine bt T.d.Aaj nV ?_;rintro bo H vs Q E hr ⟨a,o,t,M,ord,tk,i,rfl,hS,ho,ht,hz,VQ,hi,q⟩;obtain⟨dx,pl,ll,hl,HQ,ps,S⟩:=hS.ex;have gi:=bU hS.good hi;refine ag<|bJ 4 nV.sc.nd RR (Or.inr RR)<|kq T<|fG 0 S T<|af 3 ⟨i,RR,hi,Aa.refl _,λb hb=>⟨b,RR,hb,λtw LY=>?_⟩⟩;refine ah<|aj<|eM RR RR T.c.Fh<|abY (α:=V×V) (j1:=5) (j2:=6) (pr:=λx=>decide (x.1= .int i)) (f:=λx=>match x.2 with| .int n=>.int ((pt M i).worth.getD n.toNat 0:Nat)|v=>v) RR nV.sc.nd (aB (by kernel_rfl))
  (λ_ _ _ _ _=>nu RR (cA (cT 5 nV.sc.nd) (cA (cT 6 nV.sc.nd) j6))) (λ_ _=>rfl)<|
  adL RR T.c.RD<|aa<|af 1<|aa<|af 2<|ab ⟨o,t,_,_,RR,Aj.of ho,Aj.of ht,_,(·.1),(·.2),uu (Aj.of ho) (Aj.of ht),?_,?_,?_,?_⟩;·rw[af5,aq,aq];exact small (show min ord.length tk.length<=5 by omega)
 ·rintro⟨u,v⟩ hy H' sm s0 H0 C cl fp;rw[ny]at hy;obtain⟨⟨m,n⟩,hmn,e⟩:=afw.mp hy;cases e;exact bp<|aV bO (aJ _)<|af 5<|af 3 ⟨RR,_,RR,Aa.refl _,RR⟩
 ·rintro⟨u,v⟩ hy _ H' sm s0 H0 C cl fp;rw[ny]at hy;obtain⟨⟨m,n⟩,hmn,e⟩:=afw.mp hy;cases e;have hn:n<(pt M i).worth.length:=by rw[gi.wl];exact VQ n (agn hmn).2
  exact bg cR<|af 4<|af 6 ⟨tw,_,n,_,RR,RR,Cd.of (sm _ _ LY),aS (aU (getD_at hn)),Aa.refl _,RR⟩
 ·intro D H' hD sm e;refine⟨D,((ord.zip tk).filter λ(x:Nat×Nat)=>x.1==i).map λ(x:Nat×Nat)=>(pt M i).worth.getD x.2 0,RR,?_,q H' sm⟩;refine Aj.of (e.trans ?_);rw[ny,ag8,afr];congr 2;unfold nums;rw[afr];have e2:((λx:V×V=>decide (x.1=V.int i)) ∘ λ(x:Nat×Nat)=>(V.int (x.1:Int),V.int (x.2:Int)))=λx:Nat×Nat=>x.1==i:=by
   funext x;show decide (V.int (x.1:Int)=V.int (i:Int))=(x.1==i);by_cases h:x.1=i;·rw[h];simp
   ·rw[beq_false_of_ne h];exact decide_eq_false λz=>h (by injection z with z;omega)
  rw[e2];rfl
def KH(f:Addr)(o:Obj):HO:=.ext λh=>h.get? f=some o
def yz(r:h.CodeRec (.ref c) q):BW P w H h c (GU c q):=by
 refine⟨r,?_,λh1 h2 r1 k=>?_⟩;·obtain⟨c',o,vs,t,e,g,_⟩:=r;simp_all
 ·obtain⟨c',o,vs,t,e,g,r⟩:=r1;cases e;exact⟨c,o,vs,t,RR,k _ g,r⟩
def wq(r:h.get? f=some o):BW P w H h f (KH f o):=⟨r,⟨o,r⟩,λ_ _ r1 k=>k _ r1⟩
def DZ(H:Hp)(P:Addr)(ps':Array Value)(c':Addr)(q:Str)(f:Addr)(fo:Obj):Hp:=upd (upd (upd H P (.F8 ps')) c' (GU c' q)) f (KH f fo)
def jk:∀{l:Ay},TriplesOk l->∀{v:Value},codeAmong p (l++[rawInt a,rawInt b,c])=some v->codeAmong p l=some v\/(v=c/\a=p.line)
 |[],_,v,h=>by right;have h:codeAmong p [rawInt a,rawInt b,c]=some v:=h;simp only[rawInt,codeAmong]at h;grind
 | .int i t::.int j u::w::rest,hl,v,h=>by
  have h:codeAmong p (.int i t::.int j u::w::(rest++[rawInt a,rawInt b,c]))=some v:=h;have hl:TriplesOk rest:=hl;unfold codeAmong at h|-;split at h;·rename_i e;rw[if_pos e];exact .inl h
  ·rename_i e;rw[if_neg e];exact jk hl h
def Aa.lam{p:Pos}(hP:H P=some (.F8 ps))(hc:H c'=none)(hf:H f=none)(hcf:c'≠f)(g:Bs H ps):Aa H (DZ H P (ps++#[rawInt p.line,rawInt b,.ref c']) c' (Pn p.line) f fo):=by
 have Zw:P≠c':=ak hP hc;have Zv:P≠f:=ak hP hf;have atP:DZ H P (ps++#[rawInt p.line,rawInt b,.ref c']) c' (Pn p.line) f fo P=some (.F8 (ps++#[rawInt p.line,rawInt b,.ref c'])):=by unfold DZ;rw[ai Zv,ai Zw,ae]
 have old:∀b' o,H b'=some o->b'≠P->DZ H P (ps++#[rawInt p.line,rawInt b,.ref c']) c' (Pn p.line) f fo b'=some o:=λb' o e ne=>by unfold DZ;rw[ai (ak e hf),ai (ak e hc),ai ne];exact e
 have WA:∀ps',Bs H ps'->Bs (DZ H P (ps++#[rawInt p.line,rawInt b,.ref c']) c' (Pn p.line) f fo) ps':=λps' g'=>⟨g'.ok,λpos v e=>by obtain⟨d,rfl,hd⟩:=g'.code pos v e;exact⟨d,RR,old d _ hd (λz=>by rw[z,hP]at hd;cases hd)⟩⟩;refine⟨λb' o e=>?_,λP' ps' e g'=>?_⟩
 ·by_cases ne:b'=P;·subst ne;rw[hP]at e;cases e;exact⟨_,atP⟩
  ·exact Kp.refl (old b' o e ne)
 ·by_cases ne:P'=P
  ·subst ne;rw[hP]at e;cases e;refine⟨_,atP,⟨?_,λpos v e=>?_⟩⟩;·rw[Array.toList_append];exact TriplesOk_snoc _ _ _ _ g'.ok
   ·rw[Array.toList_append]at e;rcases jk g'.ok e with z|⟨z,z2⟩;·exact(WA _ g').code pos v z
    ·refine⟨c',z,?_⟩;have e3:p.line=pos.line:=by exact Int.ofNat.inj z2
     unfold DZ;rw[ai hcf,ae,e3]
  ·exact⟨ps',old _ _ e ne,WA _ g'⟩
def Inv.lam{σ:St}{c':Addr}(I:Inv X pins σ H s)(hP:H P=some (.F8 ps))(hx:Heap.ExtBut P s.heap h')(hc:s.hz<=c')(PU:c'<h'.objs.size)(hr:h'.CodeRec (.ref c') q)
  (ht:h'.get? P=some {cls:=.none,data:=.fields (ps++#[rawInt a,rawInt b,.ref c'])})(hfo:fo.isFreed=false):Inv X pins σ (DZ H P (ps++#[rawInt a,rawInt b,.ref c']) c' q h'.objs.size fo) {s with heap:=h'.push fo,toks:=tk}:=by
 have Yl:H c'=none:=I.AU.fresh hc;have szh:s.hz<=h'.objs.size:=afS (afl hc PU);have PR:H h'.objs.size=none:=I.AU.fresh szh;have hcf:c'≠h'.objs.size:=afo PU;have Zw:P≠c':=ak hP Yl;have Zv:P≠h'.objs.size:=ak hP PR;have k:∀b' u,b'≠P->s.heap.get? b'=some u->(h'.push fo).get? b'=some u:=λb' u ne e=>adx _ (hx b' u ne e);have old:∀b' o,H b'=some o->b'≠P->DZ H P (ps++#[rawInt a,rawInt b,.ref c']) c' q h'.objs.size fo b'=some o:=λb' o e ne=>by unfold DZ;rw[ai (ak e PR),ai (ak e Yl),ai ne];exact e
 have YF:∀b' u,s.heap.get? b'=some u->H b'=none->b'≠P:=λb' u e n z=>by rw[z,hP]at n;cases n
 refine I.un ⟨λb' u e n _ _=>k b' u (YF b' u e n) e,λb' u e n _ _=>⟨u.slots,k b' u (YF b' u e n) e⟩,λb' u e n _=>?_,λb' u e _=>?_,λb' xs e=>old _ _ e (λz=>by rw[z,hP]at e;cases e),λb' u' xs e=>old _ _ e (λz=>by rw[z,hP]at e;cases e),λb' ps' e=>?_⟩ λb' u e=>?_;·have lt:=ae7 e;unfold DZ;rw[ai (afo (ae9 lt szh)),ai (afo (ae9 lt hc)),ai (YF b' u e n)];exact n
 ·by_cases z:b'=P;·rw[z];exact⟨_,adx _ ht⟩
  ·exact⟨u,k b' u z e⟩
 ·by_cases z:b'=P;·subst z;rw[hP]at e;cases e;exact⟨_,by unfold DZ;rw[ai Zv,ai Zw,ae]⟩
  ·exact⟨#[],by rw[old _ _ e z];simp⟩
 ·by_cases z1:b'=h'.objs.size
  ·have e':DZ H P (ps++#[rawInt a,rawInt b,.ref c']) c' q h'.objs.size fo b'=some (KH h'.objs.size fo):=by unfold DZ;rw[z1,ae]
   rw[e']at e;cases e;rw[z1];exact wq (ae4 _ hfo)
  ·by_cases z2:b'=c'
   ·have e':DZ H P (ps++#[rawInt a,rawInt b,.ref c']) c' q h'.objs.size fo b'=some (GU c' q):=by unfold DZ;rw[ai z1,z2,ae]
    rw[e']at e;cases e;rw[z2];exact yz (hr.push _)
   ·by_cases z3:b'=P
    ·have e':DZ H P (ps++#[rawInt a,rawInt b,.ref c']) c' q h'.objs.size fo b'=some (.F8 (ps++#[rawInt a,rawInt b,.ref c'])):=by unfold DZ;rw[ai z1,ai z2,z3,ae]
     rw[e']at e;cases e;rw[z3];exact adx _ ht
    ·have e':DZ H P (ps++#[rawInt a,rawInt b,.ref c']) c' q h'.objs.size fo b'=H b':=by unfold DZ;rw[ai z1,ai z2,ai z3]
     rw[e']at e;refine(I.AU b' u e).oX (λd v hd r=>k d v ?_ r) (λd r=>old _ _ r (λz=>by rw[z,hP]at r;cases r)) λd xs r=>old _ _ r (λz=>by rw[z,hP]at r;cases r);rcases hd with rfl|hd;·exact z3
     ·exact λz=>by rw[z,hP]at hd;cases hd
def adH(Vd:defaultsOf params X.env=([],[]))(EI:∀y∈scope.names,y.2= .free->X.env.kindOf y.1=some .cell\/X.env.kindOf y.1=some .free)(T9:X.env.code= .ref c)(C:PySem.W.codeHdIn X.K c P=true)(B:Tt X.base X.mg)
  (hq:X.env.qual++("<lambda>" :Str)=Pn pos.line)(hP:H P=some (.F8 ps))(g:Bs H ps)
  (q:∀(f c':Addr)(pm L6:Value) H',H f=none->Aa H H'->H' f=some (KH f (kla_obj "<lambda>" (Pn pos.line) params body scope (AM X.env.cells scope.names []) pm c' L6))->H' c'=some (GU c' (Pn pos.line))->Q (.ref f) H'):Ev X (.Lambda params body scope pos) σ H Q:=by
 refine⟨λpins s I=>PySem.W.kla_eval Vd ?_⟩;have PU:closureFor scope X.env=pure (AM X.env.cells scope.names []):=oy λy hy e=>I.ok.has y.1 (EI y hy e);have KX:=I.rq;have CH:=codeHd_of_K KX C;have Yq:s.heap.get? P=some {cls:=.none,data:=.fields ps}:=I.AU P _ hP;have hg:s.heap.Ns mainGlobals X.mg:=I.mod.glob.keeps I.bk;obtain⟨bm,ob,b1,b2,b3,b4,b5,b6,b7⟩:=B.ex;have hgP:mainGlobals≠P:=λz=>by obtain⟨o,es,ep,e,hd,_⟩:=hg;rw[z,Yq]at e;cases e;cases hd
 have hbP:bm≠P:=λz=>by have e:=I.bk _ _ b4;rw[z,Yq]at e;cases e;cases b5
 have hb:s.heap.BuiltinsAt X.mg P:=⟨bm,ob,b1,b2,b3,hbP,I.bk _ _ b4,b5,b6,b7⟩;rw[hq];cases hn:codeAmong pos ps.toList with
 |none=>
  refine PySem.W.kla_makeFunction (mg:=X.mg) PU I.ok.glob hg T9 CH Yq g.ok hn hgP hb λc' L6 h' tk hx W_ Bz PJ htb=>?_;have Yl:H c'=none:=I.AU.fresh W_;have PR:H h'.objs.size=none:=I.AU.fresh (afS (afl W_ Bz));refine⟨.ref h'.objs.size,_,I.lam hP hx W_ Bz PJ htb RR,RR,q _ c' ((X.mg "__name__").getD .none) L6 _ PR (Aa.lam hP Yl PR (afo Bz) g) ?_ ?_⟩;·unfold DZ;rw[ae]
  ·unfold DZ;rw[ai (afo Bz),ae]
 |some cv=>obtain⟨c',rfl,EV⟩:=g.code pos cv hn;refine PySem.W.kla_makeFunctionHit (mg:=X.mg) PU I.ok.glob hg T9 CH Yq g.ok hn hb λL6 h' tk hk hsz=>?_;have PR:H h'.objs.size=none:=I.AU.fresh hsz;refine⟨.ref h'.objs.size,_,I.laid (a:=h'.objs.size) (o:=KH h'.objs.size _) (λb o e=>adx _ (hk b o e)) hsz (wq (ae4 _ RR)),RR,q _ c' _ L6 _ PR (Aa.ax PR) ae ?_⟩;rw[ai (ak EV PR)];exact EV
structure RT(h:Heap)(H:Hp)(cl:List (Str×Addr))(cv:List (Str×V)):Prop where
 cell:∀x c,cl.lookup x=some c->H c=none/\(Au λv u=>Av (cv.lookup x=some v) (RelV v u) (h.IsCell c (some u)))
 inj:∀x y c,cl.lookup x=some c->cl.lookup y=some c->x=y
structure Ny(N:Ag)(x:Str)(sc:Scope):Prop where
 kind:sc.kind= .function
 co:sc.isCoroutine=false
 gen:sc.isGenerator=false
 nd:N.Nodup
 par:sc.names.lookup x=some .local
 NY:∀y∈sc.names,y.2≠.cell
 cap:∀y∈N.tail,sc.names.lookup y=some .free
def MY(P:Program)(w:World)(K:Frag)(mg:B3)(base:Heap)(N:Ag)(qual:Str)(scope:Scope)(f:Addr)(cd:Value)(cl:List (Str×Addr))(A:Around)(outer:List Env)(s:Shared)(H:Hp):Cx where
 prog:=P
 w:=w
 K:=K
 mg:=mg
 base:=base
 A:=A.deeper (envX qual scope s.hz f cd cl)
 N:=N
 Kf:=s
 VA:=H
 env:=envX qual scope s.hz f cd cl
 outer:=outer
 stack:=envX qual scope s.hz f cd cl::outer
 ex:=[]
 calm:=true
 fn:=λ_=>false
 pn:=[]
 xe:=λ_ _=>False
def nG{cv:List (Str×V)}{i:Nat}(nd:(cv.map (·.1)).Nodup)(h1:(cv.map (·.1))[i]? =some x)(h2:cv.lookup x=some v):(cv.map (·.2))[i]? =some v:=by
 induction cv generalizing i with
 |nil=>simp at h1
 |cons p r ih=>
  obtain⟨n,w⟩:=p;rw[ahz]at h2;cases i with
  |zero=>
   have e:n=x:=by simpa using h1
   subst e;simp at h2;simp[h2]
  |succ i=>
   have R9:(r.map (·.1))[i]? =some x:=by simpa using h1
   have hm:=afa R9;have AW:x≠n:=λz=>(afN.mp nd).1 (z▸hm);have:(x==n)=false:=by simpa using AW
   rw[this]at h2;simpa using ih (afN.mp nd).2 R9 h2
def abR
  (LS:Ny (x::cv.map (·.1)) x scope)(hr:Bm (k+1) A)(e0:GZ P w kK mg base A outer s H)(hf:H f=some (KH f (kla_obj name qual params body scope cl pm c' L6)))(hc:H c'=some (GU c' qual))
  (hb:bindArgs (kla_fn name qual params body scope cl pm (.ref c') L6) ⟨[u],[]⟩=pure [(x,u)])(C:RT s.heap H cl cv)(has:∀y,scope.names.lookup y=some .free->∃c,cl.lookup y=some c)(r:RelV v u)
  (h:Bm k (A.deeper (envX qual scope s.hz f (.ref c') cl))->Ev (MY P w kK mg base (x::cv.map (·.1)) qual scope f (.ref c') cl A outer s H) body (some v::cv.map λy=>some y.2) H Q):
  codeAny (model P w) A (.call (.ref f) ⟨[u],[]⟩) (CR Mr outer P w H s Q E) s:=by
 have lim:s.heap.NoLimit:=e0.mod.nolimit.keeps λb o e=>(e0.bs b o e).1;have hfo:s.heap.get? f=some (kla_obj name qual params body scope cl pm c' L6):=(e0.AU f _ hf).1;have hco:s.heap.CodeRec (.ref c') qual:=(e0.AU c' _ hc).1;refine PySem.W.kla_callFunE hr.depth hfo RR LS.co LS.gen RR hco ?_;rw[hb];refine wpAny_pure (wpAny_newFunctionEnv LS.NY (λy hy=>?_) (λh₁ Yd hsb=>?_) LS.kind);·rw[afm.mp hy];exact LS.par
 have hk₁:∀b o,s.heap.get? b=some o->h₁.get? b=some o:=λb o e=>hsb.extBut b o (afo (ae7 e)) (adx _ e);refine⟨lim.keeps hk₁,?_⟩;show codeAny _ _ (.expr body (envX qual scope s.hz f (.ref c') cl)) _ _;have UP:∀b:Addr,b∉(MY P w kK mg base (x::cv.map (·.1)) qual scope f (.ref c') cl A outer s H).ex:=λb z=>absurd (show b∈([]:Ax)from z) (by simp);have ck:∀y c,cl.lookup y=some c->∀o,s.heap.IsCell c o->h₁.IsCell c o:=λy c _ o ⟨ob,e,d⟩=>⟨ob,hk₁ _ _ e,d⟩;have I:Inv (MY P w kK mg base (x::cv.map (·.1)) qual scope f (.ref c') cl A outer s H) [] (some v::cv.map λy=>some y.2) H {s with heap:=h₁,toks:=s.toks+1}:=by
  refine⟨⟨e0.mod,LS.kind,RR,RR,ae8 _,λy z c h1 h2=>C.inj y z c h1 h2,λy hy=>?_,λy c hy _=>?_,λ_=>hr.hd,Around.frames_deeper e0.frames,.inr ⟨RR,RR⟩,λb z=>absurd z (UP b),e0.bs,e0.ON,λb _ _=>UP b,λb z=>absurd z (UP b),e0.i_,e0.Rz⟩,
   RR,e0.bare,Un.kept hk₁,⟨_,Yd,λi y w' h1 h2 h3=>?_⟩,λy c h=>?_,e0.AU.fresh (ae8 _),λy c h=>(C.cell y c h).1,λp hp=>absurd (show p∈([]:Bc)from hp) (by simp),e0.AU.kept hk₁,?_⟩
  ·rcases hy with hy|hy;·exact absurd RR (LS.NY _ (aft hy))
   ·exact has y hy
  ·exact absurd (show false=true from hy) ae0
  ·have h1:(x::cv.map (·.1))[i]? =some y:=h1;have h3:scope.names.lookup y=some .local\/scope.names.lookup y=some .cell\/scope.names.lookup y=some .free:=h3;cases i with
   |zero=>
    have e:x=y:=by simpa using h1
    subst e;have e2:v=w':=by simpa using h2
    subst e2;refine⟨u,r,.inl ⟨LS.par,?_⟩⟩;simp
   |succ i=>
    have R9:(cv.map (·.1))[i]? =some y:=by simpa using h1
    have Xn:(cv.map (·.2))[i]? =some w':=by
     have:(cv.map λy=>some y.2)[i]? =some (some w'):=by simpa using h2
     rw[afc]at this|-;cases e:cv[i]? with
     |none=>rw[e]at this;cases this
     |some p=>rw[e]at this;simpa using this
    have ym:y∈cv.map (·.1):=afa R9;have hxy:y≠x:=λz=>(afN.mp LS.nd).1 (z▸ym);rcases h3 with h3|h3|h3;·have:=LS.cap y ym;rw[h3]at this;cases this
    ·exact absurd RR (LS.NY _ (aft h3))
    ·obtain⟨c,ec⟩:=has y h3;obtain⟨_,v2,u2,l1,l2,l3⟩:=C.cell y c ec;have:=nG (afN.mp LS.nd).2 R9 l1;rw[Xn]at this;cases this;exact⟨u2,l2,.inr ⟨.inr h3,c,ec,ck y c ec _ l3⟩⟩
  ·obtain⟨_,v2,u2,l1,l2,l3⟩:=C.cell y c h;exact⟨_,ck y c h _ l3⟩
  ·simp[MY]
 refine PySem.W.kla_codeExpr (wpAny_mono ((h (hr.deeper _)).run [] _ I) (λw' s' hl=>?_) λ_ _ y=>y.elim);obtain⟨v',H',J,rv,q⟩:=hl;exact⟨v',H',J.os,J.bare,J.base,J.AU,rv,q⟩
def Dl(X:Cx)(σ:St):List (Str×NameKind)->List (Str×V)->Prop
 |[],cv=>cv=[]
 |(x,k)::r,cv=>match k==NameKind.free with
  |true=>(Au λv cv'=>BO (cv=(x,v)::cv') ((∃i:Nat,X.N[i]? =some x/\σ[i]? =some (some v))) ((X.env.kindOf x=some .cell\/X.env.kindOf x=some .free)) (Dl X σ r cv'))
  |false=>Dl X σ r cv
def lJ:∀{names:List (Str×NameKind)}{cv:List (Str×V)}{x:Str},Dl X σ names cv->(x,NameKind.free)∈names->
  (Au λ(i:Nat) (v:V)=>BO (X.N[i]? =some x) (σ[i]? =some (some v)) (cv.lookup x=some v) ((X.env.kindOf x=some .cell\/X.env.kindOf x=some .free)))
 |(y,k)::r,cv,x,h,hm=>by
  unfold Dl at h;cases hk:k==NameKind.free with
  |true=>
   rw[hk]at h;obtain⟨v,cv',rfl,⟨i,h1,h2⟩,h3,h4⟩:=h;by_cases e:x=y;·subst e;exact⟨i,v,h1,h2,by simp,h3⟩
   ·rcases ae5.mp hm with z|hm;·cases z;exact absurd RR e
    ·obtain⟨i',v',a1,a2,a3,a4⟩:=lJ h4 hm;exact⟨i',v',a1,a2,by rw[ahz,show(x==y)=false by simpa using e];exact a3,a4⟩
  |false=>
   rw[hk]at h;rcases ae5.mp hm with z|hm;·cases z;cases hk
   ·exact lJ h hm
def Inv.yF{σ:St}{scope:Scope}(I:Inv X pins σ H s)(h:Dl X σ scope.names cv):RT s.heap H (AM X.env.cells scope.names []) cv:=by
 have key:∀x c,(AM X.env.cells scope.names []).lookup x=some c->X.env.cells.lookup x=some c/\(Au λv u=>Av (cv.lookup x=some v) (RelV v u) (s.heap.IsCell c (some u))):=by
  intro x c e;rcases d8 (aft e)with z|⟨z1,z2⟩;·cases z
  ·obtain⟨i,v,h1,h2,h3,h4⟩:=lJ h z1;obtain⟨m,hn,hl⟩:=I.loc;obtain⟨u,r,lk⟩:=hl i x v h1 h2 (h4.elim (λz=>.inr (.inl z)) λz=>.inr (.inr z));rcases lk with⟨k,_⟩|⟨_,c2,e2,z⟩;·rcases h4 with h4|h4<;>(rw[k]at h4;cases h4)
   ·rw[e2]at z2;have:=z2;subst this;exact⟨e2,v,u,h3,r,z⟩
 exact⟨λx c e=>⟨I.Eh x c (key x c e).1,by obtain⟨v,u,p,q,r⟩:=(key x c e).2;exact⟨v,u,p,q,r⟩⟩,λx y c h1 h2=>I.ok.inj x y c (key x c h1).1 (key y c h2).1⟩
def acd{scope:Scope}:∀y,scope.names.lookup y=some .free->∃c,(AM cells scope.names []).lookup y=some c:=λy h=>mem_lookup (fJ (aft h))
def E1(kf:Nat->Int)(i n:Nat):Prop:=∀j,j<n->kf j<=kf i/\(j<i->kf j<kf i)
structure XE(X:Cx)(pins:Bc)(σ:St)(H0:Hp)(l b S:Addr)(j:Nat)(v:V)(n:Int)(s:Shared)(H:Hp):Prop where
 inv:Inv X.in1 pins σ H s
 same:Aa H0 H
 best:H S=some (.lst [v,.int n])
 it:s.heap.IsListIter b l j
 fp:DW X.in1 pins H b
def OX(X:Cx)(σ:St)(H0:Hp)(q:Addr)(xs:List V)(kf:Nat->Int):Prop:=
 ∀(i:Nat)(v:V),xs[i]? =some v->∀(pins':Bc)(s':Shared)(H':Hp)(u:Value),Inv X.in1 pins' σ H' s'->Aa H0 H'->RelV v u->
  wpAny (model X.prog X.w) X.A.in1 (call (.ref q) [u]) (EP X.in1 pins' σ λz Ls=>Aa H' Ls/\z= .int (kf i)) (λ_ _=>False) s'
def zO(kf:Nat->Int)(hc:X.calm=true)(hl:Aj X.K H0 l xs)(T_:H0 S=none)(T6:l≠b)(turn:OX X σ H0 q xs kf)
  (hR:∀i v u s' H',xs[i]? =some v->E1 kf i xs.length->Inv X.in1 pins σ H' s'->Aa H0 H'->RelV v u->R (.ok (.ret u)) s'):
  ∀(r j i:Nat)(s:Shared)(H:Hp)(v:V),xs.length-(j+1)=r->j+1<=xs.length->XE X pins σ H0 l b S (j+1) v (kf i) s H->xs[i]? =some v->i<=j->E1 kf i (j+1)->
   codeAny (model X.prog X.w) X.A (.builtin "max.loop" ⟨[.ref b,.ref q,.ref S],[]⟩) R s:=by
 have nm:(toString "max" ++toString ".loop" :String)= "max.loop" :=by decide
 intro r;induction r with
 |zero=>
  intro j i s H v hr hj M hv hij hb;have Vb:j+1=xs.length:=by omega
  obtain⟨its,rv,pl,_⟩:=M.inv.list (M.same.seq hl);have W:=agC (prog:=X.prog) (w:=X.w) (A:=X.A.in1) (M.inv.ok.hd hc) b l T6 its.toArray;have sz:its.toArray.size=xs.length:=by rw[afd,<-rv.length]
  obtain⟨_,bits,n,rb,_,eS⟩:=M.inv.gH M.best;obtain⟨u1,u2,rfl,z1,⟨t2,z2⟩⟩:=vals2 rb;subst z2;refine codeAny_builtin entry_max_loop ?_;rw[afW plain_max_loop _];show wpAny _ X.A.in1 (seqItems? (.ref S)>>=_) _ _ _;refine wpAny_bind (wpAny_seqItems eS RR ?_);show wpAny _ X.A.in1 (tryCatch (pyNext (.ref b)) _>>=_) _ _ _;refine wpAny_bind (wpAny_tryCatch (W.done _ _ _ ⟨by rw[sz,<-Vb];exact M.it,pl.isList⟩ λh' Mo L3=>?_));have I1:=M.inv.gC (tk:=Mo) M.fp L3;have eS':h'.get? S=_:=L3 S _ (λz=>by have:=M.best;rw[afm.mp z,M.fp.1]at this;cases this) eS;show wpAny _ X.A.in1 (updateSeq S (λ_=>#[])>>=_) _ _ _;refine wpAny_bind ?_;refine wpAny_updateSeq eS' RR (wpAny_bind (wpAny_letGo (wpAny_pure ?_)));have I2:=I1.pj (f:=λ_=>#[]) (its':=[]) (ys:=[]) (t':=Mo) M.best eS' RR .nil (afk _);exact hR i v _ _ _ hv (by rw[<-Vb];exact hb) I2 (M.same.aL T_ (aw M.best RR)) z1
 |succ r ih=>
  intro j i s H v hr hj M hv hij hb;have Bz:j+1<xs.length:=by omega
  obtain⟨its,rv,pl,_⟩:=M.inv.list (M.same.seq hl);have W:=agC (prog:=X.prog) (w:=X.w) (A:=X.A.in1) (M.inv.ok.hd hc) b l T6 its.toArray;have sz:its.toArray.size=xs.length:=by rw[afd,<-rv.length]
  obtain⟨_,bits,n,rb,_,eS⟩:=M.inv.gH M.best;obtain⟨u1,u2,rfl,z1,⟨t2,z2⟩⟩:=vals2 rb;subst z2;refine codeAny_builtin entry_max_loop ?_;rw[afW plain_max_loop _];show wpAny _ X.A.in1 (seqItems? (.ref S)>>=_) _ _ _;refine wpAny_bind (wpAny_seqItems eS RR ?_);show wpAny _ X.A.in1 (tryCatch (pyNext (.ref b)) _>>=_) _ _ _;refine wpAny_bind (wpAny_tryCatch (W.item (j+1) _ _ _ (by rw[sz];exact Bz) ⟨M.it,pl.isList⟩ λu h' Mo hP M0 L3=>?_));have I1:=M.inv.gC (tk:=Mo) M.fp L3;obtain⟨y,hy⟩:∃y,xs[j+1]? =some y:=⟨_,afu Bz⟩;have ru:RelV y u:=by
   obtain⟨u0,ZQ,Y7⟩:=rv.get hy;have e0:its[j+1]? =some u:=by simpa using hP
   rw[ZQ]at e0;cases e0;exact Y7
  obtain⟨oI,Z3,VT,M5⟩:=id M0.1;have hd:∀v,oI.data≠.cell v:=λv z=>by rw[M5]at z;cases z
  have I1p:Inv X.in1 ((b,oI)::pins) σ H {s with heap:=h',toks:=Mo}:=I1.iQ λp hp=>by
   rcases ae5.mp hp with rfl|hp;·exact⟨Z3,M.fp.1,M.fp.2.1,M.fp.2.2.1,hd⟩
   ·exact I1.pin p (afC _ hp)
  show wpAny _ X.A.in1 (tryCatch (holding [u] (call (.ref q) [u])) _>>=_) _ _ _;refine wpAny_bind (wpAny_tryCatch (wpAny_holding (wpAny_mono (turn (j+1) y hy _ _ H u I1p M.same ru) (λkx s2 he=>?_) λ_ _ hF=>hF.elim)));obtain⟨z,H2,I2,rz,VJ,rfl⟩:=he;obtain⟨tz,rfl⟩:=rz;have pb:=I2.pin (b,oI) (afC _ aff);have X5:s2.heap.IsListIter b l (j+1+1):=⟨oI,pb.1,VT,M5⟩;have VX:DW X.in1 pins H2 b:=M.fp.same pb.2.1;have I3:Inv X.in1 pins σ H2 s2:=I2.iQ λp hp=>I2.pin p (afC _ (ae6 _ hp));have GF:H2 S=some (.lst [v,.int (kf i)]):=VJ _ _ M.best;refine wpAny_bind (wpAny_tryCatch (wpAny_holding (wpAny_bind (CmpOf.ints_gt (prog:=X.prog) (w:=X.w) (A:=X.A.in1) (P:=λi v=>∃t,v= .int (kf i) t) kf (λi v h=>h) (j+1) i _ _ _ _ _ ⟨tz,RR⟩ ⟨t2,RR⟩ ?_))));refine wpAny_bind (wpAny_holding (wpAny_truthy_bool ?_));refine wpAny_bind (wpAny_letGo (wpAny_pure ?_));obtain⟨_,bits,n,VL,_,Xr⟩:=I3.gH GF;have bS:b≠S:=λz=>by have:=GF;rw[<-z,pb.2.1]at this;cases this
  by_cases HD:kf (j+1)>kf i
  ·simp only[HD,decide_true,if_true];refine wpAny_bind ?_;refine wpAny_updateSeq Xr RR (wpAny_bind (wpAny_letGo ?_));rw[nm];have I4:=I3.pj (f:=λ_=>#[u,.int (kf (j+1)) tz]) (its':=[u,.int (kf (j+1)) tz]) (ys:=[y,.int (kf (j+1))]) (t':=s2.toks) GF Xr RR (.cons ru (.cons ⟨tz,RR⟩ .nil)) cQ;refine wpAny_pure ⟨plainId_quiet plain_max_loop _,ih (j+1) (j+1) _ _ y (by omega) Bz ⟨I4,(M.same.trans VJ).aL T_ (aw GF RR),ae,?_,VX.same (by rw[ai bS];exact VX.1)⟩ hy (ae8 _) ?_⟩;·exact X5.at λo e=>(afY _ _ (afA bS)).trans e
   ·intro k hk;by_cases e:k=j+1;·subst e;exact⟨ahO _,λz=>absurd z (afM _)⟩
    ·have:=hb k (by omega);exact⟨by omega,λ_=>by omega⟩
  ·simp only[HD,decide_false,agd,if_false];refine wpAny_bind (wpAny_letGo ?_);rw[nm];refine wpAny_pure ⟨plainId_quiet plain_max_loop _,ih (j+1) i _ _ v (by omega) Bz ⟨I3,M.same.trans VJ,GF,X5,VX⟩ hv (by omega) ?_⟩;intro k hk;by_cases e:k=j+1;·subst e;exact⟨by omega,λz=>by omega⟩
   ·exact hb k (by omega)
structure RM(X:Cx)(params:Arguments)(body:Expr)(scope:Scope)(pos:Pos)(x:Str)(names:Ag):Prop where
 Vd:defaultsOf params X.env=([],[])
 EI:∀y∈scope.names,y.2= .free->X.env.kindOf y.1=some .cell\/X.env.kindOf y.1=some .free
 hq:X.env.qual++("<lambda>" :Str)=Pn pos.line
 ls:Ny (x::names) x scope
 hb:∀(qual:Str)(cl:List (Str×Addr))(pm:Value)(c':Addr)(L6 u:Value),bindArgs (kla_fn "<lambda>" qual params body scope cl pm (.ref c') L6) ⟨[u],[]⟩=pure [(x,u)]
structure Ui(X:Cx)(c P:Addr):Prop where
 code:X.env.code= .ref c
 hd:PySem.W.codeHdIn X.K c P=true
 bm:Tt X.base X.mg
def Lr(X:Cx)(params:Arguments)(body:Expr)(scope:Scope)(pos:Pos)(f:Addr)(H:Hp):Prop:=
 (BL λ(c':Addr) (pm L6:Value)=>H f=some (KH f (kla_obj "<lambda>" (Pn pos.line) params body scope (AM X.env.cells scope.names []) pm c' L6))/\H c'=some (GU c' (Pn pos.line)))
def Lr.mono(h:Lr X params body scope pos f H)(s:Aa H H'):Lr X params body scope pos f H':=by obtain⟨c',pm,L6,h1,h2⟩:=h;exact⟨c',pm,L6,s _ _ h1,s _ _ h2⟩
def rQ(L:RM X params body scope pos x names)(W:Ui X c P)(hP:∃ps,H P=some (.F8 ps)/\Bs H ps)(q:∀f H',H f=none->Aa H H'->Lr X params body scope pos f H'->Q (.ref f) H'):Ev X (.Lambda params body scope pos) σ H Q:=by obtain⟨ps,h1,g⟩:=hP;exact adH L.Vd L.EI W.code W.hd W.bm L.hq h1 g λf c' pm L6 H' hf sm e1 e2=>q f H' hf sm ⟨c',pm,L6,e1,e2⟩
def OW(X:Cx)(k:Nat)(qual:Str)(body:Expr)(scope:Scope)(f:Addr)(x:Str)(names:Ag)(vs:List V)(v:V)(H:Hp)(Q:VK):Prop:=
 ∀(c':Addr)(A:Around)(outer:List Env)(s:Shared)(cl:List (Str×Addr)),Bm k (A.deeper (envX qual scope s.hz f (.ref c') cl))->
  Ev (MY X.prog X.w X.K X.mg X.base (x::names) qual scope f (.ref c') cl A outer s H) body (some v::vs.map some) H Q
def zQ:∀{names:Ag}{vs:List V},names.length=vs.length->((names.zip vs).map (·.1))=names/\((names.zip vs).map λy=>some y.2)=vs.map some
 |[],[],_=>⟨RR,RR⟩
 |a::r,b::t,h=>by have:=zQ (by simpa using h);simp[this.1,this.2]
def nM(L:RM X params body scope pos x names)(hr:Bm (k+1) A)(e0:GZ X.prog X.w X.K X.mg X.base A outer s H)(hl:names.length=vs.length)(hf:Lr X params body scope pos f H)
  (C:RT s.heap H (AM X.env.cells scope.names []) (names.zip vs))(r:RelV v u)(h:OW X k (Pn pos.line) body scope f x names vs v H Q):codeAny (model X.prog X.w) A (.call (.ref f) ⟨[u],[]⟩) (CR Mr outer X.prog X.w H s Q E) s:=by obtain⟨c',pm,L6,h1,h2⟩:=hf;obtain⟨e1,e2⟩:=zQ hl;refine abR (by rw[e1];exact L.ls) hr e0 h1 h2 (L.hb _ _ _ _ _ _) C acd r λI0=>?_;rw[e1,e2];exact h c' A outer s _ I0
def sd(a v:Value):argsOk "max" ⟨[a],[(Str.ofString "key",v)]⟩:=by kernel_rfl
def zc{σ:St}(I:Inv X pins σ H s)(hl:Aj X.K H l xs):(∃its:Ay,Oy (s.heap.IsList l its.toArray) (Vals xs its) (l≠s.heap.objs.size) (Inv X.in1 pins σ (upd H ((s.heap.push {cls:=.type "list_iterator",data:=.fields #[.ref l,.int 0 0]}).objs.size) (.lst [])) {s with heap:=(s.heap.push {cls:=.type "list_iterator",data:=.fields #[.ref l,.int 0 0]}).push {cls:=.type "list",data:=.seq #[]}}) (((s.heap.push {cls:=.type "list_iterator",data:=.fields #[.ref l,.int 0 0]}).push {cls:=.type "list",data:=.seq #[]}).IsListIter s.heap.objs.size l 0) (DW X.in1 pins (upd H ((s.heap.push {cls:=.type "list_iterator",data:=.fields #[.ref l,.int 0 0]}).objs.size) (.lst [])) s.heap.objs.size) (H (s.heap.push {cls:=.type "list_iterator",data:=.fields #[.ref l,.int 0 0]}).objs.size=none)):=by
 obtain⟨its,rv,pl,_⟩:=I.list hl;have sz:(s.heap.push {cls:=.type "list_iterator",data:=.fields #[.ref l,.int 0 0]}).objs.size=s.heap.objs.size+1:=afv ..;have lt:l<s.heap.objs.size:=by obtain⟨_,e,_⟩:=pl.isList;exact ae7 e
 have I1:Inv X.in1 pins σ H {s with heap:=s.heap.push {cls:=.type "list_iterator",data:=.fields #[.ref l,.int 0 0]}}:=(I.in1.kept λb o e=>adx _ e);have I2:=I1.adm (its:=[]) (ys:=[]) (t':=s.toks) .nil (afk _);have f:=I.in1.oa (H':=H) (ae8 _) I.fresh;refine⟨its,pl.isList,rv,afo lt,I2,⟨_,adx _ (ae4 _ RR),RR,RR⟩,f.same ?_,I1.fresh⟩;rw[ai (by rw[sz];exact afo (agb _))];exact I.fresh
def abO{σ:St}(kf:Nat->Int)(hc:X.calm=true)(I:Inv X pins σ H s)(hl:Aj X.K H l xs)(AW:0<xs.length)(turn:OX X σ H q xs kf)
  (hR:∀i v u s' H',xs[i]? =some v->E1 kf i xs.length->Inv X pins σ H' s'->Aa H H'->RelV v u->Qr u s'):
  wpAny (model X.prog X.w) X.A (call (.builtin "max") [.ref l] [(Str.ofString "key",.ref q)]) Qr E s:=by
 have nm:(toString "max" ++toString ".loop" :String)= "max.loop" :=by decide
 obtain⟨its,pl,rv,ne,I2,it,fp,fr⟩:=zc I hl;refine kmk_tree PySem.F.kind_max PySem.F.plain_max PySem.F.entry_max (sd _ _) ?_;refine wpAny_bind (wpAny_of_eq (show Builtin.Builtins.bindParams "max" ["key","default"] 0 ⟨[],[(Str.ofString "key",.ref q)]⟩=pure [some (.ref q),none]from rfl) ?_);refine wpAny_bind (wpAny_pure ?_);refine wpAny_bind (wpAny_pyIter_list pl ?_);refine wpAny_bind (wpAny_newList ?_ (afk _));rw[nm];refine wpAny_pure ⟨plainId_quiet plain_max_loop _,?_⟩;generalize hS:(s.heap.push {cls:=.type "list_iterator",data:=.fields #[.ref l,.int 0 0]}).objs.size=S at*;generalize hb:s.heap.objs.size=b at*;have sm:Aa H (upd H S (.lst [])):=Aa.ax fr;obtain⟨C7,NV,X3,_⟩:=I2.list (sm.seq hl);have W:=agC (prog:=X.prog) (w:=X.w) (A:=X.A.in1) (I2.ok.hd hc) b l ne C7.toArray;have sz:C7.toArray.size=xs.length:=by rw[afd,<-NV.length]
 obtain⟨_,bits,n,rb,_,eS⟩:=I2.gH ae;cases rb;refine codeAny_builtin entry_max_loop ?_;rw[afW plain_max_loop _];show wpAny _ X.A.in1 (seqItems? (.ref S)>>=_) _ _ _;refine wpAny_bind (wpAny_seqItems eS RR ?_);show wpAny _ X.A.in1 (tryCatch (pyNext (.ref b)) _>>=_) _ _ _;refine wpAny_bind (wpAny_tryCatch (W.item 0 _ _ _ (by rw[sz];exact AW) ⟨it,X3.isList⟩ λu h' Mo hP M0 L3=>?_));have I1:=I2.gC (tk:=Mo) fp L3;obtain⟨y,hy⟩:∃y,xs[0]? =some y:=⟨_,afu AW⟩;have ru:RelV y u:=by
  obtain⟨u0,ZQ,Y7⟩:=NV.get hy;have e0:C7[0]? =some u:=by simpa using hP
  rw[ZQ]at e0;cases e0;exact Y7
 obtain⟨oI,Z3,VT,M5⟩:=id M0.1;have hd:∀v,oI.data≠.cell v:=λv z=>by rw[M5]at z;cases z
 have I1p:=I1.iQ (pins':=(b,oI)::pins) λp hp=>by
  rcases ae5.mp hp with rfl|hp;·exact⟨Z3,fp.1,fp.2.1,fp.2.2.1,hd⟩
  ·exact I1.pin p (afC _ hp)
 refine wpAny_bind (wpAny_tryCatch (wpAny_holding (wpAny_mono (turn 0 y hy _ _ _ u I1p sm ru) (λkx s2 he=>?_) λ_ _ hF=>hF.elim)));obtain⟨z,H2,I3,rz,VJ,rfl⟩:=he;obtain⟨tz,rfl⟩:=rz;have pb:=I3.pin (b,oI) (afC _ aff);have VX:DW X.in1 pins H2 b:=fp.same pb.2.1;have X5:s2.heap.IsListIter b l 1:=⟨oI,pb.1,VT,M5⟩;have I4:Inv X.in1 pins σ H2 s2:=I3.iQ λp hp=>I3.pin p (afC _ (ae6 _ hp));have GF:H2 S=some (.lst []):=VJ.lst ae;have bS:b≠S:=λz=>by have:=GF;rw[<-z,pb.2.1]at this;cases this
 obtain⟨_,bits,n,VL,_,Xr⟩:=I4.gH GF;cases VL;show wpAny _ X.A.in1 (updateSeq S (λ_=>#[u,.int (kf 0) tz])>>=_) _ _ _;refine wpAny_bind ?_;refine wpAny_updateSeq Xr RR ?_;rw[nm];have I5:=I4.pj (f:=λ_=>#[u,.int (kf 0) tz]) (its':=[u,.int (kf 0) tz]) (ys:=[y,.int (kf 0)]) (t':=s2.toks) GF Xr RR (.cons ru (.cons ⟨tz,RR⟩ .nil)) cQ;refine wpAny_pure ⟨plainId_quiet plain_max_loop _,zO kf hc hl fr ne turn (λi v u s' H' h1 h2 h3 h4 h5=>hR i v u s' H' h1 h2 h3.uJ h4 h5) _ 0 0 _ _ y RR AW ⟨I5,(sm.trans VJ).aL fr (aw GF RR),ae,?_,VX.same (by rw[ai bS];exact VX.1)⟩ hy (ae8 _) ?_⟩;·exact X5.at λo e=>(afY _ _ (afA bS)).trans e
 ·intro k hk;have e:k=0:=by omega
  subst e;exact⟨ahO _,λz=>absurd z (afM _)⟩
def Ev.ea1(h:Ev X e σ H Q1)(hs:starEach [e] X.env=(false,eval e X.env)::starEach [] X.env):Ea X [e] σ H λws H1=>∃v,ws=[v]/\Q1 v H1:=aa (h.mono λv H1 q=>ab ⟨v,RR,q⟩) hs
def lE{p kp:Pos}(hc:X.calm=true)(hr:Bm (k+2) X.A)(L:RM X params body scope pos x names)(W:Ui X c P)(Aad:Dl X σ scope.names (names.zip vs))(W7:names.length=vs.length)(hg:Gl X "max")(hm:X.mg "max" =none)
  (h:Ev X e σ H λv H1=>(BL λ(l:Addr) (xs:List V) (kf:Nat->Int)=>Dn (v= .ref l) (Aj X.K H1 l xs) (0<xs.length) ((∃ps,H1 P=some (.F8 ps)/\Bs H1 ps)) ((∀i v,xs[i]? =some v->∀f H',Aa H1 H'->OW X k (Pn pos.line) body scope f x names vs v H' λz Ls=>Aa H' Ls/\z= .int (kf i))) (∀i v H',xs[i]? =some v->E1 kf i xs.length->Aa H1 H'->Q v H')))
  (he:backTo BN (starEach [e] X.env)=(false,eval e X.env)::backTo BN (starEach [] X.env):=by rfl)(B8:(backTo BN (starEach [e] X.env)).any (·.1)=false:=by rfl)(hs:starEach [e] X.env=(false,eval e X.env)::starEach [] X.env:=by rfl):Ev X (.Call (.Name "max" p) [e] [⟨some "key",.Lambda params body scope pos,kp⟩] BN) σ H Q:=by
 refine⟨λpins s I=>wpAny_Call_Name_kw (fS I hg hm ahJ ?_ (by decide) (by decide))⟩;refine callWith_kw (oW ((h.ea1 hs).run BN pins s I) λus s1 ws H1 I1 r1 q=>?_) he B8 RR RR;obtain⟨v,ev,l,xs,kf,el,hl,AW,hP,hb,q⟩:=q;subst ev;subst el;rw[Vals.ni r1];refine oW (wb (kpos:=kp) aF zt BN pins s1 σ H1 (λzs H2=>(∃f,Av (zs=[.ref f]) (Aa H1 H2) (Lr X params body scope pos f H2))) I1 (rQ L W hP λf H2 hf sm SR=>⟨f,RR,sm,SR⟩)) λzs s2 ws2 H2 I2 rz q=>?_;obtain⟨f,e2,sm,SR⟩:=q;subst e2;rw[Vals.ni rz];refine abO kf hc I2 (sm.seq hl) AW ?_ λi v u s' H' h1 h2 I' Cq r'=>⟨v,H',I',r',q i v H' h1 h2 (sm.trans Cq)⟩;intro i v hv pins' s' H' u I' Cq ru;refine wpAny_call (codeAny_mono (nM (E:=E0) L hr.in1 I'.yp W7 (SR.mono Cq) (I'.uJ.yF Aad) ru (hb i v hv f H' (sm.trans Cq))) λr s3 hq=>?_);cases r with
 |error e=>exact hq
 |ok fl=>
  cases fl with
  |ret u=>exact I'.after hq
  |next=>exact False.elim hq
  |brk=>exact False.elim hq
  |cont=>exact False.elim hq
def iD:Dl X σ [] []:=rfl
def cP{v:V}(i:Nat)(h:Dl X σ r cv)(h1:X.N[i]? =some x:=by rfl)(h2:σ[i]? =some (some v):=by rfl)(h3:X.env.kindOf x=some .cell\/X.env.kindOf x=some .free:=by first|exact Or.inl RR|exact Or.inr RR):Dl X σ ((x,.free)::r) ((x,v)::cv):=⟨v,cv,RR,⟨i,h1,h2⟩,h3,h⟩
def df(h:Dl X σ r cv)(hk:(k==NameKind.free)=false:=by rfl):Dl X σ ((x,k)::r) cv:=by unfold Dl;rw[hk];exact h
def fh{sc scope:Scope}{env:Env}(he:∀y,env.kindOf y=sc.names.lookup y)(h:scope.names.all (λy=>!(y.2==NameKind.free)||(sc.names.lookup y.1==some .cell))=true):∀y∈scope.names,y.2= .free->env.kindOf y.1=some .cell\/env.kindOf y.1=some .free:=by intro y hy hf;have:=afj.mp h y hy;simp_all
def Dj{α:Type}(f:α->Nat)(d:α):List α->α
 |[]=>d
 |a::l=>l.foldl (λb x=>if f b<f x then x else b) a
def Kg{α:Type}(f:α->Nat)(l:List α)(j:Nat):Int:=match l[j]? with
 |some y=>(f y:Int)
 |none=>0
def wt{r:List α}(h:j<l.length):Kg f (l++r) j=Kg f l j:=by unfold Kg;rw[afs h]
def fold_max:∀(l pre:List α)(b:α)(j:Nat),pre[j]? =some b->E1 (Kg f pre) j pre.length->
  ∃j',(pre++l)[j']? =some (l.foldl (λb x=>if f b<f x then x else b) b)/\E1 (Kg f (pre++l)) j' (pre++l).length
 |[],pre,b,j,h1,h2=>⟨j,by simpa using h1,by simpa using h2⟩
 |x::l,pre,b,j,h1,h2=>by
  have hj:j<pre.length:=(ae3.mp h1).1;have kx:Kg f (pre++[x]) pre.length=(f x:Int):=by unfold Kg;simp
  have kb:Kg f (pre++[x]) j=(f b:Int):=by rw[wt hj];unfold Kg;rw[h1]
  have key:∃j',(pre++[x])[j']? =some (if f b<f x then x else b)/\E1 (Kg f (pre++[x])) j' (pre++[x]).length:=by
   have e2:(pre++[x]).length=pre.length+1:=by simp
   have old:∀k,k<pre.length->Kg f (pre++[x]) k<=(f b:Int)/\(k<j->Kg f (pre++[x]) k<(f b:Int)):=λk hk=>by
    have:=h2 k hk;have kb':Kg f pre j=(f b:Int):=by unfold Kg;rw[h1]
    rw[kb']at this;rw[wt hk];exact this
   by_cases c:f b<f x
   ·refine⟨pre.length,by rw[if_pos c];simp,λk hk=>?_⟩;rw[kx];rw[e2]at hk;by_cases e:k=pre.length;·subst e;exact⟨by rw[kx];exact ahO _,λz=>absurd z (afM _)⟩
    ·have:=(old k (by omega)).1;exact⟨by omega,λ_=>by omega⟩
   ·refine⟨j,by rw[if_neg c,afs hj];exact h1,λk hk=>?_⟩;rw[kb];rw[e2]at hk;by_cases e:k=pre.length;·subst e;rw[kx];exact⟨by omega,λz=>by omega⟩
    ·exact old k (by omega)
  obtain⟨j',k1,k2⟩:=key;obtain⟨j2,q1,q2⟩:=fold_max l (pre++[x]) _ j' k1 k2;refine⟨j2,?_,?_⟩;·rw[List.append_cons];exact q1
  ·rw[List.append_cons];exact q2
def r_{x:α}(h:E1 (Kg f l) i l.length)(hx:l[i]? =some x):x=Dj f d l:=by
 cases l with
 |nil=>simp at hx
 |cons a l=>
  obtain⟨j,h1,h2⟩:=fold_max (f:=f) l [a] a 0 RR (λk hk=>by
   have:k=0:=by simpa using hk
   subst this;exact⟨ahO _,λz=>absurd z (afM _)⟩);have R9:(a::l)[j]? =some (Dj f d (a::l)):=h1;have Xn:E1 (Kg f (a::l)) j (a::l).length:=h2;have hi:=(ae3.mp hx).1;have hj:=(ae3.mp R9).1;have e:i=j:=by
   have q1:=h j hj;have q2:=Xn i hi;rcases Nat.lt_trichotomy i j with z|z|z;·have:=q2.2 z;omega
   ·exact z
   ·have:=q1.2 z;omega
  subst e;rw[R9]at hx;exact(ae2 hx).symm
def iK{l:List α}(h:l≠[]):Dj f d l∈l:=by
 cases l with
 |nil=>exact absurd RR h
 |cons a l=>
  have:∀(r:List α)(b:α),b∈a::l->(∀x∈r,x∈a::l)->r.foldl (λb x=>if f b<f x then x else b) b∈a::l:=by
   intro r;induction r with
   |nil=>intro b hb _;exact hb
   |cons x r ih=>intro b hb hr;rw[afz];exact ih _ (by split;exact hr x (aff ..);exact hb) λy hy=>hr y (ae6 _ hy)
  exact this l a (aff ..) λx hx=>ae6 _ hx
noncomputable def freeOf(m:Nat)(tk:Ae):Ae:=(List.range m).filter λo=>!tk.contains o
noncomputable def taken(M:Sm)(ord:Ae)(lk:Nat):Nat->Ae->Ae
 |0,tk=>tk
 |r+1,tk=>if lk.testBit (ord.getD tk.length 0)then Dj (λe=>Bu M ord e (ord.getD tk.length 0)) [] ((freeOf M.offices tk).map λo=>taken M ord lk r (tk++[o]))
  else taken M ord lk r (tk++[Dj (λo=>(pt M (ord.getD tk.length 0)).worth.getD o 0) 0 (freeOf M.offices tk)])
def jw:∀{l t:Ae},l.Nodup->(∀x∈l,x∈t)->l.length<=t.length
 |[],t,_,_=>afk _
 |a::l,t,hn,hs=>by have ha:=hs a (aff ..);have:=jw (t:=t.erase a) (afN.mp hn).2 λx hx=>(List.mem_erase_of_ne (λz=>(afN.mp hn).1 (by rw[<-z];exact hx))).mpr (hs x (ae6 _ hx));grind
def mS(h:tk.length<m):freeOf m tk≠[]:=λe=>by
 have:=jw List.nodup_range λx hx=>by have:=agl.mp e x hx;simpa using this
 grind
def iZ(h:o∈freeOf m tk):o<m:=by simpa using(afp.mp h).1
def jU{tk:Ae}(h:∀x∈tk,x<m)(ho:o<m):∀x∈tk++[o],x<m:=λx hx=>by
 rcases afE.mp hx with z|z;·exact h x z
 simp_all
def g9(M:Sm)(ord:Ae)(lk:Nat):∀(r:Nat)(tk:Ae),tk.length+r=M.offices->(∀x∈tk,x<M.offices)->(taken M ord lk r tk).length=M.offices/\∀x∈taken M ord lk r tk,x<M.offices
 |0,tk,h,ht=>⟨h,ht⟩
 |r+1,tk,h,ht=>by
  have AW:=mS (m:=M.offices) (tk:=tk) (by omega);unfold taken;split;·obtain⟨o,ho,e⟩:=afw.mp (iK (d:=[]) (by simpa using AW));rw[<-e];exact g9 M ord lk r _ (by rw[afg];simp;omega) (jU ht (iZ ho))
  ·exact g9 M ord lk r _ (by simp;omega) (jU ht (iZ (iK AW)))
def dC(M:Sm)(ord:Ae)(lk r:Nat)(tk:Ae):taken M ord lk (r+1) tk=if lk.testBit (ord.getD tk.length 0)then Dj (λe=>Bu M ord e (ord.getD tk.length 0)) [] ((freeOf M.offices tk).map λo=>taken M ord lk r (tk++[o]))
  else taken M ord lk r (tk++[Dj (λo=>(pt M (ord.getD tk.length 0)).worth.getD o 0) 0 (freeOf M.offices tk)]):=rfl
def LR{α:Type}(H0:Hp)(row:α->Ae):α->V->Hp->Prop:=λy z H=>∃p,z= .ref p/\H0 p=none/\H p=some (.lst (nums (row y)))
def l9(y:α)(z:V)(H H':Hp)(h:LR H0 row y z H)(s:Qt H H'):LR H0 row y z H':=by obtain⟨p,e,h0,hp⟩:=h;exact⟨p,e,h0,s _ _ hp⟩
def Y8(H:Hp)(t:Addr)(xs:List V)(Q:VK):Prop:=∀p H',Aa H H'->(p=t\/H p=none)->H' p=some (.lst xs)->Q (.ref p) H'
def nz(a b:Ae):nums (a++b)=nums a++nums b:=by unfold nums;rw[afK]
def Sn(ad:Ad)(r:Nat):Sp:=λvs H Q _=>Qi λ(a o t:Addr) (M:Sm) (ord tk:Ae) (lk:Nat)=>Ow (vs=[.ref a,.ref o,.ref t,.int lk]) (Ai ad H a M) (H o=some (.lst (nums ord))) (H t=some (.lst (nums tk))) (ord.length=M.offices) (∀x∈ord,x<M.nP) (tk.length+r=M.offices) (∀x∈tk,x<M.offices) (Y8 H t (nums (taken M ord lk r tk)) Q)
def eg(T:Txt kK mg aD base):∀r,Ab P w kK mg base (3*r+4) "all_taken" (Sn aD r):=by
 intro r;induction r with
 |zero=>
  refine mkL T.l.DH bP (k:=3*0+3) (λvs H Q E h=>?_) (λf c A outer s H vs Q E hh hr h=>?_);·obtain⟨a,o,t,M,ord,tk,lk,rfl,_⟩:=h;rfl
  ·obtain⟨a,o,t,M,ord,tk,lk,rfl,hS,ho,ht,L0,Yc,hl,Bz,q⟩:=h;refine ag<|aW<|aV bO (aJ _)<|aX RR T.c.AV<|af 2 ⟨t,_,RR,Aj.of ht,aX RR T.c.AV<|af 1 ⟨o,_,RR,Aj.of ho,RR,_,RR,?_⟩⟩;rw[decide_eq_true (by rw[aq,aq];congr 1;omega),if_pos RR];exact ah<|aj<|af 2<|q t H (Aa.refl _) (.inl RR) ht
 |succ r ih=>
  refine mkL T.l.DH bP (k:=3*(r+1)+3) (λvs H Q E h=>?_) (λf c A outer s H vs Q E hh hr h=>?_);·obtain⟨a,o,t,M,ord,tk,lk,rfl,_⟩:=h;rfl
  ·obtain⟨a,o,t,M,ord,tk,lk,rfl,hS,ho,ht,L0,Yc,hl,Bz,q⟩:=h;have hm:=hS.good.m2;have W4:ord[tk.length]? =some (ord.getD tk.length 0):=by rw[afB];simp[show tk.length<ord.length by omega]
   generalize hi:ord.getD tk.length 0=i at*;have L4:i<M.nP:=Yc i (afa W4);have gi:=bU hS.good L4;obtain⟨dx,pl,ll,hl',HQ,ps,S⟩:=hS.ex;refine ag<|aW<|aV bO (aJ _)<|aX RR T.c.AV<|af 2 ⟨t,_,RR,Aj.of ht,aX RR T.c.AV<|af 1 ⟨o,_,RR,Aj.of ho,RR,_,RR,?_⟩⟩;rw[decide_eq_false (by rw[aq,aq];intro z;injection z with z;omega),if_neg ae0];refine aA ?_;refine ag<|bJ 4 bP.sc.nd RR (Or.inr RR)<|bg bj<|af 1<|aX RR T.c.AV<|af 2 ⟨t,_,RR,Aj.of ht,o,_,_,_,RR,RR,Aj.of ho,aS (aU (by rw[aq];exact W4)),?_⟩;refine ag<|cI (i:=5) RR bP.sc.nd RR RR (own:=[("office",6)]) (aB (by kernel_rfl)) (λ_ _ _ _ _=>cT 6 bP.sc.nd)<|yZ (α:=Nat) (pr:=λx=>!tk.contains x) (f:=λx=>.int (x:Nat))<|
    cn RR T.c.Ck<|aa<|aE 0 S T T.m.AS bX<|ab ⟨_,RR,?_,_,_,bu,?_,?_,?_,?_⟩;·omega
   ·rw[afi];exact small hm
   ·intro y hy H' sm s0 H0 C cl fp;refine bp<|aV gF (by with_unfolding_all rfl)<|af 6<|af 2 ⟨t,_,RR,.inl (Aj.of (sm _ _ ht)),RR,eY tk,_,RR,Aa.refl _,?_⟩;rw[if_pos RR,gh]
   ·intro y hy _ H' sm s0 H0 C cl fp;exact af 6 ⟨Aa.refl _,RR⟩
   ·intro fr H1 Xa s1 e1;have e1:H1 fr=some (.lst (nums (freeOf M.offices tk))):=e1;have hS1:=hS.mono s1;have AW:=mS (m:=M.offices) (tk:=tk) (by omega);have hfl:(freeOf M.offices tk).length<=5:=by have:(freeOf M.offices tk).length<=(List.range M.offices).length:=afh _ _;rw[afi]at this;omega
    refine ag<|aW<|aO<|ao (gQ T) hr<|af 3<|aa<|af 4<|ab ⟨lk,i,RR,by have:=hS.good.n5;omega,_,RR,?_⟩;refine ite_bool (λhb=>?_) (λhb=>?_);·
     refine ag<|cI (i:=7) RR bP.sc.nd RR RR (own:=[("office",6)]) (aB (by kernel_rfl)) (λ_ _ _ _ _=>cT 6 bP.sc.nd)<|sv (α:=Nat) (rel:=LR H λx=>taken M ord lk r (tk++[x])) l9<|
      aQ<|af 5 ⟨fr,RR,⟨_,Aj.of e1⟩,freeOf M.offices tk,_,az (Aj.of e1),small hfl,?_,?_⟩
     ·intro y hy D acc H2 s2 hD s0 H0 C cl fp;have C1:=s1.trans s2;refine ao ih hr<|af 0<|aa<|af 1<|aa<|a0 eE<|af 2<|ay<|aa<|af 6<|ab ⟨bq,λp hp=>⟨t,p,_,_,RR,RR,Aa.ax hp _ _ (C1 _ _ ht),ae,?_,λt' NI=>?_⟩⟩;·rw[aq];exact small (show tk.length+1<=5 by omega)
      ·have Lm:H2 t'=none:=(Aa.ax hp).free NI;have s3:=(Aa.ax hp (o:=.lst [.int (y:Nat)])).aL (o:=.lst (nums tk++[.int (y:Nat)])) Lm (aM NI);have RY:=C1.trans s3;refine aa<|af 3<|ab ⟨a,o,t',M,ord,tk++[y],lk,RR,hS.mono RY,RY _ _ ho,by rw[ae,nz];rfl,L0,Yc,by rw[afg];simp;omega,jU Bz (iZ hy),λpp H3 s4 U6 e3=>⟨s3.trans s4,pp,RR,U6.elim (λz=>by rw[z];exact C1.free Lm) (λz=>RY.free z),cW e3 ?_⟩⟩;rintro rfl;rcases U6 with z|z;·rw[z,Lm]at hD;cases hD
       ·rw[s3.free z]at hD;cases hD
     ·intro en H2 zs Vc s2 eD rel;have C1:=s1.trans s2;have hS2:=hS.mono C1;have zl:zs.length=((freeOf M.offices tk).map λx=>taken M ord lk r (tk++[x])).length:=by rw[rel.1,ae1]
      have zat:∀(j:Nat) v,zs[j]? =some v->(Au λp e=>B9 (v= .ref p) (H p=none) (((freeOf M.offices tk).map λx=>taken M ord lk r (tk++[x]))[j]? =some e) (H2 p=some (.lst (nums e))) (∀x∈e,x<M.offices)):=λj v hv=>by
       have hj:j<(freeOf M.offices tk).length:=by rw[<-rel.1];exact(ae3.mp hv).1
       have hg:(freeOf M.offices tk)[j]? =some (freeOf M.offices tk)[j]:=by simp[hj]
       obtain⟨p,e,VS,hp⟩:=rel.2 j _ v hg hv;refine⟨p,_,e,VS,by rw[afc,hg];rfl,hp,?_⟩;exact(g9 M ord lk r _ (by rw[afg];simp;omega) (jU Bz (iZ (afa hg)))).2
      refine ah<|aj<|lE (k:=1) (x:="end") (names:=["order","party","state"]) (vs:=[.ref o,.int i,.ref a]) RR (hr.mono (by omega)) ⟨RR,fh (sc:=Ap CK) (λ_=>rfl) (by kernel_rfl),by kernel_rfl,⟨RR,RR,RR,by decide+kernel,by kernel_rfl,by decide+kernel,by decide+kernel⟩,λ_ _ _ _ _ _=>by kernel_rfl⟩ ⟨RR,hh,T.l.bm⟩
       (df<|cP 1<|cP 4<|cP 0<|df iD) RR RR T.c.ID<|af 7 ⟨en,zs,Kg (λe=>Bu M ord e i) ((freeOf M.offices tk).map λx=>taken M ord lk r (tk++[x])),RR,Aj.of eD,?_,hS2.tabs.all,?_,?_⟩;·rw[zl,ae1];exact af6.mpr AW
      ·intro j v hv ff H3 s3 c' A' LF s' cl' I0;obtain⟨p,e,rfl,VS,he,hp,Xc⟩:=zat j v hv;have RY:=C1.trans s3;refine bQ (vD T) I0 RR<|aa<|af 3<|aa<|af 1<|aa<|af 0<|aa<|af 2<|ab ⟨a,o,p,M,ord,e,i,RR,hS.mono RY,RY _ _ ho,s3 _ _ hp,by omega,Xc,L4,λH4 s4=>⟨s4,?_⟩⟩;unfold Kg;rw[he]
      ·intro j v H3 hv M6 s3;obtain⟨p,e,rfl,VS,he,hp,Xc⟩:=zat j v hv;rw[zl]at M6;have ee:=r_ (d:=[]) M6 he;refine q p H3 (C1.trans s3) (.inr VS) ?_;rw[s3.lst hp,ee,dC,hi,if_pos hb]
    ·have hgt:∀x,x∈freeOf M.offices tk->(pt M i).worth[x]? =some ((pt M i).worth.getD x 0):=λx hx=>getD_at (by rw[gi.wl];exact iZ hx);obtain⟨dx1,pl1,ll1,OJ,PN,ps1,S1⟩:=hS1.ex;refine aA ?_;refine ag<|bJ 8 bP.sc.nd RR (Or.inr RR)<|kq T<|fG 0 S1 T<|af 4 ⟨i,RR,L4,Aa.refl _,λb HD=>⟨b,RR,HD,λtw LY=>?_⟩⟩;refine ag<|aP 9 bP.sc.nd<|lE (k:=1) (x:="office") (names:=["worth"]) (vs:=[.ref tw]) RR (hr.mono (by omega)) ⟨RR,fh (sc:=Ap CK) (λ_=>rfl) (by kernel_rfl),by kernel_rfl,⟨RR,RR,RR,by decide+kernel,by kernel_rfl,by decide+kernel,by decide+kernel⟩,λ_ _ _ _ _ _=>by kernel_rfl⟩ ⟨RR,hh,T.l.bm⟩
      (df<|cP 8 iD) RR RR T.c.ID<|af 5 ⟨fr,nums (freeOf M.offices tk),Kg (λx=>(pt M i).worth.getD x 0) (freeOf M.offices tk),RR,Aj.of e1,?_,hS1.tabs.all,?_,?_⟩;·rw[aq];exact af6.mpr AW
     ·intro j v hv ff H3 s3 c' A' LF s' cl' I0;unfold nums at hv;rw[afc]at hv;obtain⟨y,hy,rfl⟩:=afL.mp hv;refine bg cR<|af 1<|af 0 ⟨tw,_,_,_,RR,RR,Cd.of (s3 _ _ LY),aS (aU (hgt y (afa hy))),Aa.refl _,?_⟩;unfold Kg;rw[hy]
     ·intro j v H3 hv M6 s3;unfold nums at hv;rw[afc]at hv;obtain⟨y,hy,rfl⟩:=afL.mp hv;rw[aq]at M6;have ee:=r_ (d:=0) M6 hy;have hyf:=iZ (afa hy);have RY:=s1.trans s3;refine ah<|aj<|ao ih hr<|af 0<|aa<|af 1<|aa<|a0 eE<|af 2<|ay<|aa<|af 9<|ab ⟨bq,λp hp=>⟨t,p,_,_,RR,RR,Aa.ax hp _ _ (RY _ _ ht),ae,?_,λt' NI=>?_⟩⟩;·rw[aq];exact small (show tk.length+1<=5 by omega)
      ·have Lm:H3 t'=none:=(Aa.ax hp).free NI;have s4:=(Aa.ax hp (o:=.lst [.int (y:Nat)])).aL (o:=.lst (nums tk++[.int (y:Nat)])) Lm (aM NI);have X1:=RY.trans s4;refine aa<|af 3<|ab ⟨a,o,t',M,ord,tk++[y],lk,RR,hS.mono X1,X1 _ _ ho,by rw[ae,nz];rfl,L0,Yc,by rw[afg];simp;omega,jU Bz hyf,λpp H4 s5 U6 e4=>q pp H4 (X1.trans s5) (.inr ?_) ?_⟩
       ·rcases U6 with z|z;·rw[z];exact RY.free Lm
        ·exact X1.free z
       ·rw[e4,ee,dC,hi,if_neg (by rw[hb];exact ae0)]
def vj(l:Addr)(items:Array Value)(n:Nat)(b:Addr)(CC:Array Value)(n2:Nat)(dd:Option Addr)(sl:Array (O2))(LZ:¬(!items.isEmpty&&Builtin.List.listTooLong (items.size+CC.size))=true)(hs1:items.size<=sizeLine)(OI:items.size+CC.size<=sizeLine+1):
  Meets (Builtin.«list.extend» ⟨[.ref l,.ref b],[]⟩) (λ_ R s=>s.heap.get? l=some {cls:=.type "list",dict:=none,data:=.seq items n,slots:=#[]}/\s.heap.get? b=some {cls:=.type "tuple",dict:=dd,data:=.seq CC n2,slots:=sl}/\R (.ok (.ret Value.none)) {s with heap:=s.heap.update l (Obj.mapSeq λx=>x++CC),toks:=s.toks}):=
 .of_wp λprog w A R s h=>by
  obtain⟨hl,hb,h⟩:=h;have UY:(items++CC).size<=sizeLine+1:=by simp_all
  wp_walk using(wpAny_updateSeq hl RR (hz:=hs1) (_hz':=UY)),wpAny_loadPart' hl,wpAny_loadPart' hb;exact⟨_,RR,h⟩
def uM:XC X "list.extend" (λx vs H Q=>(CO λl b xs zs=>Dn (x= .ref l) (vs=[.ref b]) (H l=some (.lst xs)) (Cd X.K H b zs) (xs.length+zs.length<=sizeLine) (Q .BM (upd H l (.lst (xs++zs)))))):=by
 intro pins s σ H x vs v us Q I rx rv h;obtain⟨l,b,xs,zs,rfl,rfl,hH,hB,hz,q⟩:=h;cases rx;obtain⟨u,rfl,ru⟩:=rv.one;cases ru;obtain⟨z,its,n,r,hl,e⟩:=I.gH hH;obtain⟨C7,r2,⟨⟨cls,dd,data,sl⟩,e2,hc,n2,hd⟩,_⟩:=I.tuple hB;simp only at hc hd;subst hc hd;have Rm:=r2.length;have hsz:its.toArray.size+C7.toArray.size<=sizeLine:=by rw[afd,afd];omega
 have Rl:¬(!its.toArray.isEmpty&&Builtin.List.listTooLong (its.toArray.size+C7.toArray.size))=true:=by rw[sU hsz,Bool.and_false];exact ae0
 refine call_meets F.slot_list_extend ⟨_,e,RR⟩ F.entry_list_extend (F.args_list_extend_2 _ _) (vj l its.toArray n b C7.toArray n2 dd sl Rl (by rw[afd];omega) (by omega)) ⟨e,e2,?_⟩;refine⟨.BM,_,I.pj hH e (by simp) (r.append r2) ?_,RR,q⟩;rw[afg];omega
def xP:XC X "list.count" (λx vs H Q=>(BL λ(l:Addr) (ns:Am) (k:Int)=>BO (x= .ref l) (vs=[.int k]) (Aj X.K H l (ns.map V.int)) (Q (.int (ns.count k:Nat)) H))):=by rintro pins s σ H x vs v us Q I rx rv ⟨l,ns,k,rfl,rfl,hs,q⟩;cases rx;obtain⟨u,rfl,t,rfl⟩:=rv.one;obtain⟨its,r,pl,_⟩:=I.list hs;exact count_list_ints pl.isList r.ints ⟨.int _,H,I.tok _,⟨_,RR⟩,q⟩
def tW(h:o∈freeOf m tk):o∉tk:=by have:=(afp.mp h).2;simpa using this
def m8{tk:Ae}(h:tk.Nodup)(ho:o∉tk):(tk++[o]).Nodup:=by rw[agu];exact⟨h,by simp,λa ha b hb=>by rw[afm.mp hb];exact λz=>ho (z▸ha)⟩
def g_(M:Sm)(ord:Ae)(lk:Nat):∀(r:Nat)(tk:Ae),tk.length+r=M.offices->tk.Nodup->(taken M ord lk r tk).Nodup
 |0,tk,h,ht=>ht
 |r+1,tk,h,ht=>by
  have AW:=mS (m:=M.offices) (tk:=tk) (by omega);rw[dC];split;·obtain⟨o,ho,e⟩:=afw.mp (iK (d:=[]) (by simpa using AW));rw[<-e];exact g_ M ord lk r _ (by simp;omega) (m8 ht (tW ho))
  ·exact g_ M ord lk r _ (by simp;omega) (m8 ht (tW (iK AW)))
def Df(M:Sm)(g lk:Nat):Ae:=taken M (order M g) lk M.offices []
def iN(M:Sm)(g lk:Nat):(Df M g lk).length=M.offices:=(g9 M _ lk M.offices [] (by simp) (by simp)).1
def qM(M:Sm)(g lk:Nat):∀x∈Df M g lk,x<M.offices:=(g9 M _ lk M.offices [] (by simp) (by simp)).2
def p_(M:Sm)(g lk:Nat):(Df M g lk).Nodup:=g_ M _ lk M.offices [] (by simp) (by simp)
def hC(h:o<M.offices):o∈Df M g lk:=by
 by_cases hm:o∈Df M g lk;·exact hm
 ·have:=jw (t:=List.range M.offices) (afN.mpr ⟨hm,p_ M g lk⟩) λx hx=>by
   rcases ae5.mp hx with z|z;·rw[z];simpa using h
   ·simpa using qM M g lk x z
  rw[afi,afG,iN]at this;omega
noncomputable def hold(M:Sm)(g lk:Nat):Ae:=(List.range M.offices).map λo=>(order M g).getD ((Df M g lk).idxOf o) 0
def adv{l:Ae}(h:o∈l):l[l.idxOf o]? =some o/\∀m z,m<l.idxOf o->l[m]? =some z->z≠o:=by
 refine⟨?_,λm z hm hz e=>?_⟩;·rw[ae3];exact⟨ags h,List.getElem_idxOf ..⟩
 ·subst e;obtain⟨h1,h2⟩:=ae3.mp hz;have:=List.not_of_lt_findIdx hm;simp[h2]at this
def Bl(g k:Nat):Nat:=if k=1 then g else 0
def FZ(M:Sm)(g lk:Nat):Ae:=(mem M g).map λi=>Bu M (order M g) (Df M g lk) i
def HU(M:Sm)(ho:Ae)(o p:Nat):Bool:=decide ((pt M (ho.getD o 0)).worth.getD o 0<(pt M (ho.getD o 0)).worth.getD p 0)
def FY(M:Sm)(ho:Ae)(n o k:Nat):List (Nat×Nat):=((List.range' (o+1) k).filter λp=>HU M ho o p&&HU M ho p o).map λp=>(o,p)
def ES(M:Sm)(ho:Ae)(k:Nat):List (Nat×Nat):=(List.range k).flatMap λo=>FY M ho ho.length o (ho.length-(o+1))
def G2(M:Sm)(ho:Ae):List (Nat×Nat):=ES M ho ho.length
def FO(l:List (Nat×Nat)):Am:=(l.length:Int)::l.flatMap λx=>[(x.1:Int),(x.2:Int)]
abbrev AQ:Nat×Nat->V->Hp->Prop:=GI λx=>[(x.1:Int),(x.2:Int)]
def Pa(ad:Ad):Sp:=λvs H Q _=>CO λ(a:Addr) (M:Sm) (g lk:Nat)=>B9 (vs=[.ref a,.int g,.int lk]) (Ai ad H a M) (1<=g) (g<=As M) (C6 H (nums (hold M g lk)) Q)
def fz(T:Txt kK mg aD base):Bx P w T 20 "holders_by_turns" (Pa aD):=by
 refine bt T.d.HP bG ?_;rintro bo H vs Q E hr ⟨a,M,g,lk,rfl,hS,h1,h2,q⟩;have NK:=hS.good.m2;have AW:=cC h1 h2;refine ag<|bJ 3 bG.sc.nd RR (Or.inr RR)<|ao (b_ T) hr<|af 0<|aa<|af 1<|ab ⟨a,M,g,RR,hS,h1,h2,λo H1 s1 Rq eo=>?_⟩;refine ag<|bJ 4 bG.sc.nd RR (Or.inr RR)<|ao (eg T M.offices) hr<|af 0<|aa<|af 3<|aa<|ay<|ab ⟨afk _,λt ht=>aa<|af 2<|ab ⟨a,o,t,M,order M g,[],lk,RR,(hS.mono s1).mono (Aa.ax ht),Aa.ax ht _ _ eo,ae,bM M g,f_ AW,by simp,by simp,λtk H2 s2 VQ Ub=>?_⟩⟩;have sA:=s1.trans ((Aa.ax ht).trans s2);have Vn:H2 o=some (.lst (nums (order M g))):=s2 _ _ (Aa.ax ht _ _ eo);obtain⟨dx,pl,ll,hl,HQ,ps,S⟩:=(hS.mono sA).ex;refine ah<|aj<|bL (α:=Nat) (j:=5) (f:=λx=>.int ((order M g).getD ((Df M g lk).idxOf x) 0:Nat)) RR bG.sc.nd (aB (by kernel_rfl)) (λ_ _ _ _ _=>cT 5 bG.sc.nd)<|
  cn RR T.c.Ck<|aa<|aE 0 S T T.m.AS bX<|ab ⟨_,RR,by omega,_,_,bu,by rw[afi];exact small NK,?_,?_⟩
 ·intro y hy H' sm s0 H0 C cl fp;have G1:y<M.offices:=by simpa using hy
  obtain⟨i1,i2⟩:=adv (hC (g:=g) (lk:=lk) G1);have L4:(Df M g lk).idxOf y<(order M g).length:=by rw[bM,<-iN M g lk];exact(ae3.mp i1).1
  refine bg bj<|af 3<|ot plainAttrs_list slot_list_index ahu sW<|af 4 ⟨ty_list (Aj.of (sm _ _ Ub)),aa<|af 5<|ab ⟨tk,_,_,(Df M g lk).idxOf y,_,RR,RR,Aj.of (sm _ _ Ub),RR,eY _,aU i1,?_,?_,o,_,_,_,RR,RR,Aj.of (sm _ _ Vn),aS (aU (getD_at L4)),Aa.refl _,RR⟩⟩;·exact beq_self_eq_true _
  ·intro m z hm hz;unfold nums at hz;rw[afc]at hz;obtain⟨n,hn,rfl⟩:=afL.mp hz;show((n:Int)==(y:Int))=false;exact beq_false_of_ne λe=>i2 m n hm hn (by omega)
 ·intro D H' hD sm e;refine q D H' (sA.trans sm) (sA.free hD) ?_;rw[e];unfold hold nums;rw[afr];rfl
def O7:Sp:=λvs H Q _=>Au λg k:Nat=>RV (vs=[.int g,.int k]) (Q (.int (Bl g k:Nat)) H)
def kM(T:Txt kK mg aD base):Bx P w T 1 "lookers_of" O7:=by
 refine bt T.d.N9 rG ?_;rintro bo H vs Q E hr ⟨g,k,rfl,q⟩;unfold Bl at q;refine ah<|aj<|ku<|aV bO (aJ _)<|af 1<|au T.c.RW RR ⟨RR,_,RR,?_⟩;refine ite_bool (λe=>af 0 ?_) (λe=>au T.c.Dk RR ?_);·grind
 ·have:¬k=1:=λz=>by have:=of_decide_eq_false e;exact this (by rw[z];rfl)
  rw[if_neg this]at q;exact q
def Pb(ad:Ad):Sp:=λvs H Q _=>CO λ(a:Addr) (M:Sm) (g lk:Nat)=>B9 (vs=[.ref a,.int g,.int lk]) (Ai ad H a M) (1<=g) (g<=As M) (C6 H (nums (FZ M g lk)) Q)
def vC(T:Txt kK mg aD base):Bx P w T 20 "gains_of" (Pb aD):=by
 refine bt T.d.Rw fm ?_;rintro bo H vs Q E hr ⟨a,M,g,lk,rfl,hS,h1,h2,q⟩;have NK:=hS.good.m2;have AW:=cC h1 h2;refine ag<|bJ 3 fm.sc.nd RR (Or.inr RR)<|ao (b_ T) hr<|af 0<|aa<|af 1<|ab ⟨a,M,g,RR,hS,h1,h2,λo H1 s1 Rq eo=>?_⟩;refine ag<|bJ 4 fm.sc.nd RR (Or.inr RR)<|ao (eg T M.offices) hr<|af 0<|aa<|af 3<|aa<|ay<|ab ⟨afk _,λt ht=>aa<|af 2<|ab ⟨a,o,t,M,order M g,[],lk,RR,(hS.mono s1).mono (Aa.ax ht),Aa.ax ht _ _ eo,ae,bM M g,f_ AW,by simp,by simp,λtk H2 s2 VQ Ub=>?_⟩⟩;have sA:=s1.trans ((Aa.ax ht).trans s2);have Vn:=s2 _ _ (Aa.ax ht _ _ eo);refine ah<|aj<|bL (α:=Nat) (j:=5) (f:=λi=>.int (Bu M (order M g) (Df M g lk) i:Nat)) RR fm.sc.nd (aB (by kernel_rfl)) (λ_ _ _ _ _=>cT 5 fm.sc.nd)<|
  aQ<|ao (dg T) hr<|af 0<|aa<|af 1<|ab ⟨a,M,g,RR,hS.mono sA,λp H3 s3 hp e3=>⟨p,RR,⟨_,Aj.of e3⟩,mem M g,_,az (Aj.of e3),small (afe (fD M g) hS.good.n5),?_,?_⟩⟩;·intro y hy H' sm s0 H0 C cl fp;have sB:=s3.trans sm;exact ao (vD T) hr<|af 0<|aa<|af 3<|aa<|af 4<|aa<|af 5<|ab ⟨a,o,tk,M,order M g,Df M g lk,y,RR,(hS.mono sA).mono sB,sB _ _ Vn,sB _ _ Ub,by rw[bM];exact NK,qM M g lk,dn hy,λH4 s4=>⟨s4,RR⟩⟩
 ·intro D H' hD sm e;have sB:=sA.trans s3;refine q D H' (sB.trans sm) (sB.free hD) ?_;rw[e];unfold FZ nums;rw[afr];rfl
def QM(ad:Ad):Sp:=λvs H Q _=>Kd λ(a b:Addr) (M:Sm) (ho:Ae) (o p:Nat)=>Ox (vs=[.ref a,.ref b,.int o,.int p]) (Ai ad H a M) (H b=some (.lst (nums ho))) (ho.length=M.offices) (∀x∈ho,x<M.nP) (o<M.offices) (p<M.offices) (Q (.bl (HU M ho o p)) H)
def uj(T:Txt kK mg aD base):Bx P w T 1 "envies" (QM aD):=by
 refine bt T.d.Vo tR ?_;rintro bo H vs Q E hr ⟨a,b,M,ho,o,p,rfl,hS,hb,hl,hx,h1,h2,q⟩;obtain⟨dx,pl,ll,hl',HQ,ps,S⟩:=hS.ex;have gO:ho[o]? =some (ho.getD o 0):=getD_at (by omega);have Bz:=hx _ (afa gO);have gi:=bU hS.good Bz;refine ag<|aP 4 tR.sc.nd<|kq T<|fG 0 S T<|bg bj<|af 1<|af 2 ⟨b,_,_,_,RR,RR,Aj.of hb,aS (aU gO),_,RR,Bz,Aa.refl _,λb' HD=>⟨b',RR,HD,λtw LY=>?_⟩⟩;refine ah<|aj<|bh jf (aJ _)<|bg cR<|af 4<|af 3 ⟨tw,_,_,_,RR,RR,Cd.of LY,aS (aU (getD_at (by rw[gi.wl];exact h2))),bg cR<|af 4<|af 2 ⟨tw,_,_,_,RR,RR,Cd.of LY,aS (aU (getD_at (by rw[gi.wl];exact h1))),_,_,RR,RR,?_⟩⟩;have e:decide (((pt M (ho.getD o 0)).worth.getD o 0:Int)<((pt M (ho.getD o 0)).worth.getD p 0:Int))=HU M ho o p:=by congr 1;exact propext ahe
 dsimp only;rw[e];exact q
def aZ{ys:List α}{zs:List V}(hm:∀y z H H',rel y z H->Qt H H'->rel y z H')(h:Aw rel ys zs H)(s:Aa H H'):Aw rel ys zs H':=⟨h.1,λk y z a b=>hm _ _ _ _ (h.2 k y z a b) s.go⟩
def e_{ys:List α}{zs:List V}{i:Nat}(h:Aw rel ys zs H)(hz:zs[i]? =some z):∃y,ys[i]? =some y/\rel y z H:=by
 have hi:i<ys.length:=by rw[<-h.1];exact(ae3.mp hz).1
 exact⟨ys[i],by simp[hi],h.2 i _ z (by simp[hi]) hz⟩
def oS{zs:List V}{i:Nat}{y:α}(h:Aw rel ys zs H)(hy:ys[i]? =some y):∃z,zs[i]? =some z/\rel y z H:=by
 have hi:i<zs.length:=by rw[h.1];exact(ae3.mp hy).1
 exact⟨zs[i],by simp[hi],h.2 i y _ hy (by simp[hi])⟩
def fB{rel:α->V->Hp->Prop}:Aw rel [] [] H:=⟨RR,λk y z a _=>by simp at a⟩
def fL{zs:List V}{y:α}(h:Aw rel ys zs H)(r:rel y z H):Aw rel (ys++[y]) (zs++[z]) H:=by
 refine⟨by rw[afg,afg,h.1];rfl,λk y' z' a b=>?_⟩;by_cases hk:k<ys.length;·rw[afs hk]at a;rw[afs (by rw[h.1];exact hk)]at b;exact h.2 k y' z' a b
 ·rw[afx (by omega)]at a;rw[afx (by rw[h.1];omega),h.1]at b;have:k-ys.length=0:=by
   cases e:k-ys.length with
   |zero=>rfl
   |succ n=>rw[e]at a;simp at a
  rw[this]at a b;have e1:y=y':=by simpa using a
  have e2:z=z':=by simpa using b
  subst e1;subst e2;exact r
def hZ(h:AQ x z H)(hl:H l=some (.lst xs)):AQ x z (upd H l (.lst ys)):=by obtain⟨p,e,hp⟩:=h;exact⟨p,e,by rw[ai (λq=>by grind)];exact hp⟩
def Y2:Sp:=λvs H Q _=>BL λ(a:Addr) (ps:List (Nat×Nat)) (zs:List V)=>B9 (vs=[.ref a]) (H a=some (.lst zs)) (Aw AQ ps zs H) (ps.length<=1000) (C6 H ((FO ps).map V.int) Q)
def bA(T:Txt kK mg aD base):Bx P w T 1 "counted_pairs" Y2:=by
 refine bt T.d.KP eG ?_;rintro bo H vs Q E hr ⟨a,ps,zs,rfl,ha,rel,hz,q⟩;refine ag<|aP 1 eG.sc.nd<|ay<|aa<|aX RR T.c.AV<|af 0 ⟨a,zs,RR,Aj.of ha,ab ⟨bq,λl hl=>?_⟩⟩;have s0:Aa H (upd H l (.lst [.int zs.length])):=Aa.ax hl;have ezs:zs=(List.range zs.length).map λi=>zs.getD i .BM:=by
  apply aht;intro i;by_cases hi:i<zs.length;·rw[afc,afH hi];simp[hi]
  ·rw[afO (by omega),afO (by simpa using hi)]
 refine ag<|dH RR (cT 2 eG.sc.nd)<|aQ<|af 0 ⟨a,RR,⟨_,Aj.of (s0 _ _ ha)⟩,
  gw (Hb:=H) (xs:=List.range zs.length) (az (val:=λi=>zs.getD i .BM) (by rw[<-ezs];exact Aj.of ha)) (λi σ H'=>(∃v2,Av (σ=[some (.ref a),some (.ref l),v2]) (Aa H H') (H' l=some (.lst ((.int (ps.length:Nat)::(ps.take i).flatMap λx=>[V.int (x.1:Nat),V.int (x.2:Nat)]))))))
   ⟨none,RR,s0,by rw[ae,rel.1];rfl⟩ (λi σ H' ⟨_,_,e,_⟩=>e) ?_ ?_⟩
 ·rintro i y x σ H1 H2 hy ⟨v2,rfl,s1,e1⟩ s2 rfl;have hi:i<zs.length:=by have:=(ae3.mp hy).1;simpa using this
  have ey:y=i:=by rw[afH hi]at hy;exact(ae2 hy).symm
  subst ey;have C1:=s1.trans s2;have UY:zs[y]? =some (zs.getD y .BM):=by simp[hi]
  obtain⟨pr,hpr,p,ep,hp⟩:=e_ rel UY;rw[ep];have el:=s2.lst e1;have hlen:((ps.take y).flatMap λx=>[V.int (x.1:Nat),V.int (x.2:Nat)]).length<=2*1000:=by
   rw[List.length_flatMap];have:((ps.take y).map λx=>([V.int (x.1:Nat),V.int (x.2:Nat)]:List V).length).sum<=((ps.take y).map λx=>([V.int (x.1:Nat),V.int (x.2:Nat)]:List V).length).length*2:=uB λv hv=>by obtain⟨x,_,rfl⟩:=afw.mp hv;exact ae8 _
   rw[ae1,afJ]at this;omega
  refine ah<|eV<|ot plainAttrs_list slot_list_extend type_list_extend uM<|af 1 ⟨ty_list (Aj.of el),aa<|af 2<|ab ⟨l,p,_,_,RR,RR,el,Cd.of (C1 _ _ hp),?_,⟨_,RR,C1.aL hl (aw el RR),?_⟩⟩⟩;·refine small (k:=3000) ?_;simp only[afG,ae1,agE];omega
  ·rw[ae,a_ hpr,ag9];simp
 ·rintro σ H1 ⟨v2,rfl,s1,e1⟩;rw[afi,rel.1,afX]at e1;refine ah<|aj<|af 1<|q l H1 s1 hl ?_;rw[e1];unfold FO;rw[afq,List.map_flatMap];rfl
def sD(M:Sm)(ho:Ae)(n o k:Nat):(FY M ho n o k).length<=k:=by unfold FY;rw[ae1];have:=afh (λp=>HU M ho o p&&HU M ho p o) (List.range' (o+1) k);simp_all
def m6(M:Sm)(ho:Ae)(k:Nat):(ES M ho k).length<=k*ho.length:=by
 unfold ES;rw[List.length_flatMap];have:=uB (l:=(List.range k).map λo=>(FY M ho ho.length o (ho.length-(o+1))).length) λx hx=>by obtain⟨o,_,rfl⟩:=afw.mp hx;exact afe (sD M ho _ o _) (ag3 _ _)
 rw[ae1,afi]at this;exact this
def sC(M:Sm)(ho:Ae)(k:Nat):ES M ho (k+1)=ES M ho k++FY M ho ho.length k (ho.length-(k+1)):=by unfold ES;rw[agI,ag9];simp
def ij(M:Sm)(g lk:Nat):(hold M g lk).length=M.offices:=by unfold hold;simp
def z9:∀x∈hold M g lk,x∈order M g:=by
 intro x hx;obtain⟨o,ho,rfl⟩:=afw.mp hx;have HQ:o<M.offices:=by simpa using ho
 have h1:(Df M g lk).idxOf o<(order M g).length:=by rw[bM,<-iN M g lk];exact ags (hC HQ)
 exact afa (getD_at h1)
def wz(h1:1<=g)(h2:g<=As M):∀x∈hold M g lk,x<M.nP:=λx hx=>f_ (cC h1 h2) x (z9 x hx)
def UK(H:Hp)(ps:List (Nat×Nat))(Q:VK):Prop:=∀p zs H',Aa H H'->H p=none->H' p=some (.lst zs)->Aw AQ ps zs H'->Q (.ref p) H'
def O4(ad:Ad):Sp:=λvs H Q _=>CO λ(a b:Addr) (M:Sm) (ho:Ae)=>Dn (vs=[.ref a,.ref b]) (Ai ad H a M) (H b=some (.lst (nums ho))) (ho.length=M.offices) (∀x∈ho,x<M.nP) (UK H (G2 M ho) Q)
def yJ(T:Txt kK mg aD base):Bx P w T 2 "swapped" (O4 aD):=by
 refine bt T.d.Sf iW ?_;rintro bo H vs Q E hr ⟨a,b,M,ho,rfl,hS,hb,hl,hx,q⟩;have NK:=hS.good.m2;refine ag<|aP 2 iW.sc.nd<|ay<|ab ⟨afk _,λl W7=>?_⟩;have s0:Aa H (upd H l (.lst [])):=Aa.ax W7;refine ag<|dH RR (cT 3 iW.sc.nd)<|cn RR T.c.Ck<|aa<|aX RR T.c.AV<|af 1 ⟨b,_,RR,Aj.of (s0 _ _ hb),ab ⟨_,RR,by rw[aq];omega,
  gw (Hb:=H) (xs:=List.range (nums ho).length) bu (λi σ H'=>∃v3 v4 zs,σ=[some (.ref a),some (.ref b),some (.ref l),v3,v4]/\Aa H H'/\H' l=some (.lst zs)/\Aw AQ (ES M ho i) zs H')
   ⟨none,none,[],RR,s0,ae,fB⟩ (λi σ H' ⟨_,_,_,_,e,_⟩=>e) ?_ ?_⟩⟩
 ·rintro i y x σ H1 H2 hy ⟨v3,v4,zs,rfl,s1,e1,r1⟩ s2 rfl;have hi:i<ho.length:=by have:=(ae3.mp hy).1;rw[afi,aq]at this;exact this
  have ey:y=i:=by rw[afH (by rw[aq];exact hi)]at hy;exact(ae2 hy).symm
  subst ey;have C1:=s1.trans s2;have en:(((nums ho).length:Int)-((y:Int)+1)).toNat=ho.length-(y+1):=by rw[aq];omega
  refine ah<|dH RR (cT 4 iW.sc.nd)<|yq RR T.c.Ck<|aa<|a0 k6<|af 3<|aG ⟨_,_,RR,RR,aa<|aX RR T.c.AV<|af 1 ⟨b,_,RR,Aj.of (C1 _ _ hb),ab ⟨_,_,RR,?_,?_⟩⟩⟩;·rw[aq];exact⟨by omega,by omega,by omega,by omega⟩
  rw[en,show((y:Int)+1)=((y+1:Nat):Int) by omega];refine gw (Hb:=H) (xs:=List.range' (y+1) (ho.length-(y+1))) oU (λk σ H'=>∃v4 zs,σ=[some (.ref a),some (.ref b),some (.ref l),some (.int (y:Nat)),v4]/\Aa H H'/\H' l=some (.lst zs)/\Aw AQ (ES M ho y++(((List.range' (y+1) (ho.length-(y+1))).take k).filter λp=>HU M ho y p&&HU M ho p y).map λp=>(y,p)) zs H')
   ⟨_,zs,RR,C1,s2 _ _ e1,by simpa using aZ aR r1 s2⟩ (λi σ H' ⟨_,_,_,e,_⟩=>e) ?_ ?_
  ·rintro k p x σ H3 H4 hp ⟨v4,zs,rfl,s3,e3,r3⟩ s4 rfl;have Pk:=s3.trans s4;have hk:k<ho.length-(y+1):=by have:=(ae3.mp hp).1;rw[ahd]at this;exact this
   have B8:p<ho.length:=by have:=List.mem_range'_1.mp (afa hp);omega
   have hS4:=hS.mono Pk;have r4:=aZ aR r3 s4;have e4:=s4.lst e3;rw[a_ hp,de,afK];refine ah<|aW<|kF<|aO<|ao (uj T) hr<|af 0<|aa<|af 1<|aa<|af 3<|aa<|af 4<|ab ⟨a,b,M,ho,y,p,RR,hS4,Pk _ _ hb,hl,hx,by omega,by omega,_,RR,?_⟩;have hlen:zs.length<sizeLine:=by rw[r3.1,afg,ae1];have h1:=m6 M ho y;have h2:(((List.range' (y+1) (ho.length-(y+1))).take k).filter λp=>HU M ho y p&&HU M ho p y).length<=k:=afe (afh _ _) (by rw[afJ];exact af7 _ _);have h3:y*ho.length<=5*5:=ahm (by omega) (by omega);exact afl (show _<=100 by omega) (by decide)
   cases h1:HU M ho y p with
   |false=>rw[if_neg ae0,if_neg ae0];exact aA ⟨_,zs,RR,Pk,e4,by simpa using r4⟩
   |true=>
    rw[if_pos RR];refine aO<|ao (uj T) hr<|af 0<|aa<|af 1<|aa<|af 4<|aa<|af 3<|ab ⟨a,b,M,ho,p,y,RR,hS4,Pk _ _ hb,hl,hx,by omega,by omega,_,RR,?_⟩;cases h2:HU M ho p y with
    |false=>rw[if_neg ae0];exact aA ⟨_,zs,RR,Pk,e4,by simpa using r4⟩
    |true=>
     rw[if_pos RR];refine ah<|bV<|af 2 ⟨l,zs,RR,e4,bT<|aa<|af 3<|aa<|af 4<|ab ⟨cQ,λt ht=>⟨zs,Aa.ax ht _ _ e4,hlen,⟨_,_,RR,?_,ae,?_⟩⟩⟩⟩;·exact(Pk.trans (Aa.ax ht)).aL W7 (aw (Aa.ax ht _ _ e4) RR)
     ·rw[show(if(true&&true)=true then[p]else[])=[p]from rfl,List.map_singleton,<-agv];have nt':t≠l:=λz=>by rw[z,e4]at ht;cases ht
      have r5:=aZ aR r4 (Aa.ax (o:=.tup [.int (y:Nat),.int (p:Nat)]) ht);refine fL ⟨r5.1,λk' y' z' a' b'=>hZ (r5.2 k' y' z' a' b') (Aa.ax ht _ _ e4)⟩ ⟨t,RR,?_⟩;rw[ai nt',ae];rfl
  ·rintro σ H3 ⟨v4,zs,rfl,s3,e3,r3⟩;rw[afX]at r3;exact⟨_,_,zs,RR,s3,e3,by rw[sC];exact r3⟩
 ·rintro σ H1 ⟨v3,v4,zs,rfl,s1,e1,r1⟩;rw[afi,aq]at r1;exact ah<|aj<|af 2<|q l zs H1 s1 W7 e1 r1
def Hw(M:Sm)(g:Nat):Am:=cnt (order M g)
def oJ(T:Txt kK mg aD base):Bx P w T 5 "answer_order" (LC aD Hw):=by refine bt T.d.Ma n0 ?_;rintro bo H vs Q E hr ⟨a,v,M,g,rfl,hS,hv,h1,h2,q⟩;unfold Hw at q;rw[bW]at q;have NK:=hS.good.m2;refine ah<|aj<|ao (bF T) hr<|ao (b_ T) hr<|af 0<|aa<|aH 1 0 hv RR<|ab ⟨a,M,g,RR,hS,h1,h2,λo H1 s1 ho eo=>ab ⟨o,_,RR,eo,by rw[aq,bM];omega,λr H2 s2 hr e2=>?_⟩⟩;rw[aq]at e2;exact q r H2 (s1.trans s2) (s1.free hr) e2
def EL(lk:Nat->Nat)(M:Sm)(g:Nat):Am:=cnt (Df M g (lk g))
def oH(T:Txt kK mg aD base):Bx P w T 20 "answer_plain" (LC aD (EL λ_=>0)):=by
 refine bt T.d.L_ nZ ?_;rintro bo H vs Q E hr ⟨a,v,M,g,rfl,hS,hv,h1,h2,q⟩;unfold EL at q;rw[bW]at q;have NK:=hS.good.m2;refine ah<|aj<|ao (bF T) hr<|ao (eg T M.offices) hr<|af 0<|aa<|ao (b_ T) hr<|af 0<|aa<|aH 1 0 hv RR<|ab ⟨a,M,g,RR,hS,h1,h2,λo H1 s1 ho eo=>
  aa<|ay<|ab ⟨afk _,λt ht=>aa<|au T.c.Dk RR<|ab ⟨a,o,t,M,order M g,[],0,RR,(hS.mono s1).mono (Aa.ax ht),Aa.ax ht _ _ eo,ae,bM M g,f_ (cC h1 h2),by simp,by simp,λtk H2 s2 VQ Ub=>ab ⟨tk,_,RR,Ub,?_,λr H3 s3 hr e3=>?_⟩⟩⟩⟩
 ·have:(nums (Df M g 0)).length=M.offices:=by rw[aq];exact iN M g 0
  show(nums (Df M g 0)).length<100000;omega
 ·rw[aq]at e3;have sA:=s1.trans ((Aa.ax ht).trans s2);exact q r H3 (sA.trans s3) (sA.free hr) e3
def oP(T:Txt kK mg aD base):Bx P w T 20 "answer_ahead" (LC aD (EL λg=>g)):=by
 refine bt T.d.Mf n_ ?_;rintro bo H vs Q E hr ⟨a,v,M,g,rfl,hS,hv,h1,h2,q⟩;unfold EL at q;rw[bW]at q;have NK:=hS.good.m2;refine ah<|aj<|ao (bF T) hr<|ao (eg T M.offices) hr<|af 0<|aa<|ao (b_ T) hr<|af 0<|aa<|aH 1 0 hv RR<|ab ⟨a,M,g,RR,hS,h1,h2,λo H1 s1 ho eo=>
  aa<|ay<|ab ⟨afk _,λt ht=>aa<|aH 1 0 ((Aa.ax ht).lst (s1.lst hv)) RR<|ab ⟨a,o,t,M,order M g,[],g,RR,(hS.mono s1).mono (Aa.ax ht),Aa.ax ht _ _ eo,ae,bM M g,f_ (cC h1 h2),by simp,by simp,λtk H2 s2 VQ Ub=>ab ⟨tk,_,RR,Ub,?_,λr H3 s3 hr e3=>?_⟩⟩⟩⟩
 ·have:(nums (Df M g g)).length=M.offices:=by rw[aq];exact iN M g g
  show(nums (Df M g g)).length<100000;omega
 ·rw[aq]at e3;have sA:=s1.trans ((Aa.ax ht).trans s2);exact q r H3 (sA.trans s3) (sA.free hr) e3
def z0(k:Nat):UW (.int (k:Int)) [.int 0,.int 1]=decide (k<=1):=by
 have:=gh k [0,1];show UW (.int (k)) (nums [0,1])=_;rw[this];match k with
 |0=>rfl
 |1=>rfl
 |k+2=>simp
def FR(M:Sm)(g k:Nat):Am:=if k<=1 then cnt (FZ M g (Bl g k))else[-22]
def oM(T:Txt kK mg aD base):Bx P w T 21 "answer_gains" (TJ aD FR):=by
 refine bt T.d.Mc n9 ?_;rintro bo H vs Q E hr ⟨a,v,M,g,k,rfl,hS,hv,h1,h2,q⟩;unfold FR at q;refine ag<|aW<|aV gF (by with_unfolding_all rfl)<|aH 1 1 hv RR<|bT<|aa<|au T.c.OV RR<|aa<|au T.c.RW RR<|ab ⟨cQ,λt ht=>⟨t,_,RR,.inr (Cd.of ae),RR,RR,_,RR,?_⟩⟩;rw[if_pos RR,z0];have s0:Aa H (upd H t (.tup [.int 0,.int 1])):=Aa.ax ht;refine ite_bool (λe=>?_) (λe=>?_);·rw[if_neg (by simpa using e)]at q;refine ah<|aj<|ay<|aa<|au T.c.Dv RR<|ab ⟨bq,λr hr=>?_⟩;exact q r _ (s0.aL (s0.free hr) (aM hr)) (s0.free hr) ae
 ·rw[if_pos (by simpa using e),bW]at q;refine aA<|ah<|aj<|ao (bF T) hr<|ao (vC T) hr<|af 0<|aa<|aH 1 0 (s0.lst hv) RR<|aa<|ao (kM T) hr<|aH 1 0 (s0.lst hv) RR<|aa<|aH 1 1 (s0.lst hv) RR<|ab ⟨g,k,RR,ab ⟨a,M,g,_,RR,hS.mono s0,h1,h2,λp H1 s1 hp e1=>ab ⟨p,_,RR,e1,?_,λr H2 s2 hr e2=>?_⟩⟩⟩;·rw[aq];have:=fD M g;have:=hS.good.n5;unfold FZ;rw[ae1];omega
  ·rw[aq]at e2;have sA:=s0.trans s1;exact q r H2 (sA.trans s2) (sA.free hr) e2
def FP(M:Sm)(g k:Nat):Am:=if k<=1 then FO (G2 M (hold M g (Bl g k)))else[-22]
def oG(T:Txt kK mg aD base):Bx P w T 21 "answer_swaps" (TJ aD FP):=by
 refine bt T.d.L9 nY ?_;rintro bo H vs Q E hr ⟨a,v,M,g,k,rfl,hS,hv,h1,h2,q⟩;unfold FP at q;have NK:=hS.good.m2;refine ag<|aW<|aV gF (by with_unfolding_all rfl)<|aH 1 1 hv RR<|bT<|aa<|au T.c.OV RR<|aa<|au T.c.RW RR<|ab ⟨cQ,λt ht=>⟨t,_,RR,.inr (Cd.of ae),RR,RR,_,RR,?_⟩⟩;rw[if_pos RR,z0];have s0:Aa H (upd H t (.tup [.int 0,.int 1])):=Aa.ax ht;refine ite_bool (λe=>?_) (λe=>?_);·rw[if_neg (by simpa using e)]at q;refine ah<|aj<|ay<|aa<|au T.c.Dv RR<|ab ⟨bq,λr hr=>?_⟩;exact q r _ (s0.aL (s0.free hr) (aM hr)) (s0.free hr) ae
 ·rw[if_pos (by simpa using e)]at q;refine aA<|ah<|aj<|ao (bA T) hr<|ao (yJ T) hr<|af 0<|aa<|ao (fz T) hr<|af 0<|aa<|aH 1 0 (s0.lst hv) RR<|aa<|ao (kM T) hr<|aH 1 0 (s0.lst hv) RR<|aa<|aH 1 1 (s0.lst hv) RR<|
   ab ⟨g,k,RR,ab ⟨a,M,g,_,RR,hS.mono s0,h1,h2,λp H1 s1 hp e1=>ab ⟨a,p,M,_,RR,(hS.mono s0).mono s1,e1,ij M g _,wz h1 h2,λp2 zs H2 s2 Mq e2 r2=>ab ⟨p2,_,zs,RR,e2,r2,?_,λr H3 s3 hr e3=>?_⟩⟩⟩⟩;·have:=m6 M (hold M g (Bl g k)) (hold M g (Bl g k)).length;rw[ij]at this;have h3:M.offices*M.offices<=5*5:=ahm NK NK;unfold G2;rw[ij];omega
  ·have sA:=(s0.trans s1).trans s2;exact q r H3 (sA.trans s3) (sA.free hr) e3
def FT(M:Sm)(g i:Nat):Am:=if g.testBit i then zs [Bu M (order M g) (Df M g (2^i)) i,Bu M (order M g) (Df M g 0) i]else[-6]
def oO(T:Txt kK mg aD base):Bx P w T 21 "answer_alone" (Wq aD FT):=by
 refine bt T.d.Me bz ?_;rintro bo H vs Q E hr ⟨a,v,M,g,i,rfl,hS,hv,h1,h2,hi,q⟩;unfold FT at q;have NK:=hS.good.m2;have Z5:=hS.good.n5;refine ag<|aP 2 bz.sc.nd<|aH 1 0 hv RR ?_;refine ag<|bJ 3 bz.sc.nd RR (Or.inr RR)<|aH 1 1 hv RR ?_;refine ag<|aW<|cH<|aO<|ao (gQ T) hr<|af 2<|aa<|af 3<|ab ⟨g,i,RR,by omega,_,RR,?_⟩;refine ite_bool (λe=>?_) (λe=>?_)
 ·have e':g.testBit i=false:=by simpa using e
  rw[if_neg (by rw[e'];exact ae0)]at q;refine ah<|aj<|ay<|aa<|au T.c.G0 RR<|ab ⟨bq,λr hr=>?_⟩;exact q r _ (Aa.ax hr) hr ae
 ·have e':g.testBit i=true:=by simpa using e
  rw[if_pos e',gB]at q;refine aA<|ag<|bJ 4 bz.sc.nd RR (Or.inr RR)<|ao (b_ T) hr<|af 0<|aa<|af 2<|ab ⟨a,M,g,RR,hS,h1,h2,λo H1 s1 ho eo=>?_⟩;have et:([V.int ((2:Int)^i),V.int 0]:List V)=([2^i,0]:Ae).map λ(n:Nat)=>V.int (n:Int):=by show _=[V.int ((2^i:Nat):Int),V.int ((0:Nat):Int)];rw[dm];rfl
  refine ag<|cI (i:=5) RR bz.sc.nd RR RR (own:=[("lookers",6)]) (aB (by kernel_rfl)) (λ_ _ _ _ _=>cT 6 bz.sc.nd)<|sv (α:=Nat) (rel:=LR H λx=>Df M g x) l9<|
   vp<|bT<|aa<|ao (iI T) hr<|af 3<|ab ⟨i,RR,by omega,aa<|au T.c.Dk RR<|ab ⟨cQ,λt ht=>⟨t,RR,⟨_,Cd.of ae⟩,[2^i,0],λ(n:Nat)=>V.int (n:Int),jq (by rw[<-et];exact Cd.of ae),cQ,?_,?_⟩⟩⟩
  ·intro y hy D acc H2 s2 hD s0 H0 C cl fp;have C1:=s1.trans ((Aa.ax ht).trans s2);have Vn:H2 o=some (.lst (nums (order M g))):=s2 _ _ (Aa.ax ht _ _ eo);refine ao (eg T M.offices) hr<|af 0<|aa<|af 4<|aa<|ay<|ab ⟨afk _,λt' NI=>aa<|af 6<|ab ⟨a,o,t',M,order M g,[],y,RR,(hS.mono C1).mono (Aa.ax NI),Aa.ax NI _ _ Vn,ae,bM M g,f_ (cC h1 h2),by simp,by simp,λpp H3 s3 U6 e3=>⟨(Aa.ax NI).trans s3,pp,RR,?_,cW e3 ?_⟩⟩⟩
   ·rcases U6 with z|z;·rw[z];exact C1.free NI
    ·exact(C1.trans (Aa.ax NI)).free z
   ·rintro rfl;rcases U6 with z|z;·rw[z,NI]at hD;cases hD
    ·rw[(Aa.ax NI).free z]at hD;cases hD
  ·intro en H2 ws Vc s2 eD rel;have sA:=s1.trans ((Aa.ax ht).trans s2);have Vn:H2 o=some (.lst (nums (order M g))):=s2 _ _ (Aa.ax ht _ _ eo);obtain⟨z1,WV,p1,ez1,_,Ln⟩:=oS rel (i:=0) RR;obtain⟨z2,Qm,p2,ez2,_,Mq⟩:=oS rel (i:=1) RR;have ews:ws=([(p1,Df M g (2^i)),(p2,Df M g 0)]:List (Addr×Ae)).map λx=>V.ref x.1:=by
    have hl:ws.length=2:=rel.1;match ws,hl,WV,Qm with
    |[u1,u2],_,WV,Qm=>have q1:u1=z1:=ae2 WV;have q2:u2=z2:=ae2 Qm;rw[q1,q2,ez1,ez2];rfl
   rw[ews]at eD;refine ah<|aj<|bL (α:=Addr×Ae) (j:=7) (f:=λx=>.int (Bu M (order M g) x.2 i:Nat)) RR bz.sc.nd (aB (by kernel_rfl)) (λ_ _ _ _ _=>cT 7 bz.sc.nd)<|
    aQ<|af 5 ⟨en,RR,⟨_,Aj.of eD⟩,[(p1,Df M g (2^i)),(p2,Df M g 0)],λx=>V.ref x.1,az (Aj.of eD),cQ,?_,?_⟩
   ·rintro⟨p,tk⟩ hy H3 s3 s0 H0 C cl fp;have hp:H2 p=some (.lst (nums tk))/\∀x∈tk,x<M.offices:=by
     rcases ae5.mp hy with z|z;·cases z;exact⟨Ln,qM M g _⟩
     ·rw[afm]at z;cases z;exact⟨Mq,qM M g _⟩
    exact ao (vD T) hr<|af 0<|aa<|af 4<|aa<|af 7<|aa<|af 3<|ab ⟨a,o,p,M,order M g,tk,i,RR,hS.mono (sA.trans s3),s3 _ _ Vn,s3 _ _ hp.1,by rw[bM];exact NK,hp.2,hi,λH4 s4=>⟨s4,RR⟩⟩
   ·intro D H3 hD s3 e3;exact q D H3 (sA.trans s3) (sA.free hD) e3
def abW(h:Ev X e σ H λv H1=>(Au λd u=>Av (H1 d=some u) (Vv (some u)) (∀od,Q v (upd H1 d (.FN od u))))):Ev X e σ H Q:=
 ⟨λpins s I=>iM (h.run pins s I) λ_ _ ⟨v,H',I',r,d,u,hd,mu,q⟩=>by obtain⟨od,I2⟩:=I'.lock hd mu;exact⟨v,_,I2,r,q od⟩⟩
def aao(q:∀p,H p=none->Q (.ref p) (upd H p (.dK []))):Ev X (.Dict [] [] pos) σ H Q:=bH zA q
def aan(q:∀p,H p=none->Q (.ref p) (upd H p (.dT []))):Ev X (.Dict [] [] pos) σ H Q:=bH zz q
def fH(hu:X.A.units+1<cLine)(h:Ev X o σ H λx H1=>Ev X i σ H1 λy H2=>(Au λa v=>Av (x= .ref a) (ND H2 a y (some v)) (Q v H2)))(hs:RL i:=by intro _ _;rfl):Ev X (.Subscript o i pos) σ H Q:=bH (abx hu aF aF hs) h
def wG(hu:X.A.units+1<cLine)(h:Ev X value σ H λv H1=>Ev X o σ H1 λx H2=>Ev X i σ H2 λy H3=>(Au λa H4=>Av (x= .ref a) (Mm H3 a y v H4) (D.nx σ H4)))(hs:swapsWith value (some (.Subscript o i pos')) pos.line X.env=pure false:=by rfl):Es X (.Assign [.Subscript o i pos'] value pos) D σ H:=gx (abm hu aF aF aF hs) h
def rS(h:Ev X e σ H λx H1=>(Au λd ob=>x= .ref d/\((∃AI,H1 d=some (.FN ob (.dK AI))/\R (YD d ob AI) H1)\/∃AI,H1 d=some (.FN ob (.dT AI))/\R (Vy d ob AI) H1))):Ei X tg e σ H R:=ml (abr aF) h
def LG(p:Addr)(xs:List V):Hp:=λb=>if b=p then some (.lst xs)else none
def mN:LG p xs p=some (.lst xs):=by unfold LG;rw[if_pos RR]
def mL(h:H' p=some (.lst xs)):Aa (LG p xs) H' where
 go:=λb o e=>by
  unfold LG at e;split at e;·rename_i z;subst z;cases e;exact h
  ·cases e
 good:=λP ps e _=>by unfold LG at e;split at e<;>cases e
def mI{gs:Ae}{pa:Nat->Addr}(h:g∈gs):HE (gs.map λ(x:Nat)=>((Sum.inl (x:Int):Key),V.ref (pa x))) (.inl (g:Int))=some (.ref (pa g)):=by
 induction gs with
 |nil=>cases h
 |cons x r ih=>
  rw[afq];by_cases e:x=g;·subst e;exact gZ RR
  ·rw[g0 (by grind)];exact ih ((ae5.mp h).resolve_left (λz=>e z.symm))
def abf{pa:Nat->Addr}(h:g∉gs):putK (gs.map λ(x:Nat)=>((Sum.inl (x:Int):Key),V.ref (pa x))) (.inl (g:Int)) (.ref p)=(gs++[g]).map λ(x:Nat)=>((Sum.inl (x:Int):Key),V.ref (if x=g then p else pa x)):=by
 unfold putK;rw[if_neg,afK]
 ·congr 1;·refine afy λx hx=>?_;have:¬x=g:=λz=>h (z▸hx);rw[if_neg this]
  ·simp
 grind
noncomputable def may(M:Sm)(g:Nat):Bool:=wins M g&&!HV M g
def CD(M:Sm):Ae:=(groups M).filter (may M)
noncomputable def deal(M:Sm)(g:Nat):Ae:=EJ M.nP (order M g)
def Hs(g:Nat)(new old:Ae):Bool:=((List.range new.length).filter g.testBit).all λi=>decide (old.getD i 0<new.getD i 0)
def B0(M:Sm)(old:Ae):Ae:=(CD M).filter λg=>Hs g (deal M g) old
def dZ(M:Sm)(g:Nat):(deal M g).length=M.nP:=by unfold deal EJ;simp
def iq(h:g∈CD M):1<=g/\g<=As M:=cD (afp.mp h).1
def fj(h:Good M):(CD M).length<32:=afl (afh _ _) (c8 h)
def yg(M:Sm):(CD M).Pairwise (·<·):=(ip M).filter _
def mf(h:g∈B0 M old):g∈CD M:=(afp.mp h).1
def tD(h:Good M)(old:Ae):(B0 M old).length<32:=afl (afh _ _) (fj h)
structure HB(H:Hp)(d:Addr)(M:Sm):Prop where
 ex:(Au λ(ob:Obj) (pa:Nat->Addr)=>H d=some (.FN ob (.dK ((CD M).map λ(x:Nat)=>((Sum.inl (x:Int):Key),V.ref (pa x)))))/\∀g∈CD M,H (pa g)=some (.lst (nums (deal M g))))
def HB.mono(h:HB H d M)(s:Aa H H'):HB H' d M:=by obtain⟨ob,pa,h1,h2⟩:=h.ex;exact⟨ob,pa,s _ _ h1,λg hg=>s _ _ (h2 g hg)⟩
def Wk(ad:Ad):Sp:=λvs H Q _=>BL λ(a:Addr) (M:Sm) (g:Nat)=>Av (vs=[.ref a,.int g]) (Ai ad H a M) (ET H (.bl (may M g)) Q)
def kL(T:Txt kK mg aD base):Bx P w T 6 "may_govern" (Wk aD):=by
 refine bt T.d.N8 rF ?_;rintro bo H vs Q E hr ⟨a,M,g,rfl,hS,q⟩;refine ah<|aj<|kD<|ao (aaO T) hr<|af 0<|aa<|af 1<|ab ⟨a,M,g,RR,hS,λH1 s1=>⟨_,RR,?_⟩⟩;unfold may at q;refine ite_bool (λe=>?_) (λe=>?_);·rw[e]at q;refine adG<|ao (qB T) hr<|af 0<|aa<|af 1<|ab ⟨a,M,g,RR,hS.mono s1,λH2 s2=>⟨_,RR,q H2 (s1.trans s2)⟩⟩
 ·rw[e]at q;exact q H1 s1
def UC(ad:Ad):Sp:=λvs H Q _=>Au λ(a:Addr) (M:Sm)=>Av (vs=[.ref a]) (Ai ad H a M) (C6 H (nums (CD M)) Q)
def fA(T:Txt kK mg aD base):Bx P w T 7 "governing_groups" (UC aD):=by
 refine bt T.d.HR c9 ?_;rintro bo H vs Q E hr ⟨a,M,rfl,hS,q⟩;refine ah<|aj<|dG (α:=Nat) (j:=1) (pr:=may M) (f:=λg=>.int (g:Nat)) RR c9.sc.nd (aB (by kernel_rfl)) (λ_ _ _ _ _=>cT 1 c9.sc.nd)<|
  aQ<|ao (fX T) hr<|af 0<|ab ⟨a,M,RR,hS,λp H1 s1 hp e1=>⟨p,RR,⟨_,Aj.of e1⟩,groups M,_,az (Aj.of e1),small (afS (c8 hS.good)),?_,?_,?_⟩⟩;·intro y hy H' sm s0 H0 C cl fp;exact bp<|aO<|ao (kL T) hr<|af 0<|aa<|af 1<|ab ⟨a,M,y,RR,hS.mono (s1.trans sm),λH2 s2=>⟨_,RR,s2,RR⟩⟩
 ·intro y hy _ H' sm s0 H0 C cl fp;exact af 1 ⟨Aa.refl _,RR⟩
 ·intro D H' hD sm e;exact q D H' (s1.trans sm) (s1.free hD) e
def QN(ad:Ad):Sp:=λvs H Q _=>BL λ(a:Addr) (M:Sm) (g:Nat)=>B9 (vs=[.ref a,.int g]) (Ai ad H a M) (1<=g) (g<=As M) (C6 H (nums (deal M g)) Q)
def count_cast(l:Ae)(k:Nat):(l.map λ(n:Nat)=>(n:Int)).count (k:Int)=l.count k:=by
 induction l with
 |nil=>rfl
 |cons a l ih=>grind
def i7(T:Txt kK mg aD base):Bx P w T 5 "deal_of" (QN aD):=by
 refine bt T.d.Th iX ?_;rintro bo H vs Q E hr ⟨a,M,g,rfl,hS,h1,h2,q⟩;refine ag<|bJ 2 iX.sc.nd RR (Or.inr RR)<|ao (b_ T) hr<|af 0<|aa<|af 1<|ab ⟨a,M,g,RR,hS,h1,h2,λo H1 s1 ho eo=>?_⟩;obtain⟨dx,pl,ll,hl,HQ,ps,S⟩:=(hS.mono s1).ex;refine ah<|aj<|bL (α:=Nat) (j:=3) (f:=λi=>.int ((order M g).count i:Nat)) RR iX.sc.nd (aB (by kernel_rfl)) (λ_ _ _ _ _=>cT 3 iX.sc.nd)<|
  cn RR T.c.Ck<|aa<|aX RR T.c.AV<|aE 0 S T T.m.Ac aI ⟨_,_,RR,Aj.of S.pl,ab ⟨_,RR,?_,_,_,bu,?_,?_,?_⟩⟩;·rw[ae1,S.len];have:=hS.good.n5;omega
 ·rw[afi,ae1,S.len];exact small hS.good.n5
 ·intro y hy H' sm s0 H0 C cl fp;refine ot plainAttrs_list PySem.F.slot_list_count PySem.F.type_list_count xP<|af 2 ⟨ty_list (Aj.of (sm _ _ eo)),aa<|af 3<|ab ⟨o,(order M g).map λ(n:Nat)=>(n:Int),y,RR,RR,by rw[<-k7];exact Aj.of (sm _ _ eo),Aa.refl _,?_⟩⟩;rw[count_cast]
 ·intro D H' hD sm e;refine q D H' (s1.trans sm) (s1.free hD) ?_;rw[e,ae1,S.len];unfold deal EJ nums;rw[afr];rfl
def Sx(ad:Ad):Sp:=λvs H Q _=>Au λ(a:Addr) (M:Sm)=>Av (vs=[.ref a]) (Ai ad H a M) (∀d H',Aa H H'->H d=none->HB H' d M->Q (.ref d) H')
def mr(h:(CD M)[i]? =some g):g∉(CD M).take i:=by intro hm;obtain⟨j,hj,e⟩:=agB hm;rw[afJ]at hj;have hi:=(ae3.mp h).1;rw[List.getElem_take]at e;have:=List.pairwise_iff_getElem.mp (yg M) j i (by omega) hi (by omega);grind
def cz(T:Txt kK mg aD base):Bx P w T 8 "governing_deals" (Sx aD):=by
 refine bt T.d.Jc du ?_;rintro bo H vs Q E hr ⟨a,M,rfl,hS,q⟩;refine ag<|aP 1 du.sc.nd<|aao λd hd=>?_;have s0:Aa H (upd H d (.dK [])):=Aa.ax hd;refine ag<|dH RR (cT 2 du.sc.nd)<|aQ<|ao (fA T) hr<|af 0<|ab ⟨a,M,RR,hS.mono s0,λp H1 s1 hp e1=>⟨p,RR,⟨_,Aj.of e1⟩,?_⟩⟩;have s01:=s0.trans s1;have hHp:H p=none:=s0.free hp;have ndp:p≠d:=λz=>by rw[z,ae]at hp;cases hp
 refine gw (Hb:=LG p (nums (CD M))) (xs:=CD M) (az (Aj.of mN)) (λi σ H'=>∃v2 pa,σ=[some (.ref a),some (.ref d),v2]/\Aa H H'/\H' p=some (.lst (nums (CD M)))/\H' d=some (.dK (((CD M).take i).map λ(x:Nat)=>((Sum.inl (x:Int):Key),V.ref (pa x))))/\∀g∈(CD M).take i,H' (pa g)=some (.lst (nums (deal M g))))
  ⟨none,λ_=>0,RR,s01,e1,s1 _ _ ae,by simp⟩ (λi σ H' ⟨_,_,_,_,e,_⟩=>mL e) ?_ ?_
 ·rintro i g x σ H2 H3 hg ⟨v2,pa,rfl,s2,e2,ed,Qo⟩ s3 rfl;have hgm:=afa hg;have JA:=s2.trans s3;refine ah<|wG (jg hr)<|ao (i7 T) hr<|af 0<|aa<|af 2<|ab ⟨a,M,g,RR,hS.mono JA,(iq hgm).1,(iq hgm).2,λpg H4 s4 hpg e4=>af 1<|af 2 ⟨d,_,RR,Mm.k (k:=.inl (g:Int)) (s4 _ _ (s3 _ _ ed)) ?_,?_⟩⟩;·rw[ae1,afJ];exact afl (agV _ _) (ahT (fj hS.good) (by decide))
  ·have ed4:H4 d=_:=s4 _ _ (s3 _ _ ed);have npg:pg≠d:=λz=>by have:=s3 _ _ ed;rw[<-z]at this;exact Kp.ne this hpg
   rw[abf (mr hg),<-a_ hg];refine⟨_,_,RR,(JA.trans s4).aL hd (aw ed4 RR),?_,ae,λx hx=>?_⟩;·rw[ai ndp];exact s4 _ _ (s3 _ _ e2)
   ·rw[a_ hg]at hx;by_cases e:x=g;·subst e;rw[if_pos RR,ai npg];exact e4
    ·have VP:x∈(CD M).take i:=(afE.mp hx).resolve_right λz=>e (afm.mp z);rw[if_neg e,ai (λz=>by have:=Qo x VP;rw[z,ed]at this;cases this)];exact s4 _ _ (s3 _ _ (Qo x VP))
 ·rintro σ H2 ⟨v2,pa,rfl,s2,e2,ed,Qo⟩;rw[afX]at ed Qo;refine ah<|aj<|abW<|af 1 ⟨d,_,ed,trivial,λod=>q d _ (s2.aL hd (aw ed RR)) hd ⟨od,pa,ae,λg hg=>?_⟩⟩;rw[ai (λz=>by have:=Qo g hg;rw[z,ed]at this;cases this)];exact Qo g hg
variable{X:Cx}{e:Expr}{σ:St}{H:Hp}{Q:VK}in
structure Eo(X:Cx)(e:Option Expr)(σ:St)(H:Hp)(Q:Option Int->Hp->Prop):Prop where
 run:(match e with
  |none=>Q none H
  |some e=>Ev X e σ H λy H1=>∃i,y= .int i/\Q (some i) H1)
def oh{lo:Option Expr}{tl:TO}(hl:PO X lo tl)(hu:PO X hi th)(h:Ev X e σ H λx H1=>tl σ H1 λl H2=>th σ H2 λu H3=>(Au λa xs=>Av (x= .ref a) (Aj X.K H3 a xs) (∀p,H3 p=none->Q (.ref p) (upd H3 p (.lst (JW xs l u)))))):Ev X (.Subscript e (.Slice lo hi none p2) pos) σ H Q:=bH (zu aa9 aF hl hu) h
def mM:PO X (some e) (Tw (Ev X e)):=abo aF
def OY(s0:Shared)(H0:Hp)(s:Shared)(H:Hp):Prop:=∀c v,H0 c=none->s0.heap.IsCell c v->s.heap.IsCell c v/\H c=none
def Inv.acv{σ:St}(I:Inv X pins σ H s)(hex:X.ex=[]):OY X.Kf X.VA s H:=λc v hn ⟨o,ho,hd⟩=>by
 have nx:c∉X.ex:=by rw[hex];simp
 obtain⟨sl,e⟩:=I.base.any ho hn nx;exact⟨⟨_,e,hd⟩,I.base.free c o ho hn nx⟩
def OY.yF(k:OY s0 H0 s H)(C:RT s0.heap H0 cl cv):RT s.heap H cl cv:=
 ⟨λx c e=>by obtain⟨n,v,u,h1,h2,h3⟩:=C.cell x c e;obtain⟨q1,q2⟩:=k c _ n h3;exact⟨q2,v,u,h1,h2,q1⟩,C.inj⟩
def t7{pos p:Pos}{i:Nat}(hN:X.N[i]? =some x)(hv:Qa X.env.scope x)(hs:σ[i]? =some (some (.ref f)))(hf:∃o:Obj,(∃fd,o.data= .func fd)/\H f=some (KH f o))
  (h:Ev X e σ H λv H1=>Aa H H1/\∀pins s u,Inv X pins σ H1 s->RelV v u->codeAny (model X.prog X.w) X.A (.call (.ref f) ⟨[u],[]⟩) (CR Mr X.stack X.prog X.w H1 s Q E0) s)
  (hd:GY x:=by decide)(HC:(x==("__classdict__" :Str))=false:=by decide)
  (he:starEach [e] X.env=(false,eval e X.env)::starEach [] X.env:=by rfl)(B8:(backTo pos (starEach [] X.env)).any (·.1)=false:=by rfl):Ev X (.Call (.Name x p) [e] [] pos) σ H Q:=by
 refine⟨λpins s I=>wpAny_Call_Name_kw ?_⟩;refine c7 ((rO (Q:=λv H1=>v= .ref f/\H1=H) i hN hv hs ⟨RR,RR⟩ hd HC).run pins s I) λu s1 v H1 I1 r q=>?_;obtain⟨ev,eH⟩:=q;subst ev;subst eH;obtain rfl:u=Value.ref f:=r;obtain⟨o,⟨fd,hfd⟩,ho⟩:=hf;have at_:∀{H2:Hp}{s2:Shared},Inv X pins σ H2 s2->H2 f=some (KH f o)->PySem.W.FnAt f s2.heap:=λI2 h2=>by have e0:=(I2.AU f _ h2).1;obtain⟨oc,od,dt,sl⟩:=o;simp only at hfd;subst hfd;exact⟨_,_,_,_,e0⟩
 refine PySem.W.callWith_F (at_ I1 ho) (oW ((h.ea1 he).run pos pins s1 I1) λus s2 ws H2 I2 Mp q=>?_) he B8;obtain⟨v,ev,sm,q⟩:=q;subst ev;obtain⟨u,rfl,ru⟩:=vals1 Mp;refine⟨at_ I2 (sm _ _ ho),wpAny_call (codeAny_mono (q pins s2 u I2 ru) λr s3 hq=>?_)⟩;cases r with
 |error e=>exact hq.elim
 |ok fl=>
  cases fl with
  |ret u=>exact I2.after hq
  |next=>exact False.elim hq
  |brk=>exact False.elim hq
  |cont=>exact False.elim hq
structure Lw(P:Program)(w:World)(K:Frag)(mg:B3)(base:Heap)(k:Nat)(x:Str)(sp:Shared->Sp):Prop where
 ex:(BL λ(f:Addr) (fd:FuncData) (ps:Ag)=>B9 (mg x=some (.ref f)) (PySem.W.keepIn K (.ref f)=true) (Binds K fd ps []) ((∀s vs H Q E,sp s vs H Q E->vs.length=ps.length)) (∀(A:Around)(outer:List Env)(s:Shared)(H:Hp)(args:Args)(us:Ay)(vs:List V)(Q:VK)(E:XK),Bm k A->GZ P w K mg base A outer s H->BindsTo s fd args (ps.zip us)->Vals vs us->sp s vs H Q E->
   codeAny (model P w) A (.call (.ref f) args) (CR Mr outer P w H s Q E) s))
def zd{kV:Value}
  (lk:kK.lookup f=some ⟨oc,od,.func (PySem.W.fnOf name qual params body scope dV kV doc pm an B_ ct),OG⟩)(HC:PySem.W.codeIn kK B_ qual=true)(S:C0 N ps scope)
  (hl:vs.length=ps.length)(hr:Bm (k+1) A)(e0:GZ P w kK mg base A outer s H)(hb:BindsTo s (PySem.W.fnOf name qual params body scope dV kV doc pm an B_ ct) args (ps.zip us))(r:Vals vs us)
  (JU:Bm k (A.deeper (envOfC qual scope s.hz f B_))->Lu (JV Mr P w kK mg base N qual scope f B_ A outer s H E).xM body {nx:=λ_ H'=>Q .BM H',rt:=Q} (start N vs) H):
  codeAny (model P w) A (.call (.ref f) args) (CR Mr outer P w H s Q E) s:=by
 have KX:kK.In s.heap:=e0.mod.TX.keeps λb o e=>(e0.bs b o e).1;have lim:s.heap.NoLimit:=e0.mod.nolimit.keeps λb o e=>(e0.bs b o e).1;have Rn:∀y∈ps.zip us,scope.names.lookup y.1=some .local\/(scope.names.lookup y.1=some .cell/\((cellsFrom (s.hz+1) scope.names []).lookup y.1).isSome=true):=λ⟨n,v⟩ hy=>by
  rcases S.par n (agn hy).1 with q|q;·exact .inl q
  ·exact .inr ⟨q,cellsFrom_some _ _ _ (.inl q)⟩
 refine codeAny_call_function hr.depth (KX _ _ lk) RR S.co S.gen RR (codeRec_of KX HC) (hb _ _ _ _ ?_);refine wpAny_newFunctionEnv_cells S.kind Rn λenv he s1 x=>?_;subst he;refine⟨lim.keeps x.toInCall.keep,codeAny_func ?_⟩;have I:Inv (JV Mr P w kK mg base N qual scope f B_ A outer s H E) [] (start N vs) H s1:=qr S hr.hd e0 hl r x;refine wpAny_mono (Nv.xM (dQ (X:=(JV Mr P w kK mg base N qual scope f B_ A outer s H E).xM)) [] s1 (start N vs) H _ I (JU (hr.deeper _))) (λfl s' hs=>?_) λe s' hs=>hs;have fin:∀{σ':St}{H':Hp}{v:V}{u:Value},Inv (JV Mr P w kK mg base N qual scope f B_ A outer s H E) [] σ' H' s'->RelV v u->Q v H'->CE outer P w H s Q u s':=
  λ{σ' H' v u} J rv q=>⟨v,H',J.os,J.bare,J.base,J.AU,rv,q⟩;cases fl with
 |ret u=>obtain⟨v,σ',H',J,rv,q⟩:=hs;exact fin J rv q
 |next=>obtain⟨σ',H',J,q⟩:=hs;exact fin (v:=V.BM) (u:=Value.none) J RR q
 |brk=>obtain⟨_,_,_,q⟩:=hs;exact False.elim q
 |cont=>obtain⟨_,_,_,q⟩:=hs;exact False.elim q
def t8{p pos:Pos}(C:Lw X.prog X.w X.K X.mg X.base k x sp)(hr:Bm k X.A)(hg:Gl X x)(h:Ea X (e::es) σ H λvs H1=>∀pins s,Inv X pins σ H1 s->sp s vs H1 Q E0)(Ja:GY x:=by decide)
  (he:Nu X e es:=by rfl)(B8:Om X pos es:=by rfl):Ev X (.Call (.Name x p) (e::es) [] pos) σ H Q:=by
 obtain⟨f,fd,ps,hm,hk,hb,hlen,F⟩:=C.ex;refine⟨λpins s I=>wpAny_Call_Name_kw (j_ I hg hm ?_ Ja)⟩;refine callWith_K I.ok.mod.TX hk (oW (h.run pos pins s I) λus s1 vs H1 I1 r q=>⟨I1.rq,?_⟩) he B8;have q':=q pins s1 I1;have hl:us.length=ps.length:=by rw[<-r.length];exact hlen _ _ _ _ _ q'
 have HD:BindsTo s1 fd ⟨us,[]⟩ (ps.zip us):=by simpa using hb s1 us I1.rq (by simpa using hl)
 refine wpAny_call (codeAny_mono (F X.A X.stack s1 H1 ⟨us,[]⟩ us vs Q E0 hr I1.yp HD r q') λr s' hq=>?_);cases r with
 |error e=>exact hq.elim
 |ok fl=>
  cases fl with
  |ret u=>exact I1.after hq
  |next=>exact False.elim hq
  |brk=>exact False.elim hq
  |cont=>exact False.elim hq
noncomputable def chainOf{α:Type}[DecidableEq α](Ki:α->List α):Nat->List α->α->List α
 |0,_,_=>[]
 |k+1,l,s=>match Ki s with
  |[]=>[]
  |t::_=>if l.contains t then[t]else t::chainOf Ki k (t::l) t
def fE{α:Type}[DecidableEq α]:∀{l t:List α},l.Nodup->(∀x∈l,x∈t)->l.length<=t.length
 |[],t,_,_=>afk _
 |a::l,t,hn,hs=>by have ha:=hs a (aff ..);have:=fE (t:=t.erase a) (afN.mp hn).2 λx hx=>(List.mem_erase_of_ne (λz=>(afN.mp hn).1 (by rw[<-z];exact hx))).mpr (hs x (ae6 _ hx));grind
def adV(zs:List V):JW zs (some 1) none=zs.drop 1:=by
 unfold JW;have h1:HT.Lj zs.length 0 (some 1)=min 1 zs.length:=HT.qR zs.length 0 1;rw[h1,HT.sL];cases zs with
 |nil=>rfl
 |cons a r=>simp_all
def jj{α:Type}[DecidableEq α](path:List α)(y t:α):(path.reverse++[y]).contains t=(y::path).contains t:=by rw[afb,age,age];simp;exact or_comm
def Rc{α:Type}[DecidableEq α](rel:α->V->Hp->Prop):R2:=λx y H Q=>∃(l:Addr) (zs:List V) (ys:List α) (y0:α),y= .ref l/\H l=some (.lst zs)/\Aw rel ys zs H/\rel y0 x H/\Q (.bl (ys.contains y0)) H
variable{P:Program}{w:World}{K:Frag}{mg:B3}{base:Heap}in
structure XH{α:Type}(P:Program)(w:World)(K:Frag)(mg:B3)(base:Heap)(k:Nat)(rel:α->V->Hp->Prop)(Ki:α->List α)(U:List α)(f:Addr)(s0:Shared)(H0:Hp):Prop where
 fn:∃o:Obj,(∃fd,o.data= .func fd)/\H0 f=some (KH f o)
 run:∀(A:Around)(outer:List Env)(s:Shared)(H:Hp)(u:Value)(v:V)(y:α)(Q:VK),Bm k A->GZ P w K mg base A outer s H->Aa H0 H->OY s0 H0 s H->RelV v u->rel y v H->y∈U->
  (∀c ws H',Aa H H'->H c=none->H' c=some (.lst ws)->Aw rel (Ki y) ws H'->Q (.ref c) H')->codeAny (model P w) A (.call (.ref f) ⟨[u],[]⟩) (CR Mr outer P w H s Q E0) s
def Sz{α:Type}[DecidableEq α](P:Program)(w:World)(K:Frag)(mg:B3)(base:Heap)(k:Nat)(rel:α->V->Hp->Prop)(N:Nat):Shared->Sp:=λs vs H Q _=>FX λ(v0:V) (f:Addr) (y0:α) (Ki:α->List α) (U:List α)=>Ox (vs=[v0,.ref f]) (rel y0 v0 H) (y0∈U) (U.length<N) (N<=1000) (∀y∈U,∀z∈Ki y,z∈U) (XH P w K mg base k rel Ki U f s H) (∀c ws H',Aa H H'->H c=none->H' c=some (.lst ws)->Aw rel (chainOf Ki N [y0] y0) ws H'->Q (.ref c) H')
def ur{ys:List α}{zs:List V}(h:Aw rel (y::ys) zs H):Aw rel ys (zs.drop 1) H:=
 ⟨by rw[ahy,h.1];simp,λk y' z' a b=>h.2 (k+1) y' z' (by simpa using a) (by simp_all)⟩
def wU{P:Program}{w:World}{mg:B3}{base:Heap}{α:Type}{k N:Nat}{rel:α->V->Hp->Prop}[DecidableEq α](T:Txt kK mg aD base)(hm:∀y z H H',rel y z H->Qt H H'->rel y z H')(hw:∀y z (H:Hp) l xs ys,rel y z H->H l=some (.lst xs)->rel y z (upd H l (.lst ys)))
  (Vb:∀X:Cx,X.A.units+64<cLine->Eu X (compareOp .In) (Rc rel)):Lw P w kK mg base (k+1) "chain" (Sz P w kK mg base k rel N):=by
 obtain⟨f0,fd,Ye,F⟩:=T.d.chain.ex;refine⟨f0,fd,["start","following"],Ye,F.kp,F.binds iY.bd,λs vs H Q E h=>?_,λA outer s H args us vs Q E hr e0 hb r h=>?_⟩;·obtain⟨v0,f,y0,Ki,U,rfl,_⟩:=h;rfl
 ·obtain⟨oc,od,kV,doc,pm,an,B_,ct,OG,rfl,lk,HC⟩:=F.ex;obtain⟨v0,f,y0,Ki,U,rfl,D0,ZK,hUN,hN,hU,FOL,q⟩:=h;refine zd lk HC iY.sc RR hr e0 hb r λI0=>?_;obtain⟨o,PN,U_⟩:=FOL.fn;refine ag<|aP 2 iY.sc.nd<|ay<|aa<|af 0<|ab ⟨bq,λl hl=>?_⟩;have s1:Aa H (upd H l (.lst [v0])):=Aa.ax hl;refine ag<|aP 3 iY.sc.nd<|t7 (i:=1) (f:=f) RR (Or.inl RR) RR ⟨o,PN,s1 _ _ U_⟩<|af 0 ⟨Aa.refl _,λpins s' u I ru=>FOL.run _ _ _ _ _ _ y0 _ I0 I.yp s1 (I.acv RR) ru (hm _ _ _ _ D0 s1.go) ZK λc ws H2 s2 hc ec rc=>?_⟩;have Zu:c≠l:=λz=>by rw[z,ae]at hc;cases hc
  refine ag<|ox (λσ H'=>(Kd λ(path cs:List α) (c:Addr) (zs ws:List V) (v4:Option V)=>Ow (σ=[some v0,some (.ref f),some (.ref l),some (.ref c),v4]) (Aa H H') (H' l=some (.lst zs)) (Aw rel (y0::path) zs H') (H' c=some (.lst ws)) (c≠l) (Aw rel cs ws H') (path.length<=N) (((cs=[]/\chainOf Ki N [y0] y0=path)\/(Au λcur fuel=>Dn (cs=Ki cur) (cur∈U) ((y0::path).Nodup) ((∀x∈y0::path,x∈U)) (chainOf Ki N [y0] y0=path++chainOf Ki fuel (path.reverse++[y0]) cur) (fuel+path.length=N))))))
   (λσ H'=>match H' l with|some (.lst zs)=>N+3-zs.length|_=>0)
   ⟨[],Ki y0,c,[v0],ws,none,RR,s1.trans s2,s2 _ _ ae,fL (ys:=[]) (zs:=[]) fB (hm _ _ _ _ D0 (s1.trans s2).go),ec,Zu,rc,afk _,.inr ⟨y0,N,RR,ZK,by simp,by simpa using ZK,RR,RR⟩⟩ ?_;rintro σ H3 ⟨path,cs,c,zs,ws,v4,rfl,s3,el,rz,Yw,Zu,rw3,B8,ph⟩;refine aV jf (aJ _)<|aX RR T.c.AV<|af 3 ⟨c,ws,RR,Aj.of Yw,aG ⟨_,_,RR,RR,_,RR,?_⟩⟩;cases ws with
  |nil=>
   rw[decide_eq_false (by simp),if_neg ae0];have ecs:cs=[]:=afI.mp (by rw[<-rw3.1];rfl);have full:chainOf Ki N [y0] y0=path:=by
    rcases ph with⟨_,e⟩|⟨cur,fuel,e1,_,_,_,e2,_⟩;·exact e
    ·rw[e2];rw[ecs]at e1;cases fuel with
     |zero=>simp[chainOf]
     |succ n=>simp[chainOf,<-e1]
   refine ah<|aj<|oh mM wa<|af 2<|aG ⟨1,RR,l,zs,RR,Aj.of el,λp hp=>?_⟩;rw[adV];have s4:=s3.aL (o:=.lst (zs.drop 1)) (s3.free hp) (aM hp);refine q p _ _ s4 (s3.free hp) ae ?_;rw[full];exact aZ hm (ur rz) (Aa.ax hp)
  |cons t0 wr=>
   rw[decide_eq_true (by simp),if_pos RR];obtain⟨t,ht,rt⟩:=e_ rw3 (i:=0) RR;rcases ph with⟨e,_⟩|⟨cur,fuel,ecs,Aab,hnd,WY,Uc,hf⟩;·rw[e]at ht;simp at ht
   obtain⟨cr,ecr⟩:∃cr,Ki cur=t::cr:=by
    rw[ecs]at ht;cases h:Ki cur with
    |nil=>rw[h]at ht;simp at ht
    |cons a b=>rw[h]at ht;exact⟨b,by rw[show a=t by simpa using ht]⟩
   have ZR:t∈U:=hU cur Aab t (by rw[ecr];exact aff ..);have AaB:path.length+1<=U.length:=by have:=fE hnd WY;simpa using this
   obtain⟨fu,rfl⟩:∃fu,fuel=fu+1:=⟨fuel-1,by omega⟩;have LX:zs.length=path.length+1:=by rw[rz.1];simp
   refine ag<|aP 4 iY.sc.nd<|bh (Vb _ I0.units) (by with_unfolding_all rfl)<|aH 3 0 Yw RR<|af 2 ⟨l,zs,y0::path,t,RR,el,rz,rt,?_⟩;refine ag<|bV<|af 2 ⟨l,zs,RR,el,aH 3 0 Yw RR ⟨zs,el,afl (show zs.length<=1001 by omega) (by decide),?_⟩⟩;have s4:Aa H (upd H3 l (.lst (zs++[t0]))):=s3.aL hl (aw el RR);have rz4:Aw rel (y0::(path++[t])) (zs++[t0]) (upd H3 l (.lst (zs++[t0]))):=by have:=fL rz rt;refine⟨by simpa using this.1,λk' y' z' a' b'=>hw _ _ _ _ _ _ (this.2 k' y' z' (by simpa using a') b') el⟩
   have ec4:upd H3 l (.lst (zs++[t0])) c=some (.lst (t0::wr)):=by rw[ai Zu];exact Yw
   have mlt:∀H5:Hp,H5 l=some (.lst (zs++[t0]))->(match H5 l with|some (.lst zs)=>N+3-zs.length|_=>0)<(match H3 l with|some (.lst zs)=>N+3-zs.length|_=>0):=λH5 h5=>by rw[h5,el];show N+3-(zs++[t0]).length<N+3-zs.length;rw[afg];simp;omega
   refine ah<|aP 3 iY.sc.nd<|ku<|aO<|af 4 ⟨_,RR,?_⟩;refine ite_bool (λhk=>?_) (λhk=>?_)
   ·refine ay<|ab ⟨afk _,λc' EV=>⟨⟨path++[t],[],c',zs++[t0],[],_,RR,s4.aL (s4.free EV) (aM EV),?_,aZ hm rz4 (Aa.ax EV),ae,?_,fB,by rw[afg];simp;omega,.inl ⟨RR,?_⟩⟩,?_⟩⟩;·exact Aa.ax EV _ _ ae
    ·intro z;rw[z,ae]at EV;cases EV
    ·rw[Uc];simp only[chainOf,ecr];rw[jj,hk,if_pos RR]
    ·exact mlt _ (Aa.ax EV _ _ ae)
   ·refine t7 (i:=1) (f:=f) RR (Or.inl RR) RR ⟨o,PN,s4 _ _ U_⟩<|aH 3 0 ec4 RR ⟨Aa.refl _,λpins s' u I ru=>FOL.run _ _ _ _ _ _ t _ I0 I.yp s4 (I.acv RR) ru (hw _ _ _ _ _ _ rt el) ZR λc' ws' H5 s5 EV Xq Wx=>⟨⟨path++[t],Ki t,c',zs++[t0],ws',_,RR,s4.trans s5,s5 _ _ ae,aZ hm rz4 s5,Xq,?_,Wx,by rw[afg];simp;omega,.inr ⟨t,fu,RR,ZR,?_,?_,?_,?_⟩⟩,?_⟩⟩;·intro z;rw[z,ae]at EV;cases EV
    ·have hnt:t∉y0::path:=by intro hm';rw[age.mpr hm']at hk;cases hk
     rw[show y0::(path++[t])=(y0::path)++[t]from rfl,agu];exact⟨hnd,by simp,λa ha b hb=>by rw[afm.mp hb];exact λz=>hnt (z▸ha)⟩
    ·intro x hx;rw[show y0::(path++[t])=(y0::path)++[t]from rfl]at hx;rcases afE.mp hx with z|z;·exact WY x z
     ·rw[afm.mp z];exact ZR
    ·rw[Uc];simp only[chainOf,ecr];rw[jj,hk,if_neg ae0];simp
    ·rw[afg];simp;omega
    ·exact mlt _ (s5 _ _ ae)
abbrev Pl:Nat->V->Hp->Prop:=λy z _=>z= .int (y:Int)
def xC(y:Nat)(z:V)(H H':Hp)(h:Pl y z H)(_:Qt H H'):Pl y z H':=h
def ack:Aw Pl ys (nums ys) H:=⟨aq ys,λk y z a b=>by rw[aU a]at b;exact(ae2 b).symm⟩
def oT{zs:List V}(h:Aw Pl ys zs H):zs=nums ys:=by
 apply aht;intro i;by_cases hi:i<zs.length;·obtain⟨y,hy,e⟩:=e_ h (i:=i) (z:=zs[i]) (by simp);rw[aU hy,afu hi,e]
 ·rw[afO (by omega),afO (by rw[aq,<-h.1];omega)]
def adu:Eu X (compareOp .In) (Rc Pl):=by rintro pins s σ H x y v u Q I rx ry ⟨l,zs,ys,y0,rfl,hl,rz,e,q⟩;subst e;have ez:=oT rz;subst ez;refine k0 pins s σ H _ _ v u Q I rx ry ⟨l,_,RR,.inl (Aj.of hl),RR,eY ys,?_⟩;rw[if_neg ae0,gh];exact q
def rX{α:Type}[DecidableEq α](ys:List α)(y:α):ys.contains y=decide (y∈ys):=by simp
def aar(a b c d:Int):PyData.eqv (.tuple [.int a,.int b]) (.tuple [.int c,.int d])=decide (a=c/\b=d):=by simp only[PyData.eqvAll,PyData.eqv];rw[afb];simp
def nj{σ:L2.St}(I:Inv X pins σ H s)(h:H p=some (.tup [.int a,.int b])):∃as,Reads s.heap (.ref p) (.tuple [.int a,.int b]) as:=by obtain⟨its,r,⟨o,ho,hc,n,hd⟩,_⟩:=I.tuple (Cd.of h);obtain⟨u1,u2,rfl,⟨t1,rfl⟩,t2,rfl⟩:=vals2 r;exact⟨_,.tuple ho hc hd (.cons (.int a t1) (.cons (.int b t2) .nil))⟩
open Classical in
theorem abS{X:Cx}(hu:X.A.units+64<cLine):Eu X (compareOp .In) (Rc AQ):=by
 intro pins s σ H x y v u Q I rx ry h;obtain⟨l,zs,ys,y0,rfl,hl,rz,⟨p0,rfl,VS⟩,q⟩:=h;cases ry;obtain rfl:v=Value.ref p0:=rx;obtain⟨its,r,pl,hz⟩:=I.list (Aj.of hl);obtain⟨as0,R0⟩:=nj I VS;have key:∀(i:Nat)(w':Value),its[i]? =some w'->∃(y:Nat×Nat) (pw:Addr),ys[i]? =some y/\w'= .ref pw/\H pw=some (.tup [.int (y.1:Int),.int (y.2:Int)]):=λi w' hi=>by
  have Bz:i<zs.length:=by rw[r.length];exact(ae3.mp hi).1
  have UY:zs[i]? =some zs[i]:=by simp[Bz]
  obtain⟨u',X8,Mp⟩:=r.get UY;rw[hi]at X8;cases X8;obtain⟨y,hy,pw,e,PM⟩:=e_ rz UY;rw[e]at Mp;exact⟨y,pw,hy,Mp,PM⟩
 let e:Value->Bool:=λw'=>decide (∃pw,w'=Value.ref pw/\H pw=some (.tup [.int (y0.1:Int),.int (y0.2:Int)]));have ee:∀(i:Nat)(w':Value)(y:Nat×Nat)(pw:Addr),its[i]? =some w'->ys[i]? =some y->w'= .ref pw->H pw=some (.tup [.int (y.1:Int),.int (y.2:Int)])->e w'=decide (((y.1:Int)=(y0.1:Int))/\((y.2:Int)=(y0.2:Int))):=λi w' y pw _ _ hw PM=>by
  show decide _=decide _;congr 1;apply propext;constructor;·rintro⟨pw',h1,h2⟩;rw[hw]at h1;cases h1;rw[PM]at h2;injection h2 with h2;injection h2 with h2;injection h2 with h2 h3;injection h3 with h3 h4;injection h2 with h2;injection h3 with h3;exact⟨h2,h3⟩
  ·rintro⟨h1,h2⟩;exact⟨pw,hw,by rw[PM,h1,h2]⟩
 refine SeqAt.in_listAt e pl.isList (λw' hw=>?_) ⟨.bl _,H,I,RR,?_⟩
 ·obtain⟨i,hi⟩:=agg (show w'∈its by simpa using hw);obtain⟨y,pw,hy,rfl,PM⟩:=key i w' hi;obtain⟨as1,R1⟩:=nj I PM;have:=SeqAt.eqAt_reads (.tuple [.int (y.1:Int),.int (y.2:Int)]) (.tuple [.int (y0.1:Int),.int (y0.2:Int)]) X.A.in1 s _ _ _ _ R1 R0 RR RR (by
   show X.A.units+1+_<cLine;have:min (PyData.depth (.tuple [.int (y.1:Int),.int (y.2:Int)])) (PyData.depth (.tuple [.int (y0.1:Int),.int (y0.2:Int)]))<=10:=by refine afe (af7 _ _) ?_;simp[PyData.depth,PyData.depthAll]
   omega);rw[aar]at this;rw[ee i _ y pw hi hy RR PM];exact this
 ·rw[rX]at q;have:its.toArray.any e=decide (y0∈ys):=by
   rw[show its.toArray.any e=its.any e by simp,afb,af1,decide_eq_true_iff];constructor;·rintro⟨w',hw,he⟩;obtain⟨i,hi⟩:=agg hw;obtain⟨y,pw,hy,ZM,PM⟩:=key i w' hi;rw[ee i w' y pw hi hy ZM PM]at he;have:=of_decide_eq_true he;have:y=y0:=Prod.ext (by omega) (by omega);rw[<-this];exact afa hy
   ·intro hm;obtain⟨i,hi⟩:=agg hm;have Bz:i<its.length:=by rw[<-r.length,rz.1];exact(ae3.mp hi).1
    have hw:its[i]? =some its[i]:=by simp[Bz]
    obtain⟨y,pw,hy,ZM,PM⟩:=key i _ hw;rw[hi]at hy;cases hy;refine⟨its[i],agz Bz,?_⟩;rw[ee i _ y0 pw hw hi ZM PM];simp
  rw[this];refine cast (congrArg (λb=>Q (V.bl b) H) ?_) q;exact decide_eq_decide.mpr Iff.rfl
def kW{gs:Ae}{pa:Nat->Addr}(h:H1 d=some (.FN ob (.dK (gs.map λ(x:Nat)=>((Sum.inl (x:Int):Key),V.ref (pa x)))))):BA (YD d ob (gs.map λ(x:Nat)=>((Sum.inl (x:Int):Key),V.ref (pa x)))) H1 gs λg x _=>x=V.int (g:Int) where
 go:=λi H' s hi=>⟨s _ _ h,by simpa using hi⟩
 Ke:=λi H' x Ls s hi y=>by obtain⟨rfl,k,v,e,rfl⟩:=y;rw[afc]at e;obtain⟨g,hg,e2⟩:=afL.mp e;cases e2;exact⟨g,hg,Aa.refl _,RR⟩
 stop:=λi H' s hi=>⟨s _ _ h,by simpa using hi⟩
def Pe:Sp:=λvs H Q _=>FX λ(a b:Addr) (g:Nat) (new old:Ae)=>Dn (vs=[.int g,.ref a,.ref b]) (H a=some (.lst (nums new))) (H b=some (.lst (nums old))) (new.length=old.length) (new.length<=5) (ET H (.bl (Hs g new old)) Q)
def vE(T:Txt kK mg aD base):Bx P w T 3 "all_gain" Pe:=by
 refine bt T.d.RG jF ?_;rintro bo H vs Q E hr ⟨a,b,g,new,old,rfl,ha,hb,hl,h5,q⟩;refine ah<|aj<|bI (vv RR) RR T.c.RE agT<|aa<|dG (α:=Nat) (j:=3) (pr:=g.testBit) (f:=λi=>.bl (decide (old.getD i 0<new.getD i 0))) RR jF.sc.nd (aB (by kernel_rfl)) (λ_ _ _ _ _=>cT 3 jF.sc.nd)<|
  cn RR T.c.Ck<|aa<|aX RR T.c.AV<|af 1 ⟨a,_,RR,Aj.of ha,ab ⟨_,RR,by rw[aq];omega,_,_,bu,by rw[afi,aq];exact small h5,?_,?_,?_⟩⟩
 ·intro y hy H' sm s0 H0 C cl fp;have:y<new.length:=by have:=afD.mp hy;rw[aq]at this;exact this
  exact bp<|aO<|ao (gQ T) hr<|af 0<|aa<|af 3<|ab ⟨g,y,RR,by omega,_,RR,Aa.refl _,RR⟩
 ·intro y hy _ H' sm s0 H0 C cl fp;have G1:y<new.length:=by have:=afD.mp hy;rw[aq]at this;exact this
  have SV:old[y]? =some (old.getD y 0):=getD_at (by omega);refine bh jf (aJ _)<|bg bj<|af 1<|af 3 ⟨a,_,_,_,RR,RR,Aj.of (sm _ _ ha),aS (aU (getD_at G1)),bg bj<|af 2<|af 3 ⟨b,_,_,_,RR,RR,Aj.of (sm _ _ hb),aS (aU SV),_,_,RR,RR,Aa.refl _,?_⟩⟩;exact congrArg V.bl (decide_eq_decide.mpr ahe)
 ·intro D H' hD sm e;refine ab ⟨D,((List.range (nums new).length).filter g.testBit).map λi=>decide (old.getD i 0<new.getD i 0),RR,by rw[afr];exact Aj.of e,?_⟩;rw[ahF];unfold Hs at q;rw[aq];exact q H' sm
def O8:Sp:=λvs H Q _=>CO λ(d o:Addr) (M:Sm) (old:Ae)=>Dn (vs=[.ref d,.ref o]) (HB H d M) (Good M) (H o=some (.lst (nums old))) (old.length=M.nP) (C6 H (nums (B0 M old)) Q)
def jI(T:Txt kK mg aD base):Bx P w T 4 "left_for" O8:=by
 refine bt T.d.Ra jA ?_;rintro bo H vs Q E hr ⟨d,o,M,old,rfl,hD,hG,ho,hl,q⟩;obtain⟨ob,pa,h1,h2⟩:=hD.ex;refine ah<|aj<|dG (α:=Nat) (j:=2) (pr:=λg=>Hs g (deal M g) old) (f:=λg=>.int (g:Nat)) RR jA.sc.nd (aB (by kernel_rfl)) (λ_ _ _ _ _=>cT 2 jA.sc.nd)<|
  rS<|af 0 ⟨d,ob,RR,.inl ⟨_,h1,CD M,_,kW h1,small (afS (fj hG)),?_,?_,?_⟩⟩;·intro y hy H' sm s0 H0 C cl fp;exact bp<|aO<|ao (vE T) hr<|af 2<|aa<|fH (jg hr)<|af 0<|af 2 ⟨d,_,RR,.inl ⟨_,.inl (y:Int),.inr ⟨ob,sm _ _ h1⟩,RR,(mI hy).symm⟩,aa<|af 1<|ab ⟨pa y,o,y,deal M y,old,RR,sm _ _ (h2 y hy),sm _ _ ho,by rw[dZ,hl],by rw[dZ];exact hG.n5,λH2 s2=>⟨_,RR,s2,RR⟩⟩⟩
 ·intro y hy _ H' sm s0 H0 C cl fp;exact af 2 ⟨Aa.refl _,RR⟩
 ·intro D H' Yr sm e;exact q D H' sm Yr e
def Jo(M:Sm)(g:Nat):Am:=(if may M g then 1 else 0)::zs (five (deal M g))
def pT(T:Txt kK mg aD base):Bx P w T 7 "answer_deal" (LC aD Jo):=by
 refine bt T.d.Np pJ ?_;rintro bo H vs Q E hr ⟨a,v,M,g,rfl,hS,hv,h1,h2,q⟩;unfold Jo at q;rw[afq,gB]at q;refine ah<|aj<|a0 eE<|ay<|aa<|ao (fK T) hr<|ao (kL T) hr<|af 0<|aa<|aH 1 0 hv RR<|ab ⟨a,M,g,RR,hS,λH1 s1=>ab ⟨_,RR,ab ⟨bq,λp hp=>?_⟩⟩⟩;have s2:=s1.aL (o:=.lst [.int (if may M g then 1 else 0)]) (s1.free hp) (aM hp);refine ao (lL T) hr<|ao (i7 T) hr<|af 0<|aa<|aH 1 0 (s2.lst hv) RR<|ab ⟨a,M,g,RR,hS.mono s2,h1,h2,λp2 H3 s3 Mq e3=>ab ⟨p2,_,RR,e3,by rw[dZ];exact hS.good.n5,λp3 H4 s4 ZY e4=>⟨p,p3,_,_,RR,RR,(s3.trans s4) _ _ ae,e4,?_,λr hr=>?_⟩⟩⟩;·rw[aq];exact small (k:=10) (by unfold five;simp)
 ·have sA:=s2.trans (s3.trans s4);exact q r _ (sA.aL (sA.free hr) (aM hr)) (sA.free hr) ae
def Mi(M:Sm):Am:=cnt (CD M)
def pQ(T:Txt kK mg aD base):Bx P w T 8 "answer_mays" (GJ aD Mi):=by refine bt T.d.Nm pI ?_;rintro bo H vs Q E hr ⟨a,v,M,l,rfl,hS,hv,q⟩;unfold Mi at q;rw[bW]at q;refine ah<|aj<|ao (bF T) hr<|ao (fA T) hr<|af 0<|ab ⟨a,M,RR,hS,λp H1 s1 hp e1=>ab ⟨p,_,RR,e1,by rw[aq];have:=fj hS.good;omega,λr H2 s2 hr e2=>?_⟩⟩;rw[aq]at e2;exact q r H2 (s1.trans s2) (s1.free hr) e2
def J6(M:Sm)(g:Nat):Am:=cnt (B0 M (deal M g))
def oK(T:Txt kK mg aD base):Bx P w T 9 "answer_leave" (LC aD J6):=by
 refine bt T.d.Mb n8 ?_;rintro bo H vs Q E hr ⟨a,v,M,g,rfl,hS,hv,h1,h2,q⟩;unfold J6 at q;rw[bW]at q;refine ah<|aj<|ao (bF T) hr<|ao (jI T) hr<|ao (cz T) hr<|af 0<|ab ⟨a,M,RR,hS,λd H1 s1 hd hD=>aa<|ao (i7 T) hr<|af 0<|aa<|aH 1 0 (s1.lst hv) RR<|
  ab ⟨a,M,g,RR,hS.mono s1,h1,h2,λo H2 s2 ho e2=>ab ⟨d,o,M,_,RR,hD.mono s2,hS.good,e2,dZ M g,λp H3 s3 hp e3=>ab ⟨p,_,RR,e3,by rw[aq];have:=tD hS.good (deal M g);omega,λr H4 s4 hr e4=>?_⟩⟩⟩⟩;rw[aq]at e4;have sA:=(s1.trans s2).trans s3;exact q r H4 (sA.trans s4) (sA.free hr) e4
def Ib(M:Sm):Am:=cnt ((CD M).filter λg=>(B0 M (deal M g)).length==0)
def mB(T:Txt kK mg aD base):Bx P w T 9 "answer_stable" (GJ aD Ib):=by
 refine bt T.d.KW c3 ?_;rintro bo H vs Q E hr ⟨a,v,M,l,rfl,hS,hv,q⟩;unfold Ib at q;rw[bW]at q;refine ag<|bJ 2 c3.sc.nd RR (Or.inr RR)<|ao (cz T) hr<|af 0<|ab ⟨a,M,RR,hS,λd H1 s1 hd hD=>?_⟩;obtain⟨ob,pa,e1,e2⟩:=hD.ex;refine ah<|aj<|ao (bF T) hr<|dG (α:=Nat) (j:=3) (pr:=λg=>(B0 M (deal M g)).length==0) (f:=λg=>.int (g:Nat)) RR c3.sc.nd (aB (by kernel_rfl)) (λ_ _ _ _ _=>cT 3 c3.sc.nd)<|
  rS<|af 2 ⟨d,ob,RR,.inl ⟨_,e1,CD M,_,kW e1,small (afS (fj hS.good)),?_,?_,?_⟩⟩
 ·intro y hy H' sm s0 H0 C cl fp;refine bp<|aV bO (aJ _)<|aX RR T.c.AV<|ao (jI T) hr<|af 2<|aa<|fH (jg hr)<|af 2<|af 3 ⟨d,_,RR,.inl ⟨_,.inl (y:Int),.inr ⟨ob,sm _ _ e1⟩,RR,(mI hy).symm⟩,ab ⟨d,pa y,M,_,RR,hD.mono sm,hS.good,sm _ _ (e2 y hy),dZ M y,λp H3 s3 hp e3=>⟨p,_,RR,Aj.of e3,aG ⟨RR,_,RR,s3,?_⟩⟩⟩⟩;rw[aq];by_cases z:(B0 M (deal M y)).length=0;·rw[z];rfl
  ·rw[decide_eq_false (by intro e;injection e with e;omega)];exact(beq_false_of_ne z).symm
 ·intro y hy _ H' sm s0 H0 C cl fp;exact af 3 ⟨Aa.refl _,RR⟩
 ·intro D H' Yr sm e;have e':H' D=some (.lst (nums ((CD M).filter λg=>(B0 M (deal M g)).length==0))):=e;refine ab ⟨D,_,RR,e',?_,λr H3 s3 hr e3=>?_⟩;·rw[aq];have:=fj hS.good;exact afl (afh _ _) (by omega)
  ·rw[aq]at e3;have sA:=s1.trans sm;exact q r H3 (sA.trans s3) (sA.free hr) e3
def Na(M:Sm)(x:Nat):Ae:=B0 M (deal M x)
def RF(M:Sm)(g:Nat):Am:=cnt (chainOf (Na M) 64 [g] g)
def iC{α:Type}[DecidableEq α](Ki:α->List α):∀(k:Nat)(l:List α)(s:α),(chainOf Ki k l s).length<=k
 |0,_,_=>ae8 _
 |k+1,l,s=>by
  unfold chainOf;split;·exact afk _
  ·split;·simp
   ·have:=iC Ki k;grind
def qu(h1:1<=g)(h2:g<=As M):g∈groups M:=List.mem_range'_1.mpr ⟨h1,by omega⟩
def uk(T:Txt kK mg aD base):Bx P w T 10 "answer_on" (LC aD RF):=by
 refine mkL T.l.EK mi (λvs H Q E h=>?_) (λf c A outer s H vs Q E hh hr h=>?_);·obtain⟨a,v,M,g,rfl,_⟩:=h;rfl
 ·obtain⟨a,v,M,g,rfl,hS,hv,h1,h2,q⟩:=h;unfold RF at q;rw[bW]at q;have hG:=hS.good;refine ag<|bJ 2 mi.sc.nd RR (Or.inr RR)<|ao (cz T) hr<|af 0<|ab ⟨a,M,RR,hS,λd H1 s1 hd hD=>?_⟩;refine ah<|aj<|ao (bF T) hr<|t8 (wU (α:=Nat) (k:=6) (N:=64) (rel:=Pl) T xC (λ_ _ _ _ _ _ h _=>h) λX _=>adu) (hr.mono (by decide)) RR<|aa<|aH 1 0 (s1.lst hv) RR<|aa<|
   rQ (x:="group") (names:=["deals","state"]) (c:=c) (P:=aD.Kj) ⟨RR,fh (sc:=Ap CI) (λ_=>rfl) (by kernel_rfl),by kernel_rfl,⟨RR,RR,RR,by decide+kernel,by kernel_rfl,by decide+kernel,by decide+kernel⟩,λ_ _ _ _ _ _=>by kernel_rfl⟩ ⟨RR,hh,T.l.bm⟩ (hS.mono s1).tabs.on λlf H2 hlf s2 SR=>ab λpins sh I=>⟨.int g,lf,g,Na M,groups M,RR,RR,qu h1 h2,by have:=c8 hG;omega,by decide,λy hy z hz=>(afp.mp (mf hz)).1,⟨?_,?_⟩,?_⟩;·obtain⟨c',pm,L6,e1,_⟩:=SR;exact⟨_,⟨_,RR⟩,e1⟩
  ·intro A' LF s' H' u v' y Q' I0 e0 Cq kc ru rel ZI cont;have hy:=cD ZI;subst rel;have C1:=(s1.trans s2).trans Cq;refine nM (k:=5) (x:="group") (names:=["deals","state"]) (vs:=[.ref d,.ref a]) ⟨RR,fh (sc:=Ap CI) (λ_=>rfl) (by kernel_rfl),by kernel_rfl,⟨RR,RR,RR,by decide+kernel,by kernel_rfl,by decide+kernel,by decide+kernel⟩,λ_ _ _ _ _ _=>by kernel_rfl⟩ I0 e0 RR (SR.mono Cq) (kc.yF (I.yF (df<|cP 2<|cP 0<|df<|df iD))) ru ?_;intro c' A2 UN s2' cl2 Qn;refine bQ (jI T) (Qn.mono (by decide)) RR<|aa<|af 1<|aa<|bQ (i7 T) (Qn.mono (by decide)) RR<|aa<|af 2<|aa<|af 0<|ab ⟨a,M,y,RR,hS.mono C1,hy.1,hy.2,λo H3 s3 ho e3=>ab ⟨d,o,M,_,RR,hD.mono ((s2.trans Cq).trans s3),hG,e3,dZ M y,λp H4 s4 hp e4=>cont p _ H4 (s3.trans s4) (s3.free hp) e4 ack⟩⟩
  ·intro c' ws H' Cq EV Xq Wx;have ew:=oT Wx;subst ew;have:=iC (Na M) 64 [g] g;refine ab ⟨c',_,RR,Xq,by rw[aq];omega,λr H4 s4 ZV e4=>?_⟩;rw[aq]at e4;have sA:=(s1.trans s2).trans Cq;exact q r H4 (sA.trans s4) (sA.free ZV) e4
def Ht(M:Sm)(i:Nat):Ae:=(CD M).filter λg=>g.testBit i
def OO(M:Sm)(i:Nat):Nat:=Dj (λg=>(deal M g).getD i 0) 0 (Ht M i)
def F4(M:Sm)(i:Nat):Am:=if Ht M i=[]then[-33]else zs [(deal M (OO M i)).getD i 0,OO M i]
def pV(T:Txt kK mg aD base):Bx P w T 9 "answer_best" (UG aD F4):=by
 refine mkL T.l.De cj (λvs H Q E h=>?_) (λf c A outer s H vs Q E hh hr h=>?_);·obtain⟨a,v,M,i,rfl,_⟩:=h;rfl
 ·obtain⟨a,v,M,i,rfl,hS,hv,hi,q⟩:=h;unfold F4 at q;have hG:=hS.good;refine ag<|bJ 2 cj.sc.nd RR (Or.inr RR)<|aH 1 0 hv RR ?_;refine ag<|bJ 3 cj.sc.nd RR (Or.inr RR)<|ao (cz T) hr<|af 0<|ab ⟨a,M,RR,hS,λd H1 s1 hd hD=>?_⟩;obtain⟨ob,pa,e1,e2⟩:=hD.ex;refine ag<|cI (i:=4) RR cj.sc.nd RR RR (own:=[("group",5)]) (aB (by kernel_rfl)) (λ_ _ _ _ _=>cT 5 cj.sc.nd)<|yZ (α:=Nat) (pr:=λg=>g.testBit i) (f:=λg=>.int (g:Nat))<|
   rS<|af 3 ⟨d,ob,RR,.inl ⟨_,e1,CD M,_,kW e1,small (afS (fj hG)),?_,?_,?_⟩⟩;·intro y hy H' sm s0 H0 C cl fp;exact bp<|aO<|ao (gQ T) hr<|af 5<|aa<|af 2<|ab ⟨y,i,RR,by have:=hG.n5;omega,_,RR,Aa.refl _,RR⟩
  ·intro y hy _ H' sm s0 H0 C cl fp;exact af 5 ⟨Aa.refl _,RR⟩
  ·intro D H2 VW s2 eD;have eD:H2 D=some (.lst (nums (Ht M i))):=eD;have C1:=s1.trans s2;have gO:∀g∈CD M,(deal M g)[i]? =some ((deal M g).getD i 0):=λg _=>getD_at (by rw[dZ];exact hi);refine ag<|aW<|aV bO (aJ _)<|aX RR T.c.AV<|af 4 ⟨D,_,RR,Aj.of eD,aG ⟨RR,_,RR,?_⟩⟩;rw[aq];by_cases AW:Ht M i=[];·rw[if_pos AW]at q;rw[decide_eq_true (by rw[AW];rfl),if_pos RR];refine ah<|aj<|ay<|aa<|au T.c.DV RR<|ab ⟨bq,λr hr=>?_⟩;exact q r _ (C1.aL (C1.free hr) (aM hr)) (C1.free hr) ae
   ·rw[if_neg AW,gB]at q;rw[decide_eq_false (by intro z;injection z with z;exact AW (afI.mp (by omega))),if_neg ae0];refine aA<|ag<|aP 6 cj.sc.nd<|lE (k:=1) (x:="group") (names:=["deals","party"]) (vs:=[.ref d,.int i]) RR (hr.mono (by decide)) ⟨RR,fh (sc:=Ap Ct) (λ_=>rfl) (by kernel_rfl),by kernel_rfl,⟨RR,RR,RR,by decide+kernel,by kernel_rfl,by decide+kernel,by decide+kernel⟩,λ_ _ _ _ _ _=>by kernel_rfl⟩ ⟨RR,hh,T.l.bm⟩
     (df<|cP 3<|cP 2 iD) RR RR T.c.ID<|af 4 ⟨D,nums (Ht M i),Kg (λg=>(deal M g).getD i 0) (Ht M i),RR,Aj.of eD,?_,(hS.mono C1).tabs.best,?_,?_⟩;·rw[aq];exact af6.mpr AW
    ·intro j v' Ob ff H3 s3 c' A' LF s' cl' I0;unfold nums at Ob;rw[afc]at Ob;obtain⟨y,hy,rfl⟩:=afL.mp Ob;have UZ:y∈CD M:=(afp.mp (afa hy)).1;have JA:=s2.trans s3;refine bg bj<|fH (jg I0)<|af 1<|af 0 ⟨d,_,RR,.inl ⟨_,.inl (y:Int),.inr ⟨ob,JA _ _ e1⟩,RR,(mI UZ).symm⟩,af 2 ⟨pa y,_,_,_,RR,RR,Aj.of (JA _ _ (e2 y UZ)),aS (aU (gO y UZ)),Aa.refl _,?_⟩⟩;unfold Kg;rw[hy]
    ·intro j v' H3 Ob M6 s3;unfold nums at Ob;rw[afc]at Ob;obtain⟨y,hy,rfl⟩:=afL.mp Ob;rw[aq]at M6;have ee:y=OO M i:=r_ (d:=0) M6 hy;have UZ:y∈CD M:=(afp.mp (afa hy)).1;have JA:=s2.trans s3;refine ah<|aj<|ay<|aa<|bg bj<|fH (jg hr)<|af 3<|af 6 ⟨d,_,RR,.inl ⟨_,.inl (y:Int),.inr ⟨ob,JA _ _ e1⟩,RR,(mI UZ).symm⟩,af 2 ⟨pa y,_,_,_,RR,RR,Aj.of (JA _ _ (e2 y UZ)),aS (aU (gO y UZ)),aa<|af 6<|ab ⟨cQ,λr hr=>?_⟩⟩⟩;have sA:=C1.trans s3;rw[<-ee]at q;exact q r _ (sA.aL (sA.free hr) (aM hr)) (sA.free hr) ae
structure F7(prog:Program)(w:World)(A:Around)(it:Addr)(fp:Ax)(n:Nat)(P:Nat->Value->Prop)(St:Nat->Heap->Prop):Prop where
 frame:∀i h h',St i h->(∀b∈fp,∀o,h.get? b=some o->h'.get? b=some o)->St i h'
 item:∀i (s:Shared)(Q:CP)(E:CP),i<n->St i s.heap->(∀x h' tk,P i x->St (i+1) h'->Heap.SameBut it s.heap h'->Q x {s with heap:=h',toks:=tk})->wpAny (model prog w) A (nextOf (.ref it)) Q E s
 done:∀k (s:Shared)(Q:CP)(E:CP),n<=k->St k s.heap->(∀h' e,Heap.ExtBut it s.heap h'->(∃o,h'.get? e=some o/\o.cls= .type "StopIteration")->E (.ref e) {s with heap:=h'})->wpAny (model prog w) A (nextOf (.ref it)) Q E s
def F7.list(hh:A.handled=none)(it l:Addr)(AW:l≠it)(items:Array Value):F7 prog w A it [it,l] items.size (λi v=>items[i]? =some v) (λi h=>h.IsListIter it l i/\h.IsList l items) where
 frame:=(Draws.list (prog:=prog) (w:=w) hh it l AW items).frame
 item:=(Draws.list hh it l AW items).item
 done:=λk s Q E hk st hE=>wpAny_nextOf_list_end hh st.1 st.2 (by simp;omega) hE
def F7.str(hh:A.handled=none)(it:Addr)(x:Str)(t:Tok):F7 prog w A it [it] x.cps.size (λi v=>∃c u,x.cps[i]? =some c/\v= .str ⟨#[c]⟩ u) (λi h=>h.IsStrIter it "str_ascii_iterator" x t i) where
 frame:=(Draws.strAscii (prog:=prog) (w:=w) hh it x t).frame
 item:=(Draws.strAscii hh it x t).item
 done:=λk s Q E hk st hE=>wpAny_nextOf_ascii_end hh st (by simp;omega) hE
abbrev Cp(h:Heap)(T:Addr)(a1 a2:Value):Prop:=h.get? T=some {cls:=.type "tuple",data:=.seq #[a1,a2]}
structure P_(z TI TO i1 i2:Addr)(f1 f2:Ax):Prop where
 TIz:TI≠z
 TOz:TO≠z
 TITO:TI≠TO
 i1z:i1≠z
 TIi1:TI≠i1
 TOi1:TO≠i1
 F1:∀c∈f1,c≠z/\c≠TO/\c≠i2
 i2z:i2≠z
 TIi2:TI≠i2
 TOi2:TO≠i2
 F2:∀c∈f2,c≠z/\c≠TO/\c≠i1
def vR(hT:Cp s.heap T a1 a2)
  (h:∀h',h'.get? T=some {cls:=.type "tuple",data:=.seq ((#[a1,a2]:Array Value).setIfInBounds k x)}->Heap.SameBut T s.heap h'->Q () {s with heap:=h'}):
  wpAny (model prog w) A (updateSeq T (·.setIfInBounds k x)) Q E s:=by refine wpAny_updateSeq hT RR (h _ ?_ (agA ..));rw[ago _ hT RR];simp[Obj.mapSeq]
def w8{TI TO:Addr}{f1:Ax}{f2:Ax}{Q:CP}(D1:F7 prog w A i1 f1 n1 P1 S1)(D2:F7 prog w A i2 f2 n2 P2 S2)(D:P_ z TI TO i1 i2 f1 f2)
  (hz:IsZip s.heap z TI TO .none)(Di:Cp s.heap TI (.ref i1) (.ref i2))(DX:Cp s.heap TO a1 a2)
  (NR:S1 k s.heap)(k1:k<n1)(Ql:S2 k s.heap)(k2:k<n2)
  (hQ:∀h' tk x1 x2,P1 k x1->P2 k x2->IsZip h' z TI TO (rawInt s.hz)->Cp h' TO x1 x2->S1 (k+1) h'->S2 (k+1) h'->Cp h' s.hz x1 x2->h'.objs.size=s.hz+1->
   (∀c o,c≠z->c≠TO->c≠i1->c≠i2->s.heap.get? c=some o->h'.get? c=some o)->Q (.ref s.hz) {s with heap:=h',toks:=tk}):
  wpAny (model prog w) A (Builtin.«zip.__next__» ⟨[.ref z],[]⟩) (λfin s'=>∃v,fin= .done (.ret v)/\Q v s') E s:=by
 show wpAny _ _ (field (.ref z) 2>>=_) _ _ _;refine wpAny_bind (wpAny_field hz RR (x:=.bool false) RR ?_);show wpAny _ _ (field (.ref z) 3>>=_) _ _ _;refine wpAny_bind (wpAny_field hz RR (x:=.ref TI) RR ?_);refine wpAny_bind (wpAny_seqItems Di RR ?_);show wpAny _ _ (ownedTupleIsFree (.ref z)>>=_) _ _ _;refine wpAny_bind ?_;unfold ownedTupleIsFree;refine wpAny_bind (wpAny_field hz RR (x:=.none) RR (wpAny_pure ?_));simp only[if_true];refine wpAny_bind (wpAny_rule ?_);refine wpAny_bind (wpAny_field hz RR (x:=.ref TO) RR ?_);refine wpAny_bind (wpAny_setField_rec hz (by simp) λh0 Oa LZ=>?_);replace Oa:IsZip h0 z TI TO .ellipsis:=Oa;refine wpAny_bind ?_;simp only[List.zipIdx_cons,List.zipIdx_nil,agG,ahn];have q1:S1 k h0:=D1.frame _ _ _ NR λc hc o e=>LZ.extBut _ _ (D.F1 c hc).1 (e);refine wpAny_bind (wpAny_bind (wpAny_onRaise ?_));show wpAny _ _ (nextOf (.ref i1)>>=_) _ _ _;refine wpAny_bind (D1.item k _ _ _ k1 q1 λx1 PV tk1 p1 r1 Gg=>wpAny_pure ?_);replace Gg:Heap.SameBut i1 h0 PV:=Gg;have Rv:Cp PV TO a1 a2:=Gg.extBut _ _ D.TOi1 (LZ.extBut _ _ D.TOz (DX));refine wpAny_bind (wpAny_seqItems Rv RR ?_);refine wpAny_bind (vR Rv λM9 Oe Ge=>?_);replace Oe:Cp M9 TO x1 a2:=Oe;replace Ge:Heap.SameBut TO PV M9:=Ge;refine wpAny_bind (wpAny_letGo (wpAny_pure ?_));have q2:S2 k M9:=D2.frame _ _ _ Ql λc hc o e=>Ge.extBut _ _ (D.F2 c hc).2.1 (Gg.extBut _ _ (D.F2 c hc).2.2 (LZ.extBut _ _ (D.F2 c hc).1 (e)));refine wpAny_bind (wpAny_bind (wpAny_onRaise ?_));show wpAny _ _ (nextOf (.ref i2)>>=_) _ _ _;refine wpAny_bind (D2.item k _ _ _ k2 q2 λx2 Od tk2 p2 r2 Gf=>wpAny_pure ?_);replace Gf:Heap.SameBut i2 M9 Od:=Gf;have Ru:Cp Od TO x1 a2:=Gf.extBut _ _ D.TOi2 (Oe);refine wpAny_bind (wpAny_seqItems Ru RR ?_);refine wpAny_bind (vR Ru λJb M_ Gd=>?_);replace M_:Cp Jb TO x1 x2:=M_;replace Gd:Heap.SameBut TO Od Jb:=Gd;refine wpAny_bind (wpAny_letGo (wpAny_pure (wpAny_pure ?_)));refine wpAny_bind (wpAny_seqItems M_ RR ?_);refine wpAny_bind (wpAny_newTuple ?_);have hsz:Jb.objs.size=s.hz:=by rw[Gd.1,Gf.1,Ge.1,Gg.1,LZ.1]
 have WU:IsZip Jb z TI TO .ellipsis:=Gd.extBut _ _ D.TOz.symm (Gf.extBut _ _ D.i2z.symm (Ge.extBut _ _ D.TOz.symm (Gg.extBut _ _ D.i1z.symm (Oa))));have Z_:∀c o,c≠z->c≠TO->c≠i1->c≠i2->s.heap.get? c=some o->Jb.get? c=some o:=λc o c1 c2 d1 d2 e=>Gd.extBut _ _ c2 (Gf.extBut _ _ d2 (Ge.extBut _ _ c2 (Gg.extBut _ _ d1 (LZ.extBut _ _ c1 (e)))));have Rf:z<Jb.objs.size:=ae7 WU;refine wpAny_bind ?_;unfold ownedTupleHandOut;have ZG:IsZip (Jb.push {cls:=.type "tuple",data:=.seq #[x1,x2]}) z TI TO .ellipsis:=adx _ WU;refine wpAny_bind (wpAny_setField_rec ZG (by simp) λh7 UX U4=>?_);replace UX:IsZip h7 z TI TO (rawInt Jb.objs.size):=UX;refine wpAny_setField_rec UX (by simp) λh8 SU U3=>?_;replace SU:IsZip h8 z TI TO (rawInt Jb.objs.size):=SU;have up:∀c o,c≠z->Jb.get? c=some o->h8.get? c=some o:=λc o c1 e=>U3.extBut _ _ c1 (U4.extBut _ _ c1 (adx _ e));have Xk:Cp h8 Jb.objs.size x1 x2:=U3.extBut _ _ (agh Rf) (U4.extBut _ _ (agh Rf) (ae4 _ RR));have Rg:h8.objs.size=Jb.objs.size+1:=by rw[U3.1,U4.1,afv]
 have e1:S1 (k+1) h8:=D1.frame _ _ _ r1 λc hc o e=>up c o (D.F1 c hc).1 (Gd.extBut _ _ (D.F1 c hc).2.1 (Gf.extBut _ _ (D.F1 c hc).2.2 (Ge.extBut _ _ (D.F1 c hc).2.1 (e))));have e2:S2 (k+1) h8:=D2.frame _ _ _ r2 λc hc o e=>up c o (D.F2 c hc).1 (Gd.extBut _ _ (D.F2 c hc).2.1 (e));rw[hsz]at SU Xk Rg;refine wpAny_pure ⟨_,RR,?_⟩;show Q (.ref Jb.objs.size) _;rw[hsz];exact hQ h8 _ x1 x2 p1 p2 SU (up _ _ D.TOz M_) e1 e2 Xk Rg λc o c1 c2 d1 d2 e=>up c o c1 (Z_ c o c1 c2 d1 d2 e)
def yP{TI TO:Addr}{f1:Ax}{f2:Ax}(hh:A.handled=none)(D1:F7 prog w A i1 f1 n1 P1 S1)(D2:F7 prog w A i2 f2 n2 P2 S2)(D:P_ z TI TO i1 i2 f1 f2)
  (hz:IsZip s.heap z TI TO .none)(Di:Cp s.heap TI (.ref i1) (.ref i2))(DX:Cp s.heap TO a1 a2)(kn:n1<=k)(NR:S1 k s.heap)
  (hE:∀h' e,(∀c o,c≠z->c≠TO->c≠i1->c≠i2->s.heap.get? c=some o->h'.get? c=some o)->(∃o,h'.get? e=some o/\o.cls= .type "StopIteration")->E (.ref e) {s with heap:=h'}):
  wpAny (model prog w) A (Builtin.«zip.__next__» ⟨[.ref z],[]⟩) Q E s:=by
 show wpAny _ _ (field (.ref z) 2>>=_) _ _ _;refine wpAny_bind (wpAny_field hz RR (x:=.bool false) RR ?_);show wpAny _ _ (field (.ref z) 3>>=_) _ _ _;refine wpAny_bind (wpAny_field hz RR (x:=.ref TI) RR ?_);refine wpAny_bind (wpAny_seqItems Di RR ?_);refine wpAny_bind ?_;unfold ownedTupleIsFree;refine wpAny_bind (wpAny_field hz RR (x:=.none) RR (wpAny_pure ?_));simp only[if_true];refine wpAny_bind (wpAny_rule ?_);refine wpAny_bind (wpAny_field hz RR (x:=.ref TO) RR ?_);refine wpAny_bind (wpAny_setField_rec hz (by simp) λh0 Oa LZ=>?_);replace Oa:IsZip h0 z TI TO .ellipsis:=Oa;refine wpAny_bind ?_;refine wpAny_bind (wpAny_bind (wpAny_onRaise ?_));have q1:S1 k h0:=D1.frame _ _ _ NR λc hc o e=>LZ.extBut _ _ (D.F1 c hc).1 e;refine wpAny_bind (D1.done k _ _ _ kn q1 λh2 e OI he=>?_);obtain⟨oe,U9,Ve⟩:=he;have Qm:IsZip h2 z TI TO .ellipsis:=OI _ _ D.i1z.symm Oa;have hez:e≠z:=λx=>by subst x;rw[Qm]at U9;cases U9;simp at Ve
 exact wpAny_setField_rec Qm (by simp) λh3 _ T3=>hE h3 e (λc o c1 _ d1 d2 x=>T3.extBut _ _ c1 (OI _ _ d1 (LZ.extBut _ _ c1 x))) ⟨oe,T3.extBut _ _ hez U9,Ve⟩
def nE{TI TO:Addr}{f1:Ax}{f2:Ax}(D1:F7 prog w A.in1 i1 f1 n1 P1 S1)(D2:F7 prog w A.in1 i2 f2 n2 P2 S2)(D:P_ z TI TO i1 i2 f1 f2)
  (hz:IsZip s.heap z TI TO .none)(Di:Cp s.heap TI (.ref i1) (.ref i2))(DX:Cp s.heap TO a1 a2)
  (NR:S1 k s.heap)(k1:k<n1)(Ql:S2 k s.heap)(k2:k<n2)
  (hQ:∀h' tk x1 x2,P1 k x1->P2 k x2->IsZip h' z TI TO (rawInt s.hz)->Cp h' TO x1 x2->S1 (k+1) h'->S2 (k+1) h'->Cp h' s.hz x1 x2->h'.objs.size=s.hz+1->
   (∀c o,c≠z->c≠TO->c≠i1->c≠i2->s.heap.get? c=some o->h'.get? c=some o)->Q (some (.ref s.hz)) {s with heap:=h',toks:=tk}):wpAny (model prog w) A (pyNext (.ref z)) Q E s:=by
 have hT:s.TypeIs (.ref z) "zip" :=⟨_,hz,RR⟩;exact wpAny_bind (wpAny_attempt (wpAny_callSpecial?_slot hT af8 (wpAny_call_entry af8 hT agX
  (w8 D1 D2 D hz Di DX NR k1 Ql k2 λu0 u1 u2 u3 u4 u5 u6 u7 u8 u9 YI YH YG=>wpAny_pure (hQ u0 u1 u2 u3 u4 u5 u6 u7 u8 u9 YI YH YG)) (agQ _))))
def o_{TI TO:Addr}{f1:Ax}{f2:Ax}(hh:A.handled=none)(D1:F7 prog w A.in1 i1 f1 n1 P1 S1)(D2:F7 prog w A.in1 i2 f2 n2 P2 S2)(D:P_ z TI TO i1 i2 f1 f2)
  (hz:IsZip s.heap z TI TO .none)(Di:Cp s.heap TI (.ref i1) (.ref i2))(DX:Cp s.heap TO a1 a2)(kn:n1<=k)(NR:S1 k s.heap)
  (hQ:∀h',(∀c o,c≠z->c≠TO->c≠i1->c≠i2->s.heap.get? c=some o->h'.get? c=some o)->Q none {s with heap:=h'}):wpAny (model prog w) A (pyNext (.ref z)) Q E s:=by
 have hT:s.TypeIs (.ref z) "zip" :=⟨_,hz,RR⟩;unfold pyNext;refine wpAny_bind (wpAny_attempt (wpAny_callSpecial?_slot hT af8 (wpAny_call_entry af8 hT agX
  (yP hh D1 D2 D hz Di DX kn NR λh' e hk he=>?_) (agQ _))));obtain⟨o,ho,hc⟩:=he;refine wpAny_bind (wpAny_isInstance (b:=true) ⟨o,ho,hc⟩ isSubtype_stop ?_);exact wpAny_pure (hQ _ hk)
abbrev B7(h:Heap)(T:Addr)(a1 a2 a3:Value):Prop:=h.get? T=some {cls:=.type "tuple",data:=.seq #[a1,a2,a3]}
structure P0(z TI TO i1 i2 i3:Addr)(f1 f2 f3:Ax):Prop where
 TIz:TI≠z
 TOz:TO≠z
 TITO:TI≠TO
 i1z:i1≠z
 TIi1:TI≠i1
 TOi1:TO≠i1
 F1:∀c∈f1,c≠z/\c≠TO/\c≠i2/\c≠i3
 i2z:i2≠z
 TIi2:TI≠i2
 TOi2:TO≠i2
 F2:∀c∈f2,c≠z/\c≠TO/\c≠i1/\c≠i3
 i3z:i3≠z
 Aat:TI≠i3
 Aas:TO≠i3
 F3:∀c∈f3,c≠z/\c≠TO/\c≠i1/\c≠i2
def qJ(hT:B7 s.heap T a1 a2 a3)
  (h:∀h',h'.get? T=some {cls:=.type "tuple",data:=.seq ((#[a1,a2,a3]:Array Value).setIfInBounds k x)}->Heap.SameBut T s.heap h'->Q () {s with heap:=h'}):
  wpAny (model prog w) A (updateSeq T (·.setIfInBounds k x)) Q E s:=by refine wpAny_updateSeq hT RR (h _ ?_ (agA ..));rw[ago _ hT RR];simp[Obj.mapSeq]
def wZ{TI TO:Addr}{f1:Ax}{f2:Ax}{f3:Ax}{Q:CP}(D1:F7 prog w A i1 f1 n1 P1 S1)(D2:F7 prog w A i2 f2 n2 P2 S2)(D3:F7 prog w A i3 f3 n3 P3 S3)(D:P0 z TI TO i1 i2 i3 f1 f2 f3)
  (hz:IsZip s.heap z TI TO .none)(Di:B7 s.heap TI (.ref i1) (.ref i2) (.ref i3))(DX:B7 s.heap TO a1 a2 a3)
  (NR:S1 k s.heap)(k1:k<n1)(Ql:S2 k s.heap)(k2:k<n2)(TH:S3 k s.heap)(k3:k<n3)
  (hQ:∀h' tk x1 x2 x3,P1 k x1->P2 k x2->P3 k x3->IsZip h' z TI TO (rawInt s.hz)->B7 h' TO x1 x2 x3->S1 (k+1) h'->S2 (k+1) h'->S3 (k+1) h'->B7 h' s.hz x1 x2 x3->h'.objs.size=s.hz+1->
   (∀c o,c≠z->c≠TO->c≠i1->c≠i2->c≠i3->s.heap.get? c=some o->h'.get? c=some o)->Q (.ref s.hz) {s with heap:=h',toks:=tk}):
  wpAny (model prog w) A (Builtin.«zip.__next__» ⟨[.ref z],[]⟩) (λfin s'=>∃v,fin= .done (.ret v)/\Q v s') E s:=by
 show wpAny _ _ (field (.ref z) 2>>=_) _ _ _;refine wpAny_bind (wpAny_field hz RR (x:=.bool false) RR ?_);show wpAny _ _ (field (.ref z) 3>>=_) _ _ _;refine wpAny_bind (wpAny_field hz RR (x:=.ref TI) RR ?_);refine wpAny_bind (wpAny_seqItems Di RR ?_);show wpAny _ _ (ownedTupleIsFree (.ref z)>>=_) _ _ _;refine wpAny_bind ?_;unfold ownedTupleIsFree;refine wpAny_bind (wpAny_field hz RR (x:=.none) RR (wpAny_pure ?_));simp only[if_true];refine wpAny_bind (wpAny_rule ?_);refine wpAny_bind (wpAny_field hz RR (x:=.ref TO) RR ?_);refine wpAny_bind (wpAny_setField_rec hz (by simp) λh0 Oa LZ=>?_);replace Oa:IsZip h0 z TI TO .ellipsis:=Oa;refine wpAny_bind ?_;simp only[List.zipIdx_cons,List.zipIdx_nil,agG,ahn];have q1:S1 k h0:=D1.frame _ _ _ NR λc hc o e=>LZ.extBut _ _ (D.F1 c hc).1 (e);refine wpAny_bind (wpAny_bind (wpAny_onRaise ?_));show wpAny _ _ (nextOf (.ref i1)>>=_) _ _ _;refine wpAny_bind (D1.item k _ _ _ k1 q1 λx1 PV tk1 p1 r1 Gg=>wpAny_pure ?_);replace Gg:Heap.SameBut i1 h0 PV:=Gg;have Rv:B7 PV TO a1 a2 a3:=Gg.extBut _ _ D.TOi1 (LZ.extBut _ _ D.TOz (DX));refine wpAny_bind (wpAny_seqItems Rv RR ?_);refine wpAny_bind (qJ Rv λM9 Oe Ge=>?_);replace Oe:B7 M9 TO x1 a2 a3:=Oe;replace Ge:Heap.SameBut TO PV M9:=Ge;refine wpAny_bind (wpAny_letGo (wpAny_pure ?_));have q2:S2 k M9:=D2.frame _ _ _ Ql λc hc o e=>Ge.extBut _ _ (D.F2 c hc).2.1 (Gg.extBut _ _ (D.F2 c hc).2.2.1 (LZ.extBut _ _ (D.F2 c hc).1 (e)));refine wpAny_bind (wpAny_bind (wpAny_onRaise ?_));show wpAny _ _ (nextOf (.ref i2)>>=_) _ _ _;refine wpAny_bind (D2.item k _ _ _ k2 q2 λx2 Od tk2 p2 r2 Gf=>wpAny_pure ?_);replace Gf:Heap.SameBut i2 M9 Od:=Gf;have Ru:B7 Od TO x1 a2 a3:=Gf.extBut _ _ D.TOi2 (Oe);refine wpAny_bind (wpAny_seqItems Ru RR ?_);refine wpAny_bind (qJ Ru λJb M_ Gd=>?_);replace M_:B7 Jb TO x1 x2 a3:=M_;replace Gd:Heap.SameBut TO Od Jb:=Gd;refine wpAny_bind (wpAny_letGo (wpAny_pure ?_));have q3:S3 k Jb:=D3.frame _ _ _ TH λc hc o e=>Gd.extBut _ _ (D.F3 c hc).2.1 (Gf.extBut _ _ (D.F3 c hc).2.2.2 (Ge.extBut _ _ (D.F3 c hc).2.1 (Gg.extBut _ _ (D.F3 c hc).2.2.1 (LZ.extBut _ _ (D.F3 c hc).1 (e)))));refine wpAny_bind (wpAny_bind (wpAny_onRaise ?_));show wpAny _ _ (nextOf (.ref i3)>>=_) _ _ _;refine wpAny_bind (D3.item k _ _ _ k3 q3 λx3 hb3 tk3 p3 r3 M4=>wpAny_pure ?_);replace M4:Heap.SameBut i3 Jb hb3:=M4;have Xj:B7 hb3 TO x1 x2 a3:=M4.extBut _ _ D.Aas (M_);refine wpAny_bind (wpAny_seqItems Xj RR ?_);refine wpAny_bind (qJ Xj λOL Tb M3=>?_);replace Tb:B7 OL TO x1 x2 x3:=Tb;replace M3:Heap.SameBut TO hb3 OL:=M3;refine wpAny_bind (wpAny_letGo (wpAny_pure (wpAny_pure ?_)));refine wpAny_bind (wpAny_seqItems Tb RR ?_);refine wpAny_bind (wpAny_newTuple ?_);have hsz:OL.objs.size=s.hz:=by rw[M3.1,M4.1,Gd.1,Gf.1,Ge.1,Gg.1,LZ.1]
 have WU:IsZip OL z TI TO .ellipsis:=M3.extBut _ _ D.TOz.symm (M4.extBut _ _ D.i3z.symm (Gd.extBut _ _ D.TOz.symm (Gf.extBut _ _ D.i2z.symm (Ge.extBut _ _ D.TOz.symm (Gg.extBut _ _ D.i1z.symm (Oa))))));have Z_:∀c o,c≠z->c≠TO->c≠i1->c≠i2->c≠i3->s.heap.get? c=some o->OL.get? c=some o:=λc o c1 c2 d1 d2 d3 e=>M3.extBut _ _ c2 (M4.extBut _ _ d3 (Gd.extBut _ _ c2 (Gf.extBut _ _ d2 (Ge.extBut _ _ c2 (Gg.extBut _ _ d1 (LZ.extBut _ _ c1 (e)))))));have Rf:z<OL.objs.size:=ae7 WU;show wpAny _ _ (ownedTupleHandOut (.ref z) (.ref OL.objs.size)>>=_) _ _ _;refine wpAny_bind ?_;unfold ownedTupleHandOut;have ZG:IsZip (OL.push {cls:=.type "tuple",data:=.seq #[x1,x2,x3]}) z TI TO .ellipsis:=adx _ WU;refine wpAny_bind (wpAny_setField_rec ZG (by simp) λh7 UX U4=>?_);replace UX:IsZip h7 z TI TO (rawInt OL.objs.size):=UX;refine wpAny_setField_rec UX (by simp) λh8 SU U3=>?_;replace SU:IsZip h8 z TI TO (rawInt OL.objs.size):=SU;have up:∀c o,c≠z->OL.get? c=some o->h8.get? c=some o:=λc o c1 e=>U3.extBut _ _ c1 (U4.extBut _ _ c1 (adx _ e));have Xk:B7 h8 OL.objs.size x1 x2 x3:=U3.extBut _ _ (agh Rf) (U4.extBut _ _ (agh Rf) (ae4 _ RR));have Rg:h8.objs.size=OL.objs.size+1:=by rw[U3.1,U4.1,afv]
 have e1:S1 (k+1) h8:=D1.frame _ _ _ r1 λc hc o e=>up c o (D.F1 c hc).1 (M3.extBut _ _ (D.F1 c hc).2.1 (M4.extBut _ _ (D.F1 c hc).2.2.2 (Gd.extBut _ _ (D.F1 c hc).2.1 (Gf.extBut _ _ (D.F1 c hc).2.2.1 (Ge.extBut _ _ (D.F1 c hc).2.1 (e))))));have e2:S2 (k+1) h8:=D2.frame _ _ _ r2 λc hc o e=>up c o (D.F2 c hc).1 (M3.extBut _ _ (D.F2 c hc).2.1 (M4.extBut _ _ (D.F2 c hc).2.2.2 (Gd.extBut _ _ (D.F2 c hc).2.1 (e))));have e3:S3 (k+1) h8:=D3.frame _ _ _ r3 λc hc o e=>up c o (D.F3 c hc).1 (M3.extBut _ _ (D.F3 c hc).2.1 (e));rw[hsz]at SU Xk Rg;refine wpAny_pure ⟨_,RR,?_⟩;show Q (.ref OL.objs.size) _;rw[hsz];exact hQ h8 _ x1 x2 x3 p1 p2 p3 SU (up _ _ D.TOz Tb) e1 e2 e3 Xk Rg λc o c1 c2 d1 d2 d3 e=>up c o c1 (Z_ c o c1 c2 d1 d2 d3 e)
def yO{TI TO:Addr}{f1:Ax}{f2:Ax}{f3:Ax}(hh:A.handled=none)(D1:F7 prog w A i1 f1 n1 P1 S1)(D2:F7 prog w A i2 f2 n2 P2 S2)(D3:F7 prog w A i3 f3 n3 P3 S3)(D:P0 z TI TO i1 i2 i3 f1 f2 f3)
  (hz:IsZip s.heap z TI TO .none)(Di:B7 s.heap TI (.ref i1) (.ref i2) (.ref i3))(DX:B7 s.heap TO a1 a2 a3)(kn:n1<=k)(NR:S1 k s.heap)
  (hE:∀h' e,(∀c o,c≠z->c≠TO->c≠i1->c≠i2->c≠i3->s.heap.get? c=some o->h'.get? c=some o)->(∃o,h'.get? e=some o/\o.cls= .type "StopIteration")->E (.ref e) {s with heap:=h'}):
  wpAny (model prog w) A (Builtin.«zip.__next__» ⟨[.ref z],[]⟩) Q E s:=by
 show wpAny _ _ (field (.ref z) 2>>=_) _ _ _;refine wpAny_bind (wpAny_field hz RR (x:=.bool false) RR ?_);show wpAny _ _ (field (.ref z) 3>>=_) _ _ _;refine wpAny_bind (wpAny_field hz RR (x:=.ref TI) RR ?_);refine wpAny_bind (wpAny_seqItems Di RR ?_);refine wpAny_bind ?_;unfold ownedTupleIsFree;refine wpAny_bind (wpAny_field hz RR (x:=.none) RR (wpAny_pure ?_));simp only[if_true];refine wpAny_bind (wpAny_rule ?_);refine wpAny_bind (wpAny_field hz RR (x:=.ref TO) RR ?_);refine wpAny_bind (wpAny_setField_rec hz (by simp) λh0 Oa LZ=>?_);replace Oa:IsZip h0 z TI TO .ellipsis:=Oa;refine wpAny_bind ?_;refine wpAny_bind (wpAny_bind (wpAny_onRaise ?_));have q1:S1 k h0:=D1.frame _ _ _ NR λc hc o e=>LZ.extBut _ _ (D.F1 c hc).1 e;refine wpAny_bind (D1.done k _ _ _ kn q1 λh2 e OI he=>?_);obtain⟨oe,U9,Ve⟩:=he;have Qm:IsZip h2 z TI TO .ellipsis:=OI _ _ D.i1z.symm Oa;have hez:e≠z:=λx=>by subst x;rw[Qm]at U9;cases U9;simp at Ve
 exact wpAny_setField_rec Qm (by simp) λh3 _ T3=>hE h3 e (λc o c1 _ d1 d2 d3 x=>T3.extBut _ _ c1 (OI _ _ d1 (LZ.extBut _ _ c1 x))) ⟨oe,T3.extBut _ _ hez U9,Ve⟩
def nD{TI TO:Addr}{f1:Ax}{f2:Ax}{f3:Ax}(D1:F7 prog w A.in1 i1 f1 n1 P1 S1)(D2:F7 prog w A.in1 i2 f2 n2 P2 S2)(D3:F7 prog w A.in1 i3 f3 n3 P3 S3)(D:P0 z TI TO i1 i2 i3 f1 f2 f3)
  (hz:IsZip s.heap z TI TO .none)(Di:B7 s.heap TI (.ref i1) (.ref i2) (.ref i3))(DX:B7 s.heap TO a1 a2 a3)
  (NR:S1 k s.heap)(k1:k<n1)(Ql:S2 k s.heap)(k2:k<n2)(TH:S3 k s.heap)(k3:k<n3)
  (hQ:∀h' tk x1 x2 x3,P1 k x1->P2 k x2->P3 k x3->IsZip h' z TI TO (rawInt s.hz)->B7 h' TO x1 x2 x3->S1 (k+1) h'->S2 (k+1) h'->S3 (k+1) h'->B7 h' s.hz x1 x2 x3->h'.objs.size=s.hz+1->
   (∀c o,c≠z->c≠TO->c≠i1->c≠i2->c≠i3->s.heap.get? c=some o->h'.get? c=some o)->Q (some (.ref s.hz)) {s with heap:=h',toks:=tk}):wpAny (model prog w) A (pyNext (.ref z)) Q E s:=by
 have hT:s.TypeIs (.ref z) "zip" :=⟨_,hz,RR⟩;exact wpAny_bind (wpAny_attempt (wpAny_callSpecial?_slot hT af8 (wpAny_call_entry af8 hT agX
  (wZ D1 D2 D3 D hz Di DX NR k1 Ql k2 TH k3 λu0 u1 u2 u3 u4 u5 u6 u7 u8 u9 YI YH YG u13 u14 u15=>wpAny_pure (hQ u0 u1 u2 u3 u4 u5 u6 u7 u8 u9 YI YH YG u13 u14 u15)) (agQ _))))
def o9{TI TO:Addr}{f1:Ax}{f2:Ax}{f3:Ax}(hh:A.handled=none)(D1:F7 prog w A.in1 i1 f1 n1 P1 S1)(D2:F7 prog w A.in1 i2 f2 n2 P2 S2)(D3:F7 prog w A.in1 i3 f3 n3 P3 S3)(D:P0 z TI TO i1 i2 i3 f1 f2 f3)
  (hz:IsZip s.heap z TI TO .none)(Di:B7 s.heap TI (.ref i1) (.ref i2) (.ref i3))(DX:B7 s.heap TO a1 a2 a3)(kn:n1<=k)(NR:S1 k s.heap)
  (hQ:∀h',(∀c o,c≠z->c≠TO->c≠i1->c≠i2->c≠i3->s.heap.get? c=some o->h'.get? c=some o)->Q none {s with heap:=h'}):wpAny (model prog w) A (pyNext (.ref z)) Q E s:=by
 have hT:s.TypeIs (.ref z) "zip" :=⟨_,hz,RR⟩;refine wpAny_bind (wpAny_attempt (wpAny_callSpecial?_slot hT af8 (wpAny_call_entry af8 hT agX
  (yO hh D1 D2 D3 D hz Di DX kn NR λh' e hk he=>?_) (agQ _))));obtain⟨o,ho,hc⟩:=he;refine wpAny_bind (wpAny_isInstance (b:=true) ⟨o,ho,hc⟩ isSubtype_stop ?_);exact wpAny_pure (hQ _ hk)
def mX(a b c:Value):checkTypeCall "zip" ⟨[a,b,c],[]⟩=pure ():=by kernel_rfl
def pf(a b c:Value):checkBuiltinCall "zip.__new__" ⟨[.type "zip",a,b,c],[]⟩=pure ():=by kernel_rfl
def uq(a b c d:Value):argsOk "object.__init__" ⟨[a,b,c,d],[]⟩:=by unfold argsOk;kernel_rfl
abbrev AZ(l:Addr):Obj:={cls:=.type "list_iterator",data:=.fields #[.ref l,.int 0 0]}
abbrev Fv(x:Str)(t:Tok):Obj:={cls:=.type "str_ascii_iterator",data:=.fields #[.str x t,.int 0 0]}
def VE(h:Heap)(o1 o2:Obj):Heap:=((((h.push o1).push o2).push {cls:=.type "tuple",data:=.seq #[.ref h.objs.size,.ref (h.push o1).objs.size]}).push {cls:=.type "tuple",data:=.seq #[.none,.none]}).push {cls:=.type "zip",data:=.fields #[.none,.bool false,.bool false,.ref ((h.push o1).push o2).objs.size,.ref (((h.push o1).push o2).push {cls:=.type "tuple",data:=.seq #[.ref h.objs.size,.ref (h.push o1).objs.size]}).objs.size]}
def XY(h:Heap)(o1 o2:Obj):Addr:=((((h.push o1).push o2).push {cls:=.type "tuple",data:=.seq #[.ref h.objs.size,.ref (h.push o1).objs.size]}).push {cls:=.type "tuple",data:=.seq #[.none,.none]}).objs.size
abbrev XX(h:Heap)(o1 o2 o3:Obj):Heap:=((h.push o1).push o2).push o3
abbrev XW(h:Heap)(o1 o2 o3:Obj):Heap:=(XX h o1 o2 o3).push {cls:=.type "tuple",data:=.seq #[.ref h.objs.size,.ref (h.push o1).objs.size,.ref ((h.push o1).push o2).objs.size]}
abbrev XU(h:Heap)(o1 o2 o3:Obj):Heap:=(XW h o1 o2 o3).push {cls:=.type "tuple",data:=.seq #[.none,.none,.none]}
def Uq(h:Heap)(o1 o2 o3:Obj):Heap:=(XU h o1 o2 o3).push {cls:=.type "zip",data:=.fields #[.none,.bool false,.bool false,.ref (XX h o1 o2 o3).objs.size,.ref (XW h o1 o2 o3).objs.size]}
def Aay(h:Heap)(o1 o2 o3:Obj):Addr:=(XU h o1 o2 o3).objs.size
def j9(rest:Ay):newClass "zip" ⟨.type "zip" ::rest,[]⟩=pure (.type "zip",rest):=by show(do let __do_lift<-isType (Value.type "zip");_)=_;rw[show isType (Value.type "zip")=pure true from rfl,pure_bind];simp only[Bool.not_true,agd,if_false,pure_bind,sub_zip]
def uN(x:Str)(t:Tok)(l2:Addr)(ys:Array Value)(ha:x.cps.all (·<128)=true):
  Meets (Builtin.«zip.__new__» ⟨[.type "zip",.str x t,.ref l2],[]⟩) (λ_ R s=>s.heap.IsList l2 ys/\R (.ok (.ret (.ref (XY s.heap (Fv x t) (AZ l2))))) {s with heap:=VE s.heap (Fv x t) (AZ l2)}):=
 .of_wp λprog w A R s h=>by obtain⟨Rm,h⟩:=h;show wpAny _ _ (newClass "zip" ⟨[.type "zip",.str x t,.ref l2],[]⟩>>=_) _ _ _;rw[j9];refine wpAny_bind (wpAny_pure ?_);show wpAny _ _ (iterAll [.str x t,.ref l2]>>=_) _ _ _;refine wpAny_bind ?_;unfold iterAll;simp only[agG,ahn];refine wpAny_bind (wpAny_bind (wpAny_bind (wpAny_holding (wpAny_pyIter_ascii ha (wpAny_pure ?_)))));refine wpAny_bind (wpAny_bind (wpAny_holding (wpAny_pyIter_list (Rm.push _) (wpAny_pure (wpAny_pure (wpAny_pure ?_))))));show wpAny _ _ (newObj (.type "zip") (.fields #[.none,.bool false,.bool false,_,_])>>=_) _ _ _;refine wpAny_bind (wpAny_newObj_type ?_ (by size_fits));exact wpAny_pure ⟨_,RR,h⟩
def uO(l1 l2 l3:Addr)(xs ys zs:Array Value):
  Meets (Builtin.«zip.__new__» ⟨[.type "zip",.ref l1,.ref l2,.ref l3],[]⟩) (λ_ R s=>s.heap.IsList l1 xs/\s.heap.IsList l2 ys/\s.heap.IsList l3 zs/\R (.ok (.ret (.ref (Aay s.heap (AZ l1) (AZ l2) (AZ l3))))) {s with heap:=Uq s.heap (AZ l1) (AZ l2) (AZ l3)}):=
 .of_wp λprog w A R s h=>by obtain⟨OJ,Rm,Yg,h⟩:=h;show wpAny _ _ (newClass "zip" ⟨[.type "zip",.ref l1,.ref l2,.ref l3],[]⟩>>=_) _ _ _;rw[j9];refine wpAny_bind (wpAny_pure ?_);refine wpAny_bind ?_;unfold iterAll;simp only[agG,ahn];refine wpAny_bind (wpAny_bind (wpAny_bind (wpAny_holding (wpAny_pyIter_list OJ (wpAny_pure ?_)))));refine wpAny_bind (wpAny_bind (wpAny_holding (wpAny_pyIter_list (Rm.push _) (wpAny_pure ?_))));refine wpAny_bind (wpAny_bind (wpAny_holding (wpAny_pyIter_list ((Yg.push _).push _) (wpAny_pure (wpAny_pure (wpAny_pure ?_))))));refine wpAny_bind (wpAny_newTuple (hsz:=sy) ?_);show wpAny _ _ (newObj (.type "zip") (.fields #[.none,.bool false,.bool false,_,_])>>=_) _ _ _;refine wpAny_bind (wpAny_newObj_type ?_ (by size_fits));exact wpAny_pure ⟨_,RR,h⟩
def yH{s:Shared}{zs:Array Value}(OJ:s.heap.IsList l1 xs)(Rm:s.heap.IsList l2 ys)(Yg:s.heap.IsList l3 zs)
  (h:∀h',IsZip h' (s.hz+5) (s.hz+3) (s.hz+4) .none->B7 h' (s.hz+3) (.ref s.hz) (.ref (s.hz+1)) (.ref (s.hz+2))->
   B7 h' (s.hz+4) .none .none .none->h'.IsListIter s.hz l1 0->h'.IsListIter (s.hz+1) l2 0->h'.IsListIter (s.hz+2) l3 0->
   (∀c o,s.heap.get? c=some o->h'.get? c=some o)->Q (.ref (s.hz+5)) {s with heap:=h'}):
  wpAny (model prog w) A (call (.type "zip") [.ref l1,.ref l2,.ref l3]) Q E s:=by
 refine callType_new F.called_zip (by decide) (mX _ _ _) (pf _ _ _) (λobj=>uq obj _ _ _) F.entry_zip_new (uO l1 l2 l3 xs ys zs) ⟨OJ,Rm,Yg,?_⟩;have z1:(s.heap.push (AZ l1)).objs.size=s.hz+1:=afv ..;have z2:((s.heap.push (AZ l1)).push (AZ l2)).objs.size=s.hz+2:=by rw[afv,z1]
 have z3:(XX s.heap (AZ l1) (AZ l2) (AZ l3)).objs.size=s.hz+3:=by rw[afv,z2]
 have z4:(XW s.heap (AZ l1) (AZ l2) (AZ l3)).objs.size=s.hz+4:=by rw[afv,z3]
 have z5:(XU s.heap (AZ l1) (AZ l2) (AZ l3)).objs.size=s.hz+5:=by rw[afv,z4]
 have g6:(Uq s.heap (AZ l1) (AZ l2) (AZ l3)).get? (XU s.heap (AZ l1) (AZ l2) (AZ l3)).objs.size=some _:=ae4 _ RR;have g5:(Uq s.heap (AZ l1) (AZ l2) (AZ l3)).get? (XW s.heap (AZ l1) (AZ l2) (AZ l3)).objs.size=some _:=adx _ (ae4 _ RR);have g4:(Uq s.heap (AZ l1) (AZ l2) (AZ l3)).get? (XX s.heap (AZ l1) (AZ l2) (AZ l3)).objs.size=some _:=adx _ (adx _ (ae4 _ RR));have g3:(Uq s.heap (AZ l1) (AZ l2) (AZ l3)).get? ((s.heap.push (AZ l1)).push (AZ l2)).objs.size=some _:=adx _ (adx _ (adx _ (ae4 _ RR)));have g2:(Uq s.heap (AZ l1) (AZ l2) (AZ l3)).get? (s.heap.push (AZ l1)).objs.size=some _:=adx _ (adx _ (adx _ (adx _ (ae4 _ RR))));have g1:(Uq s.heap (AZ l1) (AZ l2) (AZ l3)).get? s.hz=some _:=adx _ (adx _ (adx _ (adx _ (adx _ (ae4 _ RR)))));show _/\_;unfold Aay;rw[z3,z4,z5]at g6;rw[z4]at g5;rw[z1,z2,z3]at g4;rw[z2]at g3;rw[z1]at g2;rw[z5];exact⟨⟨_,g6,RR⟩,h _ g6 g4 g5 ⟨_,g1,RR,RR⟩ ⟨_,g2,RR,RR⟩ ⟨_,g3,RR,RR⟩ λc o x=>
  adx _ (adx _ (adx _ (adx _ (adx _ (adx _ x)))))⟩
def yG{s:Shared}(ha:x.cps.all (·<128)=true)(Rm:s.heap.IsList l2 ys)
  (h:∀h',IsZip h' (s.hz+4) (s.hz+2) (s.hz+3) .none->Cp h' (s.hz+2) (.ref s.hz) (.ref (s.hz+1))->
   Cp h' (s.hz+3) .none .none->h'.IsStrIter s.hz "str_ascii_iterator" x t 0->h'.IsListIter (s.hz+1) l2 0->
   (∀c o,s.heap.get? c=some o->h'.get? c=some o)->Q (.ref (s.hz+4)) {s with heap:=h'}):
  wpAny (model prog w) A (call (.type "zip") [.str x t,.ref l2]) Q E s:=by
 refine callType_new F.called_zip (by decide) (F.typeCall_zip_2 _ _) (F.newCall_zip_2 _ _) (λobj=>F.args_object_init_3 obj _ _) F.entry_zip_new (uN x t l2 ys ha) ⟨Rm,?_⟩;have z1:(s.heap.push (Fv x t)).objs.size=s.hz+1:=afv ..;have z2:((s.heap.push (Fv x t)).push (AZ l2)).objs.size=s.hz+2:=by rw[afv,z1]
 have z3:(((s.heap.push (Fv x t)).push (AZ l2)).push {cls:=.type "tuple",data:=.seq #[.ref s.hz,.ref (s.heap.push (Fv x t)).objs.size]}).objs.size=s.hz+3:=by rw[afv,z2]
 have z4:XY s.heap (Fv x t) (AZ l2)=s.hz+4:=by unfold XY;rw[afv,z3]
 have g5:(VE s.heap (Fv x t) (AZ l2)).get? (XY s.heap (Fv x t) (AZ l2))=some _:=ae4 _ RR;have g4:(VE s.heap (Fv x t) (AZ l2)).get? (((s.heap.push (Fv x t)).push (AZ l2)).push {cls:=.type "tuple",data:=.seq #[.ref s.hz,.ref (s.heap.push (Fv x t)).objs.size]}).objs.size=some _:=adx _ (ae4 _ RR);have g3:(VE s.heap (Fv x t) (AZ l2)).get? ((s.heap.push (Fv x t)).push (AZ l2)).objs.size=some _:=adx _ (adx _ (ae4 _ RR));have g2:(VE s.heap (Fv x t) (AZ l2)).get? (s.heap.push (Fv x t)).objs.size=some _:=adx _ (adx _ (adx _ (ae4 _ RR)));have g1:(VE s.heap (Fv x t) (AZ l2)).get? s.hz=some _:=adx _ (adx _ (adx _ (adx _ (ae4 _ RR))));show _/\_;rw[z2,z3,z4]at g5;rw[z3]at g4;rw[z1,z2]at g3;rw[z1]at g2;rw[z4];exact⟨⟨_,g5,RR⟩,h _ g5 g3 g4 ⟨_,g1,RR,RR⟩ ⟨_,g2,RR,RR⟩ λc o x=>
  adx _ (adx _ (adx _ (adx _ (adx _ x))))⟩
def Vx(K:Frag)(a b c:Addr):It:=
 ⟨λi H=>∃(xs ys zs:List V) (x y z:V),Aj K H a xs/\Aj K H b ys/\Aj K H c zs/\xs[i]? =some x/\ys[i]? =some y/\zs[i]? =some z,
  λi H v H'=>∃T x y z,v= .ref T/\H T=none/\H'=upd H T (.tup [x,y,z])/\(∀xs,Aj K H a xs->xs[i]? =some x)/\(∀ys,Aj K H b ys->ys[i]? =some y)/\∀zs,Aj K H c zs->zs[i]? =some z,
  λi H=>∃xs:List V,Aj K H a xs/\xs.length<=i⟩
def xg{TI TO:Addr}(D:P0 z TI TO i1 i2 i3 [i1,a] [i2,b] [i3,c])(n1:a≠i1)(n2:b≠i2)(n3:c≠i3):
  Turn P w kK (.Tuple elts kk Fl) (Vx kK a b c) [z,TI,TO,i1,i2,i3] z (λi h=>IsZip h z TI TO .none/\B7 h TI (.ref i1) (.ref i2) (.ref i3)/\(∃x y u,B7 h TO x y u)/\h.IsListIter i1 a i/\h.IsListIter i2 b i/\h.IsListIter i3 c i) where
 mem:=by simp
 obj:=λi h st c' hc=>by
  obtain⟨hz,Di,⟨x,y,u,DX⟩,⟨o1,e1,_,d1⟩,⟨o2,e2,_,d2⟩,⟨o3,e3,_,d3⟩⟩:=st;have e':c'=z\/c'=TI\/c'=TO\/c'=i1\/c'=i2\/c'=i3:=by simpa using hc
  rcases e' with q|q|q|q|q|q;·rw[q];exact⟨_,hz,λv q=>nomatch q⟩
  ·rw[q];exact⟨_,Di,λv q=>nomatch q⟩
  ·rw[q];exact⟨_,DX,λv q=>nomatch q⟩
  ·rw[q];exact⟨o1,e1,λv q=>by rw[d1]at q;cases q⟩
  ·rw[q];exact⟨o2,e2,λv q=>by rw[d2]at q;cases q⟩
  ·rw[q];exact⟨o3,e3,λv q=>by rw[d3]at q;cases q⟩
 keep:=λi h h' st k=>by obtain⟨hz,Di,⟨x,y,u,DX⟩,h1,h2,h3⟩:=st;exact⟨k z (by simp) _ hz,k TI (by simp) _ Di,⟨x,y,u,k TO (by simp) _ DX⟩,h1.at λo q=>k i1 (by simp) o q,h2.at λo q=>k i2 (by simp) o q,h3.at λo q=>k i3 (by simp) o q⟩
 item:=by
  intro X hP hw hK hc i pins s σ H E I hf st hg;subst hP hw hK;obtain⟨hz,Di,⟨x0,y0,u0,DX⟩,h1,h2,h3⟩:=st;obtain⟨xs,ys,zs,x,y,v,PL,NJ,Yb,hx,hy,hv⟩:=hg;obtain⟨its,rv,p,_⟩:=I.list PL;obtain⟨C7,NV,p2,_⟩:=I.list NJ;obtain⟨UT,rv3,p3,_⟩:=I.list Yb;obtain⟨u,hu,ru⟩:=rv.get hx;obtain⟨u2,SW,UJ⟩:=NV.get hy;obtain⟨u3,hu3,ru3⟩:=rv3.get hv;have hh:X.A.in1.handled=none:=I.ok.hd hc;have LX:z<s.hz:=ae7 hz;refine nD (F7.list hh i1 a n1 its.toArray) (F7.list hh i2 b n2 C7.toArray) (F7.list hh i3 c n3 UT.toArray) D hz Di DX ⟨h1,p.isList⟩ (by simpa using(ae3.mp hu).1) ⟨h2,p2.isList⟩ (by simpa using(ae3.mp SW).1) ⟨h3,p3.isList⟩ (by simpa using(ae3.mp hu3).1)
   λh' tk y1 y2 y3 q1 q2 q3 z' Xy s1 s2 s3 hT hsz hk=>?_;have q1:its[i]? =some y1:=by simpa using q1
  have q2:C7[i]? =some y2:=by simpa using q2
  have q3:UT[i]? =some y3:=by simpa using q3
  rw[hu]at q1;cases q1;rw[SW]at q2;cases q2;rw[hu3]at q3;cases q3;refine⟨_,RR,wpAny_letOwnedTupleGo_zip (s:={s with heap:=h',toks:=tk}) z' λOM V5 sb=>?_⟩;have Vh:OM.get? s.hz=some {cls:=.type "tuple",data:=.seq #[u,u2,u3]}:=(sb.2 _ (agh LX)).trans hT;have new:BW X.prog X.w (upd H s.hz (.tup [x,y,v])) OM s.hz (.tup [x,y,v]):=⟨sy,[u,u2,u3],.cons ru (.cons UJ (.cons ru3 .nil)),⟨_,Vh,RR,_,RR⟩⟩;have I1:Inv X pins σ (upd H s.hz (.tup [x,y,v])) {s with heap:=OM,toks:=tk}:=
   I.iL (t':=tk) (ch:=[z,TI,TO,i1,i2,i3]) (λc o hb q=>(sb.2 c (λq'=>hb (by simp[q']))).trans (hk c o (λq'=>hb (by simp[q'])) (λq'=>hb (by simp[q'])) (λq'=>hb (by simp[q'])) (λq'=>hb (by simp[q'])) (λq'=>hb (by simp[q'])) q)) hf (ae8 _) new;refine⟨.ref s.hz,_,I1,RR,⟨_,x,y,v,RR,I.AU.fresh (ae8 _),RR,λl hl=>by rw[I.dS hl PL];exact hx,λl hl=>by rw[I.dS hl NJ];exact hy,λl hl=>by rw[I.dS hl Yb];exact hv⟩,⟨V5,?_,⟨u,u2,u3,?_⟩,?_,?_,?_⟩,λc Kh=>?_⟩;·exact(sb.2 _ D.TIz).trans (hk _ _ D.TIz D.TITO D.TIi1 D.TIi2 D.Aat Di)
  ·exact(sb.2 _ D.TOz).trans Xy
  ·exact s1.1.at λo q=>(sb.2 _ D.i1z).trans q
  ·exact s2.1.at λo q=>(sb.2 _ D.i2z).trans q
  ·exact s3.1.at λo q=>(sb.2 _ D.i3z).trans q
  ·have Bz:c<s.hz:=by
    have e':c=z\/c=TI\/c=TO\/c=i1\/c=i2\/c=i3:=by simpa using Kh
    rcases e' with q|q|q|q|q|q;·rw[q];exact LX
    ·rw[q];exact ae7 Di
    ·rw[q];exact ae7 DX
    ·rw[q];obtain⟨_,e1,_⟩:=h1;exact ae7 e1
    ·rw[q];obtain⟨_,e2,_⟩:=h2;exact ae7 e2
    ·rw[q];obtain⟨_,e3,_⟩:=h3;exact ae7 e3
   rw[ai (afo Bz)];exact(hf c Kh).1
 done:=by
  intro X hP hw hK hc i pins s σ H E I hf st hg;subst hP hw hK;obtain⟨hz,Di,⟨x0,y0,u0,DX⟩,h1,h2,h3⟩:=st;obtain⟨xs,PL,Xb⟩:=hg;obtain⟨its,rv,p,_⟩:=I.list PL;have l1:=rv.length;have hh:X.A.in1.handled=none:=I.ok.hd hc;exact o9 hh (F7.list hh i1 a n1 its.toArray) (F7.list hh i2 b n2 #[]) (F7.list hh i3 c n3 #[]) D hz Di DX (k:=i) (by simp;omega) ⟨h1,p.isList⟩ λh' hk=>⟨RR,I.qK (t':=s.toks) (ch:=[z,TI,TO,i1,i2,i3]) (λc o hb q=>
   hk c o (λq'=>hb (by simp[q'])) (λq'=>hb (by simp[q'])) (λq'=>hb (by simp[q'])) (λq'=>hb (by simp[q'])) (λq'=>hb (by simp[q'])) q) hf⟩
 self:=λA i s Q E st h=>wpAny_pyIter_zip st.1 h
def Vw(K:Frag)(x:Str)(b:Addr):It:=
 ⟨λi H=>∃(ys:List V) (y:V),Aj K H b ys/\ys[i]? =some y/\i<x.cps.size,
  λi H v H'=>∃T c y,v= .ref T/\H T=none/\H'=upd H T (.tup [.str ⟨#[c]⟩,y])/\x.cps[i]? =some c/\∀ys,Aj K H b ys->ys[i]? =some y,
  λi H=>x.cps.size<=i⟩
def xf{TI TO:Addr}(D:P_ z TI TO i1 i2 [i1] [i2,b])(n2:b≠i2):
  Turn P w kK (.Tuple elts kk Fl) (Vw kK x b) [z,TI,TO,i1,i2] z (λi h=>IsZip h z TI TO .none/\Cp h TI (.ref i1) (.ref i2)/\(∃x y,Cp h TO x y)/\h.IsStrIter i1 "str_ascii_iterator" x t i/\h.IsListIter i2 b i) where
 mem:=by simp
 obj:=λi h st c' hc=>by
  obtain⟨hz,Di,⟨x,y,DX⟩,⟨o1,e1,_,d1⟩,⟨o2,e2,_,d2⟩⟩:=st;have e':c'=z\/c'=TI\/c'=TO\/c'=i1\/c'=i2:=by simpa using hc
  rcases e' with q|q|q|q|q;·rw[q];exact⟨_,hz,λv q=>nomatch q⟩
  ·rw[q];exact⟨_,Di,λv q=>nomatch q⟩
  ·rw[q];exact⟨_,DX,λv q=>nomatch q⟩
  ·rw[q];exact⟨o1,e1,λv q=>by rw[d1]at q;cases q⟩
  ·rw[q];exact⟨o2,e2,λv q=>by rw[d2]at q;cases q⟩
 keep:=λi h h' st k=>by obtain⟨hz,Di,⟨x,y,DX⟩,⟨o,ho,r⟩,h2⟩:=st;exact⟨k z (by simp) _ hz,k TI (by simp) _ Di,⟨x,y,k TO (by simp) _ DX⟩,⟨o,k i1 (by simp) o ho,r⟩,h2.at λo q=>k i2 (by simp) o q⟩
 item:=by
  intro X hP hw hK hc i pins s σ H E I hf st hg;subst hP hw hK;obtain⟨hz,Di,⟨x0,y0,DX⟩,h1,h2⟩:=st;obtain⟨ys,y,NJ,hy,hi⟩:=hg;obtain⟨C7,NV,p2,_⟩:=I.list NJ;obtain⟨u2,SW,UJ⟩:=NV.get hy;have hh:X.A.in1.handled=none:=I.ok.hd hc;have LX:z<s.hz:=ae7 hz;refine nE (F7.str hh i1 x t) (F7.list hh i2 b n2 C7.toArray) D hz Di DX h1 hi ⟨h2,p2.isList⟩ (by simpa using(ae3.mp SW).1) λh' tk y1 y2 q1 q2 z' Xy s1 s2 hT hsz hk=>?_;obtain⟨c,tc,Xg,rfl⟩:=q1;have q2:C7[i]? =some y2:=by simpa using q2
  rw[SW]at q2;cases q2;refine⟨_,RR,wpAny_letOwnedTupleGo_zip (s:={s with heap:=h',toks:=tk}) z' λOM V5 sb=>?_⟩;have Vh:OM.get? s.hz=some {cls:=.type "tuple",data:=.seq #[.str ⟨#[c]⟩ tc,u2]}:=(sb.2 _ (agh LX)).trans hT;have new:BW X.prog X.w (upd H s.hz (.tup [.str ⟨#[c]⟩,y])) OM s.hz (.tup [.str ⟨#[c]⟩,y]):=⟨cQ,[.str ⟨#[c]⟩ tc,u2],.cons ⟨tc,RR⟩ (.cons UJ .nil),⟨_,Vh,RR,_,RR⟩⟩;have I1:=
   I.iL (t':=tk) (ch:=[z,TI,TO,i1,i2]) (λc o hb q=>(sb.2 c (λq'=>hb (by simp[q']))).trans (hk c o (λq'=>hb (by simp[q'])) (λq'=>hb (by simp[q'])) (λq'=>hb (by simp[q'])) (λq'=>hb (by simp[q'])) q)) hf (ae8 _) new;refine⟨.ref s.hz,_,I1,RR,⟨_,c,y,RR,I.AU.fresh (ae8 _),RR,Xg,λl hl=>by rw[I.dS hl NJ];exact hy⟩,⟨V5,?_,⟨.str ⟨#[c]⟩ tc,u2,?_⟩,?_,?_⟩,λc Kh=>?_⟩;·exact(sb.2 _ D.TIz).trans (hk _ _ D.TIz D.TITO D.TIi1 D.TIi2 Di)
  ·exact(sb.2 _ D.TOz).trans Xy
  ·obtain⟨o,ho,r⟩:=s1;exact⟨o,(sb.2 _ D.i1z).trans ho,r⟩
  ·exact s2.1.at λo q=>(sb.2 _ D.i2z).trans q
  ·have Bz:c<s.hz:=by
    have e':c=z\/c=TI\/c=TO\/c=i1\/c=i2:=by simpa using Kh
    rcases e' with q|q|q|q|q;·rw[q];exact LX
    ·rw[q];exact ae7 Di
    ·rw[q];exact ae7 DX
    ·rw[q];obtain⟨_,e1,_⟩:=h1;exact ae7 e1
    ·rw[q];obtain⟨_,e2,_⟩:=h2;exact ae7 e2
   rw[ai (afo Bz)];exact(hf c Kh).1
 done:=by
  intro X hP hw hK hc i pins s σ H E I hf st hg;subst hP hw hK;obtain⟨hz,Di,⟨x0,y0,DX⟩,h1,h2⟩:=st;have hh:X.A.in1.handled=none:=I.ok.hd hc;exact o_ hh (F7.str hh i1 x t) (F7.list hh i2 b n2 #[]) D hz Di DX (k:=i) hg h1 λh' hk=>⟨RR,I.qK (t':=s.toks) (ch:=[z,TI,TO,i1,i2]) (λc o hb q=>
   hk c o (λq'=>hb (by simp[q'])) (λq'=>hb (by simp[q'])) (λq'=>hb (by simp[q'])) (λq'=>hb (by simp[q'])) q) hf⟩
 self:=λA i s Q E st h=>wpAny_pyIter_zip st.1 h
def pW{b:Nat}(h:a≠b):(a:Addr)≠(b:Addr):=h
def aa0(I a b c:Nat)(h1:a<I)(h2:b<I)(h3:c<I):P0 (I+5) (I+3) (I+4) I (I+1) (I+2) [I,a] [I+1,b] [I+2,c]:=by
 refine⟨pW (by omega),pW (by omega),pW (by omega),pW (by omega),pW (by omega),pW (by omega),λc hc=>?_,pW (by omega),pW (by omega),pW (by omega),λc hc=>?_,pW (by omega),pW (by omega),pW (by omega),λc hc=>?_⟩;·grind
 ·grind
 grind
def aa1(I b:Nat)(h2:b<I):P_ (I+4) (I+2) (I+3) I (I+1) [I] [I+1,b]:=by
 refine⟨pW (by omega),pW (by omega),pW (by omega),pW (by omega),pW (by omega),pW (by omega),λc hc=>?_,pW (by omega),pW (by omega),pW (by omega),λc hc=>?_⟩;·grind
 grind
def uW(h:c∈([n+5,n+3,n+4,n,n+1,n+2]:Ae)):n<=c:=by grind
def uX(h:c∈([n+4,n+2,n+3,n,n+1]:Ae)):n<=c:=by grind
def ab2{p pos Fl:Pos}{elts:List Expr}{kk:Nat}(hg:Gl X "zip")(hm:X.mg "zip" =none)(h:Ea X [e,e2,e3] σ H λvs H1=>∃a b c xs ys zs,vs=[.ref a,.ref b,.ref c]/\Aj X.K H1 a xs/\Aj X.K H1 b ys/\Aj X.K H1 c zs/\R (Vx X.K a b c) H1)
  (hs:starEach [e,e2,e3] X.env=(false,eval e X.env)::starEach [e2,e3] X.env:=by rfl)(B8:(backTo pos (starEach [e2,e3] X.env)).any (·.1)=false:=by rfl):Ei X (.Tuple elts kk Fl) (.Call (.Name "zip" p) [e,e2,e3] [] pos) σ H R:=by
 refine⟨λpins s I=>Call_ (fS I hg hm lR (afP (oW (h.run pos pins s I) λus s1 vs H1 I1 r1 q=>?_) hs B8))⟩;obtain⟨a,b,c,xs,ys,zs,ex,PL,NJ,Yb,q⟩:=q;subst ex;cases r1 with
 |cons r rr=>
  cases rr with
  |cons r' rr=>
   cases rr with
   |cons Zk rr=>cases rr;cases r;cases r';cases Zk;obtain⟨its,rv,p1,_⟩:=I1.list PL;obtain⟨C7,NV,p2,_⟩:=I1.list NJ;obtain⟨UT,rv3,p3,_⟩:=I1.list Yb;have la:a<s1.hz:=p1.lt;have lb:b<s1.hz:=p2.lt;have lc:c<s1.hz:=p3.lt;refine yH p1.isList p2.isList p3.isList λh' hz Di DX h1 h2 h3 hk=>wpAny_pyIter_zip hz ?_;have I2:Inv X pins σ H1 {s1 with heap:=h'}:=I1.kept (t':=s1.toks) hk;refine⟨s1.hz+5,[s1.hz+5,s1.hz+3,s1.hz+4,s1.hz,s1.hz+1,s1.hz+2],_,_,H1,RR,I2,xg (aa0 s1.hz a b c la lb lc) (afo la) (afo (afZ lb)) (afo (afZ (afZ lc))),⟨hz,Di,⟨_,_,_,DX⟩,h1,h2,h3⟩,λc Kh=>?_,q⟩;have hle:s1.hz<=c:=uW Kh;exact I1.oa hle (I1.AU.fresh hle)
def ab1{p pos Fl:Pos}{elts:List Expr}{kk:Nat}(hg:Gl X "zip")(hm:X.mg "zip" =none)(h:Ea X [e,e2] σ H λvs H1=>∃(x:Str) (b:Addr) (ys:List V),vs=[.str x,.ref b]/\x.cps.all (·<128)=true/\Aj X.K H1 b ys/\R (Vw X.K x b) H1)
  (hs:starEach [e,e2] X.env=(false,eval e X.env)::starEach [e2] X.env:=by rfl)(B8:(backTo pos (starEach [e2] X.env)).any (·.1)=false:=by rfl):Ei X (.Tuple elts kk Fl) (.Call (.Name "zip" p) [e,e2] [] pos) σ H R:=by refine⟨λpins s I=>Call_ (fS I hg hm lR (afP (oW (h.run pos pins s I) λus s1 vs H1 I1 r1 q=>?_) hs B8))⟩;obtain⟨x,b,ys,ex,ha,NJ,q⟩:=q;subst ex;obtain⟨u1,u2,rfl,⟨t,rfl⟩,r2⟩:=vals2 r1;cases r2;obtain⟨C7,NV,p2,_⟩:=I1.list NJ;have lb:b<s1.hz:=p2.lt;refine yG ha p2.isList λh' hz Di DX h1 h2 hk=>wpAny_pyIter_zip hz ?_;have I2:=I1.kept (t':=s1.toks) hk;refine⟨s1.hz+4,[s1.hz+4,s1.hz+2,s1.hz+3,s1.hz,s1.hz+1],_,_,H1,RR,I2,xf (aa1 s1.hz b lb) (afo (afZ lb)),⟨hz,Di,⟨_,_,DX⟩,h1,h2⟩,λc Kh=>?_,q⟩;have hle:=uX Kh;exact I1.oa hle (I1.AU.fresh hle)
def si{zs:List V}(h:Aj kK H1 a xs)(h2:Aj kK H1 b ys)(h3:Aj kK H1 c zs)(e2:ys.length=xs.length)(e3:zs.length=xs.length):BA (Vx kK a b c) H1 (List.range xs.length) λi v H'=>∃T x y z,v= .ref T/\xs[i]? =some x/\ys[i]? =some y/\zs[i]? =some z/\H' T=some (.tup [x,y,z]) where
 go:=λi H' s hi=>by
  have hi:i<xs.length:=by simpa using hi
  exact⟨xs,ys,zs,xs[i],ys[i],zs[i],s.seq h,s.seq h2,s.seq h3,by simp,by simp[e2,hi],by simp⟩
 Ke:=λi H' v Ls s hi y=>by
  have L5:i<xs.length:=by simpa using hi
  obtain⟨T,x,y,z,rfl,hT,rfl,hx,hy,hz⟩:=y;exact⟨i,by simp[L5],Aa.ax hT,T,x,y,z,RR,hx _ (s.seq h),hy _ (s.seq h2),hz _ (s.seq h3),ae⟩
 stop:=λi H' s hi=>⟨xs,s.seq h,by simpa using hi⟩
def sf(h2:Aj kK H1 b ys)(e2:ys.length=x.cps.size):BA (Vw kK x b) H1 (List.range ys.length) λi v H'=>∃T c y,v= .ref T/\x.cps[i]? =some c/\ys[i]? =some y/\H' T=some (.tup [.str ⟨#[c]⟩,y]) where
 go:=λi H' s hi=>by
  have hi:i<ys.length:=by simpa using hi
  exact⟨ys,ys[i],s.seq h2,by simp,by omega⟩
 Ke:=λi H' v Ls s hi y=>by
  have L5:i<ys.length:=by simpa using hi
  obtain⟨T,c,y,rfl,hT,rfl,hx,hy⟩:=y;exact⟨i,by simp[L5],Aa.ax hT,T,c,y,RR,hx,hy _ (s.seq h2),ae⟩
 stop:=λi H' s hi=>show x.cps.size<=i by
  have:ys.length<=i:=by simpa using hi
  omega
structure Co(P:Program)(w:World)(K:Frag)(mg:B3)(base:Heap)(k:Nat)(C:Addr)(sp:Sp):Prop where
 ex:(BL λ(f:Addr) (fd:FuncData) (ps:Ag)=>Av (Mk K C f) (Binds K fd ps []) (E2 P w K mg base Mr k f fd ps sp))
structure AH(P:Program)(w:World)(K:Frag)(mg:B3)(base:Heap)(k:Nat)(C:Addr)(m:Str)(sp:Sp):Prop where
 ex:(BL λ(f:Addr) (fd:FuncData) (ps:Ag)=>Av (Meth K C m f) (Binds K fd ps []) (E2 P w K mg base Mr k f fd ps sp))
def kr{pos p:Pos}(c:Co X.prog X.w X.K X.mg X.base k C sp)(hr:Bm (k+1) X.A)(hg:Gl X x)(hm:X.mg x=some (.ref C))(h:Ea X (e::es) σ H λvs H1=>∀x dx,H1 x=none->H1 dx=none->dx≠x->sp (.ref x::vs) (upd (upd H1 dx (.own x)) x (.ins C dx [])) (λv H2=>v= .BM/\Q (.ref x) H2) E0)
  (Ja:GY x:=by decide)(he:Nu X e es:=by rfl)(B8:Om X pos es:=by rfl):Ev X (.Call (.Name x p) (e::es) [] pos) σ H Q:=by obtain⟨f,fd,ps,M,hb,F⟩:=c.ex;refine bH (abv M F hr hg hm hb .nil qg cK Ja he B8) ?_;show Ea X (e::es) σ H λvs H1=>∀x dx,H1 x=none->H1 dx=none->dx≠x->sp (.ref x::(vs++[])) _ _ _;simp_all
def aam(c:Co X.prog X.w X.K X.mg X.base k C sp)(hr:Bm (k+1) X.A)(hg:Gl X x)(hm:X.mg x=some (.ref C))(h:∀x dx,H x=none->H dx=none->dx≠x->sp [.ref x] (upd (upd H dx (.own x)) x (.ins C dx [])) (λv H2=>v= .BM/\Q (.ref x) H2) E0)
  (Ja:GY x:=by decide):Ev X (.Call (.Name x p) [] [] pos) σ H Q:=by obtain⟨f,fd,ps,M,hb,F⟩:=c.ex;exact bH (zx M F hr hg hm hb .nil qg Ja) h
def bK{pos apos:Pos}{pl:Sem Bool}(c:AH X.prog X.w X.K X.mg X.base k C m sp)(hr:Bm k X.A)(cl:Jp X.K C)(h:Ev X o σ H λx H1=>(BL λa dx fs=>BO (x= .ref a) (H1 a=some (.ins C dx fs)) (fs.lookup m=none) (Ea X (e::es) σ H1 λvs H2=>sp (x::vs) H2 Q E0)))
  (WZ:Nu X e es:=by rfl)(B8:Om X pos es:=by rfl)
  (ht:eval (.Call (.Attribute o m apos) (e::es) [] pos) X.env=(do
   let ov<-eval o X.env
   standAt apos.atName
   let(f,first)<-holding [ov] (getMethod ov m pl)
   callWith pos f first (backTo pos (starEach (e::es) X.env)) (backToKw pos (keywordEach [] X.env))):=by rfl):Ev X (.Call (.Attribute o m apos) (e::es) [] pos) σ H Q:=by obtain⟨f,fd,ps,M,hb,F⟩:=c.ex;refine bH (abu aF cl M F hr hb .nil qg cK WZ B8 ht)<|h.mono λx H1 ⟨a,dx,fs,e1,e2,e3,q⟩=>⟨a,dx,fs,e1,e2,e3,?_⟩;simp only[af4];exact q
def cX(c:AH X.prog X.w X.K X.mg X.base k C m sp)(hr:Bm k X.A)(cl:Jp X.K C)(h:Ev X o σ H λx H1=>(BL λa dx fs=>BO (x= .ref a) (H1 a=some (.ins C dx fs)) (fs.lookup m=none) (sp [x] H1 Q E0)))
  (ht:eval (.Call (.Attribute o m apos) [] [] pos) X.env=(do
   let ov<-eval o X.env
   standAt apos.atName
   let(f,first)<-holding [ov] (getMethod ov m pl)
   callWith pos f first (backTo pos (starEach [] X.env)) (backToKw pos (keywordEach [] X.env))):=by rfl):Ev X (.Call (.Attribute o m apos) [] [] pos) σ H Q:=by obtain⟨f,fd,ps,M,hb,F⟩:=c.ex;exact bH (zw aF cl M F hr hb .nil qg ht) h
def adI(i:Nat)(hN:X.N.Nodup)(hi:X.N[i]? =some x)(hx:Loc X.env.scope x)(ho:Vt X op ti)(h:∃v,σ[i]? =some (some v)/\Ev X e σ H λy H1=>ti v y H1 λz H2=>D.nx (σ.set i (some z)) H2)(hf:X.fn x=true\/X.env.scope.names.lookup x=some .local:=by first|exact .inl RR|exact .inr RR):Es X (.AugAssign (.Name x pos') op e pos) D σ H:=gx (acR hN hi hx aF ho hf) h
def mkI{st:Stmt}(d:Nz kK C qual st)(g:EY "__init__" qual st N ps)
  (body:∀(bo:Bo)(H:Hp)(vs:List V)(Q:VK)(E:XK),Bm k (bo.A.deeper (envOfC qual (Ap st) bo.s.heap.objs.size bo.f bo.B_))->sp vs H Q E->
   Lu (EX N qual st P w kK mg base bo H E) (AX st) {nx:=λ_ H'=>Q .BM H',rt:=Q} (start N vs) H)(len:∀vs H Q E,sp vs H Q E->vs.length=ps.length:=by intro _ _ _ _ h;cases h;rename_i h;cases h;subst_vars;rfl):Co P w kK mg base (k+1) C sp:=by obtain⟨f,fd,hm,F⟩:=d.ex;exact⟨f,fd,ps,hm,F.binds g.bd,F.okE g.sc len λB_ A outer s=>body ⟨f,B_,A,outer,s⟩⟩
def se{st:Stmt}(d:EN kK C m qual st)(g:EY m qual st N ps)
  (body:∀(bo:Bo)(H:Hp)(vs:List V)(Q:VK)(E:XK),Bm k (bo.A.deeper (envOfC qual (Ap st) bo.s.heap.objs.size bo.f bo.B_))->sp vs H Q E->
   Lu (EX N qual st P w kK mg base bo H E) (AX st) {nx:=λ_ H'=>Q .BM H',rt:=Q} (start N vs) H)(len:∀vs H Q E,sp vs H Q E->vs.length=ps.length:=by intro _ _ _ _ h;cases h;rename_i h;cases h;subst_vars;rfl):AH P w kK mg base (k+1) C m sp:=by obtain⟨f,fd,hm,F⟩:=d.ex;exact⟨f,fd,ps,hm,F.binds g.bd,F.okE g.sc len λB_ A outer s=>body ⟨f,B_,A,outer,s⟩⟩
def CB(M:Sm)(i:Nat):List (Nat×Nat):=(List.range M.nP).map λj=>(i,j)
def Dh(M:Sm)(k:Nat):List (Nat×Nat):=(List.range k).flatMap (CB M)
def Ah(M:Sm):List (Nat×Nat):=Dh M M.nP
def JX(p:Party)(q:Nat):Nat:=if q=0 then p.carex else p.carey
def Nc(M:Sm)(s:Nat×Nat)(p:Party)(k:Nat):Nat:=((List.range k).map λq=>JX p q*(max (AK p q) (AK (pt M (if q=0 then s.1 else s.2)) q)-min (AK p q) (AK (pt M (if q=0 then s.1 else s.2)) q))).sum
noncomputable def far(M:Sm)(s:Nat×Nat)(i:Nat):Nat:=Nc M s (pt M i) 2
def hW(M:Sm)(k:Nat):Dh M (k+1)=Dh M k++CB M k:=by unfold Dh;rw[agI,ag9];simp
def m9(M:Sm)(k:Nat):(Dh M k).length=k*M.nP:=by
 induction k with
 |zero=>simp[Dh]
 |succ k ih=>rw[hW,afg,ih,Nat.succ_mul];simp[CB]
def bb:s∈Ah M↔s.1<M.nP/\s.2<M.nP:=by
 unfold Ah Dh CB;simp only[List.mem_flatMap,afD,afw];constructor;·rintro⟨i,hi,j,hj,rfl⟩;exact⟨hi,hj⟩
 ·rintro⟨h1,h2⟩;exact⟨s.1,h1,s.2,h2,RR⟩
def bB(h:Good M):(Ah M).length<=25:=by unfold Ah;rw[m9];exact ahm h.n5 h.n5
def jH(M:Sm)(s:Nat×Nat)(p:Party)(k:Nat):Nc M s p (k+1)=Nc M s p k+JX p k*(max (AK p k) (AK (pt M (if k=0 then s.1 else s.2)) k)-min (AK p k) (AK (pt M (if k=0 then s.1 else s.2)) k)):=by unfold Nc;rw[agI,afK,ag5];simp
def aaM(h:q<=1):([V.int (p.carex:Int),V.int (p.carey:Int)]:List V)[q]? =some (.int (JX p q:Nat)):=by
 match q,h with
 |0,_=>rfl
 |1,_=>rfl
def vL{Lx:List α}{zs:List V}(h:Aw rel ys zs H)(h':Aw rel Lx Jk H):Aw rel (ys++Lx) (zs++Jk) H:=by
 refine⟨by rw[afg,afg,h.1,h'.1],λk y z a b=>?_⟩;by_cases hk:k<ys.length;·rw[afs hk]at a;rw[afs (by rw[h.1];exact hk)]at b;exact h.2 k y z a b
 ·rw[afx (by omega)]at a;rw[afx (by rw[h.1];omega),h.1]at b;exact h'.2 _ y z a b
def UA(ad:Ad):Sp:=λvs H Q _=>Au λ(a:Addr) (M:Sm)=>Av (vs=[.ref a]) (Ai ad H a M) (UK H (Ah M) Q)
def gR(T:Txt kK mg aD base):Bx P w T 1 "every_sharing" (UA aD):=by
 refine bt T.d.KN bN ?_;rintro bo H vs Q E hr ⟨a,M,rfl,hS,q⟩;obtain⟨dx,pl,ll,hl,ho,ps,S⟩:=hS.ex;have hn:=hS.good.n5;refine ag<|aP 1 bN.sc.nd<|br (mm RR) RR T.c.DT afF<|aa<|br yy RR T.c.Ck PyProof.Rows.boot_range<|aa<|aX RR T.c.AV<|aE 0 S T T.m.Ac aI ⟨_,_,RR,Aj.of S.pl,ab ⟨_,RR,λrg hrg=>ab ⟨rg,0,M.nP,RR,?_,by omega,λp hp=>?_⟩⟩⟩;·rw[ae,ae1,S.len];simp
 have s1:Aa H (upd (upd H rg (.R3 0 ↑((ps.map V.ref).length))) p (.lst ((List.range' 0 M.nP).map λ(k:Nat)=>V.int (k:Int)))):=(Aa.ax hrg).aL ((Aa.ax hrg).free hp) (aM hp);generalize hH1:upd (upd H rg (.R3 0 ↑((ps.map V.ref).length))) p (.lst ((List.range' 0 M.nP).map λ(k:Nat)=>V.int (k:Int)))=H1 at*;have e1:H1 p=some (.lst ((List.range M.nP).map λ(k:Nat)=>V.int (k:Int))):=by rw[<-hH1,ae,List.range_eq_range']
 refine ag<|aP 2 bN.sc.nd<|ay<|ab ⟨afk _,λl hl=>?_⟩;have s2:Aa H1 (upd H1 l (.lst [])):=Aa.ax hl;have hHl:H l=none:=s1.free hl;have Zp:p≠l:=ak e1 hl;refine ag<|dH RR (qY (i:=3) bN.sc.nd RR (Or.inr RR))<|aQ<|af 1 ⟨p,RR,⟨_,Aj.of (s2 _ _ e1)⟩,
  gw (Hb:=LG p ((List.range M.nP).map λ(k:Nat)=>V.int (k:Int))) (xs:=List.range M.nP) (az (Aj.of mN)) (λi σ H'=>∃v3 v4 zs,σ=[some (.ref a),some (.ref p),some (.ref l),v3,v4]/\Aa H H'/\H' p=some (.lst ((List.range M.nP).map λ(k:Nat)=>V.int (k:Int)))/\H' l=some (.lst zs)/\Aw AQ (Dh M i) zs H')
   ⟨none,none,[],RR,s1.trans s2,s2 _ _ e1,ae,fB⟩ (λi σ H' ⟨_,_,_,_,_,e,_⟩=>mL e) ?_ ?_⟩
 ·rintro i y x σ H3 H4 hy ⟨v3,v4,zs,rfl,s3,e3,el,r3⟩ s4 rfl;have hi:i<M.nP:=by have:=(ae3.mp hy).1;simpa using this
  have ey:y=i:=by rw[afH hi]at hy;exact(ae2 hy).symm
  subst ey;have Pk:=s3.trans s4;have e4:=s4.lst e3;have el4:=s4.lst el;refine ah<|eV<|ot plainAttrs_list slot_list_extend type_list_extend qk<|af 2 ⟨ty_list (Aj.of el4),aa<|abZ (α:=Nat) (j:=4) (rel:=λj z H=>AQ (y,j) z H) RR bN.sc.nd (aB (by kernel_rfl)) (λ_ _ _ _ _=>cT 4 bN.sc.nd) (λj z H H' h s=>aR _ _ _ _ h s)<|
   aQ<|af 1 ⟨p,RR,⟨_,Aj.of e4⟩,List.range M.nP,_,az (Aj.of e4),eC hS.good,?_,?_⟩⟩;·intro j hj D acc H5 s5 hD s0 H0 C cl fp;refine bT<|aa<|af 3<|aa<|af 4<|ab ⟨cQ,λt ht=>⟨Aa.ax ht,t,RR,?_⟩⟩;rw[cW ae (afA (ak hD ht))];rfl
  ·intro D H5 ws hD s5 eD rel;have Tf:=s5.lst el4;have nDl:D≠l:=afA (ak el4 hD);have Ww:Aw AQ (CB M y) ws H5:=⟨by rw[rel.1];simp[CB],λk y' z' a' b'=>by unfold CB at a';rw[afc]at a';obtain⟨j,hj,rfl⟩:=afL.mp a';exact rel.2 k j z' hj b'⟩;have r5:=aZ aR r3 (s4.trans s5);have WV:=r3.1;have Qm:=Ww.1;refine ab ⟨l,D,zs,ws,RR,RR,Tf,eD,?_,⟨_,_,zs++ws,RR,(Pk.trans s5).aL hHl (aw Tf RR),?_,ae,?_⟩⟩;·rw[WV,Qm,m9];refine small (k:=100) ?_;have:y*M.nP<=5*5:=ahm (by omega) hn;simp[CB];omega
   ·rw[ai Zp];exact s5.lst e4
   ·rw[hW];have:=vL r5 Ww;exact⟨this.1,λk' y' z' a' b'=>hZ (this.2 k' y' z' a' b') Tf⟩
 ·rintro σ H3 ⟨v3,v4,zs,rfl,s3,e3,el,r3⟩;rw[afi]at r3;exact ah<|aj<|af 2<|q l zs H3 s3 hHl el r3
def Wm(ad:Ad):Sp:=λvs H Q _=>Kd λ(a t b:Addr) (M:Sm) (s:Nat×Nat) (i:Nat)=>Ox (vs=[.ref a,.ref t,.ref b]) (Ai ad H a M) (H t=some (.tup [.int s.1,.int s.2])) (s.1<M.nP) (s.2<M.nP) (i<M.nP) (BB ad H b (pt M i)) (ET H (.int (far M s i:Nat)) Q)
def yK(T:Txt kK mg aD base):Bx P w T 1 "how_far" (Wm aD):=by
 refine bt T.d.SY gq ?_;rintro bo H vs Q E hr ⟨a,t,b,M,sh,i,rfl,hS,ht,h1,h2,hi,hb,q⟩;refine ag<|aP 3 gq.sc.nd<|aG ?_;refine ag<|dH RR (cT 4 gq.sc.nd)<|vp<|bT<|aa<|au T.c.FIRST RR<|aa<|au T.c.Oj RR<|ab ⟨cQ,λtq htq=>⟨tq,RR,⟨_,Cd.of ae⟩,?_⟩⟩;have s0:Aa H (upd H tq (.tup [.int 0,.int 1])):=Aa.ax htq;refine gw (Hb:=upd H tq (.tup [.int 0,.int 1])) (xs:=List.range 2) (jq (val:=λ(k:Nat)=>V.int (k:Int)) (Cd.of ae)) (λk σ H'=>(Au λv4 v5=>σ=[some (.ref a),some (.ref t),some (.ref b),some (.int (Nc M sh (pt M i) k:Nat)),v4,v5]/\Aa (upd H tq (.tup [.int 0,.int 1])) H')) ⟨none,none,RR,Aa.refl _⟩ (λi σ H' ⟨_,_,_,e⟩=>e) ?_ ?_
 ·rintro k y x σ H1 H2 hy ⟨v4,v5,rfl,s1⟩ s2 rfl;have hk:k<2:=by have:=(ae3.mp hy).1;simpa using this
  have ey:y=k:=by rw[afH hk]at hy;exact(ae2 hy).symm
  subst ey;have C1:=s0.trans (s1.trans s2);have hS2:=hS.mono C1;obtain⟨dx,pl,ll,hl,ho,ps,S⟩:=hS2.ex;have Od:=hb.mono C1;have gO:([V.int (sh.1:Int),V.int (sh.2:Int)]:List V)[y]? =some (.int ((if y=0 then sh.1 else sh.2:Nat):Int)):=by
   match y,hk with
   |0,_=>rfl
   |1,_=>rfl
  have Bz:(if y=0 then sh.1 else sh.2)<M.nP:=by split<;>assumption
  have gp:=bU hS.good hi;have ZJ:y<=1:=by omega
  have hc5:JX (pt M i) y<=5:=by
   unfold JX;split;·exact gp.c2
   ·exact gp.d2
  refine ag<|aP 5 gq.sc.nd<|dM T<|fG 0 S T<|bg cR<|af 1<|af 4 ⟨t,_,_,_,RR,RR,Cd.of (C1 _ _ ht),aS gO,_,RR,Bz,Aa.refl _,λb' HD=>⟨b',RR,HD,af 4 ⟨y,RR,ZJ,RR,?_⟩⟩⟩;refine ah<|adI 3 gq.sc.nd RR (Or.inl RR) u_ ⟨_,RR,a0 fQ<|bg cR<|t6 T<|af 2 ⟨b,RR,Od,λtc VR=>af 4 ⟨tc,_,_,_,RR,RR,Cd.of VR,aS (aaM ZJ),bI kJ RR T.c.OQ agr<|aa<|a0 fP<|af 5<|dM T<|af 2 ⟨b,RR,Od,af 4 ⟨y,RR,ZJ,RR,_,_,RR,RR,ab ⟨_,RR,_,_,RR,RR,.inl ⟨by omega,by omega⟩,_,_,RR,RR,⟨some (.int (y:Nat)),some (.int (AK (pt M (if y=0 then sh.1 else sh.2)) y:Nat)),?_,s1.trans s2⟩⟩⟩⟩⟩⟩⟩;rw[jH,mV];congr 5
 ·rintro σ H1 ⟨v4,v5,rfl,s1⟩;exact ah<|aj<|af 3<|q H1 (s0.trans s1)
def gJ:Al x H x=none:=by unfold Al;rw[if_pos RR]
def bw(h:b≠x):Al x H b=H b:=by unfold Al;rw[if_neg h]
def cV(hx:H x=none)(hd:H dx=none):Aa H (Al x (upd (upd H dx o1) x o2)) where
 go:=λb o e=>by have n1:=ak e hx;have n2:=ak e hd;exact Kp.refl (by rw[bw n1,ai n1,ai n2];exact e)
 good:=λP ps e g=>by have n1:=ak e hx;have n2:=ak e hd;refine⟨ps,by rw[bw n1,ai n1,ai n2];exact e,g.ok,λpos v ev=>?_⟩;obtain⟨c,rfl,hc⟩:=g.code pos v ev;exact⟨c,RR,by rw[bw (ak hc hx),ai (ak hc hx),ai (ak hc hd)];exact hc⟩
def Aa.ik(s:Aa (Al x H) H')(h:nt (H' x)=true):Aa (Al x H) (upd H' x o):=s.aL gJ h
def Aa.ins(e:Aa H H')(h:H a=some (.ins C dx fs)):H' a=some (.ins C dx fs):=e.go _ _ h
def Aa.tp(e:Aa H H')(h:H a=some (.tup xs)):H' a=some (.tup xs):=e.go _ _ h
def pX{zs:List V}(h:Aj kK H1 a zs):BA (XF kK a) H1 (List.range zs.length) λi x _=>zs[i]? =some x where
 go:=λi H' s hi=>by
  have hi:i<zs.length:=by simpa using hi
  exact⟨_,zs[i],s.seq h,by simp⟩
 Ke:=λi H' x Ls s hi y=>by
  have hi:i<zs.length:=by simpa using hi
  obtain⟨rfl,y⟩:=y;exact⟨i,by simp[hi],Aa.refl _,y _ (s.seq h)⟩
 stop:=λi H' s hi=>⟨_,s.seq h,by simpa using hi⟩
def uF{κ α:Type}{gs:List α}{key:α->κ}{f:α->V}{k:κ}{v:V}[DecidableEq κ](h:∀x∈gs,key x≠k):putK (gs.map λx=>(key x,f x)) k v=(gs.map λx=>(key x,f x))++[(k,v)]:=by unfold putK;rw[if_neg];simp_all
def xb{κ α:Type}{gs:List α}{key:α->κ}{f:α->V}{g:α}[DecidableEq κ](inj:∀x∈gs,key x=key g->x=g)(h:g∈gs):HE (gs.map λx=>(key x,f x)) (key g)=some (f g):=by
 induction gs with
 |nil=>cases h
 |cons x r ih=>
  rw[afq];by_cases e:key x=key g;·rw[gZ e,inj x (aff ..) e]
  ·rw[g0 e];exact ih (λy hy=>inj y (ae6 _ hy)) ((ae5.mp h).resolve_left (λz=>e (by rw[z])))
def N_(s:Nat×Nat):List Key:=[.inl (s.1:Int),.inl (s.2:Int)]
def tG(h:N_ s=N_ t):s=t:=by injection h with h1 h2;grind
noncomputable def dist(M:Sm)(s:Nat×Nat):Ae:=(List.range M.nP).map (far M s)
def Bj(M:Sm):Ae:=(List.range M.nP).map λi=>(pt M i).seats
def oZ(M:Sm)(i:Nat):(CB M i).Nodup:=by unfold CB;rw[List.Nodup,List.pairwise_map];exact agM.imp λ{a b} h e=>by grind
def dk(M:Sm):∀k,(Dh M k).Nodup
 |0=>by simp[Dh]
 |k+1=>by rw[hW,agu];refine⟨dk M k,oZ M k,λa ha b hb e=>?_⟩;unfold Dh at ha;simp only[List.mem_flatMap,afD,CB,afw]at ha hb;grind
def nA{α:Type}{l:List α}{g:α}(hn:l.Nodup)(h:l[i]? =some g):g∉l.take i:=by intro hm;obtain⟨j,hj,e⟩:=agB hm;rw[afJ]at hj;have hi:=(ae3.mp h).1;rw[List.getElem_take]at e;have e2:l[i]=g:=(ae3.mp h).2;have:=(ahx hn).mp (e.trans e2.symm);omega
def NG(sl:Addr)(t:Nat)(sh ds:Addr):List (Str×V):=[("seats",.ref sl),("total",.int t),("sharings",.ref sh),("distances",.ref ds)]
def xa:(NG sl t sh ds).lookup ("seats" :Str)=some (V.ref sl):=by kernel_rfl
def w_:(NG sl t sh ds).lookup ("total" :Str)=some (V.int t):=by kernel_rfl
def dh:(NG sl t sh ds).lookup ("sharings" :Str)=some (V.ref sh):=by kernel_rfl
def cU:(NG sl t sh ds).lookup ("distances" :Str)=some (V.ref ds):=by kernel_rfl
structure C9(ad:Ad)(H:Hp)(a:Addr)(M:Sm):Prop where
 ex:∃(dx sl sh ds:Addr) (zs:List V) (pa:Nat×Nat->Addr),H a=some (.ins ad.Views dx (NG sl (total M) sh ds))/\H sl=some (.lst (nums (Bj M)))/\H sh=some (.lst zs)/\Aw AQ (Ah M) zs H/\H ds=some (.dT ((Ah M).map λs=>(N_ s,V.ref (pa s))))/\∀s∈Ah M,H (pa s)=some (.lst (nums (dist M s)))
 good:Good M
def C9.mono(h:C9 aD H a M)(s:Aa H H'):C9 aD H' a M:=by obtain⟨dx,sl,sh,ds,zs,pa,h1,h2,h3,h4,h5,h6⟩:=h.ex;exact⟨⟨dx,sl,sh,ds,zs,pa,s _ _ h1,s _ _ h2,s _ _ h3,aZ aR h4 s,s _ _ h5,λt ht=>s _ _ (h6 t ht)⟩,h.good⟩
def Sk(ad:Ad):Sp:=λvs H Q _=>CO λ(x dx a:Addr) (M:Sm)=>BO (vs=[.ref x,.ref a]) (H x=some (.ins ad.Views dx [])) (Ai ad (Al x H) a M) (∀H',Aa (Al x H) H'->C9 ad H' x M->Q .BM H')
def rB(T:Txt kK mg aD base):Co P w kK mg base 2 aD.Views (Sk aD):=by
 refine mkI T.m.rB cO ?_;rintro bo H vs Q E hr ⟨x,dx,a,M,rfl,hx,hS,q⟩;have hn:=hS.good.n5;have b0:Aa (Al x H) H:=⟨eZ,λP ps e g=>⟨ps,eZ _ _ e|>λh=>by
  have:P≠x:=λz=>by rw[z,gJ]at e;cases e
  rw[bw this]at e;exact e,g.ok,λpos v ev=>by obtain⟨c,rfl,hc⟩:=g.code pos v ev;exact⟨c,RR,eZ _ _ hc⟩⟩⟩;obtain⟨dx1,pl,ll,hl,ho,ps,S⟩:=(hS.mono b0).ex;refine ag<|aY<|bL (α:=Nat) (j:=2) (f:=λi=>.int ((pt M i).seats:Nat)) RR cO.sc.nd (aB (by kernel_rfl)) (λ_ _ _ _ _=>cT 2 cO.sc.nd)<|
  aQ<|aE 1 S T T.m.Ac aI ⟨pl,RR,⟨_,S.items⟩,_,_,az S.items,eC hS.good,?_,?_⟩;·intro y hy H' sm s0 H0 C cl fp;exact cG T<|af 2 ⟨_,RR,(S.mono sm).party hy,Aa.refl _,RR⟩
 intro sl H1 ZS s1 e1;have e1:H1 sl=some (.lst (nums (Bj M))):=by rw[e1];unfold Bj nums;rw[afr];rfl
 have x1:H1 x=some (.ins aD.Views dx []):=s1 _ _ hx;refine af 0 ⟨x,aD.Views,dx,[],RR,x1,T.m.AF,T.m.Ep,(by show 0<1000;decide),?_⟩;have SI:sl≠x:=λz=>by rw[z,hx]at ZS;cases ZS
 have b2:Aa (Al x H) (upd H1 x (.ins aD.Views dx (AO "seats" (.ref sl) []))):=(b0.trans s1).ik (aw x1 RR);have x2:upd H1 x (.ins aD.Views dx (AO "seats" (.ref sl) [])) x=some (.ins aD.Views dx (AO "seats" (.ref sl) [])):=ae;have e2:upd H1 x (.ins aD.Views dx (AO "seats" (.ref sl) [])) sl=some (.lst (nums (Bj M))):=by rw[ai SI];exact e1
 generalize upd H1 x (.ins aD.Views dx (AO "seats" (.ref sl) []))=H2 at*;refine ag<|aY<|eM RR RR T.c.Fh<|aC<|af 0 ⟨x,_,_,_,_,RR,x2,T.m.AF,T.m.Ep,RR,sl,Bj M,RR,Aj.of e2,af 0 ⟨x,aD.Views,dx,_,RR,x2,T.m.AF,T.m.GG,(by show 1<1000;decide),?_⟩⟩;have b3:Aa (Al x H) (upd H2 x (.ins aD.Views dx (AO "total" (.int ((Bj M).sum:Nat)) (AO "seats" (.ref sl) [])))):=b2.ik (aw x2 RR);have x3:upd H2 x (.ins aD.Views dx (AO "total" (.int ((Bj M).sum:Nat)) (AO "seats" (.ref sl) []))) x=some (.ins aD.Views dx (AO "total" (.int ((Bj M).sum:Nat)) (AO "seats" (.ref sl) []))):=ae;have e3:upd H2 x (.ins aD.Views dx (AO "total" (.int ((Bj M).sum:Nat)) (AO "seats" (.ref sl) []))) sl=some (.lst (nums (Bj M))):=by rw[ai SI];exact e2
 generalize upd H2 x (.ins aD.Views dx (AO "total" (.int ((Bj M).sum:Nat)) (AO "seats" (.ref sl) [])))=H3 at*;refine ag<|aY<|ao (gR T) hr<|af 1<|ab ⟨a,M,RR,hS.mono b3,λsh zs H4 s4 ZT e4 r4=>af 0 ⟨x,aD.Views,dx,_,RR,s4 _ _ x3,T.m.AF,T.m.BD,(by show 2<1000;decide),?_⟩⟩;have WC:sh≠x:=λz=>by rw[z,x3]at ZT;cases ZT
 have AaK:sl≠sh:=ak e3 ZT;have b5:Aa (Al x H) (upd H4 x (.ins aD.Views dx (AO "sharings" (.ref sh) (AO "total" (.int ((Bj M).sum:Nat)) (AO "seats" (.ref sl) []))))):=(b3.trans s4).ik (aw (s4 _ _ x3) RR);have x5:upd H4 x (.ins aD.Views dx (AO "sharings" (.ref sh) (AO "total" (.int ((Bj M).sum:Nat)) (AO "seats" (.ref sl) [])))) x=some (.ins aD.Views dx (AO "sharings" (.ref sh) (AO "total" (.int ((Bj M).sum:Nat)) (AO "seats" (.ref sl) [])))):=ae;have e5:upd H4 x (.ins aD.Views dx (AO "sharings" (.ref sh) (AO "total" (.int ((Bj M).sum:Nat)) (AO "seats" (.ref sl) [])))) sl=some (.lst (nums (Bj M))):=by rw[ai SI];exact s4 _ _ e3
 have f5:upd H4 x (.ins aD.Views dx (AO "sharings" (.ref sh) (AO "total" (.int ((Bj M).sum:Nat)) (AO "seats" (.ref sl) [])))) sh=some (.lst zs):=by rw[ai WC];exact e4
 have r5:Aw AQ (Ah M) zs (upd H4 x (.ins aD.Views dx (AO "sharings" (.ref sh) (AO "total" (.int ((Bj M).sum:Nat)) (AO "seats" (.ref sl) []))))):=⟨r4.1,λk y z a' b'=>by obtain⟨p,ep,hp⟩:=r4.2 k y z a' b';exact⟨p,ep,by rw[ai (λq'=>by have:=s4.ins x3;rw[<-q',hp]at this;cases this)];exact hp⟩⟩;generalize upd H4 x (.ins aD.Views dx (AO "sharings" (.ref sh) (AO "total" (.int ((Bj M).sum:Nat)) (AO "seats" (.ref sl) []))))=H5 at*;refine ag<|aY<|aan λds Ta=>af 0 ⟨x,aD.Views,dx,_,RR,Aa.ax Ta _ _ x5,T.m.AF,T.m.Br,(by show 3<1000;decide),?_⟩;have WG:ds≠x:=afA (ak x5 Ta);have WB:sl≠ds:=ak e5 Ta;have WD:sh≠ds:=ak f5 Ta;have Aal:(Bj M).sum=total M:=rfl;rw[Aal]at*;have eF:AO "distances" (.ref ds) (AO "sharings" (.ref sh) (AO "total" (.int (total M:Nat)) (AO "seats" (.ref sl) [])))=NG sl (total M) sh ds:=by kernel_rfl
 rw[eF];have b6:Aa (Al x H) (upd (upd H5 ds (.dT [])) x (.ins aD.Views dx (NG sl (total M) sh ds))):=(b5.aL (b5.free Ta) (aM Ta)).ik (aw (Aa.ax Ta _ _ x5) RR);have x6:upd (upd H5 ds (.dT [])) x (.ins aD.Views dx (NG sl (total M) sh ds)) x=some (.ins aD.Views dx (NG sl (total M) sh ds)):=ae;have e6:upd (upd H5 ds (.dT [])) x (.ins aD.Views dx (NG sl (total M) sh ds)) sl=some (.lst (nums (Bj M))):=by rw[ai SI,ai WB];exact e5
 have f6:upd (upd H5 ds (.dT [])) x (.ins aD.Views dx (NG sl (total M) sh ds)) sh=some (.lst zs):=by rw[ai WC,ai WD];exact f5
 have d6:upd (upd H5 ds (.dT [])) x (.ins aD.Views dx (NG sl (total M) sh ds)) ds=some (.dT []):=by rw[ai WG,ae]
 have r6:Aw AQ (Ah M) zs (upd (upd H5 ds (.dT [])) x (.ins aD.Views dx (NG sl (total M) sh ds))):=⟨r5.1,λk y z a' b'=>by obtain⟨p,ep,hp⟩:=r5.2 k y z a' b';exact⟨p,ep,by rw[ai (λq'=>by rw[<-q',hp]at x5;cases x5),ai (ak hp Ta)];exact hp⟩⟩;have Aah:Al x H ds=none:=b5.free Ta;generalize upd (upd H5 ds (.dT [])) x (.ins aD.Views dx (NG sl (total M) sh ds))=H6 at*;refine ah<|dH RR (qY (i:=3) cO.sc.nd RR (Or.inr RR))<|aQ<|aC<|af 0 ⟨x,_,_,_,_,RR,x6,T.m.AF,T.m.BD,dh,sh,RR,⟨_,Aj.of f6⟩,
  gw (Hb:=LG sh zs) (xs:=List.range zs.length) (pX (Aj.of mN)) (λi σ H'=>∃v2 v3 pa,σ=[some (.ref x),some (.ref a),v2,v3]/\Aa (Al x H) H'/\H' x=some (.ins aD.Views dx (NG sl (total M) sh ds))/\H' sl=some (.lst (nums (Bj M)))/\H' sh=some (.lst zs)/\Aw AQ (Ah M) zs H'/\
    H' ds=some (.dT (((Ah M).take i).map λs=>(N_ s,V.ref (pa s))))/\∀s∈(Ah M).take i,H' (pa s)=some (.lst (nums (dist M s))))
   ⟨none,none,λ_=>0,RR,b6,x6,e6,f6,r6,by simpa using d6,by simp⟩ (λi σ H' ⟨_,_,_,_,_,_,_,e,_⟩=>mL e) ?_ ?_⟩
 ·rintro i y v σ H7 H8 hy ⟨v2,v3,pa,rfl,s7,x7,e7,f7,r7,d7,Qo⟩ s8 hv;have hi:i<zs.length:=by have:=(ae3.mp hy).1;simpa using this
  have ey:y=i:=by rw[afH hi]at hy;exact(ae2 hy).symm
  subst ey;have s78:=s7.trans s8;obtain⟨sg,W0,ts,rfl,SX⟩:=e_ r7 hv;have U2:sg∈Ah M:=afa W0;obtain⟨m1,m2⟩:=bb.mp U2;have hS8:=hS.mono s78;obtain⟨dx8,pl8,ll8,hl8,ho8,ps8,S8⟩:=hS8.ex;refine ah<|wG (jg hr)<|bL (α:=Nat) (j:=2) (f:=λi=>.int (far M sg i:Nat)) RR cO.sc.nd (aB (by kernel_rfl)) (λ_ _ _ _ _=>cT 2 cO.sc.nd)<|
   aQ<|aE 1 S8 T T.m.Ac aI ⟨pl8,RR,⟨_,S8.items⟩,_,_,az S8.items,eC hS.good,?_,?_⟩;·intro j hj H9 s9 s0 H0 C cl fp;exact ao (yK T) hr<|af 1<|aa<|af 3<|aa<|af 2<|ab ⟨a,ts,_,M,sg,j,RR,hS8.mono s9,s9 _ _ (s8 _ _ SX),m1,m2,by simpa using hj,(S8.mono s9).party hj,λH10 s10=>⟨s10,RR⟩⟩
  ·intro D H9 hD s9 eD;have TR:=s8.trans s9;have d9:=TR _ _ d7;have eD:H9 D=some (.lst (nums (dist M sg))):=by rw[eD];unfold dist nums;rw[afr];rfl
   have nDd:D≠ds:=λz=>by have:=s8 _ _ d7;rw[<-z]at this;exact Kp.ne this hD
   refine aC<|af 0 ⟨x,_,_,_,_,RR,TR _ _ x7,T.m.AF,T.m.Br,cU,af 3 ⟨ds,_,RR,Mm.t (k:=N_ sg) d9 (TR _ _ SX) ?_,?_⟩⟩;·rw[ae1,afJ];exact afl (agV _ _) (afl (bB hS.good) (by decide))
   ·rw[uF (key:=N_) (gs:=(Ah M).take y) (k:=N_ sg) (λt ht z=>by rw[tG z]at ht;exact nA (dk M _) W0 ht)];refine⟨_,_,λt=>if t=sg then D else pa t,RR,(s78.trans s9).aL Aah (aw d9 RR),?_,?_,?_,?_,?_,?_⟩;·rw[ai (afA WG)];exact TR _ _ x7
    ·rw[ai WB];exact TR _ _ e7
    ·rw[ai WD];exact TR _ _ f7
    ·have:=aZ aR r7 TR;refine⟨this.1,λk' y' z' a' b'=>?_⟩;obtain⟨p,ep,hp⟩:=this.2 k' y' z' a' b';exact⟨p,ep,by rw[ai (λq'=>by rw[q',d9]at hp;cases hp)];exact hp⟩
    ·rw[ae,a_ W0,afK];congr 3;·refine afy λt ht=>?_;have:¬t=sg:=λz=>nA (dk M _) W0 (z▸ht);dsimp only;rw[if_neg this]
     ·simp
    ·intro t ht;rw[a_ W0]at ht;by_cases e:t=sg;·subst e;dsimp only;rw[if_pos RR,ai nDd];exact eD
     ·have NI:t∈(Ah M).take y:=(afE.mp ht).resolve_right λz=>e (afm.mp z);dsimp only;rw[if_neg e,ai (λz=>by have:=Qo t NI;rw[z,d7]at this;cases this)];exact TR _ _ (Qo t NI)
 ·rintro σ H7 ⟨v2,v3,pa,rfl,s7,x7,e7,f7,r7,d7,Qo⟩;rw[afi,r7.1,afX]at d7 Qo;exact q H7 s7 ⟨⟨dx,sl,sh,ds,zs,pa,x7,e7,f7,r7,d7,Qo⟩,hS.good⟩
def abX{pt:Pos}(hc:X.calm=true)(hN:X.N.Nodup)(ok:ER X.N X.env.scope scope [(x,j1),(y,j2),(z,j3)])
  (hg:∀(s:Shared)(H:Hp)(C:Addr)(cl:List (Str×Addr))(fp:Ax),PG (KQ X scope s H C cl fp) (.Tuple [.Name x px,.Name y py,.Name z pz] kk pt) (Vk X.K 3 (Lo (Du j1) (Lo (Du j2) (Lo (Du j3) Vm)))))
  (hw:∀a b c:V,wipe ((((wipe σ [j1,j2,j3]).set j1 (some a)).set j2 (some b)).set j3 (some c)) [j1,j2,j3]=wipe σ [j1,j2,j3])
  (h:Ei X (.Tuple [.Name x px,.Name y py,.Name z pz] kk pt) iter σ H λJ H1=>∃(xs:List α) (v1 v2 v3:α->V),BA J H1 xs (λy v H'=>∃T,v= .ref T/\H' T=some (.tup [v1 y,v2 y,v3 y]))/\xs.length<=sizeLine/\
   (∀y∈xs,∀H',Aa H1 H'->KR X scope ifs ((((wipe σ [j1,j2,j3]).set j1 (some (v1 y))).set j2 (some (v2 y))).set j3 (some (v3 y))) H' λb H3=>Aa H' H3/\b=pr y)/\
   (∀y∈xs,pr y=true->∀H',Aa H1 H'->OR X scope elt ((((wipe σ [j1,j2,j3]).set j1 (some (v1 y))).set j2 (some (v2 y))).set j3 (some (v3 y))) H' λz H4=>Aa H' H4/\z=f y)/\
   ∀D H',H1 D=none->Aa H1 H'->H' D=some (.lst ((xs.filter pr).map f))->Q (.ref D) H')(hs:∀x,foldedSetIterable iter X.env x=pure x:=by intro _;rfl):Ev X (.ListComp elt [⟨.Tuple [.Name x px,.Name y py,.Name z pz] kk pt,iter,ifs,0⟩] scope pos) σ H Q:=by refine t5 hc hN ok hg ?_ hs;refine Ei.mono h λJ H1 ⟨xs,v1,v2,v3,Y,hz,ht,he,hq⟩=>?_;intro D hD;refine mQ (f:=f) Y hD hz ?_ (λx σ H Q Q' k ⟨a,ys,e1,e2,e3,v,r,e4,v',r',e5,v'',Zk,e6,e7,q⟩=>⟨a,ys,e1,e2,e3,v,r,e4,v',r',e5,v'',Zk,e6,e7,k _ _ q⟩) (λσ H Q Q' k q s0 H0 C cl fp=>(q s0 H0 C cl fp).mono k) (λσ H Q Q' k q s0 H0 C cl fp=>(q s0 H0 C cl fp).mono k) λH' s' q=>hq D H' hD s' q;rintro y hy v H' sm ⟨T,rfl,hT⟩;refine⟨T,_,RR,Cd.of hT,RR,_,_,RR,_,_,RR,_,_,RR,RR,hw _ _ _,λs0 H0 C cl fp=>(ht y hy H' sm s0 H0 C cl fp).mono ?_⟩;rintro b H3 ⟨s3,rfl⟩;exact⟨s3,RR,λhb s0 H0 C cl fp=>(he y hy hb H3 (sm.trans s3) s0 H0 C cl fp)⟩
noncomputable def forIt(M:Sm)(c d:Nat×Nat):Nat:=(((List.range M.nP).filter λi=>decide (far M c i<far M d i)).map λi=>(pt M i).seats).sum
def El(M:Sm)(c d:Nat×Nat):Bool:=decide (total M<2*forIt M c d)
def Ex(M:Sm)(c d:Nat×Nat):Bool:=(decide (far M c c.1<far M d c.1)&&decide (far M c c.2<far M d c.2))&&El M c d
def BJ(M:Sm)(d:Nat×Nat):List (Nat×Nat):=(Ah M).filter λc=>El M c d
def Bb(M:Sm)(d:Nat×Nat):List (Nat×Nat):=(Ah M).filter λc=>Ex M c d
def D6(M:Sm)(i:Nat):Bool:=(BJ M (i,i)).all λc=>c.1==i||c.2==i
def uv{β:Type}{yl':α->V->Hp->Prop}(Y:BA J H1 xs yl)(h:∀y∈xs,∀v H',yl y v H'->yl' y v H'):BA J H1 xs yl':=
 ⟨Y.go,λi H' x Ls s hi y=>let⟨z,hz,s2,q⟩:=Y.Ke i H' x Ls s hi y;⟨z,hz,s2,h z (afa hz) x Ls q⟩,Y.stop⟩
def rW(h:i<M.nP):(dist M s)[i]? =some (far M s i):=by unfold dist;rw[afc,afH h];rfl
def xB(h:i<M.nP):(Bj M)[i]? =some (pt M i).seats:=by unfold Bj;rw[afc,afH h];rfl
def C9.get(hv:C9 aD H x M):∃(dx sl sh ds:Addr) (zs:List V) (pa:Nat×Nat->Addr),H x=some (.ins aD.Views dx (NG sl (total M) sh ds))/\H sl=some (.lst (nums (Bj M)))/\H sh=some (.lst zs)/\Aw AQ (Ah M) zs H/\(∀(t:Addr)(s:Nat×Nat),s∈Ah M->∀H',Aa H H'->H' t=some (.tup [.int s.1,.int s.2])->ND H' ds (.ref t) (some (.ref (pa s))))/\∀s∈Ah M,H (pa s)=some (.lst (nums (dist M s))):=by obtain⟨dx,sl,sh,ds,zs,pa,h1,h2,h3,h4,h5,h6⟩:=hv.ex;refine⟨dx,sl,sh,ds,zs,pa,h1,h2,h3,h4,λt s hs H' sm ht=>?_,h6⟩;rw[<-xb (f:=λs=>V.ref (pa s)) (λx _ e=>tG e) hs];exact ND.t (sm _ _ h5) ht
def Uy(ad:Ad)(ret:Sm->Nat×Nat->Nat×Nat->V):Sp:=λvs H Q _=>Kd λ(x t1 t2:Addr) (M:Sm) (c d:Nat×Nat)=>Oy (vs=[.ref x,.ref t1,.ref t2]) (C9 ad H x M) (H t1=some (.tup [.int c.1,.int c.2])) (H t2=some (.tup [.int d.1,.int d.2])) (c∈Ah M) (d∈Ah M) (ET H (ret M c d) Q)
def h_{K:Frag}(T:Txt K mg aD base):AH P w K mg base 1 aD.Views "seats_for" (Uy aD λM c d=>.int (forIt M c d:Nat)):=by
 refine se T.m.Jg bc ?_;rintro bo H vs Q E hr ⟨x,t1,t2,M,c,d,rfl,hV,MZ,Lm,hc,hd,q⟩;have hn:=hV.good.n5;obtain⟨dx,sl,sh,ds,zs,pa,h1,h2,h3,h4,h5,h6⟩:=hV.get;refine ag<|aP 3 bc.sc.nd<|fH (jg hr)<|aC<|af 0 ⟨x,_,_,_,_,RR,h1,T.m.AF,T.m.Br,cU,af 1 ⟨ds,_,RR,h5 t1 c hc H (Aa.refl _) MZ,?_⟩⟩;refine ag<|aP 4 bc.sc.nd<|fH (jg hr)<|aC<|af 0 ⟨x,_,_,_,_,RR,h1,T.m.AF,T.m.Br,cU,af 2 ⟨ds,_,RR,h5 t2 d hd H (Aa.refl _) Lm,?_⟩⟩;have l1:(nums (Bj M)).length=M.nP:=by rw[aq];simp[Bj]
 have l2:∀s,(nums (dist M s)).length=M.nP:=λs=>by rw[aq];simp[dist]
 refine ah<|aj<|eM RR RR T.c.Fh<|abX (α:=Nat) (j1:=5) (j2:=6) (j3:=7) (pr:=λi=>decide (far M c i<far M d i)) (f:=λi=>.int ((pt M i).seats:Nat)) RR bc.sc.nd (aB (by kernel_rfl))
  (λ_ _ _ _ _=>nu RR (cA (cT 5 bc.sc.nd) (cA (cT 6 bc.sc.nd) (cA (cT 7 bc.sc.nd) j6)))) (λ_ _ _=>rfl)<|
  ab2 RR T.c.RD<|aa<|aC<|af 0 ⟨x,_,_,_,_,RR,h1,T.m.AF,T.m.Ep,xa,aa<|af 3<|aa<|af 4<|ab ⟨sl,pa c,pa d,_,_,_,RR,Aj.of h2,Aj.of (h6 c hc),Aj.of (h6 d hd),List.range M.nP,λi=>.int ((pt M i).seats:Nat),λi=>.int (far M c i:Nat),λi=>.int (far M d i:Nat),?_,eC hV.good,?_,?_,?_⟩⟩
 ·have Y:=si (Aj.of (K:=K) h2) (Aj.of (h6 c hc)) (Aj.of (h6 d hd)) (by rw[l1,l2]) (by rw[l1,l2]);rw[l1]at Y;refine uv (β:=Nat) Y λi hi v H' ⟨T',a,b,e,hv,ha,hb,he,hT⟩=>⟨T',hv,?_⟩;have L5:i<M.nP:=by simpa using hi
  rw[aU (xB L5)]at ha;rw[aU (rW L5)]at hb he;cases ha;cases hb;cases he;exact hT
 ·intro y hy H' sm s0 H0 C cl fp;refine bp<|aV nv (aJ _)<|af 6<|af 7 ⟨_,_,RR,RR,_,RR,Aa.refl _,?_⟩;exact decide_eq_decide.mpr ahe
 ·intro y hy _ H' sm s0 H0 C cl fp;exact af 5 ⟨Aa.refl _,RR⟩
 ·intro D H' hD sm e;exact⟨D,((List.range M.nP).filter λi=>decide (far M c i<far M d i)).map λi=>(pt M i).seats,RR,by rw[<-gg];exact Aj.of e,q H' sm⟩
def rl(T:Txt kK mg aD base):AH P w kK mg base 2 aD.Views "beats" (Uy aD λM c d=>.bl (El M c d)):=by
 refine se T.m.Nt pK ?_;rintro bo H vs Q E hr ⟨x,t1,t2,M,c,d,rfl,hV,MZ,Lm,hc,hd,q⟩;obtain⟨dx,sl,sh,ds,zs,pa,h1,_⟩:=hV.get;refine ah<|aj<|bh jf (aJ _)<|a0 fQ<|aG<|bK (h_ T) (hr.mono (by decide)) T.m.AF<|af 0 ⟨x,dx,_,RR,h1,by kernel_rfl,aa<|af 1<|aa<|af 2<|ab ⟨x,t1,t2,M,c,d,RR,hV,MZ,Lm,hc,hd,λH1 s1=>⟨_,_,RR,RR,.inl ⟨by omega,by omega⟩,aC<|af 0 ⟨x,_,_,_,_,RR,s1.ins h1,T.m.AF,T.m.GG,w_,_,_,RR,RR,?_⟩⟩⟩⟩;have e:decide (((total M:Nat):Int)<2*((forIt M c d:Nat):Int))=El M c d:=by exact decide_eq_decide.mpr (by omega)
 dsimp only;rw[e];exact q H1 s1
def jO{ys:List α}{zs:List V}(r:Aw rel ys zs H):(∀y∈ys.zip zs,rel y.1 y.2 H)/\(ys.zip zs).map (·.2)=zs/\(ys.zip zs).map (·.1)=ys:=by refine⟨λy hy=>?_,List.map_snd_zip (by rw[r.1];exact ae8 _),List.map_fst_zip (by rw[r.1];exact ae8 _)⟩;obtain⟨i,hi⟩:=agg hy;obtain⟨h1,h2⟩:=agx.mp hi;exact r.2 i _ _ h1 h2
def gN{g:β->α}{zs:List V}(r:Aw (λy z H=>rel (g y) z H) ys zs H):Aw rel (ys.map g) zs H:=by refine⟨by rw[r.1,ae1],λk y z a b=>?_⟩;rw[afc]at a;obtain⟨x,hx,rfl⟩:=afL.mp a;exact r.2 k x z hx b
def gK{α:Type}{ys:List α}{zs:List V}(e:(ys.zip zs).map (·.1)=ys)(p:α->Bool):((ys.zip zs).filter λy=>p y.1).map (·.1)=ys.filter p:=by
 conv=>rhs;rw[<-e]
 rw[ag8];rfl
def xV(T:Txt kK mg aD base):AH P w kK mg base 3 aD.Views "unseats" (Uy aD λM c d=>.bl (Ex M c d)):=by
 refine se T.m.K3 cf ?_;rintro bo H vs Q E hr ⟨x,t1,t2,M,c,d,rfl,hV,MZ,Lm,hc,hd,q⟩;obtain⟨dx,sl,sh,ds,zs,pa,h1,h2,h3,h4,h5,h6⟩:=hV.get;obtain⟨c1,c2⟩:=bb.mp hc;refine ag<|bJ 3 cf.sc.nd RR (Or.inr RR)<|fH (jg hr)<|aC<|af 0 ⟨x,_,_,_,_,RR,h1,T.m.AF,T.m.Br,cU,af 1 ⟨ds,_,RR,h5 t1 c hc H (Aa.refl _) MZ,?_⟩⟩;refine ag<|bJ 4 cf.sc.nd RR (Or.inr RR)<|fH (jg hr)<|aC<|af 0 ⟨x,_,_,_,_,RR,h1,T.m.AF,T.m.Br,cU,af 2 ⟨ds,_,RR,h5 t2 d hd H (Aa.refl _) Lm,?_⟩⟩;refine ah<|aj<|kD<|bI (vv RR) RR T.c.RE agT<|aa<|bL (α:=Nat) (j:=5) (f:=λi=>.bl (decide (far M c i<far M d i))) RR cf.sc.nd (aB (by kernel_rfl)) (λ_ _ _ _ _=>cT 5 cf.sc.nd)<|
  vp<|af 1 ⟨t1,RR,⟨_,Cd.of MZ⟩,[c.1,c.2],λ(n:Nat)=>V.int (n:Int),jq (Cd.of MZ),cQ,?_,?_⟩
 ·intro y hy H' sm s0 H0 C cl fp;have G1:y<M.nP:=by
   rcases ae5.mp hy with z|z;·rw[z];exact c1
   ·rw[afm.mp z];exact c2
  refine bh nv (aJ _)<|bg bj<|af 3<|af 5 ⟨pa c,_,_,_,RR,RR,Aj.of (sm _ _ (h6 c hc)),aS (aU (rW G1)),bg bj<|af 4<|af 5 ⟨pa d,_,_,_,RR,RR,Aj.of (sm _ _ (h6 d hd)),aS (aU (rW G1)),_,_,RR,RR,Aa.refl _,?_⟩⟩;exact congrArg V.bl (decide_eq_decide.mpr ahe)
 ·intro D H1 hD s1 e;refine ab ⟨D,[c.1,c.2].map λi=>decide (far M c i<far M d i),RR,by rw[afr];exact Aj.of e,_,RR,?_⟩;have eb:([c.1,c.2].map λi=>decide (far M c i<far M d i)).all id=(decide (far M c c.1<far M d c.1)&&decide (far M c c.2<far M d c.2)):=by simp
  rw[eb];have q:ET H (.bl ((decide (far M c c.1<far M d c.1)&&decide (far M c c.2<far M d c.2))&&El M c d)) Q:=q;refine ite_bool (λhb=>?_) (λhb=>?_);·rw[hb]at q;exact bK (rl T) (hr.mono (by decide)) T.m.AF<|af 0 ⟨x,dx,_,RR,s1.ins h1,by kernel_rfl,aa<|af 1<|aa<|af 2<|ab ⟨x,t1,t2,M,c,d,RR,hV.mono s1,s1.tp MZ,s1.tp Lm,hc,hd,λH2 s2=>q H2 (s1.trans s2)⟩⟩
  ·rw[hb]at q;exact q H1 s1
def Wj(ad:Ad)(ret:Sm->Nat×Nat->List (Nat×Nat)):Sp:=λvs H Q _=>CO λ(x t:Addr) (M:Sm) (d:Nat×Nat)=>B9 (vs=[.ref x,.ref t]) (C9 ad H x M) (H t=some (.tup [.int d.1,.int d.2])) (d∈Ah M) (UK H (ret M d) Q)
def k_(T:Txt kK mg aD base):AH P w kK mg base 4 aD.Views "beaters" (Wj aD BJ):=by
 refine se T.m.K4 eL ?_;rintro bo H vs Q E hr ⟨x,t,M,d,rfl,hV,ht,hd,q⟩;obtain⟨dx,sl,sh,ds,zs,pa,h1,h2,h3,h4,h5,h6⟩:=hV.get;obtain⟨z1,z2,z3⟩:=jO h4;have LX:((Ah M).zip zs).length<=25:=by rw[af5];exact afe (af7 _ _) (bB hV.good)
 refine ah<|aj<|oq (α:=(Nat×Nat)×V) (j:=2) (pr:=λy=>El M y.1 d) (rel:=λy z H=>AQ y.1 z H) RR eL.sc.nd (aB (by kernel_rfl)) (λ_ _ _ _ _=>cT 2 eL.sc.nd) (λy z H H' h s=>aR _ _ _ _ h s)<|
  aQ<|aC<|af 0 ⟨x,_,_,_,_,RR,h1,T.m.AF,T.m.BD,dh,sh,RR,⟨_,Aj.of h3⟩,(Ah M).zip zs,(·.2),az (by rw[z2];exact Aj.of h3),small LX,?_,?_,?_⟩
 ·rintro⟨c,v⟩ hy H' sm s0 H0 C cl fp;obtain⟨tc,e,hc⟩:=z1 _ hy;have e:v= .ref tc:=e;subst e;have Kh:c∈Ah M:=by rw[<-z3];exact afw.mpr ⟨_,hy,RR⟩
  exact bp<|aO<|bK (rl T) (hr.mono (by decide)) T.m.AF<|af 0 ⟨x,dx,_,RR,sm.ins h1,by kernel_rfl,aa<|af 2<|aa<|af 1<|ab ⟨x,tc,t,M,c,d,RR,hV.mono sm,sm.tp hc,sm.tp ht,Kh,hd,λH2 s2=>⟨_,RR,s2,RR⟩⟩⟩
 ·rintro⟨c,v⟩ hy _ D acc H' sm hD s0 H0 C cl fp;obtain⟨tc,e,hc⟩:=z1 _ hy;have e:v= .ref tc:=e;subst e;have EV:H' tc=some (.tup [.int c.1,.int c.2]):=sm.tp hc;exact af 2 ⟨Aa.refl _,tc,RR,cW EV (λz=>by rw[z,hD]at EV;cases EV)⟩
 ·intro D H' ws hD sm eD rel;refine q D ws H' sm hD eD ?_;have:=gN (rel:=AQ) (g:=λy:(Nat×Nat)×V=>y.1) rel;rw[gK z3 (λc=>El M c d)]at this;exact this
def h9(T:Txt kK mg aD base):AH P w kK mg base 4 aD.Views "unseaters" (Wj aD Bb):=by
 refine se T.m.Jf dy ?_;rintro bo H vs Q E hr ⟨x,t,M,d,rfl,hV,ht,hd,q⟩;obtain⟨dx,sl,sh,ds,zs,pa,h1,h2,h3,h4,h5,h6⟩:=hV.get;obtain⟨z1,z2,z3⟩:=jO h4;have LX:((Ah M).zip zs).length<=25:=by rw[af5];exact afe (af7 _ _) (bB hV.good)
 refine ah<|aj<|oq (α:=(Nat×Nat)×V) (j:=2) (pr:=λy=>Ex M y.1 d) (rel:=λy z H=>AQ y.1 z H) RR dy.sc.nd (aB (by kernel_rfl)) (λ_ _ _ _ _=>cT 2 dy.sc.nd) (λy z H H' h s=>aR _ _ _ _ h s)<|
  aQ<|aC<|af 0 ⟨x,_,_,_,_,RR,h1,T.m.AF,T.m.BD,dh,sh,RR,⟨_,Aj.of h3⟩,(Ah M).zip zs,(·.2),az (by rw[z2];exact Aj.of h3),small LX,?_,?_,?_⟩
 ·rintro⟨c,v⟩ hy H' sm s0 H0 C cl fp;obtain⟨tc,e,hc⟩:=z1 _ hy;have e:v= .ref tc:=e;subst e;have Kh:c∈Ah M:=by rw[<-z3];exact afw.mpr ⟨_,hy,RR⟩
  exact bp<|aO<|bK (xV T) (hr.mono (by decide)) T.m.AF<|af 0 ⟨x,dx,_,RR,sm.ins h1,by kernel_rfl,aa<|af 2<|aa<|af 1<|ab ⟨x,tc,t,M,c,d,RR,hV.mono sm,sm.tp hc,sm.tp ht,Kh,hd,λH2 s2=>⟨_,RR,s2,RR⟩⟩⟩
 ·rintro⟨c,v⟩ hy _ D acc H' sm hD s0 H0 C cl fp;obtain⟨tc,e,hc⟩:=z1 _ hy;have e:v= .ref tc:=e;subst e;have EV:=sm.tp hc;exact af 2 ⟨Aa.refl _,tc,RR,cW EV (λz=>by rw[z,hD]at EV;cases EV)⟩
 ·intro D H' ws hD sm eD rel;refine q D ws H' sm hD eD ?_;have:=gN (rel:=AQ) (g:=λy:(Nat×Nat)×V=>y.1) rel;rw[gK z3 (λc=>Ex M c d)]at this;exact this
def Qz(ad:Ad):Sp:=λvs H Q _=>BL λ(x:Addr) (M:Sm) (i:Nat)=>BO (vs=[.ref x,.int i]) (C9 ad H x M) (i<M.nP) (ET H (.bl (D6 M i)) Q)
def tf(T:Txt kK mg aD base):AH P w kK mg base 5 aD.Views "is_strong" (Qz aD):=by
 refine se T.m.Jh dz ?_;rintro bo H vs Q E hr ⟨x,M,i,rfl,hV,hi,q⟩;obtain⟨dx,sl,sh,ds,zs,pa,h1,_⟩:=hV.get;refine ah<|aj<|bI (vv RR) RR T.c.RE agT<|aa<|bL (α:=(Nat×Nat)×V) (j:=2) (f:=λy=>.bl (y.1.1==i||y.1.2==i)) RR dz.sc.nd (aB (by kernel_rfl)) (λ_ _ _ _ _=>cT 2 dz.sc.nd)<|
  aQ<|bK (k_ T) (hr.mono (by decide)) T.m.AF<|af 0 ⟨x,dx,_,RR,h1,by kernel_rfl,aa<|bT<|aa<|af 1<|aa<|af 1<|ab ⟨cQ,λt ht=>ab ⟨x,t,M,(i,i),RR,hV.mono (Aa.ax ht),ae,bb.mpr ⟨hi,hi⟩,λp ws H1 s1 hp e1 r1=>?_⟩⟩⟩;obtain⟨z1,z2,z3⟩:=jO r1;have LX:((BJ M (i,i)).zip ws).length<=25:=by rw[af5];exact afe (af7 _ _) (afe (afh _ _) (bB hV.good))
 refine⟨p,RR,⟨_,Aj.of e1⟩,(BJ M (i,i)).zip ws,(·.2),az (by rw[z2];exact Aj.of e1),small LX,?_,?_⟩;·rintro⟨c,v⟩ hy H' sm s0 H0 C cl fp;obtain⟨tc,e,hc⟩:=z1 _ hy;have e:v= .ref tc:=e;subst e;refine bh k0 (by with_unfolding_all rfl)<|af 1<|af 2 ⟨tc,_,RR,.inr (Cd.of (sm.tp hc)),RR,RR,Aa.refl _,?_⟩;rw[if_neg ae0];show V.bl (UW (.int (i:Int)) (nums [c.1,c.2]))=_;rw[gh];refine congrArg V.bl ?_;rw[afb,age];simp;exact⟨λz=>z.elim (λe=>.inl e.symm) λe=>.inr e.symm,λz=>z.elim (λe=>.inl e.symm) λe=>.inr e.symm⟩
 ·intro D H' hD sm e;refine ab ⟨D,((BJ M (i,i)).zip ws).map λy=>y.1.1==i||y.1.2==i,RR,by rw[afr];exact Aj.of e,?_⟩;have eb:(((BJ M (i,i)).zip ws).map λy=>y.1.1==i||y.1.2==i).all id=D6 M i:=by
   unfold D6;conv=>rhs;rw[<-z3]
   rw[ahF,ahF];rfl
  rw[eb];exact q H' ((Aa.ax ht).trans (s1.trans sm))
def ft{p pos:Pos}(T:Txt X.K X.mg aD X.base)(hr:Bm 3 X.A)(hg:Gl X "Views")(h:Ev X e σ H λv H1=>∃(a:Addr) (M:Sm),v= .ref a/\Ai aD H1 a M/\∀x H',H1 x=none->Aa H1 H'->C9 aD H' x M->Q (.ref x) H')
  (he:starEach [e] X.env=(false,eval e X.env)::starEach [] X.env:=by rfl)(B8:(backTo pos (starEach [] X.env)).any (·.1)=false:=by rfl):Ev X (.Call (.Name "Views" p) [e] [] pos) σ H Q:=
 kr (rB T) hr hg T.m.Tc (aa (h.mono λv H1 ⟨a,M,ev,hS,q⟩=>ab λx dx hx hd AW=>⟨x,dx,a,M,by rw[ev],ae,hS.mono (cV hx hd),λH' s' hV=>⟨RR,q x H' hx ((cV hx hd).trans s') hV⟩⟩) he) (by decide) he B8
def Y3(ad:Ad)(Fp:Sm->Nat->Nat->Nat->Nat->Am):Sp:=λvs H Q _=>Qi λ(a v:Addr) (M:Sm) (i j k l:Nat)=>Ox (vs=[.ref a,.ref v]) (Ai ad H a M) (H v=some (.lst [.int i,.int j,.int k,.int l])) (i<M.nP) (j<M.nP) (k<M.nP) (l<M.nP) (C6 H ((Fp M i j k l).map V.int) Q)
def J8(M:Sm)(i j k l:Nat):Am:=[if El M (i,j) (k,l)then 1 else 0,(forIt M (i,j) (k,l):Nat),(forIt M (k,l) (i,j):Nat)]
def oN(T:Txt kK mg aD base):Bx P w T 4 "answer_beats" (Y3 aD J8):=by refine bt T.d.Md dw ?_;rintro bo H vs Q E hr ⟨a,v,M,i,j,k,l,rfl,hS,hv,hi,hj,hk,hl,q⟩;refine ag<|aP 2 dw.sc.nd<|ft T (hr.mono (by decide)) RR<|af 0 ⟨a,M,RR,hS,λx H1 hx s1 hV=>?_⟩;refine ag<|aP 3 dw.sc.nd<|bT<|aa<|aH 1 0 (s1.lst hv) RR<|aa<|aH 1 1 (s1.lst hv) RR<|ab ⟨cQ,λt1 MZ=>?_⟩;have s2:=s1.aL (o:=.tup [.int i,.int j]) (s1.free MZ) (aM MZ);have hV2:=hV.mono (Aa.ax (o:=.tup [.int i,.int j]) MZ);have e2:upd H1 t1 (.tup [.int (i:Int),.int (j:Int)]) t1=some (.tup [.int i,.int j]):=ae;generalize upd H1 t1 (.tup [.int (i:Int),.int (j:Int)])=H2 at*;refine ag<|aP 4 dw.sc.nd<|bT<|aa<|aH 1 2 (s2.lst hv) RR<|aa<|aH 1 3 (s2.lst hv) RR<|ab ⟨cQ,λt2 Lm=>?_⟩;have s3:=s2.aL (o:=.tup [.int k,.int l]) (s2.free Lm) (aM Lm);have Yn:=hV2.mono (Aa.ax (o:=.tup [.int k,.int l]) Lm);have e3:upd H2 t2 (.tup [.int (k:Int),.int (l:Int)]) t1=some (.tup [.int i,.int j]):=Aa.tp (Aa.ax Lm) e2;have f3:upd H2 t2 (.tup [.int (k:Int),.int (l:Int)]) t2=some (.tup [.int k,.int l]):=ae;obtain⟨dx,sl,sh,ds,Jk,pa,h1,_⟩:=Yn.get;have m1:(i,j)∈Ah M:=bb.mpr ⟨hi,hj⟩;have m2:(k,l)∈Ah M:=bb.mpr ⟨hk,hl⟩;refine ah<|aj<|ay<|aa<|ao (fK T) hr<|bK (rl T) (hr.mono (by decide)) T.m.AF<|af 2 ⟨x,dx,_,RR,h1,by kernel_rfl,aa<|af 3<|aa<|af 4<|ab ⟨x,t1,t2,M,(i,j),(k,l),RR,Yn,e3,f3,m1,m2,λH4 s4=>ab ⟨_,RR,?_⟩⟩⟩;refine aa<|bK (h_ T) (hr.mono (by decide)) T.m.AF<|af 2 ⟨x,dx,_,RR,s4.ins h1,by kernel_rfl,aa<|af 3<|aa<|af 4<|ab ⟨x,t1,t2,M,(i,j),(k,l),RR,Yn.mono s4,s4.tp e3,s4.tp f3,m1,m2,λH5 s5=>?_⟩⟩;have Wu:=s4.trans s5;refine aa<|bK (h_ T) (hr.mono (by decide)) T.m.AF<|af 2 ⟨x,dx,_,RR,Wu.ins h1,by kernel_rfl,aa<|af 4<|aa<|af 3<|ab ⟨x,t2,t1,M,(k,l),(i,j),RR,Yn.mono Wu,Wu.tp f3,Wu.tp e3,m2,m1,λH6 s6=>ab ⟨sy,λr hr=>?_⟩⟩⟩;have sA:=s3.trans (Wu.trans s6);exact q r _ (sA.aL (sA.free hr) (aM hr)) (sA.free hr) ae
def J9(M:Sm)(i j:Nat):Am:=FO (BJ M (i,j))
def Hv(M:Sm)(i j:Nat):Am:=FO (Bb M (i,j))
def kQ(h:Good M)(p:Nat×Nat->Bool):((Ah M).filter p).length<=1000:=afe (afh _ _) (afe (bB h) (by decide))
def lQ(T:Txt kK mg aD base):Bx P w T 5 "answer_beaters" (QQ aD J9):=by refine bt T.d.J3 lB ?_;rintro bo H vs Q E hr ⟨a,v,M,i,j,rfl,hS,hv,hi,hj,q⟩;refine ah<|aj<|ao (bA T) hr<|bK (k_ T) (hr.mono (by decide)) T.m.AF<|ft T (hr.mono (by decide)) RR<|af 0 ⟨a,M,RR,hS,λx H1 hx s1 hV=>?_⟩;obtain⟨dx,sl,sh,ds,Jk,pa,h1,_⟩:=hV.get;refine⟨x,dx,_,RR,h1,by kernel_rfl,aa<|bT<|aa<|aH 1 0 (s1.lst hv) RR<|aa<|aH 1 1 (s1.lst hv) RR<|ab ⟨cQ,λt ht=>ab ⟨x,t,M,(i,j),RR,hV.mono (Aa.ax ht),ae,bb.mpr ⟨hi,hj⟩,λp ws H2 s2 hp e2 r2=>ab ⟨p,_,ws,RR,e2,r2,kQ hS.good _,λr H3 s3 hr e3=>?_⟩⟩⟩⟩;have sA:=s1.trans ((Aa.ax ht).trans s2);exact q r H3 (sA.trans s3) (sA.free hr) e3
def jL(T:Txt kK mg aD base):Bx P w T 5 "answer_unseaters" (QQ aD Hv):=by refine bt T.d.HX jD ?_;rintro bo H vs Q E hr ⟨a,v,M,i,j,rfl,hS,hv,hi,hj,q⟩;refine ah<|aj<|ao (bA T) hr<|bK (h9 T) (hr.mono (by decide)) T.m.AF<|ft T (hr.mono (by decide)) RR<|af 0 ⟨a,M,RR,hS,λx H1 hx s1 hV=>?_⟩;obtain⟨dx,sl,sh,ds,Jk,pa,h1,_⟩:=hV.get;refine⟨x,dx,_,RR,h1,by kernel_rfl,aa<|bT<|aa<|aH 1 0 (s1.lst hv) RR<|aa<|aH 1 1 (s1.lst hv) RR<|ab ⟨cQ,λt ht=>ab ⟨x,t,M,(i,j),RR,hV.mono (Aa.ax ht),ae,bb.mpr ⟨hi,hj⟩,λp ws H2 s2 hp e2 r2=>ab ⟨p,_,ws,RR,e2,r2,kQ hS.good _,λr H3 s3 hr e3=>?_⟩⟩⟩⟩;have sA:=s1.trans ((Aa.ax ht).trans s2);exact q r H3 (sA.trans s3) (sA.free hr) e3
def len0{α:Type}(l:List V)(ps:List α)(e:l.length=ps.length):decide (V.int (l.length:Int)=V.int 0)=(ps.length==0):=by grind
def OT(M:Sm):Am:=FO ((Ah M).filter λd=>(BJ M d).length==0)
def J7(M:Sm):Am:=FO ((Ah M).filter λd=>(Bb M d).length==0)
def pU(T:Txt kK mg aD base):Bx P w T 5 "answer_calm" (GJ aD OT):=by
 refine bt T.d.Nq dJ ?_;rintro bo H vs Q E hr ⟨a,v,M,l,rfl,hS,hv,q⟩;refine ag<|bJ 2 dJ.sc.nd RR (Or.inr RR)<|ft T (hr.mono (by decide)) RR<|af 0 ⟨a,M,RR,hS,λx H1 hx s1 hV=>?_⟩;obtain⟨dx,sl,sh,ds,Jk,pa,h1,h2,h3,h4,h5,h6⟩:=hV.get;obtain⟨z1,z2,z3⟩:=jO h4;have LX:((Ah M).zip Jk).length<=25:=by rw[af5];exact afe (af7 _ _) (bB hV.good)
 refine ah<|aj<|ao (bA T) hr<|oq (α:=(Nat×Nat)×V) (j:=3) (pr:=λy=>(BJ M y.1).length==0) (rel:=λy z H=>AQ y.1 z H) RR dJ.sc.nd (aB (by kernel_rfl)) (λ_ _ _ _ _=>cT 3 dJ.sc.nd) (λy z H H' h s=>aR _ _ _ _ h s)<|
  aQ<|aC<|af 2 ⟨x,_,_,_,_,RR,h1,T.m.AF,T.m.BD,dh,sh,RR,⟨_,Aj.of h3⟩,(Ah M).zip Jk,(·.2),az (by rw[z2];exact Aj.of h3),small LX,?_,?_,?_⟩
 ·rintro⟨c,v'⟩ hy H' sm s0 H0 C cl fp;obtain⟨tc,e,hc⟩:=z1 _ hy;have e:v'= .ref tc:=e;subst e;have Kh:c∈Ah M:=by rw[<-z3];exact afw.mpr ⟨_,hy,RR⟩
  refine bp<|aV bO (aJ _)<|aX RR T.c.AV<|bK (k_ T) (hr.mono (by decide)) T.m.AF<|af 2 ⟨x,dx,_,RR,sm.ins h1,by kernel_rfl,aa<|af 3<|ab ⟨x,tc,M,c,RR,hV.mono sm,sm.tp hc,Kh,λp ws H2 s2 hp e2 r2=>⟨p,ws,RR,Aj.of e2,aG ⟨RR,_,RR,s2,len0 ws (BJ M c) r2.1⟩⟩⟩⟩
 ·rintro⟨c,v'⟩ hy _ D acc H' sm hD s0 H0 C cl fp;obtain⟨tc,e,hc⟩:=z1 _ hy;have e:v'= .ref tc:=e;subst e;have EV:H' tc=some (.tup [.int c.1,.int c.2]):=sm.tp hc;exact af 3 ⟨Aa.refl _,tc,RR,cW EV (λz=>by rw[z,hD]at EV;cases EV)⟩
 ·intro D H2 ws hD s2 eD rel;have r:=gN (rel:=AQ) (g:=λy:(Nat×Nat)×V=>y.1) rel;rw[gK z3 (λc=>(BJ M c).length==0)]at r;refine ab ⟨D,_,ws,RR,eD,r,kQ hS.good _,λr' H3 s3 I0 e3=>?_⟩;have sA:=s1.trans s2;exact q r' H3 (sA.trans s3) (sA.free I0) e3
def lO(T:Txt kK mg aD base):Bx P w T 5 "answer_holding" (GJ aD J7):=by
 refine bt T.d.J1 cN ?_;rintro bo H vs Q E hr ⟨a,v,M,l,rfl,hS,hv,q⟩;refine ag<|bJ 2 cN.sc.nd RR (Or.inr RR)<|ft T (hr.mono (by decide)) RR<|af 0 ⟨a,M,RR,hS,λx H1 hx s1 hV=>?_⟩;obtain⟨dx,sl,sh,ds,Jk,pa,h1,h2,h3,h4,h5,h6⟩:=hV.get;obtain⟨z1,z2,z3⟩:=jO h4;have LX:((Ah M).zip Jk).length<=25:=by rw[af5];exact afe (af7 _ _) (bB hV.good)
 refine ah<|aj<|ao (bA T) hr<|oq (α:=(Nat×Nat)×V) (j:=3) (pr:=λy=>(Bb M y.1).length==0) (rel:=λy z H=>AQ y.1 z H) RR cN.sc.nd (aB (by kernel_rfl)) (λ_ _ _ _ _=>cT 3 cN.sc.nd) (λy z H H' h s=>aR _ _ _ _ h s)<|
  aQ<|aC<|af 2 ⟨x,_,_,_,_,RR,h1,T.m.AF,T.m.BD,dh,sh,RR,⟨_,Aj.of h3⟩,(Ah M).zip Jk,(·.2),az (by rw[z2];exact Aj.of h3),small LX,?_,?_,?_⟩
 ·rintro⟨c,v'⟩ hy H' sm s0 H0 C cl fp;obtain⟨tc,e,hc⟩:=z1 _ hy;have e:v'= .ref tc:=e;subst e;have Kh:c∈Ah M:=by rw[<-z3];exact afw.mpr ⟨_,hy,RR⟩
  refine bp<|aV bO (aJ _)<|aX RR T.c.AV<|bK (h9 T) (hr.mono (by decide)) T.m.AF<|af 2 ⟨x,dx,_,RR,sm.ins h1,by kernel_rfl,aa<|af 3<|ab ⟨x,tc,M,c,RR,hV.mono sm,sm.tp hc,Kh,λp ws H2 s2 hp e2 r2=>⟨p,ws,RR,Aj.of e2,aG ⟨RR,_,RR,s2,len0 ws (Bb M c) r2.1⟩⟩⟩⟩
 ·rintro⟨c,v'⟩ hy _ D acc H' sm hD s0 H0 C cl fp;obtain⟨tc,e,hc⟩:=z1 _ hy;have e:v'= .ref tc:=e;subst e;have EV:H' tc=some (.tup [.int c.1,.int c.2]):=sm.tp hc;exact af 3 ⟨Aa.refl _,tc,RR,cW EV (λz=>by rw[z,hD]at EV;cases EV)⟩
 ·intro D H2 ws hD s2 eD rel;have r:=gN (rel:=AQ) (g:=λy:(Nat×Nat)×V=>y.1) rel;rw[gK z3 (λc=>(Bb M c).length==0)]at r;refine ab ⟨D,_,ws,RR,eD,r,kQ hS.good _,λr' H3 s3 I0 e3=>?_⟩;have sA:=s1.trans s2;exact q r' H3 (sA.trans s3) (sA.free I0) e3
def H_(M:Sm):Am:=cnt ((List.range M.nP).filter (D6 M))
def my(T:Txt kK mg aD base):Bx P w T 6 "answer_strong" (GJ aD H_):=by
 refine bt T.d.KS cZ ?_;rintro bo H vs Q E hr ⟨a,v,M,l,rfl,hS,hv,q⟩;unfold H_ at q;rw[bW]at q;refine ag<|bJ 2 cZ.sc.nd RR (Or.inr RR)<|ft T (hr.mono (by decide)) RR<|af 0 ⟨a,M,RR,hS,λx H1 hx s1 hV=>?_⟩;obtain⟨dx,sl,sh,ds,Jk,pa,h1,_⟩:=hV.get;obtain⟨dx2,pl,ll,hl,ho,ps,S⟩:=(hS.mono s1).ex;refine ah<|aj<|ao (bF T) hr<|dG (α:=Nat) (j:=3) (pr:=D6 M) (f:=λi=>.int (i:Nat)) RR cZ.sc.nd (aB (by kernel_rfl)) (λ_ _ _ _ _=>cT 3 cZ.sc.nd)<|
  cn RR T.c.Ck<|aa<|aX RR T.c.AV<|aE 0 S T T.m.Ac aI ⟨_,_,RR,Aj.of S.pl,ab ⟨_,RR,?_,_,_,bu,?_,?_,?_,?_⟩⟩;·rw[ae1,S.len];have:=hS.good.n5;omega
 ·rw[afi,ae1,S.len];exact small hS.good.n5
 ·intro y hy H' sm s0 H0 C cl fp;have G1:y<M.nP:=by have:=afD.mp hy;rw[ae1,S.len]at this;exact this
  exact bp<|aO<|bK (tf T) (hr.mono (by decide)) T.m.AF<|af 2 ⟨x,dx,_,RR,sm.ins h1,by kernel_rfl,aa<|af 3<|ab ⟨x,M,y,RR,hV.mono sm,G1,λH2 s2=>⟨_,RR,s2,RR⟩⟩⟩
 ·intro y hy _ H' sm s0 H0 C cl fp;exact af 3 ⟨Aa.refl _,RR⟩
 ·intro D H2 hD s2 e;have e':H2 D=some (.lst (nums ((List.range M.nP).filter (D6 M)))):=by rw[e,ae1,S.len];rfl
  refine ab ⟨D,_,RR,e',?_,λr H3 s3 hr e3=>?_⟩;·rw[aq];have h1:((List.range M.nP).filter (D6 M)).length<=(List.range M.nP).length:=afh _ _;rw[afi]at h1;have:=hS.good.n5;omega
  ·rw[aq]at e3;have sA:=s1.trans s2;exact q r H3 (sA.trans s3) (sA.free hr) e3
def J5(M:Sm):Am:=FO ((Ah M).filter λc=>Be M c.1 0&&Be M c.2 1)
def lN(T:Txt kK mg aD base):Bx P w T 3 "answer_middles" (GJ aD J5):=by
 refine bt T.d.J0 dE ?_;rintro bo H vs Q E hr ⟨a,v,M,l0,rfl,hS,hv,q⟩;refine ag<|aP 2 dE.sc.nd<|ay<|ab ⟨afk _,λl hl=>?_⟩;have s0:Aa H (upd H l (.lst [])):=Aa.ax hl;refine ag<|dH RR (cT 3 dE.sc.nd)<|aQ<|ao (gR T) hr<|af 0<|ab ⟨a,M,RR,hS.mono s0,λp Jk H1 s1 hp e1 r1=>⟨p,RR,⟨_,Aj.of e1⟩,?_⟩⟩;have Zp:p≠l:=λz=>by rw[z,ae]at hp;cases hp
 refine gw (Hb:=LG p Jk) (xs:=List.range Jk.length) (pX (Aj.of mN)) (λi σ H'=>∃v3 ws,σ=[some (.ref a),some (.ref v),some (.ref l),v3]/\Aa H H'/\H' p=some (.lst Jk)/\Aw AQ (Ah M) Jk H'/\H' l=some (.lst ws)/\Aw AQ (((Ah M).take i).filter λc=>Be M c.1 0&&Be M c.2 1) ws H')
  ⟨none,[],RR,s0.trans s1,e1,r1,s1.lst ae,fB⟩ (λi σ H' ⟨_,_,_,_,e,_⟩=>mL e) ?_ ?_
 ·rintro i y x σ H2 H3 hy ⟨v3,ws,rfl,s2,e2,r2,el,UI⟩ s3 hx;have hi:i<Jk.length:=by have:=(ae3.mp hy).1;simpa using this
  have ey:y=i:=by rw[afH hi]at hy;exact(ae2 hy).symm
  subst ey;have JA:=s2.trans s3;obtain⟨c,hc,tc,rfl,VR⟩:=e_ r2 hx;obtain⟨c1,c2⟩:=bb.mp (afa hc);have WW:H3 tc=some (.tup [.int c.1,.int c.2]):=s3.tp VR;have el3:=s3.lst el;rw[a_ hc,de];refine ah<|aW<|kF<|aO<|ao (iH T) hr<|af 0<|aa<|bg cR<|af 3<|au T.c.FIRST RR ⟨tc,_,_,_,RR,RR,Cd.of WW,aS (j:=0) RR,aa<|au T.c.FIRST RR<|ab ⟨a,M,c.1,0,RR,hS.mono JA,c1,by decide,λH4 s4=>⟨_,RR,?_⟩⟩⟩;have wl:ws.length<sizeLine:=by rw[UI.1];refine afl (afh _ _) ?_;rw[afJ];exact afl (agV _ _) (afl (bB hS.good) (by decide))
  cases h1:Be M c.1 0 with
  |false=>rw[if_neg ae0,if_neg ae0];have Pk:=s3.trans s4;exact aA ⟨_,ws,RR,JA.trans s4,Pk.lst e2,aZ aR r2 Pk,Pk.lst el,by simpa using aZ aR UI Pk⟩
  |true=>
   rw[if_pos RR];refine aO<|ao (iH T) hr<|af 0<|aa<|bg cR<|af 3<|au T.c.Oj RR ⟨tc,_,_,_,RR,RR,Cd.of (s4.tp WW),aS (j:=1) RR,aa<|au T.c.Oj RR<|ab ⟨a,M,c.2,1,RR,(hS.mono JA).mono s4,c2,by decide,λH5 s5=>⟨_,RR,?_⟩⟩⟩;have QW:=s3.trans (s4.trans s5);cases h2:Be M c.2 1 with
   |false=>rw[if_neg ae0];exact aA ⟨_,ws,RR,s2.trans QW,QW.lst e2,aZ aR r2 QW,QW.lst el,by simpa using aZ aR UI QW⟩
   |true=>
    rw[if_pos RR];have Tf:=QW.lst el;refine ah<|bV<|af 2 ⟨l,ws,RR,Tf,af 3 ⟨ws,Tf,wl,⟨_,ws++[.ref tc],RR,(s2.trans QW).aL hl (aw Tf RR),?_,?_,ae,?_⟩⟩⟩;·rw[ai Zp];exact QW.lst e2
    ·have:=aZ aR r2 QW;exact⟨this.1,λk' y' z' a' b'=>hZ (this.2 k' y' z' a' b') Tf⟩
    ·rw[show(if(true&&true)=true then[c]else[])=[c]from rfl];have:=fL (aZ aR UI QW) (show AQ c (.ref tc) H5 from⟨tc,RR,QW.tp VR⟩);exact⟨this.1,λk' y' z' a' b'=>hZ (this.2 k' y' z' a' b') Tf⟩
 ·rintro σ H2 ⟨v3,ws,rfl,s2,e2,r2,el,UI⟩;rw[afi,r1.1,afX]at UI;refine ah<|aj<|ao (bA T) hr<|af 2<|ab ⟨l,_,ws,RR,el,UI,kQ hS.good _,λr H3 s3 hr e3=>?_⟩;exact q r H3 (s2.trans s3) (s2.free hr) e3
def OS(M:Sm)(i j:Nat):Am:=FO (chainOf (Bb M) 26 [(i,j)] (i,j))
def pS(T:Txt kK mg aD base):Bx P w T 8 "answer_fall" (QQ aD OS):=by
 refine mkL T.l.Dd ji (λvs H Q E h=>?_) (λf c A outer s H vs Q E hh hr h=>?_);·obtain⟨a,v,M,i,j,rfl,_⟩:=h;rfl
 ·obtain⟨a,v,M,i,j,rfl,hS,hv,hi,hj,q⟩:=h;have hG:=hS.good;refine ag<|bJ 2 ji.sc.nd RR (Or.inr RR)<|ft T (hr.mono (by decide)) RR<|af 0 ⟨a,M,RR,hS,λx H1 hx s1 hV=>?_⟩;refine ah<|aj<|ao (bA T) hr<|t8 (wU (α:=Nat×Nat) (k:=5) (N:=26) (rel:=AQ) T aR (λy z H l xs ys h hl=>hZ h hl) λX hu=>abS hu) (hr.mono (by decide)) RR<|aa<|bT<|aa<|aH 1 0 (s1.lst hv) RR<|aa<|aH 1 1 (s1.lst hv) RR<|ab ⟨cQ,λt ht=>aa<|
   rQ (x:="sharing") (names:=["views"]) (c:=c) (P:=aD.Cs) ⟨RR,fh (sc:=Ap B2) (λ_=>rfl) (by kernel_rfl),by kernel_rfl,⟨RR,RR,RR,by decide+kernel,by kernel_rfl,by decide+kernel,by decide+kernel⟩,λ_ _ _ _ _ _=>by kernel_rfl⟩ ⟨RR,hh,T.l.bm⟩ ((hS.mono s1).mono (Aa.ax ht)).tabs.fall λlf H2 hlf s2 SR=>ab λpins sh I=>⟨.ref t,lf,(i,j),Bb M,Ah M,RR,⟨t,RR,s2.tp ae⟩,bb.mpr ⟨hi,hj⟩,afl (bB hG) (by decide),by decide,λy hy z hz=>(afp.mp hz).1,⟨?_,?_⟩,?_⟩⟩;·obtain⟨c',pm,L6,e1,_⟩:=SR;exact⟨_,⟨_,RR⟩,e1⟩
  ·intro A' LF s' H' u v' y Q' I0 e0 Cq kc ru rel ZI cont;obtain⟨ty,rfl,OH⟩:=rel;have C1:=(Aa.ax ht).trans (s2.trans Cq);refine nM (k:=4) (x:="sharing") (names:=["views"]) (vs:=[.ref x]) ⟨RR,fh (sc:=Ap B2) (λ_=>rfl) (by kernel_rfl),by kernel_rfl,⟨RR,RR,RR,by decide+kernel,by kernel_rfl,by decide+kernel,by decide+kernel⟩,λ_ _ _ _ _ _=>by kernel_rfl⟩ I0 e0 RR (SR.mono Cq) (kc.yF (I.yF (df<|cP 2 iD))) ru ?_;intro c' A2 UN s2' cl2 Qn;obtain⟨dx,sl,sh',ds,Jk,pa,h1,_⟩:=(hV.mono C1).get;refine bK (h9 T) (Qn.mono (by decide)) T.m.AF<|af 1 ⟨x,dx,_,RR,h1,by kernel_rfl,aa<|af 0<|ab ⟨x,ty,M,y,RR,hV.mono C1,OH,ZI,λp ws H3 s3 hp e3 r3=>cont p ws H3 s3 hp e3 r3⟩⟩
  ·intro c' ws H' Cq EV Xq Wx;have:=iC (Bb M) 26 [(i,j)] (i,j);refine ab ⟨c',_,ws,RR,Xq,Wx,by omega,λr H4 s4 ZV e4=>?_⟩;have sA:=s1.trans ((Aa.ax ht).trans (s2.trans Cq));exact q r H4 (sA.trans s4) (sA.free ZV) e4
structure AD(ad:Ad)(Hb H:Hp)(a:Addr)(M:Sm):Prop where
 ex:∃(dx pl ll hl ho:Addr) (ps:Ax),BV ad H a dx pl ll hl ho ps M/\Hb pl=none/\Hb ll=none/\Hb hl=none/\pl≠ll/\pl≠hl/\ll≠hl/\pl≠ho/\ll≠ho/\(hl≠ho/\Hb ho=none)
 fr:Hb a=none
 good:Good M
 Dx:Aa Hb H
 tabs:Hy ad Hb
def AD.at_(h:AD aD Hb H a M):Ai aD H a M:=by obtain⟨dx,pl,ll,hl,ho,ps,S,_⟩:=h.ex;exact⟨⟨dx,pl,ll,hl,ho,ps,S⟩,h.good,h.tabs.mono h.Dx⟩
def AD.mono(h:AD aD Hb H a M)(s:Aa H H'):AD aD Hb H' a M:=by obtain⟨dx,pl,ll,hl,ho,ps,S,r⟩:=h.ex;exact⟨⟨dx,pl,ll,hl,ho,ps,S.mono s,r⟩,h.fr,h.good,h.Dx.trans s,h.tabs⟩
def B6:Option HO->Prop
 |none=>True
 |some (.lst _)=>True
 |some (.ins _ _ fs)=>fs.length≠4
 |_=>False
def BB.upd(h:BB aD H p q)(hx:B6 (H x)):BB aD (upd H x o) p q:=by
 obtain⟨dx,tw,tc,tx,h1,h2,h3,h4⟩:=h.ex;have n1:p≠x:=λz=>by rw[<-z,h1]at hx;exact hx RR
 have n2:tw≠x:=λz=>by rw[<-z,h2]at hx;exact hx
 have n3:tc≠x:=λz=>by rw[<-z,h3]at hx;exact hx
 have n4:tx≠x:=λz=>by rw[<-z,h4]at hx;exact hx
 exact⟨dx,tw,tc,tx,by rw[ai n1];exact h1,by rw[ai n2];exact h2,by rw[ai n3];exact h3,by rw[ai n4];exact h4⟩
def gE:AO "cabinet" (.int (c':Nat)) (F9 r m pl ll hl c ho)=F9 r m pl ll hl c' ho:=by kernel_rfl
def gD:AO "holders" (.ref HQ) (F9 r m pl ll hl c ho)=F9 r m pl ll hl c HQ:=by kernel_rfl
def BV.ne{pl ll hl ho:Addr}(S:BV aD H a dx pl ll hl ho ps M):a≠pl/\a≠ll/\a≠hl/\a≠ho:=
 ⟨gd S.obj S.pl (by intro q;cases q),gd S.obj S.ll (by intro q;cases q),gd S.obj S.hl (by intro q;cases q),gd S.obj S.ho (by intro q;cases q)⟩
def BV.cab{pl ll hl ho:Addr}(S:BV aD H a dx pl ll hl ho ps M)(g:Nat):BV aD (upd H a (.ins aD.State dx (F9 M.rule M.offices pl ll hl g ho))) a dx pl ll hl ho ps {M with Af:=g}:=by obtain⟨n1,n2,n3,n4⟩:=S.ne;exact⟨ae,by rw[ai (afA n1)];exact S.pl,by rw[ai (afA n2)];exact S.ll,by rw[ai (afA n3)];exact S.hl,by rw[ai (afA n4)];exact S.ho,S.len,λi p q h1 h2=>(S.at_ i p q h1 h2).upd (by rw[S.obj];exact(by show 7≠4;decide))⟩
def BV.hold{pl ll hl ho:Addr}(S:BV aD H a dx pl ll hl ho ps M)(e:H h'=some (.lst (nums hs))):BV aD (upd H a (.ins aD.State dx (F9 M.rule M.offices pl ll hl M.Af h'))) a dx pl ll hl h' ps {M with holders:=hs}:=by obtain⟨n1,n2,n3,n4⟩:=S.ne;have n5:=gd S.obj e (by intro q;cases q);exact⟨ae,by rw[ai (afA n1)];exact S.pl,by rw[ai (afA n2)];exact S.ll,by rw[ai (afA n3)];exact S.hl,by rw[ai (afA n5)];exact e,S.len,λi p q h1 h2=>(S.at_ i p q h1 h2).upd (by rw[S.obj];exact(by show 7≠4;decide))⟩
def BV.rm{pl ll hl ho:Addr}(S:BV aD H a dx pl ll hl ho ps M)(n1:pl≠ll)(n2:ll≠hl)(n3:ll≠ho)(l:Ae):BV aD (upd H ll (.lst (nums l))) a dx pl ll hl ho ps {M with likes:=l}:=
 ⟨by rw[ai S.ne.2.1];exact S.obj,by rw[ai n1];exact S.pl,ae,by rw[ai (afA n2)];exact S.hl,by rw[ai (afA n3)];exact S.ho,S.len,λi p q h1 h2=>(S.at_ i p q h1 h2).upd (by rw[S.ll];trivial)⟩
def BV.gO{pl ll hl ho:Addr}(S:BV aD H a dx pl ll hl ho ps M)(n1:pl≠hl)(n2:ll≠hl)(n3:hl≠ho)(l:Ae):BV aD (upd H hl (.lst (nums l))) a dx pl ll hl ho ps {M with hates:=l}:=
 ⟨by rw[ai S.ne.2.2.1];exact S.obj,by rw[ai n1];exact S.pl,by rw[ai n2];exact S.ll,ae,by rw[ai (afA n3)];exact S.ho,S.len,λi p q h1 h2=>(S.at_ i p q h1 h2).upd (by rw[S.hl];trivial)⟩
def BV.par{pl ll hl ho:Addr}(S:BV aD H a dx pl ll hl ho ps M)(n1:pl≠ll)(n2:pl≠hl)(n3:pl≠ho)(hl':ps'.length=qs.length)(h:∀(i:Nat) p q,ps'[i]? =some p->qs[i]? =some q->BB aD H p q):BV aD (upd H pl (.lst (ps'.map V.ref))) a dx pl ll hl ho ps' {M with parties:=qs}:=
 ⟨by rw[ai S.ne.1];exact S.obj,ae,by rw[ai (afA n1)];exact S.ll,by rw[ai (afA n2)];exact S.hl,by rw[ai (afA n3)];exact S.ho,hl',λi p q h1 h2=>(h i p q h1 h2).upd (by rw[S.pl];trivial)⟩
noncomputable def gone(M:Sm):Sm:={M with Af:=0,holders:=[]}
def BF(M:Sm):Sm×Am:=if M.Af=0\/stands M M.Af=true then(M,[0])else(gone M,[1])
def CQ(M:Sm)(g:Nat):Sm:={M with Af:=g,holders:=hold {M with Af:=g} g 0}
def Good.gone(h:Good M):Good (gone M):=⟨h.rule,h.m1,h.m2,h.n5,h.ps,h.ll,h.hl,h.lb,h.hb,agp _,by show 0<=5;decide,by intro v hv;cases hv⟩
def Good.cab(h:Good M)(hg:g<=As M):Good {M with Af:=g}:=⟨h.rule,h.m1,h.m2,h.n5,h.ps,h.ll,h.hl,h.lb,h.hb,by have:=dF M;grind,h.L0,h.W5⟩
def Good.install(h:Good M)(h1:1<=g)(hg:g<=As M):Good (CQ M g):=by
 have hc:=h.cab hg;refine⟨h.rule,h.m1,h.m2,h.n5,h.ps,h.ll,h.hl,h.lb,h.hb,hc.cb,?_,λv hv=>?_⟩;·show(hold {M with Af:=g} g 0).length<=5;rw[ij];exact h.m2
 ·have:=wz (M:={M with Af:=g}) h1 hg v hv;have h5:=h.n5;exact ae9 this h5
def Pc(ad:Ad):Sp:=λvs H Q _=>BL λ(a:Addr) (Hb:Hp) (M:Sm)=>Av (vs=[.ref a]) (AD ad Hb H a M) (∀H',AD ad Hb H' a (gone M)->Q .BM H')
def lM(T:Txt kK mg aD base):Bx P w T 1 "dismiss" (Pc aD):=by refine bt T.d.Tg yk ?_;rintro bo H vs Q E hr ⟨a,Hb,M,rfl,hO,q⟩;obtain⟨dx,pl,ll,hl,ho,ps,S,f1,f2,f3,n1,n2,n3,n4,n5,n6⟩:=hO.ex;refine ag<|aY<|au T.c.Dk RR<|af 0 ⟨a,aD.State,dx,_,RR,S.obj,T.m.BG,T.m.Aq,(by show 7<1000;decide),?_⟩;have S1:=S.cab 0;have s1:Aa Hb (upd H a (.ins aD.State dx (F9 M.rule M.offices pl ll hl 0 ho))):=hO.Dx.aL hO.fr (aw S.obj RR);rw[show AO "cabinet" (V.int 0) (F9 M.rule M.offices pl ll hl M.Af ho)=F9 M.rule M.offices pl ll hl 0 ho from gE (c':=0)];generalize upd H a (.ins aD.State dx (F9 M.rule M.offices pl ll hl 0 ho))=H1 at*;refine ah<|aY<|ay<|ab ⟨afk _,λh' Qq=>?_⟩;have S2:=S1.mono (Aa.ax (o:=.lst []) Qq);have s2:=s1.aL (o:=.lst []) (s1.free Qq) (aM Qq);have e2:upd H1 h' (.lst []) h'=some (.lst (nums [])):=ae;have m1:pl≠h':=ak S1.pl Qq;have m2:ll≠h':=ak S1.ll Qq;have m3:hl≠h':=ak S1.hl Qq;generalize upd H1 h' (.lst [])=H2 at*;refine af 0 ⟨a,aD.State,dx,_,RR,S2.obj,T.m.BG,T.m.Bv,(by show 7<1000;decide),?_⟩;rw[gD];exact q _ ⟨⟨dx,pl,ll,hl,h',ps,S2.hold e2,f1,f2,f3,n1,n2,n3,m1,m2,m3,s1.free Qq⟩,hO.fr,hO.good.gone,s2.aL hO.fr (aw S2.obj RR),hO.tabs⟩
def O_(ad:Ad):Sp:=λvs H Q _=>CO λ(a:Addr) (Hb:Hp) (M:Sm) (g:Nat)=>B9 (vs=[.ref a,.int g]) (AD ad Hb H a M) (1<=g) (g<=As M) (∀H',AD ad Hb H' a (CQ M g)->Q .BM H')
def qA(T:Txt kK mg aD base):Bx P w T 21 "install" (O_ aD):=by refine bt T.d.install yj ?_;rintro bo H vs Q E hr ⟨a,Hb,M,g,rfl,hO,h1,h2,q⟩;obtain⟨dx,pl,ll,hl,ho,ps,S,f1,f2,f3,n1,n2,n3,n4,n5,n6⟩:=hO.ex;refine ag<|aY<|af 1<|af 0 ⟨a,aD.State,dx,_,RR,S.obj,T.m.BG,T.m.Aq,(by show 7<1000;decide),?_⟩;have S1:=S.cab g;have s1:Aa Hb (upd H a (.ins aD.State dx (F9 M.rule M.offices pl ll hl g ho))):=hO.Dx.aL hO.fr (aw S.obj RR);rw[gE];refine ah<|aY<|ao (fz T) hr<|af 0<|aa<|af 1<|aa<|au T.c.Dk RR<|ab ⟨a,{M with Af:=g},g,0,RR,⟨⟨dx,pl,ll,hl,ho,ps,S1⟩,hO.good.cab h2,hO.tabs.mono s1⟩,h1,h2,λh' H2 s2 Qq e2=>?_⟩;have S2:=S1.mono s2;have m1:pl≠h':=ak S1.pl Qq;have m2:ll≠h':=ak S1.ll Qq;have m3:hl≠h':=ak S1.hl Qq;refine af 0 ⟨a,aD.State,dx,_,RR,S2.obj,T.m.BG,T.m.Bv,(by show 7<1000;decide),?_⟩;rw[gD];exact q _ ⟨⟨dx,pl,ll,hl,h',ps,S2.hold e2,f1,f2,f3,n1,n2,n3,m1,m2,m3,s1.free Qq⟩,hO.fr,hO.good.install h1 h2,(s1.trans s2).aL hO.fr (aw S2.obj RR),hO.tabs⟩
def HH(ad:Ad)(Hb:Hp)(a:Addr)(M:Sm)(xs:Am)(Q:VK):Prop:=∀p H',AD ad Hb H' a M->Hb p=none->H' p=some (.lst (xs.map V.int))->Q (.ref p) H'
def QD(ad:Ad):Sp:=λvs H Q _=>BL λ(a:Addr) (Hb:Hp) (M:Sm)=>Av (vs=[.ref a]) (AD ad Hb H a M) (HH ad Hb a (BF M).1 (BF M).2 Q)
def fv(T:Txt kK mg aD base):Bx P w T 6 "settle" (QD aD):=by
 refine bt T.d.settle aag ?_;rintro bo H vs Q E hr ⟨a,Hb,M,rfl,hO,q⟩;obtain⟨dx,pl,ll,hl,ho,ps,S,_⟩:=hO.ex;unfold BF at q;have dis:∀H1,Aa H H1->¬(M.Af=0\/stands M M.Af=true)->Lu (EX JE "settle" G5 P w kK mg base bo H E) ((AX G5).drop 1) {nx:=λ_ H'=>Q .BM H',rt:=Q} (start JE [.ref a]) H1:=λH1 s1 hn=>by rw[if_neg hn]at q;refine ag<|eV<|ao (lM T) hr<|af 0<|ab ⟨a,Hb,M,RR,hO.mono s1,λH2 Er=>?_⟩;refine ah<|aj<|ay<|aa<|aG<|ab ⟨bq,λr hr=>?_⟩;exact q r _ (Er.mono (Aa.ax hr)) (Er.Dx.free hr) ae
 have ok:∀H1,Aa H H1->(M.Af=0\/stands M M.Af=true)->∀r,H1 r=none->Q (.ref r) (upd H1 r (.lst [.int 0])):=λH1 s1 hy r hr=>by rw[if_pos hy]at q;exact q r _ ((hO.mono s1).mono (Aa.ax hr)) ((hO.mono s1).Dx.free hr) ae
 refine ag<|aW<|vm<|aV bO (aJ _)<|aE 0 S T T.m.Aq bf<|au T.c.Dk RR ⟨RR,_,RR,?_⟩;by_cases hc:M.Af=0;·rw[decide_eq_true (by rw[hc];rfl),if_pos RR,if_pos RR];exact ah<|aj<|ay<|aa<|aG<|ab ⟨bq,λr hr=>ok H (Aa.refl _) (.inl hc) r hr⟩
 ·rw[decide_eq_false (by intro z;injection z with z;omega),if_neg ae0];refine aO<|ao (iE T) hr<|af 0<|aa<|aE 0 S T T.m.Aq bf<|ab ⟨a,M,M.Af,RR,hO.at_,λH1 s1=>⟨_,RR,?_⟩⟩;refine ite_bool (λe=>?_) (λe=>?_);·exact ah<|aj<|ay<|aa<|aG<|ab ⟨bq,λr hr=>ok H1 s1 (.inr e) r hr⟩
  ·exact aA (dis H1 s1 (by rw[e];simp[hc]))
def kg:Aa (Al x H) H:=⟨eZ,λP ps e g=>⟨ps,by
 have:P≠x:=λz=>by rw[z,gJ]at e;cases e
 rw[bw this]at e;exact e,g.ok,λpos v ev=>by obtain⟨c,rfl,hc⟩:=g.code pos v ev;exact⟨c,RR,eZ _ _ hc⟩⟩⟩
def Ss(ad:Ad):Sp:=λvs H Q _=>Kd λ(x dx:Addr) (n:Nat) (tw tc tx:Addr)=>Av (vs=[.ref x,.int n,.ref tw,.ref tc,.ref tx]) (H x=some (.ins ad.Party dx [])) (∀H',Aa (Al x H) H'->H' x=some (.ins ad.Party dx (UM n tw tc tx))->Q .BM H')
def rD(T:Txt kK mg aD base):Co P w kK mg base 1 aD.Party (Ss aD):=by refine mkI T.m.rD rJ ?_;rintro bo H vs Q E hr ⟨x,dx,n,tw,tc,tx,rfl,hx,q⟩;refine ag<|aY<|af 1<|af 0 ⟨x,aD.Party,dx,_,RR,hx,T.m.Bq,T.m.Cy,(by decide),?_⟩;refine ag<|aY<|af 2<|af 0 ⟨x,aD.Party,dx,_,RR,ae,T.m.Bq,T.m.Cw,(by show 1<1000;decide),?_⟩;refine ag<|aY<|af 3<|af 0 ⟨x,aD.Party,dx,_,RR,ae,T.m.Bq,T.m.Cz,(by show 2<1000;decide),?_⟩;refine ah<|aY<|af 4<|af 0 ⟨x,aD.Party,dx,_,RR,ae,T.m.Bq,T.m.Cv,(by show 3<1000;decide),?_⟩;refine q _ ((((kg.ik (aw hx RR)).ik (aw ae RR)).ik (aw ae RR)).ik (aw ae RR)) ?_;rw[ae];kernel_rfl
def iA{p pos:Pos}(T:Txt X.K X.mg aD X.base)(hr:Bm 2 X.A)(hg:Gl X "Party")(h:Ea X [e,e2,e3,e4] σ H λvs H1=>∃(n:Nat) (tw tc tx:Addr),vs=[.int n,.ref tw,.ref tc,.ref tx]/\∀x dx H',H1 x=none->Aa H1 H'->H' x=some (.ins aD.Party dx (UM n tw tc tx))->Q (.ref x) H')
  (he:starEach [e,e2,e3,e4] X.env=(false,eval e X.env)::starEach [e2,e3,e4] X.env:=by rfl)(B8:(backTo pos (starEach [e2,e3,e4] X.env)).any (·.1)=false:=by rfl):Ev X (.Call (.Name "Party" p) [e,e2,e3,e4] [] pos) σ H Q:=by refine kr (rD T) hr hg T.m.Te ?_ (by decide) he B8;refine⟨λpos pins s I=>iM (h.run pos pins s I) λus s' ⟨vs,H1,I1,r,n,tw,tc,tx,ev,q⟩=>⟨vs,H1,I1,r,λx dx hx hd AW=>?_⟩⟩;subst ev;exact⟨x,dx,n,tw,tc,tx,RR,ae,λH' s' VP=>⟨RR,q x dx H' hx ((cV hx hd).trans s') VP⟩⟩
def E3(M:Sm)(i:Nat)(p:Party):Sm:={M with parties:=M.parties.set i p}
theorem Good.E3(h:Good M)(hp:FW M.offices p):Good (E3 M i p):=by
 refine⟨h.rule,h.m1,h.m2,?_,λq hq=>?_,?_,?_,?_,?_,?_,h.L0,h.W5⟩;·show(M.parties.set i p).length<=5;rw[afT];exact h.n5
 ·rcases aho hq with z|z;·exact h.ps q z
  ·rw[z];exact hp
 ·show M.likes.length=(M.parties.set i p).length;rw[afT];exact h.ll
 ·show M.hates.length=(M.parties.set i p).length;rw[afT];exact h.hl
 ·intro v hv;show v<2^(M.parties.set i p).length;rw[afT];exact h.lb v hv
 ·intro v hv;show v<2^(M.parties.set i p).length;rw[afT];exact h.hb v hv
 ·show M.Af<2^(M.parties.set i p).length;rw[afT];exact h.cb
def AD.xA(hO:AD aD Hb H a M)(S:BV aD H a dx pl ll hl ho ps M)(f1:Hb pl=none)(f2:Hb ll=none)(f3:Hb hl=none)(n1:pl≠ll)(n2:pl≠hl)(n3:ll≠hl)(n4:pl≠ho)(n5:ll≠ho)(n6:hl≠ho/\Hb ho=none)
  (hx:BB aD H x p)(hp:FW M.offices p):AD aD Hb (upd H pl (.lst ((ps.map V.ref).set i (.ref x)))) a (E3 M i p):=by
 have e:(ps.map V.ref).set i (.ref x)=(ps.set i x).map V.ref:=by rw[List.map_set]
 rw[e];refine⟨⟨dx,pl,ll,hl,ho,ps.set i x,S.par n1 n2 n4 (by rw[afT,afT];exact S.len) (λj p' q' h1 h2=>?_),f1,f2,f3,n1,n2,n3,n4,n5,n6⟩,hO.fr,hO.good.E3 hp,hO.Dx.aL f1 (aw S.pl RR),hO.tabs⟩;rw[List.getElem?_set]at h1 h2;by_cases e:i=j;·grind
 ·rw[if_neg e]at h1 h2;exact S.at_ j p' q' h1 h2
def CU(M:Sm)(i n:Nat):Sm×Am:=if Bk n=true then BF (E3 M i {pt M i with seats:=n})else(M,[-22])
def CT(M:Sm)(i x y:Nat):Sm×Am:=if x<=30/\y<=30 then BF (E3 M i {pt M i with x:=x,y:=y})else(M,[-22])
def CW(M:Sm)(i p q:Nat):Sm×Am:=if 1<=p/\p<=5/\1<=q/\q<=5 then BF (E3 M i {pt M i with carex:=p,carey:=q})else(M,[-22])
def CS(M:Sm)(i:Nat)(ws:Ae):Sm×Am:=if Bd ws M.offices=true then BF (E3 M i {pt M i with worth:=ws})else(M,[-22])
def fT{l:List V}(h:i<l.length):Rb l.length (i:Int)=some i:=by unfold Rb;simp_all
def HG(ad:Ad)(vals:List V)(c:Sm->Sm×Am)(ok:Hp->Sm->Prop):Sp:=λvs H Q _=>CO λ(a v:Addr) (Hb:Hp) (M:Sm)=>B9 (vs=[.ref a,.ref v]) (AD ad Hb H a M) (Hb v=some (.lst vals)) (ok Hb M) (HH ad Hb a (c M).1 (c M).2 Q)
def ue(T:Txt kK mg aD base)(i n:Nat):Ab P w kK mg base 7 "set_seats" (HG aD [.int i,.int n] (λM=>CU M i n) λ_ M=>i<M.nP):=by
 refine bt T.d.Ph mh ?_;rintro bo H vs Q E hr ⟨a,v,Hb,M,rfl,hO,hv,hi,q⟩;have D0:=hO.Dx.lst hv;have q:HH aD Hb a (CU M i n).1 (CU M i n).2 Q:=q;unfold CU at q;refine ag<|aW<|cH<|aO<|ao (jn T) hr<|aH 1 1 D0 RR<|ab ⟨n,RR,_,RR,?_⟩;refine ite_bool (λe=>?_) (λe=>?_)
 ·have e':Bk n=false:=by simpa using e
  rw[if_neg (by rw[e'];exact ae0)]at q;refine ah<|aj<|ay<|aa<|au T.c.Dv RR<|ab ⟨bq,λr hr=>?_⟩;exact q r _ (hO.mono (Aa.ax hr)) (hO.Dx.free hr) ae
 ·have e':Bk n=true:=by simpa using e
  rw[if_pos e']at q;obtain⟨dx,pl,ll,hl,ho,ps,S,f1,f2,f3,n1,n2,n3,n4,n5,n6⟩:=hO.ex;have gp:=bU hO.good hi;have hsn:1<=n/\n<=200:=by unfold Bk at e';simpa using e'
  refine aA<|ag<|aP 2 mh.sc.nd<|fG 0 S T<|aH 1 0 D0 RR ⟨i,RR,hi,Aa.refl _,λb hb=>?_⟩;obtain⟨bdx,tw,tc,tx,b1,b2,b3,b4⟩:=hb.ex;refine ag<|gL set_list<|iA T (hr.mono (by decide)) RR<|aa<|aH 1 1 D0 RR<|aa<|aC<|af 2 ⟨b,_,_,_,_,RR,b1,T.m.Bq,T.m.Cw,iS,aa<|aC<|af 2 ⟨b,_,_,_,_,RR,b1,T.m.Bq,T.m.Cz,iU,aa<|aC<|af 2 ⟨b,_,_,_,_,RR,b1,T.m.Bq,T.m.Cv,iR,ab ⟨n,tw,tc,tx,RR,λx NN H1 hx s1 ex=>?_⟩⟩⟩⟩;have S1:=S.mono s1;have Hr:=hO.mono s1;refine aE 0 S1 T T.m.Ac aI<|aH 1 0 (s1.lst D0) RR ⟨pl,_,_,i,RR,RR,S1.pl,fT (by rw[ae1,S.len];exact hi),?_⟩;have Er:=Hr.xA (i:=i) (p:={pt M i with seats:=n}) S1 f1 f2 f3 n1 n2 n3 n4 n5 n6 ⟨NN,tw,tc,tx,ex,s1.tp b2,s1.tp b3,s1.tp b4⟩ ⟨hsn.1,hsn.2,gp.x2,gp.y2,gp.c1,gp.c2,gp.d1,gp.d2,gp.wl,gp.w2⟩;exact ah<|aj<|ao (fv T) hr<|af 0<|ab ⟨a,Hb,_,RR,Er,q⟩
def all2(x y k:Nat):([x,y]:Ae).all (λv=>decide (v<=k))=decide (x<=k/\y<=k):=by simp
def acB(x y k:Nat):([x,y]:Ae).all (λv=>decide (k<=v))=decide (k<=x/\k<=y):=by simp
def ud(T:Txt kK mg aD base)(i x y:Nat):Ab P w kK mg base 7 "set_wants" (HG aD [.int i,.int x,.int y] (λM=>CT M i x y) λ_ M=>i<M.nP):=by
 refine bt T.d.Pg iw ?_;rintro bo H vs Q E hr ⟨a,v,Hb,M,rfl,hO,hv,hi,q⟩;have D0:=hO.Dx.lst hv;have q:HH aD Hb a (CT M i x y).1 (CT M i x y).2 Q:=q;unfold CT at q;refine ag<|aP 2 iw.sc.nd<|bT<|aa<|aH 1 1 D0 RR<|aa<|aH 1 2 D0 RR<|ab ⟨cQ,λtw LY=>?_⟩;have KL:=hO.mono (Aa.ax (o:=.tup [.int x,.int y]) LY);have NH:=(Aa.ax (o:=.tup [.int x,.int y]) LY).lst D0;have ew:upd H tw (.tup [.int (x:Int),.int (y:Int)]) tw=some (.tup [.int x,.int y]):=ae;refine ag<|aW<|cH<|aO<|ao (fV T) hr<|af 2<|ab ⟨tw,[x,y],RR,.inr (Cd.of ew),by simp,_,RR,?_⟩;rw[all2];refine ite_bool (λe=>?_) (λe=>?_);·rw[if_neg (by intro z;rw[decide_eq_true z]at e;cases e)]at q;refine ah<|aj<|ay<|aa<|au T.c.Dv RR<|ab ⟨bq,λr hr=>?_⟩;exact q r _ (KL.mono (Aa.ax hr)) (KL.Dx.free hr) ae
 ·have e':x<=30/\y<=30:=by simpa using e
  rw[if_pos e']at q;obtain⟨dx,pl,ll,hl,ho,ps,S,f1,f2,f3,n1,n2,n3,n4,n5,n6⟩:=KL.ex;have gp:=bU hO.good hi;refine aA<|ag<|aP 3 iw.sc.nd<|fG 0 S T<|aH 1 0 NH RR ⟨i,RR,hi,Aa.refl _,λb hb=>?_⟩;obtain⟨bdx,VG,tc,tx,b1,b2,b3,b4⟩:=hb.ex;refine ag<|gL set_list<|iA T (hr.mono (by decide)) RR<|aa<|aC<|af 3 ⟨b,_,_,_,_,RR,b1,T.m.Bq,T.m.Cy,iT,aa<|af 2<|aa<|aC<|af 3 ⟨b,_,_,_,_,RR,b1,T.m.Bq,T.m.Cz,iU,aa<|aC<|af 3 ⟨b,_,_,_,_,RR,b1,T.m.Bq,T.m.Cv,iR,ab ⟨_,tw,tc,tx,RR,λxp NN H1 hx s1 ex=>?_⟩⟩⟩⟩;have S1:=S.mono s1;have Hr:=KL.mono s1;refine aE 0 S1 T T.m.Ac aI<|aH 1 0 (s1.lst NH) RR ⟨pl,_,_,i,RR,RR,S1.pl,fT (by rw[ae1,S.len];exact hi),?_⟩;have Er:=Hr.xA (i:=i) (p:={pt M i with x:=x,y:=y}) S1 f1 f2 f3 n1 n2 n3 n4 n5 n6 ⟨NN,tw,tc,tx,ex,s1.tp ew,s1.tp b3,s1.tp b4⟩ ⟨gp.s1,gp.s2,e'.1,e'.2,gp.c1,gp.c2,gp.d1,gp.d2,gp.wl,gp.w2⟩;exact ah<|aj<|ao (fv T) hr<|af 0<|ab ⟨a,Hb,_,RR,Er,q⟩
def uf(T:Txt kK mg aD base)(i x y:Nat):Ab P w kK mg base 7 "set_cares" (HG aD [.int i,.int x,.int y] (λM=>CW M i x y) λ_ M=>i<M.nP):=by
 refine bt T.d.Pj iy ?_;rintro bo H vs Q E hr ⟨a,v,Hb,M,rfl,hO,hv,hi,q⟩;have D0:=hO.Dx.lst hv;have q:HH aD Hb a (CW M i x y).1 (CW M i x y).2 Q:=q;unfold CW at q;refine ag<|aP 2 iy.sc.nd<|bT<|aa<|aH 1 1 D0 RR<|aa<|aH 1 2 D0 RR<|ab ⟨cQ,λtw LY=>?_⟩;have KL:=hO.mono (Aa.ax (o:=.tup [.int x,.int y]) LY);have NH:=(Aa.ax (o:=.tup [.int x,.int y]) LY).lst D0;have ew:upd H tw (.tup [.int (x:Int),.int (y:Int)]) tw=some (.tup [.int x,.int y]):=ae;refine ag<|aW<|cH<|aO<|ao (jo T) hr<|af 2<|ab ⟨tw,[x,y],RR,.inr (Cd.of ew),by simp,_,RR,?_⟩;rw[all2,acB];have eb:(decide (1<=x/\1<=y)&&decide (x<=5/\y<=5))=decide (1<=x/\x<=5/\1<=y/\y<=5):=by rw[afb];simp;omega
 rw[eb];refine ite_bool (λe=>?_) (λe=>?_);·rw[if_neg (by intro z;rw[decide_eq_true z]at e;cases e)]at q;refine ah<|aj<|ay<|aa<|au T.c.Dv RR<|ab ⟨bq,λr hr=>?_⟩;exact q r _ (KL.mono (Aa.ax hr)) (KL.Dx.free hr) ae
 ·have e':1<=x/\x<=5/\1<=y/\y<=5:=by simpa using e
  rw[if_pos e']at q;obtain⟨dx,pl,ll,hl,ho,ps,S,f1,f2,f3,n1,n2,n3,n4,n5,n6⟩:=KL.ex;have gp:=bU hO.good hi;refine aA<|ag<|aP 3 iy.sc.nd<|fG 0 S T<|aH 1 0 NH RR ⟨i,RR,hi,Aa.refl _,λb hb=>?_⟩;obtain⟨bdx,VG,tc,tx,b1,b2,b3,b4⟩:=hb.ex;refine ag<|gL set_list<|iA T (hr.mono (by decide)) RR<|aa<|aC<|af 3 ⟨b,_,_,_,_,RR,b1,T.m.Bq,T.m.Cy,iT,aa<|aC<|af 3 ⟨b,_,_,_,_,RR,b1,T.m.Bq,T.m.Cw,iS,aa<|af 2<|aa<|aC<|af 3 ⟨b,_,_,_,_,RR,b1,T.m.Bq,T.m.Cv,iR,ab ⟨_,VG,tw,tx,RR,λxp NN H1 hx s1 ex=>?_⟩⟩⟩⟩;have S1:=S.mono s1;have Hr:=KL.mono s1;refine aE 0 S1 T T.m.Ac aI<|aH 1 0 (s1.lst NH) RR ⟨pl,_,_,i,RR,RR,S1.pl,fT (by rw[ae1,S.len];exact hi),?_⟩;have Er:=Hr.xA (i:=i) (p:={pt M i with carex:=x,carey:=y}) S1 f1 f2 f3 n1 n2 n3 n4 n5 n6 ⟨NN,VG,tw,tx,ex,s1.tp b2,s1.tp ew,s1.tp b4⟩ ⟨gp.s1,gp.s2,gp.x2,gp.y2,e'.1,e'.2.1,e'.2.2.1,e'.2.2.2,gp.wl,gp.w2⟩;exact ah<|aj<|ao (fv T) hr<|af 0<|ab ⟨a,Hb,_,RR,Er,q⟩
def uc(T:Txt kK mg aD base)(i:Nat)(row:Addr)(ws:Ae):Ab P w kK mg base 7 "set_worth" (HG aD [.int i,.ref row] (λM=>CS M i ws) λHb M=>i<M.nP/\Hb row=some (.lst (nums ws))/\ws.length<=100000):=by
 refine bt T.d.Pf iu ?_;rintro bo H vs Q E hr ⟨a,v,Hb,M,rfl,hO,hv,⟨hi,Gh,TZ⟩,q⟩;have D0:=hO.Dx.lst hv;have Ri:=hO.Dx.lst Gh;have q:HH aD Hb a (CS M i ws).1 (CS M i ws).2 Q:=q;unfold CS at q;refine ag<|aP 2 iu.sc.nd<|br jl RR T.c.OP ahv<|aa<|aH 1 1 D0 RR<|ab ⟨row,_,RR,.inl ⟨Aj.of Ri,λtw LY=>?_⟩⟩;have KL:=hO.mono (Aa.ax (o:=.tup (nums ws)) LY);have NH:=(Aa.ax (o:=.tup (nums ws)) LY).lst D0;have ew:upd H tw (.tup (nums ws)) tw=some (.tup (nums ws)):=ae;generalize upd H tw (.tup (nums ws))=H0 at*;obtain⟨dx,pl,ll,hl,ho,ps,S,f1,f2,f3,n1,n2,n3,n4,n5,n6⟩:=KL.ex;refine ag<|aW<|cH<|aO<|ao (jm T) hr<|af 2<|aa<|aE 0 S T T.m.AS bX<|ab ⟨tw,ws,M.offices,RR,Cd.of ew,hO.good.m1,_,RR,?_⟩;refine ite_bool (λe=>?_) (λe=>?_);·rw[if_neg (by intro z;rw[z]at e;cases e)]at q;refine ah<|aj<|ay<|aa<|au T.c.Dv RR<|ab ⟨bq,λr hr=>?_⟩;exact q r _ (KL.mono (Aa.ax hr)) (KL.Dx.free hr) ae
 ·have e':Bd ws M.offices=true:=by simpa using e
  rw[if_pos e']at q;have hw:ws.length=M.offices/\∀v∈ws,v<=50:=by unfold Bd at e';rw[afn]at e';exact⟨by simpa using e'.1,by simpa using e'.2⟩
  have gp:=bU hO.good hi;refine aA<|ag<|aP 3 iu.sc.nd<|fG 0 S T<|aH 1 0 NH RR ⟨i,RR,hi,Aa.refl _,λb hb=>?_⟩;obtain⟨bdx,VG,tc,tx,b1,b2,b3,b4⟩:=hb.ex;refine ag<|gL set_list<|iA T (hr.mono (by decide)) RR<|aa<|aC<|af 3 ⟨b,_,_,_,_,RR,b1,T.m.Bq,T.m.Cy,iT,aa<|aC<|af 3 ⟨b,_,_,_,_,RR,b1,T.m.Bq,T.m.Cw,iS,aa<|aC<|af 3 ⟨b,_,_,_,_,RR,b1,T.m.Bq,T.m.Cz,iU,aa<|af 2<|ab ⟨_,VG,tc,tw,RR,λxp NN H1 hx s1 ex=>?_⟩⟩⟩⟩;have S1:=S.mono s1;have Hr:=KL.mono s1;refine aE 0 S1 T T.m.Ac aI<|aH 1 0 (s1.lst NH) RR ⟨pl,_,_,i,RR,RR,S1.pl,fT (by rw[ae1,S.len];exact hi),?_⟩;have Er:=Hr.xA (i:=i) (p:={pt M i with worth:=ws}) S1 f1 f2 f3 n1 n2 n3 n4 n5 n6 ⟨NN,VG,tc,tw,ex,s1.tp b2,s1.tp b3,s1.tp ew⟩ ⟨gp.s1,gp.s2,gp.x2,gp.y2,gp.c1,gp.c2,gp.d1,gp.d2,hw.1,hw.2⟩;exact ah<|aj<|ao (fv T) hr<|af 0<|ab ⟨a,Hb,_,RR,Er,q⟩
def IF(M:Sm)(p:Party):Sm:={M with parties:=M.parties++[p],likes:=M.likes++[0],hates:=M.hates++[0]}
def CV(M:Sm)(n x y p q:Nat)(ws:Ae):Sm×Am:=
 if(Bk n=true/\(x<=30/\y<=30)/\(1<=p/\p<=5/\1<=q/\q<=5))/\Bd ws M.offices=true then
  if M.Af≠0 then(M,[-16])else if M.nP=5 then(M,[-28])else(IF M {seats:=n,x:=x,y:=y,carex:=p,carey:=q,worth:=ws},[(M.nP:Int)])
 else(M,[-22])
def zq(h:v<2^n):v<2^(n+1):=ahT h (Nat.pow_lt_pow_right (by decide) (agb n))
theorem Good.IF(h:Good M)(hp:FW M.offices p)(hn:M.nP≠5)(hc:M.Af=0):Good (IF M p):=by
 have h5:=h.n5;have el:(M.parties++[p]).length=M.nP+1:=by simp
 refine⟨h.rule,h.m1,h.m2,?_,?_,?_,?_,?_,?_,?_,h.L0,h.W5⟩;·show(M.parties++[p]).length<=5;omega
 ·intro q hq;rcases afE.mp hq with hq|hq;·exact h.ps q hq
  ·rw[afm.mp hq];exact hp
 ·show(M.likes++[0]).length=(M.parties++[p]).length;rw[el,afg,h.ll];rfl
 ·show(M.hates++[0]).length=(M.parties++[p]).length;rw[el,afg,h.hl];rfl
 ·intro v hv;show v<2^(M.parties++[p]).length;rw[el];rcases afE.mp hv with hv|hv;·exact zq (h.lb v hv)
  ·rw[afm.mp hv];exact agp _
 ·intro v hv;show v<2^(M.parties++[p]).length;rw[el];rcases afE.mp hv with hv|hv;·exact zq (h.hb v hv)
  ·rw[afm.mp hv];exact agp _
 ·show M.Af<_;rw[hc];exact agp _
def um(T:Txt kK mg aD base)(n x y p q:Nat)(row:Addr)(ws:Ae):Ab P w kK mg base 7 "add_party" (HG aD [.int n,.int x,.int y,.int p,.int q,.ref row] (λM=>CV M n x y p q ws) λHb M=>Hb row=some (.lst (nums ws))/\ws.length<=100000):=by
 refine bt T.d.PZ fF ?_;rintro bo H vs Q E hr ⟨a,v,Hb,M,rfl,hO,hv,⟨Gh,TZ⟩,k⟩;have D0:=hO.Dx.lst hv;have Ri:=hO.Dx.lst Gh;have k:HH aD Hb a (CV M n x y p q ws).1 (CV M n x y p q ws).2 Q:=k;unfold CV at k;refine ag<|aP 2 fF.sc.nd<|bT<|aa<|aH 1 1 D0 RR<|aa<|aH 1 2 D0 RR<|ab ⟨cQ,λtw LY=>?_⟩;have KL:=hO.mono (Aa.ax (o:=.tup [.int x,.int y]) LY);have NH:=(Aa.ax (o:=.tup [.int x,.int y]) LY).lst D0;have W3:=(Aa.ax (o:=.tup [.int x,.int y]) LY).lst Ri;have ew:upd H tw (.tup [.int (x:Int),.int (y:Int)]) tw=some (.tup [.int x,.int y]):=ae;generalize upd H tw (.tup [.int (x:Int),.int (y:Int)])=H0 at*;refine ag<|aP 3 fF.sc.nd<|bT<|aa<|aH 1 3 NH RR<|aa<|aH 1 4 NH RR<|ab ⟨cQ,λtc VR=>?_⟩;have s1:=Aa.ax (o:=.tup [.int p,.int q]) VR;have Hr:=KL.mono s1;have hv2:=s1.lst NH;have W2:=s1.lst W3;have ew1:=s1.tp ew;have ec:upd H0 tc (.tup [.int (p:Int),.int (q:Int)]) tc=some (.tup [.int p,.int q]):=ae;clear s1;generalize upd H0 tc (.tup [.int (p:Int),.int (q:Int)])=H1 at*;refine ag<|aP 4 fF.sc.nd<|br jl RR T.c.OP ahv<|aa<|aH 1 5 hv2 RR<|ab ⟨row,_,RR,.inl ⟨Aj.of W2,λtx htx=>?_⟩⟩;have s1:=Aa.ax (o:=.tup (nums ws)) htx;have Er:=Hr.mono s1;have hv3:=s1.lst hv2;have ew2:=s1.tp ew1;have ec2:=s1.tp ec;have ex:upd H1 tx (.tup (nums ws)) tx=some (.tup (nums ws)):=ae;clear s1;generalize upd H1 tx (.tup (nums ws))=H2 at*;obtain⟨dx,pl,ll,hl,ho,ps,S,f1,f2,f3,n1,n2,n3,n4,n5,n6⟩:=Er.ex;have Ij:∀e:Expr,¬((Bk n=true/\(x<=30/\y<=30)/\(1<=p/\p<=5/\1<=q/\q<=5))/\Bd ws M.offices=true)->∀r,H2 r=none->Q (.ref r) (upd H2 r (.lst [.int (-22)])):=λ_ hn r hr=>by rw[if_neg hn]at k;exact k r _ (Er.mono (Aa.ax hr)) (Er.Dx.free hr) ae
 refine ag<|aW<|cH<|ab0<|aO<|ao (jn T) hr<|aH 1 0 hv3 RR<|ab ⟨n,RR,_,RR,?_⟩;refine ite_bool (λe1=>?_) (λe1=>?_);rotate_left;·rw[if_pos (by rfl)];exact ah<|aj<|ay<|aa<|au T.c.Dv RR<|ab ⟨bq,λr hr=>Ij (.Constant .none 0 default) (λz=>by rw[z.1.1]at e1;cases e1) r hr⟩
 refine aO<|ao (fV T) hr<|af 2<|ab ⟨tw,[x,y],RR,.inr (Cd.of ew2),by simp,_,RR,?_⟩;rw[all2];refine ite_bool (λe2=>?_) (λe2=>?_);rotate_left;·rw[if_pos (by rfl)];exact ah<|aj<|ay<|aa<|au T.c.Dv RR<|ab ⟨bq,λr hr=>Ij (.Constant .none 0 default) (λz=>by rw[decide_eq_true z.1.2.1]at e2;cases e2) r hr⟩
 refine aO<|ao (jo T) hr<|af 3<|ab ⟨tc,[p,q],RR,.inr (Cd.of ec2),by simp,_,RR,?_⟩;rw[all2,acB];have eb:(decide (1<=p/\1<=q)&&decide (p<=5/\q<=5))=decide (1<=p/\p<=5/\1<=q/\q<=5):=by rw[afb];simp;omega
 rw[eb];refine ite_bool (λe3=>?_) (λe3=>?_);·exact ah<|aj<|ay<|aa<|au T.c.Dv RR<|ab ⟨bq,λr hr=>Ij (.Constant .none 0 default) (λz=>by rw[decide_eq_true z.1.2.2]at e3;cases e3) r hr⟩
 refine aA<|ag<|aW<|cH<|aO<|ao (jm T) hr<|af 4<|aa<|aE 0 S T T.m.AS bX<|ab ⟨tx,ws,M.offices,RR,Cd.of ex,hO.good.m1,_,RR,?_⟩;refine ite_bool (λe4=>?_) (λe4=>?_);·exact ah<|aj<|ay<|aa<|au T.c.Dv RR<|ab ⟨bq,λr hr=>Ij (.Constant .none 0 default) (λz=>by rw[z.2]at e4;cases e4) r hr⟩
 have g1:(1<=n/\n<=200):=by unfold Bk at e1;simpa using e1
 have g2:x<=30/\y<=30:=by simpa using e2
 have g3:1<=p/\p<=5/\1<=q/\q<=5:=by simpa using e3
 have g4:Bd ws M.offices=true:=by simpa using e4
 rw[if_pos ⟨⟨e1,g2,g3⟩,g4⟩]at k;have hw:ws.length=M.offices/\∀v∈ws,v<=50:=by unfold Bd at g4;rw[afn]at g4;exact⟨by simpa using g4.1,by simpa using g4.2⟩
 refine aA<|ag<|aW<|aV qh (aJ _)<|aE 0 S T T.m.Aq bf<|au T.c.Dk RR ⟨RR,_,RR,?_⟩;by_cases hc:M.Af=0;rotate_left;·rw[decide_eq_false (by intro z;injection z with z;omega)];rw[if_pos hc]at k;exact ah<|aj<|ay<|aa<|au T.c.NA RR<|ab ⟨bq,λr hr=>k r _ (Er.mono (Aa.ax hr)) (Er.Dx.free hr) ae⟩
 rw[decide_eq_true (by rw[hc];rfl)];rw[if_neg (λz=>z hc)]at k;refine aA<|ag<|aW<|aV bO (aJ _)<|aX RR T.c.AV<|aE 0 S T T.m.Ac aI ⟨pl,_,RR,Aj.of S.pl,au T.c.Mj RR ⟨RR,_,RR,?_⟩⟩;have lp:(ps.map V.ref).length=M.nP:=by rw[ae1,S.len]
 rw[lp];by_cases h5:M.nP=5;·rw[decide_eq_true (by rw[h5];rfl)];rw[if_pos h5]at k;exact ah<|aj<|ay<|aa<|au T.c.Aav RR<|ab ⟨bq,λr hr=>k r _ (Er.mono (Aa.ax hr)) (Er.Dx.free hr) ae⟩
 rw[decide_eq_false (by intro z;injection z with z;omega)];rw[if_neg h5]at k;have Z5:=hO.good.n5;refine aA<|ag<|bV<|aE 0 S T T.m.Ac aI ⟨pl,_,RR,S.pl,iA T (hr.mono (by decide)) RR<|aa<|aH 1 0 hv3 RR<|aa<|af 2<|aa<|af 3<|aa<|af 4<|ab ⟨n,tw,tc,tx,RR,λxp NN H3 hx s3 ep=>?_⟩⟩;have S3:=S.mono s3;refine⟨_,S3.pl,by rw[lp];exact ae9 (show M.nP<6 by omega) (by decide),?_⟩;have pq:BB aD H3 xp {seats:=n,x:=x,y:=y,carex:=p,carey:=q,worth:=ws}:=⟨NN,tw,tc,tx,ep,s3.tp ew2,s3.tp ec2,s3.tp ex⟩;have S4:=S3.par (ps':=ps++[xp]) (qs:=M.parties++[{seats:=n,x:=x,y:=y,carex:=p,carey:=q,worth:=ws}]) n1 n2 n4 (by simp[S.len]) (λi p' q' h1 h2=>by
  by_cases hi:i<ps.length;·rw[afs hi]at h1;rw[afs (Nat.lt_of_lt_of_eq hi S.len)]at h2;exact S3.at_ i p' q' h1 h2
  ·rw[afx (by omega)]at h1;rw[afx (afe (ahc S.len.symm) (by omega))]at h2;have hi0:i-ps.length=0:=by
    by_cases z:i-ps.length=0;·exact z
    ·exfalso;rw[afO (by simp;omega)]at h1;cases h1
   rw[hi0]at h1;rw[show List.length M.parties=ps.length from S.len.symm,hi0]at h2;cases h1;cases h2;exact pq);have m3:=(Er.Dx.trans s3).aL (o:=.lst ((ps++[xp]).map V.ref)) f1 (aw S3.pl RR);rw[show ps.map V.ref++[.ref xp]=(ps++[xp]).map V.ref by simp];generalize upd H3 pl (.lst ((ps++[xp]).map V.ref))=H4 at*;refine ag<|bV<|aE 0 S4 T T.m.BC eX ⟨ll,_,RR,S4.ll,aG ⟨_,S4.ll,by rw[aq];show M.likes.length<_;rw[hO.good.ll];exact ae9 (show M.nP<6 by omega) (by decide),?_⟩⟩;have S5:=S4.rm n1 n3 n5 (M.likes++[0]);have m4:=m3.aL (o:=.lst (nums (M.likes++[0]))) f2 (aw S4.ll RR);rw[show nums M.likes++[.int 0]=nums (M.likes++[0]) by simp[nums]];generalize upd H4 ll (.lst (nums (M.likes++[0])))=H5 at*;refine ag<|bV<|aE 0 S5 T T.m.Ba dc ⟨hl,_,RR,S5.hl,aG ⟨_,S5.hl,by rw[aq];show M.hates.length<_;rw[hO.good.hl];exact ae9 (show M.nP<6 by omega) (by decide),?_⟩⟩;have S6:=S5.gO n2 n3 n6.1 (M.hates++[0]);have m5:=m4.aL (o:=.lst (nums (M.hates++[0]))) f3 (aw S5.hl RR);rw[show nums M.hates++[.int 0]=nums (M.hates++[0]) by simp[nums]];generalize upd H5 hl (.lst (nums (M.hates++[0])))=H6 at*;have hO6:AD aD Hb H6 a (IF M {seats:=n,x:=x,y:=y,carex:=p,carey:=q,worth:=ws}):=⟨⟨dx,pl,ll,hl,ho,ps++[xp],S6,f1,f2,f3,n1,n2,n3,n4,n5,n6⟩,hO.fr,hO.good.IF ⟨g1.1,g1.2,g2.1,g2.2,g3.1,g3.2.1,g3.2.2.1,g3.2.2.2,hw.1,hw.2⟩ h5 hc,m5,hO.tabs⟩;refine ah<|aj<|ay<|aa<|a0 fP<|aX RR T.c.AV<|aE 0 S6 T T.m.Ac aI ⟨pl,_,RR,Aj.of S6.pl,aG ⟨_,_,RR,RR,ab ⟨bq,λr hr=>?_⟩⟩⟩;refine k r _ (hO6.mono (Aa.ax hr)) (hO6.Dx.free hr) ?_;rw[ae];have:(((ps++[xp]).map V.ref).length:Int)-1=(M.nP:Int):=by rw[ae1,afg,S.len];simp
 show some (HO.lst [V.int ((((ps++[xp]).map V.ref).length:Int)-1)])=some (HO.lst [V.int (M.nP:Int)]);rw[this]
def Zl(i j:Int):Int:=Builtin.bitOr i j
def Vq(i j:Int):Int:=Builtin.bitAnd i j
def zY:Vt X .BitOr (ZC Zl):=by rintro pins s σ H x y v u Q I r1 r2 ⟨i,j,e1,e2,q⟩;subst e1;subst e2;obtain⟨t,rfl⟩:=r1;obtain⟨t',rfl⟩:=r2;exact ior_int ⟨.int _,H,I.tok _,⟨_,RR⟩,q⟩
def uZ:Vt X .BitAnd (ZC Vq):=by rintro pins s σ H x y v u Q I r1 r2 ⟨i,j,e1,e2,q⟩;subst e1;subst e2;obtain⟨t,rfl⟩:=r1;obtain⟨t',rfl⟩:=r2;exact iand_int ⟨.int _,H,I.tok _,⟨_,RR⟩,q⟩
def q_(a b:Nat):Zl (a:Int) (b:Int)=((a||| b:Nat):Int):=by
 have e1:decide (0<=Builtin.bitNot (a))=false:=decide_eq_false (by unfold Builtin.bitNot;omega);have e2:decide (0<=Builtin.bitNot (b))=false:=decide_eq_false (by unfold Builtin.bitNot;omega);have f:∀n:Nat,Builtin.bitNot (Builtin.bitNot (n))=n:=λn=>by unfold Builtin.bitNot;omega
 unfold Zl Builtin.bitOr Builtin.bitAnd;rw[e1,e2,f a,f b,f];rfl
def wc(h:(!b)=false):b=true:=by grind
def L7(a j:Nat):Nat:=a-(a&&& 2^j)
def rZ(a j:Nat):Vq (a:Int) (Builtin.bitNot ((2:Int)^j))=((L7 a j:Nat):Int):=by
 have p:=dm j;rw[p];have e1:decide (0<=(a:Int))=true:=decide_eq_true (by omega);have e2:decide (0<=Builtin.bitNot ((2^j:Nat)))=false:=decide_eq_false (by generalize 2^j=z;unfold Builtin.bitNot;omega);have f:∀n:Nat,Builtin.bitNot (Builtin.bitNot (n:Int))=n:=λn=>by unfold Builtin.bitNot;omega
 unfold Vq Builtin.bitAnd;rw[e1,e2,f];have:a&&& 2^j<=a:=Nat.and_le_left;unfold L7;simp only[af2];omega
def lG(h:a<n):L7 a j<n:=afl (ag3 ..) h
def sR(h:a<2^n)(hj:j<n):a||| 2^j<2^n:=Nat.or_lt_two_pow h (Nat.pow_lt_pow_right (by decide) hj)
def sS(l:Ae)(i v:Nat):(nums l).set i (.int (v:Int))=nums (l.set i v):=by unfold nums;rw[List.map_set]
def mem_set{α:Type}{l:List α}{v x:α}(h:x∈l.set i v):x∈l\/x=v:=aho h
def Good.rm(h:Good M)(hv:v<2^M.nP):Good {M with likes:=M.likes.set i v}:=
 ⟨h.rule,h.m1,h.m2,h.n5,h.ps,by rw[afT];exact h.ll,h.hl,λx hx=>(mem_set hx).elim (h.lb x) (λe=>by rw[e];exact hv),h.hb,h.cb,h.L0,h.W5⟩
def Good.gO(h:Good M)(hv:v<2^M.nP):Good {M with hates:=M.hates.set i v}:=
 ⟨h.rule,h.m1,h.m2,h.n5,h.ps,h.ll,by rw[afT];exact h.hl,h.lb,λx hx=>(mem_set hx).elim (h.hb x) (λe=>by rw[e];exact hv),h.cb,h.L0,h.W5⟩
def Good.lg(h:Good M)(hi:i<M.nP):M.likes.getD i 0<2^M.nP:=h.lb _ (by
 have h1:i<M.likes.length:=by rw[h.ll];exact hi
 simp_all)
def Good.il(h:Good M)(hi:i<M.nP):M.hates.getD i 0<2^M.nP:=h.hb _ (by
 have h1:i<M.hates.length:=by rw[h.hl];exact hi
 simp_all)
def DI(M:Sm)(i v:Nat):Sm:={M with likes:=M.likes.set i v}
def GK(M:Sm)(i v:Nat):Sm:={M with hates:=M.hates.set i v}
def AD.aef{v:Nat}(hO:AD aD Hb H a M)(S:BV aD H a dx pl ll hl ho ps M)(f1:Hb pl=none)(f2:Hb ll=none)(f3:Hb hl=none)(n1:pl≠ll)(n2:pl≠hl)(n3:ll≠hl)(n4:pl≠ho)(n5:ll≠ho)(n6:hl≠ho/\Hb ho=none)(hv:v<2^M.nP):AD aD Hb (upd H ll (.lst ((nums M.likes).set i (.int (v:Int))))) a (DI M i v)/\BV aD (upd H ll (.lst ((nums M.likes).set i (.int (v:Int))))) a dx pl ll hl ho ps (DI M i v):=by rw[sS];have S1:=S.rm n1 n3 n5 (M.likes.set i v);exact⟨⟨⟨dx,pl,ll,hl,ho,ps,S1,f1,f2,f3,n1,n2,n3,n4,n5,n6⟩,hO.fr,hO.good.rm hv,hO.Dx.aL f2 (aw S.ll RR),hO.tabs⟩,S1⟩
def AD.abb{v:Nat}(hO:AD aD Hb H a M)(S:BV aD H a dx pl ll hl ho ps M)(f1:Hb pl=none)(f2:Hb ll=none)(f3:Hb hl=none)(n1:pl≠ll)(n2:pl≠hl)(n3:ll≠hl)(n4:pl≠ho)(n5:ll≠ho)(n6:hl≠ho/\Hb ho=none)(hv:v<2^M.nP):AD aD Hb (upd H hl (.lst ((nums M.hates).set i (.int (v:Int))))) a (GK M i v)/\BV aD (upd H hl (.lst ((nums M.hates).set i (.int (v:Int))))) a dx pl ll hl ho ps (GK M i v):=by rw[sS];have S1:=S.gO n2 n3 n6.1 (M.hates.set i v);exact⟨⟨⟨dx,pl,ll,hl,ho,ps,S1,f1,f2,f3,n1,n2,n3,n4,n5,n6⟩,hO.fr,hO.good.gO hv,hO.Dx.aL f3 (aw S.hl RR),hO.tabs⟩,S1⟩
def DA(M:Sm)(i j:Nat):Sm×Am:=if i=j then(M,[-22])else if(M.likes.getD i 0).testBit j=true then(M,[-17])else BF (DI M i (M.likes.getD i 0||| 2^j))
def EW(M:Sm)(i j:Nat)(f:Nat->Nat->Nat):Sm:=
 let M1:=GK M i (f (M.hates.getD i 0) j)
 GK M1 j (f (M1.hates.getD j 0) i)
def DB(M:Sm)(i j:Nat):Sm×Am:=if i=j then(M,[-22])else if(M.hates.getD i 0).testBit j=true then(M,[-17])else BF (EW M i j λa k=>a||| 2^k)
def Cj(M:Sm)(i j:Nat):Sm×Am:=if(M.likes.getD i 0||| M.hates.getD i 0).testBit j=true then BF (EW (DI M i (L7 (M.likes.getD i 0) j)) i j L7)else(M,[-6])
def vF(T:Txt kK mg aD base)(i j:Nat):Ab P w kK mg base 7 "add_like" (HG aD [.int i,.int j] (λM=>DA M i j) λ_ M=>i<M.nP/\j<M.nP):=by
 refine bt T.d.RH vh ?_;rintro bo H vs Q E hr ⟨a,v,Hb,M,rfl,hO,hv,⟨hi,hj⟩,q⟩;have D0:=hO.Dx.lst hv;have q:HH aD Hb a (DA M i j).1 (DA M i j).2 Q:=q;unfold DA at q;have h5:=hO.good.n5;refine ag<|aW<|aV bO (aJ _)<|aH 1 0 D0 RR<|aH 1 1 D0 RR ⟨RR,_,RR,?_⟩;by_cases e:i=j;·rw[decide_eq_true (by rw[e])];rw[if_pos e]at q;exact ah<|aj<|ay<|aa<|au T.c.Dv RR<|ab ⟨bq,λr hr=>q r _ (hO.mono (Aa.ax hr)) (hO.Dx.free hr) ae⟩
 rw[decide_eq_false (by intro z;injection z with z;omega)];rw[if_neg e]at q;obtain⟨dx,pl,ll,hl,ho,ps,S,f1,f2,f3,n1,n2,n3,n4,n5,n6⟩:=hO.ex;refine aA<|ag<|aW<|aO<|ao (gQ T) hr<|oo 0 S hO.good T<|aH 1 0 D0 RR ⟨i,RR,hi,Aa.refl _,aa<|aH 1 1 D0 RR<|ab ⟨_,j,RR,by omega,_,RR,?_⟩⟩;refine ite_bool (λe1=>?_) (λe1=>?_);·rw[if_pos e1]at q;exact ah<|aj<|ay<|aa<|au T.c.O0 RR<|ab ⟨bq,λr hr=>q r _ (hO.mono (Aa.ax hr)) (hO.Dx.free hr) ae⟩
 rw[if_neg (by rw[e1];exact ae0)]at q;have L4:i<M.likes.length:=by rw[hO.good.ll];exact hi
 refine aA<|ag<|fI dU zY set_list<|aE 0 S T T.m.BC eX<|aH 1 0 D0 RR ⟨ll,_,i,_,RR,RR,Aj.of S.ll,aU (getD_at L4),ao (iI T) hr<|aH 1 1 D0 RR<|ab ⟨j,RR,by omega,_,_,RR,RR,ll,_,_,i,RR,RR,S.ll,fT (by rw[aq];exact L4),?_⟩⟩;rw[dm,q_];have Hr:=hO.aef (i:=i) S f1 f2 f3 n1 n2 n3 n4 n5 n6 (sR (hO.good.lg hi) hj);exact ah<|aj<|ao (fv T) hr<|af 0<|ab ⟨a,Hb,_,RR,Hr.1,q⟩
def vG(T:Txt kK mg aD base)(i j:Nat):Ab P w kK mg base 7 "add_hate" (HG aD [.int i,.int j] (λM=>DB M i j) λ_ M=>i<M.nP/\j<M.nP):=by
 refine bt T.d.RI vi ?_;rintro bo H vs Q E hr ⟨a,v,Hb,M,rfl,hO,hv,⟨hi,hj⟩,q⟩;have D0:=hO.Dx.lst hv;have q:HH aD Hb a (DB M i j).1 (DB M i j).2 Q:=q;unfold DB at q;have h5:=hO.good.n5;refine ag<|aW<|aV bO (aJ _)<|aH 1 0 D0 RR<|aH 1 1 D0 RR ⟨RR,_,RR,?_⟩;by_cases e:i=j;·rw[decide_eq_true (by rw[e])];rw[if_pos e]at q;exact ah<|aj<|ay<|aa<|au T.c.Dv RR<|ab ⟨bq,λr hr=>q r _ (hO.mono (Aa.ax hr)) (hO.Dx.free hr) ae⟩
 rw[decide_eq_false (by intro z;injection z with z;omega)];rw[if_neg e]at q;obtain⟨dx,pl,ll,hl,ho,ps,S,f1,f2,f3,n1,n2,n3,n4,n5,n6⟩:=hO.ex;refine aA<|ag<|aW<|aO<|ao (gQ T) hr<|kz 0 S hO.good T<|aH 1 0 D0 RR ⟨i,RR,hi,Aa.refl _,aa<|aH 1 1 D0 RR<|ab ⟨_,j,RR,by omega,_,RR,?_⟩⟩;refine ite_bool (λe1=>?_) (λe1=>?_);·rw[if_pos e1]at q;exact ah<|aj<|ay<|aa<|au T.c.O0 RR<|ab ⟨bq,λr hr=>q r _ (hO.mono (Aa.ax hr)) (hO.Dx.free hr) ae⟩
 rw[if_neg (by rw[e1];exact ae0)]at q;have L4:i<M.hates.length:=by rw[hO.good.hl];exact hi
 have NH:=hO.Dx.lst hv;refine aA<|ag<|fI dU zY set_list<|aE 0 S T T.m.Ba dc<|aH 1 0 D0 RR ⟨hl,_,i,_,RR,RR,Aj.of S.hl,aU (getD_at L4),ao (iI T) hr<|aH 1 1 D0 RR<|ab ⟨j,RR,by omega,_,_,RR,RR,hl,_,_,i,RR,RR,S.hl,fT (by rw[aq];exact L4),?_⟩⟩;rw[dm,q_];obtain⟨Hr,S1⟩:=hO.abb (i:=i) S f1 f2 f3 n1 n2 n3 n4 n5 n6 (sR (hO.good.il hi) hj);have NH:=Hr.Dx.lst hv;have S9:j<(GK M i (M.hates.getD i 0||| 2^j)).hates.length:=by rw[Hr.good.hl];exact hj
 refine ag<|fI dU zY set_list<|aE 0 S1 T T.m.Ba dc<|aH 1 1 NH RR ⟨hl,_,j,_,RR,RR,Aj.of S1.hl,aU (getD_at S9),ao (iI T) hr<|aH 1 0 NH RR<|ab ⟨i,RR,by omega,_,_,RR,RR,hl,_,_,j,RR,RR,S1.hl,fT (by rw[aq];exact S9),?_⟩⟩;rw[dm,q_];obtain⟨Er,S2⟩:=Hr.abb (i:=j) S1 f1 f2 f3 n1 n2 n3 n4 n5 n6 (sR (Hr.good.il hj) hi);exact ah<|aj<|ao (fv T) hr<|af 0<|ab ⟨a,Hb,_,RR,Er,q⟩
def aaT(T:Txt kK mg aD base)(i j:Nat):Ab P w kK mg base 7 "forget" (HG aD [.int i,.int j] (λM=>Cj M i j) λ_ M=>i<M.nP/\j<M.nP):=by
 refine bt T.d.forget nW ?_;rintro bo H vs Q E hr ⟨a,v,Hb,M,rfl,hO,hv,⟨hi,hj⟩,q⟩;have D0:=hO.Dx.lst hv;have q:HH aD Hb a (Cj M i j).1 (Cj M i j).2 Q:=q;unfold Cj at q;have h5:=hO.good.n5;obtain⟨dx,pl,ll,hl,ho,ps,S,f1,f2,f3,n1,n2,n3,n4,n5,n6⟩:=hO.ex;refine ag<|aP 2 nW.sc.nd<|aH 1 0 D0 RR<|ag<|aP 3 nW.sc.nd<|aH 1 1 D0 RR<|ag<|aW<|cH<|aO<|ao (gQ T) hr<|a0 aer<|oo 0 S hO.good T<|af 2 ⟨i,RR,hi,Aa.refl _,kz 0 S hO.good T<|af 2 ⟨i,RR,hi,Aa.refl _,_,_,RR,RR,aa<|af 3<|ab ⟨M.likes.getD i 0||| M.hates.getD i 0,j,by rw[<-q_];rfl,by omega,_,RR,?_⟩⟩⟩;refine ite_bool (λe1=>?_) (λe1=>?_);·rw[if_neg (by intro z;rw[z]at e1;cases e1)]at q;exact ah<|aj<|ay<|aa<|au T.c.G0 RR<|ab ⟨bq,λr hr=>q r _ (hO.mono (Aa.ax hr)) (hO.Dx.free hr) ae⟩
 rw[if_pos (wc e1)]at q;have L4:i<M.likes.length:=by rw[hO.good.ll];exact hi
 refine aA<|ag<|fI dU uZ set_list<|aE 0 S T T.m.BC eX<|af 2 ⟨ll,_,i,_,RR,RR,Aj.of S.ll,aU (getD_at L4),wF uw<|ao (iI T) hr<|af 3<|ab ⟨j,RR,by omega,_,RR,_,_,RR,RR,ll,_,_,i,RR,RR,S.ll,fT (by rw[aq];exact L4),?_⟩⟩;rw[rZ];obtain⟨Hr,S1⟩:=hO.aef (i:=i) S f1 f2 f3 n1 n2 n3 n4 n5 n6 (lG (j:=j) (hO.good.lg hi));have Yj:i<(DI M i (L7 (M.likes.getD i 0) j)).parties.length:=hi;have Yi:j<(DI M i (L7 (M.likes.getD i 0) j)).parties.length:=hj;generalize DI M i (L7 (M.likes.getD i 0) j)=M1 at*;have L4:i<M1.hates.length:=by rw[Hr.good.hl];exact Yj
 refine ag<|fI dU uZ set_list<|aE 0 S1 T T.m.Ba dc<|af 2 ⟨hl,_,i,_,RR,RR,Aj.of S1.hl,aU (getD_at L4),wF uw<|ao (iI T) hr<|af 3<|ab ⟨j,RR,by omega,_,RR,_,_,RR,RR,hl,_,_,i,RR,RR,S1.hl,fT (by rw[aq];exact L4),?_⟩⟩;rw[rZ];obtain⟨Er,S2⟩:=Hr.abb (i:=i) S1 f1 f2 f3 n1 n2 n3 n4 n5 n6 (lG (j:=j) (Hr.good.il Yj));have S9:j<(GK M1 i (L7 (M1.hates.getD i 0) j)).hates.length:=by rw[Er.good.hl];exact Yi
 refine ag<|fI dU uZ set_list<|aE 0 S2 T T.m.Ba dc<|af 3 ⟨hl,_,j,_,RR,RR,Aj.of S2.hl,aU (getD_at S9),wF uw<|ao (iI T) hr<|af 2<|ab ⟨i,RR,by omega,_,RR,_,_,RR,RR,hl,_,_,j,RR,RR,S2.hl,fT (by rw[aq];exact S9),?_⟩⟩;rw[rZ];obtain⟨Xl,S3⟩:=Er.abb (i:=j) S2 f1 f2 f3 n1 n2 n3 n4 n5 n6 (lG (j:=i) (Er.good.il Yi));exact ah<|aj<|ao (fv T) hr<|af 0<|ab ⟨a,Hb,_,RR,Xl,q⟩
def jt(h:stands M g=true):1<=g:=by unfold stands at h;grind
def DC(M:Sm)(g:Nat):Sm×Am:=if M.Af≠0 then(M,[-16])else if stands M g=true then(CQ M g,(M.offices:Int)::(CQ M g).holders.map λ(n:Nat)=>(n:Int))else(M,[-33])
def Ci(M:Sm)(i:Nat):Sm×Am:=if M.Af.testBit i=true then(if stands M (M.Af-2^i)=true then(CQ M (M.Af-2^i),[0])else(gone M,[1]))else(M,[-6])
def Cg(M:Sm):Sm×Am:=if M.Af=0 then(M,[-6])else(gone M,[(M.Af:Int)])
def ad1(T:Txt kK mg aD base)(g:Nat):Ab P w kK mg base 22 "form" (HG aD [.int g] (λM=>DC M g) λ_ M=>g<=As M):=by
 refine bt T.d.form adz ?_;rintro bo H vs Q E hr ⟨a,v,Hb,M,rfl,hO,hv,hg,q⟩;have D0:=hO.Dx.lst hv;have q:HH aD Hb a (DC M g).1 (DC M g).2 Q:=q;unfold DC at q;obtain⟨dx,pl,ll,hl,ho,ps,S,_⟩:=hO.ex;refine ag<|aW<|aV qh (aJ _)<|aE 0 S T T.m.Aq bf<|au T.c.Dk RR ⟨RR,_,RR,?_⟩;by_cases hc:M.Af=0;rotate_left;·rw[decide_eq_false (by intro z;injection z with z;omega)];rw[if_pos hc]at q;exact ah<|aj<|ay<|aa<|au T.c.NA RR<|ab ⟨bq,λr hr=>q r _ (hO.mono (Aa.ax hr)) (hO.Dx.free hr) ae⟩
 rw[decide_eq_true (by rw[hc];rfl)];rw[if_neg (λz=>z hc)]at q;refine aA<|ag<|aW<|cH<|aO<|ao (iE T) hr<|af 0<|aa<|aH 1 0 D0 RR<|ab ⟨a,M,g,RR,hO.at_,λH1 s1=>⟨_,RR,?_⟩⟩;have Hr:=hO.mono s1;refine ite_bool (λe=>?_) (λe=>?_);·rw[if_neg (by intro z;rw[z]at e;cases e)]at q;exact ah<|aj<|ay<|aa<|au T.c.DV RR<|ab ⟨bq,λr hr=>q r _ (Hr.mono (Aa.ax hr)) (Hr.Dx.free hr) ae⟩
 have e':=wc e;rw[if_pos e']at q;refine aA<|ag<|eV<|ao (qA T) hr<|af 0<|aa<|aH 1 0 (s1.lst D0) RR<|ab ⟨a,Hb,M,g,RR,Hr,jt e',hg,λH2 Er=>?_⟩;obtain⟨dx2,X3,ll2,Rm,U_,ps2,S2,_⟩:=Er.ex;refine ah<|aj<|a0 eE<|ay<|aa<|aE 0 S2 T T.m.AS bX<|ab ⟨bq,λr hr=>?_⟩;have s3:Aa H2 (upd H2 r (.lst [.int ((CQ M g).offices:Int)])):=Aa.ax hr;have er:upd H2 r (.lst [.int ((CQ M g).offices:Int)]) r=some (.lst [.int ((CQ M g).offices:Int)]):=ae;have Xl:=Er.mono s3;have S3:=S2.mono s3;refine aE 0 S3 T T.m.Bv hJ ⟨r,U_,_,_,RR,RR,er,S3.ho,?_,λp hp=>?_⟩;·have:=Xl.good.L0;rw[aq];exact small (k:=6) (by show 1+_<=6;omega)
 ·refine q p _ (Xl.mono (Aa.ax hp)) (Xl.Dx.free hp) ?_;rw[ae,afq,afr];rfl
def aaS(T:Txt kK mg aD base)(i:Nat):Ab P w kK mg base 22 "leaves" (HG aD [.int i] (λM=>Ci M i) λ_ M=>i<M.nP):=by
 refine bt T.d.leaves tP ?_;rintro bo H vs Q E hr ⟨a,v,Hb,M,rfl,hO,hv,hi,q⟩;have D0:=hO.Dx.lst hv;have q:HH aD Hb a (Ci M i).1 (Ci M i).2 Q:=q;unfold Ci at q;have h5:=hO.good.n5;obtain⟨dx,pl,ll,hl,ho,ps,S,_⟩:=hO.ex;refine ag<|aW<|cH<|aO<|ao (gQ T) hr<|aE 0 S T T.m.Aq bf<|aa<|aH 1 0 D0 RR<|ab ⟨_,i,RR,by omega,_,RR,?_⟩;refine ite_bool (λe=>?_) (λe=>?_);·rw[if_neg (by intro z;rw[z]at e;cases e)]at q;exact ah<|aj<|ay<|aa<|au T.c.G0 RR<|ab ⟨bq,λr hr=>q r _ (hO.mono (Aa.ax hr)) (hO.Dx.free hr) ae⟩
 have e':=wc e;rw[if_pos e']at q;have hle:2^i<=M.Af:=ahk e';have hcb:=hO.good.cb;have hev:=dF M;have sb:(M.Af:Int)-2^i=((M.Af-2^i:Nat):Int):=by rw[dm];omega
 refine aA<|ag<|aP 2 tP.sc.nd<|a0 fP<|aE 0 S T T.m.Aq bf<|ao (iI T) hr<|aH 1 0 D0 RR<|ab ⟨i,RR,by omega,_,_,RR,RR,?_⟩;rw[show(λi j:Int=>V.int (i-j)) (M.Af:Int) (2^i)=V.int ((M.Af-2^i:Nat):Int) by rw[<-sb]];refine ag<|aW<|cH<|aO<|ao (iE T) hr<|af 0<|aa<|af 2<|ab ⟨a,M,_,RR,hO.at_,λH1 s1=>⟨_,RR,?_⟩⟩;have Hr:=hO.mono s1;refine ite_bool (λe2=>?_) (λe2=>?_);·rw[if_neg (by intro z;rw[z]at e2;cases e2)]at q;refine ag<|eV<|ao (lM T) hr<|af 0<|ab ⟨a,Hb,M,RR,Hr,λH2 Er=>?_⟩;exact ah<|aj<|ay<|aa<|aG<|ab ⟨bq,λr hr=>q r _ (Er.mono (Aa.ax hr)) (Er.Dx.free hr) ae⟩
 have e2':=wc e2;rw[if_pos e2']at q;refine aA<|ag<|eV<|ao (qA T) hr<|af 0<|aa<|af 2<|ab ⟨a,Hb,M,_,RR,Hr,jt e2',afe (ag3 ..) (Nat.le_of_lt_succ (by rw[Nat.succ_eq_add_one,hev];exact hcb)),λH2 Er=>?_⟩;exact ah<|aj<|ay<|aa<|aG<|ab ⟨bq,λr hr=>q r _ (Er.mono (Aa.ax hr)) (Er.Dx.free hr) ae⟩
def aaR(T:Txt kK mg aD base):Bx P w T 2 "resign" (HG aD [] (λM=>Cg M) λ_ _=>True):=by
 refine bt T.d.resign tO ?_;rintro bo H vs Q E hr ⟨a,v,Hb,M,rfl,hO,hv,_,q⟩;have q:HH aD Hb a (Cg M).1 (Cg M).2 Q:=q;unfold Cg at q;obtain⟨dx,pl,ll,hl,ho,ps,S,_⟩:=hO.ex;refine ag<|aW<|aV bO (aJ _)<|aE 0 S T T.m.Aq bf<|au T.c.Dk RR ⟨RR,_,RR,?_⟩;by_cases hc:M.Af=0;·rw[decide_eq_true (by rw[hc];rfl)];rw[if_pos hc]at q;exact ah<|aj<|ay<|aa<|au T.c.G0 RR<|ab ⟨(by decide),λr hr=>q r _ (hO.mono (Aa.ax hr)) (hO.Dx.free hr) ae⟩
 rw[decide_eq_false (by intro z;injection z with z;omega)];rw[if_neg hc]at q;refine aA<|ag<|aP 2 tO.sc.nd<|aE 0 S T T.m.Aq bf<|ag<|eV<|ao (lM T) hr<|af 0<|ab ⟨a,Hb,M,RR,hO,λH2 Er=>?_⟩;exact ah<|aj<|ay<|aa<|af 2<|ab ⟨bq,λr hr=>q r _ (Er.mono (Aa.ax hr)) (Er.Dx.free hr) ae⟩
section
open PySem PySem.Spec PyProof.Rows PySem.Calls PyProof.V
def vT{D:DY}(T:KTD.TabOf R s.heap d D)
  (h1:∀y v,KTD.datumAt k D=some y->R y v->Q (some v) {s with toks:=s.toks+1})(h2:KTD.datumAt k D=none->Q none {s with toks:=s.toks+1}):wpAny (model P w) A (dictGet d (.str k tk)) Q E s:=by
 obtain⟨_,o,ent,ep,ho,hc,hd,hr⟩:=T;unfold dictGet;refine wpAny_bind (wpAny_pyHash_str (wpAny_bind (KTD.kt_dictFind_strs (s:={s with toks:=s.toks+1}) ho hd (by obtain⟨l⟩:=ent;simpa using hr.exact) ?_)));have hq:Q (findBy (λk v=>v.isStr k) ent k) {s with toks:=s.toks+1}:=by
  have hf:findBy (λk v=>v.isStr k) ent k=(ent.toList.find? λe=>e.key.isStr k).map (·.val):=by obtain⟨l⟩:=ent;simp[findBy]
  rw[hf];cases gO:KTD.datumAt k D with
  |some y=>obtain⟨v,hv,hfl⟩:=hr.find_some gO;rw[hv];exact h1 y v gO hfl
  |none=>rw[hr.find_none gO];exact h2 gO
 rw[findBy_of_findIdx?]at hq;cases hi:ent.findIdx? λe=>e.key.isStr k with
 |none=>rw[hi]at hq;exact wpAny_pure hq
 |some i=>rw[hi]at hq;exact wpAny_bind (wpAny_dictEntries (s:={s with toks:=s.toks+1}) ho hd (wpAny_pure hq))
def fb{s:Shared}{D:DY}(T:KTD.TabOf R s.heap d D):s.TypeIs (.ref d) "dict" :=let⟨_,o,_,_,ho,hc,_⟩:=T;⟨o,ho,hc.1⟩
def gc:Eu X (compareOp .In) (λx y H Q=>∃d,x= .str k/\y= .ref d/\KTD.TabOf (λy v=>X.mg y=some v) X.base d D/\Q (.bl (KTD.inKeys k D)) H):=by
 intro pins s σ H x y v u Q I rx ry h;obtain⟨d,rfl,rfl,hT,q⟩:=h;obtain⟨t,rfl⟩:=rx;obtain rfl:u=Value.ref d:=ry;have T:=hT.keep I.bk (R':=λy v=>X.mg y=some v) (λ_ _ z=>z);have fin:∀b,KTD.inKeys k D=b->EP X pins σ Q (.bool b) {s with toks:=s.toks+1}:=λb e=>by subst e;exact⟨.bl _,H,I.tok _,RR,q⟩
 refine wpAny_bind ?_;unfold contains;try(with_reducible refine wpAny_holding ?_)
 refine wpAny_bind (wpAny_specialOf (fb T) slot_dict_contains.lookup ?_);rw[if_neg (by rw[beq_builtin_none];exact ae0)];refine wpAny_bind (wpAny_callSpecialUnlessNone?_slot (name:=Str.ofString "__contains__") (fb T) slot_dict_contains (wpAny_call_entry slot_dict_contains (fb T) entry_dict_contains ?_ (args_dict_contains _ _)));show wpAny _ _ (dictGet d (.str k t)>>=_) _ _ s;refine wpAny_bind (vT T (λy v ha _=>?_) λhn=>?_)
 ·have hb:KTD.inKeys k D=true:=by rw[<-KTD.isSome_datumAt,ha];rfl
  show wpAny _ _ (ret (.bool true)) _ _ _;exact wpAny_pure ⟨_,RR,wpAny_truthy_bool (wpAny_pure (fin _ hb))⟩
 ·have hb:KTD.inKeys k D=false:=by rw[<-KTD.isSome_datumAt,hn];rfl
  exact wpAny_bind (wpAny_pendingKey_other T.1 (wpAny_pure ⟨_,RR,wpAny_truthy_bool (wpAny_pure (fin _ hb))⟩))
def adF{p1 p2:Pos}(hg:Gl X x)(hT:Gk X.base X.mg x D)(hz:KTD.datumAt key D=some z)(h:Ev X b σ H λy H1=>y= .str key/\∀f,X.mg z=some (.ref f)->Q (.ref f) H1)(hm:∃f,X.mg z=some (.ref f))
  (hs:RL b:=by intro _ _;rfl)(hd:GY x:=by decide):Ev X (.Subscript (.Name x p1) b p2) σ H Q:=by
 obtain⟨d,hmd,T⟩:=hT;obtain⟨f,hf⟩:=hm;refine⟨λpins s I=>vU ahi.lookup hs (c7 ((kC (v:=.ref d) (Q:=λv H1=>v= .ref d/\H1=H) hg hmd RR ⟨RR,RR⟩ hd).run pins s I) λu s1 v H1 I1 r q=>?_)⟩;obtain⟨ev,eH⟩:=q;subst ev;subst eH;obtain rfl:u=Value.ref d:=r;refine c7 (h.run pins s1 I1) λiv s2 y H2 I2 ry q=>?_;obtain⟨ey,q⟩:=q;subst ey;obtain⟨t,rfl⟩:=ry;have T2:=T.keep I2.bk (λ_ _ z=>z);refine⟨fb T2,?_⟩;unfold getItem;try(with_reducible refine wpAny_holding ?_)
 refine wpAny_bind (wpAny_sequenceKey (fb T2) (by decide) ?_);refine wpAny_bind (wpAny_callSpecial?_slot (fb T2) slot_dict_getitem (wpAny_call_entry slot_dict_getitem (fb T2) entry_dict_getitem ?_ (args_dict_getitem _ _)));show wpAny _ _ (dictGet d (.str key t)>>=_) _ _ s2;refine wpAny_bind (vT T2 (λy v ha hv=>?_) λhn=>by rw[hz]at hn;cases hn);rw[hz]at ha;cases ha;rw[hf]at hv;cases hv;exact wpAny_pure ⟨_,RR,wpAny_pure ⟨.ref f,H2,I2.tok _,RR,q f hf⟩⟩
def c_{pos p1 p2:Pos}(C:Ab X.prog X.w X.K X.mg X.base k z sp)(hr:Bm k X.A)(hg:Gl X x)(hT:Gk X.base X.mg x D)(hz:KTD.datumAt key D=some z)(h:Ev X b σ H λy H1=>y= .str key/\Ea X (e::es) σ H1 λvs H2=>sp vs H2 Q E0)
  (hs:RL b:=by intro _ _;rfl)(hd:GY x:=by decide)
  (he:Nu X e es:=by rfl)(B8:Om X pos es:=by rfl):Ev X (.Call (.Subscript (.Name x p1) b p2) (e::es) [] pos) σ H Q:=by obtain⟨f,fd,ps,hm,hk,hb,F⟩:=C.ex;refine⟨λpins s I=>?_⟩;refine wpAny_bind (c7 ((adF (Q:=λv H1=>v= .ref f/\Ea X (e::es) σ H1 λvs H2=>sp vs H2 Q E0) hg hT hz (h.mono λy H1 ⟨ey,q⟩=>⟨ey,λg hg'=>⟨by grind,q⟩⟩) ⟨f,hm⟩ hs hd).run pins s I) λu s1 v H1 I1 r q=>?_);obtain⟨ev,q⟩:=q;subst ev;obtain rfl:u=Value.ref f:=r;refine callWith_K I1.ok.mod.TX hk (oW (q.run pos pins s1 I1) λus s2 vs H2 I2 r2 q2=>⟨I2.rq,?_⟩) he B8;exact qS F hr hb .nil qg I2 r2 (by rw[af4];exact q2)
end
def O9(D:DY):Sp:=λvs H Q _=>RP λk:Str=>RV (vs=[.str k]) (Q (.bl (KTD.inKeys k D)) H)
def i0(hg:Gl X x)(h:Gk X.base X.mg x D)(q:∀d,KTD.TabOf (λy v=>X.mg y=some v) X.base d D->Q (.ref d) H)(hd:GY x:=by decide):Ev X (.Name x pos) σ H Q:=by obtain⟨d,hm,T⟩:=h;exact kC (v:=.ref d) hg hm RR (q d T) hd
def oB(T:Txt kK mg aD base):Bx P w T 1 "is_vote_call" (O9 Ce):=by refine bt T.d.LV nT ?_;rintro bo H vs Q E hr ⟨k,e,q⟩;subst e;exact ah<|aj<|bh gc (by rfl)<|af 0<|i0 RR T.l.J_ λd hd=>⟨d,RR,RR,hd,q⟩
def oC(T:Txt kK mg aD base):Bx P w T 1 "is_line_call" (O9 Cf):=by refine bt T.d.LW nU ?_;rintro bo H vs Q E hr ⟨k,e,q⟩;subst e;exact ah<|aj<|bh gc (by rfl)<|af 0<|i0 RR T.l.Kb λd hd=>⟨d,RR,RR,hd,q⟩
def lK(T:Txt kK mg aD base):Bx P w T 1 "is_office_call" (O9 BS):=by refine bt T.d.JS lu ?_;rintro bo H vs Q E hr ⟨k,e,q⟩;subst e;exact ah<|aj<|bh gc (by rfl)<|af 0<|i0 RR T.l.HA λd hd=>⟨d,RR,RR,hd,q⟩
def kN(T:Txt kK mg aD base):Bx P w T 1 "is_sharing_call" (O9 BH):=by refine bt T.d.IZ kh ?_;rintro bo H vs Q E hr ⟨k,e,q⟩;subst e;exact ah<|aj<|bh gc (by rfl)<|af 0<|i0 RR T.l.GH λd hd=>⟨d,RR,RR,hd,q⟩
def ja(T:Txt kK mg aD base):Bx P w T 1 "is_coalition_call" (O9 Bp):=by refine bt T.d.Hm i8 ?_;rintro bo H vs Q E hr ⟨k,e,q⟩;subst e;exact ah<|aj<|bh gc (by rfl)<|af 0<|i0 RR T.l.Fi λd hd=>⟨d,RR,RR,hd,q⟩
def ui(T:Txt kK mg aD base):Bx P w T 1 "is_change" (O9 BU):=by refine bt T.d.PF tQ ?_;rintro bo H vs Q E hr ⟨k,e,q⟩;subst e;exact ah<|aj<|bh gc (by rfl)<|af 0<|i0 RR T.l.OZ λd hd=>⟨d,RR,RR,hd,q⟩
def Fu(P:Program)(w:World)(K:Frag)(mg:B3)(base:Heap)(kk:Nat)(D:DY):Sp:=λvs H Q _=>FX λ(a v:V) (key z:Str) (sp:Sp)=>BO (vs=[a,.str key,v]) (KTD.datumAt key D=some z) (Ab P w K mg base kk z sp) (sp [a,v] H Q E0)
def jK(T:Txt kK mg aD base):Bx P w T (kk+1) "answer_vote_call" (Fu P w kK mg base kk Ce):=by refine bt T.d.HW jC ?_;rintro bo H vs Q E hr ⟨a,v,key,z,sp,e,hz,C,q⟩;subst e;exact ah<|aj<|c_ C hr RR T.l.J_ hz<|af 1 ⟨RR,aa<|af 0<|aa<|af 2<|ab q⟩
def jN(T:Txt kK mg aD base):Bx P w T (kk+1) "answer_line_call" (Fu P w kK mg base kk Cf):=by refine bt T.d.HZ jE ?_;rintro bo H vs Q E hr ⟨a,v,key,z,sp,e,hz,C,q⟩;subst e;exact ah<|aj<|c_ C hr RR T.l.Kb hz<|af 1 ⟨RR,aa<|af 0<|aa<|af 2<|ab q⟩
def iJ(T:Txt kK mg aD base):Bx P w T (kk+1) "answer_office_call" (Fu P w kK mg base kk BS):=by refine bt T.d.GW iz ?_;rintro bo H vs Q E hr ⟨a,v,key,z,sp,e,hz,C,q⟩;subst e;exact ah<|aj<|c_ C hr RR T.l.HA hz<|af 1 ⟨RR,aa<|af 0<|aa<|af 2<|ab q⟩
def gU(T:Txt kK mg aD base):Bx P w T (kk+1) "answer_sharing_call" (Fu P w kK mg base kk BH):=by refine bt T.d.Gi gS ?_;rintro bo H vs Q E hr ⟨a,v,key,z,sp,e,hz,C,q⟩;subst e;exact ah<|aj<|c_ C hr RR T.l.GH hz<|af 1 ⟨RR,aa<|af 0<|aa<|af 2<|ab q⟩
def gA(T:Txt kK mg aD base):Bx P w T (kk+1) "answer_coalition_call" (Fu P w kK mg base kk Bp):=by refine bt T.d.Fo gu ?_;rintro bo H vs Q E hr ⟨a,v,key,z,sp,e,hz,C,q⟩;subst e;exact ah<|aj<|c_ C hr RR T.l.Fi hz<|af 1 ⟨RR,aa<|af 0<|aa<|af 2<|ab q⟩
def gW(T:Txt kK mg aD base):Bx P w T (kk+1) "answer_looking_call" (Fu P w kK mg base kk B1):=by refine bt T.d.Gj gT ?_;rintro bo H vs Q E hr ⟨a,v,key,z,sp,e,hz,C,q⟩;subst e;exact ah<|aj<|c_ C hr RR T.l.K6 hz<|af 1 ⟨RR,aa<|af 0<|aa<|af 2<|ab q⟩
def pN(T:Txt kK mg aD base):Bx P w T (kk+1) "make_change" (Fu P w kK mg base kk BU):=by refine bt T.d.MX pF ?_;rintro bo H vs Q E hr ⟨a,v,key,z,sp,e,hz,C,q⟩;subst e;exact ah<|aj<|c_ C hr RR T.l.OZ hz<|af 1 ⟨RR,aa<|af 0<|aa<|af 2<|ab q⟩
def JZ:DY:=Ce++(Cf++(BS++(BH++(Bp++B1))))
def e9:∀{A B:DY},KTD.datumAt k (A++B)=if KTD.inKeys k A=true then KTD.datumAt k A else KTD.datumAt k B
 |[],B=>by simp[KTD.inKeys]
 |(x,d)::A,B=>by
  show KTD.datumAt k ((x,d)::(A++B))=_;have e1:∀L:DY,KTD.datumAt k ((x,d)::L)=if decide (k=x)=true then some d else KTD.datumAt k L:=λ_=>rfl;have e2:KTD.inKeys k ((x,d)::A)=(decide (k=x)||KTD.inKeys k A):=rfl;rw[e1,e1,e2];by_cases e:k=x;·simp[e]
  ·simp only[e,decide_false,if_false];exact e9
def aeD(T:Txt kK mg aD base):Bx P w T (kk+2) "ask" (Fu P w kK mg base kk JZ):=by
 refine bt T.d.ask aew ?_;rintro bo H vs Q E hr ⟨a,v,key,z,sp,e,hz,C,q⟩;subst e;unfold JZ at hz;refine ag<|aW<|aO<|ao (oB T) hr<|af 1<|ab ⟨key,RR,_,RR,?_⟩;rw[e9]at hz;refine ite_bool (λe1=>?_) (λe1=>?_);·rw[if_pos e1]at hz;exact ah<|aj<|bQ (jK T) hr RR<|aa<|af 0<|aa<|af 1<|aa<|af 2<|ab ⟨a,v,key,z,sp,RR,hz,C,q⟩
 rw[if_neg (by rw[e1];exact ae0),e9]at hz;refine aA<|ag<|aW<|aO<|ao (oC T) hr<|af 1<|ab ⟨key,RR,_,RR,?_⟩;refine ite_bool (λe1=>?_) (λe1=>?_);·rw[if_pos e1]at hz;exact ah<|aj<|bQ (jN T) hr RR<|aa<|af 0<|aa<|af 1<|aa<|af 2<|ab ⟨a,v,key,z,sp,RR,hz,C,q⟩
 rw[if_neg (by rw[e1];exact ae0),e9]at hz;refine aA<|ag<|aW<|aO<|ao (lK T) hr<|af 1<|ab ⟨key,RR,_,RR,?_⟩;refine ite_bool (λe1=>?_) (λe1=>?_);·rw[if_pos e1]at hz;exact ah<|aj<|bQ (iJ T) hr RR<|aa<|af 0<|aa<|af 1<|aa<|af 2<|ab ⟨a,v,key,z,sp,RR,hz,C,q⟩
 rw[if_neg (by rw[e1];exact ae0),e9]at hz;refine aA<|ag<|aW<|aO<|ao (kN T) hr<|af 1<|ab ⟨key,RR,_,RR,?_⟩;refine ite_bool (λe1=>?_) (λe1=>?_);·rw[if_pos e1]at hz;exact ah<|aj<|bQ (gU T) hr RR<|aa<|af 0<|aa<|af 1<|aa<|af 2<|ab ⟨a,v,key,z,sp,RR,hz,C,q⟩
 rw[if_neg (by rw[e1];exact ae0),e9]at hz;refine aA<|ag<|aW<|aO<|ao (ja T) hr<|af 1<|ab ⟨key,RR,_,RR,?_⟩;refine ite_bool (λe1=>?_) (λe1=>?_);·rw[if_pos e1]at hz;exact ah<|aj<|bQ (gA T) hr RR<|aa<|af 0<|aa<|af 1<|aa<|af 2<|ab ⟨a,v,key,z,sp,RR,hz,C,q⟩
 rw[if_neg (by rw[e1];exact ae0)]at hz;exact aA<|ah<|aj<|bQ (gW T) hr RR<|aa<|af 0<|aa<|af 1<|aa<|af 2<|ab ⟨a,v,key,z,sp,RR,hz,C,q⟩
def Nb(M:Sm)(gs:Ae):Nat:=(gs.map λg=>(mem M g).length).sum
def Nr(M:Sm):Am:=zs [M.nP,M.rule,M.offices,Nb M M.likes,Nb M M.hates / 2,M.Af]
def DU(M:Sm):Am:=if M.Af=0 then[-6]else(M.Af:Int)::zs (five M.holders)
def Jn(M:Sm)(i:Nat):Am:=zs ([(pt M i).seats,(pt M i).x,(pt M i).y,(pt M i).carex,(pt M i).carey]++five (pt M i).worth)
def UE(ad:Ad):Sp:=λvs H Q _=>CO λ(a b:Addr) (M:Sm) (gs:Ae)=>B9 (vs=[.ref a,.ref b]) (Ai ad H a M) (H b=some (.lst (nums gs))) (gs.length<=5) (ET H (.int (Nb M gs:Nat)) Q)
def oE(T:Txt kK mg aD base):Bx P w T 4 "feelings" (UE aD):=by
 refine bt T.d.RA jB ?_;rintro bo H vs Q E hr ⟨a,b,M,gs,e,hS,hb,hl,q⟩;subst e;refine ah<|aj<|eM RR RR T.c.Fh<|bL (j:=2) (f:=λg=>.int ((mem M g).length:Nat)) RR jB.sc.nd (aB (by kernel_rfl)) (λ_ _ _ _ _=>cT 2 jB.sc.nd)<|
  aQ<|af 1 ⟨b,RR,⟨_,Aj.of hb⟩,gs,_,az (Aj.of hb),small hl,?_,?_⟩;·intro y hy H' sm s0 H0 C cl fp;exact aX RR T.c.AV<|ao (dg T) hr<|af 0<|aa<|af 2<|ab ⟨a,M,y,RR,hS.mono sm,λp H2 s2 hp e2=>⟨p,_,RR,Aj.of e2,s2,by rw[aq]⟩⟩
 ·intro D H' hD sm e;have e:H' D=some (.lst (nums (gs.map λg=>(mem M g).length))):=by rw[e];unfold nums;rw[afr];rfl
  exact⟨D,_,RR,Aj.of e,q H' sm⟩
def So(ad:Ad):Sp:=λvs H Q _=>Au λ(a:Addr) (M:Sm)=>Av (vs=[.ref a]) (Ai ad H a M) (C6 H ((Nr M).map V.int) Q)
def acg(T:Txt kK mg aD base):Bx P w T 5 "stock" (So aD):=by refine bt T.d.Wh rE ?_;rintro bo H vs Q E hr ⟨a,M,e,hS,q⟩;subst e;obtain⟨dx,pl,ll,hl,ho,ps,S⟩:=hS.ex;refine ag<|aP 1 rE.sc.nd<|ao (oE T) hr<|af 0<|aa<|aE 0 S T T.m.BC eX<|ab ⟨a,ll,M,_,RR,hS,S.ll,by rw[hS.good.ll];exact hS.good.n5,λH1 s1=>?_⟩;have S1:=S.mono s1;refine ag<|aP 2 rE.sc.nd<|a0 abB<|ao (oE T) hr<|af 0<|aa<|aE 0 S1 T T.m.Ba dc<|ab ⟨a,hl,M,_,RR,hS.mono s1,S1.hl,by rw[hS.good.hl];exact hS.good.n5,λH2 s2=>aG ⟨_,_,RR,RR,⟨by decide,by decide⟩,?_⟩⟩;have S2:=S1.mono s2;refine ah<|aj<|ay<|aa<|aX RR T.c.AV<|aE 0 S2 T T.m.Ac aI ⟨_,_,RR,Aj.of S2.pl,aa<|aE 0 S2 T T.m.CZ jT<|aa<|aE 0 S2 T T.m.AS bX<|aa<|af 1<|aa<|af 2<|aa<|aE 0 S2 T T.m.Aq bf<|ab ⟨aeL,λr hr=>?_⟩⟩;have sA:=s1.trans s2;refine q r _ (sA.aL (sA.free hr) (aM hr)) (sA.free hr) ?_;rw[ae,ae1,S2.len];rfl
def lP(T:Txt kK mg aD base):Bx P w T 2 "answer_governs" (GJ aD DU):=by
 refine bt T.d.J2 lA ?_;rintro bo H vs Q E hr ⟨a,v,M,l,e,hS,hv,q⟩;subst e;obtain⟨dx,pl,ll,hl,ho,ps,S⟩:=hS.ex;unfold DU at q;refine ag<|aW<|aV bO (aJ _)<|aE 0 S T T.m.Aq bf<|au T.c.Dk RR ⟨RR,_,RR,?_⟩;by_cases hc:M.Af=0;·rw[decide_eq_true (by rw[hc];rfl)];rw[if_pos hc]at q;exact ah<|aj<|ay<|aa<|au T.c.G0 RR<|ab ⟨bq,λr hr=>q r _ (Aa.ax hr) hr ae⟩
 rw[decide_eq_false (by intro z;injection z with z;omega)];rw[if_neg hc,afq,gB]at q;refine aA<|ah<|aj<|a0 eE<|ay<|aa<|aE 0 S T T.m.Aq bf<|ab ⟨bq,λp hp=>?_⟩;have s1:Aa H (upd H p (.lst [.int (M.Af:Int)])):=Aa.ax hp;have S1:=S.mono s1;refine ao (lL T) hr<|aE 0 S1 T T.m.Bv hJ<|ab ⟨ho,_,RR,S1.ho,hS.good.L0,λp3 H4 s4 ZY e4=>⟨p,p3,_,_,RR,RR,s4 _ _ ae,e4,?_,λr hr=>?_⟩⟩;·rw[aq];exact small (k:=10) (by unfold five;simp)
 ·have sA:=s1.trans s4;exact q r _ (sA.aL (sA.free hr) (aM hr)) (sA.free hr) ae
def pR(T:Txt kK mg aD base):Bx P w T 2 "answer_look" (UG aD Jn):=by
 refine bt T.d.Nn jh ?_;rintro bo H vs Q E hr ⟨a,v,M,i,e,hS,hv,hi,q⟩;subst e;obtain⟨dx,pl,ll,hl,ho,ps,S⟩:=hS.ex;unfold Jn at q;rw[gB]at q;have gp:=bU hS.good hi;refine ag<|aP 2 jh.sc.nd<|fG 0 S T<|aH 1 0 hv RR ⟨i,RR,hi,Aa.refl _,λb hb=>?_⟩;refine ah<|aj<|a0 eE<|a0 eE<|a0 eE<|ay<|aa<|cG T<|af 2 ⟨b,RR,hb,ab ⟨bq,λp1 Ln=>?_⟩⟩;have s1:Aa H (upd H p1 (.lst [.int ((pt M i).seats:Int)])):=Aa.ax Ln;refine br bC RR T.c.DT afF<|aa<|tY T<|af 2 ⟨b,RR,hb.mono s1,λt ht=>ab ⟨t,_,RR,.inr (Cd.of ht),λp2 Mq=>?_⟩⟩;have s2:=Aa.ax (o:=.lst [.int ((pt M i).x:Int),.int ((pt M i).y:Int)]) Mq;refine⟨p1,p2,_,_,RR,RR,s2 _ _ ae,ae,sy,λp3 ZY=>?_⟩;have s3:=s1.trans (s2.trans (Aa.ax (o:=.lst ([V.int ((pt M i).seats:Int)]++[.int ((pt M i).x:Int),.int ((pt M i).y:Int)])) ZY));have e3:upd (upd (upd H p1 (.lst [.int ((pt M i).seats:Int)])) p2 (.lst [.int ((pt M i).x:Int),.int ((pt M i).y:Int)])) p3 (.lst ([V.int ((pt M i).seats:Int)]++[.int ((pt M i).x:Int),.int ((pt M i).y:Int)])) p3=some (.lst [.int ((pt M i).seats:Int),.int ((pt M i).x:Int),.int ((pt M i).y:Int)]):=ae;generalize upd (upd (upd H p1 (.lst [.int ((pt M i).seats:Int)])) p2 (.lst [.int ((pt M i).x:Int),.int ((pt M i).y:Int)])) p3 (.lst ([V.int ((pt M i).seats:Int)]++[.int ((pt M i).x:Int),.int ((pt M i).y:Int)]))=H3 at*;refine br bC RR T.c.DT afF<|aa<|t6 T<|af 2 ⟨b,RR,hb.mono s3,λt ht=>ab ⟨t,_,RR,.inr (Cd.of ht),λp4 hp4=>?_⟩⟩;have s4:=Aa.ax (o:=.lst [.int ((pt M i).carex:Int),.int ((pt M i).carey:Int)]) hp4;refine⟨p3,p4,_,_,RR,RR,s4 _ _ e3,ae,aeM,λp5 hp5=>?_⟩;have s5:=s3.trans (s4.trans (Aa.ax (o:=.lst ([V.int ((pt M i).seats:Int),.int ((pt M i).x:Int),.int ((pt M i).y:Int)]++[.int ((pt M i).carex:Int),.int ((pt M i).carey:Int)])) hp5));have e5:upd (upd H3 p4 (.lst [.int ((pt M i).carex:Int),.int ((pt M i).carey:Int)])) p5 (.lst ([V.int ((pt M i).seats:Int),.int ((pt M i).x:Int),.int ((pt M i).y:Int)]++[.int ((pt M i).carex:Int),.int ((pt M i).carey:Int)])) p5=some (.lst (nums [(pt M i).seats,(pt M i).x,(pt M i).y,(pt M i).carex,(pt M i).carey])):=ae;refine ao (lL T) hr<|br bC RR T.c.DT afF<|aa<|kq T<|af 2 ⟨b,RR,hb.mono s5,λt ht=>ab ⟨t,_,RR,.inr (Cd.of ht),λp6 hp6=>ab ⟨p6,_,RR,ae,by rw[gp.wl];exact hS.good.m2,λp7 H7 s7 hp7 e7=>?_⟩⟩⟩;have s6:=Aa.ax (o:=.lst (nums (pt M i).worth)) hp6;have e5':=(s6.trans s7).lst e5;refine⟨p5,p7,_,_,RR,RR,e5',e7,?_,λr hr=>?_⟩;·rw[aq,aq];exact small (k:=20) (by unfold five;simp)
 ·have sA:=s5.trans (s6.trans s7);refine q r _ (sA.aL (sA.free hr) (aM hr)) (sA.free hr) ?_;rw[ae,nz]
def qV:AO "parties" (.ref q) (F9 r m pl ll hl c ho)=F9 r m q ll hl c ho:=by kernel_rfl
def uG:AO "likes" (.ref q) (F9 r m pl ll hl c ho)=F9 r m pl q hl c ho:=by kernel_rfl
def uH:AO "hates" (.ref q) (F9 r m pl ll hl c ho)=F9 r m pl ll q c ho:=by kernel_rfl
def Sq(ad:Ad):Sp:=λvs H Q _=>CO λ(x dx:Addr) (r m:Nat)=>Av (vs=[.ref x,.int r,.int m]) (H x=some (.ins ad.State dx [])) (∀H' pl ll hl ho,Aa (Al x H) H'->(∀c∈[pl,ll,hl,ho],Al x H c=none)->H' x=some (.ins ad.State dx (F9 r m pl ll hl 0 ho))->H' pl=some (.lst [])->H' ll=some (.lst [])->H' hl=some (.lst [])->H' ho=some (.lst [])->Q .BM H')
def rC(T:Txt kK mg aD base):Co P w kK mg base 1 aD.State (Sq aD):=by
 refine mkI T.m.rC rH ?_;rintro bo H vs Q E hr ⟨x,dx,r,m,e,hx,q⟩;subst e;refine ag<|aY<|af 1<|af 0 ⟨x,aD.State,dx,_,RR,hx,T.m.BG,T.m.CZ,(by show 0<1000;decide),?_⟩;refine ag<|aY<|af 2<|af 0 ⟨x,aD.State,dx,_,RR,ae,T.m.BG,T.m.AS,(by show 1<1000;decide),?_⟩;generalize hG:upd (upd H x _) x _=H0;have s0:Aa (Al x H) H0:=by rw[<-hG];exact(kg.ik (aw hx RR)).ik (aw ae RR)
 have e0:H0 x=some (.ins aD.State dx [("rule",.int r),("offices",.int m)]):=by rw[<-hG,ae];kernel_rfl
 clear hG;refine ag<|aY<|ay<|ab ⟨afk _,λpl B8=>af 0 ⟨x,aD.State,dx,_,RR,(Aa.ax B8) _ _ e0,T.m.BG,T.m.Ac,(by show 2<1000;decide),?_⟩⟩;generalize hG:upd (upd H0 pl _) x _=H1;have n1:pl≠x:=afA (ak e0 B8);have s1:Aa (Al x H) H1:=by rw[<-hG];exact(s0.aL (s0.free B8) (aM B8)).ik (aw (Aa.ax B8 _ _ e0) RR)
 have e1:H1 x=some (.ins aD.State dx [("rule",.int r),("offices",.int m),("parties",.ref pl)]):=by rw[<-hG,ae];kernel_rfl
 have p1:H1 pl=some (.lst []):=by rw[<-hG,ai n1,ae]
 clear hG;refine ag<|aY<|ay<|ab ⟨afk _,λll NL=>af 0 ⟨x,aD.State,dx,_,RR,(Aa.ax NL) _ _ e1,T.m.BG,T.m.BC,(by show 3<1000;decide),?_⟩⟩;generalize hG:upd (upd H1 ll _) x _=H2;have n2:ll≠x:=afA (ak e1 NL);have s2:Aa (Al x H) H2:=by rw[<-hG];exact(s1.aL (s1.free NL) (aM NL)).ik (aw (Aa.ax NL _ _ e1) RR)
 have e2:H2 x=some (.ins aD.State dx [("rule",.int r),("offices",.int m),("parties",.ref pl),("likes",.ref ll)]):=by rw[<-hG,ae];kernel_rfl
 have p2:H2 pl=some (.lst []):=by rw[<-hG,ai n1,ai (ak p1 NL)];exact p1
 have l2:H2 ll=some (.lst []):=by rw[<-hG,ai n2,ae]
 clear hG;refine ag<|aY<|ay<|ab ⟨afk _,λhl Rr=>af 0 ⟨x,aD.State,dx,_,RR,(Aa.ax Rr) _ _ e2,T.m.BG,T.m.Ba,(by show 4<1000;decide),?_⟩⟩;generalize hG:upd (upd H2 hl _) x _=H3;have n3:hl≠x:=afA (ak e2 Rr);have s3:Aa (Al x H) H3:=by rw[<-hG];exact(s2.aL (s2.free Rr) (aM Rr)).ik (aw (Aa.ax Rr _ _ e2) RR)
 have e3:H3 x=some (.ins aD.State dx [("rule",.int r),("offices",.int m),("parties",.ref pl),("likes",.ref ll),("hates",.ref hl)]):=by rw[<-hG,ae];kernel_rfl
 have p3:H3 pl=some (.lst []):=by rw[<-hG,ai n1,ai (ak p2 Rr)];exact p2
 have l3:H3 ll=some (.lst []):=by rw[<-hG,ai n2,ai (ak l2 Rr)];exact l2
 have h3:H3 hl=some (.lst []):=by rw[<-hG,ai n3,ae]
 clear hG;refine ag<|aY<|au T.c.Dk RR<|af 0 ⟨x,aD.State,dx,_,RR,e3,T.m.BG,T.m.Aq,(by show 5<1000;decide),?_⟩;generalize hG:upd H3 x _=H4;have s4:Aa (Al x H) H4:=by rw[<-hG];exact s3.ik (aw e3 RR)
 have e4:H4 x=some (.ins aD.State dx [("rule",.int r),("offices",.int m),("parties",.ref pl),("likes",.ref ll),("hates",.ref hl),("cabinet",.int 0)]):=by rw[<-hG,ae];kernel_rfl
 have p4:H4 pl=some (.lst []):=by rw[<-hG,ai n1];exact p3
 have l4:H4 ll=some (.lst []):=by rw[<-hG,ai n2];exact l3
 have h4:H4 hl=some (.lst []):=by rw[<-hG,ai n3];exact h3
 clear hG;refine ah<|aY<|ay<|ab ⟨afk _,λho Rq=>af 0 ⟨x,aD.State,dx,_,RR,(Aa.ax Rq) _ _ e4,T.m.BG,T.m.Bv,(by show 6<1000;decide),?_⟩⟩;have n4:ho≠x:=afA (ak e4 Rq);refine q _ pl ll hl ho ((s4.aL (s4.free Rq) (aM Rq)).ik (aw (Aa.ax Rq _ _ e4) RR)) ?_ ?_ ?_ ?_ ?_ ?_
 ·intro c hc;simp only[ae5,afQ,or_false]at hc;rcases hc with rfl|rfl|rfl|rfl;·exact s0.free B8
  ·exact s1.free NL
  ·exact s2.free Rr
  ·exact s4.free Rq
 ·rw[ae];kernel_rfl
 ·rw[ai n1,ai (ak p4 Rq)];exact p4
 ·rw[ai n2,ai (ak l4 Rq)];exact l4
 ·rw[ai n3,ai (ak h4 Rq)];exact h4
 ·rw[ai n4,ae]
def tZ{p pos:Pos}(T:Txt X.K X.mg aD X.base)(hr:Bm 2 X.A)(hg:Gl X "State")(h:Ea X [e,e2] σ H λvs H1=>∃(r m:Nat),vs=[.int r,.int m]/\∀x dx pl ll hl ho H',H1 x=none->Aa H1 H'->(∀c∈[pl,ll,hl,ho],H1 c=none)->H' x=some (.ins aD.State dx (F9 r m pl ll hl 0 ho))->H' pl=some (.lst [])->H' ll=some (.lst [])->H' hl=some (.lst [])->H' ho=some (.lst [])->Q (.ref x) H')
  (he:starEach [e,e2] X.env=(false,eval e X.env)::starEach [e2] X.env:=by rfl)(B8:(backTo pos (starEach [e2] X.env)).any (·.1)=false:=by rfl):Ev X (.Call (.Name "State" p) [e,e2] [] pos) σ H Q:=by refine kr (rC T) hr hg T.m.Td ?_ (by decide) he B8;refine⟨λpos pins s I=>iM (h.run pos pins s I) λus s' ⟨vs,H1,I1,r,rr,m,ev,q⟩=>⟨vs,H1,I1,r,λx dx hx hd AW=>?_⟩⟩;subst ev;exact⟨x,dx,rr,m,RR,ae,λH' pl ll hl ho s' fr VP a b c d=>⟨RR,q x dx pl ll hl ho H' hx ((cV hx hd).trans s') (λz hz=>(cV hx hd).free (fr z hz)) VP a b c d⟩⟩
def Uz(ad:Ad):Sp:=λvs H Q _=>Au λ(a:Addr) (M:Sm)=>Av (vs=[.ref a]) (Ai ad H a M) (∀b H',AD ad H H' b M->Q (.ref b) H')
def adi(T:Txt kK mg aD base):AH P w kK mg base 3 aD.State "twin" (Uz aD):=by
 refine se T.m.Oi kl ?_;rintro bo H vs Q E hr ⟨a,M,e,hS,q⟩;subst e;obtain⟨dx,pl,ll,hl,ho,ps,S⟩:=hS.ex;refine ag<|aP 1 kl.sc.nd<|tZ T hr RR<|aa<|aE 0 S T T.m.CZ jT<|aa<|aE 0 S T T.m.AS bX<|ab ⟨_,_,RR,λb db p0 l0 h0 o0 H1 hb s1 _ e1 _ _ _ _=>?_⟩;have S1:=S.mono s1;refine ag<|aY<|br bC RR T.c.DT afF<|aa<|aE 0 S1 T T.m.Ac aI<|ab ⟨pl,_,RR,.inl (Aj.of S1.pl),λp1 Ln=>af 1 ⟨b,aD.State,db,_,RR,Aa.ax Ln _ _ e1,T.m.BG,T.m.Ac,(by show 7<1000;decide),?_⟩⟩;generalize hG:upd (upd H1 p1 _) b _=H2;have s2:Aa H H2:=by rw[<-hG];exact(s1.aL (s1.free Ln) (aM Ln)).aL hb (aw (Aa.ax Ln _ _ e1) RR)
 have e2:H2 b=some (.ins aD.State db (F9 M.rule M.offices p1 l0 h0 0 o0)):=by rw[<-hG,ae,qV]
 have np:p1≠b:=afA (ak e1 Ln);have f1:H p1=none:=s1.free Ln;have a2:H2 p1=some (.lst (ps.map V.ref)):=by rw[<-hG,ai np,ae]
 have S2:=S.mono s2;clear hG;refine ag<|aY<|br bC RR T.c.DT afF<|aa<|aE 0 S2 T T.m.BC eX<|ab ⟨ll,_,RR,.inl (Aj.of S2.ll),λl1 OJ=>af 1 ⟨b,aD.State,db,_,RR,Aa.ax OJ _ _ e2,T.m.BG,T.m.BC,(by show 7<1000;decide),?_⟩⟩;generalize hG:upd (upd H2 l1 _) b _=H3;have s3:Aa H H3:=by rw[<-hG];exact(s2.aL (s2.free OJ) (aM OJ)).aL hb (aw (Aa.ax OJ _ _ e2) RR)
 have e3:H3 b=some (.ins aD.State db (F9 M.rule M.offices p1 l1 h0 0 o0)):=by rw[<-hG,ae,uG]
 have nl:l1≠b:=afA (ak e2 OJ);have f2:H l1=none:=s2.free OJ;have n1:p1≠l1:=ak a2 OJ;have a3:H3 p1=some (.lst (ps.map V.ref)):=by rw[<-hG,ai np,ai n1];exact a2
 have b3:H3 l1=some (.lst (nums M.likes)):=by rw[<-hG,ai nl,ae]
 have S3:=S.mono s3;clear hG;refine ag<|aY<|br bC RR T.c.DT afF<|aa<|aE 0 S3 T T.m.Ba dc<|ab ⟨hl,_,RR,.inl (Aj.of S3.hl),λh1 T7=>af 1 ⟨b,aD.State,db,_,RR,Aa.ax T7 _ _ e3,T.m.BG,T.m.Ba,(by show 7<1000;decide),?_⟩⟩;generalize hG:upd (upd H3 h1 _) b _=H4;have s4:Aa H H4:=by rw[<-hG];exact(s3.aL (s3.free T7) (aM T7)).aL hb (aw (Aa.ax T7 _ _ e3) RR)
 have e4:H4 b=some (.ins aD.State db (F9 M.rule M.offices p1 l1 h1 0 o0)):=by rw[<-hG,ae,uH]
 have nh:h1≠b:=afA (ak e3 T7);have f3:H h1=none:=s3.free T7;have n2:p1≠h1:=ak a3 T7;have n3:l1≠h1:=ak b3 T7;have a4:H4 p1=some (.lst (ps.map V.ref)):=by rw[<-hG,ai np,ai n2];exact a3
 have b4:H4 l1=some (.lst (nums M.likes)):=by rw[<-hG,ai nl,ai n3];exact b3
 have c4:H4 h1=some (.lst (nums M.hates)):=by rw[<-hG,ai nh,ae]
 have S4:=S.mono s4;clear hG;refine ag<|aY<|aE 0 S4 T T.m.Aq bf<|af 1 ⟨b,aD.State,db,_,RR,e4,T.m.BG,T.m.Aq,(by show 7<1000;decide),?_⟩;generalize hG:upd H4 b _=H5;have s5:Aa H H5:=by rw[<-hG];exact s4.aL hb (aw e4 RR)
 have e5:H5 b=some (.ins aD.State db (F9 M.rule M.offices p1 l1 h1 M.Af o0)):=by rw[<-hG,ae,gE]
 have a5:H5 p1=some (.lst (ps.map V.ref)):=by rw[<-hG,ai np];exact a4
 have b5:H5 l1=some (.lst (nums M.likes)):=by rw[<-hG,ai nl];exact b4
 have c5:H5 h1=some (.lst (nums M.hates)):=by rw[<-hG,ai nh];exact c4
 have S5:=S.mono s5;clear hG;refine ag<|aY<|br bC RR T.c.DT afF<|aa<|aE 0 S5 T T.m.Bv hJ<|ab ⟨ho,_,RR,.inl (Aj.of S5.ho),λo1 PN=>af 1 ⟨b,aD.State,db,_,RR,Aa.ax PN _ _ e5,T.m.BG,T.m.Bv,(by show 7<1000;decide),?_⟩⟩;generalize hG:upd (upd H5 o1 _) b _=H6;have s6:Aa H H6:=by rw[<-hG];exact(s5.aL (s5.free PN) (aM PN)).aL hb (aw (Aa.ax PN _ _ e5) RR)
 have e6:H6 b=some (.ins aD.State db (F9 M.rule M.offices p1 l1 h1 M.Af o1)):=by rw[<-hG,ae,gD]
 have no:o1≠b:=afA (ak e5 PN);have n4:p1≠o1:=ak a5 PN;have n5:l1≠o1:=ak b5 PN;have n6:h1≠o1:=ak c5 PN;have a6:H6 p1=some (.lst (ps.map V.ref)):=by rw[<-hG,ai np,ai n4];exact a5
 have b6:H6 l1=some (.lst (nums M.likes)):=by rw[<-hG,ai nl,ai n5];exact b5
 have c6:H6 h1=some (.lst (nums M.hates)):=by rw[<-hG,ai nh,ai n6];exact c5
 have d6:H6 o1=some (.lst (nums M.holders)):=by rw[<-hG,ai no,ae]
 have S6:=S.mono s6;clear hG;exact ah<|aj<|af 1<|q b H6 ⟨⟨db,p1,l1,h1,o1,ps,⟨e6,a6,b6,c6,d6,S.len,S6.at_⟩,f1,f2,f3,n1,n2,n3,n4,n5,n6,s5.free PN⟩,hb,hS.good,s6,hS.tabs⟩
def Ak(Z:Ax)(H:Hp):Hp:=λb=>if b∈Z then none else H b
def aN(h:b∈Z):Ak Z H b=none:=by unfold Ak;rw[if_pos h]
def aT(h:b∉Z):Ak Z H b=H b:=by unfold Ak;rw[if_neg h]
def dR(h:Ak Z H b=some o):b∉Z/\H b=some o:=by
 by_cases e:b∈Z;·rw[aN e]at h;cases h
 ·exact⟨e,by rw[aT e]at h;exact h⟩
def qO(g:Bs H ps)(h:∀c o,H c=some o->nt (some o)=false->H' c=some o):Bs H' ps:=
 ⟨g.ok,λpos v e=>let⟨c,e1,hc⟩:=g.code pos v e;⟨c,e1,h c _ hc RR⟩⟩
def Aa.di(h:∀z∈Z,nt (H z)=true):Aa (Ak Z H) H where
 go:=λb o e=>Kp.refl (dR e).2
 good:=λP ps e g=>⟨ps,(dR e).2,qO g λc o hc _=>(dR hc).2⟩
def Aa.hide(s:Aa (Ak Z H) H')(h:∀y∈Y,Ak Z H y=none)(hn:∀y∈Y,nt (H' y)=true):Aa (Ak Z H) (Ak Y H') where
 go:=λb o e=>by
  have hb:b∉Y:=λz=>by rw[h b z]at e;cases e
  have k:=s.go b o e;cases o with
  |F8 ps=>obtain⟨ps',k⟩:=k;exact⟨ps',by rw[aT hb];exact k⟩
  |_=>exact(aT hb).trans k
 good:=λP ps e g=>by
  obtain⟨ps',k,g'⟩:=s.good P ps e g;have hP:P∉Y:=λz=>by rw[h P z]at e;cases e
  refine⟨ps',by rw[aT hP];exact k,qO g' λc o hc ho=>?_⟩;rw[aT (λz=>by grind)];exact hc
structure Dm where
 cur:Option Sm
 was:List Sm
 later:List Sm
def Cb(cv:V)(e l:Addr):List (Str×V):=[("current",cv),("earlier",.ref e),("later",.ref l)]
def bE:(Cb cv e l).lookup ("current" :Str)=some cv:=by kernel_rfl
def cq:(Cb cv e l).lookup ("earlier" :Str)=some (V.ref e):=by kernel_rfl
def dY:(Cb cv e l).lookup ("later" :Str)=some (V.ref l):=by kernel_rfl
def eN:AO "current" cw (Cb cv e l)=Cb cw e l:=by kernel_rfl
def j4:AO "earlier" (.ref q) (Cb cv e l)=Cb cv q l:=by kernel_rfl
def nq:AO "later" (.ref q) (Cb cv e l)=Cb cv e q:=by kernel_rfl
structure AG(ad:Ad)(H:Hp)(es:Ax)(Ms:List Sm):Prop where
 len:es.length=Ms.length
 at_:∀(i:Nat) p M,es[i]? =some p->Ms[i]? =some M->Ai ad H p M
def AG.mono(h:AG aD H es Ms)(s:Aa H H'):AG aD H' es Ms:=⟨h.len,λi p M a b=>(h.at_ i p M a b).mono s⟩
def AG.nil:AG aD H [] []:=⟨RR,λi p M a _=>by simp at a⟩
def AG.snoc(h:AG aD H es Ms)(hp:Ai aD H p M):AG aD H (es++[p]) (Ms++[M]):=⟨by simp[h.len],λi q N a b=>by
 by_cases hi:i<es.length;·rw[afs hi]at a;rw[afs (by rw[<-h.len];exact hi)]at b;exact h.at_ i q N a b
 ·have hl:=h.len;rw[afx (by omega)]at a b;rw[hl]at a;cases e:i-Ms.length with
  |zero=>rw[e]at a b;cases a;cases b;exact hp
  |succ k=>rw[e]at a;cases a⟩
def AG.drop(h:AG aD H es Ms)(k:Nat):AG aD H (es.drop k) (Ms.drop k):=⟨by simp[h.len],λi p M a b=>h.at_ (k+i) p M (by simpa using a) (by simpa using b)⟩
def AG.dropLast(h:AG aD H es Ms):AG aD H es.dropLast Ms.dropLast:=⟨by simp[h.len],λi p M a b=>by
 rw[List.getElem?_dropLast]at a b;split at a
 ·split at b;·exact h.at_ i p M a b
  ·cases b
 ·cases a⟩
def NF(ad:Ad)(H:Hp)(cv:V):Option Sm->Prop
 |none=>cv= .BM
 |some M=>∃c,cv= .ref c/\Ai ad H c M
def NF.mono(h:NF aD H cv o)(s:Aa H H'):NF aD H' cv o:=by
 cases o with
 |none=>exact h
 |some M=>obtain⟨c,e,q⟩:=h;exact⟨c,e,q.mono s⟩
structure Bw(ad:Ad)(Z:Ax)(H:Hp)(a dx e l:Addr)(cv:V)(es ls:Ax)(D:Dm):Prop where
 obj:H a=some (.ins ad.BE dx (Cb cv e l))
 el:H e=some (.lst (es.map V.ref))
 ll:H l=some (.lst (ls.map V.ref))
 cur:NF ad (Ak (a::e::l::Z) H) cv D.cur
 was:AG ad (Ak (a::e::l::Z) H) es D.was
 SO:AG ad (Ak (a::e::l::Z) H) ls D.later
 ne:e≠l
 zo:a∉Z/\e∉Z/\l∉Z
 V4:∀z∈Z,∃o,H z=some o/\B6 (some o)
 tabs:Hy ad (Ak (a::e::l::Z) H)
 le:D.was.length+D.later.length<=16
def Ii(ad:Ad)(Z:Ax)(H:Hp)(a dx e l:Addr)(D:Dm):Prop:=∃cv es ls,Bw ad Z H a dx e l cv es ls D
def gG(h:B6 (some o)):nt (some o)=true:=by cases o<;>first|rfl|exact h.elim
def Kp.wd(k:Kp H b o)(h:B6 (some o)):H b=some o:=by cases o<;>first|exact k|exact h.elim
def Aa.less(h:∀z∈Y,z∈W):Aa (Ak W H) (Ak Y H) where
 go:=λb o e=>by obtain⟨n,e⟩:=dR e;exact Kp.refl (by rw[aT λz=>n (h b z)];exact e)
 good:=λP ps e g=>by obtain⟨n,e⟩:=dR e;refine⟨ps,by rw[aT λz=>n (h P z)];exact e,qO g λc o hc _=>?_⟩;obtain⟨n,hc⟩:=dR hc;rw[aT λz=>n (h c z)];exact hc
def qj(h:∀z∈Y,z∈W)(e:Ak Y H y=none):Ak W H y=none:=by
 by_cases i:y∈W;·exact aN i
 ·rw[aT i];rw[aT λz=>i (h y z)]at e;exact e
def Bw.z'(d:Bw aD Z H a dx e l cv es ls D)(s:Aa (Ak [a,e,l] H) H'):∀z∈Z,∃o,H' z=some o/\B6 (some o):=λz hz=>by
 obtain⟨o,ho,n⟩:=d.V4 z hz;refine⟨o,Kp.wd (s.go z o ?_) n,n⟩;rw[aT];·exact ho
 ·intro i;simp only[ae5,afQ,or_false]at i;rcases i with rfl|rfl|rfl;·exact d.zo.1 hz
  ·exact d.zo.2.1 hz
  ·exact d.zo.2.2 hz
def Bw.to(d:Bw aD Z H a dx e l cv es ls D)(s:Aa (Ak [a,e,l] H) H')(fe:Ak [a,e,l] H e'=none)(fl:Ak [a,e,l] H l'=none)(ha:nt (H' a)=true)(he:nt (H' e')=true)(hl:nt (H' l')=true):Aa (Ak (a::e::l::Z) H) (Ak (a::e'::l'::Z) H'):=by
 have sub:∀z∈[a,e,l],z∈a::e::l::Z:=λz hz=>by grind
 refine Aa.hide ((Aa.less sub).trans s) (λy hy=>?_) (λy hy=>?_)
 ·simp only[ae5]at hy;rcases hy with rfl|rfl|rfl|hy;·exact aN (by simp)
  ·exact qj sub fe
  ·exact qj sub fl
  ·exact aN (by simp[hy])
 ·simp only[ae5]at hy;rcases hy with rfl|rfl|rfl|hy;·exact ha
  ·exact he
  ·exact hl
  ·obtain⟨o,ho,n⟩:=d.z' s y hy;rw[ho];exact gG n
def Bw.sT(d:Bw aD Z H a dx e l cv es ls D):∀z∈[a,e,l],nt (H z)=true:=λz hz=>by
 simp only[ae5,afQ,or_false]at hz;rcases hz with rfl|rfl|rfl;·rw[d.obj];rfl
 ·rw[d.el];rfl
 ·rw[d.ll];rfl
def Bw.mono(d:Bw aD Z H a dx e l cv es ls D)(s:Aa H H'):Bw aD Z H' a dx e l cv es ls D:=by have s0:=(Aa.di d.sT).trans s;have o:=s.go _ _ d.obj;have e1:=s.go _ _ d.el;have l1:=s.go _ _ d.ll;have t:=d.to s0 (aN (by simp)) (aN (by simp)) (aw o RR) (aw e1 RR) (aw l1 RR);exact⟨o,e1,l1,d.cur.mono t,d.was.mono t,d.SO.mono t,d.ne,d.zo,d.z' s0,d.tabs.mono t,d.le⟩
def Bw.un(d:Bw aD Z H a dx e l cv es ls D):Aa (Ak (a::e::l::Z) H) H:=Aa.di λz hz=>by
 simp only[ae5]at hz;rcases hz with rfl|rfl|rfl|hz;·rw[d.obj];rfl
 ·rw[d.el];rfl
 ·rw[d.ll];rfl
 ·obtain⟨o,ho,n⟩:=d.V4 z hz;rw[ho];exact gG n
def Hy.ik(T:Hy aD H)(h2:∀y∈Y,∃o,H y=some o/\B6 (some o)):Hy aD (Ak Y H):=by
 have NW:∀{c o},H c=some o->¬B6 (some o)->c∉Y:=λ{c o} e n z=>by grind
 have tab:∀{P},(∃ps,H P=some (.F8 ps)/\Bs H ps)->∃ps,Ak Y H P=some (.F8 ps)/\Bs (Ak Y H) ps:=λ{P} ⟨ps,e,g⟩=>by refine⟨ps,by rw[aT (NW e λz=>z)];exact e,qO g λc o hc ho=>?_⟩;rw[aT (NW hc λz=>by rw[gG z]at ho;cases ho)];exact hc
 exact⟨tab T.all,tab T.best,tab T.fall,tab T.on⟩
def BV.ik{pl ll hl ho:Addr}(S:BV aD H b dx pl ll hl ho ps M)(h1:∀c∈[b,pl,ll,hl,ho],c∉Y)(h2:∀y∈Y,∃o,H y=some o/\B6 (some o)):BV aD (Ak Y H) b dx pl ll hl ho ps M:=by
 have NW:∀{c o},H c=some o->¬B6 (some o)->c∉Y:=λ{c o} e n z=>by obtain⟨o',e',n'⟩:=h2 c z;rw[e]at e';cases e';exact n n'
 refine⟨?_,?_,?_,?_,?_,S.len,λi p q x y=>?_⟩;·rw[aT (h1 _ (by simp))];exact S.obj
 ·rw[aT (h1 _ (by simp))];exact S.pl
 ·rw[aT (h1 _ (by simp))];exact S.ll
 ·rw[aT (h1 _ (by simp))];exact S.hl
 ·rw[aT (h1 _ (by simp))];exact S.ho
 ·obtain⟨dx,tw,tc,tx,q1,q2,q3,q4⟩:=(S.at_ i p q x y).ex;exact⟨dx,tw,tc,tx,by rw[aT (NW q1 λz=>z RR)];exact q1,by rw[aT (NW q2 λz=>z)];exact q2,by rw[aT (NW q3 λz=>z)];exact q3,by rw[aT (NW q4 λz=>z)];exact q4⟩
def Bw.all(d:Bw aD Z H a dx e l cv es ls D):∀y∈a::e::l::Z,∃o,H y=some o/\B6 (some o):=λz hz=>by
 simp only[ae5]at hz;rcases hz with rfl|rfl|rfl|hz;·exact⟨_,d.obj,by show 3≠4;decide⟩
 ·exact⟨_,d.el,trivial⟩
 ·exact⟨_,d.ll,trivial⟩
 ·exact d.V4 z hz
def Bw.fresh(d:Bw aD Z H a dx e l cv es ls D)(h:H c=none):c∉a::e::l::Z:=λz=>by obtain⟨o,ho,_⟩:=d.all c z;rw[h]at ho;cases ho
def AD.ik(hO:AD aD Hb H b M)(h1:∀c,Hb c=none->c∉Y)(h2:∀y∈Y,∃o,H y=some o/\B6 (some o)):Ai aD (Ak Y H) b M:=by
 obtain⟨dx,pl,ll,hl,ho,ps,S,f1,f2,f3,n1,n2,n3,n4,n5,n6,f4⟩:=hO.ex;refine⟨⟨dx,pl,ll,hl,ho,ps,S.ik (λc hc=>h1 c ?_) h2⟩,hO.good,Hy.ik (hO.tabs.mono hO.Dx) h2⟩;simp only[ae5,afQ,or_false]at hc;rcases hc with rfl|rfl|rfl|rfl|rfl;·exact hO.fr
 ·exact f1
 ·exact f2
 ·exact f3
 ·exact f4
def Bw.put(d:Bw aD Z H a dx e l cv es ls D)(s:Aa (Ak [a,e,l] H) H')(fe:Ak [a,e,l] H e'=none)(fl:Ak [a,e,l] H l'=none)(o:H' a=some (.ins aD.BE dx (Cb c e' l')))(he:H' e'=some (.lst (PX.map V.ref)))(hl:H' l'=some (.lst (ls'.map V.ref)))(ne:e'≠l')
  (hc:NF aD (Ak (a::e::l::Z) H) c D'.cur)(hw:AG aD (Ak (a::e::l::Z) H) PX D'.was)(ht:AG aD (Ak (a::e::l::Z) H) ls' D'.later)(le:D'.was.length+D'.later.length<=16):Bw aD Z H' a dx e' l' c PX ls' D':=by
 have t:=d.to s fe fl (aw o RR) (aw he RR) (aw hl RR);have zo:∀{y},Ak [a,e,l] H y=none->H' y≠none->y∉Z:=λ{y} n _ hz=>by
  obtain⟨ob,ho,_⟩:=d.V4 y hz;rw[aT]at n;·rw[ho]at n;cases n
  ·intro i;simp only[ae5,afQ,or_false]at i;rcases i with rfl|rfl|rfl;·exact d.zo.1 hz
   ·exact d.zo.2.1 hz
   ·exact d.zo.2.2 hz
 exact⟨o,he,hl,hc.mono t,hw.mono t,ht.mono t,ne,⟨d.zo.1,zo fe (by rw[he];simp),zo fl (by rw[hl];simp)⟩,d.z' s,d.tabs.mono t,le⟩
def Kk(ad:Ad)(Z:Ax)(H:Hp)(a dx e l:Addr)(D':Dm)(Fp:Am)(Q:VK):Prop:=∀p H' e' l',Ii ad Z H' a dx e' l' D'->Aa (Ak [a,e,l] H) H'->Ak [a,e,l] H e'=none->Ak [a,e,l] H l'=none->Ak [a,e,l] H p=none->H' p=some (.lst (Fp.map V.int))->Q (.ref p) H'
def Kk.same(q:Kk aD Z H a dx e l D Fp Q)(d:Bw aD Z H a dx e l cv es ls D)(s:Aa H H')(hp:H p=none)(h:H' p=some (.lst (Fp.map V.int))):Q (.ref p) H':=
 q p H' e l ⟨_,_,_,d.mono s⟩ ((Aa.di d.sT).trans s) (aN (by simp)) (aN (by simp)) ((Aa.di d.sT).free hp) h
def JD(r m:Nat):Sm:=⟨r,m,[],[],[],0,[]⟩
def tK(h:r<=2/\1<=m/\m<=5):Good (JD r m):=⟨h.1,h.2.1,h.2.2,(by show 0<=5;decide),(λ_ z=>by cases z),RR,RR,(λ_ z=>by cases z),(λ_ z=>by cases z),(by show 0<1;decide),(by show 0<=5;decide),(λ_ z=>by cases z)⟩
def GV(D:Dm)(r m:Nat):Dm×Am:=if r<=2/\1<=m/\m<=5 then(⟨some (JD r m),[],[]⟩,[0])else(D,[-22])
def SD(ad:Ad):Sp:=λvs H Q _=>VC λ(a dx e l:Addr) (Z:Ax) (D:Dm) (r m:Nat)=>Av (vs=[.ref a,.int r,.int m]) (Ii ad Z H a dx e l D) (Kk ad Z H a dx e l (GV D r m).1 (GV D r m).2 Q)
def abP(T:Txt kK mg aD base):AH P w kK mg base 3 aD.BE "begin" (SD aD):=by
 refine se T.m.Ou rK ?_;rintro bo H vs Q E hr ⟨a,dx,e,l,Z,D,r,m,ev,⟨cv,es,ls,hD⟩,q⟩;subst ev;unfold GV at q;have Ij:¬(r<=2/\1<=m/\m<=5)->∀p,H p=none->Q (.ref p) (upd H p (.lst [.int (-22)])):=λhn p hp=>by rw[if_neg hn]at q;exact q.same hD (Aa.ax hp) hp ae
 have right:(r<=2/\1<=m/\m<=5)->Lu (EX EU "Desk.begin" Dy P w kK mg base bo H E) ((AX Dy).drop 1) {nx:=λ_ H'=>Q .BM H',rt:=Q} (start EU [.ref a,.int r,.int m]) H:=λh=>by
  rw[if_pos h]at q;refine ag<|aY<|tZ T hr RR<|aa<|af 1<|aa<|af 2<|ab ⟨r,m,RR,λx xd pl ll hl ho H1 hx s1 fr e1 p1 p2 p3 p4=>af 0 ⟨a,aD.BE,dx,_,RR,s1 _ _ hD.obj,T.m.AL,T.m.AA,(by show 3<1000;decide),?_⟩⟩;rw[eN];have d1:=hD.mono s1;generalize hG:upd H1 a _=H2;have o2:H2 a=some (.ins aD.BE dx (Cb (.ref x) e l)):=by rw[<-hG,ae]
  have s2:Aa (Ak [a,e,l] H1) H2:=by rw[<-hG];exact(Aa.di d1.sT).aL (aN (by simp)) (aw d1.obj RR)
  clear hG;refine ag<|aY<|ay<|ab ⟨afk _,λe' T8=>af 0 ⟨a,aD.BE,dx,_,RR,Aa.ax T8 _ _ o2,T.m.AL,T.m.Bg,(by show 3<1000;decide),?_⟩⟩;rw[j4];generalize hG:upd (upd H2 e' _) a _=H3;have ne:e'≠a:=afA (ak o2 T8);have o3:H3 a=some (.ins aD.BE dx (Cb (.ref x) e' l)):=by rw[<-hG,ae]
  have s3:Aa (Ak [a,e,l] H1) H3:=by rw[<-hG];exact(s2.aL (s2.free T8) (aM T8)).aL (aN (by simp)) (aw (Aa.ax T8 _ _ o2) RR)
  have e3:H3 e'=some (.lst []):=by rw[<-hG,ai ne,ae]
  have fe:Ak [a,e,l] H1 e'=none:=s2.free T8;clear hG;refine ag<|aY<|ay<|ab ⟨afk _,λl' hl'=>af 0 ⟨a,aD.BE,dx,_,RR,Aa.ax hl' _ _ o3,T.m.AL,T.m.BK,(by show 3<1000;decide),?_⟩⟩;rw[nq];generalize hG:upd (upd H3 l' _) a _=H4;have nl:l'≠a:=afA (ak o3 hl');have ne2:e'≠l':=ak e3 hl';have o4:H4 a=some (.ins aD.BE dx (Cb (.ref x) e' l')):=by rw[<-hG,ae]
  have s4:Aa (Ak [a,e,l] H1) H4:=by rw[<-hG];exact(s3.aL (s3.free hl') (aM hl')).aL (aN (by simp)) (aw (Aa.ax hl' _ _ o3) RR)
  have e4:H4 e'=some (.lst []):=by rw[<-hG,ai ne,ai ne2];exact e3
  have l4:H4 l'=some (.lst []):=by rw[<-hG,ai nl,ae]
  have fl:Ak [a,e,l] H1 l'=none:=s3.free hl';clear hG;refine ah<|aj<|ay<|aa<|aG<|ab ⟨bq,λp hp=>?_⟩;have s5:=s4.aL (o:=.lst [.int 0]) (s4.free hp) (aM hp);have sH:Aa (Ak [a,e,l] H) (Ak [a,e,l] H1):=Aa.hide ((Aa.di hD.sT).trans s1) (λy hy=>aN hy) d1.sT;have S1:BV aD H1 x xd pl ll hl ho [] (JD r m):=⟨e1,p1,p2,p3,p4,RR,λi p q z=>by simp at z⟩;have cu:Ai aD (Ak (a::e::l::Z) H1) x (JD r m):=⟨⟨xd,pl,ll,hl,ho,[],S1.ik (λc hc=>hD.fresh (by
   rcases ae5.mp hc with rfl|hc;·exact hx
   ·exact fr c hc)) d1.all⟩,tK h,d1.tabs⟩;have n4:∀{c o},H4 c=some o->c≠p:=λhc=>ak hc hp;exact q p _ e' l' ⟨_,[],[],d1.put (D':=⟨some (JD r m),[],[]⟩) s5 fe fl (by rw[ai (n4 o4)];exact o4) (by rw[ai (n4 e4)];exact e4) (by rw[ai (n4 l4)];exact l4) ne2 ⟨x,RR,cu⟩ AG.nil AG.nil (by show 0<=16;decide)⟩ (sH.trans s5) (sH.free fe) (sH.free fl) (sH.free (s4.free hp)) ae
 refine ag<|aW<|vm<|aV jf (aJ _)<|af 1<|au T.c.Qg RR ⟨_,_,RR,RR,_,RR,?_⟩;by_cases h1:r<=2;rotate_left;·rw[decide_eq_true (by omega),if_pos RR,if_pos RR];exact ah<|aj<|ay<|aa<|au T.c.Dv RR<|ab ⟨bq,Ij λh=>h1 h.1⟩
 rw[decide_eq_false (by omega),if_neg ae0];refine cH<|ow gb gb<|aG<|af 2 ⟨_,_,RR,RR,_,RR,?_⟩;by_cases h2:1<=m;rotate_left;·rw[decide_eq_false (by omega),if_neg ae0];refine⟨_,RR,?_⟩;exact ah<|aj<|ay<|aa<|au T.c.Dv RR<|ab ⟨bq,Ij λh=>h2 h.2.1⟩
 rw[decide_eq_true (by omega),if_pos RR];refine au T.c.Ml RR ⟨_,_,RR,RR,_,RR,?_⟩;by_cases h3:m<=5;·rw[decide_eq_true (by omega)];exact aA (right ⟨h1,h2,h3⟩)
 ·rw[decide_eq_false (by omega)];exact ah<|aj<|ay<|aa<|au T.c.Dv RR<|ab ⟨bq,Ij λh=>h3 h.2.2⟩
def IB(D:Dm)(M:Sm):Dm×Am:=match D.was.getLast? with
 |none=>(D,[-6])
 |some N=>(⟨some N,D.was.dropLast,D.later++[M]⟩,[(D.was.dropLast.length:Int)])
def FU(D:Dm)(M:Sm):Dm×Am:=match D.later.getLast? with
 |none=>(D,[-6])
 |some N=>(⟨some N,D.was++[M],D.later.dropLast⟩,[(D.later.dropLast.length:Int)])
def K7(D:Dm)(M:Sm):Am:=Nr M++[(D.was.length:Int),(D.later.length:Int)]
def DD(D:Dm)(M:Sm)(r:Sm×Am):Dm×Am:=if 0<=r.2.headD 0 then(⟨some r.1,(D.was++[M]).drop (D.was.length+1-16),[]⟩,r.2)else(D,r.2)
def tF{es:Ax}(h:es.getLast? =some p):(es.map V.ref)[(es.map V.ref).length-1]? =some (V.ref p):=by rw[<-ahp,List.getLast?_map,h];rfl
def AG.last(h:AG aD H es Ms)(e:Ms.getLast? =some N):∃p,es.getLast? =some p/\Ai aD H p N:=by
 rw[ahp]at e|-;have hl:=h.len;have hi:=(ae3.mp e).1;have Rp:es.length-1<es.length:=by omega
 refine⟨es[es.length-1],by simp[Rp],h.at_ (Ms.length-1) _ _ (by rw[<-hl];simp[Rp]) e⟩
def wm(n:Nat):decide (V.int (n:Int)=V.int 0)=decide (n=0):=by simp
def Sy(ad:Ad):Sp:=λvs H Q _=>Au λ(x dx:Addr)=>Av (vs=[.ref x]) (H x=some (.ins ad.BE dx [])) (∀H' e l,Aa (Al x H) H'->Al x H e=none->Al x H l=none->e≠l->H' x=some (.ins ad.BE dx (Cb .BM e l))->H' e=some (.lst [])->H' l=some (.lst [])->Q .BM H')
def vc(T:Txt kK mg aD base):Co P w kK mg base 1 aD.BE (Sy aD):=by
 refine mkI T.m.vc tT ?_;rintro bo H vs Q E hr ⟨x,dx,e,hx,q⟩;subst e;refine ag<|aY<|aal<|af 0 ⟨x,aD.BE,dx,_,RR,hx,T.m.AL,T.m.AA,(by show 0<1000;decide),?_⟩;generalize hG:upd H x _=H0;have s0:Aa (Al x H) H0:=by rw[<-hG];exact kg.ik (aw hx RR)
 have e0:H0 x=some (.ins aD.BE dx [("current",.BM)]):=by rw[<-hG,ae];kernel_rfl
 clear hG;refine ag<|aY<|ay<|ab ⟨afk _,λpl B8=>af 0 ⟨x,aD.BE,dx,_,RR,(Aa.ax B8) _ _ e0,T.m.AL,T.m.Bg,(by show 1<1000;decide),?_⟩⟩;generalize hG:upd (upd H0 pl _) x _=H1;have n1:pl≠x:=afA (ak e0 B8);have s1:Aa (Al x H) H1:=by rw[<-hG];exact(s0.aL (s0.free B8) (aM B8)).ik (aw (Aa.ax B8 _ _ e0) RR)
 have e1:H1 x=some (.ins aD.BE dx [("current",.BM),("earlier",.ref pl)]):=by rw[<-hG,ae];kernel_rfl
 have p1:H1 pl=some (.lst []):=by rw[<-hG,ai n1,ae]
 clear hG;refine ah<|aY<|ay<|ab ⟨afk _,λll NL=>af 0 ⟨x,aD.BE,dx,_,RR,(Aa.ax NL) _ _ e1,T.m.AL,T.m.BK,(by show 2<1000;decide),?_⟩⟩;have n2:ll≠x:=afA (ak e1 NL);refine q _ pl ll ((s1.aL (s1.free NL) (aM NL)).ik (aw (Aa.ax NL _ _ e1) RR)) (s0.free B8) (s1.free NL) (ak p1 NL) ?_ ?_ ?_;·rw[ae];kernel_rfl
 ·rw[ai n1,ai (ak p1 NL)];exact p1
 ·rw[ai n2,ae]
def LB(ad:Ad)(c:Dm->Sm->Dm×Am):Sp:=λvs H Q _=>Qi λ(a dx e l:Addr) (Z:Ax) (D:Dm) (M:Sm)=>BO (vs=[.ref a]) (Ii ad Z H a dx e l D) (D.cur=some M) (Kk ad Z H a dx e l (c D M).1 (c D M).2 Q)
def adk(T:Txt kK mg aD base):AH P w kK mg base 1 aD.BE "back" (LB aD IB):=by
 refine se T.m.Qk tU ?_;rintro bo H vs Q E hr ⟨a,dx,e,l,Z,D,M,ev,⟨cv,es,ls,hD⟩,hM,q⟩;subst ev;have hc:=hD.cur;rw[hM]at hc;obtain⟨c,rfl,hc⟩:=hc;have le:=hD.le;have hw:=hD.was.len;have hl:=hD.SO.len;unfold IB at q;refine ag<|aW<|aV bO (aJ _)<|aX RR T.c.AV<|aC<|af 0 ⟨a,_,_,_,_,RR,hD.obj,T.m.AL,T.m.Bg,cq,⟨e,_,RR,Aj.of hD.el,aG ⟨RR,_,RR,?_⟩⟩⟩;rw[wm,ae1,hw];cases hg:D.was.getLast? with
 |none=>have h0:D.was=[]:=ahq.mp hg;rw[hg]at q;rw[decide_eq_true (by rw[h0];rfl)];exact ah<|aj<|ay<|aa<|au T.c.G0 RR<|ab ⟨bq,λr hr=>q.same hD (Aa.ax hr) hr ae⟩
 |some N=>
  have h0:D.was≠[]:=λz=>by rw[z]at hg;cases hg
  have h1:D.was.length≠0:=λz=>h0 (afI.mp z);rw[hg]at q;rw[decide_eq_false h1];obtain⟨p,hp,hN⟩:=hD.was.last hg;refine aA<|ag<|bV<|aC<|af 0 ⟨a,_,_,_,_,RR,hD.obj,T.m.AL,T.m.BK,dY,⟨l,_,RR,hD.ll,aC<|af 0 ⟨a,_,_,_,_,RR,hD.obj,T.m.AL,T.m.AA,bE,⟨_,hD.ll,?_,?_⟩⟩⟩⟩;·rw[ae1,hl];exact ae9 (show D.later.length<17 by omega) (by decide)
  have nl:l≠a:=gd hD.ll hD.obj (by intro z;cases z);have ne:e≠a:=gd hD.el hD.obj (by intro z;cases z);generalize hG:upd H l _=H1;have o1:H1 a=some (.ins aD.BE dx (Cb (.ref c) e l)):=by rw[<-hG,ai (afA nl)];exact hD.obj
  have e1:H1 e=some (.lst (es.map V.ref)):=by rw[<-hG,ai hD.ne];exact hD.el
  have l1:H1 l=some (.lst ((ls++[c]).map V.ref)):=by rw[<-hG,ae,afK];rfl
  have s1:Aa (Ak [a,e,l] H) H1:=by rw[<-hG];exact(Aa.di hD.sT).aL (aN (by simp)) (aw hD.ll RR)
  clear hG;refine ag<|aY<|aaq plainAttrs_list ahK ahL zG<|aC<|af 0 ⟨a,_,_,_,_,RR,o1,T.m.AL,T.m.Bg,cq,ty_list (Aj.of e1),⟨e,_,.ref p,RR,RR,e1,tF hp,af 0 ⟨a,aD.BE,dx,_,RR,by rw[ai (afA ne)];exact o1,T.m.AL,T.m.AA,(by show 3<1000;decide),?_⟩⟩⟩;rw[eN];generalize hG:upd (upd H1 e _) a _=H2;have o2:H2 a=some (.ins aD.BE dx (Cb (.ref p) e l)):=by rw[<-hG,ae]
  have e2:H2 e=some (.lst (es.dropLast.map V.ref)):=by rw[<-hG,ai ne,ae,List.map_dropLast]
  have l2:H2 l=some (.lst ((ls++[c]).map V.ref)):=by rw[<-hG,ai nl,ai (afA hD.ne)];exact l1
  have s2:Aa (Ak [a,e,l] H) H2:=by rw[<-hG];exact(s1.aL (aN (by simp)) (aw e1 RR)).aL (aN (by simp)) (by rw[ai (afA ne),o1];rfl)
  clear hG;refine ah<|aj<|ay<|aa<|aX RR T.c.AV<|aC<|af 0 ⟨a,_,_,_,_,RR,o2,T.m.AL,T.m.Bg,cq,⟨e,_,RR,Aj.of e2,ab ⟨bq,λr hr=>?_⟩⟩⟩;have s3:=Aa.ax (o:=.lst [.int ((es.dropLast.map V.ref).length:Int)]) hr;have dd:=(hD.put (D':=⟨some N,D.was.dropLast,D.later++[M]⟩) s2 (aN (by simp)) (aN (by simp)) o2 e2 l2 hD.ne ⟨p,RR,hN⟩ hD.was.dropLast (hD.SO.snoc hc) (by show D.was.dropLast.length+(D.later++[M]).length<=16;simp;omega)).mono s3;refine q r _ e l ⟨_,_,_,dd⟩ (s2.trans s3) (aN (by simp)) (aN (by simp)) (s2.free hr) ?_;rw[ae,ae1,hD.was.dropLast.len];rfl
def abQ(T:Txt kK mg aD base):AH P w kK mg base 1 aD.BE "again" (LB aD FU):=by
 refine se T.m.Ov rL ?_;rintro bo H vs Q E hr ⟨a,dx,e,l,Z,D,M,ev,⟨cv,es,ls,hD⟩,hM,q⟩;subst ev;have hc:=hD.cur;rw[hM]at hc;obtain⟨c,rfl,hc⟩:=hc;have le:=hD.le;have hw:=hD.was.len;have hl:=hD.SO.len;unfold FU at q;refine ag<|aW<|aV bO (aJ _)<|aX RR T.c.AV<|aC<|af 0 ⟨a,_,_,_,_,RR,hD.obj,T.m.AL,T.m.BK,dY,⟨l,_,RR,Aj.of hD.ll,aG ⟨RR,_,RR,?_⟩⟩⟩;rw[wm,ae1,hl];cases hg:D.later.getLast? with
 |none=>have h0:D.later=[]:=ahq.mp hg;rw[hg]at q;rw[decide_eq_true (by rw[h0];rfl)];exact ah<|aj<|ay<|aa<|au T.c.G0 RR<|ab ⟨bq,λr hr=>q.same hD (Aa.ax hr) hr ae⟩
 |some N=>
  have h0:D.later≠[]:=λz=>by rw[z]at hg;cases hg
  have h1:D.later.length≠0:=λz=>h0 (afI.mp z);rw[hg]at q;rw[decide_eq_false h1];obtain⟨p,hp,hN⟩:=hD.SO.last hg;refine aA<|ag<|bV<|aC<|af 0 ⟨a,_,_,_,_,RR,hD.obj,T.m.AL,T.m.Bg,cq,⟨e,_,RR,hD.el,aC<|af 0 ⟨a,_,_,_,_,RR,hD.obj,T.m.AL,T.m.AA,bE,⟨_,hD.el,?_,?_⟩⟩⟩⟩;·rw[ae1,hw];exact ae9 (show D.was.length<17 by omega) (by decide)
  have nl:l≠a:=gd hD.ll hD.obj (by intro z;cases z);have ne:e≠a:=gd hD.el hD.obj (by intro z;cases z);generalize hG:upd H e _=H1;have o1:H1 a=some (.ins aD.BE dx (Cb (.ref c) e l)):=by rw[<-hG,ai (afA ne)];exact hD.obj
  have l1:H1 l=some (.lst (ls.map V.ref)):=by rw[<-hG,ai (afA hD.ne)];exact hD.ll
  have e1:H1 e=some (.lst ((es++[c]).map V.ref)):=by rw[<-hG,ae,afK];rfl
  have s1:Aa (Ak [a,e,l] H) H1:=by rw[<-hG];exact(Aa.di hD.sT).aL (aN (by simp)) (aw hD.el RR)
  clear hG;refine ag<|aY<|aaq plainAttrs_list ahK ahL zG<|aC<|af 0 ⟨a,_,_,_,_,RR,o1,T.m.AL,T.m.BK,dY,ty_list (Aj.of l1),⟨l,_,.ref p,RR,RR,l1,tF hp,af 0 ⟨a,aD.BE,dx,_,RR,by rw[ai (afA nl)];exact o1,T.m.AL,T.m.AA,(by show 3<1000;decide),?_⟩⟩⟩;rw[eN];generalize hG:upd (upd H1 l _) a _=H2;have o2:H2 a=some (.ins aD.BE dx (Cb (.ref p) e l)):=by rw[<-hG,ae]
  have l2:H2 l=some (.lst (ls.dropLast.map V.ref)):=by rw[<-hG,ai nl,ae,List.map_dropLast]
  have e2:H2 e=some (.lst ((es++[c]).map V.ref)):=by rw[<-hG,ai ne,ai hD.ne];exact e1
  have s2:Aa (Ak [a,e,l] H) H2:=by rw[<-hG];exact(s1.aL (aN (by simp)) (aw l1 RR)).aL (aN (by simp)) (by rw[ai (afA nl),o1];rfl)
  clear hG;refine ah<|aj<|ay<|aa<|aX RR T.c.AV<|aC<|af 0 ⟨a,_,_,_,_,RR,o2,T.m.AL,T.m.BK,dY,⟨l,_,RR,Aj.of l2,ab ⟨bq,λr hr=>?_⟩⟩⟩;have s3:=Aa.ax (o:=.lst [.int ((ls.dropLast.map V.ref).length:Int)]) hr;have dd:=(hD.put (D':=⟨some N,D.was++[M],D.later.dropLast⟩) s2 (aN (by simp)) (aN (by simp)) o2 e2 l2 hD.ne ⟨p,RR,hN⟩ (hD.was.snoc hc) hD.SO.dropLast (by show(D.was++[M]).length+D.later.dropLast.length<=16;simp;omega)).mono s3;refine q r _ e l ⟨_,_,_,dd⟩ (s2.trans s3) (aN (by simp)) (aN (by simp)) (s2.free hr) ?_;rw[ae,ae1,hD.SO.dropLast.len];rfl
def adj(T:Txt kK mg aD base):AH P w kK mg base 6 aD.BE "tell" (LB aD λD M=>(D,K7 D M)):=by
 refine se T.m.Qj tS ?_;rintro bo H vs Q E hr ⟨a,dx,e,l,Z,D,M,ev,⟨cv,es,ls,hD⟩,hM,q⟩;subst ev;have hc:=hD.cur;rw[hM]at hc;obtain⟨c,rfl,hc⟩:=hc;unfold K7 at q;refine ah<|aj<|a0 eE<|ao (acg T) hr<|aC<|af 0 ⟨a,_,_,_,_,RR,hD.obj,T.m.AL,T.m.AA,bE,ab ⟨c,M,RR,hc.mono hD.un,λp H1 s1 hp e1=>?_⟩⟩;have d1:=hD.mono s1;refine ay<|aa<|aX RR T.c.AV<|aC<|af 0 ⟨a,_,_,_,_,RR,d1.obj,T.m.AL,T.m.Bg,cq,⟨e,_,RR,Aj.of d1.el,aa<|aX RR T.c.AV<|aC<|af 0 ⟨a,_,_,_,_,RR,d1.obj,T.m.AL,T.m.BK,dY,⟨l,_,RR,Aj.of d1.ll,ab ⟨cQ,λr hr=>?_⟩⟩⟩⟩⟩;have s2:=s1.aL (o:=.lst [.int ((es.map V.ref).length:Int),.int ((ls.map V.ref).length:Int)]) (s1.free hr) (aM hr);refine⟨p,r,_,_,RR,RR,by rw[ai (ak e1 hr)];exact e1,ae,?_,λt ht=>?_⟩;·exact small (k:=20) (by rw[ae1];show 6+2<=20;decide)
 ·refine q.same hD (s2.aL (s2.free ht) (aM ht)) (s2.free ht) ?_;rw[ae,afK,ae1,ae1,hD.was.len,hD.SO.len];rfl
def ab8(zs:List V):JW zs (some (-16)) none=zs.drop (zs.length-16):=by
 unfold JW;have h1:HT.Lj zs.length 0 (some (-16))=zs.length-16:=by show(if(-16)<0 then((-16:Int)+(zs.length)).toNat else min (-16).toNat zs.length)=_;grind
 rw[h1,HT.sL,agj (by simp)]
def QO(P:Program)(w:World)(K:Frag)(mg:B3)(base:Heap)(ad:Ad)(kk:Nat):Sp:=λvs H Q _=>Um λ(a dx e l v:Addr) (Z:Ax) (D:Dm) (M:Sm) (key z:Str) (vals:List V) (c:Sm->Sm×Am) (ok:Hp->Sm->Prop)=>Ow (vs=[.ref a,.str key,.ref v]) (Ii ad Z H a dx e l D) (D.cur=some M) (KTD.datumAt key BU=some z) (Ab P w K mg base kk z (HG ad vals c ok)) (H v=some (.lst vals)) (ok H M) ((c M).2≠[]) (Kk ad Z H a dx e l (DD D M (c M)).1 (DD D M (c M)).2 Q)
def zS(T:Txt kK mg aD base):AH P w kK mg base (kk+4) aD.BE "change" (QO P w kK mg base aD kk):=by
 refine se T.m.NB fU ?_;rintro bo H vs Q E hr ⟨a,dx,e,l,v,Z,D,M,key,z,vals,c,ok,ev,⟨cv,es,ls,hD⟩,hM,hz,C,hv,AU,AW,q⟩;subst ev;have hc:=hD.cur;rw[hM]at hc;obtain⟨c0,rfl,hc⟩:=hc;have le:=hD.le;have hw:=hD.was.len;obtain⟨dx0,pl0,ll0,hl0,ho0,ps0,S0⟩:=(hc.mono hD.un).ex;refine ag<|aP 3 fU.sc.nd<|cX (adi T) (hr.mono (by omega)) T.m.BG<|aC<|af 0 ⟨a,_,_,_,_,RR,hD.obj,T.m.AL,T.m.AA,bE,⟨c0,_,_,RR,S0.obj,by kernel_rfl,⟨c0,M,RR,hc.mono hD.un,λb H1 Hr=>?_⟩⟩⟩;refine ag<|aP 4 fU.sc.nd<|ao (pN (kk:=kk) T) hr<|af 3<|aa<|af 1<|aa<|af 2<|ab ⟨_,_,key,z,_,RR,hz,C,⟨b,v,H,M,RR,Hr,hv,AU,λp H2 Er hp e2=>?_⟩⟩;have d2:=hD.mono Er.Dx;obtain⟨x0,xr,hx⟩:(Au λx0 xr=>(c M).2=x0::xr):=by cases hh:(c M).2 with|nil=>exact(AW hh).elim|cons x0 xr=>exact⟨x0,xr,RR⟩
 have e2':H2 p=some (.lst ((c M).2.map V.int)):=e2;refine ag<|aW<|aV acq (aJ _)<|aH 4 0 e2 (v:=.int x0) (by rw[hx];rfl)<|aG ⟨_,_,RR,RR,_,RR,?_⟩;unfold DD at q;have hh:(c M).2.headD 0=x0:=by rw[hx];rfl
 rw[hh]at q;by_cases h0:0<=x0;rotate_left;·rw[decide_eq_false h0];rw[if_neg h0]at q;exact aA<|ah<|aj<|af 4<|q.same hD Er.Dx hp e2
 rw[decide_eq_true h0];rw[if_pos h0]at q;have lw:(es.map V.ref).length=D.was.length:=by rw[ae1,hw]
 refine ag<|aY<|oh mM wa<|a0 eE<|aC<|af 0 ⟨a,_,_,_,_,RR,d2.obj,T.m.AL,T.m.Bg,cq,ay<|aa<|aC<|af 0 ⟨a,_,_,_,_,RR,d2.obj,T.m.AL,T.m.AA,bE,ab ⟨bq,λt1 MZ=>?_⟩⟩⟩;have s3:Aa H2 (upd H2 t1 (.lst [.ref c0])):=Aa.ax MZ;refine⟨e,t1,_,_,RR,RR,s3 _ _ d2.el,ae,small (k:=20) (by rw[lw];show D.was.length+1<=20;omega),λt2 Lm=>?_⟩;refine wF acC<|au T.c.Qc RR ⟨_,RR, -16,RR,t2,_,RR,Aj.of ae,λt3 U1=>?_⟩;rw[ab8];have s4:=s3.trans (Aa.ax (o:=.lst (es.map V.ref++[V.ref c0])) Lm);generalize hG:upd (upd H2 t1 _) t2 _=H4;rw[hG]at s4 U1;clear hG;have d4:=d2.mono s4;have o5:upd H4 t3 (.lst ((es.map V.ref++[V.ref c0]).drop ((es.map V.ref++[V.ref c0]).length-16))) a=some (.ins aD.BE dx (Cb (.ref c0) e l)):=by rw[ai (ak d4.obj U1)];exact d4.obj
 refine af 0 ⟨a,aD.BE,dx,_,RR,o5,T.m.AL,T.m.Bg,(by show 3<1000;decide),?_⟩;rw[j4];generalize hG:upd (upd H4 t3 _) a _=H5;have n3:t3≠a:=afA (ak d4.obj U1);have o6:H5 a=some (.ins aD.BE dx (Cb (.ref c0) t3 l)):=by rw[<-hG,ae]
 have e6:H5 t3=some (.lst (((es++[c0]).drop (D.was.length+1-16)).map V.ref)):=by
  rw[<-hG,ai n3,ae];have:(es.map V.ref++[V.ref c0])=(es++[c0]).map V.ref:=by simp
  rw[this,ahQ,ae1,afg,hw];rfl
 have s5:Aa (Ak [a,e,l] H2) H5:=by rw[<-hG];exact(((Aa.di d2.sT).trans s4).aL (((Aa.di d2.sT).trans s4).free U1) (aM U1)).aL (aN (by simp)) (aw o5 RR)
 have f3:Ak [a,e,l] H2 t3=none:=((Aa.di d2.sT).trans s4).free U1;have p5:H5 p=some (.lst ((c M).2.map V.int)):=by rw[<-hG,ai (gd e2 d2.obj (by intro z;cases z)),ai (ak (s4 _ _ e2) U1)];exact s4 _ _ e2
 clear hG;refine ag<|aY<|ay<|ab ⟨afk _,λl' hl'=>af 0 ⟨a,aD.BE,dx,_,RR,Aa.ax hl' _ _ o6,T.m.AL,T.m.BK,(by show 3<1000;decide),?_⟩⟩;rw[nq];generalize hG:upd (upd H5 l' _) a _=H6;have nl:l'≠a:=afA (ak o6 hl');have ne2:t3≠l':=ak e6 hl';have o7:H6 a=some (.ins aD.BE dx (Cb (.ref c0) t3 l')):=by rw[<-hG,ae]
 have e7:H6 t3=some (.lst (((es++[c0]).drop (D.was.length+1-16)).map V.ref)):=by rw[<-hG,ai n3,ai ne2];exact e6
 have l7:H6 l'=some (.lst []):=by rw[<-hG,ai nl,ae]
 have s6:Aa (Ak [a,e,l] H2) H6:=by rw[<-hG];exact(s5.aL (s5.free hl') (aM hl')).aL (aN (by simp)) (aw (Aa.ax hl' _ _ o6) RR)
 have f4:Ak [a,e,l] H2 l'=none:=s5.free hl';have p6:H6 p=some (.lst ((c M).2.map V.int)):=by rw[<-hG,ai (gd p5 o6 (by intro z;cases z)),ai (ak p5 hl')];exact p5
 clear hG;refine ah<|aY<|af 3<|af 0 ⟨a,aD.BE,dx,_,RR,o7,T.m.AL,T.m.AA,(by show 3<1000;decide),?_⟩;rw[eN];generalize hG:upd H6 a _=H7;have o8:H7 a=some (.ins aD.BE dx (Cb (.ref b) t3 l')):=by rw[<-hG,ae]
 have e8:H7 t3=some (.lst (((es++[c0]).drop (D.was.length+1-16)).map V.ref)):=by rw[<-hG,ai n3];exact e7
 have l8:H7 l'=some (.lst (([]:Ax).map V.ref)):=by rw[<-hG,ai nl];exact l7
 have s7:Aa (Ak [a,e,l] H2) H7:=by rw[<-hG];exact s6.aL (aN (by simp)) (aw o7 RR)
 have p7:H7 p=some (.lst ((c M).2.map V.int)):=by rw[<-hG,ai (gd p6 o7 (by intro z;cases z))];exact p6
 clear hG;have sH:Aa (Ak [a,e,l] H) (Ak [a,e,l] H2):=Aa.hide ((Aa.di hD.sT).trans Er.Dx) (λy hy=>aN hy) d2.sT;have cu:Ai aD (Ak (a::e::l::Z) H2) b (c M).1:=AD.ik Er (λ_ n=>hD.fresh n) d2.all;have Aam:Ai aD (Ak (a::e::l::Z) H2) c0 M:=by have:=d2.cur;rw[hM]at this;obtain⟨c1,ec,q1⟩:=this;cases ec;exact q1
 have dd:=d2.put (D':=⟨some (c M).1,(D.was++[M]).drop (D.was.length+1-16),[]⟩) s7 f3 f4 o8 e8 l8 ne2 ⟨b,RR,cu⟩ ((d2.was.snoc Aam).drop _) AG.nil (by show((D.was++[M]).drop _).length+0<=16;simp;omega);exact ah<|aj<|af 4<|q p H7 t3 l' ⟨_,_,_,dd⟩ (sH.trans s7) (sH.free f3) (sH.free f4) ((Aa.di hD.sT).free hp) p7
def qy(ZZ:Vz X op rd)(h:Ev X o σ H λx H1=>(FX λa C dx fs v=>Dn (x= .ref a) (H1 a=some (.ins C dx fs)) (Jp X.K C) (AR X.K C f) (fs.lookup f=some v) (Ev X value σ H1 λy H2=>rd v y H2 λz H3=>(Au λNN R_=>Av (H3 a=some (.ins C NN R_)) (R_.length<1000) (D.nx σ (upd H3 a (.ins C NN (AO f z R_)))))))):Es X (.AugAssign (.Attribute o f Fl) op value pos) D σ H:=gx (xE aF aF ZZ) h
def adM(h:Ev X e σ H λv H1=>∃x,v= .str x/\R (Its x) H1):Ei X tg e σ H R:=ml (acV aF) h
inductive Vl where
 |num (n:Nat)
 |row (l:Ae)
def Lk(H:Hp):Vl->V->Prop
 | .num n,v=>v= .int (n:Int)
 | .row l,v=>∃p,v= .ref p/\H p=some (.lst (nums l))
def DQ(H:Hp):List Vl->List V->Prop
 |[],[]=>True
 |y::ys,z::zs=>Lk H y z/\DQ H ys zs
 |_,_=>False
def uE(s:∀p xs,H p=some (.lst xs)->H' p=some (.lst xs)):∀{y:Vl}{z:V},Lk H y z->Lk H' y z
 | .num _,_,h=>h
 | .row _,_,⟨p,e,h⟩=>⟨p,e,s p _ h⟩
def iP(s:∀p xs,H p=some (.lst xs)->H' p=some (.lst xs)):∀{ys:List Vl}{zs:List V},DQ H ys zs->DQ H' ys zs
 |[],[],_=>trivial
 |_::_,_::_,⟨a,b⟩=>⟨uE s a,iP s b⟩
 |[],_::_,h=>h.elim
 |_::_,[],h=>h.elim
def qb(h:Lk H y z):∀{ys:List Vl}{zs:List V},DQ H ys zs->DQ H (ys++[y]) (zs++[z])
 |[],[],_=>⟨h,trivial⟩
 |_::_,_::_,⟨a,b⟩=>⟨a,qb h b⟩
 |[],_::_,x=>x.elim
 |_::_,[],x=>x.elim
def ng:∀{ys:List Vl}{zs:List V},DQ H ys zs->ys.length=zs.length
 |[],[],_=>rfl
 |_::_,_::_,⟨_,b⟩=>by simp[ng b]
 |[],_::_,x=>x.elim
 |_::_,[],x=>x.elim
def EG(ns:Ae)(k c:Nat):Option (Vl×Nat):=match ns[k]? with
 |none=>none
 |some m=>if c=119 then(if k+1+m<=ns.length then some (.row ((ns.drop (k+1)).take m),k+1+m)else none)else some (.num m,k+1)
def AY(ns:Ae):Nat->Ae->Option (List Vl×Nat)
 |k,[]=>some ([],k)
 |k,c::cs=>match EG ns k c with
  |none=>none
  |some (y,k1)=>match AY ns k1 cs with
   |none=>none
   |some (ys,k2)=>some (y::ys,k2)
def JY(nm kd:Str)(t:Addr):List (Str×V):=[("name",.str nm),("kinds",.str kd),("taken",.ref t)]
def Ll(n:Addr)(k:Nat):List (Str×V):=[("numbers",.ref n),("position",.int (k:Int))]
def da:(JY nm kd t).lookup ("name" :Str)=some (V.str nm):=by kernel_rfl
def ub:(JY nm kd t).lookup ("kinds" :Str)=some (V.str kd):=by kernel_rfl
def d_:(JY nm kd t).lookup ("taken" :Str)=some (V.ref t):=by kernel_rfl
def hX:(Ll n k).lookup ("numbers" :Str)=some (V.ref n):=by kernel_rfl
def bY:(Ll n k).lookup ("position" :Str)=some (V.int (k:Int)):=by kernel_rfl
def jd{m:Nat}:AO "position" (.int (m:Int)) (Ll n k)=Ll n m:=by kernel_rfl
def yc(s:Aa (Al r H) H')(e:∃o,H' r=some o/\∀xs,o≠.lst xs):∀p xs,Al r H p=some (.lst xs)->Al r H' p=some (.lst xs):=λp xs h=>by have h1:=s.lst h;obtain⟨o,ho,n⟩:=e;rw[bw (λz=>by simp_all)];exact h1
def SA(ad:Ad):Sp:=λvs H Q _=>FX λ(x dx t:Addr) (nm kd:Str)=>Av (vs=[.ref x,.str nm,.str kd,.ref t]) (H x=some (.ins ad.Call dx [])) (∀H',Aa (Al x H) H'->H' x=some (.ins ad.Call dx (JY nm kd t))->Q .BM H')
def vd(T:Txt kK mg aD base):Co P w kK mg base 1 aD.Call (SA aD):=by refine mkI T.m.vd tV ?_;rintro bo H vs Q E hr ⟨x,dx,t,nm,kd,e,hx,q⟩;subst e;refine ag<|aY<|af 1<|af 0 ⟨x,aD.Call,dx,_,RR,hx,T.m.Cr,T.m.BZ,(by decide),?_⟩;refine ag<|aY<|af 2<|af 0 ⟨x,aD.Call,dx,_,RR,ae,T.m.Cr,T.m.Hx,(by show 1<1000;decide),?_⟩;refine ah<|aY<|af 3<|af 0 ⟨x,aD.Call,dx,_,RR,ae,T.m.Cr,T.m.Cn,(by show 2<1000;decide),?_⟩;refine q _ (((kg.ik (aw hx RR)).ik (aw ae RR)).ik (aw ae RR)) ?_;rw[ae];kernel_rfl
def Sr(ad:Ad):Sp:=λvs H Q _=>BL λ(x dx n:Addr)=>Av (vs=[.ref x,.ref n]) (H x=some (.ins ad.Reader dx [])) (∀H',Aa (Al x H) H'->H' x=some (.ins ad.Reader dx (Ll n 0))->Q .BM H')
def nN(T:Txt kK mg aD base):Co P w kK mg base 1 aD.Reader (Sr aD):=by refine mkI T.m.nN pL ?_;rintro bo H vs Q E hr ⟨x,dx,n,e,hx,q⟩;subst e;refine ag<|aY<|af 1<|af 0 ⟨x,aD.Reader,dx,_,RR,hx,T.m.Bi,T.m.Cm,(by decide),?_⟩;refine ah<|aY<|aG<|af 0 ⟨x,aD.Reader,dx,_,RR,ae,T.m.Bi,T.m.Bf,(by show 1<1000;decide),?_⟩;refine q _ ((kg.ik (aw hx RR)).ik (aw ae RR)) ?_;rw[ae];kernel_rfl
variable{K:Frag}{ad:Ad}in
structure EZ(K:Frag)(ad:Ad)(H:Hp)(r dx n:Addr)(ns:Ae)(k:Nat):Prop where
 obj:H r=some (.ins ad.Reader dx (Ll n k))
 num:Aj K (Al r H) n (nums ns)
def EZ.sq(h:EZ kK aD H r dx n ns k):Aj kK H n (nums ns):=kg.seq h.num
def EZ.to(h:EZ kK aD H r dx n ns k)(s:Aa (Al r H) H')(e:H' r=some (.ins aD.Reader dx (Ll n k'))):EZ kK aD H' r dx n ns k':=⟨e,by
 rcases h.num with(h1|⟨o,h1⟩)|h1;·exact .inl (.inl (yc s ⟨_,e,λ_ z=>by cases z⟩ _ _ h1))
 ·refine .inl (.inr ⟨o,?_⟩);have h2:H' n=some (.FN o (.lst (nums ns))):=s.go _ _ h1;rw[bw (λz=>by grind)];exact h2
 ·exact .inr h1⟩
def EZ.ne(h:EZ kK aD H r dx n ns k)(e:H p=some (.lst xs)):p≠r:=λz=>by rw[z,h.obj]at e;cases e
def Wn(K:Frag)(ad:Ad):Sp:=λvs H Q _=>FX λ(r dx n:Addr) (ns:Ae) (k:Nat)=>Av (vs=[.ref r]) (EZ K ad H r dx n ns k) (Q (.bl (decide (k=ns.length))) H)
def zT(T:Txt kK mg aD base):AH P w kK mg base 1 aD.Reader "at_end" (Wn kK aD):=by refine se T.m.K5 mx ?_;rintro bo H vs Q E hr ⟨r,dx,n,ns,k,e,hR,q⟩;subst e;refine ah<|aj<|bh bO (aJ _)<|aC<|af 0 ⟨r,_,_,_,_,RR,hR.obj,T.m.Bi,T.m.Bf,bY,aX RR T.c.AV<|aC<|af 0 ⟨r,_,_,_,_,RR,hR.obj,T.m.Bi,T.m.Cm,hX,n,_,RR,hR.sq,RR,?_⟩⟩;rw[aq,show decide (V.int (k)=V.int (ns.length:Int))=decide (k=ns.length) by simp;omega];exact q
def Y0(K:Frag)(ad:Ad):Sp:=λvs H Q _=>Kd λ(r dx n:Addr) (ns:Ae) (k z:Nat)=>BO (vs=[.ref r]) (EZ K ad H r dx n ns k) (ns[k]? =some z) (∀H',Aa (Al r H) H'->EZ K ad H' r dx n ns (k+1)->Q (.int (z:Int)) H')
def fR(T:Txt kK mg aD base):AH P w kK mg base 1 aD.Reader "read_number" (Y0 kK aD):=by refine se T.m.GX dX ?_;rintro bo H vs Q E hr ⟨r,dx,n,ns,k,z,e,hR,hz,q⟩;subst e;refine ag<|aP 1 dX.sc.nd<|bg bj<|aC<|af 0 ⟨r,_,_,_,_,RR,hR.obj,T.m.Bi,T.m.Cm,hX,aC<|af 0 ⟨r,_,_,_,_,RR,hR.obj,T.m.Bi,T.m.Bf,bY,n,_,_,_,RR,RR,hR.sq,aS (aU hz),?_⟩⟩;refine ag<|qy zZ<|af 0 ⟨r,_,_,_,_,RR,hR.obj,T.m.Bi,T.m.Bf,bY,aG ⟨_,_,RR,RR,_,_,hR.obj,(by show 2<1000;decide),?_⟩⟩;have e:AO "position" (V.int ((k:Int)+1)) (Ll n k)=Ll n (k+1):=jd (m:=k+1);have s1:=kg.ik (o:=.ins aD.Reader dx (Ll n (k+1))) (aw hR.obj RR);exact ah<|aj<|af 1<|q _ s1 (hR.to s1 ae)
def YZ(K:Frag)(ad:Ad):Sp:=λvs H Q _=>Kd λ(r dx n:Addr) (ns:Ae) (k m:Nat)=>B9 (vs=[.ref r]) (EZ K ad H r dx n ns k) (ns[k]? =some m) (k+1+m<=ns.length) (∀p H',Aa (Al r H) H'->EZ K ad H' r dx n ns (k+1+m)->Al r H p=none->H' p=some (.lst (nums ((ns.drop (k+1)).take m)))->Q (.ref p) H')
def aaE(zs:List V)(i j:Nat)(h:i+j<=zs.length):JW zs (some (i:Int)) (some ((i:Int)+(j:Int)))=(zs.drop i).take j:=by unfold JW;have h1:=HT.qR zs.length 0 i;have h2:HT.Lj zs.length zs.length (some ((i)+(j)))=min (i+j) zs.length:=HT.qR zs.length zs.length (i+j);rw[h1,h2,ag6 h,ag6 (show i<=zs.length by omega),Nat.add_sub_cancel_left]
def lj(s1:Aa (Al r H) H1)(e:∃o,H1 r=some o/\nt (some o)=true)(s2:Aa (Al r H1) H2):Aa (Al r H) H2:=by
 have s3:Aa (Ak [r] H) (Ak [r] H1):=by
  refine Aa.hide ?_ (λy hy=>aN hy) (λy hy=>by obtain⟨o,e,n⟩:=e;simp_all);have:Ak [r] H=Al r H:=by unfold Ak Al;simp
  rw[this];exact s1
 have e1:Ak [r] H=Al r H:=by unfold Ak Al;simp
 have e2:Ak [r] H1=Al r H1:=by unfold Ak Al;simp
 rw[e1,e2]at s3;exact s3.trans s2
def uS(T:Txt kK mg aD base):AH P w kK mg base 2 aD.Reader "read_row" (YZ kK aD):=by refine se T.m.Jj dA ?_;rintro bo H vs Q E hr ⟨r,dx,n,ns,k,m,e,hR,hz,hl,q⟩;subst e;refine ag<|aP 1 dA.sc.nd<|cX (fR T) (hr.mono (by decide)) T.m.Bi<|af 0 ⟨r,_,_,RR,hR.obj,by kernel_rfl,⟨r,dx,n,ns,k,m,RR,hR,hz,λH1 s1 Qs=>?_⟩⟩;refine ag<|aP 2 dA.sc.nd<|oh mM mM<|aC<|af 0 ⟨r,_,_,_,_,RR,Qs.obj,T.m.Bi,T.m.Cm,hX,aC<|af 0 ⟨r,_,_,_,_,RR,Qs.obj,T.m.Bi,T.m.Bf,bY,_,RR,a0 k6<|aC<|af 0 ⟨r,_,_,_,_,RR,Qs.obj,T.m.Bi,T.m.Bf,bY,af 1 ⟨_,_,RR,RR,_,RR,n,_,RR,Qs.sq,λp hp=>?_⟩⟩⟩⟩;rw[show JW (nums ns) (some ((k+1:Nat):Int)) (some (((k+1:Nat):Int)+(m:Int)))=nums ((ns.drop (k+1)).take m) by rw[aaE _ _ _ (by rw[aq];exact hl)];unfold nums;rw[List.map_take,ahQ]];have s2:Aa H1 (upd H1 p (.lst (nums ((ns.drop (k+1)).take m)))):=Aa.ax hp;have o2:=s2.ins Qs.obj;have p2:upd H1 p (.lst (nums ((ns.drop (k+1)).take m))) p=some (.lst (nums ((ns.drop (k+1)).take m))):=ae;generalize upd H1 p (.lst (nums ((ns.drop (k+1)).take m)))=H2 at*;refine ag<|qy zZ<|af 0 ⟨r,_,_,_,_,RR,o2,T.m.Bi,T.m.Bf,bY,af 1 ⟨_,_,RR,RR,_,_,o2,(by show 2<1000;decide),?_⟩⟩;have e:AO "position" (V.int (((k+1:Nat):Int)+(m:Int))) (Ll n (k+1))=Ll n (k+1+m):=jd (m:=k+1+m);rw[e];have s3:Aa (Al r H) (upd H2 r (.ins aD.Reader dx (Ll n (k+1+m)))):=(s1.trans s2).ik (aw o2 RR);exact ah<|aj<|af 2<|q p _ s3 (hR.to s3 ae) (s1.free hp) (by rw[ai (λz=>by rw[z,o2]at p2;cases p2)];exact p2)
noncomputable def sgn(c:Nat):Str:=⟨#[c]⟩
def aeb(c:Nat):decide (V.str (sgn c)=V.str "w")=decide (c=119):=by
 have e:("w")=sgn 119:=by decide+kernel
 rw[e,afb];simp[sgn]
def YY(K:Frag)(ad:Ad):Sp:=λvs H Q _=>VC λ(r dx n:Addr) (ns:Ae) (k c k':Nat) (y:Vl)=>BO (vs=[.ref r,.str (sgn c)]) (EZ K ad H r dx n ns k) (EG ns k c=some (y,k')) (∀v H',Aa (Al r H) H'->EZ K ad H' r dx n ns k'->Lk (Al r H') y v->(∀p,v= .ref p->Al r H p=none)->Q v H')
def rk(T:Txt kK mg aD base):AH P w kK mg base 3 aD.Reader "read_value" (YY kK aD):=by
 refine se T.m.Hz i9 ?_;rintro bo H vs Q E hr ⟨r,dx,n,ns,k,c,k',y,e,hR,hy,q⟩;subst e;refine ah<|aj<|ku<|aV bO (aJ _)<|af 1<|lF T.c.ROW RR ⟨RR,_,RR,?_⟩;rw[aeb];unfold EG at hy;cases hz:ns[k]? with
 |none=>rw[hz]at hy;cases hy
 |some m=>
  rw[hz]at hy;by_cases hc:c=119
  ·rw[decide_eq_true hc,if_pos RR];simp only[hc,if_true]at hy;split at hy
   ·rename_i hl;cases hy;refine cX (uS T) (hr.mono (by decide)) T.m.Bi<|af 0 ⟨r,_,_,RR,hR.obj,by kernel_rfl,⟨r,dx,n,ns,k,m,RR,hR,hz,hl,λp H' s' Yp hp e'=>q _ H' s' Yp ⟨p,RR,?_⟩ ?_⟩⟩;·rw[bw (Yp.ne e')];exact e'
    ·intro p' e;cases e;exact hp
   ·cases hy
  ·rw[decide_eq_false hc,if_neg ae0];simp only[hc,if_false]at hy;cases hy;exact cX (fR T) (hr.mono (by decide)) T.m.Bi<|af 0 ⟨r,_,_,RR,hR.obj,by kernel_rfl,⟨r,dx,n,ns,k,m,RR,hR,hz,λH' s' Yp=>q _ H' s' Yp RR (λp e=>by cases e)⟩⟩
def ju:∀{A B:Ae}{k ka kb:Nat}{ya yb:List Vl},AY ns k A=some (ya,ka)->AY ns ka B=some (yb,kb)->AY ns k (A++B)=some (ya++yb,kb)
 |[],B,k,ka,kb,ya,yb,h1,h2=>by cases h1;exact h2
 |c::A,B,k,ka,kb,ya,yb,h1,h2=>by
  simp only[AY,List.cons_append]at h1|-;cases e:EG ns k c with
  |none=>rw[e]at h1;cases h1
  |some x=>
   obtain⟨y,k1⟩:=x;rw[e]at h1;simp only at h1|-;cases e2:AY ns k1 A with
   |none=>rw[e2]at h1;cases h1
   |some x=>rw[e2]at h1;cases h1;rw[ju e2 h2];rfl
def jZ:∀{A B:Ae}{k kb:Nat}{ys:List Vl},AY ns k (A++B)=some (ys,kb)->∃ya ka yb,AY ns k A=some (ya,ka)/\AY ns ka B=some (yb,kb)/\ys=ya++yb
 |[],B,k,kb,ys,h=>⟨[],k,ys,RR,h,RR⟩
 |c::A,B,k,kb,ys,h=>by
  simp only[AY,List.cons_append]at h|-;cases e:EG ns k c with
  |none=>rw[e]at h;cases h
  |some x=>
   obtain⟨y,k1⟩:=x;rw[e]at h;simp only at h|-;cases e2:AY ns k1 (A++B)with
   |none=>rw[e2]at h;cases h
   |some x=>rw[e2]at h;cases h;obtain⟨ya,ka,yb,h1,h2,h3⟩:=jZ e2;rw[h1];exact⟨y::ya,ka,yb,RR,h2,by rw[h3];rfl⟩
def nk:∀{A:Ae}{k kb:Nat}{ys:List Vl},AY ns k A=some (ys,kb)->ys.length=A.length
 |[],k,kb,ys,h=>by cases h;rfl
 |c::A,k,kb,ys,h=>by
  simp only[AY]at h;cases e:EG ns k c with
  |none=>rw[e]at h;cases h
  |some x=>
   obtain⟨y,k1⟩:=x;rw[e]at h;simp only at h;cases e2:AY ns k1 A with
   |none=>rw[e2]at h;cases h
   |some x=>rw[e2]at h;cases h;simp[nk e2]
def BI:Ae->List Vl->Prop
 |[],[]=>True
 |c::cs,.num _::ys=>c≠119/\BI cs ys
 |c::cs,.row _::ys=>c=119/\BI cs ys
 |_,_=>False
def dP:∀{A:Ae}{k kb:Nat}{ys:List Vl},AY ns k A=some (ys,kb)->BI A ys
 |[],k,kb,ys,h=>by cases h;trivial
 |c::A,k,kb,ys,h=>by
  simp only[AY]at h;cases e:EG ns k c with
  |none=>rw[e]at h;cases h
  |some x=>
   obtain⟨y,k1⟩:=x;rw[e]at h;simp only at h;cases e2:AY ns k1 A with
   |none=>rw[e2]at h;cases h
   |some x=>
    rw[e2]at h;cases h;unfold EG at e;cases hz:ns[k]? with
    |none=>rw[hz]at e;cases e
    |some m=>
     rw[hz]at e;by_cases hc:c=119
     ·simp only[hc,if_true]at e;split at e;·cases e;exact⟨hc,dP e2⟩
      ·cases e
     ·simp only[hc,if_false]at e;cases e;exact⟨hc,dP e2⟩
def km:∀{cs:Ae}{ys:List Vl}{i c:Nat}{y:Vl},BI cs ys->cs[i]? =some c->ys[i]? =some y->(c≠119->∃n,y= .num n)
 |[],[],i,c,y,_,h,_=>by simp at h
 |c0::cs,.num n::ys,0,c,y,h,h1,h2=>by grind
 |c0::cs,.row n::ys,0,c,y,h,h1,h2=>by simp at h1 h2;intro z;exact absurd (h1▸h.1) z
 |c0::cs,.num n::ys,i+1,c,y,h,h1,h2=>km h.2 (by simpa using h1) (by simpa using h2)
 |c0::cs,.row n::ys,i+1,c,y,h,h1,h2=>km h.2 (by simpa using h1) (by simpa using h2)
 |[],_::_,_,_,_,h,_,_=>h.elim
 |_::_,[],_,_,_,h,_,_=>h.elim
def lD:∀{cs:Ae}{ys:List Vl},BI cs ys->cs.length=ys.length
 |[],[],_=>rfl
 |_::_,.num _::_,h=>by simp[lD h.2]
 |_::_,.row _::_,h=>by simp[lD h.2]
 |[],_::_,h=>h.elim
 |_::_,[],h=>h.elim
def v8:∀{ys:List Vl}{zs:List V}{i:Nat}{y:Vl}{z:V},DQ H ys zs->ys[i]? =some y->zs[i]? =some z->Lk H y z
 |_::_,_::_,0,_,_,⟨a,_⟩,h1,h2=>by grind
 |_::_,_::_,i+1,_,_,⟨_,b⟩,h1,h2=>v8 b (by simpa using h1) (by simpa using h2)
 |[],[],_,_,_,_,h1,_=>by simp at h1
 |[],_::_,_,_,_,x,_,_=>x.elim
 |_::_,[],_,_,_,x,_,_=>x.elim
def Cu(M:Sm)(c:Nat):Vl->Bool
 | .num v=>(decide (c=105)&&decide (M.nP<=v))||(decide (c=115)&&!(decide (1<=v)&&decide (v<=As M)))
 | .row _=>false
def Ar(M:Sm)(cs:Ae)(ys:List Vl):Bool:=(cs.zip ys).any λx=>Cu M x.1 x.2
def aed(c:Nat):decide (V.str (sgn c)=V.str "i")=decide (c=105):=by
 have e:("i")=sgn 105:=by decide+kernel
 rw[e,afb];simp[sgn]
def aec(c:Nat):decide (V.str (sgn c)=V.str "s")=decide (c=115):=by
 have e:("s")=sgn 115:=by decide+kernel
 rw[e,afb];simp[sgn]
def Y1(K:Frag)(ad:Ad):Sp:=λvs H Q _=>Uo λ(r dx n:Addr) (ns:Ae) (k p k':Nat) (nm kd:Str) (ys:List Vl)=>Oy (vs=[.ref r]) (EZ K ad H r dx n ns k) (ns[k]? =some p) (Az[p]? =some (nm,kd)) (AY ns (k+1) kd.cps.toList=some (ys,k')) (kd.cps.size<=10) (∀x cx t zs H',Aa (Al r H) H'->EZ K ad H' r dx n ns k'->Al r H x=none->H' x=some (.ins ad.Call cx (JY nm kd t))->H' t=some (.lst zs)->DQ H' ys zs->Q (.ref x) H')
def s_(T:Txt kK mg aD base):AH P w kK mg base 4 aD.Reader "read_call" (Y1 kK aD):=by
 refine se T.m.Ih b9 ?_;rintro bo H vs Q E hr ⟨r,dx,n,ns,k,p,k',nm,kd,ys,e,hR,hp,ht,hv,hsz,q⟩;subst e;obtain⟨ct,cxs,hm,hk,hl,hi⟩:=T.l.calls;obtain⟨sa,hsa,Z9⟩:=hi p _ ht;refine ag<|aP 1 b9.sc.nd<|bg cR<|kC (v:=.ref ct) RR hm RR<|cX (fR T) (hr.mono (by decide)) T.m.Bi<|af 0 ⟨r,_,_,RR,hR.obj,by kernel_rfl,⟨r,dx,n,ns,k,p,RR,hR,hp,λH1 s1 Qs=>⟨ct,cxs,_,_,RR,RR,.inr hk,aS hsa,?_⟩⟩⟩;refine ah<|aj<|kr (vd T) (hr.mono (by decide)) RR T.m.Vj<|aa<|bg cR<|af 1<|aG ⟨sa,_,_,_,RR,RR,.inr Z9,aS (j:=0) RR,aa<|bg cR<|af 1<|aG ⟨sa,_,_,_,RR,RR,.inr Z9,aS (j:=1) RR,aa ?_⟩⟩;refine t5 (own:=[("kind",2)]) RR b9.sc.nd (aB (by kernel_rfl)) (λ_ _ _ _ _=>cT 2 b9.sc.nd) ?_;refine adM<|bg cR<|af 1<|aG ⟨sa,_,_,_,RR,RR,.inr Z9,aS (j:=1) RR,kd,RR,λD hD=>?_⟩;have Ya:r≠D:=ak Qs.obj hD;refine⟨λi m H2=>m=kd.cps.size-i/\i<=kd.cps.size/\∃ki yi zi,AY ns (k+1) (kd.cps.toList.take i)=some (yi,ki)/\Aa (Al r H1) H2/\EZ kK aD H2 r dx n ns ki/\H2 D=some (.lst zi)/\DQ (Ak [r,D] H2) yi zi,⟨kd.cps.size,by simp,afk _,k+1,[],[],RR,?_,Qs.to (k':=k+1) ?_ ?_,ae,trivial⟩,?_⟩;·exact kg.aL (kg.free hD) (aM hD)
 ·exact kg.aL (kg.free hD) (aM hD)
 ·rw[ai Ya];exact Qs.obj
 rintro i m H2 ⟨rfl,hi,ki,yi,zi,VO,s2,Yo,VW,A_⟩;by_cases Bz:i<kd.cps.size
 ·have hc:kd.cps.toList[i]? =some kd.cps[i]:=by simp[Bz]
  have split:kd.cps.toList=kd.cps.toList.take i++(kd.cps[i]::kd.cps.toList.drop (i+1)):=by have e:=aga (as:=kd.cps.toList) (i:=i) (by simpa using Bz);rw[Array.getElem_toList]at e;rw[e,ahM]
  have Ob:=hv;rw[split]at Ob;obtain⟨ya,ka,yb,h1,h2,h3⟩:=jZ Ob;rw[VO]at h1;cases h1;simp only[AY]at h2;cases e:EG ns ki kd.cps[i]with
  |none=>rw[e]at h2;cases h2
  |some x=>
   obtain⟨y,k1⟩:=x;have hlen:=nk VO;have hlz:=ng A_;have W6:AY ns (k+1) (kd.cps.toList.take (i+1))=some (yi++[y],k1):=by rw[a_ hc];exact ju VO (by simp only[AY];rw[e])
   refine .inr ⟨Bz,λH'=>∃ki yi zi,AY ns (k+1) (kd.cps.toList.take (i+1))=some (yi,ki)/\Aa (Al r H1) H'/\EZ kK aD H' r dx n ns ki/\H' D=some (.lst zi)/\DQ (Ak [r,D] H') yi zi,λH' h=>⟨kd.cps.size-(i+1),by omega,RR,Bz,h⟩,?_⟩;rintro x H3 ⟨rfl,c,EV,rfl⟩;have ec:c=kd.cps[i]:=by rw[ahj Bz]at EV;exact(ae2 EV).symm
   subst ec;refine⟨sj _ _ _,λs0 H0 C cl fp=>kE ?_⟩;rw[if_pos RR];intro s0 H0 C cl fp;refine bK (rk T) (hr.mono (by decide)) T.m.Bi<|af 0 ⟨r,dx,_,RR,Yo.obj,by kernel_rfl,aa<|af 2<|ab ⟨r,dx,n,ns,ki,kd.cps[i],k1,y,RR,Yo,e,λv H4 s4 hR4 Wv fr4=>?_⟩⟩;have hD4:H4 D=some (.lst zi):=s4.lst (by rw[bw (afA Ya)];exact VW);have s24:Aa (Al r H1) H4:=lj s2 ⟨_,Yo.obj,RR⟩ s4;have s5:Aa (Al r H1) (upd H4 D (.lst (zi++[v]))):=s24.aL (kg.free hD) (aw hD4 RR);refine⟨zi,hD4,?_,k1,yi++[y],zi++[v],W6,s5,Qs.to s5 (by rw[ai Ya];exact hR4.obj),ae,qb ?_ (iP ?_ A_)⟩;·rw[<-hlz,hlen,afJ];exact afl (af7 _ _) (ae9 Bz (afe hsz (by decide)))
   ·cases y with
    |num m=>exact Wv
    |row l=>
     obtain⟨p',rfl,Qp⟩:=Wv;have n1:p'≠r:=λz=>by rw[z,gJ]at Qp;cases Qp
     have n2:p'≠D:=λz=>by have:=fr4 p' RR;rw[z,bw (afA Ya),VW]at this;cases this
     refine⟨p',RR,?_⟩;rw[aT (by simp[n1,n2]),ai n2];rw[bw n1]at Qp;exact Qp
   ·intro p' xs Qp;obtain⟨no,Qp⟩:=dR Qp;have n1:p'≠r:=λz=>no (by simp[z]);have n2:p'≠D:=λz=>no (by simp[z]);rw[aT no,ai n2];exact s4.lst (by rw[bw n1];exact Qp)
 ·have e:i=kd.cps.size:=by omega
  subst e;refine .inl ⟨ae8 _,ab ?_⟩;rw[agj (by simp)]at VO;rw[hv]at VO;cases VO;intro x cx hx Xg AW;refine⟨x,cx,D,nm,kd,RR,ae,λH' s' e'=>⟨RR,?_⟩⟩;have s3:Aa H2 H':=(cV hx Xg).trans s';have sA:Aa (Al r H) H':=lj s1 ⟨_,Qs.obj,RR⟩ (s2.trans s3);refine q x cx D zi H' sA (hR.to sA (s3.ins Yo.obj)) ((lj s1 ⟨_,Qs.obj,RR⟩ s2).free hx) e' (s3.lst VW) (iP (λp xs h=>s3.lst (dR h).2) A_)
def QJ(ad:Ad):Sp:=λvs H Q _=>VB λ(a c cx t:Addr) (M:Sm) (nm kd:Str) (zs:List V) (ys:List Vl)=>Ox (vs=[.ref a,.ref c]) (Ai ad H a M) (H c=some (.ins ad.Call cx (JY nm kd t))) (H t=some (.lst zs)) (DQ H ys zs) (BI kd.cps.toList ys) (kd.cps.all (·<128)=true) (ET H (.bl (Ar M kd.cps.toList ys)) Q)
def oA(T:Txt kK mg aD base):Bx P w T 3 "names_nobody" (QJ aD):=by
 refine bt T.d.LH fk ?_;rintro bo H vs Q E hr ⟨a,c,cx,t,M,nm,kd,zs,ys,e,hS,hc,ht,A_,An,Aag,q⟩;subst e;have l1:=ng A_;have l2:=lD An;have lz:zs.length=kd.cps.size:=by rw[<-l1,<-l2];simp
 have hn:=hS.good.n5;refine ag<|dH RR (nu RR (cA (cT 2 fk.sc.nd) (cA (cT 3 fk.sc.nd) j6)))<|ab1 RR T.c.RD<|aa<|aC<|af 1 ⟨c,_,_,_,_,RR,hc,T.m.Cr,T.m.Hx,ub,aa<|aC<|af 1 ⟨c,_,_,_,_,RR,hc,T.m.Cr,T.m.Cn,d_,ab ⟨kd,t,zs,RR,Aag,Aj.of ht,
  gw (Hb:=H) (sf (Aj.of ht) lz) (λi σ H'=>∃v2 v3,σ=[some (.ref a),some (.ref c),v2,v3]/\Aa H H'/\∀j x,j<i->(kd.cps.toList.zip ys)[j]? =some x->Cu M x.1 x.2=false)
   ⟨_,_,RR,Aa.refl _,λj x hj=>absurd hj (ag7 _)⟩ (λi σ H' ⟨_,_,_,s,_⟩=>s) ?_ ?_⟩⟩⟩
 ·rintro i y x σ H2 H3 hy ⟨v2,v3,rfl,s2,Ek⟩ s3 ⟨T',cc,z,rfl,Ym,hz,hT⟩;obtain⟨Bz,ey⟩:=ae3.mp hy;have Xo:i=y:=by simpa using ey
  subst Xo;have KI:i<zs.length:=by simpa using Bz
  have Vf:kd.cps.toList[i]? =some cc:=by simpa using Ym
  obtain⟨yv,X6⟩:∃yv,ys[i]? =some yv:=⟨ys[i]'(by omega),by simp⟩;have hb:=v8 A_ X6 hz;have WT:(kd.cps.toList.zip ys)[i]? =some (cc,yv):=agx.mpr ⟨Vf,X6⟩;have JA:=s2.trans s3;have next:Cu M cc yv=false->∀j x,j<i+1->(kd.cps.toList.zip ys)[j]? =some x->Cu M x.1 x.2=false:=λh j x hj hx=>by
   rcases ahU j i with z|z;·exact Ek j x z hx
   ·have:j=i:=by omega
    subst this;rw[WT]at hx;cases hx;exact h
  have yes:Cu M cc yv=true->Q (.bl true) H3:=λh=>by
   have e0:Ar M kd.cps.toList ys=true:=by unfold Ar;rw[af1];exact⟨(cc,yv),afa WT,h⟩
   rw[e0]at q;exact q H3 JA
  refine⟨T',_,RR,.inl (.inl hT),RR,_,_,RR,_,_,RR,RR,?_⟩;have S3:=hS.mono JA;obtain⟨dx,pl,ll,hl,ho,ps,S⟩:=S3.ex;refine ag<|aW<|kF<|aV bO (aJ _)<|af 2<|lF T.c.XB RR ⟨RR,_,RR,?_⟩;have second:Cu M cc yv=false\/cc≠105->Lu (EX DR "names_nobody" BQ P w kK mg base bo H E) [(match(AX BQ)with| .For _ _ b _ _::_=>b.getD 1 (.Pass ⟨0,0,0,0⟩)|_=>.Pass ⟨0,0,0,0⟩)] {nx:=λσ H'=>∃v2 v3,σ=[some (.ref a),some (.ref c),v2,v3]/\Aa H H'/\∀j x,j<i+1->(kd.cps.toList.zip ys)[j]? =some x->Cu M x.1 x.2=false,ct:=λσ H'=>∃v2 v3,σ=[some (.ref a),some (.ref c),v2,v3]/\Aa H H'/\∀j x,j<i+1->(kd.cps.toList.zip ys)[j]? =some x->Cu M x.1 x.2=false,bk:=Lu (EX DR "names_nobody" BQ P w kK mg base bo H E) ((AX BQ).drop 1) {nx:=λ_ H'=>Q .BM H',rt:=Q},rt:=Q} [some (.ref a),some (.ref c),some (.str (sgn cc)),some z] H3:=λAae=>by
   refine ah<|aW<|kF<|aV bO (aJ _)<|af 2<|lF T.c.XG RR ⟨RR,_,RR,?_⟩;rw[aec];by_cases h2:cc=115
   ·rw[decide_eq_true h2,if_pos RR];obtain⟨v,rfl⟩:=km An Vf X6 (by omega);obtain rfl:z= .int (v:Int):=hb;have eb:Cu M cc (.num v)=!(decide (1<=v)&&decide (v<=As M)):=by unfold Cu;rw[h2];simp
    refine cH<|ow gb gb<|aG<|af 3 ⟨_,_,RR,RR,_,RR,?_⟩;by_cases h3:1<=v
    ·rw[decide_eq_true (by omega),if_pos RR];refine ao (jJ T) hr<|af 0<|ab ⟨a,M,RR,S3,_,_,RR,RR,_,RR,?_⟩;by_cases h4:v<=As M;·rw[decide_eq_true (by omega)];exact aA ⟨_,_,RR,JA,next (by rw[eb,decide_eq_true h3,decide_eq_true h4];rfl)⟩
     ·rw[decide_eq_false (by omega)];exact ah<|aj<|mj<|yes (by rw[eb,decide_eq_false h4];simp)
    ·rw[decide_eq_false (by omega),if_neg ae0];refine⟨_,RR,?_⟩;exact ah<|aj<|mj<|yes (by rw[eb,decide_eq_false h3];simp)
   ·rw[decide_eq_false h2,if_neg ae0,if_neg ae0];refine aA ⟨_,_,RR,JA,next ?_⟩;rcases Aae with h|h;·exact h
    ·cases yv with
     |num v=>unfold Cu;simp[h,h2]
     |row l=>rfl
  rw[show decide (V.str {cps:=#[cc]}=V.str "i")=decide (cc=105)from aed cc];by_cases h1:cc=105
  ·rw[decide_eq_true h1,if_pos RR];obtain⟨v,rfl⟩:=km An Vf X6 (by omega);obtain rfl:z= .int (v:Int):=hb;have eb:Cu M cc (.num v)=decide (M.nP<=v):=by unfold Cu;rw[h1];simp
   refine aV acq (aJ _)<|af 3<|aX RR T.c.AV<|aE 0 S T T.m.Ac aI ⟨_,_,RR,Aj.of S.pl,_,_,RR,RR,_,RR,?_⟩;rw[ae1,S.len];by_cases h2:M.nP<=v;·rw[decide_eq_true (by omega),if_pos RR];exact ah<|aj<|mj<|yes (by rw[eb];exact decide_eq_true h2)
   ·rw[decide_eq_false (by omega),if_neg ae0];exact aA (second (.inl (by rw[eb];exact decide_eq_false h2)))
  ·rw[decide_eq_false h1,if_neg ae0,if_neg ae0];exact aA (second (.inr h1))
 ·rintro σ H' ⟨v2,v3,rfl,s',Ek⟩;have e0:Ar M kd.cps.toList ys=false:=by unfold Ar;rw[ahr];intro x hx;obtain⟨j,hj⟩:=agg hx;have S9:=(ae3.mp hj).1;rw[af5]at S9;rw[Ek j x (by simp;omega) hj];exact ae0
  rw[e0]at q;exact ah<|aj<|mj<|q H' s'
noncomputable def numAt(ys:List Vl)(i:Nat):Nat:=match ys[i]? with
 |some (.num n)=>n
 |_=>0
noncomputable def rowOf(ys:List Vl)(i:Nat):Ae:=match ys[i]? with
 |some (.row l)=>l
 |_=>[]
def By:List (Ae):=[[110,110],[110,110,110,110,110,119],[105,110],[105,110,110],[105,110,110],[105,119],[105,105],[105,105],[105,105],[115],[105],[],[],[],[115],[115],[],[],[],[],[105],[],[115],[],[],[],[110,110],[115],[115],[115],[115,105],[115,110],[115,110],[105,105,105,105],[105,105],[105,105],[],[],[],[],[105,105],[115],[],[115],[],[115],[105],[],[105],[]]
def iO:Az.map (λx=>x.2.cps.toList)=By:=by decide+kernel
def sx:Az.all (λx=>decide (x.2.cps.size<=10)&&x.2.cps.all (·<128))=true:=by decide+kernel
def xw:Az.map (λx=>decide (V.str x.1=V.str "begin"))=(List.range 50).map (λp=>decide (p=0)):=by decide+kernel
def za:Az.map (λx=>decide (V.str x.1=V.str "back"))=(List.range 50).map (λp=>decide (p=12)):=by decide+kernel
def xx:Az.map (λx=>decide (V.str x.1=V.str "again"))=(List.range 50).map (λp=>decide (p=13)):=by decide+kernel
def xu:Az.map (λx=>decide (V.str x.1=V.str "state"))=(List.range 50).map (λp=>decide (p=49)):=by decide+kernel
def aa4:Az.map (λx=>KTD.inKeys x.1 BU)=(List.range 50).map (λp=>decide (1<=p/\p<=11)):=by decide+kernel
def aeJ:Az.length=50:=by decide+kernel
def Ng:List (Option Str):=none::some "add_party" ::some "set_seats" ::some "set_wants" ::some "set_cares" ::some "set_worth" ::some "add_like" ::some "add_hate" ::some "forget" ::some "form" ::some "leaves" ::some "resign" ::none::none::none::none::none::none::none::none::none::none::none::none::none::none::none::none::none::none::none::none::none::none::none::none::none::none::none::none::none::none::none::none::none::none::none::none::none::none::[]
def Nj:List (Option Str):=none::none::none::none::none::none::none::none::none::none::none::none::none::none::some "answer_vote" ::some "answer_stands" ::some "answer_standing" ::some "answer_tight" ::some "answer_fewest" ::some "answer_smallest" ::some "answer_part" ::some "answer_middle" ::some "answer_joined" ::some "answer_neighbours" ::some "answer_narrowest" ::some "answer_centre" ::some "answer_motion" ::some "answer_order" ::some "answer_plain" ::some "answer_ahead" ::some "answer_alone" ::some "answer_gains" ::some "answer_swaps" ::some "answer_beats" ::some "answer_beaters" ::some "answer_unseaters" ::some "answer_calm" ::some "answer_holding" ::some "answer_middles" ::some "answer_strong" ::some "answer_fall" ::some "answer_deal" ::some "answer_mays" ::some "answer_leave" ::some "answer_stable" ::some "answer_on" ::some "answer_best" ::some "answer_governs" ::some "answer_look" ::none::[]
def y_:Az.map (λx=>KTD.datumAt x.1 BU)=Ng:=by decide+kernel
def zb:Az.map (λx=>KTD.datumAt x.1 JZ)=Nj:=by decide+kernel
def kY{β:Type}{f:Str×Str->β}{L:List β}{p:Nat}(h:Az.map f=L)(e:Az[p]? =some x):L[p]? =some (f x):=by rw[<-h,afc,e];rfl
def qN(e:Az[p]? =some x):p<50:=(ae3.mp e).1
def jR{g:Nat->Bool}(h:Az.map f=(List.range 50).map g)(e:Az[p]? =some x):f x=g p:=by have h1:=kY h e;rw[afc,afH (qN e)]at h1;simp_all
def Aao:List (Sm->List Vl->Am):=[
 λM ys=>Mg M (numAt ys 0),
 λM ys=>Ia M (numAt ys 0),
 λM ys=>FQ M,
 λM ys=>J4 M,
 λM ys=>DG M,
 λM ys=>CL M,
 λM ys=>Mh M (numAt ys 0),
 λM ys=>Ic M,
 λM ys=>Ie M (numAt ys 0),
 λM ys=>En M,
 λM ys=>CM M,
 λM ys=>F0 M,
 λM ys=>EM M (numAt ys 0) (numAt ys 1),
 λM ys=>Hw M (numAt ys 0),
 λM ys=>EL (λ_=>0) M (numAt ys 0),
 λM ys=>EL (λg=>g) M (numAt ys 0),
 λM ys=>FT M (numAt ys 0) (numAt ys 1),
 λM ys=>FR M (numAt ys 0) (numAt ys 1),
 λM ys=>FP M (numAt ys 0) (numAt ys 1),
 λM ys=>J8 M (numAt ys 0) (numAt ys 1) (numAt ys 2) (numAt ys 3),
 λM ys=>J9 M (numAt ys 0) (numAt ys 1),
 λM ys=>Hv M (numAt ys 0) (numAt ys 1),
 λM ys=>OT M,
 λM ys=>J7 M,
 λM ys=>J5 M,
 λM ys=>H_ M,
 λM ys=>OS M (numAt ys 0) (numAt ys 1),
 λM ys=>Jo M (numAt ys 0),
 λM ys=>Mi M,
 λM ys=>J6 M (numAt ys 0),
 λM ys=>Ib M,
 λM ys=>RF M (numAt ys 0),
 λM ys=>F4 M (numAt ys 0),
 λM ys=>DU M,
 λM ys=>Jn M (numAt ys 0)]
def Ni(p:Nat)(M:Sm)(ys:List Vl):Am:=(Aao.getD (p-14) λ_ _=>[]) M ys
def Aan:List (Sm->List Vl->Sm×Am):=[
 λM ys=>CV M (numAt ys 0) (numAt ys 1) (numAt ys 2) (numAt ys 3) (numAt ys 4) (rowOf ys 5),
 λM ys=>CU M (numAt ys 0) (numAt ys 1),
 λM ys=>CT M (numAt ys 0) (numAt ys 1) (numAt ys 2),
 λM ys=>CW M (numAt ys 0) (numAt ys 1) (numAt ys 2),
 λM ys=>CS M (numAt ys 0) (rowOf ys 1),
 λM ys=>DA M (numAt ys 0) (numAt ys 1),
 λM ys=>DB M (numAt ys 0) (numAt ys 1),
 λM ys=>Cj M (numAt ys 0) (numAt ys 1),
 λM ys=>DC M (numAt ys 0),
 λM ys=>Ci M (numAt ys 0),
 λM _=>Cg M]
def Nf(p:Nat)(M:Sm)(ys:List Vl):Sm×Am:=(Aan.getD (p-1) λM _=>(M,[])) M ys
def BY(D:Dm)(p:Nat)(ys:List Vl):Dm×Am:=if p=0 then GV D (numAt ys 0) (numAt ys 1)else match D.cur with
 |none=>(D,[-61])
 |some M=>if Ar M (By.getD p []) ys=true then(D,[-2])else if p=12 then IB D M else if p=13 then FU D M else if p=49 then(D,K7 D M)else if 1<=p/\p<=11 then DD D M (Nf p M ys)else(D,Ni p M ys)
def gI{zs:List V}(hf:BI [] ys)(hr:DQ H ys zs):ys=[]/\zs=[]:=by
 cases ys with
 |nil=>cases zs with|nil=>exact⟨RR,RR⟩|cons _ _=>exact hr.elim
 |cons _ _=>exact hf.elim
def pA{zs:List V}(hc:c≠119)(hf:BI (c::cs) ys)(hr:DQ H ys zs):∃(g:Nat) (Lx:List Vl) (Jk:List V),ys= .num g::Lx/\zs= .int (g:Int)::Jk/\BI cs Lx/\DQ H Lx Jk:=by
 cases ys with
 |nil=>exact hf.elim
 |cons y ys=>
  cases y with
  |row l=>exact absurd hf.1 hc
  |num g=>
   cases zs with
   |nil=>exact hr.elim
   |cons z zs=>obtain⟨h1,h2⟩:=hr;subst h1;exact⟨g,ys,zs,RR,RR,hf.2,h2⟩
def aet{zs:List V}(hf:BI (119::cs) ys)(hr:DQ H ys zs):∃(l:Ae) (p:Addr) (Lx:List Vl) (Jk:List V),ys= .row l::Lx/\zs= .ref p::Jk/\H p=some (.lst (nums l))/\BI cs Lx/\DQ H Lx Jk:=by
 cases ys with
 |nil=>exact hf.elim
 |cons y ys=>
  cases y with
  |num g=>exact absurd RR hf.1
  |row l=>
   cases zs with
   |nil=>exact hr.elim
   |cons z zs=>obtain⟨⟨p,h1,h3⟩,h2⟩:=hr;subst h1;exact⟨l,p,ys,zs,RR,RR,h3,hf.2,h2⟩
def inv1{zs:List V}(hc:c≠119)(hf:BI [c] ys)(hr:DQ H ys zs):∃g:Nat,ys=[.num g]/\zs=[.int (g:Int)]:=by obtain⟨g,y1,z1,rfl,rfl,f,r⟩:=pA hc hf hr;obtain⟨rfl,rfl⟩:=gI f r;exact⟨g,RR,RR⟩
def inv2{zs:List V}(hc:c≠119)(hd:d≠119)(hf:BI [c,d] ys)(hr:DQ H ys zs):∃g i:Nat,ys=[.num g,.num i]/\zs=[.int (g:Int),.int (i:Int)]:=by obtain⟨g,y1,z1,rfl,rfl,f,r⟩:=pA hc hf hr;obtain⟨i,rfl,rfl⟩:=inv1 hd f r;exact⟨g,i,RR,RR⟩
def adt{zs:List V}(hc:c≠119)(hd:d≠119)(he:e≠119)(hf:BI [c,d,e] ys)(hr:DQ H ys zs):∃g i j:Nat,ys=[.num g,.num i,.num j]/\zs=[.int (g:Int),.int (i:Int),.int (j:Int)]:=by obtain⟨g,y1,z1,rfl,rfl,f,r⟩:=pA hc hf hr;obtain⟨i,j,rfl,rfl⟩:=inv2 hd he f r;exact⟨g,i,j,RR,RR⟩
def xO(h:Ar M (115::cs) (.num g::ys)=false):1<=g/\g<=As M/\Ar M cs ys=false:=by have h:(Cu M 115 (.num g)||Ar M cs ys)=false:=h;rw[Bool.or_eq_false_iff]at h;have h1:=h.1;simp[Cu]at h1;exact⟨h1.1,h1.2,h.2⟩
def mq(h:Ar M (105::cs) (.num i::ys)=false):i<M.nP/\Ar M cs ys=false:=by have h:(Cu M 105 (.num i)||Ar M cs ys)=false:=h;rw[Bool.or_eq_false_iff]at h;have h1:=h.1;simp[Cu]at h1;exact⟨h1,h.2⟩
def adJ(a:Nat)(h:a<=p):p=a\/a+1<=p:=(Nat.eq_or_lt_of_le h).imp_left Eq.symm
def Ab.mono(C:Ab P w kK mg base j x sp)(h:j<=k):Ab P w kK mg base k x sp:=
 let⟨f,fd,ps,a,b,c,F⟩:=C.ex
 ⟨f,fd,ps,a,b,c,F.mono h⟩
def Ab.mo{kK:Frag}(C:Ab P w kK mg base j x sp)(h:j<=k:=by decide):Ab P w kK mg base k x sp:=C.mono h
def ad3{zs:List V}(T:Txt kK mg aD base)(Ln:14<=p)(Mq:p<=48)(hk:By[p]? =some kd)(DS:Nj[p]? =some (KTD.datumAt nm JZ))(hS:Ai aD H a M)(ht:H t=some (.lst zs))(A_:DQ H ys zs)(An:BI kd ys)(Ca:Ar M kd ys=false)(q:C6 H ((Ni p M ys).map V.int) Q):
  ∃(z:Str) (sp:Sp),KTD.datumAt nm JZ=some z/\Ab P w kK mg base 21 z sp/\sp [.ref a,.ref t] H Q E0:=by
 show"r" 14;·obtain⟨g,rfl,rfl⟩:=inv1 (by decide) An A_;obtain⟨h1,h2,_⟩:=xO Ca;exact⟨"answer_vote",_,(ae2 DS).symm,Ab.mo (pO T),a,t,M,g,RR,hS,ht,h1,h2,q⟩
 show"r" 15;·obtain⟨g,rfl,rfl⟩:=inv1 (by decide) An A_;obtain⟨h1,h2,_⟩:=xO Ca;exact⟨"answer_stands",_,(ae2 DS).symm,Ab.mo (mz T),a,t,M,g,RR,hS,ht,h1,h2,q⟩
 show"r" 16;·obtain⟨rfl,rfl⟩:=gI An A_;exact⟨"answer_standing",_,(ae2 DS).symm,Ab.mo (kO T),a,t,M,[],RR,hS,ht,q⟩
 show"r" 17;·obtain⟨rfl,rfl⟩:=gI An A_;exact⟨"answer_tight",_,(ae2 DS).symm,Ab.mo (oF T),a,t,M,[],RR,hS,ht,q⟩
 show"r" 18;·obtain⟨rfl,rfl⟩:=gI An A_;exact⟨"answer_fewest",_,(ae2 DS).symm,Ab.mo (mF T),a,t,M,[],RR,hS,ht,q⟩
 show"r" 19;·obtain⟨rfl,rfl⟩:=gI An A_;exact⟨"answer_smallest",_,(ae2 DS).symm,Ab.mo (kP T),a,t,M,[],RR,hS,ht,q⟩
 show"r" 20;·obtain⟨i,rfl,rfl⟩:=inv1 (by decide) An A_;obtain⟨h1,_⟩:=mq Ca;exact⟨"answer_part",_,(ae2 DS).symm,Ab.mo (pP T),a,t,M,i,RR,hS,ht,h1,q⟩
 show"r" 21;·obtain⟨rfl,rfl⟩:=gI An A_;exact⟨"answer_middle",_,(ae2 DS).symm,Ab.mo (mD T),a,t,M,[],RR,hS,ht,q⟩
 show"r" 22;·obtain⟨g,rfl,rfl⟩:=inv1 (by decide) An A_;obtain⟨h1,h2,_⟩:=xO Ca;exact⟨"answer_joined",_,(ae2 DS).symm,Ab.mo (mE T),a,t,M,g,RR,hS,ht,h1,h2,q⟩
 show"r" 23;·obtain⟨rfl,rfl⟩:=gI An A_;exact⟨"answer_neighbours",_,(ae2 DS).symm,Ab.mo (jb T),a,t,M,[],RR,hS,ht,q⟩
 show"r" 24;·obtain⟨rfl,rfl⟩:=gI An A_;exact⟨"answer_narrowest",_,(ae2 DS).symm,Ab.mo (jM T),a,t,M,[],RR,hS,ht,q⟩
 show"r" 25;·obtain⟨rfl,rfl⟩:=gI An A_;exact⟨"answer_centre",_,(ae2 DS).symm,Ab.mo (mG T),a,t,M,[],RR,hS,ht,q⟩
 show"r" 26;·obtain⟨g,i,rfl,rfl⟩:=inv2 (by decide) (by decide) An A_;exact⟨"answer_motion",_,(ae2 DS).symm,Ab.mo (mC T),a,t,M,g,i,RR,hS,ht,q⟩
 show"r" 27;·obtain⟨g,rfl,rfl⟩:=inv1 (by decide) An A_;obtain⟨h1,h2,_⟩:=xO Ca;exact⟨"answer_order",_,(ae2 DS).symm,Ab.mo (oJ T),a,t,M,g,RR,hS,ht,h1,h2,q⟩
 show"r" 28;·obtain⟨g,rfl,rfl⟩:=inv1 (by decide) An A_;obtain⟨h1,h2,_⟩:=xO Ca;exact⟨"answer_plain",_,(ae2 DS).symm,Ab.mo (oH T),a,t,M,g,RR,hS,ht,h1,h2,q⟩
 show"r" 29;·obtain⟨g,rfl,rfl⟩:=inv1 (by decide) An A_;obtain⟨h1,h2,_⟩:=xO Ca;exact⟨"answer_ahead",_,(ae2 DS).symm,Ab.mo (oP T),a,t,M,g,RR,hS,ht,h1,h2,q⟩
 show"r" 30;·obtain⟨g,i,rfl,rfl⟩:=inv2 (by decide) (by decide) An A_;obtain⟨h1,h2,h3⟩:=xO Ca;obtain⟨h3,_⟩:=mq h3;exact⟨"answer_alone",_,(ae2 DS).symm,Ab.mo (oO T),a,t,M,g,i,RR,hS,ht,h1,h2,h3,q⟩
 show"r" 31;·obtain⟨g,i,rfl,rfl⟩:=inv2 (by decide) (by decide) An A_;obtain⟨h1,h2,_⟩:=xO Ca;exact⟨"answer_gains",_,(ae2 DS).symm,Ab.mo (oM T),a,t,M,g,i,RR,hS,ht,h1,h2,q⟩
 show"r" 32;·obtain⟨g,i,rfl,rfl⟩:=inv2 (by decide) (by decide) An A_;obtain⟨h1,h2,_⟩:=xO Ca;exact⟨"answer_swaps",_,(ae2 DS).symm,Ab.mo (oG T),a,t,M,g,i,RR,hS,ht,h1,h2,q⟩
 show"r" 33;·obtain⟨g,y1,z1,rfl,rfl,f1,r1⟩:=pA (by decide) An A_;obtain⟨i,j,l,rfl,rfl⟩:=adt (by decide) (by decide) (by decide) f1 r1;obtain⟨h1,h2⟩:=mq Ca;obtain⟨h2,h3⟩:=mq h2;obtain⟨h3,h4⟩:=mq h3;obtain⟨h4,_⟩:=mq h4;exact⟨"answer_beats",_,(ae2 DS).symm,Ab.mo (oN T),a,t,M,g,i,j,l,RR,hS,ht,h1,h2,h3,h4,q⟩
 show"r" 34;·obtain⟨g,i,rfl,rfl⟩:=inv2 (by decide) (by decide) An A_;obtain⟨h1,h2⟩:=mq Ca;obtain⟨h2,_⟩:=mq h2;exact⟨"answer_beaters",_,(ae2 DS).symm,Ab.mo (lQ T),a,t,M,g,i,RR,hS,ht,h1,h2,q⟩
 show"r" 35;·obtain⟨g,i,rfl,rfl⟩:=inv2 (by decide) (by decide) An A_;obtain⟨h1,h2⟩:=mq Ca;obtain⟨h2,_⟩:=mq h2;exact⟨"answer_unseaters",_,(ae2 DS).symm,Ab.mo (jL T),a,t,M,g,i,RR,hS,ht,h1,h2,q⟩
 show"r" 36;·obtain⟨rfl,rfl⟩:=gI An A_;exact⟨"answer_calm",_,(ae2 DS).symm,Ab.mo (pU T),a,t,M,[],RR,hS,ht,q⟩
 show"r" 37;·obtain⟨rfl,rfl⟩:=gI An A_;exact⟨"answer_holding",_,(ae2 DS).symm,Ab.mo (lO T),a,t,M,[],RR,hS,ht,q⟩
 show"r" 38;·obtain⟨rfl,rfl⟩:=gI An A_;exact⟨"answer_middles",_,(ae2 DS).symm,Ab.mo (lN T),a,t,M,[],RR,hS,ht,q⟩
 show"r" 39;·obtain⟨rfl,rfl⟩:=gI An A_;exact⟨"answer_strong",_,(ae2 DS).symm,Ab.mo (my T),a,t,M,[],RR,hS,ht,q⟩
 show"r" 40;·obtain⟨g,i,rfl,rfl⟩:=inv2 (by decide) (by decide) An A_;obtain⟨h1,h2⟩:=mq Ca;obtain⟨h2,_⟩:=mq h2;exact⟨"answer_fall",_,(ae2 DS).symm,Ab.mo (pS T),a,t,M,g,i,RR,hS,ht,h1,h2,q⟩
 show"r" 41;·obtain⟨g,rfl,rfl⟩:=inv1 (by decide) An A_;obtain⟨h1,h2,_⟩:=xO Ca;exact⟨"answer_deal",_,(ae2 DS).symm,Ab.mo (pT T),a,t,M,g,RR,hS,ht,h1,h2,q⟩
 show"r" 42;·obtain⟨rfl,rfl⟩:=gI An A_;exact⟨"answer_mays",_,(ae2 DS).symm,Ab.mo (pQ T),a,t,M,[],RR,hS,ht,q⟩
 show"r" 43;·obtain⟨g,rfl,rfl⟩:=inv1 (by decide) An A_;obtain⟨h1,h2,_⟩:=xO Ca;exact⟨"answer_leave",_,(ae2 DS).symm,Ab.mo (oK T),a,t,M,g,RR,hS,ht,h1,h2,q⟩
 show"r" 44;·obtain⟨rfl,rfl⟩:=gI An A_;exact⟨"answer_stable",_,(ae2 DS).symm,Ab.mo (mB T),a,t,M,[],RR,hS,ht,q⟩
 show"r" 45;·obtain⟨g,rfl,rfl⟩:=inv1 (by decide) An A_;obtain⟨h1,h2,_⟩:=xO Ca;exact⟨"answer_on",_,(ae2 DS).symm,Ab.mo (uk T),a,t,M,g,RR,hS,ht,h1,h2,q⟩
 show"r" 46;·obtain⟨i,rfl,rfl⟩:=inv1 (by decide) An A_;obtain⟨h1,_⟩:=mq Ca;exact⟨"answer_best",_,(ae2 DS).symm,Ab.mo (pV T),a,t,M,i,RR,hS,ht,h1,q⟩
 show"r" 47;·obtain⟨rfl,rfl⟩:=gI An A_;exact⟨"answer_governs",_,(ae2 DS).symm,Ab.mo (lP T),a,t,M,[],RR,hS,ht,q⟩
 show"r" 48;·obtain⟨i,rfl,rfl⟩:=inv1 (by decide) An A_;obtain⟨h1,_⟩:=mq Ca;exact⟨"answer_look",_,(ae2 DS).symm,Ab.mo (pR T),a,t,M,i,RR,hS,ht,h1,q⟩
 exact absurd Mq (ahS.mpr Ln)
def cg(M:Sm):(BF M).2≠[]:=by unfold BF;split<;>simp
def ad0{zs:List V}(T:Txt kK mg aD base)(Ln:1<=p)(Mq:p<=11)(hk:By[p]? =some kd)(DS:Ng[p]? =some (KTD.datumAt nm BU))(A_:DQ H ys zs)(An:BI kd ys)(Ca:Ar M kd ys=false)(Gh:∀l,Vl.row l∈ys->l.length<=100000):
  ∃(z:Str) (c:Sm->Sm×Am) (ok:Hp->Sm->Prop),KTD.datumAt nm BU=some z/\Ab P w kK mg base 22 z (HG aD zs c ok)/\ok H M/\(c M).2≠[]/\c M=Nf p M ys:=by
 show"r" 1;·obtain⟨n,y1,z1,rfl,rfl,f1,r1⟩:=pA (by decide) An A_;obtain⟨x,y2,z2,rfl,rfl,f2,r2⟩:=pA (by decide) f1 r1;obtain⟨y,y3,z3,rfl,rfl,f3,r3⟩:=pA (by decide) f2 r2;obtain⟨c,y4,z4,rfl,rfl,f4,r4⟩:=pA (by decide) f3 r3;obtain⟨d,y5,z5,rfl,rfl,f5,r5⟩:=pA (by decide) f4 r4;obtain⟨l,b,y6,z6,rfl,rfl,hb,f6,r6⟩:=aet f5 r5;obtain⟨rfl,rfl⟩:=gI f6 r6;exact⟨"add_party",_,_,(ae2 DS).symm,Ab.mono (um T n x y c d b l) (by decide),⟨hb,Gh l (by simp)⟩,by show(CV M n x y c d l).2≠[];unfold CV;(repeat' split)<;>simp,RR⟩
 show"r" 2;·obtain⟨i,n,rfl,rfl⟩:=inv2 (by decide) (by decide) An A_;obtain⟨h1,_⟩:=mq Ca;exact⟨"set_seats",_,_,(ae2 DS).symm,Ab.mono (ue T i n) (by decide),h1,by show(CU M i n).2≠[];unfold CU;repeat' split;all_goals first|exact cg _|simp,RR⟩
 show"r" 3;·obtain⟨i,x,y,rfl,rfl⟩:=adt (by decide) (by decide) (by decide) An A_;obtain⟨h1,_⟩:=mq Ca;exact⟨"set_wants",_,_,(ae2 DS).symm,Ab.mono (ud T i x y) (by decide),h1,by show(CT M i x y).2≠[];unfold CT;repeat' split;all_goals first|exact cg _|simp,RR⟩
 show"r" 4;·obtain⟨i,x,y,rfl,rfl⟩:=adt (by decide) (by decide) (by decide) An A_;obtain⟨h1,_⟩:=mq Ca;exact⟨"set_cares",_,_,(ae2 DS).symm,Ab.mono (uf T i x y) (by decide),h1,by show(CW M i x y).2≠[];unfold CW;repeat' split;all_goals first|exact cg _|simp,RR⟩
 show"r" 5;·obtain⟨i,y1,z1,rfl,rfl,f1,r1⟩:=pA (by decide) An A_;obtain⟨l,b,y6,z6,rfl,rfl,hb,f6,r6⟩:=aet f1 r1;obtain⟨rfl,rfl⟩:=gI f6 r6;obtain⟨h1,_⟩:=mq Ca;exact⟨"set_worth",_,_,(ae2 DS).symm,Ab.mono (uc T i b l) (by decide),⟨h1,hb,Gh l (by simp)⟩,by show(CS M i l).2≠[];unfold CS;repeat' split;all_goals first|exact cg _|simp,RR⟩
 show"r" 6;·obtain⟨i,j,rfl,rfl⟩:=inv2 (by decide) (by decide) An A_;obtain⟨h1,h2⟩:=mq Ca;obtain⟨h2,_⟩:=mq h2;exact⟨"add_like",_,_,(ae2 DS).symm,Ab.mono (vF T i j) (by decide),⟨h1,h2⟩,by show(DA M i j).2≠[];unfold DA;repeat' split;all_goals first|exact cg _|simp,RR⟩
 show"r" 7;·obtain⟨i,j,rfl,rfl⟩:=inv2 (by decide) (by decide) An A_;obtain⟨h1,h2⟩:=mq Ca;obtain⟨h2,_⟩:=mq h2;exact⟨"add_hate",_,_,(ae2 DS).symm,Ab.mono (vG T i j) (by decide),⟨h1,h2⟩,by show(DB M i j).2≠[];unfold DB;repeat' split;all_goals first|exact cg _|simp,RR⟩
 show"r" 8;·obtain⟨i,j,rfl,rfl⟩:=inv2 (by decide) (by decide) An A_;obtain⟨h1,h2⟩:=mq Ca;obtain⟨h2,_⟩:=mq h2;exact⟨"forget",_,_,(ae2 DS).symm,Ab.mono (aaT T i j) (by decide),⟨h1,h2⟩,by show(Cj M i j).2≠[];unfold Cj;repeat' split;all_goals first|exact cg _|simp,RR⟩
 show"r" 9;·obtain⟨g,rfl,rfl⟩:=inv1 (by decide) An A_;obtain⟨h1,h2,_⟩:=xO Ca;exact⟨"form",_,_,(ae2 DS).symm,Ab.mono (ad1 T g) (by decide),h2,by show(DC M g).2≠[];unfold DC;repeat' split;all_goals first|exact cg _|simp,RR⟩
 show"r" 10;·obtain⟨i,rfl,rfl⟩:=inv1 (by decide) An A_;obtain⟨h1,_⟩:=mq Ca;exact⟨"leaves",_,_,(ae2 DS).symm,Ab.mono (aaS T i) (by decide),h1,by show(Ci M i).2≠[];unfold Ci;repeat' split;all_goals first|exact cg _|simp,RR⟩
 show"r" 11;·obtain⟨rfl,rfl⟩:=gI An A_;exact⟨"resign",_,_,(ae2 DS).symm,Ab.mo (aaR T),trivial,by show(Cg M).2≠[];unfold Cg;repeat' split;all_goals first|exact cg _|simp,RR⟩
 exact absurd Mq (ahS.mpr Ln)
def Kk.mono(q:Kk aD Z H a dx e l D' Fp Q)(d:Bw aD Z H a dx e l cv es ls D)(s:Aa H H'):Kk aD Z H' a dx e l D' Fp Q:=λp H2 e' l' d2 s2 fe fl fp h=>by have sH:=Aa.hide ((Aa.di d.sT).trans s) (λy hy=>aN hy) (d.mono s).sT;exact q p H2 e' l' d2 (sH.trans s2) (sH.free fe) (sH.free fl) (sH.free fp) h
def QP(ad:Ad):Sp:=λvs H Q _=>Ul λ(a dx e l x cx t:Addr) (Z:Ax) (D:Dm) (p:Nat) (nm kd:Str) (zs:List V) (ys:List Vl)=>Ow (vs=[.ref a,.ref x]) (Ii ad Z H a dx e l D) (H x=some (.ins ad.Call cx (JY nm kd t))) (H t=some (.lst zs)) (DQ H ys zs) (Az[p]? =some (nm,kd)) (BI kd.cps.toList ys) (∀l,Vl.row l∈ys->l.length<=100000) (Kk ad Z H a dx e l (BY D p ys).1 (BY D p ys).2 Q)
def zU(T:Txt kK mg aD base):AH P w kK mg base 28 aD.BE "answer" (QP aD):=by
 refine se T.m.NC pM ?_;rintro bo H vs Q E hr ⟨a,dx,e,l,x,cx,t,Z,D,p,nm,kd,zs,ys,ev,⟨cv,es,ls,hD⟩,hx,ht,A_,Hn,An,Gh,q⟩;subst ev;have hk:=kY iO Hn;have M7:=afj.mp sx _ (afa Hn);rw[afn]at M7;have AaM:=qN Hn;unfold BY at q;refine ag<|aW<|aV bO (aJ _)<|aC<|af 1 ⟨x,_,_,_,_,RR,hx,T.m.Cr,T.m.BZ,da,rP ⟨RR,_,RR,?_⟩⟩;rw[show decide (V.str nm=V.str "begin")=decide (p=0)from jR xw Hn];by_cases h0:p=0;·rw[decide_eq_true h0];rw[if_pos h0]at q;subst h0;have Yh:kd.cps.toList=[110,110]:=(ae2 hk).symm;rw[Yh]at An;obtain⟨g,i,rfl,rfl⟩:=inv2 (by decide) (by decide) An A_;exact ah<|aj<|bK (abP T) (hr.mono (by decide)) T.m.AL<|af 0 ⟨a,dx,_,RR,hD.obj,by kernel_rfl,aa<|bg bj<|aC<|af 1 ⟨x,_,_,_,_,RR,hx,T.m.Cr,T.m.Cn,d_,aG ⟨t,_,_,_,RR,RR,Aj.of ht,aS (j:=0) RR,aa<|bg bj<|aC<|af 1 ⟨x,_,_,_,_,RR,hx,T.m.Cr,T.m.Cn,d_,aG ⟨t,_,_,_,RR,RR,Aj.of ht,aS (j:=1) RR,ab ⟨a,dx,e,l,Z,D,g,i,RR,⟨cv,es,ls,hD⟩,q⟩⟩⟩⟩⟩⟩
 rw[decide_eq_false h0];rw[if_neg h0]at q;refine aA<|ag<|aW<|aV adb (aJ _)<|aC<|af 0 ⟨a,_,_,_,_,RR,hD.obj,T.m.AL,T.m.AA,bE,aal ⟨RR,_,RR,?_⟩⟩;have hc:=hD.cur;cases hM:D.cur with
 |none=>rw[hM]at hc q;have hc:cv= .BM:=hc;subst hc;exact ah<|aj<|ay<|aa<|au T.c.Tq RR<|ab ⟨bq,λr hr=>q.same hD (Aa.ax hr) hr ae⟩
 |some M=>
  rw[hM]at hc q;obtain⟨c,rfl,hc⟩:=hc;have q:Kk aD Z H a dx e l (if Ar M (By.getD p []) ys=true then(D,[-2])else if p=12 then IB D M else if p=13 then FU D M else if p=49 then(D,K7 D M)else if 1<=p/\p<=11 then DD D M (Nf p M ys)else(D,Ni p M ys)).1 (if Ar M (By.getD p []) ys=true then(D,[-2])else if p=12 then IB D M else if p=13 then FU D M else if p=49 then(D,K7 D M)else if 1<=p/\p<=11 then DD D M (Nf p M ys)else(D,Ni p M ys)).2 Q:=q;rw[show By.getD p []=kd.cps.toList by rw[afB,hk];rfl]at q;rw[decide_eq_false (by intro z;cases z)];refine aA<|ag<|aW<|aO<|ao (oA T) hr<|aC<|af 0 ⟨a,_,_,_,_,RR,hD.obj,T.m.AL,T.m.AA,bE,aa<|af 1<|ab ⟨c,x,cx,t,M,nm,kd,zs,ys,RR,hc.mono hD.un,hx,ht,A_,An,M7.2,λH1 s1=>⟨_,RR,?_⟩⟩⟩;have d1:=hD.mono s1;have M9:=d1.cur;rw[hM]at M9;obtain⟨c',ec,M9⟩:=M9;cases ec;have TY:=s1.ins hx;have MZ:=s1.lst ht;have T4:DQ H1 ys zs:=iP (λp xs h=>s1.lst h) A_;refine ite_bool (λCa=>?_) (λCa=>?_);·rw[if_pos Ca]at q;exact ah<|aj<|ay<|aa<|au T.c.To RR<|ab ⟨bq,λr hr=>(q.mono hD s1).same d1 (Aa.ax hr) hr ae⟩
  rw[if_neg (by rw[Ca];exact ae0)]at q;refine aA<|ag<|aW<|aV bO (aJ _)<|aC<|af 1 ⟨x,_,_,_,_,RR,TY,T.m.Cr,T.m.BZ,da,rP ⟨RR,_,RR,?_⟩⟩;rw[show decide (V.str nm=V.str "back")=decide (p=12)from jR za Hn];by_cases h1:p=12;·rw[decide_eq_true h1];rw[if_pos h1]at q;exact ah<|aj<|cX (adk T) (hr.mono (by decide)) T.m.AL<|af 0 ⟨a,dx,_,RR,d1.obj,by kernel_rfl,a,dx,e,l,Z,D,M,RR,⟨_,es,ls,d1⟩,hM,q.mono hD s1⟩
  rw[decide_eq_false h1];rw[if_neg h1]at q;refine aA<|ag<|aW<|aV bO (aJ _)<|aC<|af 1 ⟨x,_,_,_,_,RR,TY,T.m.Cr,T.m.BZ,da,rP ⟨RR,_,RR,?_⟩⟩;rw[show decide (V.str nm=V.str "again")=decide (p=13)from jR xx Hn];by_cases h2:p=13;·rw[decide_eq_true h2];rw[if_pos h2]at q;exact ah<|aj<|cX (abQ T) (hr.mono (by decide)) T.m.AL<|af 0 ⟨a,dx,_,RR,d1.obj,by kernel_rfl,a,dx,e,l,Z,D,M,RR,⟨_,es,ls,d1⟩,hM,q.mono hD s1⟩
  rw[decide_eq_false h2];rw[if_neg h2]at q;refine aA<|ag<|aW<|aV bO (aJ _)<|aC<|af 1 ⟨x,_,_,_,_,RR,TY,T.m.Cr,T.m.BZ,da,rP ⟨RR,_,RR,?_⟩⟩;rw[show decide (V.str nm=V.str "state")=decide (p=49)from jR xu Hn];by_cases h3:p=49;·rw[decide_eq_true h3];rw[if_pos h3]at q;exact ah<|aj<|cX (adj T) (hr.mono (by decide)) T.m.AL<|af 0 ⟨a,dx,_,RR,d1.obj,by kernel_rfl,a,dx,e,l,Z,D,M,RR,⟨_,es,ls,d1⟩,hM,q.mono hD s1⟩
  rw[decide_eq_false h3];rw[if_neg h3]at q;refine aA<|ag<|aW<|aO<|ao (ui T) hr<|aC<|af 1 ⟨x,_,_,_,_,RR,TY,T.m.Cr,T.m.BZ,da,ab ⟨nm,RR,_,RR,?_⟩⟩;rw[show KTD.inKeys nm BU=decide (1<=p/\p<=11)from jR aa4 Hn];by_cases h4:1<=p/\p<=11;·rw[decide_eq_true h4];rw[if_pos h4]at q;obtain⟨z,c2,ok,hz,C,AU,AW,heq⟩:=ad0 (P:=P) (w:=w) (M:=M) T h4.1 h4.2 hk (kY y_ Hn) T4 An Ca Gh;rw[<-heq]at q;exact ah<|aj<|bK (zS T) (hr.mono (by decide)) T.m.AL<|af 0 ⟨a,dx,_,RR,d1.obj,by kernel_rfl,aa<|aC<|af 1 ⟨x,_,_,_,_,RR,TY,T.m.Cr,T.m.BZ,da,aa<|aC<|af 1 ⟨x,_,_,_,_,RR,TY,T.m.Cr,T.m.Cn,d_,ab ⟨a,dx,e,l,t,Z,D,M,nm,z,zs,c2,ok,RR,⟨_,es,ls,d1⟩,hM,hz,C,MZ,AU,AW,q.mono hD s1⟩⟩⟩⟩
  rw[decide_eq_false h4];rw[if_neg h4]at q;obtain⟨z,sp,hz,C,R5⟩:=ad3 (P:=P) (w:=w) (Q:=Q) T (by omega) (by omega) hk (kY zb Hn) (M9.mono d1.un) MZ T4 An Ca λr H2 s2 Qn e2=>(q.mono hD s1).same d1 s2 Qn e2;exact aA<|ah<|aj<|ao (aeD T) hr<|aC<|af 0 ⟨a,_,_,_,_,RR,d1.obj,T.m.AL,T.m.AA,bE,aa<|aC<|af 1 ⟨x,_,_,_,_,RR,TY,T.m.Cr,T.m.BZ,da,aa<|aC<|af 1 ⟨x,_,_,_,_,RR,TY,T.m.Cr,T.m.Cn,d_,ab ⟨_,_,nm,z,sp,RR,hz,C,R5⟩⟩⟩⟩
inductive Runs(ns:Ae):Nat->Dm->Am->Prop
 |done {D:Dm}:Runs ns ns.length D []
 |step {k:Nat}{D:Dm}{p k':Nat}{nm kd:Str}{ys:List Vl}{out:Am}:ns[k]? =some p->Az[p]? =some (nm,kd)->AY ns (k+1) kd.cps.toList=some (ys,k')->(∀l,Vl.row l∈ys->l.length<=100000)->k<k'->Runs ns k' (BY D p ys).1 out->Runs ns k D (((BY D p ys).2.length:Int)::((BY D p ys).2++out))
noncomputable def posOf(H:Hp)(r:Addr):Nat:=match H r with
 |some (.ins _ _ fs)=>match fs.lookup ("position" :Str)with
  |some (.int i)=>i.toNat
  |_=>0
 |_=>0
def sP(h:H r=some (.ins C dx (Ll n k))):posOf H r=k:=by unfold posOf;rw[h];show(match(Ll n k).lookup ("position" :Str)with|some (.int i)=>i.toNat|_=>0)=k;rw[bY];simp
def ve:Ak [r] H=Al r H:=by unfold Ak Al;simp
def Bw.side(d:Bw aD Z H a dx e l cv es ls D)(hr:r∈Z)(s:Aa (Al r H) H')(ho:∃o,H' r=some o/\B6 (some o)):Bw aD Z H' a dx e l cv es ls D:=by
 have na:a≠r:=λz=>d.zo.1 (z▸hr);have ne:e≠r:=λz=>d.zo.2.1 (z▸hr);have nl:l≠r:=λz=>d.zo.2.2 (z▸hr);have o1:=s.ins (by rw[bw na];exact d.obj);have e1:H' e=some (.lst (es.map V.ref)):=s.lst (by rw[bw ne];exact d.el);have l1:=s.lst (by rw[bw nl];exact d.ll);have z1:∀z∈Z,∃o,H' z=some o/\B6 (some o):=λz hz=>by
  by_cases ez:z=r;·subst ez;exact ho
  ·obtain⟨o,h,n⟩:=d.V4 z hz;exact⟨o,Kp.wd (s.go z o (by rw[bw ez];exact h)) n,n⟩
 have t:Aa (Ak (a::e::l::Z) H) (Ak (a::e::l::Z) H'):=by
  refine Aa.hide ?_ (λy hy=>aN hy) λy hy=>?_;·refine Aa.trans (H1:=Ak [r] H) (Aa.less λz hz=>?_) (by rw[ve];exact s);rw[afm.mp hz];simp[hr]
  ·simp only[ae5]at hy;rcases hy with rfl|rfl|rfl|hy;·rw[o1];rfl
   ·rw[e1];rfl
   ·rw[l1];rfl
   ·obtain⟨o,h,n⟩:=z1 y hy;rw[h];exact gG n
 exact⟨o1,e1,l1,d.cur.mono t,d.was.mono t,d.SO.mono t,d.ne,d.zo,z1,d.tabs.mono t,d.le⟩
def K8(K:Frag)(ad:Ad):Sp:=λvs H Q _=>BL λ(n:Addr) (ns:Ae) (whole:Am)=>Dn (vs=[.ref n]) (Aj K H n (nums ns)) (Hy ad H) (Runs ns 0 ⟨none,[],[]⟩ whole) (whole.length<=2000000) (∀p H',Aa H H'->H' p=some (.lst (whole.map V.int))->Q (.ref p) H')
def yL(T:Txt kK mg aD base):Bx P w T 30 "answers" (K8 kK aD):=by
 refine bt T.d.answers gr ?_;rintro bo H vs Q E hr ⟨n,ns,whole,e,hn,hT,Rh,hlen,q⟩;subst e;refine ag<|aP 1 gr.sc.nd<|kr (nN T) (hr.mono (by decide)) RR T.m.Rx<|aa<|af 0<|ab λr QY hr0 X_ hrn=>⟨r,QY,n,RR,ae,λH1 s1 e1=>⟨RR,?_⟩⟩;have s1:=(cV hr0 X_).trans s1;refine ag<|aP 2 gr.sc.nd<|aam (vc T) (hr.mono (by decide)) RR T.m.Vi λa Xt Xi had han=>⟨a,Xt,RR,ae,λH2 e l s2 fe fl nel o2 e2 l2=>⟨RR,?_⟩⟩;have fe:=(cV Xi had).free fe;have fl:=(cV Xi had).free fl;have s2:=(cV Xi had).trans s2;have r2:=s2.ins e1;refine ag<|aP 3 gr.sc.nd<|ay<|ab ⟨afk _,λg hg=>?_⟩;have s3:Aa H2 (upd H2 g (.lst [])):=Aa.ax hg;have g3:upd H2 g (.lst []) g=some (.lst []):=ae;have r3:=s3.ins r2;have o3:=s3.ins o2;have e3:=s3.lst e2;have l3:=s3.lst l2;generalize upd H2 g (.lst [])=H3 at*;have sA:=(s1.trans s2).trans s3;have hr1:H r=none:=hr0;have ha1:H a=none:=s1.free Xi;have he1:H e=none:=s1.free fe;have OJ:H l=none:=s1.free fl;have hg1:H g=none:=(s1.trans s2).free hg;have nra:r≠a:=ak e1 Xi;have nre:r≠e:=ak e1 fe;have nrl:r≠l:=ak e1 fl;have nga:a≠g:=ak o2 hg;have nge:e≠g:=ak e2 hg;have ngl:l≠g:=ak l2 hg;have Zt:r≠g:=ak r2 hg;have d3:Bw aD [r,g] H3 a Xt e l .BM [] [] ⟨none,[],[]⟩:=by
  have zk:∀z∈[r,g],∃o,H3 z=some o/\B6 (some o):=λz hz=>by
   simp only[ae5,afQ,or_false]at hz;rcases hz with rfl|rfl;·exact⟨_,r3,by show 2≠4;decide⟩
   ·exact⟨_,g3,trivial⟩
  refine⟨o3,e3,l3,RR,AG.nil,AG.nil,nel,⟨by simp[nga,afA nra],by simp[nge,afA nre],by simp[ngl,afA nrl]⟩,zk,Hy.ik (hT.mono sA) λy hy=>?_,by show 0<=16;decide⟩;simp only[ae5]at hy;rcases hy with rfl|rfl|rfl|hy;·exact⟨_,o3,by show 3≠4;decide⟩
  ·exact⟨_,e3,trivial⟩
  ·exact⟨_,l3,trivial⟩
  ·exact zk y (by simpa using hy)
 have rd:∀{H':Hp}{k:Nat},Aa H H'->H' r=some (.ins aD.Reader QY (Ll n k))->EZ kK aD H' r QY n ns k:=λ{H' k} s' e'=>⟨e',by
  have RZ:Aa H (Ak [r] H'):=by
   have hH:Ak [] H=H:=by funext b;unfold Ak;simp
   have:=Aa.hide (Z:=[]) (H:=H) (Y:=[r]) (by rw[hH];exact s') (λy hy=>by rw[hH,afm.mp hy];exact hr1) (λy hy=>by rw[afm.mp hy,e'];rfl);rw[hH]at this;exact this
  rw[ve]at RZ;exact RZ.seq hn⟩;refine ag<|ox (λσ H'=>(Qi λv4 k D out rest e l=>Ow (σ=[some (.ref n),some (.ref r),some (.ref a),some (.ref g),v4]) (Aa H H') (H e=none) (H l=none) (H' r=some (.ins aD.Reader QY (Ll n k))) (Ii aD [r,g] H' a Xt e l D) (H' g=some (.lst (out.map V.int))) (Runs ns k D rest) (out++rest=whole))) (λ_ H'=>ns.length-posOf H' r) ⟨_,0,_,[],whole,e,l,RR,sA,he1,OJ,r3,⟨_,_,_,d3⟩,g3,Rh,RR⟩ ?_;rintro σ H4 ⟨v4,k,D,out,rest,e',l',rfl,s4,he4,hl4,r4,⟨cv,es,ls,d4⟩,g4,U5,hw⟩;have hR:=rd s4 r4;refine cH<|aO<|cX (zT T) (hr.mono (by decide)) T.m.Bi<|af 1 ⟨r,QY,_,RR,r4,by kernel_rfl,r,QY,n,ns,k,RR,hR,_,RR,?_⟩;cases U5 with
 |done=>rw[decide_eq_true RR];refine ah<|aj<|af 3<|q g H4 s4 ?_;rw[g4,<-hw,af4]
 |step hp Hn hv Gh Bz Rj=>
  rename_i p k' nm kd ys TU;have hk:k<ns.length:=(ae3.mp hp).1;rw[decide_eq_false (by omega)];have M7:=afj.mp sx _ (afa Hn);rw[afn]at M7;refine ag<|aP 4 gr.sc.nd<|bK (zU T) (hr.mono (by decide)) T.m.AL<|af 2 ⟨a,Xt,_,RR,d4.obj,by kernel_rfl,aa<|cX (s_ T) (hr.mono (by decide)) T.m.Bi<|af 1 ⟨r,QY,_,RR,r4,by kernel_rfl,r,QY,n,ns,k,p,k',nm,kd,ys,RR,hR,hp,Hn,hv,of_decide_eq_true M7.1,λx cx t zs H5 s5 hR5 fx ex et A_=>ab ?_⟩⟩;have d5:=d4.side (r:=r) (by simp) s5 ⟨_,hR5.obj,by show 2≠4;decide⟩;have s4':Aa H (Al r H4):=by
   have hH:Ak [] H=H:=by funext b;unfold Ak;simp
   have:=Aa.hide (Z:=[]) (H:=H) (Y:=[r]) (by rw[hH];exact s4) (λy hy=>by rw[hH,afm.mp hy];exact hr1) (λy hy=>by rw[afm.mp hy,r4];rfl);rw[hH,ve]at this;exact this
  have sH5:Aa H H5:=s4'.trans s5;have g5:H5 g=some (.lst (out.map V.int)):=s5.lst (by rw[bw (afA Zt)];exact g4);refine⟨a,Xt,e',l',x,cx,t,[r,g],D,p,nm,kd,zs,ys,RR,⟨_,_,_,d5⟩,ex,et,A_,Hn,dP hv,Gh,λu H6 e6 l6 ⟨cv6,es6,ls6,d6⟩ s6 fe6 fl6 Ys eu6=>?_⟩;have SH:∀{c o},H5 c=some o->c∈[r,g]->Ak [a,e',l'] H5 c=some o:=λ{c o} hc hz=>by
   rw[aT];·exact hc
   ·intro i;simp only[ae5,afQ,or_false]at i;rcases i with rfl|rfl|rfl;·exact d5.zo.1 hz
    ·exact d5.zo.2.1 hz
    ·exact d5.zo.2.2 hz
  have r6:H6 r=some (.ins aD.Reader QY (Ll n k')):=s6.ins (SH hR5.obj (by simp));have g6:H6 g=some (.lst (out.map V.int)):=s6.lst (SH g5 (by simp));have UH:Aa H (Ak [a,e',l'] H5):=by
   have hH:Ak [] H=H:=by funext b;unfold Ak;simp
   have:=Aa.hide (Z:=[]) (H:=H) (Y:=[a,e',l']) (by rw[hH];exact sH5) (λy hy=>by
    rw[hH];simp only[ae5,afQ,or_false]at hy;rcases hy with rfl|rfl|rfl;·exact ha1
    ·exact he4
    ·exact hl4) d5.sT;rw[hH]at this;exact this
  have sH6:Aa H H6:=UH.trans s6;have nug:u≠g:=λz=>by rw[z,SH g5 (by simp)]at Ys;cases Ys
  have nur:u≠r:=λz=>by rw[z,SH hR5.obj (by simp)]at Ys;cases Ys
  have AaC:out.length+(1+((BY D p ys).2.length+TU.length))<=2000000:=by rw[<-hw]at hlen;simp at hlen;omega
  refine ag<|bV<|af 3 ⟨g,_,RR,g6,aX RR T.c.AV<|af 4 ⟨u,_,RR,Aj.of eu6,_,g6,?_,?_⟩⟩;·rw[ae1];exact ae9 (show out.length<2000001 by omega) (by rw[PySem.sizeLine_eq];decide)
  have s7:Aa (Al g H6) (upd H6 g (.lst (out.map V.int++[.int (((BY D p ys).2.map V.int).length:Int)]))):=kg.ik (aw g6 RR);have g7:upd H6 g (.lst (out.map V.int++[.int (((BY D p ys).2.map V.int).length:Int)])) g=some (.lst (out.map V.int++[.int (((BY D p ys).2.map V.int).length:Int)])):=ae;have u7:upd H6 g (.lst (out.map V.int++[.int (((BY D p ys).2.map V.int).length:Int)])) u=some (.lst ((BY D p ys).2.map V.int)):=by rw[ai nug];exact eu6
  have r7:upd H6 g (.lst (out.map V.int++[.int (((BY D p ys).2.map V.int).length:Int)])) r=some (.ins aD.Reader QY (Ll n k')):=by rw[ai Zt];exact r6
  have d7:=d6.side (r:=g) (by simp) s7 ⟨_,g7,trivial⟩;have sH7:=sH6.aL (o:=.lst (out.map V.int++[.int (((BY D p ys).2.map V.int).length:Int)])) hg1 (aw g6 RR);generalize upd H6 g (.lst (out.map V.int++[.int (((BY D p ys).2.map V.int).length:Int)]))=H7 at*;refine ah<|eV<|ot plainAttrs_list slot_list_extend type_list_extend qk<|af 3 ⟨ty_list (Aj.of g7),aa<|af 4<|ab ⟨g,u,_,_,RR,RR,g7,u7,?_,?_⟩⟩;·simp only[afg,ae1,afG,agE];exact afe (show out.length+(0+1)+(BY D p ys).2.length<=2000000 by omega) (by rw[PySem.sizeLine_eq];decide)
  have s8:Aa (Al g H7) (upd H7 g (.lst (out.map V.int++[.int (((BY D p ys).2.map V.int).length:Int)]++(BY D p ys).2.map V.int))):=kg.ik (aw g7 RR);have r8:upd H7 g (.lst (out.map V.int++[.int (((BY D p ys).2.map V.int).length:Int)]++(BY D p ys).2.map V.int)) r=some (.ins aD.Reader QY (Ll n k')):=by rw[ai Zt];exact r7
  refine⟨⟨_,k',(BY D p ys).1,out++(((BY D p ys).2.length:Int)::(BY D p ys).2),TU,e6,l6,RR,sH7.aL hg1 (aw g7 RR),UH.free fe6,UH.free fl6,r8,⟨_,_,_,d7.side (r:=g) (by simp) s8 ⟨_,ae,trivial⟩⟩,?_,Rj,?_⟩,?_⟩;·rw[ae];simp
  ·rw[<-hw];simp
  ·rw[sP r8,sP r4];omega
section
open PySem.W (WData Codec OpenSpec Well WellAll ReadsW ReadsAllW Hook)
abbrev Ut:Obj:={cls:=.none,data:=.fields #[]}
def mJ{st:Stmt}(T:Top q loose Zx mg mb h)(X:kK.In h)(L:Kc kK mg x st P)(hr:(recsOf q).any (λe=>e.name==x)=true):h.get? P=some Ut/\isCodeTable h P:=by obtain⟨d,hd,hn⟩:=af1.mp hr;have hn:=beq_iff_eq.mp hn;obtain⟨a,o,fd',c',P',h1,h2,h3,h4,h5,h6⟩:=T.tab d hd;obtain⟨f,fd,c,hm,F,hc,hh⟩:=L.ex;obtain⟨oc,od,kV,doc,pm,an,B_,ct,OG,rfl,lk,_⟩:=F.ex;rw[hn,hm]at h1;cases h1;have e2:=X _ _ lk;rw[h2]at e2;cases e2;cases h3;rw[h4]at hc;cases hc;obtain⟨o1,vs1,_,_,_,_,_,_,_,g1,_,g3,g4,_⟩:=codeHd_of_K X hh;have hi:=h6.isCodeTable;obtain⟨⟨o2,vs2,k1,k2,k3,k4⟩,k5⟩:=h6;rw[g1]at k1;cases k1;rw[g3]at k3;cases k3;rw[g4]at k4;cases k4;exact⟨k5,hi⟩
def Vp(H:Hp)(ts:Ax):Hp:=λb=>if b∈ts then some (.F8 #[])else H b
def ade{h:Heap}(x:h.Ns a m)(y:h.Ns a m'):m=m':=by obtain⟨o,es,ep,ho,hd,_,hf⟩:=x;obtain⟨o',PX,Sa,HQ,Xf,_,hf'⟩:=y;grind
def jS:Bs H #[]:=⟨trivial,λpos v e=>by simp[codeAmong]at e⟩
def acf
  (KX:kK.In s₁.heap)(T:Top q loose Zx mg mb s₁.heap)(hg:s₁.gens=#[])(TK:Tp kK mg aD)(TS:OU s₁.heap)(PJ:(Eg.all λx=>(recsOf q).any λe=>e.name==x)=true)(Xm:∀P∈[aD.Ey,aD.CG,aD.Cs,aD.Kj],kK.lookup P=none)
  (TZ:WellAll w.params s₁.heap vals ds)(B8:II ds=true)(hwt:∀d∈ds,d.weight<=1048576)(hfa:mg "answers" =some (.ref fa))(hr:Bm 30 callerA)
  (R5:∀(H:Hp)(xs:List V),Hy aD H->EO kK H xs ds->K8 kK aD xs H (λv H'=>Dw kK H' v d0) E0):
  codeAny (model P w) callerA (.call (.ref fa) ⟨vals,[]⟩) (λr s'=>∃u as,r= .ok (.ret u)/\ReadsW R cl s'.heap u d0 as/\OldK s₁.heap s'.heap/\s'.os=s₁.os/\AllBare s'.gens) s₁:=by
 obtain⟨A,ho,ar⟩:=kS ds vals TZ B8 hwt;have Z0:Fs P w (Em kK s₁.heap A) s₁.heap:=aci ar;have hS:=rT KX ar ds vals TZ B8 ho;have hV:=fY ho;have X9:∀x∈Eg,(recsOf q).any (λe=>e.name==x)=true:=λx hx=>afj.mp PJ x hx;have t1:=mJ T KX TK.DH (X9 _ (by simp[Eg]));have t2:=mJ T KX TK.De (X9 _ (by simp[Eg]));have t3:=mJ T KX TK.Dd (X9 _ (by simp[Eg]));have t4:=mJ T KX TK.EK (X9 _ (by simp[Eg]));have SX:∀P∈[aD.Ey,aD.CG,aD.Cs,aD.Kj],s₁.heap.get? P=some Ut/\isCodeTable s₁.heap P:=λP hP=>by
  simp only[ae5,afQ,or_false]at hP;rcases hP with rfl|rfl|rfl|rfl;·exact t1
  ·exact t2
  ·exact t3
  ·exact t4
 have hA:∀P∈[aD.Ey,aD.CG,aD.Cs,aD.Kj],Em kK s₁.heap A P=none:=λP hP=>by
  cases e:Em kK s₁.heap A P with
  |none=>rfl
  |some u=>
   obtain⟨_,vs,_,_,⟨e2,_⟩|⟨e2,_⟩⟩:=kR ar e;·rw[(SX P hP).1]at e2;cases e2
   ·rw[(SX P hP).1]at e2;cases e2
 have KL:Uh (Em kK s₁.heap A):=yN ar;have hK0:∀b u,Em kK s₁.heap A b=some u->kK.lookup b=none:=λb u e=>(kR ar e).1;have Zr:∀{b:Addr}{o:Obj},s₁.heap.get? b=some o->(∀vs n,o.data≠.seq vs n)->Em kK s₁.heap A b=none:=λ{b o} e nd=>by
  cases e1:Em kK s₁.heap A b with
  |none=>rfl
  |some u=>
   obtain⟨_,vs,_,_,⟨e2,_⟩|⟨e2,_⟩⟩:=kR ar e1;·rw[e]at e2;cases e2;exact absurd RR (nd _ _)
   ·rw[e]at e2;cases e2;exact absurd RR (nd _ _)
 generalize Em kK s₁.heap A=H0 at*;generalize hH:Vp H0 [aD.Ey,aD.CG,aD.Cs,aD.Kj]=H;have V2:∀P∈[aD.Ey,aD.CG,aD.Cs,aD.Kj],H P=some (.F8 #[]):=λP hP=>by rw[<-hH];unfold Vp;rw[if_pos hP]
 have Qh:∀P,P∉[aD.Ey,aD.CG,aD.Cs,aD.Kj]->H P=H0 P:=λP hP=>by rw[<-hH];unfold Vp;rw[if_neg hP]
 have s0:Aa H0 H:=⟨λb o e=>by
  by_cases hb:b∈[aD.Ey,aD.CG,aD.Cs,aD.Kj];·rw[hA b hb]at e;cases e
  ·exact Kp.refl (by rw[Qh b hb];exact e),λP ps e g=>by
  rcases KL P with z|⟨o,u,z⟩;·rw[z]at e;cases e
  ·rw[z]at e;cases e⟩;have AU:Fs P w H s₁.heap:=λb u e=>by
  by_cases hb:b∈[aD.Ey,aD.CG,aD.Cs,aD.Kj];·rw[V2 b hb]at e;cases e;exact(SX b hb).1
  ·rw[Qh b hb]at e;exact(Z0 b u e).oX (λ_ _ _ x=>x) (λc x=>by
    rcases KL c with z|⟨o,u,z⟩;·rw[z]at x;cases x
    ·rw[z]at x;cases x) (λc xs x=>by
    rcases KL c with z|⟨o,u,z⟩;·rw[z]at x;cases x
    ·rw[z]at x;cases x)
 have mono:∀{v:V}{d:WData},Dw kK H0 v d->Dw kK H v d:=λ{v d} x=>by
  refine Dw.rec (motive_1:=λv d _=>Dw kK H v d) (motive_2:=λvs ds _=>EO kK H vs ds) ?_ ?_ ?_ ?_ ?_ ?_ ?_ ?_ ?_ x;·exact .BM
  ·exact λb=>.bl b
  ·exact λi=>.int i
  ·exact λx=>.str x
  ·exact λb=>.Nh b
  ·exact λhs _ ih=>.lst (s0.seq hs) ih
  ·exact λhs _ ih=>.tup (s0.tup hs) ih
  ·exact .nil
  ·exact λ_ _ a b=>.cons a b
 have WL:∀{vs:List V}{ds:List WData},EO kK H0 vs ds->EO kK H vs ds:=λ{vs ds} x=>by
  induction vs generalizing ds with
  |nil=>cases x;exact .nil
  |cons v vs ih=>cases x with|cons a b=>exact .cons (mono a) (ih b)
 have hK:∀b o,kK.lookup b=some o->H b=none:=λb o e=>by
  by_cases hb:b∈[aD.Ey,aD.CG,aD.Cs,aD.Kj];·rw[Xm b hb]at e;cases e
  ·rw[Qh b hb];cases e1:H0 b with
   |none=>rfl
   |some u=>rw[hK0 b u e1]at e;cases e
 have Zs:∀{b:Addr}{o:Obj},s₁.heap.get? b=some o->(∀vs n,o.data≠.seq vs n)->(∀vs,o.data≠.fields vs)->H b=none:=λ{b o} e n1 n2=>by
  by_cases hb:b∈[aD.Ey,aD.CG,aD.Cs,aD.Kj];·rw[(SX b hb).1]at e;cases e;exact absurd RR (n2 _)
  ·rw[Qh b hb];exact Zr e n1
 have Jm:∀{b:Addr}{o:Obj},s₁.heap.get? b=some o->H b=none->(I_ s₁.heap H).get? b=some o:=λe n=>aaa e n;have Zo:∀{b:Addr}{m:B3},s₁.heap.Ns b m->(I_ s₁.heap H).Ns b m:=λ{b m} ⟨o,es,ep,e,d,r⟩=>⟨o,es,ep,Jm e (Zs e (by intro _ _;rw[d];nofun) (by intro _;rw[d];nofun)),d,r⟩;have hKb:kK.In (I_ s₁.heap H):=λb o e=>Jm (KX b o e) (hK b o e);have hM:Mod kK mg (I_ s₁.heap H):=⟨hKb,Zo T.g,⟨mb,Zo T.b,T.builtins⟩,let⟨mc,h1,h2⟩:=T.nolimit;⟨mc,Zo h1,h2⟩⟩;have e0:GZ P w kK mg (I_ s₁.heap H) callerA [] s₁ H:=⟨RR,hM,λb o e=>abE e,ahc (yd _ _),trivial,λb hb=>absurd (show b∈([]:Ax)from hb) (by simp),AU,.of_eq hg⟩;have bmod:Tt (I_ s₁.heap H) mg:=by obtain⟨bm,ob,b1,b2,b3,b4,b5,b6⟩:=T.bmain;refine⟨bm,ob,b1,b2,λz=>?_,Jm b3 (Zs b3 (by intro _ _;rw[b6];nofun) (by intro _;rw[b6];nofun)),b4,b5,b6⟩;obtain⟨o,es,ep,g1,g2,_⟩:=T.g;rw[<-z,b3]at g1;cases g1;rw[b6]at g2;cases g2
 obtain⟨m,hm,hD⟩:=TS;have em:m=mg:=ade hm T.g;subst em;have dt:∀t∈CY,Gk (I_ s₁.heap H) m t.1 t.2:=λt ht=>by obtain⟨d,e,lo,o,es,ep,ho,hc,hd,hr⟩:=hD t ht;exact⟨d,e,lo,o,es,ep,Jm ho (Zs ho (by intro _ _;rw[hd];nofun) (by intro _;rw[hd];nofun)),hc,hd,hr⟩
 have Tx:Txt kK m aD (I_ s₁.heap H):=⟨TK.d,TK.c,TK.m,⟨TK.DH,TK.De,TK.Dd,TK.EK,bmod,TK.calls,dt ("VOTE_CALLS",Ce) (by simp[CY]),dt ("CHANGES",BU) (by simp[CY]),dt ("COALITION_CALLS",Bp) (by simp[CY]),dt ("LINE_CALLS",Cf) (by simp[CY]),dt ("LOOKING_CALLS",B1) (by simp[CY]),dt ("OFFICE_CALLS",BS) (by simp[CY]),dt ("SHARING_CALLS",BH) (by simp[CY])⟩⟩;obtain⟨f,fd,ps,hmf,_,hb,F⟩:=(yL (P:=P) (w:=w) Tx).ex;rw[hfa]at hmf;cases hmf;have tb:Hy aD H:=⟨⟨#[],V2 _ (by simp),jS⟩,⟨#[],V2 _ (by simp),jS⟩,⟨#[],V2 _ (by simp),jS⟩,⟨#[],V2 _ (by simp),jS⟩⟩;have sp:=R5 H (vals.map toV) tb (WL hS);have hl:vals.length=ps.length:=by have:=F.len _ _ _ _ sp;rw[ae1]at this;exact this
 have bd:=hb s₁ vals KX (by rw[af4];exact hl);rw[af4]at bd;refine codeAny_mono (F.run callerA [] s₁ H ⟨vals,[]⟩ vals (vals.map toV) _ _ hr e0 bd hV sp) λr s' x=>?_;cases r with
 |error e=>exact x.elim
 |ok fl=>
  cases fl with
  |next=>exact False.elim x
  |brk=>exact False.elim x
  |cont=>exact False.elim x
  |ret u=>
   obtain⟨v,H',os,bare,un,U8,r',qd⟩:=x;have kept:∀b o,s₁.heap.get? b=some o->b∉[aD.Ey,aD.CG,aD.Cs,aD.Kj]->s'.heap.get? b=some o:=λb o e hb=>by
    cases q2:H b with
    |none=>exact un.keep b o e q2 (by intro z;exact absurd (show b∈([]:Ax)from z) (by simp)) (by simp)
    |some u2=>
     rw[Qh b hb]at q2;rcases KL b with z|⟨ob,u3,z⟩;·rw[q2]at z;cases z
     ·have z1:H b=some (.FN ob u3):=by rw[Qh b hb];exact z
      have z2:=un.HS b ob _ z1;obtain⟨e1,_⟩:=AU b _ z1;obtain⟨e2,_⟩:=U8 b _ z2;rw[e]at e1;cases e1;exact e2
   have grown:∀b∈[aD.Ey,aD.CG,aD.Cs,aD.Kj],∃more,s'.heap.get? b=some {Ut with data:=.fields (#[]++more)}:=λb hb=>by obtain⟨more,e⟩:=un.HF b #[] (V2 b hb);exact⟨more,U8 b _ e⟩
   have KX':kK.In s'.heap:=λb o e=>kept b o (KX b o e) λhb=>by rw[Xm b hb]at e;cases e
   obtain⟨as,X_⟩:=Dw.reads (R:=R) (cl:=cl) U8 KX' d0 v u qd r';refine⟨u,as,RR,X_,⟨λb o e=>?_,λb o e=>?_⟩,os,bare⟩
   ·by_cases hb:b∈[aD.Ey,aD.CG,aD.Cs,aD.Kj];·obtain⟨more,g⟩:=grown b hb;rw[(SX b hb).1]at e;cases e;exact .inr (.inl ⟨(SX b hb).2,RR,#[],more,RR,g⟩)
    ·exact .inl (kept b o e hb)
   ·by_cases hb:b∈[aD.Ey,aD.CG,aD.Cs,aD.Kj];·obtain⟨more,g⟩:=grown b hb;exact⟨_,g⟩
    ·exact⟨o,kept b o e hb⟩
def abG{xs:Am}(h:∀x∈xs,0<=x):xs.map V.int=nums (xs.map Int.toNat):=by unfold nums;rw[afr];refine afy λx hx=>?_;have:=h x hx;show V.int x=V.int ((x.toNat));rw[Int.toNat_of_nonneg this]
def aa3{K:Params->Frag}{e:∀P,as=(K P).map (·.1)}{d:DefRec}(ad:Ad)
  (hn:d.name= "answers")(T1:Ft.wellSaid=true)(PJ:(Eg.all λx=>(recsOf q).any λe=>e.name==x)=true)(Xm:∀w:World,∀P∈[ad.Ey,ad.CG,ad.Cs,ad.Kj],(K w.params).lookup P=none)
  (hT:∀(w:World)(h:Heap)(mg:B3),(K w.params).In h->h.Ns mainGlobals mg->Tp (K w.params) mg ad)
  (math:∀l:Am,l.length<=30000->(∀x∈l,0<=x/\x<=4294967295)->answers_asked l=true->Runs (l.map Int.toNat) 0 ⟨none,[],[]⟩ (PyKs470.answers l)/\(PyKs470.answers l).length<=2000000):
  PySem.W.WalkOS q loose XP (Hook.says (JB (PySem.W.kHook K as e) Qx)) Ft d [] (λf vs=>PySem.call f vs):=by
 intro w Kf s₁ mg mb G Y fa o pm cd doc dV kV ho hd HC hD Ye hg args vals as' ZX Z7 X_ TZ hlo;obtain⟨a,e1,e2⟩:=PySem.W.os_pre_some ZX;obtain⟨e3,U0⟩:=Codec.encAll_of_decAll Ft.args args a e1;subst e3;have KX:(K w.params).In s₁.heap:=Y.1;rw[hn]at Ye;have qw:((Codec.inLen 0 30000 a.1&&a.1.all (Codec.inInt 0 4294967295))&&true)=true:=U0;rw[afn,afn]at qw;have hlen:a.1.length<=30000:=(Codec.inNat_iff.mp qw.1.1).2;have hit:∀x∈a.1,0<=x/\x<=4294967295:=λx hx=>Codec.inInt_iff.mp (afj.mp qw.1.2 x hx);obtain⟨Rh,hsz⟩:=math a.1 hlen hit e2;refine PySem.W.enter_call (codeAny_mono (acf (R:=[]) (cl:=PySem.classAt Kf.heap) (d0:=Ft.ret.enc (Codec.app Ft.args Ft.f a)) KX G.T hg (hT w _ mg KX G.T.g) Y.2 PJ (Xm w) TZ (qf _ _) (nL Z7) Ye ⟨RR,by decide,by decide⟩ (λH xs tb hx=>?_)) λr' s' hq=>?_)
 ·cases hx with
  |cons h1 h2=>
   cases h2;cases h1 with
   |lst hs ha=>have ex:=wy a.1 _ ha;subst ex;rw[abG λx hx=>(hit x hx).1]at hs;exact⟨_,_,_,RR,hs,tb,Rh,hsz,λp H' _ hp=>.lst (Aj.of hp) (wJ _)⟩
 ·obtain⟨u,as2,rfl,h1,h2,h3,h4⟩:=hq;exact⟨.inl ⟨u,_,as2,RR,λ_=>rfl,h1,(OpenSpec.post_iff T1 U0 _ _).mpr RR,λz=>Bool.noConfusion (show false=true from z)⟩,h2,h3,h4⟩
end
structure Rel(o:Hall)(M:Sm):Prop where
 rule:o.rule=M.rule
 off:o.offices=M.offices
 par:o.parties=M.parties
 Of:o.govern=M.Af
 L0:o.holders=M.holders
 rm:∀i j,i<M.nP->j<M.nP->(M.likes.getD i 0).testBit j=o.likes.contains (i,j)
 gO:∀i j,i<M.nP->j<M.nP->(M.hates.getD i 0).testBit j=Ks464.hate (house o) i j
 lr:∀x∈o.likes,x.1<M.nP/\x.2<M.nP
 ln:o.likes.Nodup
 hr:∀x∈o.hates,x.1<M.nP/\x.2<M.nP
 hn:(o.hates++o.hates.map Prod.swap).Nodup
 good:Good M
def sE(f:Nat->Nat):∀(l:Ae)(a:Nat),l.foldl (λk i=>k+f i) a=a+(l.map f).sum
 |[],a=>by simp
 |x::l,a=>by rw[afz,sE f l,afq,agH];omega
def fZ(f:Nat->Nat)(l:Ae):l.foldl (λk i=>k+f i) 0=(l.map f).sum:=by rw[sE];omega
def getD_map{α β:Type}(f:α->β)(l:List α)(i:Nat)(d:α):(l.map f).getD i (f d)=f (l.getD i d):=by simp
def aK{α:Type}{p q:α->Bool}{l:List α}(h:∀x∈l,p x=q x):l.filter p=l.filter q:=List.filter_congr h
def wY(h:a<2^M.nP):(a&&& g !=0)=(mem M g).any λj=>a.testBit j:=by
 rw[afb,af1,bne_iff_ne];constructor;·intro AW;obtain⟨j,hj⟩:=agW AW;rw[ahH,afn]at hj;refine⟨j,afp.mpr ⟨afD.mpr ?_,hj.2⟩,hj.1⟩;apply af0;intro Bz;have:=agN (ae9 h (agf (by decide) (Nat.le_of_not_lt Bz)));rw[this]at hj;exact ae0 hj.1
 ·rintro⟨j,hj,ha⟩ z;have hg:=(afp.mp hj).2;have:(a&&& g).testBit j=true:=by rw[ahH,ha,hg];rfl
  rw[z,ahB]at this;cases this
def xT(M:Sm):mem M (As M)=List.range M.nP:=by unfold mem As;simp_all
def lY(M:Sm):AB M (As M)=total M:=by unfold AB total;rw[xT]
def qU(M:Sm):List.range (2^M.nP)=0::groups M:=by have h:=dF M;unfold groups;rw[<-h,agk,ahs];grind
def dO(h0:p 0=false)(h:∀g∈groups M,p g=q g):(List.range (2^M.nP)).filter p=(groups M).filter q:=by rw[qU,agi,h0,if_neg ae0];exact aK h
def vf:g∈groups M↔1<=g/\g<=As M:=⟨cD,λh=>qu h.1 h.2⟩
def qm(h0:p 0=false):Dz M ((groups M).filter p)=((groups M).filter p).filter λg=>(mem M g).all λi=>!p (g-2^i):=by
 unfold Dz BR;refine aK λg hg=>?_;rw[ahE,agK,afb,afj,afj];have hg':=cD (afp.mp hg).1;have key:∀i,((groups M).filter p).contains (g-2^i)=p (g-2^i):=λi=>by
  rw[afb,age,afp];constructor;·exact λh=>h.2
  ·intro h;refine⟨vf.mpr ⟨?_,afe (ag3 ..) hg'.2⟩,h⟩;apply af0;intro z;have:g-2^i=0:=by omega
   rw[this,h0]at h;cases h
 constructor;·intro h i hi;have:=h i hi;simp only[Function.comp,key]at this;exact this
 ·intro h i hi;have:=h i hi;simp only[Function.comp,key];exact this
def Rel.len(R:Rel o M):o.parties.length=M.nP:=by rw[R.par]
def Rel.rj(R:Rel o M)(s:Nat):Ks470.members o s=mem M s:=by unfold Ks470.members count mem;rw[R.par]
def Rel.zL(R:Rel o M)(s:Nat):Ks464.members (house o) s=mem M s:=by unfold Ks464.members Ks464.parties house mem;rw[R.par];simp only[ae1];rfl
def Rel.vY(R:Rel o M)(l:Ae):Ks464.seatsOf (house o) l=(l.map λi=>(pt M i).seats).sum:=by unfold Ks464.seatsOf;rw[fZ];congr 1;refine afy λi _=>?_;show(o.parties.map λp=>p.seats).getD i 0=_;rw[R.par];exact getD_map (λp:Ks470.Party=>p.seats) M.parties i {seats:=0,x:=0,y:=0,carex:=1,carey:=1,worth:=[]}
def Rel.aeq(R:Rel o M):Ks464.parties (house o)=List.range M.nP:=by unfold Ks464.parties house;rw[R.par];simp
def Rel.aeW(R:Rel o M):Ks464.all (house o)=total M:=by unfold Ks464.all;rw[R.vY,R.aeq];rfl
def Rel.aeG(R:Rel o M)(hi:i<M.nP)(s:Nat):(mem M s).any (Ks464.hate (house o) i)=(M.hates.getD i 0&&& s !=0):=by
 rw[wY (R.good.il hi),afb,af1,af1];constructor;·rintro⟨j,hj,h⟩;exact⟨j,hj,by rw[R.gO i j hi (dn hj)];exact h⟩
 ·rintro⟨j,hj,h⟩;exact⟨j,hj,by rw[R.gO i j hi (dn hj)]at h;exact h⟩
def Rel.aeV(R:Rel o M)(hi:i<M.nP)(s:Nat):(mem M s).any (Ks464.like (house o) i)=(M.likes.getD i 0&&& s !=0):=by
 rw[wY (R.good.lg hi),afb,af1,af1];constructor;·rintro⟨j,hj,h⟩;exact⟨j,hj,by rw[R.rm i j hi (dn hj)];exact h⟩
 ·rintro⟨j,hj,h⟩;exact⟨j,hj,by rw[R.rm i j hi (dn hj)]at h;exact h⟩
def Rel.ad7(R:Rel o M)(hi:i<M.nP)(s:Nat):Ks464.vote (house o) s i=BP M i s:=by unfold Ks464.vote BP;rw[R.zL,R.aeG hi,R.aeV hi];rfl
def Rel.jP(R:Rel o M)(s v:Nat):voting (house o) s v=tally M s v:=by unfold voting tally Bh;rw[R.vY,R.aeq,aK λi hi=>by rw[R.ad7 (afD.mp hi)]]
def acF(M:Sm)(g:Nat):tally M g 0+tally M g 1+tally M g 2=total M:=by
 have:∀k,Bh M g k 0+Bh M g k 1+Bh M g k 2=((List.range k).map λi=>(pt M i).seats).sum:=λk=>by
  induction k with
  |zero=>rfl
  |succ k ih=>
   rw[cJ,cJ,cJ,agI,afK,ag5,<-ih];have h2:=mH M k g;have h3:BP M k g=0\/BP M k g=1\/BP M k g=2:=by omega
   rcases h3 with h|h|h<;>rw[h]<;>simp<;>omega
 exact this _
def Rel.acr(R:Rel o M)(s:Nat):((mem M s).all λi=>(mem M s).all λj=>!Ks464.hate (house o) i j)=!HV M s:=by
 unfold HV;rw[agK,afb,afj,afj];have key:∀i∈mem M s,((mem M s).all λj=>!Ks464.hate (house o) i j)=!(M.hates.getD i 0&&& s !=0):=λi hi=>by rw[<-R.aeG (dn hi),agK]
 constructor;·intro h i hi;rw[<-key i hi];exact h i hi
 ·intro h i hi;rw[key i hi];exact h i hi
def Rel.qP(R:Rel o M)(s:Nat):Ks464.stands (house o) o.rule s=stands M s:=by
 unfold Ks464.stands Ks464.sits stands;rw[R.zL,R.acr,R.rule];by_cases h0:s=0;·rw[if_pos (.inl h0),h0];rfl
 ·cases ho:HV M s with
  |true=>simp
  |false=>
   rw[if_neg (by simp[h0])];have h0':(s !=0)=true:=by simpa using h0
   rw[h0',agt,Bool.not_false,agt];unfold Ks464.passes;rw[R.jP,R.jP,R.aeW,<-acF M s];generalize M.rule=r;rcases r with _|_|r<;>rfl
def Rel.st(R:Rel o M)(s:Nat):Ks470.stands o s=stands M s:=R.qP s
def sG(M:Sm):stands M 0=false:=rfl
def Rel.aee(R:Rel o M):Ks464.sets (house o)=List.range (2^M.nP):=by unfold Ks464.sets house;rw[R.par];simp
def Rel.f9(R:Rel o M):Ks464.standing (house o) o.rule=standing M:=by unfold Ks464.standing standing;rw[R.aee];exact dO (sG M) λg _=>R.qP g
def Rel.acE(R:Rel o M):Ks464.tight (house o) o.rule=Dz M (standing M):=by unfold Ks464.tight;rw[R.f9];unfold standing;rw[qm (sG M)];refine aK λg _=>?_;rw[R.zL];congr 1;funext i;rw[R.qP]
def zV(h:l≠[]):Ks465.least l∈l/\∀y∈l,Ks465.least l<=y:=by
 cases l with
 |nil=>exact absurd RR h
 |cons a l=>
  obtain⟨h1,h2,h3⟩:=eR l a;refine⟨?_,λy hy=>?_⟩
  ·show l.foldl min a∈a::l;rcases h3 with e|e;·rw[e];exact aff
   ·exact ae6 _ e
  ·rcases ae5.mp hy with e|e;·rw[e];exact h1
   ·exact h2 y e
def abJ(h:l≠[]):most l∈l/\∀y∈l,y<=most l:=by
 cases l with
 |nil=>exact absurd RR h
 |cons a l=>
  obtain⟨h1,h2,h3⟩:=eU l a;refine⟨?_,λy hy=>?_⟩
  ·show l.foldl max a∈a::l;rcases h3 with e|e;·rw[e];exact aff
   ·exact ae6 _ e
  ·rcases ae5.mp hy with e|e;·rw[e];exact h1
   ·exact h2 y e
def qG(M:Sm):wins M 0=false:=by
 refine decide_eq_false ?_;have:AB M 0=0:=by unfold AB mem;rw[agl.mpr (by intro i _;simp)];rfl
 omega
def Rel.xI(R:Rel o M):Ks465.parties (Ks470.row o)=List.range M.nP:=by unfold Ks465.parties Ks470.row;rw[R.par];simp
def Rel.xU(R:Rel o M)(s:Nat):Ks465.members (Ks470.row o) s=mem M s:=by unfold Ks465.members mem;rw[R.xI];rfl
def Rel.s5(R:Rel o M)(i:Nat):(Ks470.row o).seats.getD i 0=(pt M i).seats:=by show(o.parties.map λp=>p.seats).getD i 0=_;rw[R.par];exact getD_map (λp:Ks470.Party=>p.seats) M.parties i {seats:=0,x:=0,y:=0,carex:=1,carey:=1,worth:=[]}
def Rel.fO(R:Rel o M)(i:Nat):Ks465.place (Ks470.row o) i=(pt M i).x:=by show(o.parties.map λp=>p.x).getD i 0=_;rw[R.par];exact getD_map (λp:Ks470.Party=>p.x) M.parties i {seats:=0,x:=0,y:=0,carex:=1,carey:=1,worth:=[]}
def Rel.jW(R:Rel o M)(l:Ae):seatsOf (Ks470.row o) l=(l.map λi=>(pt M i).seats).sum:=by unfold seatsOf;rw[fZ];congr 1;exact afy λi _=>R.s5 i
def Rel.aeI(R:Rel o M):Ks465.all (Ks470.row o)=total M:=by unfold Ks465.all;rw[R.jW,R.xI];rfl
def Rel.yQ(R:Rel o M)(s:Nat):Ks465.wins (Ks470.row o) s=wins M s:=by unfold Ks465.wins wins;rw[R.aeI,R.jW,R.xU,lY];rfl
def Rel.abp(R:Rel o M)(s:Nat):(Ks465.members (Ks470.row o) s).map (Ks465.place (Ks470.row o))=places M s:=by rw[R.xU];exact afy λi _=>R.fO i
def Rel.vQ(R:Rel o M)(s:Nat):wide (Ks470.row o) s=widthOf M s:=by unfold wide widthOf;rw[R.abp]
def Rel.wu(R:Rel o M)(h:mem M s≠[]):Ks465.joined (Ks470.row o) s=C4 M s:=by
 have hp:places M s≠[]:=λe=>h (List.map_eq_nil_iff.mp e);obtain⟨l1,l2⟩:=zV hp;obtain⟨m1,m2⟩:=abJ hp;unfold Ks465.joined C4;rw[R.xU,R.xI];rw[afb,afj,afj];constructor;·intro H j hj;obtain⟨i,hi,ei⟩:=afw.mp l1;obtain⟨k,hk,ek⟩:=afw.mp m1;have h1:=afj.mp (afj.mp (H i hi) k hk) j hj;rw[R.fO,R.fO,R.fO,ei,ek]at h1;exact h1
 ·intro H i hi;rw[afj];intro k hk;rw[afj];intro j hj;have h1:=H j hj;unfold rowAt at h1;rw[R.fO,R.fO,R.fO];have a1:=l2 _ (afw.mpr ⟨i,hi,RR⟩);have a2:=m2 _ (afw.mpr ⟨k,hk,RR⟩);by_cases c:(pt M i).x<(pt M j).x/\(pt M j).x<(pt M k).x;·rw[decide_eq_true (show Ks465.least (places M s)<(pt M j).x by omega),decide_eq_true (show(pt M j).x<most (places M s) by omega)]at h1;rw[decide_eq_true c.1,decide_eq_true c.2];exact h1
  ·have:(decide ((pt M i).x<(pt M j).x)&&decide ((pt M j).x<(pt M k).x))=false:=by
    rw[Bool.and_eq_false_iff];by_cases c1:(pt M i).x<(pt M j).x;·exact .inr (decide_eq_false λc2=>c ⟨c1,c2⟩)
    ·exact .inl (decide_eq_false c1)
   rw[this];rfl
def Rel.abc(R:Rel o M)(hs:s<=As M):(Ks465.wins (Ks470.row o) s&&Ks465.joined (Ks470.row o) s)=(wins M s&&C4 M s):=by
 rw[R.yQ];by_cases h0:s=0;·rw[h0,qG];rfl
 ·rw[R.wu (cC (by omega) hs)]
def Rel.acD(R:Rel o M):Ks465.tight (Ks470.row o)=Dz M ((AJ M).filter (C4 M)):=by
 have e:(AJ M).filter (C4 M)=(groups M).filter λs=>wins M s&&C4 M s:=by unfold AJ;rw[ahf];exact aK λ_ _=>ahR ..
 have h0:(λs=>wins M s&&C4 M s) 0=false:=by simp only[qG];rfl
 rw[e,qm h0];have e2:rows_ (Ks470.row o)=(groups M).filter λs=>wins M s&&C4 M s:=by
  unfold rows_ sets Ks470.row;rw[R.par,ae1];refine dO ?_ λg hg=>?_;·have:=R.abc (s:=0) (afk _);unfold Ks470.row at this;rw[R.par]at this;rw[this];exact h0
  ·have:=R.abc (cD hg).2;unfold Ks470.row at this;rw[R.par]at this;exact this
 unfold Ks465.tight;rw[e2];refine aK λg hg=>?_;rw[R.xU,afb,afj,afj];have hb:=(cD (afp.mp hg).1).2;constructor;·intro H i hi;rw[<-R.abc (afe (ag3 ..) hb)];exact H i hi
 ·intro H i hi;rw[R.abc (afe (ag3 ..) hb)];exact H i hi
def Rel.abL(R:Rel o M):Ks465.middle (Ks470.row o)=(List.range M.nP).filter λi=>Be M i 0:=by unfold Ks465.middle;rw[R.xI,R.aeI];refine aK λi _=>?_;rw[R.jW,R.jW];unfold Be Bt AK;simp only[R.fO,if_true]
def Rel.aaX(R:Rel o M)(x:Nat):away (Ks470.row o) x=BX M x:=by unfold away BX;rw[fZ,R.xI];congr 1;exact afy λi _=>by rw[R.s5,R.fO]
def Rel.ace(R:Rel o M):Ks465.centre (Ks470.row o)=PY M:=by
 unfold Ks465.centre PY;have e:(λb x=>if away (Ks470.row o) x<away (Ks470.row o) b then x else b)=λb x=>if BX M x<BX M b then x else b:=by funext b x;rw[R.aaX,R.aaX]
 rw[e,show List.range (Ks465.LINE+1)=0::List.range' 1 100 from j0,afz,if_neg (afM _)]
def Rel.we(R:Rel o M)(x y:Nat):Ks465.nearer (Ks470.row o) x y=nearer M x y:=by unfold Ks465.nearer nearer Bt;rw[R.jW,R.xI];congr 2;exact aK λi _=>by rw[R.fO]
def Rel.abI(R:Rel o M):(match Ks465.narrowest (Ks470.row o)with|none=>[-33]|some t=>[(wide (Ks470.row o) t:Int),(t:Int),(seatsOf (Ks470.row o) (mem M t):Int)])=CM M:=by
 have e1:(sets (Ks470.row o)).filter (Ks465.wins (Ks470.row o))=AJ M:=by
  have:sets (Ks470.row o)=List.range (2^M.nP):=by unfold sets Ks470.row;rw[R.par];simp
  rw[this];exact dO (by rw[R.yQ];exact qG M) λg _=>R.yQ g
 have e2:(λb s=>if better (Ks470.row o) s b=true then s else b)=λb s=>if Bn M s<Bn M b then s else b:=by
  funext b s;have hs:=jV R.good s;have hb:=jV R.good b;have:better (Ks470.row o) s b=decide (Bn M s<Bn M b):=by unfold better Bn;rw[R.vQ,R.vQ,R.jW,R.jW,R.xU,R.xU];show(decide (widthOf M s<widthOf M b)||(widthOf M s==widthOf M b&&decide (AB M s<AB M b)))=_;rw[afb];simp only[ahG,afn,decide_eq_true_eq,beq_iff_eq];omega
  rw[this];simp only[decide_eq_true_eq]
 unfold Ks465.narrowest CM;rw[e1];cases AJ M with
 |nil=>rfl
 |cons a l=>simp only[Ks465.bestOf];rw[e2,R.vQ,R.jW];rfl
def cy(l:List (Nat×Nat))(c:Nat×Nat):l.contains c=decide (c∈l):=by simp
def ig{α:Type}(l:List α):l.isEmpty=(l.length==0):=by cases l<;>rfl
def yo{α β:Type}(l:List α)(l2:List β)(p:α->Bool)(q:β->Bool):(l.flatMap λa=>l2.map λb=>(a,b)).filter (λc=>p c.1&&q c.2)=(l.filter p).flatMap λa=>(l2.filter q).map λb=>(a,b):=by
 induction l with
 |nil=>rfl
 |cons a l ih=>
  rw[af3,agL,ih,agi];have e:(l2.map λb=>(a,b)).filter (λc=>p c.1&&q c.2)=if p a=true then(l2.filter q).map λb=>(a,b)else[]:=by
   rw[ag8];cases h:p a with
   |true=>congr 1;exact aK λb _=>by simp[h]
   |false=>simp_all
  rw[e];cases h:p a with
  |true=>rw[if_pos RR,if_pos RR,af3]
  |false=>rw[if_neg ae0,if_neg ae0,aha]
def Rel.p7(R:Rel o M)(i:Nat):Ks467.party (plane o) i={seats:=(pt M i).seats,x:=(pt M i).x,y:=(pt M i).y,carex:=(pt M i).carex,carey:=(pt M i).carey}:=by show(o.parties.map λp=>({seats:=p.seats,x:=p.x,y:=p.y,carex:=p.carex,carey:=p.carey}:Ks467.Party)).getD i _=_;rw[R.par];exact getD_map (λp:Ks470.Party=>({seats:=p.seats,x:=p.x,y:=p.y,carex:=p.carex,carey:=p.carey}:Ks467.Party)) M.parties i {seats:=0,x:=0,y:=0,carex:=1,carey:=1,worth:=[]}
def Rel.zD(R:Rel o M):Ks467.parties (plane o)=List.range M.nP:=by unfold Ks467.parties plane;rw[R.par,ae1]
def Rel.vX(R:Rel o M)(l:Ae):Ks467.seatsOf (plane o) l=(l.map λi=>(pt M i).seats).sum:=by unfold Ks467.seatsOf;rw[fZ (λi=>(Ks467.party (plane o) i).seats)];congr 1;exact afy λi _=>by rw[R.p7]
def Rel.aeH(R:Rel o M):Ks467.all (plane o)=total M:=by unfold Ks467.all;rw[R.vX,R.zD];rfl
def Rel.aey(R:Rel o M)(i:Nat)(c:Nat×Nat):Ks467.far (plane o) i c=far M c i:=by unfold Ks467.far far;rw[R.p7,R.p7,R.p7,jH,jH];show _=0+_+_;rw[ahg];rfl
def Rel.qT(R:Rel o M)(i:Nat)(c d:Nat×Nat):Ks467.rather (plane o) i c d=decide (far M c i<far M d i):=by unfold Ks467.rather;rw[R.aey,R.aey]
def Rel.adC(R:Rel o M)(c d:Nat×Nat):Ks467.forIt (plane o) c d=forIt M c d:=by unfold Ks467.forIt forIt;rw[R.vX,R.zD];congr 2;exact aK λi _=>R.qT i c d
def Rel.vI(R:Rel o M)(c d:Nat×Nat):Ks467.beats (plane o) c d=El M c d:=by unfold Ks467.beats El;rw[R.aeH,R.adC]
def Rel.yU(R:Rel o M)(c d:Nat×Nat):Ks467.unseats (plane o) c d=Ex M c d:=by unfold Ks467.unseats Ex;rw[R.vI,R.qT,R.qT,Bool.and_assoc,ahR]
def Rel.wO(R:Rel o M):Ks467.cabinets (plane o)=Ah M:=by unfold Ks467.cabinets;rw[R.zD];rfl
def Rel.oR(R:Rel o M)(d:Nat×Nat):Ks467.beaters (plane o) d=BJ M d:=by unfold Ks467.beaters BJ;rw[R.wO];exact aK λc _=>R.vI c d
def Rel.js(R:Rel o M)(d:Nat×Nat):Ks467.unseaters (plane o) d=Bb M d:=by unfold Ks467.unseaters Bb;rw[R.wO];exact aK λc _=>R.yU c d
def Rel.aeB(R:Rel o M):Ks467.standing (plane o)=(Ah M).filter λd=>(BJ M d).length==0:=by unfold Ks467.standing;rw[R.wO];exact aK λc _=>by rw[R.oR,ig]
def Rel.z7(R:Rel o M):Ks467.holding (plane o)=(Ah M).filter λd=>(Bb M d).length==0:=by unfold Ks467.holding;rw[R.wO];exact aK λc _=>by rw[R.js,ig]
def Rel.wj(R:Rel o M)(f:Ks467.Party->Nat)(q:Nat)(hf:∀i,f (Ks467.party (plane o) i)=AK (pt M i) q):Ks467.middle (plane o) f=(List.range M.nP).filter λi=>Be M i q:=by unfold Ks467.middle;rw[R.zD,R.aeH];refine aK λi _=>?_;rw[R.vX,R.vX];unfold Be Bt;simp only[hf]
def Rel.zK(R:Rel o M):Ks467.middles (plane o)=(Ah M).filter λc=>Be M c.1 0&&Be M c.2 1:=by unfold Ks467.middles;rw[R.wj (λp=>p.x) 0 (λi=>by rw[R.p7];rfl),R.wj (λp=>p.y) 1 (λi=>by rw[R.p7];rfl)];exact(yo (List.range M.nP) (List.range M.nP) (λi=>Be M i 0) (λi=>Be M i 1)).symm
def Rel.aa7(R:Rel o M):Ks467.strong (plane o)=(List.range M.nP).filter (D6 M):=by unfold Ks467.strong;rw[R.zD];refine aK λi _=>?_;rw[R.oR];rfl
def Rel.acy(R:Rel o M):∀(k:Nat)(l:List (Nat×Nat))(d:Nat×Nat),Ks467.fall (plane o) k l d=chainOf (Bb M) k l d
 |0,l,d=>rfl
 |k+1,l,d=>by
  unfold Ks467.fall chainOf;rw[R.js];cases Bb M d with
  |nil=>rfl
  |cons c r=>simp only;rw[R.acy k];grind
def Rel.aeo(R:Rel o M):Ks468.parties (share o)=List.range M.nP:=by unfold Ks468.parties share;rw[R.par];simp
def Rel.adg(R:Rel o M)(s:Nat):Ks468.members (share o) s=mem M s:=by unfold Ks468.members mem;rw[R.aeo];rfl
def Rel.s8(R:Rel o M)(i:Nat):Ks468.seat (share o) i=(pt M i).seats:=by show(o.parties.map λp=>p.seats).getD i 0=_;rw[R.par];exact getD_map (λp:Ks470.Party=>p.seats) M.parties i {seats:=0,x:=0,y:=0,carex:=1,carey:=1,worth:=[]}
def Rel.aco(R:Rel o M)(l:Ae):Ks468.seatsOf (share o) l=(l.map λi=>(pt M i).seats).sum:=by unfold Ks468.seatsOf;rw[fZ];congr 1;exact afy λi _=>R.s8 i
def Rel.zN(R:Rel o M)(s:Nat):Ks468.may (share o) s=may M s:=by unfold Ks468.may may wins;rw[R.aco,R.aco,R.aeo,R.adg,lY];have:=R.acr s;rw[<-this];rfl
def acu(M:Sm):may M 0=false:=by unfold may;rw[qG];rfl
def gk(l:Ae)(i:Nat):(l.filter λj=>j==i).length=l.count i:=by rw[List.count_eq_length_filter]
def Rel.ad8(R:Rel o M)(l:Ae)(ms:Ae):Ks468.turn (share o) l ms=Dg M (λi=>l.count i) ms:=by
 cases ms with
 |nil=>rfl
 |cons a r=>
  have e:(λb i=>if Ks468.seat (share o) b*(Ks468.had l i+1)<Ks468.seat (share o) i*(Ks468.had l b+1)then i else b)=λb i=>if C5 M (λi=>l.count i) i b then i else b:=by funext b i;rw[R.s8,R.s8];unfold Ks468.had C5;rw[gk,gk];simp only[decide_eq_true_eq]
  unfold Ks468.turn Dg;simp_all
def Rel.acA(R:Rel o M)(s:Nat):∀k j,Ks468.deal (share o) s k (AE M s j)=AE M s (j+k)
 |0,j=>rfl
 |k+1,j=>by unfold Ks468.deal;rw[R.ad8,R.adg];have:=R.acA s k (j+1);rw[show j+(k+1)=j+1+k by omega,<-this];rfl
def Rel.ac9(R:Rel o M)(s:Nat):Ks468.deal (share o) s (share o).offices []=order M s:=by have:=R.acA s (share o).offices 0;rw[show AE M s 0=[]from rfl]at this;rw[this,ahg];congr 1;exact R.off
def yt(M:Sm)(s i:Nat):(deal M s).getD i 0=if i<M.nP then(order M s).count i else 0:=by
 unfold deal;by_cases h:i<M.nP;·rw[if_pos h,afB,i4 h];rfl
 ·rw[if_neg h,afB,afO (by unfold EJ;simp;omega)];rfl
def aaW(hs:s<=As M)(h:s.testBit i=true):i<M.nP:=by apply af0;intro hn;have:=dF M;rw[agN (ae9 (show s<2^M.nP by omega) (agf (by decide) (Nat.le_of_not_lt hn)))]at h;cases h
def Rel.tL(R:Rel o M)(h1:1<=s)(h2:s<=As M)(i:Nat):Ks468.gets (share o) s i=(deal M s).getD i 0:=by
 unfold Ks468.gets Ks468.had Ks468.has;rw[R.ac9,gk,yt];cases hb:s.testBit i with
 |true=>rw[if_pos RR,if_pos (aaW h2 hb)]
 |false=>
  rw[if_neg ae0];have:(order M s).count i=0:=List.count_eq_zero.mpr λhm=>by have:=rh (g8 (cC h1 h2) _ i hm);grind
  rw[this];split<;>rfl
def Rel.acn(R:Rel o M):Ks468.sets (share o)=List.range (2^M.nP):=by unfold Ks468.sets share;rw[R.par];simp
def Rel.zM(R:Rel o M):Ks468.mays (share o)=CD M:=by unfold Ks468.mays CD;rw[R.acn];exact dO (by rw[R.zN];exact acu M) λg _=>R.zN g
def Rel.uV(R:Rel o M)(h1:1<=s)(h2:s<=As M):Ks468.leave (share o) s=B0 M (deal M s):=by
 unfold Ks468.leave B0 CD;rw[R.acn,ahf];refine dO ?_ λg hg=>?_;·unfold rather;rw[R.zN,acu];rfl
 ·obtain⟨g1,g2⟩:=cD hg;unfold rather Hs;rw[R.zN,R.adg,ahR,dZ];congr 1;congr 1;funext i;rw[R.tL h1 h2,R.tL g1 g2]
def Rel.aa8(R:Rel o M):Ks468.stable (share o)=(CD M).filter λg=>(B0 M (deal M g)).length==0:=by unfold Ks468.stable;rw[R.zM];refine aK λg hg=>?_;obtain⟨g1,g2⟩:=iq hg;rw[R.uV g1 g2,ig]
def Rel.on8(R:Rel o M):∀(k:Nat)(l:Ae)(s:Nat),1<=s->s<=As M->Ks468.on (share o) k l s=chainOf (Na M) k l s
 |0,l,s,_,_=>rfl
 |k+1,l,s,h1,h2=>by
  unfold Ks468.on chainOf;rw[R.uV h1 h2,show Na M s=B0 M (deal M s)from rfl];cases h:B0 M (deal M s)with
  |nil=>rfl
  |cons c r=>obtain⟨c1,c2⟩:=iq (mf (show c∈B0 M (deal M s) by grind));simp only;rw[R.on8 k _ c c1 c2]
def oQ{f g:Nat->Nat}:∀(l:Ae)(a:Nat),(∀x∈a::l,f x=g x)->l.foldl (λb x=>if f b<f x then x else b) a=l.foldl (λb x=>if g b<g x then x else b) a
 |[],a,_=>rfl
 |y::l,a,h=>by rw[afz,afz,h a (by simp),h y (by simp)];refine oQ l _ λx hx=>?_;grind
def Rel.aeF(R:Rel o M)(i:Nat):(match Ks468.best (share o) i with|none=>[-33]|some t=>[(Ks468.gets (share o) t i:Int),(t:Int)])=F4 M i:=by
 unfold Ks468.best F4 OO;rw[R.zM];have e:((CD M).filter λs=>Ks468.has s i)=Ht M i:=rfl;rw[e];cases h:Ht M i with
 |nil=>rfl
 |cons a l=>have hm:=λx hx=>iq (afp.mp (show x∈Ht M i by rw[h];exact hx)).1;have ef:=oQ l a λx hx=>R.tL (hm x hx).1 (hm x hx).2 i;simp only;rw[if_neg (by simp),ef];have hb:Dj (λg=>(deal M g).getD i 0) 0 (a::l)∈a::l:=iK (by simp);have HD:l.foldl (λb x=>if(deal M b).getD i 0<(deal M x).getD i 0 then x else b) a∈a::l:=hb;rw[R.tL (hm _ HD).1 (hm _ HD).2];rfl
noncomputable def choose(h:House)(look:Nat->Bool):Ae->Ae->List (Nat×Nat)
 |[],_=>[]
 |i::r,free=>if look i=true then(match free with
   |[]=>[]
   |a::l=>l.foldl (λb o=>if gets h b i<gets h ((i,o)::choose h look r (free.filter λx=>x !=o)) i then(i,o)::choose h look r (free.filter λx=>x !=o)else b) ((i,a)::choose h look r (free.filter λx=>x !=a)))
  else match dear h i free with
   |none=>[]
   |some o=>(i,o)::choose h look r (free.filter λx=>x !=o)
def j5(h:House):∀(r free:Ae),Ks466.plain h r free=choose h (λ_=>false) r free
 |[],free=>rfl
 |i::r,free=>by
  unfold Ks466.plain choose;rw[if_neg ae0];cases dear h i free with
  |none=>rfl
  |some o=>simp only;rw[j5 h r]
def kU(h:House):∀(r free:Ae),Ks466.ahead h r free=choose h (λ_=>true) r free
 |[],free=>by cases free<;>rfl
 |i::r,free=>by
  unfold Ks466.ahead choose;rw[if_pos RR];cases free with
  |nil=>rfl
  |cons a l=>simp only[kU h r]
def gM(h:House)(j:Nat):∀(r free:Ae),Ks466.alone h j r free=choose h (λi=>decide (i=j)) r free
 |[],free=>rfl
 |i::r,free=>by
  unfold Ks466.alone choose;by_cases e:i=j
  ·rw[if_pos e,if_pos (decide_eq_true e)];cases free with
   |nil=>rfl
   |cons a l=>simp only[gM h j r]
  ·rw[if_neg e,if_neg (by rw[decide_eq_false e];exact ae0)];cases dear h i free with
   |none=>rfl
   |some o=>simp only;rw[gM h j r]
def j7(R:Rel o M)(i:Nat):Ks470.party o i=pt M i:=by unfold Ks470.party pt;rw[R.par,afB];cases M.parties[i]?<;>rfl
def xS(M:Sm)(g:Nat):(mem M g).Nodup:=List.nodup_range.filter _
def dq{α:Type}{l:List α}(d:α)(h:k<l.length):l.getD k d=l[k]:=by simp_all
def fg(l:Ae):(List.range l.length).map (λk=>l.getD k 0)=l:=by refine ahA (by simp) λi h1 h2=>?_;simp only[agY,List.getElem_range];exact dq 0 h2
abbrev Dq(M:Sm)(g k:Nat):Nat:=(mem M g).getD k 0
def qI(hk:k<(mem M g).length)(hj:j<(mem M g).length)(e:Dq M g k=Dq M g j):k=j:=by rw[Dq,Dq,dq 0 hk,dq 0 hj]at e;exact(ahx (xS M g)).mp e
def aa2(hk:k<(mem M g).length):Dq M g k∈mem M g:=by simp_all
def Rel.ad6(R:Rel o M)(k:Nat):whom o g k=Dq M g k:=by unfold whom;rw[R.rj]
def Rel.aep(R:Rel o M):Ks466.parties (Ks470.table o g)=List.range (mem M g).length:=by unfold Ks466.parties Ks470.table;rw[R.rj];simp
def Rel.s6(R:Rel o M)(hk:k<(mem M g).length):seat (Ks470.table o g) k=(pt M (Dq M g k)).seats:=by unfold seat Ks470.table;rw[R.rj,dq 0 (by simpa using hk),agY,j7 R,Dq,dq 0 hk]
def Rel.w6(R:Rel o M)(hk:k<(mem M g).length)(f:Nat):Ks466.worth (Ks470.table o g) k f=(pt M (Dq M g k)).worth.getD f 0:=by unfold Ks466.worth Ks470.table;rw[R.rj,dq [] (by simpa using hk),agY,j7 R,Dq,dq 0 hk]
def qz{l:Ae}(hl:∀x∈l,x<(mem M g).length)(hi:i<(mem M g).length):(l.map (Dq M g)).count (Dq M g i)=l.count i:=by
 induction l with
 |nil=>rfl
 |cons a l ih=>
  have ha:=hl a (by simp);have ih:=ih λx hx=>hl x (by simp[hx]);rw[afq,List.count_cons,List.count_cons,ih];by_cases e:a=i;·rw[e];simp
  ·have:=λz=>e (qI ha hi z);rw[if_neg (by simpa using this),if_neg (by simpa using e)]
def Rel.aah(R:Rel o M)(hl:∀x∈l,x<(mem M g).length):∀(ks:Ae)(b:Nat),(∀x∈ks,x<(mem M g).length)->b<(mem M g).length->
  (ks.foldl (λb i=>if seat (Ks470.table o g) b*(Ks466.had l i+1)<seat (Ks470.table o g) i*(Ks466.had l b+1)then i else b) b)<(mem M g).length/\
  Dq M g (ks.foldl (λb i=>if seat (Ks470.table o g) b*(Ks466.had l i+1)<seat (Ks470.table o g) i*(Ks466.had l b+1)then i else b) b)=(ks.map (Dq M g)).foldl (λb i=>if C5 M (λi=>(l.map (Dq M g)).count i) i b then i else b) (Dq M g b)
 |[],b,_,hb=>⟨hb,RR⟩
 |k::ks,b,hk,hb=>by
  rw[afz,afq,afz];have hk1:=hk k (by simp);have e:C5 M (λi=>(l.map (Dq M g)).count i) (Dq M g k) (Dq M g b)=decide (seat (Ks470.table o g) b*(Ks466.had l k+1)<seat (Ks470.table o g) k*(Ks466.had l b+1)):=by unfold C5 Ks466.had;rw[afb,decide_eq_true_eq,decide_eq_true_eq];dsimp only;rw[qz hl hk1,qz hl hb,R.s6 hb,R.s6 hk1,gk,gk]
  rw[e];by_cases c:seat (Ks470.table o g) b*(Ks466.had l k+1)<seat (Ks470.table o g) k*(Ks466.had l b+1);·rw[if_pos c,if_pos (decide_eq_true c)];exact R.aah hl ks k (λx hx=>hk x (by simp[hx])) hk1
  ·rw[if_neg c,if_neg (by rw[decide_eq_false c];exact ae0)];exact R.aah hl ks b (λx hx=>hk x (by simp[hx])) hb
def Rel.ad9(R:Rel o M)(AW:mem M g≠[])(hl:∀x∈l,x<(mem M g).length):Ks466.turn (Ks470.table o g) l<(mem M g).length/\Dq M g (Ks466.turn (Ks470.table o g) l)=Dg M (λi=>(l.map (Dq M g)).count i) (mem M g):=by
 have Oc:=af6.mpr AW;have:=R.aah hl (List.range (mem M g).length) 0 (λx hx=>afD.mp hx) Oc;unfold Ks466.turn Dg;rw[R.aep];refine⟨this.1,?_⟩;rw[this.2,fg];congr 1;cases h:mem M g with
 |nil=>exact absurd h AW
 |cons a r=>simp[Dq,h]
def Rel.yW(R:Rel o M)(AW:mem M g≠[]):∀(k:Nat)(l:Ae)(j:Nat),(∀x∈l,x<(mem M g).length)->l.map (Dq M g)=AE M g j->(∀x∈turns (Ks470.table o g) k l,x<(mem M g).length)/\(turns (Ks470.table o g) k l).map (Dq M g)=AE M g (j+k)
 |0,l,j,hl,e=>⟨hl,e⟩
 |k+1,l,j,hl,e=>by obtain⟨t1,t2⟩:=R.ad9 AW hl;have:=R.yW AW k (l++[Ks466.turn (Ks470.table o g) l]) (j+1) (λx hx=>by grind) (by rw[afK,e];show _++[Dq M g _]=AE M g j++[Dg M (λi=>(AE M g j).count i) (mem M g)];rw[t2,e]);rw[show j+(k+1)=j+1+k by omega];exact this
def Rel.qZ(R:Rel o M)(AW:mem M g≠[]):(∀x∈Ks466.order (Ks470.table o g),x<(mem M g).length)/\(Ks466.order (Ks470.table o g)).map (Dq M g)=order M g:=by have:=R.yW AW (Ks470.table o g).offices [] 0 (by simp) RR;unfold Ks466.order order;rw[ahg]at this;refine⟨this.1,?_⟩;rw[this.2];congr 1;exact R.off
def gv(m:Nat)(tk:Ae)(x:Nat):freeOf m (tk++[x])=(freeOf m tk).filter λy=>y !=x:=by
 unfold freeOf;rw[ahf];refine aK λy _=>?_;rw[afb];simp;constructor;·rintro⟨a,b⟩;exact⟨b,a⟩
 ·rintro⟨a,b⟩;exact⟨b,a⟩
def Rel.acw(R:Rel o M)(hi:i<(mem M g).length):∀(c:List (Nat×Nat))(a:Nat),(∀x∈c,x.1<(mem M g).length)->c.foldl (λk x=>if x.1=i then k+Ks466.worth (Ks470.table o g) i x.2 else k) a=a+Bu M ((c.map (·.1)).map (Dq M g)) (c.map (·.2)) (Dq M g i)
 |[],a,_=>by simp[Bu]
 |x::c,a,h=>by
  have hx:=h x (by simp);rw[afz,R.acw hi c _ λy hy=>h y (by simp[hy])];unfold Bu;rw[afq,afq,afq,agc,agi];by_cases e:x.1=i;·rw[if_pos e,if_pos (by rw[e];simp),afq,agH,R.w6 hi];dsimp only;omega
  ·have:=λz=>e (qI hx hi z);rw[if_neg e,if_neg (by simpa using this)]
def Rel.aab(R:Rel o M)(hi:i<(mem M g).length)(c:List (Nat×Nat))(h:∀x∈c,x.1<(mem M g).length):gets (Ks470.table o g) c i=Bu M ((c.map (·.1)).map (Dq M g)) (c.map (·.2)) (Dq M g i):=by unfold gets;rw[R.acw hi c 0 h,ahg]
def aad(h:A.length=B.length):Bu M (A++A') (B++B') p=Bu M A B p+Bu M A' B' p:=by unfold Bu;rw[List.zip_append h,agL,afK,ag5]
def lS{α β:Type}(f:α->Nat)(f':β->Nat)(G:β->α)(S:β->Prop)(T:Nat->β)(hT:∀x,S (T x))(hf:∀b b',S b->S b'->(f (G b)<f (G b')↔f' b<f' b')):∀(l:Ae)(b:β),S b->(S (l.foldl (λb x=>if f' b<f' (T x)then T x else b) b))/\G (l.foldl (λb x=>if f' b<f' (T x)then T x else b) b)=(l.map λx=>G (T x)).foldl (λb x=>if f b<f x then x else b) (G b)
 |[],b,hb=>⟨hb,RR⟩
 |x::l,b,hb=>by
  rw[afz,afq,afz];by_cases c:f' b<f' (T x);·rw[if_pos c,if_pos ((hf b (T x) hb (hT x)).mpr c)];exact lS f f' G S T hT hf l (T x) (hT x)
  ·rw[if_neg c,if_neg λz=>c ((hf b (T x) hb (hT x)).mp z)];exact lS f f' G S T hT hf l b hb
def Rel.y9(R:Rel o M):∀(rest done tk:Ae),(∀x∈done++rest,x<(mem M g).length)->(∀x∈rest,look x=lk.testBit (Dq M g x))->done.length=tk.length->tk.length+rest.length=M.offices->
  taken M ((done++rest).map (Dq M g)) lk rest.length tk=tk++(choose (Ks470.table o g) look rest (freeOf M.offices tk)).map (·.2)/\(choose (Ks470.table o g) look rest (freeOf M.offices tk)).map (·.1)=rest
 |[],done,tk,_,_,_,_=>by simp[choose,taken]
 |i::rest,done,tk,Bz,Yf,hd,hm=>by
  have hm':tk.length+(rest.length+1)=M.offices:=by simpa using hm
  have hi:i<(mem M g).length:=Bz i (by simp);have EI:freeOf M.offices tk≠[]:=mS (by omega);have gO:((done++i::rest).map (Dq M g)).getD tk.length 0=Dq M g i:=by rw[afK,afB,afx (by simp[hd])];simp[hd]
  have step:=λx=>by have:=R.y9 (lk:=lk) (look:=look) rest (done++[i]) (tk++[x]) (λy hy=>Bz y (by simpa using hy)) (λy hy=>Yf y (by simp[hy])) (by simp[hd]) (by simp;omega);rw[show done++[i]++rest=done++i::rest by simp]at this;exact this
  rw[afG,dC,gO,<-Yf i (by simp)];unfold choose;cases hl:look i with
  |false=>
   rw[if_neg ae0,if_neg ae0];have ew:(λf=>(pt M (Dq M g i)).worth.getD f 0)=λf=>Ks466.worth (Ks470.table o g) i f:=by funext f;rw[R.w6 hi]
   have ed:dear (Ks470.table o g) i (freeOf M.offices tk)=some (Dj (λf=>(pt M (Dq M g i)).worth.getD f 0) 0 (freeOf M.offices tk)):=by
    rw[ew];cases hf:freeOf M.offices tk with
    |nil=>exact absurd hf EI
    |cons a l=>rfl
   rw[ed];simp only;generalize Dj (λf=>(pt M (Dq M g i)).worth.getD f 0) 0 (freeOf M.offices tk)=x;obtain⟨s1,s2⟩:=step x;rw[s1,gv];rw[gv]at s2;refine⟨by simp,?_⟩;rw[afq,s2]
  |true=>
   rw[if_pos RR,if_pos RR];cases hf:freeOf M.offices tk with
   |nil=>exact absurd hf EI
   |cons a l=>
    simp only;rw[<-hf];have key:=lS (λe=>Bu M ((done++i::rest).map (Dq M g)) e (Dq M g i)) (λc=>gets (Ks470.table o g) c i) (λc:List (Nat×Nat)=>tk++c.map (·.2)) (λc=>c.map (·.1)=i::rest) (λx=>(i,x)::choose (Ks470.table o g) look rest ((freeOf M.offices tk).filter λy=>y !=x)) (λx=>by have:=(step x).2;rw[gv]at this;rw[afq,this]) (λb b' hb HD=>by
     have ge:∀c:List (Nat×Nat),c.map (·.1)=i::rest->Bu M ((done++i::rest).map (Dq M g)) (tk++c.map (·.2)) (Dq M g i)=Bu M (done.map (Dq M g)) tk (Dq M g i)+gets (Ks470.table o g) c i:=λc hc=>by rw[afK,aad (by simp[hd]),R.aab hi c (λx hx=>Bz x.1 (by have:x.1∈c.map (·.1):=afw.mpr ⟨x,hx,RR⟩;rw[hc]at this;exact afE.mpr (.inr this))),hc]
     simp only[ge b hb,ge b' HD];omega) l ((i,a)::choose (Ks470.table o g) look rest ((freeOf M.offices tk).filter λy=>y !=a)) (by have:=(step a).2;rw[gv]at this;rw[afq,this]);refine⟨?_,key.1⟩;have eT:∀x,taken M ((done++i::rest).map (Dq M g)) lk rest.length (tk++[x])=tk++((i,x)::choose (Ks470.table o g) look rest ((freeOf M.offices tk).filter λy=>y !=x)).map (·.2):=λx=>by rw[(step x).1,gv];simp
    rw[key.2];rw[hf,afq];unfold Dj;rw[<-hf];simp only[eT]
def og{α β:Type}{f g:α->List β}:∀{l:List α},(∀x∈l,f x=g x)->l.flatMap f=l.flatMap g
 |[],_=>rfl
 |a::l,h=>by rw[af3,af3,h a (by simp),og λx hx=>h x (by simp[hx])]
def zip_parts{α β:Type}:∀c:List (α×β),(c.map (·.1)).zip (c.map (·.2))=c
 |[]=>rfl
 |x::c=>by rw[afq,afq,agc,zip_parts c]
def wW{φ:Nat->Bool}:∀{A B:Ae},A.length=B.length->B.Nodup->f∈B->(A.zip B).any (λx=>x.2==f&&φ x.1)=φ (A.getD (B.idxOf f) 0)
 |[],[],_,_,h=>by cases h
 |a::A,b::B,hl,hn,h=>by
  rw[agc,agF];by_cases e:b=f
  ·subst e;have:(A.zip B).any (λx=>x.2==b&&φ x.1)=false:=by rw[ahr];intro x hx;have hb:=(agn hx).2;have:x.2≠b:=λz=>(afN.mp hn).1 (z▸hb);simp[this]
   rw[this];simp
  ·have hf:f∈B:=by
    rcases ae5.mp h with z|z;·exact absurd z.symm e
    ·exact z
   rw[wW (by simpa using hl) (afN.mp hn).2 hf,List.idxOf_cons];have eb:(b==f)=false:=by simpa using e
   simp[eb]
 |[],_::_,hl,_,_=>by simp at hl
 |_::_,[],hl,_,_=>by simp at hl
def tX:∀{A B:Ae},A.length=B.length->f∈B->(A.zip B).find? (λx=>x.2==f)=some (A.getD (B.idxOf f) 0,f)
 |[],[],_,h=>by cases h
 |a::A,b::B,hl,h=>by
  rw[agc,List.find?_cons];by_cases e:b=f;·subst e;simp
  ·have hf:f∈B:=by
    rcases ae5.mp h with z|z;·exact absurd z.symm e
    ·exact z
   rw[tX (by simpa using hl) hf,List.idxOf_cons];have eb:(b==f)=false:=by simpa using e
   simp[eb]
 |[],_::_,hl,_=>by simp at hl
 |_::_,[],hl,_=>by simp at hl
def zr:∀{l:Ae},l.Pairwise (·<·)->i∈l->l[(l.filter λx=>decide (x<i)).length]? =some i
 |[],_,h=>by cases h
 |a::r,hp,h=>by
  obtain⟨h1,h2⟩:=agJ.mp hp;rw[agi];by_cases e:a=i
  ·subst e;have:(r.filter λx=>decide (x<a))=[]:=agl.mpr λx hx=>by have:=h1 x hx;simp;omega
   rw[this];simp
  ·have hi:i∈r:=by
    rcases ae5.mp h with z|z;·exact absurd z.symm e
    ·exact z
   have:=h1 i hi;rw[if_pos (by simpa using this),afG,List.getElem?_cons_succ];exact zr h2 hi
def xD(h:o<m):(List.range m).filter (λp=>decide (o<p)&&q p)=(List.range' (o+1) (m-(o+1))).filter q:=by
 have e:List.range m=List.range' 0 (o+1)++List.range' (o+1) (m-(o+1)):=by rw[List.range_eq_range'];have:=List.range'_append (s:=0) (m:=o+1) (n:=m-(o+1)) (step:=1);simp only[ahg,Nat.one_mul]at this;rw[this];congr 1;omega
 rw[e,agL,agl.mpr (by intro x hx;rw[List.mem_range']at hx;obtain⟨i,hi,rfl⟩:=hx;simp;omega),aha];refine aK λx hx=>?_;grind
def Rel.acG(R:Rel o M)(AW:mem M g≠[])(Yf:∀x,x<(mem M g).length->look x=lk.testBit (Dq M g x)):(choose (Ks470.table o g) look (Ks466.order (Ks470.table o g)) (Ks466.offices (Ks470.table o g))).map (·.2)=Df M g lk/\(choose (Ks470.table o g) look (Ks466.order (Ks470.table o g)) (Ks466.offices (Ks470.table o g))).map (·.1)=Ks466.order (Ks470.table o g):=by
 obtain⟨h1,h2⟩:=R.qZ AW;have hl:(Ks466.order (Ks470.table o g)).length=M.offices:=by rw[<-ae1 (f:=Dq M g),h2,bM]
 have hf:Ks466.offices (Ks470.table o g)=freeOf M.offices []:=by unfold Ks466.offices freeOf;rw[afV.mpr (by intro x _;rfl)];show List.range o.offices=_;rw[R.off]
 have:=R.y9 (Ks466.order (Ks470.table o g)) [] [] (λx hx=>h1 x (by simpa using hx)) (λx hx=>Yf x (h1 x hx)) RR (by simp[hl]);rw[aha,aha,h2,hl,<-hf]at this;exact⟨this.1.symm,this.2⟩
def Rel.yS(R:Rel o M)(AW:mem M g≠[])(hk:k<=1):(Ks466.way (Ks470.table o g) k).map (·.2)=Df M g (Bl g k)/\(Ks466.way (Ks470.table o g) k).map (·.1)=Ks466.order (Ks470.table o g):=by
 have h3:k=0\/k=1:=by omega
 rcases h3 with rfl|rfl;·unfold Ks466.way;rw[if_pos RR,j5];exact R.acG AW λx _=>by unfold Bl;rw[if_neg (by decide),ahB]
 ·unfold Ks466.way;rw[if_neg (by decide),kU];exact R.acG AW λx hx=>by unfold Bl;rw[if_pos RR,rh (aa2 hx)]
def Rel.aae(R:Rel o M)(AW:mem M g≠[])(hi:i<(mem M g).length)(h1:c.map (·.2)=Df M g lk)(h2:c.map (·.1)=Ks466.order (Ks470.table o g)):gets (Ks470.table o g) c i=Bu M (order M g) (Df M g lk) (Dq M g i):=by obtain⟨o1,o2⟩:=R.qZ AW;rw[R.aab hi c λx hx=>o1 x.1 (by rw[<-h2];exact afw.mpr ⟨x,hx,RR⟩),h1,h2,o2]
def Rel.adw(R:Rel o M)(AW:mem M g≠[])(hk:k<=1):(Ks466.parties (Ks470.table o g)).map (gets (Ks470.table o g) (Ks466.way (Ks470.table o g) k))=FZ M g (Bl g k):=by
 obtain⟨h1,h2⟩:=R.yS AW hk;unfold FZ;rw[R.aep];have e:(mem M g).map (λi=>Bu M (order M g) (Df M g (Bl g k)) i)=((List.range (mem M g).length).map λk=>(mem M g).getD k 0).map (λi=>Bu M (order M g) (Df M g (Bl g k)) i):=by rw[fg]
 rw[e,afr];exact afy λi hi=>R.aae AW (afD.mp hi) h1 h2
def Rel.zE(R:Rel o M)(AW:mem M g≠[]):(Ks466.order (Ks470.table o g)).map (whom o g)=order M g:=by rw[<-(R.qZ AW).2];exact afy λi _=>R.ad6 i
def Rel.ad5(R:Rel o M)(h1:1<=g)(h2:g<=As M)(hb:g.testBit i=true):
  gets (Ks470.table o g) (Ks466.alone (Ks470.table o g) ((Ks470.members o g).filter λx=>decide (x<i)).length (Ks466.order (Ks470.table o g)) (Ks466.offices (Ks470.table o g))) ((Ks470.members o g).filter λx=>decide (x<i)).length=Bu M (order M g) (Df M g (2^i)) i/\
  gets (Ks470.table o g) (Ks466.way (Ks470.table o g) 0) ((Ks470.members o g).filter λx=>decide (x<i)).length=Bu M (order M g) (Df M g 0) i:=by
 have AW:=cC h1 h2;have hi:=afp.mpr ⟨afD.mpr (aaW h2 hb),hb⟩;have PM:(mem M g).Pairwise (·<·):=agM.filter _;have hp:=zr PM hi;rw[R.rj];generalize((mem M g).filter λx=>decide (x<i)).length=j at hp;obtain⟨hj,ej⟩:=ae3.mp hp;have hw:Dq M g j=i:=by rw[Dq,dq 0 hj];exact ej
 have a1:=R.acG AW (look:=λx=>decide (x=j)) λx hx=>by
  rw[Nat.testBit_two_pow,afb];simp only[decide_eq_true_eq];constructor;·intro z;rw[z,hw]
  ·intro z;exact qI hx hj (by rw[hw];exact z.symm)
 obtain⟨b1,b2⟩:=R.yS AW (k:=0) (by decide);rw[gM];refine⟨?_,?_⟩;·rw[R.aae AW hj a1.1 a1.2,hw]
 ·rw[R.aae AW hj b1 b2,hw];rfl
def abU(lk:Nat)(hf:f<M.offices):(hold M g lk).getD f 0=(order M g).getD ((Df M g lk).idxOf f) 0:=by unfold hold;simp_all
def Rel.z8(R:Rel o M)(AW:mem M g≠[]):holdersOf o g=hold M g 0:=by
 obtain⟨h1,h2⟩:=R.yS AW (k:=0) (by decide);have ec:Ks470.chosen o g 0=(order M g).zip (Df M g 0):=by
  unfold Ks470.chosen;rw[<-zip_parts ((Ks466.way (Ks470.table o g) 0).map λx=>(whom o g x.1,x.2)),afr,afr];have e1:(Ks466.way (Ks470.table o g) 0).map ((λx:Nat×Nat=>x.1) ∘ λx=>(whom o g x.1,x.2))=order M g:=by rw[<-R.zE AW,<-h2,afr];rfl
  have e2:(Ks466.way (Ks470.table o g) 0).map ((λx:Nat×Nat=>x.2) ∘ λx=>(whom o g x.1,x.2))=Df M g 0:=h1;rw[e1,e2]
 unfold holdersOf hold;rw[R.off,ec];refine afy λf hf=>?_;rw[tX (by rw[bM,iN]) (hC (afD.mp hf))]
def Rel.acH(R:Rel o M)(AW:mem M g≠[])(hk:k<=1):Ks466.swaps (Ks470.table o g) (Ks466.way (Ks470.table o g) k)=G2 M (hold M g (Bl g k)):=by
 obtain⟨h1,h2⟩:=R.yS AW hk;obtain⟨o1,o2⟩:=R.qZ AW;generalize Bl g k=lk at*;generalize Ks466.way (Ks470.table o g) k=c at*;have Z1:Ks466.offices (Ks470.table o g)=List.range M.offices:=by unfold Ks466.offices;show List.range o.offices=_;rw[R.off]
 have hc:c=(Ks466.order (Ks470.table o g)).zip (Df M g lk):=by rw[<-zip_parts c,h1,h2]
 have hlen:(Ks466.order (Ks470.table o g)).length=(Df M g lk).length:=by rw[<-h2,<-h1,ae1,ae1]
 have at_:∀{f},f<M.offices->∀φ:Nat->Bool,c.any (λx=>x.2==f&&φ x.1)=φ ((Ks466.order (Ks470.table o g)).getD ((Df M g lk).idxOf f) 0):=λ{f} hf φ=>by rw[hc];exact wW hlen (p_ M g lk) (hC hf)
 have pos:∀{f},f<M.offices->(Ks466.order (Ks470.table o g)).getD ((Df M g lk).idxOf f) 0<(mem M g).length/\(hold M g lk).getD f 0=Dq M g ((Ks466.order (Ks470.table o g)).getD ((Df M g lk).idxOf f) 0):=λ{f} hf=>by
  have hx:(Df M g lk).idxOf f<(Ks466.order (Ks470.table o g)).length:=by rw[hlen];exact ags (hC hf)
  rw[abU lk hf,<-o2,dq 0 hx,dq 0 (by simpa using hx),agY];exact⟨o1 _ (agz hx),RR⟩
 unfold Ks466.swaps G2 ES FY;rw[Z1,ij];refine og λf hf=>?_;have hf:=afD.mp hf;congr 1;rw[<-xD hf];refine aK λp hp=>?_;have hp:=afD.mp hp;congr 1;have assoc:∀x:Nat×Nat,(c.any λy=>y.2==p&&x.1 !=y.1&&decide (Ks466.worth (Ks470.table o g) x.1 f<Ks466.worth (Ks470.table o g) x.1 p)&&decide (Ks466.worth (Ks470.table o g) y.1 p<Ks466.worth (Ks470.table o g) y.1 f))=(x.1 !=(Ks466.order (Ks470.table o g)).getD ((Df M g lk).idxOf p) 0&&decide (Ks466.worth (Ks470.table o g) x.1 f<Ks466.worth (Ks470.table o g) x.1 p)&&decide (Ks466.worth (Ks470.table o g) ((Ks466.order (Ks470.table o g)).getD ((Df M g lk).idxOf p) 0) p<Ks466.worth (Ks470.table o g) ((Ks466.order (Ks470.table o g)).getD ((Df M g lk).idxOf p) 0) f)):=λx=>by rw[<-at_ hp λy=>x.1 !=y&&decide (Ks466.worth (Ks470.table o g) x.1 f<Ks466.worth (Ks470.table o g) x.1 p)&&decide (Ks466.worth (Ks470.table o g) y p<Ks466.worth (Ks470.table o g) y f)];congr 1;funext y;simp only[Bool.and_assoc]
 simp only[assoc];rw[at_ hf λx=>x !=(Ks466.order (Ks470.table o g)).getD ((Df M g lk).idxOf p) 0&&decide (Ks466.worth (Ks470.table o g) x f<Ks466.worth (Ks470.table o g) x p)&&decide (Ks466.worth (Ks470.table o g) ((Ks466.order (Ks470.table o g)).getD ((Df M g lk).idxOf p) 0) p<Ks466.worth (Ks470.table o g) ((Ks466.order (Ks470.table o g)).getD ((Df M g lk).idxOf p) 0) f)];obtain⟨p1,p2⟩:=pos hf;obtain⟨q1,q2⟩:=pos hp;unfold HU;rw[p2,q2];generalize(Ks466.order (Ks470.table o g)).getD ((Df M g lk).idxOf f) 0=X at*;generalize(Ks466.order (Ks470.table o g)).getD ((Df M g lk).idxOf p) 0=Y at*;rw[R.w6 p1,R.w6 p1,R.w6 q1,R.w6 q1];by_cases e:X=Y;·rw[e];rw[afb];simp;omega
 ·have:(X !=Y)=true:=by simpa using e
  rw[this,agt]
def Fq(a:Ans):Am:=a.ret::Ks470Neutral.ints a.out
def dB(l:List (Nat×Nat)):Fq (Ks470.pairs l)=FO l:=by unfold Fq Ks470.pairs FO Ks470Neutral.ints;rw[List.map_flatMap];rfl
def vW:(t=0\/2^M.nP<=t)↔¬(1<=t/\t<=As M):=by have:=dF M;omega
def Rel.vw(R:Rel o M):count o=M.nP:=by unfold count;rw[R.par]
def mK(R:Rel q.now M)(t:Nat)(f:Unit->Ks470.State×Ans):some_ q t f=if 1<=t/\t<=As M then f ()else(q,Ks470.no (-2)):=by
 unfold some_;rw[R.vw];by_cases h:1<=t/\t<=As M;·rw[if_pos h,if_neg λz=>vW.mp z h]
 ·rw[if_neg h,if_pos (vW.mpr h)]
def mZ(R:Rel q.now M)(i:Nat)(f:Unit->Ks470.State×Ans):Ks470.there q i f=if i<M.nP then f ()else(q,Ks470.no (-2)):=by unfold Ks470.there;rw[R.vw];grind
def both_eq(R:Rel q.now M)(i j:Nat)(f:Unit->Ks470.State×Ans):both q i j f=if i<M.nP/\j<M.nP then f ()else(q,Ks470.no (-2)):=by unfold both;rw[R.vw];grind
def cB:Ar M cs []=false:=by cases cs<;>rfl
def abH:Ar M (115::cs) (.num t::ys)=(!(decide (1<=t/\t<=As M))||Ar M cs ys):=by show(Cu M 115 (.num t)||Ar M cs ys)=_;simp[Cu]
def k9:Ar M (105::cs) (.num i::ys)=(!(decide (i<M.nP))||Ar M cs ys):=by show(Cu M 105 (.num i)||Ar M cs ys)=_;rw[afb];simp[Cu]
def k8:Ar M (110::cs) (.num i::ys)=Ar M cs ys:=rfl
def aes:Ar M (119::cs) (.row l::ys)=Ar M cs ys:=rfl
def adN(R:Rel o M)(g:Nat):Fq {ret:=voting (house o) g 0,out:=[voting (house o) g 1,voting (house o) g 2]}=Mg M g:=by rw[R.jP,R.jP,R.jP];rfl
def aat(R:Rel o M)(g:Nat):Fq (Ks470.no (if Ks470.stands o g=true then 1 else 0))=Ia M g:=by rw[R.st];rfl
def aax{q:Ks470.State}(R:Rel o M):(match Ks464.fewest (house o) o.rule with|none=>(q,Ks470.no (-33))|some t=>(q,({ret:=(Ks470.members o t).length,out:=[t]}:Ans))).1=q/\Fq (match Ks464.fewest (house o) o.rule with|none=>(q,Ks470.no (-33))|some t=>(q,({ret:=(Ks470.members o t).length,out:=[t]}:Ans))).2=DG M:=by
 unfold Ks464.fewest DG;rw[R.f9,show(λs=>(Ks464.members (house o) s).length)=λs=>(mem M s).length by funext s;rw[R.zL]];cases standing M with
 |nil=>exact⟨RR,RR⟩
 |cons a l=>refine⟨RR,?_⟩;simp only[Ks464.leastBy];rw[R.rj];rfl
def vq{q:Ks470.State}(R:Rel o M):(match Ks464.smallest (house o) o.rule with|none=>(q,Ks470.no (-33))|some t=>(q,({ret:=Ks464.seatsOf (house o) (Ks470.members o t),out:=[t]}:Ans))).1=q/\Fq (match Ks464.smallest (house o) o.rule with|none=>(q,Ks470.no (-33))|some t=>(q,({ret:=Ks464.seatsOf (house o) (Ks470.members o t),out:=[t]}:Ans))).2=CL M:=by
 unfold Ks464.smallest CL;rw[R.f9,show(λs=>Ks464.seatsOf (house o) (Ks464.members (house o) s))=AB M by funext s;rw[R.zL,R.vY];rfl];cases standing M with
 |nil=>exact⟨RR,RR⟩
 |cons a l=>refine⟨RR,?_⟩;simp only[Ks464.leastBy];rw[R.rj,R.vY];rfl
def adO(R:Rel o M)(i:Nat):Fq {ret:=((Ks464.standing (house o) o.rule).filter λt=>t.testBit i).length,out:=[(Ks464.standing (house o) o.rule).length]}=Mh M i:=by rw[R.f9];rfl
def aaw(R:Rel o M)(h1:1<=g)(h2:g<=As M):Fq {ret:=if Ks465.joined (Ks470.row o) g=true then 1 else 0,out:=[wide (Ks470.row o) g,seatsOf (Ks470.row o) (Ks470.members o g)]}=Ie M g:=by rw[R.wu (cC h1 h2),R.vQ,R.rj,R.jW];rfl
def aau{q:Ks470.State}(R:Rel o M):(match Ks465.narrowest (Ks470.row o)with|none=>(q,Ks470.no (-33))|some t=>(q,({ret:=wide (Ks470.row o) t,out:=[t,seatsOf (Ks470.row o) (Ks470.members o t)]}:Ans))).1=q/\Fq (match Ks465.narrowest (Ks470.row o)with|none=>(q,Ks470.no (-33))|some t=>(q,({ret:=wide (Ks470.row o) t,out:=[t,seatsOf (Ks470.row o) (Ks470.members o t)]}:Ans))).2=CM M:=by
 rw[<-R.abI];cases Ks465.narrowest (Ks470.row o)with
 |none=>exact⟨RR,RR⟩
 |some t=>refine⟨RR,?_⟩;simp only;rw[R.rj];rfl
def aay(R:Rel o M):Fq {ret:=Ks465.centre (Ks470.row o),out:=[away (Ks470.row o) (Ks465.centre (Ks470.row o))]}=F0 M:=by rw[R.ace,R.aaX];rfl
def aav{q:Ks470.State}(R:Rel o M)(x y:Nat):(if PLANE<x\/PLANE<y then(q,Ks470.no (-22))else(q,({ret:=Ks465.nearer (Ks470.row o) x y,out:=[Ks465.nearer (Ks470.row o) y x]}:Ans))).1=q/\Fq (if PLANE<x\/PLANE<y then(q,Ks470.no (-22))else(q,({ret:=Ks465.nearer (Ks470.row o) x y,out:=[Ks465.nearer (Ks470.row o) y x]}:Ans))).2=EM M x y:=by
 unfold EM;have hP:PLANE=30:=rfl;by_cases h:x<=30/\y<=30;·rw[if_neg (by rw[hP];omega),if_pos h,R.we,R.we];exact⟨RR,RR⟩
 ·rw[if_pos (by rw[hP];omega),if_neg h];exact⟨RR,RR⟩
def ab7{q:Ks470.State}(R:Rel o M)(h1:1<=g)(h2:g<=As M)(i:Nat):(if g.testBit i=false then(q,Ks470.no (-6))else(q,({ret:=gets (Ks470.table o g) (Ks466.alone (Ks470.table o g) ((Ks470.members o g).filter λx=>decide (x<i)).length (Ks466.order (Ks470.table o g)) (Ks466.offices (Ks470.table o g))) ((Ks470.members o g).filter λx=>decide (x<i)).length,out:=[gets (Ks470.table o g) (Ks466.way (Ks470.table o g) 0) ((Ks470.members o g).filter λx=>decide (x<i)).length]}:Ans))).1=q/\
  Fq (if g.testBit i=false then(q,Ks470.no (-6))else(q,({ret:=gets (Ks470.table o g) (Ks466.alone (Ks470.table o g) ((Ks470.members o g).filter λx=>decide (x<i)).length (Ks466.order (Ks470.table o g)) (Ks466.offices (Ks470.table o g))) ((Ks470.members o g).filter λx=>decide (x<i)).length,out:=[gets (Ks470.table o g) (Ks466.way (Ks470.table o g) 0) ((Ks470.members o g).filter λx=>decide (x<i)).length]}:Ans))).2=FT M g i:=by
 unfold FT;cases hb:g.testBit i with
 |false=>exact⟨RR,RR⟩
 |true=>obtain⟨a,b⟩:=R.ad5 h1 h2 hb;rw[a,b];exact⟨RR,RR⟩
def ab5{q:Ks470.State}(R:Rel o M)(h1:1<=g)(h2:g<=As M)(k:Nat):(if 1<k then(q,Ks470.no (-22))else(q,Ks470.rows ((Ks466.parties (Ks470.table o g)).map (gets (Ks470.table o g) (Ks466.way (Ks470.table o g) k))))).1=q/\Fq (if 1<k then(q,Ks470.no (-22))else(q,Ks470.rows ((Ks466.parties (Ks470.table o g)).map (gets (Ks470.table o g) (Ks466.way (Ks470.table o g) k))))).2=FR M g k:=by
 unfold FR;by_cases h:k<=1;·rw[if_neg (by omega),if_pos h,R.adw (cC h1 h2) h];exact⟨RR,RR⟩
 ·rw[if_pos (by omega),if_neg h];exact⟨RR,RR⟩
def ab3{q:Ks470.State}(R:Rel o M)(h1:1<=g)(h2:g<=As M)(k:Nat):(if 1<k then(q,Ks470.no (-22))else(q,Ks470.pairs (Ks466.swaps (Ks470.table o g) (Ks466.way (Ks470.table o g) k)))).1=q/\Fq (if 1<k then(q,Ks470.no (-22))else(q,Ks470.pairs (Ks466.swaps (Ks470.table o g) (Ks466.way (Ks470.table o g) k)))).2=FP M g k:=by
 unfold FP;by_cases h:k<=1;·rw[if_neg (by omega),if_pos h,R.acH (cC h1 h2) h];exact⟨RR,dB _⟩
 ·rw[if_pos (by omega),if_neg h];exact⟨RR,RR⟩
def ab4(R:Rel o M)(h1:1<=g)(h2:g<=As M):Fq (Ks470.rows ((Ks466.order (Ks470.table o g)).map (whom o g)))=Hw M g:=by rw[R.zE (cC h1 h2)];rfl
def wI(R:Rel o M)(h1:1<=g)(h2:g<=As M)(hk:k<=1):(Ks470.chosen o g k).map (λx=>x.2)=Df M g (Bl g k):=by unfold Ks470.chosen;rw[afr];exact(R.yS (cC h1 h2) hk).1
def ab6(R:Rel o M)(p d:Nat×Nat):Fq {ret:=if Ks467.beats (plane o) p d=true then 1 else 0,out:=[Ks467.forIt (plane o) p d,Ks467.forIt (plane o) d p]}=J8 M p.1 p.2 d.1 d.2:=by rw[R.vI,R.adC,R.adC];rfl
def adQ(R:Rel o M)(h1:1<=g)(h2:g<=As M):Fq {ret:=if Ks468.may (share o) g=true then 1 else 0,out:=(List.range PARTIES).map (Ks468.gets (share o) g)}=Jo M g:=by rw[R.zN,afy λi _=>R.tL h1 h2 i];rfl
def adR{q:Ks470.State}(R:Rel o M)(i:Nat):(match Ks468.best (share o) i with|none=>(q,Ks470.no (-33))|some t=>(q,({ret:=Ks468.gets (share o) t i,out:=[t]}:Ans))).1=q/\Fq (match Ks468.best (share o) i with|none=>(q,Ks470.no (-33))|some t=>(q,({ret:=Ks468.gets (share o) t i,out:=[t]}:Ans))).2=F4 M i:=by
 rw[<-R.aeF];cases Ks468.best (share o) i with
 |none=>exact⟨RR,RR⟩
 |some t=>exact⟨RR,RR⟩
def yr{q:Ks470.State}(R:Rel o M):(if o.govern=0 then(q,Ks470.no (-6))else(q,({ret:=o.govern,out:=five o.holders}:Ans))).1=q/\Fq (if o.govern=0 then(q,Ks470.no (-6))else(q,({ret:=o.govern,out:=five o.holders}:Ans))).2=DU M:=by
 unfold DU;rw[R.Of,R.L0];by_cases h:M.Af=0;·rw[if_pos h,if_pos h];exact⟨RR,RR⟩
 ·rw[if_neg h,if_neg h];exact⟨RR,RR⟩
def adP(R:Rel o M)(i:Nat):Fq {ret:=(Ks470.party o i).seats,out:=[(Ks470.party o i).x,(Ks470.party o i).y,(Ks470.party o i).carex,(Ks470.party o i).carey]++five (Ks470.party o i).worth}=Jn M i:=by rw[j7 R];rfl
noncomputable def numsOf:List Vl->Am
 |[]=>[]
 | .num n::r=>(n:Int)::numsOf r
 | .row _::r=>numsOf r
noncomputable def rowsOf:List Vl->List (Am)
 |[]=>[]
 | .num _::r=>rowsOf r
 | .row l::r=>zs l::rowsOf r
def C8(p:Nat)(ys:List Vl):List (Am):=((p:Int)::numsOf ys)::rowsOf ys
def f0(h:BI [] ys):ys=[]:=by cases ys with|nil=>rfl|cons _ _=>exact h.elim
def fN(hc:c≠119)(h:BI (c::cs) ys):∃g Lx,ys= .num g::Lx/\BI cs Lx:=by
 cases ys with
 |nil=>exact h.elim
 |cons y ys=>cases y with
  |num g=>exact⟨g,ys,RR,h.2⟩
  |row l=>exact absurd h.1 hc
def fW(h:BI (119::cs) ys):∃l Lx,ys= .row l::Lx/\BI cs Lx:=by
 cases ys with
 |nil=>exact h.elim
 |cons y ys=>cases y with
  |num g=>exact absurd RR h.1
  |row l=>exact⟨l,ys,RR,h.2⟩
def f1(hc:c≠119)(h:BI [c] ys):∃g,ys=[.num g]:=by obtain⟨g,Lx,rfl,h'⟩:=fN hc h;rw[f0 h'];exact⟨g,RR⟩
def f2(hc:c≠119)(hd:d≠119)(h:BI [c,d] ys):∃g i,ys=[.num g,.num i]:=by obtain⟨g,Lx,rfl,h'⟩:=fN hc h;obtain⟨i,rfl⟩:=f1 hd h';exact⟨g,i,RR⟩
def f3(hc:c≠119)(hd:d≠119)(he:e≠119)(h:BI [c,d,e] ys):∃g i j,ys=[.num g,.num i,.num j]:=by obtain⟨g,Lx,rfl,h'⟩:=fN hc h;obtain⟨i,j,rfl⟩:=f2 hd he h';exact⟨g,i,j,RR⟩
abbrev D5(d:Ks470.State×Ans):Option Ks470.State×Am:=(some d.1,Fq d.2)
def jG(h:d.1=q/\Fq d.2=Fp):D5 d=if Ar M [] []=true then(some q,[-2])else(some q,Fp):=by rw[cB,if_neg ae0,D5,h.1,h.2]
def adE(h:d.1=q/\Fq d.2=Fp):D5 d=if Ar M [110,110] [.num x,.num y]=true then(some q,[-2])else(some q,Fp):=by rw[k8,k8,cB,if_neg ae0,D5,h.1,h.2]
def ko(R:Rel q.now M)(hd:d=some_ q t f)(h:1<=t->t<=As M->(f ()).1=q/\Fq (f ()).2=Fp):D5 d=if Ar M [115] [.num t]=true then(some q,[-2])else(some q,Fp):=by
 rw[hd,mK R,abH,cB];by_cases c:1<=t/\t<=As M;·rw[if_pos c,decide_eq_true c,if_neg (by decide),D5,(h c.1 c.2).1,(h c.1 c.2).2]
 ·rw[if_neg c,decide_eq_false c,if_pos (by simp)];rfl
def aai(R:Rel q.now M)(hd:d=some_ q t f)(h:1<=t->t<=As M->(f ()).1=q/\Fq (f ()).2=Fp):D5 d=if Ar M [115,110] [.num t,.num k]=true then(some q,[-2])else(some q,Fp):=by
 rw[hd,mK R,abH,k8,cB];by_cases c:1<=t/\t<=As M;·rw[if_pos c,decide_eq_true c,if_neg (by decide),D5,(h c.1 c.2).1,(h c.1 c.2).2]
 ·rw[if_neg c,decide_eq_false c,if_pos (by simp)];rfl
def adD(R:Rel q.now M)(hd:d=some_ q t λ_=>Ks470.there q i f)(h:1<=t->t<=As M->(f ()).1=q/\Fq (f ()).2=Fp):D5 d=if Ar M [115,105] [.num t,.num i]=true then(some q,[-2])else(some q,Fp):=by
 rw[hd,mK R,abH,k9,cB];by_cases c:1<=t/\t<=As M
 ·rw[if_pos c,decide_eq_true c,mZ R];by_cases e:i<M.nP;·rw[if_pos e,decide_eq_true e,if_neg (by decide),D5,(h c.1 c.2).1,(h c.1 c.2).2]
  ·rw[if_neg e,decide_eq_false e,if_pos (by simp)];rfl
 ·rw[if_neg c,decide_eq_false c,if_pos (by simp)];rfl
def aaj(R:Rel q.now M)(hd:d=Ks470.there q i f)(h:i<M.nP->(f ()).1=q/\Fq (f ()).2=Fp):D5 d=if Ar M [105] [.num i]=true then(some q,[-2])else(some q,Fp):=by
 rw[hd,mZ R,k9,cB];by_cases e:i<M.nP;·simp_all
 ·rw[if_neg e,decide_eq_false e,if_pos (by simp)];rfl
def rN(R:Rel q.now M)(hd:d=both q i j f)(h:i<M.nP->j<M.nP->(f ()).1=q/\Fq (f ()).2=Fp):D5 d=if Ar M [105,105] [.num i,.num j]=true then(some q,[-2])else(some q,Fp):=by
 rw[hd,both_eq R,k9,k9,cB];by_cases e:i<M.nP
 ·by_cases e2:j<M.nP;·simp_all
  ·rw[if_neg λz=>e2 z.2,decide_eq_false e2,if_pos (by simp)];rfl
 ·rw[if_neg λz=>e z.1,decide_eq_false e,if_pos (by simp)];rfl
def aex(R:Rel q.now M)(hd:d=both q i j λ_=>both q k l f)(h:i<M.nP->j<M.nP->k<M.nP->l<M.nP->(f ()).1=q/\Fq (f ()).2=Fp):D5 d=if Ar M [105,105,105,105] [.num i,.num j,.num k,.num l]=true then(some q,[-2])else(some q,Fp):=by
 rw[hd,both_eq R,k9,k9];by_cases e:i<M.nP
 ·by_cases e2:j<M.nP;·rw[if_pos ⟨e,e2⟩,decide_eq_true e,decide_eq_true e2,Bool.not_true,ahP,ahP];exact rN R RR (h e e2)
  ·rw[if_neg λz=>e2 z.2,decide_eq_false e2,if_pos (by simp)];rfl
 ·rw[if_neg λz=>e z.1,decide_eq_false e,if_pos (by simp)];rfl
def aaY(R:Rel q.now M)(Ln:14<=p)(Mq:p<=48)(hk:By[p]? =some kd)(An:BI kd ys):Ks470Neutral.step (some q) (C8 p ys)=if Ar M kd ys=true then(some q,[-2])else(some q,Ni p M ys):=by
 show"r" 14;·obtain⟨g,rfl⟩:=f1 (by decide) An;refine ko (d:=does_ q (.vote g)) R (by unfold does_;exact rfl) ?_;exact λh1 h2=>⟨RR,adN R g⟩
 show"r" 15;·obtain⟨g,rfl⟩:=f1 (by decide) An;refine ko (d:=does_ q (.stands g)) R (by unfold does_;exact rfl) ?_;exact λh1 h2=>⟨RR,aat R g⟩
 show"r" 16;·rw[f0 An];refine jG (d:=does_ q (.standing)) (⟨RR,congrArg cnt R.f9⟩)
 show"r" 17;·rw[f0 An];refine jG (d:=does_ q (.tight)) (⟨RR,congrArg cnt R.acE⟩)
 show"r" 18;·rw[f0 An];refine jG (d:=does_ q (.fewest)) (aax R)
 show"r" 19;·rw[f0 An];refine jG (d:=does_ q (.smallest)) (vq R)
 show"r" 20;·obtain⟨i,rfl⟩:=f1 (by decide) An;refine aaj (d:=does_ q (.part i)) R (by unfold does_;exact rfl) ?_;exact λ_=>⟨RR,adO R i⟩
 show"r" 21;·rw[f0 An];refine jG (d:=does_ q (.middle)) (⟨RR,congrArg cnt R.abL⟩)
 show"r" 22;·obtain⟨g,rfl⟩:=f1 (by decide) An;refine ko (d:=does_ q (.joined g)) R (by unfold does_;exact rfl) ?_;exact λh1 h2=>⟨RR,aaw R h1 h2⟩
 show"r" 23;·rw[f0 An];refine jG (d:=does_ q (.rows_)) (⟨RR,congrArg cnt R.acD⟩)
 show"r" 24;·rw[f0 An];refine jG (d:=does_ q (.narrowest)) (aau R)
 show"r" 25;·rw[f0 An];refine jG (d:=does_ q (.centre)) (⟨RR,aay R⟩)
 show"r" 26;·obtain⟨g,i,rfl⟩:=f2 (by decide) (by decide) An;refine adE (d:=does_ q (.motion g i)) (aav R g i)
 show"r" 27;·obtain⟨g,rfl⟩:=f1 (by decide) An;refine ko (d:=does_ q (.order g)) R (by unfold does_;exact rfl) ?_;exact λh1 h2=>⟨RR,ab4 R h1 h2⟩
 show"r" 28;·obtain⟨g,rfl⟩:=f1 (by decide) An;refine ko (d:=does_ q (.plain g)) R (by unfold does_;exact rfl) ?_;exact λh1 h2=>⟨RR,congrArg cnt (wI R h1 h2 (k:=0) (by decide))⟩
 show"r" 29;·obtain⟨g,rfl⟩:=f1 (by decide) An;refine ko (d:=does_ q (.ahead g)) R (by unfold does_;exact rfl) ?_;exact λh1 h2=>⟨RR,congrArg cnt (wI R h1 h2 (k:=1) (by decide))⟩
 show"r" 30;·obtain⟨g,i,rfl⟩:=f2 (by decide) (by decide) An;refine adD (d:=does_ q (.alone g i)) R (by unfold does_;exact rfl) ?_;exact λh1 h2=>ab7 R h1 h2 i
 show"r" 31;·obtain⟨g,i,rfl⟩:=f2 (by decide) (by decide) An;refine aai (d:=does_ q (.gains g i)) R (by unfold does_;exact rfl) ?_;exact λh1 h2=>ab5 R h1 h2 i
 show"r" 32;·obtain⟨g,i,rfl⟩:=f2 (by decide) (by decide) An;refine aai (d:=does_ q (.swaps g i)) R (by unfold does_;exact rfl) ?_;exact λh1 h2=>ab3 R h1 h2 i
 show"r" 33;·obtain⟨g,y1,rfl,hfi⟩:=fN (by decide) An;obtain⟨i,j,l,rfl⟩:=f3 (by decide) (by decide) (by decide) hfi;refine aex (d:=does_ q (.beats g i j l)) R (by unfold does_;exact rfl) ?_;exact λ_ _ _ _=>⟨RR,ab6 R (g,i) (j,l)⟩
 show"r" 34;·obtain⟨g,i,rfl⟩:=f2 (by decide) (by decide) An;refine rN (d:=does_ q (.beaters g i)) R (by unfold does_;exact rfl) ?_;exact λ_ _=>⟨RR,(dB _).trans (congrArg FO (R.oR (g,i)))⟩
 show"r" 35;·obtain⟨g,i,rfl⟩:=f2 (by decide) (by decide) An;refine rN (d:=does_ q (.unseaters g i)) R (by unfold does_;exact rfl) ?_;exact λ_ _=>⟨RR,(dB _).trans (congrArg FO (R.js (g,i)))⟩
 show"r" 36;·rw[f0 An];refine jG (d:=does_ q (.calm)) (⟨RR,(dB _).trans (congrArg FO R.aeB)⟩)
 show"r" 37;·rw[f0 An];refine jG (d:=does_ q (.holding)) (⟨RR,(dB _).trans (congrArg FO R.z7)⟩)
 show"r" 38;·rw[f0 An];refine jG (d:=does_ q (.middles)) (⟨RR,(dB _).trans (congrArg FO R.zK)⟩)
 show"r" 39;·rw[f0 An];refine jG (d:=does_ q (.strong)) (⟨RR,congrArg cnt R.aa7⟩)
 show"r" 40;·obtain⟨g,i,rfl⟩:=f2 (by decide) (by decide) An;refine rN (d:=does_ q (.fall g i)) R (by unfold does_;exact rfl) ?_;exact λ_ _=>⟨RR,(dB _).trans (congrArg FO (R.acy 26 [(g,i)] (g,i)))⟩
 show"r" 41;·obtain⟨g,rfl⟩:=f1 (by decide) An;refine ko (d:=does_ q (.deal g)) R (by unfold does_;exact rfl) ?_;exact λh1 h2=>⟨RR,adQ R h1 h2⟩
 show"r" 42;·rw[f0 An];refine jG (d:=does_ q (.mays)) (⟨RR,congrArg cnt R.zM⟩)
 show"r" 43;·obtain⟨g,rfl⟩:=f1 (by decide) An;refine ko (d:=does_ q (.leave g)) R (by unfold does_;exact rfl) ?_;exact λh1 h2=>⟨RR,congrArg cnt (R.uV h1 h2)⟩
 show"r" 44;·rw[f0 An];refine jG (d:=does_ q (.stable)) (⟨RR,congrArg cnt R.aa8⟩)
 show"r" 45;·obtain⟨g,rfl⟩:=f1 (by decide) An;refine ko (d:=does_ q (.on g)) R (by unfold does_;exact rfl) ?_;exact λh1 h2=>⟨RR,congrArg cnt (R.on8 64 [g] g h1 h2)⟩
 show"r" 46;·obtain⟨i,rfl⟩:=f1 (by decide) An;refine aaj (d:=does_ q (.best i)) R (by unfold does_;exact rfl) ?_;exact λ_=>adR R i
 show"r" 47;·rw[f0 An];refine jG (d:=does_ q (.governs)) (yr R)
 show"r" 48;·obtain⟨i,rfl⟩:=f1 (by decide) An;refine aaj (d:=does_ q (.look i)) R (by unfold does_;exact rfl) ?_;exact λ_=>⟨RR,adP R i⟩
 exact absurd Mq (ahS.mpr Ln)
def okP{p:Party}:okParty o p=true↔FW o.offices p:=by
 unfold okParty;simp only[afn,decide_eq_true_eq,beq_iff_eq,afj];constructor;·rintro⟨⟨⟨⟨⟨⟨⟨⟨⟨a,b⟩,c⟩,d⟩,e⟩,f⟩,g⟩,h⟩,i⟩,j⟩;exact⟨a,b,c,d,e,f,g,h,i,j⟩
 ·rintro⟨a,b,c,d,e,f,g,h,i,j⟩;exact⟨⟨⟨⟨⟨⟨⟨⟨⟨a,b⟩,c⟩,d⟩,e⟩,f⟩,g⟩,h⟩,i⟩,j⟩
def CA(q:Ks470.State)(d:Ks470.State×Ans)(r:Sm×Am):Prop:=(0<=r.2.headD 0/\∃o',d.1=Ks470.keep q o'/\Rel o' r.1/\Fq d.2=r.2)\/(r.2.headD 0<0/\d.1=q/\Fq d.2=r.2)
def CA.no(h:v<0):CA q (q,Ks470.no v) (M,[v]):=.inr ⟨h,RR,RR⟩
def mapIdx_set{α:Type}(f:α->α)(l:List α)(i:Nat)(d:α):(l.mapIdx λj p=>if j=i then f p else p)=l.set i (f (l.getD i d)):=by
 refine ahA (by simp) λk h1 h2=>?_;have hk:k<l.length:=by simpa using h1
 rw[List.getElem_mapIdx,List.getElem_set];by_cases e:k=i;·simp_all
 ·rw[if_neg e,if_neg (afA e)]
def ir{l:Ae}(h:i<l.length):(l.set i v).getD k 0=if i=k then v else l.getD k 0:=by grind
def Rel.gone(R:Rel o M):Rel {o with govern:=0,holders:=[]} (gone M):=⟨R.rule,R.off,R.par,RR,RR,R.rm,R.gO,R.lr,R.ln,R.hr,R.hn,R.good.gone⟩
def Rel.settle(R:Rel o M):Rel (Ks470.settle o) (BF M).1/\Fq (Ks470.no (if(o.govern !=0&&(Ks470.settle o).govern==0)=true then 1 else 0))=(BF M).2/\0<=(BF M).2.headD 0:=by
 unfold Ks470.settle BF;rw[R.Of,R.st];by_cases h:M.Af=0\/stands M M.Af=true
 ·have hc:(M.Af !=0&&!stands M M.Af)=false:=by
   rcases h with h|h;·rw[h];rfl
   ·rw[h];simp
  rw[hc,if_neg ae0,if_pos h];refine⟨R,?_,by show(0:Int)<=0;decide⟩;rw[R.Of];have:(M.Af !=0&&M.Af==0)=false:=by
   by_cases z:M.Af=0;·rw[z];rfl
   ·simp[z]
  rw[this];rfl
 ·have h1:M.Af≠0:=λz=>h (.inl z);have h2:stands M M.Af=false:=by
   cases hs:stands M M.Af with
   |false=>rfl
   |true=>exact absurd (.inr hs) h
  have hc:(M.Af !=0&&!stands M M.Af)=true:=by rw[h2];simp[h1]
  rw[hc,if_pos RR,if_neg h];refine⟨R.gone,?_,by show(0:Int)<=1;decide⟩;have:(M.Af !=0&&(0:Nat)==0)=true:=by simp[h1]
  rw[this];rfl
def mO(R:Rel o M)(hg:q.now.govern=o.govern):CA q (mood q o) (BF M):=by obtain⟨a,b,c⟩:=R.settle;refine .inl ⟨c,Ks470.settle o,RR,a,?_⟩;unfold mood;rw[hg];exact b
def Rel.xA(R:Rel o M)(hp:FW M.offices p):Rel {o with parties:=M.parties.set i p} (E3 M i p):=by
 have hl:(E3 M i p).nP=M.nP:=by show(M.parties.set i p).length=_;simp
 refine⟨R.rule,R.off,RR,R.Of,R.L0,?_,?_,?_,R.ln,?_,R.hn,R.good.E3 hp⟩;·intro a b ha hb;rw[hl]at ha hb;exact R.rm a b ha hb
 ·intro a b ha hb;rw[hl]at ha hb;exact R.gO a b ha hb
 ·rw[hl];exact R.lr
 ·rw[hl];exact R.hr
def i5(R:Rel q.now M)(f:Party->Party):(FW M.offices (f (pt M i))->CA q (Ks470.change q i f) (BF (E3 M i (f (pt M i)))))/\(¬FW M.offices (f (pt M i))->Ks470.change q i f=(q,Ks470.no (-22))):=by
 unfold Ks470.change;rw[j7 R];constructor
 ·intro h;have AU:=okP.mpr (by rw[R.off];exact h);rw[AU,if_neg (by decide)];have e:Ks470.setParty q.now i f={q.now with parties:=M.parties.set i (f (pt M i))}:=by unfold Ks470.setParty;rw[R.par,mapIdx_set f M.parties i {seats:=0,x:=0,y:=0,carex:=1,carey:=1,worth:=[]}];rfl
  rw[e];exact mO (R.xA h) RR
 ·intro h;have AU:okParty q.now (f (pt M i))=false:=by
   cases hc:okParty q.now (f (pt M i))with
   |false=>rfl
   |true=>exact absurd (by have:=okP.mp hc;rw[R.off]at this;exact this) h
  rw[AU,if_pos RR]
def yC(R:Rel q.now M)(hi:i<M.nP)(n:Nat):CA q (Ks470.change q i λp=>{p with seats:=n}) (CU M i n):=by
 have gp:=bU R.good hi;obtain⟨a,b⟩:=i5 R λp=>{p with seats:=n};unfold CU Bk;by_cases h:1<=n/\n<=200;·rw[if_pos (by simp[h])];exact a ⟨h.1,h.2,gp.x2,gp.y2,gp.c1,gp.c2,gp.d1,gp.d2,gp.wl,gp.w2⟩
 ·rw[if_neg (by simp;omega),b λg=>h ⟨g.s1,g.s2⟩];exact .no (by decide)
def yB(R:Rel q.now M)(hi:i<M.nP)(x y:Nat):CA q (Ks470.change q i λp=>{p with x:=x,y:=y}) (CT M i x y):=by
 have gp:=bU R.good hi;obtain⟨a,b⟩:=i5 R λp=>{p with x:=x,y:=y};unfold CT;by_cases h:x<=30/\y<=30;·rw[if_pos h];exact a ⟨gp.s1,gp.s2,h.1,h.2,gp.c1,gp.c2,gp.d1,gp.d2,gp.wl,gp.w2⟩
 ·rw[if_neg h,b λg=>h ⟨g.x2,g.y2⟩];exact .no (by decide)
def yE(R:Rel q.now M)(hi:i<M.nP)(x y:Nat):CA q (Ks470.change q i λp=>{p with carex:=x,carey:=y}) (CW M i x y):=by
 have gp:=bU R.good hi;obtain⟨a,b⟩:=i5 R λp=>{p with carex:=x,carey:=y};unfold CW;by_cases h:1<=x/\x<=5/\1<=y/\y<=5;·rw[if_pos h];exact a ⟨gp.s1,gp.s2,gp.x2,gp.y2,h.1,h.2.1,h.2.2.1,h.2.2.2,gp.wl,gp.w2⟩
 ·rw[if_neg h,b λg=>h ⟨g.c1,g.c2,g.d1,g.d2⟩];exact .no (by decide)
def fc:Bd l m=true↔l.length=m/\∀v∈l,v<=50:=by unfold Bd;simp
def yA(R:Rel q.now M)(hi:i<M.nP)(l:Ae):CA q (Ks470.change q i λp=>{p with worth:=l}) (CS M i l):=by
 have gp:=bU R.good hi;obtain⟨a,b⟩:=i5 R λp=>{p with worth:=l};unfold CS;by_cases h:Bd l M.offices=true;·rw[if_pos h];have h:=fc.mp h;exact a ⟨gp.s1,gp.s2,gp.x2,gp.y2,gp.c1,gp.c2,gp.d1,gp.d2,h.1,h.2⟩
 ·rw[if_neg h,b λg=>h (fc.mpr ⟨g.wl,g.w2⟩)];exact .no (by decide)
def Rel.aeX(R:Rel o M)(hp:FW M.offices p)(hn:M.nP≠5)(hc:M.Af=0):Rel {o with parties:=o.parties++[p]} (IF M p):=by
 have hl:(IF M p).nP=M.nP+1:=by show(M.parties++[p]).length=_;simp
 have ll:=R.good.ll;have Rr:=R.good.hl;have at0:∀{L:Ae}{a:Nat},L.length=M.nP->(L++[0]).getD a 0=L.getD a 0:=λ{L a} hL=>by
  rw[afB,afB];by_cases h:a<L.length;·rw[afs h]
  ·have hN:L[a]? =none:=afO (by omega);rw[afx (by omega),hN];cases a-L.length with
   |zero=>rfl
   |succ k=>rfl
 have out:∀{L:Ae}{a b:Nat},L.length=M.nP->(∀v∈L,v<2^M.nP)->¬(a<M.nP/\b<M.nP)->(L.getD a 0).testBit b=false:=λ{L a b} hL hb hn=>by
  by_cases h:a<M.nP
  ·have HD:M.nP<=b:=by omega
   have:=hb (L.getD a 0) (by rw[dq 0 (by omega)];exact agz _);exact agN (ae9 this (agf (by decide) HD))
  ·rw[afB,afO (by omega)];exact ahB b
 refine⟨R.rule,R.off,?_,R.Of,R.L0,?_,?_,?_,R.ln,?_,R.hn,R.good.IF hp hn hc⟩;·show o.parties++[p]=M.parties++[p];rw[R.par]
 ·intro a b ha hb;show((M.likes++[0]).getD a 0).testBit b=o.likes.contains (a,b);rw[at0 ll];by_cases h:a<M.nP/\b<M.nP;·exact R.rm a b h.1 h.2
  ·rw[out ll R.good.lb h,cy,decide_eq_false λz=>h (R.lr _ z)]
 ·intro a b ha hb;show((M.hates++[0]).getD a 0).testBit b=(o.hates.contains (a,b)||o.hates.contains (b,a));rw[at0 Rr];by_cases h:a<M.nP/\b<M.nP;·exact R.gO a b h.1 h.2
  ·rw[out Rr R.good.hb h,cy,cy,decide_eq_false λz=>h (R.hr _ z),decide_eq_false λz=>h ⟨(R.hr _ z).2,(R.hr _ z).1⟩];rfl
 ·intro x hx;rw[hl];have:=R.lr x hx;omega
 ·intro x hx;rw[hl];have:=R.hr x hx;omega
def yD(R:Rel q.now M)(n x y c d:Nat)(l:Ae):CA q (does_ q (.party n x y c d l)) (CV M n x y c d l):=by
 unfold does_ CV;simp only;have e5:PARTIES=5:=rfl;have hg:(Bk n=true/\(x<=30/\y<=30)/\1<=c/\c<=5/\1<=d/\d<=5)/\Bd l M.offices=true↔FW M.offices {seats:=n,x:=x,y:=y,carex:=c,carey:=d,worth:=l}:=by
  rw[fc];unfold Bk;simp only[afn,decide_eq_true_eq];constructor;·rintro⟨⟨⟨a1,a2⟩,⟨a3,a4⟩,a5,a6,a7,a8⟩,a9,a10⟩;exact⟨a1,a2,a3,a4,a5,a6,a7,a8,a9,a10⟩
  ·rintro⟨a1,a2,a3,a4,a5,a6,a7,a8,a9,a10⟩;exact⟨⟨⟨a1,a2⟩,⟨a3,a4⟩,a5,a6,a7,a8⟩,a9,a10⟩
 by_cases h:(Bk n=true/\(x<=30/\y<=30)/\1<=c/\c<=5/\1<=d/\d<=5)/\Bd l M.offices=true
 ·have AU:okParty q.now {seats:=n,x:=x,y:=y,carex:=c,carey:=d,worth:=l}=true:=okP.mpr (by rw[R.off];exact hg.mp h);rw[if_neg (by rw[AU];decide),if_pos h];by_cases h0:M.Af=0
  ·rw[if_neg (show¬q.now.govern≠0 by rw[R.Of];exact λz=>z h0),if_neg (show¬M.Af≠0 from λz=>z h0)];have Z5:=R.good.n5;by_cases h5:M.nP=5;·rw[if_pos (show PARTIES<=count q.now by rw[R.vw,e5];omega),if_pos h5];exact .no (by decide)
   ·rw[if_neg (show¬PARTIES<=count q.now by rw[R.vw,e5];omega),if_neg h5];exact .inl ⟨by show(0:Int)<=(M.nP:Int);omega,_,RR,R.aeX (hg.mp h) h5 h0,by rw[R.vw];rfl⟩
  ·rw[if_pos (show q.now.govern≠0 by rw[R.Of];exact h0),if_pos h0];exact .no (by decide)
 ·have AU:okParty q.now {seats:=n,x:=x,y:=y,carex:=c,carey:=d,worth:=l}=false:=by
   cases hc:okParty q.now {seats:=n,x:=x,y:=y,carex:=c,carey:=d,worth:=l}with
   |false=>rfl
   |true=>exact absurd (hg.mpr (by have:=okP.mp hc;rw[R.off]at this;exact this)) h
  rw[if_pos AU,if_neg h];exact .no (by decide)
def lV(c g:Nat):∀k,AE {M with Af:=c} g k=AE M g k
 |0=>rfl
 |k+1=>by unfold AE;rw[lV c g k];rfl
def xJ(c g:Nat):order {M with Af:=c} g=order M g:=lV c g _
def p9(c:Nat)(ord:Ae)(lk:Nat):∀(r:Nat)(tk:Ae),taken {M with Af:=c} ord lk r tk=taken M ord lk r tk
 |0,tk=>rfl
 |r+1,tk=>by rw[dC,dC];simp only[p9 c ord lk r];rfl
def z_(c g lk:Nat):hold {M with Af:=c} g lk=hold M g lk:=by unfold hold Df;rw[xJ,p9]
def Rel.formed(R:Rel o M)(h1:1<=g)(h2:g<=As M):Rel (formed o g) (CQ M g):=
 ⟨R.rule,R.off,R.par,RR,by show holdersOf o g=hold {M with Af:=g} g 0;rw[R.z8 (cC h1 h2)];exact(z_ g g 0).symm,R.rm,R.gO,R.lr,R.ln,R.hr,R.hn,R.good.install h1 h2⟩
def aaL(R:Rel q.now M)(h1:1<=g)(h2:g<=As M):CA q (if q.now.govern≠0 then(q,Ks470.no (-16))else if Ks470.stands q.now g=false then(q,Ks470.no (-33))else(Ks470.keep q (formed q.now g),({ret:=q.now.offices,out:=(formed q.now g).holders}:Ans))) (DC M g):=by
 unfold DC;rw[R.st,R.off];by_cases h0:M.Af=0
 ·rw[if_neg (show¬q.now.govern≠0 by rw[R.Of];exact λz=>z h0),if_neg (show¬M.Af≠0 from λz=>z h0)];cases hs:stands M g with
  |false=>exact .no (by decide)
  |true=>have F:=R.formed h1 h2;refine .inl ⟨by show(0:Int)<=(M.offices:Int);omega,_,RR,F,?_⟩;rw[F.L0];rfl
 ·rw[if_pos (show q.now.govern≠0 by rw[R.Of];exact h0),if_pos h0];exact .no (by decide)
def vy(R:Rel q.now M)(i:Nat):CA q (if q.now.govern.testBit i=false then(q,Ks470.no (-6))else if q.now.govern-2^i≠0/\Ks470.stands q.now (q.now.govern-2^i)=true then(Ks470.keep q (formed q.now (q.now.govern-2^i)),Ks470.no 0)else(Ks470.keep q {q.now with govern:=0,holders:=[]},Ks470.no 1)) (Ci M i):=by
 unfold Ci;rw[R.Of,R.st];cases hb:M.Af.testBit i with
 |false=>exact .no (by decide)
 |true=>
  rw[if_neg (by decide),if_pos RR];cases hs:stands M (M.Af-2^i)with
  |false=>rw[if_neg (by simp),if_neg ae0];exact .inl ⟨by show(0:Int)<=1;decide,_,RR,R.gone,RR⟩
  |true=>have h1:=jt hs;rw[if_pos ⟨by omega,RR⟩,if_pos RR];have:=dF M;have hc:=R.good.cb;have h2:M.Af-2^i<=As M:=afe (ag3 ..) (by omega);exact .inl ⟨by show(0:Int)<=0;decide,_,RR,R.formed h1 h2,RR⟩
def vx(R:Rel q.now M):CA q (if q.now.govern=0 then(q,Ks470.no (-6))else(Ks470.keep q {q.now with govern:=0,holders:=[]},Ks470.no q.now.govern)) (Cg M):=by
 unfold Cg;rw[R.Of];by_cases h:M.Af=0;·rw[if_pos h,if_pos h];exact .no (by decide)
 ·rw[if_neg h,if_neg h];exact .inl ⟨by grind,_,RR,R.gone,RR⟩
def acb:((List.range 32).all λa=>(List.range 5).all λj=>(List.range 5).all λk=>(L7 a j).testBit k==(a.testBit k&&!(k==j)))=true:=by decide+kernel
def kG(ha:a<32)(hj:j<5)(hk:k<5):(L7 a j).testBit k=(a.testBit k&&!(k==j)):=by have h:=afj.mp (afj.mp (afj.mp acb a (afD.mpr ha)) j (afD.mpr hj)) k (afD.mpr hk);exact beq_iff_eq.mp h
def uK(a j k:Nat):(a||| 2^j).testBit k=(a.testBit k||(j==k)):=by rw[Nat.testBit_or,Nat.testBit_two_pow];rfl
def nF{l:List (Nat×Nat)}:(a,b)∈l.map Prod.swap↔(b,a)∈l:=by
 rw[afw];constructor;·grind
 ·intro h;exact⟨(b,a),h,RR⟩
def fi(i j:Nat):Ks464.hate (house o) i j=decide ((i,j)∈o.hates\/(j,i)∈o.hates):=by unfold Ks464.hate house;simp_all
def Rel.aeY(R:Rel o M)(hi:i<M.nP)(hj:j<M.nP)(hc:(i,j)∉o.likes):Rel {o with likes:=o.likes++[(i,j)]} (DI M i (M.likes.getD i 0||| 2^j)):=by
 refine⟨R.rule,R.off,R.par,R.Of,R.L0,λa b ha hb=>?_,R.gO,λx hx=>?_,?_,R.hr,R.hn,R.good.rm (sR (R.good.lg hi) hj)⟩
 ·show((M.likes.set i (M.likes.getD i 0||| 2^j)).getD a 0).testBit b=(o.likes++[(i,j)]).contains (a,b);rw[ir (by rw[R.good.ll];exact hi),cy];have h0:=R.rm a b ha hb;rw[cy]at h0;by_cases e:i=a
  ·subst e;rw[if_pos RR,uK,h0,afb];simp;constructor
   ·rintro(h|h);·exact .inl h
    ·exact .inr h.symm
   ·rintro(h|h);·exact .inl h
    ·exact .inr h.symm
  ·rw[if_neg e,h0,afb];simp;intro z;exact absurd z.symm e
 ·rcases afE.mp hx with h|h;·exact R.lr x h
  ·rw[afm.mp h];exact⟨hi,hj⟩
 ·rw[agu];exact⟨R.ln,by simp,λa ha b hb=>by rw[afm.mp hb];exact λz=>hc (z▸ha)⟩
def qt(hl:M.hates.length=M.nP)(hi:i<M.nP)(hj:j<M.nP)(f:Nat->Nat->Nat)(a:Nat):(EW M i j f).hates.getD a 0=if j=a then f (if i=j then f (M.hates.getD i 0) j else M.hates.getD j 0) i else if i=a then f (M.hates.getD i 0) j else M.hates.getD a 0:=by show((M.hates.set i (f (M.hates.getD i 0) j)).set j (f ((M.hates.set i (f (M.hates.getD i 0) j)).getD j 0) i)).getD a 0=_;rw[ir (by simp;omega),ir (by omega),ir (by omega)]
def Rel.aeZ(R:Rel o M)(hi:i<M.nP)(hj:j<M.nP)(AW:i≠j)(hc:¬((i,j)∈o.hates\/(j,i)∈o.hates))(hg:Good (EW M i j λa k=>a||| 2^k)):Rel {o with hates:=o.hates++[(i,j)]} (EW M i j λa k=>a||| 2^k):=by
 refine⟨R.rule,R.off,R.par,R.Of,R.L0,R.rm,λa b ha hb=>?_,R.lr,R.ln,λx hx=>?_,?_,hg⟩
 ·have ha:a<M.nP:=ha;have hb:b<M.nP:=hb;rw[fi,qt R.good.hl hi hj];have h0:=R.gO a b ha hb;have h1:=R.gO j b hj hb;have h2:=R.gO i b hi hb;rw[fi]at h0 h1 h2;show _=decide ((a,b)∈o.hates++[(i,j)]\/(b,a)∈o.hates++[(i,j)]);by_cases e:j=a
  ·subst e;rw[if_pos RR,if_neg AW,uK,h1,afb];simp;constructor
   ·rintro((h|h)|h);·exact .inl (.inl h)
    ·exact .inr (.inl h)
    ·exact .inr (.inr h.symm)
   ·rintro((h|h)|(h|h));·exact .inl (.inl h)
    ·exact absurd h.1.symm AW
    ·exact .inl (.inr h)
    ·exact .inr h.symm
  ·rw[if_neg e];by_cases e2:i=a
   ·subst e2;rw[if_pos RR,uK,h2,afb];simp;constructor
    ·rintro((h|h)|h);·exact .inl (.inl h)
     ·exact .inr (.inl h)
     ·exact .inl (.inr h.symm)
    ·rintro((h|h)|(h|h));·exact .inl (.inl h)
     ·exact .inr h.symm
     ·exact .inl (.inr h)
     ·exact absurd h.2.symm e
   ·rw[if_neg e2,h0,afb];simp;constructor
    ·rintro(h|h);·exact .inl (.inl h)
     ·exact .inr (.inl h)
    ·rintro((h|h)|(h|h));·exact .inl h
     ·exact absurd h.1.symm e2
     ·exact .inr h
     ·exact absurd h.2.symm e
 ·rcases afE.mp hx with h|h;·exact R.hr x h
  ·rw[afm.mp h];exact⟨hi,hj⟩
 ·show((o.hates++[(i,j)])++(o.hates++[(i,j)]).map Prod.swap).Nodup;have e:((o.hates++[(i,j)])++(o.hates++[(i,j)]).map Prod.swap).Perm ((o.hates++o.hates.map Prod.swap)++[(i,j),(j,i)]):=by rw[afK];show((o.hates++[(i,j)])++(o.hates.map Prod.swap++[(j,i)])).Perm _;rw[agv,agv];refine List.Perm.append_left _ ?_;rw[<-agv];show([(i,j)]++o.hates.map Prod.swap++[(j,i)]).Perm (o.hates.map Prod.swap++([(i,j)]++[(j,i)]));rw[<-agv];exact List.Perm.append_right _ List.perm_append_comm
  rw[e.nodup_iff,agu];refine⟨R.hn,by simp;intro z;exact absurd z AW,λa ha b hb=>?_⟩;rintro rfl;simp only[ae5,afQ,or_false]at hb;rcases afE.mp ha with h|h
  ·rcases hb with rfl|rfl;·exact hc (.inl h)
   ·exact hc (.inr h)
  ·rcases hb with rfl|rfl;·exact hc (.inr (nF.mp h))
   ·exact hc (.inl (nF.mp h))
def wA(G:Good M)(hi:i<M.nP)(hj:j<M.nP)(hf:∀a k,a<2^M.nP->k<M.nP->f a k<2^M.nP):Good (EW M i j f):=by have g1:Good (GK M i (f (M.hates.getD i 0) j)):=G.gO (hf _ _ (G.il hi) hj);exact g1.gO (hf _ _ (g1.il hj) hi)
def aaJ(R:Rel q.now M)(hi:i<M.nP)(hj:j<M.nP):CA q (if i=j then(q,Ks470.no (-22))else if q.now.likes.contains (i,j)=true then(q,Ks470.no (-17))else mood q {q.now with likes:=q.now.likes++[(i,j)]}) (DA M i j):=by
 unfold DA;by_cases e:i=j;·rw[if_pos e,if_pos e];exact .no (by decide)
 ·rw[if_neg e,if_neg e,R.rm i j hi hj];by_cases c:q.now.likes.contains (i,j)=true;·rw[if_pos c,if_pos c];exact .no (by decide)
  ·rw[if_neg c,if_neg c];exact mO (R.aeY hi hj λz=>c (by rw[cy];exact decide_eq_true z)) RR
def aaK(R:Rel q.now M)(hi:i<M.nP)(hj:j<M.nP):CA q (if i=j then(q,Ks470.no (-22))else if Ks464.hate (house q.now) i j=true then(q,Ks470.no (-17))else mood q {q.now with hates:=q.now.hates++[(i,j)]}) (DB M i j):=by
 unfold DB;by_cases e:i=j;·rw[if_pos e,if_pos e];exact .no (by decide)
 ·rw[if_neg e,if_neg e,R.gO i j hi hj];by_cases c:Ks464.hate (house q.now) i j=true;·rw[if_pos c,if_pos c];exact .no (by decide)
  ·rw[if_neg c,if_neg c];rw[fi,decide_eq_true_eq]at c;exact mO (R.aeZ hi hj e c (wA R.good hi hj λa k h1 h2=>sR h1 h2)) RR
def Rel.del(R:Rel o M)(hi:i<M.nP)(hj:j<M.nP):Rel {o with likes:=o.likes.filter (λx=>x !=(i,j)),hates:=o.hates.filter (λx=>x !=(i,j)&&x !=(j,i))} (EW (DI M i (L7 (M.likes.getD i 0) j)) i j L7):=by
 have Z5:=R.good.n5;have p32:2^M.nP<=32:=kZ R.good;have gl:Good (DI M i (L7 (M.likes.getD i 0) j)):=R.good.rm (lG (R.good.lg hi));have Bz:∀{a},a<M.nP->M.hates.getD a 0<32:=λh=>ae9 (R.good.il h) p32;refine⟨R.rule,R.off,R.par,R.Of,R.L0,λa b ha hb=>?_,λa b ha hb=>?_,λx hx=>R.lr x (afp.mp hx).1,R.ln.filter _,λx hx=>R.hr x (afp.mp hx).1,?_,wA gl hi hj λa k h1 h2=>lG h1⟩
 ·have ha:a<M.nP:=ha;have hb:b<M.nP:=hb;show((M.likes.set i (L7 (M.likes.getD i 0) j)).getD a 0).testBit b=(o.likes.filter λx=>x !=(i,j)).contains (a,b);rw[ir (by rw[R.good.ll];exact hi),cy];have h0:=R.rm a b ha hb;rw[cy]at h0;by_cases e:i=a;·subst e;rw[if_pos RR,kG (ae9 (R.good.lg hi) p32) (by omega) (by omega),h0,afb];simp
  ·rw[if_neg e,h0,afb];simp;intro _;omega
 ·have ha:a<M.nP:=ha;have hb:b<M.nP:=hb;rw[fi,qt (M:=DI M i (L7 (M.likes.getD i 0) j)) R.good.hl hi hj];show(if j=a then L7 (if i=j then L7 (M.hates.getD i 0) j else M.hates.getD j 0) i else if i=a then L7 (M.hates.getD i 0) j else M.hates.getD a 0).testBit b=decide ((a,b)∈o.hates.filter (λx=>x !=(i,j)&&x !=(j,i))\/(b,a)∈o.hates.filter (λx=>x !=(i,j)&&x !=(j,i)));have h0:=R.gO a b ha hb;rw[fi]at h0;have fin:∀c:Bool,c=decide (((a,b)∈o.hates\/(b,a)∈o.hates)/\¬(a=i/\b=j)/\¬(a=j/\b=i))->c=decide ((a,b)∈o.hates.filter (λx=>x !=(i,j)&&x !=(j,i))\/(b,a)∈o.hates.filter (λx=>x !=(i,j)&&x !=(j,i))):=λc hc=>by
   rw[hc,afb];simp only[afp,decide_eq_true_eq,afn,bne_iff_ne,ne_eq,Prod.mk.injEq];constructor
   ·rintro⟨h|h,n1,n2⟩;·exact .inl ⟨h,n1,n2⟩
    ·exact .inr ⟨h,λz=>n2 ⟨z.2,z.1⟩,λz=>n1 ⟨z.2,z.1⟩⟩
   ·rintro(⟨h,n1,n2⟩|⟨h,n1,n2⟩);·exact⟨.inl h,n1,n2⟩
    ·exact⟨.inr h,λz=>n2 ⟨z.2,z.1⟩,λz=>n1 ⟨z.2,z.1⟩⟩
  refine fin _ ?_;by_cases e:j=a
  ·subst e;rw[if_pos RR];by_cases e2:i=j;·subst e2;rw[if_pos RR,kG (lG (Bz hi)) (by omega) (by omega),kG (Bz hi) (by omega) (by omega),h0,afb];simp
   ·rw[if_neg e2,kG (Bz hj) (by omega) (by omega),h0,afb];simp;intro _;omega
  ·rw[if_neg e];by_cases e2:i=a;·subst e2;rw[if_pos RR,kG (Bz hi) (by omega) (by omega),h0,afb];simp;intro _;omega
   ·rw[if_neg e2,h0,afb];simp;intro _;omega
 ·exact R.hn.sublist (List.Sublist.append List.filter_sublist (List.filter_sublist.map _))
def vz(R:Rel q.now M)(hi:i<M.nP)(hj:j<M.nP):CA q (if q.now.likes.filter (λx=>x !=(i,j))=q.now.likes/\q.now.hates.filter (λx=>x !=(i,j)&&x !=(j,i))=q.now.hates then(q,Ks470.no (-6))else mood q {q.now with likes:=q.now.likes.filter (λx=>x !=(i,j)),hates:=q.now.hates.filter (λx=>x !=(i,j)&&x !=(j,i))}) (Cj M i j):=by
 unfold Cj;have h1:=R.rm i j hi hj;have h2:=R.gO i j hi hj;rw[cy]at h1;rw[fi]at h2;rw[Nat.testBit_or,h1,h2];by_cases c:q.now.likes.filter (λx=>x !=(i,j))=q.now.likes/\q.now.hates.filter (λx=>x !=(i,j)&&x !=(j,i))=q.now.hates
 ·rw[if_pos c,afV,afV]at*;have a1:(i,j)∉q.now.likes:=λz=>by have:=c.1 _ z;simp at this
  have a2:¬((i,j)∈q.now.hates\/(j,i)∈q.now.hates):=λz=>by
   rcases z with z|z;·have:=c.2 _ z;simp at this
   ·have:=c.2 _ z;simp at this
  rw[decide_eq_false a1,decide_eq_false a2,if_neg (by decide)];exact .no (by decide)
 ·rw[if_neg c];have:(decide ((i,j)∈q.now.likes)||decide ((i,j)∈q.now.hates\/(j,i)∈q.now.hates))=true:=by
   rw[ahG,decide_eq_true_eq,decide_eq_true_eq];apply af0;intro n;refine c ⟨afV.mpr λx hx=>?_,afV.mpr λx hx=>?_⟩;·rw[bne_iff_ne];rintro rfl;exact n (.inl hx)
   ·rw[afn,bne_iff_ne,bne_iff_ne];exact⟨by rintro rfl;exact n (.inr (.inl hx)),by rintro rfl;exact n (.inr (.inr hx))⟩
  rw[this,if_pos RR];exact mO (R.del hi hj) RR
def tj{α β:Type}(f:α->List β)(p:β->Bool):∀l:List α,((l.flatMap f).filter p).length=(l.map λa=>((f a).filter p).length).sum
 |[]=>rfl
 |a::l=>by rw[af3,agL,afg,tj f p l,afq,agH]
def wD(hL:L.length=M.nP)(p:Nat×Nat->Bool)(h:∀a b,a<M.nP->b<M.nP->(L.getD a 0).testBit b=p (a,b)):Nb M L=((Ah M).filter p).length:=by
 unfold Ah Dh;rw[tj];unfold Nb;have e:L=(List.range M.nP).map λa=>L.getD a 0:=by rw[<-hL];exact(fg L).symm
 conv=>lhs;rw[e,afr]
 congr 1;refine afy λa ha=>?_;have ha:=afD.mp ha;unfold CB;rw[ag8,ae1];show(mem M (L.getD a 0)).length=_;congr 1;exact aK λb hb=>h a b ha (afD.mp hb)
def sJ{α:Type}{l t:List α}[DecidableEq α](h1:l.Nodup)(h2:t.Nodup)(h:∀x,x∈l↔x∈t):l.length=t.length:=Nat.le_antisymm (fE h1 λx hx=>(h x).mp hx) (fE h2 λx hx=>(h x).mpr hx)
def Rel.xX(R:Rel o M):Nb M M.likes=o.likes.length:=by rw[wD R.good.ll (λc=>decide (c∈o.likes)) λa b ha hb=>by rw[R.rm a b ha hb,cy]];refine sJ ((dk M _).filter _) R.ln λx=>?_;rw[afp,decide_eq_true_eq];exact⟨λh=>h.2,λh=>⟨bb.mpr (R.lr x h),h⟩⟩
def Rel.ye(R:Rel o M):Nb M M.hates / 2=o.hates.length:=by
 have e:Nb M M.hates=(o.hates++o.hates.map Prod.swap).length:=by
  rw[wD R.good.hl (λc=>decide (c∈o.hates\/(c.2,c.1)∈o.hates)) λa b ha hb=>by rw[R.gO a b ha hb,fi]];refine sJ ((dk M _).filter _) R.hn λx=>?_;rw[afp,decide_eq_true_eq,afE,nF];constructor;·exact λh=>h.2
  ·intro h;refine⟨bb.mpr ?_,h⟩;rcases h with h|h;·exact R.hr _ h
   ·exact⟨(R.hr _ h).2,(R.hr _ h).1⟩
 rw[e,afg,ae1];omega
inductive D4:List Hall->List Sm->Prop
 |nil:D4 [] []
 |cons {o:Hall}{M:Sm}{l:List Hall}{t:List Sm}:Rel o M->D4 l t->D4 (o::l) (M::t)
def D4.len(h:D4 l t):l.length=t.length:=by
 induction h with
 |nil=>rfl
 |cons _ _ ih=>simp[ih]
def D4.take(h:D4 l t):∀n,D4 (l.take n) (t.take n):=by
 induction h with
 |nil=>intro n;simp;exact .nil
 |cons a _ ih=>intro n;cases n with
  |zero=>exact .nil
  |succ n=>exact .cons a (ih n)
inductive Ig:Option Ks470.State->Dm->Prop
 |none:Ig none ⟨none,[],[]⟩
 |some {q:Ks470.State}{D:Dm}{M:Sm}:D.cur=some M->Rel q.now M->D4 q.was D.was.reverse->D4 q.undone D.later.reverse->D.was.length+D.later.length<=16->Ig (some q) D
def aaH(hM:D.cur=some M)(R:Rel q.now M)(hw:D4 q.was D.was.reverse)(hl:D4 q.undone D.later.reverse)(hle:D.was.length+D.later.length<=16)(h:CA q d r):Ig (some d.1) (DD D M r).1/\Fq d.2=(DD D M r).2:=by
 unfold DD;rcases h with⟨h0,o',e,R',ea⟩|⟨h0,e,ea⟩
 ·rw[if_pos h0,e];refine⟨.some RR R' ?_ .nil ?_,ea⟩
  ·have e1:((D.was++[M]).drop (D.was.length+1-16)).reverse=(M::D.was.reverse).take 16:=by have:=List.take_reverse (xs:=D.was++[M]) (i:=16);rw[afg]at this;rw[show D.was.length+1-16=D.was.length+[M].length-16 from rfl,<-this,ahb];rfl
   rw[e1];exact(D4.cons R hw).take 16
  ·simp;omega
 ·rw[if_neg (by omega),e];exact⟨.some hM R hw hl hle,ea⟩
def sN{t:List Sm}(h:l.reverse=N::t):l=t.reverse++[N]:=by simp_all
def yM(hM:D.cur=some M)(R:Rel q.now M)(hw:D4 q.was D.was.reverse)(hl:D4 q.undone D.later.reverse)(hle:D.was.length+D.later.length<=16):Ig (some (does_ q .back_).1) (IB D M).1/\Fq (does_ q .back_).2=(IB D M).2:=by
 unfold IB;have e:does_ q .back_=match q.was with|[]=>(q,Ks470.no (-6))|o::l=>({now:=o,was:=l,undone:=q.now::q.undone},Ks470.no l.length):=by unfold does_;rfl
 rw[e];cases hq:q.was with
 |nil=>
  rw[hq]at hw;have:D.was=[]:=by have:=hw.len;rw[af9]at this;exact afI.mp this.symm
  have fin:Ig (some q) D:=.some hM R (by rw[hq,this];exact .nil) hl hle;rw[this];exact⟨fin,RR⟩
 |cons o l=>
  rw[hq]at hw;generalize hr:D.was.reverse=W at hw;cases hw with
  |cons RN hw'=>
   rename_i N t;have eW:=sN hr;rw[eW,List.getLast?_append];simp only[ahw,Option.some_or,List.dropLast_concat];have hlen:=hw'.len;rw[eW]at hle;simp at hle;refine⟨.some RR RN ?_ ?_ ?_,?_⟩;·show D4 l t.reverse.reverse;rw[List.reverse_reverse];exact hw'
   ·rw[ahb];exact .cons R hl
   ·simp;omega
   ·show[(l.length:Int)]=[(t.reverse.length:Int)];rw[af9,hlen]
def vM(hM:D.cur=some M)(R:Rel q.now M)(hw:D4 q.was D.was.reverse)(hl:D4 q.undone D.later.reverse)(hle:D.was.length+D.later.length<=16):Ig (some (does_ q .again).1) (FU D M).1/\Fq (does_ q .again).2=(FU D M).2:=by
 unfold FU;have e:does_ q .again=match q.undone with|[]=>(q,Ks470.no (-6))|o::l=>({now:=o,was:=(q.now::q.was).take Ks470.KEPT,undone:=l},Ks470.no l.length):=by unfold does_;rfl
 rw[e];cases hq:q.undone with
 |nil=>
  rw[hq]at hl;have:D.later=[]:=by have:=hl.len;rw[af9]at this;exact afI.mp this.symm
  have fin:Ig (some q) D:=.some hM R hw (by rw[hq,this];exact .nil) hle;rw[this];exact⟨fin,RR⟩
 |cons o l=>
  rw[hq]at hl;generalize hr:D.later.reverse=W at hl;cases hl with
  |cons RN hl'=>
   rename_i N t;have eW:=sN hr;rw[eW,List.getLast?_append];simp only[ahw,Option.some_or,List.dropLast_concat];have hlen:=hl'.len;have TZ:=hw.len;rw[af9]at TZ;rw[eW]at hle;simp at hle;refine⟨.some RR RN ?_ ?_ ?_,?_⟩;·show D4 ((q.now::q.was).take 16) (D.was++[M]).reverse;rw[agj (by simp;omega),ahb];exact .cons R hw
   ·show D4 l t.reverse.reverse;rw[List.reverse_reverse];exact hl'
   ·simp;omega
   ·show[(l.length:Int)]=[(t.reverse.length:Int)];rw[af9,hlen]
def xo(R:Rel q.now M)(hw:D4 q.was D.was.reverse)(hl:D4 q.undone D.later.reverse):Fq (does_ q .state).2=K7 D M:=by
 have h1:=hw.len;have h2:=hl.len;rw[af9]at h1 h2;have e:does_ q .state=(q,{ret:=count q.now,out:=[q.now.rule,q.now.offices,q.now.likes.length,q.now.hates.length,q.now.govern,q.was.length,q.undone.length]}):=by rfl
 rw[e,R.vw,R.rule,R.off,R.Of,<-R.xX,<-R.ye,h1,h2];rfl
def abe(h:r<=2/\1<=m/\m<=5):Rel {rule:=r,offices:=m,parties:=[],likes:=[],hates:=[],govern:=0,holders:=[]} (JD r m):=
 ⟨RR,RR,RR,RR,RR,λi j h1=>absurd h1 (ag7 _),λi j h1=>absurd h1 (ag7 _),λx hx=>(by cases hx),ahN,λx hx=>(by cases hx),ahN,tK h⟩
def vH(h:Ig s D)(r m:Nat):Ig (act s (.begin_ r m)).1 (GV D r m).1/\[(act s (.begin_ r m)).2.ret]=(GV D r m).2:=by
 have eO:Ks470.OFFICES=5:=rfl;unfold GV;by_cases c:r<=2/\1<=m/\m<=5
 ·have eb:begin_ r m=some {now:={rule:=r,offices:=m,parties:=[],likes:=[],hates:=[],govern:=0,holders:=[]},was:=[],undone:=[]}:=by unfold begin_;rw[eO,if_pos c]
  rw[if_pos c];have fin:Ig (some {now:={rule:=r,offices:=m,parties:=[],likes:=[],hates:=[],govern:=0,holders:=[]},was:=[],undone:=[]}) ⟨some (JD r m),[],[]⟩:=.some RR (abe c) .nil .nil (by show 0<=16;decide);cases h with
  |none=>unfold act;simp only[eb];exact⟨fin,RR⟩
  |some a b c' d e=>unfold act does_;simp only[eb];exact⟨fin,RR⟩
 ·have eb:begin_ r m=none:=by unfold begin_;rw[eO,if_neg c]
  rw[if_neg c];cases h with
  |none=>unfold act;simp only[eb];exact⟨.none,RR⟩
  |some a b c' d e=>unfold act does_;simp only[eb];exact⟨.some a b c' d e,RR⟩
def RQ(q:Ks470.State)(M:Sm)(kd:Ae)(ys:List Vl)(d:Ks470.State×Ans)(r:Sm×Am):Prop:=(Ar M kd ys=true/\d=(q,Ks470.no (-2)))\/(Ar M kd ys=false/\CA q d r)
def aaV(R:Rel q.now M)(hd:d=Ks470.there q i f)(hk:Ar M kd ys=!decide (i<M.nP))(h:i<M.nP->CA q (f ()) r):RQ q M kd ys d r:=by
 rw[mZ R]at hd;by_cases e:i<M.nP;·rw[if_pos e]at hd;rw[hd];exact .inr ⟨by rw[hk,decide_eq_true e];rfl,h e⟩
 ·rw[if_neg e]at hd;exact .inl ⟨by rw[hk,decide_eq_false e];rfl,hd⟩
def aaU(R:Rel q.now M)(hd:d=both q i j f)(h:i<M.nP->j<M.nP->CA q (f ()) r):RQ q M [105,105] [.num i,.num j] d r:=by
 rw[both_eq R]at hd;have hk:Ar M [105,105] [.num i,.num j]=!decide (i<M.nP/\j<M.nP):=by rw[k9,k9,cB,agw,Bool.decide_and,Bool.not_and]
 by_cases e:i<M.nP/\j<M.nP;·rw[if_pos e]at hd;rw[hd];exact .inr ⟨by rw[hk,decide_eq_true e];rfl,h e.1 e.2⟩
 ·rw[if_neg e]at hd;exact .inl ⟨by rw[hk,decide_eq_false e];rfl,hd⟩
def aeS(R:Rel q.now M)(hd:d=some_ q t f)(h:1<=t->t<=As M->CA q (f ()) r):RQ q M [115] [.num t] d r:=by
 rw[mK R]at hd;have hk:Ar M [115] [.num t]=!decide (1<=t/\t<=As M):=by rw[abH,cB,agw]
 by_cases e:1<=t/\t<=As M;·rw[if_pos e]at hd;rw[hd];exact .inr ⟨by rw[hk,decide_eq_true e];rfl,h e.1 e.2⟩
 ·rw[if_neg e]at hd;exact .inl ⟨by rw[hk,decide_eq_false e];rfl,hd⟩
def aeE(hk:Ar M kd ys=false)(h:CA q d r):RQ q M kd ys d r:=.inr ⟨hk,h⟩
def vO(l:Ae):nats (zs l)=l:=by unfold nats zs;rw[afr];exact(afy λx _=>rfl).trans (List.map_id l)
def aaI(R:Rel q.now M)(Ln:1<=p)(Mq:p<=11)(hk:By[p]? =some kd)(An:BI kd ys):∃d,Ks470Neutral.step (some q) (C8 p ys)=D5 d/\RQ q M kd ys d (Nf p M ys):=by
 show"r" 1
 ·obtain⟨n,y1,rfl,h1⟩:=fN (by decide) An;obtain⟨x,y2,rfl,h2⟩:=fN (by decide) h1;obtain⟨y,y3,rfl,h3⟩:=fN (by decide) h2;obtain⟨c,y4,rfl,h4⟩:=fN (by decide) h3;obtain⟨e,y5,rfl,h5⟩:=fN (by decide) h4;obtain⟨l,y6,rfl,h6⟩:=fW h5;rw[f0 h6];refine⟨does_ q (.party n x y c e (nats (zs l))),RR,aeE ?_ ?_⟩;·rw[k8,k8,k8,k8,k8,aes,cB]
  ·rw[vO];exact yD R n x y c e l
 show"r" 2;·obtain⟨i,n,rfl⟩:=f2 (by decide) (by decide) An;refine⟨does_ q (.seats i n),RR,aaV R (by unfold does_;exact rfl) (by rw[k9,k8,cB,agw]) λhi=>yC R hi n⟩
 show"r" 3;·obtain⟨i,x,y,rfl⟩:=f3 (by decide) (by decide) (by decide) An;refine⟨does_ q (.wants i x y),RR,aaV R (by unfold does_;exact rfl) (by rw[k9,k8,k8,cB,agw]) λhi=>yB R hi x y⟩
 show"r" 4;·obtain⟨i,x,y,rfl⟩:=f3 (by decide) (by decide) (by decide) An;refine⟨does_ q (.cares i x y),RR,aaV R (by unfold does_;exact rfl) (by rw[k9,k8,k8,cB,agw]) λhi=>yE R hi x y⟩
 show"r" 5;·obtain⟨i,y1,rfl,h1⟩:=fN (by decide) An;obtain⟨l,y6,rfl,h6⟩:=fW h1;rw[f0 h6];refine⟨does_ q (.worth i (nats (zs l))),RR,?_⟩;rw[vO];exact aaV R (by unfold does_;exact rfl) (by rw[k9,aes,cB,agw]) λhi=>yA R hi l
 show"r" 6;·obtain⟨i,j,rfl⟩:=f2 (by decide) (by decide) An;refine⟨does_ q (.like i j),RR,aaU R (by unfold does_;exact rfl) ?_⟩;exact λhi hj=>aaJ R hi hj
 show"r" 7;·obtain⟨i,j,rfl⟩:=f2 (by decide) (by decide) An;refine⟨does_ q (.hate i j),RR,aaU R (by unfold does_;exact rfl) ?_⟩;exact λhi hj=>aaK R hi hj
 show"r" 8;·obtain⟨i,j,rfl⟩:=f2 (by decide) (by decide) An;refine⟨does_ q (.forget i j),RR,aaU R (by unfold does_;exact rfl) ?_⟩;exact λhi hj=>vz R hi hj
 show"r" 9;·obtain⟨g,rfl⟩:=f1 (by decide) An;refine⟨does_ q (.form g),RR,aeS R (by unfold does_;exact rfl) ?_⟩;exact λh1 h2=>aaL R h1 h2
 show"r" 10;·obtain⟨i,rfl⟩:=f1 (by decide) An;refine⟨does_ q (.leaves i),RR,aaV R (by unfold does_;exact rfl) (by rw[k9,cB,agw]) ?_⟩;exact λ_=>vy R i
 show"r" 11;·rw[f0 An];refine⟨does_ q .resign,RR,aeE cB ?_⟩;unfold does_;exact vx R
 exact absurd Mq (ahS.mpr Ln)
def xN(h0:p≠0)(hp:p<50):Ks470Neutral.step none (C8 p ys)=(none,[-61]):=by
 have h:=Nat.pos_of_ne_zero h0;iterate 49
  rcases adJ _ h with rfl|h;·kernel_rfl
 exact absurd hp (Nat.not_lt.mpr h)
def step_eq(h:Ig s D)(hp:p<50)(hk:By[p]? =some kd)(An:BI kd ys):Ig (Ks470Neutral.step s (C8 p ys)).1 (BY D p ys).1/\(Ks470Neutral.step s (C8 p ys)).2=(BY D p ys).2:=by
 have Va:By.getD p []=kd:=by rw[afB,hk];rfl
 by_cases h0:p=0;·subst h0;cases ae2 hk;obtain⟨r,m,rfl⟩:=f2 (by decide) (by decide) An;exact vH h r m
 unfold BY;rw[if_neg h0,Va];cases h with
 |none=>rw[xN h0 hp];exact⟨.none,RR⟩
 |some hM R hw hl hle=>
  rename_i q M;rw[hM];simp only;by_cases h12:p=12;·subst h12;cases ae2 hk;rw[f0 An,cB,if_neg ae0,if_pos RR];exact yM hM R hw hl hle
  by_cases h13:p=13;·subst h13;cases ae2 hk;exact vM hM R hw hl hle
  by_cases h49:p=49;·subst h49;cases ae2 hk;exact⟨.some hM R hw hl hle,xo R hw hl⟩
  rw[if_neg h12,if_neg h13,if_neg h49];by_cases hc:1<=p/\p<=11
  ·rw[if_pos hc];obtain⟨d,ed,hd⟩:=aaI R hc.1 hc.2 hk An;rw[ed];rcases hd with⟨hn,e⟩|⟨hn,e⟩;·rw[hn,if_pos RR,e];exact⟨.some hM R hw hl hle,RR⟩
   ·rw[hn,if_neg ae0];exact aaH hM R hw hl hle e
  ·rw[if_neg hc,aaY R (by omega) (by omega) hk An];by_cases hn:Ar M kd ys=true;·rw[if_pos hn,if_pos hn];exact⟨.some hM R hw hl hle,RR⟩
   ·rw[if_neg hn,if_neg hn];exact⟨.some hM R hw hl hle,RR⟩
def Mv:List (Nat×Nat):=By.map λkd=>((kd.filter λc=>c !=119).length,(kd.filter λc=>c==119).length)
def xy:((List.range 50).all λi=>PyKs470.shape (i:Int)==Mv[i]?)=true:=by decide+kernel
def xY:(By.all λkd=>(kd.take (kd.filter λc=>c !=119).length).all (λc=>c !=119)&&kd.drop (kd.filter λc=>c !=119).length==List.replicate (kd.filter λc=>c==119).length 119&&decide ((kd.filter λc=>c==119).length<=1))=true:=by decide+kernel
def uD{p:Nat}(h:50<=p):PyKs470.shape (p:Int)=none:=by unfold PyKs470.shape;repeat rw[if_neg (by omega)]
def sI{p:Nat}(h:PyKs470.shape (p:Int)=some (n,kk)):∃kd A,By[p]? =some kd/\kd=A++List.replicate kk 119/\A.length=n/\(∀c∈A,c≠119)/\kk<=1:=by
 have hp:p<50:=by apply af0;intro c;rw[uD (by omega)]at h;cases h
 have h1:=beq_iff_eq.mp (afj.mp xy p (afD.mpr hp));rw[h1]at h;unfold Mv at h;rw[afc]at h;cases hk:By[p]? with
 |none=>rw[hk]at h;cases h
 |some kd=>
  rw[hk]at h;have h:=ae2 h;have hn:(kd.filter λc=>c !=119).length=n:=(agm h).1;have hkk:(kd.filter λc=>c==119).length=kk:=(agm h).2;have h2:=afj.mp xY kd (afa hk);rw[afn,afn,hn,hkk]at h2;obtain⟨⟨a,b⟩,c⟩:=h2;refine⟨kd,kd.take n,RR,?_,?_,λx hx=>by have:=afj.mp a x hx;simpa using this,of_decide_eq_true c⟩;·rw[<-beq_iff_eq.mp b,ahM]
  ·rw[afJ,<-hn];exact ag6 (afh _ _)
def l5:∀{A:Ae}{k:Nat},(∀c∈A,c≠119)->k+A.length<=ns.length->AY ns k A=some (((ns.drop k).take A.length).map Vl.num,k+A.length)
 |[],k,_,_=>by simp[AY]
 |c::A,k,hA,hk=>by
  have L3:k+(A.length+1)<=ns.length:=hk;have Bz:k<ns.length:=by omega
  have e1:EG ns k c=some (.num ns[k],k+1):=by unfold EG;rw[afu Bz];simp only;rw[if_neg (hA c (by simp))]
  simp only[AY];rw[e1];simp only;rw[l5 (λx hx=>hA x (by simp[hx])) (by omega)];simp only[afG];congr 1;rw[<-aga Bz,List.take_succ_cons,afq];congr 1;omega
def eP:∀l:Ae,numsOf (l.map Vl.num)=zs l/\rowsOf (l.map Vl.num)=[]
 |[]=>⟨RR,RR⟩
 |a::l=>⟨by show(a:Int)::numsOf (l.map Vl.num)=_;rw[(eP l).1];rfl,(eP l).2⟩
def qi(l m:Ae):numsOf (l.map Vl.num++[.row m])=zs l/\rowsOf (l.map Vl.num++[.row m])=[zs m]:=by
 induction l with
 |nil=>exact⟨RR,RR⟩
 |cons a l ih=>exact⟨by show(a:Int)::numsOf (l.map Vl.num++[.row m])=_;rw[ih.1];rfl,ih.2⟩
def vN(l:Ae)(n:Nat):(zs l).take n=zs (l.take n):=by unfold zs;rw[List.map_take]
def vP(l:Ae)(n:Nat):(zs l).drop n=zs (l.drop n):=by unfold zs;rw[ahQ]
def aeg(m:Int)(r:Am):PyFlat.rows 1 (m::r)=if 0<=m/\m.toNat<=r.length then some ([r.take m.toNat],r.drop m.toNat)else none:=by
 have h0:PyFlat.rows 1 (m::r)=match PyFlat.row (m::r)with|none=>none|some (x,s)=>match PyFlat.rows 0 s with|none=>none|some (xs,t)=>some (x::xs,t):=rfl;by_cases c:0<=m/\m.toNat<=r.length;·have e:PyFlat.row (m::r)=some (r.take m.toNat,r.drop m.toNat):=if_pos c;rw[h0,e,if_pos c];rfl
 ·have e:PyFlat.row (m::r)=none:=if_neg c;rw[h0,e,if_neg c]
def vA(h:PyFlat.call PyKs470.shape (zs (ns.drop k))=some (c,t))(hk:k<=ns.length):∃p nm kd ys k',ns[k]? =some p/\Az[p]? =some (nm,kd)/\AY ns (k+1) kd.cps.toList=some (ys,k')/\k<k'/\k'<=ns.length/\c=C8 p ys/\t=zs (ns.drop k')/\(∀l,Vl.row l∈ys->l.length<=ns.length):=by
 by_cases Bz:k<ns.length;rotate_left;·have:ns.drop k=[]:=agO (by omega);rw[this]at h;cases h
 have ed:ns.drop k=ns[k]::ns.drop (k+1):=(aga Bz).symm;rw[ed]at h;have h:(match PyKs470.shape (ns[k]:Int)with|none=>none|some (n,kk)=>if(zs (ns.drop (k+1))).length<n then none else match PyFlat.rows kk ((zs (ns.drop (k+1))).drop n)with|none=>none|some (xs,t)=>some (((ns[k]:Int)::(zs (ns.drop (k+1))).take n)::xs,t))=some (c,t):=h;cases hs:PyKs470.shape (ns[k]:Int)with
 |none=>rw[hs]at h;cases h
 |some x=>
  obtain⟨n,kk⟩:=x;rw[hs]at h;simp only at h;obtain⟨kd,A,Va,ekd,hA,hA2,hkk⟩:=sI hs;obtain⟨nm,WM,hct,Xp⟩:(Au λnm WM=>Az[ns[k]]? =some (nm,WM)/\WM.cps.toList=kd):=by
   rw[<-iO,afc]at Va;cases hc:Az[ns[k]]? with
   |none=>rw[hc]at Va;cases Va
   |some x=>rw[hc]at Va;exact⟨x.1,x.2,RR,ae2 Va⟩
  split at h;·cases h
  ·rename_i hl;have hl':n<=ns.length-(k+1):=by
    have:(zs (ns.drop (k+1))).length=ns.length-(k+1):=by unfold zs;simp
    omega
   have rn:=l5 (ns:=ns) (A:=A) (k:=k+1) hA2 (by omega);rw[hA]at rn;rw[vN,vP,List.drop_drop]at h;have Z8:kk=0\/kk=1:=by omega
   rcases Z8 with rfl|rfl
   ·have h:some (((ns[k]:Int)::zs ((ns.drop (k+1)).take n))::[],zs (ns.drop (k+1+n)))=some (c,t):=h;obtain⟨e1,e2⟩:=agm (ae2 h);refine⟨ns[k],nm,WM,((ns.drop (k+1)).take n).map Vl.num,k+1+n,afu Bz,hct,?_,by omega,by omega,?_,e2.symm,λl hl=>?_⟩;·rw[Xp,ekd];simp only[List.replicate_zero,af4];exact rn
    ·rw[<-e1];unfold C8;rw[(eP _).1,(eP _).2]
    ·obtain⟨x,_,e⟩:=afw.mp hl;cases e
   ·by_cases hm:k+1+n<ns.length;rotate_left;·rw[agO (as:=ns) (i:=k+1+n) (by omega)]at h;cases h
    have ed2:ns.drop (k+1+n)=ns[k+1+n]::ns.drop (k+1+n+1):=(aga hm).symm;rw[ed2]at h;have er:PyFlat.rows 1 (zs (ns[k+1+n]::ns.drop (k+1+n+1)))=if(0:Int)<=(ns[k+1+n]:Int)/\((ns[k+1+n]:Nat):Int).toNat<=(zs (ns.drop (k+1+n+1))).length then some ([(zs (ns.drop (k+1+n+1))).take ((ns[k+1+n]:Nat):Int).toNat],(zs (ns.drop (k+1+n+1))).drop ((ns[k+1+n]:Nat):Int).toNat)else none:=by exact aeg _ _
    rw[er]at h;split at h;·rename_i he;split at he<;>cases he<;>cases h
    ·rename_i xs t' he;split at he
     ·rename_i hc;have Jb:ns[k+1+n]<=ns.length-(k+1+n+1):=by
       have:=hc.2;rw[af2]at this;have e:(zs (ns.drop (k+1+n+1))).length=ns.length-(k+1+n+1):=by unfold zs;simp
       omega
      rw[af2,vN,vP,List.drop_drop]at he;obtain⟨e3,e4⟩:=agm (ae2 he);obtain⟨e1,e2⟩:=agm (ae2 h);have rw1:AY ns (k+1+n) [119]=some ([.row ((ns.drop (k+1+n+1)).take ns[k+1+n])],k+1+n+1+ns[k+1+n]):=by
       have:EG ns (k+1+n) 119=some (.row ((ns.drop (k+1+n+1)).take ns[k+1+n]),k+1+n+1+ns[k+1+n]):=by unfold EG;rw[afu hm];show(if 119=119 then(if _ then _ else _)else _)=_;rw[if_pos RR,if_pos (by omega)]
       simp only[AY,this]
      refine⟨ns[k],nm,WM,((ns.drop (k+1)).take n).map Vl.num++[.row ((ns.drop (k+1+n+1)).take ns[k+1+n])],k+1+n+1+ns[k+1+n],afu Bz,hct,?_,by omega,by omega,?_,?_,λl hl=>?_⟩;·rw[Xp,ekd];exact ju rn rw1
      ·rw[<-e1,<-e3];unfold C8;rw[(qi _ _).1,(qi _ _).2]
      ·rw[<-e2,<-e4]
      ·rcases afE.mp hl with hl|hl;·obtain⟨x,_,e⟩:=afw.mp hl;cases e
       ·cases afm.mp hl;rw[afJ,ahy];omega
     ·cases he
def w9(hp:p<50)(hk:By[p]? =some kd)(An:BI kd ys):PyKs470.whole (C8 p ys)=C8 p ys:=by
 have h0:=afk p;iterate 50
  rcases adJ _ h0 with rfl|h0
  ·cases ae2 hk;first
   |(obtain⟨a,y1,rfl,h1⟩:=fN (by decide) An;obtain⟨l,y6,rfl,h6⟩:=fW h1;rw[f0 h6];kernel_rfl)
   |(obtain⟨a,y1,rfl,h1⟩:=fN (by decide) An;obtain⟨b,y2,rfl,h2⟩:=fN (by decide) h1;obtain⟨c,y3,rfl,h3⟩:=fN (by decide) h2;obtain⟨d,y4,rfl,h4⟩:=fN (by decide) h3;obtain⟨e,y5,rfl,h5⟩:=fN (by decide) h4;obtain⟨l,y6,rfl,h6⟩:=fW h5;rw[f0 h6];kernel_rfl)
   |(rw[f0 An];kernel_rfl)
   |(obtain⟨a,rfl⟩:=f1 (by decide) An;kernel_rfl)
   |(obtain⟨a,b,rfl⟩:=f2 (by decide) (by decide) An;kernel_rfl)
   |(obtain⟨a,b,c,rfl⟩:=f3 (by decide) (by decide) (by decide) An;kernel_rfl)
   |(obtain⟨a,y1,rfl,h1⟩:=fN (by decide) An;obtain⟨b,c,d,rfl⟩:=f3 (by decide) (by decide) (by decide) h1;kernel_rfl)
 exact absurd hp (Nat.not_lt.mpr h0)
def vZ(Yd:ns.length<=100000):∀(fuel k:Nat)(s:Option Ks470.State)(D:Dm)(cs:List (List (Am))),PyFlat.calls PyKs470.shape fuel (zs (ns.drop k))=some cs->Ig s D->k<=ns.length->Runs ns k D (told (PyFlat.played Ks470Neutral.step s cs))/\∀c∈cs,PyKs470.whole c=c
 |fuel,k,s,D,cs,h,hR,hk=>by
  by_cases Bz:k<ns.length;rotate_left
  ·have ek:k=ns.length:=by omega
   subst ek;rw[agO (ae8 _)]at h;have:cs=[]:=by cases fuel<;>exact(ae2 h).symm
   rw[this];exact⟨.done,λc hc=>by cases hc⟩
  have ed:=(aga Bz).symm;cases fuel with
  |zero=>rw[ed]at h;cases h
  |succ f=>
   have h':(match PyFlat.call PyKs470.shape (zs (ns.drop k))with|none=>none|some (c,t)=>match PyFlat.calls PyKs470.shape f t with|none=>none|some cs=>some (c::cs))=some cs:=by rw[ed]at h|-;exact h
   cases hc:PyFlat.call PyKs470.shape (zs (ns.drop k))with
   |none=>rw[hc]at h';cases h'
   |some x=>
    obtain⟨c,t⟩:=x;rw[hc]at h';simp only at h';obtain⟨p,nm,kd,ys,k',h1,h2,h3,h4,h5,h6,h7,h8⟩:=vA hc hk;cases Yk:PyFlat.calls PyKs470.shape f t with
    |none=>rw[Yk]at h';cases h'
    |some cs'=>
     rw[Yk]at h';cases h';rw[h7]at Yk;obtain⟨e1,e2⟩:=step_eq hR (qN h2) (kY iO h2) (dP h3);obtain⟨ih,ih2⟩:=vZ Yd f k' _ _ cs' Yk e1 h5;have:=Runs.step (D:=D) h1 h2 h3 (λl hl=>afe (h8 l hl) Yd) h4 ih;rw[<-e2,<-h6]at this;have ep:told (PyFlat.played Ks470Neutral.step s (c::cs'))=((Ks470Neutral.step s c).2.length:Int)::((Ks470Neutral.step s c).2++told (PyFlat.played Ks470Neutral.step (Ks470Neutral.step s c).1 cs')):=by show told ((Ks470Neutral.step s c).2::_)=_;unfold told;rw[af3];rfl
     rw[ep];refine⟨this,λx hx=>?_⟩;rcases ae5.mp hx with rfl|hx;·rw[h6];exact w9 (qN h2) (kY iO h2) (dP h3)
     ·exact ih2 x hx
termination_by fuel=>fuel
def lZ:∀(cs:List (List (Am)))(s:Option Ks470.State),Ks470Neutral.runs s cs=PyFlat.played Ks470Neutral.step s cs
 |[],s=>rfl
 |c::cs,s=>by unfold Ks470Neutral.runs PyFlat.played;simp only;rw[lZ cs]
def yY(l:List (Am)):(told l).length=l.length+(l.map List.length).foldl (·+·) 0:=by
 have hf:∀(m:Ae)(a:Nat),m.foldl (·+·) a=a+m.foldl (·+·) 0:=λm=>by
  induction m with
  |nil=>intro a;rfl
  |cons x m ih=>intro a;rw[afz,afz,ih,ih (0+x)];omega
 induction l with
 |nil=>rfl
 |cons a l ih=>unfold told at ih|-;rw[af3,afg,ih,afq,afz,hf _ (0+a.length)];simp only[afG];omega
def nr:∀(cs:List (List (Am)))(s:Option Ks470.State),(PyFlat.played Ks470Neutral.step s cs).length=cs.length
 |[],s=>rfl
 |c::cs,s=>by show((Ks470Neutral.step s c).2::PyFlat.played Ks470Neutral.step (Ks470Neutral.step s c).1 cs).length=_;rw[afG,nr cs,afG]
def math(l:Am)(hlen:l.length<=30000)(hit:∀x∈l,0<=x/\x<=4294967295)(h:answers_asked l=true):Runs (l.map Int.toNat) 0 ⟨none,[],[]⟩ (PyKs470.answers l)/\(PyKs470.answers l).length<=2000000:=by
 have ez:l=zs (l.map Int.toNat):=by
  unfold zs;rw[afr];conv=>lhs;rw[<-List.map_id l]
  refine afy λx hx=>?_;exact(Int.toNat_of_nonneg (hit x hx).1).symm
 unfold answers_asked at h;cases hc:PyFlat.calls PyKs470.shape l.length l with
 |none=>rw[hc]at h;cases h
 |some raw=>
  rw[hc]at h;simp only[afn]at h;obtain⟨⟨⟨⟨h1,h2⟩,h3⟩,h4⟩,h5⟩:=h;have EV:PyFlat.calls PyKs470.shape l.length (zs ((l.map Int.toNat).drop 0))=some raw:=by rw[List.drop_zero,<-ez];exact hc
  obtain⟨r1,r2⟩:=vZ (by simp;omega) l.length 0 none _ raw EV .none (afk _);have em:raw.map PyKs470.whole=raw:=by
   conv=>rhs;rw[<-List.map_id raw]
   exact afy λc hc=>r2 c hc
  have ea:PyKs470.answers l=told (PyFlat.played Ks470Neutral.step none raw):=by unfold PyKs470.answers PyKs470.calls;rw[hc];simp only;rw[em];rfl
  rw[ea];constructor;·exact r1
  ·rw[em]at h4;unfold asked at h4;simp only[afn,decide_eq_true_eq]at h4;obtain⟨⟨⟨⟨_,_⟩,h6⟩,_⟩,h7⟩:=h4;rw[yY,nr];unfold Ks470Neutral.f at h7;rw[lZ]at h7;have:((PyFlat.played Ks470Neutral.step none raw).map List.length).foldl (·+·) 0<1000000:=h7;omega
end L2
open L2
theorem PySem.Challenge.cw_cabinetsdesk_s01_answers_holds : PySem.Challenge.rw_cabinetsdesk_s01_answers.Holds := by
 exact cw_hd fun ad a b c d e=>aa3 ad a b c d e math
