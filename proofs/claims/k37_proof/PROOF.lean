import PyProof.Rows.All
import Wide.All
import OpenK.AllK
import Wide.FinOn
import Lean
import PyProof.EqAt
import PyProof.EqKinds
import PyProof.TupleCall
import PyProof.EqLayable
import KE.KIntText
import PyProof.EnumMake
import PyProof.EnumStmt
import PyProof.EnumFor
import PyProof.Rows.EnumRows
import PyProof.ExcInit
import PyProof.ExcClass2
import PyProof.InstStoreFacts
import KE.KRevIter
import PyProof.P3In
import PySem.Challenge.RW_chancehall_k37_whole_greatest_chances
set_option compiler.extract_closed false
def aj := @List.getElem?_eq_getElem
def ak := @List.length_map
def ao := @List.getElem?_eq_some_iff
def aq := @List.getElem?_map
def au := @List.getD_eq_getElem?_getD
def aA := @List.length_append
def aC := @List.mem_of_getElem?
def aD := @List.getElem?_append_right
def aF := @List.getElem?_append_left
def aG := @Nat.le_refl
def aH := @PySem.Heap.get?_push_of_some
def aJ := @List.mem_cons_of_mem
def aK := @PySem.Heap.lt_size
def aL := @Nat.le_trans
def aM := @List.getElem?_eq_none
def aN := @List.length_replicate
def aO := @List.mem_cons_self
def aP := @List.mem_append_right
def aQ := @Nat.ne_of_lt
def aR := @Nat.lt_of_lt_of_le
def aU := @List.getElem_mem
def aV := @List.getElem?_of_mem
def aW := @PySem.Heap.get?_push_size
def aX := @List.size_toArray
def aY := @List.length_take
def aZ := @Nat.zero_le
def bf := @List.map_append
def bx := @Bool.false_ne_true
open PySem.W (Frag instObj methodObj hideAll hideAll_get of_hideAll lookIn plainGet hasDictIn findIn handedIn plainGet_of findObj_own isFn plainOver takerIn set_plain looks_clsIn makesIn typeIn emptyDict looks_findIn keepIn specialIn mroIn kitOne kia_one kitx_list kitx_tuple callWith_K methodCall_KW codeIn nsIn mg_of excIn isNs_of_in clsIn looks_mroIn readsIn findCls method_cls cls_value notCls nsOkIn)
section
open PySem PySem.Spec PyProof.Rows
abbrev Γ:=List (Int×Int)
abbrev Δ:=List (Addr×Obj)
abbrev Θ:=List Value
abbrev Φ:=List Str
abbrev Ψ:=List Addr
abbrev Ω:=Option Value
abbrev Ξ:=Option Addr
abbrev Β:=Int×Int
abbrev Ε:=Value->Shared->Prop
def Zs:=@decide_eq_true
def Zp:=@decide_eq_false
def ZZ:=@if_neg
def ZY:=@if_pos
def ZU:=@wpAny_bind
def ZT:=@wpAny_pure
def ZH:=@congrArg
def Z3:=@Int.emod_nonneg
def YY:=@Int.emod_lt_of_pos
def YV:=@List.mem_map
def YU:=@List.mem_cons
def YR:=@List.mem_singleton
def Y1:=@List.mem_append
def Y2:=@Nat.le_of_lt
def Y3:=@Nat.lt_of_le_of_lt
def Xs:=@Nat.le_succ
def XZ:=@Int.mul_pos
def XY:=@Int.le_of_lt
def XX:=@Nat.lt_of_le_of_ne
def XW:=@Bool.false_eq_true
def XV:=@Rat.intCast_mul
def XU:=@Nat.pow_le_pow_right
def XT:=@Int.natAbs_natCast
def XG:=@List.getElem?_replicate
def X0:=@Nat.lt_succ_self
def X1:=@Nat.le_add_right
def X2:=@Nat.lt_irrefl
def X9:=@Int.natCast_nonneg
def Wp:=@List.append_assoc
def WZ:=@Nat.not_lt_zero
def WV:=@Nat.lt_add_right
def WU:=@List.map_map
def WS:=@Int.ne_of_gt
def WP:=@List.length_range
def WJ:=@PySem.boot_len
def WG:=@Nat.le_of_eq
def WH:=@List.length_set
def W1:=@Rat.le_refl
def VZ:=@List.length_zip
def VY:=@List.getElem?_range
def VX:=@List.getElem_map
def VW:=@Nat.le_of_not_lt
def VV:=@Int.natAbs_mul
def VU:=@Nat.mul_le_mul
def VT:=@Nat.le_of_lt_succ
def VS:=@List.getElem?_set_ne
def VQ:=@Nat.min_self
def Up:=@Nat.ne_of_gt
def UZ:=@Nat.le_of_dvd
def UY:=@List.getElem?_set_self
def UX:=@List.of_mem_zip
def UV:=@List.not_mem_nil
def UU:=@List.map_congr_left
def UT:=@List.ext_getElem
def US:=@Nat.le_of_ble_eq_true
def UR:=@List.mem_append_left
def UQ:=@List.length_drop
def UP:=@Nat.one_pos
def UK:=@Rat.le_of_lt
def UH:=@List.any_map
def U1:=@Nat.zero_add
def U2:=@List.length_zipIdx
def Tu:=@List.getElem_range
def Ts:=@Nat.lt_trans
def Tk:=@List.drop_eq_nil_of_le
def Th:=@List.map_set
def TZ:=@Nat.not_lt_of_le
def TW:=@Int.one_mul
def TU:=@Rat.divInt_eq_div
def TR:=@Nat.succ_pos
def TK:=@Nat.add_sub_cancel_left
def TH:=@List.length_zipWith
def T2:=@Rat.zero_add
def JY:=@Nat.one_dvd
def JU:=@Int.lt_of_not_ge
def JS:=@Bool.and_eq_true
def JP:=@List.getElem_zip
def JJ:=@Int.gcd_dvd_right
def Qr:=@Int.natCast_mul
def QY:=@Rat.divInt_eq_divInt_iff
def QU:=@Rat.divInt_add_divInt
def QR:=@Rat.zero_divInt
def QQ:=@List.drop_eq_getElem_cons
def QP:=@List.take_of_length_le
def Q1:=@List.getElem_zipIdx
def Q2:=@List.ext_getElem?
def Q3:=@Rat.intCast_zero
def Q4:=@Int.mul_ediv_cancel_left
def jS:=@Int.toNat_of_nonneg
def jT:=@Nat.mul_le_mul_left
def lv:=@Int.fdiv_eq_ediv_of_nonneg
def lz:=@List.set_eq_of_length_le
def lC:=@Int.gcd_pos_of_ne_zero_right
def lI:=@Int.ediv_pos_of_pos_of_dvd
def lL:=@Nat.le_mul_of_pos_left
def lM:=@List.find?_cons_of_pos
def lT:=@List.find?_cons_of_neg
def lZ:=@Int.eq_ofNat_of_zero_le
def px:=@List.flatten_replicate_singleton
end
set_option Elab.async false
set_option linter.all false
set_option maxRecDepth 100000
set_option maxHeartbeats 4000000
namespace L2.Once
noncomputable section
open PySem PySem.W
def z:Pos:=⟨0,0,0,0⟩
def tE:Obj:=⟨.type "tuple",none,.seq ⟨[]⟩ 0,⟨[]⟩⟩
def fE:Obj:=⟨.none,none,.fields ⟨[]⟩,⟨[]⟩⟩
def tN(t:Nat)(l:Φ):Obj:=⟨.type "tuple",none,.seq ⟨(l.zipIdx t).map λx=>.str x.1 x.2⟩ 0,⟨[]⟩⟩
noncomputable def cO(n q:Str)(t:Nat)(l a f:Int)(r u:Nat):Obj:=⟨.type "code",none,.fields ⟨[.str n t,.str q (t+1),.str "/claim/cut.py" (t+2),.int l 0,.int a 0,.int 0 0,.int 0 0,.int f 0,.ref r,.bool true,.int 181 0,.ref (r+1),.none,.ref (r+2),.ref (r+3),.ref (r+4),.int u 0,.int l 0,.str "/claim/cut.py" (u+1)]⟩,⟨[]⟩⟩
def mI:Obj:={ cls:=.type "tuple",data:=.seq #[] }
def rX:Obj:={ cls:=.none,data:=.fields #[] }
noncomputable def mE:Obj:={ cls:=.type "code",data:=.fields #[.str "<module>" 182,.str "<module>" 183,.str "/claim/cut.py" 184,.int 1 0,.int 0 0,.int 0 0,.int 0 0,.int 0 0,.ref 11,.bool false,.int 181 0,.ref 12,.none,.none,.none,.none,.int 185 0,.int 1 0,.str "/claim/cut.py" 186] }
noncomputable def mB:Obj:={ cls:=.type "frame",slots:=#[some (.ref 13),some (.ref 3),some (.ref 3),none,some (.str "__main__" 164),none,some (.ref 0)] }
noncomputable def cP(n q:Str)(t:Nat)(l a f:Int)(r u:Nat):Obj:=⟨.type "code",none,.fields ⟨[.str n t,.str q (t+1),.str "/claim/cut.py" (t+2),.int l 0,.int a 0,.int 0 0,.int 0 0,.int f 0,.ref r,.bool true,.int 181 0,.ref (r+1),.none,.none,.none,.ref (r+2),.int u 0,.int l 0,.str "/claim/cut.py" (u+1)]⟩,⟨[]⟩⟩
def dE(P:Params)(x:Str)(t:Nat)(v:Value):DictEntry:=⟨PyData.keyHash P x,.str x t,v⟩
abbrev lf(o:Obj):BT:=.node o .nil .nil
def tr(P:Params):BT:=.node (boot_o_0 P)
 (.node (boot_o_1 P) (.node (boot_o_3 P) (lf (boot_o_7 P)) (lf mI)) (.node (boot_o_5 P) (lf (boot_o_9 P)) (lf mE)))
 (.node (boot_o_2 P) (.node (boot_o_4 P) (lf (boot_o_8 P)) (lf rX)) (.node (boot_o_6 P) (lf (boot_o_10 P)) (lf mB)))
def S0(w:World)(os:OsState):Shared:=⟨boot_heap w.params,Array.mk [],boot_drawn,boot_toks,os⟩
def Sa(w:World)(os:OsState):Shared:=⟨⟨Array.mk [boot_o_0 w.params,boot_o_1 w.params,boot_o_2 w.params,boot_o_3 w.params,boot_o_4 w.params,boot_o_5 w.params,boot_o_6 w.params,boot_o_7 w.params,boot_o_8 w.params,boot_o_9 w.params,boot_o_10 w.params,mI,rX,mE,mB],{}⟩,Array.mk [],{},187,os⟩
def Sb(w:World)(os:OsState):SharedT:=⟨tr w.params,15,{},⟨[]⟩,{},187,os⟩
noncomputable def env(p:Program):Env:={ scope:=p.main.scope,locals:=mainNs,globals:=mainNs,cells:=[],code:=.ref 13,frame:=some 14 }
def cE(p:Program):Code:=.body (behindTheImports p) (env p)
abbrev eI:Ω:=some (.ref 6)
abbrev B:List Frame:=[topFrame z]
def size(w:World):((boot_heap w.params).isNs mainGlobals&&(Array.mk [] : Array GenState).size==0,(boot_heap w.params).objs.size,(boot_heap w.params).nsMap mainGlobals "__annotations__")=(true,11,eI):=by
 rw[Fast.te8920871248978507458];kernel_rfl
def pW(p:Program)(w:World)(M:Nat)(S:SharedT)(l:List Stmt)(q:Pos)(G:Shared->Prop):Prop:=∃s,topRun treeTable p w 11 eI M S.abs (restOf l (env p) (cE p) q B)=some s/\G s
def pW.cut{p:Program}{w:World}{n M:Nat}{S f:SharedT}{e d:List Stmt}{q c:Pos}{G:Shared->Prop}(h:segRunT treeTable p w 11 eI 1 n S (piecesOf e (env p) (cE p) q B)=some (.next,f,cE p,c))(k:pW p w M f d c G):pW p w (n+M) S (e++d) q G :=
 let⟨s,a,b⟩:=k
 ⟨s,piece_app (segRun_of h) a,b⟩
def pW.cutAt{p:Program}{w:World}{n m M:Nat}{S b:SharedT}{l:List Stmt}{q a:Pos}{G:Shared->Prop}(h:segRunT treeTable p w 11 eI 1 n S (piecesOf (l.take m) (env p) (cE p) q B)=some (.next,b,cE p,a))(k:pW p w M b (l.drop m) a G):pW p w (n+M) S l q G:=by
 have:=pW.cut h k;rwa[List.take_append_drop]at this
def Good{b:Type}(p q:Program)(a:Φ)(f:Shared->Bool)(d:Shared->b)(e:World->b)(c:Bool)(w:World)(s:Shared):Prop :=
 (staticsOk (importedModules p.main.body) (boot_heap w.params) s.heap&&namesBound p s.heap&&gensDone s&&laidKept (boot_heap w.params) s.heap,openSeen q a (importedModules p.main.body) f c s,d s)=(true,openGood q a,e w)
def pW.last{p q:Program}{a:Φ}{o:Shared->Bool}{d:Type}{j:Shared->d}{m:World->d}{i:Bool}{w:World}{n k:Nat}{S:SharedT}{l:List Stmt}{h e:Pos}
 (b:(segRunT treeTable p w 11 eI 1 n S (piecesOf l (env p) (cE p) h B)).map (λr =>
    (r.1,r.2.2.1,r.2.2.2,(topRun treeTable p w 11 eI k r.2.1.abs ⟨doneF .next,cE p,e,B⟩).map λs =>
     (staticsOk (importedModules p.main.body) (boot_heap w.params) s.heap&&namesBound p s.heap&&gensDone s&&laidKept (boot_heap w.params) s.heap,openSeen q a (importedModules p.main.body) o i s,j s))) =
   some (.next,cE p,e,some (true,openGood q a,m w))):pW p w (n+k) S l h (Good p q a o j m i w):=by
 obtain⟨⟨f,A,c,z⟩,y,x⟩:=Option.map_eq_some_iff.mp b;obtain⟨rfl,rfl,rfl,v⟩ : f=.next/\c=cE p/\z=e/\_:=by simpa only[Prod.mk.injEq]using x
 obtain⟨s,u,t⟩:=Option.map_eq_some_iff.mp v;have g:=piece_app (rest:=[]) (segRun_of y) (piece_nil u);rw[List.append_nil]at g;exact⟨s,g,t⟩
def abM{p q:Program}{c:Φ}{l:Shared->Bool}{g:Type}{j:Shared->g}{k:World->g}{N:Nat}{i:Bool}{a b M:Nat}
 (C:∀w:World,(fencedOpening treeTable p w N).map (λs=>(s.heap,s.gens,s.drawn,s.toks))=some (boot_heap w.params,Array.mk [],boot_drawn,boot_toks))
 (f:∀w:World,(λos=>topGo treeTable p w 11 eI a (S0 w os) (topStub p))=λos=>some (Sa w os,⟨denote treeTable (cE p),cE p,z,B⟩))
 (e:∀w:World,(λos=>segRun treeTable p w 11 eI 1 b (Sa w os) (blockOf (behindTheImports p) (env p) (cE p) z B))=λos=>some (.next,(Sb w os).abs,cE p,z))
 (D:∀(w:World)(os:OsState),pW p w M (Sb w os) (behindTheImports p) z (Good p q c l j k i w))
 (le:Nat.ble (a+(b+M)) N=true):LeftO p q c l j k N i:=λw=>by
 obtain⟨⟨h,E,d,A,os⟩,G,F⟩:=Option.map_eq_some_iff.mp (C w);obtain⟨rfl,rfl,rfl,rfl⟩ : h=boot_heap w.params/\E=Array.mk []/\d=boot_drawn/\A=boot_toks:=by simpa using F
 obtain⟨o,n,m⟩ : _/\_/\_:=by simpa only[Prod.mk.injEq]using size w
 obtain⟨s,u,r⟩:=D w os;obtain⟨y,x,v⟩ : _/\_/\_:=by simpa only[Good,Prod.mk.injEq]using r
 have q2:=go_top (congrFun (f w) os) (piece_block (congrFun (e w) os) u);have q3:=topRun_mono (N-(a+(b+M))) _ _ _ _ q2;rw[show a+(b+M)+(N-(a+(b+M)))=N by have:=US le;omega]at q3;have t:topFrom treeTable p w N ⟨boot_heap w.params,Array.mk [],boot_drawn,boot_toks,os⟩=some s:=by
  unfold topFrom;dsimp only;rw[o,n,m,show topRun treeTable p w 11 eI N ⟨boot_heap w.params,Array.mk [],boot_drawn,boot_toks,os⟩ (topStub p)=some s from q3];show(match staticsOk (importedModules p.main.body) (boot_heap w.params) s.heap&&namesBound p s.heap&&gensDone s&&laidKept (boot_heap w.params) s.heap with|true=>_|false=>_)=_;rw[y]
 unfold openEnds;rw[G];show(topFrom treeTable p w N _).map _=_;rw[t];exact ZH some (Prod.ext x v)
end
end L2.Once
namespace L2
open PySem
def jW(s:Stmt):Arguments:=match s with
 |.FunctionDef _ a _ _ _ _ _ _ _ _=>a
 |_=>{ posonlyargs:=[],args:=[],vararg:=none,kwonlyargs:=[],kw_defaults:=[],kwarg:=none,defaults:=[] }
def fL(s:Stmt):List Stmt:=match s with
 |.FunctionDef _ _ b _ _ _ _ _ _ _=>b
 |_=>[]
def bH(s:Stmt):Scope:=match s with
 |.FunctionDef _ _ _ _ _ _ a _ _ _=>a
 |_=>{ kind:=.function,names:=[],isGenerator:=false,isCoroutine:=false }
end L2
namespace K37
open PySem L2
def top(i:Nat):Stmt:=PySem.Challenge.pw_chancehall_k37_whole_greatest_chances.main.body.getD i (.Pass ⟨0,0,0,0⟩)
def gU(i j:Nat):Stmt:=match top i with|.ClassDef _ _ _ b _ _ _ _ _ _ _=>b.getD j (.Pass ⟨0,0,0,0⟩)|_=>.Pass ⟨0,0,0,0⟩
abbrev gQ:Φ:=["thing"]
abbrev Zb:Φ:=gQ
abbrev cT:Φ:=["one","other"]
abbrev Qm:Φ:=cT.append ["left","right","rest"]
abbrev m_:Φ:=["top","bottom"]
abbrev T_:Φ:=m_.append ["common"]
abbrev jM:Φ:=["thing"]
abbrev CG:Φ:=jM.append ["top","bottom"]
abbrev Dr:Φ:=["one","other"]
abbrev UF:Φ:=Dr
abbrev rA:Φ:=["one","other"]
abbrev _a:Φ:=rA
abbrev Aq:Φ:=["one","other"]
abbrev _Y:Φ:=Aq
abbrev Ft:Φ:=["one","other"]
abbrev SV:Φ:=Ft
abbrev rY:Φ:=["one","other"]
abbrev afQ:Φ:=rY
abbrev pB:Φ:=["fractions"]
abbrev ZG:Φ:=pB.append ["bottom","one"]
abbrev zE:Φ:=["fractions"]
abbrev Q7:Φ:=zE.append ["leveled"]
abbrev jw:Φ:=["fractions"]
abbrev CZ:Φ:=jw.append ["found","one"]
abbrev jf:Φ:=["hall"]
abbrev vD:Φ:=jf
abbrev En:Φ:=["thing","many"]
abbrev Y0:Φ:=En
abbrev kJ:Φ:=["hall","plan"]
abbrev w5:Φ:=kJ.append ["room","thing"]
abbrev jL:Φ:=["offer","tops"]
abbrev kh:Φ:=jL.append ["leveled"]
abbrev qy:Φ:=["tops","bottom"]
abbrev V8:Φ:=qy.append ["common","top"]
abbrev mW:Φ:=["row","often"]
abbrev yW:Φ:=mW
abbrev pI:Φ:=["row","other","often"]
abbrev Ck:Φ:=pI.append ["bottom","common","own","added","tops"]
abbrev nJ:Φ:=["leveled","step"]
abbrev Al:Φ:=nJ.append ["row"]
abbrev jO:Φ:=["row","column"]
abbrev yZ:Φ:=jO
abbrev iU:Φ:=["leveled"]
abbrev jD:Φ:=iU
abbrev kO:Φ:=["leveled","place","column"]
abbrev Gj:Φ:=kO.append ["row"]
abbrev uU:Φ:=["leveled","steps","step"]
abbrev Tz:Φ:=uU
abbrev mX:Φ:=["leveled","steps","place","found","column"]
abbrev Ih:Φ:=mX.append ["first"]
abbrev iV:Φ:=["leveled","steps","place","column"]
abbrev Am:Φ:=iV.append ["row","often"]
abbrev rN:Φ:=["rows","wide"]
abbrev Hw:Φ:=rN.append ["leveled","steps","place","column","found"]
abbrev oZ:Φ:=["rows"]
abbrev Xw:Φ:=oZ
abbrev jq:Φ:=["rows","rights"]
abbrev uz:Φ:=jq
abbrev nF:Φ:=["end","wide"]
abbrev zL:Φ:=nF.append ["begins","row","columns"]
abbrev q_:Φ:=["end","begins","wide"]
abbrev Gq:Φ:=q_.append ["row"]
abbrev m7:Φ:=["end","begins","wide"]
abbrev HD:Φ:=m7.append ["answer","row","column"]
abbrev jH:Φ:=["many"]
abbrev kW:Φ:=jH
abbrev jx:Φ:=["rows","rights"]
abbrev BZ:Φ:=jx.append ["wide","end","begins"]
abbrev eE:Φ:=["hall","goals"]
abbrev vN:Φ:=eE.append ["marks","goal"]
abbrev zV:Φ:=["door","steps"]
abbrev QB:Φ:=zV
abbrev oA:Φ:=["doors","steps"]
abbrev Gv:Φ:=oA
abbrev pF:Φ:=["marks","leads","joins"]
abbrev qT:Φ:=pF.append ["steps","coming","many","room"]
abbrev jc:Φ:=["hall","plan"]
abbrev rQ:Φ:=jc
abbrev nG:Φ:=["share","chosen"]
abbrev Ig:Φ:=nG.append ["rows","room","offer","behind","chance"]
abbrev kE:Φ:=["marks","chosen"]
abbrev iT:Φ:=kE.append ["leads","steps"]
abbrev gD:Φ:=["hall","marks","plan"]
abbrev rF:Φ:=gD.append ["rights"]
abbrev kj:Φ:=["hall","goals","plan"]
abbrev wj:Φ:=kj.append ["marks"]
abbrev jr:Φ:=["seen","door","pick"]
abbrev ug:Φ:=jr.append ["best"]
abbrev jz:Φ:=["hall","marks","told","pick"]
abbrev tZ:Φ:=jz.append ["tops","turned","room","door","offered"]
abbrev nU:Φ:=["hall","marks","plan","pick"]
abbrev Qh:Φ:=nU.append ["told","coming"]
abbrev dY:Φ:=["hall","goals"]
abbrev Dc:Φ:=dY
abbrev lN:Φ:=["thing"]
abbrev GR:Φ:=lN
abbrev je:Φ:=["name","pay"]
abbrev vX:Φ:=je
abbrev eY:Φ:=["room"]
abbrev Fg:Φ:=eY
abbrev gC:Φ:=["chance"]
abbrev Mi:Φ:=gC
abbrev jG:Φ:=["pairs"]
abbrev uI:Φ:=jG.append ["room","chance"]
abbrev ju:Φ:=["pairs"]
abbrev BL:Φ:=ju.append ["chances","room","chance"]
abbrev jt:Φ:=["share"]
abbrev Om:Φ:=jt
abbrev j_:Φ:=["rooms"]
abbrev vL:Φ:=j_.append ["numbers","room","name"]
abbrev iw:Φ:=["door","numbers"]
abbrev xu:Φ:=iw.append ["numbered","name","chance"]
abbrev mK:Φ:=["doors","numbers"]
abbrev Il:Φ:=mK.append ["taken","told","door"]
abbrev Bj:Φ:=["_law_script","_law_k"]
abbrev Yr:Φ:=Bj
abbrev gF:Φ:=["_law_cell_here","_law_many"]
abbrev Wc:Φ:=gF.append ["_law_found","_law_number","_law_digits","_law_k"]
abbrev Hh:Φ:=["_law_one","_law_other"]
abbrev Dx:Φ:=Hh.append ["_law_low","_law_high"]
abbrev qw:Φ:=["_law_top","_law_bottom"]
abbrev Vb:Φ:=qw.append ["_law_common"]
abbrev zO:Φ:=["_law_cell_here","_law_many"]
abbrev wI:Φ:=zO.append ["_law_letters","_law_xs","_law_base","_law_at","_law_step"]
abbrev Dm:Φ:=["_law_cell_here","_law_many"]
abbrev vQ:Φ:=Dm.append ["_law_xs","_law_rooms","_law_pay","_law_pairs","_law_bottom","_law_part","_law_weights"]
abbrev zU:Φ:=["_law_script","_law_at","_law_many","_law_most"]
abbrev Qz:Φ:=zU.append ["_law_rooms","_law_first","_law_cells","_law_cell_here","_law_room"]
abbrev zH:Φ:=["_law_title","_law_door_here","_law_names_here"]
abbrev Ge:Φ:=zH.append ["_law_told","_law_sort","_law_pay","_law_pairs"]
abbrev FQ:Φ:=["_law_cell_here","_law_share","_law_rooms"]
abbrev Yh:Φ:=FQ.append ["_law_names_here","_law_found","_law_k","_law_titles"]
abbrev D_:Φ:=["_law_cell_here"]
abbrev YQ:Φ:=D_.append ["_law_xs"]
abbrev E_:Φ:=["_law_door_here"]
abbrev FX:Φ:=E_.append ["_law_found","_law_room","_law_chance","_law_top","_law_bottom"]
abbrev yc:Φ:=["_law_cell_here","_law_many"]
abbrev RM:Φ:=yc.append ["_law_xs"]
abbrev vf:Φ:=["_law_found"]
abbrev Er:Φ:=vf
abbrev jA:Φ:=["_law_found"]
abbrev NK:Φ:=jA
abbrev mV:Φ:=["_law_found","_law_many"]
abbrev yw:Φ:=mV
abbrev pH:Φ:=["_law_rooms"]
abbrev qP:Φ:=pH
abbrev Bt:Φ:=["_law_ways_here","_law_chances_here"]
abbrev E3:Φ:=Bt.append ["_law_top","_law_bottom","_law_room","_law_chance","_law_part"]
abbrev zF:Φ:=["_law_ways_here","_law_plan_here"]
abbrev GJ:Φ:=zF.append ["_law_found","_law_k"]
abbrev Fx:Φ:=["_law_taken_here","_law_goals_here"]
abbrev Tg:Φ:=Fx.append ["_law_found","_law_turn","_law_k"]
abbrev ou:Φ:=["_law_found","_law_ways_here","_law_goals_here","_law_plan_here"]
abbrev Qi:Φ:=ou.append ["_law_taken_here","_law_near_here","_law_k","_law_due"]
abbrev u5:Φ:=["_law_cell_here","_law_rooms"]
abbrev Xc:Φ:=u5.append ["_law_xs","_law_found","_law_k"]
abbrev Dq:Φ:=["_law_found","_law_rooms"]
abbrev Fl:Φ:=Dq.append ["_law_door_here","_law_doors_here"]
abbrev FP:Φ:=["_law_found","_law_rooms","_law_ways_here","_law_goals_here"]
abbrev FY:Φ:=FP
abbrev xU:Φ:=["_law_found","_law_rooms","_law_ways_here","_law_goals_here"]
abbrev GS:Φ:=xU.append ["_law_chances_here","_law_k","_law_some","_law_top","_law_bottom"]
abbrev qU:Φ:=["_law_hall_here","_law_goals_here"]
abbrev Qc:Φ:=qU.append ["_law_found","e"]
abbrev Nj:Φ:=["_law_cell_here","_law_many"]
abbrev N2:Φ:=Nj
abbrev rE:Φ:=["_law_hall_here","_law_goals_here","_law_cell_here","_law_many"]
abbrev Ql:Φ:=rE.append ["_law_odd_here","_law_at","_law_told"]
abbrev Rv:Φ:=["_law_script"]
abbrev k9:Φ:=Rv.append ["_law_rooms","_law_ways_here","_law_share","_law_hall_here","_law_goals_here","_law_plans","_law_handed","_law_some","_law_others","_law_plan_here","_law_kept","_law_again","_law_mine","_law_one","_law_other"]
abbrev j4:Φ:=["self","name","pay"]
abbrev yR:Φ:=j4
abbrev mY:Φ:=["self"]
abbrev U6:Φ:=mY
abbrev Ds:Φ:=["self","room"]
abbrev d_:Φ:=Ds
abbrev mZ:Φ:=["self","name","pay","room"]
abbrev yD:Φ:=mZ
abbrev gY:Φ:=["self","name","pay","pairs"]
abbrev wU:Φ:=gY
abbrev mH:Φ:=["self","name","pay","chance","room","other"]
abbrev Ii:Φ:=mH
abbrev mJ:Φ:=["self","name","pay","rooms"]
abbrev zu:Φ:=mJ
abbrev mQ:Φ:=["self","share","rooms"]
abbrev zY:Φ:=mQ
abbrev fu:Φ:=["self"]
abbrev VH:Φ:=fu
abbrev Oh:Φ:=["self","name"]
abbrev DP:Φ:=Oh
abbrev dz:Φ:=["self","room"]
abbrev Fd:Φ:=dz
abbrev Jg:Φ:=["self","room","name"]
abbrev Ai:Φ:=Jg
abbrev fJ:Φ:=["self","room"]
abbrev t_:Φ:=fJ
abbrev jC:Φ:=["self","room"]
abbrev Od:Φ:=jC
end K37
namespace H37
open PySem PySem.W L2 L2.Once K37
abbrev p:Program:=PySem.Challenge.pw_chancehall_k37_whole_greatest_chances
noncomputable section
noncomputable def dR(P:Params)(x:Str)(t m:Nat):DictEntry:=dE P x t (.ref m)
noncomputable def wD(l:List DictEntry)(n:Nat):Obj:=⟨.type "dict",none,.dict ⟨l⟩ n,⟨[]⟩⟩
noncomputable def i3(a b:Nat)(c:Nat)(l:Θ):Θ:=.int a 0::.int b 0::.ref c::l
noncomputable def nd(o:Obj)(l r:BT):BT:=.node o l r
noncomputable def n1(o x:Obj):BT:=.node o (lf x) .nil
noncomputable def n2(o x y:Obj):BT:=.node o (lf x) (lf y)
def wA:Obj:=⟨.type "builtin_function_or_method",none,.fields ⟨[.builtin "type.__prepare__",.type "type"]⟩,⟨[]⟩⟩
def wB(n:Nat):Obj:=⟨.type "builtin_function_or_method",none,.fields ⟨[.builtin "object.__init_subclass__",.ref n]⟩,⟨[]⟩⟩
def wC(n:Str)(t l r u:Nat):Obj:=⟨.type "code",none,.fields ⟨[.str n t,.str n (t+1),.str "/claim/cut.py" (t+2),.int l 0,.int 0 0,.int 0 0,.int 0 0,.int 0 0,.ref r,.bool false,.int 181 0,.ref (r+1),.none,.none,.none,.none,.int u 0,.int l 0,.str "/claim/cut.py" (u+1)]⟩,⟨[]⟩⟩
def wF(c d:Nat)(n:Str)(t:Nat):Obj:=⟨.type "frame",none,.plain,⟨[some (.ref c),some (.ref 3),some (.ref d),none,some (.str n t),none,some (.ref 0)]⟩⟩
def wG(t n:Nat):Obj:=⟨.type "getset_descriptor",none,.fields ⟨[.str "__weakref__" t,.ref n,.builtin "ExceptionGroup.__weakref__",.none]⟩,⟨[]⟩⟩
def wK(n:Str)(b m:Θ)(d:Nat)(s:Θ)(o:Ω)(t u:Nat)(x:String):Obj:=⟨.type "type",none,.cls ⟨n,b,m,d,n,true,[],s,false,none,false⟩,⟨[o,none,some (.str n t),some (.str n u),some (.builtin x),some (.bool true)]⟩⟩
def wS(n:Nat):Obj:=⟨.type "super",none,.fields ⟨[.ref n,.ref n,.ref n]⟩,⟨[]⟩⟩
def wT(n:Nat):Obj:=⟨.type "tuple",none,.seq ⟨[.ref n]⟩ 0,⟨[]⟩⟩
def fO(n q:Str)(s:Stmt)(m:Value)(c:Nat):Obj:=⟨.type "function",none,.func (fnOf n q (jW s) (fL s) (bH s) .none .none .none m none (.ref c) .none),⟨[]⟩⟩
def fT(n q:Str)(s:Stmt):Obj:=⟨.none,none,.func { fnOf n q (jW s) (fL s) (bH s) .none .none .none .none none .none .none with globals:=0,builtins:=0 },⟨[]⟩⟩
def fV(n:Str)(k:Nat)(m:Value)(c:Nat):Obj:=fO n n (top k) m c
def fU(n:Str)(k:Nat):Obj:=fT n n (top k)
def cU(n:Str)(t:Nat)(l a f:Int)(r u:Nat):Obj:=cO n n t l a f r u
def cV(n:Str)(t:Nat)(l a f:Int)(r u:Nat):Obj:=cP n n t l a f r u
def dM(P:Params)(l:List (String×Nat×Nat)):List DictEntry:=l.map λx=>dR P (Str.ofString x.1) x.2.1 x.2.2
def dC(P:Params)(a:Nat)(m:Value)(n:Str)(l:Int)(r:List DictEntry):List DictEntry:=dE P "__module__" a m::dE P "__qualname__" (a+2) (.str n (a+1))::dE P "__firstlineno__" (a+4) (.int l (a+3))::r
def dF(P:Params)(a:Nat)(m:Value)(l:Int)(r:List DictEntry):List DictEntry:=dE P "__module__" a m::dE P "__firstlineno__" (a+4) (.int l (a+3))::r
def wX(n:Str)(c d o t u:Nat):Obj:=wK n [.ref 31] [.ref c,.ref 31,.type "ValueError",.type "Exception",.type "BaseException",.type "object"] d [] (some (.ref o)) t u "ValueError.__new__"
def JA:Value:=.str "__main__" 164
def d8:Value:=.str "chancehall.errors" 194
def r8:Value:=.str "chancehall.wholes" 328
def hA:Value:=.str "chancehall.ratios" 348
def mL:Value:=.str "chancehall.levels" 414
def ky:Value:=.str "chancehall.plans" 439
def fw:Value:=.str "chancehall.papers" 471
def g_:Value:=.str "chancehall.solving" 563
def kv:Value:=.str "chancehall.ways" 623
def r3:Value:=.str "chancehall.worths" 653
def Yg:Value:=.str "chancehall.goals" 674
def LH:Value:=.str "chancehall.words" 734
def sI:Value:=.str "chancehall.doors" 744
def G_:Value:=.str "chancehall.halls" 931
def mF:Value:=.str "law_chancehall_k37_whole_greatest_chances" 1046
noncomputable def zM(P:Params)(l:List (String×Nat×Nat))(n:Nat):Obj:=wD (dE P "__name__" 165 mF::dE P "__doc__" 166 .none::dE P "__package__" 167 .none::dE P "__loader__" 168 (.builtin "__main__.__loader__#opaque")::dE P "__spec__" 169 .none::dR P "__annotations__" 170 6::dR P "__builtins__" 171 4::dE P "__file__" 173 (.str "/claim/cut.py" 172)::dE P "__cached__" 174 .none::dM P [("_wall",193,21),("HallError",213,31),("NoNumber",229,44),("NoName",245,56),("NoChance",261,68),("NoShare",277,80),("NoRoom",302,99),("NoPlan",327,118),("is_whole",336,127),("divisor",347,134),("NOUGHT",352,135),("ONE",355,136),("ratio",364,143),("is_ratio",373,150),("plus",381,157),("minus",389,164),("times",397,171),("over",405,178),("under",413,185),("level",421,190),("total",429,197),("greatest",438,204),("first_plan",446,209),("fits",454,216),("check_plan",464,223),("behind_door",470,228),("lowest",478,233),("row_times",484,238),("row_plus",490,243),("take_step",499,250),("number_at",507,257),("fractions_of",513,262),("first_from",523,269),("go_on",532,276),("begin_row",544,283),("clear_column",556,290),("reduced",562,295),("width_of",571,302),("with_rights",577,307),("begins_of",583,312),("odd_row",593,319),("answer_of",605,326),("single_rows",611,331),("only_answer",622,338),("goal_marks",634,345),("meets",640,350),("by_some",646,355),("steps_to",652,360),("chosen_doors",660,365),("left_rows",673,372),("on_the_way",681,377),("plan_chances",687,382),("chances_of",697,389),("picked_door",707,396),("turned_plan",713,401),("settled",725,408),("greatest_chances",733,415)]++dE P "LONGEST_WORD" 737 (.int 8 736)::dM P ([("is_word",743,420),("check_head",753,427),("check_room_name",760,434),("check_chance",767,441),("check_pairs",773,446),("joined_ways",779,451),("Door",826,482),("Sure",853,503),("Mixed",880,522),("Toss",908,541),("Even",930,558),("check_share",939,567),("numbers_of",949,574),("numbered_ways",960,581),("offers_of",971,588),("Hall",1045,643),("_law_cell",1055,654),("_law_stream",1067,661),("_law_gcd",1077,668),("_law_ratio",1086,675),("_law_names",1092,680),("_law_door",1098,685),("_law_doors",1104,690),("_law_built",1110,695),("_law_hall",1116,700),("_law_size",1124,707),("_law_ways",1130,712),("_law_goals",1136,717),("_law_whole",1143,724),("_law_is_fraction",1150,731),("_law_fractions",1156,736),("_law_all_ways",1162,741),("_law_mean",1175,748),("_law_taken",1185,755),("_law_near",1191,760),("_law_chances",1205,767),("_law_chosen",1216,774),("_law_plan",1226,781),("_law_pair",1236,788),("_law_right",1251,795),("_law_refused",1261,802),("_law_odd",1269,809)]++l)++[]) n
def KP(P:Params):Obj:=zM P [] 109
def rT:Obj:=fV "_wall" 0 JA 20
def rL:Obj:=⟨.type "tuple",none,.seq ⟨.type "ValueError"::[]⟩ 0,⟨[]⟩⟩
def Jx(P:Params):Obj:=wD (dC P 203 d8 "HallError" 5 <|dR P "__static_attributes__" 208 29::[]) 4
def rs(P:Params):Obj:=wD (dF P 203 d8 5 <|dR P "__static_attributes__" 208 29::dR P "__weakref__" 210 32::dE P "__doc__" 211 .none::[]) 3
def rr:Obj:=wK "HallError" [.type "ValueError"] [.ref 31,.type "ValueError",.type "Exception",.type "BaseException",.type "object"] 30 [.ref 44,.ref 56,.ref 68,.ref 80,.ref 99,.ref 118] (some (.ref 22)) 196 204 "ValueError.__new__"
def Jn(P:Params):Obj:=wD (dC P 221 d8 "NoNumber" 7 <|dR P "__static_attributes__" 226 42::[]) 4
def rn(P:Params):Obj:=wD (dF P 221 d8 7 <|dR P "__static_attributes__" 226 42::dE P "__doc__" 227 .none::[]) 2
def rh:Obj:=wX "NoNumber" 44 43 35 214 222
def I'(P:Params):Obj:=wD (dC P 237 d8 "NoName" 9 <|dR P "__static_attributes__" 242 54::[]) 4
def q7(P:Params):Obj:=wD (dF P 237 d8 9 <|dR P "__static_attributes__" 242 54::dE P "__doc__" 243 .none::[]) 2
def qV:Obj:=wX "NoName" 56 55 47 230 238
def I0(P:Params):Obj:=wD (dC P 253 d8 "NoChance" 11 <|dR P "__static_attributes__" 258 66::[]) 4
def qQ(P:Params):Obj:=wD (dF P 253 d8 11 <|dR P "__static_attributes__" 258 66::dE P "__doc__" 259 .none::[]) 2
def qH:Obj:=wX "NoChance" 68 67 59 246 254
def IZ(P:Params):Obj:=wD (dC P 269 d8 "NoShare" 13 <|dR P "__static_attributes__" 274 78::[]) 4
def qF(P:Params):Obj:=wD (dF P 269 d8 13 <|dR P "__static_attributes__" 274 78::dE P "__doc__" 275 .none::[]) 2
def qE:Obj:=wX "NoShare" 80 79 71 262 270
def IY(P:Params):Obj:=wD (dC P 285 d8 "NoRoom" 15 <|dR P "__init__" 297 96::dR P "__static_attributes__" 299 97::[]) 5
def qu:Obj:=cO "__init__" "NoRoom.__init__" 290 17 2 3 90 295
def qs:Obj:=fO "__init__" "NoRoom.__init__" (gU 7 0) d8 95
def qr(P:Params):Obj:=wD (dF P 285 d8 15 <|dR P "__init__" 297 96::dR P "__static_attributes__" 299 97::dE P "__doc__" 300 .none::[]) 2
def qp:Obj:=wX "NoRoom" 99 98 83 278 286
def Mn(P:Params):Obj:=wD (dC P 310 d8 "NoPlan" 20 <|dR P "__init__" 322 115::dR P "__static_attributes__" 324 116::[]) 5
def C2:Obj:=cO "__init__" "NoPlan.__init__" 315 22 2 3 109 320
def sF:Obj:=fO "__init__" "NoPlan.__init__" (gU 8 0) d8 114
def BM(P:Params):Obj:=wD (dF P 310 d8 20 <|dR P "__init__" 322 115::dR P "__static_attributes__" 324 116::dE P "__doc__" 325 .none::[]) 2
def Bi:Obj:=wX "NoPlan" 118 117 102 303 311
def BY:Obj:=fV "is_whole" 10 r8 126
def w_:Obj:=tN 340 Qm
def s_:Obj:=fV "divisor" 11 r8 133
def x6:Obj:=⟨.type "tuple",none,.seq ⟨.int 0 350::.int 1 351::[]⟩ 0,⟨[]⟩⟩
def Bn:Obj:=⟨.type "tuple",none,.seq ⟨.int 1 353::.int 1 354::[]⟩ 0,⟨[]⟩⟩
def u3:Obj:=fV "ratio" 15 hA 142
def uQ:Obj:=fV "is_ratio" 16 hA 149
def BI:Obj:=fV "plus" 17 hA 156
def x4:Obj:=fV "minus" 18 hA 163
def uj:Obj:=fV "times" 19 hA 170
def Cr:Obj:=fV "over" 20 hA 177
def Ak:Obj:=fV "under" 21 hA 184
def sC:Obj:=fV "level" 23 mL 189
def vl:Obj:=fV "total" 24 mL 196
def vu:Obj:=fV "greatest" 25 mL 203
def AS:Obj:=cV "first_plan" 441 82 1 3 205 444
def B4:Obj:=fV "first_plan" 27 ky 208
def A2:Obj:=fV "fits" 28 ky 215
def CC:Obj:=cU "check_plan" 455 88 2 3 217 462
def z4:Obj:=fV "check_plan" 29 ky 222
def A8:Obj:=cV "behind_door" 465 95 2 3 224 468
def CI:Obj:=fV "behind_door" 30 ky 227
def AH:Obj:=fV "lowest" 32 fw 232
def uv:Obj:=cV "row_times" 479 104 2 3 234 482
def sP:Obj:=fV "row_times" 33 fw 237
def ym:Obj:=cV "row_plus" 485 106 3 3 239 488
def uJ:Obj:=fV "row_plus" 34 fw 242
def AK:Obj:=cU "take_step" 491 113 2 3 244 497
def uk:Obj:=fV "take_step" 35 fw 249
def BC:Obj:=cU "number_at" 500 122 2 3 251 505
def t6:Obj:=fV "number_at" 36 fw 256
def yn:Obj:=cV "fractions_of" 508 124 1 3 258 511
def Cz:Obj:=fV "fractions_of" 37 fw 261
def yy:Obj:=tN 517 Gj
def uL:Obj:=cU "first_from" 514 126 3 3 263 521
def yh:Obj:=fV "first_from" 38 fw 268
def tq:Obj:=fV "go_on" 39 fw 275
def wJ:Obj:=tN 536 Ih
def BO:Obj:=cU "begin_row" 533 134 5 3 277 542
def C4:Obj:=fV "begin_row" 40 fw 282
def ub:Obj:=tN 548 Am
def B9:Obj:=cU "clear_column" 545 140 4 3 284 554
def A7:Obj:=fV "clear_column" 41 fw 289
def AI:Obj:=fV "reduced" 42 fw 294
def tO:Obj:=cU "width_of" 565 157 1 3 296 569
def tt:Obj:=fV "width_of" 44 g_ 301
def vE:Obj:=cV "with_rights" 572 161 2 3 303 575
def va:Obj:=fV "with_rights" 45 g_ 306
def A6:Obj:=cV "begins_of" 578 163 2 3 308 581
def sD:Obj:=fV "begins_of" 46 g_ 311
def sL:Obj:=fV "odd_row" 47 g_ 318
def yA:Obj:=tN 597 HD
def A':Obj:=cU "answer_of" 594 175 3 3 320 603
def x5:Obj:=fV "answer_of" 48 g_ 325
def tj:Obj:=cV "single_rows" 606 180 1 3 327 609
def As:Obj:=fV "single_rows" 49 g_ 330
def uS:Obj:=tN 615 BZ
def wH:Obj:=cU "only_answer" 612 182 2 3 332 620
def A5:Obj:=fV "only_answer" 50 g_ 337
def um:Obj:=cU "goal_marks" 625 190 2 3 339 632
def tF:Obj:=fV "goal_marks" 52 kv 344
def vv:Obj:=fV "meets" 53 kv 349
def sH:Obj:=fV "by_some" 54 kv 354
def ue:Obj:=cV "steps_to" 647 200 3 3 356 650
def AD:Obj:=fV "steps_to" 55 kv 359
def u1:Obj:=cV "chosen_doors" 655 211 2 3 361 658
def v2:Obj:=fV "chosen_doors" 57 r3 364
def t0:Obj:=tN 664 Ig
def t3:Obj:=cU "left_rows" 661 213 2 3 366 671
def v3:Obj:=fV "left_rows" 58 r3 371
def sx:Obj:=cV "on_the_way" 676 221 2 3 373 679
def CO:Obj:=fV "on_the_way" 60 Yg 376
def w4:Obj:=cV "plan_chances" 682 225 3 3 378 685
def B5:Obj:=fV "plan_chances" 61 Yg 381
def wt:Obj:=cU "chances_of" 688 228 3 3 383 695
def AB:Obj:=fV "chances_of" 62 Yg 388
def y9:Obj:=cU "picked_door" 698 232 3 3 390 705
def BE:Obj:=fV "picked_door" 63 Yg 395
def AL:Obj:=cV "turned_plan" 708 237 4 3 397 711
def BV:Obj:=fV "turned_plan" 64 Yg 400
def yT:Obj:=tN 717 Qh
def AV:Obj:=fV "settled" 65 Yg 407
def v5:Obj:=cU "greatest_chances" 726 251 2 3 409 731
def uR:Obj:=fV "greatest_chances" 66 Yg 414
def AM:Obj:=fV "is_word" 69 LH 419
def A0:Obj:=cU "check_head" 746 260 2 3 421 751
def ww:Obj:=fV "check_head" 71 sI 426
def Be:Obj:=cU "check_room_name" 754 265 1 3 428 758
def wz:Obj:=fV "check_room_name" 72 sI 433
def z3:Obj:=cU "check_chance" 761 268 1 3 435 765
def Cf:Obj:=fV "check_chance" 73 sI 440
def u2:Obj:=cV "check_pairs" 768 271 1 3 442 771
def ut:Obj:=fV "check_pairs" 74 sI 445
def AJ:Obj:=cV "joined_ways" 774 277 1 3 447 777
def ur:Obj:=fV "joined_ways" 75 sI 450
def MC(P:Params):Obj:=wD (dC P 787 sI "Door" 282 <|dM P [("__init__",800,465),("ways",807,472),("chance_to",815,479),("__static_attributes__",819,480)]++[]) 7
def BG:Obj:=cO "__init__" "Door.__init__" 792 284 3 3 459 798
def Cm:Obj:=fO "__init__" "Door.__init__" (gU 76 0) sI 464
def A9:Obj:=fO "ways" "Door.ways" (gU 76 1) sI 471
def CM:Obj:=cO "chance_to" "Door.chance_to" 808 293 2 3 473 813
def vZ:Obj:=fO "chance_to" "Door.chance_to" (gU 76 2) sI 478
def vV(P:Params):Obj:=wD (dF P 787 sI 282 <|dM P [("__init__",800,465),("ways",807,472),("chance_to",815,479),("__static_attributes__",819,480),("__dict__",821,483),("__weakref__",823,484)]++dE P "__doc__" 824 .none::[]) 4
def uC:Obj:=wK "Door" [.type "object"] [.ref 482,.type "object"] 481 [.ref 503,.ref 522] none 780 788 "object.__new__"
def vT:Obj:=⟨.type "getset_descriptor",none,.fields ⟨.str "__dict__" 820::.ref 482::.builtin "function.__dict__"::.builtin "function.__dict__#set"::[]⟩,⟨[]⟩⟩
def LP(P:Params):Obj:=wD (dC P 834 sI "Sure" 295 <|dR P "__init__" 848 500::dR P "__static_attributes__" 850 501::[]) 5
def v6:Obj:=cO "__init__" "Sure.__init__" 839 297 4 3 494 846
def B6:Obj:=fO "__init__" "Sure.__init__" (gU 77 0) sI 499
def ux(P:Params):Obj:=wD (dF P 834 sI 295 <|dR P "__init__" 848 500::dR P "__static_attributes__" 850 501::dE P "__doc__" 851 .none::[]) 2
def AW:Obj:=wK "Sure" [.ref 482] [.ref 503,.ref 482,.type "object"] 502 [] (some (.ref 487)) 827 835 "object.__new__"
def MM(P:Params):Obj:=wD (dC P 861 sI "Mixed" 301 <|dR P "__init__" 875 519::dR P "__static_attributes__" 877 520::[]) 5
def uy:Obj:=cO "__init__" "Mixed.__init__" 866 303 4 3 513 873
def AA:Obj:=fO "__init__" "Mixed.__init__" (gU 78 0) sI 518
def AQ(P:Params):Obj:=wD (dF P 861 sI 301 <|dR P "__init__" 875 519::dR P "__static_attributes__" 877 520::dE P "__doc__" 878 .none::[]) 2
def z1:Obj:=wK "Mixed" [.ref 482] [.ref 522,.ref 482,.type "object"] 521 [.ref 541,.ref 558] (some (.ref 506)) 854 862 "object.__new__"
def L3(P:Params):Obj:=wD (dC P 888 sI "Toss" 307 <|dR P "__init__" 904 538::dR P "__static_attributes__" 905 539::[]) 5
def CY:Obj:=tN 896 Ii
def AT:Obj:=cO "__init__" "Toss.__init__" 893 309 6 3 532 902
def Cn:Obj:=fO "__init__" "Toss.__init__" (gU 79 0) sI 537
def sT(P:Params):Obj:=wD (dF P 888 sI 307 <|dR P "__init__" 904 538::dR P "__static_attributes__" 905 539::dE P "__doc__" 906 .none::[]) 2
def Cb:Obj:=wK "Toss" [.ref 522] [.ref 541,.ref 522,.ref 482,.type "object"] 540 [] (some (.ref 525)) 881 889 "object.__new__"
def LS(P:Params):Obj:=wD (dC P 916 sI "Even" 313 <|dR P "__init__" 926 555::dR P "__static_attributes__" 927 556::[]) 5
def v_:Obj:=cP "__init__" "Even.__init__" 921 315 4 3 551 924
def yz:Obj:=fO "__init__" "Even.__init__" (gU 80 0) sI 554
def vP(P:Params):Obj:=wD (dF P 916 sI 313 <|dR P "__init__" 926 555::dR P "__static_attributes__" 927 556::dE P "__doc__" 928 .none::[]) 2
def Ap:Obj:=wK "Even" [.ref 522] [.ref 558,.ref 522,.ref 482,.type "object"] 557 [] (some (.ref 544)) 909 917 "object.__new__"
def vh:Obj:=cU "check_share" 933 318 1 3 561 937
def CH:Obj:=fV "check_share" 82 G_ 566
def AR:Obj:=cU "numbers_of" 940 321 1 3 568 947
def BS:Obj:=fV "numbers_of" 83 G_ 573
def CF:Obj:=tN 953 xu
def sA:Obj:=cU "numbered_ways" 950 329 2 3 575 958
def wh:Obj:=fV "numbered_ways" 84 G_ 580
def AO:Obj:=tN 964 Il
def t9:Obj:=cU "offers_of" 961 336 2 3 582 969
def tS:Obj:=fV "offers_of" 85 G_ 587
def L6(P:Params):Obj:=wD (dC P 979 G_ "Hall" 345 <|dM P [("__init__",989,600),("size",996,607),("names",1003,614),("place",1011,621),("check_room",1019,628),("door_at",1028,635),("offers",1034,640),("__static_attributes__",1038,641)]++[]) 11
def Cc:Obj:=cP "__init__" "Hall.__init__" 984 347 3 3 596 987
def B8:Obj:=fO "__init__" "Hall.__init__" (gU 86 0) G_ 599
def AY:Obj:=fO "size" "Hall.size" (gU 86 1) G_ 606
def B7:Obj:=cO "names" "Hall.names" 997 356 1 3 608 1001
def tw:Obj:=fO "names" "Hall.names" (gU 86 2) G_ 613
def u0:Obj:=cO "place" "Hall.place" 1004 359 2 3 615 1009
def Au:Obj:=fO "place" "Hall.place" (gU 86 3) G_ 620
def sK:Obj:=cO "check_room" "Hall.check_room" 1012 364 2 3 622 1017
def Cs:Obj:=fO "check_room" "Hall.check_room" (gU 86 4) G_ 627
def vd:Obj:=cO "door_at" "Hall.door_at" 1020 368 3 3 629 1026
def BB:Obj:=fO "door_at" "Hall.door_at" (gU 86 5) G_ 634
def tP:Obj:=cP "offers" "Hall.offers" 1029 371 2 3 636 1032
def CS:Obj:=fO "offers" "Hall.offers" (gU 86 6) G_ 639
def A3(P:Params):Obj:=wD (dF P 979 G_ 345 <|dM P [("__init__",989,600),("size",996,607),("names",1003,614),("place",1011,621),("check_room",1019,628),("door_at",1028,635),("offers",1034,640),("__static_attributes__",1038,641),("__dict__",1040,644),("__weakref__",1042,645)]++dE P "__doc__" 1043 .none::[]) 4
def Bz:Obj:=wK "Hall" [.type "object"] [.ref 643,.type "object"] 642 [] none 972 980 "object.__new__"
def AC:Obj:=⟨.type "getset_descriptor",none,.fields ⟨.str "__dict__" 1039::.ref 643::.builtin "function.__dict__"::.builtin "function.__dict__#set"::[]⟩,⟨[]⟩⟩
def AE:Obj:=cU "_law_cell" 1048 375 2 3 648 1053
def zo:Obj:=fV "_law_cell" 88 mF 653
def z5:Obj:=tN 1059 Wc
def tI:Obj:=cU "_law_stream" 1056 377 2 3 655 1065
def w':Obj:=fV "_law_stream" 89 mF 660
def BU:Obj:=tN 1071 Dx
def x_:Obj:=cU "_law_gcd" 1068 388 2 3 662 1075
def yg:Obj:=fV "_law_gcd" 90 mF 667
def sQ:Obj:=tN 1081 Vb
def Ct:Obj:=cU "_law_ratio" 1078 393 2 3 669 1084
def v1:Obj:=fV "_law_ratio" 91 mF 674
def yu:Obj:=cV "_law_names" 1087 396 2 3 676 1090
def A1:Obj:=fV "_law_names" 92 mF 679
def sN:Obj:=cV "_law_door" 1093 405 2 3 681 1096
def yN:Obj:=fV "_law_door" 93 mF 684
def w6:Obj:=cV "_law_doors" 1099 422 4 3 686 1102
def An:Obj:=fV "_law_doors" 94 mF 689
def ui:Obj:=cV "_law_built" 1105 432 3 3 691 1108
def AF:Obj:=fV "_law_built" 95 mF 694
def t4:Obj:=cV "_law_hall" 1111 442 3 3 696 1114
def t8:Obj:=fV "_law_hall" 96 mF 699
def AU:Obj:=cU "_law_size" 1117 449 1 3 701 1122
def tY:Obj:=fV "_law_size" 97 mF 706
def u7:Obj:=cV "_law_ways" 1125 456 1 3 708 1128
def BA:Obj:=fV "_law_ways" 98 mF 711
def A4:Obj:=cV "_law_goals" 1131 462 2 3 713 1134
def t7:Obj:=fV "_law_goals" 99 mF 716
def tf:Obj:=cU "_law_whole" 1137 467 1 3 718 1141
def C1:Obj:=fV "_law_whole" 100 mF 723
def By:Obj:=cU "_law_is_fraction" 1144 469 1 3 725 1148
def yY:Obj:=fV "_law_is_fraction" 101 mF 730
def sM:Obj:=cV "_law_fractions" 1151 475 2 3 732 1154
def wm:Obj:=fV "_law_fractions" 102 mF 735
def zp:Obj:=cV "_law_all_ways" 1157 479 1 3 737 1160
def AZ:Obj:=fV "_law_all_ways" 103 mF 740
def vC:Obj:=tN 1166 E3
def Co:Obj:=cU "_law_mean" 1163 481 2 3 742 1173
def uB:Obj:=fV "_law_mean" 104 mF 747
def tm:Obj:=tN 1179 GJ
def y_:Obj:=cU "_law_taken" 1176 489 2 3 749 1183
def z6:Obj:=fV "_law_taken" 105 mF 754
def BQ:Obj:=cV "_law_near" 1186 497 2 3 756 1189
def BN:Obj:=fV "_law_near" 106 mF 759
def B3:Obj:=tN 1195 Qi
def CL:Obj:=cU "_law_chances" 1192 504 4 3 761 1203
def v4:Obj:=fV "_law_chances" 107 mF 766
def vb:Obj:=tN 1209 Xc
def tJ:Obj:=cU "_law_chosen" 1206 518 2 3 768 1214
def t5:Obj:=fV "_law_chosen" 108 mF 773
def uF:Obj:=tN 1220 Fl
def tz:Obj:=cU "_law_plan" 1217 527 2 3 775 1224
def yk:Obj:=fV "_law_plan" 109 mF 780
def ua:Obj:=tN 1230 FY
def zv:Obj:=cU "_law_pair" 1227 536 4 3 782 1234
def uA:Obj:=fV "_law_pair" 110 mF 787
def At:Obj:=tN 1240 GS
def Cj:Obj:=cU "_law_right" 1237 540 4 3 789 1249
def v':Obj:=fV "_law_right" 111 mF 794
def u8:Obj:=tN 1255 Qc
def AG:Obj:=cU "_law_refused" 1252 550 2 3 796 1259
def xx:Obj:=fV "_law_refused" 112 mF 801
def CD:Obj:=cU "_law_odd" 1262 557 2 3 803 1267
def yG:Obj:=fV "_law_odd" 113 mF 808
def Iq(P:Params):BT:=nd (boot_o_0 P) (nd (boot_o_1 P) (nd (KP P) (nd (boot_o_7 P) (nd tE (nd rr (nd fE (nd BY (n2 (fU "number_at" 36) (wC "Mixed" 856 301 509 859) v4) (n1 tE tP)) (nd tE (n1 sL tE) (n1 tE (tN 1120 YQ)))) (nd qu (nd fE (n2 tE (wB 541) tE) (n1 uR sQ)) (nd z4 (n1 tE AY) (n1 vZ sM)))) (nd (wT 31) (nd (qF P) (nd u3 (n2 fE (L3 P) fE) (n1 (fU "turned_plan" 64) tE)) (nd (fU "first_plan" 27) (n1 tE (L6 P)) (n1 (fT "__init__" "Door.__init__" (gU 76 0)) fE))) (nd (tN 318 d_) (nd tE (n1 tE (wS 558)) (n1 tE fE)) (nd tE (n1 fE fE) (n1 fE tm))))) (nd wA (nd fE (nd (wT 31) (nd x6 (n2 tE AA tE) (n1 fE (wB 643))) (nd fE (n1 tE fE) (n1 tE u7))) (nd wA (nd (tN 393 cT) (n2 AI tE (fU "_law_odd" 113)) (n1 (tN 749 vX) yu)) (nd (fU "lowest" 32) (n1 ue tE) (n1 (wT 482) fE)))) (nd (q7 P) (nd (⟨.none,none,.fields ⟨i3 17 4 95 <|[]⟩,⟨[]⟩⟩) (nd tE (n2 wJ tE At) (n1 (cU "settled" 714 244 4 3 402 723) fE)) (nd (cU "fits" 447 84 2 3 210 452) (n1 (fU "goal_marks" 52) Cc) (n1 (cO "ways" "Door.ways" 801 290 1 3 466 805) (tN 1147 Er)))) (nd (wS 118) (nd (fU "under" 21) (n1 A6 CH) (n1 (fU "check_chance" 73) AF)) (nd tE (n1 (fU "on_the_way" 60) (tN 1023 Ai)) (n1 AW BQ)))))) (nd mI (nd (fU "_wall" 0) (nd (wT 31) (nd (qQ P) (nd tE (n2 fE (tN 869 wU) tE) (n1 (fU "chances_of" 62) Bz)) (nd (fU "total" 24) (n1 tE (fU "numbered_ways" 84)) (n1 ur tY))) (nd qp (nd (cU "minus" 382 58 2 3 158 387) (n2 tE tE tE) (n1 (cV "is_word" 738 255 1 3 416 741) v1)) (nd A8 (n1 sH tE) (n1 vT (fU "_law_all_ways" 103))))) (nd fE (nd (wT 31) (nd tE (n2 (cU "go_on" 524 131 3 3 270 530) (wF 530 527 "chancehall.doors" 744) zv) (n1 fE (fU "_law_stream" 89))) (nd fE (n1 tE (wF 594 591 "chancehall.halls" 931)) (n1 fE tf))) (nd sF (nd tE (n1 va (tN 936 ["share"])) (n1 tE tE)) (nd uJ (n1 t3 sK) (n1 v6 z6))))) (nd (wC "HallError" 198 5 25 201) (nd (rn P) (nd fE (nd (tN 359 T_) (n2 (fU "first_from" 38) (wS 522) (fU "_law_plan" 109)) (n1 y9 tE)) (nd (cU "greatest" 430 75 1 3 198 436) (n1 As t9) (n1 tE (fU "_law_goals" 99)))) (nd (wC "NoPlan" 305 20 105 308) (nd uj (n1 tE yz) (n1 ww (fU "_law_door" 93))) (nd fE (n1 (fU "chosen_doors" 57) (fT "place" "Hall.place" (gU 86 3))) (n1 (⟨.none,none,.fields ⟨i3 297 4 499 <|[]⟩,⟨[]⟩⟩) Co)))) (nd (wT 31) (nd fE (nd (fU "plus" 17) (n2 C4 tE v') (n1 (tN 729 eE) x_)) (nd (tN 458 w5) (n1 fE (tN 993 ["self"])) (n1 (tN 811 d_) yY))) (nd (tN 333 ["thing"]) (nd fE (n1 (tN 587 Gq) tE) (n1 fE t4)) (nd tE (n1 fE BB) (n1 wA B3))))))) (nd (boot_o_5 P) (nd (boot_o_9 P) (nd (tN 190 ["k"]) (nd (wS 31) (nd (wF 64 61 "chancehall.errors" 194) (nd fE (n2 t6 tE fE) (n1 (tN 691 wj) (tN 1035 ["numbers","offered","share"]))) (nd (tN 425 Q7) (n1 fE CF) (n1 (fU "joined_ways" 75) (fU "_law_size" 97)))) (nd (tN 298 ["room"]) (nd tE (n2 B9 wA AG) (n1 fE (fU "_law_ratio" 91))) (nd fE (n1 (fU "by_some" 54) fE) (n1 (vV P) tE)))) (nd (I' P) (nd (wS 80) (nd fE (n2 tE (⟨.none,none,.fields ⟨i3 309 4 537 <|[]⟩,⟨[]⟩⟩) tE) (n1 BV z5)) (nd B4 (n1 wH (⟨.none,none,.fields ⟨i3 347 4 599 <|i3 353 4 606 <|i3 356 4 613 <|i3 359 4 620 <|i3 364 4 627 <|i3 368 4 634 <|i3 371 4 639 <|[]⟩,⟨[]⟩⟩)) (n1 Cm tE))) (nd (fT "__init__" "NoPlan.__init__" (gU 8 0)) (nd (cU "over" 398 62 2 3 172 403) (n1 (fU "with_rights" 45) tE) (n1 Be w6)) (nd (fU "row_plus" 34) (n1 tE tE) (n1 tE (fU "_law_taken" 105)))))) (nd tE (nd (wF 40 37 "chancehall.errors" 194) (nd (IZ P) (nd tE (n2 yy (AQ P) uF) (n1 tE fE)) (nd tE (n1 (fU "single_rows" 49) tE) (n1 (wC "Door" 782 282 455 785) tE))) (nd tE (nd (fU "times" 19) (n2 fE (fT "__init__" "Even.__init__" (gU 80 0)) yG) (n1 (fU "check_head" 71) tE)) (nd AH (n1 tE (tN 1007 DP)) (n1 (LP P) tE)))) (nd (wS 56) (nd (wF 88 85 "chancehall.errors" 194) (nd (tN 377 cT) (n2 (fU "begin_row" 40) AT (fU "_law_right" 111)) (n1 tE tE)) (nd tE (n1 tF tE) (n1 tE (fU "_law_is_fraction" 101)))) (nd tE (nd Ak (n1 tE fE) (n1 Cf fE)) (nd AK (n1 CO (fT "door_at" "Hall.door_at" (gU 86 5))) (n1 (wB 503) tE)))))) (nd mE (nd rT (nd (Jn P) (nd (wS 68) (nd (cU "divisor" 337 28 2 3 128 345) (n2 yn (fT "__init__" "Mixed.__init__" (gU 78 0)) tJ) (n1 AB (wG 1041 643))) (nd vl (n1 A' wh) (n1 wA fE))) (nd (wB 99) (nd tE (n2 (fU "reduced" 42) (wC "Even" 911 313 547 914) (tN 1265 gF)) (n1 tE fE)) (nd tE (n1 fE B7) (n1 (wS 482) AZ)))) (nd (wF 52 49 "chancehall.errors" 194) (nd (IY P) (nd (cU "is_ratio" 365 48 1 3 144 371) (n2 tE fE tE) (n1 tE w')) (nd tE (n1 (tN 628 vN) fE) (n1 tE tE))) (nd (BM P) (nd (tN 409 cT) (n1 fE (fU "check_share" 82)) (n1 (tN 764 ["chance"]) (fU "_law_built" 95))) (nd fE (n1 tE tE) (n1 (tN 849 ["leads"]) fE))))) (nd tE (nd (wS 44) (nd (wF 76 73 "chancehall.errors" 194) (nd (fU "ratio" 15) (n2 yh (wT 522) yk) (n1 tE AE)) (nd tE (n1 fE tE) (n1 (tN 795 yR) t7))) (nd tE (nd fE (n1 tO (vP P)) (n1 fE yN)) (nd uv (n1 v2 Au) (n1 (wF 492 489 "chancehall.doors" 744) tE)))) (nd (I0 P) (nd tE (nd BI (n2 fE Cb fE) (n1 (fU "greatest_chances" 66) tE)) (nd (fU "check_plan" 29) (n1 (cV "meets" 635 196 2 3 346 638) (fT "size" "Hall.size" (gU 86 1))) (n1 (fT "chance_to" "Door.chance_to" (gU 76 2)) fE))) (nd (fU "is_whole" 10) (nd (cV "level" 416 67 1 3 186 419) (n1 (fU "odd_row" 47) AR) (n1 u2 tE)) (nd (tN 503 yZ) (n1 w4 fE) (n1 tE (fU "_law_chances" 107))))))))) (nd (boot_o_2 P) (nd (boot_o_4 P) (nd (boot_o_8 P) (nd fE (nd (wG 209 31) (nd (wC "NoChance" 248 11 62 251) (nd tE (n2 BC (wF 511 508 "chancehall.doors" 744) tE) (n1 fE CS)) (nd fE (n1 tE fE) (n1 fE tE))) (nd qs (nd (tN 385 cT) (n2 (fU "clear_column" 41) (wT 522) (fU "_law_refused" 112)) (n1 tE tE)) (nd tE (n1 fE tE) (n1 (tN 816 ["leads","name","pay"]) wm)))) (nd wA (nd qE (nd tE (n2 (tN 527 Tz) tE ua) (n1 AL fE)) (nd AS (n1 (fU "only_answer" 50) tE) (n1 BG (tN 1140 Er)))) (nd tE (nd (fU "over" 20) (n1 fE (wB 558)) (n1 (fU "check_room_name" 72) (fU "_law_doors" 94))) (nd fE (n1 t0 (tN 1015 d_)) (n1 (tN 842 yD) tE))))) (nd (Jx P) (nd (wC "NoNumber" 216 7 38 219) (nd wA (nd Bn (n2 fE (tN 876 ["leads"]) fE) (n1 (tN 701 ug) tE)) (nd (tN 433 CZ) (n1 fE AO) (n1 (⟨.none,none,.fields ⟨i3 284 4 464 <|i3 290 4 471 <|i3 293 4 478 <|[]⟩,⟨[]⟩⟩) BA))) (nd (Mn P) (nd tE (n2 tE fE CD) (n1 tE A1)) (nd (cV "lowest" 473 99 2 3 229 476) (n1 AD fE) (n1 wA vC)))) (nd qV (nd (wC "NoRoom" 280 15 86 283) (nd fE (n2 tE (fT "__init__" "Toss.__init__" (gU 79 0)) tE) (n1 AV BU)) (nd A2 (n1 um B8) (n1 A9 tE))) (nd (wB 118) (nd (cU "under" 406 64 2 3 179 411) (n1 sD tE) (n1 z3 tE)) (nd (fU "take_step" 35) (n1 sx tE) (n1 (wS 503) BN)))))) (nd (⟨.none,none,.fields ⟨i3 1 0 20 <|i3 5 0 27 <|i3 7 0 40 <|i3 9 0 52 <|i3 11 0 64 <|i3 13 0 76 <|i3 15 0 88 <|i3 20 0 107 <|i3 26 0 126 <|i3 28 0 133 <|i3 39 0 142 <|i3 48 0 149 <|i3 56 0 156 <|i3 58 0 163 <|i3 60 0 170 <|i3 62 0 177 <|i3 64 0 184 <|i3 67 0 189 <|i3 72 0 196 <|i3 75 0 203 <|i3 82 0 208 <|i3 84 0 215 <|i3 88 0 222 <|i3 95 0 227 <|i3 99 0 232 <|i3 104 0 237 <|i3 106 0 242 <|i3 113 0 249 <|i3 122 0 256 <|i3 124 0 261 <|i3 126 0 268 <|i3 131 0 275 <|i3 134 0 282 <|i3 140 0 289 <|i3 145 0 294 <|i3 157 0 301 <|i3 161 0 306 <|i3 163 0 311 <|i3 170 0 318 <|i3 175 0 325 <|i3 180 0 330 <|i3 182 0 337 <|i3 190 0 344 <|i3 196 0 349 <|i3 198 0 354 <|i3 200 0 359 <|i3 211 0 364 <|i3 213 0 371 <|i3 221 0 376 <|i3 225 0 381 <|i3 228 0 388 <|i3 232 0 395 <|i3 237 0 400 <|i3 244 0 407 <|i3 251 0 414 <|i3 255 0 419 <|i3 260 0 426 <|i3 265 0 433 <|i3 268 0 440 <|i3 271 0 445 <|i3 277 0 450 <|i3 282 0 457 <|i3 295 0 492 <|i3 301 0 511 <|i3 307 0 530 <|i3 313 0 549 <|i3 318 0 566 <|i3 321 0 573 <|i3 329 0 580 <|i3 336 0 587 <|i3 345 0 594 <|i3 375 0 653 <|i3 377 0 660 <|i3 388 0 667 <|i3 393 0 674 <|i3 396 0 679 <|i3 405 0 684 <|i3 422 0 689 <|i3 432 0 694 <|i3 442 0 699 <|i3 449 0 706 <|i3 456 0 711 <|i3 462 0 716 <|i3 467 0 723 <|i3 469 0 730 <|i3 475 0 735 <|i3 479 0 740 <|i3 481 0 747 <|i3 489 0 754 <|i3 497 0 759 <|i3 504 0 766 <|i3 518 0 773 <|i3 527 0 780 <|i3 536 0 787 <|i3 540 0 794 <|i3 550 0 801 <|i3 557 0 808 <|[]⟩,⟨[]⟩⟩) (nd (cU "_wall" 187 1 1 3 15 191) (nd wA (nd qH (nd (fU "divisor" 11) (n2 (fU "fractions_of" 37) tE (fU "_law_chosen" 108)) (n1 wt AC)) (nd (cU "total" 422 72 1 3 191 427) (n1 (fU "answer_of" 48) sA) (n1 tE tE))) (nd (wS 99) (nd x4 (n2 fE (⟨.none,none,.fields ⟨i3 315 4 554 <|[]⟩,⟨[]⟩⟩) fE) (n1 AM tE)) (nd CI (n1 tE (fT "names" "Hall.names" (gU 86 2))) (n1 (wG 822 482) zp)))) (nd (wC "NoName" 232 9 50 235) (nd wA (nd (fU "is_ratio" 16) (n2 tq tE uA) (n1 yT tI)) (nd (tN 450 Y0) (n1 fE tE) (n1 (tN 804 ["self"]) C1))) (nd (tN 323 ["room"]) (nd fE (n1 tE tE) (n1 fE fE)) (nd tE (n1 v3 Cs) (n1 B6 tE))))) (nd (wF 27 24 "chancehall.errors" 194) (nd rh (nd (wC "NoShare" 264 13 74 267) (nd tE (n2 uL (wB 522) tz) (n1 BE (fU "_law_cell" 88))) (nd vu (n1 tE tS) (n1 fE A4))) (nd (wF 107 104 "chancehall.errors" 194) (nd tE (n1 (fU "width_of" 44) tE) (n1 tE sN)) (nd (fU "row_times" 33) (n1 u1 u0) (n1 (wC "Sure" 829 295 490 832) uB)))) (nd wA (nd (tN 293 d_) (nd (cU "plus" 374 56 2 3 151 379) (n2 tE (sT P) tE) (n1 tE yg)) (nd tE (n1 (fU "meets" 53) tE) (n1 tE tE))) (nd tE (nd (fU "level" 23) (n1 tE (fU "numbers_of" 83)) (n1 (fU "check_pairs" 74) t8)) (nd fE (n1 (fU "plan_chances" 61) tE) (n1 (MM P) tE))))))) (nd (boot_o_6 P) (nd (boot_o_10 P) (nd tE (nd (wB 31) (nd tE (nd w_ (n2 tE fE vb) (n1 tE (A3 P))) (nd tE (n1 yA tE) (n1 AJ AU))) (nd (qr P) (nd (fU "minus" 18) (n2 A7 (LS P) xx) (n1 (fU "is_word" 69) Ct)) (nd (fU "behind_door" 30) (n1 (cV "by_some" 641 198 2 3 351 644) (tN 1000 ["self"])) (n1 uC fE)))) (nd tE (nd (wB 80) (nd (tN 368 CG) (n2 (fU "go_on" 39) (wC "Toss" 883 307 528 886) (fU "_law_pair" 110)) (n1 tE tE)) (nd tE (n1 A5 (wC "Hall" 974 345 592 977)) (n1 tE (fU "_law_whole" 100)))) (nd C2 (nd Cr (n1 vE fE) (n1 wz An)) (nd ym (n1 (fU "left_rows" 58) (fT "check_room" "Hall.check_room" (gU 86 4))) (n1 (fT "__init__" "Sure.__init__" (gU 77 0)) y_))))) (nd fE (nd tE (nd tE (nd fE (n2 tE z1 tE) (n1 (fU "picked_door" 63) (tN 1051 Yr))) (nd (fU "greatest" 25) (n1 tj (fU "offers_of" 85)) (n1 (wF 457 454 "chancehall.doors" 744) fE))) (nd (⟨.none,none,.fields ⟨i3 22 4 114 <|[]⟩,⟨[]⟩⟩) (nd (cU "times" 390 60 2 3 165 395) (n1 (tN 568 ["rows"]) v_) (n1 A0 fE)) (nd tE (n1 fE tE) (n1 tE (fU "_law_mean" 104))))) (nd (wB 56) (nd tE (nd tE (n2 BO Cn Cj) (n1 fE (fU "_law_gcd" 90))) (nd fE (n1 tE fE) (n1 fE By))) (nd fE (nd tE (n1 fE (tN 943 vL)) (n1 tE (fU "_law_hall" 96))) (nd uk (n1 tE vd) (n1 (wT 482) fE)))))) (nd mB (nd rL (nd tE (nd (wB 68) (nd s_ (n2 Cz uy t5) (n1 tE (wS 643))) (nd tE (n1 x5 tE) (n1 (MC P) (fU "_law_ways" 98)))) (nd (wT 31) (nd fE (n2 (cV "reduced" 557 145 2 3 291 560) (wF 549 546 "chancehall.doors" 744) tE) (n1 fE (fU "_law_names" 92))) (nd fE (n1 (fU "steps_to" 55) tw) (n1 (wB 482) tE)))) (nd tE (nd tE (nd uQ (n2 fE CY fE) (n1 (fU "settled" 65) tE)) (nd (fU "fits" 28) (n1 tE (fT "__init__" "Hall.__init__" (gU 86 0))) (n1 (fT "ways" "Door.ways" (gU 76 1)) fE))) (nd Bi (nd tE (n1 (fU "begins_of" 46) vh) (n1 tE ui)) (nd (tN 494 Al) (n1 fE fE) (n1 (ux P) (fU "_law_near" 106)))))) (nd (rs P) (nd (wB 44) (nd tE (nd (cU "ratio" 356 39 2 3 137 362) (n2 tE wA tE) (n1 fE zo)) (nd fE (n1 uS wA) (n1 tE tE))) (nd fE (nd (tN 401 cT) (n1 tt Ap) (n1 (tN 757 ["room"]) tE)) (nd sP (n1 tE tE) (n1 tE fE)))) (nd tE (nd (fT "__init__" "NoRoom.__init__" (gU 7 0)) (nd tE (n2 ub (wS 541) u8) (n1 v5 fE)) (nd CC (n1 vv (cO "size" "Hall.size" 990 353 1 3 601 994)) (n1 CM (fU "_law_fractions" 102)))) (nd (cU "is_whole" 330 26 1 3 121 334) (nd sC (n1 (cU "odd_row" 584 170 3 3 313 591) BS) (n1 ut fE)) (nd tE (n1 B5 (fT "offers" "Hall.offers" (gU 86 6))) (n1 (⟨.none,none,.fields ⟨i3 303 4 518 <|[]⟩,⟨[]⟩⟩) CL))))))))
def S1(w:World)(os:OsState):SharedT:=⟨Iq w.params,810,{},⟨[]⟩,{},1270,os⟩
def e1:Pos:=⟨557,0,558,141⟩
def KH:Params->Frag:=λP=>((nat_lit 2,boot_o_2 P)::(nat_lit 3,zM P [("_law_is_none",1282,816),("law",1288,821)] 111)::(nat_lit 15,tE)::(nat_lit 17,tN 190 ["k"])::(nat_lit 18,tE)::(nat_lit 20,cU "_wall" 187 1 1 3 15 191)::(nat_lit 21,rT)::(nat_lit 22,rL)::(nat_lit 29,tE)::(nat_lit 30,rs P)::(nat_lit 31,rr)::(nat_lit 32,(wG 209 31))::(nat_lit 35,(wT 31))::(nat_lit 42,tE)::(nat_lit 43,rn P)::(nat_lit 44,rh)::(nat_lit 47,(wT 31))::(nat_lit 54,tE)::(nat_lit 55,q7 P)::(nat_lit 56,qV)::(nat_lit 59,(wT 31))::(nat_lit 66,tE)::(nat_lit 67,qQ P)::(nat_lit 68,qH)::(nat_lit 71,(wT 31))::(nat_lit 78,tE)::(nat_lit 79,qF P)::(nat_lit 80,qE)::(nat_lit 83,(wT 31))::(nat_lit 90,tE)::(nat_lit 92,tN 293 d_)::(nat_lit 93,tE)::(nat_lit 95,qu)::(nat_lit 96,qs)::(nat_lit 97,tN 298 ["room"])::(nat_lit 98,qr P)::(nat_lit 99,qp)::(nat_lit 102,(wT 31))::(nat_lit 109,tE)::(nat_lit 111,tN 318 d_)::(nat_lit 112,tE)::(nat_lit 114,C2)::(nat_lit 115,sF)::(nat_lit 116,tN 323 ["room"])::(nat_lit 117,BM P)::(nat_lit 118,Bi)::(nat_lit 121,tE)::(nat_lit 123,tN 333 ["thing"])::(nat_lit 124,tE)::(nat_lit 126,cU "is_whole" 330 26 1 3 121 334)::(nat_lit 127,BY)::(nat_lit 128,tE)::(nat_lit 130,w_)::(nat_lit 131,tE)::(nat_lit 133,cU "divisor" 337 28 2 3 128 345)::(nat_lit 134,s_)::(nat_lit 135,x6)::(nat_lit 136,Bn)::(nat_lit 137,tE)::(nat_lit 139,tN 359 T_)::(nat_lit 140,tE)::(nat_lit 142,cU "ratio" 356 39 2 3 137 362)::(nat_lit 143,u3)::(nat_lit 144,tE)::(nat_lit 146,tN 368 CG)::(nat_lit 147,tE)::(nat_lit 149,cU "is_ratio" 365 48 1 3 144 371)::(nat_lit 150,uQ)::(nat_lit 151,tE)::(nat_lit 153,tN 377 cT)::(nat_lit 154,tE)::(nat_lit 156,cU "plus" 374 56 2 3 151 379)::(nat_lit 157,BI)::(nat_lit 158,tE)::(nat_lit 160,tN 385 cT)::(nat_lit 161,tE)::(nat_lit 163,cU "minus" 382 58 2 3 158 387)::(nat_lit 164,x4)::(nat_lit 165,tE)::(nat_lit 167,tN 393 cT)::(nat_lit 168,tE)::(nat_lit 170,cU "times" 390 60 2 3 165 395)::(nat_lit 171,uj)::(nat_lit 172,tE)::(nat_lit 174,tN 401 cT)::(nat_lit 175,tE)::(nat_lit 177,cU "over" 398 62 2 3 172 403)::(nat_lit 178,Cr)::(nat_lit 179,tE)::(nat_lit 181,tN 409 cT)::(nat_lit 182,tE)::(nat_lit 184,cU "under" 406 64 2 3 179 411)::(nat_lit 185,Ak)::(nat_lit 186,tE)::(nat_lit 189,cV "level" 416 67 1 3 186 419)::(nat_lit 190,sC)::(nat_lit 191,tE)::(nat_lit 193,tN 425 Q7)::(nat_lit 194,tE)::(nat_lit 196,cU "total" 422 72 1 3 191 427)::(nat_lit 197,vl)::(nat_lit 198,tE)::(nat_lit 200,tN 433 CZ)::(nat_lit 201,tE)::(nat_lit 203,cU "greatest" 430 75 1 3 198 436)::(nat_lit 204,vu)::(nat_lit 205,tE)::(nat_lit 208,AS)::(nat_lit 209,B4)::(nat_lit 210,tE)::(nat_lit 212,tN 450 Y0)::(nat_lit 213,tE)::(nat_lit 215,cU "fits" 447 84 2 3 210 452)::(nat_lit 216,A2)::(nat_lit 217,tE)::(nat_lit 219,tN 458 w5)::(nat_lit 220,tE)::(nat_lit 222,CC)::(nat_lit 223,z4)::(nat_lit 224,tE)::(nat_lit 227,A8)::(nat_lit 228,CI)::(nat_lit 229,tE)::(nat_lit 232,cV "lowest" 473 99 2 3 229 476)::(nat_lit 233,AH)::(nat_lit 234,tE)::(nat_lit 237,uv)::(nat_lit 238,sP)::(nat_lit 239,tE)::(nat_lit 242,ym)::(nat_lit 243,uJ)::(nat_lit 244,tE)::(nat_lit 246,tN 494 Al)::(nat_lit 247,tE)::(nat_lit 249,AK)::(nat_lit 250,uk)::(nat_lit 251,tE)::(nat_lit 253,tN 503 yZ)::(nat_lit 254,tE)::(nat_lit 256,BC)::(nat_lit 257,t6)::(nat_lit 258,tE)::(nat_lit 261,yn)::(nat_lit 262,Cz)::(nat_lit 263,tE)::(nat_lit 265,yy)::(nat_lit 266,tE)::(nat_lit 268,uL)::(nat_lit 269,yh)::(nat_lit 270,tE)::(nat_lit 272,tN 527 Tz)::(nat_lit 273,tE)::(nat_lit 275,cU "go_on" 524 131 3 3 270 530)::(nat_lit 276,tq)::(nat_lit 277,tE)::(nat_lit 279,wJ)::(nat_lit 280,tE)::(nat_lit 282,BO)::(nat_lit 283,C4)::(nat_lit 284,tE)::(nat_lit 286,ub)::(nat_lit 287,tE)::(nat_lit 289,B9)::(nat_lit 290,A7)::(nat_lit 291,tE)::(nat_lit 294,cV "reduced" 557 145 2 3 291 560)::(nat_lit 295,AI)::(nat_lit 296,tE)::(nat_lit 298,tN 568 ["rows"])::(nat_lit 299,tE)::(nat_lit 301,tO)::(nat_lit 302,tt)::(nat_lit 303,tE)::(nat_lit 306,vE)::(nat_lit 307,va)::(nat_lit 308,tE)::(nat_lit 311,A6)::(nat_lit 312,sD)::(nat_lit 313,tE)::(nat_lit 315,tN 587 Gq)::(nat_lit 316,tE)::(nat_lit 318,cU "odd_row" 584 170 3 3 313 591)::(nat_lit 319,sL)::(nat_lit 320,tE)::(nat_lit 322,yA)::(nat_lit 323,tE)::(nat_lit 325,A')::(nat_lit 326,x5)::(nat_lit 327,tE)::(nat_lit 330,tj)::(nat_lit 331,As)::(nat_lit 332,tE)::(nat_lit 334,uS)::(nat_lit 335,tE)::(nat_lit 337,wH)::(nat_lit 338,A5)::(nat_lit 339,tE)::(nat_lit 341,tN 628 vN)::(nat_lit 342,tE)::(nat_lit 344,um)::(nat_lit 345,tF)::(nat_lit 346,tE)::(nat_lit 349,cV "meets" 635 196 2 3 346 638)::(nat_lit 350,vv)::(nat_lit 351,tE)::(nat_lit 354,cV "by_some" 641 198 2 3 351 644)::(nat_lit 355,sH)::(nat_lit 356,tE)::(nat_lit 359,ue)::(nat_lit 360,AD)::(nat_lit 361,tE)::(nat_lit 364,u1)::(nat_lit 365,v2)::(nat_lit 366,tE)::(nat_lit 368,t0)::(nat_lit 369,tE)::(nat_lit 371,t3)::(nat_lit 372,v3)::(nat_lit 373,tE)::(nat_lit 376,sx)::(nat_lit 377,CO)::(nat_lit 378,tE)::(nat_lit 381,w4)::(nat_lit 382,B5)::(nat_lit 383,tE)::(nat_lit 385,tN 691 wj)::(nat_lit 386,tE)::(nat_lit 388,wt)::(nat_lit 389,AB)::(nat_lit 390,tE)::(nat_lit 392,tN 701 ug)::(nat_lit 393,tE)::(nat_lit 395,y9)::(nat_lit 396,BE)::(nat_lit 397,tE)::(nat_lit 400,AL)::(nat_lit 401,BV)::(nat_lit 402,tE)::(nat_lit 404,yT)::(nat_lit 405,tE)::(nat_lit 407,cU "settled" 714 244 4 3 402 723)::(nat_lit 408,AV)::(nat_lit 409,tE)::(nat_lit 411,tN 729 eE)::(nat_lit 412,tE)::(nat_lit 414,v5)::(nat_lit 415,uR)::(nat_lit 416,tE)::(nat_lit 419,cV "is_word" 738 255 1 3 416 741)::(nat_lit 420,AM)::(nat_lit 421,tE)::(nat_lit 423,tN 749 vX)::(nat_lit 424,tE)::(nat_lit 426,A0)::(nat_lit 427,ww)::(nat_lit 428,tE)::(nat_lit 430,tN 757 ["room"])::(nat_lit 431,tE)::(nat_lit 433,Be)::(nat_lit 434,wz)::(nat_lit 435,tE)::(nat_lit 437,tN 764 ["chance"])::(nat_lit 438,tE)::(nat_lit 440,z3)::(nat_lit 441,Cf)::(nat_lit 442,tE)::(nat_lit 445,u2)::(nat_lit 446,ut)::(nat_lit 447,tE)::(nat_lit 450,AJ)::(nat_lit 451,ur)::(nat_lit 459,tE)::(nat_lit 461,tN 795 yR)::(nat_lit 462,tE)::(nat_lit 464,BG)::(nat_lit 465,Cm)::(nat_lit 466,tE)::(nat_lit 468,tN 804 ["self"])::(nat_lit 469,tE)::(nat_lit 471,cO "ways" "Door.ways" 801 290 1 3 466 805)::(nat_lit 472,A9)::(nat_lit 473,tE)::(nat_lit 475,tN 811 d_)::(nat_lit 476,tE)::(nat_lit 478,CM)::(nat_lit 479,vZ)::(nat_lit 480,tN 816 ["leads","name","pay"])::(nat_lit 481,vV P)::(nat_lit 482,uC)::(nat_lit 483,vT)::(nat_lit 484,(wG 822 482))::(nat_lit 487,(wT 482))::(nat_lit 494,tE)::(nat_lit 496,tN 842 yD)::(nat_lit 497,tE)::(nat_lit 499,v6)::(nat_lit 500,B6)::(nat_lit 501,tN 849 ["leads"])::(nat_lit 502,ux P)::(nat_lit 503,AW)::(nat_lit 506,(wT 482))::(nat_lit 513,tE)::(nat_lit 515,tN 869 wU)::(nat_lit 516,tE)::(nat_lit 518,uy)::(nat_lit 519,AA)::(nat_lit 520,tN 876 ["leads"])::(nat_lit 521,AQ P)::(nat_lit 522,z1)::(nat_lit 525,(wT 522))::(nat_lit 532,tE)::(nat_lit 534,CY)::(nat_lit 535,tE)::(nat_lit 537,AT)::(nat_lit 538,Cn)::(nat_lit 539,tE)::(nat_lit 540,sT P)::(nat_lit 541,Cb)::(nat_lit 544,(wT 522))::(nat_lit 551,tE)::(nat_lit 554,v_)::(nat_lit 555,yz)::(nat_lit 556,tE)::(nat_lit 557,vP P)::(nat_lit 558,Ap)::(nat_lit 561,tE)::(nat_lit 563,tN 936 ["share"])::(nat_lit 564,tE)::(nat_lit 566,vh)::(nat_lit 567,CH)::(nat_lit 568,tE)::(nat_lit 570,tN 943 vL)::(nat_lit 571,tE)::(nat_lit 573,AR)::(nat_lit 574,BS)::(nat_lit 575,tE)::(nat_lit 577,CF)::(nat_lit 578,tE)::(nat_lit 580,sA)::(nat_lit 581,wh)::(nat_lit 582,tE)::(nat_lit 584,AO)::(nat_lit 585,tE)::(nat_lit 587,t9)::(nat_lit 588,tS)::(nat_lit 596,tE)::(nat_lit 599,Cc)::(nat_lit 600,B8)::(nat_lit 601,tE)::(nat_lit 603,tN 993 ["self"])::(nat_lit 604,tE)::(nat_lit 606,cO "size" "Hall.size" 990 353 1 3 601 994)::(nat_lit 607,AY)::(nat_lit 608,tE)::(nat_lit 610,tN 1000 ["self"])::(nat_lit 611,tE)::(nat_lit 613,B7)::(nat_lit 614,tw)::(nat_lit 615,tE)::(nat_lit 617,tN 1007 DP)::(nat_lit 618,tE)::(nat_lit 620,u0)::(nat_lit 621,Au)::(nat_lit 622,tE)::(nat_lit 624,tN 1015 d_)::(nat_lit 625,tE)::(nat_lit 627,sK)::(nat_lit 628,Cs)::(nat_lit 629,tE)::(nat_lit 631,tN 1023 Ai)::(nat_lit 632,tE)::(nat_lit 634,vd)::(nat_lit 635,BB)::(nat_lit 636,tE)::(nat_lit 639,tP)::(nat_lit 640,CS)::(nat_lit 641,tN 1035 ["numbers","offered","share"])::(nat_lit 642,A3 P)::(nat_lit 643,Bz)::(nat_lit 644,AC)::(nat_lit 645,(wG 1041 643))::(nat_lit 648,tE)::(nat_lit 650,tN 1051 Yr)::(nat_lit 651,tE)::(nat_lit 653,AE)::(nat_lit 654,zo)::(nat_lit 655,tE)::(nat_lit 657,z5)::(nat_lit 658,tE)::(nat_lit 660,tI)::(nat_lit 661,w')::(nat_lit 662,tE)::(nat_lit 664,BU)::(nat_lit 665,tE)::(nat_lit 667,x_)::(nat_lit 668,yg)::(nat_lit 669,tE)::(nat_lit 671,sQ)::(nat_lit 672,tE)::(nat_lit 674,Ct)::(nat_lit 675,v1)::(nat_lit 676,tE)::(nat_lit 679,yu)::(nat_lit 680,A1)::(nat_lit 681,tE)::(nat_lit 684,sN)::(nat_lit 685,yN)::(nat_lit 686,tE)::(nat_lit 689,w6)::(nat_lit 690,An)::(nat_lit 691,tE)::(nat_lit 694,ui)::(nat_lit 695,AF)::(nat_lit 696,tE)::(nat_lit 699,t4)::(nat_lit 700,t8)::(nat_lit 701,tE)::(nat_lit 703,tN 1120 YQ)::(nat_lit 704,tE)::(nat_lit 706,AU)::(nat_lit 707,tY)::(nat_lit 708,tE)::(nat_lit 711,u7)::(nat_lit 712,BA)::(nat_lit 713,tE)::(nat_lit 716,A4)::(nat_lit 717,t7)::(nat_lit 718,tE)::(nat_lit 720,tN 1140 Er)::(nat_lit 721,tE)::(nat_lit 723,tf)::(nat_lit 724,C1)::(nat_lit 725,tE)::(nat_lit 727,tN 1147 Er)::(nat_lit 728,tE)::(nat_lit 730,By)::(nat_lit 731,yY)::(nat_lit 732,tE)::(nat_lit 735,sM)::(nat_lit 736,wm)::(nat_lit 737,tE)::(nat_lit 740,zp)::(nat_lit 741,AZ)::(nat_lit 742,tE)::(nat_lit 744,vC)::(nat_lit 745,tE)::(nat_lit 747,Co)::(nat_lit 748,uB)::(nat_lit 749,tE)::(nat_lit 751,tm)::(nat_lit 752,tE)::(nat_lit 754,y_)::(nat_lit 755,z6)::(nat_lit 756,tE)::(nat_lit 759,BQ)::(nat_lit 760,BN)::(nat_lit 761,tE)::(nat_lit 763,B3)::(nat_lit 764,tE)::(nat_lit 766,CL)::(nat_lit 767,v4)::(nat_lit 768,tE)::(nat_lit 770,vb)::(nat_lit 771,tE)::(nat_lit 773,tJ)::(nat_lit 774,t5)::(nat_lit 775,tE)::(nat_lit 777,uF)::(nat_lit 778,tE)::(nat_lit 780,tz)::(nat_lit 781,yk)::(nat_lit 782,tE)::(nat_lit 784,ua)::(nat_lit 785,tE)::(nat_lit 787,zv)::(nat_lit 788,uA)::(nat_lit 789,tE)::(nat_lit 791,At)::(nat_lit 792,tE)::(nat_lit 794,Cj)::(nat_lit 795,v')::(nat_lit 796,tE)::(nat_lit 798,u8)::(nat_lit 799,tE)::(nat_lit 801,AG)::(nat_lit 802,xx)::(nat_lit 803,tE)::(nat_lit 805,tN 1265 gF)::(nat_lit 806,tE)::(nat_lit 808,CD)::(nat_lit 809,yG)::(nat_lit 810,tE)::(nat_lit 812,tN 1273 Ql)::(nat_lit 813,tE)::(nat_lit 815,cU "_law_is_none" 1270 559 4 3 810 1280)::(nat_lit 816,fV "_law_is_none" 114 mF 815)::(nat_lit 817,tE)::(nat_lit 820,cV "law" 1283 564 1 3 817 1286)::(nat_lit 821,fV "law" 115 mF 820)::([]:List (Nat×Obj)))
abbrev asH:List Nat:=(KH {strHash:=λ_=>0,shareClass:=λ_=>0,mergeTok:=id,idOf:=λ_=>0,idOfShared:=λ_ _=>0,followText:=λ_=>true,idOfImm:=λ_=>0}).map (·.1)
noncomputable def qv:Program:=view p [0,2,3,4,5,6,7,8,10,11,13,14,15,16,17,18,19,20,21,23,24,25,27,28,29,30,32,33,34,35,36,37,38,39,40,41,42,44,45,46,47,48,49,50,52,53,54,55,57,58,60,61,62,63,64,65,66,68,69,71,72,73,74,75,76,77,78,79,80,82,83,84,85,86,88,89,90,91,92,93,94,95,96,97,98,99,100,101,102,103,104,105,106,107,108,109,110,111,112,113,114,115]
abbrev R:RowW:=PySem.Challenge.rw_chancehall_k37_whole_greatest_chances.row.toRowW
def Xt(s:Shared):Bool:=xlAt qv [] s&&recOk R.records s
def e:Pos:=⟨564,0,589,149⟩
set_option maxHeartbeats 0
def JE:looksOpen PySem.Challenge.rw_chancehall_k37_whole_greatest_chances.row.prog=true:=by kernel_rfl
def wsd:PySem.Challenge.rw_chancehall_k37_whole_greatest_chances.wellSaid=true:=by
 unfold OpenLaw.wellSaid OpenRow.wellSaid OpenRow.partSaid;rw[JE]
 kernel_rfl
def asK:∀P,asH=(KH P).map (·.1):=λ_=>by kernel_rfl
def pre(w:World):(λos=>topGo treeTable p w 11 eI 12 (S0 w os) (topStub p))=λos=>some (Sa w os,⟨denote treeTable (cE p),cE p,z,B⟩):=by
 rw[Fast.te15667345088766844465,Fast.te14364793385576792824,Fast.te11892475500146522536];kernel_rfl
def block(w:World):(λos=>segRun treeTable p w 11 eI 1 1 (Sa w os) (blockOf (behindTheImports p) (env p) (cE p) z B))=λos=>some (.next,(Sb w os).abs,cE p,z):=by
 rw[Fast.te14374325043358763698,Fast.te14364793385576792824];kernel_rfl
def OF(w:World):(λos=>segRunT treeTable p w 11 eI 1 30000 (Sb w os) (piecesOf ((behindTheImports p).take 114) (env p) (cE p) z B))=λos=>some (.next,S1 w os,cE p,e1):=by
 rw[Fast.te10110043849684766642,Fast.te14364793385576792824];kernel_rfl
def comb{R S A B C X Y Z:Type _}{o:Option R}{f:R->A}{g:R->B}{k:R->C}{h:R->Option S}{t:S->X}{q:S->Y}{p:S->Z}{a:A}{b:B}{c:C}{x:X}{y:Y}{z:Z}(e:(o.map λr=>(f r,g r,k r,(h r).map t))=some (a,b,c,some x))(n:(o.map λr=>(f r,g r,k r,(h r).map q))=some (a,b,c,some y))(m:(o.map λr=>(f r,g r,k r,(h r).map p))=some (a,b,c,some z)):(o.map λr=>(f r,g r,k r,(h r).map λs=>(t s,q s,p s)))=some (a,b,c,some (x,y,z)):=by
 cases o with
 |none=>cases e
 |some r =>
  simp only[Option.map_some,Option.some.injEq,Prod.mk.injEq]at e n m ⊢;obtain⟨w,v,u,d⟩:=e;obtain⟨_,_,_,j⟩:=n;obtain⟨_,_,_,i⟩:=m;cases l:h r with
  |none=>rw[l]at d;cases d
  |some s =>
   rw[l]at d j i;refine⟨w,v,u,?_⟩;simp only[Option.map_some,Option.some.injEq]at d j i ⊢;rw[d,j,i]
def No{R S A B C X Y:Type _}{o:Option R}{f:R->A}{g:R->B}{k:R->C}{h:R->Option S}{n:S->X}{m:S->Y}{a:A}{b:B}{c:C}{x:X}{y:Y}(e:(o.map λr=>(f r,g r,k r,(h r).map n))=some (a,b,c,some x))(l:(o.map λr=>(f r,g r,k r,(h r).map m))=some (a,b,c,some y)):(o.map λr=>(f r,g r,k r,(h r).map λs=>(n s,m s)))=some (a,b,c,some (x,y)):=by
 cases o with
 |none=>cases e
 |some r =>
  simp only[Option.map_some,Option.some.injEq,Prod.mk.injEq]at e l ⊢;obtain⟨t,q,p,d⟩:=e;obtain⟨_,_,_,i⟩:=l;cases j:h r with
  |none=>rw[j]at d;cases d
  |some s =>
   rw[j]at d i;refine⟨t,q,p,?_⟩;simp only[Option.map_some,Option.some.injEq]at d i ⊢;rw[d,i]
noncomputable def sR{a:Type}(w:World)(os:OsState)(f:Shared->a):=(segRunT treeTable p w 11 eI 1 50000 (S1 w os) (piecesOf ((behindTheImports p).drop 114) (env p) (cE p) e1 B)).map λr=>(r.1,r.2.2.1,r.2.2.2,(topRun treeTable p w 11 eI 2 r.2.1.abs ⟨doneF .next,cE p,e,B⟩).map f)
def IH(w:World):(λos=>sR w os λs=>(openSeen qv [] (importedModules p.main.body) Xt true s).1)=λ_=>some (.next,cE p,e,some ((openGood qv []).1)):=by
 unfold sR;rw[Fast.te10110043849684766642,Fast.te14364793385576792824,Fast.te14082659384304107361,Fast.te4187177175401517315,Fast.te5923862056798008813];kernel_rfl
def IG(w:World):(λos=>sR w os λs=>(openSeen qv [] (importedModules p.main.body) Xt true s).2)=λ_=>some (.next,cE p,e,some ((openGood qv []).2)):=by
 unfold sR;rw[Fast.te10110043849684766642,Fast.te14364793385576792824,Fast.te14082659384304107361];kernel_rfl
def KL(w:World):(λos=>sR w os λs=>openSeen qv [] (importedModules p.main.body) Xt true s)=λ_=>some (.next,cE p,e,some (openGood qv [])):=funext λos=>No (congrFun (IH w) os) (congrFun (IG w) os)
def MU(w:World):(λos=>sR w os λs=>staticsOk (importedModules p.main.body) (boot_heap w.params) s.heap&&namesBound p s.heap&&gensDone s&&laidKept (boot_heap w.params) s.heap)=λ_=>some (.next,cE p,e,some (true)):=by
 unfold sR;rw[Fast.te10110043849684766642,Fast.te14364793385576792824,Fast.te14082659384304107361];kernel_rfl
def Nd(w:World):(λos=>sR w os λs=>asH.map s.heap.get?)=λ_=>some (.next,cE p,e,some ((KH w.params).map λp=>some p.2)):=by
 unfold sR;rw[Fast.te10110043849684766642,Fast.te14364793385576792824,Fast.te14082659384304107361];kernel_rfl
def big(w:World):(λos=>sR w os λs=>(staticsOk (importedModules p.main.body) (boot_heap w.params) s.heap&&namesBound p s.heap&&gensDone s&&laidKept (boot_heap w.params) s.heap,openSeen qv [] (importedModules p.main.body) Xt true s,asH.map s.heap.get?))=λ_=>some (.next,cE p,e,some (true,openGood qv [],(KH w.params).map λp=>some p.2)):=funext λos=>comb (congrFun (MU w) os) (congrFun (KL w) os) (congrFun (Nd w) os)
def left:LeftO p qv [] Xt (λs=>asH.map s.heap.get?) (λw=>(KH w.params).map λp=>some p.2) 200000 :=
 abM (boot_open rfl rfl λ_=>rfl) pre block (λw os=>pW.cutAt (congrFun (OF w) os) (pW.last (congrFun (big w) os))) rfl
def hX(s:Shared)(h:Xt s=true):XL qv [] (s.heap.nsMap mainGlobals) s.heap:=xl_of s (Bool.and_eq_true_iff.mp h).1
def hR(s:Shared)(h:Xt s=true):RecFacts R.records s.heap:=recFacts_of (Bool.and_eq_true_iff.mp h).2
end
end H37
noncomputable section
abbrev zI:=List (Option Nat)
abbrev xz:=List (Nat×Rat)
abbrev xy:=List Nat
abbrev xo:=List Bool
abbrev xh:=List (List (Option Nat)×(Nat->Rat))
abbrev xt:=List Rat
abbrev xn:=Option Int
abbrev xi:=List Int
abbrev xL:=Option Nat
abbrev wr:=Option Bool
abbrev wE:=List (List xz)
abbrev vj:=List xy
abbrev vx:=List xt
def vk{p:Prop}(h:p:=by decide):p:=h
def vw{p:Prop}(h:p:=by lia):p:=h
def vy{p:Prop}(h:p:=by simp):p:=h
abbrev PySem.Shared.zs(s:PySem.Shared):=s.heap.objs.size
open List (range length_cons map_cons append_nil replicate map_nil replicate_succ flatten_cons foldl_cons length_singleton drop_zero lookup_cons all_cons all_map lookup_append any_cons zip_cons_cons cons_append zipWith_cons_cons zipWith map_singleton foldl_append range_succ map_zipWith getElem_set map_take take_nil Nodup range' all_eq_true mem_of_mem_take map_const' sum_cons)
open Bool (decide_and)
open Nat (succ_le_succ min_le_left Coprime pow_zero pow_succ mul_add mod_lt sub_zero div_le_self min_eq_left sub_le pow_add)
open Option (getD_none getD_some)
open Int (fdiv)
open Rat (divInt lt_iff le_iff divInt_nonneg)
namespace L2
open PySem PySem.Spec PyProof.Rows
abbrev wP:=List Keyword
abbrev wn:=Array GenState
abbrev wv:=List (Str×NameKind)
abbrev xA:=List Stmt
abbrev xI:=List PyData
abbrev xE:=Array Value
abbrev xD:=List (Str×Value)
abbrev xC:=List Env
abbrev xB:=List (Str×Addr)
abbrev xl:=List (Str×Rat)
abbrev xw:=List Expr
abbrev bh:=Sum Int Str
abbrev xN:=List bh
def Gi:bh->Value->Bool
 |.inl k,v=>Value.isInt k v
 |.inr x,v=>Value.isStrOf x v
def KA(w:World):bh->Int
 |.inl k=>hashInt k
 |.inr x=>hashStr w x
def gG:∀{k:bh}{v:Value},Gi k v->(∃i t,k=Sum.inl i/\v=Value.int i t)\/(∃x t,k=Sum.inr x/\v=Value.str x t)
 |.inl i,v,h=>by
  obtain⟨t,e⟩:=Value.isInt_shape (k:=i) (v:=v) h;exact .inl ⟨i,t,rfl,e⟩
 |.inr x,v,h=>by
  obtain⟨t,e⟩:=Value.isStrOf_shape (x:=x) (v:=v) h;exact .inr ⟨x,t,rfl,e⟩
def abd(i:Int)(t:Tok):Gi (.inl i) (.int i t):=by simp[Gi,Value.isInt]
def ace(x:Str)(t:Tok):Gi (.inr x) (.str x t):=by simp[Gi,Value.isStrOf]
def WC(a b:Int):decide ((Sum.inl a:bh)=Sum.inl b)=(a==b):=by
 by_cases e:a=b
 .subst e;simp
 .have h:¬(Sum.inl a:bh)=Sum.inl b:=λq=>e (Sum.inl.inj q);rw[Zp h];exact(beq_eq_false_iff_ne.mpr e).symm
def Sn(a b:Str):decide ((Sum.inr a:bh)=Sum.inr b)=decide (a=b):=by
 by_cases e:a=b
 .subst e;simp
 .have h:¬(Sum.inr a:bh)=Sum.inr b:=λq=>e (Sum.inr.inj q);rw[Zp h,Zp e]
def W'(a:Int)(b:Str):decide ((Sum.inl a:bh)=Sum.inr b)=false:=Zp (λq=>nomatch q)
def XA(a:Str)(b:Int):decide ((Sum.inr a:bh)=Sum.inl b)=false:=Zp (λq=>nomatch q)
def gH(c:Program)(w:World):PySem.KeyKind c w bh where
 is:=Gi
 hash:=KA w
 inj:=λv a b m g=>by
  rcases gG m with⟨i,t,rfl,rfl⟩|⟨x,t,rfl,rfl⟩
  .rcases gG g with⟨j,u,rfl,e⟩|⟨y,u,rfl,e⟩
   .injection e with d _;rw[d]
   .exact nomatch e
  .rcases gG g with⟨j,u,rfl,e⟩|⟨y,u,rfl,e⟩
   .exact nomatch e
   .injection e with d _;rw[d]
 byValue:=λk v h=>by
  rcases gG h with⟨i,t,rfl,rfl⟩|⟨x,t,rfl,rfl⟩<;>rfl
 pyHash:=λf h=>by
  rcases gG f with⟨i,t,rfl,rfl⟩|⟨x,t,rfl,rfl⟩
  .exact wpAny_pyHash_int h
  .exact wpAny_pyHash_str h
 eqBool:=λl f h=>by
  rcases gG l with⟨i,t,rfl,rfl⟩|⟨x,t,rfl,rfl⟩
  .rcases gG f with⟨j,u,rfl,rfl⟩|⟨y,u,rfl,rfl⟩
   .rw[WC]at h;exact wpAny_eqBool_int h
   .rw[W']at h;exact SeqAt.EqAt.int_str i t y u _ _ _ _ h
  .rcases gG f with⟨j,u,rfl,rfl⟩|⟨y,u,rfl,rfl⟩
   .rw[XA]at h;exact SeqAt.EqAt.str_int x t j u _ _ _ _ h
   .rw[Sn]at h;exact wpAny_eqBool_str h
 «strs»:=λk x t v h=>by
  rcases gG h with⟨i,u,rfl,e⟩|⟨y,u,rfl,e⟩
  .exact nomatch e
  .injection e with d _;subst d;cases v<;>rfl
def Vy(a:Program)(w:World)(i:Int)(t:Tok):(gH a w).is (.inl i) (.int i t):=abd i t
def Vq(a:Program)(w:World)(x:Str)(t:Tok):(gH a w).is (.inr x) (.str x t):=ace x t
inductive V where
 |non|bl (b:Bool)|int (i:Int)|str (x:Str)|byt (b:Array UInt8)|flt (b:UInt64)|ref (a:Addr)|ty (n:String)
 deriving DecidableEq
abbrev wf:=Option V
abbrev wx:=List (bh×V)
abbrev xS:=List (Str×V)
abbrev Ζ:=List V
def zP:V->Value->Prop
 |.non,u=>u=Value.none
 |.bl b,u=>u=Value.bool b
 |.int i,u=>∃t,u=Value.int i t
 |.str x,u=>∃t,u=Value.str x t
 |.byt b,u=>∃t,u=Value.bytes b t
 |.flt b,u=>∃t,u=Value.float b t
 |.ref a,u=>u=Value.ref a
 |.ty n,u=>u=Value.type n
abbrev zK:Ζ->Θ->Prop:=Paired zP
def zK.length{I:Ζ}{a:Θ}(r:zK I a):I.length=a.length:=Paired.length r
theorem zK.get:∀{I:Ζ}{a:Θ}{i:Nat}{x:V},zK I a->I[i]?=some x->∃u,a[i]?=some u/\zP x u
 |_,_,_,_,.nil,e=>by simp at e
 |_,_,0,_,.cons r _,e=>by simp at e;subst e;exact⟨_,rfl,r⟩
 |_,_,i+1,x,.cons _ t,e=>by
  obtain⟨u,c,b⟩:=zK.get (i:=i) (x:=x) t (by simpa using e);exact⟨u,by simpa using c,b⟩
theorem zK.set{x:V}{u:Value}(r:zP x u):∀{I:Ζ}{a:Θ}(i:Nat),zK I a->zK (I.set i x) (a.set i u)
 |_,_,_,.nil=>.nil
 |_,_,0,.cons _ t=>.cons r t
 |_,_,i+1,.cons q t=>.cons q (zK.set r i t)
theorem zK.append:∀{I a:Ζ}{c b:Θ},zK I c->zK a b->zK (I++a) (c++b)
 |_,_,_,_,.nil,s=>s
 |_,_,_,_,.cons r t,s=>.cons r (zK.append t s)
theorem zK.take:∀{I:Ζ}{a:Θ}(n:Nat),zK I a->zK (I.take n) (a.take n)
 |_,_,0,_=>.nil
 |_,_,_+1,.nil=>.nil
 |_,_,n+1,.cons r t=>.cons r (zK.take n t)
theorem zK.drop:∀{I:Ζ}{a:Θ}(n:Nat),zK I a->zK (I.drop n) (a.drop n)
 |_,_,0,r=>r
 |_,_,_+1,.nil=>.nil
 |_,_,n+1,.cons _ t=>zK.drop n t
def Ag:wf->Ω->Prop
 |some v,some u=>zP v u
 |none,none=>True
 |_,_=>False
def KV{a:Type} : List (a×V)->List (a×Value)->Prop:=Paired λ(p:a×V)(q:a×Value)=>p.1=q.1/\zP p.2 q.2
def kV:bh->V
 |.inl i=>.int i
 |.inr x=>.str x
inductive HO where
  |lst (I:Ζ)
  |tup (I:Ζ)
  |dK (kvs:wx)
  |set (S:Int->Bool) (n:Nat)
  |ins (C dx:Addr) (fs:xS)
  |own (x:Addr)
  |xd (fs:xS)
  |met (f x:Addr)
  |rng (lo hi:Int)
  |frz (o:Obj) (u:HO)
  |tbl (ps:xE)
  |ext (φ:Heap->Prop)
abbrev Hp:=Addr->Option HO
def upd(H:Hp)(a:Addr)(o:HO):Hp:=λb=>if b=a then some o else H b
variable{H W:Hp}{a b x e:Addr}{o o':HO}{P:Program}{w:World}{h h':Heap}
def cj : upd H a o a=some o:=by unfold upd;rw[ZY rfl]
def bY(h:b≠a):upd H a o b=H b:=by unfold upd;rw[ZZ h]
def Mh{u:HO}(h:H a=some o)(h':H b=some u)(d:o≠u):a≠b:=by
 intro e;subst e;rw[h]at h';exact d (Option.some.inj h')
def lQ(h:H a=some o)(h':H b=none):a≠b:=by
 intro e;subst e;rw[h]at h';cases h'
section
variable(P:Program)(w:World)
def fG(H:Hp)(h:Heap)(a:Addr):HO->Prop
 |.lst I=>I.length<=sizeLine/\∃(b:Θ)(n:Nat),zK I b/\h.get? a=some { cls:=.type "list",data:=.seq b.toArray n }
 |.tup I=>I.length<=sizeLine/\∃b:Θ,zK I b/\IsTup h a b.toArray
 |.dK d=>d.length<=sizeLine/\(a==sysModules)=false/\∃j,KV d j/\h.DictOf (gH P w) a j
 |.set S n=>h.SetOf (intKind P w) a S n
 |.ins C g e=>H g=some (.own a)/\e.length<=1000/\g≠a/\h.get? a=some (instObj C g) /\
   ∃c,h.Ns1 g c/\(∀f,Ag (e.lookup f) (c f))/\PySem.Within c (e.map (·.1))
 |.own _=>∃o,h.get? a=some o
 |.xd e=>∃c,h.Ns1 a c/\∀f,Ag (e.lookup f) (c f)
 |.rng lo p=>∃t u v,h.get? a=some { cls:=.type "range",data:=.fields #[.int lo t,.int p u,.int 1 v] }
 |.frz o u=>h.get? a=some o/\fG H h a u
 |.tbl m=>h.get? a=some { cls:=.none,data:=.fields m }
 |.met f x=>h.get? a=some (methodObj (.ref f) (.ref x))
 |.ext i=>i h/\(∃o,h.get? a=some o)/\∀l k:Heap,i l->(∀o,l.get? a=some o->k.get? a=some o)->i k
def HOk(H:Hp)(h:Heap):Prop:=∀a o,H a=some o->fG P w H h a o
end
def fG.lt(x:fG P w H h a o):a<h.objs.size:=by
 cases o with
 |lst I=>obtain⟨_,_,_,_,e⟩:=x;exact aK e
 |tup I=>obtain⟨_,_,_,p⟩:=x;exact p.lt
 |dK b=>obtain⟨_,_,_,_,o,_,_,e,_⟩:=x;exact aK e
 |set S n=>obtain⟨o,_,_,_,e,_⟩:=x;exact aK e
 |ins C k c=>obtain⟨_,_,_,e,_⟩:=x;exact aK e
 |own y=>obtain⟨_,e⟩:=x;exact aK e
 |xd c=>obtain⟨_,⟨_,_,_,e,_⟩,_⟩:=x;exact aK e
 |rng lo j=>obtain⟨_,_,_,e⟩:=x;exact aK e
 |frz i u=>obtain⟨e,_⟩:=x;exact aK e
 |tbl g=>exact aK (show h.get? a=some _ from x)
 |met f y=>exact aK (show h.get? a=some _ from x)
 |ext d=>obtain⟨_,⟨_,e⟩,_⟩:=x;exact aK e
def fG.stay(x:fG P w H h a o)(k:∀b u,(b=a\/H b=some (.own a))->h.get? b=some u->h'.get? b=some u)
 (G:∀b,H b=some (.own a)->W b=some (.own a))(M:∀b I,H b=some (.tup I)->W b=some (.tup I)):fG P w W h' a o:=by
 induction o with
 |lst I=>obtain⟨z,i,n,r,e⟩:=x;exact⟨z,i,n,r,k _ _ (.inl rfl) e⟩
 |tup I=>obtain⟨z,i,r,g,e,c⟩:=x;exact⟨z,i,r,g,k _ _ (.inl rfl) e,c⟩
 |dK E=>obtain⟨z,y,B,r,g,Z,j,e,c⟩:=x;exact⟨z,y,B,r,g,Z,j,k _ _ (.inl rfl) e,c⟩
 |set S n=>obtain⟨g,Z,j,t,e,c⟩:=x;exact⟨g,Z,j,t,k _ _ (.inl rfl) e,c⟩
 |ins C O J =>
  obtain⟨d,z,D,e,m,⟨l,Z,j,K,c⟩,r⟩:=x;exact⟨G _ d,z,D,k _ _ (.inl rfl) e,m,⟨l,Z,j,k _ _ (.inr d) K,c⟩,r⟩
 |own y=>obtain⟨g,e⟩:=x;exact⟨g,k _ _ (.inl rfl) e⟩
 |xd J=>obtain⟨m,⟨l,Z,j,e,c⟩,r⟩:=x;exact⟨m,⟨l,Z,j,k _ _ (.inl rfl) e,c⟩,r⟩
 |rng lo N=>obtain⟨t,u,v,e⟩:=x;exact⟨t,u,v,k _ _ (.inl rfl) e⟩
 |frz g u F=>obtain⟨e,q⟩:=x;exact⟨k _ _ (.inl rfl) e,F q⟩
 |tbl A =>
  have e:h.get? a=some { cls:=.none,data:=.fields A }:=x;show h'.get? a=some { cls:=.none,data:=.fields A };exact k a _ (.inl rfl) e
 |met f y =>
  have e:h.get? a=some (methodObj (.ref f) (.ref y)):=x;show h'.get? a=some (methodObj (.ref f) (.ref y));exact k a _ (.inl rfl) e
 |ext L=>obtain⟨p,⟨o,e⟩,s⟩:=x;exact⟨s _ _ p λo q=>k _ _ (.inl rfl) q,⟨o,k _ _ (.inl rfl) e⟩,s⟩
def HOk.lt(x:HOk P w H h)(e:H a=some o):a<h.objs.size:=(x a o e).lt
def HOk.fresh(x:HOk P w H h)(e:h.objs.size<=a):H a=none:=by
 cases q:H a with
 |none=>rfl
 |some u=>exact absurd (aR (x.lt q) e) (X2 _)
def HOk.kept(x:HOk P w H h)(k:∀b u,h.get? b=some u->h'.get? b=some u):HOk P w H h':=λa o e =>
 (x a o e).stay (λb u _ q=>k b u q) (λ_ q=>q) λ_ _ q=>q
def HOk.laid(x:HOk P w H h)(k:∀b u,h.get? b=some u->h'.get? b=some u)(i:h.objs.size<=a)(d:fG P w (upd H a o) h' a o):HOk P w (upd H a o) h':=λb u e=>by
 have f:=x.fresh i;by_cases g:b=a
 .subst g;rw[cj]at e;cases e;exact d
 .rw[bY g]at e;exact(x b u e).stay (λc v _ q=>k c v q) (λc q=>by rwa[bY (lQ q f)]) λc I q=>by rwa[bY (lQ q f)]
def Rd(H:Hp)(a:Addr)(u:HO):Prop:=H a=some u\/∃o,H a=some (.frz o u)
def Rd.of{u:HO}(h:H a=some u):Rd H a u:=.inl h
def Rd.ok{u:HO}(r:Rd H a u)(x:HOk P w H h):fG P w H h a u:=by
 rcases r with r|⟨o,r⟩
 .exact x a u r
 .obtain⟨_,q⟩:=x a _ r;exact q
def kf:Option HO->Prop
 |some (.lst _)=>True
 |some (.dK _)=>True
 |some (.set _ _)=>True
 |some (.ins _ _ _)=>True
 |some (.ext _)=>True
 |_=>False
def HOk.write(m:HOk P w H h)(d:kf (H x))(l:e=x\/H e=some (.own x))(k:∀b u,b≠e->h.get? b=some u->h'.get? b=some u)(o:∃u,h'.get? e=some u)
 (g:fG P w (upd H x o') h' x o'):HOk P w (upd H x o') h':=λb u q=>by
 have j:∀c y,H c=some (.own y)->c≠x:=λc y r z=>by subst z;rw[r]at d;exact d
 have n:∀c I,H c=some (.tup I)->c≠x:=λc I r z=>by subst z;rw[r]at d;exact d
 by_cases f:b=x
 .subst f;rw[cj]at q;cases q;exact g
 .rw[bY f]at q;by_cases a:b=e
  .have i:H b=some (.own x):=by
    rcases l with z|z
    .exact absurd (a.trans z) f
    .rw[a];exact z
   rw[q]at i;cases i;obtain⟨v,p⟩:=o;exact⟨v,by rwa[a]⟩
  .refine(m b u q).stay (λc v hc r=>k c v ?_ r) (λc r=>by rwa[bY (j c b r)]) λc I r=>by rwa[bY (n c I r)]
   rcases hc with rfl|hc
   .exact a
   .rintro rfl;rcases l with z|z
    .exact j c b hc z
    .rw[hc]at z;cases z;exact f rfl
structure Un(fs ex:Ψ)(H W:Hp)(h h':Heap):Prop where
 keep:∀b o,h.get? b=some o->H b=none->b∉fs->b∉ex->h'.get? b=some o
 slot:∀b o,h.get? b=some o->H b=none->b∈fs->b∉ex->∃sl,h'.get? b=some { o with slots:=sl }
 free:∀b o,h.get? b=some o->H b=none->b∉ex->W b=none
 there:∀b o,h.get? b=some o->b∉ex->∃o',h'.get? b=some o'
 tups:∀b I,H b=some (.tup I)->W b=some (.tup I)
 frzs:∀b o u,H b=some (.frz o u)->W b=some (.frz o u)
 tbls:∀b ps,H b=some (.tbl ps)->∃more,W b=some (.tbl (ps++more))
section
variable{fs fs' ex r6:Ψ}{H Y H2:Hp}{h h1 h2 h':Heap}{a x e:Addr}{o:HO}
def Un.any(u:Un fs ex H Y h h1){a:Obj}(q:h.get? b=some a)(n:H b=none)(d:b∉ex):∃f,h1.get? b=some { a with slots:=f }:=by
 by_cases e:b∈fs
 .exact u.slot b a q n e d
 .exact⟨a.slots,u.keep b a q n e d⟩
def Un.kept(k:∀b u,h.get? b=some u->h'.get? b=some u):Un fs ex H H h h' :=
 ⟨λb a q _ _ _=>k b a q,λb a q _ _ _=>⟨a.slots,k b a q⟩,λ_ _ _ n _=>n,λb a q _=>⟨a,k b a q⟩,λ_ _ q=>q,λ_ _ _ q=>q,λ_ c q=>⟨#[],by rw[q];simp⟩⟩
def Un.refl:Un fs ex H H h h:=Un.kept λ_ _ q=>q
def Un.laid(k:∀b u,h.get? b=some u->h'.get? b=some u)(d:h.objs.size<=a)(c:H a=none):Un fs ex H (upd H a o) h h' where
 keep:=λb u q _ _ _=>k b u q
 slot:=λb u q _ _ _=>⟨u.slots,k b u q⟩
 free:=λb u q n _=>by rwa[bY (aQ (aR (aK q) d))]
 there:=λb u q _=>⟨u,k b u q⟩
 tups:=λb I q=>by rwa[bY (lQ q c)]
 frzs:=λb u I q=>by rwa[bY (lQ q c)]
 tbls:=λb e q=>⟨#[],by rw[bY (lQ q c),q];simp⟩
def Un.write(c:kf (H x))(l:e=x\/H e=some (.own x))(k:∀b u,b≠e->h.get? b=some u->h'.get? b=some u)(j:∃u,h'.get? e=some u):Un fs ex H (upd H x o) h h':=by
 have f:∀b,H b=none->b≠x:=λb n z=>by subst z;rw[n]at c;exact c
 have g:∀b,H b=none->b≠e:=λb n z=>by
  subst z;rcases l with r|r
  .exact f b n r
  .rw[n]at r;cases r
 have d:∀b u,H b=some u->¬kf (some u)->b≠x:=λb u q i z=>by subst z;rw[q]at c;exact i c
 refine⟨λb u q n _ _=>k b u (g b n) q,λb u q n _ _=>⟨u.slots,k b u (g b n) q⟩,λb u q n _=>by rw[bY (f b n)];exact n,λb u q _=>?_,
  λb I q=>by rw[bY (d b _ q λz=>z)];exact q,λb u I q=>by rw[bY (d b _ q λz=>z)];exact q,λb m q=>⟨#[],by rw[bY (d b _ q λz=>z),q];simp⟩⟩
 by_cases a:b=e
 .subst a;exact j
 .exact⟨u,k b u a q⟩
end
def trk(h:Heap)(H:Hp):Ψ:=(range h.objs.size).filter λa=>(H a).isSome
def Sd(h:Heap)(H:Hp):Heap:=hideAll h (trk h H)
def ab9(h:Heap)(H:Hp):(Sd h H).objs.size=h.objs.size:=PySem.W.hideAll_size _ _
variable{o:Obj}
def afi(e:h.get? b=some o)(n:H b=none):(Sd h H).get? b=some o :=
 hideAll_get _ e λa=>by
  have q:(H b).isSome:=(List.mem_filter.mp a).2;rw[n]at q;simp at q
def _F(e:(Sd h H).get? b=some o):h.get? b=some o/\H b=none:=by
 have a:h.get? b=some o:=of_hideAll (trk h H) e;refine⟨a,?_⟩;cases q:H b with
 |none=>rfl
 |some x =>
  have c:b∈trk h H:=List.mem_filter.mpr ⟨List.mem_range.mpr (aK a),by simp[q]⟩;have z:(Sd h H).get? b=none:=PySem.W.hideAll_none (trk h H) c;rw[z]at e;cases e
def X'(g h:Heap)(L:Addr):Δ:=(range h.objs.size).filterMap λa=>if a=L\/(g.get? a).isSome=true then none else(h.get? a).map λo=>(a,o)
def rest(g h:Heap)(L d:Addr):Δ:=(X' g h L).filter λp=>decide (p.1≠d)
structure Mod(K:Frag)(mg:Str->Ω)(base:Heap):Prop where
 kin:K.In base
 glob:base.Ns mainGlobals mg
 blt:∃mb,base.Ns builtinsNs mb/\∀x:Str,x≠"__name__"->mb x=bootBuiltins x
 nolimit:base.NoLimit
structure Cx where
 prog:Program
 w:World
 K:Frag
 mg:Str->Ω
 base:Heap
 A:Around
 N:Φ
 s₀:Shared
 H₀:Hp
 env:Env
 outer:xC
 stack:xC
 ex:Ψ
 fn:Str->Bool
 calm:Bool
 pn:Δ
 xe:Ε
def cs(l:xC):Ψ:=l.filterMap (·.frame)
abbrev Cx.fs(X:Cx):Ψ:=cs X.outer
def j3(a:Scope)(x:Str):Prop:=a.names.lookup x=some .local\/a.names.lookup x=some .cell\/a.names.lookup x=some .free
def e7(a:Scope)(x:Str):Prop:=a.names.lookup x=some .local\/a.names.lookup x=some .cell
def Look(env:Env)(h:Heap)(m:Str->Ω)(x:Str)(u:Value):Prop :=
 (env.kindOf x=some .local/\m x=some u)\/((env.kindOf x=some .cell\/env.kindOf x=some .free)/\∃c,env.cells.lookup x=some c/\h.IsCell c (some u))
structure Cx.Ok(X:Cx):Prop where
 mod:Mod X.K X.mg X.base
 kind:X.env.scope.kind=.function
 glob:X.env.globals=mainGlobals
 blt:X.env.builtins=builtinsNs
 above:X.s₀.zs<=X.env.locals
 inj:∀x y c,X.env.cells.lookup x=some c->X.env.cells.lookup y=some c->x=y
 has:∀x,(X.env.kindOf x=some .cell\/X.env.kindOf x=some .free)->∃c,X.env.cells.lookup x=some c
 cab:∀x c,X.fn x->X.env.cells.lookup x=some c->X.s₀.zs<=c
 hd:X.calm->X.A.handled=none
 frames:X.A.frames=some X.stack
 stk:X.stack=X.outer\/(X.stack=X.env::X.outer/\X.env.frame=some X.env.locals)
 exf:∀b∈X.ex,b≠X.env.locals/\∀x c,X.env.cells.lookup x=some c->c≠b
 bs:∀b o,X.base.get? b=some o->X.s₀.heap.get? b=some o/\X.H₀ b=none
 bsz:X.base.objs.size<=X.s₀.zs
 noex:∀b o,X.base.get? b=some o->b∉X.ex
 exfs:∀b∈X.ex,b∉X.fs
 funs:X.s₀.heap.FunFrames X.base X.outer
 frf:∀b∈X.fs,X.H₀ b=none
structure Inv(X:Cx)(U:Δ)(G:List wf)(H:Hp)(s:Shared):Prop where
 ok:X.Ok
 os:s.os=X.s₀.os
 bare:AllBare s.gens
 base:Un X.fs X.ex X.H₀ H X.s₀.heap s.heap
 loc:∃m,s.heap.Ns X.env.locals m/\∀(i:Nat)(x:Str)(v:V),X.N[i]?=some x->G[i]?=some (some v)->j3 X.env.scope x->∃u,zP v u/\Look X.env s.heap m x u
 cell:∀x c,X.env.cells.lookup x=some c->∃v,s.heap.IsCell c v
 free:H X.env.locals=none
 freeC:∀x c,X.env.cells.lookup x=some c->H c=none
 pin:∀p∈X.pn++U,s.heap.get? p.1=some p.2/\H p.1=none/\p.1≠X.env.locals/\p.1∉X.fs/\∀v,p.2.data≠.cell v
 hok:HOk X.prog X.w H s.heap
 len:G.length=X.N.length
variable{X:Cx}{U:Δ}{G:List wf}{s s':Shared}{t' i:Nat}{ch:Ψ}{x:Str}{u:Value}{M:Model}{A:Around}{E:Ε}{v:V}{Q:Unit->Shared->Prop}{e:Expr}
def Cx.Ok.nofr(a:X.Ok)(e:X.base.get? b=some o):b∉X.fs:=λc=>by
 have:=(a.funs.mem c).1;rw[e]at this;cases this
def Inv.bs(I:Inv X U G H s):∀b o,X.base.get? b=some o->s.heap.get? b=some o/\H b=none:=λb o e =>
 ⟨I.base.keep b o (I.ok.bs b o e).1 (I.ok.bs b o e).2 (I.ok.nofr e) (I.ok.noex b o e),I.base.free b o (I.ok.bs b o e).1 (I.ok.bs b o e).2 (I.ok.noex b o e)⟩
def Inv.bk(I:Inv X U G H s):∀b o,X.base.get? b=some o->s.heap.get? b=some o:=λb o e=>(I.bs b o e).1
def Inv.mod(I:Inv X U G H s):Mod X.K X.mg X.base:=I.ok.mod
def Inv.kIn(I:Inv X U G H s):X.K.In s.heap:=I.ok.mod.kin.keeps I.bk
def Inv.fr(I:Inv X U G H s):∃m,Fr X.base X.env.locals s.heap m :=
 let⟨m,a,_⟩:=I.loc
 ⟨m,a,I.bk,aL I.ok.bsz I.ok.above⟩
def Inv.lt(I:Inv X U G H s):X.env.locals<s.zs:=by obtain⟨_,a,_⟩:=I.loc;exact a.lt
def Inv.sz(I:Inv X U G H s):X.s₀.zs<=s.zs:=aL I.ok.above (Y2 I.lt)
def Inv.nofs(I:Inv X U G H s)(h:s.zs<=a):a∉X.fs:=λc=>by
 obtain⟨_,o,b,_⟩:=I.ok.funs.mem c;exact absurd (aR (aK b) (aL I.sz h)) (X2 _)
def Inv.cne(I:Inv X U G H s):∀x c,X.env.cells.lookup x=some c->c≠X.env.locals:=λx c e z=>by
 obtain⟨v,o,a,hd⟩:=I.cell x c e;obtain⟨m,⟨o',Z,f,b,d,_⟩,_⟩:=I.loc;rw[z,b]at a;cases a;rw[d]at hd;cases hd
def Inv.funs(I:Inv X U G H s):s.heap.FunFrames X.base X.outer:=by
 have all:∀(l:xC),(∀b∈cs l,b∈X.fs)->X.s₀.heap.FunFrames X.base l->s.heap.FunFrames X.base l:=by
  intro l
  induction l with
  |nil=>intro _ _;trivial
  |cons env r g =>
   intro f k;obtain⟨m,⟨L,o,a,j,i,hd⟩,h⟩:=k;have d:L∈X.fs:=f L (by unfold cs;rw[List.filterMap_cons,a];exact aO);obtain⟨n,e⟩:=I.base.slot L o i (I.ok.frf L d) d λz=>I.ok.exfs L z d;exact⟨m,⟨L,_,a,j,e,hd⟩,g (λb c=>f b (by unfold cs;rw[List.filterMap_cons,a];exact aJ _ c)) h⟩
 exact all X.outer (λ_ c=>c) I.ok.funs
def Inv.stack(I:Inv X U G H s):s.heap.FunFrames X.base X.stack:=by
 rcases I.ok.stk with e|⟨e,b⟩
 .rw[e];exact I.funs
 .rw[e];obtain⟨m,a,_⟩:=I.loc;refine .cons (by rw[I.ok.kind];decide) b a ?_ I.funs;exact Heap.get?_none_of_le (aL I.ok.bsz I.ok.above)
def Inv.stkSub(I:Inv X U G H s):∀b∈cs X.stack,b∈X.env.locals::X.fs:=λb a=>by
 rcases I.ok.stk with e|⟨e,c⟩
 .rw[e]at a;exact aJ _ a
 .rw[e]at a;unfold cs at a;rw[List.filterMap_cons,c]at a;exact a
def Inv.stkFree(I:Inv X U G H s):∀b∈cs X.stack,H b=none:=λb a=>by
 rcases YU.mp (I.stkSub b a)with e|a
 .rw[e];exact I.free
 .obtain⟨_,o,c,_⟩:=I.ok.funs.mem a;exact I.base.free b o c (I.ok.frf b a) λz=>I.ok.exfs b z a
def Inv.step{g':wn}{d':Drawn}(a:Inv X U G H s)
 (F:∀b∈ch,(b∈X.ex\/X.s₀.zs<=b)/\b≠X.env.locals/\(∀x c,X.env.cells.lookup x=some c->c≠b)/\∀p∈X.pn++U,p.1≠b)
 (g:∀b o,b≠X.env.locals->b∉X.fs->b∉ch->s.heap.get? b=some o->H b=none->h'.get? b=some o)
 (slot:∀b o,b≠X.env.locals->b∈X.fs->b∉ch->s.heap.get? b=some o->H b=none->∃O,h'.get? b=some { o with slots:=O })(free:∀b o,b∉ch->s.heap.get? b=some o->H b=none->W b=none)
 (j:∀b o,b∉ch->s.heap.get? b=some o->∃o',h'.get? b=some o')
 (A:∀b I,H b=some (.tup I)->W b=some (.tup I))(J:∀b o u,H b=some (.frz o u)->W b=some (.frz o u))(B:∀b L,H b=some (.tbl L)->∃D,W b=some (.tbl (L++D)))
 (Y:∀m,s.heap.Ns X.env.locals m->h'.Ns X.env.locals m)(hok:HOk X.prog X.w W h')(hg:AllBare g') :
  Inv X U G W { s with heap:=h',gens:=g',drawn:=d',toks:=t' }:=by
 have C:∀b o,X.s₀.heap.get? b=some o->b≠X.env.locals:=λb o e=>aQ (aR (aK e) a.ok.above);have M:∀b o,X.s₀.heap.get? b=some o->b∉X.ex->b∉ch:=λb o e f t=>by
  rcases(F b t).1 with z|z
  .exact f z
  .exact absurd (aR (aK e) z) (X2 _)
 have R:∀x c,X.env.cells.lookup x=some c->∀v,s.heap.IsCell c v->h'.IsCell c v:=λx c e v hP=>by
  obtain⟨o,y,hd⟩:=hP;have E:c∉ch:=λz=>(F c z).2.2.1 x c e rfl;by_cases V:c∈X.fs
  .obtain⟨O,q⟩:=slot c o (a.cne x c e) V E y (a.freeC x c e);exact⟨_,q,hd⟩
  .exact⟨o,g c o (a.cne x c e) V E y (a.freeC x c e),hd⟩
 refine⟨a.ok,a.os,hg,⟨λb o e n t f=>?_,λb o e n t f=>?_,λb o e n f=>?_,λb o e f=>?_,λb I e=>A b I (a.base.tups b I e),λb o I e=>J b o I (a.base.frzs b o I e),λb L e=>?_⟩,?_,λx c e=>?_,?_,λx c e=>?_,λp S=>?_,hok,a.len⟩
 .exact g b o (C b o e) t (M b o e f) (a.base.keep b o e n t f) (a.base.free b o e n f)
 .obtain⟨O,h⟩:=a.base.slot b o e n t f;obtain⟨ko,K⟩:=slot b _ (C b o e) t (M b o e f) h (a.base.free b o e n f);exact⟨ko,K⟩
 .obtain⟨o',h⟩:=a.base.there b o e f;exact free b o' (M b o e f) h (a.base.free b o e n f)
 .obtain⟨o',h⟩:=a.base.there b o e f;exact j b o' (M b o e f) h
 .obtain⟨m1,h⟩:=a.base.tbls b L e;obtain⟨Z,K⟩:=B b _ h;exact⟨m1++Z,by rw[K,Array.append_assoc]⟩
 .obtain⟨m,hn,hl⟩:=a.loc;refine⟨m,Y m hn,λi x v h K e3=>?_⟩;obtain⟨u,r,l⟩:=hl i x v h K e3;refine⟨u,r,?_⟩;rcases l with l|⟨k,c,e,z⟩
  .exact .inl l
  .exact .inr ⟨k,c,e,R x c e _ z⟩
 .obtain⟨v,z⟩:=a.cell x c e;exact⟨v,R x c e v z⟩
 .obtain⟨m,⟨o,_,_,y,_⟩,_⟩:=a.loc;exact free _ o (λz=>(F _ z).2.1 rfl) y a.free
 .obtain⟨v,o,y,hd⟩:=a.cell x c e;exact free c o (λz=>(F c z).2.2.1 x c e rfl) y (a.freeC x c e)
 .obtain⟨e,n,Q,P,d⟩:=a.pin p S;have E:p.1∉ch:=λz=>(F p.1 z).2.2.2 p S rfl;exact⟨g p.1 p.2 Q P E e n,free p.1 p.2 E e n,Q,P,d⟩
def Inv.un(I:Inv X U G H s)(u:Un X.fs [] H W s.heap h')(hok:HOk X.prog X.w W h'):Inv X U G W { s with heap:=h',toks:=t' }:=by
 obtain⟨m,⟨o,Z,q,c,r⟩,_⟩:=id I.loc;obtain⟨l,j⟩:=u.any c I.free vy;exact I.step (g':=s.gens) (d':=s.drawn) (ch:=[]) (λ_ z=>nomatch z) (λb o _ a _ e n=>u.keep b o e n a vy) (λb o _ a _ e n=>u.slot b o e n a vy) (λb o _ e n=>u.free b o e n vy) (λb o _ e=>u.there b o e vy) u.tups u.frzs u.tbls (λp i=>by
  obtain⟨o',k,g,f,h⟩:=i;rw[c]at f;cases f;exact⟨_,k,g,j,h⟩) hok I.bare
def Inv.call{g':wn}{d':Drawn}(I:Inv X U G H s)(u:Un (cs X.stack) ch H W s.heap h')(hok:HOk X.prog X.w W h')(l:AllBare g')
 (g:∀b∈ch,(b∈X.ex\/X.s₀.zs<=b)/\b≠X.env.locals/\(∀x c,X.env.cells.lookup x=some c->c≠b)/\∀p∈X.pn++U,p.1≠b) :
  Inv X U G W { s with heap:=h',gens:=g',drawn:=d',toks:=t' }:=by
 obtain⟨m,⟨o,Z,A,d,r⟩,_⟩:=id I.loc;obtain⟨v,a⟩:=u.any d I.free λz=>(g _ z).2.1 rfl;exact I.step (ch:=ch) g (λb o a q hc e n=>u.keep b o e n (λz=>(YU.mp (I.stkSub b z)).elim a q) hc) (λb o _ _ hc e n=>u.any e n hc) (λb o hc e n=>u.free b o e n hc) (λb o hc e=>u.there b o e hc) u.tups u.frzs u.tbls (λy k=>by
  obtain⟨o',t,i,h,j⟩:=k;rw[d]at h;cases h;exact⟨_,t,i,a,j⟩) hok l
def Inv.turned{it:Addr}(I:Inv X U G H s)(k:∀b o,b≠it->s.heap.get? b=some o->h'.get? b=some o)(h:H it=none)(f:it≠X.env.locals)
 (w:it∈X.ex\/X.s₀.zs<=it)(t:∀x c,X.env.cells.lookup x=some c->c≠it)(l:∀p∈X.pn++U,p.1≠it):Inv X U G H { s with heap:=h',toks:=t' }:=by
 have a:∀b u,H b=some u->b≠it:=λb u e z=>by rw[z,h]at e;cases e
 refine I.step (g':=s.gens) (d':=s.drawn) (ch:=[it]) (λb j=>?_) (λb o _ _ hc e _=>k b o (λz=>hc (by simp[z])) e) (λb o _ _ hc e _=>⟨o.slots,k b o (λz=>hc (by simp[z])) e⟩) (λ_ _ _ _ n=>n)
  (λb o hc e=>⟨o,k b o (λz=>hc (by simp[z])) e⟩) (λ_ _ e=>e) (λ_ _ _ e=>e) (λb A e=>⟨#[],by rw[e];simp⟩) (λm i=>?_) (λb u e=>?_) I.bare
 .have e:b=it:=by simpa using j
  subst e;exact⟨w,f,t,l⟩
 .obtain⟨o,Z,y,g,r⟩:=i;exact⟨o,Z,y,k _ o (Ne.symm f) g,r⟩
 .refine(I.hok b u e).stay (λc v hc q=>k c v ?_ q) (λ_ q=>q) λ_ _ q=>q;rcases hc with z|z
  .rw[z];exact a b u e
  .exact a c _ z
def Inv.tok(I:Inv X U G H s)(t:Nat):Inv X U G H { s with toks:=t }:=I.un (h':=s.heap) (t':=t) Un.refl I.hok
def Inv.kept{t':Nat}(I:Inv X U G H s)(k:∀b u,s.heap.get? b=some u->h'.get? b=some u):Inv X U G H { s with heap:=h',toks:=t' }:=I.un (Un.kept k) (I.hok.kept k)
def Inv.laid{a:Addr}{o:HO}{t':Nat}(I:Inv X U G H s)(k:∀b u,s.heap.get? b=some u->h'.get? b=some u)(d:s.zs<=a)(c:fG X.prog X.w (upd H a o) h' a o) :
  Inv X U G (upd H a o) { s with heap:=h',toks:=t' }:=I.un (Un.laid k d (I.hok.fresh d)) (I.hok.laid k d c)
def Inv.write{x e:Addr}{o:HO}{t':Nat}(I:Inv X U G H s)(c:kf (H x))(g:e=x\/H e=some (.own x))(k:∀b u,b≠e->s.heap.get? b=some u->h'.get? b=some u)(d:∃u,h'.get? e=some u)
 (a:fG X.prog X.w (upd H x o) h' x o):Inv X U G (upd H x o) { s with heap:=h',toks:=t' }:=I.un (Un.write c g k d) (I.hok.write c g k d a)
def Inv.pins_of{a:Δ}(I:Inv X U G H s)(h:∀p∈a,s.heap.get? p.1=some p.2/\H p.1=none/\p.1≠X.env.locals/\p.1∉X.fs/\∀v,p.2.data≠.cell v):Inv X a G H s :=
 ⟨I.ok,I.os,I.bare,I.base,I.loc,I.cell,I.free,I.freeC,λp b=>(Y1.mp b).elim (λz=>I.pin p (UR _ z)) (h p),I.hok,I.len⟩
def Lj{N:Φ}(c:N.Nodup){j:Nat}(a:N[i]?=some x)(b:N[j]?=some x):i=j:=by
 obtain⟨g,e⟩:=ao.mp a;obtain⟨f,d⟩:=ao.mp b;exact(List.getElem_inj c).mp (e.trans d.symm)
abbrev zd(X:Cx)(a:Str):Prop:=X.fn a=true\/X.env.scope.names.lookup a=some .local
def abG(I:Inv X U G H s)(hN:X.N.Nodup)(K:X.N[i]?=some x)(l:e7 X.env.scope x)(r:zP v u)
 (h:∀s',Inv X U (G.set i (some v)) H s'->(∃a,Heap.SameBut a s.heap s'.heap/\(a=X.env.locals\/X.env.cells.lookup x=some a))->Q () s')(hf:zd X x):wpAny M A (storeName X.env x u) Q E s:=by
 obtain⟨m,hn,hl⟩:=id I.loc;have gz:(X.env.scope.kind == .class || (X.env.scope.kind == .module&&X.env.locals != X.env.globals))=false:=by rw[I.ok.kind];rfl
 have mM:i<G.length:=by rw[I.len];exact(ao.mp K).1
 have F:=I.cne;have eW:∀{a:Addr}{h':Heap},(∃o,s.heap.get? a=some o/\H a=none)->Heap.SameBut a s.heap h'->HOk X.prog X.w H h':=λ{a h'}ha f b ob e=>by
  obtain⟨_,_,cK⟩:=ha;refine(I.hok b ob e).stay (λc L hc q=>(f.2 c ?_).trans q) (λ_ q=>q) λ_ _ q=>q;rintro rfl;rcases hc with rfl|hc
  .rw[cK]at e;cases e
  .rw[cK]at hc;cases hc
 rcases l with B|B
 .refine wpAny_storeName_local B hn (λh' pE f=>?_) gz;obtain⟨oL,_,_,hoL,_⟩:=id hn;refine h _ ⟨I.ok,I.os,I.bare,⟨λb o e n D l=>?_,λb o e n D l=>?_,I.base.free,λb o e l=>?_,I.base.tups,I.base.frzs,I.base.tbls⟩,⟨_,pE,λj y R g t e3=>?_⟩,λy c e=>?_,I.free,I.freeC,λp Z=>?_,eW ⟨oL,hoL,I.free⟩ f,by simpa using I.len⟩ ⟨_,f,.inl rfl⟩
  .exact(f.2 b (aQ (aR (aK e) I.ok.above))).trans (I.base.keep b o e n D l)
  .obtain⟨T,g⟩:=I.base.slot b o e n D l;exact⟨T,(f.2 b (aQ (aR (aK e) I.ok.above))).trans g⟩
  .obtain⟨o',g⟩:=I.base.there b o e l;exact⟨o',(f.2 b (aQ (aR (aK e) I.ok.above))).trans g⟩
  .by_cases C:j=i
   .subst C;rw[K]at g;cases g;rw[UY mM]at t;cases t;exact⟨u,r,.inl ⟨B,by simp⟩⟩
   .rw[VS (Ne.symm C)]at t;obtain⟨S,V,q⟩:=hl j y R g t e3;refine⟨S,V,?_⟩;rcases q with⟨k,e⟩|⟨k,c,e,z⟩
    .refine .inl ⟨k,?_⟩;have:y≠x:=λe=>C (Lj hN g (e ▸ K));simp[this,e]
    .exact .inr ⟨k,c,e,z.sameBut f (F y c e)⟩
  .obtain⟨L,z⟩:=I.cell y c e;exact⟨L,z.sameBut f (F y c e)⟩
  .obtain⟨e,n,O,W,d⟩:=I.pin p Z;exact⟨(f.2 p.1 O).trans e,n,O,W,d⟩
 .have Y:X.fn x:=by
   rcases hf with z|z
   .exact z
   .rw[z]at B;cases B
  obtain⟨c,hc⟩:=I.ok.has x (.inl B);obtain⟨L,z⟩:=I.cell x c hc;refine wpAny_storeName_cell I.ok.kind B hc z (λh' dS f=>?_);obtain⟨oc,J,pf⟩:=id z;refine h { s with heap:=h' } ⟨I.ok,I.os,I.bare,⟨λb o e n D l=>?_,λb o e n D l=>?_,I.base.free,λb o e l=>?_,I.base.tups,I.base.frzs,I.base.tbls⟩,⟨m,hn.sameBut f (Ne.symm (F x c hc)),λj y R g t e3=>?_⟩,λy P e=>?_,I.free,I.freeC,λp Z=>?_,eW ⟨oc,J,I.freeC x c hc⟩ f,by simpa using I.len⟩ ⟨c,f,.inr hc⟩
  .exact(f.2 b (aQ (aR (aK e) (I.ok.cab x c Y hc)))).trans (I.base.keep b o e n D l)
  .obtain⟨T,g⟩:=I.base.slot b o e n D l;exact⟨T,(f.2 b (aQ (aR (aK e) (I.ok.cab x c Y hc)))).trans g⟩
  .obtain⟨o',g⟩:=I.base.there b o e l;exact⟨o',(f.2 b (aQ (aR (aK e) (I.ok.cab x c Y hc)))).trans g⟩
  .by_cases C:j=i
   .subst C;rw[K]at g;cases g;rw[UY mM]at t;cases t;exact⟨u,r,.inr ⟨.inl B,c,hc,dS⟩⟩
   .rw[VS (Ne.symm C)]at t;obtain⟨S,V,q⟩:=hl j y R g t e3;refine⟨S,V,?_⟩;rcases q with q|⟨k,P,e,z'⟩
    .exact .inl q
    .refine .inr ⟨k,P,e,z'.sameBut f ?_⟩;rintro rfl;exact C (Lj hN g (I.ok.inj _ _ _ e hc ▸ K))
  .by_cases fF:P=c
   .subst fF;exact⟨_,dS⟩
   .obtain⟨w2,z2⟩:=I.cell y P e;exact⟨w2,z2.sameBut f fF⟩
  .obtain⟨e,n,O,W,d⟩:=I.pin p Z;refine⟨(f.2 p.1 ?_).trans e,n,O,W,d⟩;intro q;rw[q,J]at e;have q':oc=p.2:=Option.some.inj e;exact d L (by rwa[<- q'])
def u9(I:Inv X U G H s)(d:X.N.Nodup)(b:X.N[i]?=some x)(a:e7 X.env.scope x)(r:zP v u)
 (h:∀s',Inv X U (G.set i (some v)) H s'->Q () s')(c:zd X x:=by first|exact .inl rfl|exact .inr rfl|assumption):wpAny M A (storeName X.env x u) Q E s :=
 abG I d b a r (λs' e _=>h s' e) c
def Inv.call'(I:Inv X U G H s)(f:s'.os=s.os)(u:Un (cs X.stack) ch H W s.heap s'.heap)(hok:HOk X.prog X.w W s'.heap)(g:AllBare s'.gens)
 (h:∀b∈ch,(b∈X.ex\/X.s₀.zs<=b)/\b≠X.env.locals/\(∀x c,X.env.cells.lookup x=some c->c≠b)/\∀p∈X.pn++U,p.1≠b):Inv X U G W s':=by
 obtain⟨h',a,d,t',o'⟩:=s';have e:o'=s.os:=f;subst e;exact I.call (g':=a) (t':=t') (d':=d) u hok g h
abbrev XK:=Value->Ξ->Hp->Prop
abbrev St:=List wf
abbrev VK:=V->Hp->Prop
abbrev TE:=St->Hp->VK->Prop
abbrev TT:=St->Hp->(Bool->Hp->Prop)->Prop
abbrev TA:=St->Hp->(Ζ->Hp->Prop)->Prop
structure Ends where
 nx:St->Hp->Prop
 rt:VK
 bk:St->Hp->Prop:=λ_ _=>False
 ct:St->Hp->Prop:=λ_ _=>False
abbrev TS:=Ends->St->Hp->Prop
def EP(X:Cx)(U:Δ)(G:St)(Q:VK)(u:Value)(s':Shared):Prop:=∃v W,Inv X U G W s'/\zP v u/\Q v W
def TP(X:Cx)(U:Δ)(G:St)(Q:Bool->Hp->Prop)(b:Bool)(s':Shared):Prop:=∃W,Inv X U G W s'/\Q b W
def AP(X:Cx)(U:Δ)(G:St)(Q:Ζ->Hp->Prop)(b:Θ)(s':Shared):Prop:=∃a W,Inv X U G W s'/\zK a b/\Q a W
def SP(X:Cx)(U:Δ)(D:Ends)(f:Flow)(s':Shared):Prop :=
 match f with
 |.next=>∃a W,Inv X U a W s'/\D.nx a W
 |.brk=>∃a W,Inv X U a W s'/\D.bk a W
 |.cont=>∃a W,Inv X U a W s'/\D.ct a W
 |.ret u=>∃v a W,Inv X U a W s'/\zP v u/\D.rt v W
def PE(X:Cx)(e:Expr)(t:TE):Prop :=
 ∀(U:Δ)(s:Shared)(G:St)(H:Hp)(Q:VK),Inv X U G H s->t G H Q->wpAny (model X.prog X.w) X.A (eval e X.env) (EP X U G Q) X.xe s
def PT(X:Cx)(e:Expr)(t:TT):Prop :=
 ∀(U:Δ)(s:Shared)(G:St)(H:Hp)(Q:Bool->Hp->Prop),Inv X U G H s->t G H Q->wpAny (model X.prog X.w) X.A (isTrue e X.env (eval e X.env)) (TP X U G Q) X.xe s
def PW(X:Cx)(e:Expr)(t:TT):Prop :=
 ∀(a:Sem Value)(U:Δ)(s:Shared)(G:St)(H:Hp)(Q:Bool->Hp->Prop),Inv X U G H s->t G H Q->wpAny (model X.prog X.w) X.A (isTrue e X.env a) (TP X U G Q) X.xe s
def PW.pt{X:Cx}{t:TT}(h:PW X e t):PT X e t:=h _
def PA(X:Cx)(Z:xw)(t:TA):Prop :=
 ∀(O:Pos)(U:Δ)(s:Shared)(G:St)(H:Hp)(Q:Ζ->Hp->Prop),Inv X U G H s->t G H Q->wpAny (model X.prog X.w) X.A (spliced (backTo O (starEach Z X.env))) (AP X U G Q) X.xe s
def PS(X:Cx)(a:Stmt)(t:TS):Prop :=
 ∀(U:Δ)(s:Shared)(G:St)(H:Hp)(D:Ends),Inv X U G H s->t D G H->wpAny (model X.prog X.w) X.A (exec a X.env) (SP X U D) X.xe s
def PSs(X:Cx)(a:xA)(t:TS):Prop :=
 ∀(U:Δ)(s:Shared)(G:St)(H:Hp)(D:Ends),Inv X U G H s->t D G H->wpAny (model X.prog X.w) X.A (execs a X.env) (SP X U D) X.xe s
def ag{b:Type}{t:Sem b}{Q c:b->Shared->Prop}(h:wpAny M A t Q E s)(d:∀a s,Q a s->c a s):wpAny M A t c E s:=wpAny_mono h d λ_ _ x=>x
variable{G:St}{c tg:Expr}{I ys:Ζ}{K:Frag}{O a8:Pos}{Z:xw}{k:Nat}{te:TE}
section
variable{X:Cx}
def Ku(i:Nat):TE:=λG H Q=>∃v,G[i]?=some (some v)/\Q v H
def tC(v:V):TE:=λ_ H Q=>Q v H
abbrev zz(a:Str):Prop:=(a==("__debug__":Str))=false
abbrev zk(a:Str):Prop:=(a==("__classdict__":Str))=false
def P7{O:Pos}(o:X.N[i]?=some x)(g:j3 X.env.scope x)(hd:zz x:=by decide)(p:zk x:=by decide):PE X (.Name x O) (Ku i):=by
 intro U s G H Q I h;obtain⟨v,e,h⟩:=h;obtain⟨m,j,n⟩:=I.loc;obtain⟨u,r,l⟩:=n i x v o e g;have b:EP X U G Q u s:=⟨v,H,I,r,h⟩;rcases l with⟨a,k⟩|⟨a,c,d,f⟩
 .exact wpAny_Name (wpAny_loadName_local I.ok.kind a j k b) hd
 .rcases a with a|a
  .exact wpAny_Name (wpAny_loadName_cell I.ok.kind a d f b) hd
  .exact wpAny_Name (wpAny_loadName_free I.ok.kind a d f b p) hd
def uo{i j O} : PE X (.Constant (.int i) j O) (tC (.int i)):=λ_ _ _ H _ I h=>wpAny_Constant_int ⟨.int i,H,I.tok _,⟨_,rfl⟩,h⟩
def C6{b j O} : PE X (.Constant (.bool b) j O) (tC (.bl b)):=λ_ _ _ H _ I h=>Constant_bool ⟨.bl b,H,I,rfl,h⟩
def YB{j O} : PE X (.Constant .none j O) (tC .non):=λ_ _ _ H _ I h=>Constant_none ⟨.non,H,I,rfl,h⟩
def EC{x j O} : PE X (.Constant (.str x) j O) (tC (.str x)):=λ_ _ _ H _ I h=>Calls.Constant_str ⟨.str x,H,I.tok _,⟨_,rfl⟩,h⟩
def Gl(X:Cx)(x:Str):Prop:=X.env.kindOf x=some .globalImplicit
def sY{O:Pos}{Q:Ε}(I:Inv X U G H s)(b:Gl X x)(a:X.mg x=some u)(h:Q u s)
 (hd:zz x:=by decide):wpAny (model X.prog X.w) X.A (eval (.Name x O) X.env) Q E s :=
 Calls.Name_function_global I.ok.kind b (Calls.loadGlobal_global (by rw[I.ok.glob];exact I.mod.glob.keeps I.bk) a h) hd
def Di{O:Pos}{Q:Ε}(I:Inv X U G H s)(d:Gl X x)(c:X.mg x=none)(a:bootBuiltins x=some u)(h:Q u s)
 (b:x≠"__name__":=by decide)(hd:zz x:=by decide):wpAny (model X.prog X.w) X.A (eval (.Name x O) X.env) Q E s:=by
 obtain⟨g,f,e⟩:=I.mod.blt;exact Calls.Name_function_global I.ok.kind d (Calls.loadGlobal_builtin (by rw[I.ok.glob];exact I.mod.glob.keeps I.bk) c (by rw[I.ok.blt];exact f.keeps I.bk) ((e x b).trans a) h) hd
def ZX{O:Pos}(b:Gl X x)(a:X.mg x=some u)(r:zP v u)(hd:zz x:=by decide):PE X (.Name x O) (tC v) :=
 λ_ _ _ H _ I h=>sY I b a ⟨v,H,I,r,h⟩ hd
def _C{O:Pos}(d:Gl X x)(c:X.mg x=none)(a:bootBuiltins x=some u)(r:zP v u)(b:x≠"__name__":=by decide)(hd:zz x:=by decide):PE X (.Name x O) (tC v) :=
 λ_ _ _ H _ I h=>Di I d c a ⟨v,H,I,r,h⟩ b hd
variable{a b:Expr}{ta tb:TE}{O:Pos}
def PC(X:Cx)(e:CmpOp)(a b:Expr)(t:TE):Prop :=
 ∀(U:Δ)(s:Shared)(G:St)(H:Hp)(Q:VK),Inv X U G H s->t G H Q ->
  wpAny (model X.prog X.w) X.A (eval a X.env) (λv d=>wpAny (model X.prog X.w) X.A (eval b X.env) (λu c=>wpAny (model X.prog X.w) X.A (compareOp e v u) (EP X U G Q) X.xe c) X.xe d) X.xe s
def tB(t:TE):TT:=λG H Q=>t G H λx Y=>∃c,x=.bl c/\Q c Y
def EO{e:CmpOp}{t:TE}(h:PC X e a b t)(f:behindInMarks e b=false:=by rfl):PT X (.Compare a [e] [b] O) (tB t):=by
 intro U s G H Q I hw;refine wpAny_isTrue_Compare1 (ag (h U s G H _ I hw) λv o f=>ag f λu n k=>ag k λc m j=>?_) f;obtain⟨x,Y,l,g,i⟩:=j;obtain⟨d,rfl,q⟩:=i;cases g;exact wpAny_truthy_bool ⟨Y,l,q⟩
variable{tA mr:TT}{rest:xw}
def LA(t u:TT):TT:=λG H Q=>t G H λc Y=>if c=true then u G Y Q else Q false Y
def IC(t u:TT):TT:=λG H Q=>t G H λc Y=>if c=true then Q true Y else u G Y Q
def ML(t:TT):TT:=λG H Q=>t G H λc Y=>Q (!c) Y
def pw_and1(b:PT X a tA):PW X (.BoolOp .And [a] O) tA:=by
 intro d U s G H Q I h;refine isTrue_and (ag (b U s G H Q I h) λc f e=>?_);cases c with
 |true=>exact isTrue_and_nil e
 |false=>exact e
def pw_or1(b:PT X a tA):PW X (.BoolOp .Or [a] O) tA:=by
 intro d U s G H Q I h;refine isTrue_or (ag (b U s G H Q I h) λc f e=>?_);cases c with
 |false=>exact isTrue_or_nil e
 |true=>exact e
def pw_and(j:PT X a tA)(i:PW X (.BoolOp .And (b::rest) O) mr):PW X (.BoolOp .And (a::b::rest) O) (LA tA mr):=by
 intro f U s G H Q I h;refine isTrue_and (ag (j U s G H _ I h) λc g k=>?_);obtain⟨Y,e,d⟩:=k;cases c with
 |true=>exact i f U g G Y Q e d
 |false=>exact⟨Y,e,d⟩
def pw_or(j:PT X a tA)(i:PW X (.BoolOp .Or (b::rest) O) mr):PW X (.BoolOp .Or (a::b::rest) O) (IC tA mr):=by
 intro f U s G H Q I h;refine isTrue_or (ag (j U s G H _ I h) λc g k=>?_);obtain⟨Y,e,d⟩:=k;cases c with
 |true=>exact⟨Y,e,d⟩
 |false=>exact i f U g G Y Q e d
def Qb(b:PT X a tA):PT X (.UnaryOp .Not a O) (ML tA):=by
 intro U s G H Q I h;exact isTrue_not (b U s G H (λc Y=>Q (!c) Y) I h)
def Pf(ta tb:TE):TE:=λG H Q=>ta G H λx Y=>∃c,x=.bl c/\if c=true then tb G Y Q else Q (.bl false) Y
def Of(ta:TE):TE:=λG H Q=>ta G H λx Y=>∃c,x=.bl c/\Q (.bl (!c)) Y
def S5{b}{t:TE}(h:PE X a t):PE X (.BoolOp b [a] O) t:=λU s G H Q I c=>BoolOp_one (h U s G H Q I c)
def Ti(j:PE X a ta)(i:PE X (.BoolOp .And (b::rest) O) tb):PE X (.BoolOp .And (a::b::rest) O) (Pf ta tb):=by
 intro U s G H Q I h;refine BoolOp_and (ag (j U s G H _ I h) λv f k=>?_);obtain⟨x,Y,e,g,d⟩:=k;obtain⟨c,rfl,d⟩:=d;cases g;refine wpAny_truthy_bool ?_;cases c with
 |true=>exact i U f G Y Q e d
 |false=>exact⟨.bl false,Y,e,rfl,d⟩
def WI(e:PE X a ta):PE X (.UnaryOp .Not a O) (Of ta):=by
 intro U s G H Q I h;refine UnaryOp_ (ag (e U s G H _ I h) λv i f=>?_);obtain⟨x,Y,g,d,b⟩:=f;obtain⟨c,rfl,b⟩:=b;cases d;exact not_of (wpAny_truthy_bool ⟨.bl (!c),Y,g,rfl,b⟩)
def ID(t:TT)(ta tb:TE):TE:=λG H Q=>t G H λc Y=>if c=true then ta G Y Q else tb G Y Q
def adA(hc:PT X c tA)(j:PE X a ta)(i:PE X b tb):PE X (.IfExp c a b O) (ID tA ta tb):=by
 intro U s G H Q I h;refine wpAny_IfExp (ag (hc U s G H _ I h) λd e k=>?_);obtain⟨Y,g,f⟩:=k;cases d with
 |true=>exact j U e G Y Q g f
 |false=>exact i U e G Y Q g f
end
def SqL(K:Frag)(H:Hp)(a:Addr)(I:Ζ):Prop :=
 Rd H a (.lst I) \/
  ∃(o:Obj)(b:xE)(n:Nat),K.lookup a=some o/\o.cls=.type "list"/\o.dict=none/\o.data=.seq b n/\b.size<=sizeLine/\zK I b.toList
def SqT(K:Frag)(H:Hp)(a:Addr)(I:Ζ):Prop :=
 Rd H a (.tup I) \/
  ∃(o:Obj)(b:xE)(n:Nat),K.lookup a=some o/\o.cls=.type "tuple"/\o.data=.seq b n/\b.size<=sizeLine/\zK I b.toList
noncomputable def LX:Value->wf
 |.none=>some .non
 |.bool b=>some (.bl b)
 |.int i _=>some (.int i)
 |.str x _=>some (.str x)
 |.bytes b _=>some (.byt b)
 |.float b _=>some (.flt b)
 |.ref a=>some (.ref a)
 |.type n=>some (.ty n)
 |_=>none
def zP.abs{x:V}(r:zP x u):LX u=some x:=by
 cases x with
 |non=>cases r;rfl
 |bl _=>cases r;rfl
 |int _=>obtain⟨t,rfl⟩:=r;rfl
 |str _=>obtain⟨t,rfl⟩:=r;rfl
 |byt _=>obtain⟨t,rfl⟩:=r;rfl
 |flt _=>obtain⟨t,rfl⟩:=r;rfl
 |ref _=>cases r;rfl
 |ty _=>cases r;rfl
def zP.inj{x y:V}{u:Value}(r:zP x u)(q:zP y u):x=y:=Option.some.inj (r.abs.symm.trans q.abs)
theorem zK.inj:∀{I ys:Ζ}{a:Θ},zK I a->zK ys a->I=ys
 |_,_,_,.nil,.nil=>rfl
 |_,_,_,.cons r t,.cons b t'=>by rw[r.inj b,zK.inj t t']
def SqL.of(h:H a=some (.lst I)):SqL K H a I:=.inl (.inl h)
def SqT.of(h:H a=some (.tup I)):SqT K H a I:=.inl (.inl h)
def Inv.list(b:Inv X U G H s)(h:SqL X.K H a I):∃c:Θ,zK I c/\PlainL s.heap a c.toArray/\I.length<=sizeLine:=by
 rcases h with h|⟨o,c,n,g,i,hd,f,d,r⟩
 .obtain⟨z,c,n,r,e⟩:=h.ok b.hok;exact⟨c,r,⟨_,n,e,rfl,rfl,rfl⟩,z⟩
 .refine⟨c.toList,r,⟨o,n,b.kIn a o g,i,hd,by simpa using f⟩,?_⟩;have e:=r.length;simp only[Array.length_toList]at e;exact aL (WG e) d
def Inv.tuple(b:Inv X U G H s)(h:SqT X.K H a I):∃c:Θ,zK I c/\IsTup s.heap a c.toArray/\I.length<=sizeLine:=by
 rcases h with h|⟨o,c,n,g,i,f,d,r⟩
 .obtain⟨z,c,r,p⟩:=h.ok b.hok;exact⟨c,r,p,z⟩
 .refine⟨c.toList,r,⟨o,b.kIn a o g,i,n,by simpa using f⟩,?_⟩;have e:=r.length;simp only[Array.length_toList]at e;exact aL (WG e) d
def Inv.list_inj(b:Inv X U G H s)(h:SqL X.K H a I)(h':SqL X.K H a ys):I=ys:=by
 obtain⟨f,r,⟨o,n,e,_,_,d⟩,_⟩:=b.list h;obtain⟨c,j,⟨o',l,g,_,_,i⟩,_⟩:=b.list h';rw[e]at g;cases g;rw[d]at i;injection i with k _;have:f=c:=by simpa using ZH Array.toList k
 subst this;exact r.inj j
abbrev Cx.wish(X:Cx)(E:Ε):Cx:={ X with xe:=E }
abbrev Cx.nox(X:Cx):Cx:=X.wish λ_ _=>False
def Cx.Ok.wish{X:Cx}(a:X.Ok)(E:Ε):(X.wish E).Ok :=
 ⟨a.mod,a.kind,a.glob,a.blt,a.above,a.inj,a.has,a.cab,a.hd,a.frames,a.stk,a.exf,a.bs,a.bsz,a.noex,a.exfs,a.funs,a.frf⟩
def Cx.Ok.unwish{X:Cx}(a:(X.wish E).Ok):X.Ok :=
 ⟨a.mod,a.kind,a.glob,a.blt,a.above,a.inj,a.has,a.cab,a.hd,a.frames,a.stk,a.exf,a.bs,a.bsz,a.noex,a.exfs,a.funs,a.frf⟩
def Inv.wish(I:Inv X U G H s)(E:Ε):Inv (X.wish E) U G H s:=⟨I.ok.wish E,I.os,I.bare,I.base,I.loc,I.cell,I.free,I.freeC,I.pin,I.hok,I.len⟩
def Inv.unwish(I:Inv (X.wish E) U G H s):Inv X U G H s:=⟨I.ok.unwish,I.os,I.bare,I.base,I.loc,I.cell,I.free,I.freeC,I.pin,I.hok,I.len⟩
def SP.unwish{D:Ends}{f:Flow}{s':Shared}(h:SP (X.wish E) U D f s'):SP X U D f s':=by
 cases f with
 |next=>obtain⟨a,W,I,q⟩:=h;exact⟨a,W,I.unwish,q⟩
 |brk=>obtain⟨a,W,I,q⟩:=h;exact⟨a,W,I.unwish,q⟩
 |cont=>obtain⟨a,W,I,q⟩:=h;exact⟨a,W,I.unwish,q⟩
 |ret u=>obtain⟨v,a,W,I,r,q⟩:=h;exact⟨v,a,W,I.unwish,r,q⟩
def PSs.nox{a:xA}{t:TS}(h:PSs X.nox a t):PSs X a t:=λU s G H D I b =>
 wpAny_mono (h U s G H D (I.wish _) b) (λ_ _ q=>q.unwish) λ_ _ z=>False.elim z
section
variable{X:Cx}{st:Stmt}{rest:xA}{t u:TS}{e:Expr}{te:TE}{O:Pos}
def O0:TS:=λD G H=>D.nx G H
def jP(t u:TS):TS:=λD G H=>t { D with nx:=u D } G H
def Hy:PSs X [] O0:=λ_ _ G H _ I h=>wpAny_execs_nil ⟨G,H,I,h⟩
def pA(d:PS X st t)(c:PSs X rest u):PSs X (st::rest) (jP t u):=by
 intro U s G H D I h;refine wpAny_execs_cons (ag (d U s G H { D with nx:=u D } I h) λf b q=>?_);cases f with
 |next =>
  obtain⟨a,W,e,q⟩:=q;exact c U b a W D e q
 |ret v=>exact q
 |brk=>exact q
 |cont=>exact q
def oH(a:PS X st t):PSs X [st] t:=by
 intro U s G H D I h;refine wpAny_execs_cons (ag (a U s G H D I h) λf b q=>?_);cases f with
 |next=>exact wpAny_execs_nil q
 |ret v=>exact q
 |brk=>exact q
 |cont=>exact q
def Inv.quiet(I:Inv X U G H s):interactive X.env=false:=by simp[interactive,I.ok.kind]
def OE(te:TE):TS:=λD G H=>te G H λ_ Y=>D.nx G Y
def oK(c:PE X e te)(b:swapsWith e none O.line X.env=pure false:=by rfl):PS X (.Expr e O) (OE te):=by
 intro U s G H D I h;exact wpAny_Expr_any (ag (c U s G H _ I h) λv g d=>by obtain⟨x,Y,f,i,a⟩:=d;exact⟨G,Y,f,a⟩) I.quiet b
def KO(te:TE):TS:=λD G H=>te G H D.rt
def yH(c:PE X e te):PS X (.Return (some e) O) (KO te):=by
 intro U s G H D I h;exact wpAny_Return_some (ag (c U s G H _ I h) λv g d=>by obtain⟨x,Y,f,a,b⟩:=d;exact⟨x,G,Y,f,a,b⟩)
def Kn(c:TT)(t u:TS):TS:=λD G H=>c G H λb Y=>if b=true then t D G Y else u D G Y
def DM{a b:xA}{e:TT}(hc:PT X c e)(k:PSs X a t)(j:PSs X b u):PS X (.If c a b O) (Kn e t u):=by
 intro U s G H D I h;refine wpAny_If (ag (hc U s G H _ I h) λd f l=>?_);obtain⟨Y,i,g⟩:=l;cases d with
 |true=>exact k U f G Y D i g
 |false=>exact j U f G Y D i g
def SU:TS:=λ_ _ _=>False
def acw:PS X st SU:=λ_ _ _ _ _ _ h=>h.elim
end
abbrev TG:=V->St->Hp->(St->Hp->Prop)->Prop
abbrev eZ:=Ζ->St->Hp->(St->Hp->Prop)->Prop
def PG(X:Cx)(b:Expr)(t:TG):Prop :=
 ∀(U:Δ)(s:Shared)(G:St)(H:Hp)(v:V)(u:Value)(Q:St->Hp->Prop),Inv X U G H s->zP v u->t v G H Q ->
  wpAny (model X.prog X.w) X.A (assign b X.env u) (λ_ s'=>∃a W,Inv X U a W s'/\Q a W) X.xe s
def PGs(X:Cx)(d:xw)(t:eZ):Prop :=
 ∀(U:Δ)(s:Shared)(G:St)(H:Hp)(b:Ζ)(c:Θ)(Q:St->Hp->Prop),Inv X U G H s->zK b c->t b G H Q ->
  wpAny (model X.prog X.w) X.A (assignInOrder ((assignEach d X.env).map (·.2)) c) (λ_ s'=>∃a W,Inv X U a W s'/\Q a W) X.xe s
abbrev nK:=V->V->V->Hp->(Hp->Prop)->Prop
def sB(X:Cx)(t:nK):Prop :=
 ∀(U:Δ)(s:Shared)(G:St)(H:Hp)(o i v:V)(a b u:Value)(Q:Hp->Prop),Inv X U G H s->zP o a->zP i b->zP v u->t o i v H Q ->
  wpAny (model X.prog X.w) X.A (setItem a b u) (λ_ s'=>∃W,Inv X U G W s'/\Q W) X.xe s
abbrev l3:=V->V->Hp->VK->Prop
def pz(X:Cx)(a:Operator)(t:l3):Prop :=
 ∀(U:Δ)(s:Shared)(G:St)(H:Hp)(x y:V)(v u:Value)(Q:VK),Inv X U G H s->zP x v->zP y u->t x y H Q ->
  wpAny (model X.prog X.w) X.A (inplaceOp a v u) (EP X U G Q) X.xe s
def xQ(i:Nat):TG:=λv G H Q=>Q (G.set i (some v)) H
def gZ(d:X.N.Nodup)(b:X.N[i]?=some x)(a:e7 X.env.scope x)(c:zd X x:=by first|exact .inl rfl|exact .inr rfl|assumption):PG X (.Name x O) (xQ i):=by
 intro U s G H v u Q I r h;exact wpAny_assign_Name (u9 I d b a r (λs' e=>⟨_,H,e,h⟩) c)
def L9:eZ:=λa G H Q=>a=[]/\Q G H
def Pm(t:TG)(u:eZ):eZ:=λb G H Q=>∃v r,b=v::r/\t v G H λa W=>u r a W Q
def Z4:PGs X [] L9:=by
 intro U s G H a b Q I r h;obtain⟨e,h⟩:=h;subst e;cases r;exact assignInOrder_nil ⟨G,H,I,h⟩
def K8{t:TG}{u:eZ}(j:PG X e t)(i:PGs X Z u)
 (f:(assignEach (e::Z) X.env).map (·.2)=assign e X.env::(assignEach Z X.env).map (·.2):=by rfl):PGs X (e::Z) (Pm t u):=by
 intro U s G H m n Q I r h;obtain⟨v,vr,k,h⟩:=h;subst k;cases r with
 |cons r c =>
  rw[f];refine assignInOrder_cons (ag (j U s G H _ _ _ I r h) λ_ b g=>?_);obtain⟨a,Y,l,d⟩:=g;exact i U b a Y _ _ Q l c d
def MA(K:Frag)(n:Nat)(t:eZ):TG:=λv G H Q=>∃a I,v=.ref a/\SqT K H a I/\I.length=n/\t I G H Q
abbrev zD(X:Cx)(a:xw):Prop:=(assignEach a X.env).findIdx? (·.1)=none
def EQ{t:eZ}{n:Nat}(hc:X.calm)(h:PGs X Z t)
 (m:(assignEach Z X.env).length=n:=by rfl)(w:zD X Z:=by rfl):PG X (.Tuple Z k O) (MA X.K n t):=by
 intro U s G H v u Q c r hw;obtain⟨a,I,q,l,p,hw⟩:=hw;subst q;cases r;obtain⟨g,d,j,y⟩:=c.tuple l;refine assign_Tuple_tuple (c.ok.hd hc) j (by simp[m,<- p,d.length]) w λh' i=>?_;have x:Inv X U G H { s with heap:=h' }:=c.kept (t':=s.toks) λb o e=>i b o (aQ (aK e)) e;exact h U _ G H I _ Q x (by simpa using d) hw
def LF(a b:TE)(t:nK):TG:=λv G H Q=>a G H λo Y=>b G Y λi d=>t o i v d λc=>Q G c
def E8{o i:Expr}{d e:TE}{t:nK}(n:PE X o d)(p:PE X i e)(m:sB X t)
 (q:∀v,assign (.Subscript o i O) X.env v=(do
   let a <- holding [v] (eval o X.env)
   let b <- holding [v,a] (eval i X.env)
   standAt O
   holding [v,a,b] (setItem a b v)
   release [v,a,b] []):=by intro _;rfl):PG X (.Subscript o i O) (LF d e t):=by
 intro U s G H v u Q I r h;rw[q];refine ZU (wpAny_holding (ag (n U s G H _ I h) λa g c=>?_));obtain⟨x,Y,A,k,l⟩:=c;refine ZU (wpAny_holding (ag (p U g G Y _ A l) λb f c=>?_));obtain⟨y,C,z,j,q2⟩:=c;refine ZU (wpAny_standAt (ZU (wpAny_holding (ag (m U f G C x y v a b u _ z k j r q2) λ_ D c=>?_))));obtain⟨B,w,q3⟩:=c;exact wpAny_release ⟨G,B,w,q3⟩
def ip(te:TE)(g:TG):TS:=λD G H=>te G H λx Y=>g x G Y D.nx
def Yq{g:TG}(j:PE X e te)(i:PG X tg g)(f:swapsWithSole [tg] e O.line X.env=pure false:=by rfl)(d:swappedStores [tg] e X.env=pure none:=by rfl)
 (l:(assignEach [tg] X.env).map (·.2)=[assign tg X.env]:=by rfl):PS X (.Assign [tg] e O) (ip te g):=by
 intro U s G H D I h;refine wpAny_Assign_stores (ag (j U s G H _ I h) λv a k=>?_) f d;obtain⟨x,Y,m,b,c⟩:=k;rw[l];exact ag (i U a G Y x v _ m b c) λ_ n q=>q
def zc(l:X.N.Nodup)(f:X.N[i]?=some x)(c:e7 X.env.scope x)(j:PE X e te)(d:swapsWith e (some (.Name x a8)) O.line X.env=pure false:=by rfl)(g:zd X x:=by first|exact .inl rfl|exact .inr rfl|assumption) :
  PS X (.Assign [.Name x a8] e O) (ip te (xQ i)):=by
 intro U s G H D I h;refine wpAny_Assign_Name (ag (j U s G H _ I h) λv p k=>?_) d;obtain⟨y,Y,n,a,b⟩:=k;exact u9 n l f c a (λo m=>⟨_,Y,m,b⟩) g
def LJ(i j:Nat)(b:TA):TS:=λD G H=>b G H λa Y=>∃v w,a=[v,w]/\D.nx ((G.set i (some v)).set j (some w)) Y
variable{a:Expr}{ta:TA}{op:Operator}{bS:xA}{p:Pos}{fp:Ψ}
def PZ{j:Nat}{y:Str}{b:Expr}{n m r:Pos}{t u d}(hc:X.calm)(F:X.N.Nodup)(V:X.N[i]?=some x)(T:X.N[j]?=some y)(R:i≠j)
 (C:X.env.scope.names.lookup x=some .local)(B:X.env.scope.names.lookup y=some .local)(W:PA X [a,b] ta)
 (hw:swappedStores [.Tuple [.Name x n,.Name y m] t r] (.Tuple [a,b] u d) X.env=pure (some [x,y]))
 (S:swapsWithSole [.Tuple [.Name x n,.Name y m] t r] (.Tuple [a,b] u d) O.line X.env=pure false:=by rfl) :
  PS X (.Assign [.Tuple [.Name x n,.Name y m] t r] (.Tuple [a,b] u d) O) (LJ i j ta):=by
 intro U s G H D I h;rw[exec_Assign_arm];refine ZU (wpAny_standAt ?_);rw[S];refine ZU (ZT ?_);rw[ZZ vk];refine ZU (Tuple_ (ag (W _ U s G H _ I h) λK k Z=>?_));obtain⟨vs,Y,I1,M,l⟩:=Z;obtain⟨v,w,e1,l⟩:=l;subst e1;obtain⟨g,f,rfl,L,gc⟩ : ∃g f,K=[g,f]/\zP v g/\zP w f:=by
  cases M with
  |cons p q =>
   cases q with
   |cons Q P =>
    cases P;exact⟨_,_,rfl,p,Q⟩
 refine wpAny_newObj_type ?_ (by show 2<=sizeLine;decide);have I2:Inv X U G Y { k with heap:=k.heap.push { cls:=.type "tuple",data:=.seq [g,f].toArray } }:=I1.kept (t':=k.toks) λb o e=>aH _ e;rw[hw];refine ZU (ZT ?_);show wpAny (model X.prog X.w) X.A (do rule "assign.swapped-stores"; let c <- unpackItems (.ref k.zs) 2 none;assignInOrder [λv=>bindName X.env y v,λv=>bindName X.env x v] c.reverse;pure Flow.next) _ _ _;refine ZU (wpAny_rule (ZU (unpackItems_tuple (items:=#[g,f]) (I.ok.hd hc) (IsTup.new k.heap _) λh' z=>?_)));have I3:=I2.kept (h':=h') (t':=k.toks) λb o e=>z b o (aQ (aK e)) e;show wpAny _ _ (assignInOrder [λv=>bindName X.env y v,λv=>bindName X.env x v] [f,g] >>= λ_=>pure Flow.next) _ _ _;refine ZU (assignInOrder_cons (wpAny_bindName (u9 I3 F T (.inl B) gc (λs2 I4=>?_) (.inr B))));refine assignInOrder_cons (wpAny_bindName (u9 I4 F V (.inl C) L (λs3 J=>assignInOrder_nil (ZT ?_)) (.inr C)));rw[List.set_comm _ _ (Ne.symm R)]at J;exact⟨_,Y,J,l⟩
def LN(i:Nat)(te:TE)(a:l3):TS:=λD G H=>∃x,G[i]?=some (some x)/\te G H λy Y=>a x y Y λz b=>D.nx (G.set i (some z)) b
def TL{n:l3}(P:X.N.Nodup)(o:X.N[i]?=some x)(g:e7 X.env.scope x)(M:PE X e te)(E:pz X op n)(L:zd X x:=by first|exact .inl rfl|exact .inr rfl|assumption) :
  PS X (.AugAssign (.Name x a8) op e O) (LN i te n):=by
 intro U s G H D I h;obtain⟨v,Q,h⟩:=h;obtain⟨m,F,K⟩:=I.loc;have f:j3 X.env.scope x:=by rcases g with k|k;exact .inl k;exact .inr (.inl k)
 obtain⟨u,r,l⟩:=K i x v o Q f;refine wpAny_AugAssign_Name ?_;have p:wpAny (model X.prog X.w) X.A (eval e X.env) (λw d=>wpAny (model X.prog X.w) X.A (inplaceOp op u w) (λr b=>wpAny (model X.prog X.w) X.A (storeName X.env x r) (λ_=>SP X U D .next) X.xe b) X.xe d) X.xe s:=by
  refine ag (M U s G H _ I h) λw q j=>?_;obtain⟨y,Y,V,B,C⟩:=j;refine ag (E U q G Y v y u w _ V r B C) λz s2 j=>?_;obtain⟨Z,W,T,t,q2⟩:=j;exact u9 T P o g t (λs3 S=>⟨_,W,S,q2⟩) L
 rcases l with⟨a,J⟩|⟨a,c,hc,R⟩
 .exact wpAny_loadName_local I.ok.kind a F J p
 .rcases a with a|a
  .exact wpAny_loadName_cell I.ok.kind a hc R p
  .rcases g with k|k
   .have:X.env.scope.names.lookup x=some .free:=a;rw[k]at this;cases this
   .have:X.env.scope.names.lookup x=some .free:=a;rw[k]at this;cases this
def sq(f:Int->Int->Int):l3:=λx y H Q=>∃i j,x=.int i/\y=.int j/\Q (.int (f i j)) H
def EI:pz X .Add (sq λi j=>i+j):=by
 intro U s G H x y v u Q I b a h;obtain⟨i,j,d,c,q⟩:=h;subst d;subst c;obtain⟨t,rfl⟩:=b;obtain⟨t',rfl⟩:=a;exact iadd_int ⟨.int _,H,I.tok _,⟨_,rfl⟩,q⟩
def WO(c:TT)(f:TS):TS:=λD G H=>∃a:Nat->St->Hp->Prop,(∃m,a m G H)/\∀m G H,a m G H ->
 c G H λb Y=>if b=true then ∃N:St->Hp->Prop,(∀d W,N d W->∃e,e<m/\a e d W)/\f { D with nx:=N,ct:=N,bk:=D.nx } G Y else D.nx G Y
def Wq{q:TT}{r:TS}(t:PassesOwn (model X.prog X.w) X.A X.env X.xe)(hc:PT X c q)(J:PSs X bS r):PS X (.While c bS [] O) (WO q r):=by
 intro U s G H D I h;obtain⟨a,⟨F,B⟩,i⟩:=h;refine wpAny_While (codeAny_whileLoop (λn s'=>∃g W,Inv X U g W s'/\a n g W) ?_ F ⟨G,H,I,B⟩);rintro n E ⟨e,Y,L,z⟩;refine wpAny_passesOwn t (ag (hc U E e Y _ L (i n e Y z)) λb C K=>?_);obtain⟨y,x,q2⟩:=K;cases b with
 |true =>
  obtain⟨N,u,q2⟩:=q2;rw[ZY rfl];refine wpAny_passesOwn t (ag (J U C e y _ x q2) λf M q3=>?_);cases f with
  |next =>
   obtain⟨d,j,p,l⟩:=q3;obtain⟨m,o,k⟩:=u d j l;exact⟨m,o,d,j,p,k⟩
  |cont =>
   obtain⟨d,j,p,l⟩:=q3;obtain⟨m,o,k⟩:=u d j l;exact⟨m,o,d,j,p,k⟩
  |brk=>exact q3
  |ret v=>exact q3
 |false =>
  rw[ZZ bx];exact wpAny_execs_nil ⟨e,y,x,q2⟩
structure It where
 go:Nat->Hp->Prop
 yld:Nat->Hp->V->Hp->Prop
 stop:Nat->Hp->Prop
def I8(X:Cx)(U:Δ)(H:Hp)(b:Addr):Prop :=
 H b=none/\b≠X.env.locals/\b∉X.fs/\(b∈X.ex\/X.s₀.zs<=b)/\(∀x c,X.env.cells.lookup x=some c->c≠b)/\∀p∈X.pn++U,p.1≠b
def Inv.fpOk{X:Cx}(I:Inv X U G H s)(a:s.zs<=b)(f:W b=none):I8 X U W b:=by
 refine⟨f,Up (aR I.lt a),I.nofs a,.inr (aL I.sz a),λx c e z=>?_,λp d z=>?_⟩
 .obtain⟨v,q⟩:=I.cell x c e;exact absurd (aR q.lt (by rwa[z])) (X2 _)
 .exact absurd (aR (aK (I.pin p d).1) (by rwa[z])) (X2 _)
structure Turn(P:Program)(w:World)(K:Frag)(tg:Expr)(J:It)(fp:Ψ)(it:Addr)(tn:Nat->Heap->Prop):Prop where
 mem:it∈fp
 obj:∀i h,tn i h->∀b∈fp,∃o,h.get? b=some o/\∀v,o.data≠.cell v
 keep:∀i h h',tn i h->(∀b∈fp,∀o,h.get? b=some o->h'.get? b=some o)->tn i h'
 item:∀(X:Cx),X.prog=P->X.w=w->X.K=K->X.calm=true->∀(i:Nat)(U:Δ)(s:Shared)(G:St)(H:Hp)(E:Ε),Inv X U G H s->(∀b∈fp,I8 X U H b)->tn i s.heap->J.go i H ->
  wpAny (model P w) X.A (pyNext (.ref it)) (λr s1=>∃u,r=some u /\
   wpAny (model P w) X.A (letOwnedTupleGo tg (.ref it) u) (λ_ s2=>∃x W,Inv X U G W s2/\zP x u/\J.yld i H x W/\tn (i+1) s2.heap/\∀b∈fp,W b=none) E s1) E s
 done:∀(X:Cx),X.prog=P->X.w=w->X.K=K->X.calm=true->∀(i:Nat)(U:Δ)(s:Shared)(G:St)(H:Hp)(E:Ε),Inv X U G H s->(∀b∈fp,I8 X U H b)->tn i s.heap->J.stop i H ->
  wpAny (model P w) X.A (pyNext (.ref it)) (λr s1=>r=none/\Inv X U G H s1) E s
 self:∀(A:Around)(i:Nat)(s:Shared)(Q:Ε)(E:Ε),tn i s.heap->Q (.ref it) s->wpAny (model P w) A (pyIter (.ref it)) Q E s
abbrev TI:=St->Hp->(It->Hp->Prop)->Prop
def HH(X:Cx)(U:Δ)(G:St)(tg:Expr)(R:It->Hp->Prop)(e:Value)(c:Shared):Prop :=
 ∃(d:Addr)(fp:Ψ)(a:Nat->Heap->Prop)(J:It)(W:Hp),e=.ref d/\Inv X U G W c/\Turn X.prog X.w X.K tg J fp d a/\a 0 c.heap/\(∀b∈fp,I8 X U W b)/\R J W
def PI(X:Cx)(tg iter:Expr)(a:TI):Prop :=
 ∀(U:Δ)(s:Shared)(G:St)(H:Hp)(R:It->Hp->Prop),Inv X U G H s->a G H R ->
  wpAny (model X.prog X.w) X.A (eval iter X.env) (λv b=>wpAny (model X.prog X.w) X.A (pyIter v) (HH X U G tg R) X.xe b) X.xe s
def ZP{c:Addr}{n:String}{b:xE}(d:s.heap.get? c=some o)(hc:o.cls=.type n)(hd:o.data=.fields b)
   (e : ["enumerate","zip","dict_itemiterator","dict_reverseitemiterator","odict_iterator","itertools.zip_longest","itertools.pairwise"].contains n=false)(a:Q () s):wpAny M A (letOwnedTupleGo tg (.ref c) u) Q E s:=by
  unfold letOwnedTupleGo;cases tg<;>first
    |exact ZT a
    |(cases u<;>first
        |exact ZT a
        | (refine ZU (wpAny_load d ?_)
           rw[hc,hd];show wpAny M A (if(["enumerate","zip","dict_itemiterator","dict_reverseitemiterator","odict_iterator","itertools.zip_longest","itertools.pairwise"].contains n&&b[0]?==some (rawInt _))=true then _ else _) Q E s;rw[ZZ (by intro h;rw[e,Bool.false_and]at h;cases h)];exact ZT a))
def HQ(K:Frag)(a:Addr):It :=
 ⟨λi H=>∃I x,SqL K H a I/\I[i]?=some x,λi H x W=>W=H/\∀I,SqL K H a I->I[i]?=some x,λi H=>∃I,SqL K H a I/\I.length<=i⟩
def kn(lo:Int)(n:Nat):It:=⟨λi _=>i<n,λi H x W=>W=H/\x=.int (lo+i),λi _=>n<=i⟩
def abV(a j:Addr):Turn P w K tg (HQ K a) [j] j (λi h=>h.IsListIter j a i) where
 mem:=by simp
 obj:=λi h g b l=>by
  have e:b=j:=by simpa using l
  subst e;obtain⟨o,e,c,d⟩:=g;exact⟨o,e,λv z=>by rw[d]at z;cases z⟩
 keep:=λi h h' g k=>g.at λo e=>k j vy o e
 item:=by
  intro X A hw B hc i U s G H E f q g y;subst A hw B;obtain⟨I,x,n,M⟩:=y;obtain⟨t,r,p,R⟩:=f.list n;obtain⟨u,T,Q⟩:=r.get M;obtain⟨L,J,V,F,D,C⟩:=q j vy;refine wpAny_pyNext_list_item g p.isList (x:=u) (by simpa using T) λh' N O=>?_;have Y:Inv X U G H { s with heap:=h' }:=f.turned (t':=s.toks) (λb o l e=>(O.2 b l).trans e) L J F D C;obtain⟨o,e,c,d⟩:=id N;exact⟨u,rfl,ZP (s:={ s with heap:=h' }) e c d vk ⟨x,H,Y,Q,⟨rfl,λys S=>by rwa[f.list_inj S n]⟩,N,λb l=>(q b l).1⟩⟩
 done:=by
  intro X A hw B hc i U s G H E f q g y;subst A hw B;obtain⟨I,n,M⟩:=y;obtain⟨t,r,p,R⟩:=f.list n;obtain⟨L,J,V,F,D,C⟩:=q j vy;have Z:=r.length;exact wpAny_pyNext_list_end (f.ok.hd hc) g p.isList (by simp;lia) λh' W=>⟨rfl,f.turned (t':=s.toks) (λb o l e=>W b o l e) L J F D C⟩
 self:=λ_ _ _ _ _ g h=>wpAny_pyIter_listiter g h
def X5(c:Addr)(lo:Int)(n:Nat):Turn P w K tg (kn lo n) [c] c (λi h=>IsRangeIter h c (lo+(i:Nat)*1) ((n:Int)-(i:Nat)) 1) where
 mem:=by simp
 obj:=λi h a b d=>by
  have e:b=c:=by simpa using d
  subst e;exact⟨_,a,λv z=>by
   have B:Data.fields _=Data.cell v:=z;cases B⟩
 keep:=λi h h' a k=>k c vy _ a
 item:=by
  intro X l hw m hc i U s G H E I g a j;subst l hw m;obtain⟨x,u,F,r,q,p⟩:=g c vy;have W:=Walks.range (prog:=X.prog) (w:=X.w) (I.ok.hd hc) c lo 1 n;refine W.item i s _ _ j a λv h' y D A C=>?_;obtain⟨t,rfl⟩:=D;have L:Inv X U G H { s with heap:=h',toks:=y }:=I.turned (λb o d e=>C b o (by simpa using d) e) x u r q p;refine⟨_,rfl,ZP (s:={ s with heap:=h',toks:=y }) (n:="range_iterator") A rfl rfl vk ⟨.int (lo+i),H,L,⟨t,?_⟩,⟨rfl,rfl⟩,A,λb d=>(g b d).1⟩⟩;rw[Int.mul_one]
 done:=by
  intro X l hw m hc i U s G H E I g a j;subst l hw m;obtain⟨x,u,F,r,q,p⟩:=g c vy;exact wpAny_pyNext_range_end (I.ok.hd hc) a (by have:n<=i:=j;lia) λh' J=>⟨rfl,I.turned (t':=s.toks) (λb o d e=>J b o d e) x u r q p⟩
 self:=λ_ _ _ _ _ a h=>wpAny_pyIter_rangeiter a h
def OK(K:Frag)(b:TE):TI:=λG H R=>b G H λx Y=>∃a,x=.ref a/\(∃I,SqL K Y a I)/\R (HQ K a) Y
def _I{l:Expr}{g:TE}(n:PE X l g):PI X tg l (OK X.K g):=by
 intro U s G H R c h;refine ag (n U s G H _ c h) λv d t=>?_;obtain⟨x,Y,f,i,j⟩:=t;obtain⟨a,e,⟨I,m⟩,q⟩:=j;subst e;cases i;obtain⟨k,u,p,w⟩:=f.list m;refine wpAny_pyIter_list p.isList ?_;refine⟨d.zs,[d.zs],_,_,Y,rfl,f.kept (t':=d.toks) λb o e=>aH _ e,abV a _,⟨_,aW _ rfl,rfl,rfl⟩,λb r=>?_,q⟩;have e:b=d.zs:=by simpa using r
 subst e;exact f.fpOk (aG _) (f.hok.fresh (aG _))
def Vs{R:It->Hp->Prop}{lo a:Int}{t u v:Tok}{d:Nat}(I:Inv X U G H s)(k : -(2^62)<=lo)(j:lo<2^62)(i : -(2^62)<=a)(h:a<2^62)
 (q:R (kn lo (a-lo).toNat) H):wpAny (model X.prog X.w) X.A (pyIter (.ref s.zs)) (HH X U G tg R) E { s with heap:=s.heap.push { cls:=.type "range",data:=.fields #[.int lo t,.int a u,.int 1 v] },toks:=d }:=by
 refine wpAny_pyIter_range (IsRange.new ..) (small_one k j i h) ?_;have f:Inv X U G H { s with heap:=s.heap.push { cls:=.type "range",data:=.fields #[.int lo t,.int a u,.int 1 v] },toks:=d }:=I.kept λb o e=>aH _ e;refine⟨(s.heap.push { cls:=.type "range",data:=.fields #[.int lo t,.int a u,.int 1 v] }).objs.size,[(s.heap.push { cls:=.type "range",data:=.fields #[.int lo t,.int a u,.int 1 v] }).objs.size],_,_,H,rfl,
  f.kept (t':=d) λb o e=>aH _ e,X5 _ lo (a-lo).toNat,?_,λb g=>?_,q⟩
 .have m:lo+((0:Nat):Int)*1=lo:=by simp
  have l:(((a-lo).toNat:Nat):Int)-((0:Nat):Int)=Builtin.Range.rangeSize lo a 1:=by rw[rangeSize_one];split<;>lia
  show IsRangeIter _ _ (lo+((0:Nat):Int)*1) ((((a-lo).toNat:Nat):Int)-((0:Nat):Int)) 1;rw[m,l];exact aW _ rfl
 .have e:b=(s.heap.push { cls:=.type "range",data:=.fields #[.int lo t,.int a u,.int 1 v] }).objs.size:=by simpa using g
  subst e;exact f.fpOk (aG _) (f.hok.fresh (aG _))
def Op(ta:TA):TI:=λG H R=>ta G H λa Y=>∃j:Int,a=[.int j]/\-(2^62)<=j/\j<2^62/\R (kn 0 j.toNat) Y
def O3(ta:TA):TI:=λG H R=>ta G H λa Y=>∃i j:Int,a=[.int i,.int j]/\(-(2^62)<=i/\i<2^62/\-(2^62)<=j/\j<2^62)/\R (kn i (j-i).toNat) Y
def abv(i:Gl X "range")(g:X.mg "range"=none)(k:PA X [a] ta)(f:starEach [a] X.env=[(false,eval a X.env)]:=by rfl):PI X tg (.Call (.Name "range" p) [a] [] O) (Op ta):=by
 intro U s G H R I h;refine Call_ (Di I i g boot_range (PyProof.Rows.callWith_type1 (ag (k O U s G H _ I h) λo u l=>?_) f rfl));obtain⟨n,Y,m,d,b⟩:=l;obtain⟨j,e,b,q2,q⟩:=b;subst e;cases d with
 |cons r c =>
  cases c;obtain⟨t,rfl⟩:=r;exact call_range_1 (Vs m (XY vk) (JU vk) b q2 (by simpa using q))
def aaZ{b:Expr}(o:Gl X "range")(n:X.mg "range"=none)(u:PA X [a,b] ta)(m:starEach [a,b] X.env=[(false,eval a X.env),(false,eval b X.env)]:=by rfl)(f:starEach [b] X.env=[(false,eval b X.env)]:=by rfl) :
  PI X tg (.Call (.Name "range" p) [a,b] [] O) (O3 ta):=by
 intro U s G H R I h;refine Call_ (Di I o n boot_range (PyProof.Rows.callWith_type1 (ag (u O U s G H _ I h) λy z v=>?_) (by rw[m,f]) (by rw[f];rfl)));obtain⟨x,Y,w,g,d⟩:=v;obtain⟨i,j,e,⟨d,q2,q3,l⟩,q⟩:=d;subst e;cases g with
 |cons r c =>
  cases c with
  |cons k c =>
   cases c;obtain⟨t,rfl⟩:=r;obtain⟨t',rfl⟩:=k;exact call_range_2 (Vs w d q2 q3 l q)
def AN(e:TI)(g:TG)(f:TS):TS:=λD G H=>e G H λJ Y=>∃a:Nat->Nat->St->Hp->Prop,(∃m,a 0 m G Y)/\∀i m G H,a i m G H ->
 (J.stop i H/\D.nx G H)\/(J.go i H/\∃N:St->Hp->Prop,(∀b W,N b W->∃d,d<m/\a (i+1) d b W)/\∀x W,J.yld i H x W->g x G W λc h=>f { D with nx:=N,ct:=N,bk:=D.nx } c h)
def Lq(fp:Ψ)(h:Heap):Δ:=fp.filterMap λb=>(h.get? b).map λo=>(b,o)
def sy(a:b∈fp)(e:h.get? b=some o):(b,o)∈Lq fp h:=List.mem_filterMap.mpr ⟨b,a,by rw[e];rfl⟩
def abB{p:Addr×Obj}(a:p∈Lq fp h):p.1∈fp/\h.get? p.1=some p.2:=by
 obtain⟨b,c,e⟩:=List.mem_filterMap.mp a;cases q:h.get? b with
 |none=>rw[q]at e;cases e
 |some o =>
  rw[q]at e;have d:(b,o)=p:=Option.some.inj e;subst d;exact⟨c,q⟩
def Inv.pinned(I:Inv X U G H s)(h:∀b∈fp,I8 X U H b)(g:∀b∈fp,∃o,s.heap.get? b=some o/\∀v,o.data≠.cell v):Inv X (U++Lq fp s.heap) G H s :=
 I.pins_of λp f=>(Y1.mp f).elim (λz=>I.pin p (aP _ z)) λz=>by
  obtain⟨a,e⟩:=abB z;obtain⟨k,j,i,_⟩:=h p.1 a;obtain⟨o,c,d⟩:=g p.1 a;rw[e]at c;cases c;exact⟨e,k,j,i,d⟩
def Inv.unpinned{a:Δ}(I:Inv X (U++a) G H s):Inv X U G H s:=I.pins_of λp b=>I.pin p (aP _ (UR _ b))
abbrev zh(X:Cx)(a:Expr):Prop:=∀z,foldedSetIterable a X.env z=pure z
def FV{iter:Expr}{Y:TI}{g:TG}{tb:TS}(E:PassesOwn (model X.prog X.w) X.A X.env X.xe)(hc:X.calm)(hi:PI X tg iter Y)(hg:PG X tg g)(l:PSs X bS tb)
 (hs:zh X iter:=by intro _;rfl):PS X (.For tg iter bS [] O) (AN Y g tb):=by
 intro U s G H D I h;refine wpAny_For (ag (hi U s G H _ I h) λv s1 h1=>ag h1 λoB s2 h2=>?_) hs;obtain⟨it,fp,Z,J,H2,e,I2,T,gN,f2,a,⟨m0,w0⟩,z⟩:=h2;subst e

 have Q:∀{W:Hp},(∀b∈fp,W b=none)->∀b∈fp,I8 X U W b:=λhn b l=>⟨hn b l,(f2 b l).2⟩;refine codeAny_forLoop_any (λn s'=>∃i k W,Inv X U k W s'/\Z i s'.heap/\(∀b∈fp,W b=none)/\a i n k W) ?_ m0 ⟨0,G,H2,I2,gN,λb l=>(f2 b l).1,w0⟩;rintro n s3 ⟨i,j,K,I3,j1,F,w3⟩;rcases z i n j K w3 with⟨B,qn⟩|⟨go,N,hN,step⟩
 .refine wpAny_passesOwn E (ag (T.done X rfl rfl rfl hc i U s3 j K X.xe I3 (Q F) j1 B) λr s4 y=>?_);obtain⟨R,I4⟩:=y;subst R;exact wpAny_execs_nil ⟨j,K,I4,qn⟩
 .refine wpAny_passesOwn E (ag (T.item X rfl rfl rfl hc i U s3 j K X.xe I3 (Q F) j1 go) λr s4 y=>?_);obtain⟨u,R,h4⟩:=y;subst R;refine wpAny_passesOwn E (ag h4 λ_ s5 y=>?_);obtain⟨x,H5,I5,r5,y5,P,S⟩:=y;have V:=I5.pinned (Q S) (T.obj _ _ P);refine wpAny_passesOwn E (ag (hg _ s5 j H5 x u _ V r5 (step x H5 y5)) λ_ s6 y=>?_);obtain⟨L,H6,I6,q6⟩:=y;refine wpAny_passesOwn E (ag (l _ s6 L H6 _ I6 q6) λf M t=>?_);have again:∀{c:St}{q:Hp},Inv X (U++Lq fp s5.heap) c q M->N c q->∃m,m<n/\∃i k W,Inv X U k W M/\Z i M.heap/\(∀b∈fp,W b=none)/\a i m k W:=λ{c q}p C=>by
   obtain⟨m',hm,w7⟩:=hN c q C;refine⟨m',hm,i+1,c,q,p.unpinned,T.keep _ _ _ P λb l o e=>(p.pin (b,o) (aP _ (aP _ (sy l e)))).1,λb l=>?_,w7⟩;obtain⟨o,e,d⟩:=T.obj _ _ P b l;exact(p.pin (b,o) (aP _ (aP _ (sy l e)))).2.1
  cases f with
  |next=>obtain⟨c,q,p,C⟩:=t;exact again p C
  |cont=>obtain⟨c,q,p,C⟩:=t;exact again p C
  |brk=>obtain⟨c,q,p,t⟩:=t;exact⟨c,q,p.unpinned,t⟩
  |ret v=>obtain⟨x7,c,q,p,r7,t⟩:=t;exact⟨x7,c,q,p.unpinned,r7,t⟩
abbrev R2:=V->V->Hp->VK->Prop
def OpR(X:Cx)(f:Value->Value->Sem Value)(r:R2):Prop :=
 ∀(U:Δ)(s:Shared)(G:St)(H:Hp)(x y:V)(v u:Value)(Q:VK),Inv X U G H s->zP x v->zP y u->r x y H Q ->
  wpAny (model X.prog X.w) X.A (f v u) (EP X U G Q) X.xe s
def py(X:Cx)(f:Value->Sem Value)(r:V->Hp->VK->Prop):Prop :=
 ∀(U:Δ)(s:Shared)(G:St)(H:Hp)(x:V)(v:Value)(Q:VK),Inv X U G H s->zP x v->r x H Q ->
  wpAny (model X.prog X.w) X.A (f v) (EP X U G Q) X.xe s
def jE(X:Cx)(f:Value)(r:Ζ->Hp->VK->Prop):Prop :=
 ∀(U:Δ)(s:Shared)(G:St)(H:Hp)(I:Ζ)(a:Θ)(Q:VK),Inv X U G H s->zK I a->r I H Q ->
  wpAny (model X.prog X.w) X.A (call f a) (EP X U G Q) X.xe s
def KT(X:Cx)(r:V->Hp->(Bool->Hp->Prop)->Prop):Prop :=
 ∀(U:Δ)(s:Shared)(G:St)(H:Hp)(x:V)(v:Value)(Q:Bool->Hp->Prop),Inv X U G H s->zP x v->r x H Q ->
  wpAny (model X.prog X.w) X.A (truthy v) (TP X U G Q) X.xe s
def iN(r:R2)(ta a:TE):TE:=λG H Q=>ta G H λx Y=>a G Y λy b=>r x y b Q
def Ix(r:V->Hp->VK->Prop)(ta:TE):TE:=λG H Q=>ta G H λx Y=>r x Y Q
def rI(C:Int->Int->Prop)(g:Int->Int->V):R2:=λx y H Q=>∃i j,x=.int i/\y=.int j/\C i j/\Q (g i j) H
def gd(g:Int->Int->V):R2:=λx y H Q=>∃i j,x=.int i/\y=.int j/\Q (g i j) H
def rU(g:Int->V):V->Hp->VK->Prop:=λx H Q=>∃i,x=.int i/\Q (g i) H
variable{b:Expr}{ta tb:TE}{f:Value->Value->Sem Value}{r:R2}{v:Value}{g:Int->Int->Int}
def ng(p:PE X a ta)(o:PE X b tb){R:V->V->Hp->Prop}(I:Inv X U G H s)
 (h:ta G H λx Y=>tb G Y λy c=>R x y c){Q:Ε}
 (n:∀v u g x y c,Inv X U G c g->zP x v->zP y u->R x y c->wpAny (model X.prog X.w) X.A (f v u) Q X.xe g) :
  wpAny (model X.prog X.w) X.A (eval a X.env) (λv e=>wpAny (model X.prog X.w) X.A (eval b X.env) (λu d=>wpAny (model X.prog X.w) X.A (f v u) Q X.xe d) X.xe e) X.xe s:=by
 refine ag (p U s G H _ I h) λv j i=>?_;obtain⟨x,Y,r,l,m⟩:=i;refine ag (o U j G Y _ r m) λu g i=>?_;obtain⟨y,c,q,k,q2⟩:=i;exact n v u g x y c q l k q2
def oo(f:OpR X (binaryOp op) r)(i:PE X a ta)(g:PE X b tb):PE X (.BinOp a op b O) (iN r ta tb):=by
 intro U s G H Q I h;exact wpAny_BinOp (ng i g I h λv u c x y k j e d q=>f U c G k x y v u Q j e d q)
def NY{op:UnaryOp}{r:V->Hp->VK->Prop}(e:py X (unaryOp op) r)(f:PE X a ta):PE X (.UnaryOp op a O) (Ix r ta):=by
 intro U s G H Q I h;exact UnaryOp_ (ag (f U s G H _ I h) λv b g=>by obtain⟨x,Y,i,c,d⟩:=g;exact e U b G Y x v Q i c d)
def abu(c:OpR X (inplaceOp op) r){x y:V}{Q:VK}(I:Inv X U G H s)
 (b:zP x v)(a:zP y u)(q:r x y H Q):wpAny (model X.prog X.w) X.A (inplaceOp op v u) (EP X U G Q) X.xe s:=c U s G H x y v u Q I b a q
def iX{C:Int->Int->Prop}
 (rule:∀(i j:Int)(t u:Tok)(s:Shared)(Q:Ε)(E:Ε),C i j->Q (.int (g i j) s.toks) { s with toks:=s.toks+1 }->wpAny (model X.prog X.w) X.A (f (.int i t) (.int j u)) Q E s) :
  OpR X f (rI C λi j=>.int (g i j)):=by
 intro U s G H x y v u Q I c b h;obtain⟨i,j,rfl,rfl,d,q⟩:=h;obtain⟨t,rfl⟩:=c;obtain⟨t',rfl⟩:=b;exact rule i j t t' s _ _ d ⟨.int (g i j),H,I.tok _,⟨_,rfl⟩,q⟩
def BD
 (rule:∀(i j:Int)(t u:Tok)(s:Shared)(Q:Ε)(E:Ε),Q (.int (g i j) s.toks) { s with toks:=s.toks+1 }->wpAny (model X.prog X.w) X.A (f (.int i t) (.int j u)) Q E s) :
  OpR X f (gd λi j=>.int (g i j)):=by
 intro U s G H x y v u Q I c b h;obtain⟨i,j,rfl,rfl,q⟩:=h;obtain⟨t,rfl⟩:=c;obtain⟨t',rfl⟩:=b;exact rule i j t t' s _ _ ⟨.int (g i j),H,I.tok _,⟨_,rfl⟩,q⟩
def kF{g:Int->Int->Bool}
 (rule:∀(i j:Int)(t u:Tok)(s:Shared)(Q:Ε)(E:Ε),Q (.bool (g i j)) s->wpAny (model X.prog X.w) X.A (f (.int i t) (.int j u)) Q E s) :
  OpR X f (gd λi j=>.bl (g i j)):=by
 intro U s G H x y v u Q I b a h;obtain⟨i,j,rfl,rfl,q⟩:=h;obtain⟨t,rfl⟩:=b;obtain⟨t',rfl⟩:=a;exact rule i j t t' s _ _ ⟨.bl (g i j),H,I,rfl,q⟩
def y7(i j:Int):Prop:=0<=j/\j<=1000000/\i.natAbs<2^64
def afX(i j:Int):Prop:=(-(2^64)<i/\i<2^64)\/(-(2^64)<j/\j<2^64)
def afX.ok{i j:Int}(h:afX i j):IntMulOk i j:=by
 rcases h with⟨b,a⟩|⟨b,a⟩
 .exact .of_left (intBits_le_64 b a)
 .exact .of_right (intBits_le_64 b a)
def We:OpR X (binaryOp .Add) (gd λi j=>.int (i+j)):=BD λ_ _ _ _ _ _ _ q=>add_int q
def TD:OpR X (binaryOp .Sub) (gd λi j=>.int (i-j)):=BD λ_ _ _ _ _ _ _ q=>sub_int q
def UC:OpR X (binaryOp .Mult) (rI afX λi j=>.int (i*j)):=iX λ_ _ _ _ _ _ _ a q=>mul_int q a.ok
def QN:OpR X (binaryOp .Mod) (rI (λ_ j=>0<j) λi j=>.int (i%j)):=iX λi j _ _ _ _ _ a q=>by
 have b:(0:Int)<j:=a;exact mod_int' (WS a) (by rwa[Int.fmod_eq_emod_of_nonneg i (XY a)])
def Vc:OpR X (binaryOp .Pow) (rI y7 λi j=>.int (i^j.toNat)):=iX λ_ _ _ _ _ _ _ a q=>pow_int_small a.1 a.2.1 a.2.2 q
def HZ{f:Value->Sem Value}{g:Int->Int}
 (rule:∀(i:Int)(t:Tok)(s:Shared)(Q:Ε)(E:Ε),Q (.int (g i) s.toks) { s with toks:=s.toks+1 }->wpAny (model X.prog X.w) X.A (f (.int i t)) Q E s) :
  py X f (rU λi=>.int (g i)):=by
 intro U s G H x v Q I b h;obtain⟨i,rfl,q⟩:=h;obtain⟨t,rfl⟩:=b;exact rule i t s _ _ ⟨.int (g i),H,I.tok _,⟨_,rfl⟩,q⟩
def To:py X (unaryOp .USub) (rU λi=>.int (-i)):=HZ λ_ _ _ _ _ q=>neg_int q
noncomputable def jR:V->V->Bool
 |.non,.non=>true|.non,.int _=>true|.int _,.non=>true|.non,.bl _=>true|.bl _,.non=>true|.non,.str _=>true|.str _,.non=>true
 |.int _,.int _=>true|.bl _,.bl _=>true|.str _,.str _=>true|.byt _,.byt _=>true
 |.int _,.str _=>true|.str _,.int _=>true|.bl _,.str _=>true|.str _,.bl _=>true
 |_,_=>false
def IQ:R2:=λx y H Q=>jR x y=true/\Q (.bl (decide (x=y))) H
def IM:R2:=λx y H Q=>jR x y=true/\Q (.bl (!decide (x=y))) H
def Hn{i j:Int} : decide (V.int i=V.int j)=(i==j):=by
 rw[Bool.eq_iff_iff];simp
def EB{i j:Bool} : decide (V.bl i=V.bl j)=(i==j):=by
 rw[Bool.eq_iff_iff];simp
def GM{i j:Str} : decide (V.str i=V.str j)=(i==j):=by
 rw[Bool.eq_iff_iff];simp
def Zx{i j:Array UInt8} : decide (V.byt i=V.byt j)=(i.toList==j.toList):=by
 rw[Bool.eq_iff_iff];cases i;cases j;simp
def dW{Q:VK}{k a:Bool}(I:Inv X U G H s)(q:Q (.bl k) H)(e:k=a):EP X U G Q (.bool a) s:=by
 subst e;exact⟨.bl k,H,I,rfl,q⟩
def NU:OpR X (compareOp .Eq) IQ:=by
 intro U s G H x y v u Q I c a h;obtain⟨b,q⟩:=h;cases x with
 |non =>
  cases c;cases y with
  |non=>cases a;exact PySem.EqNone.eq_none_none (dW I q vy)
  |bl j=>cases a;exact PySem.EqNone.eq_none_bool (dW I q vy)
  |int j=>obtain⟨t',rfl⟩:=a;exact PySem.EqNone.eq_none_int (dW I q vy)
  |str j=>obtain⟨t',rfl⟩:=a;exact PySem.EqNone.eq_none_str (dW I q vy)
  |_=>exact absurd (show false=true from b) bx
 |bl i =>
  cases c;cases y with
  |non=>cases a;exact PySem.EqNone.eq_bool_none (dW I q vy)
  |bl j=>cases a;exact eq_bool (dW I q EB)
  |str j=>obtain⟨t',rfl⟩:=a;exact PySem.EqMixed.eq_bool_str (dW I q vy)
  |_=>exact absurd (show false=true from b) bx
 |int i =>
  obtain⟨t,rfl⟩:=c;cases y with
  |non=>cases a;exact PySem.EqNone.eq_int_none (dW I q vy)
  |int j=>obtain⟨t',rfl⟩:=a;exact eq_int (dW I q Hn)
  |str j=>obtain⟨t',rfl⟩:=a;exact PySem.EqMixed.eq_int_str (dW I q vy)
  |_=>exact absurd (show false=true from b) bx
 |str i =>
  obtain⟨t,rfl⟩:=c;cases y with
  |non=>cases a;exact PySem.EqNone.eq_str_none (dW I q vy)
  |bl j=>cases a;exact PySem.EqMixed.eq_str_bool (dW I q vy)
  |int j=>obtain⟨t',rfl⟩:=a;exact PySem.EqMixed.eq_str_int (dW I q vy)
  |str j=>obtain⟨t',rfl⟩:=a;exact eq_str (dW I q GM)
  |_=>exact absurd (show false=true from b) bx
 |byt i =>
  obtain⟨t,rfl⟩:=c;cases y with
  |byt j=>obtain⟨t',rfl⟩:=a;exact PySem.W.eq_bytes (dW I q Zx)
  |_=>exact absurd (show false=true from b) bx
 |_=>cases y<;>exact absurd (show false=true from b) bx
def NW:OpR X (compareOp .NotEq) IM:=by
 intro U s G H x y v u Q I c a h;obtain⟨b,q⟩:=h;cases x with
 |non =>
  cases c;cases y with
  |non=>cases a;exact PySem.EqNone.ne_none_none (dW I q vy)
  |bl j=>cases a;exact PySem.EqNone.ne_none_bool (dW I q vy)
  |int j=>obtain⟨t',rfl⟩:=a;exact PySem.EqNone.ne_none_int (dW I q vy)
  |str j=>obtain⟨t',rfl⟩:=a;exact PySem.EqNone.ne_none_str (dW I q vy)
  |_=>exact absurd (show false=true from b) bx
 |bl i =>
  cases c;cases y with
  |non=>cases a;exact PySem.EqNone.ne_bool_none (dW I q vy)
  |bl j=>cases a;exact ne_bool (dW I q (ZH not EB))
  |str j=>obtain⟨t',rfl⟩:=a;exact PySem.EqMixed.ne_bool_str (dW I q vy)
  |_=>exact absurd (show false=true from b) bx
 |int i =>
  obtain⟨t,rfl⟩:=c;cases y with
  |non=>cases a;exact PySem.EqNone.ne_int_none (dW I q vy)
  |int j=>obtain⟨t',rfl⟩:=a;exact ne_int (dW I q (ZH not Hn))
  |str j=>obtain⟨t',rfl⟩:=a;exact PySem.EqMixed.ne_int_str (dW I q vy)
  |_=>exact absurd (show false=true from b) bx
 |str i =>
  obtain⟨t,rfl⟩:=c;cases y with
  |non=>cases a;exact PySem.EqNone.ne_str_none (dW I q vy)
  |bl j=>cases a;exact PySem.EqMixed.ne_str_bool (dW I q vy)
  |int j=>obtain⟨t',rfl⟩:=a;exact PySem.EqMixed.ne_str_int (dW I q vy)
  |str j=>obtain⟨t',rfl⟩:=a;exact ne_str (dW I q (ZH not GM))
  |_=>exact absurd (show false=true from b) bx
 |byt i =>
  obtain⟨t,rfl⟩:=c;cases y with
  |byt j=>obtain⟨t',rfl⟩:=a;exact PySem.W.ne_bytes (dW I q (ZH not Zx))
  |_=>exact absurd (show false=true from b) bx
 |_=>cases y<;>exact absurd (show false=true from b) bx
def NM:OpR X (compareOp .Lt) (gd λi j=>.bl (decide (i<j))):=kF λ_ _ _ _ _ _ _ q=>lt_int q
def N1:OpR X (compareOp .LtE) (gd λi j=>.bl (decide (i<=j))):=kF λ_ _ _ _ _ _ _ q=>le_int q
def Db:OpR X (compareOp .Gt) (gd λi j=>.bl (decide (j<i))):=kF λ_ _ _ _ _ _ _ q=>gt_int q
def OQ:OpR X (compareOp .GtE) (gd λi j=>.bl (decide (j<=i))):=kF λ_ _ _ _ _ _ _ q=>ge_int q
def FU:OpR X (compareOp .Is) (λx y H Q=>y=.non/\Q (.bl (decide (x=.non))) H):=by
 intro U s G H x y v u Q I a b h;obtain⟨rfl,q⟩:=h;cases b;refine is_none_gen (dW I q ?_);cases x<;>first
  |(cases a;rfl)
  |(obtain⟨t,rfl⟩:=a;rfl)
def Yf:OpR X (compareOp .IsNot) (λx y H Q=>y=.non/\Q (.bl (!decide (x=.non))) H):=by
 intro U s G H x y v u Q I a b h;obtain⟨rfl,q⟩:=h;cases b;refine isnot_none_gen (dW I q ?_);cases x<;>first
  |(cases a;rfl)
  |(obtain⟨t,rfl⟩:=a;rfl)
variable{op:CmpOp}{tc:TE}{us:Θ}{dx x C f:Addr}{mA:Str->Ω}{prog:Program}{name:Str}{pl:Sem Bool}{kw:xD}
def M5(b:Expr)(h:op≠.In:=by decide)(a:op≠.NotIn:=by decide):behindInMarks op b=false:=by
 have d:(op==CmpOp.In)=false:=by cases op<;>first|rfl|exact absurd rfl h
 have c:(op==CmpOp.NotIn)=false:=by cases op<;>first|rfl|exact absurd rfl a
 cases b<;>simp[behindInMarks,d,c]
def _u(f:OpR X (compareOp op) r)(j:PE X a ta)(i:PE X b tb)(g:behindInMarks op b=false):PE X (.Compare a [op] [b] O) (iN r ta tb):=by
 intro U s G H Q I h;exact wpAny_Compare1 (ng j i I h λv u c x y l k e d q=>f U c G l x y v u Q k e d q) g
def DU(t:TE):TT:=λG H Q=>t G H λx W=>∃k,x=.bl k/\Q k W
def Ju(m:OpR X (compareOp op) r)(p:PE X a ta)(o:PE X b tb)(n:behindInMarks op b=false):PT X (.Compare a [op] [b] O) (DU (iN r ta tb)):=by
 intro U s G H Q I h;refine wpAny_isTrue_Compare1 (ag (p U s G H _ I h) λv f ⟨x,Y,w,j,l⟩=>ag (o U f G Y _ w l) λu d ⟨y,B,t,i,q2⟩ =>
  ag (m U d G B x y v u _ t j i q2) λc C ⟨z,A,q,g,k,e,q3⟩=>?_) n
 subst e;cases g;exact wpAny_truthy_bool ⟨A,q,q3⟩
def Zo(r c:R2)(ta tb tc:TE):TE:=λG H Q=>ta G H λx Y=>tb G Y λy e=>r x y e λz a=>∃k,z=.bl k /\
 (if k=true then tc G a λb d=>c y b d Q else Q (.bl false) a)
def ae7{f:CmpOp}{i:R2}(E:OpR X (compareOp op) r)(M:OpR X (compareOp f) i)(K:PE X a ta)(J:PE X b tb)(hc:PE X c tc)
 (F:lastMarks [op,f] [b,c]=false:=by with_unfolding_all rfl):PE X (.Compare a [op,f] [b,c] O) (Zo r i ta tb tc):=by
 intro U s G H Q I h;refine Compare_chain (ag (K U s G H _ I h) λv t ⟨x,Y,R,B,D⟩=>chain_link (ag (J U t G Y _ R D) λu q ⟨y,T,P,g,q2⟩ =>
  ag (E U q G T x y v u _ P B g q2) λd p ⟨z,l,j,A,k,e,q3⟩=>?_)) F
 subst e;cases A;refine wpAny_truthy_bool ?_;cases k with
 |false=>exact ite_ff ⟨.bl false,l,j,rfl,q3⟩
 |true=>exact ite_tt (chain_last (ag (hc U p G l _ j q3) λn o L=>by obtain⟨m,S,N,w,C⟩:=L;exact M U o G S y m u n Q N g w C))
def _9{f:CmpOp}{i:R2}(K:OpR X (compareOp op) r)(T:OpR X (compareOp f) i)(N:PE X a ta)(M:PE X b tb)(hc:PE X c tc)
 (L:lastMarks [op,f] [b,c]=false:=by with_unfolding_all rfl):PT X (.Compare a [op,f] [b,c] O) (DU (Zo r i ta tb tc)):=by
 intro U s G H Q I h;refine isTrue_chain (ag (N U s G H _ I h) λv t ⟨x,Y,I1,C,F⟩=>test_link (ag (M U t G Y _ I1 F) λu q ⟨y,H2,Z,g,q2⟩ =>
  ag (K U q G H2 x y v u _ Z C g q2) λd p ⟨z,l,j,B,k,e,q3⟩=>?_)) L
 subst e;cases B;refine wpAny_truthy_bool ?_;cases k with
 |false =>
  obtain⟨k',S,J⟩:=q3;cases S;exact ite_ff ⟨l,j,J⟩
 |true =>
  refine ite_tt (test_last (ag (hc U p G l _ j q3) λn o ⟨m,H4,W,A,E⟩=>ag (T U o G H4 y m u n _ W g A E) λd' s5 P=>?_));obtain⟨z2,H5,V,w,k2,R,D⟩:=P;subst R;cases w;exact wpAny_truthy_bool ⟨H5,V,D⟩
def CB(K:Frag)(x:V)(H:Hp)(k:Bool):Prop :=
 match x with
 |.non=>k=false
 |.bl b=>k=b
 |.int i=>k=(i != 0)
 |.str y=>y.length<=sizeLine/\k=((y.length:Int) != 0)
 |.byt y=>y.size<=sizeLine/\k=((y.size:Int) != 0)
 |.ref p=>(∃I,SqL K H p I/\k = !I.isEmpty)\/(∃I,SqT K H p I/\k = !I.isEmpty)\/∃a,H p=some (.dK a)/\k = !a.isEmpty
 |_=>False
def Zu{b:Type}{a:List (b×V)}{c:List (b×Value)}(r:KV a c):(!c.isEmpty) = !a.isEmpty:=by
 cases r<;>rfl
def KD{a:Θ}(r:zK I a):(!a.toArray.isEmpty) = !I.isEmpty:=by
 cases r<;>simp
def yI:(sizeLine:Nat)<2^63:=by rw[sizeLine_eq];decide
def P2:KT X (λx H Q=>∃k,CB X.K x H k/\Q k H):=by
 intro U s G H x v Q a f h;obtain⟨k,e,q⟩:=h;have B:=yI;have A:sizeLine=16777216:=sizeLine_eq;cases x with
 |non =>
  cases f;have c:k=false:=e;subst c;exact truthy_none ⟨H,a,q⟩
 |bl b =>
  cases f;have c:k=b:=e;subst c;exact wpAny_truthy_bool ⟨H,a,q⟩
 |int i =>
  obtain⟨t,rfl⟩:=f;have c:k=(i != 0):=e;subst c;exact PySem.P.truthy_int ⟨H,a,q⟩
 |str y =>
  obtain⟨t,rfl⟩:=f;obtain⟨o,c⟩ : y.length<=sizeLine/\k=((y.length:Int) != 0):=e;subst c;exact PySem.P.truthy_str vw ⟨H,a.tok _,q⟩
 |byt y =>
  obtain⟨t,rfl⟩:=f;obtain⟨o,c⟩ : y.size<=sizeLine/\k=((y.size:Int) != 0):=e;subst c;exact PySem.W.truthy_bytes (aL o vk) ⟨H,a.tok _,q⟩
 |ref p =>
  cases f;have c:(∃I,SqL X.K H p I/\k = !I.isEmpty)\/(∃I,SqT X.K H p I/\k = !I.isEmpty)\/∃d,H p=some (.dK d)/\k = !d.isEmpty:=e;rcases c with⟨I,g,c⟩|⟨I,g,c⟩|⟨d,g,c⟩
  .subst c;obtain⟨l,r,pl,n⟩:=a.list g;have u:=r.length;exact wpAny_truthy_list pl.isList (by simp only[aX];lia) ⟨H,a.tok _,by rwa[KD r]⟩
  .subst c;obtain⟨l,r,pl,n⟩:=a.tuple g;have u:=r.length;exact truthy_tuple pl (by simp only[aX];lia) ⟨H,a.tok _,by rwa[KD r]⟩
  .subst c;obtain⟨n,z,j,r,m⟩ : d.length<=sizeLine/\(p==sysModules)=false/\∃j,KV d j/\s.heap.DictOf (gH X.prog X.w) p j:=a.hok p _ g;have u:d.length=j.length:=Paired.length r;exact wpAny_truthy_dict z m vw ⟨H,a.tok _,by rwa[Zu r]⟩
 |_=>exact(show False from e).elim
def adG(g:PE X a ta)(f:∀b,isTrue a X.env b=(do let v <- b;standAt a.pos;holding [v] (truthy v))) :
  PT X a (λG H Q=>ta G H λx W=>∃k,CB X.K x W k/\Q k W):=by
 intro U s G H Q I h;exact isTrue_plain (ag (g U s G H _ I h) λv c i=>by obtain⟨x,Y,j,d,e⟩:=i;exact P2 U c G Y x v Q j d e) (f _)
def Y4:OpR X (binaryOp .Add) (λx y H Q=>∃i j,x=.str i/\y=.str j/\i.length+j.length<=sizeLine/\Q (.str (i++j)) H):=by
 intro U s G H x y v u Q I b a h;obtain⟨i,j,rfl,rfl,c,q⟩:=h;obtain⟨t,rfl⟩:=b;obtain⟨t',rfl⟩:=a;exact add_str (λt' d=>⟨.str (i++j),H,I.tok _,⟨_,rfl⟩,q⟩) c
def vals1{x:V}(r:zK [x] us):∃u,us=[u]/\zP x u:=by
 cases r with
 |cons b a=>cases a;exact⟨_,rfl,b⟩
def vals2{x y:V}(r:zK [x,y] us):∃u a,us=[u,a]/\zP x u/\zP y a:=by
 cases r with
 |cons e d =>
  cases d with
  |cons c b=>cases b;exact⟨_,_,rfl,e,c⟩
def ad6:jE X (.builtin "abs") (λI H Q=>∃i,I=[.int i]/\Q (.int (if i<0 then -i else i)) H):=by
 intro U s G H I us Q a r h;obtain⟨i,rfl,q⟩:=h;obtain⟨u,rfl,t,rfl⟩:=vals1 r;exact call_abs_int λu b=>⟨.int (if i<0 then -i else i),H,a.tok _,⟨_,rfl⟩,q⟩
def abW(c:X.calm):jE X (.builtin "min") (λI H Q=>∃i j,I=[.int i,.int j]/\Q (.int (if j<i then j else i)) H):=by
 intro U s G H I us Q a r h;obtain⟨i,j,rfl,q⟩:=h;obtain⟨u,d,rfl,⟨t,rfl⟩,⟨t',rfl⟩⟩:=vals2 r;refine min_two_ints (a.ok.hd c) λh' e k=>⟨_,H,a.kept k,?_,q⟩;by_cases b:j<i
 .rw[ZY b,ZY b];exact⟨_,rfl⟩
 .rw[ZZ b,ZZ b];exact⟨_,rfl⟩
def aco:jE X (.type "int") (λI H Q=>(∃i,I=[.int i]/\Q (.int i) H)\/∃k,I=[.bl k]/\Q (.int (if k then 1 else 0)) H):=by
 intro U s G H I us Q a r h;rcases h with⟨i,rfl,q⟩|⟨k,rfl,q⟩
 .obtain⟨u,rfl,t,rfl⟩:=vals1 r;exact call_int_int ⟨.int i,H,a,⟨_,rfl⟩,q⟩
 .obtain⟨u,rfl,b⟩:=vals1 r;cases b;exact call_int_bool ⟨.int (if k then 1 else 0),H,a.tok _,⟨_,rfl⟩,q⟩
structure Zq(h:Heap)(x dx C:Addr)(mA:Str->Ω):Prop where
 obj:h.get? x=some (instObj C dx)
 ns:h.Ns1 dx mA
 ne:dx≠x
def Qj(n:h.Ns1 dx mA):∃b,h.get? dx=some b/\∀name,lookIn name b=some (mA name):=by
 obtain⟨o,Z,k,d,hd,g,_,f⟩:=n;refine⟨o,d,λname=>?_⟩;have e:=f name;unfold nsFind findBy at e;rw[<- Array.find?_toList]at e;unfold lookIn;rw[hd];dsimp only;split
 .rename_i y q
  rw[q]at e;exact ZH some e
 .rename_i q
  rw[q]at e;have a:Z.toList.any (·.refKey)=false:=by
   rw[List.any_eq_false];intro y c;obtain⟨z,t,i⟩:=g y (Array.mem_toList_iff.mp c);simp[DictEntry.refKey,i]
  have j:¬Z.toList.any (·.refKey)=true:=by rw[a];exact bx
  rw[ZZ j];exact ZH some e
def Zq.look(I:Zq h x dx C mA):∃a,PySem.W.InstAt h x (instObj C dx) C (some a)/\∀name,lookIn name a=some (mA name) :=
 let⟨a,b,c⟩:=Qj I.ns
 ⟨a,⟨I.obj,rfl,rfl,b⟩,c⟩
def get_map{b:Bool}{Q:Ε}(X:K.In s.heap)(I:Zq s.heap x dx C mA)(g:plainGet K C name)(f:hasDictIn K C)
 (i:findIn K (.ref C) name=some none)(d:mA name=some v)(c:handedIn v)(h:Q v { s with toks:=s.toks+1 }) :
  wpAny (model prog w) A (getAttr (.ref x) name b) Q E s:=by
 obtain⟨j,J,e⟩:=I.look;exact PySem.W.get_value X J (plainGet_of g).1 (findObj_own f i rfl (by rw[e,d])) c h
def acs{Q:Value×Θ->Shared->Prop}(X:K.In s.heap)(I:Zq s.heap x dx C mA)(a:plainGet K C name)
 (g:findIn K (.ref C) name=some (some (.ref f)))(d:isFn K (.ref f))(c:mA name=none)(h:Q (.ref f,[.ref x]) s) :
  wpAny (model prog w) A (getMethod (.ref x) name pl) Q E s:=by
 obtain⟨b,J,e⟩:=I.look;exact PySem.W.method_fn X J (plainGet_of a).1 (plainGet_of a).2 g (beq_iff_eq.mp d) (by show(lookIn name b).map (·.isSome)=some false;rw[e,c];rfl) h
def afK{e:Φ}(X:K.In s.heap)(I:Zq s.heap x dx C mA)
 (p:findIn K (.ref C) "__setattr__"=some (some (.builtin "object.__setattr__")))(q:plainOver K C)(o:takerIn K C name=some none)(t:hasDictIn K C)
 (n:PySem.Within mA e)(d:e.length<=sizeLine)
 (h:∀h',Zq h' x dx C (λy=>if y=name then some v else mA y)->Heap.SameBut dx s.heap h'->Q () { s with heap:=h',toks:=s.toks+2 }) :
  wpAny (model prog w) A (setAttr (.ref x) name v) Q E s:=by
 obtain⟨F,J,H⟩:=I.look;refine set_plain X J p (PySem.W.osa_open (s:={ s with toks:=s.toks+1 }) (r:=none) X J q o λb=>?_);obtain⟨L,u,D⟩:=PySem.W.any_some t;have m:s.heap.get? x=some ⟨.ref C,some dx,.plain,#[]⟩:=I.obj;refine ZU (ZT (ZU (ZU (wpAny_loadPart m (ZU (PySem.W.Looks.here (s:={ s with toks:=s.toks+1 }) (looks_clsIn X u) ?_))))));rw[D];refine ZT (a:=some dx) (ZU (ZT (ZU ?_)));refine wpAny_nsSet1 (s:={ s with toks:=s.toks+1 }) I.ns λh' f i=>?_;obtain⟨G,z,B,k,j,l⟩:=f.count (PySem.Within.cons name v n);refine ZU (wpAny_lookBehind k (by rw[j];exact pastItsLine_dict (aL l (by rw[length_cons];exact succ_le_succ d))) ?_);exact ZT (h _ ⟨(i.2 _ (Ne.symm I.ne)).trans I.obj,f,I.ne⟩ i)
def acD{R:Result->Shared->Prop}{b:Θ}(X:K.In s.heap)(e:makesIn K C)
 (i:findIn K (.ref C) "__init__"=some (some (.ref f)))(j:typeIn K (.ref f)=some (.type "function"))
 (h:codeAny (model prog w) (A.under (.builtin "type.__call__" ⟨.ref C::b,kw⟩)) (.call (.ref f) ⟨.ref (s.zs+1)::b,kw⟩) (PySem.W.InitBack (s.zs+1) R)
   { s with heap:=(s.heap.push emptyDict).push (instObj C s.zs) }) :
  codeAny (model prog w) A (.call (.ref C) ⟨b,kw⟩) R s:=by
 obtain⟨k,g,d,t,os⟩:=s;exact PySem.W.make_core (PySem.W.makes_of X e) (looks_findIn X i) (λa=>PySem.W.bind_fn X a j) (.inl rfl) h
noncomputable def xT(f:Str)(v:V):xS->xS
 |[]=>[(f,v)]
 |(g,x)::r=>if g=f then(g,v)::r else(g,x)::xT f v r
theorem HS(f g:Str)(v:V):∀c:xS,(xT f v c).lookup g=if g=f then some v else c.lookup g
 |[]=>by
  show List.lookup g [(f,v)]=_;by_cases h:g=f
  .have a:(g==f):=beq_iff_eq.mpr h;simp only[List.lookup,a,ZY h]
  .have a:(g==f)=false:=beq_eq_false_iff_ne.mpr h;simp only[List.lookup,a,ZZ h]
 |(k,x)::r=>by
  have d:=HS f g v r;rw[show xT f v ((k,x)::r)=(if k=f then(k,v)::r else(k,x)::xT f v r)from rfl];by_cases b:k=f
  .rw[ZY b];by_cases h:g=k
   .have a:(g==k):=beq_iff_eq.mpr h;simp only[List.lookup,a,ZY (h.trans b)]
   .have a:(g==k)=false:=beq_eq_false_iff_ne.mpr h;simp only[List.lookup,a,ZZ (λe:g=f=>h (e.trans b.symm))]
  .rw[ZZ b];by_cases h:g=k
   .have a:(g==k):=beq_iff_eq.mpr h;simp only[List.lookup,a,ZZ (λe:g=f=>b (h.symm.trans e))]
   .have a:(g==k)=false:=beq_eq_false_iff_ne.mpr h;simp only[List.lookup,a];exact d
theorem G4(f:Str)(v:V):∀b:xS,f∈(xT f v b).map (·.1)/\∀g,g∈b.map (·.1)->g∈(xT f v b).map (·.1)
 |[]=>⟨by simp[xT],λg h=>by simp at h⟩
 |(k,x)::r=>by
  obtain⟨d,c⟩:=G4 f v r;rw[show xT f v ((k,x)::r)=(if k=f then(k,v)::r else(k,x)::xT f v r)from rfl];by_cases a:k=f
  .rw[ZY a];subst a;exact⟨by simp,λg h=>by simpa using h⟩
  .rw[ZZ a];refine⟨?_,λg h=>?_⟩
   .rw[map_cons];exact aJ _ d
   .rw[map_cons]at h ⊢;rcases YU.mp h with e|e
    .exact YU.mpr (.inl e)
    .exact aJ _ (c g e)
theorem HW(f:Str)(v:V):∀b:xS,(xT f v b).length<=b.length+1
 |[]=>by simp[xT]
 |(k,x)::r=>by
  have c:=HW f v r;rw[show xT f v ((k,x)::r)=(if k=f then(k,v)::r else(k,x)::xT f v r)from rfl];by_cases a:k=f
  .rw[ZY a,length_cons,length_cons];exact Xs _
  .rw[ZZ a,length_cons,length_cons];exact succ_le_succ c
variable{v:V}{a:Addr}{fs:xS}{f m:Str}{b:Bool}
def Ag.some_of{o:Ω}(r:Ag (some v) o):∃u,o=some u/\zP v u:=by
 cases o with
 |none=>exact(show False from r).elim
 |some u=>exact⟨u,rfl,r⟩
def Ag.none_of{o:Ω}(r:Ag none o):o=none:=by
 cases o with
 |none=>rfl
 |some u=>exact(show False from r).elim
def Qg(r:zP v u):handedIn u:=by
 cases v with
 |non=>cases(show u=Value.none from r);rfl
 |bl b=>cases(show u=Value.bool b from r);rfl
 |int i=>obtain⟨t,e⟩:=(show ∃t,u=Value.int i t from r);cases e;rfl
 |str x=>obtain⟨t,e⟩:=(show ∃t,u=Value.str x t from r);cases e;rfl
 |byt b=>obtain⟨t,e⟩:=(show ∃t,u=Value.bytes b t from r);cases e;rfl
 |flt b=>obtain⟨t,e⟩:=(show ∃t,u=Value.float b t from r);cases e;rfl
 |ref a=>cases(show u=Value.ref a from r);rfl
 |ty n=>cases(show u=Value.type n from r);rfl
def Jy(b:HOk P w H h)(e:H a=some (.ins C dx fs)):∃mA,Zq h a dx C mA/\(∀f,Ag (fs.lookup f) (mA f))/\PySem.Within mA (fs.map (·.1))/\fs.length<=1000/\H dx=some (.own a):=by
 obtain⟨d,z,g,c,mA,n,r,q⟩:=(show fG P w H h a (.ins C dx fs)from b a _ e);exact⟨mA,⟨c,n,g⟩,r,q,z,d⟩
structure Cls(K:Frag)(C:Addr):Prop where
 pg:plainGet K C Str.empty
 hd:hasDictIn K C
 po:plainOver K C
 sa:findIn K (.ref C) "__setattr__"=some (some (.builtin "object.__setattr__"))
def Cls.get{K:Frag}{C:Addr}(c:Cls K C)(f:Str):plainGet K C f:=c.pg
def cu(K:Frag)(C:Addr)(f:Str):Prop:=findIn K (.ref C) f=some none
def cu.taker(n:cu K C f):takerIn K C f=some none:=by
 unfold takerIn;rw[show findIn K (.ref C) f=some none from n]
 rfl
structure Meth(K:Frag)(C:Addr)(m:Str)(f:Addr):Prop where
 at_:findIn K (.ref C) m=some (some (.ref f))
 fn:isFn K (.ref f)
 kp:keepIn K (.ref f)
def Yy{Q:Ε}(I:Inv X U G H s)(e:H a=some (.ins C dx fs))(c:Cls X.K C)(n:cu X.K C f)(l:fs.lookup f=some v)
 (h:∀u s',Inv X U G H s'->zP v u->Q u s'):wpAny (model X.prog X.w) A (getAttr (.ref a) f b) Q E s:=by
 obtain⟨mA,O,r,_,_,_⟩:=Jy I.hok e;obtain⟨u,g,d⟩:=Ag.some_of (v:=v) (o:=mA f) (by rw[<- l];exact r f);exact get_map I.kIn O (c.get f) c.hd n g (Qg d) (h u _ (I.tok _) d)
def Cu{g:Addr}{Q:Value×Θ->Shared->Prop}(I:Inv X U G H s)(e:H a=some (.ins C dx fs))(c:Cls X.K C)(k:Meth X.K C m g)(l:fs.lookup m=none)
 (h:Q (.ref g,[.ref a]) s):wpAny (model X.prog X.w) A (getMethod (.ref a) m pl) Q E s:=by
 obtain⟨mA,O,r,_,_,_⟩:=Jy I.hok e;have b:mA m=none:=Ag.none_of (by rw[<- l];exact r m);exact acs I.kIn O (c.get m) k.at_ k.fn b h
def Yi{y:V}(I:Inv X U G H s)(e:H a=some (.ins C dx fs))(c:Cls X.K C)(n:cu X.K C f)(p:fs.length<1000)(l:zP y u)
 (h:∀s',Inv X U G (upd H a (.ins C dx (xT f y fs))) s'->Q () s'):wpAny (model X.prog X.w) A (setAttr (.ref a) f u) Q E s:=by
 obtain⟨mA,O,r,i,_,j⟩:=Jy I.hok e;have m:(fs.map (·.1)).length<=sizeLine:=by rw[ak,sizeLine_eq];exact aL (Y2 p) vk
 refine afK I.kIn O c.sa c.po n.taker c.hd i m λh' d k=>h _ ?_;have hd:∃o,h'.get? dx=some o:=by obtain⟨o,_,_,B,_⟩:=d.ns;exact⟨o,B⟩
 refine I.write (x:=a) (e:=dx) (by rw[e];exact True.intro) (.inr j) (λb q v z=>(k.2 b v).trans z) hd ?_;refine⟨by rw[bY O.ne];exact j,?_,O.ne,d.obj,_,d.ns,λg=>?_,λg t=>?_⟩
 .have:=HW f y fs;lia
 .show Ag ((xT f y fs).lookup g) (if g=f then some u else mA g);rw[HS];by_cases q:g=f
  .rw[ZY q,ZY q];exact l
  .rw[ZZ q,ZZ q];exact r g
 .by_cases q:g=f
  .rw[q];exact(G4 f y fs).1
  .refine(G4 f y fs).2 g (i g λz=>t ?_);show(if g=f then some u else mA g)=none;rw[ZZ q];exact z
def Inv.made(I:Inv X U G H s):Inv X U G (upd (upd H s.zs (.own (s.zs+1))) (s.zs+1) (.ins C s.zs []))
  { s with heap:=(s.heap.push emptyDict).push (instObj C s.zs) }:=by
 have f:(s.heap.push emptyDict).get? s.zs=some emptyDict:=aW s.heap rfl;have j:((s.heap.push emptyDict).push (instObj C s.zs)).get? (s.zs+1)=some (instObj C s.zs):=by
  have:=aW (s.heap.push emptyDict) (o:=instObj C s.zs) rfl;rwa[Heap.size_push]at this
 have i:(s.heap.push emptyDict).Ns s.zs (λ_=>none):=⟨emptyDict,#[],_,f,rfl,(λe h=>absurd h vy),λ_=>rfl⟩;have k:=I.laid (a:=s.zs) (o:=.own (s.zs+1)) (h':=s.heap.push emptyDict) (t':=s.toks) (λb u q=>aH _ q) (aG _) ⟨_,f⟩;refine k.laid (a:=s.zs+1) (o:=.ins C s.zs []) (t':=s.toks) (λb u q=>aH _ q) (WG (Heap.size_push _ _)) ?_;have c:s.zs≠s.zs+1:=aQ (X0 _);refine⟨by rw[bY c,cj],aZ _,c,j,λ_=>none,(Heap.Ns1.of_empty i).at λo q=>aH _ q,λ_=>True.intro,λy g=>absurd rfl g⟩
variable{Q:Ε}{o ax:Expr}{tv:TE}{c:Value}{t:TA}
def ZK{env:Env}(b:attributeBase e f env (eval e env)=eval e env)
 (h:wpAny (model prog w) A (eval e env) (λo a=>wpAny (model prog w) A (getAttr o f true) Q E a) E s):wpAny (model prog w) A (eval (.Attribute e f O) env) Q E s :=
 Attribute_any_ h (by rw[arm_eval_Attribute,b])
def Nl(K:Frag)(ta:TE)(f:Str):TE:=λG H Q=>ta G H λx Y=>∃a C dx fs v,x=.ref a/\Y a=some (.ins C dx fs)/\Cls K C/\cu K C f/\fs.lookup f=some v/\Q v Y
def KB(K:Frag)(ta tv:TE)(f:Str):TS:=λD G H=>tv G H λy Y=>ta G Y λx b=>∃a C dx fs,x=.ref a/\b a=some (.ins C dx fs)/\Cls K C/\cu K C f/\fs.length<1000 /\
 D.nx G (upd b a (.ins C dx (xT f y fs)))
abbrev zt(X:Cx)(a:Expr)(b:Str):Prop:=attributeBase a b X.env (eval a X.env)=eval a X.env
def ER(g:PE X e ta)(i:zt X e f):PE X (.Attribute e f O) (Nl X.K ta f):=by
 intro U s G H Q I h;refine ZK i (ag (g U s G H _ I h) λu r h=>?_);obtain⟨x,Y,m,b,a,C,dx,fs,v,rfl,j,c,n,l,q⟩:=h;obtain rfl:u=Value.ref a:=b;exact Yy m j c n l λo p k d=>⟨v,Y,k,d,q⟩
def VO(k:PE X o ta)(i:PE X ax tv)(j:swapsWith ax (some (.Attribute o f a8)) O.line X.env=pure false):PS X (.Assign [.Attribute o f a8] ax O) (KB X.K ta tv f):=by
 intro U s G H D I h;refine plainObj_wpAny_Assign_Attribute (ag (i U s G H _ I h) λu b ⟨y,Y,t,d,q⟩=>ag (k U b G Y _ t q) λg w h=>?_) j;obtain⟨x,z,r,e,a,C,dx,fs,rfl,m,c,n,l,q2⟩:=h;obtain rfl:g=Value.ref a:=e;exact Yi r m c n l d λv p=>⟨G,_,p,q2⟩
inductive GP(K:Frag)(H:Hp):V->Value->Prop where
 |non:GP K H .non (.type "NoneType")
 |bl (x:Bool):GP K H (.bl x) (.type "bool")
 |int (i:Int):GP K H (.int i) (.type "int")
 |str (x:Str):GP K H (.str x) (.type "str")
 |flt (x:UInt64):GP K H (.flt x) (.type "float")
 |lst {a:Addr}{I:Ζ} (e:H a=some (.lst I)):GP K H (.ref a) (.type "list")
 |frz {a:Addr}{o:Obj}{I:Ζ} (e:H a=some (.frz o (.lst I))):GP K H (.ref a) (.type "list")
 |tup {a:Addr}{I:Ζ} (e:H a=some (.tup I)):GP K H (.ref a) (.type "tuple")
 |dK {a:Addr}{kvs:wx} (e:H a=some (.dK kvs)):GP K H (.ref a) (.type "dict")
 |ins {a C dx:Addr}{fs:xS} (e:H a=some (.ins C dx fs)) (cl:Cls K C) (ha:findIn K (.ref C) "__class__"=some (some (.builtin "object.__class__")))
   (hn:specialIn K (.builtin "object.__class__") "__get__"=some (some (.builtin "getset_descriptor.__get__"))) (htk:PySem.W.takesIn K (.builtin "object.__class__")=some true)
   (hm:mroIn K C (.type "object")=some true):GP K H (.ref a) (.ref C)
def ab3{x:V}{t:Value}(d:Inv X U G H s)(f:zP x u)(B:GP X.K H x t)(e:kitOne X.K t c=some b)(h:∀D,Q (.bool b) { s with toks:=D }) :
  wpAny (model X.prog X.w) A (call (.builtin "isinstance") [u,c]) Q E s:=by
 cases B with
 |non=>cases(show u=Value.none from f);exact kia_one PySem.W.kitx_none d.kIn True.intro e (λz=>nomatch z) h
 |bl y=>cases(show u=Value.bool y from f);exact kia_one PySem.W.kitx_bool d.kIn True.intro e (λz=>nomatch z) h
 |int i=>obtain⟨t,q⟩:=(show ∃t,u=Value.int i t from f);cases q;exact kia_one PySem.W.kitx_int d.kIn True.intro e (λz=>nomatch z) h
 |str y=>obtain⟨t,q⟩:=(show ∃t,u=Value.str y t from f);cases q;exact kia_one PySem.W.kitx_str d.kIn True.intro e (λz=>nomatch z) h
 |flt y=>obtain⟨t,q⟩:=(show ∃t,u=Value.float y t from f);cases q;exact kia_one PySem.W.kitx_float d.kIn True.intro e (λz=>nomatch z) h
 |@lst a I g =>
  cases(show u=Value.ref a from f);obtain⟨_,_,n,_,j⟩:=(show fG X.prog X.w H s.heap a (.lst I)from d.hok a _ g);exact kia_one kitx_list d.kIn ⟨_,j,rfl⟩ e (λz=>nomatch z) h
 |@frz a F I g =>
  cases(show u=Value.ref a from f);obtain⟨_,_,_,n,_,j⟩:=(show fG X.prog X.w H s.heap a (.frz F (.lst I))from d.hok a _ g);exact kia_one kitx_list d.kIn ⟨_,j,rfl⟩ e (λz=>nomatch z) h
 |@tup a I g =>
  cases(show u=Value.ref a from f);obtain⟨_,_,_,p⟩:=(show fG X.prog X.w H s.heap a (.tup I)from d.hok a _ g);obtain⟨o,j,m,_⟩:=p;exact kia_one kitx_tuple d.kIn ⟨o,j,m⟩ e (λz=>nomatch z) h
 |@dK a k g =>
  cases(show u=Value.ref a from f);obtain⟨_,_,P,_,p⟩:=(show fG X.prog X.w H s.heap a (.dK k)from d.hok a _ g);obtain⟨o,Z,S,j,m,_⟩:=p;exact kia_one PySem.W.kitx_dict d.kIn ⟨o,j,m.1⟩ e (λz=>nomatch z) h
 |@ins a C dx fs g v N L l M =>
  cases(show u=Value.ref a from f);obtain⟨mA,O,_⟩:=Jy d.hok g;obtain⟨R,J,_⟩:=O.look;exact kia_one (PySem.W.kitx_own (v.get _) v.hd N L l M) d.kIn J e (λz=>nomatch z) h
structure dX(k:Nat)(A:Around):Prop where
 hd:A.handled=none
 dp:A.depth+3*k+5<recursionLimit
 un:A.units+16*k+200<cLine
def dX.mono{j:Nat}(r:dX k A)(h:j<=k):dX j A:=⟨r.hd,by have:=r.dp;lia,by have:=r.un;lia⟩
def dX.md{n:Nat}(h:dX n A)(e:k<=n:=by decide):dX k A:=h.mono e
def dX.deeper{k:Nat}{A:Around}(r:dX (k+1) A)(env:Env):dX k (A.deeper env) :=
 ⟨r.hd,by have:=r.dp;show A.depth+1+3*k+5<_;lia,by have:=r.un;show A.units+3+16*k+200<_;lia⟩
def YW : (A.under (.builtin "type.__call__" ⟨.ref C::us,kw⟩)).depth=A.depth+1:=by
 first|rfl|simp[Around.under,Code.weight,Code.isCreation,Code.isGuard,Code.isCaller,Code.frames,Code.isFrame,guardIds]
def YS : (A.under (.builtin "type.__call__" ⟨.ref C::us,kw⟩)).units=A.units+1:=by
 first|rfl|simp[Around.under,Code.cUnits,Code.frames,Code.isFrame]
def dX.make(r:dX (k+1) A)(C:Addr)(us:Θ)(kw:xD):dX k (A.under (.builtin "type.__call__" ⟨.ref C::us,kw⟩)) :=
 ⟨r.hd,by have:=r.dp;rw[YW];lia,by have:=r.un;rw[YS];lia⟩
def dX.depth{k:Nat}{A:Around}(r:dX k A):A.depth<recursionLimit:=by have:=r.dp;lia
def dX.units{k:Nat}{A:Around}(r:dX k A):A.units+64<cLine:=by have:=r.un;lia
def ie:TA:=λ_ H Q=>Q [] H
def Bv(ta:TE)(tr:TA):TA:=λG H Q=>ta G H λx Y=>tr G Y λI a=>Q (x::I) a
def jB:PA X [] ie:=λ_ _ _ _ H Q I h=>Calls.spliced_nil ⟨[],H,I,.nil,h⟩
abbrev zw(X:Cx)(a:Expr)(b:xw):Prop:=starEach (a::b) X.env=(false,eval a X.env)::starEach b X.env
def cF(k:PE X e te)(j:PA X Z t)(i:zw X e Z:=by rfl):PA X (e::Z) (Bv te t):=by
 intro O U s G H Q a h;rw[i];show wpAny _ _ (spliced ((false,eval e X.env)::backTo O (starEach Z X.env))) _ _ s;refine Calls.spliced_cons (ag (k U s G H _ a h) λu c b=>?_);obtain⟨x,Y,m,f,g⟩:=b;exact ag (j O U c G Y _ m g) λus o b=>by obtain⟨I,n,l,d,q2⟩:=b;exact⟨x::I,n,l,.cons f d,q2⟩
def zr(t:TA):TE:=λG H Q=>t G H λI Y=>I.length<=sizeLine/\∀p,Y p=none->Q (.ref p) (upd Y p (.tup I))
def MB(t:TA):TE:=λG H Q=>t G H λI Y=>I.length<=sizeLine/\∀p,Y p=none->Q (.ref p) (upd Y p (.lst I))
def FM{f}(h:PA X Z t):PE X (.Tuple Z f O) (zr t):=by
 intro U s G H Q a g;refine wpAny_Tuple_spliced (ag (h O U s G H _ a g) λus c ⟨I,Y,d,r,z,q⟩=>⟨by rw[<- r.length];exact z,?_⟩);have i:Y c.zs=none:=d.hok.fresh (aG _);refine⟨.ref c.zs,upd Y c.zs (.tup I),d.laid (t':=c.toks) (λb u e=>aH _ e) (aG _) ?_,rfl,q _ i⟩;exact⟨z,us,r,⟨_,aW _ rfl,rfl,_,rfl⟩⟩
def F8(h:PA X Z t):PE X (.List Z O) (MB t):=by
 intro U s G H Q a f;refine wpAny_List_spliced (ag (h O U s G H _ a f) λus c ⟨I,Y,d,r,z,q⟩=>⟨by rw[<- r.length];exact z,?_⟩);have g:Y c.zs=none:=d.hok.fresh (aG _);refine⟨.ref c.zs,upd Y c.zs (.lst I),d.laid (t':=c.toks) (λb u e=>aH _ e) (aG _) ?_,rfl,q _ g⟩;exact⟨z,us,0,r,aW _ rfl⟩
abbrev Sp:=Ζ->Hp->VK->XK->Prop
abbrev e9:=xC->Hp->Shared->XK->Value->Shared->Prop
structure Xk(P:Program)(w:World)(K:Frag)(mg:Str->Ω)(base:Heap)(A:Around)(outer:xC)(s:Shared)(H:Hp):Prop where
 frames:A.frames=some outer
 mod:Mod K mg base
 bs:∀b o,base.get? b=some o->s.heap.get? b=some o/\H b=none
 bsz:base.objs.size<=s.zs
 funs:s.heap.FunFrames base outer
 frf:∀b∈cs outer,H b=none
 hok:HOk P w H s.heap
 bare:AllBare s.gens
def CE(a:xC)(P:Program)(w:World)(H:Hp)(s:Shared)(Q:VK)(u:Value)(s':Shared):Prop :=
 ∃v W,s'.os=s.os/\AllBare s'.gens/\Un (cs a) [] H W s.heap s'.heap/\HOk P w W s'.heap/\zP v u/\Q v W
def CR(b:e9)(a:xC)(P:Program)(w:World)(H:Hp)(s:Shared)(Q:VK)(E:XK)(r:Result)(s':Shared):Prop :=
 match r with
 |.ok (.ret u)=>CE a P w H s Q u s'
 |.ok _=>False
 |.error e=>b a H s E e s'
structure fD(P:Program)(w:World)(K:Frag)(mg:Str->Ω)(base:Heap)(CX:e9)(k:Nat)(f:Addr)(fd:FuncData)(ps:Φ)(sp:Sp):Prop where
 len:∀vs H Q E,sp vs H Q E->vs.length=ps.length
 run:∀(A:Around)(outer:xC)(s:Shared)(H:Hp)(args:Args)(us:Θ)(vs:Ζ)(Q:VK)(E:XK),dX k A->Xk P w K mg base A outer s H->BindsTo s fd args (ps.zip us)->zK vs us->sp vs H Q E ->
  codeAny (model P w) A (.call (.ref f) args) (CR CX outer P w H s Q E) s
variable{f:Addr}{mg:Str->Ω}{base:Heap}{CX:e9}{fd:FuncData}{ps:Φ}{sp:Sp}{Q:VK}{E:XK}{vs c5:Ζ}{ds:Θ}{x:Str}{ah:Pos}{J:Scope}
def fD.imp{b:Sp}(F:fD P w K mg base CX k f fd ps sp)
 (h:∀vs H Q E,b vs H Q E->sp vs H Q E):fD P w K mg base CX k f fd ps b :=
 ⟨λvs H Q E q=>F.len vs H Q E (h _ _ _ _ q),λA a s H c us vs Q E g i j d e=>F.run A a s H c us vs Q E g i j d (h _ _ _ _ e)⟩
def Xk.make{a:xC}(e:Xk P w K mg base A a s H)(C:Addr)(us:Θ)(kw:xD) :
  Xk P w K mg base (A.under (.builtin "type.__call__" ⟨.ref C::us,kw⟩)) a s H:=⟨by first|exact e.frames|(simpa[Around.under,Code.envs,Code.isFrame,pushEnvs]using e.frames),e.mod,e.bs,e.bsz,e.funs,e.frf,e.hok,e.bare⟩
def Inv.env0(I:Inv X U G H s):Xk X.prog X.w X.K X.mg X.base X.A X.stack s H :=
 ⟨I.ok.frames,I.ok.mod,I.bs,aL I.ok.bsz I.sz,I.stack,I.stkFree,I.hok,I.bare⟩
def Inv.after(I:Inv X U G H s)(h:CE X.stack X.prog X.w H s Q u s'):EP X U G Q u s':=by
 obtain⟨v,W,os,bare,un,hok,r,q⟩:=h;obtain⟨c,g,d,t,a⟩:=s';obtain rfl:a=s.os:=os;exact⟨v,W,I.call (h':=c) (g':=g) (d':=d) (t':=t) (ch:=[]) un hok bare (λb z=>absurd z vy),r,q⟩
def OY(sp:Sp)(c5:Ζ)(E:XK)(t:TA):TE:=λG H Q=>t G H λvs Y=>sp (vs++c5) Y Q E
def D9(C:Addr)(m:Str)(sp:Sp)(c5:Ζ)(E:XK)(ta:TE)(t:TA):TE:=λG H Q=>ta G H λx Y=>∃a dx fs,x=.ref a/\Y a=some (.ins C dx fs)/\fs.lookup m=none /\
 t G Y λvs b=>sp (x::(vs++c5)) b Q E
def N4(C:Addr)(sp:Sp)(c5:Ζ)(E:XK)(t:TA):TE:=λG H Q=>t G H λvs Y=>∀x dx,Y x=none->Y dx=none->dx≠x ->
 sp (.ref x::(vs++c5)) (upd (upd Y dx (.own x)) x (.ins C dx [])) (λv a=>v=.non/\Q (.ref x) a) E
def Binds(K:Frag)(fd:FuncData)(ps:Φ)(ds:Θ):Prop :=
 ∀(s:Shared)(us:Θ),K.In s.heap->(us++ds).length=ps.length->BindsTo s fd ⟨us,[]⟩ (ps.zip (us++ds))
def Binds.all(h:∀us:Θ,us.length=ps.length->bindArgs fd ⟨us,[]⟩=pure (ps.zip us)):Binds K fd ps []:=λs us _ a=>by
 rw[append_nil]at a ⊢;exact .of_eq (h us a)
def Passes(CX:e9)(X:Cx)(E:XK):Prop:=∀(U:Δ)(G:St)(H:Hp)(s:Shared)(e:Value)(s':Shared),Inv X U G H s->CX X.stack H s E e s'->X.xe e s'
def M9(F:fD X.prog X.w X.K X.mg X.base CX k f fd ps sp)(d:dX k X.A)(i:Binds X.K fd ps ds)(hd:zK c5 ds)(c:Passes CX X E)
 (I:Inv X U G H s)(r:zK vs us)(h:sp (vs++c5) H Q E):wpAny (model X.prog X.w) X.A (call (.ref f) us) (EP X U G Q) X.xe s:=by
 have b:zK (vs++c5) (us++ds):=r.append hd;have g:(us++ds).length=ps.length:=by rw[<- b.length];exact F.len _ _ _ _ h
 refine wpAny_call (codeAny_mono (F.run X.A X.stack s H ⟨us,[]⟩ (us++ds) (vs++c5) Q E d I.env0 (i s us I.kIn g) b h) λr s' a=>?_);cases r with
 |error e=>exact c U G H s e s' I a
 |ok j =>
  cases j with
  |ret u=>exact I.after a
  |next=>exact False.elim a
  |brk=>exact False.elim a
  |cont=>exact False.elim a
abbrev zb(X:Cx)(a:Pos)(b:xw):Prop:=(backTo a (starEach b X.env)).any (·.1)=false
def _P(F:fD X.prog X.w X.K X.mg X.base CX k f fd ps sp)(c:dX k X.A)(i:Gl X x)(d:X.mg x=some (.ref f))(g:keepIn X.K (.ref f))(l:Binds X.K fd ps ds)(hd:zK c5 ds)(b:Passes CX X E)
 (m:PA X (e::Z) t)(n:zz x:=by decide)(j:zw X e Z:=by rfl)(o:zb X O Z:=by rfl) :
  PE X (.Call (.Name x p) (e::Z) [] O) (OY sp c5 E t):=by
 intro U s G H Q I h;refine wpAny_Call_Name_kw (sY I i d ?_ n);refine callWith_K (h₀:=X.base) I.ok.mod.kin g (ag (m O U s G H _ I h) λus u ⟨vs,Y,a,r,q⟩=>⟨a.kIn,?_⟩) j o;exact M9 F c l hd b a r q
def afG(z:PE X o ta)(c:Cls X.K C)(d:Meth X.K C m f)(F:fD X.prog X.w X.K X.mg X.base CX k f fd ps sp)(y:dX k X.A)(B:Binds X.K fd ps ds)(hd:zK c5 ds)(p:Passes CX X E)(D:PA X (e::Z) t)
 (N:zw X e Z:=by rfl)(P:zb X O Z:=by rfl)
 (v:eval (.Call (.Attribute o m ah) (e::Z) [] O) X.env=(do
   let b <- eval o X.env
   standAt ah.atName
   let(f,first) <- holding [b] (getMethod b m pl)
   callWith O f first (backTo O (starEach (e::Z) X.env)) (backToKw O (keywordEach [] X.env))):=by rfl) :
  PE X (.Call (.Attribute o m ah) (e::Z) [] O) (D9 C m sp c5 E ta t):=by
 intro U s G H Q I h;refine methodCall_KW (pl:=pl) (ag (z U s G H _ I h) λu j J=>?_) v;obtain⟨x,Y,i,n,a,dx,fs,L,M,l,q⟩:=J;subst L;obtain rfl:u=Value.ref a:=n;refine Cu i M c d l ?_;refine callWith_K (first:=[.ref a]) (h₀:=X.base) I.ok.mod.kin d.kp (ag (D O U j G Y _ i q) λus R ⟨vs,S,g,r,q2⟩=>⟨g.kIn,?_⟩) N P;exact M9 (us:=.ref a::us) (vs:=.ref a::vs) F y B hd p g (.cons rfl r) q2
def ac7(p:PE X o ta)(c:Cls X.K C)(e:Meth X.K C m f)(F:fD X.prog X.w X.K X.mg X.base CX k f fd ps sp)(n:dX k X.A)(r:Binds X.K fd ps ds)(hd:zK c5 ds)(i:Passes CX X E)
 (j:eval (.Call (.Attribute o m ah) [] [] O) X.env=(do
   let d <- eval o X.env
   standAt ah.atName
   let(f,first) <- holding [d] (getMethod d m pl)
   callWith O f first (backTo O (starEach [] X.env)) (backToKw O (keywordEach [] X.env))):=by rfl) :
  PE X (.Call (.Attribute o m ah) [] [] O) (D9 C m sp c5 E ta ie):=by
 intro U s G H Q I h;refine methodCall_KW (pl:=pl) (ag (p U s G H _ I h) λu z t=>?_) j;obtain⟨x,Y,b,g,a,dx,fs,v,y,l,q⟩:=t;subst v;obtain rfl:u=Value.ref a:=g;refine Cu b y c e l ?_;exact PySem.W.callWith_K0 (first:=[.ref a]) b.kIn e.kp (M9 (us:=[.ref a]) (vs:=[.ref a]) F n r hd i b (.cons rfl .nil) q)
structure Mk(K:Frag)(C f:Addr):Prop where
 makes:makesIn K C
 init:findIn K (.ref C) "__init__"=some (some (.ref f))
 fn:isFn K (.ref f)
 kp:keepIn K (.ref C)
def ae3(M:Mk X.K C f)(F:fD X.prog X.w X.K X.mg X.base CX k f fd ps sp)(j:dX (k+1) X.A)(m:Binds X.K fd ps ds)(hd:zK c5 ds)
 (i:Passes CX X E)(I:Inv X U G H s)(r:zK vs us)
 (h:∀x dx,H x=none->H dx=none->dx≠x->sp (.ref x::(vs++c5)) (upd (upd H dx (.own x)) x (.ins C dx [])) (λv q=>v=.non/\Q (.ref x) q) E) :
  wpAny (model X.prog X.w) X.A (call (.ref C) us) (EP X U G Q) X.xe s:=by
 have d:=h (s.zs+1) s.zs (I.hok.fresh (Xs _)) (I.hok.fresh (aG _)) (aQ (X0 _));have b:=Inv.made (C:=C) I;have c:zK (V.ref (s.zs+1)::(vs++c5)) (Value.ref (s.zs+1)::(us++ds)):=.cons rfl (r.append hd);have l:(Value.ref (s.zs+1)::us++ds).length=ps.length:=by
  have e:=c.length;rw[F.len _ _ _ _ d]at e;exact e.symm
 refine wpAny_call (acD (f:=f) I.kIn M.makes M.init (beq_iff_eq.mp M.fn) (codeAny_mono (F.run _ X.stack _ _ ⟨Value.ref (s.zs+1)::us,[]⟩ (Value.ref (s.zs+1)::(us++ds)) _ _ E (j.make C us [])
  (b.env0.make C us []) (m _ (Value.ref (s.zs+1)::us) b.kIn l) c d) λr s' a=>?_))
 cases r with
 |error e=>exact i U G _ _ e s' b a
 |ok n =>
  cases n with
  |ret u =>
   obtain⟨v,W,p,g,o,q3⟩:=b.after a;subst o;exact⟨g,⟨V.ref (s.zs+1),W,p,rfl,q3⟩⟩
  |next=>exact False.elim a
  |brk=>exact False.elim a
  |cont=>exact False.elim a
def _A(M:Mk X.K C f)(F:fD X.prog X.w X.K X.mg X.base CX k f fd ps sp)(c:dX (k+1) X.A)(g:Gl X x)(d:X.mg x=some (.ref C))(j:Binds X.K fd ps ds)(hd:zK c5 ds)(b:Passes CX X E)
 (l:PA X (e::Z) t)(m:zz x:=by decide)(i:zw X e Z:=by rfl)(n:zb X O Z:=by rfl) :
  PE X (.Call (.Name x p) (e::Z) [] O) (N4 C sp c5 E t):=by
 intro U s G H Q I h;refine wpAny_Call_Name_kw (sY I g d ?_ m);refine callWith_K (h₀:=X.base) I.ok.mod.kin M.kp (ag (l O U s G H _ I h) λus o ⟨vs,Y,a,r,q⟩=>⟨a.kIn,?_⟩) i n;exact ae3 M F c j hd b a r q
structure bL(N P:Φ)(sc:Scope):Prop where
 kind:sc.kind=.function
 co:sc.isCoroutine=false
 gen:sc.isGenerator=false
 nd:N.Nodup
 pre:N.take P.length=P
 par:∀x∈P,sc.names.lookup x=some .local\/sc.names.lookup x=some .cell
 nofree:∀y∈sc.names,y.2≠.free
theorem PK{kindOf:Str->Option NameKind}{x:Str} : ∀{a:xD}{m:Str->Ω},(∀v,(x,v)∉a)->bindL kindOf a m x=m x
 |[],_,_=>rfl
 |(n,v)::r,m,h=>by
  unfold bindL;rw[PK λw b=>h w (aJ _ b)];split
  .have:x≠n:=by rintro rfl;exact h v aO
   simp[this]
  .rfl
theorem P_{kindOf:Str->Option NameKind}{x:Str} : ∀{a:xD}{m:Str->Ω},(∀v,(x,v)∉a)->bindC kindOf a m x=m x
 |[],_,_=>rfl
 |(n,v)::r,m,h=>by
  unfold bindC;rw[P_ λw b=>h w (aJ _ b)];split
  .rfl
  .have:x≠n:=by rintro rfl;exact h v aO
   simp[this]
theorem Qd{kindOf:Str->Option NameKind}{x:Str}{v:Value} : ∀{P:Φ}{vs:Θ}{i:Nat}{m:Str->Ω},P.Nodup->P[i]?=some x->vs[i]?=some v->kindOf x=some .local ->
  bindL kindOf (P.zip vs) m x=some v
 |[],_,_,_,_,h,_,_=>by simp at h
 |_::_,[],_,_,_,_,h,_=>by simp at h
 |p::P,w::vs,0,m,c,b,a,d=>by
  simp at b a;subst b;subst a;show bindL kindOf ((p,w)::P.zip vs) m p=_;unfold bindL;rw[PK λv e=>(List.nodup_cons.mp c).1 (UX e).1,ZY d];simp
 |p::P,w::vs,i+1,m,c,b,a,d=>by
  show bindL kindOf ((p,w)::P.zip vs) m x=_;unfold bindL;exact Qd (i:=i) (List.nodup_cons.mp c).2 (by simpa using b) (by simpa using a) d
theorem Qf{kindOf:Str->Option NameKind}{x:Str}{v:Value} : ∀{P:Φ}{vs:Θ}{i:Nat}{m:Str->Ω},P.Nodup->P[i]?=some x->vs[i]?=some v->kindOf x≠some .local ->
  bindC kindOf (P.zip vs) m x=some v
 |[],_,_,_,_,h,_,_=>by simp at h
 |_::_,[],_,_,_,_,h,_=>by simp at h
 |p::P,w::vs,0,m,c,b,a,d=>by
  simp at b a;subst b;subst a;show bindC kindOf ((p,w)::P.zip vs) m p=_;unfold bindC;rw[P_ λv e=>(List.nodup_cons.mp c).1 (UX e).1,ZZ d];simp
 |p::P,w::vs,i+1,m,c,b,a,d=>by
  show bindC kindOf ((p,w)::P.zip vs) m x=_;unfold bindC;exact Qf (i:=i) (List.nodup_cons.mp c).2 (by simpa using b) (by simpa using a) d
def start(N:Φ)(vs:Ζ):St:=vs.map some++replicate (N.length-vs.length) none
def FZ(CX:e9)(P:Program)(w:World)(K:Frag)(mg:Str->Ω)(base:Heap)(N:Φ)(b:Str)(J:Scope)(f:Addr)(a:Value)(A:Around)(outer:xC)(s:Shared)(H:Hp)(E:XK):Cx where
 prog:=P
 w:=w
 K:=K
 mg:=mg
 base:=base
 A:=A.deeper (envOfC b J s.zs f a)
 N:=N
 s₀:=s
 H₀:=H
 env:=envOfC b J s.zs f a
 outer:=outer
 stack:=envOfC b J s.zs f a::outer
 ex:=[]
 calm:=true
 fn:=λ_=>true
 pn:=[]
 xe:=λe s'=>wpAny (model P w) (A.deeper (envOfC b J s.zs f a)) (leaving (envOfC b J s.zs f a) e) (λ_ c=>CX outer H s E e c) (λd c=>CX outer H s E d c) s'
def W0{a:Scope}{n:Nat}(h:a.names.lookup x=some .cell):∃c,(cellsFrom n a.names []).lookup x=some c:=by
 have q:=PySem.W.cellsFrom_some a.names n [] (.inl h);exact Option.isSome_iff_exists.mp q
def abZ{N:Φ}{C:Str}{B:Value}{d:xC}{G:Shared}
 (S:bL N ps J)(hd:A.handled=none)(j:Xk P w K mg base A d s H)(O:vs.length=ps.length)(r:zK vs us)
 (x:InCallC s s.zs (bindL (envOfC C J s.zs f B).kindOf (ps.zip us) λ_=>none) (cellsFrom (s.zs+1) J.names []) (bindC (envOfC C J s.zs f B).kindOf (ps.zip us) λ_=>none) G) :
  Inv (FZ CX P w K mg base N C J f B A d s H E) [] (start N vs) H G:=by
 have U:ps.length<=N.length:=by have:=ZH List.length S.pre;rw[aY]at this;lia
 obtain⟨F,R,rfl,L⟩:=x.done;have D:∀b:Addr,b∉(FZ CX P w K mg base N C J f B A d s H E).ex:=λb z=>absurd (show b∈([] : Ψ)from z) vy;refine⟨⟨j.mod,S.kind,rfl,rfl,aG _,λy z c F g=>?_,λy l=>?_,λy c _ h=>?_,λ_=>hd,Around.frames_deeper j.frames,.inr ⟨rfl,rfl⟩,λb z=>absurd z (D b),j.bs,j.bsz,λb _ _=>D b,λb z=>absurd z (D b),j.funs,j.frf⟩,
  rfl,j.bare,Un.kept L,⟨_,x.toInCall.ns,λi y v F g T=>?_⟩,λy c h=>⟨_,x.cell y c h⟩,j.hok.fresh (aG _),λy c h=>?_,λp o=>absurd (show p∈([] : Δ)from o) vy,j.hok.kept L,?_⟩
 .exact name_of_addr x.apart (PySem.mem_of_lookup F) (PySem.mem_of_lookup g)
 .have l:J.names.lookup y=some .cell\/J.names.lookup y=some .free:=l;rcases l with l|l
  .exact W0 l
  .exact absurd rfl (S.nofree _ (PySem.mem_of_lookup l))
 .exact Y2 (x.above y c (PySem.mem_of_lookup h))
 .have t:i<vs.length:=by
   unfold start at g;by_cases t:i<vs.length
   .exact t
   .rw[aD (by simpa using t)]at g;rw[XG]at g;split at g<;>cases g
  have Q:vs[i]?=some v:=by
   unfold start at g;rw[aF (by simpa using t),aq]at g;cases e:vs[i]? with
   |none=>rw[e]at g;cases g
   |some a=>rw[e]at g;cases g;rfl
  obtain⟨u,I,M⟩:=r.get Q;have o:ps[i]?=some y:=by
   rwa[<- S.pre,List.getElem?_take_of_lt (aR t (WG O))]
  have m:ps.Nodup:=by rw[<- S.pre];exact S.nd.sublist (List.take_sublist _ _)
  refine⟨u,M,?_⟩;rcases S.par y (aC o)with k|k
  .exact .inl ⟨k,Qd m o I k⟩
  .obtain⟨c,e⟩:=W0 (n:=s.zs+1) k;refine .inr ⟨.inl k,c,e,?_⟩;have q:=x.cell y c e;rw[Qf m o I (by show J.names.lookup y≠_;rw[k];decide)]at q;exact q
 .exact j.hok.fresh (Y2 (x.above y c (PySem.mem_of_lookup h)))
 .unfold start;show _=N.length;rw[aA,ak,aN];lia
def D7{g:Str}{F:Arguments}{L kV O D h M Y:Value}{T X:Ξ}
 {eC:Array (Ω)}{N:Φ}(Z:K.lookup f=some ⟨Y,X,.func (PySem.W.fnOf name g F bS J L kV O D T h M),eC⟩)(aS:codeIn K h g)(S:bL N ps J)
 (j:∀vs H Q E,sp vs H Q E->vs.length=ps.length)
 (bo:∀(A:Around)(c:xC)(s:Shared)(H:Hp)(vs:Ζ)(Q:VK)(E:XK),dX k (A.deeper (envOfC g J s.zs f h))->sp vs H Q E ->
   ∃t,PSs (FZ CX P w K mg base N g J f h A c s H E) bS t/\t { nx:=λ_ W=>Q .non W,rt:=Q } (start N vs) H) :
  fD P w K mg base CX (k+1) f (PySem.W.fnOf name g F bS J L kV O D T h M) ps sp:=by
 refine⟨j,λA c s H R us vs Q E B m hb r G=>?_⟩;have hl:=j _ _ _ _ G;have U:K.In s.heap:=m.mod.kin.keeps λb o e=>(m.bs b o e).1;have z:s.heap.NoLimit:=m.mod.nolimit.keeps λb o e=>(m.bs b o e).1;have c8:∀y∈ps.zip us,J.names.lookup y.1=some .local\/(J.names.lookup y.1=some .cell/\((cellsFrom (s.zs+1) J.names []).lookup y.1).isSome):=λ⟨n,v⟩ hy=>by
  rcases S.par n (UX hy).1 with q|q
  .exact .inl q
  .exact .inr ⟨q,PySem.W.cellsFrom_some _ _ _ (.inl q)⟩
 refine codeAny_call_function B.depth (U _ _ Z) rfl S.co S.gen rfl (PySem.W.codeRec_of U aS) (hb _ _ _ _ ?_);refine wpAny_newFunctionEnv_cells S.kind c8 λenv he C x=>?_;subst he;refine⟨z.keeps x.toInCall.keep,codeAny_func ?_⟩;obtain⟨t,ht,hq⟩:=bo A c s H vs Q E (B.deeper _) G;have I:Inv (FZ CX P w K mg base N g J f h A c s H E) [] (start N vs) H C:=abZ S B.hd m hl r x;refine wpAny_mono (ht [] C (start N vs) H _ I hq) (λfl s' i=>?_) λe s' i=>i;have l:∀{d:St}{W:Hp}{v:V}{u:Value},Inv (FZ CX P w K mg base N g J f h A c s H E) [] d W s'->zP v u->Q v W->CE c P w H s Q u s' :=
  λ{d W v u}a p q=>⟨v,W,a.os,a.bare,a.base,a.hok,p,q⟩
 cases fl with
 |ret u =>
  obtain⟨v,d,W,a,p,q⟩:=i;exact l a p q
 |next =>
  obtain⟨d,W,a,q⟩:=i;exact l (v:=V.non) (u:=Value.none) a rfl q
 |brk =>
  obtain⟨_,_,_,q⟩:=i;exact False.elim q
 |cont =>
  obtain⟨_,_,_,q⟩:=i;exact False.elim q
section
variable{X:Cx}{x:Str}{p O:Pos}{e:Expr}{Z:xw}{t:TA}{id T:String}{r:Ζ->Hp->VK->Prop}
def p_(r:Ζ->Hp->VK->Prop)(t:TA):TE:=λG H Q=>t G H λvs Y=>r vs Y Q
def V5(k:jE X (.builtin id) r)(i:Gl X x)(g:X.mg x=none)(d:bootBuiltins x=some (.builtin id))(l:PA X (e::Z) t)(f:x≠"__name__":=by decide)(n:zz x:=by decide)
 (j:zw X e Z:=by rfl)(o:zb X O Z:=by rfl):PE X (.Call (.Name x p) (e::Z) [] O) (p_ r t):=by
 intro U s G H Q I h;refine wpAny_Call_Name_kw (Di I i g d ?_ f n);exact PyProof.Rows.callWith_builtin1 (ag (l O U s G H _ I h) λus a m=>by obtain⟨vs,Y,q,b,c⟩:=m;exact k U a G Y vs us Q q b c) j o
def Pk(k:jE X (.type T) r)(i:Gl X x)(g:X.mg x=none)(d:bootBuiltins x=some (.type T))(l:PA X (e::Z) t)(f:x≠"__name__":=by decide)(n:zz x:=by decide)
 (j:zw X e Z:=by rfl)(o:zb X O Z:=by rfl):PE X (.Call (.Name x p) (e::Z) [] O) (p_ r t):=by
 intro U s G H Q I h;refine wpAny_Call_Name_kw (Di I i g d ?_ f n);exact PyProof.Rows.callWith_type1 (ag (l O U s G H _ I h) λus a m=>by obtain⟨vs,Y,q,b,c⟩:=m;exact k U a G Y vs us Q q b c) j o
end
end L2
namespace HT
open PySem PyProof.Rows
def sIx(n d:Nat):xn->Nat
 |none=>d
 |some v=>if v<0 then(v+(n:Int)).toNat else min v.toNat n
def Bp(n d k:Nat):sIx n d (some (k:Int))=min k n:=by
 show(if(k:Int)<0 then((k:Int)+(n:Int)).toNat else min (k:Int).toNat n)=min k n;rw[ZZ (Int.not_lt_of_ge (X9 _)),Int.toNat_natCast]
def akd(n d:Nat)(hd:d<=n)(o:xn):sIx n d o<=n:=by
 cases o with
 |none=>exact hd
 |some v =>
  show(if v<0 then(v+(n:Int)).toNat else min v.toNat n)<=n;by_cases a:v<0
  .rw[ZY a];lia
  .rw[ZZ a];exact Nat.min_le_right _ _
end HT
namespace L2
open PySem PySem.Spec PyProof.Rows
abbrev TO:=St->Hp->(xn->Hp->Prop)->Prop
def PO(X:Cx)(e:Option Expr)(t:TO):Prop :=
 ∀(U:Δ)(s:Shared)(G:St)(H:Hp)(Q:xn->Hp->Prop),Inv X U G H s->t G H Q ->
  wpAny (model X.prog X.w) X.A (evalPart e X.env) (λu a=>∃o W,Inv X U G W a/\IsPart u o/\Q o W) X.xe s
def YD:TO:=λ_ H Q=>Q none H
def OP(t:TE):TO:=λG H Q=>t G H λx Y=>∃i,x=.int i/\Q (some i) Y
def intsAre_of{b:xi} : ∀{a:Θ},zK (b.map V.int) a->IntsAre a b:=by
 induction b with
 |nil=>intro a r;rw[map_nil]at r;cases r;exact .nil
 |cons n b f =>
  intro a r;rw[map_cons]at r;cases r with
  |cons d c =>
   obtain⟨t,e⟩:=d;subst e;exact .cons n t (f c)
variable{X:Cx}{e:Expr}{te:TE}{lo hi:Option Expr}{tl th:TO}{O p2:Pos}{α:Type}{n:Nat}{U:Δ}{G:St}{H:Hp}{s:Shared}{I ys:Ζ}{l:Addr}
def af9:PO X none YD:=by
 intro U s G H Q I h;rw[evalPart_none];exact ZT ⟨none,H,I,.none,h⟩
def Zn(h:PE X e te):PO X (some e) (OP te):=by
 intro U s G H Q I c;rw[evalPart_some];refine ag (h U s G H _ I c) λu g d=>?_;obtain⟨x,Y,f,a,b⟩:=d;obtain⟨i,rfl,q⟩:=b;obtain⟨t,rfl⟩:=a;exact⟨some i,Y,f,.int i t,q⟩
def SlR(X:Cx)(r:V->xn->xn->Hp->VK->Prop):Prop :=
 ∀(U:Δ)(s:Shared)(G:St)(H:Hp)(x:V)(v b a:Value)(lo hi:xn)(c:Addr)(Q:VK),Inv X U G H s->zP x v->s.heap.IsSliceOf c b a .none->IsPart b lo->IsPart a hi->r x lo hi H Q ->
  ∃T id,typeLookup (.type T) "__getitem__"=pure (some (.builtin id))/\s.TypeIs v T/\wpAny (model X.prog X.w) X.A (getItem v (.ref c)) (EP X U G Q) X.xe s
def SlR.or{r e:V->xn->xn->Hp->VK->Prop}(h:SlR X r)(j:SlR X e):SlR X (λx lo hi H Q=>r x lo hi H Q\/e x lo hi H Q):=by
 intro U s G H x v b a lo hi c Q I d i g f q;rcases q with q|q
 .exact h U s G H x v b a lo hi c Q I d i g f q
 .exact j U s G H x v b a lo hi c Q I d i g f q
def Iy(r:V->xn->xn->Hp->VK->Prop)(te:TE)(tl th:TO):TE:=λG H Q=>te G H λx Y=>tl G Y λl b=>th G b λu a=>r x l u a Q
def adO{r:V->xn->xn->Hp->VK->Prop}(z:SlR X r)(D:PE X e te)(B:PO X lo tl)(t:PO X hi th):PE X (.Subscript e (.Slice lo hi none p2) O) (Iy r te tl th):=by
 intro U s G H Q I h;refine Subscript_ (ag (D U s G H _ I h) λv k g=>?_);obtain⟨x,Y,L,m,n⟩:=g;refine wpAny_Slice (ag (B U k G Y _ L n) λf j ⟨l,M,K,p,q2⟩=>ag (t U j G M _ K q2) λd a g=>?_);obtain⟨u,i,J,o,q3⟩:=g;rw[evalPart_none];refine ZT ?_;have F:Inv X U G i { a with heap:=a.heap.push { cls:=.type "slice",data:=.fields #[f,d,.none] } }:=J.kept (t':=a.toks) λb N q=>aH _ q;obtain⟨T,id,E,y,C⟩:=z U { a with heap:=a.heap.push { cls:=.type "slice",data:=.fields #[f,d,.none] } } G i x v f d l u a.zs Q F m (Heap.IsSliceOf.new ..) p o q3;show wpAny (model X.prog X.w) X.A (subscriptTail e (.Slice lo hi none p2) v (.ref a.zs)) (EP X U G Q) X.xe { a with heap:=a.heap.push { cls:=.type "slice",data:=.fields #[f,d,.none] } };exact tail_any (ops:=[.ref a.zs,v]) y E C (by with_unfolding_all rfl)
def ij(I:Ζ)(lo hi:xn):Ζ:=(I.drop (HT.sIx I.length 0 lo)).take (HT.sIx I.length I.length hi-HT.sIx I.length 0 lo)
def Vp(I:Ζ)(lo hi:xn):(ij I lo hi).length<=I.length:=by
 unfold ij;rw[aY,UQ];lia
noncomputable def c6(n:Nat)(i:Int):xL:=if 0<=i then(if i<n then some i.toNat else none)else if -(n:Int)<=i then some (i+n).toNat else none
def dv(I:List α)(i:Int):Option α:=(c6 I.length i).bind λj=>I[j]?
def ZS{i:Int}{j:Nat}(h:c6 n i=some j):seqIndex? i n=some j/\j<n/\-(n:Int)<=i/\i<n:=by
 unfold c6 at h;by_cases b:0<=i
 .rw[ZY b]at h;by_cases a:i<n
  .rw[ZY a]at h;have e:i.toNat=j:=Option.some.inj h;exact⟨by rw[seqIndex_of b a,e],by lia,by lia,a⟩
  .rw[ZZ a]at h;cases h
 .rw[ZZ b]at h;by_cases a : -(n:Int)<=i
  .rw[ZY a]at h;have e:(i+n).toNat=j:=Option.some.inj h;exact⟨by rw[seqIndex_neg (JU b) a,e],by lia,a,by lia⟩
  .rw[ZZ a]at h;cases h
def Rg{I:List α}{i:Int}{v:α}(h:dv I i=some v):∃j,seqIndex? i I.length=some j/\I[j]?=some v/\j<I.length/\-(I.length:Int)<=i/\i<I.length:=by
 unfold dv at h;cases e:c6 I.length i with
 |none=>rw[e]at h;cases h
 |some j =>
  rw[e]at h;obtain⟨d,c,b,a⟩:=ZS e;exact⟨j,d,h,c,b,a⟩
def oO(b:Expr):Prop:=∀o i,subscripted b false o i=operate [o,i] (getItem o i)
def IxR(X:Cx)(r:R2):Prop :=
 ∀(b a:Expr)(U:Δ)(s:Shared)(G:St)(H:Hp)(x y:V)(v u:Value)(Q:VK),Inv X U G H s->zP x v->zP y u->r x y H Q ->
  subscripted a false v u=operate [v,u] (getItem v u)->wpAny (model X.prog X.w) X.A (subscriptTail b a v u) (EP X U G Q) X.xe s
def MtR(X:Cx)(id:String)(r:V->Ζ->Hp->VK->Prop):Prop :=
 ∀(U:Δ)(s:Shared)(G:St)(H:Hp)(x:V)(I:Ζ)(v:Value)(a:Θ)(Q:VK),Inv X U G H s->zP x v->zK I a->r x I H Q ->
  wpAny (model X.prog X.w) X.A (call (.builtin id) (v::a)) (EP X U G Q) X.xe s
section
variable{X:Cx}{a b:Expr}{ta tb:TE}{O:Pos}
def IxR.or{r c:R2}(h:IxR X r)(g:IxR X c):IxR X (λx y H Q=>r x y H Q\/c x y H Q):=by
 intro f e U s G H x y v u Q I b a q d;rcases q with q|q
 .exact h f e U s G H x y v u Q I b a q d
 .exact g f e U s G H x y v u Q I b a q d
def tu{r:R2}(g:IxR X r)(j:PE X a ta)(i:PE X b tb)(f:oO b):PE X (.Subscript a b O) (iN r ta tb):=by
 intro U s G H Q I h;exact Subscript_ (ng j i I h λv u c x y l k e d q=>g a b U c G l x y v u Q k e d q (f _ _))
def MG(K:Frag):R2:=λx y H Q=>∃p I i v,x=.ref p/\y=.int i/\SqL K H p I/\dv I i=some v/\Q v H
def LY(K:Frag):R2:=λx y H Q=>∃p I i v,x=.ref p/\y=.int i/\SqT K H p I/\dv I i=some v/\Q v H
def KU:R2:=λx y H Q=>∃z i c,x=.str z/\y=.int i/\z.length<=sizeLine/\dv z.cps.toList i=some c/\Q (.str ⟨#[c]⟩) H
def Az:IxR X (MG X.K):=by
 intro P O U s G H x y v u Q a o n h k;obtain⟨p,I,i,z,rfl,rfl,A,C,q⟩:=h;cases o;obtain⟨t,rfl⟩:=n;obtain⟨f,r,e,L⟩:=a.list A;obtain⟨j,c,F,N,E,D⟩:=Rg C;obtain⟨w,l,J⟩:=r.get F;have B:=r.length;have M:=yI;have b:EP X U G Q w s:=⟨z,H,a,J,q⟩;by_cases d:0<=i
 .have g:i.toNat=j:=by
   rw[seqIndex_of d D]at c;exact Option.some.inj c
  exact item_listR e.isList d vw (by rw[g];simpa using l) b k
 .have g:(i+(f.toArray.size:Int)).toNat=j:=by
   rw[seqIndex_neg (JU d) E]at c;rw[aX,<- B];exact Option.some.inj c
  exact subscriptTail_builtinR (x:=w) e.isList.typeIs slot_list_getitem.lookup
   (wpAny_getItem_list_neg (Q:=λr m=>r=w/\EP X U G Q r m) e.isList (JU d) (by rw[aX]<;>lia) vw (by rw[g];simpa using l) ⟨rfl,b⟩) k
def Cw:IxR X (LY X.K):=by
 intro N M U s G H x y v u Q a f e h k;obtain⟨p,I,i,z,rfl,rfl,l,n,q⟩:=h;cases f;obtain⟨t,rfl⟩:=e;obtain⟨g,r,c,C⟩:=a.tuple l;obtain⟨j,L,o,J,F,E⟩:=Rg n;obtain⟨w,B,A⟩:=r.get o;have m:=r.length;have D:=yI;have b:EP X U G Q w s:=⟨z,H,a,A,q⟩;exact subscriptTail_builtinR (x:=w) c.typeIs slot_tuple_getitem.lookup
  (getItem_tuple (j:=j) (Q:=λr d=>r=w/\EP X U G Q r d) c vw vw (by rwa[aX,<- m]) (by simpa using B) ⟨rfl,b⟩) k
def P3:IxR X KU:=by
 intro C B U s G H x y v u Q I d b h e;obtain⟨z,i,c,rfl,rfl,r,g,q⟩:=h;obtain⟨t,rfl⟩:=d;obtain⟨p,rfl⟩:=b;obtain⟨j,a,m,A,l,k⟩:=Rg g;have f:z.cps.toList.length=z.length:=by simp[Str.length]
 rw[f]at a l k;have w:=yI;exact tail_any (typeIs_str s z t) slot_str_getitem.lookup (getItem_str (c:=c) (by
  have o:decide (i < -(2^63:Int))=false:=Zp vw;have n:decide (i>=2^63)=false:=Zp vw;rw[o,n,Bool.or_false]) (by rw[a];simpa using m) ⟨.str ⟨#[c]⟩,H,I.tok _,⟨_,rfl⟩,q⟩) e
def X4(a:Θ)(n j:Nat)(u:Value):Obj.mapSeq (·.setIfInBounds j u) { cls:=.type "list",data:=.seq a.toArray n }={ cls:=.type "list",data:=.seq (a.set j u).toArray n }:=by
 simp[Obj.mapSeq]
def Inv.lst{U:Δ}{G:St}{H:Hp}{s:Shared}{p:Addr}{I:Ζ}(a:Inv X U G H s)(h:H p=some (.lst I)) :
  ∃(b:Θ)(n:Nat),zK I b/\s.heap.get? p=some { cls:=.type "list",data:=.seq b.toArray n }/\I.length<=sizeLine:=by
 obtain⟨z,b,n,r,e⟩:=a.hok p _ h;exact⟨b,n,r,e,z⟩
def Inv.lstUpd{p:Addr}{d c:Θ}{g:Nat}{f:Obj->Obj}(a:Inv X U G H s)(h:H p=some (.lst I))
 (l:s.heap.get? p=some { cls:=.type "list",data:=.seq d.toArray n })(i:f { cls:=.type "list",data:=.seq d.toArray n }={ cls:=.type "list",data:=.seq c.toArray g })(r:zK ys c)(k:ys.length<=sizeLine)(t:Nat) :
  Inv X U G (upd H p (.lst ys)) { s with heap:=s.heap.update p f,toks:=t }:=by
 have e:(s.heap.update p f).get? p=some { cls:=.type "list",data:=.seq c.toArray g }:=by
  rw[Heap.get?_update_self f l (by rw[i]<;>rfl),i]
 refine a.write (x:=p) (e:=p) (by rw[h];trivial) (.inl rfl) (λb u m q=>(Heap.get?_update_other _ _ (Ne.symm m)).trans q) ⟨_,e⟩ ?_;exact⟨k,c,g,r,e⟩
def NG:V->V->V->Hp->(Hp->Prop)->Prop:=λo i v H Q=>∃p I k j,o=.ref p/\i=.int k/\H p=some (.lst I)/\c6 I.length k=some j/\Q (upd H p (.lst (I.set j v)))
def set_list:sB X NG:=by
 intro U s G H o i v D E u Q a y z x h;obtain⟨p,I,k,j,rfl,rfl,l,A,q⟩:=h;cases y;obtain⟨t,rfl⟩:=z;obtain⟨b,n,r,e,F⟩:=a.lst l;obtain⟨c,K,C,B⟩:=ZS A;have f:=r.length;have J:=yI;have w:Inv X U G (upd H p (.lst (I.set j v))) { s with heap:=s.heap.update p (Obj.mapSeq (·.setIfInBounds j u)) } :=
  a.lstUpd l e (X4 b n j u) (r.set x j) (by rwa[WH]) s.toks
 by_cases d:0<=k
 .have g:k.toNat=j:=by
   rw[seqIndex_of d B]at c;exact Option.some.inj c
  exact PySem.W.ki_setAt e d vw (by rwa[aX,<- f]) (by rw[g];exact⟨_,w,q⟩)
 .have g:(k+(b.toArray.size:Int)).toNat=j:=by
   rw[seqIndex_neg (JU d) C]at c;rw[aX,<- f];exact Option.some.inj c
  exact PySem.W.ki_setBack e (JU d) (by rwa[aX,<- f]) vw (by rw[g];exact⟨_,w,q⟩)
def RB(lo hi:xn)(n:Nat):(sliceBounds lo hi none n).1=((HT.sIx n 0 lo:Nat):Int)/\(sliceBounds lo hi none n).2.1=((HT.sIx n n hi:Nat):Int)/\(sliceBounds lo hi none n).2.2=1:=by
 refine⟨?_,?_,rfl⟩
 .cases lo with
  |none=>simp[sliceBounds,HT.sIx]
  |some i =>
   simp only[sliceBounds,HT.sIx,getD_none,show(1:Int)>0 by decide,if_true];by_cases h:i<0
   .simp only[h,if_true]<;>lia
   .simp only[h,if_false]<;>lia
 .cases hi with
  |none=>simp[sliceBounds,HT.sIx]
  |some i =>
   simp only[sliceBounds,HT.sIx,getD_none,show(1:Int)>0 by decide,if_true];by_cases h:i<0
   .simp only[h,if_true]<;>lia
   .simp only[h,if_false]<;>lia
def Ot(a:Θ)(lo hi:xn):slicePick a.toArray lo hi none=((a.drop (HT.sIx a.length 0 lo)).take (HT.sIx a.length a.length hi-HT.sIx a.length 0 lo)).toArray:=by
 obtain⟨d,c,b⟩:=RB lo hi a.toArray.size;unfold slicePick;rw[d,c,b];simp only[sliceRange_one,pick_run,aX]<;>rfl
def KW(K:Frag):V->xn->xn->Hp->VK->Prop:=λx lo hi H Q=>∃a I,x=.ref a/\SqL K H a I/\∀p,H p=none->Q (.ref p) (upd H p (.lst (ij I lo hi)))
def _2:SlR X (KW X.K):=by
 intro U s G H x v p n lo hi t Q c e l g f h;obtain⟨a,I,rfl,k,q⟩:=h;cases e;obtain⟨i,r,d,j⟩:=c.list k;have m:=r.length;refine⟨"list",_,slot_list_getitem.lookup,d.isList.typeIs,?_⟩;refine wpAny_getItem_list_slice d.isList l g f .none vy ?_ (by rw[aX]<;>lia);rw[Ot,<- m];refine⟨.ref s.zs,_,c.laid (t':=s.toks) (o:=.lst (ij I lo hi)) (λb u q=>aH _ q) (aG _) ?_,rfl,q _ (c.hok.fresh (aG _))⟩;exact⟨aL (Vp I lo hi) j,_,0,(r.drop (HT.sIx I.length 0 lo)).take (HT.sIx I.length I.length hi-HT.sIx I.length 0 lo),aW _ rfl⟩
def Pu:V->Bool
 |.non=>true
 |.bl _=>true
 |.int _=>true
 |.str _=>true
 |_=>false
noncomputable def J9:V->V->Bool
 |.non,.non=>true
 |.bl a,.bl b=>a==b
 |.bl a,.int b=>(if a then 1 else 0)==b
 |.int a,.bl b=>a==(if b then 1 else 0)
 |.int a,.int b=>a==b
 |.str a,.str b=>a==b
 |_,_=>false
def QL:jE X (.builtin "len") (λI H Q=>∃p ys,I=[.ref p]/\(SqL X.K H p ys\/SqT X.K H p ys)/\Q (.int ys.length) H):=by
 intro U s G H I j Q a r h;obtain⟨p,ys,rfl,b,q⟩:=h;obtain⟨u,rfl,g⟩:=vals1 r;cases g;have k:=yI;rcases b with b|b
 .obtain⟨e,c,d,i⟩:=a.list b;have f:=c.length;exact Calls.call_len_list d.isList (by simp only[aX]<;>lia) ⟨.int ys.length,H,a.tok _,⟨s.toks+1,by rw[aX,f]⟩,q⟩
 .obtain⟨e,c,d,i⟩:=a.tuple b;have f:=c.length;exact len_tuple d (by simp only[aX]<;>lia) ⟨.int ys.length,H,a.tok _,⟨s.toks+1,by rw[aX,f]⟩,q⟩
def TF:jE X (.builtin "len") (λI H Q=>∃z,I=[.str z]/\z.length<=sizeLine/\Q (.int z.length) H):=by
 intro U s G H I b Q a r h;obtain⟨z,rfl,c,q⟩:=h;obtain⟨u,rfl,t,rfl⟩:=vals1 r;have d:=yI;exact len_str vw ⟨.int z.length,H,a.tok _,⟨_,rfl⟩,q⟩
def Rh:jE X (.type "list") (λI H Q=>∃p ys,I=[.ref p]/\(SqL X.K H p ys\/SqT X.K H p ys)/\∀l,H l=none->Q (.ref l) (upd H l (.lst ys))):=by
 intro U s G H I B Q a r h;obtain⟨p,ys,rfl,k,q⟩:=h;obtain⟨u,rfl,z⟩:=vals1 r;cases z;have m:∀(c:Θ),zK ys c->ys.length<=sizeLine->∀(d:Heap)(g:Nat),(∀b x,s.heap.get? b=some x->d.get? b=some x) ->
   d.get? s.zs=some { cls:=.type "list",dict:=none,data:=.seq c.toArray g,slots:=#[] }->EP X U G Q (.ref s.zs) { s with heap:=d }:=λc f j d g i e =>
  ⟨.ref s.zs,_,a.laid (t':=s.toks) i (aG _) (show fG X.prog X.w _ d _ (.lst ys)from⟨j,c,g,f,e⟩),rfl,q _ (a.hok.fresh (aG _))⟩
 rcases k with k|k
 .obtain⟨c,f,t,j⟩:=a.list k;have A:=f.length;obtain⟨o,v,hc,n,hd⟩:=t.isList;exact call_list_seq p (.inl rfl) v hc hd (λd g i e=>m c f j d g i e) (by simp only[aX]<;>lia)
 .obtain⟨c,f,t,j⟩:=a.tuple k;have A:=f.length;obtain⟨o,v,hc,n,hd⟩:=t;exact call_list_seq p (.inr rfl) v hc hd (λd g i e=>m c f j d g i e) (by simp only[aX]<;>lia)
def p3(K:Frag)(T:String)(x:V)(H:Hp):Prop:=match x with
 |.str _=>T="str"
 |.int _=>T="int"
 |.ref p=>(T="list"/\∃I,SqL K H p I)\/(T="tuple"/\∃o,K.lookup p=some o/\o.cls=.type "tuple"/\o.dict=none) \/
   (T="dict"/\(∃a,H p=some (.dK a)))\/(T="set"/\∃S n,H p=some (.set S n))
 |_=>False
def RW{T:String}{x:V}{v:Value}(b:Inv X U G H s)(r:zP x v)(g:p3 X.K T x H) :
  s.TypeIs v T/\∀a,v=.ref a->∃k,s.heap.get? a=some k/\k.dict=none:=by
 cases x with
 |str z =>
  obtain⟨t,rfl⟩:=r;cases(show T="str" from g);exact⟨typeIs_str s z t,λ_ e=>nomatch e⟩
 |int i =>
  obtain⟨t,rfl⟩:=r;cases(show T="int" from g);exact⟨typeIs_int s i t,λ_ e=>nomatch e⟩
 |ref p =>
  cases r;rcases g with⟨rfl,I,q⟩|⟨rfl,o,d,hc,hd⟩|⟨rfl,d⟩|⟨rfl,S,n,d⟩
  .obtain⟨m,_,j,_⟩:=b.list q;refine⟨j.isList.typeIs,λa e=>?_⟩;cases e;obtain⟨o,n,e,c,hd,_⟩:=j;exact⟨o,e,hd⟩
  .refine⟨⟨o,b.kIn p o d,hc⟩,λa e=>?_⟩;cases e;exact⟨o,b.kIn _ o d,hd⟩
  .have z:∃o,s.heap.get? p=some o/\o.ExactDict:=by
    obtain⟨l,d⟩:=d;obtain⟨_,_,_,_,o,_,_,e,f,_⟩:=b.hok p _ d;exact⟨o,e,f⟩
   obtain⟨o,e,f⟩:=z;refine⟨⟨o,e,f.1⟩,λa h=>?_⟩;cases h;exact⟨o,e,f.2.1⟩
  .obtain⟨o,_,_,_,e,f,_⟩:=b.hok p _ d;refine⟨⟨o,e,f.1⟩,λa h=>?_⟩;cases h;exact⟨o,e,f.2.1⟩
 |_=>exact False.elim g
def IE(K:Frag)(T:String)(r:V->Ζ->Hp->VK->Prop)(a:TE)(t:TA):TE:=λG H Q=>a G H λx Y=>p3 K T x Y/\t G Y λI b=>r x I b Q
variable{o e:Expr}{Z:xw}{to:TE}{t:TA}{name:Str}{ah af:Pos}{T id:String}{r:V->Ζ->Hp->VK->Prop}
abbrev zC(a b:Pos):Prop:=(a.endLine==b.line)=true
def om(n:PlainAttrs T)(slot:Slot T name id)(w:typeOf (.builtin id)=pure (.type "method_descriptor"))(B:MtR X id r)(A:PE X o to)(C:PA X (e::Z) t)
 (q:zt X o name:=by rfl)
 (p:((backTo af (starEach (e::Z) X.env)).all (λx=>!x.1)&&(backToKw af (keywordEach [] X.env)).all (λx=>x.1.isSome)
   && decide ((e::Z).length+([] : wP).length+(if([] : wP).isEmpty then 0 else 1)<30))=true:=by rfl)
 (u:zC ah af:=by rfl)(z:zw X e Z:=by rfl)(y:zb X af Z:=by rfl) :
  PE X (.Call (.Attribute o name ah) (e::Z) [] af) (IE X.K T r to t):=by
 intro U s G H Q I h;refine wpAny_Call_method_late q p u rfl (ag (A U s G H _ I h) λv k a=>?_);obtain⟨x,Y,d,b,i,m⟩:=a;obtain⟨E,D⟩:=RW d b i;refine⟨T,id,n,slot,w,E,D,?_⟩;have c:=C af U k G Y _ d m;rw[z]at c ⊢;refine Calls.callWith_builtin (by show(false || (backTo af (starEach Z X.env)).any (·.1))=false;rw[y]<;>rfl) (Calls.evalArgs_plain ?_);exact ag c λg j a=>by obtain⟨f,J,F,l,q2⟩:=a;exact B U j G J x f v g Q F b l q2

end
def l_(X:Cx)(id:String)(r:V->Ζ->Hp->VK->Prop):Prop :=
 ∀(U:Δ)(s:Shared)(G:St)(H:Hp)(x:V)(I:Ζ)(v:Value)(a:Θ)(Q:VK),Inv X U G H s->zP x v->zK I a->r x I H Q ->
  wpAny (model X.prog X.w) X.A (call (.builtin id) (v::a)) (EP X U G Q) X.xe s
def zK.one:∀{x:V}{a:Θ},zK [x] a->∃u,a=[u]/\zP x u
 |_,_,.cons r .nil=>⟨_,rfl,r⟩
def zK.two{x y:V}{a:Θ}(h:zK [x,y] a):∃u v,a=[u,v]/\zP x u/\zP y v:=by
 cases h with|cons r t=>cases t with|cons q t=>cases t;exact⟨_,_,rfl,r,q⟩
theorem zK.rep{I:Ζ}{a:Θ}(h:zK I a):∀k:Nat,zK (replicate k I).flatten (replicate k a).flatten
 |0=>.nil
 |k+1=>by
  rw[replicate_succ,replicate_succ,flatten_cons,flatten_cons];exact zK.append h (zK.rep h k)
theorem foldl_rep(a:Θ):∀(k:Nat)(b:Θ),
  List.foldl (λd c=>d++c) b.toArray (replicate k a.toArray)=(b++(replicate k a).flatten).toArray
 |0,b=>by simp
 |k+1,b=>by
  have e:b.toArray++a.toArray=(b++a).toArray:=by simp
  have f:(b++a)++(replicate k a).flatten=b++(replicate (k+1) a).flatten:=by
   rw[replicate_succ,flatten_cons,Wp]
  rw[<- f,<- foldl_rep a k (b++a),<- e,replicate_succ,foldl_cons]
def Inv.lset{b its':Θ}{f:xE->xE}{d:Nat}(a:Inv X U G H s)(m:H l=some (.lst I))
 (e:s.heap.get? l=some { cls:=.type "list",data:=.seq b.toArray n })(j:f b.toArray=its'.toArray)(h:zK ys its')(g:ys.length<=sizeLine) :
  Inv X U G (upd H l (.lst ys)) { s with heap:=s.heap.update l (Obj.mapSeq f),toks:=d }:=by
 have q:=PySem.IsL.update e f;rw[j]at q;refine a.write (x:=l) (e:=l) (by rw[m];exact trivial) (.inl rfl) (λo u k i=>(Heap.get?_update_other s.heap (Obj.mapSeq f) (Ne.symm k)).trans i) ⟨_,q⟩ ?_;exact⟨g,its',_,h,q⟩
def Inv.lnew{its:Θ}{t':Nat}(I:Inv X U G H s)(c:zK ys its)(b:ys.length<=sizeLine) :
  Inv X U G (upd H s.zs (.lst ys)) { s with heap:=s.heap.push { cls:=.type "list",data:=.seq its.toArray },toks:=t' } :=
 I.laid (λ_ _ q=>aH _ q) (aG _) ⟨b,its,0,c,aW _ rfl⟩
def Inv.fresh(I:Inv X U G H s):H s.zs=none:=I.hok.fresh (aG _)
def Inv.lstM(a:Inv X U G H s)(c:H l=some (.lst I)):I.length<=sizeLine/\∃(b:Θ)(n:Nat),zK I b/\I.length=b.length/\s.heap.get? l=some { cls:=.type "list",data:=.seq b.toArray n }:=by
 obtain⟨z,b,n,r,e⟩:=a.hok l _ c;exact⟨z,b,n,r,r.length,e⟩
def aeC(h:n<=sizeLine):Builtin.List.listTooLong n=false:=by
 unfold Builtin.List.listTooLong;exact Zp (TZ h)
def _R:V->Ζ->Hp->VK->Prop:=λx a H Q=>∃l I y,x=.ref l/\a=[y]/\H l=some (.lst I)/\I.length<sizeLine/\Q .non (upd H l (.lst (I++[y])))
def P0:l_ X "list.append" _R:=by
 intro U s G H x i v j Q a d f h;obtain⟨l,I,y,rfl,rfl,c,k,q⟩:=h;cases d;obtain⟨u,rfl,g⟩:=f.one;obtain⟨z,b,n,r,m,e⟩:=a.lstM c;refine call_meets F.slot_list_append ⟨_,e,rfl⟩ F.entry_list_append (F.args_list_append_2 _ _) (PySem.list_append l b.toArray n u (by rw[aX];lia)) ⟨e,?_⟩;refine⟨.non,_,a.lset (its':=b++[u]) c e vy (r.append (.cons g .nil)) ?_,rfl,q⟩;rwa[aA,length_singleton]
def Mo:R2:=λx y H Q=>∃l b I a,x=.ref l/\y=.ref b/\H l=some (.lst I)/\H b=some (.lst a)/\I.length+a.length<=sizeLine/\∀p,H p=none->Q (.ref p) (upd H p (.lst (I++a)))
def TC:OpR X (binaryOp .Add) Mo:=by
 intro U s G H x y v u Q a g f h;obtain⟨l,b,I,t,rfl,rfl,k,m,B,q⟩:=h;cases g;cases f;obtain⟨z,c,n,r,C,e⟩:=a.lstM k;obtain⟨w,d,A,i,j,p⟩:=a.lstM m;refine PySem.P.add_list e p ?_ (by rw[aX,aX];lia);have o:c.toArray++d.toArray=(c++d).toArray:=by simp
 rw[o];exact⟨.ref _,_,a.lnew (t':=s.toks) (r.append i) (by rw[aA];omega),rfl,q _ a.fresh⟩
def Kj:R2:=λx y H Q=>∃l k I,x=.ref l/\y=.int k/\H l=some (.lst I)/\-(2^63)<=k/\k<2^63/\I.length*k.toNat<=sizeLine /\
 ∀p,H p=none->Q (.ref p) (upd H p (.lst (replicate k.toNat I).flatten))
def len_rep(I:List α)(k:Nat):(replicate k I).flatten.length=k*I.length:=by
 induction k with
 |zero=>simp
 |succ k a=>rw[replicate_succ,flatten_cons,aA,a,Nat.succ_mul,Nat.add_comm]
def P4:OpR X (binaryOp .Mult) Kj:=by
 intro U s G H x y v u Q b j i h;obtain⟨l,k,I,rfl,rfl,C,E,D,M,q⟩:=h;cases j;obtain⟨t,rfl⟩:=i;obtain⟨z,c,n,r,B,e⟩:=b.lstM C;have K:c.toArray.size*k.toNat<=sizeLine:=by rwa[aX,<- B]
 have o:¬c.toArray.size*k.toNat>(2^63-1)/8:=by
  have:(sizeLine:Nat)<=(2^63-1)/8:=by decide
  lia
 have w:¬(!Builtin.List.listFitsIndex k)=true:=by
  rw[fitsIndex_both E D];exact bx
 have A:¬Builtin.List.listTooLong (c.toArray.size*k.toNat)=true:=by
  rw[aeC K];exact bx
 have p:List.foldl (λf d=>f++d) #[] (replicate (if c.toArray.isEmpty=true then 0 else k.toNat) c.toArray)=(replicate k.toNat c).flatten.toArray:=by
  have J:∀m:Nat,List.foldl (λf d=>f++d) #[] (replicate m c.toArray)=(replicate m c).flatten.toArray:=λm=>by
   have:=foldl_rep c m [];rw[List.nil_append]at this;exact this
  rw[J];cases c with
  |nil=>simp
  |cons a L=>rw[ZZ vy]
 refine wpAny_binaryOp_repeat_ref (T:="list") (U:="int") vk ⟨_,e,rfl⟩ (λg=>typeIs_int g k t) noFill_list_mul F.fills_int_mul F.slot_int_rmul repeat_list F.slot_int_index.lookup
  (call_meets F.slot_int_rmul (typeIs_int s k t) F.entry_int_rmul (F.args_int_rmul_2 _ _) (int___rmul___int_list k t l c.toArray n)
   ⟨e,rfl,⟨_,e,rfl⟩,call_meets F.slot_list_mul ⟨_,e,rfl⟩ F.entry_list_mul (F.args_list_mul_2 _ _) (AutoListH.list___mul___list_int_3 l c.toArray n k t w o A) ⟨e,?_⟩⟩)
 rw[p];exact⟨.ref _,_,b.lnew (t':=s.toks) (r.rep k.toNat) (by rwa[len_rep,Nat.mul_comm]),rfl,q _ b.fresh⟩
end L2
namespace Att
open PySem PySem.W PySem.Calls PyProof.Rows
def Iz{P:Params}{h:Heap} : ∀(c:xi)(d:Θ),WellAll P h d (c.map WData.int)->IntsAre d c:=by
 intro c
 induction c with
 |nil =>
  intro d w;rw[map_nil]at w;cases w;exact .nil
 |cons n c e =>
  intro d w;rw[map_cons]at w;cases w with
  |cons a b =>
   cases a;exact .cons _ _ (e _ b)
variable{l:OpenLaw}
def aa2{n:Nat}(v:l.most=some n){P:Params}{h:Heap}{b:List WData}{j:Θ}
 (k:l.row.toRowW.claim.pre b)(s:WellAll P h j b) :
  ∃a i c,j=[Value.ref a]/\b=[WData.list (c.map WData.int)]/\h.get? a=some { cls:=.type "list",data:=.seq i.toArray }/\IntsAre i c/\c.length<=n:=by
 have t:WShape.hasAll [] b [.list .int]:=(pre_splitW k).1;have hc:l.pre.holds [] { args:=b }:=(pre_splitW k).2;obtain⟨d,r,rfl,y,x⟩:=hasAllW_cons t;obtain rfl:=hasAllW_nil x;obtain⟨I,rfl,w⟩:=hasW_list y;obtain⟨c,rfl⟩:=items_int w;have z:c.length<=n:=by
  unfold OpenLaw.pre at hc;have g:(WTm.not (.lt (.lit (.int (n:Int))) (.len (.arg 0)))).holds [] { args:=[.list (c.map .int)] }:=by
   have g:=(holds_andW hc).1;rw[v]at g;exact g
  have f:=condW_of g (w_not (w_lt w_lit (w_len_list (w_arg rfl))));rw[ak]at f;refine VW λq=>?_;have p:(n:Int)<((c.length:Nat):Int):=by omega
  first
   |(rw[Zs p]at f;exact absurd f vk)
   |(simp at f;omega)
 cases s with
 |cons o m =>
  cases m;cases o with
  |list u e=>exact⟨_,_,c,rfl,rfl,u,Iz c _ e,z⟩
def abx(l:OpenLaw)(a:List WData):l.row.toRowW.claim.post a (.bool true) a=true :=
 postW_of (r:=l.row.toRowW) (X:=(true==true))
  (show WShape.has [] (.bool true) .bool=true by first|rfl|decide|simp[WShape.has,WShape.arms,WShape.armsAll])
  (show(WTm.eq .res (.lit (.bool true))).value [] { args:=a,res:=some (.bool true),after:=a }=some (.bool (true==true))from w_eq_bool (w_res rfl) w_lit) rfl
def WD{n:Nat}{q:Program}{e:Φ}{z:(Str->Ω)->Heap->Prop}{y:World->Heap->Prop}{d:DefRec}
 (H:l.most=some n)(B:d.params.defaults=[])
 (call:∀(w:World)(c b:Shared)(k s:Str->Ω)(h:Addr)(o:Obj)(p m t:Value)(a:Addr)(g:Θ)(j:xi),
   Ground q e [] z w c k s b.heap->y w b.heap ->
   b.heap.get? h=some o->o.data=.func (docDef d.name d.params d.body d.scope p m t)->b.heap.CodeRec m d.name->k d.name=some (.ref h) ->
   b.heap.get? a=some { cls:=.type "list",data:=.seq g.toArray }->IntsAre g j->j.length<=n->b.gens = #[] ->
   codeAny (model l.prog w) callerA (.call (.ref h) ⟨[.ref a],[]⟩) (λr i=>r=.ok (.ret (.bool true))/\OldK b.heap i.heap/\i.os=b.os/\AllBare i.gens) b) :
  WalkO q e z y l.row.toRowW d [] (λf g=>PySem.call f g):=by
 intro w c b k s G Y h o p m t R kV F hd T v P K x U V Q u D A J;obtain rfl:R=.none:=Dflts.none v B;obtain rfl:kV=.none:=Dflts.noKw v;obtain⟨a,g,j,rfl,rfl,C,O,S⟩:=aa2 H Q A;refine enter_call (codeAny_mono (call w c b k s h o p m t a g j G Y F (fd_plain hd) T P C O S K) λr i E=>?_);obtain⟨rfl,N,M,L⟩:=E;exact⟨.inl ⟨.bool true,.bool true,[],rfl,λ_=>rfl,.bool true,abx l _,λ_=>⟨List.Pairwise.nil,λ_ I=>(nomatch I)⟩⟩,N,M,L⟩
end Att
namespace L2
open PySem PySem.Spec PyProof.Rows
theorem Gy:∀{a:Θ}{b:xi},IntsAre a b->zK (b.map V.int) a
 |_,_,.nil=>.nil
 |_,_,.cons n t h=>.cons ⟨t,rfl⟩ (Gy h)
def Only(H:Hp):Prop:=∀b,H b=none\/∃o I,H b=some (.frz o (.lst I))
def ae4{P:Program}{w:World}{K:Frag}{p G:Str->Ω}{CX:e9}{k:Nat}{M a:Addr}{fd:FuncData}{x:Str}{Q:Sp}{c:Shared}{i:Θ}{l:xi}
 (KX:K.In c.heap)(fg:c.heap.Ns mainGlobals p)(f:c.heap.Ns builtinsNs G)(L:∀x:Str,x≠"__name__"->G x=bootBuiltins x)(pM:c.heap.NoLimit)(hg:c.gens = #[])
 (E:c.heap.get? a=some { cls:=.type "list",data:=.seq i.toArray })(T:IntsAre i l)(S:l.length<=sizeLine)(hr:dX k callerA)
 (F:∀base:Heap,K.In base->base.Ns mainGlobals p->fD P w K p base CX k M fd [x] Q)(lS:∀(s:Shared)(u:Value),BindsTo s fd ⟨[u],[]⟩ [(x,u)])
 (fS:∀H:Hp,Only H->SqL K H a (l.map V.int)->Q [.ref a] H (λv _=>v=.bl true) λ_ _ _=>False)
 (rq:∀H e g,CX [] H c (λ_ _ _=>False) e g->False) :
  codeAny (model P w) callerA (.call (.ref M) ⟨[.ref a],[]⟩) (λr g=>r=.ok (.ret (.bool true))/\OldK c.heap g.heap/\g.os=c.os/\AllBare g.gens) c:=by
 have R:=Gy T;have oz:=T.length

 have core:∀H:Hp,Only H->SqL K H a (l.map V.int)->HOk P w H c.heap->(∀b,H b≠none->b=a)->(H a≠none->K.lookup a=none) ->
   codeAny (model P w) callerA (.call (.ref M) ⟨[.ref a],[]⟩) (λr g=>r=.ok (.ret (.bool true))/\OldK c.heap g.heap/\g.os=c.os/\AllBare g.gens) c:=by
  intro H U hS y X hK;have Y:∀{b:Addr}{o:Obj},c.heap.get? b=some o->H b=none->(Sd c.heap H).get? b=some o:=λe n=>afi e n;have kC:∀{b:Addr}{o:Obj}{Z:Array DictEntry}{B:Nat},c.heap.get? b=some o->o.data=.dict Z B->H b=none:=λ{b o Z B}e d=>by
   cases q:H b with
   |none=>rfl
   |some u =>
    have N:b=a:=X b (by rw[q];simp);subst N;rw[E]at e;cases e;have d':Data.seq i.toArray _=Data.dict Z B:=d;cases d'
  have D:∀{b:Addr}{m:Str->Ω},c.heap.Ns b m->(Sd c.heap H).Ns b m:=λ{b m}⟨o,Z,B,e,d,r⟩=>⟨o,Z,B,Y e (kC e d),d,r⟩;have A:K.In (Sd c.heap H):=λb o e=>Y (KX b o e) (by
   cases q:H b with
   |none=>rfl
   |some u =>
    have N:b=a:=X b (by rw[q];simp);subst N;rw[hK (by rw[q];simp)]at e;cases e)
  have hM:Mod K p (Sd c.heap H):=⟨A,D fg,⟨G,D f,L⟩,let⟨mc,h1,h2⟩:=pM;⟨mc,D h1,h2⟩⟩;have e0:Xk P w K p (Sd c.heap H) callerA [] c H:=⟨rfl,hM,λb o e=>_F e,WG (ab9 _ _),trivial,λb f=>absurd (show b∈([] : Ψ)from f) vy,y,.of_eq hg⟩;refine codeAny_mono ((F _ A (D fg)).run callerA [] c H ⟨[.ref a],[]⟩ [.ref a] [.ref a] _ _ hr e0 (lS c (.ref a)) (.cons rfl .nil) (fS H U hS)) λr g h=>?_;cases r with
  |error e=>exact(rq H e g h).elim
  |ok fl =>
   cases fl with
   |next=>exact False.elim h
   |brk=>exact False.elim h
   |cont=>exact False.elim h
   |ret u =>
    obtain⟨v,W,os,C,O,t,r',q⟩:=h;have q':v=.bl true:=q;subst q';obtain rfl:u=Value.bool true:=r';refine⟨rfl,OldK.of_keep λb o e=>?_,os,C⟩;cases q:H b with
    |none=>exact O.keep b o e q (by intro z;exact absurd (show b∈([] : Ψ)from z) vy) vy
    |some u =>
     rcases U b with z|⟨ob,I,z⟩
     .rw[q]at z;cases z
     .have z2:=O.frzs b ob _ z;obtain⟨e1,_⟩:=y b _ z;obtain⟨e2,_⟩:=t b _ z2;rw[e]at e1;cases e1;exact e2
 cases J:K.lookup a with
 |some o =>

  have e:=KX a o J;rw[E]at e;cases e;refine core (λ_=>none) (λ_=>.inl rfl) (.inr ⟨_,i.toArray,_,J,rfl,rfl,rfl,by rw[aX,oz];exact S,by simpa using R⟩) (λb u z=>by have j:(none:Option HO)=some u:=z;cases j) (λb z=>absurd rfl z) λz=>absurd rfl z
 |none =>
  refine core (λb=>if b=a then some (.frz { cls:=.type "list",data:=.seq i.toArray } (.lst (l.map V.int)))else none) (λb=>?_) (.inl (.inr ⟨{ cls:=.type "list",data:=.seq i.toArray },ZY rfl⟩)) (λb u z=>?_) (λb z=>?_) λ_=>J
  .by_cases f:b=a
   .exact .inr ⟨_,_,ZY f⟩
   .exact .inl (ZZ f)
  .by_cases f:b=a
   .have j:=(ZY f).symm.trans z;cases j;subst f;exact⟨E,by rw[ak];exact S,i,_,R,E⟩
   .have j:=(ZZ f).symm.trans z;cases j
  .by_cases f:b=a
   .exact f
   .exact absurd (ZZ f) z
abbrev KOf{K:Frag}{h:Heap}(_:K.In h):Frag:=K
def aaG{l:PySem.W.OpenLaw}{n k:Nat}{q:Program}{c:Φ}{XP:(Str->Ω)->Heap->Prop}{B:World->Heap->Prop}{d:DefRec}{K:Params->Frag}{CX:World->e9}{sp:World->Sp}{x:Str}
 (M:l.most=some n)(I:n<=sizeLine)(E:d.params.defaults=[])(L:dX k callerA)
 (P:∀(w:World)(h:Heap),B w h->(K w.params).In h)
 (F:∀(w:World)(i:Str->Ω)(p:Addr)(h:Heap),(K w.params).In h->h.Ns mainGlobals i->i d.name=some (.ref p) ->
   ∃t:FuncData,(∀(s:Shared)(u:Value),BindsTo s t ⟨[u],[]⟩ [(x,u)]) /\
    ∀base:Heap,(K w.params).In base->base.Ns mainGlobals i->fD l.prog w (K w.params) i base (CX w) k p t [x] (sp w))
 (Z:∀(w:World)(H:Hp)(a:Addr)(m:xi),m.length<=n->Only H->SqL (K w.params) H a (m.map V.int)->sp w [.ref a] H (λv _=>v=.bl true) λ_ _ _=>False)
 (D:∀(w:World)(H:Hp)(s:Shared)(e:Value)(r:Shared),CX w [] H s (λ_ _ _=>False) e r->False) :
  PySem.W.WalkO q c XP B l.row.toRowW d [] (λf y=>PySem.call f y):=by
 refine Att.WD M E λw z j i mb p o pm cd bX a y m G Y ho hd aS X J U A N=>?_;have C:=P w _ Y;obtain⟨t,O,S⟩:=F w i p _ C G.T.g X;exact ae4 C G.T.g G.T.b G.T.builtins G.T.nolimit N J U (aL A I) L S O (λH R Q=>Z w H a m A R Q) λH e r=>D w H j e r
end L2

namespace L2
open PySem PySem.Spec PyProof.Rows
abbrev bb:e9:=λ_ _ _ _ _ _=>False
abbrev E0:XK:=λ_ _ _=>False
def MJ{X:Cx} : Passes bb X E0:=λ_ _ _ _ _ _ _ h=>h.elim
structure Fun(K:Frag)(x am:Str)(st:Stmt)(f:Addr)(fd:FuncData):Prop where
 ex:∃(oc:Value)(od:Ξ)(kV bX pm:Value)(an:Ξ)(ai ct:Value)(eC:Array (Ω)),
  fd=PySem.W.fnOf x am (jW st) (fL st) (bH st) .none kV bX pm an ai ct/\K.lookup f=some ⟨oc,od,.func fd,eC⟩/\codeIn K ai am
 kp:keepIn K (.ref f)
variable{P:Program}{w:World}{K:Frag}{mg:Str->Ω}{base:Heap}{x am:Str}{st:Stmt}{f:Addr}{fd:FuncData}{N ps:Φ}{sp:Sp}{oc:Value}{eC:Array (Ω)}{A:Around}
def Fun.ok{k:Nat}(F:Fun K x am st f fd)(S:bL N ps (bH st))(d:∀b H Q E,sp b H Q E->b.length=ps.length)
 (j:∀(c:Value)(A:Around)(a:xC)(s:Shared)(H:Hp)(b:Ζ)(Q:VK)(E:XK),dX k (A.deeper (envOfC am (bH st) s.zs f c))->sp b H Q E ->
   ∃t,PSs (FZ bb P w K mg base N am (bH st) f c A a s H E).nox (fL st) t/\t { nx:=λ_ W=>Q .non W,rt:=Q } (start N b) H):fD P w K mg base bb (k+1) f fd ps sp:=by
 obtain⟨oc,n,kV,p,m,r,c,o,eC,rfl,e,l⟩:=F.ex;refine D7 e l S d λA a s H b Q E g i=>?_;obtain⟨t,h,q⟩:=j c A a s H b Q E g i;exact⟨t,h.nox,q⟩
def EG{h g:Ξ}{kV e b a d:Value}(l:K.lookup f=some ⟨oc,h,.func (PySem.W.fnOf x am (jW st) (fL st) (bH st) .none kV e b g a d),eC⟩)
 (c:codeIn K a am)(k:keepIn K (.ref f)):Fun K x am st f (PySem.W.fnOf x am (jW st) (fL st) (bH st) .none kV e b g a d):=⟨⟨oc,h,kV,e,b,g,a,d,eC,rfl,l,c⟩,k⟩
def xK{k:Nat}(a:dX k A):A.units+1<cLine:=Y3 (Nat.add_le_add_left (by decide:1<=64) _) a.units
noncomputable def pG(a:Scope)(x:Str):Bool:=(a.names.lookup x).any λk=>k == .local || k == .cell || k == .free
def VE{a:Scope}(h:pG a x):j3 a x:=by
 unfold pG at h;unfold j3;cases e:a.names.lookup x with
 |none=>rw[e]at h;cases h
 |some k=>rw[e]at h;cases k<;>first|exact .inl rfl|exact .inr (.inl rfl)|exact .inr (.inr rfl)|cases h
variable{X:Cx}{O:Pos}{H W:Hp}{a b:Addr}{I:Ζ}{prog:Program}{E:Ε}{s:Shared}{Q:Unit->Shared->Prop}{br Z:xw}{t:String}{e:Expr}{h:Heap}{fl:Value}{oe o:Obj}{vs:xE}
abbrev n_X(X:Cx)(i:Nat)(x:Str):Prop:=X.N[i]?=some x/\pG X.env.scope x/\zz x/\zk x
def pv(i:Nat)(b:n_X X i x:=by exact⟨rfl,rfl,vk,vk⟩):PE X (.Name x O) (Ku i):=P7 b.1 (VE b.2.1) b.2.2.1 b.2.2.2
def KI{A B:Prop}(h:B):if false=true then A else B:=by
 rwa[ZZ bx]
def LU{A B:Prop}(h:A):if true=true then A else B:=by
 rwa[ZY rfl]
def zT(H W:Hp):Prop:=∀b o,H b=some o->W b=some o
def zT.refl(H:Hp):zT H H:=λ_ _ h=>h
def zT.trans{Y d:Hp}(a:zT H Y)(b:zT Y d):zT H d:=λc o h=>b c o (a c o h)
def zT.free(e:zT H W){l:Addr}(h:W l=Option.none):H l=Option.none:=by
 cases q:H l with
 |none=>rfl
 |some o =>
  rw[e l o q]at h;cases h
def zT.seq(e:zT H W)(h:SqL K H a I):SqL K W a I:=by
 rcases h with(h|⟨o,h⟩)|h
 .exact .inl (.inl (e _ _ h))
 .exact .inl (.inr ⟨o,e _ _ h⟩)
 .exact .inr h
def Bd(i:Int):Prop:=i.natAbs<2^8000
def Bd.log2{i:Int}(h:Bd i):i.natAbs.log2<8000:=by
 by_cases a:i.natAbs=0
 .rw[a,Nat.log2_zero];exact TR _
 .exact(Nat.log2_lt a).mpr h
def Bd.bits{i:Int}(h:Bd i):Builtin.Int.intBits i<=2^20:=by
 have e:(2:Nat)^20=1048576:=by decide
 have:=h.log2;unfold Builtin.Int.intBits;split
 .exact aZ _
 .lia
def Ry:OpR X (binaryOp .Mult) (rI (λi j=>Bd i/\Bd j) λi j=>.int (i*j)):=iX λ_ _ _ _ _ _ _ a q=>mul_int q (.of_bits a.1.bits a.2.bits)
def adv:OpR X (binaryOp .FloorDiv) (rI (λ_ j=>j≠0/\Bd j) λi j=>.int (i.fdiv j)):=iX λ_ _ _ _ _ _ _ a q=>floordiv_int a.1 q (.inl (PyProof.noPylong_of_log2 (by have:=a.2.log2;exact Ts this vk)))
def VR:jE X (.builtin "isinstance") (λI H Q=>∃x c d t b,I=[x,c]/\((∃T,c=.ty T/\d=Value.type T)\/∃C,c=.ref C/\d=Value.ref C)/\GP X.K H x t/\kitOne X.K t d=some b/\Q (.bl b) H):=by
 intro U s G H I l Q a r h;obtain⟨x,c,d,t,b,rfl,j,g,e,q⟩:=h;obtain⟨u,v,rfl,i,f⟩:=r.two;have k:v=d:=by
  rcases j with⟨T,rfl,rfl⟩|⟨T,rfl,rfl⟩
  .exact f
  .exact f
 subst k;exact ab3 a i g e λm=>⟨.bl b,H,a.tok _,rfl,q⟩
def WM:jE X (.builtin "sorted") (λI H Q=>∃l g,I=[.ref l]/\SqL X.K H l (g.map V.int)/\g.length<64/\∀(i:xi)p,H p=none->i.Perm g->i.Pairwise (· <= ·)->Q (.ref p) (upd H p (.lst (i.map V.int)))):=by
 intro U s G H I C Q c r h;obtain⟨l,g,rfl,v,j,q⟩:=h;obtain⟨u,rfl,t⟩:=r.one;cases t;obtain⟨d,k,p,m⟩:=c.list v;have x:=intsAre_of k;have z:d.length=g.length:=by have:=k.length;simpa using this.symm
 refine sorted_ints (vs:=d) p.isList x (Y3 (WG z) j) λout f B n A=>?_;obtain⟨e,w⟩:=sortedAll_at s.heap d out;have y:H (s.zs+1)=none:=c.hok.fresh (Xs _);refine⟨.ref _,_,c.laid (a:=s.zs+1) (o:=.lst (f.map V.int)) (t':=s.toks) (λb u e=>sortedAll_old e) (Xs _) ?_,rfl,q f _ y n A⟩;refine⟨?_,out.toList,e,Gy B,w⟩;rw[ak,n.length_eq];rw[ak]at m;exact m
theorem Pz{d t:Addr}{a:xE}(q:t≠d):∀(n i:Nat)(s:Shared)(Q:Θ->Shared->Prop),s.heap.IsListIter d t i->PlainL s.heap t a->i+n<=a.size ->
  (∀j,j.IsListIter d t (i+n)->Heap.SameBut d s.heap j->Q ((a.toList.drop i).take n) { s with heap:=j })->wpAny (model prog w) A (draw (.ref d) n) Q E s
 |0,i,s,Q,c,_,_,h=>by
  show wpAny _ _ (pure []) Q E s;exact ZT (by simpa using h s.heap c (Heap.SameBut.refl ..))
 |n+1,i,s,Q,c,m,z,h=>by
  have u:i<a.size:=by lia
  show wpAny _ _ (pyNext (.ref d) >>= _) Q E s;refine ZU (wpAny_pyNext_list_item c m.isList (x:=a[i]) (by simp[u]) λg y l=>?_);have v:PlainL g t a:=by
   obtain⟨o,k,e,r⟩:=m;exact⟨o,k,(l.2 t q).trans e,r⟩
  refine ZU (wpAny_holding (Pz q n (i+1) _ _ y v vw λf B b=>ZT ?_));have hd:a.toList.drop i=a[i]::a.toList.drop (i+1):=by simp[QQ,u]
  have:=h f (by rwa[show i+(n+1)=i+1+n by lia]) (l.trans b);rw[hd,List.take_succ_cons]at this;exact this
def G8{t:Addr}{a:xE}{Q:Θ->Shared->Prop}(x:A.handled=none)(i:PlainL s.heap t a)
 (y:∀n,Heap.ExtBut s.zs s.heap n->Q a.toList { s with heap:=n }):wpAny (model prog w) A (unpackItems (.ref t) a.size none) Q E s:=by
 have p:t≠s.zs:=by obtain⟨o,_,v,_⟩:=i;exact aQ (aK v)
 unfold unpackItems;refine ZU ?_
 .unfold notIterableAtAll;refine ZU (wpAny_specialOf i.isList.typeIs slot_list_iter.lookup ?_);refine ZT ?_;simp only[XW,if_false];refine ZU (wpAny_holding (wpAny_pyIter_list i.isList ?_));have g:PlainL (s.heap.push { cls:=.type "list_iterator",data:=.fields #[.ref t,.int 0 0] }) t a:=by
   obtain⟨o,k,e,r⟩:=i;exact⟨o,k,aH _ e,r⟩
  refine ZU (wpAny_holding (Pz p a.size 0 _ _ ⟨_,aW _ rfl,rfl,rfl⟩ g vw λf u j=>?_));have h:List.take a.size (List.drop 0 a.toList)=a.toList:=by
   rw[drop_zero];exact QP vy
  rw[h];rw[ZZ vy];have q:PlainL f t a:=by
   obtain⟨o,k,e,r⟩:=g;exact⟨o,k,(j.2 t p).trans e,r⟩
  refine ZU (wpAny_holding (wpAny_pyNext_list_end x u q.isList vy λd c=>?_));simp only[Option.isSome_none,XW,if_false];refine ZT (y d λb o m e=>c b o m (j.extBut b o m (aH _ e)))
def Eu{env:Env}{d}{t:Addr}{a:xE}(i:A.handled=none)(f:PlainL s.heap t a)
 (g:(assignEach br env).length=a.size)(e:(assignEach br env).findIdx? (·.1)=none)
 (h:∀c,Heap.ExtBut s.zs s.heap c->wpAny (model prog w) A (assignInOrder ((assignEach br env).map (·.2)) a.toList) Q E { s with heap:=c }) :
  wpAny (model prog w) A (assign (.Tuple br d O) env (.ref t)) Q E s:=by
 rw[assign_Tuple];refine ZU (wpAny_standAt ?_);unfold unpack;rw[g,e];exact ZU (wpAny_holding (G8 i f h))
def Oy(K:Frag)(n:Nat)(t:eZ):TG:=λv G H Q=>∃a I,v=.ref a/\SqL K H a I/\I.length=n/\t I G H Q
def _S{k:Nat}{t:eZ}{n:Nat}(hc:X.calm)(h:PGs X Z t)
 (m:(assignEach Z X.env).length=n:=by rfl)(x:zD X Z:=by rfl):PG X (.Tuple Z k O) (Oy X.K n t):=by
 intro U s G H v u Q c r hw;obtain⟨a,I,w,l,p,hw⟩:=hw;subst w;cases r;obtain⟨g,d,j,z⟩:=c.list l;refine Eu (c.ok.hd hc) j (by simp[m,<- p,d.length]) x λq i=>?_;have y:Inv X U G H { s with heap:=q }:=c.kept (t':=s.toks) λb o e=>i b o (aQ (aK e)) e;exact h U _ G H I _ Q y (by simpa using d) hw
def zT.upd{H:Hp}{p:Addr}{o:HO}(a:H p=none):zT H (upd H p o):=λb u e=>by
 rw[bY (lQ e a)];exact e
def IxR.imp{r a:R2}(h:IxR X r)(i:∀x y H Q,a x y H Q->r x y H Q):IxR X a:=by
 intro b O U s G H x y v u Q I d c q e;exact h _ _ _ _ _ _ _ _ _ _ _ I d c (i _ _ _ _ q) e
def OU:R2:=λx y H Q=>∃p I i v,x=.ref p/\y=.int i/\H p=some (.tup I)/\dv I i=some v/\Q v H
def RN:IxR X OU:=Cw.imp λx y H Q e=>by obtain⟨p,I,i,v,a,b,c,d⟩:=e;exact⟨p,I,i,v,a,b,.of c,d⟩
def jE.imp{f:Value}{r b:Ζ->Hp->VK->Prop}(h:jE X f r)(i:∀I H Q,b I H Q->r I H Q):jE X f b:=λU s G H I c Q a d q=>h U s G H I c Q a d (i _ _ _ q)
noncomputable def my(H:Hp):V->Option String
 |.non=>some "NoneType"
 |.bl _=>some "bool"
 |.int _=>some "int"
 |.str _=>some "str"
 |.ref a=>match H a with
  |some (.lst _)=>some "list"
  |some (.tup _)=>some "tuple"
  |some (.dK _)=>some "dict"
  |_=>none
 |_=>none
def WF{x:V}(h:my H x=some t):GP K H x (.type t):=by
 cases x with
 |non=>cases h;exact .non
 |bl=>cases h;exact .bl _
 |int=>cases h;exact .int _
 |str=>cases h;exact .str _
 |byt=>cases h
 |flt=>cases h
 |ty=>cases h
 |ref a =>
  have h:(match H a with
   |some (.lst _)=>some "list"
   |some (.tup _)=>some "tuple"
   |some (.dK _)=>some "dict"
   |_=>none)=some t:=h
  split at h
  .cases h;exact .lst (by assumption)
  .cases h;exact .tup (by assumption)
  .cases h;exact .dK (by assumption)
  .cases h
def Rq(t T:String):Bool:=(t==T) || (t=="bool" && T=="int")
def He{T:String}(a:t∈["NoneType","bool","int","str","list","tuple","dict"])(b:T∈["bool","int","str","list","tuple","dict"]):kitOne K (.type t) (.type T)=some (Rq t T):=by
 simp only[YU,UV,or_false]at a b;rcases a with rfl|rfl|rfl|rfl|rfl|rfl|rfl<;>rcases b with rfl|rfl|rfl|rfl|rfl|rfl<;>with_unfolding_all rfl
def Rc{x:V}(h:my H x=some t):t∈["NoneType","bool","int","str","list","tuple","dict"]:=by
 cases x with
 |non=>cases h;decide
 |bl=>cases h;decide
 |int=>cases h;decide
 |str=>cases h;decide
 |byt=>cases h
 |flt=>cases h
 |ty=>cases h
 |ref a =>
  have h:(match H a with
   |some (.lst _)=>some "list"
   |some (.tup _)=>some "tuple"
   |some (.dK _)=>some "dict"
   |_=>none)=some t:=h
  split at h<;>cases h<;>decide
def MO:Ζ->Hp->VK->Prop:=λI H Q=>∃x T t,I=[x,.ty T]/\T∈["bool","int","str","list","tuple","dict"]/\my H x=some t/\Q (.bl (Rq t T)) H
def yF:jE X (.builtin "isinstance") MO:=VR.imp λI H Q e=>by obtain⟨x,T,t,a,b,c,d⟩:=e;exact⟨x,.ty T,.type T,.type t,_,a,.inl ⟨T,rfl,rfl⟩,WF c,He (Rc c) b,d⟩
def PG.imp{t a:TG}(h:PG X e t)(i:∀v G H Q,a v G H Q->t v G H Q):PG X e a:=λU s G H v u Q I r q=>h U s G H v u Q I r (i _ _ _ _ q)
def Os(n:Nat)(t:eZ):TG:=λv G H Q=>∃a I,v=.ref a/\H a=some (.tup I)/\I.length=n/\t I G H Q
def _1{k:Nat}{t:eZ}{n:Nat}(c:X.calm)(h:PGs X Z t)(b:(assignEach Z X.env).length=n:=by rfl)(i:zD X Z:=by rfl):PG X (.Tuple Z k O) (Os n t) :=
 (EQ c h b i).imp λv G H Q d=>by obtain⟨a,I,g,f,e⟩:=d;exact⟨a,I,g,.of f,e⟩
def Pp:Ζ->Hp->VK->Prop:=λI H Q=>∃l a,I=[.ref l]/\H l=some (.lst (a.map V.int))/\a.length<64/\∀(b:xi)p,H p=none->b.Perm a->b.Pairwise (· <= ·)->Q (.ref p) (upd H p (.lst (b.map V.int)))
def aa7:jE X (.builtin "sorted") Pp:=WM.imp λI H Q e=>by obtain⟨l,d,a,b,c⟩:=e;exact⟨l,d,a,.of b,c⟩
def OkF(P:Program)(w:World)(K:Frag)(mg:Str->Ω)(base:Heap)(k:Nat)(x:Str)(ps:Φ)(sp:Sp):Prop :=
 ∃f fd,fD P w K mg base bb k f fd ps sp/\Binds K fd ps []/\mg x=some (.ref f)/\keepIn K (.ref f)
def cD(K:Frag)(mg:Str->Ω)(x:Str)(st:Stmt)(ps:Φ):Prop :=
 ∃f fd,Fun K x x st f fd/\(∀a:Θ,a.length=ps.length->bindArgs fd ⟨a,[]⟩=pure (ps.zip a))/\mg x=some (.ref f)
def cD.ok{k:Nat}(h:cD K mg x st ps)
 (d:∀f fd,Fun K x x st f fd->fD P w K mg base bb k f fd ps sp):OkF P w K mg base k x ps sp:=by
 obtain⟨f,fd,a,b,c⟩:=h;exact⟨f,fd,d f fd a,.all b,c,a.kp⟩
def _M{m i:Ξ}{kV g d b e:Value}(X:K.In h)(G:h.Ns mainGlobals mg)
 (a:nsIn K mainGlobals x=some (some (.ref f)))(l:K.lookup f=some ⟨oc,m,.func (PySem.W.fnOf x x (jW st) (fL st) (bH st) .none kV g d i b e),eC⟩)
 (c:codeIn K b x)(k:keepIn K (.ref f))
 (n:∀(kV g d:Value)(i:Ξ)(b e:Value)(j:Θ),j.length=ps.length->bindArgs (PySem.W.fnOf x x (jW st) (fL st) (bH st) .none kV g d i b e) ⟨j,[]⟩=pure (ps.zip j)):cD K mg x st ps :=
 ⟨f,_,EG l c k,n kV g d i b e,mg_of X G a⟩
def lq(K:Frag):Sp:=λvs H Q _=>∃(a:Addr)(b:xi),vs=[.ref a]/\SqL K H a (b.map V.int)/\b.length<=63/\Only H/\∀W,Q (.bl true) W
def aoI{l:PySem.W.OpenLaw}{k:Nat}{q:Program}{b:Φ}{E:(Str->Ω)->Heap->Prop}{i:World->Heap->Prop}{d:DefRec}{K:Params->Frag}(r:l.most=some 63)(o:d.params.defaults=[])
 (p:dX k callerA)(B:∀(w:World)(h:Heap),i w h->(K w.params).In h)
 (F:∀(w:World)(mg:Str->Ω)(c:Addr)(h:Heap),(K w.params).In h->h.Ns mainGlobals mg->mg d.name=some (.ref c) ->
   ∃st,cD (K w.params) mg d.name st [x]/\∀(base:Heap)(f:Addr)(fd:FuncData),Fun (K w.params) d.name d.name st f fd->fD l.prog w (K w.params) mg base bb k f fd [x] (lq (K w.params))) :
  PySem.W.WalkO q b E i l.row.toRowW d [] (λf vs=>PySem.call f vs):=by
 refine L2.aaG (n:=63) (k:=k) (x:=x) (CX:=λ_=>bb) (sp:=λw=>lq (K w.params)) r vk o p B (λw mg c h H G g=>?_) (λ_ _ a m v D C=>⟨a,m,rfl,C,v,D,λ_=>rfl⟩) λ_ _ _ _ _ z=>z;obtain⟨st,⟨f,fd,y,A,t⟩,j⟩:=F w mg c h H G g;rw[t]at g;have e:f=c:=by injection g with z;injection z
 subst e;exact⟨fd,λs u=>.of_eq (A [u] rfl),λbase _ _=>j base f fd y⟩
section
variable{X:Cx}{p O:Pos}{e:Expr}{Z:xw}{t:TA}{x:Str}{k:Nat}{ps:Φ}{sp:Sp}
def Lz(sp:Sp)(t:TA):TE:=λG H Q=>t G H λvs Y=>sp vs Y Q E0
def mU(a:OkF X.prog X.w X.K X.mg X.base k x ps sp)(d:dX k X.A)(i:Gl X x)(l:PA X (e::Z) t)(m:zz x:=by decide)
 (j:zw X e Z:=by rfl)(n:zb X O Z:=by rfl):PE X (.Call (.Name x p) (e::Z) [] O) (Lz sp t):=by
 obtain⟨f,fd,F,b,g,c⟩:=a;intro U s G H Q I h;refine _P F d i g c b .nil MJ l m j n U s G H Q I ?_;show t G H λvs Y=>sp (vs++[]) Y Q E0;simp only[append_nil];exact h
end
def WN(a:Int):(if a<0 then -a else a)=((a.natAbs:Nat):Int):=by split<;>omega
def u_(a:Int){b:Int}(h:0<b):fdiv a b=a/b:=lv a (XY h)
def TrD(h base:Heap)(e:Addr)(a:Value)(d:Ξ)(fl:Value):Prop :=
 ∃oe vs T oT b,h.get? e=some oe/\(oe.cls=a/\oe.dict=d)/\oe.data=.fields vs/\vs[1]?=some (.ref T)/\base.get? T=none/\T≠e/\h.get? T=some oT/\oT.data=.fields b/\b[3]?=some fl
def xR(base:Heap)(l:xC)(e:Addr)(a:Value)(d:Ξ)(fl:Value)(h:Heap):Prop :=
 base.StaysIn h/\base.get? e=none/\h.FunFrames base l/\TrD h base e a d fl
def xR.first{l:xC}{e:Addr}{a:Value}{d:Ξ}(x:xR base l e a d fl h):∃oe vs,h.get? e=some oe/\oe.cls=a/\oe.dict=d/\oe.data=.fields vs :=
 by obtain⟨_,_,_,oe,vs,_,_,_,c,b,hd,_⟩:=x;exact⟨oe,vs,c,b.1,b.2,hd⟩
section
variable{M:Model}{A:Around}{E:Ε}{s:Shared}{base:Heap}{env:Env}{outer l:xC}{L e:Addr}{cls:Value}{d:Ξ}{Q:Unit->Shared->Prop}
def Le(o:Obj)(f:xE->xE):(Obj.mapFields f o).dict=o.dict:=by
 unfold Obj.mapFields;split<;>rfl
def F1{head:Value}{K:Bool}(O:A.frames=some (env::outer))(k:s.heap.FunFrames base (env::outer))(J:env.frame=some L)(n:s.heap.get? e=some oe)
 (N:base.StaysIn s.heap)(y:base.get? e=none)(hd:oe.data=.fields vs)(i:1<vs.size)(h:∀p,xR base (env::outer) e oe.cls oe.dict (rawInt L) p->s.heap.UpToSlots p->Q () { s with heap:=p }) :
  wpAny M A (do let a <- frameOf env;let j <- entryPlaceOf L K;let b <- EntryCells.newEntry head a .none (rawInt L) .none j;setField (.ref e) 1 b) Q E s:=by
 have d:e∉(env::outer).filterMap (·.frame):=λz=>by
  obtain⟨_,o,w,m⟩:=k.mem z;rw[n]at w;cases w;exact m vs hd
 refine ZU (wpAny_frameOf_fun O k J λg l=>ZU (wpAny_entryPlaceOf λj G=>?_));unfold EntryCells.newEntry newFields;refine ZU (wpAny_newObj_type ?_ (G.sizeOk5 _ _ _ _ _));have B:g.get? e=some oe:=(l.2.1 e d).trans n;have u:base.StaysIn g:=λb o q=>(l.2.1 b λz=>by rw[(k.mem z).1]at q;cases q).trans (N b o q);generalize D:({ cls:=.type "traceback",dict:=none,data:=.fields ([head,.ref L,.none,rawInt L,.none]++(if j.isEmpty then replicate 6 Value.none else j)).toArray } : Obj)=ot;have v:g.objs.size≠e:=Up (aK B);have C:(g.push ot).get? e=some oe:=aH _ B;refine wpAny_setField C hd i (h _ ?_ ?_)
 all_goals
  have F:=Obj.data_mapFields hd (·.setIfInBounds 1 (Value.ref g.objs.size));have P:=Heap.get?_update_self (Obj.mapFields (·.setIfInBounds 1 (Value.ref g.objs.size))) C (Obj.isFreed_of_fields F);have c:∀b o,b≠e->g.get? b=some o->((g.push ot).update e (Obj.mapFields (·.setIfInBounds 1 (Value.ref g.objs.size)))).get? b=some o:=λb o I q=>by
   rw[Heap.get?_update_other _ _ (Ne.symm I)];exact aH _ q
  have t:∀b o,s.heap.get? b=some o->(∀H,o.data≠.fields H)->b≠e:=λb o q f z=>by
   rw[z,n]at q;cases q;exact f vs hd
 .refine⟨λb o q=>c b o (λz=>by rw[z,y]at q;cases q) (u b o q),y,k.of_keeps λb o q f=>?_,?_⟩
  .obtain⟨r,z⟩:=l.2.2 b o q;exact⟨_,c b _ (t b o q f) z,rfl⟩
  .refine⟨_,_,g.objs.size,ot,_,P,⟨Obj.cls_mapFields _ _,Le _ _⟩,F,by simp[i],u.fresh,v,?_,by rw[<- D],?_⟩
   .rw[Heap.get?_update_other _ _ (Ne.symm v)];exact aW g (by rw[<- D];rfl)
   .first|(simp;done)|(rcases G with rfl|⟨_,_,_,_,_,_,_,rfl⟩<;>simp)
 .intro b o q f;obtain⟨r,z⟩:=l.2.2 b o q;exact⟨r,c b _ (t b o q f) z⟩
def Zf(k:A.frames=some (env::outer))(g:s.heap.FunFrames base (env::outer))(b:env.frame=some L)(d:s.heap.get? e=some oe)
 (i:base.StaysIn s.heap)(j:base.get? e=none)(hd:oe.data=.fields vs)(f:vs[1]?=some .none)(h:∀a,xR base (env::outer) e oe.cls oe.dict (rawInt L) a->s.heap.UpToSlots a->Q () { s with heap:=a }) :
  wpAny M A (noteFrame (.ref e) env) Q E s:=by
 unfold noteFrame;simp only[b];refine ZU (wpAny_field d hd f ?_);rw[ZZ vk];exact F1 k g b d i j hd (Array.getElem?_eq_some_iff.mp f).1 h
def PB(H:A.frames=some (env::outer))(m:env.frame=some L)(x:xR base (env::outer) e cls d .none s.heap)
 (h:∀f,xR base (env::outer) e cls d (rawInt L) f->s.heap.UpToSlots f->Q () { s with heap:=f }):wpAny M A (noteFrame (.ref e) env) Q E s:=by
 obtain⟨F,G,C,oe,vs,T,oT,v,n,⟨hc,j⟩,hd,r,w,B,k,i,p⟩:=x;subst hc j;unfold noteFrame;simp only[m];refine ZU (wpAny_field n hd r ?_);rw[ZY (show(Value.ref T != Value.none)=true from by simp)];refine ZU (wpAny_field k i p ?_);rw[ZZ (show ¬((Value.none==rawInt L)=true)from by simp[rawInt])];refine ZU (wpAny_setField k i (Array.getElem?_eq_some_iff.mp p).1 ?_);have g:∀b,b≠T->(s.heap.update T (Obj.mapFields (·.setIfInBounds 3 Value.none))).get? b=s.heap.get? b:=λb D=>Heap.get?_update_other _ _ (Ne.symm D);have l:∀b o,s.heap.get? b=some o->(∀t,o.data≠.fields t)->b≠T:=λb o q a z=>by
  rw[z,k]at q;cases q;exact a v i
 refine F1 (s:={ s with heap:=_ }) H (C.of_keeps λb o q a=>⟨o,(g b (l b o q a)).trans q,rfl⟩) m ((g e (Ne.symm B)).trans n)
  (λb o q=>(g b λz=>by rw[z,w]at q;cases q).trans (F b o q)) G hd (Array.getElem?_eq_some_iff.mp r).1 λf y u=>h f y λb o q a=>u b o ((g b (l b o q a)).trans q) a
def lh(x:xR base l e cls d fl s.heap)(h:∀j,xR base l e cls d .none j->s.heap.UpToSlots j->Q () { s with heap:=j }):wpAny M A (setFlight (.ref e) none) Q E s:=by
 obtain⟨D,F,y,oe,vs,T,oT,m,u,hc,hd,v,p,r,i,c,C⟩:=x;have k:3<m.size:=(Array.getElem?_eq_some_iff.mp C).1;have g:∀b,b≠T->(s.heap.update T (Obj.mapFields (·.setIfInBounds 3 ((none:Ξ).elim Value.none λf=>rawInt f)))).get? b=s.heap.get? b:=λb B=>Heap.get?_update_other _ _ (Ne.symm B);have n:∀b o,s.heap.get? b=some o->(∀w,o.data≠.fields w)->b≠T:=λb o q a z=>by
  rw[z,i]at q;cases q;exact a m c
 unfold setFlight;refine ZU (wpAny_field u hd v ?_);rw[ZY (show(Value.ref T != Value.none)=true from by simp)];refine wpAny_setField i c k (h _ ⟨λb o q=>(g b λz=>by rw[z,p]at q;cases q).trans (D b o q),F,y.of_keeps λb o q a=>⟨o,(g b (n b o q a)).trans q,rfl⟩,?_⟩ λb o q a=>⟨o.slots,(g b (n b o q a)).trans q⟩);exact⟨oe,vs,T,_,_,(g e (Ne.symm r)).trans u,hc,hd,v,p,r,Heap.get?_update_self _ i (Obj.isFreed_of_fields (Obj.data_mapFields c _)),Obj.data_mapFields c _,by simp[k]⟩
def xR.pop(x:xR base (env::outer) e cls d fl h):xR base outer e cls d fl h:=⟨x.1,x.2.1,x.2.2.1.2.2,x.2.2.2⟩
def aez(j:A.frames=some (env::outer))(g:env.frame=some L)(x:xR base (env::outer) e cls d .none s.heap)
 (h:∀a,xR base outer e cls d .none a->s.heap.UpToSlots a->Q () { s with heap:=a }):wpAny M A (leaving env (.ref e)) Q E s:=by
 unfold leaving;exact ZU (PB j g x λk y c=>lh y λi z f=>h i z.pop (c.trans f))
def abz{h0:Heap}(t:A.frames=some (env::outer))(m:env.frame=some L)(i:base.StaysIn h0)(l:h0.FunFrames base (env::outer))(d:∀b o,h0.get? b=some o->s.heap.get? b=some o)
 (a:h0.get? e=none)(n:s.heap.get? e=some oe)(hd:oe.data=.fields vs)(g:vs[1]?=some .none)
 (h:∀c,xR base outer e oe.cls oe.dict .none c->s.heap.UpToSlots c->Q () { s with heap:=c }):wpAny M A (leaving env (.ref e)) Q E s:=by
 have r:base.get? e=none:=by
  cases q:base.get? e with
  |none=>rfl
  |some o=>have:=i e o q;rw[a]at this;cases this
 unfold leaving;exact ZU (Zf t (l.of_keeps λb o q _=>⟨o,d b o q,rfl⟩) m n (λb o q=>d b o (i b o q)) r hd g λg y j=>lh y λp z k=>h p z.pop (j.trans k))
end
def fG.there{o:HO}(x:fG P w H h a o):∃b,h.get? a=some b:=by
 cases o with
 |lst I=>obtain⟨_,_,_,_,e⟩:=x;exact⟨_,e⟩
 |tup I=>obtain⟨_,_,_,o,e,_⟩:=x;exact⟨_,e⟩
 |dK c=>obtain⟨_,_,_,_,o,_,_,e,_⟩:=x;exact⟨_,e⟩
 |set S n=>obtain⟨o,_,_,_,e,_⟩:=x;exact⟨_,e⟩
 |ins C j d=>obtain⟨_,_,_,e,_⟩:=x;exact⟨_,e⟩
 |own y=>exact x
 |xd d=>obtain⟨_,⟨_,_,_,e,_⟩,_⟩:=x;exact⟨_,e⟩
 |rng lo i=>obtain⟨_,_,_,e⟩:=x;exact⟨_,e⟩
 |frz b u=>obtain⟨e,_⟩:=x;exact⟨_,e⟩
 |tbl ps=>exact⟨_,(show h.get? a=some _ from x)⟩
 |met f y=>exact⟨_,(show h.get? a=some _ from x)⟩
 |ext g=>obtain⟨_,e,_⟩:=x;exact e
structure Fly(P:Program)(w:World)(l:xC)(H:Hp)(s:Shared)(a:Addr)(C:Value)(W:Hp)(s':Shared)(B:Heap)(d:Ξ):Prop where
 os:s'.os=s.os
 bare:AllBare s'.gens
 new:s.heap.get? a=none
 un:Un (cs l) [] H W s.heap s'.heap
 hok:HOk P w W s'.heap
 frf:∀b∈cs l,W b=none
 fl:xR B l a C d .none s'.heap
 cov:∀b o,s'.heap.get? b=some o->b∉cs l->((∃u,s.heap.get? b=some u)\/∃u,W b=some u)->B.get? b=some o
section
variable{P:Program}{w:World}{l:xC}{H W:Hp}{s s':Shared}{a:Addr}{C:Value}{B:Heap}{d:Ξ}{h':Heap}
def Fly.trk(F:Fly P w l H s a C W s' B d){u:HO}(e:W b=some u)(q:s'.heap.get? b=some o):B.get? b=some o :=
 F.cov b o q (λz=>by rw[F.frf b z]at e;cases e) (.inr ⟨u,e⟩)
def Fly.hok'(F:Fly P w l H s a C W s' B d)(k:∀b o,B.get? b=some o->h'.get? b=some o):HOk P w W h':=λb u e =>
 (F.hok b u e).stay (λc v f q=>k c v (by
  rcases f with z|z
  .subst z;exact F.trk e q
  .exact F.trk z q)) (λ_ q=>q) λ_ _ q=>q
def Fly.un'(F:Fly P w l H s a C W s' B d)(k:∀b o,B.get? b=some o->h'.get? b=some o)(i:s'.heap.UpToSlots h'):Un (cs l) [] H W s.heap h':=by
 have j:∀b∈cs l,∀o,s'.heap.get? b=some o->∀vs,o.data≠.fields vs:=λb c o e=>by
  obtain⟨_,h,f,d⟩:=F.fl.2.2.1.mem c;rw[e]at f;cases f;exact d
 refine⟨λb o q n c g=>k b o (F.cov b o (F.un.keep b o q n c g) c (.inl ⟨o,q⟩)),λb o q n c g=>?_,F.un.free,λb o q g=>?_,F.un.tups,F.un.frzs,F.un.tbls⟩
 .obtain⟨p,e⟩:=F.un.slot b o q n c g;obtain⟨m,f⟩:=i b _ e (j b c _ e);exact⟨m,f⟩
 .obtain⟨h,e⟩:=F.un.there b o q g;by_cases c:b∈cs l
  .obtain⟨m,f⟩:=i b _ e (j b c _ e);exact⟨_,f⟩
  .exact⟨h,k b h (F.cov b h e c (.inl ⟨o,q⟩))⟩
end
section
variable{X:Cx}{U:Δ}{G:List wf}{H W:Hp}{s s':Shared}{a:Addr}{C:Value}{B:Heap}{d:Ξ}{h':Heap}
def Inv.flown(I:Inv X U G H s)(F:Fly X.prog X.w X.stack H s a C W s' B d)(k:∀b o,B.get? b=some o->h'.get? b=some o)(e:s'.heap.UpToSlots h'):Inv X U G W { s' with heap:=h' } :=
 I.call' (s':={ s' with heap:=h' }) (ch:=[]) F.os (F.un' k e) (F.hok' k) F.bare λ_ z=>nomatch z
def Inv.old(I:Inv X U G H s)(a:X.ex=[])(e:X.s₀.heap.get? b=some o):(∃u,s.heap.get? b=some u)/\b≠X.env.locals:=by
 obtain⟨u,q⟩:=I.base.there b o e (by rw[a];simp);exact⟨⟨u,q⟩,aQ (aR (aK e) I.ok.above)⟩
def Inv.nostk(I:Inv X U G H s)(c:b≠X.env.locals)(a:b∉X.fs):b∉cs X.stack:=λz=>by
 rcases YU.mp (I.stkSub b z)with e|e
 .exact c e
 .exact a e
def Inv.flyOut(I:Inv X U G H s)(h:X.ex=[])(F:Fly X.prog X.w X.stack H s a C W s' B d)(fl:xR B X.outer a C d .none h')(k:s'.heap.UpToSlots h') :
  Fly X.prog X.w X.outer X.H₀ X.s₀ a C W { s' with heap:=h' } B d:=by
 have J:=I.flown F fl.1 k;refine⟨J.os,J.bare,?_,by have:=J.base;rw[h]at this;exact this,J.hok,λb f=>?_,fl,λb o e f hc=>?_⟩
 .cases q:X.s₀.heap.get? a with
  |none=>rfl
  |some o =>
   obtain⟨⟨u,z⟩,_⟩:=I.old h q;rw[F.new]at z;cases z
 .obtain⟨_,o,l,_⟩:=I.ok.funs.mem f;exact J.base.free b o l (I.ok.frf b f) λz=>I.ok.exfs b z f
 .rcases hc with⟨u,q⟩|⟨u,q⟩
  .obtain⟨⟨v,z⟩,n⟩:=I.old h q;obtain⟨g,j⟩:=F.un.there b v z vy;have y:=F.cov b g j (I.nostk n f) (.inl ⟨v,z⟩);have i:=fl.1 b g y;rw[show({ s' with heap:=h' } : Shared).heap.get? b=h'.get? b from rfl,i]at e;cases e;exact y
  .obtain⟨g,j⟩:=(F.hok b u q).there;have y:=F.trk q j;have i:=fl.1 b g y;rw[show({ s' with heap:=h' } : Shared).heap.get? b=h'.get? b from rfl,i]at e;cases e;exact y
end
def el(P:Program)(w:World):e9:=λl H s E e b=>∃a C d W B,e=.ref a/\Fly P w l H s a C W b B d/\E C d W
def h7(X:Cx)(c:Value->Ξ->L2.St->Hp->Prop):Prop :=
 ∀U G H s a C W b B d,Inv X U G H s->Fly X.prog X.w X.stack H s a C W b B d->c C d G W->X.xe (.ref a) b
variable{E:XK}{J:Scope}{cd:Value}{outer:xC}{C:Addr}
def D1:h7 (FZ (el P w) P w K mg base N am J f cd A outer s H E) (λC d _ W=>E C d W):=by
 intro U G Y c a C W e B d I F q;show wpAny _ _ (leaving _ (.ref a)) _ _ _;refine aez (outer:=outer) I.ok.frames rfl F.fl λg fl b=>?_;exact⟨a,C,d,W,B,rfl,I.flyOut rfl F fl b,q⟩
def Fun.okX{k:Nat}(F:Fun K x am st f fd)(S:bL N ps (bH st))(b:∀vs H Q E,sp vs H Q E->vs.length=ps.length)
 (g:∀(a:Value)(A:Around)(outer:xC)(s:Shared)(H:Hp)(vs:Ζ)(Q:VK)(E:XK),dX k (A.deeper (envOfC am (bH st) s.zs f a))->sp vs H Q E ->
   ∃t,PSs (FZ (el P w) P w K mg base N am (bH st) f a A outer s H E) (fL st) t/\t { nx:=λ_ W=>Q .non W,rt:=Q } (L2.start N vs) H):fD P w K mg base (el P w) (k+1) f fd ps sp:=by
 obtain⟨oc,j,kV,m,i,n,a,l,eC,rfl,c,h⟩:=F.ex;exact D7 c h S b λA outer s H vs Q E d e=>g a A outer s H vs Q E d e
def l9(P:Program)(w:World)(K:Frag)(mg:Str->Ω)(base:Heap)(k:Nat)(x:Str)(ps:Φ)(sp:Sp):Prop :=
 ∃f fd,fD P w K mg base (el P w) k f fd ps sp/\Binds K fd ps []/\mg x=some (.ref f)/\keepIn K (.ref f)
def cD.okX{k:Nat}(h:cD K mg x st ps)
 (d:∀f fd,Fun K x x st f fd->fD P w K mg base (el P w) k f fd ps sp):l9 P w K mg base k x ps sp:=by
 obtain⟨f,fd,a,b,c⟩:=h;exact⟨f,fd,d f fd a,.all b,c,a.kp⟩
section
variable{X:Cx}{p O:Pos}{e:Expr}{Z:xw}{t:TA}{x:Str}{k:Nat}{ps:Φ}{sp:Sp}{Ex:Value->Ξ->L2.St->Hp->Prop}
def Su(sp:Sp)(Ex:Value->Ξ->L2.St->Hp->Prop)(t:TA):TE:=λG H Q=>t G H λvs Y=>sp vs Y Q λC d W=>Ex C d G W
def Wa(b:l9 X.prog X.w X.K X.mg X.base k x ps sp)(y:dX k X.A)(E:Gl X x)(v:h7 X Ex)(M:PA X (e::Z) t)(N:zz x:=by decide)
 (J:zw X e Z:=by rfl)(P:zb X O Z:=by rfl):PE X (.Call (.Name x p) (e::Z) [] O) (Su sp Ex t):=by
 obtain⟨f,fd,F,L,z,o⟩:=b;intro U s G H Q I h;refine wpAny_Call_Name_kw (sY I E z ?_ N);refine callWith_K (h₀:=X.base) I.ok.mod.kin o (ag (M O U s G H _ I h) λi j ⟨vs,Y,g,r,q⟩=>⟨g.kIn,?_⟩) J P;have D:i.length=ps.length:=by rw[<- r.length];exact F.len _ _ _ _ q
 have l:=L j i g.kIn (by simpa using D);simp only[append_nil]at l;refine wpAny_call (codeAny_mono (F.run X.A X.stack j Y ⟨i,[]⟩ i vs Q _ y g.env0 l r q) λr m c=>?_);cases r with
 |error e =>
  obtain⟨a,C,d,W,B,rfl,R,n⟩:=c;exact v U G Y j a C W m B d g R n
 |ok fl =>
  cases fl with
  |ret u=>exact g.after c
  |next=>exact False.elim c
  |brk=>exact False.elim c
  |cont=>exact False.elim c
end
abbrev fK:Θ:=[.type "ValueError",.type "Exception",.type "BaseException",.type "object"]
def n5(K:Frag)(C:Addr):Prop:=excIn K C fK "ValueError.__new__"=true
def _f(X:K.In h)(q:n5 K C):∃j N o m s E k sub t b r i g f e d v,h.get? C=some (excClassObj o m C N s j E k sub t b r i g f e d "ValueError.__new__") /\
  h.Ns N v/\v "__init__"=none/\OwnTail h fK j:=by
 unfold n5 excIn at q;split at q
 .rename_i r cd u D
  split at q
  .rename_i G j i g f e n d y x
   simp only[JS,beq_iff_eq,Bool.not_eq_true']at q;obtain⟨⟨⟨⟨⟨rfl,rfl⟩,w⟩,B⟩,a⟩,c⟩:=q;obtain⟨o,s,A,z,m,hd,k,sub,t,b,F⟩:=cd;dsimp only at y w a c;subst y w;have p:u = #[i,g,f,e,some (.builtin "ValueError.__new__"),d]:=by
    obtain⟨l⟩:=u;simp only at x;rw[x]
   subst p;exact⟨j,z,o,m,s,hd,k,sub,t,b,r,i,g,f,e,d,_,X _ _ D,.of_isNs (isNs_of_in X a),PySem.W.nsMap_none_of_in X a c,PySem.W.tail_of_in X B⟩
  .cases q
 .cases q
abbrev Cx.tryc(X:Cx)(pn:Δ)(E:Ε):Cx:={ X with pn:=pn,xe:=E }
abbrev Cx.marked(X:Cx)(a:Addr)(E:Ε):Cx:={ X with A:=X.A.mark (some (.ref a)),calm:=false,xe:=E }
variable{E:Ε}{pn U eB:Δ}{G:L2.St}{i t:Nat}{n Dn:Str}{M:Model}{d:Drawn}{g:wn}{os:OsState}{D:Addr}{o1 np:Pos}{bS h9:xA}{b₀:Stmt}{tb:(Value->Ξ->L2.St->Hp->Prop)->TS}{th:TS}
def Cx.Ok.tryc(a:X.Ok):(X.tryc pn E).Ok:=⟨a.mod,a.kind,a.glob,a.blt,a.above,a.inj,a.has,a.cab,a.hd,a.frames,a.stk,a.exf,a.bs,a.bsz,a.noex,a.exfs,a.funs,a.frf⟩
def Cx.Ok.untry(a:(X.tryc pn E).Ok):X.Ok:=⟨a.mod,a.kind,a.glob,a.blt,a.above,a.inj,a.has,a.cab,a.hd,a.frames,a.stk,a.exf,a.bs,a.bsz,a.noex,a.exfs,a.funs,a.frf⟩
def Inv.tryc(I:Inv X U G H s):Inv (X.tryc (X.pn++U) E) [] G H s:=⟨I.ok.tryc,I.os,I.bare,I.base,I.loc,I.cell,I.free,I.freeC,λp a=>I.pin p (by simpa using a),I.hok,I.len⟩
def Inv.untry(I:Inv (X.tryc (X.pn++U) E) eB G H s):Inv X U G H s:=⟨I.ok.untry,I.os,I.bare,I.base,I.loc,I.cell,I.free,I.freeC,λp a=>I.pin p (UR _ a),I.hok,I.len⟩
def Cx.Ok.marked(b:X.Ok):(X.marked a E).Ok:=⟨b.mod,b.kind,b.glob,b.blt,b.above,b.inj,b.has,b.cab,λz=>(nomatch z),b.frames,b.stk,b.exf,b.bs,b.bsz,b.noex,b.exfs,b.funs,b.frf⟩
def Inv.marked(I:Inv X U G H s):Inv (X.marked a E) U G H s:=⟨I.ok.marked,I.os,I.bare,I.base,I.loc,I.cell,I.free,I.freeC,I.pin,I.hok,I.len⟩
def Inv.unmarked(ok:X.Ok)(I:Inv (X.marked a E) U G H s):Inv X U G H s:=⟨ok,I.os,I.bare,I.base,I.loc,I.cell,I.free,I.freeC,I.pin,I.hok,I.len⟩
def Inv.track{o:HO}(d:Inv X U G H s)(k:H a=none)(l:X.s₀.heap.get? a=none)(r:a≠X.env.locals)(t:∀x c,X.env.cells.lookup x=some c->c≠a)(j:∀p∈X.pn++U,p.1≠a)
 (ok:fG X.prog X.w (upd H a o) s.heap a o):Inv X U G (upd H a o) s:=by
 have f:∀b u,H b=some u->b≠a:=λb u e=>lQ e k;have h:∀b u,X.s₀.heap.get? b=some u->b≠a:=λb u e z=>by rw[z,l]at e;cases e
 refine⟨d.ok,d.os,d.bare,⟨d.base.keep,d.base.slot,λb g e n i=>by rw[bY (h b g e)];exact d.base.free b g e n i,d.base.there,λb I e=>?_,λb g u e=>?_,λb ps e=>?_⟩,d.loc,d.cell,by rw[bY r.symm];exact d.free,λx c e=>by rw[bY (t x c e)];exact d.freeC x c e,λp q=>?_,λb u e=>?_,d.len⟩
 .have z:=d.base.tups b I e;rw[bY (f b _ z)];exact z
 .have z:=d.base.frzs b g u e;rw[bY (f b _ z)];exact z
 .obtain⟨m,z⟩:=d.base.tbls b ps e;exact⟨m,by rw[bY (f b _ z)];exact z⟩
 .obtain⟨A,y,v⟩:=d.pin p q;exact⟨A,by rw[bY (j p q)];exact y,v⟩
 .by_cases z:b=a
  .subst z;rw[cj]at e;cases e;exact ok
  .rw[bY z]at e;exact(d.hok b u e).stay (λ_ _ _ q=>q) (λc q=>by rwa[bY (f c _ q)]) λc I q=>by rwa[bY (f c _ q)]
def Inv.unname(I:Inv X U G H s)(hN:X.N.Nodup)(D:X.N[i]?=some n)(hk:X.env.scope.names.lookup n=some .local)
 (h:∀B,Inv X U (G.set i none) H B->Q () B):wpAny M A (do bindName X.env n .none;unbindBehindTheSuite X.env n O) Q E s:=by
 obtain⟨m,Y,Z⟩:=id I.loc;have gz:(X.env.scope.kind == .class || (X.env.scope.kind == .module&&X.env.locals != X.env.globals))=false:=by rw[I.ok.kind];rfl
 have cne:=I.cne;have V:i<G.length:=by rw[I.len];exact(ao.mp D).1
 refine wpAny_nameGoes_keeps hk Y gz λh' v P a=>?_;have hok:HOk X.prog X.w H h':=λb R e=>(I.hok b R e).stay (λc x hc q=>(a.2 c (by
  rintro rfl;rcases hc with rfl|hc
  .rw[I.free]at e;cases e
  .rw[I.free]at hc;cases hc)).trans q) (λ_ q=>q) λ_ _ q=>q
 refine h _ ⟨I.ok,I.os,I.bare,⟨λb o e g u l=>?_,λb o e g u l=>?_,I.base.free,λb o e l=>?_,I.base.tups,I.base.frzs,I.base.tbls⟩,⟨_,P,λj y F f r e3=>?_⟩,λy c e=>?_,I.free,I.freeC,λp W=>?_,hok,by simpa using I.len⟩
 .exact(a.2 b (aQ (aR (aK e) I.ok.above))).trans (I.base.keep b o e g u l)
 .obtain⟨K,f⟩:=I.base.slot b o e g u l;exact⟨K,(a.2 b (aQ (aR (aK e) I.ok.above))).trans f⟩
 .obtain⟨S,f⟩:=I.base.there b o e l;exact⟨S,(a.2 b (aQ (aR (aK e) I.ok.above))).trans f⟩
 .by_cases t:j=i
  .subst t;rw[UY V]at r;cases r
  .rw[VS (Ne.symm t)]at r;obtain⟨J,L,q⟩:=Z j y F f r e3;refine⟨J,L,?_⟩;rcases q with⟨k,e⟩|⟨k,c,e,z⟩
   .refine .inl ⟨k,?_⟩;have:y≠n:=λe=>t (Lj hN f (e ▸ D));simp[this,e]
   .exact .inr ⟨k,c,e,z.sameBut a (cne y c e)⟩
 .obtain⟨x,z⟩:=I.cell y c e;exact⟨x,z.sameBut a (cne y c e)⟩
 .obtain⟨e,g,C,T,d⟩:=I.pin p W;exact⟨(a.2 p.1 C).trans e,g,C,T,d⟩
def XO(a C:Addr)(d:Ξ):HO:=.ext λh=>∃o,h.get? a=some o/\o.cls=.ref C/\o.dict=d/\∃vs,o.data=.fields vs
def V1{Q:Bool->Shared->Prop}{b:Bool}(X:K.In h)
 (e:mroIn K D (.type "BaseException")=some true)(l:typeIn K (.ref D)=some (.type "type"))(u:h.get? a=some oe)(hc:oe.cls=.ref C)(j:mroIn K C (.ref D)=some b)
 (f:Q b ⟨h,g,d,t,os⟩):wpAny M A (excMatches (.ref a) (.ref D)) Q E ⟨h,g,d,t,os⟩:=by
 have r:PySem.W.Looks M h (isInstance (.ref D) (.type "tuple")) false:=(PySem.W.looks_typeIn X l).andThen (PySem.W.Looks.of_pure tc_notTuple);have p:PySem.W.Looks M h (isType (.ref D)) true:=by
  obtain⟨v,c,_⟩:=Option.bind_eq_some_iff.mp e;unfold clsIn at c;split at c
  .rename_i G F w B s
   intro z x y i k q;unfold isType loadHead;exact ZU (wpAny_loadPart (k _ _ (X _ _ s)) (ZT q))
  .cases c
 have o:PySem.W.Looks M h (isSubtype (.ref D) (.type "BaseException")) true:=looks_mroIn X e;have n:PySem.W.Looks M h (isSubtype (.ref C) (.ref D)) b:=looks_mroIn X j;have m:PySem.W.Looks M h (typeOf (.ref a)) (.ref C):=by
  intro z x y i k q;rw[<- hc]at q;unfold typeOf;exact ZU (wpAny_loadPart (k _ _ u) (ZT q))
 unfold excMatches;refine ZU (r.at ?_);simp only[XW,if_false];refine ZU (ZT ?_);simp only[List.forIn_cons,List.forIn_nil];unfold isExcClass;refine ZU (ZU (ZU (ZU (p.at ?_))));simp only[if_true];refine o.at ?_;simp only[Bool.not_true,XW,if_false];refine ZT (ZT (ZU (m.at ?_)));refine ZU (ZU (ZU (n.at ?_)));cases b with
 |true =>
  simp only[if_true];exact ZT (ZT (ZT f))
 |false =>
  simp only[XW,if_false];exact ZT (ZT (ZT f))
def Ends.unset(R:Ends)(i:Nat):Ends:={ nx:=λG H=>R.nx (G.set i none) H,rt:=R.rt,bk:=λG H=>R.bk (G.set i none) H,ct:=λG H=>R.ct (G.set i none) H }
def PV(K:Frag)(D:Addr)(i:Nat)(tb:(Value->Ξ->L2.St->Hp->Prop)->TS)(th:TS):TS:=λR G H =>
 ∃c:Value->Ξ->L2.St->Hp->Prop,tb c R G H/\∀e d b W,c e d b W->∃C,e=.ref C/\mroIn K C (.ref D)=some true /\
  ∀a,W a=none->th (R.unset i) (b.set i (some (.ref a))) (upd W a (XO a C d))
def acu(hN:X.N.Nodup)(hi:X.N[i]?=some n)(io:X.env.scope.names.lookup n=some .local)(hgD:Gl X Dn)(hmD:X.mg Dn=some (.ref D))(qD:mroIn X.K D (.type "BaseException")=some true)
 (nh:typeIn X.K (.ref D)=some (.type "type"))(bu:X.stack=X.env::X.outer)(eP:X.env.frame=some X.env.locals)(hex:X.ex=[])
 (hb:∀pn' E' Ex,h7 (X.tryc pn' E') Ex->PSs (X.tryc pn' E') bS (tb Ex))(hh:∀a E',PSs (X.marked a E') (b₀::h9) th)(bE:zz Dn:=by decide) :
  PS X (.Try bS [.ExceptHandler (some (.Name Dn np)) (some n) (b₀::h9) o1] [] [] O) (PV X.K D i tb th):=by
 intro U s G H R I h;obtain⟨Ex,h1,h2⟩:=h;refine wpAny_Try_except ?_;have jI:∀{b:Cx}{pn:Δ}{f:Flow}{A:Shared},(∀{g:L2.St}{W:Hp},Inv b pn g W A->Inv X U g W A)->SP b pn R f A->SP X U R f A:=λ{b pn f A}k q=>by
  cases f with
  |next=>obtain⟨g,W,J,z⟩:=q;exact⟨g,W,k J,z⟩
  |brk=>obtain⟨g,W,J,z⟩:=q;exact⟨g,W,k J,z⟩
  |cont=>obtain⟨g,W,J,z⟩:=q;exact⟨g,W,k J,z⟩
  |ret u=>obtain⟨v,g,W,J,z⟩:=q;exact⟨v,g,W,k J,z⟩
 refine wpAny_mono (hb (X.pn++U) _ Ex ?_ [] s G H R I.tryc h1) (λf s1 q=>?_) λ_ _ z=>z
 rotate_left
 .have q':=jI (λJ=>J.untry) q;cases f with
  |next=>exact wpAny_execs_nil q'
  |brk=>exact q'
  |cont=>exact q'
  |ret u=>exact q'
 intro eB l Y s1 a C' W A B d J F ex;have J0:Inv X U l Y s1:=J.untry;obtain⟨C,rfl,qS,k⟩:=h2 C' d l W ex;have P:Fly X.prog X.w X.stack Y s1 a (.ref C) W A B d:=F;have fl0:xR B (X.env::X.outer) a (.ref C) d .none A.heap:=by rw[<- bu];exact P.fl
 show wpAny _ _ (noteFrame (.ref a) X.env) _ _ _;refine PB (outer:=X.outer) (L:=X.env.locals) (I.ok.frames.trans (by rw[bu])) eP fl0 λh₄ ja t=>?_;refine lh ja λh₅ rV r=>?_;have J5:Inv X U l W { A with heap:=h₅ }:=J0.flown P rV.1 (t.trans r);obtain⟨oe,vs,he,gz,_,hd⟩:=rV.first;refine wpAny_handleBy_cons (codeAny_handlers_test ?_) (by intro q;cases q);refine sY (X:=X.marked a (λ_ _=>False)) J5.marked hgD hmD ?_ bE;refine V1 (K:=X.K) J5.kIn qD nh he gz qS ?_;show codeAny _ _ _ _ _;refine codeAny_handlers_suite_as ?_;refine lh rV λj E Q=>?_;have J6:Inv X U l W { A with heap:=j }:=J0.flown P E.1 ((t.trans r).trans Q);obtain⟨oe6,vs6,mP,lP,hda,qk⟩:=E.first;have na:W a=none:=by
  cases q:W a with
  |none=>rfl
  |some u =>
   obtain⟨o',T⟩:=(P.hok a u q).there;have y:=P.trk q T;rw[P.fl.2.1]at y;cases y
 have ns:X.s₀.heap.get? a=none:=by
  cases q:X.s₀.heap.get? a with
  |none=>rfl
  |some o =>
   obtain⟨⟨u,z⟩,_⟩:=J0.old hex q;rw[P.new]at z;cases z
 have nL:a≠X.env.locals:=λz=>by
  obtain⟨m,⟨o,Z,ep,e,dd,_⟩,_⟩:=J6.loc;rw[<- z]at e;have T:j.get? a=some o:=e;rw[mP]at T;cases T;rw[qk]at dd;cases dd
 have nC:∀x c,X.env.cells.lookup x=some c->c≠a:=λx c e z=>by
  obtain⟨v,o,T,dd⟩:=J6.cell x c e;rw[z]at T;have e2:j.get? a=some o:=T;rw[mP]at e2;cases e2;rw[qk]at dd;cases dd
 have nP:∀p∈X.pn++U,p.1≠a:=λp hp z=>by
  have:=(J0.pin p hp).1;rw[z,P.new]at this;cases this
 have okx:fG X.prog X.w (upd W a (XO a C d)) j a (XO a C d):=⟨⟨oe6,mP,lP,hda,vs6,qk⟩,⟨oe6,mP⟩,λg1 g2 ⟨o,e1,e2⟩ kk=>⟨o,kk o e1,e2⟩⟩;have J7:Inv X U l (upd W a (XO a C d)) { A with heap:=j }:=J6.track na ns nL nC nP okx;refine u9 (X:=X.marked a (λ_ _=>False)) J7.marked hN hi (.inl io) (v:=.ref a) rfl (λs8 J8=>?_) (.inr io);have J8':Inv X U (l.set i (some (.ref a))) (upd W a (XO a C d)) s8:=J8.unmarked I.ok;refine wpAny_mono (hh a _ U s8 _ _ _ J8'.marked (k a na)) (λf s9 q=>?_) λ_ _ z=>z;cases f with
 |next =>
  obtain⟨g,H2,V,z⟩:=q;exact(V.unmarked I.ok).unname hN hi io λj2 S=>⟨_,_,S,z⟩
 |brk =>
  obtain⟨g,H2,V,z⟩:=q;exact(V.unmarked I.ok).unname hN hi io λj2 S=>⟨_,_,S,z⟩
 |cont =>
  obtain⟨g,H2,V,z⟩:=q;exact(V.unmarked I.ok).unname hN hi io λj2 S=>⟨_,_,S,z⟩
 |ret u =>
  obtain⟨v,g,H2,V,rv,z⟩:=q;exact(V.unmarked I.ok).unname hN hi io λj2 S=>⟨v,_,_,S,rv,z⟩
structure ih(K:Frag)(C:Addr):Prop where
 ga:findIn K (.ref C) "__getattribute__"=some (some (.builtin "BaseException.__getattribute__"))
 gn:findIn K (.ref C) "__getattr__"=some none
 cl:findIn K (.ref C) "__class__"=some (some (.builtin "object.__class__"))
 mo:mroIn K C (.type "object")=some true
 mb:mroIn K C (.type "BaseException")=some true
def DG(b:h.get? a=some o)(c:o.cls=.ref C):PySem.W.Looks M h (typeOf (.ref a)) (.ref C):=by
 intro g e f d k q;rw[<- c]at q;unfold typeOf;exact ZU (wpAny_loadPart (k _ _ b) (ZT q))
def Rb{b:Value}(X:K.In h)(T:ih K C)(c:h.get? a=some o)(e:o.cls=.ref C)(i:Q () ⟨h,g,d,t,os⟩) :
  wpAny M A (checkBuiltinCall "BaseException.__getattribute__" ⟨[.ref a,b],[]⟩) Q E ⟨h,g,d,t,os⟩:=by
 have j:builtinKind "BaseException.__getattribute__"=some .slot:=by decide +kernel
 have f:splitId "BaseException.__getattribute__"=some ("BaseException","__getattribute__"):=by decide +kernel
 have l:=F.args_bexc_ga (.ref a) b;have LT:=DG (M:=M) c e;have k:=looks_mroIn (M:=M) X T.mb;simp only[checkBuiltinCall,j,f];refine ZU ?_;unfold isInstance
 repeat (first|with_reducible refine LT.at ?_|with_reducible refine k.at ?_|(with_reducible refine wpAny_loadPart_at c ?_;rw[e])|wp_step)
 exact i
noncomputable def vA(a:xB):wv->xB->xB
 |[],b=>b
 |(n,k)::r,b=>vA a r (if k == .free then(n,(a.lookup n).getD 0)::b else b)
def XQ{env:Env}(h:∀y∈J.names,y.2=.free->∃c,env.cells.lookup y.1=some c):closureFor J env=pure (vA env.cells J.names []):=by
 unfold closureFor;have o:∀(l:wv)(b:xB),(∀y∈l,y.2=.free->∃c,env.cells.lookup y.1=some c) ->
   (forIn l b (λ(x:Str×NameKind)(r:xB)=>if(x.2==NameKind.free)=true then(do let a <- cellOf env x.1;pure (ForInStep.yield ((x.1,a)::r)))else pure (ForInStep.yield r)):Sem (xB))=pure (vA env.cells l b):=by
  intro l
  induction l with
  |nil=>intro b _;rfl
  |cons y r g =>
   intro b f;obtain⟨n,k⟩:=y;rw[List.forIn_cons];by_cases i:k=.free
   .subst i;obtain⟨c,j⟩:=f (n,.free) aO rfl;have p:cellOf env n=pure c:=by unfold cellOf;rw[show env.cells.lookup n=some c from j]
    simp only[beq_self_eq_true,if_true,p,pure_bind];rw[g _ λz d=>f z (aJ _ d)];show pure _=pure (vA env.cells r (if(NameKind.free==NameKind.free)=true then(n,(env.cells.lookup n).getD 0)::b else b));rw[show env.cells.lookup n=some c from j]
    rfl
   .have m:(k==NameKind.free)=false:=by simpa using i
    simp only[m,XW,if_false,pure_bind];rw[g _ λz d=>f z (aJ _ d)];show pure _=pure (vA env.cells r (if(k==NameKind.free)=true then(n,(env.cells.lookup n).getD 0)::b else b));rw[m]
    rfl
 have e:=o J.names [] h;show(forIn J.names [] (λ(x:Str×NameKind)(r:xB)=>if(x.2==NameKind.free)=true then(do let a <- cellOf env x.1;pure (ForInStep.yield ((x.1,a)::r)))else pure (ForInStep.yield r)):Sem (xB)) >>= (λq=>pure q)=_;rw[e]
 rfl
theorem VF{a:xB} : ∀{b:wv}{d:xB}{x:Str}{c:Addr},(∀y∈b,y.2=.free->∃c,a.lookup y.1=some c)->(x,c)∈vA a b d->(x,c)∈d\/a.lookup x=some c
 |[],_,_,_,_,h=>.inl h
 |(n,k)::r,d,x,c,g,h=>by
  unfold vA at h;rcases VF (λy i=>g y (aJ _ i)) h with z|z
  .by_cases f:k=.free
   .subst f;simp only[beq_self_eq_true,if_true]at z;rcases YU.mp z with e|e
    .obtain⟨m,l⟩:=g (n,.free) aO rfl;cases e;rw[show a.lookup n=some m from l];exact .inr rfl
    .exact .inl e
   .have j:(k==NameKind.free)=false:=by simpa using f
    simp only[j,XW,if_false]at z;exact .inl z
  .exact .inr z
theorem Vv{cells:xB} : ∀{a:wv}{acc:xB}{x:Str},((x,NameKind.free)∈a\/∃c,(x,c)∈acc)->∃c,(x,c)∈vA cells a acc
 |[],_,_,h=>by
  rcases h with h|h
  .cases h
  .exact h
 |(n,k)::r,acc,x,h=>by
  unfold vA;refine Vv ?_;rcases h with h|⟨c,h⟩
  .rcases YU.mp h with e|e
   .cases e;exact .inr ⟨_,by simp only[beq_self_eq_true,if_true];exact aO⟩
   .exact .inl e
  .refine .inr ⟨c,?_⟩;split
   .exact aJ _ h
   .exact h
theorem rO{a:Type}{x:Str}{c:a} : ∀{l:List (Str×a)},(x,c)∈l->∃f,l.lookup x=some f
 |(y,d)::r,h=>by
  rw[lookup_cons];cases b:x==y with
  |true=>exact⟨d,rfl⟩
  |false =>
   rcases YU.mp h with e|e
   .cases e;simp at b
   .exact rO e
def Cx.comp(X:Cx)(a:Φ)(J:Scope)(x:Str)(C:Addr)(s₀:Shared)(H₀:Hp)(ex:Ψ)(pn:Δ):Cx :=
 { X with env:=compEnvC J (vA X.env.cells J.names []) C X.env,N:=x::a,s₀:=s₀,H₀:=H₀,outer:=X.stack,ex:=ex,fn:=λ_=>false,pn:=pn,xe:=λ_ _=>False }
def Inv.nostk'(I:Inv X U G H s)(c:b≠X.env.locals)(a:b∉X.fs):b∉cs X.stack:=λz=>by
 rcases YU.mp (I.stkSub b z)with e|e
 .exact c e
 .exact a e
theorem Ef{env:Env} : ∀{a:wv}{y:Str},(a.map λ(n,k)=>if(k==NameKind.free&&env.scope.kind == .function&&env.kindOf n==some .cell)then(n,NameKind.cell)else(n,k)).lookup y=some .cell \/
  (a.map λ(n,k)=>if(k==NameKind.free&&env.scope.kind == .function&&env.kindOf n==some .cell)then(n,NameKind.cell)else(n,k)).lookup y=some .free->(∀z∈a,z.2≠.cell)->(y,NameKind.free)∈a
 |[],y,h,_=>by rcases h with h|h<;>cases h
 |(n,k)::r,y,h,hc=>by
  have e:=@Ef env r y;simp only[map_cons]at h;by_cases b:(k==NameKind.free&&env.scope.kind == .function&&env.kindOf n==some .cell)
  .rw[ZY b]at h;simp only[lookup_cons]at h;cases c:y==n with
   |true =>
    have f:k=.free:=by
     simp only[JS,beq_iff_eq]at b;exact b.1.1
    have:y=n:=by simpa using c
    subst this f;exact aO
   |false =>
    rw[c]at h;exact aJ _ (e h λz d=>hc z (aJ _ d))
  .rw[ZZ b]at h;simp only[lookup_cons]at h;cases c:y==n with
   |true =>
    rw[c]at h;have:y=n:=by simpa using c
    subst this;rcases h with h|h
    .exact absurd (Option.some.inj h) (hc (y,k) aO)
    .have:k=.free:=Option.some.inj h;subst this;exact aO
   |false =>
    rw[c]at h;exact aJ _ (e h λz d=>hc z (aJ _ d))
noncomputable def ee:Ζ->Ζ->Bool
 |[],[]=>true
 |x::I,y::a=>J9 x y&&ee I a
 |_,_=>false
noncomputable def eqH(H:Hp)(x y:V):wr :=
 match x,y with
 |.ref a,.ref b=>match H a,H b with
  |some (.tup I),some (.tup c)=>if I.all Pu&&c.all Pu then some (ee I c)else none
  |some (.lst I),some (.lst c)=>if I.all Pu&&c.all Pu then some (ee I c)else none
  |some (.lst _),some (.tup _)=>some false
  |some (.tup _),some (.lst _)=>some false
  |_,_=>none
 |.ref a,y=>if Pu y then(match H a with
  |some (.tup _)=>some false
  |some (.lst _)=>some false
  |_=>none)else none
 |x,.ref b=>if Pu x then(match H b with
  |some (.tup _)=>some false
  |some (.lst _)=>some false
  |_=>none)else none
 |x,y=>if jR x y then some (decide (x=y))else none
def Inv.tupIs(b:Inv X U G H s)(h:H a=some (.tup I)):∃c,zK I c/\IsTup s.heap a c.toArray/\s.heap.IsTuple a c.toArray:=by
 obtain⟨c,e,d,_⟩:=b.tuple (SqT.of h);exact⟨c,e,d,d⟩
def Inv.lstIs(b:Inv X U G H s)(h:H a=some (.lst I)):∃c,zK I c/\s.heap.IsList a c.toArray:=by
 obtain⟨c,d,e,_⟩:=b.list (SqL.of h);exact⟨c,d,e.isList⟩
open PySem.SeqAt in
section
variable{X:Cx}
structure l8(X:Cx)(st:Stmt)(t:TS):Prop where
 out:PS X st t
structure kN(X:Cx)(b:xA)(t:TS):Prop where
 out:PSs X b t
def abk{rest:xA}{t u:TS}(b:l8 X st t)(a:kN X rest u):kN X (st::rest) (jP t u):=⟨pA b.out a.out⟩
end
def Fun.okB{k:Nat}(F:Fun K x am st f fd)(S:bL N ps (bH st))(b:∀vs H Q E,sp vs H Q E->vs.length=ps.length)
 (h:∀(a:Value)(A:Around)(outer:xC)(s:Shared)(H:Hp)(vs:Ζ)(Q:VK)(E:XK),dX k (A.deeper (envOfC am (bH st) s.zs f a))->sp vs H Q E ->
   ∃t,kN (FZ bb P w K mg base N am (bH st) f a A outer s H E).nox (fL st) t/\t { nx:=λ_ W=>Q .non W,rt:=Q } (L2.start N vs) H):fD P w K mg base bb (k+1) f fd ps sp :=
 F.ok S b λa A outer s H vs Q E c g=>let⟨t,e,d⟩:=h a A outer s H vs Q E c g;⟨t,e.out,d⟩
mutual
inductive Shows(H:Hp):V->PyData->Prop
 |non:Shows H .non .none
 |bl (b:Bool):Shows H (.bl b) (.bool b)
 |int (i:Int):Shows H (.int i) (.int i)
 |str (x:Str):Shows H (.str x) (.str x)
 |lst {a:Addr}{I:Ζ}{ds:xI} : H a=some (.lst I)->fP H I ds->Shows H (.ref a) (.list ds)
 |tup {a:Addr}{I:Ζ}{ds:xI} : H a=some (.tup I)->fP H I ds->Shows H (.ref a) (.tuple ds)
inductive fP(H:Hp):Ζ->xI->Prop
 |nil:fP H [] []
 |cons {x:V}{I:Ζ}{d:PyData}{ds:xI} : Shows H x d->fP H I ds->fP H (x::I) (d::ds)
end
mutual
theorem Shows.same{H W:Hp}(S:zT H W):∀{x:V}{d:PyData},Shows H x d->Shows W x d
 |_,_,.non=>.non
 |_,_,.bl b=>.bl b
 |_,_,.int i=>.int i
 |_,_,.str x=>.str x
 |_,_,.lst e h=>.lst (S _ _ e) (fP.same S h)
 |_,_,.tup e h=>.tup (S _ _ e) (fP.same S h)
theorem fP.same{H W:Hp}(S:zT H W):∀{I:Ζ}{a:xI},fP H I a->fP W I a
 |_,_,.nil=>.nil
 |_,_,.cons h t=>.cons (Shows.same S h) (fP.same S t)
end
theorem fP.ints(H:Hp):∀a:xi,fP H (a.map V.int) (a.map PyData.int)
 |[]=>.nil
 |n::a=>.cons (.int n) (fP.ints H a)
mutual
theorem Inv.reads(I:Inv X U G H s):∀{x:V}{d:PyData}{v:Value},Shows H x d->zP x v->∃g,Reads s.heap v d g
 |_,_,_,.non,r=>by cases r;exact⟨_,.none⟩
 |_,_,_,.bl b,r=>by cases r;exact⟨_,.bool b⟩
 |_,_,_,.int i,r=>by obtain⟨t,rfl⟩:=r;exact⟨_,.int i t⟩
 |_,_,_,.str x,r=>by obtain⟨t,rfl⟩:=r;exact⟨_,.str x t⟩
 |_,_,_,.lst e h,r=>by
  cases r;obtain⟨c,a,⟨o,f,hc,n,hd⟩⟩:=I.lstIs e;obtain⟨g,q⟩:=Inv.readsAll I h a;exact⟨_,.list f hc hd q⟩
 |_,_,_,.tup e h,r=>by
  cases r;obtain⟨c,a,_,⟨o,f,hc,n,hd⟩⟩:=I.tupIs e;obtain⟨g,q⟩:=Inv.readsAll I h a;exact⟨_,.tuple f hc hd q⟩
theorem Inv.readsAll(c:Inv X U G H s):∀{I:Ζ}{d:xI}{vs:Θ},fP H I d->zK I vs->∃i,ReadsAll s.heap vs d i
 |_,_,_,.nil,r=>by cases r;exact⟨_,.nil⟩
 |_,_,_,.cons h t,r=>by
  cases r with
  |cons f e =>
   obtain⟨a,g⟩:=Inv.reads c h f;obtain⟨b,q2⟩:=Inv.readsAll c t e;exact⟨_,.cons g q2⟩
end
def Lv(a:Bool):R2:=λx y H Q=>∃d e,Shows H x d/\Shows H y e/\SeqAt.shaped d/\SeqAt.shaped e/\Q (.bl (if a then !PyData.eqv d e else PyData.eqv d e)) H
def Rl(j:X.A.units+64<cLine):OpR X (compareOp .NotEq) (Lv true):=by
 intro U s G H x y v u Q I f c h;obtain⟨d,e,hd,k,b,a,q⟩:=h;obtain⟨m,i⟩:=I.reads hd f;obtain⟨l,g⟩:=I.reads k c;exact SeqAt.compareNe_shaped i g b a j ⟨.bl _,H,I,rfl,q⟩
def Pi:Ζ->Hp->VK->Prop:=λI H Q=>∃(l:Addr)(a:xi),I=[.ref l]/\H l=some (.lst (a.map V.int))/\Q (.int a.sum) H
def ab1(hc:X.calm):jE X (.builtin "sum") Pi:=by
 intro U s G H I m Q a r h;obtain⟨l,i,rfl,j,q⟩:=h;obtain⟨u,rfl,g⟩:=r.one;cases g;obtain⟨b,f,p⟩:=a.lstIs j;have d:=intsAre_of f;obtain⟨I,e⟩:=d.allInts.items;have c:=d.numsOf;rw[show b=b.toArray.toList from rfl,e,nums_intItems]at c;rw[e]at p;refine sum_intListG (a.ok.hd hc) p λt n o k=>⟨.int i.sum,H,a.kept k,?_,q⟩;rw[preSum_eq,QP vy,c];exact⟨_,rfl⟩
def tM(t:TE):TE:=λG H Q=>∃R:VK,t G H R/\∀x W,R x W->Q x W
def p4(t:TA):TA:=λG H Q=>∃R:Ζ->Hp->Prop,t G H R/\∀x W,R x W->Q x W
def PE.mono{a:Expr}{t:TE}(h:PE X a t):PE X a (tM t):=λU s G H Q I ⟨R,d,c⟩ =>
 ag (h U s G H R I d) λv f b=>by obtain⟨x,W,e,r,q⟩:=b;exact⟨x,W,e,r,c x W q⟩
variable{t:TA}{ah af:Pos}{tg l be iter:Expr}{tl te:TE}{v:V}{tc:TT}{wi:TI}{ext:Addr->xB}{fn:Str->Bool}{aI:xw}{gt:TG}
def PA.mono(h:PA X Z t):PA X Z (p4 t):=λO U s G H Q I ⟨R,c,b⟩ =>
 ag (h O U s G H R I c) λv e a=>by obtain⟨x,W,d,r,q⟩:=a;exact⟨x,W,d,r,b x W q⟩
def PE.imp{a:Expr}{t b:TE}(h:PE X a t)(i:∀G H Q,b G H Q->t G H Q):PE X a b:=λU s G H Q I q=>h U s G H Q I (i G H Q q)
def LV(c:TE)(t:TA):TE:=λG H Q=>c G H λx Y=>∃l I,x=.ref l/\Y l=some (.lst I)/\t G Y λvs b=>∃y a,vs=[y]/\b l=some (.lst a)/\a.length<sizeLine/\Q .non (upd b l (.lst (a++[y])))
abbrev zg(X:Cx)(a:Pos)(e:Expr):Prop:=((backTo a (starEach [e] X.env)).all (λx=>!x.1)&&(backToKw a (keywordEach [] X.env)).all (λx=>x.1.isSome)&&decide ([e].length+([] : wP).length+(if([] : wP).isEmpty then 0 else 1)<30))=true
def Xv{o:Expr}{a:TE}(j:PE X o a)(p:PA X [e] t)(n:attributeBase o "append" X.env (eval o X.env)=eval o X.env:=by rfl)
 (m:zg X af e:=by rfl)
 (k:zC ah af:=by rfl)(g:zw X e []:=by rfl)(i:zb X af []:=by rfl) :
  PE X (.Call (.Attribute o "append" ah) [e] [] af) (LV a t):=by
 refine(om PySem.F.plainAttrs_list PySem.F.slot_list_append PySem.F.type_list_append P0 j.mono p.mono n m k g i).imp λG H Q h=>?_;refine⟨_,h,?_⟩;rintro x Y ⟨l,I,rfl,f,r⟩;refine⟨.inl ⟨rfl,_,SqL.of f⟩,_,r,?_⟩;rintro vs s ⟨y,b,rfl,d,c,q⟩;exact⟨l,b,y,rfl,rfl,d,c,q⟩
def PX:Ζ->Hp->VK->Prop:=λI H Q=>∃p a,I=[.ref p]/\H p=some (.lst a)/\∀l,H l=none->Q (.ref l) (upd H l (.lst a))
def Lh:jE X (.type "list") PX:=Rh.imp λI H Q e=>by obtain⟨p,d,a,b,c⟩:=e;exact⟨p,d,a,.inl (.of b),c⟩
mutual
theorem YG:∀a:xi,PyData.canLayAll0 (a.map PyData.int)
 |[]=>rfl
 |n::a=>by
  rw[map_cons];unfold PyData.canLayAll0;rw[YG a];rfl
end
def frD(f:Β):PyData:=.tuple [.int f.1,.int f.2]
inductive FL(H:Hp):Ζ->Γ->Prop
 |nil:FL H [] []
 |cons {p:Addr}{f:Β}{I:Ζ}{fs:Γ} : H p=some (.tup [.int f.1,.int f.2])->FL H I fs->FL H (.ref p::I) (f::fs)
def mj(x:Str):It:=⟨λi _=>i<x.cps.size,λi H v W=>W=H/\∃c,x.cps[i]?=some c/\v=.str ⟨#[c]⟩,λi _=>i=x.cps.size⟩
def W7(a:Addr)(x:Str)(t:Tok)(j:String)(O : ["enumerate","zip","dict_itemiterator","dict_reverseitemiterator","odict_iterator","itertools.zip_longest","itertools.pairwise"].contains j=false)
 (W:∀A:Around,A.handled=none->Walks P w A a [a] [a] x.cps.size (SignAt x) (λi h=>h.IsStrIter a j x t i))
 (N:∀(A:Around)(i:Nat)(s:Shared)(Q:Ε)(E:Ε),s.heap.IsStrIter a j x t i->Q (.ref a) s->wpAny (model P w) A (pyIter (.ref a)) Q E s):Turn P w K tg (mj x) [a] a (λi h=>h.IsStrIter a j x t i) where
 mem:=by simp
 obj:=λi h st b d=>by
  have e:b=a:=by simpa using d
  subst e;obtain⟨o,f,_,hd⟩:=st;exact⟨o,f,λv z=>by rw[hd]at z;cases z⟩
 keep:=λi h m st k=>let⟨o,f,r⟩:=st;⟨o,k a vy o f,r⟩
 item:=by
  intro X y hw B hc i U s G H E I l st q;subst y hw B;obtain⟨L,J,Y,F,D,C⟩:=l a vy;refine(W X.A (I.ok.hd hc)).item i s _ _ q st λv m n V M p=>?_;obtain⟨c,u,T,rfl⟩:=V;have Z:Inv X U G H { s with heap:=m,toks:=n }:=I.turned (λb o d e=>p b o (by simpa using d) e) L J F D C;obtain⟨o,f,S,hd⟩:=id M;exact⟨_,rfl,ZP (s:={ s with heap:=m,toks:=n }) f S hd O ⟨.str ⟨#[c]⟩,H,Z,⟨u,rfl⟩,⟨rfl,c,T,rfl⟩,M,λb d=>(l b d).1⟩⟩
 done:=by
  intro X y hw B hc i U s G H E I l st q;subst y hw B;obtain⟨L,J,Y,F,D,C⟩:=l a vy;have R:i=x.cps.size:=q;subst R;exact(W X.A (I.ok.hd hc)).done s _ _ st λm n p=>⟨rfl,I.turned (λb o d e=>p b o (by simpa using d) e) L J F D C⟩
 self:=N
def LM(te:TE):TI:=λG H R=>te G H λv Y=>∃x,v=.str x/\R (mj x) Y
def Re(n:PE X l tl):PI X tg l (LM tl):=by
 intro U s G H R I h;refine ag (n U s G H _ I h) λv a r=>?_;obtain⟨x,Y,d,m,y,u,q⟩:=r;subst u;obtain⟨t,rfl⟩:=m;have j:∀b∈[a.zs],I8 X U Y b:=λb p=>by
  have e:b=a.zs:=by simpa using p
  subst e;exact d.fpOk (aG _) (d.hok.fresh (aG _))
 have k:∀o:Obj,Inv X U G Y { a with heap:=a.heap.push o }:=λo=>d.kept (t':=a.toks) λb w z=>aH _ z;cases g:y.cps.all (· < 128)
 .exact wpAny_pyIter_wide g ⟨a.zs,[a.zs],_,mj y,Y,rfl,k _,W7 _ y t "str_iterator" vk (λA c=>Walks.strWide c _ y t) (λA i s Q E st h=>wpAny_pyIter_striter_wide st h),⟨_,aW _ rfl,rfl,rfl⟩,j,q⟩
 .exact wpAny_pyIter_ascii g ⟨a.zs,[a.zs],_,mj y,Y,rfl,k _,W7 _ y t "str_ascii_iterator" vk (λA c=>Walks.strAscii c _ y t) (λA i s Q E st h=>wpAny_pyIter_striter_ascii st h),⟨_,aW _ rfl,rfl,rfl⟩,j,q⟩
def Iw(x:Str)(lo a:xn):Str:=⟨((x.cps.toList.drop (HT.sIx x.length 0 lo)).take (HT.sIx x.length x.length a-HT.sIx x.length 0 lo)).toArray⟩
def strIdx(lo a:xn)(n:Nat):Builtin.Str.strSliceIndices lo a 1 n=(range (HT.sIx n n a-HT.sIx n 0 lo)).map (HT.sIx n 0 lo + ·):=by
 rw[<- sliceRange_one];unfold Builtin.Str.strSliceIndices;have b:∀(o:xn)(d:Nat),d<=n->(match o with
   |none=>(d:Int)
   |some i=>(let i:=if i<0 then i+(n:Int)else i;if(1:Int)>0 then max 0 (min i n)else max (-1) (min i (n-1))))=((HT.sIx n d o:Nat):Int):=by
  intro o d hd;cases o with
  |none=>rfl
  |some i =>
   simp only[HT.sIx,show(1:Int)>0 by decide,if_true];by_cases h:i<0
   .simp only[h,if_true]<;>lia
   .simp only[h,if_false]<;>lia
 have e:=b lo 0 (aZ _);have c:=b a n (aG _);simp only[show(1:Int)>0 by decide,if_true]at e c ⊢;rw[<- e,<- c]
 rfl
def afP(x:Str)(lo a:xn):(⟨((Builtin.Str.strSliceIndices lo a 1 x.length).filterMap (x.cps[·]?)).toArray⟩ : Str)=Iw x lo a:=by
 rw[strIdx,pick_run];rfl
def Zc(x:Str)(lo a:xn)(h:(Builtin.Str.strSliceIndices lo a 1 x.length).length=x.length):Iw x lo a=x:=by
 rw[strIdx,ak,WP]at h;have d:=HT.akd x.length x.length (aG _) a;unfold Iw;have b:x.length=x.cps.size:=rfl;have e:x.cps.toList.length=x.length:=by simp[b]
 by_cases z:x.length=0
 .have:x.cps.toList=[]:=List.length_eq_zero_iff.mp (Eq.trans e z);rw[this];obtain⟨⟨l⟩⟩:=x;simp at this;subst this;simp
 .have c:HT.sIx x.length 0 lo=0:=by lia
  rw[c,drop_zero,QP vw]
def Lo:V->xn->xn->Hp->VK->Prop:=λx lo a H Q=>∃y,x=.str y/\y.length<=sizeLine/\Q (.str (Iw y lo a)) H
def part_of{v:Value}{o:xn}(h:IsPart v o):∃l:Option (Int×Tok),v=partValue l/\l.map (·.1)=o:=by
 cases h with
 |none=>exact⟨none,rfl,rfl⟩
 |int i t=>exact⟨some (i,t),rfl,rfl⟩
def VC{X:Cx} : SlR X Lo:=by
 intro U s G H x v o n lo a p Q I c j f d h;obtain⟨y,rfl,g,q⟩:=h;obtain⟨t,rfl⟩:=c;obtain⟨l,rfl,m⟩:=part_of f;obtain⟨u,rfl,k⟩:=part_of d;refine⟨"str",_,F.slot_str_getitem.lookup,typeIs_str s y t,wpAny_getItem_str_slice (l:=l) (u:=u) (st:=none) j rfl ?_⟩;unfold sliceMade slicePicked;rw[m,k];split
 .rename_i i
  have b:=(Bool.and_eq_true_iff.mp i).2;rw[beq_iff_eq]at b;have e:=Zc y lo a b;rw[e]at q;exact⟨.str y,H,I,⟨t,rfl⟩,q⟩
 .have e:=afP y lo a;refine⟨?_,.str (Iw y lo a),H,I.tok _,⟨s.toks,?_⟩,q⟩
  .refine aL ?_ g;refine aL (WG (ZH Str.length e)) ?_;show((y.cps.toList.drop _).take _).toArray.size<=y.cps.size;rw[aX,aY,UQ,Array.length_toList];lia
  .rw[<- e];rfl
def OL:R2:=λx y H Q=>∃i j,x=.str i/\y=.str j/\i.length+j.length<=sizeLine/\Q (.str (i++j)) H
def Ya:OpR X (binaryOp .Add) OL:=Y4
def Lc:R2:=λx y H Q=>∃i j,x=.str i/\y=.str j/\Q (.bl (!decide (j.cps.toList<i.cps.toList))) H
def SK:OpR X (compareOp .LtE) Lc:=by
 intro U s G H x y v u Q I b a h;obtain⟨i,j,rfl,rfl,q⟩:=h;obtain⟨t,rfl⟩:=b;obtain⟨c,rfl⟩:=a;exact PySem.P.le_str (dW I q rfl)
def OpR.imp{f:Value->Value->Sem Value}{r a:R2}(h:OpR X f r)(i:∀x y H Q,a x y H Q->r x y H Q):OpR X f a:=λU s G H x y v u Q I c b q=>h U s G H x y v u Q I c b (i _ _ _ _ q)
theorem Gw:∀{a:xo}{c:Θ},zK (a.map V.bl) c->∀(i:Nat)(v:Value),c[i]?=some v->∃b,a[i]?=some b/\v=.bool b
 |[],_,.nil,i,v,h=>by cases i<;>cases h
 |b::a,_,.cons r t,0,v,h=>by
  rw[List.getElem?_cons_zero]at h;cases h;exact⟨b,rfl,r⟩
 |b::a,_,.cons r t,i+1,v,h=>by
  rw[List.getElem?_cons_succ]at h;exact Gw t i v h
def Po:Ζ->Hp->VK->Prop:=λI H Q=>∃(l:Addr)(a:xo),I=[.ref l]/\H l=some (.lst (a.map V.bl))/\Q (.bl (a.all id)) H
theorem xq:∀a:xo,((range a.length).all λi=>(a[i]?).getD true)=a.all id
 |[]=>rfl
 |b::a=>by
  rw[length_cons,List.range_succ_eq_map,all_cons,all_map,all_cons];have:=xq a;simp only[Function.comp_def,List.getElem?_cons_succ,List.getElem?_cons_zero,getD_some,id]at this ⊢;rw[this]
def abT(hc:X.calm):jE X (.builtin "all") Po:=by
 intro U s G H I y Q a r h;obtain⟨l,d,rfl,n,q⟩:=h;obtain⟨u,rfl,k⟩:=r.one;cases k;obtain⟨c,f,p⟩:=a.lstIs n;have x:l<s.zs:=by obtain⟨_,e,_⟩:=p;exact aK e
 refine call_all_walk (wpAny_pyIter_list p ?_);refine⟨s.zs,[s.zs,l],[s.zs],c.toArray.size,_,_,λi=>(d[i]?).getD true,rfl,Walks.list (A:=X.A.in1) (a.ok.hd hc) _ l (aQ x) c.toArray,
  ⟨⟨_,aW _ rfl,rfl,rfl⟩,p.push _⟩,λi v z C D w g=>?_,λB j t=>?_⟩
 .obtain⟨b,e,rfl⟩:=Gw f i v (by simpa using w);simp only[e,getD_some]at g;exact wpAny_truthy_bool g
 .have e:((range c.toArray.size).all λi=>(d[i]?).getD true)=d.all id:=by
   rw[aX,<- f.length,ak];exact xq d
  refine⟨.bl (d.all id),H,a.kept (t':=j) λb o q=>t b o (λm=>?_) (aH _ q),?_,q⟩
  .rw[YR.mp m]at q;exact X2 _ (aK q)
  .rw[e];rfl
def IA(r:V->Ζ->Hp->VK->Prop)(a:TE)(t:TA):TE:=λG H Q=>a G H λx Y=>(∃y,x=.str y)/\t G Y λvs b=>r x vs b Q
def ND{o:Expr}{b:TE}{a:Str}{id:String}{r:V->Ζ->Hp->VK->Prop}(slot:Slot "str" a id)(c:typeOf (.builtin id)=pure (.type "method_descriptor"))(i:l_ X id r)(g:PE X o b)(m:PA X [e] t)
 (l:zt X o a:=by rfl)
 (k:zg X af e:=by rfl)
 (j:zC ah af:=by rfl)(d:zw X e []:=by rfl)(f:zb X af []:=by rfl) :
  PE X (.Call (.Attribute o a ah) [e] [] af) (IA r b t):=by
 refine(om PySem.F.plainAttrs_str slot c i g.mono m l k j d f).imp λG H Q h=>?_;refine⟨_,h,?_⟩;rintro x Y ⟨⟨y,rfl⟩,n⟩;exact⟨rfl,n⟩
def adk(b:Gl X x)(a:∃u,X.mg x=some u/\zP v u)(hd:zz x:=by decide):PE X (.Name x O) (tC v):=by
 obtain⟨u,d,c⟩:=a;exact ZX b d c hd
def aep{t:TS}(a:l8 X st t):kN X [st] t:=⟨oH a.out⟩
def hid(y:Str):Str:=Str.ofString "?"++y
def Qa(I:Φ)(N:Φ):Φ:=N.map λy=>if y∈I then hid y else y
def Cx.compG(X:Cx)(a:Φ)(J:Scope)(I:Φ)(C:Addr)(s₀:Shared)(H₀:Hp)(ex:Ψ)(pn:Δ):Cx :=
 { X with env:=compEnvC J (vA X.env.cells J.names []) C X.env,N:=I++a,s₀:=s₀,H₀:=H₀,outer:=X.stack,ex:=ex,fn:=λ_=>false,pn:=pn,xe:=λ_ _=>False }
def PTs(X:Cx)(aI:xw)(tc:TT):Prop:=∀(U:Δ)(s:Shared)(G:L2.St)(H:Hp)(Q:Bool->Hp->Prop),Inv X U G H s->tc G H Q ->
 wpAny (model X.prog X.w) X.A (forIn aI true λc r=>if r=true then do let d <- isTrue c X.env (eval c X.env);pure (ForInStep.yield d)else pure (ForInStep.yield r)) (λb a=>∃W,Inv X U G W a/\Q b W) X.xe s
def LO:TT:=λ_ H Q=>Q true H
def Yu{X:Cx} : PTs X [] LO:=λ_ _ _ H _ I q=>wpAny_tests_nil ⟨H,I,q⟩
def afU{X:Cx}{c:Expr}(h:PT X c tc):PTs X [c] tc:=λU s G H Q I q=>wpAny_tests_one (h U s G H Q I q)
def tU(wi:TI)(n:Nat)(gt:TG)(tc:TT)(te:TE):TE:=λG H Q=>wi G H λJ Y=>∀D,Y D=none->∃a:Nat->Nat->Ζ->Hp->Prop,(∃m,a 0 m [] (upd Y D (.lst [])))/\∀i m d g,a i m d g ->
 (J.stop i g/\Q (.ref D) g)\/(J.go i g/\∀x W,J.yld i g x W->∀e:L2.St,e.length=n->gt x (e++G) W λc l=>∃h:L2.St,h.length=n/\c=h++G/\tc c l λb k =>
  match b with
  |true=>te c k λy j=>d.length<sizeLine/\j D=some (.lst d)/\∃f,f<m/\a (i+1) f (d++[y]) (upd j D (.lst (d++[y])))
  |false=>∃f,f<m/\a (i+1) f d k)
def Cx.compE(X:Cx)(ext:Addr->xB)(fn:Str->Bool)(a:Φ)(J:Scope)(I:Φ)(C:Addr)(s₀:Shared)(H₀:Hp)(ex:Ψ)(pn:Δ):Cx :=
 { X with env:=compEnvC J (ext C++vA X.env.cells J.names []) C X.env,N:=I++a,s₀:=s₀,H₀:=H₀,outer:=X.stack,ex:=ex,fn:=fn,pn:=pn,xe:=λ_ _=>False }
structure U9(X:Cx)(J:Scope)(I:Φ)(ext:Addr->xB)(fn:Str->Bool):Prop where
 new:∀{M:Model}{A:Around}{E:Ε}{s:Shared}{globals:Addr}{b5:xB}{am:Str}{outer:Env}{Q:Env->Shared->Prop},(∀g,g.Ns s.zs (λx=>([] : xD).reverse.lookup x)->(∀y c,(ext s.zs).lookup y=some c->g.IsCell c none)->(∀b o,s.heap.get? b=some o->g.get? b=some o)->Q (newEnv J s.zs globals (ext s.zs++b5) am none .none (some outer) builtinsNs) { s with heap:=g,toks:=s.toks+([] : xD).length }) ->
  wpAny M A (newFunctionEnv J globals b5 [] am none .none (some outer)) Q E s
 up:∀C y c,(ext C).lookup y=some c->C<c
 one:∀C y z c,(ext C).lookup y=some c->(ext C).lookup z=some c->y=z
 nw:∀C y,fn y->∃c,(ext C).lookup y=some c
 off:∀C y,y∉I->(ext C).lookup y=none
 kd:∀C y,((relabel J X.env).names.lookup y=some .cell\/(relabel J X.env).names.lookup y=some .free)->(∃c,(ext C).lookup y=some c)\/(y,NameKind.free)∈J.names
def ud{X:Cx}{I:Φ}(f:J.kind=.function)(c:∀y∈J.names,y.2≠.cell):U9 X J I (λ_=>[]) (λ_=>false) :=
 ⟨λh=>wpAny_newFunctionEnv c (by intro y d;simp at d) (λg i a=>h g i (λ_ _ z=>(nomatch z)) λb o e=>(a.2 b (aQ (aK e))).trans (aH _ e)) f,λ_ _ _ z=>(nomatch z),λ_ _ _ _ z=>(nomatch z),λ_ _ z=>(nomatch z),λ_ _ _=>rfl,λ_ _ e=>.inr (Ef e c)⟩
def Pj{use:Option (Value->Sem Unit)}{post:Ε}{Qv:VK}{pp:Pos}{I N':Φ}(E:U9 X J I ext fn)(hc:X.calm)(ii:Qa I X.N=N')(c8:J.kind=.function)(dk:∀y∈J.names,y.2=.local->J.names.lookup y.1=some .local)
 (cK:∀y∈J.names,y.2=.free->X.env.kindOf y.1=some .cell\/X.env.kindOf y.1=some .free)(gu:∀y∈X.N,y∉I->(relabel J X.env).names.lookup y≠some .local)(hq:∀y∈X.N,y∈I->(relabel J X.env).names.lookup (hid y)=none)(hi:PI X tg iter wi)
 (hg:∀C x F ex pn,PG (X.compE ext fn N' J I C x F ex pn) tg gt)(ht:∀C x F ex pn,PTs (X.compE ext fn N' J I C x F ex pn) aI tc)(he:∀C x F ex pn,PE (X.compE ext fn N' J I C x F ex pn) be te)(hs:zh X iter)(f:Inv X U G H s)(h:tU wi I.length gt tc te G H Qv)
 (r9:∀(C D:Addr)(l:Hp)(s6:Shared)(m:Str->Ω)(fl:Flow),s6.heap.Ns C m->Inv X U G l s6->I8 X U l C->Qv (.ref D) l->compPost (model X.prog X.w) X.A X.xe use post (.ref D) C (.ok fl) s6) :
  wpAny (model X.prog X.w) X.A (comprehension (.ListComp be [⟨tg,iter,aI,0⟩] J O) J X.env pp (newList []) false (eval iter X.env) use) post X.xe s:=by
 have eP:∀y∈J.names,y.2=.free->∃c,X.env.cells.lookup y.1=some c:=λy hy e=>f.ok.has y.1 (cK y hy e);refine wpAny_comprehension_free (use:=use) (Q:=post) rfl hs (XQ eP) c8 dk (ag (hi U s G H _ f h) λv s1 h1=>ag h1 λoB B h2=>?_);obtain⟨it,V,tn,a,H2,e,I2,T,gN,f2,R⟩:=h2;subst e;have nD:H2 B.zs=none:=I2.hok.fresh (aG _);obtain⟨W,⟨m0,w0⟩,turn⟩:=R B.zs nD;refine wpAny_newObj_type ?_ (by show 0<=sizeLine;exact aZ _);have t:Inv X U G (upd H2 B.zs (.lst [])) { B with heap:=B.heap.push { cls:=.type "list",dict:=none,data:=.seq ([] : Θ).toArray } }:=I2.lnew (t':=B.toks) (ys:=[]) (its:=[]) .nil (aZ _);have n9:∀b o,B.heap.get? b=some o->(B.heap.push { cls:=.type "list",dict:=none,data:=.seq ([] : Θ).toArray }).get? b=some o:=λb o e=>aH _ e;generalize hs3:({ B with heap:=B.heap.push { cls:=.type "list",dict:=none,data:=.seq ([] : Θ).toArray } } : Shared)=s3 at t ⊢;have j1:tn 0 s3.heap:=T.keep _ _ _ gN λb _ o e=>by rw[<- hs3];exact n9 b o e
 generalize hH3:upd H2 B.zs (.lst [])=H3 at t w0;have f3:∀b∈V,I8 X U H3 b:=λb k=>by
  obtain⟨a1,a2⟩:=f2 b k;refine⟨?_,a2⟩;obtain⟨o,e,_⟩:=T.obj _ _ gN b k;rwa[<- hH3,bY (aQ (aK e))]
 refine E.new λg fg jp kg=>?_;have clm:∀{y:Str}{c:Addr},(vA X.env.cells J.names []).lookup y=some c->X.env.cells.lookup y=some c:=λ{y c}e=>by
  rcases VF eP (PySem.mem_of_lookup e)with z|z
  .cases z
  .exact z
 have ic:∀{y:Str},(ext s3.zs).lookup y=none->((relabel J X.env).names.lookup y=some .cell\/(relabel J X.env).names.lookup y=some .free)->(X.env.kindOf y=some .cell\/X.env.kindOf y=some .free)/\∃c,(ext s3.zs++vA X.env.cells J.names []).lookup y=some c/\X.env.cells.lookup y=some c:=λ{y}ny e=>by
  rcases E.kd s3.zs y e with⟨c,z⟩|z
  .rw[ny]at z;cases z
  .obtain⟨c,dS⟩:=Vv (cells:=X.env.cells) (acc:=[]) (.inl z);obtain⟨c,dS⟩:=rO dS;exact⟨cK _ z rfl,c,by rw[lookup_append,ny];exact dS,clm dS⟩
 have mm:∀{y:Str}{c:Addr},(ext s3.zs++vA X.env.cells J.names []).lookup y=some c->(ext s3.zs).lookup y=some c\/X.env.cells.lookup y=some c:=λ{y c}e=>by
  rw[lookup_append]at e;cases hy:(ext s3.zs).lookup y with
  |some d=>rw[hy]at e;exact .inl e
  |none=>rw[hy]at e;exact .inr (clm e)
 have cll:∀{y z c},(ext s3.zs).lookup z=some c->¬X.env.cells.lookup y=some c:=λ{y z c}S e=>by
  obtain⟨v,o,h1,_⟩:=t.cell y c e;exact X2 _ (Ts (aK h1) (E.up _ _ _ S))
 have ow:∀b∈V,b<s3.zs:=λb k=>by
  obtain⟨o,e,_⟩:=T.obj _ _ j1 b k;exact aK e
 have nst:∀b∈V,b∉cs X.stack:=λb k=>t.nostk' (f3 b k).2.1 (f3 b k).2.2.1;have cfp:∀b∈V,∀y c,(ext s3.zs++vA X.env.cells J.names []).lookup y=some c->c≠b:=λb k y c e=>by
  rcases mm e with z|z
  .exact Up (Ts (ow b k) (E.up _ _ _ z))
  .exact(f3 b k).2.2.2.2.1 y c z
 generalize hX:X.compE ext fn N' J I s3.zs s3 H3 V (X.pn++U)=Y;have ok':Y.Ok:=by
  subst hX;exact⟨t.ok.mod,c8,t.ok.glob,t.ok.blt,aG _,λy z c h1 h2=>by
    rcases mm h1 with S|S<;>rcases mm h2 with e2|e2
    .exact E.one _ _ _ _ S e2
    .exact absurd e2 (cll S)
    .exact absurd S (cll e2)
    .exact t.ok.inj y z c S e2,λy hy=>by
    cases hz:(ext s3.zs).lookup y with
    |some c=>exact⟨c,List.lookup_append.trans (by rw[hz];rfl)⟩
    |none=>exact let⟨_,c,q,_⟩:=ic hz hy;⟨c,q⟩,λy c k8 e=>by
    obtain⟨d,z⟩:=E.nw s3.zs y k8;have e:(ext s3.zs++vA X.env.cells J.names []).lookup y=some c:=e;rw[lookup_append,z]at e;cases e;exact Y2 (E.up _ _ _ z),t.ok.hd,t.ok.frames,.inl rfl,
   λb k=>⟨aQ (ow b k),cfp b k⟩,t.bs,aL t.ok.bsz t.sz,λb o e k=>by
    rcases(f3 b k).2.2.2.1 with z|z
    .exact t.ok.noex b o e z
    .exact absurd (aR (aR (aK e) t.ok.bsz) z) (X2 _),nst,t.stack,t.stkFree⟩
 have J4:∀tk,Inv Y [] (replicate I.length none++G) H3 { s3 with heap:=g,toks:=tk }:=λtk=>by
  subst hX;refine⟨ok',rfl,t.bare,Un.kept kg,⟨_,fg,λi y v S e2 e3=>?_⟩,λy c e=>?_,t.hok.fresh (aG _),λy c e=>(mm e).elim (λz=>t.hok.fresh (Y2 (E.up _ _ _ z))) (t.freeC y c),λp hp=>?_,t.hok.kept kg,?_⟩
  .by_cases k6:i<I.length
   .rw[aF (by rwa[aN]),XG,ZY k6]at e2;cases e2
   .obtain⟨j,rfl⟩ : ∃j,i=I.length+j:=⟨i-I.length,by lia⟩;have e0:N'[j]?=some y:=by
     have S:(I++N')[I.length+j]?=some y:=S;rw[aD (X1 _ _)]at S;rw[show I.length+j-I.length=j by exact TK _ _]at S;exact S
    have mS:G[j]?=some (some v):=by
     rw[aD (by rw[aN];exact X1 _ _),aN]at e2;rw[show I.length+j-I.length=j by exact TK _ _]at e2;exact e2
    rw[<- ii]at e0;obtain⟨M,kc,ey⟩ : ∃M,X.N[j]?=some M/\(if M∈I then hid M else M)=y:=by
     unfold Qa at e0;rw[aq]at e0;cases hz:X.N[j]? with
     |none=>rw[hz]at e0;cases e0
     |some M=>rw[hz]at e0;exact⟨M,rfl,Option.some.inj e0⟩
    have e3:(relabel J X.env).names.lookup y=some .local\/(relabel J X.env).names.lookup y=some .cell\/(relabel J X.env).names.lookup y=some .free:=e3;have ne:¬M∈I:=λz=>by
     rw[ZY z]at ey;subst ey;rw[hq M (aC kc) z]at e3;rcases e3 with z|z|z<;>cases z
    rw[ZZ ne]at ey;subst ey;have e3':(relabel J X.env).names.lookup M=some .cell\/(relabel J X.env).names.lookup M=some .free:=by
     rcases e3 with z|z
     .exact absurd z (gu M (aC kc) ne)
     .exact z
    obtain⟨kd,c,jp,fF⟩:=ic (E.off _ _ ne) e3';obtain⟨m,_,hl⟩:=t.loc;obtain⟨u,r,lk⟩:=hl j M v kc mS (.inr kd);refine⟨u,r,.inr ⟨e3',c,jp,?_⟩⟩;rcases lk with⟨k1,_⟩|⟨_,c',q1,o,q2,q3⟩
    .exfalso;have k1':X.env.kindOf M=some .local:=k1;rcases kd with k2|k2<;>rw[k1']at k2<;>cases k2
    .rw[fF]at q1;cases q1;exact⟨o,kg _ _ q2,q3⟩
  .rcases mm e with z|z
   .exact⟨none,jp y c z⟩
   .obtain⟨v,o,q2,q3⟩:=t.cell y c z;exact⟨v,o,kg _ _ q2,q3⟩
  .have eM:p∈X.pn++U:=by simpa[Cx.compE]using hp
   obtain⟨a1,a2,a3,a4,a5⟩:=t.pin p eM;exact⟨kg _ _ a1,a2,aQ (aK a1),t.nostk' a3 a4,a5⟩
  .show(replicate I.length none++G).length=(I++N').length;have io:N'.length=X.N.length:=by rw[<- ii];unfold Qa;rw[ak]
   rw[aA,aN,aA,t.len,io]
 have rS:∀{l:Hp},(∀b∈V,l b=none)->∀b∈V,I8 Y [] l b:=λ{l}hn b k=>by
  subst hX;exact⟨hn b k,aQ (ow b k),nst b k,.inl k,cfp b k,λp hp=>(f3 b k).2.2.2.2.2 p (by simpa[Cx.compE]using hp)⟩
 have i5:∀s4:Shared,s4={ s3 with heap:=g,toks:=s3.toks+([] : xD).length } ->
   codeAny (model X.prog X.w) X.A (.compLoop (.ListComp be [⟨tg,iter,aI,0⟩] J O) 0 (.ref it) (.ref B.zs) Y.env) (compPost (model X.prog X.w) X.A X.xe use post (.ref B.zs) s3.zs) s4:=by
  rintro s4 rfl;have YP:Y.prog=X.prog/\Y.w=X.w/\Y.K=X.K/\Y.calm=X.calm/\Y.A=X.A/\Y.env.locals=s3.zs:=by subst hX;exact⟨rfl,rfl,rfl,rfl,rfl,rfl⟩
  obtain⟨y1,y2,y3,y4,y5,y6⟩:=YP;have he':PE Y be te:=by subst hX;exact he _ _ _ _ _
  have k7:PG Y tg gt:=by subst hX;exact hg _ _ _ _ _
  have ht':PTs Y aI tc:=by subst hX;exact ht _ _ _ _ _
  have mn:Y.xe=λ_ _=>False:=by subst hX;rfl
  have yb:∀{l:Hp}{L:L2.St}{pn:Δ}{s':Shared},Inv Y pn L l s'->Un (cs X.stack) V H3 l s3.heap s'.heap:=λ{l L pn s'}Z=>by
   have:=Z.base;subst hX;exact this
  have yos:∀{l:Hp}{L:L2.St}{pn:Δ}{s':Shared},Inv Y pn L l s'->s'.os=s3.os:=λ{l L pn s'}Z=>by
   have:=Z.os;subst hX;exact this
  refine codeAny_loop rfl (λn s'=>∃i ys l,∃L:L2.St,L.length=I.length/\Inv Y [] (L++G) l s'/\tn i s'.heap/\(∀b∈V,l b=none)/\W i n ys l) (λn s5 hI=>?_) m0 ⟨0,[],H3,replicate I.length none,aN,J4 _,T.keep _ _ _ j1 λb _ o e=>kg b o e,λb k=>(f3 b k).1,w0⟩;obtain⟨i,ys,l,L,dQ,Z,stc,frc,wc⟩:=hI;show wpAny _ _ ((compTurn (.ListComp be [⟨tg,iter,aI,0⟩] J O) 0 (.ref it) (.ref B.zs) Y.env).onRaise (λz=>do noteFrame z Y.env;theTreesLotGoes z)) _ _ s5;refine wpAny_noted (wpAny_noRaise ?_);rw[compTurn_list];show wpAny (model X.prog X.w) X.A _ _ _ _;rcases turn i n ys l wc with⟨stop,qn⟩|⟨go,step⟩
  .have hd:=T.done Y y1 y2 y3 (y4.trans hc) i [] s5 (L++G) l (λ_ _=>False) Z (rS frc) stc stop;rw[y5]at hd;refine ZU (wpAny_standAt (ZU (ag hd λr s6 P=>?_)));obtain⟨hr,Z6⟩:=P;subst hr;refine ZT ?_;obtain⟨m,kS,_⟩:=Z6.loc;rw[y6]at kS;have u6:=yb Z6;have hok:HOk X.prog X.w l s6.heap:=by
    have z:=Z6.hok;rw[y1,y2]at z;exact z
   have cn:l s3.zs=none:=by
    have z:=Z6.free;rw[y6]at z;exact z
   have I6:Inv X U G l s6:=t.call' (s':=s6) (ch:=V) (yos Z6) u6 hok Z6.bare λb k=>⟨(f3 b k).2.2.2.1,(f3 b k).2.1,(f3 b k).2.2.2.2.1,(f3 b k).2.2.2.2.2⟩;have fC:I8 X U l s3.zs:=t.fpOk (aG _) cn;exact r9 _ _ l s6 m _ kS I6 fC qn
  .have hd:=T.item Y y1 y2 y3 (y4.trans hc) i [] s5 (L++G) l (λ_ _=>False) Z (rS frc) stc go;rw[y5]at hd;refine ZU (wpAny_standAt (ZU (ag hd λr s6 P=>?_)));obtain⟨u,hr,h6⟩:=P;subst hr;refine ZU (ag h6 λ_ s7 P=>?_);obtain⟨xv,H7,Z7,r7,yl,nv,fr7⟩:=P;have Z7':=Z7.pinned (rS fr7) (T.obj _ _ nv);have bu:=k7 _ s7 _ H7 xv u _ Z7' r7 (step xv H7 yl L dQ);rw[y1,y2,y5,mn]at bu;refine ZU (ag bu λ_ s8 P=>?_);obtain⟨σ8,H8,Z8,pre,fq,e8,q8⟩:=P;subst e8;have hte:=ht' _ s8 _ H8 _ Z8 q8;rw[y1,y2,y5,mn]at hte;have fin:∀{m':Nat}{ki:Ζ}{H9:Hp}{s9:Shared},Inv Y ([]++Lq V s7.heap) (pre++G) H9 s9->m'<n->W (i+1) m' ki H9->∃m,m<n/\∃i ys l,∃L:L2.St,L.length=I.length/\Inv Y [] (L++G) l s9/\tn i s9.heap/\(∀b∈V,l b=none)/\W i m ys l:=λ{m' ki H9 s9}Z9 im w9 =>
    ⟨m',im,i+1,ki,H9,pre,fq,Z9.unpinned,T.keep _ _ _ nv λb k o e=>(Z9.pin (b,o) (aP _ (aP _ (sy k e)))).1,λb k=>by
     obtain⟨o,e,_⟩:=T.obj _ _ nv b k;exact(Z9.pin (b,o) (aP _ (aP _ (sy k e)))).2.1,w9⟩
   refine ZU (ag hte λok s9 P=>?_);obtain⟨H9,Z9,q9⟩:=P;cases ok with
   |false =>
    obtain⟨m',im,w9⟩:=q9;exact ZT ⟨rfl,fin Z9 im w9⟩
   |true =>
    have hel:=he' _ s9 _ H9 _ Z9 q9;rw[y1,y2,y5,mn]at hel;refine ZU (ZU (ag hel λev j2 P=>?_));obtain⟨yv,H10,Z10,r10,hz,rj,m',im,w10⟩:=P;have rf:=P0 (X:=Y) _ j2 _ H10 (.ref B.zs) [yv] (.ref B.zs) [ev] (λ_ Hf=>Hf=upd H10 B.zs (.lst (ys++[yv]))) Z10 rfl (.cons r10 .nil) ⟨_,ys,yv,rfl,rfl,rj,hz,rfl⟩;rw[y1,y2,y5,mn]at rf;refine ZU (ag rf λav s11 P=>?_);obtain⟨_,H11,Z11,_,e11⟩:=P;subst e11;exact ZT (ZT ⟨rfl,fin Z11 im w10⟩)
 have p6:Y.env=compEnvC J (ext s3.zs++vA X.env.cells J.names []) s3.zs X.env:=by subst hX;rfl
 rw[p6]at i5;exact codeAny_compStart_list (i5 _ rfl) (T.self _ 0 _ _ _ (T.keep _ _ _ j1 λb _ o e=>kg b o e) (i5 _ rfl))
def Vm{I i:Φ}(E:U9 X J I ext fn)(x:X.calm)(l:Qa I X.N=i)(L:J.kind=.function)(F:∀y∈J.names,y.2=.local->J.names.lookup y.1=some .local)
 (K:∀y∈J.names,y.2=.free->X.env.kindOf y.1=some .cell\/X.env.kindOf y.1=some .free)(A:∀y∈X.N,y∉I->(relabel J X.env).names.lookup y≠some .local)(r:∀y∈X.N,y∈I->(relabel J X.env).names.lookup (hid y)=none)(u:PI X tg iter wi)
 (v:∀C c d g pn,PG (X.compE ext fn i J I C c d g pn) tg gt)(n:∀C c d g pn,PTs (X.compE ext fn i J I C c d g pn) aI tc)(w:∀C c d g pn,PE (X.compE ext fn i J I C c d g pn) be te)(p:zh X iter) :
  PE X (.ListComp be [⟨tg,iter,aI,0⟩] J O) (tU wi I.length gt tc te):=by
 intro U s G H Q a h;rw[eval_ListComp];exact Pj E x l L F K A r u v n w p a h λC D P k m fl t M f q=>⟨m,t,λj B=>⟨.ref D,P,M.turned (it:=C) (h':=j) (t':=k.toks) (λb o z e=>(B.2 b z).trans e) f.1 f.2.1 f.2.2.2.1 f.2.2.2.2.1 f.2.2.2.2.2,rfl,q⟩⟩
variable{G:St}{us:Θ}{o:wf}{u r:Value}{y:V}{kvs:wx}{h':Heap}{ax i:Expr}
section
variable{X:Cx}{k:Nat}{f C:Addr}{fd:FuncData}{ps:Φ}{sp:Sp}{c5:Ζ}{ds:Θ}{x m:Str}{p O ah:Pos}{e o:Expr}{Z:xw}{ta:TE}{t:TA}{Ex:Value->Ξ->L2.St->Hp->Prop}
def afR{Q:VK}{vs:Ζ}(F:fD X.prog X.w X.K X.mg X.base (el X.prog X.w) k f fd ps sp)(l:dX k X.A)(n:Binds X.K fd ps ds)(hd:zK c5 ds)(j:h7 X Ex)
 (I:Inv X U G H s)(r:zK vs us)(h:sp (vs++c5) H Q λC d W=>Ex C d G W):wpAny (model X.prog X.w) X.A (call (.ref f) us) (EP X U G Q) X.xe s:=by
 have c:zK (vs++c5) (us++ds):=r.append hd;have m:(us++ds).length=ps.length:=by rw[<- c.length];exact F.len _ _ _ _ h
 refine wpAny_call (codeAny_mono (F.run X.A X.stack s H ⟨us,[]⟩ (us++ds) (vs++c5) Q _ l I.env0 (n s us I.kIn m) c h) λr g b=>?_);cases r with
 |error e =>
  obtain⟨a,C,d,W,B,rfl,o,i⟩:=b;exact j U G H s a C W g B d I o i
 |ok fl =>
  cases fl with
  |ret u=>exact I.after b
  |next=>exact False.elim b
  |brk=>exact False.elim b
  |cont=>exact False.elim b
end
section
variable{κ:Type}[DecidableEq κ]
def Mz(kvs:List (κ×V))(k:κ):wf:=(kvs.find? λa=>decide (a.1=k)).map (·.2)
def putK(kvs:List (κ×V))(k:κ)(v:V):List (κ×V) :=
 if(kvs.any λa=>decide (a.1=k))=true then kvs.map (λa=>if a.1=k then(a.1,v)else a)else kvs++[(k,v)]
def Vn{p:κ×V}{r:List (κ×V)}{k:κ}(e:p.1=k):Mz (p::r) k=some p.2:=by simp[Mz,List.find?_cons,e]
def Kz{p:κ×V}{r:List (κ×V)}{k:κ}(e:¬p.1=k):Mz (p::r) k=Mz r k:=by simp[Mz,List.find?_cons,e]
def Vu(kvs:List (κ×V))(k:κ)(v:V):(putK kvs k v).length<=kvs.length+1:=by
 unfold putK;split
 .rw[ak];exact Xs _
 .rw[aA,length_cons,List.length_nil];exact aG _
def Ag.isSome_eq{u:Ω}(r:Ag o u):o.isSome=u.isSome:=by
 cases o with
 |none=>cases u with
  |none=>rfl
  |some _=>exact(show False from r).elim
 |some _=>cases u with
  |none=>exact(show False from r).elim
  |some _=>rfl
def Ag.getD{o:wf}{u:Ω}{d:V}{a:Value}(r:Ag o u)(rd:zP d a):zP (o.getD d) (u.getD a):=by
 cases o with
 |none=>cases u with
  |none=>exact rd
  |some _=>exact(show False from r).elim
 |some _=>cases u with
  |none=>exact(show False from r).elim
  |some _=>exact r
def KV.val{kvs:List (κ×V)}{vs:List (κ×Value)}(r:KV kvs vs)(k:κ):Ag (Mz kvs k) (valueAt vs k):=by
 unfold KV at r
 induction r with
 |nil=>exact True.intro
 |@cons p q ps a h t f =>
  obtain⟨d,g⟩:=h;by_cases e:p.1=k
  .have c:q.1=k:=d.symm.trans e;have b:valueAt (q::a) k=some q.2:=by simp[valueAt,List.find?_cons,c]
   rwa[Vn e,b]
  .have c:¬q.1=k:=λz=>e (d.trans z);have b:valueAt (q::a) k=valueAt a k:=by simp[valueAt,List.find?_cons,c]
   rwa[Kz e,b]
def KV.any{kvs:List (κ×V)}{vs:List (κ×Value)}(r:KV kvs vs)(k:κ):(kvs.any λa=>decide (a.1=k))=vs.any λa=>decide (a.1=k):=by
 unfold KV at r
 induction r with
 |nil=>rfl
 |cons h t b=>rw[any_cons,any_cons,b,h.1]
def KV.repl{kvs:List (κ×V)}{vs:List (κ×Value)}(r:KV kvs vs)(k:κ)(c:zP y u) :
  KV (kvs.map λa=>if a.1=k then(a.1,y)else a) (vs.map λa=>if a.1=k then(a.1,u)else a):=by
 unfold KV at r ⊢
 induction r with
 |nil=>exact .nil
 |@cons p q ps g h t d =>
  rw[map_cons,map_cons];refine .cons ?_ d;obtain⟨b,f⟩:=h;by_cases e:p.1=k
  .rw[ZY e,ZY (b.symm.trans e)];exact⟨b,c⟩
  .rw[ZZ e,ZZ (λz=>e (b.trans z))];exact⟨b,f⟩
def KV.put{kvs:List (κ×V)}{vs:List (κ×Value)}(r:KV kvs vs)(k:κ)(a:zP y u):KV (putK kvs k y) (stored vs k u):=by
 unfold putK stored;rw[r.any k];by_cases e:(vs.any λb=>decide (b.1=k))=true
 .rw[ZY e,ZY e];exact r.repl k a
 .rw[ZZ e,ZZ e];exact Paired.snoc r ⟨rfl,a⟩
def KV.length{kvs:List (κ×V)}{vs:List (κ×Value)}(r:KV kvs vs):kvs.length=vs.length:=Paired.length r
end
def W9{k:bh}(r:zP (kV k) u):(gH P w).is k u:=by
 cases k with
 |inl i=>obtain⟨t,e⟩:=(show ∃t,u=Value.int i t from r);subst e;exact Vy P w i t
 |inr x=>obtain⟨t,e⟩:=(show ∃t,u=Value.str x t from r);subst e;exact Vq P w x t
def OX{u:HO}(b:HOk P w H h)(e:Rd H a u):fG P w H h a u:=e.ok b
def Mu(b:HOk P w H h)(e:Rd H a (.dK kvs)):kvs.length<=sizeLine/\(a==sysModules)=false/\∃vs,KV kvs vs/\h.DictOf (gH P w) a vs :=
 show fG P w H h a (.dK kvs)from OX b e
def N3(b:HOk P w H h)(e:H a=some (.dK kvs)):kvs.length<=sizeLine/\(a==sysModules)=false/\∃vs,KV kvs vs/\h.DictOf (gH P w) a vs:=Mu b (.inl e)
def Hg(H:Hp)(a:Addr)(y:V)(r:wf):Prop :=
 (∃kvs k,Rd H a (.dK kvs)/\y=kV k/\r=Mz kvs k)\/False
def AX(H:Hp)(a:Addr)(y v:V)(W:Hp):Prop :=
 (∃kvs k,H a=some (.dK kvs)/\y=kV k/\kvs.length<sizeLine/\W=upd H a (.dK (putK kvs k v)))\/False
def Hg.k{H:Hp}{a:Addr}{kvs:wx}{k:bh}(e:H a=some (.dK kvs)):Hg H a (kV k) (Mz kvs k):=.inl ⟨kvs,k,.inl e,rfl,rfl⟩
def Inv.big(I:Inv X U G H s):sysModules<s.zs:=by
 have h:mainGlobals<s.zs:=(I.mod.glob.keeps I.bk).lt;exact Ts vk h
def abp{Q:Ε}(q:A.units+1<cLine)(I:Inv X U G H s)(g:Hg H a y (some v))(f:zP y u)(h:∀b d,Inv X U G H d->zP v b->Q b d) :
  wpAny (model X.prog X.w) A (getItem (.ref a) u) Q E s:=by
 rcases g with⟨kvs,k,e,n,l⟩|j
 .subst n;obtain⟨z,hd,vs,c,p⟩:=Mu I.hok e;obtain⟨b,i,m⟩:=Ag.some_of (v:=v) (o:=valueAt vs k) (by rw[l];exact c.val k);exact wpAny_getItem_of (W9 f) p.mapOf i (h b _ (I.tok _) m)
 .exact j.elim
def MX{Q:Ε}(m:A.units+1<cLine)(I:Inv X U G H s)(g:Hg H a y o)(d:zP y u)(h:∀c,Inv X U G H c->Q (.bool o.isSome) c) :
  wpAny (model X.prog X.w) A (compareOp .In u (.ref a)) Q E s:=by
 rcases g with⟨kvs,k,e,i,l⟩|f
 .subst i;obtain⟨z,hd,vs,b,j⟩:=Mu I.hok e;refine wpAny_in_of (W9 d) hd j.mapOf ?_;rw[<- (b.val k).isSome_eq,<- l];exact h _ (I.tok _)
 .exact f.elim
def _y{Q:Ε}(m:A.units+1<cLine)(I:Inv X U G H s)(g:Hg H a y o)(d:zP y u)(h:∀c,Inv X U G H c->Q (.bool (!o.isSome)) c) :
  wpAny (model X.prog X.w) A (compareOp .NotIn u (.ref a)) Q E s:=by
 rcases g with⟨kvs,k,e,i,l⟩|f
 .subst i;obtain⟨z,hd,vs,b,j⟩:=Mu I.hok e;refine wpAny_notIn_of (W9 d) hd j.mapOf ?_;rw[<- (b.val k).isSome_eq,<- l];exact h _ (I.tok _)
 .exact f.elim
def _H{g:Nat}{c:HO}(I:Inv X U G H s)(h:kf (H a))(i:Heap.SameBut a s.heap h')(j:∃q,h'.get? a=some q)(d:fG X.prog X.w (upd H a c) h' a c) :
  Inv X U G (upd H a c) { s with heap:=h',toks:=g } :=
 I.write (x:=a) (e:=a) h (.inl rfl) (λb q k z=>(i.2 b k).trans z) j d
def XB{vs:List (bh×Value)}(z:kvs.length<=sizeLine)(hd:(a==sysModules)=false)(b:KV kvs vs)(c:h'.DictOf (gH P w) a vs) :
  fG P w W h' a (.dK kvs):=⟨z,hd,vs,b,c⟩
def abm(D:A.units+1<cLine)(I:Inv X U G H s)(g:AX H a y v W)(f:zP y u)(i:zP v r)(h:∀d,Inv X U G W d->Q () d) :
  wpAny (model X.prog X.w) A (setItem (.ref a) u r) Q E s:=by
 rcases g with⟨kvs,k,e,x,l,B⟩|t
 .subst x B;obtain⟨z,hd,vs,b,C⟩:=N3 I.hok e;have j:vs.length<=sizeLine:=by rw[<- b.length];exact z
  have o:(putK kvs k v).length<=sizeLine:=by have:=Vu kvs k v;lia
  refine wpAny_setItem_pairs (hsz:=j) (W9 f) C λh' c m=>h _ ?_;have p:∃q,h'.get? a=some q:=by obtain⟨q,_,_,n,_⟩:=c;exact⟨q,n⟩
  exact _H I (by rw[e];exact True.intro) m p (XB o hd (b.put k i) c)
 .exact t.elim
def nN(i:Expr):Prop:=∀a b,subscripted i false a b=operate [a,b] (getItem a b)
def af4{env:Env}{j:Expr}{T id:String}{Q:Ε}
 (m:typeLookup (.type T) "__getitem__"=pure (some (.builtin id)))(l:nN j)
 (h:wpAny (model prog w) A (eval ax env) (λo d=>wpAny (model prog w) A (eval j env) (λi a=>a.TypeIs o T/\wpAny (model prog w) A (getItem o i) Q E a) E d) E s) :
  wpAny (model prog w) A (eval (.Subscript ax j O) env) Q E s:=by
 refine Subscript_ (wpAny_mono h (λo d g=>wpAny_mono g (λi a b=>?_) λ_ _ x=>x) λ_ _ x=>x);obtain⟨k,b⟩:=b;unfold subscriptTail;refine ZU ?_;rw[getitemInPython_of_ne k.not_modules];refine ZU (wpAny_specialOf k m ?_);have e:wpAny (model prog w) A (subscripted j false o i) (λr c=>wpAny (model prog w) A (letTemporaryGo ax o r >>= λ_=>pure r) Q E c) E a:=by
  rw[l o i];exact wpAny_operating (wpAny_mono b (λr c f=>ZU (wpAny_letTemporaryGo (ZT f))) λ_ _ x=>x)
 first
  |exact ZT (ZU e)
  |exact ZU (ZT (ZU e))
  |exact ZU e
def V3{X:Cx}(I:Inv X U G H s)(g:Hg H a y o):s.TypeIs (.ref a) "dict":=by
 rcases g with⟨kvs,k,e,_,_⟩|b
 .obtain⟨_,_,vs,_,c⟩:=Mu I.hok e;exact c.typeIs
 .exact b.elim
def NX(d c:TE):TE:=λG H Q=>d G H λx Y=>c G Y λy b=>∃a v,x=.ref a/\Hg b a y (some v)/\Q v b
def MQ(c d:TE):TE:=λG H Q=>c G H λy Y=>d G Y λx b=>∃a o,x=.ref a/\Hg b a y o/\Q (.bl o.isSome) b
def _N(c d:TE):TE:=λG H Q=>c G H λy Y=>d G Y λx b=>∃a o,x=.ref a/\Hg b a y o/\Q (.bl (!o.isSome)) b
def OM(e c d:TE):TS:=λD G H=>d G H λv Y=>e G Y λx g=>c G g λy f=>∃a b,x=.ref a/\AX f a y v b/\D.nx G b
variable{o:Expr}{td ty tv:TE}{a8:Pos}{d:V}
def YE(j:X.A.units+1<cLine)(l:PE X o td)(m:PE X i ty)(k:nN i):PE X (.Subscript o i O) (NX td ty):=by
 intro U s G H Q I h;refine af4 PySem.F.slot_dict_getitem.lookup k (ag (l U s G H _ I h) λu c ⟨x,Y,t,e,f⟩=>ag (m U c G Y _ t f) λD C n=>?_);obtain⟨y,w,b,d,a,v,q,g,q2⟩:=n;subst q;obtain rfl:u=Value.ref a:=e;exact⟨V3 b g,abp j b g d λz B r p=>⟨v,w,r,p,q2⟩⟩
def SF(j:X.A.units+1<cLine)(l:PE X i ty)(k:PE X o td):PC X .In i o (MQ ty td):=by
 intro U s G H Q I h;refine ag (l U s G H _ I h) λz b ⟨y,Y,r,c,e⟩=>ag (k U b G Y _ r e) λu w m=>?_;obtain⟨x,t,q,d,a,f,n,g,q2⟩:=m;subst n;obtain rfl:u=Value.ref a:=d;exact MX j q g c λv p=>⟨.bl f.isSome,t,p,rfl,q2⟩
def abR(j:X.A.units+1<cLine)(l:PE X i ty)(k:PE X o td):PC X .NotIn i o (_N ty td):=by
 intro U s G H Q I h;refine ag (l U s G H _ I h) λz b ⟨y,Y,r,c,e⟩=>ag (k U b G Y _ r e) λu w m=>?_;obtain⟨x,t,q,d,a,f,n,g,q2⟩:=m;subst n;obtain rfl:u=Value.ref a:=d;exact _y j q g c λv p=>⟨.bl (!f.isSome),t,p,rfl,q2⟩
def _q(l:X.A.units+1<cLine)(n:PE X o td)(p:PE X i ty)(k:PE X ax tv)(m:swapsWith ax (some (.Subscript o i a8)) O.line X.env=pure false) :
  PS X (.Assign [.Subscript o i a8] ax O) (OM td ty tv):=by
 intro U s G H D I h;refine wpAny_Assign_Subscript (ag (k U s G H _ I h) λr c ⟨v,Y,C,f,j⟩=>ag (n U c G Y _ C j) λu b ⟨x,F,B,e,q2⟩=>ag (p U b G F _ B q2) λL K q=>?_) m;obtain⟨y,M,z,d,a,E,t,g,q3⟩:=q;subst t;obtain rfl:u=Value.ref a:=e;exact abm l z g d f λJ w=>⟨G,E,w,q3⟩
def adu(h:Heap)(a:sysModules<h.objs.size):fG P w H (h.push { cls:=.type "dict",data:=.dict #[] }) h.objs.size (.dK []) :=
 ⟨aZ _,beq_eq_false_iff_ne.mpr (Ne.symm (aQ a)),[],.nil,Heap.DictOf.new h⟩
def PQ:TE:=λ_ H Q=>∀p,H p=none->Q (.ref p) (upd H p (.dK []))
def aer:PE X (.Dict [] [] O) PQ:=λU s G H Q I h =>
 wpAny_Dict_empty ⟨.ref s.zs,_,I.laid (a:=s.zs) (o:=.dK []) (t':=s.toks) (λ_ _ q=>aH _ q) (aG _) (adu s.heap I.big),rfl,h _ (I.hok.fresh (aG _))⟩
structure M2(X:Cx)(o:Expr)(m:Str)(ah:Pos)(e f:Expr)(af:Pos):Prop where
 base:zt X o m
 few:((backTo af (starEach [e,f] X.env)).all (λx=>!x.1)&&(backToKw af (keywordEach [] X.env)).all (λx=>x.1.isSome)
  && decide (([e,f] : xw).length+([] : wP).length+(if([] : wP).isEmpty then 0 else 1)<30))=true
 line:zC ah af
 trees:backTo af (starEach [e,f] X.env)=[(false,eval e X.env),(false,eval f X.env)]
def HR(H:Hp)(a:Addr):Prop:=(∃kvs,Rd H a (.dK kvs))\/False
def SW{X:Cx}(I:Inv X U G H s)(d:HR H a) :
  s.TypeIs (.ref a) "dict"/\(∀b,Value.ref a=.ref b->∃c,s.heap.get? b=some c/\c.dict=none)/\(a==sysModules)=false:=by
 rcases d with⟨kvs,e⟩|g
 .obtain⟨_,hd,vs,_,f⟩:=Mu I.hok e;refine⟨f.typeIs,λb q=>?_,hd⟩;cases q;obtain⟨c,_,_,i,h,_⟩:=f;exact⟨c,i,h.2.1⟩
 .exact g.elim
variable{o:wf}{f:Expr}
def Qt{Q:Ε}(p:A.units+1<cLine)(I:Inv X U G H s)(g:Hg H a y o)(j:zP y u)(rd:zP d r)(h:∀c f,Inv X U G H f->zP (o.getD d) c->Q c f) :
  wpAny (model X.prog X.w) A (call (.builtin "dict.get") [.ref a,u,r]) Q E s:=by
 rcases g with⟨kvs,k,e,n,l⟩|m
 .subst n;obtain⟨z,hd,vs,b,i⟩:=Mu I.hok e;refine call_meetsIn PySem.F.slot_dict_get i.typeIs PySem.F.entry_dict_get (PySem.F.args_dict_get_3 _ _ _) (meets_dict_get_default (gH X.prog X.w) a (W9 j) hd r) ⟨_,i.mapOf,h _ _ (I.tok _) ?_⟩;rw[l];exact(b.val k).getD rd
 .exact m.elim
def P'(td ty c:TE):TE:=λG H Q=>td G H λx Y=>∃a,x=.ref a/\HR Y a/\ty G Y λy d=>c G d λz b=>∃o,Hg b a y o/\Q (o.getD z) b
variable{o:Expr}{tx:TE}{pl:Sem Bool}{G:L2.St}
def afj(r:X.A.units+1<cLine)(t:PE X o td)(w:PE X e ty)(v:PE X f tx)(m:M2 X o "get" ah e f af):PE X (.Call (.Attribute o "get" ah) [e,f] [] af) (P' td ty tx):=by
 intro U s G H Q I h;refine wpAny_Call_method m.base m.few m.line PySem.F.plainAttrs_dict PySem.F.slot_dict_get PySem.F.type_dict_get (ag (t U s G H _ I h) λu k B=>?_);obtain⟨x,Y,b,p,a,D,d,q⟩:=B;subst D;obtain rfl:u=Value.ref a:=p;obtain⟨i,c,_⟩:=SW b d;refine⟨i,c,?_⟩;rw[m.trees];refine Calls.callWith_builtin rfl (Calls.evalArgs_plain (Calls.spliced_cons (ag (w U k G Y _ b q) λS j ⟨y,M,K,n,q2⟩ =>
  Calls.spliced_cons (ag (v U j G M _ K q2) λT P ⟨z,L,J,l,R,g,q3⟩=>Calls.spliced_nil ?_))))
 exact Qt r J g n l λN O E C=>⟨_,L,E,C,q3⟩
def mw(a:Addr)(o:Obj)(kvs:wx):It:=⟨λi H=>H a=some (.frz o (.dK kvs))/\i<kvs.length,λi H v W=>W=H/\∃k y,kvs[i]?=some (k,y)/\v=kV k,λi H=>H a=some (.frz o (.dK kvs))/\i=kvs.length⟩
def C7{k:bh}(h:(gH P w).is k u):zP (kV k) u:=by
 have h:Gi k u:=h;cases k with
 |inl i =>
  cases u<;>simp[Gi,Value.isInt]at h
  .subst h;exact⟨_,rfl⟩
 |inr x =>
  cases u<;>simp[Gi,Value.isStrOf]at h
  .subst h;exact⟨_,rfl⟩
def KV.at{a:Type}{kvs:List (a×V)}{vs:List (a×Value)}(r:KV kvs vs):∀{i:Nat}{k:a}{y:V},kvs[i]?=some (k,y)->∃u,vs[i]?=some (k,u)/\zP y u:=by
 unfold KV at r
 induction r with
 |nil=>intro i k y h;cases h
 |@cons p q ps f h t b =>
  intro i k y e;cases i with
  |zero =>
   rw[List.getElem?_cons_zero]at e;cases e;obtain⟨g,q2⟩:=q;obtain⟨d,c⟩:=h;cases d;exact⟨q2,rfl,c⟩
  |succ i =>
   rw[List.getElem?_cons_succ]at e ⊢;exact b e
def ab4(f a:Addr)(o:Obj)(kvs:wx)(vs:List (bh×Value))(N:Nat)(m:KV kvs vs)(M:∀h:Heap,h.get? a=some o->h.DictAt (gH P w) a vs N) :
  Turn P w K tg (mw a o kvs) [f] f (λi h=>h.IsKeyIter f a i vs.length N) where
 mem:=by simp
 obj:=λi h st b l=>by
  have e:b=f:=by simpa using l
  subst e;obtain⟨o,g,_,hd⟩:=st;exact⟨o,g,λv z=>by rw[hd]at z;cases z⟩
 keep:=λi h h' st k=>let⟨o,g,r⟩:=st;⟨o,k f vy o g,r⟩
 item:=by
  intro X t hw x hc i U s G H E I q st j;subst t hw x;obtain⟨j,Y⟩:=j;obtain⟨g,_⟩:=(show fG X.prog X.w H s.heap a (.frz o (.dK kvs))from I.hok a _ j);obtain⟨F,D,V,C,B,A⟩:=q f vy;obtain⟨⟨k,y⟩,L⟩ : ∃p,kvs[i]?=some p:=⟨kvs[i],by simp[Y]⟩;obtain⟨u,R,ru⟩:=m.at L;refine wpAny_pyNext_dict_item st (M _ g) R λZ h' T O Q=>?_;have I1:Inv X U G H { s with heap:=h' }:=I.turned (t':=s.toks) (λb J l e=>(Q.2 b l).trans e) F D C B A;obtain⟨oi,e,c,d⟩:=id O;exact⟨Z,rfl,ZP (s:={ s with heap:=h' }) e c d vk ⟨kV k,H,I1,C7 T,⟨rfl,k,y,L,rfl⟩,O,λb l=>(q b l).1⟩⟩
 done:=by
  intro X t hw x hc i U s G H E I q st j;subst t hw x;obtain⟨j,rfl⟩:=j;obtain⟨g,_⟩:=(show fG X.prog X.w H s.heap a (.frz o (.dK kvs))from I.hok a _ j);obtain⟨F,D,V,C,B,A⟩:=q f vy;have S:=m.length;exact wpAny_pyNext_dict_end (I.ok.hd hc) st (M _ g) (by simp;exact WG (Eq.symm S)) λh' W=>⟨rfl,I.turned (t':=s.toks) (λb J l e=>W b J l e) F D C B A⟩
 self:=λ_ _ _ _ _ st h=>wpAny_pyIter_keyiter st h
def Pe(te:TE):TI:=λG H R=>te G H λx Y=>∃a kvs,x=.ref a/\Y a=some (.dK kvs)/\∀o,R (mw a o kvs) (upd Y a (.frz o (.dK kvs)))
def _s(C:PE X l tl):PI X tg l (Pe tl):=by
 intro U s G H R I h;refine ag (C U s G H _ I h) λv c D=>?_;obtain⟨x,Y,y,A,a,kvs,f,m,q⟩:=D;subst f;cases A;have B:=(show fG X.prog X.w Y c.heap a (.dK kvs)from y.hok a _ m);obtain⟨z,hd,vs,d,o,Z,g,e,f,t,r,j,p⟩:=B;have n:∀h:Heap,h.get? a=some o->h.DictAt (gH X.prog X.w) a vs g:=λh e=>⟨o,Z,e,f,t,r,j,p⟩;have i:Inv X U G (upd Y a (.frz o (.dK kvs))) c:=by
  have:=y.write (x:=a) (e:=a) (o:=.frz o (.dK kvs)) (h':=c.heap) (t':=c.toks) (by rw[m];exact True.intro) (.inl rfl) (λb u k z=>z) ⟨o,e⟩ ⟨e,z,hd,vs,d,o,Z,g,e,f,t,r,j,p⟩;exact this
 refine wpAny_pyIter_dict hd (n _ e) ?_;refine⟨c.zs,[c.zs],_,mw a o kvs,_,rfl,i.kept (t':=c.toks) λb E z=>aH _ z,ab4 _ a o kvs vs g d n,⟨_,aW _ rfl,rfl,rfl⟩,λb k=>?_,q o⟩;have e:b=c.zs:=by simpa using k
 subst e;exact i.fpOk (aG _) (i.hok.fresh (aG _))
def gw(g:TG):TG:=λv G H Q=>∃R:L2.St->Hp->Prop,g v G H R/\∀a W,R a W->Q a W
def gm(t:TT):TT:=λG H Q=>∃R:Bool->Hp->Prop,t G H R/\∀b W,R b W->Q b W
def PG.mono{g:TG}(h:PG X e g):PG X e (gw g):=λU s G H v u Q I r b=>by obtain⟨R,d,c⟩:=b;exact ag (h U s G H v u R I r d) λ_ i b=>by obtain⟨a,W,f,q⟩:=b;exact⟨a,W,f,c a W q⟩
def PTs.mono{t:TT}(h:PTs X aI t):PTs X aI (gm t):=λU s G H Q I a=>by obtain⟨R,d,c⟩:=a;exact ag (h U s G H R I d) λb f a=>by obtain⟨W,e,q⟩:=a;exact⟨W,e,c b W q⟩
structure HN(K:Frag)(B:Addr)(m:Str)(f:Addr):Prop where
 ga:specialIn K (.ref B) "__getattribute__"=some (some (.builtin "type.__getattribute__"))
 rd:readsIn K B (.type "type")
 at_:findCls K (.ref B) (.type "type") m=some (.val (.ref f))
 hd:handedIn (.ref f)
 kp:keepIn K (.ref f)
section
variable{X:Cx}{k:Nat}{f B:Addr}{fd:FuncData}{ps:Φ}{sp:Sp}{c5:Ζ}{ds:Θ}{x m:Str}{p O ah:Pos}{e:Expr}{Z:xw}{t:TA}{Ex:Value->Ξ->L2.St->Hp->Prop}
def HN.get{U:Δ}{G:L2.St}{H:Hp}{s:Shared}{pl:Sem Bool}{A:Around}{E:Ε}{Q:Value×Θ->Shared->Prop}(c:HN X.K B m f)(I:Inv X U G H s)(h:∀t,Q (.ref f,[]) { s with toks:=t }) :
  wpAny (model X.prog X.w) A (getMethod (.ref B) m pl) Q E s :=
 method_cls I.kIn c.ga (cls_value I.kIn c.rd c.at_ c.hd (h _))
def YH(c:HN X.K B m f)(F:fD X.prog X.w X.K X.mg X.base bb k f fd ps sp)(i:dX k X.A)(l:Gl X x)(j:X.mg x=some (.ref B))(n:Binds X.K fd ps [])(o:PA X (e::Z) t)(u:zz x:=by decide)
 (q:zw X e Z:=by rfl)(v:zb X O Z:=by rfl)
 (g:eval (.Call (.Attribute (.Name x p) m ah) (e::Z) [] O) X.env=(do
   let a <- eval (.Name x p) X.env
   standAt ah.atName
   let(f,first) <- holding [a] (getMethod a m pl)
   callWith O f first (backTo O (starEach (e::Z) X.env)) (backToKw O (keywordEach [] X.env))):=by rfl) :
  PE X (.Call (.Attribute (.Name x p) m ah) (e::Z) [] O) (Lz sp t):=by
 intro U s G H Q I h;refine methodCall_KW (pl:=pl) (sY I l j (c.get I λd=>?_) u) g;refine callWith_K (first:=[]) (h₀:=X.base) I.ok.mod.kin c.kp (ag (o O U _ G H _ (I.tok d) h) λus y ⟨vs,z,b,r,q2⟩=>⟨b.kIn,?_⟩) q v;exact M9 (us:=us) (vs:=vs) F i n .nil MJ b r (by rw[append_nil];exact q2)
end
def zT.tup{K:Frag}{H W:Hp}{a:Addr}{I:Ζ}(e:zT H W)(h:SqT K H a I):SqT K W a I:=by
 rcases h with(h|⟨o,h⟩)|h
 .exact .inl (.inl (e _ _ h))
 .exact .inl (.inr ⟨o,e _ _ h⟩)
 .exact .inr h
mutual
inductive iJ(K:Frag)(H:Hp):V->PyData->Prop
 |non:iJ K H .non .none
 |bl (b:Bool):iJ K H (.bl b) (.bool b)
 |int (i:Int):iJ K H (.int i) (.int i)
 |str (x:Str):iJ K H (.str x) (.str x)
 |lst {a:Addr}{I:Ζ}{ds:xI} : H a=some (.lst I)->f9 K H I ds->iJ K H (.ref a) (.list ds)
 |tup {a:Addr}{I:Ζ}{ds:xI} : SqT K H a I->f9 K H I ds->iJ K H (.ref a) (.tuple ds)
inductive f9(K:Frag)(H:Hp):Ζ->xI->Prop
 |nil:f9 K H [] []
 |cons {x:V}{I:Ζ}{d:PyData}{ds:xI} : iJ K H x d->f9 K H I ds->f9 K H (x::I) (d::ds)
end
mutual
theorem iJ.same{K:Frag}{H W:Hp}(S:zT H W):∀{x:V}{d:PyData},iJ K H x d->iJ K W x d
 |_,_,.non=>.non
 |_,_,.bl b=>.bl b
 |_,_,.int i=>.int i
 |_,_,.str x=>.str x
 |_,_,.lst e h=>.lst (S _ _ e) (f9.same S h)
 |_,_,.tup e h=>.tup (S.tup e) (f9.same S h)
theorem f9.same{K:Frag}{H W:Hp}(S:zT H W):∀{I:Ζ}{a:xI},f9 K H I a->f9 K W I a
 |_,_,.nil=>.nil
 |_,_,.cons h t=>.cons (iJ.same S h) (f9.same S t)
end
mutual
theorem Inv.readsK(I:Inv X U G H s):∀{x:V}{d:PyData}{v:Value},iJ X.K H x d->zP x v->∃g,Reads s.heap v d g
 |_,_,_,.non,r=>by cases r;exact⟨_,.none⟩
 |_,_,_,.bl b,r=>by cases r;exact⟨_,.bool b⟩
 |_,_,_,.int i,r=>by obtain⟨t,rfl⟩:=r;exact⟨_,.int i t⟩
 |_,_,_,.str x,r=>by obtain⟨t,rfl⟩:=r;exact⟨_,.str x t⟩
 |_,_,_,.lst e h,r=>by
  cases r;obtain⟨c,a,⟨o,f,hc,n,hd⟩⟩:=I.lstIs e;obtain⟨g,q⟩:=Inv.readsAllK I h a;exact⟨_,.list f hc hd q⟩
 |_,_,_,.tup e h,r=>by
  cases r;obtain⟨c,a,⟨o,f,hc,n,hd⟩,_⟩:=I.tuple e;obtain⟨g,q⟩:=Inv.readsAllK I h a;exact⟨_,.tuple f hc hd q⟩
theorem Inv.readsAllK(c:Inv X U G H s):∀{I:Ζ}{d:xI}{vs:Θ},f9 X.K H I d->zK I vs->∃i,ReadsAll s.heap vs d i
 |_,_,_,.nil,r=>by cases r;exact⟨_,.nil⟩
 |_,_,_,.cons h t,r=>by
  cases r with
  |cons f e =>
   obtain⟨a,g⟩:=Inv.readsK c h f;obtain⟨b,q2⟩:=Inv.readsAllK c t e;exact⟨_,.cons g q2⟩
end
def n4(K:Frag)(a:Bool):R2:=λx y H Q=>∃d e,iJ K H x d/\iJ K H y e/\SeqAt.shaped d/\SeqAt.shaped e/\Q (.bl (if a then !PyData.eqv d e else PyData.eqv d e)) H
def WA(j:X.A.units+64<cLine):OpR X (compareOp .Eq) (n4 X.K false):=by
 intro U s G H x y v u Q I f c h;obtain⟨d,e,hd,k,b,a,q⟩:=h;obtain⟨m,i⟩:=I.readsK hd f;obtain⟨l,g⟩:=I.readsK k c;exact SeqAt.compareEq_shaped i g b a j ⟨.bl _,H,I,rfl,q⟩
def RU(j:X.A.units+64<cLine):OpR X (compareOp .NotEq) (n4 X.K true):=by
 intro U s G H x y v u Q I f c h;obtain⟨d,e,hd,k,b,a,q⟩:=h;obtain⟨m,i⟩:=I.readsK hd f;obtain⟨l,g⟩:=I.readsK k c;exact SeqAt.compareNe_shaped i g b a j ⟨.bl _,H,I,rfl,q⟩
def Yt(K:Frag):Ζ->Hp->VK->Prop:=λI H Q=>∃p T a,I=[.ref p,.ty T]/\T∈["bool","int","str","list","tuple","dict"]/\SqT K H p a/\Q (.bl (Rq "tuple" T)) H
def Xb:jE X (.builtin "isinstance") (Yt X.K):=by
 intro U s G H I us Q b r h;obtain⟨p,T,k,rfl,j,g,q⟩:=h;obtain⟨u,v,rfl,e,d⟩:=r.two;cases e;cases d;obtain⟨f,c,⟨o,i,hc,n,hd⟩,_⟩:=b.tuple g;refine kia_one (kitx_tuple (a:=p)) b.kIn ⟨o,i,hc⟩ (He (K:=X.K) (t:="tuple") vk j) (λz=>nomatch z) λl=>⟨.bl _,H,b.tok _,rfl,q⟩
def OkI(P:Program)(w:World)(K:Frag)(mg:Str->Ω)(base:Heap)(a:e9)(k:Nat)(f:Addr)(ps:Φ)(sp:Sp):Prop:=∃fd,fD P w K mg base a k f fd ps sp/\Binds K fd ps []
def Bu(K:Frag)(x am:Str)(st:Stmt)(ps:Φ)(f:Addr):Prop:=∃fd,Fun K x am st f fd/\∀us:Θ,us.length=ps.length->bindArgs fd ⟨us,[]⟩=pure (ps.zip us)
variable{f fI:Addr}{k i:Nat}{o:Obj}{ta:TA}{p:Pos}{x0:Str}{mN:Str->Ω}
def Bu.ok{c:e9}(h:Bu K x am st ps f)(d:∀fd,Fun K x am st f fd->fD P w K mg base c k f fd ps sp):OkI P w K mg base c k f ps sp :=
 by obtain⟨fd,a,b⟩:=h;exact⟨fd,d fd a,.all b⟩
def afZ{h g:Ξ}{kV e b a d:Value}
 (l:K.lookup f=some ⟨oc,h,.func (PySem.W.fnOf x am (jW st) (fL st) (bH st) .none kV e b g a d),eC⟩)(c:codeIn K a am)(k:keepIn K (.ref f))
 (i:∀(kV e b:Value)(g:Ξ)(a d:Value)(us:Θ),us.length=ps.length->bindArgs (PySem.W.fnOf x am (jW st) (fL st) (bH st) .none kV e b g a d) ⟨us,[]⟩=pure (ps.zip us)):Bu K x am st ps f :=
 ⟨_,EG l c k,i kV e b g a d⟩
section
variable{X:Cx}{k:Nat}{f C B:Addr}{ps:Φ}{sp:Sp}{x m:Str}{p O ah:Pos}{e o:Expr}{Z:xw}{ta:TE}{t:TA}{Ex:Value->Ξ->L2.St->Hp->Prop}
def Fy(C:Addr)(m:Str)(sp:Sp)(ta:TE)(t:TA):TE:=λG H Q=>ta G H λx Y=>∃a c b,x=.ref a/\Y a=some (.ins C c b)/\b.lookup m=none/\t G Y λvs d=>sp (x::vs) d Q E0
abbrev zS(X:Cx):=OkI X.prog X.w X.K X.mg X.base
def ac5(l:PE X o ta)(c:Cls X.K C)(j:Meth X.K C m f)(b:zS X bb k f ps sp)(i:dX k X.A)(p:PA X (e::Z) t)
 (z:zw X e Z:=by rfl)(B:zb X O Z:=by rfl)
 (g:eval (.Call (.Attribute o m ah) (e::Z) [] O) X.env=(do
   let d <- eval o X.env
   standAt ah.atName
   let(f,first) <- holding [d] (getMethod d m pl)
   callWith O f first (backTo O (starEach (e::Z) X.env)) (backToKw O (keywordEach [] X.env))):=by rfl) :
  PE X (.Call (.Attribute o m ah) (e::Z) [] O) (Fy C m sp ta t):=by
 obtain⟨fd,F,n⟩:=b;refine(afG (pl:=pl) l.mono c j F i n .nil MJ p.mono z B g).imp λG H Q h=>⟨_,h,?_⟩;rintro x Y ⟨a,y,w,v,u,s,r⟩;refine⟨a,y,w,v,u,s,_,r,λvs D q=>?_⟩;show sp (x::(vs++[])) D Q E0;rwa[append_nil]
def abn(j:PE X o ta)(c:Cls X.K C)(i:Meth X.K C m f)(b:zS X bb k f ps sp)(g:dX k X.A)
 (e:eval (.Call (.Attribute o m ah) [] [] O) X.env=(do
   let d <- eval o X.env
   standAt ah.atName
   let(f,first) <- holding [d] (getMethod d m pl)
   callWith O f first (backTo O (starEach [] X.env)) (backToKw O (keywordEach [] X.env))):=by rfl) :
  PE X (.Call (.Attribute o m ah) [] [] O) (Fy C m sp ta ie):=by
 obtain⟨fd,F,l⟩:=b;refine(ac7 (pl:=pl) j.mono c i F g l .nil MJ e).imp λG H Q h=>⟨_,h,?_⟩;rintro x Y ⟨a,t,s,r,q,p,n⟩;exact⟨a,t,s,r,q,p,n⟩
def Wf{O:Pos}(b:Gl X x)(a:X.mg x=some (.ref D))(hd:zz x:=by decide):PE X (.Name x O) (tC (.ref D)):=ZX b a rfl hd
end
def mu(a:Addr)(o:Obj)(kvs:wx):It:=⟨λi H=>H a=some (.frz o (.dK kvs))/\i<kvs.length,λi H v W=>∃k y t,kvs[i]?=some (k,y)/\H t=none/\v=.ref t/\W=upd H t (.tup [kV k,y]),λi H=>H a=some (.frz o (.dK kvs))/\i=kvs.length⟩
def Mv:entryFor table "dict_itemiterator.__iter__"=some Builtin.«dict_keyiterator.__iter__»:=entryFor_alias (id' :="dict_keyiterator.__iter__") (by kernel_rfl) rfl (by decide +kernel) (by kernel_rfl)
def YF{a d:Addr}{n e:Nat}{c b:Value}{Q:Ε}(st:IsItemIter s.heap a d i n e c b)(q:Q (.ref a) s):wpAny (model P w) A (pyIter (.ref a)) Q E s:=by
 have ty:s.TypeIs (.ref a) "dict_itemiterator":=⟨_,st,rfl⟩;exact wpAny_pyIter_slot ty F.slot_dict_itemiterator_iter (wpAny_call_entry F.slot_dict_itemiterator_iter ty Mv (ZT ⟨_,rfl,"dict_itemiterator",_,ty,F.slot_dict_itemiterator_next.lookup,q⟩) (F.args_dict_itemiterator_iter_1 _))
def G5{a:Obj}(e:(h.push o).get? b=some a)(c:b≠h.objs.size):h.get? b=some a:=by
 obtain⟨f,d⟩:=Heap.get?_some_iff.mp e;refine Heap.get?_some_iff.mpr ⟨?_,d⟩;cases h;simpa[Heap.push,Array.getElem?_push,c]using f
def X6{S}(c a:Addr)(o:Obj)(kvs:wx)(vs:List (bh×Value))(R:Nat)(l:KV kvs vs)(Q:∀h:Heap,h.get? a=some o->h.DictAt (gH P w) a vs R) :
  Turn P w K (.Tuple br S O) (mu a o kvs) [c] c (λi h=>∃j g,IsItemIter h c a i vs.length R j g) where
 mem:=by simp
 obj:=by
  rintro i h ⟨j,g,st⟩ b d;have e:b=c:=by simpa using d
  subst e;exact⟨_,st,λv z=>by cases z⟩
 keep:=λi h h' ⟨j,g,st⟩ k=>⟨j,g,k c vy _ st⟩
 item:=by
  intro X A hw B hc i U s G H E I x st f;subst A hw B;obtain⟨j,g,st⟩:=st;obtain⟨f,eK⟩:=f;obtain⟨t,_⟩:=(show fG X.prog X.w H s.heap a (.frz o (.dK kvs))from I.hok a _ f);obtain⟨m,J,f2,F,D,C⟩:=x c vy;obtain⟨⟨k,y⟩,M⟩ : ∃p,kvs[i]?=some p:=⟨kvs[i],by simp[eK]⟩;obtain⟨u,Y,V⟩:=l.at M;refine wpAny_pyNext_items_item st (Q _ t) Y λn h' gv out Z hz hk=>⟨_,rfl,?_⟩;refine wpAny_letOwnedTupleGo_items out λh2 gN T=>?_;have W:H s.zs=none:=I.fresh;have L:c≠s.zs:=aQ (aK st);have I1:=I.laid (a:=s.zs) (o:=.tup [kV k,y]) (h':=s.heap.push { cls:=.type "tuple",data:=.seq #[n,u] }) (t':=s.toks) (λb q z=>aH _ z) (aG _)
   ⟨(by show 2<=sizeLine;decide),[n,u],.cons (C7 gv) (.cons V .nil),_,aW _ rfl,rfl,_,rfl⟩
  have I2:=I1.turned (it:=c) (h':=h2) (t':=s.toks) (λb r d e=>by
   refine(T.2 b d).trans ?_;by_cases N:b=s.zs
   .subst N;have e2:=aW s.heap (o:={ cls:=.type "tuple",data:=.seq #[n,u] }) rfl;have e:(s.heap.push { cls:=.type "tuple",data:=.seq #[n,u] }).get? s.zs=some r:=e;rw[e2]at e;cases e;exact Z
   .exact hk b _ d (G5 e N)) ((bY L).trans m) J F D C
  exact⟨.ref _,_,I2,rfl,⟨k,y,_,M,W,rfl,rfl⟩,⟨_,_,gN⟩,λb d=>by
   have e:b=c:=by simpa using d
   subst e;exact(bY L).trans m⟩
 done:=by
  intro X A hw B hc i U s G H E I x st f;subst A hw B;obtain⟨j,g,st⟩:=st;obtain⟨f,rfl⟩:=f;obtain⟨t,_⟩:=(show fG X.prog X.w H s.heap a (.frz o (.dK kvs))from I.hok a _ f);obtain⟨m,J,f2,F,D,C⟩:=x c vy;have hl:=l.length;exact wpAny_pyNext_items_end (I.ok.hd hc) st (Q _ t) (by simp;exact WG (Eq.symm hl)) λh' eb=>⟨rfl,I.turned (t':=s.toks) (λb r d e=>eb b r d e) m J F D C⟩
 self:=λ_ _ _ _ _ ⟨_,_,st⟩ h=>YF st h
def Sc(te:TE):TI:=λG H R=>te G H λx Y=>∃a kvs,x=.ref a/\Y a=some (.dK kvs)/\∀o,R (mu a o kvs) (upd Y a (.frz o (.dK kvs)))
def aeS{C}{N:Pos}(L:PE X l tl)(i:attributeBase l "items" X.env (eval l X.env)=eval l X.env)(K:zC ah O):PI X (.Tuple br C N) (.Call (.Attribute l "items" ah) [] [] O) (Sc tl):=by
 intro U s G H R I h;refine wpAny_Call_method (T:="dict") (id:="dict.items") i rfl K PySem.F.plainAttrs_dict PySem.F.slot_dict_items PySem.F.type_dict_items (ag (L U s G H _ I h) λv c M=>?_);obtain⟨x,Y,B,D,a,kvs,f,y,q⟩:=M;subst f;cases D;have E:=(show fG X.prog X.w Y c.heap a (.dK kvs)from B.hok a _ y);obtain⟨z,hd,vs,d,o,Z,j,e,f,p,n,k,m⟩:=E;have A:∀h:Heap,h.get? a=some o->h.DictAt (gH X.prog X.w) a vs j:=λh e=>⟨o,Z,e,f,p,n,k,m⟩;have P:Inv X U G (upd Y a (.frz o (.dK kvs))) c:=by
  have:=B.write (x:=a) (e:=a) (o:=.frz o (.dK kvs)) (h':=c.heap) (t':=c.toks) (by rw[y];exact True.intro) (.inl rfl) (λb u i z=>z) ⟨o,e⟩ ⟨e,z,hd,vs,d,o,Z,j,e,f,p,n,k,m⟩;exact this
 have g:c.heap.DictOf (gH X.prog X.w) a vs:=⟨o,Z,j,e,f,p,n,k,m⟩;refine⟨g.typeIs,g.mapOf.noDict,?_⟩;refine method_meetsIn PySem.F.slot_dict_items PySem.F.entry_dict_items rfl (PySem.evalArgs_none ⟨rfl,g.typeIs,PySem.F.args_dict_items_1 _,_,meets_dict_items (gH X.prog X.w) a hd,⟨vs,g⟩,?_⟩);have r:Inv X U G (upd Y a (.frz o (.dK kvs))) { c with heap:=c.heap.push { cls:=.type "dict_items",data:=.fields #[.ref a] } }:=P.kept (t':=c.toks) λb J z=>aH _ z;refine wpAny_pyIter_items ⟨_,aW _ rfl,rfl,rfl⟩ (A _ (aH _ e)) ?_;refine⟨_,[_],_,mu a o kvs,_,rfl,r.kept (t':=c.toks) λb J z=>aH _ z,X6 _ a o kvs vs j d A,⟨_,_,aW _ rfl⟩,λb i=>?_,q o⟩;rw[YR.mp i];exact r.fpOk (aG _) (r.hok.fresh (aG _))
theorem V9:∀{c:Φ}{vs:Θ},zK (c.map V.str) vs->StrsAre vs c
 |[],_,h=>by cases h;exact .nil
 |y::c,_,h=>by
  rw[map_cons]at h;cases h with
  |cons a b =>
   obtain⟨t,rfl⟩:=a;exact .cons y t (V9 b)
def rJoin:V->Ζ->Hp->VK->Prop:=λx vs H Q=>∃a l b,x=.str a/\vs=[.ref l]/\H l=some (.lst (b.map V.str))/\(b.map (·.length)).sum+b.length*a.length<=16777216/\Q (.str (Txt.join a b)) H
def _Z:l_ X "str.join" rJoin:=by
 intro U s G H x vs v us Q I b c h;obtain⟨a,l,j,rfl,rfl,i,g,q⟩:=h;obtain⟨t,rfl⟩:=b;obtain⟨u,rfl,d⟩:=c.one;cases d;obtain⟨_,f,n,r,_,e⟩:=I.lstM i;exact join_list ⟨_,e,rfl,n,rfl⟩ (by simpa using V9 r) g λm k=>⟨.str _,H,I.tok _,⟨_,rfl⟩,q⟩
def aeQ{q:Nat}{f:Str}{g K:Pos}{I n:Φ}(E:U9 X J I ext fn)(hc:X.calm)(S:Qa I X.N=n)(c8:J.kind=.function)(dk:∀y∈J.names,y.2=.local->J.names.lookup y.1=some .local)
 (cK:∀y∈J.names,y.2=.free->X.env.kindOf y.1=some .cell\/X.env.kindOf y.1=some .free)(gu:∀y∈X.N,y∉I->(relabel J X.env).names.lookup y≠some .local)(r:∀y∈X.N,y∈I->(relabel J X.env).names.lookup (hid y)=none)(W:PI X tg iter wi)
 (hg:∀C c d k pn,PG (X.compE ext fn n J I C c d k pn) tg gt)(T:∀C c d k pn,PTs (X.compE ext fn n J I C c d k pn) aI tc)(he:∀C c d k pn,PE (X.compE ext fn n J I C c d k pn) be te)(g9:PG X (.Name f g) (xQ q))(g6:swapsWith (.ListComp be [⟨tg,iter,aI,0⟩] J O) (some (.Name f g)) K.line X.env=pure true)(V:zh X iter) :
  PS X (.Assign [.Name f g] (.ListComp be [⟨tg,iter,aI,0⟩] J O) K) (ip (tU wi I.length gt tc te) (xQ q)):=by
 intro U s G H u a h;have h:tU wi I.length gt tc te G H (λx Y=>xQ q x G Y u.nx):=h;rw[exec_Assign_Name_used _ _ _ _ g6];refine ZU (wpAny_standAt (ZU ?_));show wpAny _ X.A (comprehension (.ListComp be [⟨tg,iter,aI,0⟩] J O) J X.env _ (newList []) false (eval iter X.env) (some (assign (.Name f g) X.env)) >>= λ_=>_) _ _ s;refine ZU (wpAny_mono (Pj (use:=some (assign (.Name f g) X.env)) (post:=λ_ B=>SP X U u .next B) E hc S c8 dk cK gu r W hg T he V a h λC D Hc w m fl F I6 l P=>?_) (λ_ B r=>ZT (ZT r)) λ_ _ e=>e);obtain⟨oc,Z,ep,t,Q,_⟩:=id F;have I7:=I6.pinned (fp:=[C]) (λb j=>by rwa[YR.mp j]) λb j=>by
  rw[YR.mp j];exact⟨oc,t,λv z=>by rw[Q]at z;cases z⟩
 show wpAny _ X.A (assign (.Name f g) X.env _) _ _ w;refine ag (g9 _ w G Hc (.ref D) _ u.nx I7 rfl P) λ_ M hP=>?_;obtain⟨p,H7,L,R⟩:=hP;have i:=L.pin (C,oc) (aP _ (aP _ (sy vy t)));refine⟨m,F.at' λo e=>?_,λh' f7=>⟨p,H7,L.unpinned.turned (it:=C) (h':=h') (t':=M.toks) (λb o j e=>(f7.2 b j).trans e) i.2.1 l.2.1 l.2.2.2.1 l.2.2.2.2.1 l.2.2.2.2.2,R⟩⟩;rw[t]at e;cases e;exact i.1
def Inv.turnedL{t':Nat}{ch:Ψ}(I:Inv X U G H s)(k:∀b o,b∉ch->s.heap.get? b=some o->h'.get? b=some o)(a:∀b∈ch,I8 X U H b):Inv X U G H { s with heap:=h',toks:=t' }:=by
 have f:∀b u,H b=some u->b∉ch:=λb u e z=>by rw[(a b z).1]at e;cases e
 refine I.step (g':=s.gens) (d':=s.drawn) (ch:=ch) (λb d=>⟨(a b d).2.2.2.1,(a b d).2.1,(a b d).2.2.2.2.1,(a b d).2.2.2.2.2⟩) (λb o _ _ hc e _=>k b o hc e) (λb o _ _ hc e _=>⟨o.slots,k b o hc e⟩) (λ_ _ _ _ n=>n) (λb o hc e=>⟨o,k b o hc e⟩) (λ_ _ e=>e) (λ_ _ _ e=>e) (λb ps e=>⟨#[],by rw[e];simp⟩) (λm i=>?_) (λb u e=>?_) I.bare
 .obtain⟨o,Z,j,h,r⟩:=i;exact⟨o,Z,j,k _ o (λz=>(a _ z).2.1 rfl) h,r⟩
 .refine(I.hok b u e).stay (λc v hc q=>k c v ?_ q) (λ_ q=>q) λ_ _ q=>q;rcases hc with z|z
  .rw[z];exact f b u e
  .exact f c _ z
def pS(a b:Addr):It:=⟨λi H=>∃I c,H a=some (.lst I)/\H b=some (.lst c)/\i<I.length/\i<c.length,λi H v W=>∃I c x y t,H a=some (.lst I)/\H b=some (.lst c)/\I[i]?=some x/\c[i]?=some y/\H t=none/\v=.ref t/\W=upd H t (.tup [x,y]),λi H=>∃I c,H a=some (.lst I)/\H b=some (.lst c)/\(I.length<=i\/c.length<=i)⟩
def qG{g:Heap}{l:Addr}(x:h.IsListIter a l i)(k:∀o,h.get? a=some o->g.get? a=some o):g.IsListIter a l i:=by obtain⟨o,e,r⟩:=x;exact⟨o,k o e,r⟩
def Ur{vs:Θ} : zK I vs->∀{i:Nat}{x:V},I[i]?=some x->∃u,vs[i]?=some u/\zP x u:=by
 intro h
 induction h with
 |nil=>intro i x e;cases e
 |cons a b c =>
  intro i x e;cases i with
  |zero=>rw[List.getElem?_cons_zero]at e;cases e;exact⟨_,rfl,a⟩
  |succ i=>rw[List.getElem?_cons_succ]at e ⊢;exact c e
def acA{x1}(z TI TO l j Y W:Addr)(D:ZipApart z TI TO l j Y W) :
  Turn P w K (.Tuple br x1 O) (pS Y W) [z,TI,TO,l,j] z (λi h=>IsZip h z TI TO .none/\IsPair h TI (.ref l) (.ref j)/\(∃p q,IsPair h TO p q)/\h.IsListIter l Y i/\h.IsListIter j W i) where
 mem:=by simp
 obj:=by
  rintro i h ⟨g,m,⟨p,q,B⟩,⟨o4,A,_,d4⟩,⟨o5,t,_,d5⟩⟩ b f;simp only[YU,UV,or_false]at f;rcases f with rfl|rfl|rfl|rfl|rfl
  .exact⟨_,g,λv e=>by cases e⟩
  .exact⟨_,m,λv e=>by cases e⟩
  .exact⟨_,B,λv e=>by cases e⟩
  .exact⟨_,A,λv e=>by rw[d4]at e;cases e⟩
  .exact⟨_,t,λv e=>by rw[d5]at e;cases e⟩
 keep:=λi h h' ⟨g,m,⟨p,q,B⟩,A,t⟩ k=>⟨k z vy _ g,k TI vy _ m,⟨p,q,k TO vy _ B⟩,qG A (k l vy),qG t (k j vy)⟩
 item:=by
  intro X hP hw hK hc i U s G H E d J st hg;subst hP hw hK;obtain⟨g,m,⟨p,q,B⟩,A,t⟩:=st;obtain⟨I,r,L,f,oy,S⟩:=hg;obtain⟨_,gi,R,ia,V,g1⟩:=d.lstM L;obtain⟨_,Z,Q,nX,T,g2⟩:=d.lstM f;have ex:I[i]?=some I[i]:=aj oy;have ey:r[i]?=some r[i]:=aj S;obtain⟨u,hu,ru⟩:=Ur ia ex;obtain⟨v,hv,rv⟩:=Ur nX ey;refine wpAny_pyNext_zip_item D g m B A t (xs:=gi.toArray) (ys:=Z.toArray) ⟨_,g1,rfl,R,rfl⟩ ⟨_,g2,rfl,Q,rfl⟩ (x:=u) (y:=v) (by simpa using hu) (by simpa using hv) λh' a1 a2 a3 a4 a5 a6 a7=>⟨_,rfl,?_⟩;refine wpAny_letOwnedTupleGo_zip a1 λh2 gN sb=>?_;have nt:H s.zs=none:=d.fresh;have I1:=d.laid (a:=s.zs) (o:=.tup [I[i],r[i]]) (h':=s.heap.push { cls:=.type "tuple",data:=.seq #[u,v] }) (t':=s.toks) (λb q z=>aH _ z) (aG _)
   ⟨(by show 2<=sizeLine;decide),[u,v],.cons ru (.cons rv .nil),_,aW _ rfl,rfl,_,rfl⟩
  have nz:z≠s.zs:=aQ (aK g);have nO:TO≠s.zs:=aQ (aK B);have nI:TI≠s.zs:=aQ (aK m);have oj:l≠s.zs:=by obtain⟨o,e,_⟩:=A;exact aQ (aK e)
  have N:j≠s.zs:=by obtain⟨o,e,_⟩:=t;exact aQ (aK e)
  have l6:∀b∈[z,TI,TO,l,j],upd H s.zs (.tup [I[i],r[i]]) b=none:=by
   intro b f;have C:=(J b f).1;simp only[YU,UV,or_false]at f;rcases f with rfl|rfl|rfl|rfl|rfl
   .exact(bY nz).trans C
   .exact(bY nI).trans C
   .exact(bY nO).trans C
   .exact(bY oj).trans C
   .exact(bY N).trans C
  have I2:=I1.turnedL (ch:=[z,TO,l,j]) (h':=h2) (t':=s.toks) (λb M f e=>by
   simp only[YU,UV,or_false,not_or]at f;obtain⟨b1,b2,b3,b4⟩:=f;refine(sb.2 b b1).trans ?_;by_cases hs:b=s.zs
   .subst hs;have e2:=aW s.heap (o:={ cls:=.type "tuple",data:=.seq #[u,v] }) rfl;have e:(s.heap.push { cls:=.type "tuple",data:=.seq #[u,v] }).get? s.zs=some M:=e;rw[e2]at e;cases e;exact a5
   .exact a7 b _ b1 b2 b3 b4 (G5 e hs)) λb f=>by
    have c9:b∈[z,TI,TO,l,j]:=by
     simp only[YU,UV,or_false]at f ⊢;rcases f with h|h|h|h<;>simp[h]
    exact⟨l6 b c9,(J b c9).2⟩
  have F:∀c o,c≠z->h'.get? c=some o->h2.get? c=some o:=λc o n e=>(sb.2 c n).trans e;exact⟨.ref _,_,I2,rfl,⟨I,r,_,_,_,L,f,ex,ey,nt,rfl,rfl⟩,⟨gN,F _ _ D.TIz (a7 _ _ D.TIz D.TITO D.TIi1 D.TIi2 m),⟨_,_,F _ _ D.TOz a2⟩,qG a3 λo e=>F _ _ D.i1z e,qG a4 λo e=>F _ _ D.i2z e⟩,l6⟩
 done:=by
  intro X hP hw hK hc i U s G H E d J st hg;subst hP hw hK;obtain⟨g,m,⟨p,q,B⟩,A,t⟩:=st;obtain⟨I,r,L,f,lt⟩:=hg;obtain⟨_,gi,R,ia,V,g1⟩:=d.lstM L;obtain⟨_,Z,Q,nX,T,g2⟩:=d.lstM f;refine wpAny_pyNext_zip_end (d.ok.hd hc) D g m B A t (xs:=gi.toArray) (ys:=Z.toArray) ⟨_,g1,rfl,R,rfl⟩ ⟨_,g2,rfl,Q,rfl⟩ (by simp;lia) λh' k=>⟨rfl,d.turnedL (ch:=[z,TO,l,j]) (t':=s.toks) (λb M f e=>?_) λb f=>?_⟩
  .simp only[YU,UV,or_false,not_or]at f;exact k b M f.1 f.2.1 f.2.2.1 f.2.2.2 e
  .exact J b (by
    simp only[YU,UV,or_false]at f ⊢;rcases f with h|h|h|h<;>simp[h])
 self:=λ_ _ _ _ _ ⟨g,_⟩ h=>wpAny_pyIter_zip g h
def abN(n b a:Nat)(d:b<n)(c:a<n):ZipApart (n+4) (n+2) (n+3) n (n+1) b a:=by
 constructor<;>first|exact aQ (by omega)|exact Up vw
def _J(n b:Nat)(h:b=n+4\/b=n+2\/b=n+3\/b=n\/b=n+1):n<=b:=by lia
def boot_zip:bootBuiltins "zip"=some (.type "zip"):=by decide +kernel
def y8(ta:TA):TI:=λG H R=>ta G H λvs Y=>∃a b I c,vs=[.ref a,.ref b]/\Y a=some (.lst I)/\Y b=some (.lst c)/\R (pS a b) Y
def FS{a b:Expr}{w}{V:Pos}(M:Gl X "zip")(L:X.mg "zip"=none)(N:PA X [a,b] ta)(K:starEach [a,b] X.env=[(false,eval a X.env),(false,eval b X.env)]:=by rfl)(l:starEach [b] X.env=[(false,eval b X.env)]:=by rfl) :
  PI X (.Tuple br w V) (.Call (.Name "zip" p) [a,b] [] O) (y8 ta):=by
 intro U s G H R c h;refine Call_ (Di c M L boot_zip (PyProof.Rows.callWith_type1 (ag (N O U s G H _ c h) λus d P=>?_) (by rw[K,l]) (by rw[l];rfl)));obtain⟨vs,Y,f,z,A⟩:=P;obtain⟨i,g,I,t,e,S,Q,q⟩:=A;subst e;obtain⟨u,v,rfl,y,x⟩:=z.two;cases y;cases x;obtain⟨_,T,D,ia,F,g1⟩:=f.lstM S;obtain⟨_,J,C,nX,E,k⟩:=f.lstM Q;have r:=aK g1;have o:=aK k;refine call_zip_2 (xs:=T.toArray) (ys:=J.toArray) ⟨_,g1,rfl,D,rfl⟩ ⟨_,k,rfl,C,rfl⟩ λh' n a2 a3 a4 Z a6 W=>?_;refine wpAny_pyIter_zip n ?_;refine⟨_,[d.zs+4,d.zs+2,d.zs+3,d.zs,d.zs+1],_,pS i g,Y,rfl,f.kept (t':=d.toks) λb B e=>W b B e,acA _ _ _ _ _ i g (abN _ _ _ r o),⟨n,a2,⟨_,_,a3⟩,a4,Z⟩,λb j=>?_,q⟩;have m:d.zs<=b:=by
  simp only[YU,UV,or_false]at j;exact _J _ _ j
 exact f.fpOk m (f.hok.fresh m)
def abC{g:TG}{tb:TS}{D:Ends}(h:ta G H λvs Y=>∃a b I f,vs=[.ref a,.ref b]/\Y a=some (.lst I)/\Y b=some (.lst f)/\I.length=f.length/\∃J:Nat->L2.St->Hp->Prop,J 0 G Y /\
   (∀k x y c W t,I[k]?=some x->f[k]?=some y->J k c W->W a=some (.lst I)->W b=some (.lst f)->W t=none->g (.ref t) c (upd W t (.tup [x,y])) λo N=>tb { D with nx:=λd i=>i a=some (.lst I)/\i b=some (.lst f)/\J (k+1) d i,ct:=λd i=>i a=some (.lst I)/\i b=some (.lst f)/\J (k+1) d i,bk:=D.nx } o N) /\
   ∀c W,J I.length c W->W a=some (.lst I)->W b=some (.lst f)->D.nx c W):AN (y8 (p4 ta)) g tb D G H:=by
 refine⟨_,h,?_⟩;rintro vs Y ⟨a,b,I,f,rfl,s,r,E,J,C,step,p⟩;refine⟨a,b,I,f,rfl,s,r,λk m c W=>k<=I.length/\m=I.length-k/\W a=some (.lst I)/\W b=some (.lst f)/\J k c W,⟨_,aZ _,rfl,s,r,C⟩,?_⟩;rintro k m c W ⟨F,rfl,l,n,j⟩;by_cases e:k=I.length
 .subst e;exact .inl ⟨⟨I,f,l,n,.inl (aG _)⟩,p c W j l n⟩
 .have q:k<I.length:=by exact XX F e
  refine .inr ⟨⟨I,f,l,n,q,by exact aR q (WG E)⟩,λd i=>i a=some (.lst I)/\i b=some (.lst f)/\J (k+1) d i,λd i ⟨B,A,z⟩=>⟨I.length-(k+1),by lia,by exact q,rfl,B,A,z⟩,?_⟩;rintro v Q ⟨R,P,x,y,t,w,u,M,L,K,rfl,rfl⟩;rw[l]at w;rw[n]at u;cases w;cases u;exact step k x y c W t M L j l n K
def ku(b J:Scope):Scope:={ J with names:=J.names.map λ(n,k)=>if(k==NameKind.free&&b.kind == .function&&b.names.lookup n==some .cell)then(n,NameKind.cell)else(n,k) }
theorem GU(c:Nat):∀(n:Nat)(a:Array Nat),((replicate n #[c]).foldl (· ++ ·) a).toList=a.toList++replicate n c
 |0,a=>by simp
 |n+1,a=>by
  rw[replicate_succ,foldl_cons,GU c n,Array.toList_append,Wp]
  rfl
def OV:R2:=λx y H Q=>∃c n,x=.str ⟨#[c]⟩/\y=.int n/\1<=n/\n<=1000/\∀z:Str,z.cps.toList=replicate n.toNat c->Q (.str z) H
def _T:OpR X (binaryOp .Mult) OV:=by
 intro U s G H x y v u Q I i g h;obtain⟨c,n,rfl,rfl,l,k,q⟩:=h;obtain⟨t,rfl⟩:=i;obtain⟨j,rfl⟩:=g;have b:(⟨#[c]⟩ : Str).length=1:=rfl;have a:∀z:Str,z.cps.toList=replicate n.toNat c->(Made.str z).post (EP X U G Q) s:=λz d=>⟨by
  have:z.length=n.toNat:=by
   show z.cps.size=_;rw[<- Array.length_toList,d,aN]
  exact aL (show z.length<=1001 by lia) vk,.str z,H,I.tok _,⟨_,rfl⟩,q z d⟩
 refine PySem.P.mul_str ?_ (λ_ _=>?_) (λ_ _=>?_) ?_
 .rw[Zp vw,Zp vw];rfl
 .rw[b];have:1<=(2^63-1:Int)/n:=Int.le_ediv_of_mul_le (by omega) vw;lia
 .rw[b];unfold Builtin.Str.tooLong;exact Zp (by
   have:n.toNat<=1000:=by lia
   have e:1000<=sizeLine:=by decide
   lia)
 .split
  .lia
  .split
   .rename_i f
    rw[b]at f;have e:n.toNat=1:=by
     simp at f;lia
    refine⟨.str ⟨#[c]⟩,H,I,⟨t,rfl⟩,q _ ?_⟩;rw[e];rfl
   .refine a _ ?_;show((replicate n.toNat #[c]).foldl (· ++ ·) #[]).toList=_;rw[GU];rfl
def Cx.compGC(X:Cx)(a:Φ)(J:Scope)(x0:Str)(C:Addr)(s₀:Shared)(H₀:Hp)(ex:Ψ)(pn:Δ):Cx :=
 { X with env:=compEnvC J ((x0,C+1)::vA X.env.cells J.names []) C X.env,N:=[x0]++a,s₀:=s₀,H₀:=H₀,outer:=X.stack,ex:=ex,fn:=λz=>z==x0,pn:=pn,xe:=λ_ _=>False }
theorem BK{env:Env}{x0:Str} : ∀{a:wv}{y:Str},y≠x0->((a.map λ(n,k)=>if(k==NameKind.free&&env.scope.kind == .function&&env.kindOf n==some .cell)then(n,NameKind.cell)else(n,k)).lookup y=some .cell \/
  (a.map λ(n,k)=>if(k==NameKind.free&&env.scope.kind == .function&&env.kindOf n==some .cell)then(n,NameKind.cell)else(n,k)).lookup y=some .free)->(∀z∈a,z.2=.cell->z.1=x0)->(y,NameKind.free)∈a
 |[],y,_,h,_=>by rcases h with h|h<;>cases h
 |(n,k)::r,y,d,h,hc=>by
  have f:=@BK env x0 r y d;have g:∀z∈r,z.2=.cell->z.1=x0:=λz i=>hc z (aJ _ i);simp only[map_cons]at h;by_cases b:(k==NameKind.free&&env.scope.kind == .function&&env.kindOf n==some .cell)
  .rw[ZY b]at h;have j:k=.free:=by
    simp only[JS,beq_iff_eq]at b;exact b.1.1
   subst j;simp only[lookup_cons]at h;cases c:y==n with
   |true=>rw[show y=n by simpa using c];exact aO
   |false=>rw[c]at h;exact aJ _ (f h g)
  .rw[ZZ b]at h;simp only[lookup_cons]at h;cases c:y==n with
   |true =>
    have e:y=n:=by simpa using c
    rw[c]at h;rcases h with h|h
    .cases h;exact absurd (e.trans (hc (n,.cell) aO rfl)) d
    .cases h;rw[e];exact aO
   |false=>rw[c]at h;exact aJ _ (f h g)
def Ny{a:Addr}{j:xB}{outer:Env}{Q:Env->Shared->Prop}(r:∀n d,cellsFrom n J.names d=(x0,n)::d)(t:∀h,pushCells h J.names=h.push { cls:=.type "cell",data:=.cell none })
 (q:∀g,g.Ns s.zs (λx=>([] : xD).reverse.lookup x)->g.IsCell (s.zs+1) none->(∀b o,s.heap.get? b=some o->g.get? b=some o)->Q (newEnv J s.zs a ((x0,s.zs+1)::j) am none .none (some outer) builtinsNs) { s with heap:=g,toks:=s.toks+([] : xD).length }) :
  wpAny M A (newFunctionEnv J a j [] am none .none (some outer)) Q E s:=by
 simp only[newFunctionEnv,Option.isSome_some,if_true];refine ZU (wpAny_alloc ?_);refine ZU (wpAny_layCells _ (λl c i=>by cases f:c==NameKind.cell<;>simp[f]) _ _ _ _ ?_);rw[r,t];have k:(s.heap.push { cls:=.type "dict",data:=.dict #[] }).objs.size=s.zs+1:=Heap.size_push ..;show wpAny _ _ (forIn ([] : xD) _ _ >>= _) _ _ _;rw[List.forIn_nil];refine ZU (ZT (ZT ?_));have p:=aW (s.heap.push { cls:=.type "dict",data:=.dict #[] }) (o:={ cls:=.type "cell",data:=.cell none }) rfl;rw[k]at p;show Q (newEnv J s.zs a ((x0,(s.heap.push { cls:=.type "dict",data:=.dict #[] }).objs.size)::j) am none .none (some outer) builtinsNs) _;rw[k];exact q _ ((Heap.Ns.new s.heap (.type "dict")).at' λo e=>aH _ e) ⟨_,p,rfl⟩ λb o e=>aH _ (aH _ e)
def ZF{y:Str}{d c:Addr}(e : [(x0,d)].lookup y=some c):y=x0/\c=d:=by
 rw[lookup_cons]at e;cases a:y==x0 with
 |true=>rw[a]at e;cases e;exact⟨by simpa using a,rfl⟩
 |false=>rw[a]at e;cases e
def ext1(j:∀n a,cellsFrom n J.names a=(x0,n)::a)(k:∀h,pushCells h J.names=h.push { cls:=.type "cell",data:=.cell none })(d:∀y∈J.names,y.2=.cell->y.1=x0):U9 X J [x0] (λC=>[(x0,C+1)]) (λz=>z==x0) :=
 ⟨λi=>Ny j k λg l p f=>i g l (λy c e=>by rwa[(ZF e).2]) f,λC y c e=>by rw[(ZF e).2];exact X0 _,λC y z c o m=>(ZF o).1.trans (ZF m).1.symm,λC y e=>⟨C+1,by rw[beq_iff_eq.mp e];exact List.lookup_cons_self⟩,λC y e=>by
  rw[lookup_cons,beq_eq_false_iff_ne.mpr λz=>e (by rw[z];simp)]
  rfl,λC y e=>by
  by_cases b:y=x0
  .exact .inl ⟨C+1,by rw[b];exact List.lookup_cons_self⟩
  .exact .inr (BK b e d)⟩
def OG:Ζ->Hp->VK->Prop:=λI H Q=>∃(l:Addr)(a:xo),I=[.ref l]/\H l=some (.lst (a.map V.bl))/\Q (.bl (a.any id)) H
theorem xP:∀a:xo,((range a.length).any λi=>(a[i]?).getD true)=a.any id
 |[]=>rfl
 |b::a=>by
  rw[length_cons,List.range_succ_eq_map,any_cons,UH,any_cons];have:=xP a;simp only[Function.comp_def,List.getElem?_cons_succ,List.getElem?_cons_zero,getD_some,id]at this ⊢;rw[this]
def abP(hc:X.calm):jE X (.builtin "any") OG:=by
 intro U s G H I us Q a r h;obtain⟨l,d,rfl,n,q⟩:=h;obtain⟨u,rfl,k⟩:=r.one;cases k;obtain⟨c,f,p⟩:=a.lstIs n;have x:l<s.zs:=by obtain⟨_,e,_⟩:=p;exact aK e
 refine call_any_walk (wpAny_pyIter_list p ?_);refine⟨s.zs,[s.zs,l],[s.zs],c.toArray.size,_,_,λi=>(d[i]?).getD true,rfl,Walks.list (A:=X.A.in1) (a.ok.hd hc) _ l (aQ x) c.toArray,
  ⟨⟨_,aW _ rfl,rfl,rfl⟩,p.push _⟩,λi v y z B w g=>?_,λh' j t=>?_⟩
 .obtain⟨b,e,rfl⟩:=Gw f i v (by simpa using w);simp only[e,getD_some]at g;exact wpAny_truthy_bool g
 .have e:((range c.toArray.size).any λi=>(d[i]?).getD true)=d.any id:=by
   rw[aX,<- f.length,ak];exact xP d
  refine⟨.bl (d.any id),H,a.kept (t':=j) λb o q=>t b o (λm=>?_) (aH _ q),?_,q⟩
  .rw[YR.mp m]at q;exact X2 _ (aK q)
  .rw[e];rfl
def pT(l:Addr):It:=⟨λi H=>∃I,H l=some (.lst I)/\i<I.length,λi H v W=>∃I x t,H l=some (.lst I)/\I[i]?=some x/\H t=none/\v=.ref t/\W=upd H t (.tup [.int i,x]),λi H=>∃I,H l=some (.lst I)/\I.length<=i⟩
def aa8{Z}(e m l:Addr)(T:e≠m) :
  Turn P w K (.Tuple br Z O) (pT l) [e,m] e (λi h=>(∃g,IsEnum h e m ((i:Nat):Int) g)/\h.IsListIter m l i) where
 mem:=by simp
 obj:=by
  rintro i h ⟨⟨g,j⟩,⟨o4,p,_,d4⟩⟩ b f;simp only[YU,UV,or_false]at f;rcases f with rfl|rfl
  .exact⟨_,j,λv e=>by cases e⟩
  .exact⟨_,p,λv e=>by rw[d4]at e;cases e⟩
 keep:=λi h h' ⟨⟨g,j⟩,p⟩ k=>⟨⟨g,k e vy _ j⟩,qG p (k m vy)⟩
 item:=by
  intro X J hw L hc i U s G H E d r st F;subst J hw L;obtain⟨⟨g,j⟩,p⟩:=st;obtain⟨I,t,oy⟩:=F;obtain⟨_,M,B,D,C,g1⟩:=d.lstM t;have W:I[i]?=some I[i]:=aj oy;obtain⟨u,hu,ru⟩:=Ur D W;refine wpAny_pyNext_enum_item j p (items:=M.toArray) ⟨_,g1,rfl,B,rfl⟩ (x:=u) (by simpa using hu) T λh' a1 a3 a5 a6 a7=>⟨_,rfl,?_⟩;refine wpAny_letOwnedTupleGo_enum a1 λS gN N=>?_;have nt:H s.zs=none:=d.fresh;have I1:=d.laid (a:=s.zs) (o:=.tup [.int i,I[i]]) (h':=s.heap.push { cls:=.type "tuple",data:=.seq #[.int i s.toks,u] }) (t':=s.toks+1) (λb q z=>aH _ z) (aG _)
   ⟨(by show 2<=sizeLine;decide),[.int i s.toks,u],.cons ⟨_,rfl⟩ (.cons ru .nil),_,aW _ rfl,rfl,_,rfl⟩
  have nz:e≠s.zs:=aQ (aK j);have oj:m≠s.zs:=by obtain⟨o,e,_⟩:=p;exact aQ (aK e)
  have Q:∀b∈[e,m],upd H s.zs (.tup [.int i,I[i]]) b=none:=by
   intro b f;have V:=(r b f).1;simp only[YU,UV,or_false]at f;rcases f with rfl|rfl
   .exact(bY nz).trans V
   .exact(bY oj).trans V
  have I2:=I1.turnedL (ch:=[e,m]) (h':=S) (t':=s.toks+1) (λb A f z=>by
   simp only[YU,UV,or_false,not_or]at f;obtain⟨Y,b3⟩:=f;refine(N.2 b Y).trans ?_;by_cases R:b=s.zs
   .subst R;have e2:=aW s.heap (o:={ cls:=.type "tuple",data:=.seq #[.int i s.toks,u] }) rfl;have z:(s.heap.push { cls:=.type "tuple",data:=.seq #[.int i s.toks,u] }).get? s.zs=some A:=z;rw[e2]at z;cases z;exact a5
   .exact a7 b _ Y b3 (G5 z R)) λb f=>⟨Q b f,(r b f).2⟩
  have mv:∀c o,c≠e->h'.get? c=some o->S.get? c=some o:=λc o n z=>(N.2 c n).trans z;exact⟨.ref _,_,I2,rfl,⟨I,_,_,t,W,nt,rfl,rfl⟩,⟨⟨_,by rwa[Int.natCast_add]⟩,qG a3 λo z=>mv _ _ (λy=>T y.symm) z⟩,Q⟩
 done:=by
  intro X J hw L hc i U s G H E d r st F;subst J hw L;obtain⟨⟨g,j⟩,p⟩:=st;obtain⟨I,t,lt⟩:=F;obtain⟨_,M,B,D,C,g1⟩:=d.lstM t;have hl:=D.length;refine wpAny_pyNext_enum_end (d.ok.hd hc) j p (items:=M.toArray) ⟨_,g1,rfl,B,rfl⟩ (by simp;lia) λh' k=>⟨rfl,d.turnedL (ch:=[e,m]) (t':=s.toks) (λb A f z=>?_) r⟩;simp only[YU,UV,or_false,not_or]at f;exact k b A f.2 z
 self:=λ_ _ _ _ _ ⟨⟨_,j⟩,_⟩ h=>wpAny_pyIter_enum j h
def PD(ta:TA):TI:=λG H R=>ta G H λvs Y=>∃a I,vs=[.ref a]/\Y a=some (.lst I)/\R (pT a) Y
def _W{a:Expr}{l}{E:Pos}(y:Gl X "enumerate")(x:X.mg "enumerate"=none)(A:PA X [a] ta)(w:starEach [a] X.env=[(false,eval a X.env)]:=by rfl) :
  PI X (.Tuple br l E) (.Call (.Name "enumerate" p) [a] [] O) (PD ta):=by
 intro U s G H R c h;refine Call_ (Di c y x boot_enumerate (PyProof.Rows.callWith_type1 (ag (A O U s G H _ c h) λus d B=>?_) (by rw[w];rfl) (by rfl)));obtain⟨vs,Y,f,n,o⟩:=B;obtain⟨g,I,e,C,q⟩:=o;subst e;obtain⟨u,rfl,m⟩:=n.one;cases m;obtain⟨_,D,t,K,v,g1⟩:=f.lstM C;refine call_enumerate_list (items:=D.toArray) ⟨_,g1,rfl,t,rfl⟩ λh' k J L F=>?_;refine wpAny_pyIter_enum k ?_;refine⟨_,[d.zs+1,d.zs],_,pT g,Y,rfl,f.kept (t':=d.toks) λb r e=>F b r e,aa8 _ _ g (Nat.succ_ne_self _),⟨⟨_,k⟩,J⟩,λb i=>?_,q⟩;have j:d.zs<=b:=by
  simp only[YU,UV,or_false]at i;rcases i with z|z
  .rw[z];exact Xs _
  .rw[z];exact aG _
 exact f.fpOk j (f.hok.fresh j)
def HI(P:Program)(w:World)(K:Frag)(mg:Str->Ω)(base:Heap)(k:Nat)(f:Addr)(ps:Φ)(sp:Sp):Prop:=∃fd,fD P w K mg base bb k f fd ps sp/\Binds K fd ps []/\keepIn K (.ref f)
def OkF.val(G:OkF P w K mg base k x ps sp):∃f,mg x=some (.ref f)/\HI P w K mg base k f ps sp :=
 let⟨f,fd,F,b,c,a⟩:=G
 ⟨f,c,fd,F,b,a⟩
def Tl(f:Addr)(sp:Sp)(tv:TE)(t:TA):TE:=λG H Q=>tv G H λv a=>v=.ref f/\t G a λvs Y=>sp vs Y Q E0
def afA(a:HI X.prog X.w X.K X.mg X.base k f ps sp)(m:dX k X.A)(l:PE X (.Name x p) tv)(y:PA X (e::Z) t)
 (o:zw X e Z:=by rfl)(z:zb X O Z:=by rfl):PE X (.Call (.Name x p) (e::Z) [] O) (Tl f sp tv t):=by
 obtain⟨fd,F,b,n⟩:=a;intro U s G H Q I h;refine wpAny_Call_Name_kw (ag (l U s G H _ I h) ?_);rintro u g ⟨v,B,d,i,rfl,j⟩;cases i;refine callWith_K (h₀:=X.base) d.ok.mod.kin n (ag (y O U g G B _ d j) λus C ⟨vs,Y,c,r,q⟩=>⟨c.kIn,?_⟩) o z;refine M9 F m b .nil MJ c r ?_;rwa[append_nil]
section
variable{prog:Program}{w:World}{A:Around}{E:Ε}{h:Heap}{g:wn}{d:Drawn}{t:Nat}{os:OsState}{nm q:Str}{C N:Addr}{bs bm mT:Θ}{hG:Bool}{sn:Φ}{sub:Θ}{ab:Bool}{col:wr}{dd:Ξ}{k0 k1 k2 k3 k5:Ω}{B fe gp:String}
abbrev PL(h:Heap)(C:Addr)(us:Θ):Heap:=(h.push { cls:=.type "tuple",data:=.seq us.toArray }).push { cls:=.ref C,data:=.fields #[.ref h.objs.size,.none,.none,.none,.bool false,.none] }
def Ie(b:Addr)(o:Obj)(e:h.get? b=some o):(PL h C us).get? b=some o:=aH _ (aH _ e)
def Ou(F:ExcBaseFacts B fe gp mT)(T:OwnTail h mT bm){i:Obj}{Q:Fin->Shared->Prop}(a:h.get? C=some (excClassObj nm q C N bs bm hG sn sub ab col dd k0 k1 k2 k3 k5 fe))(l:h.Ns N mN)(n:mN "__init__"=some (.ref fI))(o:h.get? fI=some i)(p:i.cls=.type "function")(m:us.length<=sizeLine)
 (k:wpAny (model prog w) A (call (.ref fI) (.ref (h.objs.size+1)::us)) (λr f=>r=.none/\Q (.done (.ret (.ref (h.objs.size+1)))) f) E ⟨PL h C us,g,d,t,os⟩):wpAny (model prog w) A (Builtin.«type.__call__» ⟨.ref C::us,[]⟩) Q E ⟨h,g,d,t,os⟩:=by
 have K:=Ie (h:=h) (C:=C) (us:=us);have j:=K _ _ a;have u:=T.keeps K;have c:(PL h C us).get? (h.objs.size+1)=some { cls:=.ref C,data:=.fields #[.ref h.objs.size,.none,.none,.none,.bool false,.none] }:=by heap_get
 have b:(Value.ref C::bm).contains (.ref C):=by simp
 repeat (first|with_reducible refine wpAny_loadPart_at a ?_|with_reducible refine wpAny_madeBy_exc a ?_|wp_step)
 refine codeAny_call_builtin_code (Code.quiet_builtin _ F.quiet) (wpAny_check_new_subT F T a (codeAny_exc_new_subT F T a ?_ m));show wpAny _ _ _ _ _ _;unfold isInstance
 repeat (first|with_reducible refine wpAny_loadPart_at c ?_|(with_reducible refine wpAny_isSubtype_exc j ?_;rw[b])|wp_step)
 show wpAny _ _ (typeLookup (.ref C) _) _ _ _;refine wpAny_typeLookup_tail j (l.keeps K) u F.mroIs F.init.lookup ?_;rw[n];refine wpAny_holding (ZU ?_);unfold bindSpecial;refine ZU (wpAny_typeOf (T:="function") ⟨_,K _ _ o,p⟩ ?_);rw[ZY vk];refine ZT (ZU (wpAny_mono k (λr f s=>?_) λ_ _ x=>x));obtain⟨e,z⟩:=s;subst e
 wp_walk
 exact z
def acV(F:ExcBaseFacts B fe gp mT)(T:OwnTail h mT bm){b:Obj}{Q:Ε}(a:h.get? C=some (excClassObj nm q C N bs bm hG sn sub ab col dd k0 k1 k2 k3 k5 fe))(f:h.Ns N mN)(j:mN "__init__"=some (.ref fI))(k:h.get? fI=some b)(l:b.cls=.type "function")(i:us.length<=sizeLine)
 (e:wpAny (model prog w) (A.under (.builtin "type.__call__" ⟨.ref C::us,[]⟩)) (call (.ref fI) (.ref (h.objs.size+1)::us)) (λr c=>r=.none/\Q (.ref (h.objs.size+1)) c) E ⟨PL h C us,g,d,t,os⟩):wpAny (model prog w) A (call (.ref C) us) Q E ⟨h,g,d,t,os⟩:=by
 have o:=tc_lookup;have n:=tc_bind (.ref C);have m:(⟨h,g,d,t,os⟩ : Shared).TypeIs (.ref C) "type":=⟨_,a,rfl⟩;refine wpAny_call (codeAny_of_tree ?_);show wpAny _ _ (callAny (.ref C) _) _ _ _
 repeat (any_goals (first|assumption|with_reducible refine wpAny_loadPart_at a ?_|wp_step))
 exact⟨rfl,codeAny_call_builtin_at (Code.quiet_builtin _ (by decide +kernel)) entry_typeCall (wpAny_check_type_call_sub a (Ou F T a f j k l i e))⟩
end
noncomputable def Qy:Θ->Bool
 |.ref _::l=>Qy l
 |l=>l==fK
def Xq{a:Value}{l:Θ}(h:Qy l):refuseLoop a "__setattr__" l=pure ():=by
 induction l with
 |nil=>cases h
 |cons x l b =>
  cases x with
  |ref C=>rw[refuseLoop_ref];exact b h
  |type n =>
   have e:Value.type n::l=fK:=beq_iff_eq.mp h;rw[e];exact PySem.F.store_ValueError.passes a
  |_=>exact absurd (beq_iff_eq.mp h) (by intro z;cases z)
structure js(K:Frag)(C:Addr):Prop where
 cd:∃cd,clsIn K C=some cd/\cd.hasDict/\Qy cd.mro
 sa:findIn K (.ref C) "__setattr__"=some (some (.builtin "object.__setattr__"))
 mo:mroIn K C (.type "object")=some true
variable{x HE:Addr}{f:Str}{v:Value}{ox:Obj}
def _V(X:K.In s.heap)(S:js K C)(n:cu K C f)(h:s.heap.get? x=some ox)(hc:ox.cls=.ref C)(hd:ox.dict=none)(j:ox.data=.fields vs)
 (O:∀h' D,h'.Ns1 s.zs (λy=>if y=f then some v else none)->h'.get? x=some { ox with dict:=some s.zs }->(∀b,b≠x->b≠s.zs->h'.get? b=s.heap.get? b)->Q () ⟨h',s.gens,s.drawn,D,s.os⟩):wpAny (model prog w) A (setAttr (.ref x) f v) Q E s:=by
 obtain⟨cd,B,l,P⟩:=S.cd;have J:PySem.W.InstAt s.heap x ox C none:=⟨h,hc,by unfold notCls;rw[j],by rw[hd];trivial⟩;have e:=PySem.F.store_object;refine set_plain X J S.sa ?_;have sub:PySem.W.Looks (model prog w) s.heap (isInstance (.ref x) (.type "object")) true:=J.type.andThen (looks_mroIn X S.mo);have q:PySem.W.Looks (model prog w) s.heap (mroOf (.ref C)) cd.mro:=(looks_clsIn X B).andThen .now;generalize u:({ s with toks:=s.toks+1 } : Shared)=s1;have o:s1.heap=s.heap:=by rw[<- u]
 rw[<- o]at sub q X J;refine codeAny_call_builtin e.slot.plain e.entry (@PySem.W.check_slot (model prog w) _ _ s1 "object.__setattr__" "object" "__setattr__" (.ref x) [.str f s.toks,v] [] _ e.kind e.split sub (e.args (.ref x) (.str f s.toks) v) ?_);rw[PySem.W.osa_eq,refuse_eq];refine ZU (ZU (J.type.here (ZU (q.here ?_))));rw[Xq P];refine ZT (ZU (J.type.here (ZU ((looks_findIn X n).here (ZU (ZT ?_))))));have c:s1.heap.get? x=some ox:=by rwa[o]
 obtain⟨oc,L,M,eC⟩:=ox;dsimp only at hc hd j;subst hc hd j;refine ZU (ZT (ZU (ZU (wpAny_loadPart c (ZU ((looks_clsIn X B).here ?_))))));rw[l,ZZ vy,ZZ (by simp[typeHasDict])];have U:=u;obtain⟨Z,gg,dr,V,os⟩:=s1;dsimp only at c o ⊢;cases U;have a:x≠s.zs:=aQ (aK h);refine ZU (wpAny_alloc' (ZU (wpAny_update' (aH _ h) (ZT ?_))));generalize k:(s.heap.push { cls:=.type "dict",data:=.dict #[] }).update x _=m;have H:m.get? s.zs=some { cls:=.type "dict",data:=.dict #[] }:=by
  rw[<- k];exact(Heap.get?_update_ne _ _ _ _ a.symm).trans (Heap.get?_push_at rfl rfl)
 have q2:m.get? x=some { cls:=.ref C,dict:=some s.zs,data:=.fields vs,slots:=eC }:=by
  rw[<- k];exact Heap.get?_update_self _ (aH _ h) rfl
 have q3:∀b,b≠x->b≠s.zs->m.get? b=s.heap.get? b:=λb i g=>by
  rw[<- k];exact(Heap.get?_update_ne _ _ _ _ i).trans (Heap.get?_push_ne _ _ _ g)
 dsimp only;unfold Builtin.ObjectAttr.storeInDict Builtin.ObjectAttr.newKeyGuard;refine ZU (ZT (ZU (wpAny_nsSet1 (Heap.Ns1.of_empty ⟨_,#[],_,H,rfl,λ_ z=>absurd z vy,λ_=>rfl⟩) λh' t r=>?_)));obtain⟨Y,R,T,I,G,N⟩:=t.count (Within.cons f v Within.nil);refine ZU (wpAny_lookBehind I (by rw[G];exact pastItsLine_dict (aL N (by rw[length_cons,List.length_nil,sizeLine_eq];exact Nat.le_add_left _ _))) ?_)
 wp_walk
 exact O h' _ t ((r.2 x a).trans q2) λb i g=>(r.2 b g).trans (q3 b i g)
structure Q8(K:Frag)(C HE fI:Addr):Prop where
 ex:∃nm qn N bs sn sub ab col dd k0 k1 k2 k3 k5,K.lookup C=some (excClassObj nm qn C N bs (.ref HE::fK) true sn sub ab col dd k0 k1 k2 k3 k5 "ValueError.__new__")/\nsOkIn K N/\nsIn K N "__init__"=some (some (.ref fI))
 he:n5 K HE
 fn:∃o,K.lookup fI=some o/\o.cls=.type "function"
 kp:keepIn K (.ref C)
def _n{N:Addr}{m:Str->Ω}(X:K.In h)(G:h.Ns N m)(e:nsIn K N n=some (some v)):m n=some v:=by
 obtain⟨o,Z,d,a,hd,_,b⟩:=G;rw[<- b];unfold nsIn at e;split at e
 .rename_i q
  cases(X _ _ q).symm.trans a;cases hd;unfold nsFind findBy;rw[<- Array.find?_toList];split at e
  .rename_i f c
   cases e;rw[c];rfl
  .split at e<;>cases e
 .cases e
def Q8.obj(q:Q8 K C HE fI)(X:K.In h):∃f e N p d sub r c n m k j i g mN o,h.get? C=some (excClassObj f e C N p (.ref HE::fK) true d sub r c n m k j i g "ValueError.__new__") /\
  h.Ns N mN/\mN "__init__"=some (.ref fI)/\h.get? fI=some o/\o.cls=.type "function"/\OwnTail h fK (.ref HE::fK):=by
 obtain⟨f,e,N,p,d,sub,r,c,n,m,k,j,i,g,l,a,b⟩:=q.ex;obtain⟨o,lo,E⟩:=q.fn;obtain⟨M,P,w,v,I,O,u,s,J,t,L,D,B,A,z,y,x,H,G,F,T⟩:=_f X q.he;exact⟨f,e,N,p,d,sub,r,c,n,m,k,j,i,g,_,o,X _ _ l,.of_isNs (isNs_of_in X a),_n X (.of_isNs (isNs_of_in X a)) b,X _ _ lo,E,.own H G F .base⟩
abbrev Wu(C t:Addr)(d:Ξ):Obj:={ cls:=.ref C,dict:=d,data:=.fields #[.ref t,.none,.none,.none,.bool false,.none] }
def XN(a C:Addr)(d:Ξ):HO:=.ext λh=>∃t,h.get? a=some (Wu C t d)
def o2{t:Addr}{d:Ξ}(e:h.get? a=some (Wu C t d)):fG P w H h a (XN a C d):=⟨⟨t,e⟩,⟨_,e⟩,λ_ _ ⟨u,z⟩ k=>⟨u,k _ z⟩⟩
def kX{d:Ξ}(e:fG P w H h a (XN a C d)):∃t,h.get? a=some (Wu C t d):=e.1
def So{o:HO}(e:H a=some o):upd H a o=H:=by
 funext b;unfold upd;split
 .rename_i z;rw[z,e]
 .rfl
structure o6(K:Frag)(B:Addr):Prop where
 ga:specialIn K (.ref B) "__getattribute__"=some (some (.builtin "type.__getattribute__"))
 rd:readsIn K B (.type "type")
 at_:findCls K (.ref B) (.type "type") "__init__"=some (.val (.builtin "ValueError.__init__"))
section
variable{X:Cx}{B C HE fI:Addr}{x:Str}{p O ah:Pos}{e:Expr}{Z:xw}{t:TA}{U:Δ}{G:L2.St}{H:Hp}{s:Shared}
def init_exc{Q:Ε}(I:Inv X U G H s)(q:Q8 X.K C HE fI)(d:H a=some (XN a C none))(P:us.length<=sizeLine)
 (h:∀f,Inv X U G H f->Q .none f):wpAny (model X.prog X.w) A (call (.builtin "ValueError.__init__") (.ref a::us)) Q E s:=by
 obtain⟨y,p,N,bs,m,sub,ab,l,Z,O,M,L,D,B,mN,o,k,V,R,S,r,T⟩:=q.obj I.kIn;obtain⟨u,g⟩:=kX (I.hok a _ d);have F:=PySem.F.excBase_ValueError;obtain⟨c,W,Y,j,os⟩:=s;refine wpAny_call (codeAny_call_builtin F.init.plain F.initEntry (wpAny_check_init_subT F T k g rfl ?_))
 wp_walk
 refine h _ ?_;have i:(c.push { cls:=.type "tuple",data:=.seq us.toArray }).get? a=some (Wu C u none):=aH _ g;have J:=I.write (x:=a) (e:=a) (o:=XN a C none) (t':=j) (h':=(c.push { cls:=.type "tuple",data:=.seq us.toArray }).update a (Obj.mapFields λx=>x.setIfInBounds 0 (Value.ref c.objs.size))) (by rw[d];trivial) (.inl rfl)
  (λb v n z=>(Heap.get?_update_other _ _ (Ne.symm n)).trans (aH _ z)) ⟨_,Heap.get?_update_self _ i rfl⟩ (o2 (t:=c.objs.size) (Heap.get?_update_self _ i rfl))
 rwa[So d]at J
def Se(C:Addr)(t:TA):TE:=λG H Q=>t G H λvs Y=>∃a b,vs=.ref a::b/\Y a=some (XN a C none)/\b.length<=sizeLine/\Q .non Y
def aeA(c:o6 X.K B)(q:Q8 X.K C HE fI)(l:Gl X x)(k:X.mg x=some (.ref B))(m:PA X (e::Z) t)(w:zz x:=by decide)
 (v:zw X e Z:=by rfl)(y:zb X O Z:=by rfl)
 (j:eval (.Call (.Attribute (.Name x p) "__init__" ah) (e::Z) [] O) X.env=(do
   let b <- eval (.Name x p) X.env
   standAt ah.atName
   let(f,first) <- holding [b] (getMethod b "__init__" pl)
   callWith O f first (backTo O (starEach (e::Z) X.env)) (backToKw O (keywordEach [] X.env))):=by rfl) :
  PE X (.Call (.Attribute (.Name x p) "__init__" ah) (e::Z) [] O) (Se C t):=by
 intro U s G H Q I h;refine methodCall_KW (pl:=pl) (sY I l k (method_cls I.kIn c.ga (cls_value I.kIn c.rd c.at_ vk ?_)) w) j;show wpAny _ _ (callWith O (.builtin "ValueError.__init__") [] (backTo O (starEach (e::Z) X.env)) []) _ _ _;have d:=m O U _ G H _ (I.tok (s.toks+1)) h;rw[v]at d ⊢;refine PySem.W.callWith_of (P:=λ_=>True) (by show((false || (backTo O (starEach Z X.env)).any (·.1)) || false)=false;rw[y];rfl) (λ_ _=>⟨.machine,.inr (.inl rfl),.now⟩) (Calls.evalArgs_plain (ag d λus E ⟨vs,A,z,r,a,D,u,o,L,n⟩=>⟨trivial,?_⟩));subst u;cases r with
 |cons i g =>
  cases i;exact init_exc z q o (by rwa[<- g.length]) λF J=>⟨.non,A,J,rfl,n⟩
end
variable{v:V}{ta:TE}
def abh(I:Inv X U G H s)(e:H a=some (XN a C none))(c:js X.K C)(n:cu X.K C f)(r:zP v u)
 (h:∀d k,H d=none->d≠a->Inv X U G (upd (upd H a (XN a C (some d))) d (.xd [(f,v)])) k->Q () k):wpAny (model X.prog X.w) A (setAttr (.ref a) f u) Q E s:=by
 obtain⟨t,B⟩:=kX (I.hok a _ e);have l:H s.zs=none:=I.hok.fresh (aG _);have m:s.zs≠a:=(aQ (aK B)).symm;refine _V I.kIn c n B rfl rfl rfl λh' j F y D=>h s.zs _ l m ?_;have J:=I.write (x:=a) (e:=a) (o:=XN a C (some s.zs)) (t':=j) (h':=h') (by rw[e];trivial) (.inl rfl) (λb w z q=>(D b z (aQ (aK q))).trans q) ⟨_,y⟩ (o2 y);refine J.track ((bY m).trans l) (Heap.get?_none_of_le I.sz) (Up I.lt) (λx c q z=>?_) (λp q z=>?_) ⟨_,F,λg=>?_⟩
 .obtain⟨w,o,i,_⟩:=I.cell x c q;rw[z]at i;exact X2 _ (aK i)
 .have i:=(I.pin p q).1;rw[z]at i;exact X2 _ (aK i)
 .by_cases z:g=f
  .subst z;simp[List.lookup];exact r
  .have:(g==f)=false:=by simp[z]
   simp[List.lookup,this,z]
   trivial
def Pd(K:Frag)(ta tv:TE)(f:Str):TS:=λD G H=>tv G H λy Y=>ta G Y λx b=>∃a C,x=.ref a/\b a=some (XN a C none)/\js K C/\cu K C f/\∀d,b d=none->d≠a->D.nx G (upd (upd b a (XN a C (some d))) d (.xd [(f,y)]))
def afM{o:Expr}(l:PE X o ta)(j:PE X ax tv)(k:swapsWith ax (some (.Attribute o f a8)) O.line X.env=pure false):PS X (.Assign [.Attribute o f a8] ax O) (Pd X.K ta tv f):=by
 intro U s G H D I h;refine plainObj_wpAny_Assign_Attribute (ag (j U s G H _ I h) λu b ⟨y,Y,A,e,q⟩=>ag (l U b G Y _ A q) λi E m=>?_) k;obtain⟨x,F,z,g,a,C,t,v,c,n,q2⟩:=m;subst t;obtain rfl:i=Value.ref a:=g;exact abh z v c n e λd B r p w=>⟨G,_,w,q2 d r p⟩
def Inv.madeE(I:Inv X U G H s):Inv X U G (upd H (s.zs+1) (XN (s.zs+1) C none)) { s with heap:=PL s.heap C us } :=
 I.laid (a:=s.zs+1) (o:=XN (s.zs+1) C none) (h':=PL s.heap C us) (t':=s.toks) Ie (Xs _) (o2 (t:=s.zs) (by heap_get))
def acf{vs:Ζ}{Q:Addr->Hp->Prop}(q:Q8 X.K C HE fI)(F:fD X.prog X.w X.K X.mg X.base bb k fI fd ps sp)(z:dX (k+1) X.A)(J:Binds X.K fd ps [])
 (I:Inv X U G H s)(r:zK vs us)(B:us.length<=sizeLine)(h:∀x,H x=none->sp (.ref x::vs) (upd H x (XN x C none)) (λv S=>v=.non/\Q x S) E0) :
  wpAny (model X.prog X.w) X.A (call (.ref C) us) (λu f=>∃a W,u=.ref a/\X.s₀.zs<=a/\Inv X U G W f/\Q a W) X.xe s:=by
 obtain⟨nm,Z,N,bs,Y,sub,ab,P,dd,k0,k1,k2,k3,k5,mN,o,M,L,D,E,y,T⟩:=q.obj I.kIn;have l:=h (s.zs+1) (I.hok.fresh (Xs _));have c:=I.madeE (C:=C) (us:=us);have j:zK (V.ref (s.zs+1)::vs) (Value.ref (s.zs+1)::us):=.cons rfl r;have i:(Value.ref (s.zs+1)::us++[]).length=ps.length:=by
  rw[append_nil,<- j.length];exact F.len _ _ _ _ l
 have n:=J _ (Value.ref (s.zs+1)::us) c.kIn i;rw[append_nil]at n;have sz:=I.sz;obtain⟨m,g,d,t,os⟩:=s;refine acV PySem.F.excBase_ValueError T M L D E y B (wpAny_call (codeAny_mono (F.run _ X.stack _ _ ⟨Value.ref (m.objs.size+1)::us,[]⟩ _ _ _ E0 (z.make C us []) (c.env0.make C us []) n j l) λr f b=>?_));cases r with
 |error e=>exact MJ U G _ _ e f c b
 |ok fl =>
  cases fl with
  |ret u =>
   obtain⟨v,W,R,p,O,q3⟩:=c.after b;subst O;exact⟨p,m.objs.size+1,W,rfl,Nat.le_succ_of_le sz,R,q3⟩
  |next=>exact False.elim b
  |brk=>exact False.elim b
  |cont=>exact False.elim b
def out(H:Hp)(a:Addr):Hp:=λb=>if b=a then none else H b
def W_ : out H a a=none:=by unfold out;rw[ZY rfl]
def yp(n:b≠a):out H a b=H b:=by unfold out;rw[ZZ n]
def Vk{o:HO}(e:out H a b=some o):b≠a/\H b=some o:=by
 by_cases z:b=a
 .subst z;rw[W_]at e;cases e
 .exact⟨z,by rw[yp z]at e;exact e⟩
section
variable{X:Cx}{U:Δ}{G:L2.St}{H:Hp}{s:Shared}{a C:Addr}{B h':Heap}{d:Ξ}
def Inv.flyMade(f:Inv X U G H s)(F:X.ex=[])(e:H a=some (XN a C d))(sz:X.s₀.zs<=a)(N:B=hideAll (s.heap.hide a) (cs X.stack))(fl:xR B X.outer a (.ref C) d .none h')(A:s.heap.UpToSlots h') :
  Fly X.prog X.w X.outer X.H₀ X.s₀ a (.ref C) (out H a) { s with heap:=h' } B d:=by
 have j:∀b o,b≠a->s.heap.get? b=some o->b∉cs X.stack->B.get? b=some o:=λb o n q m=>by rw[N];exact hideAll_get _ ((Heap.hide_ne _ n).trans q) m
 have K:∀b u,H b=some u->b∉cs X.stack:=λb u q z=>by rw[f.stkFree b z]at q;cases q
 have trk:∀b u o,b≠a->H b=some u->s.heap.get? b=some o->B.get? b=some o:=λb u o n q r=>j b o n r (K b u q);have E:∀b,H b=none->b≠a:=λb q z=>by rw[z,e]at q;cases q
 have D:∀b∈cs X.stack,∀o,s.heap.get? b=some o->∀vs,o.data≠.fields vs:=λb g o q=>by
  obtain⟨_,l,k,z⟩:=f.stack.mem g;rw[q]at k;cases k;exact z
 have hok:HOk X.prog X.w (out H a) h':=λb u q=>by
  obtain⟨n,q⟩:=Vk q;refine(f.hok b u q).stay (λc v hc r=>?_) (λc r=>?_) λc I r=>?_
  .rcases hc with z|z
   .subst z;exact fl.1 c v (trk c u v n q r)
   .exact fl.1 c v (trk c _ v (Mh z e (by intro z;cases z)) z r)
  .rw[yp (Mh r e (by intro z;cases z))];exact r
  .rw[yp (Mh r e (by intro z;cases z))];exact r
 have un:Un (cs X.stack) [a] H (out H a) s.heap h':=by
  refine⟨λb o q n g _=>fl.1 b o (j b o (E b n) q g),λb o q n g _=>A b o q (D b g o q),λb o _ n _=>by rw[yp (E b n)];exact n,λb o q g=>?_,λb I q=>?_,λb o u q=>?_,λb ps q=>⟨#[],?_⟩⟩
  .by_cases m:b∈cs X.stack
   .obtain⟨P,r⟩:=A b o q (D b m o q);exact⟨_,r⟩
   .exact⟨o,fl.1 b o (j b o (by simpa using g) q m)⟩
  .rw[yp (Mh q e (by intro z;cases z))];exact q
  .rw[yp (Mh q e (by intro z;cases z))];exact q
  .rw[yp (Mh q e (by intro z;cases z)),q];simp
 have J:Inv X U G (out H a) { s with heap:=h' }:=f.call' (s':={ s with heap:=h' }) (ch:=[a]) rfl un hok f.bare λb g=>by
  obtain rfl:b=a:=by simpa using g
  exact⟨.inr sz,(λz=>by have:=f.free;rw[<- z,e]at this;cases this),(λx c q z=>by have:=f.freeC x c q;rw[z,e]at this;cases this),(λp L z=>by have:=(f.pin p L).2.1;rw[z,e]at this;cases this)⟩
 have t:∀b o,X.s₀.heap.get? b=some o->b≠a:=λb o q z=>X2 a (aR (z ▸ aK q) sz);refine⟨J.os,J.bare,Heap.get?_none_of_le sz,by have:=J.base;rw[F]at this;exact this,J.hok,λb g=>?_,fl,λb o q g hc=>?_⟩
 .obtain⟨_,o,M,_⟩:=f.ok.funs.mem g;exact J.base.free b o M (f.ok.frf b g) λz=>f.ok.exfs b z g
 .have i:∀v,B.get? b=some v->B.get? b=some o:=λv y=>by
   have O:=fl.1 b v y;rw[show({ s with heap:=h' } : Shared).heap.get? b=h'.get? b from rfl,O]at q;cases q;exact y
  rcases hc with⟨u,r⟩|⟨u,r⟩
  .obtain⟨⟨v,z⟩,n⟩:=f.old F r;exact i v (j b v (t b u r) z (f.nostk n g))
  .obtain⟨n,r⟩:=Vk r;obtain⟨l,k⟩:=(f.hok b u r).there;exact i l (trk b u l n r k)
end
def Yz(X:Cx)(b:Value->Ξ->L2.St->Hp->Prop):Prop :=
 ∀U G H s a C d,Inv X U G H s->H a=some (XN a C d)->X.s₀.zs<=a->b (.ref C) d G (out H a)->X.xe (.ref a) s
variable{f:Addr}{E:XK}
def F9:Yz (FZ (el P w) P w K mg base N am J f cd A outer s H E) (λC d _ W=>E C d W):=by
 intro U G Y c a C d I e sz q;show wpAny _ _ (leaving _ (.ref a)) _ _ _;have i:∀env∈(envOfC am J s.zs f cd::outer),∀b,env.frame=some b->b∈cs (envOfC am J s.zs f cd::outer):=λenv g b h=>List.mem_filterMap.mpr ⟨env,g,h⟩;obtain⟨t,k⟩:=kX (I.hok a _ e);have l:(c.heap.hide a).FunFrames base (envOfC am J s.zs f cd::outer):=PySem.W.funFrames_hideAll (as:=[a]) I.stack λenv g b h z=>by
  obtain rfl:b=a:=by simpa using h
  have:=I.stkFree b (i env g b z);rw[e]at this;cases this
 refine abz (base:=hideAll (c.heap.hide a) (cs (envOfC am J s.zs f cd::outer))) (h0:=c.heap.hide a) (outer:=outer) I.ok.frames rfl (λb o q=>of_hideAll _ q) (PySem.W.funFrames_hide l i) (λb o q=>Heap.of_hide q) (Heap.hide_self _ _) k rfl rfl λh' fl j=>?_;exact⟨a,.ref C,d,out Y a,_,rfl,I.flyMade rfl e sz rfl fl j,q⟩
section
variable{prog:Program}{w:World}{A:Around}{E:Ε}{s:Shared}{env:Env}{nm qn:Str}{C N:Addr}{bs bm:Θ}{hd:Bool}{sn:Φ}{sub:Θ}{ab:Bool}{col:wr}{dd:Ξ}{k0 k1 k2 k3 k5:Ω}
def abr{x:Sem Value}{Q:Flow->Shared->Prop}(f:bm.contains (.type "BaseException"))(e:A.handled=none)
 (h:wpAny (model prog w) A x (λv b=>∃a t d,v=.ref a/\b.heap.get? C=some (excClassObj nm qn C N bs bm hd sn sub ab col dd k0 k1 k2 k3 k5 "ValueError.__new__")/\b.heap.get? a=some (Wu C t d)/\E (.ref a) b) E s):wpAny (model prog w) A (raiseStmt env (some x) none) Q E s:=by
 have j:(Value.ref C::bm).contains (.type "BaseException"):=by rw[List.contains_cons,f,Bool.or_true]
 unfold raiseStmt;refine ZU (wpAny_mono h (λv b z=>?_) λ_ _ z=>z);obtain⟨a,t,d,rfl,c,g,i⟩:=z;obtain⟨l,m,n,k,os⟩:=b
 repeat (first|with_reducible refine wpAny_loadPart_at g ?_|with_reducible refine wpAny_loadPart_at c ?_|(with_reducible refine wpAny_isSubtype_exc c ?_;rw[j])|wp_step)
 exact wpAny_raiseNew_none e i
end
section
variable{X:Cx}{x:Str}{np af O:Pos}{e₀:Expr}{rest:xw}{ta:TA}{C HE fI:Addr}{Ex:Value->Ξ->L2.St->Hp->Prop}{k:Nat}{ps:Φ}{sp:Sp}
def YI(C:Addr)(sp:Sp)(Ex:Value->Ξ->L2.St->Hp->Prop)(ta:TA):TS:=λ_ G H=>ta G H λvs Y=>vs.length<=sizeLine/\∀a,Y a=none->sp (.ref a::vs) (upd Y a (XN a C none)) (λv b=>v=.non/\∃d,b a=some (XN a C d)/\Ex (.ref C) d G (out b a)) E0
def abH(hc:X.calm)(hg:Gl X x)(Z:X.mg x=some (.ref C))(q:Q8 X.K C HE fI)(b:zS X bb k fI ps sp)(V:dX (k+1) X.A)(R:Yz X Ex)(ha:PA X (e₀::rest) ta)(bE:zz x:=by decide)
 (he:zw X e₀ rest:=by rfl)(aE:zb X af rest:=by rfl) :
  PS X (.Raise (some (.Call (.Name x np) (e₀::rest) [] af)) none O) (YI C sp Ex ta):=by
 obtain⟨fd,F,hb⟩:=b;intro U s G H D I h;obtain⟨v,p,N,L,n,sub,M,e,J,E,B,z,y,w,mN,o,hC,hN,hi,hf,p5,T⟩:=q.obj I.ok.mod.kin;rw[arm_exec_Raise];refine ZU (wpAny_standAt (abr (C:=C) (nm:=v) (qn:=p) (N:=N) (bs:=L) (bm:=.ref HE::fK) (hd:=true) (sn:=n) (sub:=sub) (ab:=M) (col:=e) (dd:=J) (k0:=E) (k1:=B) (k2:=z) (k3:=y) (k5:=w) (T.hasType vk) (I.ok.hd hc) ?_));refine ZU (ag (Q:=λu f=>∃a W d,u=.ref a/\X.s₀.zs<=a/\Inv X U G W f/\W a=some (XN a C d)/\Ex (.ref C) d G (out W a)) ?_ λu f ⟨a,W,d,m,l,c,g,j⟩=>ZU (wpAny_standAt (ZT ?_)))
 .refine wpAny_Call_Name_kw (sY I hg Z ?_ bE);refine callWith_K (h₀:=X.base) I.ok.mod.kin q.kp (ag (ha af U s G H _ I h) λus f ⟨vs,Y,c,r,hl,P⟩=>⟨c.kIn,?_⟩) he aE;exact ag (acf (Q:=λa i=>∃d,i a=some (XN a C d)/\Ex (.ref C) d G (out i a)) q F V hb c r (by show us.length<=_;rwa[<- r.length]) P) λu s2 hP=>by obtain⟨a,i,m,l,I2,d,g,j⟩:=hP;exact⟨a,i,d,m,l,I2,g,j⟩
 .obtain⟨t,S⟩:=kX (c.hok a _ g);exact⟨a,t,d,m,c.bk _ _ hC,S,R U G W f a C d c g l j⟩
end
variable{f:Str}{od:Option Obj}{E:Ε}{t:Nat}{d:Drawn}
def Xr{i:Tok}{fl b:Bool}{Q:Ε}(X:K.In h)(T:ih K C)(J:PySem.W.InstAt h a o C od)(c:h.get? a=some o)(e:o.cls=.ref C)(m:PySem.W.findObj K C od f=some (.value u))(l:handedIn u)(k:Q u ⟨h,g,d,t,os⟩) :
  wpAny (model prog w) A (getAttrBy (.ref a) (.str f i) fl b) Q E ⟨h,g,d,t,os⟩:=by
 have s:=F.excAttr_ValueError.ga.bind (.ref a);have j:(Value.builtin "BaseException.__getattribute__"== Value.builtin "object.__getattribute__")=false:=by decide +kernel
 have r:(onTheHeap (Value.ref C)&&Value.builtin "BaseException.__getattribute__"== Value.builtin "object.__getattribute__")=false:=by rw[j];exact Bool.and_false _
 have LT:=DG (M:=model prog w) c e;have p:=looks_findIn (M:=model prog w) X T.ga;have n:=looks_findIn (M:=model prog w) X T.gn;have q:=PySem.W.looks_find (M:=model prog w) X J m
 repeat (any_goals (first|assumption|with_reducible refine LT.at ?_|with_reducible refine p.at ?_|with_reducible refine n.at ?_|(with_reducible refine wpAny_loadPart_at c ?_;rw[e])|wp_step))
 rw[ZZ (show ¬(b&&onTheHeap (Value.builtin "BaseException.__getattribute__"))=true from by rw[show onTheHeap (Value.builtin "BaseException.__getattribute__")=false from rfl,Bool.and_false];exact bx)]
 repeat (any_goals (first|assumption|wp_step))
 refine codeAny_call_builtin F.excAttr_ValueError.ga.plain F.entry_bexc_ga (Rb X T c e ?_)
 repeat (any_goals (first|assumption|with_reducible refine LT.at ?_|with_reducible refine q.at ?_|wp_step))
 show wpAny _ _ (handedOut u) _ _ _;rw[PySem.W.handedOut_of l];exact ZT k
variable{d:Addr}{fs:xS}
def abU{b:Bool}{Q:Ε}(I:Inv X U G H s)(e:H a=some (XO a C (some d)))(F:H d=some (.xd fs))(c:ih X.K C)(D:hasDictIn X.K C)(n:cu X.K C f)(l:fs.lookup f=some v)
 (h:∀u i,Inv X U G H i->zP v u->Q u i):wpAny (model X.prog X.w) A (getAttr (.ref a) f b) Q E s:=by
 obtain⟨ox,k,m,hd,vs,x⟩:=(I.hok a _ e).1;obtain⟨p,z,r⟩:=I.hok d _ F;obtain⟨od,N,B⟩:=Qj z;obtain⟨u,y,j⟩:=Ag.some_of (v:=v) (o:=p f) (by rw[<- l];exact r f);have J:PySem.W.InstAt s.heap a ox C (some od):=⟨k,m,by unfold notCls;rw[x],by rwa[hd]⟩;have L:=I.tok (s.toks+1);have q:=I.kIn;obtain⟨M,g,O,t,os⟩:=s;unfold getAttr
 repeat (first|exact Xr q c J k m (findObj_own D n rfl (by rw[B,y])) (Qg j) (h u _ L j)|wp_step)
def D8(K:Frag)(ta:TE)(f:Str):TE:=λG H Q=>ta G H λx Y=>∃a C d fs v,x=.ref a/\Y a=some (XO a C (some d))/\Y d=some (.xd fs)/\ih K C/\hasDictIn K C/\cu K C f/\fs.lookup f=some v/\Q v Y
def _m(i:PE X e ta)(j:zt X e f):PE X (.Attribute e f O) (D8 X.K ta f):=by
 intro U s G H Q I h;refine ZK j (ag (i U s G H _ I h) λu z k=>?_);obtain⟨x,Y,t,b,a,C,d,fs,v,m,p,o,c,hd,n,l,q⟩:=k;subst m;obtain rfl:u=Value.ref a:=b;exact abU t p o c hd n l λw y r g=>⟨v,Y,r,g,q⟩
def ap{P:Φ}{a:Scope}(f:a.kind=.function:=by rfl)(e:a.isCoroutine=false:=by rfl)(d:a.isGenerator=false:=by rfl)(b:N.Nodup/\(∀x∈P,a.names.lookup x=some .local\/a.names.lookup x=some .cell)/\∀y∈a.names,y.2≠.free:=by decide +kernel)(c:N.take P.length=P:=by rfl):bL N P a:=⟨f,e,d,b.1,c,b.2.1,b.2.2⟩
abbrev HU(sc J:Scope)(N N' I:Φ):Prop:=Qa I N=N'/\(∀y∈J.names,y.2=.local->J.names.lookup y.1=some .local)/\(∀y∈J.names,y.2=.free->sc.names.lookup y.1=some .cell\/sc.names.lookup y.1=some .free) /\
 (∀y∈N,y∉I->(J.names.map λ(n,k)=>if(k==NameKind.free&&sc.kind == .function&&sc.names.lookup n==some .cell)then(n,NameKind.cell)else(n,k)).lookup y≠some .local)/\∀y∈N,y∈I->(J.names.map λ(n,k)=>if(k==NameKind.free&&sc.kind == .function&&sc.names.lookup n==some .cell)then(n,NameKind.cell)else(n,k)).lookup (hid y)=none
abbrev CK(sc J:Scope)(N N' I:Φ):Prop:=(∀y∈J.names,y.2≠.cell)/\HU sc J N N' I
def FG(e:Scope)(N d I:Φ)(j:PI X tg iter wi)(k:∀{C a b c pn},PG (X.compG d J I C a b c pn) tg gt)(g:∀{C a b c pn},PTs (X.compG d J I C a b c pn) aI tc)(l:∀{C a b c pn},PE (X.compG d J I C a b c pn) be te)
 (n:X.env.scope=e:=by rfl)(o:X.N=N:=by rfl)(m:X.calm:=by rfl)(f:J.kind=.function:=by rfl)(h:CK e J N d I:=by decide +kernel)(i:zh X iter:=by intro _;rfl):PE X (.ListComp be [⟨tg,iter,aI,0⟩] J O) (tU wi I.length (gw gt) (gm tc) (tM te)) :=
 by
 subst n o;exact Vm (ud f h.1) m h.2.1 f h.2.2.1 h.2.2.2.1 h.2.2.2.2.1 h.2.2.2.2.2 j (λ_ _ _ _ _=>k.mono) (λ_ _ _ _ _=>g.mono) (λ_ _ _ _ _=>l.mono) i
def OA{i j:Int}{d:Ξ}{n:Nat}{b:Array (Ω)}{t u:Tok}(l:K.lookup a=some ⟨.type "tuple",d,.seq #[.int i t,.int j u] n,b⟩):∀H,SqT K H a [.int i,.int j]:=λH=>.inr ⟨_,_,_,l,rfl,rfl,(by show 2<=sizeLine;decide),.cons ⟨_,rfl⟩ (.cons ⟨_,rfl⟩ .nil)⟩
def Kd{x:Str}{i:Int}{t:Tok}(X:K.In h)(G:h.Ns mainGlobals mg)(l:nsIn K mainGlobals x=some (some (.int i t))):∃u,mg x=some u/\zP (.int i) u:=⟨_,mg_of X G l,_,rfl⟩
def me:Nat->(Θ->Prop)->Prop
 |0,P=>P []
 |n+1,P=>∀a,me n λl=>P (a::l)
theorem Uq:∀(n:Nat){P:Θ->Prop},me n P->∀us:Θ,us.length=n->P us
 |0,_,h,[],_=>h
 |n+1,_,h,a::l,e=>Uq n (h a) l (Nat.succ.inj e)
section
variable{K:Frag}{h:Heap}{mg:Str->Ω}{x m am:Str}{v:Value}{C f:Addr}{st:Stmt}{ps:Φ}{oc:Value}{od an:Ξ}{eC:Array (Ω)}{kV bX pm ai ct:Value}{i j:Int}{d:Ξ}{n:Nat}{sl:Array (Ω)}{t u:Tok}
def f0(X:K.In h:=by assumption)(G:h.Ns mainGlobals mg:=by assumption)(e:nsIn K mainGlobals x=some (some v):=by k_is):mg x=some v:=mg_of X G e
def d3(X:K.In h:=by assumption)(G:h.Ns mainGlobals mg:=by assumption)(e:nsIn K mainGlobals x=some none:=by k_is):mg x=none:=PySem.W.mg_none_of X G e
def bw(e:findIn K (.ref C) x=some none:=by k_is):cu K C x:=e
def gx(a:findIn K (.ref C) m=some (some (.ref f)):=by k_is)(b:isFn K (.ref f):=by k_is)(c:keepIn K (.ref f):=by k_is):Meth K C m f:=⟨a,b,c⟩
def iQ(a:makesIn K C:=by k_is)(b:findIn K (.ref C) "__init__"=some (some (.ref f)):=by k_is)(c:isFn K (.ref f):=by k_is)(e:keepIn K (.ref C):=by k_is):Mk K C f:=⟨a,b,c,e⟩
def hT(a:plainGet K C Str.empty:=by k_is)(b:hasDictIn K C:=by k_is)(c:plainOver K C:=by k_is)(e:findIn K (.ref C) "__setattr__"=some (some (.builtin "object.__setattr__")):=by k_is):Cls K C:=⟨a,b,c,e⟩
def qi(a:specialIn K (.ref C) "__getattribute__"=some (some (.builtin "type.__getattribute__")):=by k_is)(b:readsIn K C (.type "type"):=by k_is)(c:findCls K (.ref C) (.type "type") m=some (.val (.ref f)):=by k_is)(e:keepIn K (.ref f):=by k_is):HN K C m f:=⟨a,b,c,rfl,e⟩
def IR(X:K.In h:=by assumption)(G:h.Ns mainGlobals mg:=by assumption)(l:nsIn K mainGlobals x=some (some (.int i t)):=by k_is):∃u,mg x=some u/\zP (.int i) u:=Kd X G l
def qh(l:K.lookup C=some ⟨.type "tuple",d,.seq #[.int i t,.int j u] n,sl⟩:=by k_is):∀H,SqT K H C [.int i,.int j]:=OA l
def ar(b:∀(kV bX pm:Value)(an:Ξ)(ai ct:Value),me ps.length λus=>bindArgs (PySem.W.fnOf x x (jW st) (fL st) (bH st) .none kV bX pm an ai ct) ⟨us,[]⟩=pure (ps.zip us):=by repeat (first|rfl|intro _))(X:K.In h:=by assumption)(G:h.Ns mainGlobals mg:=by assumption)
 (a:nsIn K mainGlobals x=some (some (.ref f)):=by k_is)(l:K.lookup f=some ⟨oc,od,.func (PySem.W.fnOf x x (jW st) (fL st) (bH st) .none kV bX pm an ai ct),eC⟩:=by k_is)
 (c:codeIn K ai x:=by k_is)(k:keepIn K (.ref f):=by k_is):cD K mg x st ps:=_M X G a l c k λkV bX pm an ai ct us e=>Uq _ (b kV bX pm an ai ct) us e
def fm(a:∀(kV bX pm:Value)(an:Ξ)(ai ct:Value),me ps.length λus=>bindArgs (PySem.W.fnOf x am (jW st) (fL st) (bH st) .none kV bX pm an ai ct) ⟨us,[]⟩=pure (ps.zip us):=by repeat (first|rfl|intro _))
 (l:K.lookup f=some ⟨oc,od,.func (PySem.W.fnOf x am (jW st) (fL st) (bH st) .none kV bX pm an ai ct),eC⟩:=by k_is)(c:codeIn K ai am:=by k_is)(k:keepIn K (.ref f):=by k_is):Bu K x am st ps f:=afZ l c k λkV bX pm an ai ct us e=>Uq _ (a kV bX pm an ai ct) us e
end
variable{N f:Addr}{nm qn:Str}{bs sub:Θ}{sn:Φ}{ab:Bool}{col:wr}{dd:Ξ}{k0 k1 k2 k3 k5:Ω}{cd:ClassData}{t:TA}
def IU(e:excIn K HE fK "ValueError.__new__":=by k_exc)(l:K.lookup C=some (excClassObj nm qn C N bs (.ref HE::fK) true sn sub ab col dd k0 k1 k2 k3 k5 "ValueError.__new__"):=by k_is)(b:nsOkIn K N:=by kernel_rfl)(a:nsIn K N "__init__"=some (some (.ref fI)):=by k_is)
 (lf:K.lookup fI=some o:=by k_is)(d:o.cls=.type "function":=by rfl)(c:keepIn K (.ref C):=by k_is):Q8 K C HE fI:=⟨⟨nm,qn,N,bs,sn,sub,ab,col,dd,k0,k1,k2,k3,k5,l,b,a⟩,e,⟨o,lf,d⟩,c⟩
def IT(a:clsIn K C=some cd:=by k_is)(b:cd.hasDict:=by rfl)(c:Qy cd.mro:=by rfl)(e:findIn K (.ref C) "__setattr__"=some (some (.builtin "object.__setattr__")):=by k_is)(m:mroIn K C (.type "object")=some true:=by k_is):js K C:=⟨⟨cd,a,b,c⟩,e,m⟩
def IS(a:specialIn K (.ref C) "__getattribute__"=some (some (.builtin "type.__getattribute__")):=by k_is)(b:readsIn K C (.type "type"):=by k_is)(c:findCls K (.ref C) (.type "type") "__init__"=some (.val (.builtin "ValueError.__init__")):=by k_is):o6 K C:=⟨a,b,c⟩
def IX(a:findIn K (.ref C) "__getattribute__"=some (some (.builtin "BaseException.__getattribute__")):=by k_is)(b:findIn K (.ref C) "__getattr__"=some none:=by k_is)(c:findIn K (.ref C) "__class__"=some (some (.builtin "object.__class__")):=by k_is)(e:mroIn K C (.type "object")=some true:=by k_is)(m:mroIn K C (.type "BaseException")=some true:=by k_is):ih K C:=⟨a,b,c,e,m⟩
def Y'(C:Addr)(m:Str)(sp:Sp)(e:Value->Ξ->L2.St->Hp->Prop)(ta:TE)(t:TA):TE:=λG H Q=>ta G H λx Y=>∃a b fs,x=.ref a/\Y a=some (.ins C b fs)/\fs.lookup m=none/\t G Y λvs c=>sp (x::vs) c Q λD d W=>e D d G W
variable{o:Expr}{m:Str}{Ex:Value->Ξ->L2.St->Hp->Prop}{x:V}
def aa6(z:PE X o ta)(c:Cls X.K C)(i:Meth X.K C m f)(b:zS X (el X.prog X.w) k f ps sp)(y:dX k X.A)(p:h7 X Ex)(D:PA X (e::Z) t)
 (M:zw X e Z:=by rfl)(N:zb X O Z:=by rfl)
 (v:eval (.Call (.Attribute o m ah) (e::Z) [] O) X.env=(do
   let g <- eval o X.env
   standAt ah.atName
   let(f,first) <- holding [g] (getMethod g m pl)
   callWith O f first (backTo O (starEach (e::Z) X.env)) (backToKw O (keywordEach [] X.env))):=by rfl) :
  PE X (.Call (.Attribute o m ah) (e::Z) [] O) (Y' C m sp Ex ta t):=by
 obtain⟨fd,F,B⟩:=b;intro U s G H Q I h;refine methodCall_KW (pl:=pl) (ag (z U s G H _ I h) λu R E=>?_) v;obtain⟨x,Y,d,n,a,S,fs,J,L,l,q⟩:=E;subst J;obtain rfl:u=Value.ref a:=n;refine Cu d L c i l ?_;refine callWith_K (first:=[.ref a]) (h₀:=X.base) d.ok.mod.kin i.kp (ag (D O U _ G Y _ d q) λus P ⟨vs,T,j,r,q2⟩=>⟨j.kIn,?_⟩) M N;exact afR (us:=.ref a::us) (vs:=.ref a::vs) F y B .nil p j (.cons rfl r) (by rw[append_nil];exact q2)
def aeB{K':Frag}{f:Str}(c:X.K=K')(a:PE X e ta)(b:zt X e f):PE X (.Attribute e f O) (D8 K' ta f):=by
 subst c;exact _m a b
def Kb(t:TA):TE:=λG H Q=>t G H λI Y=>I.length<=sizeLine/\∀p W,zT Y W->Y p=none->W p=some (.lst I)->Q (.ref p) W
def GG(h:PA X Z t):PE X (.List Z O) (Kb t):=(F8 h.mono).imp λG H Q h=>⟨_,h,λI Y z=>⟨z.1,λp a=>z.2 p _ (zT.upd a) a cj⟩⟩
def Ps:R2:=λx y H Q=>∃l b I a,x=.ref l/\y=.ref b/\H l=some (.lst I)/\H b=some (.lst a)/\I.length+a.length<=sizeLine/\∀p W,zT H W->H p=none->W p=some (.lst (I++a))->Q (.ref p) W
def ZO:OpR X (binaryOp .Add) Ps:=TC.imp λx y H Q d=>by obtain⟨l,b,I,c,h,g,f,e,z,q⟩:=d;exact⟨l,b,I,c,h,g,f,e,z,λp a=>q p _ (zT.upd a) a cj⟩
section
variable{X:Cx}{k:Nat}{f C B:Addr}{ps:Φ}{sp:Sp}{x m:Str}{p O ah:Pos}{e:Expr}{Z:xw}{t:TA}
def Tb(C:Addr)(sp:Sp)(t:TA):TE:=λG H Q=>t G H λvs Y=>∀x a,Y x=none->Y a=none->a≠x->sp (.ref x::vs) (upd (upd Y a (.own x)) x (.ins C a [])) (λv b=>v=.non/\Q (.ref x) b) E0
def aeX(M:Mk X.K C f)(a:zS X bb k f ps sp)(b:dX (k+1) X.A)(d:Gl X x)(c:X.mg x=some (.ref C))(j:PA X (e::Z) t)(r:zz x:=by decide)
 (g:zw X e Z:=by rfl)(s:zb X O Z:=by rfl):PE X (.Call (.Name x p) (e::Z) [] O) (Tb C sp t):=by
 obtain⟨fd,F,i⟩:=a;refine(_A M F b d c i .nil MJ j.mono r g s).imp λG H Q h=>⟨_,h,λvs Y q x o n m l=>?_⟩;rw[append_nil];exact q x o n m l
def acX(c:HN X.K B m f)(G:zS X bb k f ps sp)(d:dX k X.A)(h:Gl X x)(g:X.mg x=some (.ref B))(j:PA X (e::Z) t)(n:zz x:=by decide)
 (l:zw X e Z:=by rfl)(o:zb X O Z:=by rfl)
 (b:eval (.Call (.Attribute (.Name x p) m ah) (e::Z) [] O) X.env=(do
   let a <- eval (.Name x p) X.env
   standAt ah.atName
   let(f,first) <- holding [a] (getMethod a m pl)
   callWith O f first (backTo O (starEach (e::Z) X.env)) (backToKw O (keywordEach [] X.env))):=by rfl) :
  PE X (.Call (.Attribute (.Name x p) m ah) (e::Z) [] O) (Lz sp t):=by
 obtain⟨fd,F,i⟩:=G;exact YH (pl:=pl) c F d h g i j n l o b
end
inductive T where
 |any|non|bl (b:Bool)|int (i:Int)|str (s:Str)|val (v:V)
 |tup (ts:List T)|lst (ts:List T)|scr (ts:List T)
 |dct (ks:xN) (ts:List T)|ins (C:Addr) (ks:Φ) (ts:List T)|exc (C:Addr) (ks:Φ) (ts:List T)
abbrev xk:=List T
abbrev vz:=List xk
def agO(F:Hp):Ξ->xS->Prop
 |none,l=>l=[]
 |some d,l=>F d=some (.xd l)
mutual
inductive Rep(K:Frag)(F:Hp):V->T->Prop
 |any (v:V):Rep K F v .any
 |non:Rep K F .non .non
 |bl (b:Bool):Rep K F (.bl b) (.bl b)
 |int (i:Int):Rep K F (.int i) (.int i)
 |str (s:Str):Rep K F (.str s) (.str s)
 |val (v:V):Rep K F v (.val v)
 |tup {a:Addr}{I:Ζ}{ts:xk} : SqT K F a I->bW K F I ts->Rep K F (.ref a) (.tup ts)
 |lst {a:Addr}{I:Ζ}{ts:xk} : F a=some (.lst I)->bW K F I ts->Rep K F (.ref a) (.lst ts)
 |scr {a:Addr}{I:Ζ}{ts:xk} : SqL K F a I->bW K F I ts->Rep K F (.ref a) (.scr ts)
 |dct {a:Addr}{ks:xN}{I:Ζ}{ts:xk} : Rd F a (.dK (ks.zip I))->ks.length=I.length->bW K F I ts->Rep K F (.ref a) (.dct ks ts)
 |ins {a C dx:Addr}{ks:Φ}{I:Ζ}{ts:xk} : F a=some (.ins C dx (ks.zip I))->F dx=some (.own a)->ks.length=I.length->bW K F I ts->Rep K F (.ref a) (.ins C ks ts)
 |exc {a C:Addr}{d:Ξ}{ks:Φ}{I:Ζ}{ts:xk} : F a=some (XO a C d)->agO F d (ks.zip I)->ks.length=I.length->bW K F I ts->Rep K F (.ref a) (.exc C ks ts)
inductive bW(K:Frag)(F:Hp):Ζ->xk->Prop
 |nil:bW K F [] []
 |cons {x:V}{I:Ζ}{t:T}{ts:xk} : Rep K F x t->bW K F I ts->bW K F (x::I) (t::ts)
end
variable{ts:xk}{S:Addr->Prop}
section
variable{K:Frag}{F F' H W:Hp}
def zT.rd{u:HO}(S:zT F F')(h:Rd F a u):Rd F' a u:=h.imp (S _ _) λb=>by obtain⟨o,e⟩:=b;exact⟨o,S _ _ e⟩
def agO.same{d:Ξ}{l:xS}(S:zT F F')(h:agO F d l):agO F' d l:=by
 cases d with
 |none=>exact h
 |some d=>exact S _ _ h
mutual
theorem Rep.same(S:zT F F'):∀{x:V}{t:T},Rep K F x t->Rep K F' x t
 |_,_,.any v=>.any v
 |_,_,.non=>.non
 |_,_,.bl b=>.bl b
 |_,_,.int i=>.int i
 |_,_,.str s=>.str s
 |_,_,.val v=>.val v
 |_,_,.tup e h=>.tup (S.tup e) (bW.same S h)
 |_,_,.lst e h=>.lst (S _ _ e) (bW.same S h)
 |_,_,.scr e h=>.scr (S.seq e) (bW.same S h)
 |_,_,.dct e l h=>.dct (S.rd e) l (bW.same S h)
 |_,_,.ins e d l h=>.ins (S _ _ e) (S _ _ d) l (bW.same S h)
 |_,_,.exc e d l h=>.exc (S _ _ e) (d.same S) l (bW.same S h)
theorem bW.same(S:zT F F'):∀{I:Ζ}{ts:xk},bW K F I ts->bW K F' I ts
 |_,_,.nil=>.nil
 |_,_,.cons h t=>.cons (Rep.same S h) (bW.same S t)
end
def Rep.lstI(h:Rep K F x (.lst ts)):∃a I,x=.ref a/\F a=some (.lst I)/\bW K F I ts:=by cases h;exact⟨_,_,rfl,by assumption,by assumption⟩
def Rep.tupI(h:Rep K F x (.tup ts)):∃a I,x=.ref a/\SqT K F a I/\bW K F I ts:=by cases h;exact⟨_,_,rfl,by assumption,by assumption⟩
def Rep.scrI(h:Rep K F x (.scr ts)):∃a I,x=.ref a/\SqL K F a I/\bW K F I ts:=by cases h;exact⟨_,_,rfl,by assumption,by assumption⟩
def Rep.dctI{b:xN}(h:Rep K F x (.dct b ts)):∃a I,x=.ref a/\Rd F a (.dK (b.zip I))/\b.length=I.length/\bW K F I ts:=by cases h;exact⟨_,_,rfl,by assumption,by assumption,by assumption⟩
def Rep.insI{b:Φ}(h:Rep K F x (.ins C b ts)):∃a c I,x=.ref a/\F a=some (.ins C c (b.zip I))/\F c=some (.own a)/\b.length=I.length/\bW K F I ts:=by cases h;exact⟨_,_,_,rfl,by assumption,by assumption,by assumption,by assumption⟩
theorem bW.len:∀{I:Ζ}{ts:xk},bW K F I ts->I.length=ts.length
 |_,_,.nil=>rfl
 |_,_,.cons _ t=>ZH (· + 1) (bW.len t)
theorem bW.app:∀{I c:Ζ}{ts us:xk},bW K F I ts->bW K F c us->bW K F (I++c) (ts++us)
 |_,_,_,_,.nil,h=>h
 |_,_,_,_,.cons a b,h=>.cons a (bW.app b h)
theorem bW.at_:∀{I:Ζ}{ts:xk}{i:Nat}{t:T},bW K F I ts->ts[i]?=some t->∃x,I[i]?=some x/\Rep K F x t
 |_,_,_,_,.nil,e=>by cases e
 |_,_,0,_,.cons a _,e=>by cases e;exact⟨_,rfl,a⟩
 |_,_,i+1,_,.cons _ b,e=>by
  obtain⟨x,q,r⟩:=bW.at_ (i:=i) b (by simpa using e);exact⟨x,by simpa using q,r⟩
theorem bW.of_at:∀{I:Ζ}{ts:xk},I.length=ts.length->(∀(i:Nat)x t,I[i]?=some x->ts[i]?=some t->Rep K F x t)->bW K F I ts
 |[],[],_,_=>.nil
 |x::I,t::ts,l,h=>.cons (h 0 x t rfl rfl) (bW.of_at (Nat.succ.inj l) λi y u b a=>h (i+1) y u b a)
 |[],_::_,l,_=>by cases l
 |_::_,[],l,_=>by cases l
theorem bW.set{x:V}{t:T}(r:Rep K F x t):∀{I:Ζ}{ts:xk}(i:Nat),bW K F I ts->bW K F (I.set i x) (ts.set i t)
 |_,_,_,.nil=>.nil
 |_,_,0,.cons _ h=>.cons r h
 |_,_,i+1,.cons a h=>.cons a (bW.set r i h)
theorem bW.take:∀{I:Ζ}{ts:xk}(n:Nat),bW K F I ts->bW K F (I.take n) (ts.take n)
 |_,_,0,_=>.nil
 |_,_,_+1,.nil=>.nil
 |_,_,n+1,.cons a h=>.cons a (bW.take n h)
theorem bW.drop:∀{I:Ζ}{ts:xk}(n:Nat),bW K F I ts->bW K F (I.drop n) (ts.drop n)
 |_,_,0,h=>h
 |_,_,_+1,.nil=>.nil
 |_,_,n+1,.cons _ h=>bW.drop n h
def hd(S:Addr->Prop)(H:Hp):Hp:=λb=>open Classical in if S b then none else H b
def p7(h:S b):hd S H b=none:=by unfold hd;rw[ZY h]
def cR(h:¬S b):hd S H b=H b:=by unfold hd;rw[ZZ h]
def cQ{o:HO}(e:hd S H b=some o):¬S b/\H b=some o:=by
 by_cases h:S b
 .rw[p7 h]at e;cases e
 .rw[cR h]at e;exact⟨h,e⟩
def h_{a:Addr->Prop}(i:∀b,a b->S b\/H b=none)(e:zT H W):zT (hd S H) (hd a W):=λb o h=>by
 obtain⟨n,h⟩:=cQ h;rw[cR λz=>?_]
 .exact e _ _ h
 .rcases i b z with y|y
  .exact n y
  .rw[h]at y;cases y
def cL : zT (hd S H) H:=λ_ _ h=>(cQ h).2
def bU(e:zT H W):zT (hd S H) (hd S W):=h_ (λ_=>.inl) e
def JC:hd (λ_=>False) H=H:=funext λ_=>cR id
inductive OT where
 |und|fz (t:T)|l1 (ts:xk)|l2 (aw:vz)|d1 (ks:xN) (ts:xk)|ob (a dx C:Addr) (ks:Φ) (ts:xk)|la (a:Addr) (ts:xk)|pr (ts us:xk)
abbrev xf:=List OT
noncomputable def frz:OT->T
 |.und=>.any
 |.fz t=>t
 |.l1 ts=>.lst ts
 |.l2 b=>.lst (b.map T.lst)
 |.d1 a ts=>.dct a ts
 |.ob _ _ C a ts=>.ins C a ts
 |.la _ ts=>.lst ts
 |.pr ts us=>.tup [.lst ts,.lst us]
def Slo(K:Frag)(F H:Hp)(v:wf)(A:Ψ):OT->Prop
 |.und=>A=[]
 |.fz t=>A=[]/\∃u,v=some u/\Rep K F u t
 |.l1 ts=>∃a I,v=some (.ref a)/\A=[a]/\H a=some (.lst I)/\bW K F I ts
 |.l2 f=>∃a bs,v=some (.ref a)/\A=a::bs/\(a::bs).Nodup/\H a=some (.lst (bs.map V.ref))/\bs.length=f.length/\∀(i:Nat)b ts,bs[i]?=some b->f[i]?=some ts->∃I,H b=some (.lst I)/\bW K F I ts
 |.d1 c ts=>∃a I,v=some (.ref a)/\A=[a]/\H a=some (.dK (c.zip I))/\c.length=I.length/\bW K F I ts
 |.ob a d C c ts=>∃I,v=some (.ref a)/\A=[a,d]/\H a=some (.ins C d (c.zip I))/\H d=some (.own a)/\c.length=I.length/\bW K F I ts
 |.la a ts=>∃I,v=some (.ref a)/\A=[a]/\H a=some (.lst I)/\bW K F I ts
 |.pr ts us=>∃p a b I e,v=some (.ref p)/\A=[a,b]/\a≠b/\F p=some (.tup [.ref a,.ref b])/\H a=some (.lst I)/\H b=some (.lst e)/\bW K F I ts/\bW K F e us
def Slo.same{v:wf}{A:Ψ}(S:zT F F')(E:zT H W):∀{x:OT},Slo K F H v A x->Slo K F' W v A x
 |.und,h=>h
 |.fz _,⟨a,u,e,r⟩=>⟨a,u,e,r.same S⟩
 |.l1 _,⟨a,I,e,z,h,r⟩=>⟨a,I,e,z,E _ _ h,r.same S⟩
 |.l2 _,⟨a,bs,e,z,n,h,l,r⟩=>⟨a,bs,e,z,n,E _ _ h,l,λi b ts g f=>let⟨I,q,r⟩:=r i b ts g f;⟨I,E _ _ q,r.same S⟩⟩
 |.d1 _ _,⟨a,I,e,z,h,l,r⟩=>⟨a,I,e,z,E _ _ h,l,r.same S⟩
 |.ob _ _ _ _ _,⟨I,e,z,h,d,l,r⟩=>⟨I,e,z,E _ _ h,E _ _ d,l,r.same S⟩
 |.la _ _,⟨I,e,z,h,r⟩=>⟨I,e,z,E _ _ h,r.same S⟩
 |.pr _ _,⟨p,a,b,I,c,e,z,n,t,h,k,r,q⟩=>⟨p,a,b,I,c,e,z,n,S _ _ t,E _ _ h,E _ _ k,r.same S,q.same S⟩
def Slo.off{v:wf}{A:Ψ} : ∀{x:OT},Slo K F H v A x->(∀b∈A,∀u,H b=some u->W b=some u)->Slo K F W v A x
 |.und,s,_=>s
 |.fz _,s,_=>s
 |.l1 _,⟨a,I,e,z,w,r⟩,off=>⟨a,I,e,z,off a (by rw[z];simp) _ w,r⟩
 |.l2 _,⟨a,bs,e,z,g,w,l,r⟩,off=>⟨a,bs,e,z,g,off a (by rw[z];simp) _ w,l,λi b ts c j=>let⟨I,q,r⟩:=r i b ts c j;⟨I,off b (by rw[z];exact aJ _ (aC c)) _ q,r⟩⟩
 |.d1 _ _,⟨a,I,e,z,w,r⟩,off=>⟨a,I,e,z,off a (by rw[z];simp) _ w,r⟩
 |.ob a m _ _ _,⟨I,e,z,w,d,r⟩,off=>⟨I,e,z,off a (by rw[z];simp) _ w,off m (by rw[z];simp) _ d,r⟩
 |.la a _,⟨I,e,z,w,r⟩,off=>⟨I,e,z,off a (by rw[z];simp) _ w,r⟩
 |.pr _ _,⟨p,a,b,I,f,e,z,n,t,h,k,r⟩,off=>⟨p,a,b,I,f,e,z,n,t,off a (by rw[z];simp) _ h,off b (by rw[z];simp) _ k,r⟩
def aeP(H:Hp)(a:Addr):Prop:=∃o,H a=some o/\((∃I,o=.lst I)\/(∃k,o=.dK k)\/(∃C d f,o=.ins C d f)\/∃x,o=.own x)
def Slo.sole{v:wf}{A:Ψ}{x:OT}(h:Slo K F H v A x)(f:a∈A):aeP H a:=by
 cases x with
 |und=>rw[show A=[]from h]at f;cases f
 |fz t=>rw[h.1]at f;cases f
 |l1 ts=>obtain⟨b,I,_,rfl,e,_⟩:=h;cases YR.mp f;exact⟨_,e,.inl ⟨_,rfl⟩⟩
 |l2 m =>
  obtain⟨b,bs,_,rfl,_,e,l,r⟩:=h;rcases YU.mp f with z|z
  .exact⟨_,z ▸ e,.inl ⟨_,rfl⟩⟩
  .obtain⟨i,g⟩:=aV z;have j:i<m.length:=l ▸ (ao.mp g).1;obtain⟨I,q,_⟩:=r i a _ g (aj j);exact⟨_,q,.inl ⟨_,rfl⟩⟩
 |d1 k ts=>obtain⟨b,I,_,rfl,e,_⟩:=h;cases YR.mp f;exact⟨_,e,.inr (.inl ⟨_,rfl⟩)⟩
 |ob b o C k ts =>
  obtain⟨I,_,rfl,e,d,_⟩:=h;rcases YU.mp f with z|z
  .exact⟨_,z ▸ e,.inr (.inr (.inl ⟨_,_,_,rfl⟩))⟩
  .cases YR.mp z;exact⟨_,d,.inr (.inr (.inr ⟨_,rfl⟩))⟩
 |la b ts=>obtain⟨I,_,rfl,e,_⟩:=h;cases YR.mp f;exact⟨_,e,.inl ⟨_,rfl⟩⟩
 |pr ts us =>
  obtain⟨p,b,c,I,n,_,rfl,_,_,e,d,_⟩:=h;rcases YU.mp f with z|z
  .exact⟨_,z ▸ e,.inl ⟨_,rfl⟩⟩
  .cases YR.mp z;exact⟨_,d,.inl ⟨_,rfl⟩⟩
def Slo.frz{u:V}{A:Ψ}{x:OT}(h:Slo K F H (some u) A x)(S:zT F F')(E:∀a∈A,F' a=H a):Rep K F' u (frz x):=by
 cases x with
 |und=>exact .any _
 |fz t=>obtain⟨_,w,e,r⟩:=h;cases e;exact r.same S
 |l1 ts=>obtain⟨b,I,e,rfl,q,r⟩:=h;cases e;exact .lst ((E _ vy).trans q) (r.same S)
 |l2 v =>
  obtain⟨b,bs,e,rfl,_,q,l,r⟩:=h;cases e;refine .lst ((E _ vy).trans q) (bW.of_at (by simp[l]) λi x t g f=>?_);rw[aq]at g f;cases j:bs[i]? with
  |none=>rw[j]at g;cases g
  |some c =>
   cases k:v[i]? with
   |none=>rw[k]at f;cases f
   |some ts =>
    rw[j]at g;rw[k]at f;cases g;cases f;obtain⟨I,q,r⟩:=r i c ts j k;exact .lst ((E _ (aJ _ (aC j))).trans q) (r.same S)
 |d1 s ts=>obtain⟨b,I,e,rfl,q,l,r⟩:=h;cases e;exact .dct (.inl ((E _ vy).trans q)) l (r.same S)
 |ob b z C s ts=>obtain⟨I,e,rfl,q,d,l,r⟩:=h;cases e;exact .ins ((E _ vy).trans q) ((E _ vy).trans d) l (r.same S)
 |la b ts=>obtain⟨I,e,rfl,q,r⟩:=h;cases e;exact .lst ((E _ vy).trans q) (r.same S)
 |pr ts us =>
  obtain⟨p,b,c,I,y,e,rfl,_,t,o,q2,n,m⟩:=h;cases e;exact .tup (.inl (.of (S _ _ t))) (.cons (.lst ((E _ vy).trans o) (n.same S)) (.cons (.lst ((E _ vy).trans q2) (m.same S)) .nil))
def Ow(a:Nat->Ψ)(b:Addr):Prop:=∃i,b∈a i
structure SR(K:Frag)(own:Nat->Ψ)(H:Hp)(G:L2.St)(o:xf):Prop where
 len:o.length=G.length
 sl:∀i x,o[i]?=some x->Slo K (hd (Ow own) H) H (G[i]?.join) (own i) x
 out:∀i,o.length<=i->∀a∈own i,∃I,H a=some (.lst I)
 dis:∀i j a,a∈own i->a∈own j->i=j
variable{own:Nat->Ψ}{G:L2.St}{o:xf}
def SR.same(h:SR K own H G o)(E:zT H W):SR K own W G o:=⟨h.len,λi x e=>(h.sl i x e).same (bU E) E,λi b a c=>let⟨I,e⟩:=h.out i b a c;⟨I,E _ _ e⟩,h.dis⟩
def SR.sole(h:SR K own H G o){b:Addr}(z:Ow own b):aeP H b:=by
 obtain⟨i,z⟩:=z;by_cases a:i<o.length
 .exact(h.sl i _ (aj a)).sole z
 .obtain⟨I,e⟩:=h.out i (Nat.not_lt.mp a) b z;exact⟨_,e,.inl ⟨_,rfl⟩⟩
def aeP.ne(h:aeP H a):H a≠none:=by
 obtain⟨o,e,_⟩:=h;rw[e];exact λz=>by cases z
def NR(K:Frag)(S:Addr->Prop)(H W:Hp)(v:V)(x:OT):Prop:=∃B,(∀a∈B,H a=none)/\Slo K (hd (λb=>S b\/b∈B) W) W (some v) B x
def NR.rep{x:OT}(h:NR K S H W v x)(c:∀b,S b->H b≠none):Rep K (hd S W) v (L2.frz x):=by
 obtain⟨B,n,r⟩:=h;exact r.frz (h_ (λb z=>.inl (.inl z)) (λ_ _ z=>z)) λa d=>cR λz=>c a z (n a d)
def NR.fz{S:Addr->Prop}{v:V}{t:T}(h:Rep K (hd S W) v t):NR K S H W v (.fz t):=⟨[],λ_ z=>(nomatch z),rfl,v,rfl,h.same (h_ (λb z=>.inl (z.elim id λy=>(nomatch y))) λ_ _ z=>z)⟩
def NR.l1{S:Addr->Prop}{a:Addr}{I:Ζ}{ts:xk}(n:H a=none)(e:W a=some (.lst I))(h:bW K (hd (λb=>S b\/b=a) W) I ts):NR K S H W (.ref a) (.l1 ts) :=
 ⟨[a],λ_ z=>(YR.mp z) ▸ n,a,I,rfl,rfl,e,h.same (h_ (λb z=>.inl (z.imp id YR.mp)) λ_ _ z=>z)⟩
def NR.back{b:Hp}{x:OT}(h:NR K S H W v x)(E:zT b H):NR K S b W v x:=by
 obtain⟨B,n,r⟩:=h;exact⟨B,λa c=>E.free (n a c),r⟩
def own1(own:Nat->Ψ)(i:Nat)(B:Ψ):Nat->Ψ:=λj=>if j=i then B else own j
def j8{B:Ψ} : own1 own i B i=B:=ZY rfl
def gB{j:Nat}{B:Ψ}(h:j≠i):own1 own i B j=own j:=ZZ h
def Ow.of1{B:Ψ}(h:Ow (own1 own i B) b):Ow own b\/b∈B:=by
 obtain⟨j,h⟩:=h;by_cases z:j=i
 .rw[z,j8]at h;exact .inr h
 .rw[gB z]at h;exact .inl ⟨j,h⟩
def SR.put(h:SR K own H G o)(E:zT H W){x:OT}(n:NR K (Ow own) H W v x)(l:i<o.length):∃m,SR K m W (G.set i (some v)) (o.set i x)/\zT (hd (Ow own) H) (hd (Ow m) W):=by
 obtain⟨B,f,r⟩:=n;have le:zT (hd (Ow own) H) (hd (Ow (own1 own i B)) W):=h_ (λb z=>z.of1.imp id (f b)) E;refine⟨own1 own i B,⟨by rw[WH,WH,h.len],λj y e=>?_,λj g=>?_,λj k a d c=>?_⟩,le⟩
 .by_cases z:j=i
  .subst z;rw[UY l]at e;cases e;rw[j8,UY (h.len ▸ l)];exact r.same (h_ (λb z=>.inl z.of1) λ_ _ z=>z) λ_ _ z=>z
  .rw[VS (Ne.symm z)]at e;rw[gB z,VS (Ne.symm z)];exact(h.sl j y e).same le E
 .rw[WH]at g;rw[gB vw];intro a p;obtain⟨I,e⟩:=h.out j g a p;exact⟨I,E _ _ e⟩
 .by_cases z:j=i<;>by_cases y:k=i
  .rw[z,y]
  .rw[z,j8]at d;rw[gB y]at c;exact absurd (f a d) (h.sole ⟨k,c⟩).ne
  .rw[y,j8]at c;rw[gB z]at d;exact absurd (f a c) (h.sole ⟨j,d⟩).ne
  .rw[gB z]at d;rw[gB y]at c;exact h.dis j k a d c
def SR.frz(h:SR K own H G o){i:Nat}{x:OT}(e:o[i]?=some x){u:V}(g:G[i]?=some (some u)):∃n,SR K n H G (o.set i (.fz (L2.frz x)))/\zT (hd (Ow own) H) (hd (Ow n) H):=by
 have p:i<o.length:=(ao.mp e).1;have le:zT (hd (Ow own) H) (hd (Ow (own1 own i [])) H):=h_ (λb z=>.inl (z.of1.elim id λy=>(nomatch y))) λ_ _ z=>z;have l:=h.sl i x e;rw[g]at l;refine⟨own1 own i [],⟨by rw[WH,h.len],λj y f=>?_,λj m=>?_,λj k a d c=>?_⟩,le⟩
 .by_cases z:j=i
  .subst z;rw[UY p]at f;cases f;rw[j8,g];exact⟨rfl,u,rfl,Slo.frz l le λa q=>cR λz=>by
    obtain⟨k,z⟩:=z;by_cases y:k=j
    .rw[y,j8]at z;cases z
    .rw[gB y]at z;exact y (h.dis k j a z q)⟩
  .rw[VS (Ne.symm z)]at f;rw[gB z];exact(h.sl j y f).same le λ_ _ z=>z
 .rw[WH]at m;rw[gB vw];exact h.out j m
 .by_cases z:j=i
  .rw[z,j8]at d;cases d
  by_cases y:k=i
  .rw[y,j8]at c;cases c
  .rw[gB z]at d;rw[gB y]at c;exact h.dis j k a d c
def SR.chg(h:SR K own H G o){x:OT}(e:o[i]?=some x){y:OT}(E:∀b u,b∉own i->H b=some u->W b=some u)(r:Slo K (hd (Ow own) W) W (G[i]?.join) (own i) y):SR K own W G (o.set i y)/\zT (hd (Ow own) H) (hd (Ow own) W):=by
 have g:i<o.length:=(ao.mp e).1;have le:zT (hd (Ow own) H) (hd (Ow own) W):=λb u z=>by
  obtain⟨n,z⟩:=cQ z;rw[cR n];exact E b u (λq=>n ⟨i,q⟩) z
 refine⟨⟨by rw[WH,h.len],λj z c=>?_,λj d a f=>?_,h.dis⟩,le⟩
 rotate_left
 .rw[WH]at d;obtain⟨I,l⟩:=h.out j d a f;exact⟨I,E a _ (λz=>by have:=h.dis j i a f z;lia) l⟩
 by_cases q:j=i
 .subst q;rw[UY g]at c;cases c;exact r
 .rw[VS (Ne.symm q)]at c;exact((h.sl j z c).same le λ_ _ z=>z).off λb k u=>E b u λz=>q (h.dis j i b k z)
def SR.get(h:SR K own H G o){i:Nat}{t:T}(e:o[i]?=some (.fz t)):∃u,G[i]?=some (some u)/\Rep K (hd (Ow own) H) u t:=by
 obtain⟨_,u,q,r⟩:=h.sl i _ e;refine⟨u,?_,r⟩;cases z:G[i]? with
 |none=>rw[z]at q;cases q
 |some w=>rw[z]at q;exact ZH some q
end
end L2
namespace L2
open PySem PySem.Spec PyProof.Rows
abbrev RE:=xf->(OT->Prop)->Prop
abbrev RT:=xf->(Bool->Prop)->Prop
abbrev RA:=xf->(xk->Prop)->Prop
def tQ(K:Frag)(r:RE):TE:=λG H Q=>∃a o R,SR K a H G o/\r o R/\∀W v x,R x->zT H W->NR K (Ow a) H W v x->Q v W
def tQT(K:Frag)(r:RT):TT:=λG H Q=>∃a o R,SR K a H G o/\r o R/\∀W b,R b->zT H W->Q b W
def tQA(K:Frag)(n:Nat)(r:RA):TA:=λG H Q=>∃a o R,SR K a H G o/\r o R/\∀W c b,R b->b.length=n->zT H W->bW K (hd (Ow a) W) c b->Q c W
def QE(X:Cx)(e:Expr)(r:RE):Prop:=PE X e (tQ X.K r)
def QT(X:Cx)(e:Expr)(r:RT):Prop:=PT X e (tQT X.K r)
def QW(X:Cx)(e:Expr)(r:RT):Prop:=PW X e (tQT X.K r)
def QA(X:Cx)(Z:xw)(r:RA):Prop:=PA X Z (tQA X.K Z.length r)
variable{X:Cx}{e:Expr}{Z:xw}{K:Frag}{own:Nat->Ψ}{H:Hp}{G:L2.St}{o:xf}{R:OT->Prop}{Q:VK}{b:Bool}{x:Str}{O:Pos}{t:T}{v:V}
def PT.imp{t a:TT}(h:PT X e t)(i:∀G H Q,a G H Q->t G H Q):PT X e a:=λU s G H Q I q=>h U s G H Q I (i G H Q q)
def PW.imp{t a:TT}(h:PW X e t)(i:∀G H Q,a G H Q->t G H Q):PW X e a:=λb U s G H Q I q=>h b U s G H Q I (i G H Q q)
def PA.imp{t a:TA}(h:PA X Z t)(i:∀G H Q,a G H Q->t G H Q):PA X Z a:=λp U s G H Q I q=>h p U s G H Q I (i G H Q q)
def tQ.mk{r:RE}(h:SR K own H G o)(c:r o R)(k:∀W v x,R x->zT H W->Rep K (hd (Ow own) W) v (frz x)->Q v W):tQ K r G H Q :=
 ⟨own,o,R,h,c,λW v x a E n=>k W v x a E (n.rep λb z=>(h.sole z).ne)⟩
def slot:xf->Nat->OT
 |[],_=>.und
 |x::_,0=>x
 |_::l,n+1=>slot l n
theorem gK:∀{o:xf}{i:Nat}{x:OT},slot o i=x->x≠.und->o[i]?=some x
 |[],_,_,e,n=>absurd e.symm n
 |_::_,0,_,e,_=>ZH some e
 |_::l,i+1,x,e,n=>by simpa using gK (o:=l) (i:=i) e n
def gk(i:Nat):RE:=λo q=>match slot o i with|.fz t=>q (.fz t)|_=>False
def rC(t:T):RE:=λ_ q=>q (.fz t)
abbrev zi:Type:=T->T->(OT->Prop)->Prop
def fi(g:zi)(a b:RE):RE:=λo q=>a o λx=>b o λy=>g (frz x) (frz y) q
def II(g:T->(OT->Prop)->Prop)(a:RE):RE:=λo q=>a o λx=>g (frz x) q
def sw(b:Bool)(p q:Prop):Prop:=match b with|true=>p|false=>q
def fW{p q:Prop}(c:b->p)(a:b=false->q):sw b p q:=by
 cases b
 .exact a rfl
 .exact c rfl
def eL{c:Prop}[Decidable c]{p q:Prop}(b:c->p)(a:¬c->q):sw (decide c) p q:=fW (λe=>b (of_decide_eq_true e)) λe=>a (of_decide_eq_false e)
def dA{p q:Prop}(e:b)(h:p):sw b p q:=by subst e;exact h
def cp{p q:Prop}(e:b=false)(h:q):sw b p q:=by subst e;exact h
def qv(i:Nat)(d:n_X X i x:=by exact⟨rfl,rfl,vk,vk⟩):QE X (.Name x O) (gk i):=(pv i d).imp λG H Q c=>by
 obtain⟨own,o,R,h,a,k⟩:=c;unfold gk at a;cases e:slot o i with
 |fz t =>
  rw[e]at a;obtain⟨u,q,r⟩:=h.get (gK e (by intro z;cases z));exact⟨u,q,k H u _ a (.refl _) (NR.fz r)⟩
 |_=>rw[e]at a;exact a.elim
def vc(b:n_X X 0 x:=by exact⟨rfl,rfl,vk,vk⟩):QE X (.Name x O) (gk 0):=qv 0 b
def vt(b:n_X X 1 x:=by exact⟨rfl,rfl,vk,vk⟩):QE X (.Name x O) (gk 1):=qv 1 b
def vn(b:n_X X 2 x:=by exact⟨rfl,rfl,vk,vk⟩):QE X (.Name x O) (gk 2):=qv 2 b
def ve(b:n_X X 3 x:=by exact⟨rfl,rfl,vk,vk⟩):QE X (.Name x O) (gk 3):=qv 3 b
def vi(b:n_X X 4 x:=by exact⟨rfl,rfl,vk,vk⟩):QE X (.Name x O) (gk 4):=qv 4 b
def vF(b:n_X X 5 x:=by exact⟨rfl,rfl,vk,vk⟩):QE X (.Name x O) (gk 5):=qv 5 b
def qC(h:PE X e (tC v))(r:∀F,Rep X.K F v t):QE X e (rC t):=h.imp λG H Q b=>by obtain⟨own,o,R,_,a,k⟩:=b;exact k H v _ a (.refl _) (NR.fz (r _))
def bF{i j O} : QE X (.Constant (.int i) j O) (rC (.int i)):=qC uo λ_=>.int _
def gO{b j O} : QE X (.Constant (.bool b) j O) (rC (.bl b)):=qC C6 λ_=>.bl _
def gq{j O} : QE X (.Constant .none j O) (rC .non):=qC YB λ_=>.non
def tV{x j O} : QE X (.Constant (.str x) j O) (rC (.str x)):=qC EC λ_=>.str _
def Vx(hm:∃u,X.mg x=some u/\zP v u)(r:∀F,Rep X.K F v t)(hg:Gl X x:=by rfl)(hd:zz x:=by decide):QE X (.Name x O) (rC t):=qC (adk hg hm hd) r
variable{b a c:Expr}{ra rb re:RE}{g:zi}{op:CmpOp}{S:Addr->Prop}{W:Hp}{I:Ζ}{ts:xk}{f:Addr}{P:Program}{w:World}{mg:Str->Ω}{base:Heap}{k n:Nat}{fd:FuncData}{ps:Φ}{r:RA}{p p2:Pos}{α:Type}{lo hi:Option Expr}
def GO(X:Cx)(f:Value->Value->Sem Value)(g:zi):Prop:=OpR X f λx y H Q=>∃S t u R,(∀b,S b->H b≠none)/\Rep X.K (hd S H) x t/\Rep X.K (hd S H) y u/\g t u R/\∀W v z,R z->zT H W->NR X.K S H W v z->Q v W
theorem q2{g:zi}{G:L2.St}{H:Hp}{Q:VK}(h:tQ X.K (fi g ra rb) G H Q):iN (λx y H Q=>∃S t u R,(∀b,S b->H b≠none)/\Rep X.K (hd S H) x t/\Rep X.K (hd S H) y u/\g t u R/\∀W v z,R z->zT H W->NR X.K S H W v z->Q v W) (tQ X.K ra) (tQ X.K rb) G H Q:=by
 obtain⟨own,o,R,h,i,k⟩:=h;exact tQ.mk h i λY v x q c f=>tQ.mk (h.same c) q λl w y q2 a e=>⟨Ow own,_,_,R,λb z=>((h.same (c.trans a)).sole z).ne,f.same (bU a),e,q2,λW u z d j n=>k W u z d (c.trans (a.trans j)) (n.back (c.trans a))⟩
def bM{op:Operator}(c:GO X (binaryOp op) g)(e:QE X a ra)(d:QE X b rb):QE X (.BinOp a op b O) (fi g ra rb):=(oo c e d).imp λ_ _ _=>q2
def mO(c:GO X (compareOp op) g)(e:QE X a ra)(d:QE X b rb)(hm:behindInMarks op b=false:=by exact M5 _):QE X (.Compare a [op] [b] O) (fi g ra rb):=(_u c e d hm).imp λ_ _ _=>q2
def gI(g:Int->Int->OT):zi
 |.int i,.int j,q=>q (g i j)
 |_,_,_=>False
def GO.ints{f:Value->Value->Sem Value}{g:Int->Int->V}{t:Int->Int->T}(h:OpR X f (gd g))(r:∀i j F,Rep X.K F (g i j) (t i j)):GO X f (gI λi j=>.fz (t i j)):=h.imp λx y H Q d=>by
 obtain⟨S,t,u,R,_,c,b,a,k⟩:=d;cases c<;>try exact a.elim
 cases b<;>try exact a.elim
 exact⟨_,_,rfl,rfl,k H _ _ a (.refl _) (NR.fz (r _ _ _))⟩
def Rz:GO X (binaryOp .Sub) (gI λi j=>.fz (.int (i-j))):=.ints TD λ_ _ _=>.int _
def Ey:GO X (compareOp .Lt) (gI λi j=>.fz (.bl (decide (i<j)))):=.ints NM λ_ _ _=>.bl _
def Pr:GO X (compareOp .LtE) (gI λi j=>.fz (.bl (decide (i<=j)))):=.ints N1 λ_ _ _=>.bl _
def HY:GO X (compareOp .Gt) (gI λi j=>.fz (.bl (decide (j<i)))):=.ints Db λ_ _ _=>.bl _
def pj:GO X (compareOp .GtE) (gI λi j=>.fz (.bl (decide (j<=i)))):=.ints OQ λ_ _ _=>.bl _
def Lu:zi
 |.int i,.int j,q=>q (.fz (.int (i+j)))
 |.str a,.str b,q=>a.length+b.length<=sizeLine/\q (.fz (.str (a++b)))
 |.lst a,.lst b,q=>a.length+b.length<=sizeLine/\q (.l1 (a++b))
 |_,_,_=>False
def zf{p:Addr}(r:bW X.K (hd S H) I ts)(E:zT H W)(n:H p=none)(e:W p=some (.lst I)):NR X.K S H W (.ref p) (.l1 ts) :=
 NR.l1 n e (r.same (h_ (λb z=>z.imp id λ(y:b=p)=>y ▸ n) E))
def cY:GO X (binaryOp .Add) Lu:=λU s G H x y v u Q c g f o=>by
 obtain⟨S,t,w,R,_,i,h,d,k⟩:=o;cases t<;>try exact d.elim
 .cases i;cases w<;>try exact d.elim
  cases h;exact We U s G H _ _ v u Q c g f ⟨_,_,rfl,rfl,k H _ _ d (.refl _) (NR.fz (.int _))⟩
 .cases i;cases w<;>try exact d.elim
  cases h;exact Ya U s G H _ _ v u Q c g f ⟨_,_,rfl,rfl,d.1,k H _ _ d.2 (.refl _) (NR.fz (.str _))⟩
 .cases w<;>try exact d.elim
  obtain⟨a,I,rfl,r,l⟩:=i.lstI;obtain⟨b,m,rfl,q,j⟩:=h.lstI;exact ZO U s G H _ _ v u Q c g f ⟨a,b,I,m,rfl,rfl,(cQ r).2,(cQ q).2,by rw[l.len,j.len];exact d.1,λp W E n e=>k W _ _ d.2 E (zf (l.app j) E n e)⟩
def KM:zi
 |.int i,.int j,q=>(Bd i/\Bd j)/\q (.fz (.int (i*j)))
 |.lst a,.int j,q=>(-(2^63)<=j/\j<2^63/\a.length*j.toNat<=sizeLine)/\∀z,z=(replicate j.toNat a).flatten->q (.l1 z)
 |.str a,.int j,q=>(∃c,a=⟨#[c]⟩/\1<=j/\j<=1000/\∀z:Str,z.cps.toList=replicate j.toNat c->q (.fz (.str z)))
 |_,_,_=>False
def Ll:zi
 |.int i,.int j,q=>(j≠0/\Bd j)/\q (.fz (.int (i.fdiv j)))
 |_,_,_=>False
def Na:zi
 |.int i,.int j,q=>0<j/\q (.fz (.int (i%j)))
 |_,_,_=>False
def LG:zi
 |.int i,.int j,q=>y7 i j/\q (.fz (.int (i^j.toNat)))
 |_,_,_=>False
def lX:GO X (binaryOp .FloorDiv) Ll:=adv.imp λx y H Q d=>by
 obtain⟨S,t,u,R,_,c,b,a,k⟩:=d;cases c<;>try exact a.elim
 cases b<;>try exact a.elim
 exact⟨_,_,rfl,rfl,a.1,k H _ _ a.2 (.refl _) (NR.fz (.int _))⟩
def cH:GO X (binaryOp .Mod) Na:=QN.imp λx y H Q d=>by
 obtain⟨S,t,u,R,_,c,b,a,k⟩:=d;cases c<;>try exact a.elim
 cases b<;>try exact a.elim
 exact⟨_,_,rfl,rfl,a.1,k H _ _ a.2 (.refl _) (NR.fz (.int _))⟩
def RF:GO X (binaryOp .Pow) LG:=Vc.imp λx y H Q d=>by
 obtain⟨S,t,u,R,_,c,b,a,k⟩:=d;cases c<;>try exact a.elim
 cases b<;>try exact a.elim
 exact⟨_,_,rfl,rfl,a.1,k H _ _ a.2 (.refl _) (NR.fz (.int _))⟩
def Nc:T->(OT->Prop)->Prop
 |.int i,q=>q (.fz (.int (-i)))
 |_,_=>False
def Uv(d:QE X a ra):QE X (.UnaryOp .USub a O) (II Nc ra):=(NY To d).imp λG H Q ⟨own,o,R,h,c,k⟩=>tQ.mk h c λY v x q e b=>by
 revert b q
 generalize frz x=t;intro q b;cases b<;>try exact q.elim
 exact⟨_,rfl,k _ _ _ q e (NR.fz (.int _))⟩
def lb:T->wr
 |.non=>some true
 |.any=>none
 |.val v=>some (decide (v=.non))
 |_=>some false
def kz(a:Bool):zi:=λt u q=>match u,lb t with
 |.non,some b=>q (.fz (.bl (xor a b)))
 |_,_=>False
def Wy{F:Hp}{x:V}{b:Bool}(h:Rep K F x t)(e:lb t=some b):decide (x=.non)=b:=by
 cases h<;>cases e<;>first|rfl|(apply Zp;intro z;cases z)
def yK:GO X (compareOp .Is) (kz false):=FU.imp λx y H Q f=>by
 obtain⟨S,t,u,R,_,d,c,a,k⟩:=f;cases c<;>try exact a.elim
 unfold kz at a;cases e:lb t with
 |none=>rw[e]at a;exact a.elim
 |some b=>rw[e]at a;exact⟨rfl,k H _ _ a (.refl _) (NR.fz (by rw[Wy d e,Bool.false_xor];exact .bl _))⟩
def Gh:GO X (compareOp .IsNot) (kz true):=Yf.imp λx y H Q f=>by
 obtain⟨S,t,u,R,_,d,c,a,k⟩:=f;cases c<;>try exact a.elim
 unfold kz at a;cases e:lb t with
 |none=>rw[e]at a;exact a.elim
 |some b=>rw[e]at a;exact⟨rfl,k H _ _ a (.refl _) (NR.fz (by rw[Wy d e,Bool.true_xor];exact .bl _))⟩
structure mx(H:Hp)(S:Addr->Prop):Prop where
 sole:∀b,S b->aeP H b
 ins:∀a C dx fs,S a->H a=some (.ins C dx fs)->S dx
 own:∀b x,S b->H b=some (.own x)->S x
def SR.mate(h:SR K own H G o){j:Nat}{b:Addr}(a:b∈own j):(∀C d f,H b=some (.ins C d f)->d∈own j)/\∀x,H b=some (.own x)->x∈own j:=by
 have g:∀{I:Ζ},H b=some (.lst I)->(∀C d f,H b=some (.ins C d f)->d∈own j)/\∀x,H b=some (.own x)->x∈own j:=λq=>⟨(λ_ _ _ e=>by rw[q]at e;cases e),(λ_ e=>by rw[q]at e;cases e)⟩;by_cases m:j<o.length
 .have s:=h.sl j _ (aj m);cases y:o[j]with
  |und=>rw[y]at s;rw[show own j=[]from s]at a;cases a
  |fz t=>rw[y]at s;rw[s.1]at a;cases a
  |l1 ts=>rw[y]at s;obtain⟨c,I,_,w,q,_⟩:=s;rw[w]at a;cases YR.mp a;exact g q
  |l2 D =>
   rw[y]at s;obtain⟨c,B,_,n,_,k,l,r⟩:=s;rw[n]at a;rcases YU.mp a with z|z
   .exact g (z ▸ k)
   .obtain⟨i,hi⟩:=aV z;obtain⟨I,q2,_⟩:=r i b _ hi (aj (l ▸ (ao.mp hi).1));exact g q2
  |d1 u ts=>rw[y]at s;obtain⟨c,I,_,w,q,_⟩:=s;rw[w]at a;cases YR.mp a;exact⟨(λ_ _ _ e=>by rw[q]at e;cases e),(λ_ e=>by rw[q]at e;cases e)⟩
  |la c ts=>rw[y]at s;obtain⟨I,_,w,q,_⟩:=s;rw[w]at a;cases YR.mp a;exact g q
  |pr ts A =>
   rw[y]at s;obtain⟨p,c,e,I,v,_,w,_,_,k,q2,_⟩:=s;rw[w]at a;rcases YU.mp a with z|z
   .exact g (z ▸ k)
   .cases YR.mp z;exact g q2
  |ob c d E u ts =>
   rw[y]at s;obtain⟨I,_,w,q,q2,_⟩:=s;rw[w]at a ⊢;rcases YU.mp a with z|z
   .refine⟨λ_ _ _ e=>?_,λ_ e=>?_⟩
    .rw[z,q]at e;cases e;simp
    .rw[z,q]at e;cases e
   .cases YR.mp z;refine⟨λ_ _ _ e=>?_,λ_ e=>?_⟩
    .rw[q2]at e;cases e
    .rw[q2]at e;cases e;simp
 .obtain⟨I,q⟩:=h.out j (Nat.not_lt.mp m) b a;exact g q
def SR.hid(h:SR K own H G o):mx H (Ow own) :=
 ⟨λb z=>h.sole z,λa C d c ⟨j,z⟩ e=>⟨j,(h.mate z).1 C d c e⟩,λb x ⟨j,z⟩ e=>⟨j,(h.mate z).2 x e⟩⟩
def df(S:Addr->Prop)(H G:Hp):Hp:=λb=>open Classical in if S b then H b else G b
def vG{G:Hp}{b:Addr}(h:S b):df S H G b=H b:=by unfold df;rw[ZY h]
def jQ{G:Hp}{b:Addr}(h:¬S b):df S H G b=G b:=by unfold df;rw[ZZ h]
def g4(c:Sp):Sp:=λa H Q _=>∃S:Addr->Prop,mx H S/\c a (hd S H) (λv G=>(∀b,S b->G b=none)->Q v (df S H G)) λ_ _ _=>False
def fD.hid{sp:Sp}(F:fD P w K mg base bb k f fd ps sp):fD P w K mg base bb k f fd ps (g4 sp):=by
 refine⟨λD H Q E h=>?_,λA j s H O us D Q E hr i hb r h=>?_⟩
 .obtain⟨S,_,z⟩:=h;exact F.len D _ _ _ z
 obtain⟨S,t,z⟩:=h;have l:∀{b:Addr},H b=none->hd S H b=none:=λ{b}e=>by
  by_cases z:S b
  .exact p7 z
  .rw[cR z];exact e
 have R:∀{b:Addr}{u:HO},S b->H b=some u->(∀I,u≠.tup I)/\(∀o v,u≠.frz o v)/\∀ps,u≠.tbl ps:=λ{b u}z e=>by
  obtain⟨o,q,w⟩:=t.sole b z;rw[e]at q;cases q;rcases w with⟨_,rfl⟩|⟨_,rfl⟩|⟨_,_,_,rfl⟩|⟨_,rfl⟩<;>exact⟨λ_ z=>(nomatch z),λ_ _ z=>(nomatch z),λ_ z=>(nomatch z)⟩
 have e1:Xk P w K mg base A j s (hd S H):=⟨i.frames,i.mod,λb o e=>⟨(i.bs b o e).1,l (i.bs b o e).2⟩,i.bsz,i.funs,λb hb=>l (i.frf b hb),λb u e=>by
  obtain⟨nb,T⟩:=cQ e;refine(i.hok b u T).stay (λ_ _ _ z=>z) (λd z=>?_) λd I z=>?_
  .rw[cR λy=>nb (t.own d b y z)];exact z
  .rw[cR λy=>(R y z).1 I rfl];exact z,i.bare⟩
 refine codeAny_mono (F.run A j s (hd S H) O us D _ _ hr e1 hb r z) λU s' L=>?_;cases U with
 |error e=>exact L.elim
 |ok fl =>
  cases fl with
  |next=>exact False.elim L
  |brk=>exact False.elim L
  |cont=>exact False.elim L
  |ret u =>
   obtain⟨v,G,os,N,m,Y,rv,q⟩:=L;have p:∀{b:Addr},S b->∃o,s.heap.get? b=some o:=λ{b}y=>by
    obtain⟨u,e,w⟩:=t.sole b y;have x:=i.hok b u e;rcases w with⟨I,rfl⟩|⟨kk,rfl⟩|⟨C,d,f,rfl⟩|⟨y,rfl⟩
    .obtain⟨_,_,_,_,g⟩:=x;exact⟨_,g⟩
    .obtain⟨_,_,_,_,_,_,_,g,_⟩:=x;exact⟨_,g⟩
    .obtain⟨_,_,_,g,_⟩:=x;exact⟨_,g⟩
    .exact x
   have a:∀{b:Addr}{o:Obj},S b->s.heap.get? b=some o->s'.heap.get? b=some o:=λ{b o}y e=>m.keep b o e (p7 y) (λz=>(t.sole b y).ne (i.frf b z)) vy;have bg:∀b,S b->G b=none:=λb y=>by
    obtain⟨o,ho⟩:=p y;exact m.free b o ho (p7 y) vy
   have W:∀{b:Addr}{u:HO},G b=some u->¬S b:=λe z=>by rw[bg _ z]at e;cases e
   have M:∀{b:Addr}{u:HO},G b=some u->df S H G b=some u:=λe=>(jQ (W e)).trans e;refine⟨v,df S H G,os,N,⟨λb o e n=>m.keep b o e (l n),λb o e n=>m.slot b o e (l n),λb o e n z=>?_,m.there,λb I e=>?_,λb o u e=>?_,λb ps e=>?_⟩,λb u e=>?_,rv,q bg⟩
   .rw[jQ λy=>(t.sole b y).ne n];exact m.free b o e (l n) z
   .have n:¬S b:=λy=>(R y e).1 I rfl;exact M (m.tups b I ((cR n).trans e))
   .have n:¬S b:=λy=>(R y e).2.1 o u rfl;exact M (m.frzs b o u ((cR n).trans e))
   .have n:¬S b:=λy=>(R y e).2.2 ps rfl;obtain⟨J,this⟩:=m.tbls b ps ((cR n).trans e);exact⟨J,M this⟩
   .by_cases z:S b
    .rw[vG z]at e;have x:=i.hok b u e;obtain⟨u',T,w⟩:=t.sole b z;rw[e]at T;cases T;rcases w with⟨I,rfl⟩|⟨kk,rfl⟩|⟨C,d,f,rfl⟩|⟨y,rfl⟩
     .obtain⟨B,X,n,r,g⟩:=x;exact⟨B,X,n,r,a z g⟩
     .obtain⟨B,y,D,r,V,Z,ep,g,c⟩:=x;exact⟨B,y,D,r,V,Z,ep,a z g,c⟩
     .obtain⟨d1,B,ne,g,mA,⟨od,Z,ep,e3,c⟩,r⟩:=x;have sd:=t.ins b C d f z e;exact⟨(vG sd).trans d1,B,ne,a z g,mA,⟨od,Z,ep,a sd e3,c⟩,r⟩
     .obtain⟨V,g⟩:=x;exact⟨V,a z g⟩
    .rw[jQ z]at e;exact(Y b u e).stay (λ_ _ _ z=>z) (λd z=>M z) λd I z=>M z
abbrev ST:=xk->(OT->Prop)->Prop
def spT(K:Frag)(S:ST):Sp:=λa H Q _=>∃ts R,bW K H a ts/\S ts R/\∀W v x,R x->zT H W->NR K (λ_=>False) H W v x->Q v W
abbrev pO(P:Program)(w:World)(K:Frag)(mg:Str->Ω)(base:Heap)(k:Nat)(x:Str)(ps:Φ)(S:ST):Prop:=OkF P w K mg base k x ps (spT K S)
def ni:RA:=λ_ q=>q []
def DA(a:RE)(r:RA):RA:=λo q=>a o λx=>r o λts=>q (frz x::ts)
def bC:QA X [] ni:=jB.imp λG H Q b=>by obtain⟨own,o,R,h,a,k⟩:=b;exact k H [] [] a rfl (.refl _) .nil
def tQA.mk{R:xk->Prop}{Q:Ζ->Hp->Prop}(h:SR K own H G o)(b:r o R)(k:∀W a ts,R ts->ts.length=n->zT H W->bW K (hd (Ow own) W) a ts->Q a W):tQA K n r G H Q:=⟨own,o,R,h,b,k⟩
def bA{a:RE}(m:QE X e a)(b:QA X Z r)(l:zw X e Z:=by rfl):QA X (e::Z) (DA a r):=(cF m b l).imp λG H Q ⟨own,o,R,h,b,k⟩ =>
 tQ.mk h b λY v x q d i=>tQA.mk (h.same d) q λn f ts q2 j c g=>k n (v::f) (frz x::ts) q2 (ZH (· + 1) j) (d.trans c) (.cons (i.same (bU c)) g)
def pu(S:ST)(r:RA):RE:=λo q=>r o λts=>S ts q
def bJ{S:ST}(c:pO X.prog X.w X.K X.mg X.base k x ps S)(d:QA X (e::Z) r)(g:dX k X.A:=by exact dX.mono (by assumption) vk)(I:Gl X x:=by rfl)(M:zz x:=by decide)
 (J:zw X e Z:=by rfl)(N:zb X O Z:=by rfl):QE X (.Call (.Name x p) (e::Z) [] O) (pu S r):=by
 obtain⟨f,fd,F,b,D,C⟩:=c;refine(mU (sp:=g4 (spT X.K S)) ⟨f,fd,F.hid,b,D,C⟩ g I d M J N).imp λG H Q ⟨own,o,R,h,g,k⟩=>tQA.mk h g λY T ts q _ j t=>?_;have L:=h.same j;refine⟨Ow own,L.hid,ts,R,t,q,λc v x m E n i=>?_⟩;have P:zT Y (df (Ow own) Y c):=λb u e=>by
  by_cases z:Ow own b
  .rw[vG z];exact e
  .rw[jQ z];exact E b u ((cR z).trans e)
 have l:zT c (df (Ow own) Y c):=λb u e=>by rw[jQ λz=>by rw[i b z]at e;cases e];exact e
 refine k _ v x m (j.trans P) (NR.back (H:=Y) ?_ j);obtain⟨B,y,s⟩:=n;have out:∀a∈B,¬Ow own a:=λa d z=>(s.sole d).ne (i a z);refine⟨B,λa d=>by have:=y a d;rwa[cR (out a d)]at this,s.same (h_ (λb z=>?_) l) l⟩;rcases z with z|z
 .exact .inr (i b z)
 .exact .inl (.inr z)
def rB(a:RE):RT:=λo q=>a o λx=>match frz x with|.bl b=>q b|_=>False
def Ic:T->(Bool->Prop)->Prop
 |.bl b,q=>q b
 |.int i,q=>q (i != 0)
 |.non,q=>q false
 |.lst ts,q=>q (!ts.isEmpty)
 |.tup ts,q=>q (!ts.isEmpty)
 |_,_=>False
def Kx(a:RE):RT:=λo q=>a o λx=>Ic (frz x) q
def nj(a b:RT):RT:=λo q=>a o λc=>sw c (b o q) (q false)
def IL(a b:RT):RT:=λo q=>a o λc=>sw c (q true) (b o q)
def M0(a:RT):RT:=λo q=>a o λc=>q (!c)
def NC(a b:RE):RE:=λo q=>a o λx=>match frz x with|.bl c=>sw c (b o q) (q (.fz (.bl false)))|_=>False
def OW(a:RE):RE:=λo q=>a o λx=>match frz x with|.bl c=>q (.fz (.bl (!c)))|_=>False
def IP(c:RT)(a b:RE):RE:=λo q=>c o λk=>sw k (a o q) (b o q)
def tQT.mk{r:RT}{R:Bool->Prop}{Q:Bool->Hp->Prop}(h:SR K own H G o)(a:r o R)(k:∀W b,R b->zT H W->Q b W):tQT K r G H Q:=⟨own,o,R,h,a,k⟩
def Rep.isEmpty{K:Frag}{F:Hp}{I:Ζ}{ts:xk}(h:bW K F I ts):I.isEmpty=ts.isEmpty:=by cases h<;>rfl
def K3{c:Bool}{p q b a:Prop}(h:sw c p q)(i:p->b)(j:q->a):if c=true then b else a:=by
 cases c
 .exact KI (j h)
 .exact LU (i h)
section
variable{X:Cx}{a b c:Expr}{ra rb rc:RE}{qa qb qc:RT}{O:Pos}{rest:xw}
def b_(e:GO X (compareOp op) g)(i:QE X a ra)(f:QE X b rb)(hm:behindInMarks op b=false:=by exact M5 _):QT X (.Compare a [op] [b] O) (rB (fi g ra rb)) :=
 (Ju e i f hm).imp λG H Q ⟨own,o,R,h,d,k⟩=>q2 (ra:=ra) (rb:=rb) (tQ.mk h d λY v x q j c=>by
  revert c q
  generalize frz x=t;intro q c;cases c<;>try exact q.elim
  exact⟨_,rfl,k _ _ q j⟩)
def cM(i:QE X a ra)(g:∀d,isTrue a X.env d=(do let v <- d;standAt a.pos;holding [v] (truthy v)):=by exact λ_=>rfl):QT X a (Kx ra):=(adG i g).imp λG H Q ⟨own,o,R,h,f,k⟩=>tQ.mk h f λY v x q c b=>by
 revert b q
 generalize frz x=t;intro q b;cases t<;>try exact q.elim
 .cases b;exact⟨false,rfl,k _ _ q c⟩
 .cases b;exact⟨_,rfl,k _ _ q c⟩
 .cases b;exact⟨_,rfl,k _ _ q c⟩
 .obtain⟨p,I,rfl,e,r⟩:=b.tupI;exact⟨_,.inr (.inl ⟨I,cL.tup e,rfl⟩),by rw[Rep.isEmpty r];exact k _ _ q c⟩
 .obtain⟨p,I,rfl,e,r⟩:=b.lstI;exact⟨_,.inl ⟨I,.of (cQ e).2,rfl⟩,by rw[Rep.isEmpty r];exact k _ _ q c⟩
def dN(d:QT X a qa):QT X (.UnaryOp .Not a O) (M0 qa):=(Qb d).imp λG H Q e=>by obtain⟨own,o,R,h,c,k⟩:=e;exact tQT.mk h c λY b q f=>k Y _ q f
def Bh(b:QT X a qa):QW X (.BoolOp .And [a] O) qa:=pw_and1 b
def gA(b:QT X a qa):QW X (.BoolOp .Or [a] O) qa:=pw_or1 b
def Gr(i:QT X a qa)(g:QW X (.BoolOp .And (b::rest) O) qb):QW X (.BoolOp .And (a::b::rest) O) (nj qa qb):=(pw_and i g).imp λG H Q j=>by obtain⟨own,o,R,h,f,k⟩:=j;exact tQT.mk h f λY c q e=>K3 q (λq=>tQT.mk (h.same e) q λl d q m=>k l d q (e.trans m)) λq=>k Y _ q e
def iz(i:QT X a qa)(g:QW X (.BoolOp .Or (b::rest) O) qb):QW X (.BoolOp .Or (a::b::rest) O) (IL qa qb):=(pw_or i g).imp λG H Q j=>by obtain⟨own,o,R,h,f,k⟩:=j;exact tQT.mk h f λY c q e=>K3 q (λq=>k Y _ q e) λq=>tQT.mk (h.same e) q λl d q m=>k l d q (e.trans m)
def QW.qt(h:QW X a qa):QT X a qa:=PW.pt h
def Cq{op}(h:QE X a ra):QE X (.BoolOp op [a] O) ra:=S5 h
def vq(g:QE X a ra)(f:QE X (.BoolOp .And (b::rest) O) rb):QE X (.BoolOp .And (a::b::rest) O) (NC ra rb):=(Ti g f).imp λG H Q ⟨own,o,R,h,e,k⟩=>tQ.mk h e λY v x q c d=>by
 revert d q
 generalize frz x=t;intro q d;cases d<;>try exact q.elim
 exact⟨_,rfl,K3 q (λq=>⟨own,o,R,h.same c,q,λi v x q j n=>k i v x q (c.trans j) (n.back c)⟩) λq=>k Y _ _ q c (NR.fz (.bl _))⟩
def Fk(d:QE X a ra):QE X (.UnaryOp .Not a O) (OW ra):=(WI d).imp λG H Q ⟨own,o,R,h,c,k⟩=>tQ.mk h c λY v x q e b=>by
 revert b q
 generalize frz x=t;intro q b;cases b<;>try exact q.elim
 exact⟨_,rfl,k Y _ _ q e (NR.fz (.bl _))⟩
def Ij{c:Expr}(i:QT X c qc)(l:QE X a ra)(j:QE X b rb):QE X (.IfExp c a b O) (IP qc ra rb):=(adA i l j).imp λG H Q ⟨own,o,R,h,g,k⟩=>tQT.mk h g λY c q d =>
 K3 q (λq=>⟨own,o,R,h.same d,q,λe v x q f n=>k e v x q (d.trans f) (n.back d)⟩) λq=>⟨own,o,R,h.same d,q,λe v x q f n=>k e v x q (d.trans f) (n.back d)⟩
def mz(g d:zi)(a b c:RE):RE:=λo q=>a o λx=>b o λy=>g (frz x) (frz y) λz=>match frz z with|.bl k=>sw k (c o λw=>d (frz y) (frz w) q) (q (.fz (.bl false)))|_=>False
def q3{C:CmpOp}{l:zi}(I:GO X (compareOp op) g)(J:GO X (compareOp C) l)(h:tQ X.K (mz g l ra rb rc) G H Q):Zo (λx y H Q=>∃S t u R,(∀b,S b->H b≠none)/\Rep X.K (hd S H) x t/\Rep X.K (hd S H) y u/\g t u R/\∀W v z,R z->zT H W->NR X.K S H W v z->Q v W) (λx y H Q=>∃S t u R,(∀b,S b->H b≠none)/\Rep X.K (hd S H) x t/\Rep X.K (hd S H) y u/\l t u R/\∀W v z,R z->zT H W->NR X.K S H W v z->Q v W) (tQ X.K ra) (tQ X.K rb) (tQ X.K rc) G H Q:=by
 obtain⟨own,o,R,h,B,k⟩:=h;refine tQ.mk h B λY v x q e s=>tQ.mk (h.same e) q λM w y q2 d m=>?_;have j:=h.same (e.trans d);refine⟨Ow own,_,_,_,λb z=>(j.sole z).ne,s.same (bU d),m,q2,λD u z a c n=>?_⟩;have i:=n.rep λb z=>(j.sole z).ne
 revert i a
 generalize frz z=t;intro a i;cases i<;>try exact a.elim
 have p:=j.same c;refine⟨_,rfl,K3 a (λq=>tQ.mk p q λL F z A f r=>⟨Ow own,_,_,R,λb z=>((p.same f).sole z).ne,m.same (bU (c.trans f)),r,A,λW u z a E n=>k W u z a (e.trans (d.trans (c.trans (f.trans E)))) (n.back (e.trans (d.trans (c.trans f))))⟩) λq=>k D _ _ q (e.trans (d.trans c)) (NR.fz (.bl _))⟩
def Xj{d:CmpOp}{f:zi}(e:GO X (compareOp op) g)(h:GO X (compareOp d) f)(l:QE X a ra)(k:QE X b rb)(j:QE X c rc)(i:lastMarks [op,d] [b,c]=false:=by with_unfolding_all rfl):QE X (.Compare a [op,d] [b,c] O) (mz g f ra rb rc):=(ae7 e h l k j i).imp λ_ _ _=>q3 e h
def JX{e:CmpOp}{i:zi}(f:GO X (compareOp op) g)(j:GO X (compareOp e) i)(p:QE X a ra)(n:QE X b rb)(hc:QE X c rc)(m:lastMarks [op,e] [b,c]=false:=by with_unfolding_all rfl):QT X (.Compare a [op,e] [b,c] O) (rB (mz g i ra rb rc)) :=
 (_9 f j p n hc m).imp λG H Q ⟨own,o,R,h,l,k⟩=>q3 (ra:=ra) (rb:=rb) (rc:=rc) f j (tQ.mk h l λY v x q r d=>by
  revert d q
  generalize frz x=t;intro q d;cases d<;>try exact q.elim
  exact⟨_,rfl,k _ _ q r⟩)
end
def d6{α:Type} : List α->Nat->Option α
 |[],_=>none
 |x::_,0=>some x
 |_::l,n+1=>d6 l n
theorem tR{α:Type} : ∀(l:List α)(n:Nat),d6 l n=l[n]?
 |[],_=>rfl
 |_::_,0=>rfl
 |_::l,n+1=>by simpa[d6]using tR l n
def cv(ts:List α):Int->Option α
 |.ofNat n=>d6 ts n
 |.negSucc n=>d6 ts.reverse n
def Ys(ts:List α)(i:Int):cv ts i=dv ts i:=by
 unfold cv dv c6;cases i with
 |ofNat n =>
  show d6 ts n=_;rw[tR,ZY (show 0<=Int.ofNat n from X9 n)];by_cases h:n<ts.length
  .rw[ZY (by show(n:Int)<_;lia)];rfl
  .rw[ZZ (by show ¬(n:Int)<_;lia),aM (Nat.not_lt.mp h)];rfl
 |negSucc n =>
  show d6 ts.reverse n=_;rw[tR,ZZ vw];by_cases h:n<ts.length
  .rw[ZY vw,List.getElem?_reverse h];show _=ts[_]?;rw[show(Int.negSucc n+(ts.length:Int)).toNat=ts.length-1-n by lia]
  .rw[ZZ vw,aM (by rw[List.length_reverse];exact VW h)];rfl
def bW.ix{F:Hp}{i:Int}(h:bW K F I ts)(e:cv ts i=some t):∃x,dv I i=some x/\Rep K F x t:=by
 rw[Ys]at e;unfold dv at e ⊢;rw[h.len];cases j:c6 ts.length i with
 |none=>rw[j]at e;cases e
 |some n=>rw[j]at e;exact h.at_ e
def oT(x:Option α)(q:α->Prop):Prop:=match x with|some t=>q t|none=>False
def D'{x:Option α}{q:α->Prop}(h:oT x q):∃t,x=some t/\q t:=by
 cases x with
 |none=>exact h.elim
 |some t=>exact⟨t,rfl,h⟩
def nf:zi
 |.tup ts,.int i,q=>oT (cv ts i) λt=>q (.fz t)
 |.lst ts,.int i,q=>∃t,cv ts i=some t/\q (.fz t)
 |.scr ts,.int i,q=>∃t,cv ts i=some t/\q (.fz t)
 |.str s,.int i,q=>s.length<=sizeLine/\∃c,cv s.cps.toList i=some c/\q (.fz (.str ⟨#[c]⟩))
 |_,_,_=>False
def JK:IxR X (λx y H Q=>∃S t u R,(∀b,S b->H b≠none)/\Rep X.K (hd S H) x t/\Rep X.K (hd S H) y u/\nf t u R/\∀W v z,R z->zT H W->NR X.K S H W v z->Q v W):=by
 refine(Az.or (Cw.or P3)).imp λx y H Q h=>?_;obtain⟨S,t,u,R,_,g,l,a,k⟩:=h;cases u with
 |int i=>?_
 |_=>cases t<;>exact a.elim
 cases l;cases t with
 |any=>exact a.elim
 |non=>exact a.elim
 |bl _=>exact a.elim
 |int _=>exact a.elim
 |val _=>exact a.elim
 |dct _ _=>exact a.elim
 |ins _ _ _=>exact a.elim
 |exc _ _ _=>exact a.elim
 |str s=>?_
 |tup ts=>?_
 |lst ts=>?_
 |scr ts=>?_
 .cases g;obtain⟨z,c,e,q⟩:=a;rw[Ys]at e;exact .inr (.inr ⟨_,_,c,rfl,rfl,z,e,k H _ _ q (.refl _) (NR.fz (.str _))⟩)
 .obtain⟨p,I,rfl,e,r⟩:=g.tupI;obtain⟨t,j,q⟩:=D' a;obtain⟨v,f,d⟩:=r.ix j;exact .inr (.inl ⟨p,I,i,v,rfl,rfl,cL.tup e,f,k H _ _ q (.refl _) (NR.fz d)⟩)
 .obtain⟨p,I,rfl,e,r⟩:=g.lstI;obtain⟨t,j,q⟩:=a;obtain⟨v,f,d⟩:=r.ix j;exact .inl ⟨p,I,_,v,rfl,rfl,.of (cQ e).2,f,k H _ _ q (.refl _) (NR.fz d)⟩
 .obtain⟨p,I,rfl,e,r⟩:=g.scrI;obtain⟨t,j,q⟩:=a;obtain⟨v,f,d⟩:=r.ix j;exact .inl ⟨p,I,_,v,rfl,rfl,cL.seq e,f,k H _ _ q (.refl _) (NR.fz d)⟩
def bK(e:QE X a ra)(d:QE X b rb)(c:oO b:=by exact λ_ _=>rfl):QE X (.Subscript a b O) (fi nf ra rb):=(tu JK e d c).imp λ_ _ _=>q2
abbrev RO:=xf->(xn->Prop)->Prop
def IB(K:Frag)(r:RO):TO:=λG H Q=>∃own o R,SR K own H G o/\r o R/\∀W b,R b->zT H W->Q b W
def QO(X:Cx)(e:Option Expr)(r:RO):Prop:=PO X e (IB X.K r)
def Nn:RO:=λ_ q=>q none
def OB(a:RE):RO:=λo q=>a o λx=>match frz x with|.int i=>q (some i)|_=>False
def PO.imp{e:Option Expr}{t a:TO}(h:PO X e t)(i:∀G H Q,a G H Q->t G H Q):PO X e a:=λU s G H Q I q=>h U s G H Q I (i G H Q q)
def FJ:QO X none Nn:=af9.imp λG H Q b=>by obtain⟨own,o,R,h,a,k⟩:=b;exact k H _ a (.refl _)
def fY(h:QE X e re):QO X (some e) (OB re):=(Zn h).imp λG H Q ⟨own,o,R,h,b,k⟩=>tQ.mk h b λY v x q c a=>by
 revert a q
 generalize frz x=t;intro q a;cases a<;>try exact q.elim
 exact⟨_,rfl,k _ _ q c⟩
def fj(I:List α)(lo hi:xn):List α:=(I.drop (HT.sIx I.length 0 lo)).take (HT.sIx I.length I.length hi-HT.sIx I.length 0 lo)
def bW.cut{F:Hp}(h:bW K F I ts)(lo hi:xn):bW K F (ij I lo hi) (fj ts lo hi):=by
 unfold ij fj;rw[h.len];exact(h.drop _).take _
def JO:T->xn->xn->(OT->Prop)->Prop
 |.lst ts,lo,hi,q=>q (.l1 (fj ts lo hi))
 |.scr ts,lo,hi,q=>q (.l1 (fj ts lo hi))
 |.str s,lo,hi,q=>s.length<=sizeLine/\q (.fz (.str (Iw s lo hi)))
 |_,_,_,_=>False
def IJ(a:RE)(lo hi:RO):RE:=λo q=>a o λx=>lo o λl=>hi o λu=>JO (frz x) l u q
def i_{g i:RO}(w:QE X e re)(s:QO X lo g)(m:QO X hi i):QE X (.Subscript e (.Slice lo hi none p2) O) (IJ re g i):=(adO (_2.or VC) w s m).imp λG H Q ⟨own,o,R,h,n,k⟩ =>
 tQ.mk h n λY v x q f b=>⟨own,o,_,h.same f,q,λz l q d=>⟨own,o,_,(h.same f).same d,q,λy u q j=>by
  have E:=f.trans (d.trans j);have b:=b.same (bU (d.trans j))
  revert b q
  generalize frz x=t;intro q b;cases t<;>try exact q.elim
  .cases b;exact .inr ⟨_,rfl,q.1,k _ _ _ q.2 E (NR.fz (.str _))⟩
  .obtain⟨p,I,rfl,e,r⟩:=b.lstI;exact .inl ⟨p,I,rfl,.of (cQ e).2,λa c=>k _ _ _ q (E.trans (zT.upd c)) ((zf (r.cut l u) (zT.upd c) c cj).back E)⟩
  .obtain⟨p,I,rfl,e,r⟩:=b.scrI;exact .inl ⟨p,I,rfl,cL.seq e,λa c=>k _ _ _ q (E.trans (zT.upd c)) ((zf (r.cut l u) (zT.upd c) c cj).back E)⟩⟩⟩
section
variable{X:Cx}{e:Expr}{Z:xw}{r:RA}{O:Pos}
def C3(r:RA):RE:=λo q=>r o λts=>q (.fz (.tup ts))
def BF(r:RA):RE:=λo q=>r o λts=>q (.l1 ts)
def d9(h:QA X Z r)(e:Z.length<=sizeLine:=by decide):QE X (.Tuple Z k O) (C3 r):=(FM h).imp λG H Q ⟨own,o,R,h,f,k⟩=>tQA.mk h f λY g ts q d c b =>
 ⟨by rw[b.len,d];exact e,λp a=>k _ _ _ q (c.trans (zT.upd a)) (NR.fz (.tup (.of (by rw[cR λz=>(h.sole z).ne (c.free a)];exact cj)) (b.same (bU (zT.upd a)))))⟩
def dg(h:QA X Z r)(e:Z.length<=sizeLine:=by decide):QE X (.List Z O) (BF r):=(F8 h).imp λG H Q ⟨own,o,R,h,f,k⟩=>tQA.mk h f λY g ts q d c b =>
 ⟨by rw[b.len,d];exact e,λp a=>k _ _ _ q (c.trans (zT.upd a)) ((zf b (zT.upd a) a cj).back c)⟩
def GC(X:Cx)(f:Value)(g:ST):Prop:=jE X f λI H Q=>∃S ts R,(∀b,S b->H b≠none)/\bW X.K (hd S H) I ts/\g ts R/\∀W v z,R z->zT H W->NR X.K S H W v z->Q v W
variable{x:Str}{p:Pos}{id Ty:String}{g:ST}
def bQ(t:GC X (.builtin id) g)(l:X.mg x=none)(f:bootBuiltins x=some (.builtin id))(u:QA X (e::Z) r)(m:Gl X x:=by rfl)(j:x≠"__name__":=by decide)(y:zz x:=by decide)
 (s:zw X e Z:=by rfl)(A:zb X O Z:=by rfl):QE X (.Call (.Name x p) (e::Z) [] O) (pu g r) :=
 (V5 t m l f u j y s A).imp λG H Q w=>by obtain⟨own,o,R,h,i,k⟩:=w;exact tQA.mk h i λY B ts q _ a d=>⟨Ow own,ts,R,λb z=>((h.same a).sole z).ne,d,q,λW v z c E n=>k W v z c (a.trans E) (n.back a)⟩
def qz(t:GC X (.type Ty) g)(l:X.mg x=none)(f:bootBuiltins x=some (.type Ty))(u:QA X (e::Z) r)(m:Gl X x:=by rfl)(j:x≠"__name__":=by decide)(y:zz x:=by decide)
 (s:zw X e Z:=by rfl)(A:zb X O Z:=by rfl):QE X (.Call (.Name x p) (e::Z) [] O) (pu g r) :=
 (Pk t m l f u j y s A).imp λG H Q w=>by obtain⟨own,o,R,h,i,k⟩:=w;exact tQA.mk h i λY B ts q _ a d=>⟨Ow own,ts,R,λb z=>((h.same a).sole z).ne,d,q,λW v z c E n=>k W v z c (a.trans E) (n.back a)⟩
def bW.one{F:Hp}(h:bW K F I [t]):∃x,I=[x]/\Rep K F x t:=by
 cases h with
 |cons a b=>cases b;exact⟨_,rfl,a⟩
def bW.two{F:Hp}{u:T}(h:bW K F I [t,u]):∃x y,I=[x,y]/\Rep K F x t/\Rep K F y u:=by
 cases h with
 |cons a b =>
  obtain⟨y,rfl,c⟩:=b.one;exact⟨_,y,rfl,a,c⟩
def g1(g:T->(OT->Prop)->Prop):ST:=λts q=>match ts with|[t]=>g t q|_=>False
def GC.one{f:Value}{g:T->(OT->Prop)->Prop}{r:Ζ->Hp->VK->Prop}(h:jE X f r)(i:∀S t x H Q R,Rep X.K (hd S H) x t->g t R->(∀W v z,R z->zT H W->NR X.K S H W v z->Q v W)->r [x] H Q):GC X f (g1 g):=h.imp λI H Q d=>by
 obtain⟨S,ts,R,_,c,a,k⟩:=d
 match ts,a with
 |[t],a =>
  obtain⟨x,rfl,b⟩:=c.one;exact i S t x H Q R b a k
def Mc:T->(OT->Prop)->Prop
 |.lst ts,q=>q (.fz (.int ts.length))
 |.tup ts,q=>q (.fz (.int ts.length))
 |.scr ts,q=>q (.fz (.int ts.length))
 |_,_=>False
def cI:GC X (.builtin "len") (g1 Mc):=.one QL λS t x H Q R b a k=>by
 cases t<;>try exact a.elim
 .obtain⟨p,I,rfl,e,r⟩:=b.tupI;exact⟨p,I,rfl,.inr (cL.tup e),k H _ _ a (.refl _) (NR.fz (by rw[r.len];exact .int _))⟩
 .obtain⟨p,I,rfl,e,r⟩:=b.lstI;exact⟨p,I,rfl,.inl (.of (cQ e).2),k H _ _ a (.refl _) (NR.fz (by rw[r.len];exact .int _))⟩
 .obtain⟨p,I,rfl,e,r⟩:=b.scrI;exact⟨p,I,rfl,.inl (cL.seq e),k H _ _ a (.refl _) (NR.fz (by rw[r.len];exact .int _))⟩
def NA:T->(OT->Prop)->Prop
 |.str s,q=>s.length<=sizeLine/\q (.fz (.int s.length))
 |_,_=>False
def Lm:T->(OT->Prop)->Prop
 |.dct a _,q=>q (.fz (.int a.length))
 |_,_=>False
def abt:jE X (.builtin "len") (λI H Q=>∃p b,I=[.ref p]/\Rd H p (.dK b)/\Q (.int b.length) H):=by
 intro U s G H I k Q a r h;obtain⟨p,b,rfl,c,q⟩:=h;obtain⟨u,rfl,f⟩:=vals1 r;cases f;have e:b.length<=sizeLine/\(p==sysModules)=false/\∃d,KV b d/\s.heap.DictOf (gH X.prog X.w) p d:=by
  rcases c with c|⟨o,c⟩
  .exact a.hok p _ c
  .exact(a.hok p _ c).2
 obtain⟨l,i,d,g,m⟩:=e;have n:=yI;have j:b.length=d.length:=g.length;exact call_len_dict i m vw ⟨.int b.length,H,a.tok _,⟨_,by rw[j]⟩,q⟩
def ZL:GC X (.builtin "len") (g1 Lm):=.one abt λS t x H Q R b a k=>by
 cases t<;>try exact a.elim
 obtain⟨p,I,rfl,e,l,r⟩:=b.dctI;exact⟨p,_,rfl,cL.rd e,k H _ _ a (.refl _) (NR.fz (by rw[VZ,l,VQ];exact .int _))⟩
def MR:T->(OT->Prop)->Prop
 |.int i,q=>q (.fz (.int i.natAbs))
 |_,_=>False
def K6:GC X (.builtin "abs") (g1 MR):=.one ad6 λS t x H Q R b a k=>by
 cases t<;>try exact a.elim
 cases b;exact⟨_,rfl,k H _ _ a (.refl _) (NR.fz (by rw[WN];exact .int _))⟩
theorem bW.ints{K:Frag}{F:Hp} : ∀{I:Ζ}{c:xi},bW K F I (c.map T.int)->I=c.map V.int
 |_,[],.nil=>rfl
 |_,n::c,.cons a b=>by cases a;rw[bW.ints b];rfl
theorem bW.bls{K:Frag}{F:Hp} : ∀{I:Ζ}{c:xo},bW K F I (c.map T.bl)->I=c.map V.bl
 |_,[],.nil=>rfl
 |_,n::c,.cons a b=>by cases a;rw[bW.bls b];rfl
theorem GX{K:Frag}{F:Hp} : ∀(a:xi),bW K F (a.map V.int) (a.map T.int)
 |[]=>.nil
 |_::a=>.cons (.int _) (GX a)
def LL:T->(OT->Prop)->Prop
 |.lst ts,q=>∃a:xi,ts=a.map T.int/\q (.fz (.int a.sum))
 |_,_=>False
def Yb(hc:X.calm):GC X (.builtin "sum") (g1 LL):=.one (ab1 hc) λS t x H Q R b a k=>by
 cases t<;>try exact a.elim
 obtain⟨p,I,rfl,e,r⟩:=b.lstI;obtain⟨c,rfl,q⟩:=a;exact⟨p,c,rfl,(r.ints ▸ (cQ e).2),k H _ _ q (.refl _) (NR.fz (.int _))⟩
def uu(f:xo->Bool):T->(OT->Prop)->Prop
 |.lst ts,q=>∃a:xo,ts=a.map T.bl/\q (.fz (.bl (f a)))
 |_,_=>False
def E5(hc:X.calm):GC X (.builtin "all") (g1 (uu λf=>f.all λb=>b)):=.one (abT hc) λS t x H Q R c a k=>by
 cases t<;>try exact a.elim
 obtain⟨p,I,rfl,e,r⟩:=c.lstI;obtain⟨d,rfl,q⟩:=a;exact⟨p,d,rfl,(r.bls ▸ (cQ e).2),k H _ _ q (.refl _) (NR.fz (.bl _))⟩
def YM(hc:X.calm):GC X (.builtin "any") (g1 (uu λf=>f.any λb=>b)):=.one (abP hc) λS t x H Q R c a k=>by
 cases t<;>try exact a.elim
 obtain⟨p,I,rfl,e,r⟩:=c.lstI;obtain⟨d,rfl,q⟩:=a;exact⟨p,d,rfl,(r.bls ▸ (cQ e).2),k H _ _ q (.refl _) (NR.fz (.bl _))⟩
def MT:T->(OT->Prop)->Prop
 |.lst ts,q=>∃a:xi,ts=a.map T.int/\a.length<64/\∀b:xi,b.Perm a->b.Pairwise (· <= ·)->q (.l1 (b.map T.int))
 |_,_=>False
def abw:GC X (.builtin "sorted") (g1 MT):=.one aa7 λS t x H Q R f d k=>by
 cases t<;>try exact d.elim
 obtain⟨p,I,rfl,e,r⟩:=f.lstI;obtain⟨g,rfl,l,q⟩:=d;exact⟨p,g,rfl,(r.ints ▸ (cQ e).2),l,λc a b i h=>k _ _ _ (q c i h) (zT.upd b) (zf (GX c) (zT.upd b) b cj)⟩
def NI:T->(OT->Prop)->Prop
 |.lst ts,q=>q (.l1 ts)
 |_,_=>False
def Et:GC X (.type "list") (g1 NI):=.one Lh λS t x H Q R d c k=>by
 cases t<;>try exact c.elim
 obtain⟨p,I,rfl,e,r⟩:=d.lstI;exact⟨p,I,rfl,(cQ e).2,λa b=>k _ _ _ c (zT.upd b) (zf r (zT.upd b) b cj)⟩
def MD:T->(OT->Prop)->Prop
 |.int i,q=>q (.fz (.int i))
 |.bl b,q=>q (.fz (.int (if b then 1 else 0)))
 |_,_=>False
def Uz:GC X (.type "int") (g1 MD):=.one aco λS t x H Q R b a k=>by
 cases t<;>try exact a.elim
 .cases b;exact .inr ⟨_,rfl,k H _ _ a (.refl _) (NR.fz (.int _))⟩
 .cases b;exact .inl ⟨_,rfl,k H _ _ a (.refl _) (NR.fz (.int _))⟩
inductive Knd where
 |int|bool|str|list|tuple
def Knd.s:Knd->String
 |.int=>"int"
 |.bool=>"bool"
 |.str=>"str"
 |.list=>"list"
 |.tuple=>"tuple"
noncomputable def m2:Knd->T->wr
 |.int,.int _=>some true
 |.int,.bl _=>some true
 |.bool,.bl _=>some true
 |.str,.str _=>some true
 |.list,.lst _=>some true
 |.tuple,.tup _=>some true
 |_,.any=>none
 |_,.val _=>none
 |_,.scr _=>none
 |_,.ins _ _ _=>none
 |_,.exc _ _ _=>none
 |_,.dct _ _=>none
 |_,_=>some false
def Xp(d:Knd):GC X (.builtin "isinstance") (λts q=>match ts with|[t,.val v]=>v=.ty d.s/\oT (m2 d t) λb=>q (.fz (.bl b))|_=>False):=by
 intro U s G H I g Q a m h;obtain⟨S,ts,R,_,z,o,k⟩:=h
 match ts,o with
 |[t,.val v],o =>
  obtain⟨x,y,rfl,l,w⟩:=z.two;cases w;obtain⟨rfl,o⟩:=o;obtain⟨b,j,q⟩:=D' o;have n:d.s∈["bool","int","str","list","tuple","dict"]:=by cases d<;>decide
  cases t with
  |tup ts =>
   obtain⟨p,u,rfl,e,r⟩:=l.tupI;have f:b=Rq "tuple" d.s:=by cases d<;>cases j<;>decide
   exact Xb U s G H _ g Q a m ⟨p,d.s,u,rfl,n,cL.tup e,k H _ _ q (.refl _) (NR.fz (f ▸ .bl _))⟩
  |lst ts =>
   obtain⟨p,u,rfl,e,r⟩:=l.lstI;have f:b=Rq "list" d.s:=by cases d<;>cases j<;>decide
   exact yF U s G H _ g Q a m ⟨_,d.s,"list",rfl,n,by show(match H p with|some (.lst _)=>some "list" |some (.tup _)=>some "tuple" |some (.dK _)=>some "dict" |_=>none)=_;rw[(cQ e).2],k H _ _ q (.refl _) (NR.fz (f ▸ .bl _))⟩
  |non =>
   cases l;have f:b=Rq "NoneType" d.s:=by cases d<;>cases j<;>decide
   exact yF U s G H _ g Q a m ⟨_,d.s,"NoneType",rfl,n,rfl,k H _ _ q (.refl _) (NR.fz (f ▸ .bl _))⟩
  |bl c =>
   cases l;have f:b=Rq "bool" d.s:=by cases d<;>cases j<;>decide
   exact yF U s G H _ g Q a m ⟨_,d.s,"bool",rfl,n,rfl,k H _ _ q (.refl _) (NR.fz (f ▸ .bl _))⟩
  |int i =>
   cases l;have f:b=Rq "int" d.s:=by cases d<;>cases j<;>decide
   exact yF U s G H _ g Q a m ⟨_,d.s,"int",rfl,n,rfl,k H _ _ q (.refl _) (NR.fz (f ▸ .bl _))⟩
  |str c =>
   cases l;have f:b=Rq "str" d.s:=by cases d<;>cases j<;>decide
   exact yF U s G H _ g Q a m ⟨_,d.s,"str",rfl,n,rfl,k H _ _ q (.refl _) (NR.fz (f ▸ .bl _))⟩
  |_=>cases d<;>cases j
def L'(c:Knd)(a:RE):RE:=λo q=>a o λx=>oT (m2 c (frz x)) λb=>q (.fz (.bl b))
def n8(c:Knd){y:Str}(A:QE X a ra)(u:X.mg "isinstance"=none)(m:X.mg y=none)(l:bootBuiltins y=some (.type c.s))(d:Gl X y:=by rfl)(w:Gl X "isinstance":=by rfl)(r:y≠"__name__":=by decide)(j:zz y:=by decide)
 (f:starEach (a::[.Name y p2]) X.env=(false,eval a X.env)::starEach [.Name y p2] X.env:=by rfl):QE X (.Call (.Name "isinstance" p) [a,.Name y p2] [] O) (L' c ra) :=
 (V5 (Xp c) w u boot_isinstance (cF A (cF (_C (v:=.ty c.s) d m l rfl r j) jB) f) vk vk f).imp λG H Q ⟨own,o,R,h,t,k⟩=>tQ.mk h t λY v x q e i =>
  ⟨Ow own,[frz x,.val (.ty c.s)],R,λb z=>((h.same e).sole z).ne,.cons i (.cons (.val _) .nil),⟨rfl,q⟩,λW v z g E n=>k W v z g (e.trans E) (n.back e)⟩
end
structure DT where
 nx:xf->Prop
 rt:OT->Prop
 bk:xf->Prop:=λ_=>False
 ct:xf->Prop:=λ_=>False
 xc:Addr->Φ->xk->Prop:=λ_ _ _=>False
abbrev RS:=DT->xf->Prop
def zx(X:Cx):XK:=λC d W=>(∀U G H s a b B,Inv X U G H s->Fly X.prog X.w X.stack H s a C W b B d->X.xe (.ref a) b) /\
 ∀U G H s a c,C=.ref c->Inv X U G H s->H a=some (XN a c d)->X.s₀.zs<=a->out H a=W->X.xe (.ref a) s
structure Lnk(K:Frag)(Z:XK)(F:Hp)(E:DT)(D:Ends):Prop where
 nx:∀own H G o,E.nx o->zT F (hd (Ow own) H)->SR K own H G o->D.nx G H
 rt:∀S H v x B,E.rt x->zT F (hd S H)->Slo K (hd S H) H (some v) B x->(∀a∈B,S a)->D.rt v H
 bk:∀own H G o,E.bk o->zT F (hd (Ow own) H)->SR K own H G o->D.bk G H
 ct:∀own H G o,E.ct o->zT F (hd (Ow own) H)->SR K own H G o->D.ct G H
 xc:∀H C d ks vs ts,E.xc C ks ts->zT F H->H d=some (.xd (ks.zip vs))->bW K H vs ts->Z (.ref C) (some d) H
variable{E:DT}{st:Stmt}{b a:RS}{kl:xA}{a8 ah af ay:Pos}{D:Addr}{i:Nat}{ys:Ζ}
def Lnk.step{Z:XK}{F a:Hp}{D:Ends}(h:Lnk K Z F E D)(S:zT F a):Lnk K Z a E D :=
 ⟨λown H G o e s=>h.nx own H G o e (S.trans s),λT H v x B e s=>h.rt T H v x B e (S.trans s),λown H G o e s=>h.bk own H G o e (S.trans s),λown H G o e s=>h.ct own H G o e (S.trans s),λH C d c b ts e s=>h.xc H C d c b ts e (S.trans s)⟩
def hL(X:Cx)(r:RS):TS:=λD G H=>∃own o E,SR X.K own H G o/\r E o/\Lnk X.K (zx X) (hd (Ow own) H) E D
def QS(X:Cx)(st:Stmt)(r:RS):Prop:=PS X st (hL X r)
def ef(X:Cx)(st:xA)(r:RS):Prop:=PSs X st (hL X r)
def PS.imp{t a:TS}(h:PS X st t)(i:∀D G H,a D G H->t D G H):PS X st a:=λU s G H D I q=>h U s G H D I (i D G H q)
def PSs.imp{st:xA}{t a:TS}(h:PSs X st t)(i:∀D G H,a D G H->t D G H):PSs X st a:=λU s G H D I q=>h U s G H D I (i D G H q)
def OC:RS:=λE o=>E.nx o
def kY(a b:RS):RS:=λE o=>a { E with nx:=b E } o
def oa(i:Nat)(a:RE):RS:=λE o=>a o λx=>E.nx (o.set i (.fz (frz x)))
def nS(i:Nat)(a:RE):RS:=λE o=>a o λx=>E.nx (o.set i x)
def O'(a:RE):RS:=λE o=>a o λ_=>E.nx o
def KF(a:RE):RS:=λE o=>a o E.rt
def D6(i:Nat):RS:=λE o=>match slot o i with|.und=>False|x=>E.rt x
def ti(c:RT)(a b:RS):RS:=λE o=>c o λk=>sw k (a E o) (b E o)
def UB:RS:=λ_ _=>False
def BH(i:Nat)(a:RS):RS:=λE o=>match slot o i with|.und=>False|x=>a E (o.set i (.fz (frz x)))
def SR.putA(h:SR K own H G o)(E:zT H W){x:OT}(n:NR K (Ow own) H W v x)(i:Nat):∃a,SR K a W (G.set i (some v)) (o.set i x)/\zT (hd (Ow own) H) (hd (Ow a) W):=by
 by_cases hi:i<o.length
 .exact h.put E n hi
 .rw[lz (Nat.not_lt.mp hi),lz (h.len ▸ Nat.not_lt.mp hi)];exact⟨own,h.same E,bU E⟩
def NR.frz{S:Addr->Prop}{v:V}{x:OT}(n:NR K S H W v x)(a:∀b,S b->H b≠none):NR K S H W v (.fz (L2.frz x)):=NR.fz (n.rep a)
def Slo.val{F:Hp}{v:wf}{A:Ψ}{x:OT}(h:Slo K F H v A x)(n:x≠.und):∃u,v=some u:=by
 cases x with
 |und=>exact absurd rfl n
 |fz t=>exact⟨_,h.2.choose_spec.1⟩
 |l1 ts=>obtain⟨a,I,e,_⟩:=h;exact⟨_,e⟩
 |l2 ts=>obtain⟨a,I,e,_⟩:=h;exact⟨_,e⟩
 |d1 c ts=>obtain⟨a,I,e,_⟩:=h;exact⟨_,e⟩
 |ob a d C c ts=>obtain⟨I,e,_⟩:=h;exact⟨_,e⟩
 |la a ts=>obtain⟨I,e,_⟩:=h;exact⟨_,e⟩
 |pr ts f=>obtain⟨p,a,b,I,ys,e,_⟩:=h;exact⟨_,e⟩
def SR.val(h:SR K own H G o){i:Nat}{x:OT}(e:slot o i=x)(n:x≠.und):∃u,G[i]?=some (some u)/\Slo K (hd (Ow own) H) H (some u) (own i) x:=by
 have s:=h.sl i x (gK e n);obtain⟨u,a⟩:=s.val n;rw[a]at s;refine⟨u,?_,s⟩;cases z:G[i]? with
 |none=>rw[z]at a;cases a
 |some w=>rw[z]at a;exact ZH some a
def bV:ef X [] OC:=Hy.imp λD G H b=>by obtain⟨own,o,E,h,a,L⟩:=b;exact L.nx own H G o a (.refl _) h
def LB{D:Ends}(h:hL X (kY a b) D G H):jP (hL X a) (hL X b) D G H:=by
 obtain⟨own,o,E,h,e,L⟩:=h;exact⟨own,o,_,h,e,λg W c d q S f=>⟨g,d,E,f,q,L.step S⟩,L.rt,L.bk,L.ct,L.xc⟩
def bG(d:QS X st a)(c:ef X kl b):ef X (st::kl) (kY a b):=(pA d c).imp λ_ _ _=>LB
def bI(h:QS X st a):ef X [st] a:=oH h
def bT(i:Nat)(he:QE X e re)(hN:X.N.Nodup:=by assumption)(hx:e7 X.env.scope x:=by first|exact .inl rfl|exact .inr rfl)(hi:X.N[i]?=some x:=by rfl)(hs:swapsWith e (some (.Name x a8)) O.line X.env=pure false:=by rfl)(hf:zd X x:=by first|exact .inl rfl|exact .inr rfl|assumption) :
  QS X (.Assign [.Name x a8] e O) (oa i re):=(zc hN hi hx he hs hf).imp λD G H ⟨own,o,E,h,a,L⟩=>⟨own,o,_,h,a,λW v y q S n=>by
 obtain⟨d,c,f⟩:=h.putA S (n.frz λb z=>(h.sole z).ne) i;exact L.nx d W _ _ q f c⟩
def gR(i:Nat)(f:QE X e re)(g:X.N.Nodup:=by assumption)(a:e7 X.env.scope x:=by first|exact .inl rfl|exact .inr rfl)(hi:X.N[i]?=some x:=by rfl)(b:swapsWith e (some (.Name x a8)) O.line X.env=pure false:=by rfl)(d:zd X x:=by first|exact .inl rfl|exact .inr rfl|assumption) :
  QS X (.Assign [.Name x a8] e O) (nS i re):=(zc g hi a f b d).imp λD G H ⟨own,o,E,h,c,L⟩=>⟨own,o,_,h,c,λW v y q S n=>by
 obtain⟨k,j,l⟩:=h.putA S n i;exact L.nx k W _ _ q l j⟩
def nq(c:QE X e re)(a:swapsWith e none O.line X.env=pure false:=by rfl):QS X (.Expr e O) (O' re):=(oK c a).imp λD G H d=>by obtain⟨own,o,E,h,b,L⟩:=d;exact⟨own,o,_,h,b,λW v y q S n=>L.nx own W G o q (bU S) (h.same S)⟩
def bR(f:QE X e re):QS X (.Return (some e) O) (KF re):=(yH f).imp λD G H ⟨own,o,E,h,d,L⟩=>⟨own,o,_,h,d,λW v y q S n=>by
 obtain⟨B,c,s⟩:=n;exact L.rt _ W v y B q (h_ (λb z=>z.imp id (c b)) S) s λa g=>.inr g⟩
def iD(i:Nat)(g:n_X X i x:=by exact⟨rfl,rfl,vk,vk⟩):QS X (.Return (some (.Name x p)) O) (D6 i):=(yH (pv i g)).imp λD G H f=>by
 obtain⟨own,o,E,h,b,L⟩:=f;have b:E.rt (slot o i)/\slot o i≠.und:=by
  unfold D6 at b;cases e:slot o i<;>rw[e]at b<;>first|exact b.elim|exact⟨b,λz=>by cases z⟩
 obtain⟨u,e,s⟩:=h.val rfl b.2;exact⟨u,e,L.rt (Ow own) H u _ _ b.1 (.refl _) s λa d=>⟨i,d⟩⟩
def cC{e ts:xA}{f:RT}(i:QT X c f)(k:ef X e a)(j:ef X ts b):QS X (.If c e ts O) (ti f a b):=(DM i k j).imp λD G H ⟨own,o,E,h,g,L⟩=>tQT.mk h g λY c q d =>
 K3 q (λq=>⟨own,o,E,h.same d,q,L.step (bU d)⟩) λq=>⟨own,o,E,h.same d,q,L.step (bU d)⟩
def gM:QS X st UB:=acw.imp λD G H b=>by obtain⟨own,o,E,h,a,L⟩:=b;exact a
def Ri(i:Nat)(c:QS X st a):QS X st (BH i a):=PS.imp c λD G H d=>by
 obtain⟨own,o,E,h,b,L⟩:=d;have b:a E (o.set i (.fz (frz (slot o i))))/\slot o i≠.und:=by
  unfold BH at b;cases e:slot o i<;>rw[e]at b<;>first|exact b.elim|exact⟨b,λz=>by cases z⟩
 obtain⟨u,g,s⟩:=h.val rfl b.2;obtain⟨j,f,S⟩:=h.frz (gK rfl b.2) g;exact⟨j,_,E,f,b.1,L.step S⟩
def zM{u:HO}(h:S D):hd S (upd H D u)=hd S H:=funext λb=>by
 by_cases z:S b
 .rw[p7 z,p7 z]
 .rw[cR z,cR z,bY λ(e:b=D)=>z (e.symm ▸ h)]
def J':OT->Option (List T×(xk->OT))
 |.l1 ts=>some (ts,.l1)
 |.la a ts=>some (ts,.la a)
 |_=>none
def g7(x:OT)(k:xk->(xk->OT)->Prop):Prop:=match J' x with|some (ts,c)=>k ts c|none=>False
def G3{x:OT}{k:xk->(xk->OT)->Prop}(h:g7 x k):∃ts c,k ts c/\((x=.l1 ts/\c=.l1)\/∃a,x=.la a ts/\c=.la a):=by
 cases x with
 |l1 ts=>exact⟨ts,_,h,.inl ⟨rfl,rfl⟩⟩
 |la a ts=>exact⟨ts,_,h,.inr ⟨a,rfl,rfl⟩⟩
 |_=>exact h.elim
def MH(i:Nat)(a:RE):RS:=λE o=>g7 (slot o i) λts c=>a o λy=>ts.length<sizeLine/\E.nx (o.set i (c (ts++[frz y])))
def SR.l1{K:Frag}{own:Nat->Ψ}{H:Hp}{G:L2.St}{o:xf}(h:SR K own H G o){i:Nat}{ts:xk}{c:xk->OT}(e:(slot o i=.l1 ts/\c=.l1)\/∃a,slot o i=.la a ts/\c=.la a):∃l I,G[i]?=some (some (.ref l))/\own i=[l]/\H l=some (.lst I)/\bW K (hd (Ow own) H) I ts/\∀(W:Hp)(ys:Ζ)d,W l=some (.lst ys)->bW K (hd (Ow own) W) ys d->Slo K (hd (Ow own) W) W (some (.ref l)) [l] (c d):=by
 rcases e with⟨e,rfl⟩|⟨a,e,rfl⟩
 .obtain⟨u,k,l,I,j,g,f,r⟩:=h.val e (by intro z;cases z);cases j;exact⟨l,I,k,g,f,r,λW ys d a b=>⟨l,ys,rfl,rfl,a,b⟩⟩
 .obtain⟨u,k,I,j,g,f,r⟩:=h.val e (by intro z;cases z);cases j;exact⟨a,I,k,g,f,r,λW ys d a b=>⟨ys,rfl,rfl,a,b⟩⟩
def KY{c:xk->OT}(e:(slot o i=.l1 ts/\c=.l1)\/∃a,slot o i=.la a ts/\c=.la a):∃x,o[i]?=some x:=by
 rcases e with⟨e,_⟩|⟨a,e,_⟩
 .exact⟨_,gK e (by intro z;cases z)⟩
 .exact⟨_,gK e (by intro z;cases z)⟩
def SR.chg1(h:SR K own H G o){a:xk}{c:xk->OT}(e:∃x,o[i]?=some x){l:Addr}(d:G[i]?=some (some (.ref l)))(f:own i=[l])(sl:∀(W:Hp)(ys:Ζ)a,W l=some (.lst ys)->bW K (hd (Ow own) W) ys a->Slo K (hd (Ow own) W) W (some (.ref l)) [l] (c a))(r:bW K (hd (Ow own) H) ys a):SR K own (upd H l (.lst ys)) G (o.set i (c a))/\zT (hd (Ow own) H) (hd (Ow own) (upd H l (.lst ys))):=by
 obtain⟨x,e⟩:=e;refine h.chg e (λb u g e=>(bY λz=>g (by rw[f,z];simp)).trans e) ?_;rw[d,f];exact sl _ ys a cj (by rw[zM ⟨i,by rw[f];simp⟩];exact r)
def rK(i:Nat)(w:QE X e re)(B:n_X X i x:=by exact⟨rfl,rfl,vk,vk⟩)
 (z:attributeBase (.Name x p) "append" X.env (eval (.Name x p) X.env)=eval (.Name x p) X.env:=by rfl)
 (u:zg X af e:=by rfl)
 (t:zC ah af:=by rfl)(g:zw X e []:=by rfl)(s:zb X af []:=by rfl)
 (n:swapsWith (.Call (.Attribute (.Name x p) "append" ah) [e] [] af) none O.line X.env=pure false:=by rfl) :
  QS X (.Expr (.Call (.Attribute (.Name x p) "append" ah) [e] [] af) O) (MH i re):=(oK (Xv (pv i B) (cF w jB g) z u t g s) n).imp λD G H A=>by
 obtain⟨own,o,E,h,b,L⟩:=A;obtain⟨ts,c,b,Z⟩:=G3 b;obtain⟨l,I,f,F,d,r,j⟩:=h.l1 Z;refine⟨_,f,l,I,rfl,d,tQ.mk h b λY v y q a k=>⟨v,I,rfl,a _ _ d,by rw[r.len];exact q.1,?_⟩⟩;obtain⟨C,S⟩:=(h.same a).chg1 (KY Z) f F j ((r.same (bU a)).app (.cons k .nil));exact L.nx own _ G _ q.2 ((bU a).trans S) C
def Mb(i:Nat)(a b:RE):RS:=λE o=>g7 (slot o i) λts c=>a o λy=>b o λk=>(match frz k with|.int j=>∃n,c6 ts.length j=some n/\E.nx (o.set i (c (ts.set n (frz y))))|_=>False)
def uE(i:Nat){k:Expr}{m:RE}(K:QE X e re)(J:QE X k m)(Q:n_X X i x:=by exact⟨rfl,rfl,vk,vk⟩)
 (M:∀v,assign (.Subscript (.Name x p) k ay) X.env v=(do
   let a <- holding [v] (eval (.Name x p) X.env)
   let g <- holding [v,a] (eval k X.env)
   standAt ay
   holding [v,a,g] (setItem a g v)
   release [v,a,g] []):=by intro _;rfl)
 (F:swapsWithSole [.Subscript (.Name x p) k ay] e O.line X.env=pure false:=by rfl)(hw:swappedStores [.Subscript (.Name x p) k ay] e X.env=pure none:=by rfl)
 (R:(assignEach [.Subscript (.Name x p) k ay] X.env).map (·.2)=[assign (.Subscript (.Name x p) k ay) X.env]:=by rfl):QS X (.Assign [.Subscript (.Name x p) k ay] e O) (Mb i re m):=(Yq K (E8 (pv i Q) J set_list M) F hw R).imp λD G H P=>by
 obtain⟨own,o,E,h,j,L⟩:=P;obtain⟨ts,c,j,Z⟩:=G3 j;obtain⟨l,I,s,W,V,r,B⟩:=h.l1 Z;refine tQ.mk h j λY v y q A f=>⟨_,s,tQ.mk (h.same A) q λH2 w z q u d=>?_⟩;have f:=f.same (bU u)
 revert d q
 generalize frz z=t;intro q d;cases t<;>try exact q.elim
 cases d;obtain⟨n,U,q⟩:=q;have b:=A.trans u;refine⟨l,I,_,n,rfl,rfl,b _ _ V,by rw[r.len];exact U,?_⟩;obtain⟨T,S⟩:=(h.same b).chg1 (KY Z) s W B (bW.set f n (r.same (bU b)));exact L.nx own _ G _ q ((bU b).trans S) T
def K2(i:Nat)(b:RE):RE:=λo q=>g7 (slot o i) λts _=>b o λy=>(match frz y with|.int j=>∃t,cv ts j=some t/\q (.fz t)|_=>False)
def vY(i:Nat){b:Expr}(n:QE X b rb)(u:n_X X i x:=by exact⟨rfl,rfl,vk,vk⟩)(m:oO b:=by exact λ_ _=>rfl):QE X (.Subscript (.Name x p) b O) (K2 i rb):=(tu Az (pv i u) n m).imp λG H Q s=>by
 obtain⟨own,o,R,h,e,k⟩:=s;obtain⟨ts,c,e,Z⟩:=G3 e;obtain⟨a,I,z,E,w,r,D⟩:=h.l1 Z;refine⟨_,z,tQ.mk h e λY v y q f d=>?_⟩
 revert d q
 generalize frz y=t;intro q d;cases t<;>try exact q.elim
 cases d;obtain⟨t,j,q⟩:=q;obtain⟨v,A,g⟩:=r.ix j;exact⟨a,I,_,v,rfl,rfl,.of (f _ _ w),A,k Y _ _ q f (NR.fz (g.same (bU f)))⟩
def DS(i:Nat)(f:Int->Int->Int)(a:RE):RS:=λE o=>match slot o i with|.fz (.int k)=>a o λy=>(match frz y with|.int j=>E.nx (o.set i (.fz (.int (f k j))))|_=>False)|_=>False
def F5(i:Nat){op:Operator}{f:Int->Int->Int}(g:pz X op (sq f))(k:QE X e re)(m:X.N.Nodup:=by assumption)(d:e7 X.env.scope x:=by first|exact .inl rfl|exact .inr rfl)(hi:X.N[i]?=some x:=by rfl)(j:zd X x:=by first|exact .inl rfl|exact .inr rfl|assumption):QS X (.AugAssign (.Name x a8) op e O) (DS i f re):=(TL m hi d k g j).imp λD G H l=>by
 obtain⟨own,o,E,h,a,L⟩:=l;unfold DS at a;cases Z:slot o i with
 |fz t =>
  rw[Z]at a;cases t<;>try exact a.elim
  obtain⟨u,p,r⟩:=h.get (gK Z (by intro z;cases z));cases r;refine⟨_,p,tQ.mk h a λY v y q c b=>?_⟩
  revert b q
  generalize frz y=t;intro q b;cases t<;>try exact q.elim
  cases b;refine⟨_,_,rfl,rfl,?_⟩;obtain⟨s,n,S⟩:=(h.same c).putA (.refl _) (NR.fz (.int _)) i;exact L.nx s _ _ _ q ((bU c).trans S) n
 |_=>rw[Z]at a;exact a.elim
def G9(n:Nat)(own b:Nat->Ψ)(G a:L2.St):Prop:=(∀j,b j=own j\/(j<n/\b j=[]))/\a.length=G.length/\∀j,n<=j->a[j]?=G[j]?
def G9.refl : G9 n own own G G:=⟨λ_=>.inl rfl,rfl,λ_ _=>rfl⟩
def G9.trans{n:Nat}{own own1 g:Nat->Ψ}{G d c:L2.St}(a:G9 n own own1 G d)(b:G9 n own1 g d c):G9 n own g G c :=
 ⟨λj=>(b.1 j).elim (λe=>(a.1 j).imp (λz=>e.trans z) λz=>⟨z.1,e.trans z.2⟩) .inr,b.2.1.trans a.2.1,λj f=>(b.2.2 j f).trans (a.2.2 j f)⟩
def G9.same{d:Nat->Ψ}{c:L2.St}(a:G9 n own d G c) : zT (hd (Ow own) H) (hd (Ow d) H):=h_ (λb f=>by obtain⟨j,z⟩:=f;exact .inl ⟨j,(a.1 j).elim (λe=>e ▸ z) λe=>by rw[e.2]at z;cases z⟩) λ_ _ z=>z
abbrev zn:Type:=T->xf->(xf->Prop)->Prop
def f6(K:Frag)(n:Nat)(g:zn):TG:=λv G H Q=>∃own o t R,SR K own H G o/\Rep K (hd (Ow own) H) v t/\g t o R/\∀c a b,R b->G9 n own c G a->SR K c H a b->Q a H
def QG(X:Cx)(n:Nat)(a:Expr)(g:zn):Prop:=PG X a (f6 X.K n g)
abbrev ze:Type:=xk->xf->(xf->Prop)->Prop
def kb(X:Cx)(n:Nat)(d:xw)(g:ze):Prop:=PGs X d λv G H Q=>∃own o t R,SR X.K own H G o/\bW X.K (hd (Ow own) H) v t/\g t o R/\∀c a b,R b->G9 n own c G a->SR X.K c H a b->Q a H
def PGs.imp{a:xw}{t b:eZ}(h:PGs X a t)(i:∀v G H Q,b v G H Q->t v G H Q):PGs X a b:=λU s G H v u Q I r q=>h U s G H v u Q I r (i _ _ _ _ q)
def hName(i:Nat):zn:=λt o q=>q (o.set i (.fz t))
def My:ze:=λts o q=>match ts with|[]=>q o|_=>False
def OS(g:zn)(b:ze):ze:=λts o q=>match ts with|t::ts=>g t o λa=>b ts a q|_=>False
def Ki(n:Nat)(a:ze):zn:=λt o q=>match t with|.tup ts=>ts.length=n/\a ts o q|_=>False
def SR.setF(h:SR K own H G o)(r:Rep K (hd (Ow own) H) v t)(hi:i<n):∃p,SR K p H (G.set i (some v)) (o.set i (.fz t))/\G9 n own p G (G.set i (some v)):=by
 have le:zT (hd (Ow own) H) (hd (Ow (own1 own i [])) H):=h_ (λb z=>.inl (z.of1.elim id λy=>(nomatch y))) λ_ _ z=>z;have m:G9 n own (own1 own i []) G (G.set i (some v)):=⟨λj=>by
  by_cases z:j=i
  .exact .inr ⟨z ▸ hi,by rw[z,j8]⟩
  .exact .inl (gB z),WH,λj g=>VS vw⟩
 by_cases c:i<o.length
 .refine⟨own1 own i [],⟨by rw[WH,WH,h.len],λj y e=>?_,λj g a l=>?_,λj k a f d=>?_⟩,m⟩
  .by_cases z:j=i
   .subst z;rw[UY c]at e;cases e;rw[j8,UY (h.len ▸ c)];exact⟨rfl,v,rfl,r.same le⟩
   .rw[VS (Ne.symm z)]at e;rw[gB z,VS (Ne.symm z)];exact(h.sl j y e).same le λ_ _ z=>z
  .rw[WH]at g;rw[gB vw]at l;exact h.out j g a l
  .by_cases z:j=i
   .rw[z,j8]at f;cases f
   by_cases y:k=i
   .rw[y,j8]at d;cases d
   .rw[gB z]at f;rw[gB y]at d;exact h.dis j k a f d
 .refine⟨own,?_,⟨λ_=>.inl rfl,m.2⟩⟩;rwa[lz (Nat.not_lt.mp c),lz (h.len ▸ Nat.not_lt.mp c)]
def bZ(i:Nat)(hN:X.N.Nodup:=by assumption)(hx:e7 X.env.scope x:=by first|exact .inl rfl|exact .inr rfl)(hi:X.N[i]?=some x:=by rfl)(hn:i<n:=by decide)(hf:zd X x:=by first|exact .inl rfl|exact .inr rfl|assumption):QG X n (.Name x O) (hName i):=(gZ hN hi hx hf).imp λv G H Q b=>by
 obtain⟨own,o,t,R,h,r,a,k⟩:=b;obtain⟨d,c,S⟩:=h.setF r hn;exact k d _ _ a S c
def cZ : kb X n [] My:=Z4.imp λv G H Q b=>by
 obtain⟨own,o,t,R,h,r,a,k⟩:=b;cases r with
 |nil=>exact⟨rfl,k own G o a .refl h⟩
 |cons _ _=>exact a.elim
variable{g:zn}{gs:ze}{tg:Expr}
def bN(s:QG X n e g)(d:kb X n Z gs)(m:(assignEach (e::Z) X.env).map (·.2)=assign e X.env::(assignEach Z X.env).map (·.2):=by rfl):kb X n (e::Z) (OS g gs):=(K8 s d m).imp λv G H Q p=>by
 obtain⟨own,o,t,R,h,r,f,k⟩:=p;cases r with
 |nil=>exact f.elim
 |cons a b=>exact⟨_,_,rfl,own,o,_,_,h,a,f,λx i l q S u=>⟨x,l,_,R,u,b.same S.same,q,λw c j q y d=>k w c j q (S.trans y) d⟩⟩
def eG{m:Nat}(h:kb X m Z gs)(hc:X.calm:=by rfl)(c:(assignEach Z X.env).length=n:=by rfl)(f:zD X Z:=by rfl):QG X m (.Tuple Z k O) (Ki n gs):=(EQ hc h c f).imp λv G H Q d=>by
 obtain⟨own,o,t,R,h,r,b,k⟩:=d;cases t<;>try exact b.elim
 obtain⟨a,I,rfl,e,r⟩:=r.tupI;exact⟨a,I,rfl,cL.tup e,r.len.trans b.1,own,o,_,R,h,r,b.2,k⟩
def MZ(a:RE)(g:zn):RS:=λE o=>a o λx=>g (frz x) o E.nx
def Qs(l:QE X e re)(k:QG X n tg g)(i:swapsWithSole [tg] e O.line X.env=pure false:=by rfl)(f:swappedStores [tg] e X.env=pure none:=by rfl)(p:(assignEach [tg] X.env).map (·.2)=[assign tg X.env]:=by rfl):QS X (.Assign [tg] e O) (MZ re g) :=
 (Yq l k i f p).imp λD G H m=>by obtain⟨own,o,E,h,j,L⟩:=m;exact tQ.mk h j λY v y q b c=>⟨own,o,_,_,h.same b,c,q,λs a d q S r=>L.nx s Y a d q ((bU b).trans S.same) r⟩
def start'(n:Nat)(ts:xk):xf:=ts.map OT.fz++replicate (n-ts.length) .und
def SR.start{H:Hp}{c:Ζ}{ts:xk}(r:bW K H c ts)(N:Φ):SR K (λ_=>[]) H (start N c) (start' N.length ts):=by
 have k:Ow (λ_=>[])=λ_=>False:=funext λb=>propext ⟨λg=>by obtain⟨_,z⟩:=g;exact(nomatch z),False.elim⟩;refine⟨by unfold start' L2.start;simp[r.len],λi x e=>?_,λ_ _ _ z=>(nomatch z),λi j a z=>(nomatch z)⟩;rw[k,JC];unfold start' at e;unfold L2.start;by_cases hi:i<ts.length
 .rw[aF (by simpa using hi),aq,aj hi]at e;cases e;obtain⟨v,h,f⟩:=r.at_ (aj hi);rw[aF (by rwa[ak,r.len]),aq,h];exact⟨rfl,v,rfl,f⟩
 .rw[aD (by simpa using hi),ak,XG]at e;by_cases d:i-ts.length<N.length-ts.length
  .rw[ZY d]at e;cases e;rfl
  .rw[ZZ d]at e;cases e
def Fun.okT{m:Str}{N:Φ}{S:ST}(F:Fun K x m st f fd)(n:bL N ps (bH st))
 {r}(L:∀{i:Value}{A:Around}{c:xC}{s:Shared}{H:Hp}{E:XK},dX k (A.deeper (envOfC m (bH st) s.zs f i))->N.Nodup ->ef (FZ bb P w K mg base N m (bH st) f i A c s H E).nox (fL st) r)(M:∀ts R,S ts R->r { nx:=λ_=>R (.fz .non),rt:=R } (start' N.length ts))(j:∀ts R,S ts R->ts.length=ps.length:=by intro _ _ h;repeat (first|exact(ZH List.length h.1).trans rfl|obtain⟨_,h⟩:=h)):fD P w K mg base bb (k+1) f fd ps (spT K S):=by
 refine F.ok n (λu H Q E h=>?_) λi A c s H u Q E y h=>?_
 .obtain⟨ts,R,r,l,_⟩:=h;exact r.len.trans (j ts R l)
 .obtain⟨ts,R,r,l,q⟩:=h;have J:=@L i A c s H E y n.nd;have I:=M;have p:hd (Ow λ_=>[]) H=H:=by rw[show Ow (λ_=>[])=λ_=>False from funext λb=>propext ⟨λD=>by obtain⟨_,z⟩:=D;exact(nomatch z),False.elim⟩,JC]
  have e:∀(S:Addr->Prop)W v x B,R x->zT H (hd S W)->Slo K (hd S W) W (some v) B x->(∀a∈B,S a)->Q v W:=λt W v x B d E s g =>
   q W v x d (E.trans cL) ⟨B,λa C=>E.free (p7 (g a C)),s.same (h_ (λb z=>.inl (z.elim False.elim (g b))) λ_ _ z=>z) λ_ _ z=>z⟩
  refine⟨_,J,λ_=>[],_,_,SR.start r N,I ts R l,⟨λown W G o d E h=>?_,λt W v x B d E s g=>e t W v x B d (p ▸ E) s g,λ_ _ _ _ z=>z.elim,λ_ _ _ _ z=>z.elim,λ_ _ _ _ _ _ z=>z.elim⟩⟩;exact e (Ow own) W .non _ [] d (p ▸ E) ⟨rfl,_,rfl,.non⟩ λ_ z=>(nomatch z)
def Fun.okU{m:Str}{N:Φ}{S:ST}(F:Fun K x m st f fd)(n:bL N ps (bH st))
 (L:∀(i:Value)(A:Around)(c:xC)(s:Shared)(H:Hp)(E:XK),dX k (A.deeper (envOfC m (bH st) s.zs f i))->N.Nodup ->
   ∃r,ef (FZ bb P w K mg base N m (bH st) f i A c s H E).nox (fL st) r/\∀ts R,S ts R->r { nx:=λ_=>R (.fz .non),rt:=R } (start' N.length ts))(j:∀ts R,S ts R->ts.length=ps.length:=by intro _ _ h;repeat (first|exact(ZH List.length h.1).trans rfl|obtain⟨_,h⟩:=h)):fD P w K mg base bb (k+1) f fd ps (spT K S):=by
 refine F.ok n (λu H Q E h=>?_) λi A c s H u Q E y h=>?_
 .obtain⟨ts,R,r,l,_⟩:=h;exact r.len.trans (j ts R l)
 .obtain⟨ts,R,r,l,q⟩:=h;obtain⟨rd,J,I⟩:=L i A c s H E y n.nd;have p:hd (Ow λ_=>[]) H=H:=by rw[show Ow (λ_=>[])=λ_=>False from funext λb=>propext ⟨λD=>by obtain⟨_,z⟩:=D;exact(nomatch z),False.elim⟩,JC]
  have e:∀(S:Addr->Prop)W v x B,R x->zT H (hd S W)->Slo K (hd S W) W (some v) B x->(∀a∈B,S a)->Q v W:=λt W v x B d E s g =>
   q W v x d (E.trans cL) ⟨B,λa C=>E.free (p7 (g a C)),s.same (h_ (λb z=>.inl (z.elim False.elim (g b))) λ_ _ z=>z) λ_ _ z=>z⟩
  refine⟨_,J,λ_=>[],_,_,SR.start r N,I ts R l,⟨λown W G o d E h=>?_,λt W v x B d E s g=>e t W v x B d (p ▸ E) s g,λ_ _ _ _ z=>z.elim,λ_ _ _ _ z=>z.elim,λ_ _ _ _ _ _ z=>z.elim⟩⟩;exact e (Ow own) W .non _ [] d (p ▸ E) ⟨rfl,_,rfl,.non⟩ λ_ z=>(nomatch z)
abbrev RI:=xf->(xk->Prop)->Prop
def hF(K:Frag)(J:It)(F:Hp)(I:xk):Prop:=∀(S:Addr->Prop)(H:Hp)(i:Nat),(∀b,S b->H b≠none)->zT F (hd S H) ->
 (i=I.length->J.stop i H)/\∀t,I[i]?=some t->J.go i H/\∀x W,J.yld i H x W->zT H W/\Rep K (hd S W) x t
def iH(K:Frag)(r:RI):TI:=λG H Q=>∃own o R,SR K own H G o/\r o R/\∀W J I,R I->zT H W->hF K J (hd (Ow own) W) I->Q J W
def QI(X:Cx)(tg a:Expr)(r:RI):Prop:=PI X tg a (iH X.K r)
def PI.imp{b:Expr}{t a:TI}(h:PI X tg b t)(i:∀G H Q,a G H Q->t G H Q):PI X tg b a:=λU s G H Q I q=>h U s G H Q I (i G H Q q)
def KG(a:RE):RI:=λo q=>a o λx=>match frz x with|.lst ts=>q ts|_=>False
def Zt{t:Addr}{u:HO}(n:H t=none)(a:∀b,S b->H b≠none):hd S (upd H t u) t=some u:=by rw[cR λz=>a t z n];exact cj
variable{a b iter be:Expr}{br aI:xw}{ri:RI}{rc rt:RT}{Y H0:Hp}{J sO:Scope}{N0:Φ}{x0 y0:Str}{C0:Addr}{s0:Shared}{dy:Ψ}{du:Δ}{i0:Nat}{q:xk->Prop}
def cg(m:QE X e re):QI X tg e (KG re):=(_I m).imp λG H Q ⟨own,o,R,h,l,k⟩=>tQ.mk h l λY v x q n c=>by
 revert c q
 generalize frz x=t;intro q c;cases t<;>try exact q.elim
 obtain⟨a,I,rfl,e,r⟩:=c.lstI;refine⟨a,rfl,⟨I,.of (cQ e).2⟩,k Y _ _ q n λS s i _ b=>⟨λhi=>⟨I,.of (cQ (b _ _ e)).2,by rw[r.len];exact WG hi.symm⟩,λt j=>?_⟩⟩;obtain⟨y,d,f⟩:=r.at_ j;refine⟨⟨I,y,.of (cQ (b _ _ e)).2,d⟩,?_⟩;rintro x p ⟨rfl,g⟩;have:=g I (.of (cQ (b _ _ e)).2);rw[d]at this;cases this;exact⟨.refl _,f.same b⟩
def rng(lo:Int)(n:Nat):xk:=(range n).map λk:Nat=>.int (lo+k)
def ZQ{lo:Int}{F:Hp} : hF K (kn lo n) F (rng lo n):=λS H i _ _=>⟨λhi=>by rw[rng,ak,WP]at hi;exact WG hi.symm,λt a=>by
 unfold rng at a;rw[aq]at a;by_cases hi:i<n
 .rw[VY hi]at a;cases a;refine⟨hi,?_⟩;rintro x W ⟨rfl,rfl⟩;exact⟨.refl _,.int _⟩
 .rw[aM (by simpa using hi)]at a;cases a⟩
def MW(r:RA):RI:=λo q=>r o λts=>match ts with|[.int j]=>(-(2^62)<=j/\j<2^62)/\q (rng 0 j.toNat)|_=>False
def MI(r:RA):RI:=λo q=>r o λts=>match ts with|[.int i,.int j]=>(-(2^62)<=i/\i<2^62/\-(2^62)<=j/\j<2^62)/\q (rng i (j-i).toNat)|_=>False
def dO(f:X.mg "range"=none)(i:QA X [a] r)(g:Gl X "range":=by rfl)(d:starEach [a] X.env=[(false,eval a X.env)]:=by rfl):QI X tg (.Call (.Name "range" p) [a] [] O) (MW r):=(abv g f i d).imp λG H Q ⟨own,o,R,h,e,k⟩=>⟨own,o,_,h,e,λY m ts q _ l c=>by
 match ts,q with
 |[.int j],q =>
  obtain⟨x,rfl,b⟩:=c.one;cases b;exact⟨j,rfl,q.1.1,q.1.2,k Y _ _ q.2 l ZQ⟩⟩
def Px(l:X.mg "range"=none)(n:QA X [a,b] r)(m:Gl X "range":=by rfl)(f:starEach [a,b] X.env=[(false,eval a X.env),(false,eval b X.env)]:=by rfl)(s:starEach [b] X.env=[(false,eval b X.env)]:=by rfl):QI X tg (.Call (.Name "range" p) [a,b] [] O) (MI r):=(aaZ m l n f s).imp λG H Q ⟨own,o,R,h,g,k⟩=>⟨own,o,_,h,g,λY u ts q _ t e=>by
 match ts,q with
 |[.int i,.int j],q =>
  obtain⟨x,y,rfl,d,c⟩:=e.two;cases d;cases c;exact⟨i,j,rfl,q.1,k Y _ _ q.2 t ZQ⟩⟩
def sW(ts:xk):xk:=ts.zipIdx.map λp=>.tup [.int (p.2:Nat),p.1]
def Mt(r:RA):RI:=λo q=>r o λts=>match ts with|[.lst ts]=>q (sW ts)|_=>False
def vp{j}(v:X.mg "enumerate"=none)(z:QA X [a] r)(w:Gl X "enumerate":=by rfl)(d:starEach [a] X.env=[(false,eval a X.env)]:=by rfl):QI X (.Tuple br j ay) (.Call (.Name "enumerate" p) [a] [] O) (Mt r):=(_W w v z d).imp λG H Q ⟨own,o,R,h,u,k⟩=>⟨own,o,_,h,u,λY D ts q _ B s=>by
 match ts,q with
 |[.lst ts],q =>
  obtain⟨x,rfl,m⟩:=s.one;obtain⟨a,I,rfl,e,r⟩:=m.lstI;refine⟨a,I,rfl,(cQ e).2,k Y _ _ q B λS J i d c=>⟨λhi=>⟨I,(cQ (c _ _ e)).2,by rw[r.len,hi];simp[sW]⟩,λt b=>?_⟩⟩;unfold sW at b;rw[aq]at b;by_cases hi:i<ts.length
  .rw[aj (by simpa using hi),Q1]at b;cases b;obtain⟨y,A,l⟩:=r.at_ (aj hi);refine⟨⟨I,(cQ (c _ _ e)).2,by rwa[r.len]⟩,?_⟩;rintro x F ⟨E,C,t,g,f,n,rfl,rfl⟩;rw[(cQ (c _ _ e)).2]at g;cases g;rw[A]at f;cases f;refine⟨zT.upd n,.tup (.of (Zt n d)) (.cons ?_ (.cons (l.same (c.trans (bU (zT.upd n)))) .nil))⟩;rw[show((0+i:Nat):Int)=(i:Int)by lia];exact .int _
  .rw[aM (by simpa using hi)]at b;cases b⟩
def Fj(ts a:xk):xk:=(ts.zip a).map λp=>.tup [p.1,p.2]
def L7(r:RA):RI:=λo q=>r o λts=>match ts with|[.lst ts,.lst a]=>q (Fj ts a)|_=>False
def Hs{A}(J:X.mg "zip"=none)(L:QA X [a,b] r)(K:Gl X "zip":=by rfl)(l:starEach [a,b] X.env=[(false,eval a X.env),(false,eval b X.env)]:=by rfl)(M:starEach [b] X.env=[(false,eval b X.env)]:=by rfl):QI X (.Tuple br A ay) (.Call (.Name "zip" p) [a,b] [] O) (L7 r):=(FS K J L l M).imp λG H Q ⟨own,o,R,h,F,k⟩=>⟨own,o,_,h,F,λY W ts q _ T E=>by
 match ts,q with
 |[.lst ts,.lst B],q =>
  obtain⟨x,y,rfl,D,g⟩:=E.two;obtain⟨a,I,rfl,e,r⟩:=D.lstI;obtain⟨b,ys,rfl,f,j⟩:=g.lstI;refine⟨a,b,I,ys,rfl,(cQ e).2,(cQ f).2,k Y _ _ q T λS H2 i l c=>⟨λhi=>⟨I,ys,(cQ (c _ _ e)).2,(cQ (c _ _ f)).2,?_⟩,λt d=>?_⟩⟩
  .rw[r.len,j.len];rw[Fj,ak,VZ]at hi;lia
  .unfold Fj at d;rw[aq]at d;by_cases hi:i<ts.length/\i<B.length
   .rw[aj (by rw[VZ];omega),JP]at d;cases d;obtain⟨y,P,g⟩:=r.at_ (aj hi.1);obtain⟨z,N,C⟩:=j.at_ (aj hi.2);refine⟨⟨I,ys,(cQ (c _ _ e)).2,(cQ (c _ _ f)).2,by rw[r.len];exact hi.1,by rw[j.len];exact hi.2⟩,?_⟩;rintro x H3 ⟨fN,Z,V,U,t,v,m,u,s,n,rfl,rfl⟩;rw[(cQ (c _ _ e)).2]at v;cases v;rw[(cQ (c _ _ f)).2]at m;cases m;rw[P]at u;cases u;rw[N]at s;cases s;have w:=c.trans (bU (S:=S) (zT.upd (o:=.tup [y,z]) n));exact⟨zT.upd n,.tup (.of (Zt n l)) (.cons (g.same w) (.cons (C.same w) .nil))⟩
   .rw[aM (by rw[VZ];omega)]at d;cases d⟩
def uW(g:zn)(b:RS)(E:DT):xk->xf->Prop
 |[],o=>E.nx o
 |t::ts,o=>∃N:xf->Prop,(∀o,N o->uW g b E ts o)/\g t o λa=>b { E with nx:=N,ct:=N,bk:=E.nx } a
def MS(a:RI)(g:zn)(b:RS):RS:=λE o=>a o λI=>uW g b E I o
def dh{R:xA}{rb:RS}(hi:QI X tg iter ri)(hg:QG X n tg g)(hb:ef X R rb)(hc:X.calm:=by rfl)(hp:PassesOwn (model X.prog X.w) X.A X.env X.xe:=by first|exact PassesOwn.never|exact PassesOwn.leaving)
 (hs:zh X iter:=by intro _;rfl):QS X (.For tg iter R [] O) (MS ri g rb):=(FV hp hc hi hg hb hs).imp λD G H ⟨own,o,E,h,hr,L⟩=>⟨own,o,_,h,hr,λY J I q P Z=>by
 refine⟨λi m e W=>∃f p,SR X.K f W e p/\zT (hd (Ow own) Y) (hd (Ow f) W)/\uW g rb E (I.drop i) p/\i<=I.length/\m=I.length-i,⟨_,own,o,h.same P,.refl _,q,aZ _,rfl⟩,?_⟩;rintro i m e W ⟨f,p,v,C,j,il,rfl⟩;obtain⟨w1,w2⟩:=Z (Ow f) W i (λb z=>(v.sole z).ne) C;have S0:=(bU P).trans C;by_cases hi:i<I.length
 .right;obtain⟨go,V⟩:=w2 _ (aj hi);rw[QQ hi]at j;obtain⟨N,Q,j⟩:=j;refine⟨go,λk s=>∃u t,SR X.K u s k t/\zT (hd (Ow own) Y) (hd (Ow u) s)/\uW g rb E (I.drop (i+1)) t,λk s ⟨u,t,a,b,c⟩=>⟨I.length-(i+1),by omega,u,t,a,b,c,hi,rfl⟩,λx s y=>?_⟩;obtain⟨T,rx⟩:=V x s y;refine⟨f,p,_,_,v.same T,rx,j,λgh U o3 q3 jv h3=>⟨gh,o3,_,h3,q3,?_⟩⟩;have B:=C.trans ((bU (S:=Ow f) T).trans jv.same);have F:=L.step ((bU P).trans B);exact⟨λr M d l q S h=>⟨r,l,h,B.trans S,Q _ q⟩,F.rt,λr M d l q S h=>F.nx r M d l q S h,λr M d l q S h=>⟨r,l,h,B.trans S,Q _ q⟩,F.xc⟩
 .left;refine⟨w1 vw,?_⟩;rw[Tk (Nat.not_lt.mp hi)]at j;exact L.nx f W e p j S0 v⟩
def P9(c:RT)(b:RS):RS:=λE o=>∃W:Nat->xf->Prop,(∃m,W m o)/\∀m o,W m o->c o λk=>sw k (∃N:xf->Prop,(∀a,N a->∃d,d<m/\W d a)/\b { E with nx:=N,ct:=N,bk:=E.nx } o) (E.nx o)
def LR{B:xA}{rb:RS}(R:QT X c rc)(T:ef X B rb)(Q:PassesOwn (model X.prog X.w) X.A X.env X.xe:=by first|exact PassesOwn.never|exact PassesOwn.leaving):QS X (.While c B [] O) (P9 rc rb):=(Wq Q R T).imp λD G H n=>by
 obtain⟨own,o,E,h,P,L⟩:=n;obtain⟨d,⟨J,I⟩,st⟩:=P;refine⟨λm f W=>∃r g,SR X.K r W f g/\zT (hd (Ow own) H) (hd (Ow r) W)/\d m g,⟨J,own,o,h,.refl _,I⟩,?_⟩;rintro m f W ⟨r,g,u,C,F⟩;refine tQT.mk u (st m g F) λY k q t=>K3 q (λn=>?_) λq=>L.nx r Y f g q (C.trans (bU t)) (u.same t);obtain⟨N,U,q⟩:=n;have v:=C.trans (bU t);have x:=L.step v;refine⟨λi z=>∃s l,SR X.K s z i l/\zT (hd (Ow own) H) (hd (Ow s) z)/\N l,λi z n=>?_,r,g,_,u.same t,q,⟨λp y e j q S h=>⟨p,j,h,v.trans S,q⟩,x.rt,λp y e j q S h=>x.nx p y e j q S h,λp y e j q S h=>⟨p,j,h,v.trans S,q⟩,x.xc⟩⟩;obtain⟨s,l,a,b,c⟩:=n;obtain⟨M,lt,w⟩:=U l c;exact⟨M,lt,s,l,a,b,w⟩
def iy(g:zn)(c:RT)(e:RE)(o:xf):xk->(xk->Prop)->Prop
 |[],q=>q []
 |t::ts,q=>∃(N:T->Prop)(M:Prop),(∀y,N y->iy g c e o ts λd=>q (y::d))/\(M->iy g c e o ts q)/\g t o λa=>c a λb=>sw b (e a λy=>N (frz y)) M
def LW:RT:=λ_ q=>q true
def YJ(b:RI)(n:Nat)(g:zn)(c:RT)(e:RE):RE:=λo q=>b o λI=>I.length<=sizeLine/\iy g c e (replicate n .und++o) I λa=>q (.l1 a)
noncomputable def ownS(n L:Nat)(own:Nat->Ψ)(D:Addr):Nat->Ψ:=λi=>if i<n then[]else if i<n+L then own (i-n)else if i=n+L then[D]else own (i-n-1)
def Ow.ownS{n L:Nat}{own:Nat->Ψ}{D b:Addr} : Ow (ownS n L own D) b↔Ow own b\/b=D:=by
 constructor
 .rintro⟨i,z⟩;unfold L2.ownS at z;by_cases d:i<n
  .rw[ZY d]at z;cases z
  rw[ZZ d]at z;by_cases c:i<n+L
  .rw[ZY c]at z;exact .inl ⟨_,z⟩
  rw[ZZ c]at z;by_cases a:i=n+L
  .rw[ZY a]at z;exact .inr (YR.mp z)
  .rw[ZZ a]at z;exact .inl ⟨_,z⟩
 .rintro(⟨i,z⟩|rfl)
  .by_cases h:i<L
   .exact⟨n+i,by unfold L2.ownS;rw[ZZ (TZ (X1 _ _)),ZY (Nat.add_lt_add_left h _),show n+i-n=i by exact TK _ _];exact z⟩
   .exact⟨n+i+1,by unfold L2.ownS;rw[ZZ vw,ZZ vw,ZZ vw,show n+i+1-n-1=i by lia];exact z⟩
  .exact⟨n+L,by unfold L2.ownS;rw[ZZ (TZ (X1 _ _)),ZZ (X2 _),ZY rfl];simp⟩
def SR.block(h:SR K own H G o)(E:zT H W)(r:H D=none)(v:W D=some (.lst ys))(c:L2.St):SR K (ownS c.length o.length own D) W (c++G) (replicate c.length .und++o):=by
 have le:zT (hd (Ow own) H) (hd (Ow (ownS c.length o.length own D)) W):=h_ (λb z=>(Ow.ownS.mp z).imp id λ(e:b=D)=>e ▸ r) E;have n:∀j,D∉own j:=λj z=>(h.sole ⟨j,z⟩).ne r;refine⟨by simp[h.len],λi x e=>?_,λi hi a l=>?_,λi j a f d=>?_⟩
 .by_cases m:i<c.length
  .rw[aF (by simpa using m),XG,ZY m]at e;cases e;show ownS _ _ _ _ i=[];unfold ownS;rw[ZY m]
  .rw[aD (by simpa using m),aN]at e;have w:i-c.length<o.length:=(ao.mp e).1;rw[aD (Nat.not_lt.mp m)];have:ownS c.length o.length own D i=own (i-c.length):=by unfold ownS;rw[ZZ m,ZY (by omega)]
   rw[this];exact(h.sl _ x e).same le E
 .rw[aA,aN]at hi;unfold ownS at l;rw[ZZ vw,ZZ (TZ hi)]at l;by_cases s:i=c.length+o.length
  .rw[ZY s]at l;cases YR.mp l;exact⟨_,v⟩
  .rw[ZZ s]at l;obtain⟨I,e⟩:=h.out _ vw a l;exact⟨I,E _ _ e⟩
 .unfold ownS at f d;by_cases u:i<c.length
  .rw[ZY u]at f;cases f
  by_cases t:j<c.length
  .rw[ZY t]at d;cases d
  rw[ZZ u]at f;rw[ZZ t]at d;by_cases q:i<c.length+o.length<;>by_cases p:j<c.length+o.length
  .rw[ZY q]at f;rw[ZY p]at d;have:=h.dis _ _ a f d;omega
  .rw[ZY q]at f;rw[ZZ p]at d;by_cases g:j=c.length+o.length
   .rw[ZY g]at d;cases YR.mp d;exact absurd f (n _)
   .rw[ZZ g]at d;have:=h.dis _ _ a f d;omega
  .rw[ZZ q]at f;rw[ZY p]at d;by_cases k:i=c.length+o.length
   .rw[ZY k]at f;cases YR.mp f;exact absurd d (n _)
   .rw[ZZ k]at f;have:=h.dis _ _ a f d;lia
  .rw[ZZ q]at f;rw[ZZ p]at d;by_cases k:i=c.length+o.length<;>by_cases g:j=c.length+o.length
   .exact Eq.trans k (Eq.symm g)
   .rw[ZY k]at f;rw[ZZ g]at d;cases YR.mp f;exact absurd d (n _)
   .rw[ZZ k]at f;rw[ZY g]at d;cases YR.mp d;exact absurd f (n _)
   .rw[ZZ k]at f;rw[ZZ g]at d;have:=h.dis _ _ a f d;lia
def Wb{d:Nat->Ψ}{b a:L2.St}(e:b.length=n)(g:G9 n own d (b++G) a):∃c:L2.St,c.length=n/\a=c++G:=by
 obtain⟨_,l,k⟩:=g;refine⟨a.take n,by rw[aY,l,aA];lia,?_⟩;refine Q2 λi=>?_;by_cases hi:i<n
 .rw[aF (by rw[aY,l,aA];lia),List.getElem?_take_of_lt hi]
 .rw[aD (by rw[aY,l,aA];lia),k i (VW hi),aD vw,aY,l,aA]
  congr 1
  lia
def V_{J:It}{I:xk}(h1:SR K own Y G o)(wk:hF K J (hd (Ow own) Y) I)(lx:I.length<=sizeLine)(q:iy g rc re (replicate n .und++o) I λF=>R (.l1 F))(s:Y D=none)(k:∀W v x,R x->zT Y W->NR K (Ow own) Y W v x->Q v W) :
  ∃a:Nat->Nat->Ζ->Hp->Prop,(∃m,a 0 m [] (upd Y D (.lst [])))/\∀i m ys c,a i m ys c ->
   (J.stop i c/\Q (.ref D) c)\/(J.go i c/\∀x W,J.yld i c x W->∀d:L2.St,d.length=n->gw (f6 K n g) x (d++G) W λl E=>∃C:L2.St,C.length=n/\l=C++G/\gm (tQT K rc) l E λb P =>
    match b with
    |true=>tM (tQ K re) l P λy O=>ys.length<sizeLine/\O D=some (.lst ys)/\∃t,t<m/\a (i+1) t (ys++[y]) (upd O D (.lst (ys++[y])))
    |false=>∃t,t<m/\a (i+1) t ys P):=by
 generalize hO:replicate n OT.und++o=H at q;refine⟨λi m ys c=>∃ts,c D=some (.lst ys)/\zT Y c/\bW K (hd (λb=>Ow own b\/b=D) c) ys ts/\ys.length<=i/\i<=I.length/\m=I.length-i/\iy g rc re H (I.drop i) λF=>R (.l1 (ts++F)),⟨_,[],cj,zT.upd s,.nil,aG _,aZ _,rfl,q⟩,?_⟩;rintro i m ys c ⟨ts,w,r,A,X,ix,rfl,f⟩;have hn:∀b,Ow own b\/b=D->c b≠none:=λb z=>z.elim (λz=>((h1.same r).sole z).ne) λe z=>by rw[e,w]at z;cases z
 have SD:zT (hd (Ow own) Y) (hd (λb=>Ow own b\/b=D) c):=h_ (λb z=>z.imp id λ(e:b=D)=>e ▸ s) r;obtain⟨w1,w2⟩:=wk (λb=>Ow own b\/b=D) c i hn SD;by_cases hi:i<I.length
 .right;obtain⟨go,yl⟩:=w2 _ (aj hi);rw[QQ hi]at f;obtain⟨N,M,hN,hM,f⟩:=f;refine⟨go,λx E y d Z=>?_⟩;obtain⟨h,U⟩:=yl x E y;have L:(λb=>Ow own b\/b=D)=Ow (ownS n o.length own D):=funext λb=>propext Ow.ownS.symm;have hb:SR K (ownS n o.length own D) E (d++G) H:=by
   have:=h1.block (r.trans h) s (h _ _ w) d;rw[Z,hO]at this;exact this
  rw[L]at U A;refine⟨_,⟨ownS n o.length own D,H,_,_,hb,U,f,λgh σ3 o3 q3 V h3=>?_⟩,λ_ _ z=>z⟩;obtain⟨C,eM,rfl⟩:=Wb Z V;have e3:gh=ownS n o.length own D:=funext λj=>by
   rcases V.1 j with e|⟨e1,e2⟩
   .exact e
   .rw[e2];unfold ownS;rw[ZY e1]
  subst e3;refine⟨C,eM,rfl,_,tQT.mk h3 q3 λP b B p=>?_,λ_ _ z=>z⟩;have B:sw b (re o3 λy=>N (frz y)) M:=B;cases b with
  |false=>exact⟨I.length-(i+1),by lia,ts,p _ _ (h _ _ w),r.trans (h.trans p),by rw[L];exact A.same (bU (h.trans p)),by exact aL X (X1 _ _),by exact hi,rfl,hM B⟩
  |true =>
   refine⟨_,tQ.mk (h3.same p) B λO v y q5 T r4=>⟨by lia,T _ _ (p _ _ (h _ _ w)),I.length-(i+1),by lia,ts++[frz y],cj,λb u e=>?_,?_,by rw[aA,length_singleton];exact succ_le_succ X,by exact hi,rfl,?_⟩,λ_ _ z=>z⟩
   .rw[bY λz=>by rw[z,s]at e;cases e];exact T _ _ (p _ _ (h _ _ (r _ _ e)))
   .rw[zM (S:=λb=>Ow own b\/b=D) (.inr rfl),L];exact(A.same (bU (h.trans (p.trans T)))).app (.cons r4 .nil)
   .have:=hN _ q5;simp only[Wp,List.singleton_append];exact this
 .left;have:i=I.length:=by lia
  refine⟨w1 this,?_⟩;rw[Tk (VW hi)]at f;have f:R (.l1 (ts++[])):=f;rw[append_nil]at f;exact k c _ _ f r (NR.l1 s w A)
def M7(h:tQ K (YJ ri n g rc re) G H Q):tU (iH K ri) n (gw (f6 K n g)) (gm (tQT K rc)) (tM (tQ K re)) G H Q:=by
 obtain⟨own,o,R,h,e,k⟩:=h;exact⟨own,o,_,h,e,λY J I q a b D d=>V_ (h.same a) b q.1 q.2 d λW v x c E n=>k W v x c (a.trans E) (n.back a)⟩
def f5(X:Cx)(aI:xw)(r:RT):Prop:=PTs X aI (tQT X.K r)
def cA:f5 X [] LW:=λU s G H Q I b=>by obtain⟨own,o,R,h,a,k⟩:=b;exact Yu U s G H Q I (k H true a (.refl _))
def DK(h:QT X c rc):f5 X [c] rc:=afU h
def cW(f:Scope)(N e I:Φ)(hi:QI X tg iter ri)(l:∀{C a b d c},QG (X.compG e J I C a b d c) I.length tg g)(i:∀{C a b d c},f5 (X.compG e J I C a b d c) aI rc)(m:∀{C a b d c},QE (X.compG e J I C a b d c) be re)
 (o:X.env.scope=f:=by rfl)(p:X.N=N:=by rfl)(n:X.calm:=by rfl)(k:J.kind=.function:=by rfl)(h:CK f J N e I:=by decide +kernel)(j:zh X iter:=by intro _;rfl):QE X (.ListComp be [⟨tg,iter,aI,0⟩] J O) (YJ ri I.length g rc re) :=
 (FG (gt:=f6 X.K I.length g) (tc:=tQT X.K rc) (te:=tQ X.K re) f N e I hi l i m o p n k h j).imp λ_ _ _=>M7
def zj{X:Cx}{tg iter be:Expr}{aI:List Expr}{ri:RI}{g:zn}{rc:RT}{re:RE}{J:Scope}{O:Pos}(Z:RI->Nat->zn->RT->RE->RE)(q:∀{K G H Q ri n g rc re},tQ K (Z ri n g rc re) G H Q->tU (iH K ri) n (gw (f6 K n g)) (gm (tQT K rc)) (tM (tQ K re)) G H Q)(i:Scope)(N f:Φ)(x0:Str)(hi:QI X tg iter ri)(m:∀{C a b d c},QG (X.compGC f J x0 C a b d c) 1 tg g)(j:∀{C a b d c},f5 (X.compGC f J x0 C a b d c) aI rc)(o:∀{C a b d c},QE (X.compGC f J x0 C a b d c) be re)
 (t:X.env.scope=i:=by rfl)(u:X.N=N:=by rfl)(p:X.calm:=by rfl)(l:J.kind=.function:=by rfl)(r:∀n e,cellsFrom n J.names e=(x0,n)::e:=by intro _ _;rfl)(s:∀h,pushCells h J.names=h.push { cls:=.type "cell",data:=.cell none }:=by intro _;rfl)(h:(∀y∈J.names,y.2=.cell->y.1=x0)/\HU i J N f [x0]:=by decide +kernel)(k:zh X iter:=by intro _;rfl):QE X (.ListComp be [⟨tg,iter,aI,0⟩] J O) (Z ri 1 g rc re):=PE.imp (by subst t u;exact Vm (ext1 r s h.1) p h.2.1 l h.2.2.1 h.2.2.2.1 h.2.2.2.2.1 h.2.2.2.2.2 hi (λ_ _ _ _ _=>m.mono) (λ_ _ _ _ _=>j.mono) (λ_ _ _ _ _=>o.mono) k) λ_ _ _=>q
def afW:=@zj X tg iter be aI ri g rc re J O YJ M7
def G0(f:Scope)(N e I:Φ)(hi:QI (X.compGC N0 sO x0 C0 s0 H0 dy du) tg iter ri)(l:∀{C a b d c},QG ((X.compGC N0 sO x0 C0 s0 H0 dy du).compG e J I C a b d c) I.length tg g)(i:∀{C a b d c},f5 ((X.compGC N0 sO x0 C0 s0 H0 dy du).compG e J I C a b d c) aI rc)(m:∀{C a b d c},QE ((X.compGC N0 sO x0 C0 s0 H0 dy du).compG e J I C a b d c) be re)
 (o:X.env.scope=f:=by rfl)(p : [x0]++N0=N:=by rfl)(n:X.calm:=by rfl)(k:J.kind=.function:=by rfl)(h:CK (ku f sO) J N e I:=by decide +kernel)(j:∀z,foldedSetIterable iter (X.compGC N0 sO x0 C0 s0 H0 dy du).env z=pure z:=by intro _;rfl):QE (X.compGC N0 sO x0 C0 s0 H0 dy du) (.ListComp be [⟨tg,iter,aI,0⟩] J O) (YJ ri I.length g rc re):=by
 subst o p;exact cW (X:=X.compGC N0 sO x0 C0 s0 H0 dy du) (ku X.env.scope sO) _ e I hi l i m rfl rfl n k h j
def zq{X:Cx}{tg iter be:Expr}{aI:List Expr}{ri:RI}{g:zn}{rc:RT}{re:RE}{J:Scope}{O:Pos}{i0:Nat}{y0:Str}{f k:Pos}(Z:Nat->RI->Nat->zn->RT->RE->RS)(r:∀{X i0 ri n g rc re D G H},hL X (Z i0 ri n g rc re) D G H->ip (tU (iH X.K ri) n (gw (f6 X.K n g)) (gm (tQT X.K rc)) (tM (tQ X.K re))) (xQ i0) D G H)(i:Scope)(N e I:Φ)(hi:QI X tg iter ri)(o:∀{C a b d c},QG (X.compG e J I C a b d c) I.length tg g)(l:∀{C a b d c},f5 (X.compG e J I C a b d c) aI rc)(p:∀{C a b d c},QE (X.compG e J I C a b d c) be re)(s:PG X (.Name y0 f) (xQ i0))
 (u:X.env.scope=i:=by rfl)(v:X.N=N:=by rfl)(q:X.calm:=by rfl)(j:J.kind=.function:=by rfl)(h:CK i J N e I:=by decide +kernel)(t:swapsWith (.ListComp be [⟨tg,iter,aI,0⟩] J O) (some (.Name y0 f)) k.line X.env=pure true:=by rfl)(m:zh X iter:=by intro _;rfl):QS X (.Assign [.Name y0 f] (.ListComp be [⟨tg,iter,aI,0⟩] J O) k) (Z i0 ri I.length g rc re):=PS.imp (by subst u v;exact aeQ (ud j h.1) q h.2.1 j h.2.2.1 h.2.2.2.1 h.2.2.2.2.1 h.2.2.2.2.2 hi (λ_ _ _ _ _=>o.mono) (λ_ _ _ _ _=>l.mono) (λ_ _ _ _ _=>p.mono) s t m) λ_ _ _=>r
def RR{a f:Pos}:=@zq X tg iter be aI ri g rc re J O i0 y0 a f (λi r n g c e=>nS i (YJ r n g c e)) λ{_ i0 _ _ _ _ _ _ _ _}⟨own,o,E,h,b,L⟩=>M7 ⟨own,o,_,h,b,λW v y q S n=>by
 obtain⟨j,d,k⟩:=h.putA S n i0;exact L.nx j W _ _ q k d⟩
def dZ{c I:Φ}{C a b e d}(j:(I++c).Nodup:=by decide +kernel)(hi:(I++c)[i]?=some x:=by rfl)(g:i<n:=by decide)(f:e7 (X.compG c J I C a b e d).env.scope x:=by exact Or.inl rfl)(h:(X.compG c J I C a b e d).fn x\/(X.compG c J I C a b e d).env.scope.names.lookup x=some .local:=by exact Or.inr rfl):QG (X.compG c J I C a b e d) n (.Name x p) (hName i):=bZ (i:=i) (hN:=j) (hx:=f) (hi:=hi) (hn:=g) (hf:=h)
def C8{c:Φ}{C a b g d}(f:([x0]++c).Nodup:=by decide +kernel)(e:e7 (X.compGC c J x0 C a b g d).env.scope x0:=by exact Or.inr rfl):QG (X.compGC c J x0 C a b g d) 1 (.Name x0 p) (hName 0)   := bZ (i:=0) (hN:=f) (hx:=e) (hi:=rfl) (hn:=vk) (hf:=(.inl (beq_self_eq_true _)))
def abA{c:RT}{e:RE}(h:g t o λd=>c d λb=>sw b (e d λy=>iy g c e o ts λa=>q (frz y::a)) (iy g c e o ts q)):iy g c e o (t::ts) q:=⟨λy=>iy g c e o ts λa=>q (y::a),_,λ_ h=>h,id,h⟩
theorem bW.reps{K:Frag}{F:Hp}{I:Ζ}{ts:xk}(h:bW K F I ts):∀n:Nat,bW K F (replicate n I).flatten (replicate n ts).flatten
 |0=>.nil
 |n+1=>by rw[replicate_succ,replicate_succ,flatten_cons,flatten_cons];exact h.app (bW.reps h n)
def cJ:GO X (binaryOp .Mult) KM:=λU s G H x y v u Q b g f h=>by
 obtain⟨S,t,w,R,_,i,A,d,k⟩:=h;cases w with
 |int j=>?_
 |_=>cases t<;>exact d.elim
 cases A;cases t<;>try exact d.elim
 .cases i;exact Ry U s G H _ _ v u Q b g f ⟨_,_,rfl,rfl,d.1,k H _ _ d.2 (.refl _) (NR.fz (.int _))⟩
 .cases i;obtain⟨c,rfl,n,m,q⟩:=d;exact _T U s G H _ _ v u Q b g f ⟨c,j,rfl,rfl,n,m,λz o=>k H _ _ (q z o) (.refl _) (NR.fz (.str _))⟩
 .obtain⟨p,I,rfl,e,r⟩:=i.lstI;obtain⟨⟨n,m,B⟩,q⟩:=d;exact P4 U s G H _ _ v u Q b g f ⟨p,j,I,rfl,rfl,(cQ e).2,n,m,by rw[r.len];exact B,λa l=>k _ _ _ (q _ rfl) (zT.upd l) (zf (r.reps j.toNat) (zT.upd l) l cj)⟩
mutual
def dc:PyData->T
 |.none=>.non
 |.bool b=>.bl b
 |.int i=>.int i
 |.str s=>.str s
 |.list a=>.lst (WQ a)
 |.tuple a=>.tup (WQ a)
 |.dict _=>.any
def WQ:xI->xk
 |[]=>[]
 |d::a=>dc d::WQ a
end
mutual
theorem Rep.shows{K:Frag}{F:Hp} : ∀{x:V}{t:T},Rep K F x t->∀d,t=dc d->d.canLay0=true->iJ K F x d
 |_,_,.any v,d,e,s=>by cases d<;>cases e;cases s
 |_,_,.non,d,e,_=>by cases d<;>cases e;exact .non
 |_,_,.bl b,d,e,_=>by cases d<;>cases e;exact .bl _
 |_,_,.int i,d,e,_=>by cases d<;>cases e;exact .int _
 |_,_,.str s,d,e,_=>by cases d<;>cases e;exact .str _
 |_,_,.val v,d,e,_=>by cases d<;>cases e
 |_,_,.tup q h,d,e,s=>by
  cases d<;>cases e;exact .tup q (bW.shows h _ rfl s)
 |_,_,.lst q h,d,e,s=>by
  cases d<;>cases e;exact .lst q (bW.shows h _ rfl s)
 |_,_,.scr q h,d,e,_=>by cases d<;>cases e
 |_,_,.dct q l h,d,e,_=>by cases d<;>cases e
 |_,_,.ins q a l h,d,e,_=>by cases d<;>cases e
 |_,_,.exc q a l h,d,e,_=>by cases d<;>cases e
theorem bW.shows{K:Frag}{F:Hp} : ∀{I:Ζ}{ts:xk},bW K F I ts->∀c,ts=WQ c->PyData.canLayAll0 c=true->f9 K F I c
 |_,_,.nil,c,e,_=>by cases c<;>cases e;exact .nil
 |_,_,.cons a b,c,e,s=>by
  cases c<;>cases e;obtain⟨f,d⟩:=Bool.and_eq_true_iff.mp s;exact .cons (Rep.shows a _ rfl f) (bW.shows b _ rfl d)
end
def xr:Bool->Bool->Bool
 |false,b=>b
 |true,b=>!b
noncomputable def hW:T->T->wr
 |.int i,.int j=>some (decide (i=j))
 |.str i,.str j=>some (decide (i=j))
 |.bl i,.bl j=>some (decide (i=j))
 |.non,.non=>some true
 |.non,.int _=>some false
 |.int _,.non=>some false
 |.non,.str _=>some false
 |.str _,.non=>some false
 |.int _,.str _=>some false
 |.str _,.int _=>some false
 |.tup [.int a,.int b],.tup [.int c,.int d]=>some (decide (a=c)&&decide (b=d))
 |_,_=>none
def hB(a:Bool)(t u:T)(q:OT->Prop):Prop:=match hW t u with
 |some b=>q (.fz (.bl (xr a b)))
 |none=>∃d e,t=dc d/\u=dc e/\SeqAt.shaped d/\SeqAt.shaped e/\q (.fz (.bl (xr a (PyData.eqv d e))))
def oC(a b c d:Int):PyData.eqv (.tuple [.int a,.int b]) (.tuple [.int c,.int d])=(decide (a=c)&&decide (b=d)):=by
 simp only[PyData.eqv,PyData.eqvAll,Bool.and_true]
 rfl
def svv:T->Option V
 |.non=>some .non
 |.bl b=>some (.bl b)
 |.int i=>some (.int i)
 |.str s=>some (.str s)
 |_=>none
def Rep.sca{F:Hp}{x v:V}(h:Rep K F x t)(e:svv t=some v):x=v:=by cases h<;>cases e<;>rfl
def EqC(t u:T)(b:Bool):Prop:=(∃v w,svv t=some v/\svv u=some w/\jR v w=true/\decide (v=w)=b)\/∃i j k l,t=.tup [.int i,.int j]/\u=.tup [.int k,.int l]/\(decide (i=k)&&decide (j=l))=b
def eqs{t u:T}{b:Bool}(e:hW t u=some b):EqC t u b:=by
 cases t with
 |tup t=>
  iterate 2
   obtain _|⟨r,t⟩:=t
   .cases e
   cases r<;>try (cases e;done)
  cases t with|cons=>cases e|nil=>
   cases u<;>try (cases e;done)
   rename_i u;iterate 2
    obtain _|⟨r,u⟩:=u
    .cases e
    cases r<;>try (cases e;done)
   cases u<;>cases e;exact .inr ⟨_,_,_,_,rfl,rfl,rfl⟩
 |_=>first|(cases e;done)|(cases u<;>cases e<;>exact .inl ⟨_,_,rfl,rfl,rfl,by simp⟩)
def V'{F:Hp}{x y:V}{u:T}{b:Bool}(S:zT F H)(c:Rep K F x t)(a:Rep K F y u)(e:hW t u=some b):(jR x y=true/\decide (x=y)=b)\/∃d e,iJ K H x d/\iJ K H y e/\SeqAt.shaped d/\SeqAt.shaped e/\PyData.eqv d e=b:=by
 rcases eqs e with⟨_,_,p,q,r⟩|⟨_,_,_,_,rfl,rfl,r⟩
 .cases c.sca p;cases a.sca q;exact .inl r
 exact .inr ⟨.tuple [.int _,.int _],.tuple [.int _,.int _],(c.shows _ rfl rfl).same S,(a.shows _ rfl rfl).same S,rfl,rfl,(oC _ _ _ _).trans r⟩
def F3(f:Bool)(B:OpR X (compareOp op) λx y H Q=>jR x y=true/\Q (.bl (xr f (decide (x=y)))) H)(r:OpR X (compareOp op) (n4 X.K f)):GO X (compareOp op) (hB f):=λU s G H x y v u Q I m l h=>by
 obtain⟨S,t,w,R,_,p,o,g,k⟩:=h;have n:∀b:Bool,(if f then !b else b)=xr f b:=λb=>by cases f<;>rfl
 unfold hB at g;cases Z:hW t w with
 |some b =>
  rw[Z]at g;rcases V' cL p o Z with⟨a,c⟩|⟨d,e,j,i,A,z,c⟩
  .exact B U s G H x y v u Q I m l ⟨a,by rw[c];exact k H _ _ g (.refl _) (NR.fz (.bl _))⟩
  .exact r U s G H x y v u Q I m l ⟨d,e,j,i,A,z,by rw[n,c];exact k H _ _ g (.refl _) (NR.fz (.bl _))⟩
 |none =>
  rw[Z]at g;obtain⟨d,e,D,C,j,i,q⟩:=g;exact r U s G H x y v u Q I m l ⟨d,e,(p.shows d D (Bool.and_eq_true_iff.mp j).1).same cL,(o.shows e C (Bool.and_eq_true_iff.mp i).1).same cL,j,i,by rw[n];exact k H _ _ q (.refl _) (NR.fz (.bl _))⟩
def z0(a:X.A.units+64<cLine):GO X (compareOp .Eq) (hB false):=F3 false NU (WA a)
def nM(a:X.A.units+64<cLine):GO X (compareOp .NotEq) (hB true):=F3 true NW (RU a)
def flat:OT->Prop
 |.fz (.int _)=>True
 |.fz (.bl _)=>True
 |.fz (.str _)=>True
 |.fz .non=>True
 |_=>False
def M3(i:Nat)(a:RE):RE:=λo q=>match slot o i with|.und=>False|x=>a (o.set i (.fz (frz x))) λy=>flat y/\q y
def ON(i:Nat)(a:RT):RT:=λo q=>match slot o i with|.und=>False|x=>a (o.set i (.fz (frz x))) q
def GN{P:OT->Prop}(h:match slot o i with|.und=>False|x=>P x):P (slot o i)/\slot o i≠.und:=by
 cases e:slot o i<;>rw[e]at h<;>first|exact h.elim|exact⟨h,λz=>by cases z⟩
def UJ(i:Nat)(h:QE X e re):QE X e (M3 i re):=PE.imp h λG H Q j=>by
 obtain⟨own,o,R,h,a,k⟩:=j;obtain⟨a,c⟩:=GN (P:=λx=>re (o.set i (.fz (frz x))) λy=>flat y/\R y) a;obtain⟨u,l,s⟩:=h.val rfl c;obtain⟨m,d,S⟩:=h.frz (gK rfl c) l;refine⟨m,_,_,d,a,λW v x q E n=>k W v x q.2 E ?_⟩;have f:=q.1;have g:=n.rep λb z=>(d.sole z).ne;cases x with
 |fz t=>cases t<;>first|exact f.elim|(cases g;first|exact NR.fz (.int _)|exact NR.fz (.bl _)|exact NR.fz (.str _)|exact NR.fz .non)
 |_=>exact f.elim
def Ms(i:Nat)(h:QT X e rt):QT X e (ON i rt):=PT.imp h λG H Q c=>by
 obtain⟨own,o,R,h,a,k⟩:=c;obtain⟨a,b⟩:=GN (P:=λx=>rt (o.set i (.fz (frz x))) R) a;obtain⟨u,f,s⟩:=h.val rfl b;obtain⟨g,d,S⟩:=h.frz (gK rfl b) f;exact⟨g,_,_,d,a,k⟩
def ig:T->Option bh
 |.int i=>some (.inl i)
 |.str s=>some (.inr s)
 |_=>none
def pC{α:Type} : xN->List α->bh->Option α
 |k::a,t::ts,j=>if k=j then some t else pC a ts j
 |_,_,_=>none
def QF{F:Hp}{x:V}{k:bh}(h:Rep K F x t)(e:ig t=some k):x=kV k:=by
 cases h<;>cases e<;>rfl
theorem Hq{K:Frag}{F:Hp}{k:bh} : ∀{ks:xN}{I:Ζ}{ts:xk},bW K F I ts->(∀t,pC ks ts k=some t->∃x,Mz (ks.zip I) k=some x/\Rep K F x t)/\(pC ks ts k=none->Mz (ks.zip I) k=none)
 |[],_,_,_=>⟨λ_ z=>(nomatch z),λ_=>rfl⟩
 |_::_,_,_,.nil=>⟨λ_ z=>(nomatch z),λ_=>rfl⟩
 |j::ks,_,_,.cons a b=>by
  by_cases h:j=k
  .refine⟨λt z=>?_,λz=>?_⟩
   .unfold pC at z;rw[ZY h]at z;cases z;exact⟨_,Vn h,a⟩
   .unfold pC at z;rw[ZY h]at z;cases z
  .obtain⟨d,c⟩:=Hq (k:=k) (ks:=ks) b;refine⟨λt z=>?_,λz=>?_⟩
   .unfold pC at z;rw[ZZ h]at z;obtain⟨x,e,r⟩:=d t z;exact⟨x,(Kz h).trans e,r⟩
   .unfold pC at z;rw[ZZ h]at z;exact(Kz h).trans (c z)
def NF:zi
 |.dct a ts,u,q=>∃k t,ig u=some k/\pC a ts k=some t/\q (.fz t)
 |_,_,_=>False
def Tv(n:X.A.units+1<cLine)(B:QE X a ra)(u:QE X b rb)(p:nN b:=by exact λ_ _=>rfl):QE X (.Subscript a b O) (fi NF ra rb):=(YE n B u p).imp λG H Q ⟨own,o,R,h,s,k⟩=>tQ.mk h s λY v x q g c=>tQ.mk (h.same g) q λF w y q f m=>by
 have c:=c.same (bU f)
 revert c q
 generalize frz x=t;intro q c;cases t<;>try exact q.elim
 obtain⟨d,I,rfl,e,l,r⟩:=c.dctI;obtain⟨j,t,E,D,q⟩:=q;obtain⟨z,C,i⟩:=(Hq r).1 t D;cases QF m E;exact⟨d,z,rfl,.inl ⟨_,_,cL.rd e,rfl,C.symm⟩,k F _ _ q (g.trans f) (NR.fz i)⟩
def n'(a:Bool):zi
 |u,.dct b ts,q=>∃k,ig u=some k/\q (.fz (.bl (xr a (pC b ts k).isSome)))
 |_,_,_=>False
def F4{neg:Bool}(h:tQ X.K (fi (n' neg) ra rb) G H Q):(tQ X.K ra) G H λy Y=>(tQ X.K rb) G Y λx b=>∃a o,x=.ref a/\Hg b a y o/\Q (.bl (xr neg o.isSome)) b:=by
 obtain⟨own,o,R,h,n,k⟩:=h;refine tQ.mk h n λY v x q m f=>tQ.mk (h.same m) q λb w y q i c=>?_;have f:=f.same (bU i)
 revert c q
 generalize frz y=t;intro q c;cases t with
 |dct g ts =>
  obtain⟨d,I,rfl,e,l,r⟩:=c.dctI;obtain⟨j,p,q⟩:=q;cases QF f p;refine⟨d,_,rfl,.inl ⟨_,_,cL.rd e,rfl,rfl⟩,?_⟩;have:(Mz (g.zip I) j).isSome=(pC g ts j).isSome:=by
   cases z:pC g ts j with
   |none=>rw[(Hq r).2 z];rfl
   |some t=>obtain⟨x,e,_⟩:=(Hq r).1 t z;rw[e];rfl
  rw[this];exact k b _ _ q (m.trans i) (NR.fz (.bl _))
 |_=>cases frz x<;>exact q.elim
def Do{r:RE}{b:TE}(i:∀G H Q,tQ X.K r G H Q->b G H Q){Q:Bool->Hp->Prop}(h:tQT X.K (rB r) G H Q):tB b G H Q:=by
 obtain⟨own,o,R,h,c,k⟩:=h;refine i G H _ (tQ.mk h c λY v x q d a=>?_)
 revert a q
 generalize frz x=t;intro q a;cases a<;>try exact q.elim
 exact⟨_,rfl,k _ _ q d⟩
def Ev(c:X.A.units+1<cLine)(e:QE X a ra)(d:QE X b rb)(f:behindInMarks .In b=false:=by rfl):QT X (.Compare a [.In] [b] O) (rB (fi (n' false) ra rb)):=(EO (SF c e d) f).imp λ_ _ _=>Do λ_ _ _=>F4 (neg:=false)
def ab5(c:X.A.units+1<cLine)(e:QE X a ra)(d:QE X b rb)(f:behindInMarks .NotIn b=false:=by rfl):QT X (.Compare a [.NotIn] [b] O) (rB (fi (n' true) ra rb)):=(EO (abR c e d) f).imp λ_ _ _=>Do λ_ _ _=>F4 (neg:=true)
def OR:RE:=λ_ q=>q (.d1 [] [])
def Jr:QE X (.Dict [] [] O) OR:=aer.imp λG H Q ⟨own,o,R,h,c,k⟩ p b=>k _ _ _ c (zT.upd b) ⟨[p],λa d=>(YR.mp d) ▸ b,p,[],rfl,rfl,cj,rfl,.nil⟩
def arV(i:Nat)(a b:RE):RS:=λE o=>match slot o i with|.d1 c ts=>a o λy=>b o λk=>∃j,ig (frz k)=some j/\pC c ts j=none/\c.length<sizeLine/\c.length=ts.length/\E.nx (o.set i (.d1 (c++[j]) (ts++[frz y])))|_=>False
def gf{α:Type} : Φ->List α->Str->Option α
 |k::a,t::ts,f=>if k=f then some t else gf a ts f
 |_,_,_=>none
def M8:Φ->Str->Φ
 |[],f=>[f]
 |k::a,f=>if k=f then k::a else k::M8 a f
def B_{α:Type} : Φ->List α->Str->α->List α
 |k::a,t::ts,f,v=>if k=f then v::ts else t::B_ a ts f v
 |_,ts,_,v=>ts++[v]
theorem pa{K:Frag}{F:Hp}{f:Str} : ∀{ks:Φ}{I:Ζ}{ts:xk},bW K F I ts->(∀t,gf ks ts f=some t->∃x,(ks.zip I).lookup f=some x/\Rep K F x t)/\(gf ks ts f=none->(ks.zip I).lookup f=none)
 |[],_,_,_=>⟨λ_ z=>(nomatch z),λ_=>rfl⟩
 |_::_,_,_,.nil=>⟨λ_ z=>(nomatch z),λ_=>rfl⟩
 |j::ks,_,_,.cons a b=>by
  obtain⟨d,c⟩:=pa (f:=f) (ks:=ks) b;by_cases h:j=f
  .refine⟨λt z=>?_,λz=>?_⟩
   .unfold gf at z;rw[ZY h]at z;cases z;exact⟨_,by rw[zip_cons_cons,lookup_cons,h,beq_self_eq_true],a⟩
   .unfold gf at z;rw[ZY h]at z;cases z
  .have e:∀x(r:xS),((j,x)::r).lookup f=r.lookup f:=λx r=>by rw[lookup_cons,beq_false_of_ne (Ne.symm h)]
   refine⟨λt z=>?_,λz=>?_⟩
   .unfold gf at z;rw[ZZ h]at z;obtain⟨x,g,r⟩:=d t z;exact⟨x,(e _ _).trans g,r⟩
   .unfold gf at z;rw[ZZ h]at z;exact(e _ _).trans (c z)
theorem Xf{f:Str}{v:V} : ∀{ks:Φ}{I:Ζ},ks.length=I.length->xT f v (ks.zip I)=(M8 ks f).zip (B_ ks I f v)/\(M8 ks f).length=(B_ ks I f v).length
 |[],[],_=>⟨rfl,rfl⟩
 |k::ks,x::I,l=>by
  obtain⟨b,a⟩:=Xf (f:=f) (v:=v) (ks:=ks) (I:=I) (Nat.succ.inj l);show(if k=f then(k,v)::ks.zip I else(k,x)::xT f v (ks.zip I))=_/\_;unfold M8 B_;by_cases h:k=f
  .rw[ZY h,ZY h,ZY h];exact⟨rfl,l⟩
  .rw[ZZ h,ZZ h,ZZ h,b];exact⟨rfl,ZH (· + 1) a⟩
 |[],_::_,l=>by cases l
 |_::_,[],l=>by cases l
theorem bW.put{K:Frag}{F:Hp}{f:Str}{v:V}{t:T}(r:Rep K F v t):∀{c:Φ}{I:Ζ}{ts:xk},bW K F I ts->bW K F (B_ c I f v) (B_ c ts f t)
 |[],_,_,h=>h.app (.cons r .nil)
 |_::_,_,_,.nil=>.cons r .nil
 |k::c,_,_,.cons a b=>by
  unfold B_;by_cases h:k=f
  .rw[ZY h,ZY h];exact .cons r b
  .rw[ZZ h,ZZ h];exact .cons a (bW.put r b)
abbrev SI:=Addr->Φ->xk->xk->(Φ->xk->Prop)->Prop
def db(a c b:Addr):Prop:=b=a\/b=c
def gb(K:Frag)(S:SI):Sp:=λi H Q _=>∃a b C c I ts f h R,i=.ref a::f/\H a=some (.ins C b (c.zip I))/\H b=some (.own a)/\c.length=I.length/\bW K (hd (db a b) H) I ts/\bW K (hd (db a b) H) f h/\S C c ts h R /\
 ∀W d e g,R d g->zT (hd (db a b) H) (hd (db a b) W)->W a=some (.ins C b (d.zip e))->W b=some (.own a)->d.length=e.length->bW K (hd (db a b) W) e g->Q .non W
def startI(n:Nat)(a c C:Addr)(b:Φ)(ts d:xk):xf:=.ob a c C b ts::start' (n-1) d
def yo(a b:Addr):Nat->Ψ
 |0=>[a,b]
 |_+1=>[]
def Zz(a c:Addr):Ow (yo a c)=db a c:=funext λb=>propext ⟨(λh=>by
  obtain⟨i,z⟩:=h;cases i with
  |zero =>
   rcases YU.mp z with z|z
   .exact .inl z
   .exact .inr (YR.mp z)
  |succ i=>cases z),λz=>⟨0,by show b∈[a,c];rcases z with rfl|rfl<;>simp⟩⟩
def SR.startI{H:Hp}{a c C:Addr}{h:Φ}{I:Ζ}{ts d:xk}{f:Ζ}(p:H a=some (.ins C c (h.zip I)))(t:H c=some (.own a))(l:h.length=I.length)(r:bW K (hd (db a c) H) I ts)(g:bW K (hd (db a c) H) f d)(N:Φ)(u:f.length+1<=N.length) :
  SR K (yo a c) H (L2.start N (.ref a::f)) (L2.startI N.length a c C h ts d):=by
 have q:=Zz a c;refine⟨?_,λi x e=>?_,λi hi b o=>?_,λi j b k s=>?_⟩
 .unfold L2.startI start' L2.start;have:=g.len;simp only[length_cons,aA,ak,aN];lia
 .rw[q];unfold L2.startI at e;cases i with
  |zero =>
   cases e;exact⟨I,rfl,rfl,p,t,l,r⟩
  |succ i =>
   rw[List.getElem?_cons_succ]at e;show Slo K _ _ _ [] x;unfold start' at e;unfold L2.start;rw[map_cons,cons_append,List.getElem?_cons_succ];by_cases hi:i<d.length
   .rw[aF (by simpa using hi),aq,aj hi]at e;cases e;obtain⟨v,k,n⟩:=g.at_ (aj hi);rw[aF (by rwa[ak,g.len]),aq,k];exact⟨rfl,v,rfl,n⟩
   .rw[aD (by simpa using hi),ak,XG]at e;by_cases m:i-d.length<N.length-1-d.length
    .rw[ZY m]at e;cases e;rfl
    .rw[ZZ m]at e;cases e
 .unfold L2.startI at hi;cases i with
  |zero=>cases hi
  |succ i=>cases o
 .cases i with
  |zero =>
   cases j with
   |zero=>rfl
   |succ j=>cases s
  |succ i=>cases k
def Fun.okI{y:Str}{N:Φ}{S:SI}(F:Fun K x y st f fd)(B:bL N ps (bH st))(i:∀C e ts d R,S C e ts d R->d.length+1=ps.length)(hn:ps.length<=N.length)
 (bo:∀(t:Value)(A:Around)(c:xC)(s:Shared)(H:Hp)(E:XK),dX k (A.deeper (envOfC y (bH st) s.zs f t))->N.Nodup ->
   ∃r,ef (FZ bb P w K mg base N y (bH st) f t A c s H E).nox (fL st) r/\∀a g C e ts d R,S C e ts d R->r { nx:=λo=>∃n p,slot o 0=.ob a g C n p/\R n p,rt:=λ_=>False } (startI N.length a g C e ts d)):fD P w K mg base bb (k+1) f fd ps (gb K S):=by
 refine F.ok B (λD H Q E h=>?_) λt A c s H D Q E L h=>?_
 .obtain⟨a,g,C,e,I,ts,J,d,R,rfl,_,_,_,_,j,m,_⟩:=h;rw[length_cons,j.len];exact i _ _ _ _ _ m
 .obtain⟨a,g,C,e,I,ts,J,d,R,rfl,M,bj,l,r,j,m,q⟩:=h;obtain⟨rd,T,O⟩:=bo t A c s H E L B.nd;have s0:=SR.startI M bj l r j N (by rwa[j.len,i _ _ _ _ _ m]);have V:=Zz a g;refine⟨_,T,_,_,_,s0,O a g C e ts d R m,⟨λown W G o v E h=>?_,λ_ _ _ _ _ z=>z.elim,λ_ _ _ _ z=>z.elim,λ_ _ _ _ z=>z.elim,λ_ _ _ _ _ _ z=>z.elim⟩⟩;obtain⟨n,p,Z,v⟩:=v;rw[V]at E;obtain⟨u,_,U,e1,e2,e3,e4,Y,X⟩:=h.val Z (by intro z;cases z);have sub:zT (hd (Ow own) W) (hd (db a g) W):=h_ (λb z=>.inl ⟨0,by rw[e2];rcases z with rfl|rfl<;>simp⟩) λ_ _ z=>z;exact q W n U p v (E.trans sub) e3 e4 Y (X.same sub)
def De(b:Addr->Prop)(i:Nat)(f:Str):RE:=λo q=>match slot o i with|.ob _ _ C a ts=>b C/\∃t,gf a ts f=some t/\q (.fz t)|_=>False
variable{f:Str}{Fm:Addr->Prop}{S:ST}{ro:RE}{pl:Sem Bool}{j:Int}
def ZA(i:Nat)(c:∀C,Fm C->Cls X.K C/\cu X.K C f)(n:n_X X i x:=by exact⟨rfl,rfl,vk,vk⟩)(j:attributeBase (.Name x p) f X.env (eval (.Name x p) X.env)=eval (.Name x p) X.env:=by rfl):QE X (.Attribute (.Name x p) f O) (De Fm i f):=(ER (pv i n) j).imp λG H Q m=>by
 obtain⟨own,o,R,h,b,k⟩:=m;unfold De at b;cases Z:slot o i with
 |ob a D C J ts =>
  rw[Z]at b;obtain⟨u,B,I,A,M,y,L,l,r⟩:=h.val Z (by intro z;cases z);cases A;obtain⟨d,t,w,q⟩:=b;obtain⟨v,s,e⟩:=(pa r).1 t w;exact⟨_,B,a,C,D,_,v,rfl,y,(c C d).1,(c C d).2,s,k H _ _ q (.refl _) (NR.fz e)⟩
 |_=>rw[Z]at b;exact b.elim
def DE(Fm:Addr->Prop)(i:Nat)(f:Str)(a:RE):RS:=λE o=>match slot o i with|.ob b d C c ts=>a o λy=>(Fm C/\c.length<1000)/\E.nx (o.set i (.ob b d C (M8 c f) (B_ c ts f (frz y))))|_=>False
def tD(i:Nat)(c:∀C,Fm C->Cls X.K C/\cu X.K C f)(J:QE X e re)(Q:n_X X i x:=by exact⟨rfl,rfl,vk,vk⟩)(F:swapsWith e (some (.Attribute (.Name x p) f ay)) O.line X.env=pure false:=by rfl):QS X (.Assign [.Attribute (.Name x p) f ay] e O) (DE Fm i f re):=(VO (pv i Q) J F).imp λD G H P=>by
 obtain⟨own,o,E,h,d,L⟩:=P;unfold DE at d;cases Z:slot o i with
 |ob a k C j ts =>
  rw[Z]at d;obtain⟨u,t,I,U,m,s,n,l,r⟩:=h.val Z (by intro z;cases z);cases U;refine tQ.mk h d λY v y q g w=>⟨_,t,a,C,k,_,rfl,g _ _ s,(c C q.1.1).1,(c C q.1.1).2,by rw[VZ,<- l,VQ];exact q.1.2,?_⟩;obtain⟨A,pl⟩:=Xf (f:=f) (v:=v) l;rw[A];have T:k≠a:=Mh n s (by intro z;cases z);obtain⟨R,S⟩:=(h.same g).chg (gK Z (by intro z;cases z)) (y:=.ob a k C (M8 j f) (B_ j ts f (frz y))) (W:=upd Y a (.ins C k ((M8 j f).zip (B_ j I f v)))) (λb u M e=>(bY λz=>M (by rw[m,z];simp)).trans e) (by
   rw[t,zM ⟨i,by rw[m];simp⟩];exact⟨_,rfl,m,cj,(bY T).trans (g _ _ n),pl,bW.put w (r.same (bU g))⟩)
  exact L.nx own _ G _ q.2 ((bU g).trans S) R
 |_=>rw[Z]at d;exact d.elim
def Kk(Fm:Addr->Prop)(f:Str)(a:RE):RE:=λo q=>a o λx=>match frz x with|.ins C b ts=>Fm C/\∃t,gf b ts f=some t/\q (.fz t)|_=>False
def CP(c:∀C,Fm C->Cls X.K C/\cu X.K C f)(m:QE X e re)(n:zt X e f:=by rfl):QE X (.Attribute e f O) (Kk Fm f re):=(ER m n).imp λG H Q ⟨own,o,R,h,j,k⟩=>tQ.mk h j λY v x q w b=>by
 revert b q
 generalize frz x=t;intro q b;cases t<;>try exact q.elim
 obtain⟨a,u,I,rfl,e,d,l,r⟩:=b.insI;obtain⟨g,t,s,q⟩:=q;obtain⟨v,p,i⟩:=(pa r).1 t s;exact⟨a,_,u,_,v,rfl,(cQ e).2,(c _ g).1,(c _ g).2,p,k Y _ _ q w (NR.fz i)⟩
abbrev HK(X:Cx)(k:Nat)(fa:Addr)(ps:Φ)(S:ST):Prop:=zS X bb k fa ps (spT X.K S)
def OkI.hid{P:Program}{w:World}{K:Frag}{mg:Str->Ω}{base:Heap}{k:Nat}{c:Addr}{ps:Φ}{a:Sp}(G:OkI P w K mg base bb k c ps a):OkI P w K mg base bb k c ps (g4 a):=by obtain⟨fd,F,b⟩:=G;exact⟨fd,F.hid,b⟩
def Vj{g:Ζ}{E:XK}(m:SR X.K own Y G o)(j:bW X.K (hd (Ow own) Y) g ts)(q:S ts R)(k:∀W v x,R x->zT Y W->NR X.K (Ow own) Y W v x->Q v W):g4 (spT X.K S) g Y Q E:=by
 refine⟨Ow own,m.hid,ts,R,j,q,λc v x i E n f=>?_⟩;have p:zT Y (df (Ow own) Y c):=λb u e=>by
  by_cases z:Ow own b
  .rw[vG z];exact e
  .rw[jQ z];exact E b u ((cR z).trans e)
 have h:zT c (df (Ow own) Y c):=λb u e=>by rw[jQ λz=>by rw[f b z]at e;cases e];exact e
 refine k _ v x i p ?_;obtain⟨B,l,s⟩:=n;have out:∀a∈B,¬Ow own a:=λa d z=>(s.sole d).ne (f a z);refine⟨B,λa d=>by have:=l a d;rwa[cR (out a d)]at this,s.same (h_ (λb z=>?_) h) h⟩;rcases z with z|z
 .exact .inr (f b z)
 .exact .inl (.inr z)
def DF(C:Addr)(e:Φ)(S:ST)(a:RE)(r:RA):RE:=λo q=>a o λx=>match frz x with|.ins c b ts=>(c=C/\b=e)/\r o λd=>S (.ins c b ts::d) q|_=>False
theorem Jo{f:Str} : ∀{a:Φ}{I:Ζ},f∉a->(a.zip I).lookup f=none
 |[],_,_=>rfl
 |_::_,[],_=>rfl
 |k::a,x::I,h=>by
  rw[zip_cons_cons,lookup_cons,beq_false_of_ne λ(z:f=k)=>h (by rw[z];exact aO ..)];exact Jo λz=>h (aJ _ z)
def Ay{o:Expr}{s C:Addr}{KS:Φ}(D:QE X o ro)(c:Cls X.K C)(z:Meth X.K C f s)(b:HK X k s ps S)(F:QA X (e::Z) r)(m:dX k X.A:=by exact dX.mono (by assumption) vk)(B:f∉KS:=by decide +kernel)
 (L:zw X e Z:=by rfl)(M:zb X O Z:=by rfl)
 (y:eval (.Call (.Attribute o f ah) (e::Z) [] O) X.env=(do
   let p <- eval o X.env
   standAt ah.atName
   let(f,first) <- holding [p] (getMethod p f pl)
   callWith O f first (backTo O (starEach (e::Z) X.env)) (backToKw O (keywordEach [] X.env))):=by rfl) :
  QE X (.Call (.Attribute o f ah) (e::Z) [] O) (DF C KS S ro r):=(ac5 (pl:=pl) D c z (OkI.hid b) m F L M y).imp λG H Q ⟨own,o,R,h,m,k⟩=>tQ.mk h m λY v x q j g=>by
 revert g q
 generalize frz x=t;intro q g;cases t<;>try exact q.elim
 obtain⟨a,J,I,rfl,e,d,l,r⟩:=g.insI;obtain⟨⟨rfl,rfl⟩,q⟩:=q;refine⟨a,J,_,rfl,(cQ e).2,Jo B,tQA.mk (h.same j) q λT N P q _ i w=>?_⟩;exact Vj ((h.same j).same i) (.cons (g.same (bU i)) w) q λW v x u E n=>k W v x u (j.trans (i.trans E)) (n.back (j.trans i))
def qW{o:Expr}{p C:Addr}{KS:Φ}(z:QE X o ro)(c:Cls X.K C)(w:Meth X.K C f p)(b:HK X k p ps S)(i:dX k X.A:=by exact dX.mono (by assumption) vk)(y:f∉KS:=by decide +kernel)
 (u:eval (.Call (.Attribute o f ah) [] [] O) X.env=(do
   let m <- eval o X.env
   standAt ah.atName
   let(f,first) <- holding [m] (getMethod m f pl)
   callWith O f first (backTo O (starEach [] X.env)) (backToKw O (keywordEach [] X.env))):=by rfl) :
  QE X (.Call (.Attribute o f ah) [] [] O) (DF C KS S ro ni):=(abn (pl:=pl) z c w (OkI.hid b) i u).imp λG H Q ⟨own,o,R,h,i,k⟩=>tQ.mk h i λY v x q j g=>by
 revert g q
 generalize frz x=t;intro q g;cases t<;>try exact q.elim
 obtain⟨a,B,I,rfl,e,d,l,r⟩:=g.insI;obtain⟨⟨rfl,rfl⟩,q⟩:=q;refine⟨a,B,_,rfl,(cQ e).2,Jo y,?_⟩;exact Vj (E:=E0) (h.same j) (.cons g .nil) q λW v x s E n=>k W v x s (j.trans E) (n.back j)
def N9(C:Addr)(S:SI)(r:RA):RE:=λo q=>r o λb=>S C [] [] b λa ts=>q (.fz (.ins C a ts))
theorem FW{D C:Addr}{S:SI}(M:Mk X.K C D)(c:zS X bb k D ps (gb X.K S))(T:X.mg x=some (.ref C))(W:QA X (e::Z) r)(j:dX (k+1) X.A:=by exact dX.mono (by assumption) vk)(U:Gl X x:=by rfl)(bE:zz x:=by decide)
 (V:zw X e Z:=by rfl)(aE:zb X O Z:=by rfl):QE X (.Call (.Name x p) (e::Z) [] O) (N9 C S r):=(aeX M (OkI.hid c) j U T W bE V aE).imp λG H Q ⟨own,o,R,h,j,k⟩=>tQA.mk h j λY L as q _ J P a d B y w=>by
 have m:=h.same J;have g:zT Y (upd (upd Y d (.own a)) a (.ins C d [])):=(zT.upd y).trans (zT.upd ((bY (Ne.symm w)).trans B));have h2:=m.same g;have v:¬Ow own a:=λz=>(m.sole z).ne B;have t:¬Ow own d:=λz=>(m.sole z).ne y;refine⟨Ow own,h2.hid,a,d,C,[],[],[],L,as,_,rfl,(cR v).trans cj,(cR t).trans ((bY w).trans cj),rfl,.nil,P.same (λb u e=>?_),q,λc ff fN dq N E ea ed l r F=>⟨rfl,?_⟩⟩
 .obtain⟨n,e⟩:=cQ e;have i:¬db a d b:=λz=>by rcases z with rfl|rfl<;>rw[e]at *<;>contradiction
  rw[cR i,cR n];exact g _ _ e
 .have f:zT c (df (Ow own) (upd (upd Y d (.own a)) a (.ins C d [])) c):=λb u e=>by rw[jQ λz=>by rw[F b z]at e;cases e];exact e
  refine k _ _ _ N (J.trans λb u e=>?_) (NR.fz (.ins (dx:=d) (ks:=ff) (I:=fN) ?_ ?_ l (r.same λb u e=>?_)))
  .by_cases z:Ow own b
   .rw[vG z];exact g _ _ e
   .have i:¬db a d b:=λz=>by rcases z with rfl|rfl<;>rw[e]at *<;>contradiction
    exact f _ _ (cQ (E b u ((cR i).trans ((cR z).trans (g _ _ e))))).2
  .rw[cR v];exact f _ _ ea
  .rw[cR t];exact f _ _ ed
  .have s:=(cQ e).2;rw[cR λz=>by rw[F b z]at s;cases s];exact f _ _ s
def Ec(i:Nat)(S:SI)(r:RA):RS:=λE o=>match slot o i with|.ob a d C b ts=>r o λf=>S C b ts f λc e=>E.nx (o.set i (.ob a d C c e))|_=>False
def Jq(i:Nat){y m:Str}{R B:Addr}{S:SI}(c:HN X.K B m R)(g:zS X bb k R ps (gb X.K S))(hm:X.mg x=some (.ref B))(ha:QA X Z r)(v:dX k X.A:=by exact dX.mono (by assumption) vk)(hg:Gl X x:=by rfl)
 (hN:n_X X i y:=by exact⟨rfl,rfl,vk,vk⟩)(bE:zz x:=by decide)
 (U:starEach (.Name y p2::Z) X.env=(false,eval (.Name y p2) X.env)::starEach Z X.env:=by rfl)(aE:zb X af Z:=by rfl)
 (ht:eval (.Call (.Attribute (.Name x p) m ah) (.Name y p2::Z) [] af) X.env=(do
   let Q <- eval (.Name x p) X.env
   standAt ah.atName
   let(f,first) <- holding [Q] (getMethod Q m pl)
   callWith af f first (backTo af (starEach (.Name y p2::Z) X.env)) (backToKw af (keywordEach [] X.env))):=by rfl)
 (hs:swapsWith (.Call (.Attribute (.Name x p) m ah) (.Name y p2::Z) [] af) none O.line X.env=pure false:=by rfl) :
  QS X (.Expr (.Call (.Attribute (.Name x p) m ah) (.Name y p2::Z) [] af) O) (Ec i S r):=(oK (acX (pl:=pl) c (OkI.hid g) v hg hm (cF (pv i hN) ha U) bE U aE ht) hs).imp λD G H hP=>by
 obtain⟨own,o,E,h,v,L⟩:=hP;unfold Ec at v;cases Z:slot o i with
 |ob a s C ks ts =>
  rw[Z]at v;obtain⟨u,T,I,e2,P,e4,e5,l,r⟩:=h.val Z (by intro z;cases z);cases e2;refine⟨_,T,tQA.mk h v λY vs as q _ J r1=>?_⟩;have t:=h.same J;have sub:∀b,db a s b->b∈own i:=λb z=>by rw[P];rcases z with rfl|rfl<;>simp
  have F:∀b,b∈own i->db a s b:=λb z=>by
   rw[P]at z;rcases YU.mp z with z|z
   .exact .inl z
   .exact .inr (YR.mp z)
  have hid:mx Y (λb=>Ow own b/\¬db a s b):=⟨λb z=>t.sole z.1,λb C d f ⟨⟨j,z⟩,n⟩ e=>⟨⟨j,(t.mate z).1 C d f e⟩,λy=>n (F b ((t.dis j i d ((t.mate z).1 C d f e) (sub d y)) ▸ z))⟩,λb x ⟨⟨j,z⟩,n⟩ e=>⟨⟨j,(t.mate z).2 x e⟩,λy=>n (F b ((t.dis j i x ((t.mate z).2 x e) (sub x y)) ▸ z))⟩⟩;have ee:∀W:Hp,hd (db a s) (hd (λb=>Ow own b/\¬db a s b) W)=hd (Ow own) W:=λW=>funext λb=>by
   by_cases z:db a s b
   .rw[p7 z,p7 ⟨i,sub b z⟩]
   .rw[cR z];by_cases y:Ow own b
    .rw[p7 (⟨y,z⟩ : Ow own b/\¬db a s b),p7 y]
    .rw[cR (λw=>y w.1),cR y]
  have na:¬(Ow own a/\¬db a s a):=λz=>z.2 (.inl rfl);have nd:¬(Ow own s/\¬db a s s):=λz=>z.2 (.inr rfl);refine⟨_,hid,a,s,C,ks,I,ts,vs,as,_,rfl,(cR na).trans (J _ _ e4),(cR nd).trans (J _ _ e5),l,by rw[ee];exact r.same (bU J),by rw[ee];exact r1,q,λg ff fN dq rx EE ea ed l' r' V=>?_⟩;rw[ee]at EE;have M:∀{b:Addr}{u:HO},g b=some u->df (λb=>Ow own b/\¬db a s b) Y g b=some u:=λ{b u}e=>(jQ λz=>by rw[V b z]at e;cases e).trans e;obtain⟨h',S'⟩:=t.chg (gK Z (by intro z;cases z)) (y:=.ob a s C ff dq) (W:=df (λb=>Ow own b/\¬db a s b) Y g) (λb u hb e=>by
   by_cases z:Ow own b
   .rw[vG ⟨z,λy=>hb (sub b y)⟩];exact e
   .exact M (cQ (EE b u ((cR z).trans e))).2) (by
   rw[T];refine⟨fN,rfl,P,M ea,M ed,l',r'.same λb u e=>?_⟩;obtain⟨n1,e⟩:=cQ e;rw[cR λz=>by rw[V b ⟨z,n1⟩]at e;cases e];exact M e)
  exact L.nx own _ G _ rx ((bU J).trans S') h'
 |_=>rw[Z]at v;exact v.elim
def mD{A:Addr}{i:Int}(b:X.mg x=some (.ref A))(a:∀H,SqT X.K H A [.int i,.int j])(c:Gl X x:=by rfl)(hd:zz x:=by decide):QE X (.Name x O) (rC (.tup [.int i,.int j])):=qC (Wf c b hd) λF=>.tup (a F) (.cons (.int _) (.cons (.int _) .nil))
def QE.any{r:Addr->RE}(h:∀C,Fm C->QE X e (r C)):QE X e (λo q=>∃C,Fm C/\r C o q):=λU s G H Q I ⟨own,o,R,a,⟨C,c,b⟩,k⟩=>h C c U s G H Q I ⟨own,o,R,a,b,k⟩
def m6{a j:Pos}:=@zq X tg iter be aI ri g rc re J O i0 y0 a j (λi r n g c e=>oa i (YJ r n g c e)) λ{_ i0 _ _ _ _ _ _ _ _}⟨own,o,E,h,d,L⟩=>M7 ⟨own,o,_,h,d,λW v y q S n=>by
 obtain⟨k,f,l⟩:=h.putA S (n.frz λb z=>(h.sole z).ne) i0;exact L.nx k W _ _ q l f⟩
def L8(i j:Nat)(r:RA):RS:=λE o=>r o λts=>match ts with|[t,u]=>E.nx ((o.set i (.fz t)).set j (.fz u))|_=>False
def S4(i j:Nat){y:Str}{e d f:Pos}{g k c}(K:X.calm)(P:X.N.Nodup)(z:i≠j)(M:QA X [a,b] r)(hi:X.N[i]?=some x:=by rfl)(J:X.N[j]?=some y:=by rfl)
 (B:X.env.scope.names.lookup x=some .local:=by rfl)(A:X.env.scope.names.lookup y=some .local:=by rfl)
 (C:swappedStores [.Tuple [.Name x e,.Name y d] g f] (.Tuple [a,b] k c) X.env=pure (some [x,y]):=by rfl)
 (F:swapsWithSole [.Tuple [.Name x e,.Name y d] g f] (.Tuple [a,b] k c) O.line X.env=pure false:=by rfl) :
  QS X (.Assign [.Tuple [.Name x e,.Name y d] g f] (.Tuple [a,b] k c) O) (L8 i j r):=(PZ K P hi J z B A M C F).imp λD G H ⟨own,o,E,h,I,L⟩=>⟨own,o,_,h,I,λY U ts q _ m p=>by
 match ts,q with
 |[t,u],q =>
  obtain⟨v,w,rfl,n,s⟩:=p.two;refine⟨v,w,rfl,?_⟩;obtain⟨V,R,l⟩:=(h.same m).setF n (X0 i);obtain⟨S,Q,T⟩:=R.putA (.refl _) (NR.fz (s.same l.same)) j;exact L.nx S Y _ _ q ((bU m).trans (l.same.trans T)) Q⟩
def JI{a:Type}{I:List α}{ys:List a}{y:a}(l:I.length=ys.length)(e:cv ys j=some y):∃n x,c6 ys.length j=some n/\ys[n]?=some y/\I[n]?=some x/\dv I j=some x:=by
 rw[Ys]at e;unfold dv at e ⊢;rw[l];cases z:c6 ys.length j with
 |none=>rw[z]at e;cases e
 |some n =>
  rw[z]at e;have b:n<I.length:=l ▸ (ao.mp e).1;exact⟨n,I[n],rfl,e,aj b,aj b⟩
theorem MN{α:Type} : ∀{l:List α},l.Nodup->∀{i j:Nat}{x:α},l[i]?=some x->l[j]?=some x->i=j
 |[],_,_,_,_,e,_=>by cases e
 |y::l,d,i,j,x,b,a=>by
  obtain⟨c,f⟩:=List.nodup_cons.mp d;cases i with
  |zero =>
   cases j with
   |zero=>rfl
   |succ j=>cases b;exact absurd (aC (by simpa using a)) c
  |succ i =>
   cases j with
   |zero=>cases a;exact absurd (aC (by simpa using b)) c
   |succ j=>exact ZH (· + 1) (MN f (by simpa using b) (by simpa using a))
def SR.l2{K:Frag}{own:Nat->Ψ}{H:Hp}{G:L2.St}{o:xf}(h:SR K own H G o){i:Nat}{c:vz}(e:slot o i=.l2 c):∃l a,G[i]?=some (some (.ref l))/\own i=l::a/\(l::a).Nodup/\H l=some (.lst (a.map V.ref))/\a.length=c.length/\∀(i:Nat)b ts,a[i]?=some b->c[i]?=some ts->∃I,H b=some (.lst I)/\bW K (hd (Ow own) H) I ts:=by
 obtain⟨u,m,l,a,k,j,d,g,f,r⟩:=h.val e (by intro z;cases z);cases k;exact⟨l,a,m,j,d,g,f,r⟩
def SR.chg2(h:SR K own H G o){j:vz}(e:slot o i=.l2 j){l b:Addr}{a:Ψ}{s:xk}(m:G[i]?=some (some (.ref l)))(p:own i=l::a)(t:(l::a).Nodup)(D:H l=some (.lst (a.map V.ref)))(v:a.length=j.length)(r:∀(i:Nat)b ts,a[i]?=some b->j[i]?=some ts->∃I,H b=some (.lst I)/\bW K (hd (Ow own) H) I ts)(d:a[n]?=some b)(x:bW K (hd (Ow own) H) ys s) :
  SR K own (upd H b (.lst ys)) G (o.set i (.l2 (j.set n s)))/\zT (hd (Ow own) H) (hd (Ow own) (upd H b (.lst ys))):=by
 have w:=aC d;obtain⟨B,C⟩:=List.nodup_cons.mp t;refine h.chg (gK e (by intro z;cases z)) (λc u hc e=>(bY λz=>hc (by rw[p,z];exact aJ _ w)).trans e) ?_;rw[m,zM ⟨i,by rw[p];exact aJ _ w⟩];refine⟨l,a,rfl,p,t,(bY λ(z:l=b)=>B (by rwa[z])).trans D,by rw[WH];exact v,λk c ts f g=>?_⟩;by_cases z:k=n
 .subst z;rw[d]at f;cases f;rw[UY (v ▸ (ao.mp d).1)]at g;cases g;exact⟨ys,cj,x⟩
 .rw[VS (Ne.symm z)]at g;obtain⟨I,q,A⟩:=r k c ts f g;refine⟨I,(bY λy=>?_).trans q,A⟩;have F:=(ao.mp f).1;have E:=(ao.mp d).1;exact z (MN C f (by rw[d,y]))
def Yc{a:Ψ}{c:Addr}(e:dv a j=some c):dv (a.map V.ref) j=some (.ref c):=by
 have:dv (a.map V.ref) j=(dv a j).map V.ref:=by unfold dv;rw[ak];cases c6 a.length j<;>simp
 rw[this,e];rfl
def DC(i:Nat)(a b:RE):RE:=λo q=>match slot o i with
 |.l2 c=>a o λx=>(match frz x with|.int j=>∃ts,cv c j=some ts/\b o λy=>(match frz y with|.int m=>∃t,cv ts m=some t/\q (.fz t)|_=>False)|_=>False)
 |_=>False
def _k(i:Nat)(E:QE X a ra)(D:QE X b rb)(J:n_X X i x:=by exact⟨rfl,rfl,vk,vk⟩)(K:oO a:=by exact λ_ _=>rfl)(C:oO b:=by exact λ_ _=>rfl):QE X (.Subscript (.Subscript (.Name x p) a p2) b O) (DC i ra rb):=(tu Az (tu Az (pv i J) E K) D C).imp λG H Q F=>by
 obtain⟨own,o,R,h,d,k⟩:=F;unfold DC at d;cases Z:slot o i with
 |l2 aw =>
  rw[Z]at d;obtain⟨l,m,e1,e3,nd,e4,A,r⟩:=h.l2 Z;refine⟨_,e1,tQ.mk h d λY v x q j f=>?_⟩
  revert f q
  generalize frz x=t;intro q f;cases t<;>try exact q.elim
  cases f;obtain⟨ts,S,q⟩:=q;obtain⟨n,c,_,L,U,T⟩:=JI (I:=m) A S;obtain⟨I,M,s⟩:=r n c ts U L;refine⟨l,m.map V.ref,_,.ref c,rfl,rfl,.of (j _ _ e4),?_,tQ.mk (h.same j) q λH2 w y q E2 e=>?_⟩
  .exact Yc T
  .revert e q
   generalize frz y=t;intro q e;cases t<;>try exact q.elim
   cases e;obtain⟨t,P,q⟩:=q;obtain⟨z,W,u⟩:=s.ix P;have g:=j.trans E2;exact⟨c,I,_,z,rfl,rfl,.of (g _ _ M),W,k H2 _ _ q g (NR.fz (u.same (bU g)))⟩
 |_=>rw[Z]at d;exact d.elim
def D2(i:Nat)(a b:RE):RS:=λE o=>match slot o i with
 |.l2 c=>a o λx=>(match frz x with|.int j=>∃n ts,c6 c.length j=some n/\c[n]?=some ts/\ts.length<sizeLine/\b o λy=>E.nx (o.set i (.l2 (c.set n (ts++[frz y]))))|_=>False)
 |_=>False
def sk{a:Type}{I:List α}{ys:List a}{y:a}(l:I.length=ys.length)(e:c6 ys.length j=some n)(c:ys[n]?=some y):∃x,I[n]?=some x/\dv I j=some x:=by
 have b:n<I.length:=l ▸ (ao.mp c).1;exact⟨I[n],aj b,by unfold dv;rw[l,e];exact aj b⟩
def _3(i:Nat)(ha:QE X a ra)(U:QE X e re)(hN:n_X X i x:=by exact⟨rfl,rfl,vk,vk⟩)(gS:oO a:=by exact λ_ _=>rfl)
 (W:attributeBase (.Subscript (.Name x p) a p2) "append" X.env (eval (.Subscript (.Name x p) a p2) X.env)=eval (.Subscript (.Name x p) a p2) X.env:=by rfl)
 (T:zg X af e:=by rfl)
 (R:zC ah af:=by rfl)(C:zw X e []:=by rfl)(Q:zb X af []:=by rfl)
 (P:swapsWith (.Call (.Attribute (.Subscript (.Name x p) a p2) "append" ah) [e] [] af) none O.line X.env=pure false:=by rfl) :
  QS X (.Expr (.Call (.Attribute (.Subscript (.Name x p) a p2) "append" ah) [e] [] af) O) (D2 i ra re):=(oK (Xv (tu Az (pv i hN) ha gS) (cF U jB C) W T R C Q) P).imp λD G H hP=>by
 obtain⟨own,o,E,h,f,L⟩:=hP;unfold D2 at f;cases Z:slot o i with
 |l2 aw =>
  rw[Z]at f;obtain⟨l,F,B,e3,K,A,m,r⟩:=h.l2 Z;refine⟨_,B,tQ.mk h f λY v x q g j=>?_⟩
  revert j q
  generalize frz x=t;intro q j;cases t<;>try exact q.elim
  cases j;obtain⟨n,ts,en,s,sz,q⟩:=q;obtain⟨c,z,ei⟩:=sk (I:=F) m en s;obtain⟨I,u,k⟩:=r n c ts z s;refine⟨l,F.map V.ref,_,.ref c,rfl,rfl,.of (g _ _ A),Yc ei,c,I,rfl,g _ _ u,tQ.mk (h.same g) q λH2 w y q E2 J=>?_⟩;have d:=g.trans E2;refine⟨w,I,rfl,d _ _ u,by rw[k.len];exact sz,?_⟩;obtain⟨h',S⟩:=(h.same d).chg2 Z B e3 K (d _ _ A) m (λi b ts a c=>let⟨I,p,q⟩:=r i b ts a c;⟨I,d _ _ p,q.same (bU d)⟩) z ((k.same (bU d)).app (.cons J .nil));exact L.nx own _ G _ q ((bU d).trans S) h'
 |_=>rw[Z]at f;exact f.elim
def D5(i:Nat)(c a b:RE):RS:=λE o=>match slot o i with
 |.l2 d=>c o λy=>a o λx=>(match frz x with|.int j=>∃n ts,c6 d.length j=some n/\d[n]?=some ts/\b o λz=>(match frz z with|.int m=>∃k,c6 ts.length m=some k/\E.nx (o.set i (.l2 (d.set n (ts.set k (frz y)))))|_=>False)|_=>False)
 |_=>False
def _o(i:Nat)(he:QE X e re)(ha:QE X a ra)(hk:QE X b rb)(hN:n_X X i x:=by exact⟨rfl,rfl,vk,vk⟩)(gS:oO a:=by exact λ_ _=>rfl)
 (hq:∀v,assign (.Subscript (.Subscript (.Name x p) a p2) b ay) X.env v=(do
   let m <- holding [v] (eval (.Subscript (.Name x p) a p2) X.env)
   let A <- holding [v,m] (eval b X.env)
   standAt ay
   holding [v,m,A] (setItem m A v)
   release [v,m,A] []):=by intro _;rfl)
 (hs:swapsWithSole [.Subscript (.Subscript (.Name x p) a p2) b ay] e O.line X.env=pure false:=by rfl)(hw:swappedStores [.Subscript (.Subscript (.Name x p) a p2) b ay] e X.env=pure none:=by rfl)
 (h1:(assignEach [.Subscript (.Subscript (.Name x p) a p2) b ay] X.env).map (·.2)=[assign (.Subscript (.Subscript (.Name x p) a p2) b ay) X.env]:=by rfl):QS X (.Assign [.Subscript (.Subscript (.Name x p) a p2) b ay] e O) (D5 i re ra rb):=(Yq he (E8 (tu Az (pv i hN) ha gS) hk set_list hq) hs hw h1).imp λD G H hP=>by
 obtain⟨own,o,E,h,g,L⟩:=hP;unfold D5 at g;cases Z:slot o i with
 |l2 aw =>
  rw[Z]at g;obtain⟨l,P,M,e3,U,K,C,r⟩:=h.l2 Z;refine tQ.mk h g λH0 v0 y q j T=>⟨_,M,tQ.mk (h.same j) q λY v x q R u=>?_⟩
  revert u q
  generalize frz x=t;intro q u;cases t<;>try exact q.elim
  cases u;obtain⟨n,ts,en,F,q⟩:=q;obtain⟨c,J,ei⟩:=sk (I:=P) C en F;obtain⟨I,eq,B⟩:=r n c ts J F;have f:=j.trans R;refine⟨l,P.map V.ref,_,.ref c,rfl,rfl,.of (f _ _ K),Yc ei,tQ.mk (h.same f) q λH2 w z q Q s=>?_⟩
  revert s q
  generalize frz z=t;intro q s;cases t<;>try exact q.elim
  cases s;obtain⟨k,ek,q⟩:=q;have d:=f.trans Q;refine⟨c,I,_,k,rfl,rfl,d _ _ eq,by rw[B.len];exact ek,?_⟩;obtain⟨h',S⟩:=(h.same d).chg2 Z M e3 U (d _ _ K) C (λi b ts a c=>let⟨I,p,q⟩:=r i b ts a c;⟨I,d _ _ p,q.same (bU d)⟩) J (bW.set (T.same (bU (R.trans Q))) k (B.same (bU d)));exact L.nx own _ G _ q ((bU d).trans S) h'
 |_=>rw[Z]at g;exact g.elim
def MV:zi
 |.str i,.str j,q=>q (.fz (.bl (!decide (j.cps.toList<i.cps.toList))))
 |_,_,_=>False
def FD:GO X (compareOp .LtE) MV:=SK.imp λx y H Q d=>by
 obtain⟨S,t,u,R,_,c,b,a,k⟩:=d;cases c<;>try exact a.elim
 cases b<;>try exact a.elim
 exact⟨_,_,rfl,rfl,k H _ _ a (.refl _) (NR.fz (.bl _))⟩
def _h:GC X (.builtin "len") (g1 NA):=.one TF λS t x H Q R b a k=>by
 cases t<;>try exact a.elim
 cases b;exact⟨_,rfl,a.1,k H _ _ a.2 (.refl _) (NR.fz (.int _))⟩
def LZ(a:RE):RI:=λo q=>a o λx=>match frz x with|.str s=>q (s.cps.toList.map λc=>.str ⟨#[c]⟩)|_=>False
def RY(g:QE X e re):QI X tg e (LZ re):=(Re g).imp λG H Q ⟨own,o,R,h,f,k⟩=>tQ.mk h f λY v x q j b=>by
 revert b q
 generalize frz x=t;intro q b;cases t<;>try exact q.elim
 cases b;refine⟨_,rfl,k Y _ _ q j λS p i _ m=>⟨λhi=>show i=_ by simpa using hi,λt a=>?_⟩⟩;rw[aq]at a;cases z:(‹Str›.cps.toList)[i]? with
 |none=>rw[z]at a;cases a
 |some c =>
  rw[z]at a;cases a;refine⟨show i<_ by simpa using(ao.mp z).1,?_⟩;rintro x n ⟨rfl,l,d,rfl⟩;rw[<- Array.getElem?_toList,z]at d;cases d;exact⟨.refl _,.str _⟩
abbrev HG:=zn
variable{e:RE}{b:RS}{g:HG}{c:RT}{ks:xN}
theorem Ha(h:α->T)(l:List α)(J:List α->xf->Prop)(st:∀c a d o,l=c++a::d->J c o->g (h a) o λi=>b { E with nx:=J (c++[a]),ct:=J (c++[a]),bk:=E.nx } i)(f:∀o,J l o->E.nx o):∀(d c:List α)(o:xf),l=c++d->J c o->uW g b E (d.map h) o
 |[],c,o,e,j=>f o (by rw[append_nil]at e;rwa[e])
 |a::d,c,o,e,j=>⟨J (c++[a]),λo k=>Ha h l J st f d (c++[a]) o (by rw[e];simp) k,st c a d o e j⟩
def eN(h:α->T)(l:List α)(J:List α->xf->Prop)(j:J [] o)(st:∀c a f o,l=c++a::f->J c o->g (h a) o λe=>b { E with nx:=J (c++[a]),ct:=J (c++[a]),bk:=E.nx } e)(d:∀o,J l o->E.nx o):uW g b E (l.map h) o:=Ha h l J st d l [] o rfl j
theorem Dv(J:Nat->xf->Prop):∀(I:xk)(k:Nat){o:xf},J k o->(∀i t o,I[i]?=some t->J (k+i) o->g t o λc=>b { E with nx:=J (k+i+1),ct:=J (k+i+1),bk:=E.nx } c)->(∀o,J (k+I.length) o->E.nx o)->uW g b E I o
 |[],_,o,j,_,a=>a o j
 |t::ts,k,o,j,st,a=>⟨J (k+1),λo z=>Dv J ts (k+1) z (λi t o e z=>by
   have:=st (i+1) t o (by simpa using e) (by rw[show k+(i+1)=k+1+i by lia];exact z);rw[show k+(i+1)+1=k+1+i+1 by lia]at this;exact this) (λo z=>a o (by rw[length_cons,show k+(ts.length+1)=k+1+ts.length by lia];exact z)),st 0 t o rfl j⟩
def lA(J:Nat->xf->Prop)(j:J 0 o)(st:∀k o,k<n->J k o->g (.int (k:Nat)) o λc=>b { E with nx:=J (k+1),ct:=J (k+1),bk:=E.nx } c)(a:∀o,J n o->E.nx o):uW g b E (rng 0 n) o:=by
 refine Dv J (rng 0 n) 0 j (λi t o e z=>?_) λo z=>a o (by rw[rng,ak,WP,U1]at z;exact z);unfold rng at e;rw[aq]at e;by_cases hi:i<n
 .rw[VY hi]at e;cases e;rw[U1]at z ⊢;have:=st i o hi z;show g (.int (0+((i:Nat):Int))) o _;rw[show(0:Int)+((i:Nat):Int)=((i:Nat):Int)by exact Int.zero_add _];exact this
 .rw[aM (by simpa using hi)]at e;cases e
def Bc(h:α->T)(l:List α)(J:Nat->xf->Prop)(j:J 0 o)(st:∀k a o,l[k]?=some a->J k o->g (.tup [.int (k:Nat),h a]) o λd=>b { E with nx:=J (k+1),ct:=J (k+1),bk:=E.nx } d)(c:∀o,J l.length o->E.nx o):uW g b E (sW (l.map h)) o:=by
 refine Dv J (sW (l.map h)) 0 j (λi t o e z=>?_) λo z=>c o (by rw[sW,ak,U2,ak,U1]at z;exact z);unfold sW at e;rw[aq]at e;by_cases hi:i<l.length
 .rw[aj (by simpa using hi),Q1,VX]at e;cases e;rw[U1]at z ⊢;have:=st i _ o (aj hi) z;exact this
 .rw[aM (by simpa using hi)]at e;cases e
theorem comp_map(h:α->T)(f:α->T):∀(l:List α){q:xk->Prop},(∀a∈l,∀(N:T->Prop)(M:Prop),N (f a)->g (h a) o λd=>c d λb=>sw b (e d λy=>N (frz y)) M)->q (l.map f)->iy g c e o (l.map h) q
 |[],_,_,k=>k
 |a::l,q,st,k=>⟨λy=>y=f a,False,λy z=>comp_map h f l (λa i=>st a (aJ _ i)) (z ▸ k),False.elim,st a (aO ..) (λy=>y=f a) False rfl⟩
theorem jy(h:α->T)(p:α->Bool)(f:α->T):∀(l:List α){q:xk->Prop},(∀a∈l,∀(N:T->Prop)(M:Prop),(p a=true->N (f a))->(p a=false->M)->g (h a) o λi=>c i λb=>sw b (e i λy=>N (frz y)) M)->q ((l.filter p).map f)->iy g c e o (l.map h) q
 |[],_,_,k=>k
 |a::l,q,st,k=>⟨λy=>y=f a/\p a,p a=false,λy z=>jy h p f l (λa d=>st a (aJ _ d)) (by rw[List.filter_cons_of_pos z.2]at k;exact z.1 ▸ k),λz=>jy h p f l (λa d=>st a (aJ _ d)) (by rw[List.filter_cons_of_neg (by rw[z];decide)]at k;exact k),st a (aO ..) (λy=>y=f a/\p a) (p a=false) (λz=>⟨rfl,z⟩) id⟩
inductive i'(R:α->T->Prop):List α->xk->Prop
 |nil:i' R [] []
 |cons {a:α}{t:T}{l:List α}{ts:xk} : R a t->i' R l ts->i' R (a::l) (t::ts)
theorem Wj(h:α->T)(R:α->T->Prop):∀(l:List α){q:xk->Prop},(∀a∈l,∀(N:T->Prop)(M:Prop),(∀t,R a t->N t)->g (h a) o λd=>c d λb=>sw b (e d λy=>N (frz y)) M)->(∀ts,i' R l ts->q ts)->iy g c e o (l.map h) q
 |[],_,_,k=>k [] .nil
 |a::l,q,st,k=>⟨R a,False,λy z=>Wj h R l (λa f=>st a (aJ _ f)) λts t=>k _ (.cons z t),False.elim,st a (aO ..) (R a) False λ_ z=>z⟩
def JD(f:Nat->T)(n:Nat)(st:∀k,k<n->∀(N:T->Prop)(M:Prop),N (f k)->g (.int (k:Nat)) o λd=>c d λb=>sw b (e d λy=>N (frz y)) M)(k:q ((range n).map f)):iy g c e o (rng 0 n) q:=by
 refine comp_map (λk:Nat=>.int (0+k)) f (range n) (λa h N M i=>?_) k;have:=st a (List.mem_range.mp h) N M i;show g (.int (0+((a:Nat):Int))) o _;rw[show(0:Int)+((a:Nat):Int)=((a:Nat):Int)by exact Int.zero_add _];exact this
def zip_map{α a:Type}(h:α->T)(k:a->T)(I:List α)(ys:List a):Fj (I.map h) (ys.map k)=(I.zip ys).map λp=>.tup [h p.1,k p.2]:=by
 unfold Fj;rw[List.zip_map,WU]
 rfl
def Kp(h:α->T)(I:List α):sW (I.map h)=I.zipIdx.map λp=>.tup [.int (p.2:Nat),h p.1]:=by
 unfold sW;rw[List.zipIdx_map,WU]
 rfl
def Ls(ks:xN)(j:bh):Bool:=ks.any λk=>decide (k=j)
def eH(ks:xN)(j:bh):xN:=if Ls ks j=true then ks else ks++[j]
def dP(ks:xN)(ts:List α)(j:bh)(t:α):List α:=if Ls ks j=true then ks.zipWith (λk x=>if k=j then t else x) ts else ts++[t]
def acS{j:bh}(l:ks.length=I.length):putK (ks.zip I) j v=(eH ks j).zip (dP ks I j v)/\(eH ks j).length=(dP ks I j v).length:=by
 have any:∀{ks:xN}{I:Ζ},ks.length=I.length->((ks.zip I).any λb=>decide (b.1=j))=Ls ks j:=λ{ks}=>by
  induction ks with
  |nil=>intro I _;rfl
  |cons k ks a =>
   intro I l;cases I with
   |nil=>cases l
   |cons x I=>rw[zip_cons_cons,any_cons,a (Nat.succ.inj l)];rfl
 unfold putK eH dP;rw[any l];by_cases h:Ls ks j
 .rw[ZY h,ZY h,ZY h];refine⟨?_,by rw[TH,l,VQ]⟩
  clear any h
  induction ks generalizing I with
  |nil=>rfl
  |cons k ks a =>
   cases I with
   |nil=>cases l
   |cons x I =>
    rw[zip_cons_cons,map_cons,a (Nat.succ.inj l),zipWith_cons_cons,zip_cons_cons];by_cases h:k=j
    .rw[ZY h,ZY h]
    .rw[ZZ h,ZZ h]
 .rw[ZZ h,ZZ h,ZZ h];exact⟨by rw[List.zip_append l];rfl,by simp[l]⟩
def bW.kp{F:Hp}{j:bh}(r:Rep K F v t)(h:bW K F I ts):bW K F (dP ks I j v) (dP ks ts j t):=by
 unfold dP;by_cases z:Ls ks j
 .rw[ZY z,ZY z]
  clear z
  induction ks generalizing I ts with
  |nil=>exact .nil
  |cons k ks c =>
   cases h with
   |nil=>exact .nil
   |cons a b =>
    rw[zipWith_cons_cons,zipWith_cons_cons];refine .cons ?_ (c b);by_cases y:k=j
    .rw[ZY y,ZY y];exact r
    .rw[ZZ y,ZZ y];exact a
 .rw[ZZ z,ZZ z];exact h.app (.cons r .nil)
def DI(i:Nat)(a b:RE):RS:=λE o=>match slot o i with|.d1 ks ts=>a o λy=>b o λk=>∃j,ig (frz k)=some j/\ks.length<sizeLine/\E.nx (o.set i (.d1 (eH ks j) (dP ks ts j (frz y))))|_=>False
def SR.d1{K:Frag}{own:Nat->Ψ}{H:Hp}{G:L2.St}{o:xf}(h:SR K own H G o){i:Nat}{ks:xN}{ts:xk}(e:slot o i=.d1 ks ts):∃l I,G[i]?=some (some (.ref l))/\own i=[l]/\H l=some (.dK (ks.zip I))/\ks.length=I.length/\bW K (hd (Ow own) H) I ts:=by
 obtain⟨u,d,l,I,c,b,a,r⟩:=h.val e (by intro z;cases z);cases c;exact⟨l,I,d,b,a,r⟩
variable{e b:Expr}{g:zn}{as:Ψ}
def Jw(i:Nat)(J:X.A.units+1<cLine)(M:QE X e re)(d:QE X b rb)(Q:n_X X i x:=by exact⟨rfl,rfl,vk,vk⟩)
 (K:swapsWith e (some (.Subscript (.Name x p) b ay)) O.line X.env=pure false:=by rfl):QS X (.Assign [.Subscript (.Name x p) b ay] e O) (DI i re rb):=(_q J (pv i Q) d M K).imp λD G H P=>by
 obtain⟨own,o,E,h,a,L⟩:=P;unfold DI at a;cases Z:slot o i with
 |d1 ks ts =>
  rw[Z]at a;obtain⟨l,I,k,f,U,g,r⟩:=h.d1 Z;refine tQ.mk h a λY v y q n t=>⟨_,k,tQ.mk (h.same n) q λH2 w z q m s=>?_⟩;obtain⟨j,T,sz,q⟩:=q;have c:=n.trans m;cases QF s T;obtain⟨B,pl⟩:=acS (j:=j) (v:=v) g;have C:(ks.zip I).length<sizeLine:=by rw[VZ,<- g,VQ];exact sz
  refine⟨l,_,rfl,.inl ⟨_,j,c _ _ U,rfl,C,rfl⟩,?_⟩;rw[B];obtain⟨R,S⟩:=(h.same c).chg (gK Z (by intro z;cases z)) (y:=.d1 (eH ks j) (dP ks ts j (frz y))) (W:=upd H2 l (.dK ((eH ks j).zip (dP ks I j v)))) (λb u d e=>(bY λz=>d (by rw[f,z];simp)).trans e) (by
   rw[k,zM ⟨i,by rw[f];simp⟩];exact⟨l,_,rfl,f,cj,pl,bW.kp (t.same (bU m)) (r.same (bU c))⟩)
  exact L.nx own _ G _ q ((bU c).trans S) R
 |_=>rw[Z]at a;exact a.elim
def D4(i:Nat)(a b:RE):RE:=λo q=>match slot o i with|.d1 ks ts=>a o λy=>b o λz=>∃j,ig (frz y)=some j/\q (.fz ((pC ks ts j).getD (frz z)))|_=>False
def GL(i:Nat)(E:X.A.units+1<cLine)(J:QE X a ra)(F:QE X b rb)(m:M2 X (.Name x p) "get" ah a b af:=by first|exact⟨rfl,rfl,rfl,rfl⟩|constructor<;>rfl)(L:n_X X i x:=by exact⟨rfl,rfl,vk,vk⟩) :
  QE X (.Call (.Attribute (.Name x p) "get" ah) [a,b] [] af) (D4 i ra rb):=(afj E (pv i L) J F m).imp λG H Q K=>by
 obtain⟨own,o,R,h,c,k⟩:=K;unfold D4 at c;cases Z:slot o i with
 |d1 ks ts =>
  rw[Z]at c;obtain⟨l,I,P,W,f,V,r⟩:=h.d1 Z;refine⟨_,P,l,rfl,.inl ⟨_,.inl f⟩,tQ.mk h c λY v y q n C=>tQ.mk (h.same n) q λg w z q U B=>?_⟩;obtain⟨j,M,q⟩:=q;have e:=n.trans U;cases QF C M;refine⟨_,Hg.k (e _ _ f),?_⟩;have r:=r.same (bU e);cases d:pC ks ts j with
  |none =>
   rw[d]at q;rw[(Hq r).2 d];exact k g _ _ q e (NR.fz B)
  |some t =>
   rw[d]at q;obtain⟨u,O,s⟩:=(Hq r).1 t d;rw[O];exact k g _ _ q e (NR.fz s)
 |_=>rw[Z]at c;exact c.elim
def kT:bh->T
 |.inl i=>.int i
 |.inr s=>.str s
def ll(f:xN->xk->xk)(i n:Nat)(g:zn)(c:RT)(e:RE):RS:=λE o=>match slot o i with
 |.d1 ks ts=>ks.length<=sizeLine/\iy g c e (replicate n .und++o.set i (.fz (.dct ks ts))) (f ks ts) λa=>E.rt (.l1 a)
 |_=>False
def iW(J:Addr->Obj->wx->It)(c:TE):TI:=λG H R=>c G H λx Y=>∃a b,x=.ref a/\Y a=some (.dK b)/\∀o,R (J a o b) (upd Y a (.frz o (.dK b)))
abbrev OH:=ll λks _=>ks.map kT
abbrev On:=ll λks ts=>(ks.zip ts).map λp=>.tup [kT p.1,p.2]
def _e{a:Addr}{d:Obj}{F:Hp}(l:ks.length=I.length)(e:F a=some (.frz d (.dK (ks.zip I)))):hF K (mw a d (ks.zip I)) F (ks.map kT):=λS H i _ h=>by
 have f:=(cQ (h _ _ e)).2;have c:(ks.zip I).length=ks.length:=by rw[VZ,<- l,VQ]
 refine⟨λhi=>⟨f,by rw[c];simpa using hi⟩,λt b=>?_⟩;rw[aq]at b;cases z:ks[i]? with
 |none=>rw[z]at b;cases b
 |some k =>
  rw[z]at b;cases b;have hi:=(ao.mp z).1;refine⟨⟨f,by rwa[c]⟩,?_⟩;rintro x W ⟨rfl,m,y,g,rfl⟩;rw[aj (by rwa[c]),JP]at g;rw[aj hi]at z;cases z;cases g;refine⟨.refl _,?_⟩;cases ks[i]with
  |inl j=>exact .int _
  |inr s=>exact .str _
def af0{a:Addr}{f:Obj}{F:Hp}(l:ks.length=I.length)(e:F a=some (.frz f (.dK (ks.zip I))))(r:bW K F I ts):hF K (mu a f (ks.zip I)) F ((ks.zip ts).map λp=>.tup [kT p.1,p.2]):=λS H i u m=>by
 have h:=(cQ (m _ _ e)).2;have lt:=r.len;have d:(ks.zip I).length=ks.length:=by rw[VZ,<- l,VQ]
 have b:(ks.zip ts).length=ks.length:=by rw[VZ,<- lt,<- l,VQ]
 refine⟨λhi=>⟨h,by rw[ak,b]at hi;rwa[d]⟩,λt c=>?_⟩;rw[aq]at c;cases z:(ks.zip ts)[i]? with
 |none=>rw[z]at c;cases c
 |some q =>
  rw[z]at c;cases c;obtain⟨hi,z⟩:=ao.mp z;rw[JP]at z;subst z;rw[b]at hi;obtain⟨y,g,o⟩:=r.at_ (aj (show i<ts.length by lia));refine⟨⟨h,by rwa[d]⟩,?_⟩;rintro x W ⟨w,v,t,k,n,rfl,rfl⟩;rw[aj (by rwa[d]),JP]at k;rw[aj (aR hi (WG l))]at g;cases g;cases k;refine⟨zT.upd n,.tup (.of (Zt n u)) (.cons ?_ (.cons (o.same (m.trans (bU (zT.upd n)))) .nil))⟩;cases ks[i]with
  |inl j=>exact .int _
  |inr s=>exact .str _
def GE{c:Addr->Obj->wx->It}{f:xN->xk->xk}(i:Nat)(pi:PI X tg iter (iW c (Ku i)))(U:∀{a p ks I ts F},ks.length=I.length->F a=some (.frz p (.dK (ks.zip I)))->bW X.K F I ts->hF X.K (c a p (ks.zip I)) F (f ks ts)/\(f ks ts).length=ks.length)(V:Scope)(N M I:Φ)(hg:∀{C d m A t},QG (X.compG M J I C d m A t) I.length tg g)(ht:∀{C d m A t},f5 (X.compG M J I C d m A t) aI rc)(he:∀{C d m A t},QE (X.compG M J I C d m A t) be re)
 (cy:X.env.scope=V:=by rfl)(cS:X.N=N:=by rfl)(hc:X.calm:=by rfl)(hk:J.kind=.function:=by rfl)(h:CK V J N M I:=by decide +kernel)(hs:zh X iter) :
  QS X (.Return (some (.ListComp be [⟨tg,iter,aI,0⟩] J af)) O) (ll f i I.length g rc re):=(yH (FG (gt:=f6 X.K I.length g) (tc:=tQT X.K rc) (te:=tQ X.K re) V N M I pi hg ht he cy cS hc hk h hs)).imp λD G H Y=>by
 obtain⟨own,o,E,h,q,L⟩:=Y;unfold ll at q;cases Z:slot o i with
 |d1 ks ts =>
  rw[Z]at q;obtain⟨l,ys,e1,R,e4,ln,r⟩:=h.d1 Z;refine⟨_,e1,l,_,rfl,e4,λp DD nD=>?_⟩;have eo:∀b,Ow (own1 own i []) b->Ow own b/\b≠l:=λb Y=>by
   obtain⟨j,z⟩:=Y;by_cases y:j=i
   .rw[y,j8]at z;cases z
   .rw[gB y]at z;exact⟨⟨j,z⟩,λw=>y (h.dis j i b z (by rw[R,w];simp))⟩
  have nl:¬Ow (own1 own i []) l:=λz=>(eo l z).2 rfl;have ol:Ow own l:=⟨i,by rw[R];simp⟩;have T:zT (hd (Ow own) H) (hd (Ow (own1 own i [])) (upd H l (.frz p (.dK (ks.zip ys))))):=λb u e=>by
   obtain⟨n,e⟩:=cQ e;rw[cR λz=>n (eo b z).1,bY λ(z:b=l)=>n (z.symm ▸ ol)];exact e
  have h1:SR X.K (own1 own i []) (upd H l (.frz p (.dK (ks.zip ys)))) G (o.set i (.fz (.dct ks ts))):=by
   have hi:i<o.length:=(ao.mp (gK Z (by intro z;cases z))).1;refine⟨by rw[WH,h.len],λj y S=>?_,λj hj a x=>?_,λj k a Q P=>?_⟩
   .by_cases z:j=i
    .subst z;rw[UY hi]at S;cases S;rw[j8,e1];exact⟨rfl,_,rfl,.dct (.inr ⟨p,by rw[cR nl];exact cj⟩) ln (r.same T)⟩
    .rw[VS (Ne.symm z)]at S;rw[gB z];exact((h.sl j y S).same T (.refl _)).off λb hb u e=>(bY λw=>z (h.dis j i b hb (by rw[R,w];simp))).trans e
   .rw[WH]at hj;rw[gB vw]at x;obtain⟨I,e⟩:=h.out j hj a x;exact⟨I,(bY λw=>by have:=h.dis j i a x (by rw[R,w];simp);lia).trans e⟩
   .by_cases z:j=i
    .rw[z,j8]at Q;cases Q
    by_cases y:k=i
    .rw[y,j8]at P;cases P
    .rw[gB z]at Q;rw[gB y]at P;exact h.dis j k a Q P
  have L1:=L.step T;obtain⟨U,wl⟩:=U ln (by rw[cR nl];exact cj) (r.same T);refine V_ h1 U (by rw[wl];exact q.1) q.2 nD λW v y rx E n=>?_;obtain⟨B,nb,s⟩:=n;exact L1.rt _ W v y B rx (h_ (λb z=>z.imp id (nb b)) E) s λa x=>.inr x
 |_=>rw[Z]at q;exact q.elim
def _w(i:Nat)(j:Scope)(N f I:Φ)(q:∀{C a b d c},QG (X.compG f J I C a b d c) I.length tg g)(m:∀{C a b d c},f5 (X.compG f J I C a b d c) aI rc)(r:∀{C a b d c},QE (X.compG f J I C a b d c) be re)
 (t:n_X X i x:=by exact⟨rfl,rfl,vk,vk⟩)
 (u:X.env.scope=j:=by rfl)(v:X.N=N:=by rfl)(s:X.calm:=by rfl)(o:J.kind=.function:=by rfl)(h:CK j J N f I:=by decide +kernel)(n:∀z,foldedSetIterable (.Name x p) X.env z=pure z:=by intro _;rfl) :
  QS X (.Return (some (.ListComp be [⟨tg,.Name x p,aI,0⟩] J af)) O) (OH i I.length g rc re):=GE i (_s (tg:=tg) (pv i t)) (λl e _=>⟨_e l e,by rw[ak]⟩) j N f I q m r u v s o h n
def _E{k:Pos}{m}(i:Nat)(j:Scope)(N f I:Φ)(u:∀{C a b d c},QG (X.compG f J I C a b d c) I.length (.Tuple br m ay) g)(o:∀{C a b d c},f5 (X.compG f J I C a b d c) aI rc)(v:∀{C a b d c},QE (X.compG f J I C a b d c) be re)
 (A:n_X X i x:=by exact⟨rfl,rfl,vk,vk⟩)(y:attributeBase (.Name x p) "items" X.env (eval (.Name x p) X.env)=eval (.Name x p) X.env:=by rfl)(s:zC ah k:=by rfl)
 (B:X.env.scope=j:=by rfl)(D:X.N=N:=by rfl)(w:X.calm:=by rfl)(t:J.kind=.function:=by rfl)(h:CK j J N f I:=by decide +kernel)(q:∀z,foldedSetIterable (.Call (.Attribute (.Name x p) "items" ah) [] [] k) X.env z=pure z:=by intro _;rfl) :
  QS X (.Return (some (.ListComp be [⟨.Tuple br m ay,.Call (.Attribute (.Name x p) "items" ah) [] [] k,aI,0⟩] J af)) O) (On i I.length g rc re):=GE i (aeS (pv i A) y s) (λl e r=>⟨af0 l e r,by rw[ak,VZ,l,r.len,VQ]⟩) j N f I u o v B D w t h q
def n3(K:Frag)(as:Ψ)(H:Hp)(b:vz):Prop:=b.length=as.length/\∀(j:Nat)a ts,as[j]?=some a->b[j]?=some ts->∃I,H a=some (.lst I)/\bW K (hd (· ∈ as) H) I ts
abbrev SO:=vz->xk->(vz->Prop)->Prop
def f_(K:Frag)(S:SO):Sp:=λd H Q _=>∃(as:Ψ)(c:vz)(a:Ζ)(ts:xk)(R:vz->Prop),d=as.map V.ref++a/\as.Nodup/\n3 K as H c/\bW K (hd (· ∈ as) H) a ts/\S c ts R /\
 ∀W b,R b->zT (hd (· ∈ as) H) (hd (· ∈ as) W)->n3 K as W b->Q .non W
def ownL(as:Ψ)(i:Nat):Ψ:=match as[i]? with|some a=>[a]|none=>[]
def Jt{b:Addr}(h:b∈ownL as i):as[i]?=some b:=by
 unfold ownL at h;cases e:as[i]? with
 |none=>rw[e]at h;cases h
 |some a=>rw[e]at h;cases YR.mp h;rfl
def ZW{b:Addr}(h:as[i]?=some b):ownL as i=[b]:=by unfold ownL;rw[h]
def Ow.ownL(as:Ψ):Ow (L2.ownL as)=(· ∈ as):=funext λb=>propext ⟨λ⟨i,z⟩=>aC (Jt z),λz=>by
 obtain⟨i,e⟩:=aV z;exact⟨i,by rw[ZW e];simp⟩⟩
def startO(n:Nat)(as:Ψ)(a:vz)(ts:xk):xf:=zipWith OT.la as a++start' (n-as.length) ts
def SR.startO{H:Hp}{as:Ψ}{f:vz}{g:Ζ}{ts:xk}(s:as.Nodup)(h:n3 K as H f)(r:bW K (hd (· ∈ as) H) g ts)(N:Φ)(w:as.length+g.length<=N.length):SR K (ownL as) H (L2.start N (as.map V.ref++g)) (L2.startO N.length as f ts):=by
 have a:(zipWith OT.la as f).length=as.length:=by rw[TH,h.1,VQ]
 refine⟨?_,λi x e=>?_,λi hi b t=>?_,λi j b k u=>MN s (Jt k) (Jt u)⟩
 .unfold L2.startO start' L2.start;have:=r.len;simp only[aA,ak,aN,a];lia
 .rw[Ow.ownL];unfold L2.startO at e;unfold L2.start;by_cases hi:i<as.length
  .rw[aF (by rwa[a]),List.getElem?_zipWith]at e;have d:=aj hi;have m:=aj (l:=f) (by rwa[h.1]);rw[d,m]at e;cases e;rw[ZW d,aF (by simp;exact WV _ hi),aq,aF (by simpa using hi),aq,d];obtain⟨I,q,n⟩:=h.2 i _ _ d m;exact⟨I,rfl,rfl,q,n⟩
  .have p:ownL as i=[]:=by unfold ownL;rw[aM (Nat.not_lt.mp hi)]
   rw[p];rw[aD (by rw[a];exact Nat.not_lt.mp hi),a]at e;unfold start' at e;by_cases c:i-as.length<ts.length
   .rw[aF (by simpa using c),aq,aj c]at e;cases e;obtain⟨v,k,o⟩:=r.at_ (aj c);have:=r.len;rw[aF (by simp;lia),aq,aD (by simpa using Nat.not_lt.mp hi),ak,k];exact⟨rfl,v,rfl,o⟩
   .rw[aD (by simpa using c),ak,XG]at e;split at e
    .cases e;rfl
    .cases e
 .unfold L2.startO at hi;rw[aA,a]at hi;have:=(ao.mp (Jt t)).1;lia
theorem slot_of:∀{o:xf}{i:Nat}{x:OT},o[i]?=some x->slot o i=x
 |[],_,_,e=>by cases e
 |_::_,0,_,e=>by cases e;rfl
 |_::l,i+1,x,e=>slot_of (o:=l) (by simpa using e)
variable{S:SO}{p1:Pos}
def Fun.okO{B:Str}{f:Addr}{N:Φ}(F:Fun K x B st f fd)(D:bL N ps (bH st))(i:∀d ts R,S d ts R->d.length+ts.length=ps.length)(hn:ps.length<=N.length)
 (bo:∀(p:Value)(A:Around)(c:xC)(s:Shared)(H:Hp)(E:XK),dX k (A.deeper (envOfC B (bH st) s.zs f p))->N.Nodup ->
   ∃r,ef (FZ bb P w K mg base N B (bH st) f p A c s H E).nox (fL st) r/\∀as d ts R,d.length=as.length->S d ts R->r { nx:=λo=>∃g,(∀j,slot o j=slot (zipWith OT.la as g) j\/as.length<=j)/\g.length=as.length/\R g,rt:=λ_=>False } (startO N.length as d ts)):fD P w K mg base bb (k+1) f fd ps (f_ K S):=by
 refine F.ok D (λL H Q E h=>?_) λp A c s H L Q E V h=>?_
 .obtain⟨as,d,M,ts,R,rfl,_,l,r,m,_⟩:=h;rw[aA,ak,<- l.1,r.len];exact i _ _ _ m
 .obtain⟨as,d,M,ts,R,rfl,T,l,r,m,q⟩:=h;obtain⟨rd,Y,X⟩:=bo p A c s H E V D.nd;have s0:=SR.startO T l r N (by rwa[<- l.1,r.len,i _ _ _ m]);refine⟨_,Y,_,_,_,s0,X as d ts R l.1 m,⟨λown W G o v E h=>?_,λ_ _ _ _ _ z=>z.elim,λ_ _ _ _ z=>z.elim,λ_ _ _ _ z=>z.elim,λ_ _ _ _ _ _ z=>z.elim⟩⟩;obtain⟨g,Z,C,v⟩:=v;rw[Ow.ownL]at E;have J:∀(j:Nat)a t,as[j]?=some a->g[j]?=some t->slot o j=.la a t:=λj a t n y=>by
   rcases Z j with z|z
   .rw[z];exact slot_of (by rw[List.getElem?_zipWith,n,y])
   .exact absurd (ao.mp n).1 (Nat.not_lt.mpr z)
  have sub:zT (hd (Ow own) W) (hd (· ∈ as) W):=h_ (λb z=>.inl (by
   obtain⟨j,e⟩:=aV z;have U:j<g.length:=C ▸ (ao.mp e).1;obtain⟨u,_,I,_,e3,_⟩:=h.val (J j b _ e (aj U)) (by intro z;cases z);exact⟨j,by rw[e3];simp⟩)) λ_ _ z=>z
  refine q W g v (E.trans sub) ⟨C,λj a t n y=>?_⟩;obtain⟨u,_,I,_,_,e4,O⟩:=h.val (J j a t n y) (by intro z;cases z);exact⟨I,e4,O.same sub⟩
def E9(h:SR K own H G o)(l:∀a∈as,∃j,own j=[a]):mx H (λb=>Ow own b/\b∉as)/\∀W:Hp,hd (· ∈ as) (hd (λb=>Ow own b/\b∉as) W)=hd (Ow own) W:=by
 have c:∀{b x:Addr}{j:Nat},b∈own j->b∉as->x∈own j->x∉as:=λ{b x j}m n i z=>by
  obtain⟨k,g⟩:=l x z;have:=h.dis j k x i (by rw[g];simp);subst this;rw[g]at m i;cases YR.mp m;exact n z
 refine⟨⟨λb z=>h.sole z.1,λb C d f ⟨⟨j,z⟩,n⟩ e=>⟨⟨j,(h.mate z).1 C d f e⟩,c z n ((h.mate z).1 C d f e)⟩,λb x ⟨⟨j,z⟩,n⟩ e=>⟨⟨j,(h.mate z).2 x e⟩,c z n ((h.mate z).2 x e)⟩⟩,λW=>funext λb=>?_⟩;by_cases z:b∈as
 .obtain⟨k,g⟩:=l b z;rw[p7 z,p7 ⟨k,by rw[g];simp⟩]
 .rw[cR z];by_cases y:Ow own b
  .rw[p7 (⟨y,z⟩ : Ow own b/\b∉as),p7 y]
  .rw[cR (λw=>y w.1),cR y]
def Me(i:Nat)(S:SO)(r:RA):RS:=λE o=>g7 (slot o i) λts c=>r o λas=>S [ts] as λa=>match a with|[t]=>E.nx (o.set i (c t))|_=>False
def SY(i:Nat){y:Str}(d:OkF X.prog X.w X.K X.mg X.base k x ps (f_ X.K S))(v:QA X Z r)(g:dX k X.A:=by exact dX.mono (by assumption) vk)(hg:Gl X x:=by rfl)(hN:n_X X i y:=by exact⟨rfl,rfl,vk,vk⟩)(bE:zz x:=by decide)
 (C:starEach (.Name y p1::Z) X.env=(false,eval (.Name y p1) X.env)::starEach Z X.env:=by rfl)(aE:zb X af Z:=by rfl)(hs:swapsWith (.Call (.Name x p) (.Name y p1::Z) [] af) none O.line X.env=pure false:=by rfl):QS X (.Expr (.Call (.Name x p) (.Name y p1::Z) [] af) O) (Me i S r):=by
 obtain⟨f,fd,F,b,hm,kp⟩:=d;refine(oK (mU (sp:=g4 (f_ X.K S)) ⟨f,fd,F.hid,b,hm,kp⟩ g hg (cF (pv i hN) v C) bE C aE) hs).imp λD G H hP=>?_;obtain⟨own,o,E,h,g,L⟩:=hP;obtain⟨ts,c,g,Z⟩:=G3 g;obtain⟨l,I,Q,P,e3,r0,V⟩:=h.l1 Z;refine⟨_,Q,tQA.mk h g λY U as q _ m r1=>?_⟩;have J:=h.same m;obtain⟨hid,ee⟩:=E9 J (as:=[l]) λa v=>⟨i,by rwa[YR.mp v]⟩;have nl:¬(Ow own l/\l∉[l]):=λz=>z.2 vy;refine⟨_,hid,[l],[ts],U,as,_,rfl,by simp,⟨rfl,λj a t M et=>?_⟩,by rw[ee];exact r1,q,λd bt n T s R=>?_⟩
 .cases j with
  |zero=>cases M;cases et;exact⟨I,(cR nl).trans (m _ _ e3),by rw[ee];exact r0.same (bU m)⟩
  |succ j=>cases M
 .match bt,n,s with
  |[t],n,s =>
   obtain⟨ys,ey,ry⟩:=s.2 0 l t rfl rfl;rw[ee]at T;have B:∀{b:Addr}{u:HO},d b=some u->df (λb=>Ow own b/\b∉[l]) Y d b=some u:=λ{b u}e=>(jQ λz=>by rw[R b z]at e;cases e).trans e;obtain⟨x,ex⟩:=KY Z;obtain⟨h',S'⟩:=J.chg ex (y:=c t) (W:=df (λb=>Ow own b/\b∉[l]) Y d) (λb u hb e=>by
    by_cases z:Ow own b
    .rw[vG ⟨z,λy=>hb (by rwa[P])⟩];exact e
    .exact B (cQ (T b u ((cR z).trans e))).2) (by
    rw[Q,P];refine V _ ys t (B ey) (ry.same λb u e=>?_);obtain⟨n1,e⟩:=cQ e;rw[cR λz=>by rw[R b ⟨z,n1⟩]at e;cases e];exact B e)
   exact L.nx own _ G _ n ((bU m).trans S') h'
def K0(i j:Nat)(S:SO)(r:RA):RS:=λE o=>g7 (slot o i) λts c=>g7 (slot o j) λa d=>r o λas=>S [ts,a] as λb=>match b with|[t,u]=>E.nx ((o.set i (c t)).set j (d u))|_=>False
def Lf(i j:Nat){y z:Str}(g:OkF X.prog X.w X.K X.mg X.base k x ps (f_ X.K S))(v:dX k X.A)(hg:Gl X x)(ha:QA X Z r)(j':i≠j:=by decide)(hN:n_X X i y:=by exact⟨rfl,rfl,vk,vk⟩)(hN2:n_X X j z:=by exact⟨rfl,rfl,vk,vk⟩)(bE:zz x:=by decide)
 (he:starEach (.Name y p1::.Name z p2::Z) X.env=(false,eval (.Name y p1) X.env)::starEach (.Name z p2::Z) X.env:=by rfl)(p9:starEach (.Name z p2::Z) X.env=(false,eval (.Name z p2) X.env)::starEach Z X.env:=by rfl)(aE:(backTo af (starEach (.Name z p2::Z) X.env)).any (·.1)=false:=by rfl)(hs:swapsWith (.Call (.Name x p) (.Name y p1::.Name z p2::Z) [] af) none O.line X.env=pure false:=by rfl):QS X (.Expr (.Call (.Name x p) (.Name y p1::.Name z p2::Z) [] af) O) (K0 i j S r):=by
 obtain⟨f,fd,F,b,hm,kp⟩:=g;refine(oK (mU (sp:=g4 (f_ X.K S)) ⟨f,fd,F.hid,b,hm,kp⟩ v hg (cF (pv i hN) (cF (pv j hN2) ha p9) he) bE he aE) hs).imp λD G H hP=>?_;obtain⟨own,o,E,h,v,L⟩:=hP;obtain⟨ts,c,v,Z⟩:=G3 v;obtain⟨us,d,v,Q⟩:=G3 v;obtain⟨l,I,e1,e2,e3,r0,sl⟩:=h.l1 Z;obtain⟨m,zs,f1,f2,f3,s0,V⟩:=h.l1 Q;have lm:l≠m:=λz=>j' (h.dis i j l (by rw[e2];simp) (by rw[f2,z];simp));refine⟨_,e1,_,f1,tQA.mk h v λY vs as q _ C r1=>?_⟩;have h1:=h.same C;obtain⟨hid,ee⟩:=E9 h1 (as:=[l,m]) λa ha=>by
  rcases YU.mp ha with z|z
  .exact⟨i,by rwa[z]⟩
  .exact⟨j,by rwa[YR.mp z]⟩
 have nl:¬(Ow own l/\l∉[l,m]):=λz=>z.2 vy;have nm:¬(Ow own m/\m∉[l,m]):=λz=>z.2 vy;refine⟨_,hid,[l,m],[ts,us],vs,as,_,rfl,by simp[lm],⟨rfl,λj a t B P=>?_⟩,by rw[ee];exact r1,q,λg bt rx EE U bg=>?_⟩
 .match j,B,P with
  |0,B,P=>cases B;cases P;exact⟨I,(cR nl).trans (C _ _ e3),by rw[ee];exact r0.same (bU C)⟩
  |1,B,P=>cases B;cases P;exact⟨zs,(cR nm).trans (C _ _ f3),by rw[ee];exact s0.same (bU C)⟩
  |j+2,B,_=>cases B
 .match bt,rx,U with
  |[t,u],rx,U =>
   obtain⟨ys,ey,ry⟩:=U.2 0 l t rfl rfl;obtain⟨ws,ew,nV⟩:=U.2 1 m u rfl rfl;rw[ee]at EE;have R:∀{b:Addr}{u:HO},g b=some u->df (λb=>Ow own b/\b∉[l,m]) Y g b=some u:=λ{b u}e=>(jQ λz=>by rw[bg b z]at e;cases e).trans e;generalize hM:df (λb=>Ow own b/\b∉[l,m]) Y g=M at R;have J:∀b u,b≠l->b≠m->Y b=some u->M b=some u:=λb u T n2 e=>by
    by_cases z:Ow own b
    .rw[<- hM,vG ⟨z,by simp[T,n2]⟩];exact e
    .exact R (cQ (EE b u ((cR z).trans e))).2
   have s:∀(M':Hp),(∀b,b≠m->M' b=M b)->zT (hd (· ∈ [l,m]) g) (hd (Ow own) M'):=λM' hM' b u e=>by
    obtain⟨T,e⟩:=cQ e;rw[cR (λz=>by rw[bg b ⟨z,T⟩]at e;cases e),hM' b λz=>T (by simp[z])];exact R e
   obtain⟨x,ex⟩:=KY Z;obtain⟨x2,ex2⟩:=KY Q;obtain⟨h2,S2⟩:=h1.chg ex (y:=c t) (W:=upd M m (.lst zs)) (λb u hb e=>by
    by_cases z:b=m
    .rw[z,cj];rw[z,C _ _ f3]at e;exact e
    .rw[bY z];exact J b u (λy=>hb (by rw[e2,y];simp)) z e) (by
    rw[e1,e2];exact sl _ ys t ((bY lm).trans (R ey)) (ry.same (s _ λb n=>bY n)))
   obtain⟨h3,S3⟩:=h2.chg (show(o.set i (c t))[j]?=some x2 by rwa[VS j']) (y:=d u) (W:=M) (λb w hb e=>by rw[bY λz=>hb (by rw[f2,z];simp)]at e;exact e) (by
    rw[f1,f2];exact V _ ws u (R ew) (nV.same (s _ λ_ _=>rfl)))
   exact L.nx own _ G _ rx ((bU C).trans (S2.trans S3)) h3
def La(g:zn)(c:RT)(e:RE)(o:xf):xk->(vz->Prop)->Prop
 |[],q=>q []
 |t::ts,q=>∃(N:xk->Prop)(M:Prop),(∀y,N y->La g c e o ts λa=>q (y::a))/\(M->La g c e o ts q)/\g t o λd=>c d λb=>sw b (e d λy=>match y with|.l1 a=>N a|_=>False) M
def oD(b:RI)(n:Nat)(g:zn)(c:RT)(e:RE):RE:=λo q=>b o λI=>I.length<=sizeLine/\La g c e (replicate n .und++o) I λa=>q (.l2 a)
noncomputable def ownL2(n L:Nat)(own:Nat->Ψ)(A:Ψ):Nat->Ψ:=λi=>if i<n then[]else if i<n+L then own (i-n)else if i=n+L then A else own (i-n-1)
def Ow.ownL2{n L:Nat}{own:Nat->Ψ}{A:Ψ}{b:Addr} : Ow (ownL2 n L own A) b↔Ow own b\/b∈A:=by
 constructor
 .rintro⟨i,z⟩;unfold L2.ownL2 at z;by_cases d:i<n
  .rw[ZY d]at z;cases z
  rw[ZZ d]at z;by_cases c:i<n+L
  .rw[ZY c]at z;exact .inl ⟨_,z⟩
  rw[ZZ c]at z;by_cases a:i=n+L
  .rw[ZY a]at z;exact .inr z
  .rw[ZZ a]at z;exact .inl ⟨_,z⟩
 .rintro(⟨i,z⟩|z)
  .by_cases h:i<L
   .exact⟨n+i,by unfold L2.ownL2;rw[ZZ (TZ (X1 _ _)),ZY (Nat.add_lt_add_left h _),show n+i-n=i by exact TK _ _];exact z⟩
   .exact⟨n+i+1,by unfold L2.ownL2;rw[ZZ vw,ZZ vw,ZZ vw,show n+i+1-n-1=i by lia];exact z⟩
  .exact⟨n+L,by unfold L2.ownL2;rw[ZZ (TZ (X1 _ _)),ZZ (X2 _),ZY rfl];exact z⟩
def SR.blockL(h:SR K own H G o){A:Ψ}(E:zT H W)(r:∀a∈A,H a=none)(v:∀a∈A,∃ys,W a=some (.lst ys))(c:L2.St):SR K (ownL2 c.length o.length own A) W (c++G) (replicate c.length .und++o):=by
 have le:zT (hd (Ow own) H) (hd (Ow (ownL2 c.length o.length own A)) W):=h_ (λb z=>(Ow.ownL2.mp z).imp id (r b)) E;have n:∀j,∀a∈A,a∉own j:=λj a g z=>(h.sole ⟨j,z⟩).ne (r a g);refine⟨by simp[h.len],λi x e=>?_,λi hi a g=>?_,λi j a f d=>?_⟩
 .by_cases m:i<c.length
  .rw[aF (by simpa using m),XG,ZY m]at e;cases e;show ownL2 _ _ _ _ i=[];unfold ownL2;rw[ZY m]
  .rw[aD (by simpa using m),aN]at e;have w:i-c.length<o.length:=(ao.mp e).1;rw[aD (Nat.not_lt.mp m)];have:ownL2 c.length o.length own A i=own (i-c.length):=by unfold ownL2;rw[ZZ m,ZY (by omega)]
   rw[this];exact(h.sl _ x e).same le E
 .rw[aA,aN]at hi;unfold ownL2 at g;rw[ZZ vw,ZZ (TZ hi)]at g;by_cases s:i=c.length+o.length
  .rw[ZY s]at g;exact v a g
  .rw[ZZ s]at g;obtain⟨I,e⟩:=h.out _ vw a g;exact⟨I,E _ _ e⟩
 .unfold ownL2 at f d;by_cases u:i<c.length
  .rw[ZY u]at f;cases f
  by_cases t:j<c.length
  .rw[ZY t]at d;cases d
  rw[ZZ u]at f;rw[ZZ t]at d;by_cases q:i<c.length+o.length<;>by_cases p:j<c.length+o.length
  .rw[ZY q]at f;rw[ZY p]at d;have:=h.dis _ _ a f d;omega
  .rw[ZY q]at f;rw[ZZ p]at d;by_cases k:j=c.length+o.length
   .rw[ZY k]at d;exact absurd f (n _ a d)
   .rw[ZZ k]at d;have:=h.dis _ _ a f d;omega
  .rw[ZZ q]at f;rw[ZY p]at d;by_cases l:i=c.length+o.length
   .rw[ZY l]at f;exact absurd d (n _ a f)
   .rw[ZZ l]at f;have:=h.dis _ _ a f d;lia
  .rw[ZZ q]at f;rw[ZZ p]at d;by_cases l:i=c.length+o.length<;>by_cases k:j=c.length+o.length
   .exact Eq.trans l (Eq.symm k)
   .rw[ZY l]at f;rw[ZZ k]at d;exact absurd d (n _ a f)
   .rw[ZZ l]at f;rw[ZY k]at d;exact absurd f (n _ a d)
   .rw[ZZ l]at f;rw[ZZ k]at d;have:=h.dis _ _ a f d;lia
def abF{J:It}{I:xk}(h1:SR K own Y G o)(wk:hF K J (hd (Ow own) Y) I)(lx:I.length<=sizeLine)(q:La g rc re (replicate n .und++o) I λC=>R (.l2 C))(nD:Y D=none)(k:∀W v x,R x->zT Y W->NR K (Ow own) Y W v x->Q v W) :
  ∃d:Nat->Nat->Ζ->Hp->Prop,(∃m,d 0 m [] (upd Y D (.lst [])))/\∀i m ys h,d i m ys h ->
   (J.stop i h/\Q (.ref D) h)\/(J.go i h/\∀x W,J.yld i h x W->∀l:L2.St,l.length=n->gw (f6 K n g) x (l++G) W λA H2=>∃b9:L2.St,b9.length=n/\A=b9++G/\gm (tQT K rc) A H2 λb T =>
    match b with
    |true=>tM (tQ K re) A T λy H4=>ys.length<sizeLine/\H4 D=some (.lst ys)/\∃Z,Z<m/\d (i+1) Z (ys++[y]) (upd H4 D (.lst (ys++[y])))
    |false=>∃Z,Z<m/\d (i+1) Z ys T):=by
 generalize hO:replicate n OT.und++o=ob at q;refine⟨λi m ys h=>∃(f:Ψ)(w:vz),ys=f.map V.ref/\h D=some (.lst ys)/\zT Y h/\(D::f).Nodup/\(∀b∈f,Y b=none)/\f.length=w.length/\(∀(i:Nat)b ts,f[i]?=some b->w[i]?=some ts->∃I,h b=some (.lst I)/\bW K (hd (λb=>Ow own b\/b∈D::f) h) I ts)/\ys.length<=i/\i<=I.length/\m=I.length-i/\La g rc re ob (I.drop i) λC=>R (.l2 (w++C)),⟨_,[],[],rfl,cj,zT.upd nD,by simp,λ_ z=>(nomatch z),rfl,(λi b ts e=>by cases e),aG _,aZ _,rfl,q⟩,?_⟩;rintro i m ys h ⟨f,w,rfl,eD,L,nd,nb,bl,X,il,ix,rfl,t⟩;have nA:∀a∈D::f,Y a=none:=λa F=>by
  rcases YU.mp F with z|z
  .rw[z];exact nD
  .exact nb a z
 have eA:∀a∈D::f,∃ys,h a=some (.lst ys):=λa F=>by
  rcases YU.mp F with z|z
  .exact⟨_,z ▸ eD⟩
  .obtain⟨j,e⟩:=aV z;have lj:=(ao.mp e).1;obtain⟨P,r,_⟩:=X j a _ e (aj (aR lj (WG bl)));exact⟨P,r⟩
 have hn:∀b,Ow own b\/b∈D::f->h b≠none:=λb z=>z.elim (λz=>((h1.same L).sole z).ne) λe z=>by obtain⟨ys,ey⟩:=eA b e;rw[ey]at z;cases z
 have SD:zT (hd (Ow own) Y) (hd (λb=>Ow own b\/b∈D::f) h):=h_ (λb z=>z.imp id (nA b)) L;obtain⟨w1,w2⟩:=wk (λb=>Ow own b\/b∈D::f) h i hn SD;by_cases hi:i<I.length
 .right;obtain⟨go,yl⟩:=w2 _ (aj hi);rw[QQ hi]at t;obtain⟨N,M,hN,hM,t⟩:=t;refine⟨go,λx H2 y l hp=>?_⟩;obtain⟨O,rx⟩:=yl x H2 y;have eO:(λb=>Ow own b\/b∈D::f)=Ow (ownL2 n o.length own (D::f)):=funext λb=>propext Ow.ownL2.symm;have hb:SR K (ownL2 n o.length own (D::f)) H2 (l++G) ob:=by
   have:=h1.blockL (L.trans O) nA (λa F=>let⟨ys,e⟩:=eA a F;⟨ys,O _ _ e⟩) l;rw[hp,hO]at this;exact this
  rw[eO]at rx X;refine⟨_,⟨ownL2 n o.length own (D::f),ob,_,_,hb,rx,t,λgh σ3 o3 q3 jv h3=>?_⟩,λ_ _ z=>z⟩;obtain⟨b9,eM,rfl⟩:=Wb hp jv;have e3:gh=ownL2 n o.length own (D::f):=funext λj=>by
   rcases jv.1 j with e|⟨s,r⟩
   .exact e
   .rw[r];unfold ownL2;rw[ZY s]
  subst e3;refine⟨b9,eM,rfl,_,tQT.mk h3 q3 λT b q4 U=>?_,λ_ _ z=>z⟩;have q4:sw b (re o3 λy=>match y with|.l1 C=>N C|_=>False) M:=q4;cases b with
  |false=>exact⟨I.length-(i+1),by lia,f,w,rfl,U _ _ (O _ _ eD),L.trans (O.trans U),nd,nb,bl,λj b ts s r=>by
    obtain⟨P,ez,rz⟩:=X j b ts s r;rw[eO];exact⟨P,U _ _ (O _ _ ez),rz.same (bU (O.trans U))⟩,by exact aL il (X1 _ _),by exact hi,rfl,hM q4⟩
  |true =>
   refine⟨_,⟨_,_,_,h3.same U,q4,λH4 v y q5 E4 r4=>?_⟩,λ_ _ z=>z⟩
   match y,q5,r4 with
   |.l1 C,q5,r4 =>
    obtain⟨B,nB,p,P,ev,rfl,ep,rp⟩:=r4;cases ev;have np:T p=none:=nB p vy;have pn:∀{a:Addr}{u:HO},T a=some u->a≠p:=λe z=>by rw[z,np]at e;cases e
    have E:zT h T:=O.trans U;have pD:D≠p:=pn (E _ _ eD);have pb:p∉f:=λz=>by
     obtain⟨ys,ey⟩:=eA p (aJ _ z);exact pn (E _ _ ey) rfl
    have cN:∀(H:Hp)(u:HO),hd (λb=>Ow own b\/b∈D::(f++[p])) (upd H D u)=hd (λb=>Ow own b\/b∈D::(f++[p])) H:=λH u=>zM (S:=λb=>Ow own b\/b∈D::(f++[p])) (.inr vy);refine⟨by lia,E4 _ _ (E _ _ eD),I.length-(i+1),by lia,f++[p],w++[C],by rw[bf];rfl,cj,λb u e=>?_,?_,λb hb=>?_,by simp[bl],λj b ts s r=>?_,by rw[aA,length_singleton];exact succ_le_succ il,by exact hi,rfl,?_⟩
    .rw[bY λz=>by rw[z,nD]at e;cases e];exact E4 _ _ (E _ _ (L _ _ e))
    .rw[<- cons_append];exact List.nodup_append.mpr ⟨nd,by simp,λa F c hc z=>by
      rw[YR.mp hc]at z;rcases YU.mp F with y|y
      .exact pD (y.symm.trans z)
      .exact pb (z ▸ y)⟩
    .rcases Y1.mp hb with z|z
     .exact nb b z
     .rw[YR.mp z];exact(L.trans E).free np
    .rw[cN];by_cases hj:j<f.length
     .rw[aF hj]at s;rw[aF (aR hj (WG bl))]at r;obtain⟨P,ez,rz⟩:=X j b ts s r;have bD:b≠D:=λz=>(List.nodup_cons.mp nd).1 (z ▸ aC s);refine⟨P,by rw[bY bD];exact E4 _ _ (E _ _ ez),rz.same ?_⟩;rw[<- eO];exact h_ (λc z=>by
       rcases z with z|z
       .exact .inl (.inl z)
       .rw[<- cons_append]at z;rcases Y1.mp z with y|y
        .exact .inl (.inr y)
        .rw[YR.mp y];exact .inr (E.free np)) (E.trans E4)
     .rw[aD (VW hj)]at s;rw[aD vw]at r;have j0:j-f.length=0:=by
       have:=(ao.mp s).1;simp at this;omega
      rw[j0]at s;rw[show j-w.length=0 by lia]at r;cases s;cases r;refine⟨_,by rw[bY (Ne.symm pD)];exact ep,rp.same (h_ (λc z=>.inl ?_) λ_ _ z=>z)⟩;rcases z with z|z
      .exact .inl (Ow.ownL2.mpr (.inl z))
      .rw[<- cons_append]at z;rcases Y1.mp z with y|y
       .exact .inl (Ow.ownL2.mpr (.inr y))
       .exact .inr y
    .have:=hN _ q5;simp only[Wp,List.singleton_append];exact this
 .left;have:i=I.length:=by lia
  refine⟨w1 this,?_⟩;rw[Tk (VW hi)]at t;have t:R (.l2 (w++[])):=t;rw[append_nil]at t;exact k h _ _ t L ⟨D::f,nA,D,f,rfl,rfl,nd,eD,bl,X⟩
def Gz(h:tQ K (oD ri n g rc re) G H Q):tU (iH K ri) n (gw (f6 K n g)) (gm (tQT K rc)) (tM (tQ K re)) G H Q:=by
 obtain⟨own,o,R,h,e,k⟩:=h;exact⟨own,o,_,h,e,λY J I q a b D d=>abF (h.same a) b q.1 q.2 d λW v x c E n=>k W v x c (a.trans E) (n.back a)⟩
def adn:=@zj X tg iter be aI ri g rc re J O oD Gz
def _D{a f:Pos}:=@zq X tg iter be aI ri g rc re J O i0 y0 a f (λi r n g c e=>nS i (oD r n g c e)) λ{_ i0 _ _ _ _ _ _ _ _}⟨own,o,E,h,b,L⟩=>Gz ⟨own,o,_,h,b,λW v y q S n=>by
 obtain⟨j,d,k⟩:=h.putA S n i0;exact L.nx j W _ _ q k d⟩
theorem PN{α:Type}(h:α->T)(f:α->xk){c:RT}{e:RE}{o:xf} : ∀(l:List α){q:vz->Prop},(∀a∈l,∀(N:xk->Prop)(M:Prop),N (f a)->g (h a) o λd=>c d λb=>sw b (e d λy=>match y with|.l1 i=>N i|_=>False) M)->q (l.map f)->La g c e o (l.map h) q
 |[],_,_,k=>k
 |a::l,q,st,k=>⟨λy=>y=f a,False,λy z=>PN h f l (λa j=>st a (aJ _ j)) (z ▸ k),False.elim,st a (aO ..) (λy=>y=f a) False rfl⟩
def WW{e:RE}{q:vz->Prop}(f:Nat->xk)(n:Nat)(st:∀k,k<n->∀(N:xk->Prop)(M:Prop),N (f k)->g (.int (k:Nat)) o λd=>c d λb=>sw b (e d λy=>match y with|.l1 h=>N h|_=>False) M)(k:q ((range n).map f)):La g c e o (rng 0 n) q:=by
 refine PN (λk:Nat=>.int (0+k)) f (range n) (λa i N M j=>?_) k;have:=st a (List.mem_range.mp i) N M j;show g (.int (0+((a:Nat):Int))) o _;rw[show(0:Int)+((a:Nat):Int)=((a:Nat):Int)by exact Int.zero_add _];exact this
abbrev J3(f:Β):PyData:=.tuple [.int f.1,.int f.2]
abbrev kA(f:Β):T:=.tup [.int f.1,.int f.2]
def YK(K:Frag):V->Ζ->Hp->VK->Prop:=λx c H Q=>∃(l:Addr)(b:V)(I:Ζ)(a:Γ)(f:Β)(j:Nat),x=.ref l/\c=[b]/\H l=some (.lst I)/\I.length=a.length/\(∀(i:Nat)x g,I[i]?=some x->a[i]?=some g->iJ K H x (J3 g))/\iJ K H b (J3 f)/\I.length<=sizeLine/\a[j]?=some f/\(∀i g,i<j->a[i]?=some g->g≠f)/\Q (.int (j:Nat)) H
open Classical in
def n6(h:Heap)(f:Β)(v:Value):Bool:=decide (∃as,Reads h v (J3 f) as)
open Classical in
def RD{h:Heap}{v:Value}{g f:Β}(r:Reads h v (J3 g) as):n6 h f v=(decide (g.1=f.1)&&decide (g.2=f.2)):=by
 unfold n6;by_cases e:g=f
 .subst e;rw[Zs ⟨as,r⟩,Zs rfl,Zs rfl];rfl
 .have i:¬∃as,Reads h v (J3 f) as:=λ⟨j,z⟩=>e (by
   have:=SeqAt.Reads.unique _ _ _ _ _ rfl r z;injection this with this;injection this with b a;injection a with a;injection b with b;injection a with a;exact Prod.ext b a)
  rw[Zp i];by_cases d:g.1=f.1
  .by_cases c:g.2=f.2
   .exact absurd (Prod.ext d c) e
   .rw[Zp c,Bool.and_false]
  .rw[Zp d,Bool.false_and]
def acd(hu:X.A.units+64<cLine):l_ X "list.index" (YK X.K):=by
 intro U s G H x vs v us Q a M N h;obtain⟨l,b,I,w,f,j,rfl,rfl,W,lf,Z,Y,S,J,O,q⟩:=h;cases M;obtain⟨u,rfl,p⟩:=N.one;obtain⟨bs,rb⟩:=a.readsK Y p;obtain⟨z,c,n,r,k4,e⟩:=a.lstM W;have lr:=r.length;have t:∀(i:Nat)(hi:i<c.toArray.size),∃g as,w[i]?=some g/\Reads s.heap c.toArray[i] (J3 g) as:=λi hi=>by
  rw[aX]at hi;have E:I[i]?=some (I[i]' vw):=aj _;have L:w[i]?=some (w[i]' vw):=aj _;obtain⟨u,eu,p⟩:=r.get E;obtain⟨as,ra⟩:=a.readsK (Z i _ _ E L) p;refine⟨_,as,L,?_⟩;rwa[List.getElem_toArray,(ao.mp eu).2]
 have lj:=(ao.mp J).1;have B:j<c.toArray.size:=by rw[aX];lia
 rw[sizeLine_eq]at S;refine call_meets F.slot_list_index ⟨_,e,rfl⟩ F.entry_list_index (F.args_list_index_2 _ _) (SeqAt.list_indexAt l c.toArray n _ _ _ (n6 s.heap f) j B vw ?_ λm V R=>?_) ⟨e,λy T=>?_,⟨.int _,H,a.tok _,⟨_,rfl⟩,q⟩⟩
 .obtain⟨g,as,o,k⟩:=t j B;rw[J]at o;cases o;rw[RD k,Zs rfl,Zs rfl];rfl
 .obtain⟨g,as,o,k⟩:=t m V;have P:=O m g R o;rw[RD k];by_cases D:g.1=f.1
  .by_cases C:g.2=f.2
   .exact absurd (Prod.ext D C) P
   .rw[Zp C,Bool.and_false]
  .rw[Zp D,Bool.false_and]
 .obtain⟨i,hi,ei⟩:=Array.getElem_of_mem T;obtain⟨g,as,o,k⟩:=t i hi;rw[<- ei,RD k,<- oC];exact SeqAt.eqAt_reads _ _ _ _ _ _ _ _ k rb rfl rfl (by
   have d:(J3 g).depth<=3:=US rfl;have m:=min_le_left (J3 g).depth (J3 f).depth;show X.A.units+1+min (J3 g).depth (J3 f).depth<cLine;lia)
def ME(a:RE)(r:RA):RE:=λo q=>a o λx=>match frz x with
 |.lst ts=>r o λc=>∃(b:Γ)(f:Β)(j:Nat),ts=b.map kA/\c=[kA f]/\b.length<=sizeLine/\b[j]?=some f/\(∀i g,i<j->b[i]?=some g->g≠f)/\q (.fz (.int (j:Nat)))
 |_=>False
def P6{o:Expr}(C:X.A.units+64<cLine)(K:QE X o ra)(O:QA X [e] r)(N:attributeBase o "index" X.env (eval o X.env)=eval o X.env:=by rfl)
 (M:zg X af e:=by rfl)
 (L:zC ah af:=by rfl)(D:zw X e []:=by rfl)(J:zb X af []:=by rfl) :
  QE X (.Call (.Attribute o "index" ah) [e] [] af) (ME ra r):=by
 refine(om PySem.F.plainAttrs_list PySem.F.slot_list_index PySem.F.type_list_index (acd C) K.mono O.mono N M L D J).imp λG H Q P=>?_;obtain⟨own,o,R,h,E,k⟩:=P;refine⟨_,tQ.mk h E λY v x q s d=>?_,λ_ _ z=>z⟩;cases a:frz x with
 |lst ts =>
  rw[a]at q d;obtain⟨p,I,rfl,e,b⟩:=d.lstI;refine⟨.inl ⟨rfl,_,SqL.of (cL _ _ e)⟩,_,tQA.mk (h.same s) q λn V W q2 _ c w=>?_,λ_ _ z=>z⟩;obtain⟨l,f,j,rfl,rfl,lf,S,B,q3⟩:=q2;obtain⟨y,rfl,t⟩:=w.one;have U:zT (hd (Ow own) Y) n:=(bU c).trans cL;refine⟨p,y,I,l,f,j,rfl,rfl,c _ _ (cL _ _ e),by rw[b.len,ak],λi x g a T=>?_,(t.shows _ rfl rfl).same cL,by rw[b.len,ak];exact lf,S,B,k n _ _ q3 (s.trans c) (NR.fz (.int _))⟩;obtain⟨v,m,u⟩:=b.at_ (show(l.map kA)[i]?=some (kA g)by rw[aq,T];rfl);rw[a]at m;cases m;exact(u.shows _ rfl rfl).same U
 |_=>rw[a]at q;exact q.elim
theorem bW.strs{K:Frag}{F:Hp} : ∀{I:Ζ}{ys:Φ},bW K F I (ys.map T.str)->I=ys.map V.str
 |_,[],h=>by cases h;rfl
 |_,y::ys,h=>by
  cases h with
  |cons a b =>
   cases a;rw[bW.strs b];rfl
def IN(a:RE)(r:RA):RE:=λo q=>a o λx=>match frz x with
 |.str s=>r o λb=>∃ys:Φ,b=[.lst (ys.map T.str)]/\(ys.map (·.length)).sum+ys.length*s.length<=16777216/\q (.fz (.str (Txt.join s ys)))
 |_=>False
def afV{o:Expr}(n:QE X o ra)(z:QA X [e] r)(w:attributeBase o "join" X.env (eval o X.env)=eval o X.env:=by rfl)
 (u:zg X af e:=by rfl)
 (t:zC ah af:=by rfl)(j:zw X e []:=by rfl)(m:zb X af []:=by rfl) :
  QE X (.Call (.Attribute o "join" ah) [e] [] af) (IN ra r):=by
 refine(ND PySem.F.slot_str_join PySem.F.type_str_join _Z n z w u t j m).imp λG H Q A=>?_;obtain⟨own,o,R,h,l,k⟩:=A;refine tQ.mk h l λY v x q c a=>?_;cases b:frz x with
 |str s =>
  rw[b]at q a;cases a;refine⟨⟨s,rfl⟩,tQA.mk (h.same c) q λB D E q2 _ C g=>?_⟩;obtain⟨ys,rfl,i,q3⟩:=q2;obtain⟨y,rfl,d⟩:=g.one;obtain⟨p,I,rfl,e,f⟩:=d.lstI;exact⟨s,p,ys,rfl,rfl,f.strs ▸ (cQ e).2,i,k B _ _ q3 (c.trans C) (NR.fz (.str _))⟩
 |_=>rw[b]at q;exact q.elim
def notStar:Expr->Bool
 |.Starred ..=>false
 |_=>true
def Sl{env:Env}(h:notStar e):starEach (e::Z) env=(false,eval e env)::starEach Z env:=by
 cases e<;>first|rfl|cases h
structure eg(X:Cx)(e:Expr)(r:RE):Prop where
 out:QE X e r
structure ke(X:Cx)(Z:xw)(r:RA):Prop where
 out:QA X Z r
def CV{r:RE}(h:QE X e r):eg X e r:=⟨h⟩
def lD{i j O} : eg X (.Constant (.int i) j O) (rC (.int i)):=⟨bF⟩
def OZ(i:Nat)(b:n_X X i x:=by exact⟨rfl,rfl,vk,vk⟩):eg X (.Name x O) (gk i):=⟨qv i b⟩
def Zr{op:Operator}{g:zi}(c:GO X (binaryOp op) g)(e:eg X a ra)(d:eg X b rb):eg X (.BinOp a op b O) (fi g ra rb):=⟨bM c e.out d.out⟩
def lE:ke X [] ni:=⟨bC⟩
def cX{a:RE}(d:eg X e a)(b:ke X Z r)(c:notStar e:=by rfl):ke X (e::Z) (DA a r):=⟨bA d.out b.out (Sl c)⟩
def qm(h:ke X Z r)(a:Z.length<=sizeLine:=by decide):eg X (.Tuple Z k O) (C3 r):=⟨d9 h.out a⟩
def Ul(h:ke X Z r)(a:Z.length<=sizeLine:=by decide):eg X (.List Z O) (BF r):=⟨dg h.out a⟩
def Pl:zi
 |.int i,.int j,q=>afX i j/\q (.fz (.int (i*j)))
 |_,_,_=>False
def _r:GO X (binaryOp .Mult) Pl:=UC.imp λx y H Q d=>by
 obtain⟨S,t,u,R,_,c,b,a,k⟩:=d;cases c<;>try exact a.elim
 cases b<;>try exact a.elim
 exact⟨_,_,rfl,rfl,a.1,k H _ _ a.2 (.refl _) (NR.fz (.int _))⟩
def MY(n:Nat)(gs:ze):zn
 |.lst ts,o,q=>ts.length=n/\gs ts o q
 |_,_,_=>False
def Sr{m:Nat}(hc:X.calm)(h:kb X m Z gs)(c:(assignEach Z X.env).length=n:=by rfl)(f:zD X Z:=by rfl):QG X m (.Tuple Z k O) (MY n gs):=(_S hc h c f).imp λv G H Q d=>by
 obtain⟨own,o,t,R,h,r,b,k⟩:=d;cases t<;>try exact b.elim
 obtain⟨a,I,rfl,e,r⟩:=r.lstI;exact⟨a,I,rfl,SqL.of (cL _ _ e),r.len.trans b.1,own,o,_,R,h,r,b.2,k⟩
variable{x a y b c e f d:RS}
def IF(J:xf->Prop)(k:∀b,J b->y E b)(h:∀Y:xf->Prop,(∀b,J b->Y b)->kY a (kY x (λ_=>Y)) E o):kY a (kY x y) E o:=h (y E) k
def qf(J:xf->Prop)(k:∀d,J d->y E d)(h:∀Y:xf->Prop,(∀d,J d->Y d)->kY a (kY b (kY c (kY x (λ_=>Y)))) E o):kY a (kY b (kY c (kY x y))) E o:=h (y E) k
def p'(J:xf->Prop)(k:∀g,J g->y E g)(h:∀Y:xf->Prop,(∀g,J g->Y g)->kY a (kY b (kY c (kY d (kY e (kY f (kY x (λ_=>Y))))))) E o):kY a (kY b (kY c (kY d (kY e (kY f (kY x y)))))) E o:=h (y E) k
abbrev XC:=Addr->Φ->xk->Prop
abbrev SX:=xk->(OT->Prop)->XC->Prop
def iO(K:Frag)(S:SX):Sp:=λc H Q E=>∃ts R Z,bW K H c ts/\S ts R Z/\(∀W v x,R x->zT H W->NR K (λ_=>False) H W v x->Q v W) /\
 ∀W C d ks a b,Z C ks b->zT H W->W d=some (.xd (ks.zip a))->bW K W a b->E (.ref C) (some d) W
abbrev n7(P:Program)(w:World)(K:Frag)(mg:Str->Ω)(base:Heap)(k:Nat)(x:Str)(ps:Φ)(S:SX):Prop:=l9 P w K mg base k x ps (iO K S)
variable{x:Str}{f:Addr}{S:SX}{e a:Expr}{h8:Φ}
def Fun.okTX{D:Str}{N:Φ}(F:Fun K x D st f fd)(L:bL N ps (bH st))
 {r}(bo:∀{m:Value}{A:Around}{g:xC}{s:Shared}{H:Hp}{E:XK},dX k (A.deeper (envOfC D (bH st) s.zs f m))->N.Nodup ->ef (FZ (el P w) P w K mg base N D (bH st) f m A g s H E) (fL st) r)(b2:∀ts R Z,S ts R Z->r { nx:=λ_=>R (.fz .non),rt:=R,xc:=Z } (start' N.length ts))(p:∀ts R Z,S ts R Z->ts.length=ps.length:=by intro _ _ _ h;repeat (first|exact(ZH List.length h.1).trans rfl|obtain⟨_,h⟩:=h)):fD P w K mg base (el P w) (k+1) f fd ps (iO K S):=by
 refine F.okX L (λT H Q E h=>?_) λm A g s H T Q E hr h=>?_
 .obtain⟨ts,R,Z,r,u,_⟩:=h;exact r.len.trans (p ts R Z u)
 .obtain⟨ts,R,Z,r,u,q,qx⟩:=h;have h1:=@bo m A g s H E hr L.nd;have h2:=b2;have y:hd (Ow λ_=>[]) H=H:=by rw[show Ow (λ_=>[])=λ_=>False from funext λb=>propext ⟨λhP=>by obtain⟨_,z⟩:=hP;exact(nomatch z),False.elim⟩,JC]
  have j:∀(S:Addr->Prop)W v x B,R x->zT H (hd S W)->Slo K (hd S W) W (some v) B x->(∀a∈B,S a)->Q v W:=λO W v x B i E s l =>
   q W v x i (E.trans cL) ⟨B,λa t=>E.free (p7 (l a t)),s.same (h_ (λb z=>.inl (z.elim False.elim (l b))) λ_ _ z=>z) λ_ _ z=>z⟩
  refine⟨_,h1,λ_=>[],_,_,SR.start r N,h2 ts R Z u,⟨λown W G o i E h=>?_,λO W v x B i E s l=>j O W v x B i (y ▸ E) s l,λ_ _ _ _ z=>z.elim,λ_ _ _ _ z=>z.elim,λW C d ks V dq z E e Y=>?_⟩⟩
  .exact j (Ow own) W .non _ [] i (y ▸ E) ⟨rfl,_,rfl,.non⟩ λ_ z=>(nomatch z)
  .have M:=qx W C d ks V dq z (y ▸ E) e Y;exact⟨λU G J n a X B I F2=>D1 U G J n a _ W X B _ I F2 M,λU G J n a c ec I t ge eo=>F9 U G J n a c _ I t ge (by rw[eo,<- ec];exact M)⟩
def Fun.okUX{D:Str}{N:Φ}(F:Fun K x D st f fd)(L:bL N ps (bH st))
 (bo:∀(m:Value)(A:Around)(g:xC)(s:Shared)(H:Hp)(E:XK),dX k (A.deeper (envOfC D (bH st) s.zs f m))->N.Nodup ->
   ∃r,ef (FZ (el P w) P w K mg base N D (bH st) f m A g s H E) (fL st) r/\∀ts R Z,S ts R Z->r { nx:=λ_=>R (.fz .non),rt:=R,xc:=Z } (start' N.length ts))(p:∀ts R Z,S ts R Z->ts.length=ps.length:=by intro _ _ _ h;repeat (first|exact(ZH List.length h.1).trans rfl|obtain⟨_,h⟩:=h)):fD P w K mg base (el P w) (k+1) f fd ps (iO K S):=by
 refine F.okX L (λT H Q E h=>?_) λm A g s H T Q E hr h=>?_
 .obtain⟨ts,R,Z,r,u,_⟩:=h;exact r.len.trans (p ts R Z u)
 .obtain⟨ts,R,Z,r,u,q,qx⟩:=h;obtain⟨rd,h1,h2⟩:=bo m A g s H E hr L.nd;have y:hd (Ow λ_=>[]) H=H:=by rw[show Ow (λ_=>[])=λ_=>False from funext λb=>propext ⟨λhP=>by obtain⟨_,z⟩:=hP;exact(nomatch z),False.elim⟩,JC]
  have j:∀(S:Addr->Prop)W v x B,R x->zT H (hd S W)->Slo K (hd S W) W (some v) B x->(∀a∈B,S a)->Q v W:=λO W v x B i E s l =>
   q W v x i (E.trans cL) ⟨B,λa t=>E.free (p7 (l a t)),s.same (h_ (λb z=>.inl (z.elim False.elim (l b))) λ_ _ z=>z) λ_ _ z=>z⟩
  refine⟨_,h1,λ_=>[],_,_,SR.start r N,h2 ts R Z u,⟨λown W G o i E h=>?_,λO W v x B i E s l=>j O W v x B i (y ▸ E) s l,λ_ _ _ _ z=>z.elim,λ_ _ _ _ z=>z.elim,λW C d ks V dq z E e Y=>?_⟩⟩
  .exact j (Ow own) W .non _ [] i (y ▸ E) ⟨rfl,_,rfl,.non⟩ λ_ z=>(nomatch z)
  .have M:=qx W C d ks V dq z (y ▸ E) e Y;exact⟨λU G J n a X B I F2=>D1 U G J n a _ W X B _ I F2 M,λU G J n a c ec I t ge eo=>F9 U G J n a c _ I t ge (by rw[eo,<- ec];exact M)⟩
def E6:h7 X λC d _ W=>zx X C d W:=λU G H s a C W b B d I F z=>z.1 U G H s a b B I F
def adR:Yz X λC d _ W=>zx X C d W:=λU G H s a C d I e g z=>z.2 U G H s a C rfl I e g rfl
def C5(C:Addr)(c:Str):Sp:=λb H Q _=>∃a v,b=[.ref a,v]/\H a=some (XN a C none)/\∀d,H d=none->d≠a->Q .non (upd (upd H a (XN a C (some d))) d (.xd [(c,v)]))
def P8{a d:Addr}{o c x:HO}(n:H a=none)(e:d≠a):out (upd (upd (upd H a o) a c) d x) a=upd H d x:=by
 funext b
 by_cases z:b=a
 .subst z;rw[W_,bY (Ne.symm e),n]
 .rw[yp z];by_cases y:b=d
  .subst y;rw[cj,cj]
  .rw[bY y,bY z,bY z,bY y]
def Vi(C:Addr)(a:Str)(re:RE):RS:=λE o=>re o λx=>E.xc C [a] [frz x]
def ad1{i:Str}{r:Pos}{C F n:Addr}(y:X.calm)(u:X.mg x=some (.ref C))(q:Q8 X.K C F n)(b:zS X bb k n ps (C5 C i))(f:QE X e re)(c:dX (k+1) X.A:=by exact dX.mono (by assumption) vk)(w:Gl X x:=by rfl)(z:zz x:=by decide)
 (m:zw X e []:=by rfl)(B:zb X af []:=by rfl) :
  QS X (.Raise (some (.Call (.Name x r) [e] [] af)) none O) (Vi C i re) :=
 (abH y w u q b c adR (bA f bC m) z m B).imp λD G H ⟨own,o,E,h,c,L⟩=>tQA.mk h c λY j ts q s I l=>by
  obtain⟨t,rfl⟩ : ∃t,ts=[t]:=by
   match ts,s with
   |[t],_=>exact⟨t,rfl⟩
  obtain⟨v,rfl⟩ : ∃v,j=[v]:=by
   match j,l.len with
   |[v],_=>exact⟨v,rfl⟩
  refine⟨(show 1<=sizeLine by decide),λa f=>⟨a,v,rfl,cj,λd hd g=>⟨rfl,some d,(bY (Ne.symm g)).trans cj,?_⟩⟩⟩;rw[P8 f g];have p:Y d=none:=by rw[bY g]at hd;exact hd
  exact L.xc _ C d [i] [v] _ q (cL.trans (I.trans (zT.upd p))) cj (l.same (cL.trans (zT.upd p)))
def rP(X:Cx)(t:TS):RS:=λE o=>∀own H G D,SR X.K own H G o->Lnk X.K (zx X) (hd (Ow own) H) E D->t D G H
def Kt{t:TS}(h:PS X st t):QS X st (rP X t):=h.imp λD G H b=>by obtain⟨own,o,E,s,a,L⟩:=b;exact a own H G D s L
def XE(C:Addr)(c:Φ)(S:SX)(a:RE)(r:RA):RS:=λE o=>a o λx=>match frz x with|.ins b ks ts=>(b=C/\ks=c)/\r o λas=>S (.ins b ks ts::as) (λ_=>E.nx o) E.xc|_=>False
def ac0{f:Str}{o:Expr}{s C:Addr}{KS:Φ}(P:QE X o ro)(c:Cls X.K C)(M:Meth X.K C f s)(b:zS X (el X.prog X.w) k s ps (iO X.K S))(Q:QA X (e::Z) r)(m:dX k X.A:=by exact dX.mono (by assumption) vk)(N:f∉KS:=by decide +kernel)
 (U:zw X e Z:=by rfl)(V:zb X O Z:=by rfl)
 (F:eval (.Call (.Attribute o f ah) (e::Z) [] O) X.env=(do
   let p <- eval o X.env
   standAt ah.atName
   let(f,first) <- holding [p] (getMethod p f pl)
   callWith O f first (backTo O (starEach (e::Z) X.env)) (backToKw O (keywordEach [] X.env))):=by rfl)
 (J:swapsWith (.Call (.Attribute o f ah) (e::Z) [] O) none a8.line X.env=pure false:=by rfl) :
  QS X (.Expr (.Call (.Attribute o f ah) (e::Z) [] O) a8) (XE C KS S ro r):=(oK (aa6 (pl:=pl) P c M b m E6 Q U V F) J).imp λD G H ⟨own,o,E,h,m,L⟩=>tQ.mk h m λY v x q j g=>by
 revert g q
 generalize frz x=t;intro q g;cases t<;>try exact q.elim
 obtain⟨a,R,I,rfl,e,d,l,r⟩:=g.insI;obtain⟨⟨rfl,rfl⟩,q⟩:=q;refine⟨a,R,_,rfl,(cQ e).2,Jo N,tQA.mk (h.same j) q λH2 vs as q _ i y=>?_⟩;refine⟨_,_,_,.cons ((g.same (bU i)).same cL) (y.same cL),q,λW v x q S n=>?_,λW C d ks u T z S e B=>L.xc W C d ks u T z (cL.trans (j.trans (i.trans S))) e B⟩;exact L.nx own W G _ q (bU (j.trans (i.trans S))) (h.same (j.trans (i.trans S)))
def Wn{c:xI}(h:SeqAt.shaped (.list c)):PyData.canLayAll0 c/\PyData.depthAll c<=63:=by
 have a:=SeqAt.canLay_of_shaped h;have b:=SeqAt.depth_of_shaped h;unfold PyData.canLay0 at a;unfold PyData.depth at b;exact⟨a,by exact Nat.le_of_succ_le_succ b⟩
def DO{x:Option α}{b:α}{q:α->Prop}(e:x=some b)(h:q b):oT x q:=by rwa[e]
def i8(a:Bool)(t u:T)(q:OT->Prop):Prop:=∃d b,t=dc d/\u=dc (.list b)/\SeqAt.shaped d/\SeqAt.shaped (.list b)/\q (.fz (.bl (xr a (b.any λy=>PyData.eqv y d))))
def FF{b:Bool}(p:∀{A:Around}{E:Ε}{s:Shared}{c x:Value}{I:xI}{d:PyData}{as i:Ψ}{Q:Ε},Reads s.heap c (.list I) as->Reads s.heap x d i->PyData.canLayAll0 I=true->d.canLay0=true->A.units+1+min (PyData.depthAll I) d.depth<cLine->Q (.bool (xr b (I.any λy=>PyData.eqv y d))) s->wpAny (model X.prog X.w) A (compareOp op x c) Q E s)(z:X.A.units+64<cLine):GO X (compareOp op) (i8 b):=λU s G H x y v u Q a l j h=>by
 obtain⟨S,t,w,R,_,o,n,⟨d,g,rfl,rfl,f,e,q⟩,k⟩:=h;obtain⟨m,r⟩:=Wn e;obtain⟨as,ra⟩:=a.readsK ((o.shows d rfl (SeqAt.canLay_of_shaped f)).same cL) l;obtain⟨i,rb⟩:=a.readsK ((n.shows (.list g) rfl (SeqAt.canLay_of_shaped e)).same cL) j;have:=min_le_left (PyData.depthAll g) d.depth;exact p rb ra m (SeqAt.canLay_of_shaped f) vw ⟨.bl _,H,a,rfl,k H _ _ q (.refl _) (NR.fz (.bl _))⟩
def DB(e:X.A.units+64<cLine):GO X (compareOp .In) (i8 false):=FF (λrc d a b c q=>SeqAt.in_list_reads rc d a b c q) e
def RQ(e:X.A.units+64<cLine):GO X (compareOp .NotIn) (i8 true):=FF (λrc d a b c q=>SeqAt.notIn_list_reads rc d a b c q) e
def Fh(mg:Str->Ω)(i:Nat)(a:Bool->Str)(S:Bool->ST)(r:RA):RE:=λo q=>match slot o i with|.fz (.val (.ref f))=>∃b,mg (a b)=some (.ref f)/\r o λts=>S b ts q|_=>False
def V0(i:Nat){nm:Bool->Str}{S:Bool->ST}(c:∀b,∃ps,pO X.prog X.w X.K X.mg X.base k (nm b) ps (S b))(W:dX k X.A)(g:QA X (e::Z) r)(hN:n_X X i x:=by exact⟨rfl,rfl,vk,vk⟩)
 (he:zw X e Z:=by rfl)(aE:zb X O Z:=by rfl)(gV:X.mg=mg:=by rfl):QE X (.Call (.Name x p) (e::Z) [] O) (Fh mg i nm S r):=by
 subst gV;intro U s G H Q I ⟨own,o,R,h,d,T⟩;unfold Fh at d;cases j:slot o i with
 |fz t =>
  cases t with
  |val v =>
   cases v with
   |ref f =>
    rw[j]at d;obtain⟨b,hm,d⟩:=d;obtain⟨ps,f',fd,F,bd,y,P⟩:=c b;rw[hm]at y;cases y;obtain⟨u,eu,J⟩:=h.get (gK j (by intro z;cases z));cases J;refine afA (sp:=g4 (spT X.K (S b))) ⟨fd,F.hid,bd,P⟩ W (pv i hN) g he aE U s G H Q I ⟨_,eu,rfl,tQA.mk h d λY vs ts q _ m L=>?_⟩;have h1:=h.same m;refine⟨Ow own,h1.hid,ts,R,L,q,λc v x D E n l=>?_⟩;have EH:zT Y (df (Ow own) Y c):=λb u e=>by
     by_cases z:Ow own b
     .rw[vG z];exact e
     .rw[jQ z];exact E b u ((cR z).trans e)
    have C:zT c (df (Ow own) Y c):=λb u e=>by rw[jQ λz=>by rw[l b z]at e;cases e];exact e
    refine T _ v x D (m.trans EH) (NR.back (H:=Y) ?_ m);obtain⟨B,M,s⟩:=n;have out:∀a∈B,¬Ow own a:=λa g z=>(s.sole g).ne (l a z);refine⟨B,λa g=>by have:=M a g;rwa[cR (out a g)]at this,s.same (h_ (λb z=>?_) C) C⟩;rcases z with z|z
    .exact .inr (l b z)
    .exact .inl (.inr z)
   |_=>rw[j]at d;exact d.elim
  |_=>rw[j]at d;exact d.elim
 |_=>rw[j]at d;exact d.elim
def EX(b:Gl X x)(a:X.mg x=some (.ref f))(hd:zz x:=by decide):QE X (.Name x O) (rC (.val (.ref f))):=Vx (v:=.ref f) (hg:=b) (hm:=⟨_,a,rfl⟩) (r:=(λ_=>.val _)) (hd:=hd)
def Pc:ST:=λts q=>match ts with|[.int a,.int b]=>q (.fz (.int (if b<a then b else a)))|_=>False
def YN(hc:X.calm):GC X (.builtin "min") Pc:=(abW hc).imp λI H Q g=>by
 obtain⟨S,ts,R,_,c,d,k⟩:=g
 match ts,d with
 |[.int a,.int b],d =>
  cases c with
  |cons f c=>cases c with
   |cons e c =>
    cases c;cases f;cases e;exact⟨a,b,rfl,k H _ _ d (.refl _) (NR.fz (.int _))⟩
def GY(f:Scope)(N e I:Φ)(hi:QI (X.compG N0 sO h8 C0 s0 H0 dy du) tg iter ri)(l:∀{C a b d c},QG ((X.compG N0 sO h8 C0 s0 H0 dy du).compG e J I C a b d c) I.length tg g)(i:∀{C a b d c},f5 ((X.compG N0 sO h8 C0 s0 H0 dy du).compG e J I C a b d c) aI rc)(m:∀{C a b d c},QE ((X.compG N0 sO h8 C0 s0 H0 dy du).compG e J I C a b d c) be re)
 (o:X.env.scope=f:=by rfl)(p:h8++N0=N:=by rfl)(n:X.calm:=by rfl)(k:J.kind=.function:=by rfl)(h:CK (ku f sO) J N e I:=by decide +kernel)(j:∀z,foldedSetIterable iter (X.compG N0 sO h8 C0 s0 H0 dy du).env z=pure z:=by intro _;rfl):QE (X.compG N0 sO h8 C0 s0 H0 dy du) (.ListComp be [⟨tg,iter,aI,0⟩] J O) (YJ ri I.length g rc re):=by
 subst o;exact cW (X:=X.compG N0 sO h8 C0 s0 H0 dy du) (ku X.env.scope sO) N e I hi l i m rfl p n k h j
def NE(i:Nat)(S:SX)(r:RA):RS:=λE o=>(∃t,slot o i=.fz t)/\r o λts=>S ts (λ_=>False) E.xc
def ZN(i:Nat){j y T:Pos}{b:xw}{f:Str}{B:Nat}{g:Φ}{S1:Sp}{I:TA}(G1:OkF X.prog X.w X.K X.mg X.base B f g S1)(l:dX B X.A)(s:Gl X f)(a:n7 X.prog X.w X.K X.mg X.base k x ps S)(m:dX k X.A)(V:Gl X x)(ha:QA X (e::Z) r)(h0:PA X b I)
 (hN:n_X X i x0:=by exact⟨rfl,rfl,vk,vk⟩)(bE:zz x:=by decide)(P:zz f:=by decide)
 (he:zw X e Z:=by rfl)(aE:zb X O Z:=by rfl)
 (c:starEach (.Name x0 j::.Call (.Name x p) (e::Z) [] O::b) X.env=(false,eval (.Name x0 j) X.env)::starEach (.Call (.Name x p) (e::Z) [] O::b) X.env:=by rfl)(Q:starEach (.Call (.Name x p) (e::Z) [] O::b) X.env=(false,eval (.Call (.Name x p) (e::Z) [] O) X.env)::starEach b X.env:=by rfl)(R:(backTo y (starEach (.Call (.Name x p) (e::Z) [] O::b) X.env)).any (·.1)=false:=by rfl) :
  QS X (.Return (some (.Call (.Name f p1) (.Name x0 j::.Call (.Name x p) (e::Z) [] O::b) [] y)) T) (NE i S r) :=
 (yH (mU G1 l s (cF (pv i hN) (cF (Wa a m V E6 ha bE he aE) h0 Q) c) P c R)).imp λD G H ⟨own,o,E,h,⟨⟨t,et⟩,m⟩,L⟩=>by
  obtain⟨u,eu,_⟩:=h.val et (by intro z;cases z);exact⟨u,eu,tQA.mk h m λY vs ts q _ E1 J=>⟨ts,_,_,J.same cL,q,λW v x q S n=>q.elim,λW C d ks F dq z S e M=>L.xc W C d ks F dq z (cL.trans (E1.trans S)) e M⟩⟩
def SR.pr{K:Frag}{own:Nat->Ψ}{H:Hp}{G:L2.St}{o:xf}(h:SR K own H G o){i:Nat}{ts us:xk}(e:slot o i=.pr ts us):∃p a b I ys,G[i]?=some (some (.ref p))/\own i=[a,b]/\a≠b/\hd (Ow own) H p=some (.tup [.ref a,.ref b])/\H a=some (.lst I)/\H b=some (.lst ys)/\bW K (hd (Ow own) H) I ts/\bW K (hd (Ow own) H) ys us:=by
 obtain⟨u,d,p,a,b,I,ys,c,r⟩:=h.val e (by intro z;cases z);cases c;exact⟨p,a,b,I,ys,d,r⟩
def Pt(k:Bool)(ts a:xk)(t:T):OT:=match k with|false=>.pr (ts++[t]) a|true=>.pr ts (a++[t])
def DL(k:Bool)(i:Nat)(b:RE):RS:=λE o=>match slot o i with
 |.pr ts a=>(ts.length<sizeLine/\a.length<sizeLine)/\b o λy=>E.nx (o.set i (Pt k ts a (frz y)))
 |_=>False
def Z2(k:Bool)(i:Nat)(T:PE X a (tC (.int (if k then 1 else 0))))(he:QE X e re)(hN:n_X X i x:=by exact⟨rfl,rfl,vk,vk⟩)(gS:oO a:=by exact λ_ _=>rfl)
 (l:attributeBase (.Subscript (.Name x p) a p2) "append" X.env (eval (.Subscript (.Name x p) a p2) X.env)=eval (.Subscript (.Name x p) a p2) X.env:=by rfl)
 (hf:zg X af e:=by rfl)
 (hl:zC ah af:=by rfl)(K:zw X e []:=by rfl)(Y:zb X af []:=by rfl)
 (V:swapsWith (.Call (.Attribute (.Subscript (.Name x p) a p2) "append" ah) [e] [] af) none O.line X.env=pure false:=by rfl) :
  QS X (.Expr (.Call (.Attribute (.Subscript (.Name x p) a p2) "append" ah) [e] [] af) O) (DL k i re):=(oK (Xv (tu RN (pv i hN) T gS) (cF he jB K) l hf hl K Y) V).imp λD G H hP=>by
 obtain⟨own,o,E,h,g,L⟩:=hP;unfold DL at g;cases Z:slot o i with
 |pr ts J =>
  rw[Z]at g;obtain⟨⟨P,M⟩,g⟩:=g;obtain⟨n,c,d,I,ys,s,j,r,m,hc,B,v,t⟩:=h.pr Z;have R:Ow own c:=⟨i,by rw[j];simp⟩;have Q:Ow own d:=⟨i,by rw[j];simp⟩;cases k with
  |false =>
   refine⟨_,s,n,_,0,.ref c,rfl,rfl,(cQ m).2,rfl,c,I,rfl,hc,tQ.mk h g λF w y q f A=>⟨w,I,rfl,f _ _ hc,by rw[v.len];exact P,?_⟩⟩;obtain⟨C,S⟩:=(h.same f).chg (gK Z (by intro z;cases z)) (y:=.pr (ts++[frz y]) J) (W:=upd F c (.lst (I++[w]))) (λb u l e=>(bY λz=>l (by rw[j,z];simp)).trans e) (by
    rw[s,zM R];exact⟨n,c,d,_,ys,rfl,j,r,bU f _ _ m,cj,(bY λz=>r z.symm).trans (f _ _ B),(v.same (bU f)).app (.cons A .nil),t.same (bU f)⟩)
   exact L.nx own _ G _ q ((bU f).trans S) C
  |true =>
   refine⟨_,s,n,_,1,.ref d,rfl,rfl,(cQ m).2,rfl,d,ys,rfl,B,tQ.mk h g λF w y q f A=>⟨w,ys,rfl,f _ _ B,by rw[t.len];exact M,?_⟩⟩;obtain⟨C,S⟩:=(h.same f).chg (gK Z (by intro z;cases z)) (y:=.pr ts (J++[frz y])) (W:=upd F d (.lst (ys++[w]))) (λb u l e=>(bY λz=>l (by rw[j,z];simp)).trans e) (by
    rw[s,zM Q];exact⟨n,c,d,I,_,rfl,j,r,bU f _ _ m,(bY r).trans (f _ _ hc),cj,v.same (bU f),(t.same (bU f)).app (.cons A .nil)⟩)
   exact L.nx own _ G _ q ((bU f).trans S) C
 |_=>rw[Z]at g;exact g.elim
def vS(i:Nat):RE:=λo q=>match slot o i with|.pr _ a=>q (.l1 a)|_=>False
def PR(i:Nat){f:Pos}{b:Expr}(u:Gl X "list")(t:X.mg "list"=none)(v:PE X b (tC (.int 1)))(y:n_X X i x:=by exact⟨rfl,rfl,vk,vk⟩)(s:oO b:=by exact λ_ _=>rfl)
 (j:starEach [.Subscript (.Name x p1) b f] X.env=(false,eval (.Subscript (.Name x p1) b f) X.env)::starEach [] X.env:=by rfl)(C:zb X O []:=by rfl):QE X (.Call (.Name "list" p) [.Subscript (.Name x p1) b f] [] O) (vS i) :=
 (Pk Lh u t boot_list (cF (tu RN (pv i y) v s) jB j) vk vk j C).imp λG H Q w=>by
  obtain⟨own,o,R,h,e,k⟩:=w;unfold vS at e;cases Z:slot o i with
  |pr ts D =>
   rw[Z]at e;obtain⟨n,c,d,I,ys,z,J,F,l,hc,q,E,m⟩:=h.pr Z;exact⟨_,z,n,_,1,.ref d,rfl,rfl,(cQ l).2,rfl,d,ys,rfl,q,λa g=>k _ _ _ e (zT.upd g) (zf m (zT.upd g) g cj)⟩
  |_=>rw[Z]at e;exact e.elim
end L2
namespace Ac
def lw(t b:Int):Int×Int:=(t/(Int.gcd t b:Nat),b/(Int.gcd t b:Nat))
def w8{t b:Int}(a:0<b):(0:Int)<(Int.gcd t b:Nat):=by
 have:=lC t (show b≠0 by exact WS a);lia
def GB{a b c:Int}(h:a ∣ b*c)(g:Int.gcd a b=1):a ∣ c:=by
 refine Int.natAbs_dvd_natAbs.mp ((show Coprime a.natAbs b.natAbs from g).dvd_of_dvd_mul_left ?_);rw[<- VV];exact Int.natAbs_dvd_natAbs.mpr h
def uniq{x y u v:Int}(a:0<y)(b:0<v)(g1:Int.gcd x y=1)(g:Int.gcd u v=1)(e:x*v=u*y):x=u/\y=v:=by
 have f:y ∣ v:=by
  have h:y ∣ x*v:=⟨u,by rw[e,Int.mul_comm]⟩;exact GB h (by rw[Int.gcd_comm];exact g1)
 have d:v ∣ y:=by
  have h:v ∣ u*y:=⟨x,by rw[<- e,Int.mul_comm]⟩;exact GB h (by rwa[Int.gcd_comm])
 have c:y=v:=Int.dvd_antisymm (XY a) (XY b) f d;subst c;exact⟨Int.eq_of_mul_eq_mul_right (WS a) e,rfl⟩
section
variable{κ:Type}[DecidableEq κ]
def look(a:List (κ×Int))(r:κ):Int:=((a.find? λg=>decide (g.1=r)).map (·.2)).getD 0
def put(a:List (κ×Int))(r:κ)(y:Int):List (κ×Int):=if(a.any λg=>decide (g.1=r))=true then a.map (λg=>if g.1=r then(g.1,y)else g)else a++[(r,y)]
def L4(b:List (κ×Int)):List (κ×Int):=b.foldl (λa g=>put a g.1 (look a g.1+g.2)) []
def ways(a:List (κ×Int))(S:Int):List (κ×Int×Int):=((L4 a).filter λg=>decide (0<g.2)).map λg=>(g.1,lw g.2 S)
end
end Ac
namespace Rw
open Ac
def rep(r:List Int×Int):Γ:=r.1.map λt=>lw t r.2
def a_(a:xi)(b:Int):Int:=a.foldl (λc t=>((Int.gcd t c:Nat):Int)) b
theorem iI:∀{ts:xi}{b:Int},0<b->0<a_ ts b
 |[],_,h=>h
 |t::ts,b,h=>iI (ts:=ts) (w8 (t:=t) h)
theorem iK:∀{ts:xi}{b:Int},a_ ts b ∣ b/\∀t∈ts,a_ ts b ∣ t
 |[],b=>⟨Int.dvd_refl b,by simp⟩
 |t::ts,b=>by
  obtain⟨c,d⟩:=iK (ts:=ts) (b:=((Int.gcd t b:Nat):Int));refine⟨Int.dvd_trans c (JJ t b),λx a=>?_⟩;rcases YU.mp a with rfl|a
  .exact Int.dvd_trans c (Int.gcd_dvd_left x b)
  .exact d x a
def uG{ts:xi}{b:Int}(h:0<b):a_ ts b<=b:=Int.le_of_dvd h iK.1
def jo(r:List Int×Int):List Int×Int:=(r.1.map λt=>t/a_ r.1 r.2,r.2/a_ r.1 r.2)
def lG(r:List Int×Int):(jo r).1.length=r.1.length:=by unfold jo;rw[ak]
def jh(r:List Int×Int)(c:Β):List Int×Int:=(r.1.map λt=>t*c.1,r.2*c.2)
def pL(r o:List Int×Int)(c:Β):List Int×Int :=
 (zipWith (λa b=>a*(o.2*c.2/((Int.gcd r.2 (o.2*c.2):Nat):Int))+b*(r.2/((Int.gcd r.2 (o.2*c.2):Nat):Int)*c.1)) r.1 o.1,r.2*(o.2*c.2/((Int.gcd r.2 (o.2*c.2):Nat):Int)))
structure Big(N:Nat)(r:List Int×Int):Prop where
 pos:0<r.2
 bot:r.2.natAbs<=N
 top:∀t∈r.1,t.natAbs<=N
variable{N:Nat}{R':Nat->Nat->Rat}
def Big.le{M:Nat}{r:List Int×Int}(h:Big N r)(a:N<=M):Big M r:=⟨h.pos,aL h.bot a,λt b=>aL (h.top t b) a⟩
def Va{d t g x:Int}(b:d ∣ t*x)(a:d ∣ g*x):d ∣ ((Int.gcd t g:Nat):Int)*x:=by
 have h:=Int.dvd_coe_gcd b a;rw[Int.gcd_mul_right]at h;rw[Qr]at h;rcases Int.natAbs_eq x with e|e
 .rw[e];exact h
 .rw[e,Int.mul_neg];exact Int.dvd_neg.mpr h
theorem zm{d x:Int} : ∀{ts:xi}{b:Int},d ∣ b*x->(∀t∈ts,d ∣ t*x)->d ∣ a_ ts b*x
 |[],_,h,_=>h
 |t::ts,b,h,k=>zm (ts:=ts) (Va (k t aO) h) λu a=>k u (aJ _ a)
def Alk(r s:List Int×Int):Prop:=r.1.length=s.1.length/\∀(k:Nat)(a b:Int),r.1[k]?=some a->s.1[k]?=some b->a*s.2=b*r.2
def nu{r:List Int×Int}(h:0<r.2):a_ (jo r).1 (jo r).2=1:=by
 have d:=iI (ts:=r.1) h;obtain⟨f,k⟩:=iK (ts:=r.1) (b:=r.2);have p:0<(jo r).2:=lI h (XY d) f;have l:=iI (ts:=(jo r).1) p;obtain⟨j,i⟩:=iK (ts:=(jo r).1) (b:=(jo r).2);have g:a_ (jo r).1 (jo r).2*a_ r.1 r.2 ∣ a_ r.1 r.2*1:=by
  refine zm ?_ λt e=>?_
  .obtain⟨u,c⟩:=j;have c:r.2/a_ r.1 r.2=a_ (jo r).1 (jo r).2*u:=c;refine⟨u,?_⟩;rw[Int.mul_one,Int.mul_right_comm,<- c,Int.ediv_mul_cancel f]
  .obtain⟨u,c⟩:=i (t/a_ r.1 r.2) (YV.mpr ⟨t,e,rfl⟩);refine⟨u,?_⟩;rw[Int.mul_one,Int.mul_right_comm,<- c,Int.ediv_mul_cancel (k t e)]
 rw[Int.mul_one]at g;have:=Int.le_of_dvd d g;have:a_ (jo r).1 (jo r).2<=1:=by
  refine Int.le_of_mul_le_mul_right (a:=a_ r.1 r.2) ?_ d;lia
 lia
def least{r s:List Int×Int}(i:0<r.2)(g:a_ r.1 r.2=1)(a:Alk r s)(h:Big N s):Big N r:=by
 have d:r.2 ∣ a_ r.1 r.2*s.2:=zm ⟨s.2,rfl⟩ λt f=>by
  obtain⟨k,l,rfl⟩:=List.mem_iff_getElem.mp f;have c:k<s.1.length:=by rwa[<- a.1]
  rw[a.2 k _ _ (aj l) (aj c)];exact⟨_,Int.mul_comm _ _⟩
 rw[g,TW]at d;obtain⟨m,j⟩:=d;have n:0<m:=Int.pos_of_mul_pos_right (by rw[<- j];exact h.pos) i;refine⟨i,?_,λt f=>?_⟩
 .have:=Int.le_of_dvd h.pos ⟨m,j⟩;have:=h.bot;lia
 .obtain⟨k,l,rfl⟩:=List.mem_iff_getElem.mp f;have c:k<s.1.length:=by rwa[<- a.1]
  have e:=a.2 k _ _ (aj l) (aj c);rw[j,Int.mul_comm r.2 m,<- Int.mul_assoc]at e;have e:=Int.eq_of_mul_eq_mul_right (WS i) e;have b:=h.top _ (aU c);rw[<- e,VV]at b;exact aL (Nat.le_mul_of_pos_right _ (by omega)) b
def gr(N:Nat):Nat->Nat
 |0=>N
 |m+1=>2*(gr N m*gr N m)
def sg(f:Nat->Rat):Nat->Rat
 |0=>0
 |n+1=>sg f n+f n
def sz(f:Nat->Int):Nat->Int
 |0=>0
 |n+1=>sz f n+f n
theorem jJ(f g:Nat->Rat):∀n,sg (λj=>f j+g j) n=sg f n+sg g n
 |0=>by unfold sg;grind
 |n+1=>by unfold sg;rw[jJ f g n];grind
theorem ji(c:Rat)(f:Nat->Rat):∀n,sg (λj=>c*f j) n=c*sg f n
 |0=>by unfold sg;grind
 |n+1=>by unfold sg;rw[ji c f n];grind
theorem cB{f g:Nat->Rat} : ∀{n},(∀j,j<n->f j=g j)->sg f n=sg g n
 |0,_=>rfl
 |n+1,h=>by unfold sg;rw[cB λj a=>h j (WV _ a),h n (X0 _)]
theorem jU:∀n,sg (λ_=>0) n=0
 |0=>rfl
 |n+1=>by unfold sg;rw[jU n];grind
theorem j7{v:Nat->Rat}{k:Nat} : ∀{n},sg (λj=>(if j=k then 1 else 0)*v j) n=if k<n then v k else 0
 |0=>by rw[ZZ (WZ _)];rfl
 |n+1=>by
  unfold sg;rw[j7];by_cases h:k<n
  .rw[ZY h,ZZ (Up h),ZY (WV _ h)];grind
  .by_cases e:n=k
   .subst e;rw[ZZ h,ZY rfl,ZY (X0 _)];grind
   .rw[ZZ h,ZZ e,ZZ vw];grind
theorem Ub(f:Nat->Nat->Rat)(m:Nat):∀n,sg (λk=>sg (λl=>f k l) m) n=sg (λl=>sg (λk=>f k l) n) m
 |0=>by
  show(0:Rat)=sg (λ_=>0) m;rw[jU]
 |n+1=>by
  show sg (λk=>sg (λl=>f k l) m) n+sg (λl=>f n l) m=sg (λl=>sg (λk=>f k l) n+f n l) m;rw[jJ,Ub f m n]
theorem R7(f:Nat->Int):∀n,((sz f n:Int):Rat)=sg (λk=>(f k:Rat)) n
 |0=>Q3
 |n+1=>by unfold sz sg;rw[Rat.intCast_add,R7 f n]
theorem Ml{f:Nat->Int}{B:Nat} : ∀{n},(∀k,k<n->(f k).natAbs<=B)->(sz f n).natAbs<=n*B
 |0,_=>by unfold sz;simp
 |n+1,h=>by
  unfold sz;have:=Ml (n:=n) λk a=>h k (WV _ a);have:=h n (X0 _);rw[Nat.add_mul,Nat.one_mul];omega
theorem FO(f g:Nat->Int):∀n,sz (λk=>f k-g k) n=sz f n-sz g n
 |0=>rfl
 |n+1=>by unfold sz;rw[FO f g n];lia
theorem W4{f g:Nat->Int} : ∀{n},(∀j,j<n->f j=g j)->sz f n=sz g n
 |0,_=>rfl
 |n+1,h=>by unfold sz;rw[W4 λj a=>h j (WV _ a),h n (X0 _)]
theorem Wg{a:Type}(q:a->Bool):∀L:List a,(L.filter q).length+(L.filter λx=>!q x).length=L.length
 |[]=>rfl
 |x::L=>by
  have:=Wg q L;rw[List.filter_cons,List.filter_cons];cases h:q x with
  |true=>rw[ZY rfl,ZZ vy,length_cons,length_cons];lia
  |false=>rw[ZZ vy,ZY vy,length_cons,length_cons];lia
theorem Ff{d:Type}(f:d->Nat)(n:Nat):∀(W:Nat)(L:List d),(∀x∈L,f x<W)->W*n<L.length->∃v,n<(L.filter λx=>f x==v).length
 |0,L,h,c=>by
  cases L with
  |nil=>simp at c
  |cons x L=>exact absurd (h x aO) (WZ _)
 |W+1,L,h,c=>by
  by_cases e:n<(L.filter λx=>f x==W).length
  .exact⟨W,e⟩
  .have j:=Wg (λx=>f x==W) L;rw[Nat.add_mul,Nat.one_mul]at c;obtain⟨v,i⟩:=Ff f n W (L.filter λx=>!(f x==W)) (λx g=>by
    obtain⟨a,b⟩:=List.mem_filter.mp g;have:=h x a;have k:f x≠W:=λz=>by rw[z]at b;simp at b
    lia) (by omega)
   exact⟨v,aR i (List.Sublist.length_le (List.Sublist.filter _ List.filter_sublist))⟩
theorem digits_inj{W:Nat}(g:0<W):∀(n c d:Nat),c<W^n->d<W^n->(∀k,k<n->c/W^k%W=d/W^k%W)->c=d
 |0,c,d,a,hd,_=>by
  rw[pow_zero]at a hd;lia
 |n+1,c,d,a,hd,h=>by
  have b:=h 0 (TR _);rw[pow_zero,Nat.div_one,Nat.div_one]at b;have e:=digits_inj g n (c/W) (d/W) (Nat.div_lt_of_lt_mul (by rwa[Nat.mul_comm,<- pow_succ])) (Nat.div_lt_of_lt_mul (by rw[Nat.mul_comm,<- pow_succ];exact hd)) λk f=>by
   have:=h (k+1) (Nat.succ_lt_succ f);rw[Nat.div_div_eq_div_mul,Nat.div_div_eq_div_mul,<- Nat.pow_succ'];exact this
  rw[<- Nat.div_add_mod c W,<- Nat.div_add_mod d W,e,b]
theorem acn{p:Nat}(b:1<=N):(2*((p+1)*((2*(p+1)*N)^p*N))+1)^p<((2*(p+1)*N)^p+1)^(p+1):=by
 have w:2*((p+1)*((2*(p+1)*N)^p*N))+1<=2*(p+1)*N*((2*(p+1)*N)^p+1):=by
  have e:2*((p+1)*((2*(p+1)*N)^p*N))=2*(p+1)*N*(2*(p+1)*N)^p:=by ac_rfl
  have a:1<=2*(p+1)*N:=VU (show 1<=2*(p+1)by lia) b;rw[e];generalize 2*(p+1)*N=X at *;rw[mul_add,Nat.mul_one];exact Nat.add_le_add_left a _
 refine Y3 (Nat.pow_le_pow_left w p) ?_;rw[Nat.mul_pow,pow_succ,Nat.mul_comm];exact Nat.mul_lt_mul_of_pos_left (X0 _) (Nat.pow_pos (TR _))
theorem Fc{p:Nat}{C:Nat->Nat->Int}(H:1<=N)(I:∀k l,k<=p->l<p->(C k l).natAbs<=N) :
  ∃s:Nat->Int,(∃k,k<=p/\s k≠0)/\(∀k,(s k).natAbs<=(2*(p+1)*N)^p)/\∀l,l<p->sz (λk=>s k*C k l) (p+1)=0:=by
 have P:=acn (p:=p) H;generalize Q:(2*(p+1)*N)^p=B at *;generalize G:(p+1)*(B*N)=O at *;have n:∀c k:Nat,c/(B+1)^k%(B+1)<=B:=λc k=>VT (mod_lt _ (TR _));have r:∀l c,l<p->(sz (λk=>((c/(B+1)^k%(B+1):Nat):Int)*C k l) (p+1)).natAbs<=O:=λl c b=>by
  rw[<- G];refine Ml λk o=>?_;rw[VV,XT];exact VU (n c k) (I k l (VT o) b)
 have all:∀q,q<=p->∃L:xy,L.Nodup/\(∀c∈L,c<(B+1)^(p+1))/\(∀l,l<q->∀c∈L,∀d∈L,sz (λk=>((c/(B+1)^k%(B+1):Nat):Int)*C k l) (p+1)=sz (λk=>((d/(B+1)^k%(B+1):Nat):Int)*C k l) (p+1))/\(2*O+1)^(p-q)<L.length:=by
  intro q
  induction q with
  |zero=>exact λ_=>⟨range ((B+1)^(p+1)),List.nodup_range,λc i=>List.mem_range.mp i,λl b=>absurd b (WZ _),by rwa[WP,sub_zero]⟩
  |succ q E =>
   intro m;obtain⟨L,f,lt,j,a⟩:=E (aL (Xs _) m);have J:(2*O+1)^(p-q)=(2*O+1)*(2*O+1)^(p-(q+1)):=by rw[<- Nat.pow_succ',show(p-(q+1)).succ=p-q by lia]
   rw[J]at a;obtain⟨v,F⟩:=Ff (λc=>(sz (λk=>((c/(B+1)^k%(B+1):Nat):Int)*C k q) (p+1)+O).toNat) _ _ L (λc _=>by
    have:=r q c (aR (X0 _) m);omega) a
   refine⟨_,List.Pairwise.sublist List.filter_sublist f,λc i=>lt c (List.mem_filter.mp i).1,λl b c i d hd=>?_,F⟩;obtain⟨M,u⟩:=List.mem_filter.mp i;obtain⟨K,t⟩:=List.mem_filter.mp hd;by_cases e:l<q
   .exact j l e c M d K
   .have e:l=q:=by lia
    subst e;have u:=beq_iff_eq.mp u;have t:=beq_iff_eq.mp t;have:=r l c (aR b m);have:=r l d (aR b m);omega
 obtain⟨L,f,lt,j,a⟩:=all p (aG p);rw[Nat.sub_self,pow_zero]at a
 match L,f,lt,j,a with
 |c::d::L,f,lt,j,_ =>
  have w:c≠d:=λz=>by
   rw[z]at f;exact(List.nodup_cons.mp f).1 aO
  refine⟨λk=>((c/(B+1)^k%(B+1):Nat):Int)-((d/(B+1)^k%(B+1):Nat):Int),?_,λk=>?_,λl b=>?_⟩
  .by_cases h:∀k,k<p+1->c/(B+1)^k%(B+1)=d/(B+1)^k%(B+1)
   .exact absurd (digits_inj (TR B) (p+1) c d (lt c aO) (lt d (aJ _ aO)) h) w
   .obtain⟨k,o⟩:=Classical.not_forall.mp h;obtain⟨D,A⟩:=Classical.not_imp.mp o;exact⟨k,by exact VT D,λz=>A (by
     have z:((c/(B+1)^k%(B+1):Nat):Int)-((d/(B+1)^k%(B+1):Nat):Int)=0:=z;generalize c/(B+1)^k%(B+1)=x at *;generalize d/(B+1)^k%(B+1)=y at *;lia)⟩
  .have:=n c k;have:=n d k;show(((c/(B+1)^k%(B+1):Nat):Int)-((d/(B+1)^k%(B+1):Nat):Int)).natAbs<=B;omega
  .rw[W4 (g:=λk=>((c/(B+1)^k%(B+1):Nat):Int)*C k l-((d/(B+1)^k%(B+1):Nat):Int)*C k l) λk _=>Int.sub_mul _ _ _,FO,j l b c aO d (aJ _ aO)];exact Int.sub_self _
 |[_],_,_,_,a=>exact absurd a vy
 |[],_,_,_,a=>exact absurd a vy
structure gP(A:Nat->Nat->Int)(b:Nat->Int)(m wd:Nat)(R:Nat->Nat->Rat)(p:Nat)(pv s:Nat->Nat):Prop where
 pm:p<=m
 sm:∀i,i<m->s i<m
 pw:∀l,l<p->pv l<wd
 unit:∀i l,i<m->l<p->R i (pv l)=if i=l then 1 else 0
 dec:∀i j,i<m->j<wd->(A (s i) j:Rat)=(if i<p then 0 else(b (s i):Rat)*R i j)+sg (λl=>(A (s i) (pv l):Rat)*R l j) p
 ind:∀a9:Nat->Rat,(∀j,j<wd->sg (λk=>a9 k*(A (s k) j:Rat)) p=0)->∀k,k<p->a9 k=0
section
variable{A:Nat->Nat->Int}{b:Nat->Int}{m wd p:Nat}{R:Nat->Nat->Rat}{pv s:Nat->Nat}
def gP.comb(h:gP A b m wd R p pv s)(a:Nat->Rat){j:Nat}(d:j<wd):sg (λk=>a k*(A (s k) j:Rat)) p=sg (λl=>sg (λk=>a k*(A (s k) (pv l):Rat)) p*R l j) p:=by
 have pm:=h.pm;rw[cB (g:=λk=>sg (λl=>a k*(A (s k) (pv l):Rat)*R l j) p) λk c=>?_]
 .rw[Ub];refine cB λl e=>?_;rw[cB (g:=λk=>R l j*(a k*(A (s k) (pv l):Rat))) λk _=>Rat.mul_comm _ _,ji,Rat.mul_comm]
 .rw[h.dec k j (aR c pm) d,ZY c,T2,<- ji];exact cB λl _=>(Rat.mul_assoc _ _ _).symm
def jk{x:Int}(h:x≠0):(x:Rat)≠0:=λz=>h (Rat.intCast_inj.mp (z.trans Rat.intCast_zero.symm))
def NL{m q:Nat}(b:1<=N)(a:q+1<=m):(2*(q+1)*N)^(q+1)<=(2*m*N)^m:=by
 have x:2*(q+1)*N<=2*m*N:=VU vw (aG N);have y:1<=2*m*N:=VU (show 1<=2*m by lia) b;exact aL (Nat.pow_le_pow_left x _) (XU y a)
def kG{m q:Nat}(b:1<=N)(a:q+1<=m):(q+1)*((2*(q+1)*N)^q*N)<=(2*m*N)^m:=by
 refine aL ?_ (NL b a);have e:(2*(q+1)*N)^(q+1)=2*((q+1)*((2*(q+1)*N)^q*N)):=by
  rw[pow_succ];ac_rfl
 lia
def gP.bound(h:gP A b m wd R p pv s)(o:1<=N)(w:∀i j,i<m->j<wd->(A i j).natAbs<=N)(K:∀i,i<m->0<b i/\(b i).natAbs<=N){i:Nat}(G:i<m) :
    ∃(v:Nat->Int)(u:Int),u≠0/\u.natAbs<=(2*m*N)^m/\(∀j,j<wd->(v j).natAbs<=(2*m*N)^m)/\∀j,j<wd->R i j*(u:Rat)=(v j:Rat):=by
  have pm:=h.pm;by_cases E:i<p
  . obtain⟨q,rfl⟩ : ∃q,p=q+1:=⟨p-1,by lia⟩
    obtain⟨a,⟨t,F,r⟩,B,D⟩:=Fc (p:=q) (C:=λk l=>A (s k) (if l<i then pv l else pv (l+1))) o λk l n f=>by
      refine w _ _ (h.sm k vw) ?_;by_cases e:l<i
      . rw[ZY e];exact h.pw l (WV _ f)
      . rw[ZZ e];exact h.pw (l+1) (Nat.succ_lt_succ f)
    have cast:∀j,((sz (λk=>a k*A (s k) j) (q+1):Int):Rat)=sg (λk=>(a k:Rat)*(A (s k) j:Rat)) (q+1):=λj=>by
      rw[R7];exact cB λk _=>XV _ _
    have H:∀l,l<q+1->l≠i->sz (λk=>a k*A (s k) (pv l)) (q+1)=0:=λl f M=>by
      by_cases e:l<i
      . have:=D l (aR e (VT E))
        rw[ZY e]at this;exact this
      . have:=D (l-1) (by omega)
        rw[ZZ vw,show l-1+1=l by lia]at this;exact this
    have x:∀j,j<wd->((sz (λk=>a k*A (s k) j) (q+1):Int):Rat)=((sz (λk=>a k*A (s k) (pv i)) (q+1):Int):Rat)*R i j:=λj d=>by
      rw[cast,h.comb (λk=>(a k:Rat)) d,cB (g:=λl=>(if l=i then 1 else 0)*(((sz (λk=>a k*A (s k) (pv i)) (q+1):Int):Rat)*R l j)) λl f=>?_,j7,ZY E];rw[<- cast (pv l)];by_cases e:l=i
      . rw[ZY e,e,Rat.one_mul]
      . rw[ZZ e,H l f e,Q3];grind
    refine⟨λj=>sz (λk=>a k*A (s k) j) (q+1),sz (λk=>a k*A (s k) (pv i)) (q+1),λz=>?_,?_,λj d=>?_,λj d=>?_⟩
    . have:=h.ind (λk=>(a k:Rat)) (λj d=>by
        rw[<- cast,x j d,z,Q3];grind) t (Y3 F (X0 _))
      exact jk r this
    . exact aL (Ml λk n=>by rw[VV];exact VU (B k) (w _ _ (h.sm k (aR n pm)) (h.pw i E))) (kG o (by omega))
    . exact aL (Ml λk n=>by rw[VV];exact VU (B k) (w _ _ (h.sm k (aR n pm)) d)) (kG o (by omega))
    . rw[x j d,Rat.mul_comm]
  . obtain⟨a,⟨t,F,r⟩,B,D⟩:=Fc (p:=p) (C:=λk l=>A (s (if k<p then k else i)) (pv l)) o λk l n f=>by
      refine w _ _ (h.sm _ ?_) (h.pw l f);by_cases e:k<p
      . rw[ZY e];exact aR e pm
      . rwa[ZZ e]
    have cast:∀j,((sz (λk=>a k*A (s (if k<p then k else i)) j) (p+1):Int):Rat)=sg (λk=>(a k:Rat)*(A (s k) j:Rat)) p+(a p:Rat)*(A (s i) j:Rat):=λj=>by
      rw[R7];show sg _ p+((a p*A (s (if p<p then p else i)) j:Int):Rat)=_;rw[ZZ (X2 _),XV,cB (g:=λk=>(a k:Rat)*(A (s k) j:Rat)) λk n=>by rw[ZY n,XV]]
    have x:∀j,j<wd->((sz (λk=>a k*A (s (if k<p then k else i)) j) (p+1):Int):Rat)=((a p*b (s i):Int):Rat)*R i j:=λj d=>by
      have O:sg (λl=>sg (λk=>(a k:Rat)*(A (s k) (pv l):Rat)) p*R l j) p+(a p:Rat)*sg (λl=>(A (s i) (pv l):Rat)*R l j) p=0:=by
        rw[<- ji,<- jJ,cB (g:=λ_=>0) λl f=>?_,jU];have:=cast (pv l);rw[D l f,Q3]at this
        calc _=(sg (λk=>(a k:Rat)*(A (s k) (pv l):Rat)) p+(a p:Rat)*(A (s i) (pv l):Rat))*R l j:=by grind
          _=0:=by rw[<- this];grind
      rw[cast,h.comb (λk=>(a k:Rat)) d,h.dec i j G d,ZZ E,XV]
      grind
    have L:=K _ (h.sm i G);have I:a p≠0:=λz=>by
      have J:t<p:=by
        by_cases e:t=p
        . rw[e,z]at r;exact absurd rfl r
        . exact XX F e
      have:=h.ind (λk=>(a k:Rat)) (λj d=>by
        have c:=cast j;rw[x j d,z,Int.zero_mul,Q3]at c
        grind) t J
      exact jk r this
    refine⟨λj=>sz (λk=>a k*A (s (if k<p then k else i)) j) (p+1),a p*b (s i),λz=>?_,?_,λj d=>?_,λj d=>?_⟩
    . rcases Int.mul_eq_zero.mp z with y|y
      . exact I y
      . lia
    . rw[VV]
      refine aL (VU (B p) L.2) (aL ?_ (kG o (show p+1<=m by lia)));exact lL _ (TR p)
    . exact aL (Ml λk n=>by
        rw[VV];refine VU (B k) (w _ _ (h.sm _ ?_) d);by_cases e:k<p
        . rw[ZY e];exact aR e pm
        . rwa[ZZ e]) (kG o (show p+1<=m by lia))
    . rw[x j d,Rat.mul_comm]
def gP.congr(h:gP A b m wd R p pv s)(e:∀i j,i<m->R i j=R' i j):gP A b m wd R' p pv s:=by
 have pm:=h.pm;refine⟨h.pm,h.sm,h.pw,λi l a c=>by rw[<- e i _ a];exact h.unit i l a c,λi j a d=>?_,h.ind⟩;rw[h.dec i j a d,e i j a,cB λl c=>by rw[e l j (aR c pm)]]
def gP.zero(e:∀i,i<m->0<b i):gP A b m wd (λi j=>(A i j:Rat)/(b i:Rat)) 0 pv id:=by
 refine⟨aZ _,λi c=>c,λl a=>absurd a (WZ _),λi l _ a=>absurd a (WZ _),λi j c f=>?_,λg _ k d=>absurd d (WZ _)⟩;rw[ZZ (WZ _)];have:=jk (WS (e i c));show(A i j:Rat)=(b i:Rat)*((A i j:Rat)/(b i:Rat))+0
 grind
def sw(p q x:Nat):Nat:=if x=p then q else if x=q then p else x
def gP.swap(h:gP A b m wd R p pv s){q:Nat}(v:p<=q)(r:q<m)(n:∀i j,i<m->j<wd->R' i j=R (sw p q i) j):gP A b m wd R' p pv (λi=>s (sw p q i)):=by
 have pm:=h.pm;have f:∀l,l<p->sw p q l=l:=λl a=>by unfold sw;rw[ZZ (aQ a),ZZ vw]
 have sm:∀i,i<m->sw p q i<m:=λi c=>by
  unfold sw;split
  .exact r
  .split<;>omega
 have g:∀i,(sw p q i<p)↔i<p:=λi=>by
  unfold sw;split
  .lia
  .split<;>lia
 refine⟨pm,λi c=>h.sm _ (sm i c),h.pw,λi l c a=>?_,λi j c d=>?_,λu o=>?_⟩
 .rw[n i _ c (h.pw l a),h.unit _ l (sm i c) a];by_cases e:i=l
  .rw[ZY e,e,ZY (f l a)]
  .rw[ZZ e,ZZ λz=>e ?_];have:i<p:=(g i).mp (Y3 (WG z) a);rw[<- z,f i this]
 .rw[h.dec _ j (sm i c) d,n i j c d]
  congr 1
  .by_cases e:i<p
   .rw[ZY e,ZY ((g i).mpr e)]
   .rw[ZZ e,ZZ λz=>e ((g i).mp z)]
  .exact cB λl a=>by rw[n l j (aR a pm) d,f l a]
 .exact h.ind u λj d=>by
   rw[<- o j d];exact cB λk t=>by rw[f k t]
def gP.pivot(h:gP A b m wd R p pv s)(u:p<m)(K:∀i,i<m->0<b i){c:Nat}(q:c<wd)(M:R p c≠0)(B:∀j,j<wd->R' p j*R p c=R p j)(y:∀i j,i<m->i≠p->j<wd->R' i j=R i j-R i c*R' p j) :
  gP A b m wd R' (p+1) (λl=>if l=p then c else pv l) s:=by
 have pm:=h.pm;have r:R' p c=1:=by
  have:=B c q
  grind
 have D:∀l,l<p->R' p (pv l)=0:=λl a=>by
  have:=B (pv l) (h.pw l a);rw[h.unit p l u a,ZZ (Up a)]at this
  grind
 have x:∀l,l<p->(if l=p then c else pv l)=pv l:=λl a=>ZZ (aQ a);have t:∀i j,i<m->i≠p->j<wd->R i j=R' i j+R i c*R' p j:=λi j n I d=>by rw[y i j n I d];grind
 have dec:∀i j,i<m->j<wd->(A (s i) j:Rat)=(if i<p+1 then 0 else(b (s i):Rat)*R' i j)+sg (λl=>(A (s i) (if l=p then c else pv l):Rat)*R' l j) (p+1):=λi j n d=>by
  have C:=h.dec i j n d;have v:=h.dec i c n q;have L:sg (λl=>(A (s i) (pv l):Rat)*R l j) p=sg (λl=>(A (s i) (pv l):Rat)*R' l j) p+R' p j*sg (λl=>(A (s i) (pv l):Rat)*R l c) p:=by
   rw[<- ji,<- jJ];exact cB λl a=>by rw[t l j (Ts a u) (aQ a) d];grind
  rw[L]at C;show _=_+(sg _ p+(A (s i) (if p=p then c else pv p):Rat)*R' p j);rw[ZY rfl,cB (g:=λl=>(A (s i) (pv l):Rat)*R' l j) λl a=>by rw[x l a]];by_cases e:i<p
  .rw[ZY (WV _ e)];rw[ZY e]at C v
   grind
  .rw[ZZ e]at C v;by_cases G:i=p
   .rw[ZY vw];subst G;have:=B j d
    grind
   .rw[ZZ vw];have:=t i j n G d
    grind
 refine⟨u,h.sm,λl a=>?_,λi l n a=>?_,dec,λf F=>?_⟩
 .by_cases e:l=p
  .show(if l=p then c else pv l)<wd;rwa[ZY e]
  .show(if l=p then c else pv l)<wd;rw[ZZ e];exact h.pw l (XX (VT a) e)
 .show R' i (if l=p then c else pv l)=_;by_cases e:l=p
  .rw[ZY e,e];by_cases o:i=p
   .rw[ZY o,o];exact r
   .rw[ZZ o,y i c n o q,r];grind
  .rw[ZZ e];have w:l<p:=by exact XX (VT a) e
   by_cases o:i=p
   .rw[o,D l w,ZZ (Ne.symm e)]
   .rw[y i _ n o (h.pw l w),D l w,h.unit i l n w];grind
 .have E:f p=0:=by
   by_cases z:f p=0
   .exact z
   .exfalso

    have d:∀j,j<wd->sg (λk=>f k*(A (s k) j:Rat)) p=-(f p*(A (s p) j:Rat)):=λj d=>by
     have:sg (λk=>f k*(A (s k) j:Rat)) p+f p*(A (s p) j:Rat)=0:=F j d
     grind
    have H:=h.comb f q;rw[d c q,cB (g:=λl=>-(f p)*((A (s p) (pv l):Rat)*R l c)) λl a=>by rw[d _ (h.pw l a)];grind,ji]at H;have v:=h.dec p c u q;rw[ZZ (X2 p)]at v;have N:=jk (WS (K _ (h.sm p u)));have:f p*((b (s p):Rat)*R p c)=0:=by rw[v]at H;grind
    grind
  intro k J;by_cases e:k=p
  .rw[e];exact E
  .refine h.ind f (λj d=>?_) k (XX (VT J) e);have:sg (λk=>f k*(A (s k) j:Rat)) p+f p*(A (s p) j:Rat)=0:=F j d;rw[E]at this
   grind
end
def vr(r:List Int×Int)(j:Nat):Rat:=((r.1.getD j 0:Int):Rat)/(r.2:Rat)
def Qp{f:Int->Int}(b:f 0=0)(a:xi)(j:Nat):(a.map f).getD j 0=f (a.getD j 0):=by
 rw[au,au,aq];cases a[j]? with
 |none=>exact b.symm
 |some t=>rfl
theorem qZ{r:List Int×Int}(h:0<r.2)(j:Nat):vr (jo r) j=vr r j:=by
 have a:=iI (ts:=r.1) h;obtain⟨o,n⟩:=iK (ts:=r.1) (b:=r.2);have l:(jo r).1.getD j 0=r.1.getD j 0/a_ r.1 r.2:=Qp (f:=λt=>t/a_ r.1 r.2) (Int.zero_ediv _) r.1 j;have m:a_ r.1 r.2 ∣ r.1.getD j 0:=by
  rw[au];cases e:r.1[j]? with
  |none=>exact⟨0,by rw[Int.mul_zero];rfl⟩
  |some t=>exact n t (aC e)
 have k:(jo r).2=r.2/a_ r.1 r.2:=rfl;unfold vr;rw[l,k];generalize r.1.getD j 0=t at *;generalize a_ r.1 r.2=g at *;obtain⟨u,i⟩:=m;obtain⟨v,c⟩:=o;rw[i,c,Q4 _ (WS a),Q4 _ (WS a),XV,XV];have d:v≠0:=λz=>by rw[c,z,Int.mul_zero]at h;lia
 have:=jk d;have:=jk (WS a)
 grind
def lB{r:List Int×Int}{c:Β}(h:0<r.2)(a:0<c.2)(j:Nat):vr (jh r c) j=vr r j*((c.1:Rat)/(c.2:Rat)):=by
 have d:(jh r c).1.getD j 0=r.1.getD j 0*c.1:=Qp (f:=λt=>t*c.1) (Int.zero_mul _) r.1 j;have b:(jh r c).2=r.2*c.2:=rfl;unfold vr;rw[d,b,XV,XV];have:=jk (WS h);have:=jk (WS a)
 grind
theorem oN{r p:List Int×Int}{c:Β}(D:0<r.2)(z:0<p.2)(A:0<c.2)(E:r.1.length=p.1.length)(j:Nat):vr (pL r p c) j=vr r j+((c.1:Rat)/(c.2:Rat))*vr p j:=by
 have F:=XZ z A;have a:=w8 (t:=r.2) F;obtain⟨u,k⟩:=Int.gcd_dvd_left r.2 (p.2*c.2);obtain⟨v,f⟩:=JJ r.2 (p.2*c.2);have H:pL r p c=(zipWith (λx y=>x*v+y*(u*c.1)) r.1 p.1,r.2*v):=by
  unfold pL;generalize((Int.gcd r.2 (p.2*c.2):Nat):Int)=g at a k f ⊢;have q:p.2*c.2/g=v:=by rw[f,Q4 _ (WS a)]
  have o:r.2/g=u:=by
   conv=>lhs;rw[k]
   exact Q4 _ (WS a)
  rw[q,o]
 generalize((Int.gcd r.2 (p.2*c.2):Nat):Int)=g at a k f;have B:0<v:=Int.pos_of_mul_pos_right (by rwa[<- f]) a;have G:(zipWith (λx y=>x*v+y*(u*c.1)) r.1 p.1).getD j 0=r.1.getD j 0*v+p.1.getD j 0*(u*c.1):=by
  rw[au,au,au,List.getElem?_zipWith];by_cases e:j<r.1.length
  .rw[aj e,aj (aR e (WG E))];rfl
  .rw[aM (VW e),aM vw];show(0:Int)=0*v+0*(u*c.1);rw[Int.zero_mul,Int.zero_mul];rfl
 rw[H];unfold vr;show((zipWith (λx y=>x*v+y*(u*c.1)) r.1 p.1).getD j 0:Rat)/((r.2*v:Int):Rat)=_;rw[G];generalize r.1.getD j 0=x;generalize p.1.getD j 0=y;have n:(r.2:Rat)=(g:Rat)*(u:Rat):=by rw[<- XV,<- k]
 have C:(p.2:Rat)*(c.2:Rat)=(g:Rat)*(v:Rat):=by rw[<- XV,<- XV,f]
 have I:=jk (WS D);have K:=jk (WS z);have N:=jk (WS A);have J:=jk (WS B);have L:=jk (WS a);rw[Rat.intCast_add,XV,XV,XV,XV];generalize(r.2:Rat)=d at *;generalize(p.2:Rat)=m at *;generalize(c.2:Rat)=s at *;generalize(c.1:Rat)=l at *;generalize(g:Rat)=M at *;generalize(u:Rat)=i at *;generalize(v:Rat)=b at *;generalize(x:Rat)=w at *;generalize(y:Rat)=h at *;have q:(w*b+h*(i*l))/(d*b)=w/d+h*(i*l)/(d*b):=by grind
 have o:h*(i*l)/(d*b)=l/s*(h/m):=by
  have:i*(s*m)=d*b:=by rw[n,Rat.mul_comm s m,C];grind
  grind
 rw[q,o]
def oJ{M c:Nat}{r:List Int×Int}(i:0<r.2)(g:a_ r.1 r.2=1)(hw:r.1.length=c){v:Nat->Int}{u:Int}(n:u≠0)(x:u.natAbs<=M)(m:∀j,j<c->(v j).natAbs<=M)(e:∀j,j<c->vr r j*(u:Rat)=(v j:Rat)):Big M r:=by
 refine least (s:=((range c).map λj=>v j*u.sign,u.natAbs)) i g ⟨?_,λk a b l d=>?_⟩ ⟨?_,?_,λt q=>?_⟩
 .show r.1.length=((range c).map λj=>v j*u.sign).length;rw[hw,ak,WP]
 .have h:k<c:=by rw[<- hw];exact(ao.mp l).1
  have d:((range c).map λj=>v j*u.sign)[k]?=some b:=d;rw[aq,VY h]at d;cases d;show a*((u.natAbs:Nat):Int)=v k*u.sign*r.2;have f:=e k h;unfold vr at f;rw[au,l]at f;have f:(a:Rat)/(r.2:Rat)*(u:Rat)=(v k:Rat):=f;have y:=jk (WS i);have o:a*u=v k*r.2:=by
   refine Rat.intCast_inj.mp ?_;rw[XV,XV]
   grind
  have p:((u.natAbs:Nat):Int)=u*u.sign:=(Int.mul_sign_self u).symm;rw[p,<- Int.mul_assoc,o];ac_rfl
 .show(0:Int)<(u.natAbs:Nat);lia
 .show(((u.natAbs:Nat):Int)).natAbs<=M;rwa[XT]
 .obtain⟨j,w,rfl⟩:=YV.mp q;rw[VV,Int.natAbs_sign_of_ne_zero n,Nat.mul_one];exact m j (List.mem_range.mp w)
end Rw
namespace K37
open PySem PyProof.Rows L2
abbrev Cv:=top 10
abbrev jF:Str:="is_whole"
def VG:bL Zb gQ (bH Cv):=ap
abbrev HB:=top 11
abbrev lV:Str:="divisor"
def Xm:bL Qm cT (bH HB):=ap
abbrev TX:=top 15
abbrev rM:Str:="ratio"
def acT:bL T_ m_ (bH TX):=ap
abbrev CW:=top 16
abbrev pJ:Str:="is_ratio"
def W2:bL CG jM (bH CW):=ap
abbrev YC:=top 17
abbrev QV:Str:="plus"
def _j:bL UF Dr (bH YC):=ap
abbrev T8:=top 18
abbrev yj:Str:="minus"
def ae1:bL _a rA (bH T8):=ap
abbrev U3:=top 19
abbrev Kc:Str:="times"
def ad9:bL _Y Aq (bH U3):=ap
abbrev YX:=top 20
abbrev Qq:Str:="over"
def _x:bL SV Ft (bH YX):=ap
abbrev QK:=top 21
abbrev Ad:Str:="under"
def aeV:bL afQ rY (bH QK):=ap
abbrev JL:=top 23
abbrev uZ:Str:="level"
def adK:bL ZG pB (bH JL):=ap
abbrev T3:=top 24
abbrev Mf:Str:="total"
def adi:bL Q7 zE (bH T3):=ap
abbrev CJ:=top 25
abbrev fH:Str:="greatest"
def W5:bL CZ jw (bH CJ):=ap
abbrev qd:=top 27
abbrev oM:Str:="first_plan"
def O4:bL vD jf (bH qd):=ap
abbrev XS:=top 28
abbrev SN:Str:="fits"
def afI:bL Y0 En (bH XS):=ap
abbrev wQ:=top 29
abbrev uf:Str:="check_plan"
def Pa:bL w5 kJ (bH wQ):=ap
abbrev k_:=top 30
abbrev rD:Str:="behind_door"
def M_:bL kh jL (bH k_):=ap
abbrev Gg:=top 32
abbrev Bb:Str:="lowest"
def abf:bL V8 qy (bH Gg):=ap
abbrev sS:=top 33
abbrev wZ:Str:="row_times"
def Uw:bL yW mW (bH sS):=ap
abbrev vU:=top 34
abbrev yt:Str:="row_plus"
def Ik:bL Ck pI (bH vU):=ap
abbrev yV:=top 35
abbrev vR:Str:="take_step"
def SM:bL Al nJ (bH yV):=ap
abbrev yq:=top 36
abbrev ql:Str:="number_at"
def Tc:bL yZ jO (bH yq):=ap
abbrev jN:=top 37
abbrev pX:Str:="fractions_of"
def Jc:bL jD iU (bH jN):=ap
abbrev wR:=top 38
abbrev uM:Str:="first_from"
def N5:bL Gj kO (bH wR):=ap
abbrev Q_:=top 39
abbrev Du:Str:="go_on"
def afm:bL Tz uU (bH Q_):=ap
abbrev yX:=top 40
abbrev wN:Str:="begin_row"
def QM:bL Ih mX (bH yX):=ap
abbrev rW:=top 41
abbrev pP:Str:="clear_column"
def Ip:bL Am iV (bH rW):=ap
abbrev Bm:=top 42
abbrev C_:Str:="reduced"
def Lk:bL Hw rN (bH Bm):=ap
abbrev Cp:=top 44
abbrev xY:Str:="width_of"
def Vf:bL Xw oZ (bH Cp):=ap
abbrev oW:=top 45
abbrev rH:Str:="with_rights"
def Nh:bL uz jq (bH oW):=ap
abbrev sX:=top 46
abbrev vW:Str:="begins_of"
def Ez:bL zL nF (bH sX):=ap
abbrev GD:=top 47
abbrev Dg:Str:="odd_row"
def Yj:bL Gq q_ (bH GD):=ap
abbrev yE:=top 48
abbrev wO:Str:="answer_of"
def Rm:bL HD m7 (bH yE):=ap
abbrev lg:=top 49
abbrev su:Str:="single_rows"
def Kf:bL kW jH (bH lg):=ap
abbrev tW:=top 50
abbrev qY:Str:="only_answer"
def Nk:bL BZ jx (bH tW):=ap
abbrev qe:=top 52
abbrev jd:Str:="goal_marks"
def Bw:bL vN eE (bH qe):=ap
abbrev Js:=top 53
abbrev L_:Str:="meets"
def acE:bL QB zV (bH Js):=ap
abbrev Ba:=top 54
abbrev lO:Str:="by_some"
def Xn:bL Gv oA (bH Ba):=ap
abbrev nR:=top 55
abbrev yP:Str:="steps_to"
def xV:bL qT pF (bH nR):=ap
abbrev m9:=top 57
abbrev pY:Str:="chosen_doors"
def Ja:bL rQ jc (bH m9):=ap
abbrev yO:=top 58
abbrev wL:Str:="left_rows"
def QC:bL Ig nG (bH yO):=ap
abbrev jY:=top 60
abbrev uO:Str:="on_the_way"
def BW:bL iT kE (bH jY):=ap
abbrev mG:=top 61
abbrev lF:Str:="plan_chances"
def xM:bL rF gD (bH mG):=ap
abbrev vJ:=top 62
abbrev uP:Str:="chances_of"
def Oe:bL wj kj (bH vJ):=ap
abbrev uN:=top 63
abbrev qJ:Str:="picked_door"
def LQ:bL ug jr (bH uN):=ap
abbrev oG:=top 64
abbrev rR:Str:="turned_plan"
def Lb:bL tZ jz (bH oG):=ap
abbrev GZ:=top 65
abbrev wY:Str:="settled"
def qM:bL Qh nU (bH GZ):=ap
abbrev iR:=top 66
abbrev fQ:Str:="greatest_chances"
def p8:bL Dc dY (bH iR):=ap
abbrev A_:=top 69
abbrev rG:Str:="is_word"
def X7:bL GR lN (bH A_):=ap
abbrev wu:=top 71
abbrev oF:Str:="check_head"
def Nt:bL vX je (bH wu):=ap
abbrev mR:=top 72
abbrev iG:Str:="check_room_name"
def Ci:bL Fg eY (bH mR):=ap
abbrev qK:=top 73
abbrev lJ:Str:="check_chance"
def Ji:bL Mi gC (bH qK):=ap
abbrev oV:=top 74
abbrev sG:Str:="check_pairs"
def J1:bL uI jG (bH oV):=ap
abbrev oU:=top 75
abbrev qL:Str:="joined_ways"
def JQ:bL BL ju (bH oU):=ap
abbrev uH:=top 82
abbrev qN:Str:="check_share"
def Nq:bL Om jt (bH uH):=ap
abbrev vK:=top 83
abbrev tL:Str:="numbers_of"
def Nu:bL vL j_ (bH vK):=ap
abbrev pN:=top 84
abbrev nW:Str:="numbered_ways"
def G7:bL xu iw (bH pN):=ap
abbrev zy:=top 85
abbrev vO:Str:="offers_of"
def Sv:bL Il mK (bH zy):=ap
abbrev Ym:=top 88
abbrev Jv:Str:="_law_cell"
def _v:bL Yr Bj (bH Ym):=ap
abbrev Lp:=top 89
abbrev lY:Str:="_law_stream"
def aci:bL Wc gF (bH Lp):=ap
abbrev EF:=top 90
abbrev Sq:Str:="_law_gcd"
def FI:bL Dx Hh (bH EF):=ap
abbrev Ld:=top 91
abbrev Br:Str:="_law_ratio"
def abY:bL Vb qw (bH Ld):=ap
abbrev Bf:=top 92
abbrev Nf:Str:="_law_names"
def ad5:bL wI zO (bH Bf):=ap
abbrev Cy:=top 93
abbrev Ss:Str:="_law_door"
def Uo:bL vQ Dm (bH Cy):=ap
abbrev Jp:=top 94
abbrev K4:Str:="_law_doors"
def WK:bL Qz zU (bH Jp):=ap
abbrev Fb:=top 95
abbrev Kr:Str:="_law_built"
def V2:bL Ge zH (bH Fb):=ap
abbrev Tp:=top 96
abbrev RX:Str:="_law_hall"
def afJ:bL Yh FQ (bH Tp):=ap
abbrev Yn:=top 97
abbrev Uk:Str:="_law_size"
def ZE:bL YQ D_ (bH Yn):=ap
abbrev TY:=top 98
abbrev Uy:Str:="_law_ways"
def Zl:bL FX E_ (bH TY):=ap
abbrev JF:=top 99
abbrev K1:Str:="_law_goals"
def aeM:bL RM yc (bH JF):=ap
abbrev T6:=top 100
abbrev Dl:Str:="_law_whole"
def adw:bL Er vf (bH T6):=ap
abbrev uD:=top 101
abbrev rJ:Str:="_law_is_fraction"
def Kg:bL NK jA (bH uD):=ap
abbrev tG:=top 102
abbrev v8:Str:="_law_fractions"
def Tq:bL yw mV (bH tG):=ap
abbrev rZ:=top 103
abbrev Ab:Str:="_law_all_ways"
def U4:bL qP pH (bH rZ):=ap
abbrev Za:=top 104
abbrev JG:Str:="_law_mean"
def _b:bL E3 Bt (bH Za):=ap
abbrev Sh:=top 105
abbrev K_:Str:="_law_taken"
def afC:bL GJ zF (bH Sh):=ap
abbrev Kh:=top 106
abbrev Q0:Str:="_law_near"
def af7:bL Tg Fx (bH Kh):=ap
abbrev Gn:=top 107
abbrev v9:Str:="_law_chances"
def Zj:bL Qi ou (bH Gn):=ap
abbrev Ma:=top 108
abbrev GQ:Str:="_law_chosen"
def abo:bL Xc u5 (bH Ma):=ap
abbrev XJ:=top 109
abbrev R9:Str:="_law_plan"
def _d:bL Fl Dq (bH XJ):=ap
abbrev Xy:=top 110
abbrev Ux:Str:="_law_pair"
def af3:bL FY FP (bH Xy):=ap
abbrev UG:=top 111
abbrev JT:Str:="_law_right"
def acy:bL GS xU (bH UG):=ap
abbrev Ht:=top 112
abbrev CN:Str:="_law_refused"
def vH:bL Qc qU (bH Ht):=ap
abbrev FB:=top 113
abbrev X_:Str:="_law_odd"
def PM:bL N2 Nj (bH FB):=ap
abbrev Hj:=top 114
abbrev Dh:Str:="_law_is_none"
def Zi:bL Ql rE (bH Hj):=ap
abbrev Py:=top 115
abbrev Zg:Str:="law"
def Hl:bL k9 Rv (bH Py):=ap
abbrev xX:Stmt:=gU 76 0
abbrev Gf:Str:="__init__"
abbrev Ek:Str:="Door.__init__"
def Rf:bL yR j4 (bH xX):=ap
abbrev yS:Stmt:=gU 76 1
abbrev Fe:Str:="ways"
abbrev Ep:Str:="Door.ways"
def R4:bL U6 mY (bH yS):=ap
abbrev zJ:Stmt:=gU 77 0
abbrev DN:Str:="__init__"
abbrev Dz:Str:="Sure.__init__"
def Tf:bL yD mZ (bH zJ):=ap
abbrev vB:Stmt:=gU 78 0
abbrev Ca:Str:="__init__"
abbrev Cg:Str:="Mixed.__init__"
def Nz:bL wU gY (bH vB):=ap
abbrev Ao:Stmt:=gU 79 0
abbrev Fw:Str:="__init__"
abbrev DX:Str:="Toss.__init__"
def U0:bL Ii mH (bH Ao):=ap
abbrev sZ:Stmt:=gU 80 0
abbrev Dw:Str:="__init__"
abbrev Dt:Str:="Even.__init__"
def RV:bL zu mJ (bH sZ):=ap
abbrev tH:Stmt:=gU 86 0
abbrev Fo:Str:="__init__"
abbrev FN:Str:="Hall.__init__"
def S8:bL zY mQ (bH tH):=ap
abbrev yd:Stmt:=gU 86 1
abbrev Fv:Str:="size"
abbrev Ea:Str:="Hall.size"
def QZ:bL VH fu (bH yd):=ap
abbrev jj:Stmt:=gU 86 4
abbrev lU:Str:="check_room"
abbrev lW:Str:="Hall.check_room"
def qO:bL Fd dz (bH jj):=ap
abbrev oE:Stmt:=gU 86 6
abbrev Av:Str:="offers"
abbrev Ar:Str:="Hall.offers"
def Mr:bL t_ fJ (bH oE):=ap
abbrev uw:Stmt:=gU 7 0
abbrev z9:Str:="__init__"
abbrev Ae:Str:="NoRoom.__init__"
def JV:bL Od jC (bH uw):=ap
structure a' where
 HallError:Addr
 NoRoom:Addr
 Door:Addr
 Sure:Addr
 Mixed:Addr
 Toss:Addr
 Even:Addr
 Hall:Addr
 NOUGHT:Addr
 ONE:Addr
 Door_init:Addr
 Door_ways:Addr
 Sure_init:Addr
 Mixed_init:Addr
 Toss_init:Addr
 Even_init:Addr
 Hall_init:Addr
 Hall_size:Addr
 Hall_check_room:Addr
 Hall_offers:Addr
 NoRoom_init:Addr
structure Txt(K:Frag)(mg:Str->Ω)(D:a'):Prop where
 aei:mg "Door"=some (.ref D.Door)
 ajD:mg "Even"=some (.ref D.Even)
 aiV:mg "Hall"=some (.ref D.Hall)
 Xa:mg "HallError"=some (.ref D.HallError)
 Ug:mg "Mixed"=some (.ref D.Mixed)
 j9:mg "NOUGHT"=some (.ref D.NOUGHT)
 Wk:mg "NoRoom"=some (.ref D.NoRoom)
 BP:mg "ONE"=some (.ref D.ONE)
 akR:mg "Sure"=some (.ref D.Sure)
 ajh:mg "Toss"=some (.ref D.Toss)
 acU:mroIn K D.NoRoom (.type "BaseException")=some true
 aeY:typeIn K (.ref D.NoRoom)=some (.type "type")
 Ly:∃u,mg "LONGEST_WORD"=some u/\zP (.int 8) u
 jg:∀H,SqT K H D.NOUGHT [.int 0,.int 1]
 tX:∀H,SqT K H D.ONE [.int 1,.int 1]
 ac9:Cls K D.Door
 Uh:Meth K D.Door "ways" D.Door_ways
 Oa:cu K D.Door "leads"
 T5:cu K D.Door "name"
 Iv:cu K D.Door "numbers"
 Jm:cu K D.Door "offered"
 V4:cu K D.Door "pay"
 Oq:cu K D.Door "share"
 ahD:Mk K D.Sure D.Sure_init
 adz:Cls K D.Sure
 Sx:Meth K D.Sure "ways" D.Door_ways
 NP:cu K D.Sure "leads"
 S7:cu K D.Sure "name"
 Jd:cu K D.Sure "numbers"
 IK:cu K D.Sure "offered"
 WX:cu K D.Sure "pay"
 Ob:cu K D.Sure "share"
 ady:Mk K D.Mixed D.Mixed_init
 abK:Cls K D.Mixed
 Og:Meth K D.Mixed "ways" D.Door_ways
 K7:cu K D.Mixed "leads"
 Oj:cu K D.Mixed "name"
 Hz:cu K D.Mixed "numbers"
 GK:cu K D.Mixed "offered"
 Uc:cu K D.Mixed "pay"
 KN:cu K D.Mixed "share"
 ahF:Mk K D.Toss D.Toss_init
 adT:Cls K D.Toss
 Sy:Meth K D.Toss "ways" D.Door_ways
 N8:cu K D.Toss "leads"
 Ui:cu K D.Toss "name"
 Iu:cu K D.Toss "numbers"
 Jb:cu K D.Toss "offered"
 Vw:cu K D.Toss "pay"
 OJ:cu K D.Toss "share"
 afY:Mk K D.Even D.Even_init
 afB:Cls K D.Even
 R5:Meth K D.Even "ways" D.Door_ways
 Ol:cu K D.Even "leads"
 Us:cu K D.Even "name"
 IW:cu K D.Even "numbers"
 Je:cu K D.Even "offered"
 VD:cu K D.Even "pay"
 O_:cu K D.Even "share"
 agl:Mk K D.Hall D.Hall_init
 gJ:Cls K D.Hall
 lK:Meth K D.Hall "check_room" D.Hall_check_room
 m5:Meth K D.Hall "offers" D.Hall_offers
 jX:Meth K D.Hall "size" D.Hall_size
 OD:cu K D.Hall "leads"
 QH:cu K D.Hall "name"
 I9:cu K D.Hall "numbers"
 IV:cu K D.Hall "offered"
 Wh:cu K D.Hall "pay"
 O8:cu K D.Hall "share"
 xi_NoRoom:Q8 K D.NoRoom D.HallError D.NoRoom_init
 xs_NoRoom:js K D.NoRoom
 xk_NoRoom:ih K D.NoRoom
 hd_NoRoom:hasDictIn K D.NoRoom
 sm_NoRoom:mroIn K D.NoRoom (.ref D.NoRoom)=some true
 Af:cu K D.NoRoom "room"
 ib_HallError:o6 K D.HallError
 Ej:HN K D.Door "__init__" D.Door_init
 Tw:Bu K Gf Ek xX j4 D.Door_init
 S9:Bu K Fe Ep yS mY D.Door_ways
 TJ:Bu K DN Dz zJ mZ D.Sure_init
 BR:HN K D.Mixed "__init__" D.Mixed_init
 Ov:Bu K Ca Cg vB gY D.Mixed_init
 R0:Bu K Fw DX Ao mH D.Toss_init
 Qw:Bu K Dw Dt sZ mJ D.Even_init
 S6:Bu K Fo FN tH mQ D.Hall_init
 T4:Bu K Fv Ea yd fu D.Hall_size
 sE:Bu K lU lW jj dz D.Hall_check_room
 Mw:Bu K Av Ar oE fJ D.Hall_offers
 Ko:Bu K z9 Ae uw jC D.NoRoom_init
 V6:mg "abs"=none
 ais:mg "all"=none
 afb:mg "any"=none
 R3:mg "bool"=none
 jK:mg "enumerate"=none
 adq:mg "int"=none
 dI:mg "isinstance"=none
 dH:mg "len"=none
 wM:mg "list"=none
 apE:mg "min"=none
 fB:mg "range"=none
 ac6:mg "sorted"=none
 apu:mg "str"=none
 afd:mg "sum"=none
 Rj:mg "tuple"=none
 Km:mg "zip"=none
 XH:cD K mg jF Cv gQ
 aa9:cD K mg lV HB cT
 agT:cD K mg rM TX m_
 Zv:cD K mg pJ CW jM
 akj:cD K mg QV YC Dr
 ahq:cD K mg yj T8 rA
 ahK:cD K mg Kc U3 Aq
 aiK:cD K mg Qq YX Ft
 ahm:cD K mg Ad QK rY
 agJ:cD K mg uZ JL pB
 f_total:cD K mg Mf T3 zE
 Yl:cD K mg fH CJ jw
 Qx:cD K mg oM qd jf
 aju:cD K mg SN XS En
 Uj:cD K mg uf wQ kJ
 N6:cD K mg rD k_ jL
 afy:cD K mg Bb Gg qy
 Vr:cD K mg wZ sS mW
 Zm:cD K mg yt vU pI
 VJ:cD K mg vR yV nJ
 Wx:cD K mg ql yq jO
 LK:cD K mg pX jN iU
 Q6:cD K mg uM wR kO
 ahf:cD K mg Du Q_ uU
 Vh:cD K mg wN yX mX
 Mj:cD K mg pP rW iV
 aa0:cD K mg C_ Bm rN
 YT:cD K mg xY Cp oZ
 NT:cD K mg rH oW jq
 Wv:cD K mg vW sX nF
 ab7:cD K mg Dg GD q_
 Wt:cD K mg wO yE m7
 Oz:cD K mg su lg jH
 N_:cD K mg qY tW jx
 Ed:cD K mg jd qe eE
 af5:cD K mg L_ Js zV
 abQ:cD K mg lO Ba oA
 Xx:cD K mg yP nR pF
 Nm:cD K mg pY m9 jc
 Vd:cD K mg wL yO nG
 R_:cD K mg uO jY kE
 Lx:cD K mg lF mG gD
 Ro:cD K mg uP vJ kj
 O6:cD K mg qJ uN jr
 O2:cD K mg rR oG jz
 abl:cD K mg wY GZ nU
 qR:cD K mg fQ iR dY
 abJ:cD K mg rG A_ lN
 Rk:cD K mg oF wu je
 Dy:cD K mg iG mR eY
 Ks:cD K mg lJ qK gC
 Oc:cD K mg sG oV jG
 Nv:cD K mg qL oU ju
 O1:cD K mg qN uH jt
 RZ:cD K mg tL vK j_
 Jf:cD K mg nW pN iw
 VP:cD K mg vO zy mK
 aiB:cD K mg Jv Ym Bj
 aeL:cD K mg lY Lp gF
 amy:cD K mg Sq EF Hh
 acr:cD K mg Br Ld qw
 ahc:cD K mg Nf Bf zO
 akT:cD K mg Ss Cy Dm
 agt:cD K mg K4 Jp zU
 ahV:cD K mg Kr Fb zH
 ajG:cD K mg RX Tp FQ
 ajc:cD K mg Uk Yn D_
 akO:cD K mg Uy TY E_
 agn:cD K mg K1 JF yc
 agr:cD K mg Dl T6 vf
 NQ:cD K mg rJ uD jA
 WR:cD K mg v8 tG mV
 Ye:cD K mg Ab rZ pH
 ai5:cD K mg JG Za Bt
 ahe:cD K mg K_ Sh zF
 aki:cD K mg Q0 Kh Fx
 abb:cD K mg v9 Gn ou
 aeH:cD K mg GQ Ma u5
 aj1:cD K mg R9 XJ Dq
 akv:cD K mg Ux Xy FP
 afL:cD K mg JT UG xU
 abg:cD K mg CN Ht qU
 aoE:cD K mg X_ FB Nj
 abI:cD K mg Dh Hj rE
def bi(D:a')(C:Addr):Prop:=C=D.Door\/C=D.Sure\/C=D.Mixed\/C=D.Toss\/C=D.Even\/C=D.Hall
variable{D:a'}{c r s:Rat}{q i j m n k J N:Nat}{b:Nat->Rat}{a:Int}{x:Str}{l E:xz}{O:Type}{o:xf}{H:vx}{ns Q:Φ}{C v:zI}{d:xL}{u:vj}{S:Nat->Bool}{G cm:xy}{mk:xo}{A:xt}{X:Cx}
def Txt.cl{K:Frag}{a:Str->Ω}(T:Txt K a D):∀C,bi D C->Cls K C:=by
 rintro C (rfl|rfl|rfl|rfl|rfl|rfl)
 .exact T.ac9
 .exact T.adz
 .exact T.abK
 .exact T.adT
 .exact T.afB
 .exact T.gJ
def Txt.Dp{K:Frag}{a:Str->Ω}(T:Txt K a D):∀C,bi D C->cu K C "leads":=by
 rintro C (rfl|rfl|rfl|rfl|rfl|rfl)
 .exact T.Oa
 .exact T.NP
 .exact T.K7
 .exact T.N8
 .exact T.Ol
 .exact T.OD
def Txt.JM{K:Frag}{a:Str->Ω}(T:Txt K a D):∀C,bi D C->cu K C "name":=by
 rintro C (rfl|rfl|rfl|rfl|rfl|rfl)
 .exact T.T5
 .exact T.S7
 .exact T.Oj
 .exact T.Ui
 .exact T.Us
 .exact T.QH
def Txt.CT{K:Frag}{a:Str->Ω}(T:Txt K a D):∀C,bi D C->cu K C "numbers":=by
 rintro C (rfl|rfl|rfl|rfl|rfl|rfl)
 .exact T.Iv
 .exact T.Jd
 .exact T.Hz
 .exact T.Iu
 .exact T.IW
 .exact T.I9
def Txt.Np{K:Frag}{a:Str->Ω}(T:Txt K a D):∀C,bi D C->cu K C "offered":=by
 rintro C (rfl|rfl|rfl|rfl|rfl|rfl)
 .exact T.Jm
 .exact T.IK
 .exact T.GK
 .exact T.Jb
 .exact T.Je
 .exact T.IV
def Txt.adC{K:Frag}{a:Str->Ω}(T:Txt K a D):∀C,bi D C->cu K C "pay":=by
 rintro C (rfl|rfl|rfl|rfl|rfl|rfl)
 .exact T.V4
 .exact T.WX
 .exact T.Uc
 .exact T.Vw
 .exact T.VD
 .exact T.Wh
def Txt.ae6{K:Frag}{a:Str->Ω}(T:Txt K a D):∀C,bi D C->cu K C "share":=by
 rintro C (rfl|rfl|rfl|rfl|rfl|rfl)
 .exact T.Oq
 .exact T.Ob
 .exact T.KN
 .exact T.OJ
 .exact T.O_
 .exact T.O8
def dU(D:a')(C:Addr):Prop:=C=D.Door\/C=D.Sure\/C=D.Mixed\/C=D.Toss\/C=D.Even
def dU.fam{C:Addr}(h:dU D C):bi D C:=by
 unfold dU at h;unfold bi;rcases h with h|h|h|h|h<;>simp[h]
def Txt.RL{K:Frag}{a:Str->Ω}(T:Txt K a D):∀C,dU D C->Meth K C "ways" D.Door_ways:=by
 rintro C (rfl|rfl|rfl|rfl|rfl)
 .exact T.Uh
 .exact T.Sx
 .exact T.Og
 .exact T.Sy
 .exact T.R5
class Bs where
 P:Program
 w:World
 K:Frag
 mg:Str->Ω
 base:Heap
section
open Bs (P w K mg base)
abbrev gT[Bs](k:Nat)(x:Str)(E:Φ)(S:ST):Prop:=pO P w K mg base k x E S
abbrev gI[Bs](k:Nat)(a:Addr)(E:Φ)(S:ST):Prop:=OkI P w K mg base bb k a E (spT K S)
abbrev FT[Bs](k:Nat)(f:Addr)(Y:FuncData)(E:Φ)(S:ST):Prop:=fD P w K mg base bb k f Y E (spT K S)
abbrev Fu[Bs](n:Str)(s:Stmt)(f:Addr)(Y:FuncData):Prop:=Fun K n n s f Y
abbrev Tx[Bs](D:a'):Prop:=Txt K mg D
variable[Bs]{D:a'}{f:Addr}{Y:FuncData}
def ya{k:Nat}{n:Str}{C:Stmt}{E:Φ}{a:Sp}(h:cD K mg n C E)(g:∀{f Y},Fun K n n C f Y->fD P w K mg base bb k f Y E a):OkF P w K mg base k n E a:=h.ok λ_ _=>g
def yB{k:Nat}{x:Str}{C:Stmt}{E N:Φ}{S:ST}(h:cD K mg x C E)(g:bL N E (bH C)) {r}(i:∀{f:Addr}{e:Value}{A:Around}{b:xC}{s:Shared}{H:Hp}{a:XK},dX k (A.deeper (envOfC x (bH C) s.zs f e))->N.Nodup ->ef (FZ bb P w K mg base N x (bH C) f e A b s H a).nox (fL C) r)(j:∀c R,S c R->r { nx:=λ_=>R (.fz .non),rt:=R } (start' N.length c))(d:∀c R,S c R->c.length=E.length:=by intro _ _ h;repeat (first|exact(ZH List.length h.1).trans rfl|obtain⟨_,h⟩:=h)):OkF P w K mg base (k+1) x E (spT K S):=ya h λF=>F.okT g i j d
def yf{X:e9}{k:Nat}{n m:Str}{C:Stmt}{E:Φ}{f:Addr}{a:Sp}(h:Bu K n m C E f)(g:∀{Y},Fun K n m C f Y->fD P w K mg base X k f Y E a):OkI P w K mg base X k f E a:=h.ok λ_=>g
def yi{k:Nat}{n:Str}{C:Stmt}{E:Φ}{a:Sp}(h:cD K mg n C E)(g:∀{f Y},Fun K n n C f Y->fD P w K mg base (el P w) k f Y E a):l9 P w K mg base k n E a:=h.okX λ_ _=>g
abbrev sr(f:Β):T:=.tup [.int f.1,.int f.2]
noncomputable def so:T->wr
 |.int _=>some true
 |.bl _=>some false
 |.non=>some false
 |.str _=>some false
 |.tup _=>some false
 |.lst _=>some false
 |_=>none
def mq:ST:=λa q=>∃t b,a=[t]/\so t=some b/\q (.fz (.bl b))
def Xd(T:Tx D):gT 1 jF gQ mq:=yB T.XH VG (λ_ _=>bI (bR (vq (n8 .int vc T.dI T.adq boot_int) (Cq (Fk (n8 .bool vc T.dI T.R3 boot_bool))))))<|by
 rintro _ R ⟨t,b,rfl,h,q⟩;cases t<;>cases h<;>exact q
def n_:ST:=λc q=>∃a b,c=[.int a,.int b]/\q (.fz (.int (Int.gcd a b)))
def Y7(T:Tx D):gT 1 lV cT n_:=yB T.aa9 Xm (λc _=>bG (bT 2 (bQ K6 T.V6 boot_abs (bA vc bC)))
  (bG (bT 3 (bQ K6 T.V6 boot_abs (bA vt bC)))
  (bG (LR (b_ (nM c.units) ve bF)
  (bG (bT 4 (bM cH vn ve))
  (bG (bT 2 ve)
  (bI (bT 3 vi)))))
  (bI (bR vn)))))<|by
 rintro _ R ⟨a,b,rfl,q⟩;refine⟨λm o=>∃(l r:Nat)(x:OT),o=[.fz (.int a),.fz (.int b),.fz (.int l),.fz (.int r),x]/\Nat.gcd l r=Int.gcd a b/\m=r,⟨_,_,_,_,rfl,rfl,rfl⟩,?_⟩;rintro m _ ⟨l,r,x,rfl,d,e⟩;refine fW (λh=>?_) λh=>?_
 .have c:r≠0:=by intro z;subst z;cases h
  refine⟨λo=>∃x,o=[.fz (.int a),.fz (.int b),.fz (.int r),.fz (.int ((l%r:Nat):Int)),x],?_,?_⟩
  .rintro _ ⟨x,rfl⟩;exact⟨l%r,by have:=mod_lt l (Nat.pos_of_ne_zero c);lia,r,l%r,x,rfl,(Nat.gcd_comm r (l%r)).trans ((Nat.gcd_rec r l).symm.trans ((Nat.gcd_comm r l).trans d)),rfl⟩
  .exact⟨by lia,_,by rw[Int.natCast_emod];rfl⟩
 .have c:r=0:=by
   by_cases z:r=0
   .exact z
   .have:(decide ((r:Int)=0))=false:=Zp vw;rw[show xr true (decide ((r:Int)=0)) = !decide ((r:Int)=0)from rfl,this]at h;cases h
  subst c;rw[Nat.gcd_zero_right]at d;rw[<- d]at q;exact q
structure mh(t b x y:Int):Prop where
 pos:0<y
 gcd:Int.gcd x y=1
 eq:x*b=t*y
 lx:x.natAbs<=t.natAbs
 ly:y.natAbs<=b.natAbs
def KQ{c q:Int}(h:c≠0):fdiv (c*q) c=q:=by
 rw[Int.fdiv_eq_ediv_of_dvd (Int.dvd_mul_right c q),Q4 _ h]
def LC{c q:Int}(h:c≠0):q.natAbs<=(c*q).natAbs:=by
 rw[VV];exact lL _ vw
def Ah{t b c:Int}(h:b≠0)(a:c≠0)(d:c.natAbs=Int.gcd t b)(I:0<c*b):mh t b (fdiv t c) (fdiv b c):=by
 have g:c ∣ t:=Int.natAbs_dvd.mp (by rw[d];exact Int.gcd_dvd_left t b);have f:c ∣ b:=Int.natAbs_dvd.mp (by rw[d];exact JJ t b);obtain⟨x,rfl⟩:=g;obtain⟨y,rfl⟩:=f;rw[KQ a,KQ a];refine⟨?_,?_,?_,LC a,LC a⟩
 .rw[<- Int.mul_assoc]at I;have e:0<c*c:=by
   rcases Int.lt_or_lt_of_ne a with z|z
   .exact Int.mul_pos_of_neg_of_neg z z
   .exact XZ z z
  exact Int.pos_of_mul_pos_right I e
 .rw[Int.gcd_mul_left]at d;have e:0<c.natAbs:=by lia
  exact Nat.eq_of_mul_eq_mul_left e (by rw[Nat.mul_one];exact d.symm)
 .rw[Int.mul_left_comm,Int.mul_assoc]
def oR{b:Int}(c:b≠0):(0:Int)<(Int.gcd a b:Nat):=by
 have:=lC a c;lia
def Qk{i j:Int}(h:i.natAbs<=j.natAbs)(k:Bd j):Bd i:=Y3 h k
theorem EJ{i:Int}(h:Bd i):Bd (-i):=by unfold Bd at *;rwa[Int.natAbs_neg]
def Yw{b:Int}(c:b≠0)(h:Bd b):Bd ((Int.gcd a b:Nat):Int):=Qk (by
 have:=UZ vw (Int.gcd_dvd_natAbs_right a b);omega) h
def uY:ST:=λa q=>∃t b,a=[.int t,.int b]/\b≠0/\Bd b/\∀x y,mh t b x y->q (.fz (sr (x,y)))
def gX(T:Tx D):gT 2 rM m_ uY:=yB T.agT acT (λf _=>bG (cC (QW.qt (iz (dN (cM (bJ (Xd T) (bA vc bC)))) (gA (dN (cM (bJ (Xd T) (bA vt bC)))))))
  (bI gM)
  bV)
  (bG (cC (b_ (z0 f.units) vt bF)
  (bI gM)
  bV)
  (bG (bT 2 (bJ (Y7 T) (bA vc (bA vt bC))))
  (bG (cC (b_ Ey vt bF)
  (bI (bT 2 (Uv vn)))
  bV)
  (bI (bR (d9 (bA (bM lX vc vn) (bA (bM lX vt vn) bC)))))))))<|by
 rintro _ R ⟨t,b,rfl,c,hd,q⟩;refine⟨_,_,rfl,rfl,_,_,rfl,rfl,?_⟩;have d:=oR (a:=t) c;have g1:=Yw (a:=t) c hd;refine cp (Zp c) ⟨_,_,rfl,eL (λe=>⟨⟨by omega,EJ g1⟩,⟨by omega,EJ g1⟩,q _ _ (Ah c (by omega) vw (Int.mul_pos_of_neg_of_neg vw e))⟩) λe=>⟨⟨by exact WS d,g1⟩,⟨by exact WS d,g1⟩,q _ _ (Ah c (WS d) vw (XZ d vw))⟩⟩
abbrev aa(r:Rat):T:=.tup [.int r.num,.int r.den]
def jV{t b x y:Int}(h:mh t b x y)(c:b≠0):sr (x,y)=aa (divInt t b):=by
 have a:=h.pos;have e:divInt t b=⟨x,y.toNat,by lia,by have:=h.gcd;unfold Int.gcd at this;rw[show y.toNat=y.natAbs by lia];exact this⟩:=by
  rw[Rat.mk_eq_divInt,show((y.toNat:Nat):Int)=y by exact jS (XY a)];exact(QY c (WS a)).mpr h.eq.symm
 rw[e];show T.tup [.int x,.int y]=.tup [.int x,.int (y.toNat:Nat)];rw[show((y.toNat:Nat):Int)=y by exact jS (XY a)]
def rd(r:Rat):divInt r.num r.den=r:=Rat.num_divInt_den r
def pq(r:Rat):((r.den:Nat):Int)≠0:=by have:=r.den_pos;lia
def Bq(r:Rat):Prop:=Bd r.num/\Bd (r.den:Nat)
def aae:ST:=λc q=>∃a b:Rat,c=[aa a,aa b]/\Bq a/\Bq b/\Bd ((a.den:Int)*b.den)/\q (.fz (aa (a+b)))
def DQ:ST:=λc q=>∃a b:Rat,c=[aa a,aa b]/\Bq a/\Bq b/\Bd ((a.den:Int)*b.den)/\q (.fz (aa (a-b)))
def Xi:ST:=λc q=>∃a b:Rat,c=[aa a,aa b]/\Bq a/\Bq b/\Bd ((a.den:Int)*b.den)/\q (.fz (aa (a*b)))
def ZC:ST:=λc q=>∃a b:Rat,c=[aa a,aa b]/\b≠0/\Bq a/\Bq b/\Bd ((a.den:Int)*b.num)/\q (.fz (aa (a/b)))
def Eh:ST:=λc q=>∃a b:Rat,c=[aa a,aa b]/\Bq a/\Bq b/\q (.fz (.bl (decide (a<b))))
def pU{b:Int}(d:a≠0)(c:b≠0):a*b≠0:=λz=>(Int.mul_eq_zero.mp z).elim d c
def af2(T:Tx D):gT 3 QV Dr aae:=yB T.akj _j (λ_ _=>bI (bR (bJ (gX T) (bA (bM cY (bM cJ (bK vc bF) (bK vt bF)) (bM cJ (bK vt bF) (bK vc bF))) (bA (bM cJ (bK vc bF) (bK vt bF)) bC)))))<|by
 rintro _ R ⟨a,b,rfl,d,c,hd,q⟩;refine⟨⟨d.1,c.2⟩,⟨c.1,d.2⟩,⟨d.2,c.2⟩,_,_,rfl,pU (pq a) (pq b),hd,λx y l=>?_⟩;rwa[jV l (pU (pq a) (pq b)),<- QU _ _ (pq a) (pq b),rd,rd]
def oh(T:Tx D):gT 3 yj rA DQ:=yB T.ahq ae1 (λ_ _=>bI (bR (bJ (gX T) (bA (bM Rz (bM cJ (bK vc bF) (bK vt bF)) (bM cJ (bK vt bF) (bK vc bF))) (bA (bM cJ (bK vc bF) (bK vt bF)) bC)))))<|by
 rintro _ R ⟨a,b,rfl,d,c,hd,q⟩;refine⟨⟨d.1,c.2⟩,⟨c.1,d.2⟩,⟨d.2,c.2⟩,_,_,rfl,pU (pq a) (pq b),hd,λx y l=>?_⟩;rwa[jV l (pU (pq a) (pq b)),<- Rat.divInt_sub_divInt _ _ (pq a) (pq b),rd,rd]
def acH(T:Tx D):gT 3 Kc Aq Xi:=yB T.ahK ad9 (λ_ _=>bI (bR (bJ (gX T) (bA (bM cJ (bK vc bF) (bK vt bF)) (bA (bM cJ (bK vc bF) (bK vt bF)) bC)))))<|by
 rintro _ R ⟨a,b,rfl,d,c,hd,q⟩;refine⟨⟨d.1,c.1⟩,⟨d.2,c.2⟩,_,_,rfl,pU (pq a) (pq b),hd,λx y l=>?_⟩;rwa[jV l (pU (pq a) (pq b)),<- Rat.divInt_mul_divInt,rd,rd]
def _0(T:Tx D):gT 3 Qq Ft ZC:=yB T.aiK _x (λ_ _=>bI (bR (bJ (gX T) (bA (bM cJ (bK vc bF) (bK vt bF)) (bA (bM cJ (bK vc bF) (bK vt bF)) bC)))))<|by
 rintro _ R ⟨a,b,rfl,f,e,d,hd,q⟩;have c:b.num≠0:=λz=>f (by rw[<- rd b,z];exact QR _);refine⟨⟨e.1,d.2⟩,⟨e.2,d.1⟩,_,_,rfl,pU (pq a) c,hd,λx y l=>?_⟩;rwa[jV l (pU (pq a) c),<- Rat.divInt_mul_divInt,rd,<- Rat.inv_def,<- Rat.div_def]
def jl(T:Tx D):gT 1 Ad rY Eh:=yB T.ahm aeV (λ_ _=>bI (bR (mO Ey (bM cJ (bK vc bF) (bK vt bF)) (bM cJ (bK vt bF) (bK vc bF)))))<|by
 rintro _ R ⟨a,b,rfl,d,c,q⟩;refine⟨⟨d.1,c.2⟩,⟨c.1,d.2⟩,?_⟩;rw[show decide (a<b)=decide (a.num*(b.den:Int)<b.num*(a.den:Int))from decide_eq_decide.mpr (lt_iff a b)]at q;exact q
def sV:ST:=λa q=>∃r:Rat,a=[aa r]/\q (.fz (.bl true))
def Wi(T:Tx D):gT 2 pJ jM sV:=yB T.Zv W2 (λa _=>bG (cC (QW.qt (iz (dN (cM (n8 .tuple vc T.dI T.Rj boot_tuple))) (gA (b_ (nM a.units) (bQ cI T.dH WJ (bA vc bC)) bF))))
  (bI (bR gO))
  bV)
  (bG (bT 1 (bK vc bF))
  (bG (bT 2 (bK vc bF))
  (bG (cC (QW.qt (iz (dN (cM (bJ (Xd T) (bA vt bC)))) (gA (dN (cM (bJ (Xd T) (bA vn bC)))))))
  (bI (bR gO))
  bV)
  (bI (bR (vq (mO pj vn bF) (Cq (mO (z0 a.units) (bJ (Y7 T) (bA vt (bA vn bC))) bF)))))))))<|by
 rintro _ R ⟨r,rfl,q⟩;refine⟨_,_,rfl,rfl,_,_,rfl,rfl,?_⟩;have:=r.den_pos;refine dA (Zs vw) ⟨_,_,rfl,?_⟩;rwa[show Int.gcd r.num r.den=1 from r.reduced]
def Md:xt->Nat
 |[]=>1
 |r::h=>Nat.lcm r.den (Md h)
def d7(n:Nat):xt->Nat
 |[]=>n
 |r::h=>d7 (Nat.lcm n r.den) h
theorem iY:∀(h:xt){n:Nat},0<n->0<d7 n h
 |[],_,a=>a
 |r::h,_,a=>iY h (Nat.lcm_pos a r.den_pos)
theorem nH:∀(h:xt){n:Nat},n ∣ d7 n h/\∀r∈h,r.den ∣ d7 n h
 |[],n=>⟨Nat.dvd_refl n,λ_ z=>(nomatch z)⟩
 |r::h,n=>by
  obtain⟨a,b⟩:=nH h (n:=Nat.lcm n r.den);refine⟨Nat.dvd_trans (Nat.dvd_lcm_left ..) a,λx c=>?_⟩;rcases YU.mp c with rfl|z
  .exact Nat.dvd_trans (Nat.dvd_lcm_right ..) a
  .exact b x z
theorem v7:∀(h:xt){n m:Nat},n ∣ m->(∀r∈h,r.den ∣ m)->d7 n h ∣ m
 |[],_,_,a,_=>a
 |r::h,_,_,a,k=>v7 h (Nat.lcm_dvd a (k r (aO ..))) λx b=>k x (aJ _ b)
theorem Ka:∀(b a:xt)(n:Nat),d7 n (b++a)=d7 (d7 n b) a
 |[],_,_=>rfl
 |_::b,a,_=>Ka b a _
def tops(B:Nat)(h:xt):xi:=h.map λr=>r.num*((B/r.den:Nat):Int)
def Yd(h:Bd (n:Int))(l:m<=n):Bd (m:Int):=Qk (by omega) h
def ad3(n d:Nat):(fdiv (n:Int) ((Int.gcd n d:Nat):Int))*d=((Nat.lcm n d:Nat):Int):=by
 rw[show Int.gcd (n:Int) (d:Int)=Nat.gcd n d from rfl,Int.fdiv_eq_ediv_of_dvd (Int.natCast_dvd_natCast.mpr (Nat.gcd_dvd_left n d)),<- Int.natCast_ediv,<- Qr,Nat.lcm,Nat.div_mul_right_comm (Nat.gcd_dvd_left n d)]
def Ke(m n:Nat):fdiv (m:Int) (n:Int)=((m/n:Nat):Int):=by rw[lv _ (X9 _)];rfl
def zW:ST:=λa q=>∃h:xt,a=[.lst (h.map aa)]/\h.length<=1000/\(∀r∈h,Bd r.num)/\Bd (d7 1 h:Nat)/\q (.fz (.tup [.lst ((tops (d7 1 h) h).map T.int),.int (d7 1 h:Nat)]))
def kP(T:Tx D):gT 2 uZ pB zW:=yB T.agJ adK (λ_ _=>bG (bT 1 bF)
  (bG (dh (cg vc) (bZ (n:=99) 2)
  (bI (bT 1 (bM cJ (bM lX vt (bJ (Y7 T) (bA vt (bA (bK vn bF) bC)))) (bK vn bF)))))
  (bI (bR (d9 (bA (cW (bH JL) ZG ["fractions","bottom","?one"] ["one"] (cg vc) (dZ (i:=0)) cA (bM cJ (bK vc bF) (bM lX vn (bK vc bF)))) (bA vt bC)))))))<|by
 rintro _ R ⟨h,rfl,l,m,d,q⟩;refine eN aa h (λb o=>∃x,o=[.fz (.lst (h.map aa)),.fz (.int (d7 1 b:Nat)),x]) ⟨_,rfl⟩ ?_ ?_
 .rintro b a g _ e ⟨x,rfl⟩;have s:=(nH (a::g) (n:=d7 1 b)).1;have k:d7 1 h=d7 (d7 1 b) (a::g):=by rw[e];exact Ka b (a::g) 1
  have u:=iY b UP;have c:=iY h UP;have t:Bd (d7 1 b:Nat):=Yd d (k ▸ UZ (k ▸ c) s);have f:Bd (a.den:Nat):=Yd d (UZ c ((nH h).2 a (e ▸ by simp)));refine⟨_,_,rfl,⟨by have:=oR (a:=(d7 1 b:Nat)) (pq a);exact WS this,Yw (pq a) f⟩,⟨Qk ?_ t,f⟩,.fz (aa a),?_⟩
  .rw[show Int.gcd ((d7 1 b:Nat):Int) (a.den:Int)=Nat.gcd (d7 1 b) a.den from rfl,Ke];exact div_le_self ..
  .rw[ad3,Ka]
   rfl
 .rintro _ ⟨x,rfl⟩;refine⟨aL (by simpa using l) vk,comp_map aa (λr=>.int (r.num*((d7 1 h/r.den:Nat):Int))) h (λr j N M p=>?_) ?_⟩
  .have f:Bd (r.den:Nat):=Yd d (UZ (iY h UP) ((nH h).2 r j));refine⟨⟨pq r,f⟩,⟨m r j,Qk ?_ d⟩,?_⟩
   .rw[Ke];exact div_le_self ..
   .rw[Ke];exact p
  .have:(tops (d7 1 h) h).map L2.T.int=h.map (λr=>.int (r.num*((d7 1 h/r.den:Nat):Int))):=by unfold tops;rw[WU];rfl
   rw[this]at q;exact q
noncomputable def kU(l:xy):Bool:=decide (1<=l.length)&&decide (l.length<=8)&&l.all λc=>decide (97<=c)&&decide (c<=122)
abbrev Wd(n:Str):Prop:=kU n.cps.toList=true
def Wd.len{n:Str}(h:Wd n):1<=n.length/\n.length<=8:=by
 unfold Wd kU at h;simp only[JS,decide_eq_true_eq,Array.length_toList]at h;exact h.1
def ZJ(c d:Nat):(!decide ((⟨#[d]⟩ : Str).cps.toList<(⟨#[c]⟩ : Str).cps.toList))=decide (c<=d):=by
 have:((⟨#[d]⟩ : Str).cps.toList<(⟨#[c]⟩ : Str).cps.toList)↔d<c:=by
  show[d]<[c]↔d<c;constructor
  .intro h;cases h with
   |rel h=>exact h
   |cons h=>cases h
  .exact λh=>.rel h
 rw[show decide ((⟨#[d]⟩ : Str).cps.toList<(⟨#[c]⟩ : Str).cps.toList)=decide (d<c)from decide_eq_decide.mpr this];by_cases h:c<=d
 .rw[Zs h,Zp (TZ h)];rfl
 .rw[Zp h,Zs (Nat.lt_of_not_le h)];rfl
def vo:ST:=λa q=>∃n:Str,a=[.str n]/\Wd n/\q (.fz (.bl true))
def Xo(T:Tx D):gT 1 rG lN vo:=yB T.abJ X7 (λ_ _=>bG (cC (QW.qt (iz (dN (cM (n8 .str vc T.dI T.apu boot_str))) (gA (dN (JX Pr Pr bF (bQ _h T.dH WJ (bA vc bC)) (Vx T.Ly λ_=>.int _))))))
  (bI (bR gO))
  bV)
  (bI (bR (bQ (E5 rfl) T.ais boot_all (bA (cW (bH A_) GR GR ["sign"] (RY vc) (dZ (i:=0)) cA (Xj FD FD tV vc tV)) bC)))))<|by
 rintro _ R ⟨n,rfl,a,q⟩;obtain⟨j,e⟩:=a.len;refine⟨aL e vk,dA (Zs vw) (cp (by rw[Zs (show((n.length:Nat):Int)<=8 by lia)];rfl) ⟨by rw[ak];exact aL e vk,comp_map (λc=>.str ⟨#[c]⟩) (λc=>.bl (decide (97<=c)&&decide (c<=122))) n.cps.toList (λc _ N M d=>?_) ⟨n.cps.toList.map λc=>decide (97<=c)&&decide (c<=122),by rw[WU];rfl,?_⟩⟩)⟩
 .have f:(!decide ((⟨#[c]⟩ : Str).cps.toList<("a":Str).cps.toList))=decide (97<=c):=by rw[show("a":Str)=⟨#[97]⟩from by decide +kernel];exact ZJ 97 c
  have g:(!decide (("z":Str).cps.toList<(⟨#[c]⟩ : Str).cps.toList))=decide (c<=122):=by rw[show("z":Str)=⟨#[122]⟩from by decide +kernel];exact ZJ c 122
  refine fW (λh=>?_) λh=>?_
  .rw[<- f,h,<- g]at d;exact d
  .rw[<- f,h]at d;exact d
 .have:((n.cps.toList.map λc=>decide (97<=c)&&decide (c<=122)).all λb=>b)=true:=by
   unfold Wd kU at a;rw[JS]at a;rw[all_map];exact a.2
  rw[<- this]at q;exact q
def uc:ST:=λa q=>∃(n:Str)(r:Rat),a=[.str n,aa r]/\Wd n/\q (.fz .non)
def O9(T:Tx D):gT 3 oF je uc:=yB T.Rk Nt (λ_ _=>bG (cC (dN (cM (bJ (Xo T) (bA vc bC))))
  (bI gM)
  bV)
  (bI (cC (dN (cM (bJ (Wi T) (bA vt bC))))
  (bI gM)
  bV)))<|by
 rintro _ R ⟨n,r,rfl,a,q⟩;exact⟨_,rfl,a,_,rfl,q⟩
def lR:ST:=λa q=>∃n:Str,a=[.str n]/\Wd n/\q (.fz .non)
def CQ(T:Tx D):gT 2 iG eY lR:=yB T.Dy Ci (λ_ _=>bI (cC (dN (cM (bJ (Xo T) (bA vc bC))))
  (bI gM)
  bV))<|by
 rintro _ R ⟨n,rfl,a,q⟩;exact⟨_,rfl,a,q⟩
def Ch(r:Rat):Prop:=0<=r/\r<=1/\Bd (r.den:Nat)
def Ch.bq(h:Ch r):Bq r:=by
 have b:=Rat.num_nonneg.mpr h.1;have a:=(le_iff r 1).mp h.2.1;exact⟨Qk (by have:r.num*((1:Rat).den:Int)<=(1:Rat).num*(r.den:Int):=a;simp at this;omega) h.2.2,h.2.2⟩
def kB:Bq 0:=⟨Nat.two_pow_pos 8000,Nat.one_lt_two_pow vk⟩
def h5:Bq 1:=⟨Nat.one_lt_two_pow vk,Nat.one_lt_two_pow vk⟩
def pZ:ST:=λa q=>∃r:Rat,a=[aa r]/\Ch r/\q (.fz .non)
def I_(T:Tx D):gT 3 lJ gC pZ:=yB T.Ks Ji (λ_ _=>bI (cC (QW.qt (iz (dN (cM (bJ (Wi T) (bA vc bC)))) (iz (cM (bJ (jl T) (bA vc (bA (mD T.j9 T.jg) bC)))) (gA (cM (bJ (jl T) (bA (mD T.BP T.tX) (bA vc bC))))))))
  (bI gM)
  bV))<|by
 rintro _ R ⟨r,rfl,a,q⟩;refine⟨_,rfl,r,0,rfl,a.bq,kB,?_⟩;rw[Zp (Rat.not_lt.mpr a.1)];refine⟨1,r,rfl,h5,a.bq,?_⟩;rwa[Zp (Rat.not_lt.mpr a.2.1)]
def Gm(h:xt):Rat:=h.foldr (· + ·) 0
theorem Ww{B:Nat}(f:B≠0):∀{h:xt},(∀r∈h,r.den ∣ B)->divInt (tops B h).sum B=Gm h
 |[],_=>by show divInt 0 _=0;exact QR _
 |r::h,a=>by
  have d:=Ww f (h:=h) λx e=>a x (aJ _ e);have b:((B:Nat):Int)≠0:=by lia
  obtain⟨m,c⟩:=a r (aO ..);show divInt (r.num*((B/r.den:Nat):Int)+(tops B h).sum) B=r+Gm h;have g:r+Gm h=divInt (r.num*B+(tops B h).sum*r.den) (r.den*B):=by rw[<- QU _ _ (pq r) b,rd,d]
  rw[g];refine(QY b (pU (pq r) b)).mpr ?_;have:B/r.den=m:=by rw[c];exact Nat.mul_div_cancel_left _ r.den_pos
  rw[this,c];simp only[Qr]
  grind
def U8:ST:=λa q=>∃h:xt,a=[.lst (h.map aa)]/\h.length<=1000/\(∀r∈h,Bd r.num)/\Bd (d7 1 h:Nat)/\q (.fz (aa (Gm h)))
def _8(T:Tx D):gT 3 Mf zE U8:=yB T.f_total adi (λ_ _=>bG (bT 1 (bJ (kP T) (bA vc bC)))
  (bI (bR (bJ (gX T) (bA (bQ (Yb rfl) T.afd boot_sum (bA (bK vt bF) bC)) (bA (bK vt bF) bC))))))<|by
 rintro _ R ⟨h,rfl,c,e,b,q⟩;have d:=iY h UP;have a:((d7 1 h:Nat):Int)≠0:=by lia
 refine⟨h,rfl,c,e,b,_,rfl,_,_,rfl,a,b,λx y l=>?_⟩;rwa[jV l a,Ww (Up d) (nH h).2]
abbrev cz(p:Str×Rat):T:=.tup [.str p.1,aa p.2]
def xZ:ST:=λa q=>∃E:xl,a=[.lst (E.map cz)]/\E.length<=1000/\(∀p∈E,Wd p.1/\Ch p.2)/\Bd (d7 1 (E.map (·.2)):Nat)/\Gm (E.map (·.2))=1/\q (.fz .non)
def JR(T:Tx D):gT 4 sG jG xZ:=yB T.Oc J1 (λb _=>bG (dh (cg vc) (eG (n:=2) (bN (bZ (n:=99) 1) (bN (bZ (n:=99) 2) cZ)))
  (bG (nq (bJ (CQ T) (bA vt bC)))
  (bI (nq (bJ (I_ T) (bA vn bC))))))
  (bI (cC (b_ (nM b.units) (bJ (_8 T) (bA (cW (bH oV) uI uI ["pair"] (cg vc) (dZ (i:=0)) cA (bK vc bF)) bC)) (mD T.BP T.tX))
  (bI gM)
  bV)))<|by
 rintro _ R ⟨E,rfl,v,c,f,I,q⟩;refine eN cz E (λ_ o=>∃x y,o=[.fz (.lst (E.map cz)),x,y]) ⟨_,_,rfl⟩ ?_ ?_
 .rintro l a k _ e ⟨x,y,rfl⟩;obtain⟨h,g⟩:=c a (e ▸ by simp);exact⟨rfl,_,rfl,h,_,rfl,g,_,_,rfl⟩
 .rintro _ ⟨x,y,rfl⟩;refine⟨aL (by simpa using v) vk,comp_map cz (λp=>aa p.2) E (λp _ N M d=>d) ⟨E.map (·.2),by rw[WU];rfl,by simpa using v,λr b=>?_,f,?_⟩⟩
  .obtain⟨p,j,rfl⟩:=YV.mp b;exact(c p j).2.bq.1
  .rw[I];exact q
def cb(l:xl)(p:Str×Rat):xl:=if(l.any λx=>decide (x.1=p.1))=true then l.map (λx=>if x.1=p.1 then(x.1,x.2+p.2)else x)else l++[p]
def kZ(E:xl):xl:=E.foldl cb []
abbrev er(l:xl):xN:=l.map λx=>.inr x.1
abbrev fc(l:xl):xk:=l.map λx=>aa x.2
def WB(l:xl)(n:Str):Ls (er l) (.inr n)=l.any λx=>decide (x.1=n):=by
 unfold Ls;rw[UH]
 congr 1
 funext x
 exact decide_eq_decide.mpr ⟨λz=>Sum.inr.inj z,λz=>ZH Sum.inr z⟩
theorem YZ(n:Str):∀l:xl,pC (er l) (fc l) (.inr n)=(l.find? λx=>decide (x.1=n)).map λx=>aa x.2
 |[]=>rfl
 |x::l=>by
  show(if(Sum.inr x.1:bh)=.inr n then some (aa x.2)else pC (er l) (fc l) (.inr n))=_;by_cases h:x.1=n
  .rw[ZY (ZH Sum.inr h),lM (p:=λx:Str×Rat=>decide (x.1=n)) (Zs h)];rfl
  .rw[ZZ λz=>h (Sum.inr.inj z),lT (p:=λx:Str×Rat=>decide (x.1=n)) (by show ¬decide (x.1=n)=true;rw[Zp h];decide),YZ n l]
def Df(l:xl)(n:Str):Rat:=((l.find? λx=>decide (x.1=n)).map (·.2)).getD 0
def _B(l:xl)(n:Str):((pC (er l) (fc l) (.inr n)).getD (aa 0))=aa (Df l n):=by
 rw[YZ];unfold Df;cases(l.find? λx=>decide (x.1=n))<;>rfl
def Hd{l:xl}{n:Str}(b:(l.map (·.1)).Nodup){x:Str×Rat}(a:x∈l)(e:x.1=n):(l.find? λy=>decide (y.1=n))=some x:=by
 induction l with
 |nil=>cases a
 |cons y l f =>
  obtain⟨d,c⟩:=List.nodup_cons.mp b;rcases YU.mp a with rfl|z
  .exact lM (p:=λy:Str×Rat=>decide (y.1=n)) (Zs e)
  .rw[lT (p:=λy:Str×Rat=>decide (y.1=n)) (by show ¬decide (y.1=n)=true;rw[Zp λw=>d (YV.mpr ⟨x,z,e.trans w.symm⟩)];decide)];exact f c z
def OO(l:xl)(p:Str×Rat)(c:(l.map (·.1)).Nodup):eH (er l) (.inr p.1)=er (cb l p)/\dP (er l) (fc l) (.inr p.1) (aa (Df l p.1+p.2))=fc (cb l p):=by
 unfold eH dP cb;rw[WB];by_cases h:(l.any λx=>decide (x.1=p.1))=true
 .rw[ZY h,ZY h,ZY h];refine⟨by simp only[er,WU];refine UU λx _=>?_;show(Sum.inr x.1:bh)=.inr (if x.1=p.1 then(x.1,x.2+p.2)else x).1;split<;>rfl,?_⟩
  clear h
  rw[show fc (l.map λx=>if x.1=p.1 then(x.1,x.2+p.2)else x)=l.map ((λx=>aa x.2) ∘ λx=>if x.1=p.1 then(x.1,x.2+p.2)else x)from WU]
  suffices H:∀(a:xl),(∀x∈a,x.1=p.1->x.2=Df l p.1)->zipWith (λ(k:bh)x=>if k=.inr p.1 then aa (Df l p.1+p.2)else x) (er a) (fc a)=a.map ((λx=>aa x.2) ∘ λx=>if x.1=p.1 then(x.1,x.2+p.2)else x)from H l λx b e=>by
   unfold Df;rw[Hd c b e];rfl
  intro a
  induction a with
  |nil=>intro _;rfl
  |cons x a f =>
   intro H;show zipWith _ (Sum.inr x.1::er a) (aa x.2::fc a)=_;rw[zipWith_cons_cons,f λy g=>H y (aJ _ g),map_cons]
   congr 1
   by_cases e:x.1=p.1
   .rw[ZY (ZH Sum.inr e)];show _=aa (if x.1=p.1 then(x.1,x.2+p.2)else x).2;rw[ZY e,H x (aO ..) e]
   .rw[ZZ λz=>e (Sum.inr.inj z)];show _=aa (if x.1=p.1 then(x.1,x.2+p.2)else x).2;rw[ZZ e]
 .rw[ZZ h,ZZ h,ZZ h];have d:Df l p.1=0:=by
   unfold Df;rw[List.find?_eq_none.mpr λx b z=>h (List.any_eq_true.mpr ⟨x,b,z⟩)];rfl
  rw[d,T2];simp only[er,fc,bf];exact⟨rfl,rfl⟩
def af6{l:xl}{p:Str×Rat}(c:(l.map (·.1)).Nodup):((cb l p).map (·.1)).Nodup:=by
 unfold cb;by_cases h:(l.any λx=>decide (x.1=p.1))=true
 .rw[ZY h,WU];rw[show l.map ((λx=>x.1) ∘ λx=>if x.1=p.1 then(x.1,x.2+p.2)else x)=l.map (·.1)from UU λx _=>by show(if x.1=p.1 then(x.1,x.2+p.2)else x).1=x.1;split<;>rfl];exact c
 .rw[ZZ h,bf];refine List.nodup_append.mpr ⟨c,by simp,λa f b d z=>h ?_⟩;obtain⟨x,e,rfl⟩:=YV.mp f;rw[map_singleton,YR]at d;exact List.any_eq_true.mpr ⟨x,e,Zs (z.trans d)⟩
def abe(b a:xl):kZ (b++a)=a.foldl cb (kZ b):=foldl_append ..
def Wo(E:xl):((kZ E).map (·.1)).Nodup:=by
 suffices H:∀(E l:xl),(l.map (·.1)).Nodup->((E.foldl cb l).map (·.1)).Nodup from H E [] .nil
 intro E
 induction E with
 |nil=>exact λ_ h=>h
 |cons p E a=>exact λl h=>a _ (af6 h)
def Qe(E:xl):(kZ E).length<=E.length:=by
 suffices H:∀(E l:xl),(E.foldl cb l).length<=l.length+E.length from by simpa[kZ]using H E []
 intro E
 induction E with
 |nil=>exact λ_=>aG _
 |cons p E a =>
  intro l;have b:(cb l p).length<=l.length+1:=by
   unfold cb;split
   .rw[ak];exact Xs _
   .rw[aA,length_singleton];exact aG _
  have:=a (cb l p);rw[foldl_cons,length_cons];lia
def DZ(E:xl):Prop:=∀b a c,E=b++a::c->Bq (Df (kZ b) a.1)/\Bq a.2/\Bd (((Df (kZ b) a.1).den:Int)*a.2.den)
def El(E:xl):xl:=(kZ E).filter λp=>!decide (p.2=0)
def yr:ST:=λa q=>∃E:xl,a=[.lst (E.map cz)]/\E.length<=1000/\DZ E/\q (.l1 ((El E).map cz))
def J2(T:Tx D):gT 4 qL ju yr:=yB T.Nv JQ (λd _=>bG (gR 1 Jr)
  (bG (dh (cg vc) (eG (n:=2) (bN (bZ (n:=99) 2) (bN (bZ (n:=99) 3) cZ)))
  (bI (Jw 1 (xK d) (bJ (af2 T) (bA (GL 1 (xK d) vn (mD T.j9 T.jg)) (bA ve bC))) vn)))
  (bI (_w 1 (bH oU) BL ["pairs","chances","?room","chance"] ["room"] (dZ (i:=0)) (DK (b_ (nM d.units) (Tv (xK d) vn vc) (mD T.j9 T.jg))) (d9 (bA vc (bA (Tv (xK d) vn vc) bC)))))))<|by
 rintro _ R ⟨E,rfl,v,r,q⟩;refine eN cz E (λc o=>∃x y,o=[.fz (.lst (E.map cz)),.d1 (er (kZ c)) (fc (kZ c)),x,y]) ⟨_,_,rfl⟩ ?_ ?_
 .rintro c a C _ e ⟨x,y,rfl⟩;obtain⟨B,A,w⟩:=r c a C e;refine⟨rfl,_,rfl,Df (kZ c) a.1,a.2,ZH (λt=>[t,aa a.2]) (_B (kZ c) a.1),B,A,w,_,rfl,?_,.fz (.str a.1),.fz (aa a.2),?_⟩
  .have:=Qe c;have:c.length<=E.length:=by rw[e];simp
   rw[ak];exact Y3 (show _<=1000 by lia) vk
  .obtain⟨k,j⟩:=OO (kZ c) a (Wo c);rw[show kZ (c++[a])=cb (kZ c) a from by rw[abe];rfl,<- k,<- j]
   rfl
 .rintro _ ⟨x,y,rfl⟩;have l:=Qe E;refine⟨by rw[ak];exact aL (show _<=1000 by exact aL l v) vk,?_⟩;dsimp only;rw[show(er (kZ E)).map kT=(kZ E).map λp=>.str p.1 from WU];refine jy (λp=>.str p.1) (λp=>!decide (p.2=0)) cz (kZ E) (λp m N M s u=>?_) ?_
  rotate_left
  .exact q
  have g:pC (er (kZ E)) (fc (kZ E)) (.inr p.1)=some (aa p.2):=by rw[YZ,Hd (Wo E) m rfl];rfl
  refine⟨_,_,rfl,g,?_⟩;have f:(decide (p.2.num=0)&&decide ((p.2.den:Int)=1))=decide (p.2=0):=by
   by_cases z:p.2=0
   .rw[z];decide
   .rw[Zp z,Zp λy=>z (Rat.num_eq_zero.mp y)];rfl
  refine fW (λh=>⟨_,_,rfl,g,s ?_⟩) λh=>u ?_
  .rw[<- h];exact ZH (λb=>!b) f.symm
  .rw[<- h];exact ZH (λb=>!b) f.symm
abbrev wW:Φ:=["name","pay","leads"]
abbrev gj(C:Addr)(n:Str)(p:Rat)(l:xl):T:=.ins C wW [.str n,aa p,.lst (l.map cz)]
def Q5(D:a'):SI:=λC b a c R=>∃(n:Str)(p:Rat),b=[]/\a=[]/\bi D C/\c=[.str n,aa p]/\Wd n/\R wW [.str n,aa p,.lst []]
def Ud(T:Tx D):OkI P w K mg base bb 4 D.Door_init j4 (gb K (Q5 D)):=yf T.Tw λF=>by
 refine F.okI Rf (λC j g m R f=>by obtain⟨n,p,_,_,_,e,_⟩:=f;exact e ▸ rfl) vk λo A b s H E k i=>?_;refine⟨_,(bG (nq (bJ (O9 T) (bA vt (bA vn bC))))
  (bG (tD (Fm:=bi D) 0 (λC h=>⟨T.cl C h,T.JM C h⟩) vt)
  (bG (tD (Fm:=bi D) 0 (λC h=>⟨T.cl C h,T.adC C h⟩) vn)
  (bI (tD (Fm:=bi D) 0 (λC h=>⟨T.cl C h,T.Dp C h⟩) (dg bC)))))),?_⟩
 rintro a l C _ _ _ R ⟨n,p,rfl,rfl,c,rfl,d,q⟩;exact⟨_,_,rfl,d,⟨c,by decide⟩,⟨c,by decide⟩,⟨c,by decide⟩,_,_,rfl,q⟩
def Ws(D:a'):bi D D.Sure:=by simp[bi]
def ach(D:a'):bi D D.Mixed:=by simp[bi]
def acG(D:a'):bi D D.Toss:=by simp[bi]
def _6(D:a'):bi D D.Even:=by simp[bi]
def KZ(D:a'):bi D D.Hall:=by simp[bi]
def aar(D:a'):SI:=λC b a c R=>∃(n m:Str)(p:Rat),b=[]/\a=[]/\bi D C/\c=[.str n,aa p,.str m]/\Wd n/\Wd m/\R wW [.str n,aa p,.lst ([(m,1)].map cz)]
def R6(T:Tx D):OkI P w K mg base bb 5 D.Sure_init mZ (gb K (aar D)):=yf T.TJ λF=>by
 refine F.okI Tf (λC k i r R g=>by obtain⟨n,p,_,_,_,_,e,_⟩:=g;exact e ▸ rfl) vk λt A b s H E l j=>?_;refine⟨_,(bG (Jq 0 T.Ej (Ud T) T.aei (bA vt (bA vn bC)))
  (bG (nq (bJ (CQ T) (bA ve bC)))
  (bI (tD (Fm:=bi D) 0 (λC h=>⟨T.cl C h,T.Dp C h⟩) (dg (bA (d9 (bA ve (bA (mD T.BP T.tX) bC))) bC)))))),?_⟩
 rintro a o C _ _ _ R ⟨n,m,p,rfl,rfl,c,rfl,d,f,q⟩;exact⟨_,_,rfl,rfl,c,rfl,d,_,rfl,f,⟨c,by decide⟩,_,_,rfl,q⟩
structure l5(E:xl):Prop where
 few:E.length<=1000
 ok:∀p∈E,Wd p.1/\Ch p.2
 bd:Bd (d7 1 (E.map (·.2)):Nat)
 one:Gm (E.map (·.2))=1
 jb:DZ E
def Fz(D:a'):SI:=λC b a c R=>∃(n:Str)(p:Rat)(E:xl),b=[]/\a=[]/\bi D C/\c=[.str n,aa p,.lst (E.map cz)]/\Wd n/\l5 E/\R wW [.str n,aa p,.lst ((El E).map cz)]
def Pb(T:Tx D):OkI P w K mg base bb 5 D.Mixed_init gY (gb K (Fz D)):=yf T.Ov λF=>by
 refine F.okI Nz (λC k i o R g=>by obtain⟨n,p,_,_,_,_,e,_⟩:=g;exact e ▸ rfl) vk λr A c s H b l j=>?_;refine⟨_,(bG (Jq 0 T.Ej (Ud T) T.aei (bA vt (bA vn bC)))
  (bG (nq (bJ (JR T) (bA ve bC)))
  (bI (tD (Fm:=bi D) 0 (λC h=>⟨T.cl C h,T.Dp C h⟩) (bJ (J2 T) (bA ve bC)))))),?_⟩
 rintro a m C _ _ _ R ⟨n,p,E,rfl,rfl,d,rfl,f,h,q⟩;exact⟨_,_,rfl,rfl,d,rfl,f,_,rfl,h.few,h.ok,h.bd,h.one,_,rfl,h.few,h.jb,⟨d,by decide⟩,_,_,rfl,q⟩
def aaj(D:a'):SI:=λC b a d R=>∃(n x y:Str)(p c:Rat),b=[]/\a=[]/\bi D C/\d=[.str n,aa p,aa c,.str x,.str y]/\Wd n/\Ch c/\l5 [(x,c),(y,1-c)]/\R wW [.str n,aa p,.lst ((El [(x,c),(y,1-c)]).map cz)]
def QD(T:Tx D):OkI P w K mg base bb 6 D.Toss_init mH (gb K (aaj D)):=yf T.R0 λF=>by
 refine F.okI U0 (λC l j r R g=>by obtain⟨n,_,_,p,_,_,_,_,e,_⟩:=g;exact e ▸ rfl) vk λt A b s H E m k=>?_;refine⟨_,(bG (nq (bJ (O9 T) (bA vt (bA vn bC))))
  (bG (nq (bJ (I_ T) (bA ve bC)))
  (bI (Jq 0 T.BR (Pb T) T.Ug (bA vt (bA vn (bA (dg (bA (d9 (bA vi (bA ve bC))) (bA (d9 (bA vF (bA (bJ (oh T) (bA (mD T.BP T.tX) (bA ve bC))) bC))) bC))) bC))))))),?_⟩
 rintro a o C _ _ _ R ⟨n,x,y,p,c,rfl,rfl,i,rfl,f,d,h,q⟩;refine⟨_,_,rfl,f,_,rfl,d,1,c,rfl,h5,d.bq,?_,n,p,_,rfl,rfl,i,rfl,f,h,_,_,rfl,q⟩;rw[show(((1:Rat).den:Nat):Int)*(c.den:Int)=(c.den:Int)from TW _];exact d.2.2
def even(a:Φ):xl:=a.map λr=>(r,mkRat 1 a.length)
def Yo(h:0<n):aa (mkRat 1 n)=.tup [.int 1,.int (n:Nat)]:=by
 have:mkRat 1 n=⟨1,n,by exact Up h,by show Coprime 1 n;exact Nat.coprime_one_left n⟩:=by
  rw[Rat.mk_eq_divInt];rfl
 rw[this]
def aaC(D:a'):SI:=λC c b d R=>∃(n:Str)(p:Rat)(a:Φ),c=[]/\b=[]/\bi D C/\d=[.str n,aa p,.lst (a.map T.str)]/\Wd n/\l5 (even a)/\R wW [.str n,aa p,.lst ((El (even a)).map cz)]
def Rt(T:Tx D):OkI P w K mg base bb 6 D.Even_init mJ (gb K (aaC D)):=yf T.Qw λ{Y}F=>by
 refine F.okI RV (λC u o x R l=>by obtain⟨n,p,_,_,_,_,e,_⟩:=l;exact e ▸ rfl) vk λy A c s H E d t=>?_;refine⟨_,(bI (Jq 0 T.BR (Pb T) T.Ug (bA vt (bA vn (bA (cW (bH sZ) zu zu ["room"] (cg ve) (dZ (i:=0)) cA (d9 (bA vc (bA (d9 (bA bF (bA (bQ cI T.dH WJ (bA vi bC)) bC))) bC)))) bC))))),?_⟩;rintro a v C _ _ _ R ⟨n,p,b,rfl,rfl,m,rfl,j,h,q⟩;have k:b.length<=1000:=by have:=h.few;rwa[even,ak]at this
 refine⟨by rw[ak];exact aL k vk,comp_map L2.T.str (λr=>cz (r,mkRat 1 b.length)) b (λr d N M g=>?_) ⟨n,p,even b,rfl,rfl,m,?_,j,h,_,_,rfl,q⟩⟩
 .rw[show cz (r,mkRat 1 b.length)=.tup [.str r,aa (mkRat 1 b.length)]from rfl,Yo (List.length_pos_of_mem d),<- ak (f:=L2.T.str)]at g;exact g
 .unfold even;rw[WU]
  rfl
def DR(D:a'):ST:=λa q=>∃(C:Addr)(n:Str)(p:Rat)(l:xl),a=[gj C n p l]/\bi D C/\q (.l1 (l.map cz))
def Rr(T:Tx D):gI 1 D.Door_ways mY (DR D):=yf T.S9 λF=>by
 refine F.okT R4 (λ_ _=>bI (bR (qz Et T.wM boot_list (bA (CP (Fm:=bi D) (λC h=>⟨T.cl C h,T.Dp C h⟩) vc) bC)))) ?_;rintro _ R ⟨C,n,p,l,rfl,a,q⟩;exact⟨a,_,rfl,q⟩
structure bO where
 name:Str
 pay:Rat
 ways:xz
abbrev wo:=List bO
abbrev wq:=Option bO
abbrev xF:=List wq
abbrev xj:=List wo
abbrev cr(p:Nat×Rat):T:=.tup [.int (p.1:Nat),aa p.2]
abbrev dj(o:bO):T:=.tup [.str o.name,aa o.pay,.lst (o.ways.map cr)]
abbrev iB:Φ:=["share","numbers","offered"]
abbrev c3(ns:Φ):xN:=ns.map Sum.inr
abbrev eR(ns:Φ):xk:=(range ns.length).map λk:Nat=>.int k
abbrev ci(D:a')(s:Rat)(ns:Φ)(g:xj):T:=.ins D.Hall iB [aa s,.dct (c3 ns) (eR ns),.lst (g.map λu=>.lst (u.map dj))]
def Aj:ST:=λa q=>∃r:Rat,a=[aa r]/\0<=r/\r<1/\Bq r/\q (.fz .non)
def Lr(T:Tx D):gT 3 qN jt Aj:=yB T.O1 Nq (λ_ _=>bI (cC (QW.qt (iz (dN (cM (bJ (Wi T) (bA vc bC)))) (iz (cM (bJ (jl T) (bA vc (bA (mD T.j9 T.jg) bC)))) (gA (dN (cM (bJ (jl T) (bA vc (bA (mD T.BP T.tX) bC)))))))))
  (bI gM)
  bV))<|by
 rintro _ R ⟨r,rfl,c,b,a,q⟩;refine⟨_,rfl,r,0,rfl,a,kB,?_⟩;rw[Zp (Rat.not_lt.mpr c)];refine⟨r,1,rfl,a,h5,?_⟩;rwa[Zs b]
def FE(ns:Φ)(n:Str)(h:n∉ns):Ls (c3 ns) (.inr n)=false:=by
 unfold Ls;rw[UH];exact List.any_eq_false.mpr λx a z=>h ((Sum.inr.inj (of_decide_eq_true z)) ▸ a)
theorem Y_{O:Type}(n:Str):∀(ns:Φ)(a:List O),n∉ns->pC (c3 ns) a (.inr n)=none
 |[],_,_=>rfl
 |_::_,[],_=>rfl
 |m::ns,t::a,h=>by
  show(if(Sum.inr m:bh)=.inr n then some t else pC (c3 ns) a (.inr n))=none;rw[ZZ λz=>h (by rw[Sum.inr.inj z];exact aO ..)];exact Y_ n ns a λz=>h (aJ _ z)
theorem GI{O:Type}{n:Str} : ∀{ns:Φ}{a:List O}{k:Nat}{t:O},ns.Nodup->ns[k]?=some n->a[k]?=some t->pC (c3 ns) a (.inr n)=some t
 |[],_,_,_,_,e,_=>by cases e
 |m::ns,[],_,_,_,_,e=>by cases e
 |m::ns,u::a,k,t,f,d,c=>by
  obtain⟨h,g⟩:=List.nodup_cons.mp f;show(if(Sum.inr m:bh)=.inr n then some u else pC (c3 ns) a (.inr n))=some t;cases k with
  |zero=>cases d;cases c;exact ZY rfl
  |succ k =>
   have b:ns[k]?=some n:=by simpa using d
   rw[ZZ λ(z:(Sum.inr m:bh)=.inr n)=>h (by rw[Sum.inr.inj z];exact aC b)];exact GI g b (by simpa using c)
def TM(ns:Φ)(n:Str)(h:n∉ns):eH (c3 ns) (.inr n)=c3 (ns++[n])/\dP (c3 ns) (eR ns) (.inr n) (.int (ns.length:Nat))=eR (ns++[n]):=by
 unfold eH dP;rw[FE ns n h];refine⟨by rw[ZZ vk];simp[c3],?_⟩;rw[ZZ vk];simp only[eR,aA,length_singleton,range_succ,bf,map_singleton]
abbrev g5(p:Str×xk):T:=.tup [.str p.1,.lst p.2]
def Bx:ST:=λb q=>∃a:List (Str×xk),b=[.lst (a.map g5)]/\a.length<=1000/\(∀p∈a,Wd p.1)/\(a.map (·.1)).Nodup/\q (.d1 (c3 (a.map (·.1))) (eR (a.map (·.1))))
def Oi(T:Tx D):gT 2 tL j_ Bx:=yB T.RZ Nu (λg _=>bG (gR 1 Jr)
  (bG (dh (cg vc) (bZ (n:=99) 2)
  (bG (bT 3 (bK vn bF))
  (bG (cC (QW.qt (iz (dN (cM (bJ (Xo T) (bA ve bC)))) (gA (Ms 1 (Ev (xK g) ve vt)))))
  (bI gM)
  bV)
  (bI (Jw 1 (xK g) (UJ 1 (bQ ZL T.dH WJ (bA vt bC))) ve)))))
  (bI (iD 1))))<|by
 rintro _ R ⟨c,rfl,h,k,d,q⟩;refine eN g5 c (λb o=>∃x y,o=[.fz (.lst (c.map g5)),.d1 (c3 (b.map (·.1))) (eR (b.map (·.1))),x,y]) ⟨_,_,rfl⟩ ?_ ?_
 .rintro b a m _ e ⟨x,y,rfl⟩;have f:a.1∉b.map (·.1):=by
   rw[e,bf,map_cons]at d;exact λz=>(List.nodup_append.mp d).2.2 a.1 z a.1 (aO ..) rfl
  have l:b.length<=c.length:=by rw[e];simp
  refine⟨_,rfl,k a (e ▸ by simp),_,rfl,?_⟩;rw[Y_ a.1 _ _ f];refine⟨trivial,_,rfl,by rw[ak,ak];exact Y3 (show _<=1000 by exact aL l h) vk,.fz (g5 a),.fz (.str a.1),?_⟩;obtain⟨j,i⟩:=TM (b.map (·.1)) a.1 f;rw[bf,map_singleton,<- j,<- i];simp only[ak]
  rfl
 .rintro _ ⟨x,y,rfl⟩;exact q
structure HM(ns:Φ)(us:xz):Prop where
 few:us.length<=1000
 lt:∀p∈us,p.1<ns.length
abbrev VN(ns:Φ)(us:xz):xl:=us.map λp=>(ns.getD p.1 ⟨#[]⟩,p.2)
def vg(D:a'):ST:=λb q=>∃(C:Addr)(n:Str)(p:Rat)(ns:Φ)(a:xz),b=[gj C n p (VN ns a),.dct (c3 ns) (eR ns)]/\dU D C/\ns.Nodup/\HM ns a/\q (.l1 (a.map cr))
def Hx(T:Tx D):gT 2 nW iw (vg D):=yB T.Jf G7 (λh _=>bG (gR 2 (dg bC))
  (bG (dh (cg (QE.any λC(c:dU D C)=>qW vc (T.cl C c.fam) (T.RL C c) (Rr T) (KS:=wW))) (eG (n:=2) (bN (bZ (n:=99) 3) (bN (bZ (n:=99) 4) cZ)))
  (bG (cC (ab5 (xK h) ve vt)
  (bI gM)
  bV)
  (bI (rK 2 (d9 (bA (Tv (xK h) vt ve) (bA vi bC)))))))
  (bI (iD 2))))<|by
 rintro _ R ⟨C,n,p,ns,b,rfl,c,j,g,q⟩;refine⟨C,c,⟨rfl,rfl⟩,C,n,p,_,rfl,c.fam,?_⟩;show uW _ _ _ (List.map cz (VN ns b)) _;rw[show(VN ns b).map cz=b.map λp=>cz (ns.getD p.1 ⟨#[]⟩,p.2)from WU];refine eN (λp=>cz (ns.getD p.1 ⟨#[]⟩,p.2)) b (λf o=>∃x y,o=[.fz (gj C n p (VN ns b)),.fz (.dct (c3 ns) (eR ns)),.l1 (f.map cr),x,y]) ⟨_,_,rfl⟩ ?_ ?_
 .rintro f a m _ e ⟨x,y,rfl⟩;have lt:=g.lt a (e ▸ by simp);have l:f.length<b.length:=by rw[e];simp
  have d:=g.few;have k:ns[a.1]?=some (ns.getD a.1 ⟨#[]⟩):=by rw[au,aj lt];rfl
  have i:pC (c3 ns) (eR ns) (.inr (ns.getD a.1 ⟨#[]⟩))=some (.int (a.1:Nat)):=GI j k (by rw[aq,VY lt];rfl);refine⟨rfl,_,rfl,?_⟩;rw[i];refine⟨_,_,rfl,i,by rw[ak];exact Y3 (show _<=1000 by exact aL (Y2 l) d) vk,.fz (.str (ns.getD a.1 ⟨#[]⟩)),.fz (aa a.2),?_⟩;rw[bf]
  rfl
 .rintro _ ⟨x,y,rfl⟩;exact q
structure Made where
 cls:Addr
 of:bO
abbrev wa:=List (List Made)
abbrev eS(ns:Φ)(m:Made):T:=gj m.cls m.of.name m.of.pay (VN ns m.of.ways)
structure HP(D:a')(ns:Φ)(u:List Made):Prop where
 few:u.length<=1000
 cls:∀m∈u,dU D m.cls
 ways:∀m∈u,HM ns m.of.ways
 nd:(u.map λm=>m.of.name).Nodup
def afO(ns:Φ)(n:Str)(h:n∉ns):eH (c3 ns) (.inr n)=c3 (ns++[n])/\dP (c3 ns) (ns.map λ_=>L2.T.bl true) (.inr n) (.bl true)=(ns++[n]).map λ_=>L2.T.bl true:=by
 unfold eH dP;rw[FE ns n h];refine⟨by rw[ZZ vk];simp[c3],?_⟩;rw[ZZ vk];simp
def Ga(D:a'):ST:=λa q=>∃(ns:Φ)(u:List Made),a=[.lst (u.map (eS ns)),.dct (c3 ns) (eR ns)]/\ns.Nodup/\HP D ns u/\q (.l1 (u.map λm=>dj m.of))
def S_(T:Tx D):gT 3 vO mK (Ga D):=yB T.VP Sv (λj _=>bG (gR 2 Jr)
  (bG (gR 3 (dg bC))
  (bG (dh (cg vc) (bZ (n:=99) 4)
  (bG (cC (Ms 2 (Ev (xK j) (CP (Fm:=bi D) (λC h=>⟨T.cl C h,T.JM C h⟩) vi) vn))
  (bI gM)
  bV)
  (bG (Jw 2 (xK j) gO (CP (Fm:=bi D) (λC h=>⟨T.cl C h,T.JM C h⟩) vi))
  (bI (rK 3 (d9 (bA (CP (Fm:=bi D) (λC h=>⟨T.cl C h,T.JM C h⟩) vi) (bA (CP (Fm:=bi D) (λC h=>⟨T.cl C h,T.adC C h⟩) vi) (bA (bJ (Hx T) (bA vi (bA vt bC))) bC)))))))))
  (bI (iD 3)))))<|by
 rintro _ R ⟨ns,u,rfl,f,hd,q⟩;refine eN (eS ns) u (λb o=>∃x,o=[.fz (.lst (u.map (eS ns))),.fz (.dct (c3 ns) (eR ns)),.d1 (c3 (b.map λm=>m.of.name)) ((b.map λm=>m.of.name).map λ_=>.bl true),.l1 (b.map λm=>dj m.of),x]) ⟨_,rfl⟩ ?_ ?_
 .rintro b a r _ e ⟨x,rfl⟩;have g:a.of.name∉b.map λm=>m.of.name:=by
   have f:=hd.nd;rw[e,bf,map_cons]at f;exact λz=>(List.nodup_append.mp f).2.2 _ z _ (aO ..) rfl
  have k:b.length<u.length:=by rw[e];simp
  have d:=hd.few;have i:a∈u:=e ▸ by simp
  have c:=hd.cls a i;refine⟨c.fam,_,rfl,_,rfl,?_⟩;rw[Y_ _ _ _ g];refine⟨c.fam,_,rfl,_,rfl,by rw[ak,ak];exact Y3 (show _<=1000 by exact aL (Y2 k) d) vk,c.fam,_,rfl,c.fam,_,rfl,_,_,_,ns,a.of.ways,rfl,c,f,hd.ways a i,by rw[ak];exact Y3 (show _<=1000 by exact aL (Y2 k) d) vk,.fz (eS ns a),?_⟩;obtain⟨p,l⟩:=afO (b.map λm=>m.of.name) a.of.name g;rw[show(b++[a]).map (λm=>m.of.name)=b.map (λm=>m.of.name)++[a.of.name]from bf,<- p,<- l,bf]
  rfl
 .rintro _ ⟨x,rfl⟩;exact q
structure DV(D:a')(ns:Φ)(ae:wa):Prop where
 len:ae.length=ns.length
 few:ns.length<=1000
 wd:∀n∈ns,Wd n
 nd:ns.Nodup
 mds:∀u∈ae,HP D ns u
abbrev Dd(ns:Φ)(ae:wa):xk:=(ns.zip ae).map λp=>g5 (p.1,p.2.map (eS ns))
abbrev fo(ae:wa):xj:=ae.map λu=>u.map λm=>m.of
def aap(D:a'):SI:=λC c b d R=>∃(s:Rat)(ns:Φ)(a:wa),C=D.Hall/\c=[]/\b=[]/\d=[aa s,.lst (Dd ns a)]/\0<=s/\s<1/\Bq s/\DV D ns a/\R iB [aa s,.dct (c3 ns) (eR ns),.lst ((fo a).map λu=>.lst (u.map dj))]
def Tr(T:Tx D):OkI P w K mg base bb 4 D.Hall_init mQ (gb K (aap D)):=yf T.S6 λF=>by
 refine F.okI S8 (λC I B O R y=>by obtain⟨n,p,_,_,_,_,e,_⟩:=y;exact e ▸ rfl) vk λQ A g s H E J G=>?_;refine⟨_,(bG (nq (bJ (Lr T) (bA vt bC)))
  (bG (tD (Fm:=bi D) 0 (λC h=>⟨T.cl C h,T.ae6 C h⟩) vt)
  (bG (tD (Fm:=bi D) 0 (λC h=>⟨T.cl C h,T.CT C h⟩) (bJ (Oi T) (bA vn bC)))
  (bI (tD (Fm:=bi D) 0 (λC h=>⟨T.cl C h,T.Np C h⟩) (cW (bH tH) zY zY ["room"] (cg vn) (dZ (i:=0)) cA (bJ (S_ T) (bA (bK vc bF) (bA (ZA (Fm:=bi D) 1 (λC h=>⟨T.cl C h,T.CT C h⟩)) bC))))))))),?_⟩
 rintro a L C _ _ _ R ⟨s,ns,b,rfl,rfl,rfl,rfl,t,r,o,h,q⟩;have f:(ns.zip b).map (·.1)=ns:=List.map_fst_zip (by have:=h.len;exact WG (Eq.symm this));have l:(ns.zip b).map (·.2)=b:=List.map_snd_zip (by have:=h.len;exact WG this);have k:(ns.zip b).length=ns.length:=by rw[VZ,h.len,VQ]
 have d:=KZ D;have c:=h.few;refine⟨_,rfl,t,r,o,⟨d,by decide⟩,(ns.zip b).map λp=>(p.1,p.2.map (eS ns)),by rw[WU];rfl,by rw[ak,k];exact c,λp j=>?_,?_,⟨d,by decide⟩,?_⟩
 .obtain⟨x,v,rfl⟩:=YV.mp j;exact h.wd x.1 (f ▸ YV.mpr ⟨x,v,rfl⟩)
 .rw[WU];exact f.symm ▸ h.nd
 .rw[show((ns.zip b).map λp=>(p.1,p.2.map (eS ns))).map (·.1)=ns from List.map_map.trans f];refine⟨by rw[ak,k];exact aL c vk,comp_map (λp=>g5 (p.1,p.2.map (eS ns))) (λp=>.lst (p.2.map λm=>dj m.of)) (ns.zip b) (λp j N M z=>?_) ⟨⟨d,by decide⟩,_,_,rfl,?_⟩⟩
  .exact⟨d,_,rfl,ns,p.2,rfl,h.nd,h.mds p.2 (l ▸ YV.mpr ⟨p,j,rfl⟩),z⟩
  .have:(ns.zip b).map (λp=>L2.T.lst (p.2.map λm=>dj m.of))=(fo b).map λu=>.lst (u.map dj):=by
    rw[show(fo b).map (λu=>L2.T.lst (u.map dj))=b.map λu=>.lst (u.map λm=>dj m.of)from by simp[fo,WU,Function.comp_def]]
    conv=>rhs;rw[<- l,WU]
    rfl
   rw[<- this]at q;exact q
structure Io(ns:Φ)(g:xj):Prop where
 len:g.length=ns.length
 few:ns.length<=1000
 fews:∀u∈g,u.length<=1000
def iM(D:a'):ST:=λa q=>∃(s:Rat)(ns:Φ)(g:xj),a=[ci D s ns g]/\q (.fz (.int (ns.length:Nat)))
def RP(T:Tx D):gI 1 D.Hall_size fu (iM D):=yf T.T4 λ{Y}F=>by
 refine F.okT QZ (λ_ _=>bI (bR (bQ ZL T.dH WJ (bA (CP (Fm:=bi D) (λC h=>⟨T.cl C h,T.CT C h⟩) vc) bC)))) ?_;rintro _ R ⟨s,ns,g,rfl,q⟩;refine⟨KZ D,_,rfl,?_⟩;rw[<- ak (f:=(Sum.inr:Str->bh))]at q;exact q
def uq(D:a'):ST:=λa q=>∃(s:Rat)(ns:Φ)(g:xj)(k:Nat),a=[ci D s ns g,.int k]/\k<ns.length/\q (.fz .non)
def Nx(T:Tx D):gI 2 D.Hall_check_room dz (uq D):=yf T.sE λF=>by
 refine F.okT qO (λ_ _=>bI (cC (QW.qt (iz (dN (cM (bJ (Xd T) (bA vt bC)))) (gA (dN (JX Pr Ey bF vt (qW vc T.gJ T.jX (RP T) (KS:=iB)))))))
  (bI gM)
  bV)) ?_
 rintro _ R ⟨s,ns,g,k,rfl,a,q⟩;refine⟨_,_,rfl,rfl,⟨rfl,rfl⟩,_,_,_,rfl,?_⟩;show sw (!decide ((k:Int)<(ns.length:Nat))) _ _;rwa[Zs (show(k:Int)<(ns.length:Nat)by lia)]
def uX(D:a'):ST:=λa q=>∃(s:Rat)(ns:Φ)(g:xj)(k:Nat)(u:wo),a=[ci D s ns g,.int k]/\Io ns g/\g[k]?=some u/\q (.l1 (u.map dj))
def c7{l:List O}{h:O->T}{a:O}(e:l[k]?=some a):cv (l.map h) (k:Nat)=some (h a):=by
 show d6 (l.map h) k=_;rw[tR,aq,e];rfl
def kQ(T:Tx D):gI 3 D.Hall_offers fJ (uX D):=yf T.Mw λF=>by
 refine F.okT Mr (λ_ _=>bG (nq (Ay vc T.gJ T.lK (Nx T) (bA vt bC) (KS:=iB)))
  (bI (bR (cW (bH oE) t_ t_ ["name","pay","numbered"] (cg (bK (CP (Fm:=bi D) (λC h=>⟨T.cl C h,T.Np C h⟩) vc) vt)) (eG (n:=3) (bN (dZ (i:=0)) (bN (dZ (i:=1)) (bN (dZ (i:=2)) cZ)))) cA (d9 (bA vc (bA vt (bA (qz Et T.wM boot_list (bA vn bC)) bC)))))))) ?_
 rintro _ R ⟨s,ns,g,k,u,rfl,h,e,q⟩;have a:k<ns.length:=by rw[<- h.len];exact(ao.mp e).1
 refine⟨⟨rfl,rfl⟩,s,ns,g,k,rfl,a,KZ D,_,rfl,.lst (u.map dj),c7 (h:=λu=>L2.T.lst (u.map dj)) e,by rw[ak];exact aL (h.fews u (aC e)) vk,comp_map dj dj u (λo _ N M b=>⟨rfl,b⟩) q⟩
def ad2(m:Nat):vz:=(range m).map λi=>(range m).map λj=>aa (if j=i then 1 else 0)
def Aa:ST:=λa q=>∃m:Nat,a=[.int m]/\m<=100/\q (.l2 (ad2 m))
def M6(T:Tx D):gT 1 su jH Aa:=yB T.Oz Kf (λc _=>bI (bR (adn (bH lg) kW kW "row" (dO T.fB (bA vc bC)) C8 cA (G0 (bH lg) ("row"::kW) ("row"::kW) ["column"] (dO T.fB (bA vt bC)) (dZ (i:=0)) cA (Ij (b_ (z0 c.units) vc vt) (mD T.BP T.tX) (mD T.j9 T.jg))))))<|by
 rintro _ R ⟨m,rfl,h,q⟩;have sz:(100:Nat)<=sizeLine:=by decide
 have b:(rng 0 m).length<=sizeLine:=by rw[rng,ak,WP];exact aL h sz
 refine⟨⟨by lia,by lia⟩,b,WW (λi=>(range m).map λj=>aa (if j=i then 1 else 0)) m (λi f N M a=>⟨⟨by lia,by lia⟩,b,JD (λj=>aa (if j=i then 1 else 0)) m (λj d N M a=>?_) a⟩) q⟩;by_cases e:j=i
 .rw[ZY e]at a;exact dA (Zs vw) a
 .rw[ZZ e]at a;exact cp (Zp vw) a
def dT:xL->T
 |none=>.non
 |some d=>.int d
def sU:xL->Nat->Bool
 |none,n=>decide (n=0)
 |some d,n=>decide (d<n)
structure PlT(g:xj)(v:zI):Prop where
 len:v.length=g.length
 ok:∀(k:Nat)(d:xL)(u:wo),v[k]?=some d->g[k]?=some u->sU d u.length=true
def aaT:ST:=λa q=>∃(d:xL)(n:Nat),a=[dT d,.int n]/\q (.fz (.bl (sU d n)))
def XM(T:Tx D):gT 2 SN En aaT:=yB T.aju afI (λa _=>bG (cC (b_ (z0 a.units) vt bF)
  (bI (bR (mO yK vc gq)))
  bV)
  (bI (bR (vq (bJ (Xd T) (bA vc bC)) (Cq (Xj Pr Ey bF vc vt))))))<|by
 rintro _ R ⟨d,n,rfl,q⟩;by_cases e:n=0
 .subst e;cases d with
  |none=>exact q
  |some d=>exact q
 .refine cp (Zp vw) ?_;cases d with
  |none =>
   rw[show sU none n=false from Zp e]at q;exact⟨_,_,rfl,rfl,q⟩
  |some d =>
   rw[show sU (some d) n=decide ((d:Int)<(n:Int))from decide_eq_decide.mpr (by omega)]at q;exact⟨_,_,rfl,rfl,q⟩
def Cd(D:a'):ST:=λa q=>∃(s:Rat)(ns:Φ)(g:xj)(v:zI),a=[ci D s ns g,.lst (v.map dT)]/\Io ns g/\PlT g v/\q (.fz (.bl true))
def Nr(T:Tx D):gT 4 uf kJ (Cd D):=yB T.Uj Pa (λf _=>bG (cC (QW.qt (iz (dN (cM (n8 .list vt T.dI T.wM boot_list))) (gA (b_ (nM f.units) (bQ cI T.dH WJ (bA vt bC)) (qW vc T.gJ T.jX (RP T) (KS:=iB))))))
  (bI gM)
  bV)
  (bG (dh (vp T.jK (bA vt bC)) (eG (n:=2) (bN (bZ (n:=99) 2) (bN (bZ (n:=99) 3) cZ)))
  (bI (cC (dN (cM (bJ (XM T) (bA ve (bA (bQ cI T.dH WJ (bA (Ay vc T.gJ T.m5 (kQ T) (bA vn bC) (KS:=iB)) bC)) bC)))))
  (bI gM)
  bV)))
  (bI (bR gO))))<|by
 rintro _ R ⟨s,ns,g,v,rfl,h,a,q⟩;refine⟨⟨rfl,rfl⟩,_,_,_,rfl,cp ?_ ?_⟩
 .show xr true (decide ((((v.map dT).length:Nat):Int)=(ns.length:Nat)))=false;rw[ak,a.len,h.len,Zs rfl]
  rfl
 .refine Bc dT v (λk o=>∃x y,o=[.fz (ci D s ns g),.fz (.lst (v.map dT)),x,y]) ⟨_,_,rfl⟩ ?_ ?_
  .rintro k d _ e ⟨x,y,rfl⟩;have c:k<g.length:=by rw[<- a.len];exact(ao.mp e).1
   have b:=aj c;refine⟨rfl,⟨rfl,rfl⟩,_,_,_,k,_,rfl,h,b,d,(g[k]).length,?_,?_⟩
   .show[dT d,L2.T.int ((((g[k]).map dj).length:Nat):Int)]=_;rw[ak]
   .rw[a.ok k d _ e b];exact⟨_,_,rfl⟩
  .rintro _ ⟨x,y,rfl⟩;exact q
def bp(g:xj)(v:zI):xF:=v.zipIdx.map λp=>p.1.bind λd=>(g.getD p.2 [])[d]?
noncomputable def dB:wq->T
 |none=>.non
 |some o=>dj o
def xO(D:a'):ST:=λa q=>∃(s:Rat)(ns:Φ)(g:xj)(v:zI),a=[ci D s ns g,.lst (v.map dT)]/\Io ns g/\PlT g v/\q (.l1 ((bp g v).map dB))
def Jk(T:Tx D):gT 4 pY jc (xO D):=yB T.Nm Ja (λ_ _=>bI (bR (cW (bH m9) rQ rQ ["room","door"] (vp T.jK (bA vt bC)) (eG (n:=2) (bN (dZ (i:=0)) (bN (dZ (i:=1)) cZ))) cA (Ij (b_ yK vt gq) gq (bK (Ay vn T.gJ T.m5 (kQ T) (bA vc bC) (KS:=iB)) vt)))))<|by
 rintro _ R ⟨s,ns,g,v,rfl,h,f,q⟩;refine⟨by unfold sW;rw[ak,U2,ak,f.len,h.len];exact aL h.few vk,?_⟩;rw[Kp];refine comp_map (λp=>.tup [.int (p.2:Nat),dT p.1]) (λp=>dB (p.1.bind λd=>(g.getD p.2 [])[d]?)) v.zipIdx (λp m N M c=>⟨rfl,?a⟩) ?b
 case b =>
  unfold bp at q;rw[WU]at q;exact q
 case a =>
  obtain⟨d,k⟩:=p;have e:=List.mem_zipIdx_iff_getElem?.mp m;have l:k<g.length:=by rw[<- f.len];exact(ao.mp e).1
  have j:=aj l;have r:g.getD k []=g[k]:=by rw[au,j];rfl
  have o:=f.ok k d _ e j;cases d with
  |none=>exact c
  |some d =>
   have ld:d<(g[k]).length:=of_decide_eq_true o;have c:N (dB ((g.getD k [])[d]?)):=c;rw[r,aj ld]at c;exact⟨⟨rfl,rfl⟩,_,_,_,k,_,rfl,h,j,_,c7 (aj ld),c⟩
open Rw (vr jo jh pL a_ iI iK uG nu Big qZ lB oN lG oJ gP)
abbrev de:=List Int×Int
abbrev xa:=List de
abbrev b'(r:de):T:=.tup [.lst (r.1.map T.int),.int r.2]
def NN:Nat:=10^600
def nE{i:Int}(h:i.natAbs<=NN*NN*NN):Bd i:=Y3 h (by decide +kernel)
def di{i:Int}(h:i.natAbs<=NN):Bd i:=nE (aL h (by decide +kernel))
def kH{i:Int}(h:i.natAbs<=NN*NN):Bd i:=nE (aL h (by decide +kernel))
def kI{b:Int}(d:a.natAbs<=m)(c:b.natAbs<=n):(a*b).natAbs<=m*n:=by rw[VV];exact VU d c
def u_{b:Int}(h:0<b):fdiv a b=a/b:=lv _ (XY h)
def GF:ST:=λa q=>∃r:de,a=[.lst (r.1.map T.int),.int r.2]/\0<r.2/\Bd r.2/\r.1.length<=1000/\q (.fz (b' (jo r)))
def F_(T:Tx D):gT 2 Bb qy GF:=yB T.afy abf (λ_ _=>bG (bT 2 vt)
  (bG (dh (cg vc) (bZ (n:=99) 3)
  (bI (bT 2 (bJ (Y7 T) (bA ve (bA vn bC))))))
  (bI (bR (d9 (bA (cW (bH Gg) V8 ["tops","bottom","common","?top"] ["top"] (cg vc) (dZ (i:=0)) cA (bM lX vc ve)) (bA (bM lX vt vn) bC)))))))<|by
 rintro _ R ⟨⟨tops,b⟩,rfl,c,g,h,q⟩;have c:0<b:=c;have g:Bd b:=g;refine eN L2.T.int tops (λf o=>∃x,o=[.fz (.lst (tops.map L2.T.int)),.fz (.int b),.fz (.int (a_ f b)),x]) ⟨_,rfl⟩ ?_ ?_
 .rintro f a l _ e ⟨x,rfl⟩;refine⟨_,_,rfl,.fz (.int a),?_⟩;rw[show a_ (f++[a]) b=((Int.gcd a (a_ f b):Nat):Int)from by unfold a_;rw[foldl_append];rfl]
  rfl
 .rintro _ ⟨x,rfl⟩;have d:=iI (ts:=tops) c;have g1:Bd (a_ tops b):=Qk (by have:=uG (ts:=tops) c;omega) g;refine⟨by rw[ak];exact aL h vk,comp_map L2.T.int (λt=>.int (t/a_ tops b)) tops (λt k N M j=>⟨⟨by exact WS d,g1⟩,?_⟩) ⟨⟨by exact WS d,g1⟩,?_⟩⟩
  .rw[u_ d];exact j
  .rw[u_ d];have:(jo (tops,b)).1.map L2.T.int=tops.map λt=>.int (t/a_ tops b):=WU;rwa[<- this]
structure Fn(c:Rat):Prop where
 n:c.num.natAbs<=NN
 d:c.den<=NN
abbrev pr(c:Rat):Int×Int:=(c.num,c.den)
def Eb:ST:=λa q=>∃(r:de)(c:Rat),a=[b' r,aa c]/\Big NN r/\r.1.length<=1000/\Fn c/\q (.fz (b' (jo (jh r (pr c)))))
def Um(T:Tx D):gT 3 wZ mW Eb:=yB T.Vr Uw (λ_ _=>bI (bR (bJ (F_ T) (bA (cW (bH sS) yW yW ["top"] (cg (bK vc bF)) (dZ (i:=0)) cA (bM cJ vc (bK vn bF))) (bA (bM cJ (bK vc bF) (bK vt bF)) bC)))))<|by
 rintro _ R ⟨r,c,rfl,a,b,e,q⟩;have:=c.den_pos;have f:((c.den:Nat):Int).natAbs<=NN:=e.d;refine⟨by rw[ak];exact aL b vk,comp_map L2.T.int (λt=>.int (t*c.num)) r.1 (λt g N M h=>⟨⟨di (a.top t g),di e.n⟩,h⟩) ⟨⟨di a.bot,di f⟩,jh r (pr c),?_,XZ a.pos (show(0:Int)<(c.den:Nat)by lia),kH (kI a.bot f),by show(r.1.map _).length<=1000;rw[ak];exact b,q⟩⟩;show _=[L2.T.lst ((r.1.map λt=>t*c.num).map L2.T.int),.int (r.2*c.den)];rw[WU]
 rfl
def Ib:ST:=λa q=>∃(r o:de)(c:Rat),a=[b' r,b' o,aa c]/\Big NN r/\Big NN o/\r.1.length<=1000/\o.1.length=r.1.length/\Fn c/\q (.fz (b' (jo (pL r o (pr c)))))
def WY(T:Tx D):gT 3 yt pI Ib:=yB T.Zm Ik (λ_ _=>bG (bT 3 (bM cJ (bK vt bF) (bK vn bF)))
  (bG (bT 4 (bJ (Y7 T) (bA (bK vc bF) (bA ve bC))))
  (bG (bT 5 (bM lX ve vi))
  (bG (bT 6 (bM cJ (bM lX (bK vc bF) vi) (bK vn bF)))
  (bG (m6 (bH vU) Ck Ck ["one","another"] (Hs T.Km (bA (bK vc bF) (bA (bK vt bF) bC))) (eG (n:=2) (bN (dZ (i:=0)) (bN (dZ (i:=1)) cZ))) cA (bM cY (bM cJ vc (qv 7)) (bM cJ vt (qv 8))) (gZ (i:=7) Ik.nd rfl (Or.inl rfl)))
  (bI (bR (bJ (F_ T) (bA (qv 7) (bA (bM cJ (bK vc bF) vF) bC))))))))))<|by
 rintro _ R ⟨r,o,c,rfl,b,f,u,j,g,q⟩;have:=c.den_pos;have t:((c.den:Nat):Int).natAbs<=NN:=g.d;have l:0<o.2*(c.den:Int):=XZ f.pos vw;have w:=kI f.bot t;have e:=oR (a:=r.2) (WS l);have gr:((Int.gcd r.2 (o.2*(c.den:Int)):Nat):Int)≠0:=by exact WS e
 have x:Int.gcd r.2 (o.2*(c.den:Int))<=r.2.natAbs:=UZ (by have:=b.pos;omega) (Int.gcd_dvd_natAbs_left ..);have m:Bd ((Int.gcd r.2 (o.2*(c.den:Int)):Nat):Int):=di (by have:=b.bot;lia);have h:(o.2*(c.den:Int)/((Int.gcd r.2 (o.2*(c.den:Int)):Nat):Int)).natAbs<=NN*NN:=aL (Int.natAbs_ediv_le_natAbs _ _) w;have s:(r.2/((Int.gcd r.2 (o.2*(c.den:Int)):Nat):Int)).natAbs<=NN:=aL (Int.natAbs_ediv_le_natAbs _ _) b.bot;refine⟨⟨di f.bot,di t⟩,_,_,rfl,⟨gr,m⟩,⟨gr,m⟩,⟨by rw[u_ e];exact di s,di g.n⟩,?_⟩;rw[u_ e,u_ e];refine⟨by unfold Fj;rw[ak,VZ,ak,ak,j,VQ];exact aL u vk,?_⟩;rw[zip_map];refine comp_map (λp=>.tup [.int p.1,.int p.2]) (λp=>.int (p.1*(o.2*(c.den:Int)/((Int.gcd r.2 (o.2*(c.den:Int)):Nat):Int))+p.2*(r.2/((Int.gcd r.2 (o.2*(c.den:Int)):Nat):Int)*c.num))) (r.1.zip o.1) (λp k N M v=>⟨rfl,⟨di (b.top _ (UX k).1),kH h⟩,⟨di (f.top _ (UX k).2),kH (kI s g.n)⟩,v⟩) ⟨⟨di b.bot,kH h⟩,pL r o (pr c),?_,?_,nE ?_,?_,q⟩
 .show _=[L2.T.lst ((zipWith _ r.1 o.1).map L2.T.int),_];rw[map_zipWith,List.zip,map_zipWith]
  rfl
 .exact XZ b.pos (lI l (XY e) (JJ ..))
 .rw[Nat.mul_assoc];exact kI b.bot h
 .show(zipWith _ r.1 o.1).length<=1000;rwa[TH,j,VQ]
open Rw (vr jo jh pL a_ iI iK uG nu Big qZ lB oN lG oJ gP)
inductive iq where
 |swap (i j:Nat)|times (i:Nat) (c:Rat)|add (i j:Nat) (c:Rat)
noncomputable def g3:iq->T
 |.swap i j=>.tup [.str "swap",.int i,.int j]
 |.times i c=>.tup [.str "times",.int i,aa c]
 |.add i j c=>.tup [.str "add",.int i,.int j,aa c]
def ac(h:xa)(i:Nat):de:=h.getD i ([],1)
noncomputable def yU(h:xa):iq->xa
 |.swap i j=>(h.set i (ac h j)).set j (ac h i)
 |.times i c=>h.set i (jo (jh (ac h i) (pr c)))
 |.add i j c=>h.set i (jo (pL (ac h i) (ac h j) (pr c)))
def CA(n:Nat):iq->Prop
 |.swap i j=>i<n/\j<n
 |.times i c=>i<n/\Fn c
 |.add i j c=>i<n/\j<n/\Fn c
def Bg{h:xa}(a:i<h.length):h[i]?=some (ac h i):=by
 unfold ac;rw[au,aj a];rfl
def fX{h:xa}(a:i<h.length):ac h i∈h:=aC (Bg a)
def zQ(h:i<n):c6 n ((i:Nat):Int)=some i:=by
 unfold c6;rw[ZY (X9 _),ZY vw];rfl
def wV{h:xa}(a:i<h.length):cv (h.map b') ((i:Nat):Int)=some (b' (ac h i)):=c7 (Bg a)
structure Rws(h:xa)(J:Nat):Prop where
 big:∀r∈h,Big NN r
 wds:∀r∈h,r.1.length=J
 few:h.length<=100
 wde:J<=1000
def Gb:SO:=λb a R=>∃(h:xa)(C:iq)(J:Nat),b=[h.map b']/\a=[g3 C]/\Rws h J/\CA h.length C/\R [(yU h C).map b']
def Tn(T:Tx D):OkF P w K mg base 4 vR nJ (f_ K Gb):=ya T.VJ λF=>by
 refine F.okO SM (λu o R ⟨h,C,J,t,r,_⟩=>by rw[t,r];rfl) vk λz A f s H E k v=>?_;refine⟨_,(bG (bT 2 (vY 0 (bK vt bF)))
  (bI (cC (b_ (z0 k.units) (bK vt bF) tV)
  (bG (uE 0 (vY 0 (bK vt bF)) (bK vt bF))
  (bI (uE 0 vn (bK vt bF))))
  (bI (cC (b_ (z0 k.units) (bK vt bF) tV)
  (bI (uE 0 (bJ (Um T) (bA vn (bA (bK vt bF) bC))) (bK vt bF)))
  (bI (uE 0 (bJ (WY T) (bA vn (bA (vY 0 (bK vt bF)) (bA (bK vt bF) bC)))) (bK vt bF)))))))),?_⟩
 rintro l u o R p ⟨h,C,J,rfl,rfl,b,I,q⟩;obtain⟨a,rfl⟩ : ∃a,l=[a]:=by
  match l,p with
  |[a],_=>exact⟨a,rfl⟩
 have d:∀(L:List L2.T)(x y:OT),R [L]->∃g,(∀j,slot [.la a L,x,y] j=slot (zipWith OT.la [a] g) j\/[a].length<=j)/\g.length=[a].length/\R g:=λL x y q=>⟨[L],λj=>by
  cases j with
  |zero=>exact .inl rfl
  |succ j=>exact .inr vy,rfl,q⟩
 have e:(h.map b').length=h.length:=ak _
 match C,I,q with
 |.swap i j,I,q =>
  refine⟨_,wV I.1,_,wV I.2,i,zQ (e ▸ I.1),j,zQ (by rw[WH,e];exact I.2),d _ _ _ ?_⟩;rw[yU,Th,Th]at q;exact q
 |.times i c,I,q =>
  have m:=fX I.1;refine⟨_,wV I.1,ac h i,c,rfl,b.big _ m,by rw[b.wds _ m];exact b.wde,I.2,i,zQ (e ▸ I.1),d _ _ _ ?_⟩;rw[yU,Th]at q;exact q
 |.add i j c,I,q =>
  have m:=fX I.1;have n:=fX I.2.1;refine⟨_,wV I.1,_,wV I.2.1,ac h i,ac h j,c,rfl,b.big _ m,b.big _ n,by rw[b.wds _ m];exact b.wde,by rw[b.wds _ m,b.wds _ n],I.2.2,i,zQ (e ▸ I.1),d _ _ _ ?_⟩;rw[yU,Th]at q;exact q
open Rw (vr jo jh pL a_ iI iK uG nu Big qZ lB oN lG oJ gP)
def wg:ST:=λa q=>∃(r:de)(k:Nat),a=[b' r,.int k]/\k<r.1.length/\Big NN r/\q (.fz (aa (vr r k)))
def Sg(T:Tx D):gT 3 ql jO wg:=yB T.Wx Tc (λ_ _=>bI (bR (bJ (gX T) (bA (bK (bK vc bF) vt) (bA (bK vc bF) bC)))))<|by
 rintro _ R ⟨r,k,rfl,b,a,q⟩;have c:=a.pos;refine⟨_,c7 (aj b),_,_,rfl,by exact WS c,di a.bot,λx y l=>?_⟩;rw[jV l (WS c),TU];unfold vr at q;rw[au,aj b]at q;exact q
def xJ:ST:=λa q=>∃(h:xa)(J:Nat),a=[.lst (h.map b')]/\Rws h J/\q (.l1 (h.map λr=>.lst ((range J).map λk=>aa (vr r k))))
def Jl(T:Tx D):gT 3 pX iU xJ:=yB T.LK Jc (λ_ _=>bI (bR (afW (bH jN) jD jD "row" (cg vc) C8 cA (G0 (bH jN) ("row"::jD) ("row"::jD) ["top"] (cg (bK vc bF)) (dZ (i:=0)) cA (bJ (gX T) (bA vc (bA (bK vt bF) bC)))))))<|by
 rintro _ R ⟨h,J,rfl,a,q⟩;refine⟨by rw[ak];exact aL a.few vk,comp_map b' (λr=>.lst ((range J).map λk=>aa (vr r k))) h (λr b N M g=>⟨by rw[ak,a.wds r b];exact aL a.wde vk,?_⟩) q⟩;have c:=a.big r b;have f:=c.pos;refine comp_map L2.T.int (λt=>aa ((t:Rat)/(r.2:Rat))) r.1 (λt j N M g=>⟨_,_,rfl,by exact WS f,di c.bot,λx y l=>by rwa[jV l (WS f),TU]⟩) ?_;have e:(r.1.map λt:Int=>aa ((t:Rat)/(r.2:Rat)))=(range J).map λk=>aa (vr r k):=by
  refine UT (by rw[ak,ak,WP,a.wds r b]) λn d m=>?_;rw[ak]at d;rw[VX,VX,Tu];unfold vr;rw[au,aj d]
  rfl
 rwa[e]
def FA{lo:Nat}{t:T}(e:(rng (lo:Nat) n)[i]?=some t):i<n/\t=.int ((lo+i:Nat):Int):=by
 unfold rng at e;rw[aq]at e;by_cases a:i<n
 .rw[VY a]at e;cases e;exact⟨a,rfl⟩
 .rw[aM (by simpa using a)]at e;cases e
def FR{r:de}(h:0<r.2)(a:k<r.1.length):vr r k=0↔r.1[k]=0:=by
 have e:vr r k=(r.1[k] : Rat)/(r.2:Rat):=by unfold vr;rw[au,aj a];rfl
 have n:(r.2:Rat)≠0:=λz=>by have:=Rat.intCast_eq_zero_iff.mp z;lia
 rw[e];constructor
 .intro z;have:(r.1[k] : Rat)=0:=by grind
  exact Rat.intCast_eq_zero_iff.mp this
 .intro z;rw[z];grind
def BX:ST:=λa R=>∃(h:xa)(J p k:Nat),a=[.lst (h.map b'),.int p,.int k]/\Rws h J/\p<=h.length/\k<J/\(∀q,p<=q->q<h.length->vr (ac h q) k≠0->R (.fz (.int q)))/\((∀i,p<=i->i<h.length->vr (ac h i) k=0)->R (.fz .non))
def NZ(T:Tx D):gT 1 uM kO BX:=yB T.Q6 N5 (λu _=>bG (dh (Px T.fB (bA vt (bA (bQ cI T.dH WJ (bA vc bC)) bC))) (bZ (n:=99) 3)
  (bI (cC (b_ (nM u.units) (bK (bK (bK vc ve) bF) vn) bF)
  (bI (bR ve))
  bV)))
  (bI (bR gq)))<|by
 rintro _ R ⟨h,J,p,k,rfl,a,A,B,q,s⟩;have b:∀i,i<h.length->k<(ac h i).1.length:=λi l=>by rwa[a.wds _ (fX l)]
 have w:=a.few;have r:(h.map b').length=h.length:=ak _;refine⟨⟨by lia,by lia,by lia,by lia⟩,Dv (λi o=>∃x,o=[.fz (.lst (h.map b')),.fz (.int p),.fz (.int k),x]/\∀j,p<=j->j<p+i->vr (ac h j) k=0) _ 0 ⟨_,rfl,λj _ _=>by lia⟩ (λi t o e z=>?_) λo z=>?_⟩
 .obtain⟨l,rfl⟩:=FA e;rw[r]at l;have d:p+i<h.length:=by omega
  obtain⟨x,rfl,f⟩:=z;have m:=FR (a.big _ (fX d)).pos (b _ d);refine⟨_,wV d,_,c7 (aj (b _ d)),?_⟩;by_cases c:(ac h (p+i)).1[k]'(b _ d)=0
  .refine cp (by show xr true (decide (_=_))=false;rw[Zs c];rfl) ⟨_,rfl,λj g v=>?_⟩;by_cases y:j=p+i
   .rw[y];exact m.mpr c
   .exact f j g vw
  .exact dA (by show xr true (decide (_=_))=true;rw[Zp c];rfl) (q _ (X1 _ _) d λz=>c (m.mp z))
 .obtain⟨x,rfl,f⟩:=z;refine s λj g v=>f j g ?_;unfold rng;rw[ak,WP,r];lia
def JN:SO:=λc b R=>∃(h:xa)(a:xk)(C:iq)(J:Nat),c=[h.map b',a]/\b=[g3 C]/\Rws h J/\CA h.length C/\a.length<sizeLine/\R [(yU h C).map b',a++[g3 C]]
def o0(T:Tx D):OkF P w K mg base 5 Du uU (f_ K JN):=ya T.ahf λF=>by
 refine F.okO afm (λn g R ⟨h,e,C,J,m,l,_⟩=>by rw[m,l];rfl) vk λr A d s H E p o=>?_;refine⟨_,(bG (SY 0 (Tn T) (bA vn bC))
  (bI (rK 1 vn))),?_⟩
 rintro f n g R i ⟨h,e,C,J,rfl,rfl,c,I,k,q⟩;obtain⟨a,b,rfl⟩ : ∃a b,f=[a,b]:=by
  match f,i with
  |[a,b],_=>exact⟨a,b,rfl⟩
 refine⟨h,C,J,rfl,rfl,c,I,k,[(yU h C).map b',e++[g3 C]],λj=>?_,rfl,q⟩
 match j with
 |0=>exact .inl rfl
 |1=>exact .inl rfl
 |j+2=>exact .inr vy
open Rw (vr jo jh pL a_ iI iK uG nu Big qZ lB oN lG oJ gP)
def JH{h:xa}{r:de}(a:i<h.length)(j:Nat):ac (h.set i r) j=if j=i then r else ac h j:=by
 unfold ac;rw[au,au,List.getElem?_set];by_cases e:i=j
 .subst e;rw[ZY rfl,ZY rfl,ZY a];rfl
 .rw[ZZ e,ZZ (Ne.symm e)]
def Fn.of{b:Int}(d:b≠0)(i:a.natAbs<=NN)(k:b.natAbs<=NN):Fn (divInt a b):=by
 have j:=lC a d;have f:∃x y,mh a b x y:=by
  rcases Int.lt_or_lt_of_ne d with z|z
  .exact⟨_,_,Ah (c:=-((Int.gcd a b:Nat):Int)) d vw vw (Int.mul_pos_of_neg_of_neg vw z)⟩
  .exact⟨_,_,Ah (c:=((Int.gcd a b:Nat):Int)) d vw vw (XZ vw z)⟩
 obtain⟨x,y,l⟩:=f;have e:=jV l d;injection e with e;injection e with g e;injection e with h e;injection g with g;injection h with h;exact⟨by rw[<- g];exact aL l.lx i,by have:=l.ly;lia⟩
def F0{r:de}(a:k<r.1.length):vr r k=divInt r.1[k] r.2:=by
 unfold vr;rw[au,aj a,TU];rfl
def Fn.vr{r:de}{k:Nat}(h:Big NN r)(a:k<r.1.length):Fn (vr r k):=by
 have:=h.pos;rw[F0 a];exact Fn.of (WS this) (h.top _ (aU _)) h.bot
def Fn.inv(h:Fn c)(b:c≠0):Fn (1/c):=by
 have a:c.num≠0:=λz=>b (by rw[<- rd c,z];exact QR _);rw[Rat.div_def,Rat.one_mul,Rat.inv_def];exact Fn.of a h.d h.n
def Fn.neg(h:Fn c):Fn (0-c):=by
 rw[Rat.sub_eq_add_neg,T2];exact⟨by show(-c.num).natAbs<=NN;rw[Int.natAbs_neg];exact h.n,h.d⟩
def Fn.bq(h:Fn c):Bq c:=⟨di h.n,di h.d⟩
def Rws.fn{h:xa}(a:Rws h J)(b:i<h.length)(c:k<J):Fn (Rw.vr (ac h i) k):=Fn.vr (a.big _ (fX b)) (by rwa[a.wds _ (fX b)])
def Rws.of{h c:xa}(a:Rws h J)(f:c.length=h.length)(g:∀i,i<h.length->Big NN (ac c i)/\(ac c i).1.length=J):Rws c J:=by
 have:∀r∈c,Big NN r/\r.1.length=J:=λr b=>by
  obtain⟨i,d,j⟩:=List.getElem_of_mem b;have e:=Bg d;rw[aj d,j]at e;injection e with e;rw[e];exact g i (f ▸ d)
 exact⟨λr b=>(this r b).1,λr b=>(this r b).2,f ▸ a.few,a.wde⟩
def Ng(h:xa)(C:iq):(yU h C).length=h.length:=by cases C<;>simp[yU]
noncomputable def fM(r:de)(k:Nat):de:=if vr r k=1 then r else jo (jh r (pr (1/vr r k)))
def kD(h:xa)(p q k i:Nat):de:=if i=p then fM (ac h q) k else ac h (Rw.sw p q i)
def eJ(h:xa)(p q:Nat):xa:=if q=p then h else yU h (.swap p q)
def Z'(h:xa)(p q:Nat):(eJ h p q).length=h.length:=by
 unfold eJ;split
 .rfl
 .exact Ng _ _
def R1{h:xa}{p:Nat}(a:p<h.length)(b:q<h.length)(i:Nat):ac (eJ h p q) i=ac h (Rw.sw p q i):=by
 unfold eJ Rw.sw;by_cases e:q=p
 .subst e;rw[ZY rfl];by_cases c:i=q
  .rw[ZY c,c]
  .rw[ZZ c,ZZ c]
 .rw[ZZ e];show ac ((h.set p (ac h q)).set q (ac h p)) i=_;rw[JH (by rwa[WH]),JH a];by_cases c:i=q
  .subst c;rw[ZY rfl,ZZ e,ZY rfl]
  .rw[ZZ c];by_cases d:i=p
   .rw[ZY d,ZY d]
   .rw[ZZ d,ZZ d,ZZ c]
def Es:SO:=λe d R=>∃(h:xa)(a:xk)(J p q k:Nat),e=[h.map b',a]/\d=[.int p,.int q,.int k]/\Rws h J/\p<h.length/\q<h.length/\k<J/\vr (ac h q) k≠0/\a.length+2<sizeLine /\
 ∀b c,b.length=h.length->(∀i,i<h.length->ac b i=kD h p q k i)->c.length<=a.length+2->R [b.map b',c]
def RC{x y:RS}{E:DT}(J:xf->Prop)(k:∀a,J a->y E a)(h:(∀a,J a->y E a)->kY x y E o):kY x y E o:=h k
def sv(v u:Rat):(decide (v.num=u.num)&&decide (((v.den:Nat):Int)=u.den))=decide (v=u):=by
 rw[<- decide_and];refine decide_eq_decide.mpr ⟨λ⟨a,b⟩=>Rat.ext a vw,λz=>by rw[z];exact⟨rfl,rfl⟩⟩
def hD{R:vz->Prop}{a b:Addr}(L M:xk)(q:R [L,M]):∃c,(∀j,slot (.la a L::.la b M::o) j=slot (zipWith OT.la [a,b] c) j\/[a,b].length<=j)/\c.length=[a,b].length/\R c:=⟨[L,M],λj=>by
 match j with
 |0=>exact .inl rfl
 |1=>exact .inl rfl
 |j+2=>exact .inr vy,rfl,q⟩
def EM{d:Type}{c:List O}{x y:d}(e : [x,y].length=c.length):∃a b,c=[a,b]:=by
 match c,e with
 |[a,b],_=>exact⟨a,b,rfl⟩
def RJ(T:Tx D):OkF P w K mg base 6 wN mX (f_ K Es):=ya T.Vh λF=>by
 refine F.okO QM (λX Q R ⟨h,f,J,p,q,k,W,V,_⟩=>by rw[W,V];rfl) vk λai A y s H E r Y=>?_;refine⟨_,(bG (cC (b_ (nM r.units) ve vn)
  (bI (Lf 0 1 (o0 T) r.md (by rfl) (bA (d9 (bA tV (bA vn (bA ve bC)))) bC)))
  bV)
  (bG (bT 5 (bJ (Sg T) (bA (vY 0 vn) (bA vi bC))))
  (bI (cC (b_ (nM r.units) vF (mD T.BP T.tX))
  (bI (Lf 0 1 (o0 T) r.md (by rfl) (bA (d9 (bA tV (bA vn (bA (bJ (_0 T) (bA (mD T.BP T.tX) (bA vF bC))) bC)))) bC)))
  bV)))),?_⟩
 rintro as X Q R S ⟨h,f,J,p,q,k,rfl,rfl,d,M,B,U,N,Z,I⟩;obtain⟨a,b,rfl⟩:=EM S;have G:=Z' h p q;have l:=R1 M B;have z:Rw.sw p q p=q:=ZY rfl;have j:∀i,i<h.length->Rw.sw p q i<h.length:=λi m=>by
  unfold Rw.sw;split
  .exact B
  .split<;>omega
 have t:Rws (eJ h p q) J:=d.of G λi m=>by rw[l];exact⟨d.big _ (fX (j i m)),d.wds _ (fX (j i m))⟩
 refine RC (λo=>∃x,o=[.la a ((eJ h p q).map b'),.la b x,.fz (.int p),.fz (.int q),.fz (.int k),.und]/\x.length<=f.length+1) ?_ λO=>?_
 .rintro _ ⟨x,rfl,L⟩;have g:p<(eJ h p q).length:=by lia
  have C:k<(ac (eJ h p q) p).1.length:=by rwa[t.wds _ (fX g)]
  have u:=t.fn g U;refine⟨_,wV g,_,k,rfl,C,t.big _ (fX g),?_⟩;have v:vr (ac (eJ h p q) p) k=vr (ac h q) k:=by rw[l,z]
  rw[v];rw[v]at u;by_cases e:vr (ac h q) k=1
  .refine cp (by show xr true (_&&_)=false;rw[show(decide ((vr (ac h q) k).num=1)&&decide (((vr (ac h q) k).den:Int)=1))=_ from sv _ 1,Zs e];rfl) (hD _ _ (I _ _ G (λi m=>?_) (aL L (Xs _))));rw[l];unfold kD fM;split
   .rename_i c;rw[c,z]
   .rfl
  .refine dA (by show xr true (_&&_)=true;rw[show(decide ((vr (ac h q) k).num=1)&&decide (((vr (ac h q) k).den:Int)=1))=_ from sv _ 1,Zp e];rfl) ⟨1,_,rfl,N,h5,u.bq,by show Bd (1*_);rw[TW];exact di u.n,eJ h p q,x,.times p (1/vr (ac h q) k),J,rfl,rfl,t,⟨g,u.inv N⟩,by lia,hD _ _ (I _ _ (by rwa[Ng]) (λi m=>?_) (by rw[aA];show _+1<=_;exact succ_le_succ L))⟩;show ac ((eJ h p q).set p _) i=_;rw[JH g,l,l,z];unfold kD fM;split
   .rfl
   .rfl
 .by_cases e:q=p
  .refine cp (by show xr true (decide (_=_))=false;rw[Zs vw];rfl) (O [.la a (h.map b'),.la b f,.fz (.int p),.fz (.int q),.fz (.int k),.und] ⟨f,?_,by exact Xs _⟩);unfold eJ;rw[ZY e]
  .refine dA (by show xr true (decide (_=_))=true;rw[Zp vw];rfl) ⟨h,f,.swap p q,J,rfl,rfl,d,⟨M,B⟩,by lia,O [.la a ((yU h (.swap p q)).map b'),.la b (f++[g3 (.swap p q)]),.fz (.int p),.fz (.int q),.fz (.int k),.und] ⟨f++[g3 (.swap p q)],?_,by simp⟩⟩;unfold eJ;rw[ZZ e]
open Rw (vr jo jh pL a_ iI iK uG nu Big qZ lB oN lG oJ gP)
noncomputable def bB(h:xa)(p k i:Nat):de:=if i=p\/vr (ac h i) k=0 then ac h i else jo (pL (ac h i) (ac h p) (pr (0-vr (ac h i) k)))
def xH:SO:=λe d R=>∃(h:xa)(a:xk)(J p k:Nat),e=[h.map b',a]/\d=[.int p,.int k]/\Rws h J/\p<h.length/\k<J/\a.length+h.length<sizeLine/\(∀i,i<h.length->Big NN (bB h p k i)) /\
 ∀b c,b.length=h.length->(∀i,i<h.length->ac b i=bB h p k i)->c.length<=a.length+h.length->R [b.map b',c]
def Y5{h:xa}{p:Nat}(a:Rws h J)(c:p<h.length)(b:i<h.length):(bB h p k i).1.length=J:=by
 unfold bB;split
 .exact a.wds _ (fX b)
 .rw[lG];show(zipWith _ (ac h i).1 (ac h p).1).length=J;rw[TH,a.wds _ (fX b),a.wds _ (fX c),VQ]
def Jj(T:Tx D):OkF P w K mg base 6 pP iV (f_ K xH):=ya T.Mj λF=>by
 refine F.okO Ip (λaw U R ⟨h,v,J,p,k,e1,e2,_⟩=>by rw[e1,e2];rfl) vk λai A C s H E G nd=>?_;refine⟨_,(bI (dh (dO T.fB (bA (UJ 0 (bQ cI T.dH WJ (bA vc bC))) bC)) (bZ (n:=99) 4)
  (bI (cC (QW.qt (Gr (b_ (nM G.units) vi vn) (Bh (b_ (nM G.units) (bK (bK (vY 0 vi) bF) ve) bF))))
  (bG (bT 5 (bJ (oh T) (bA (mD T.j9 T.jg) (bA (bJ (Sg T) (bA (vY 0 vi) (bA ve bC))) bC))))
  (bI (Lf 0 1 (o0 T) G.md (by rfl) (bA (d9 (bA tV (bA vi (bA vn (bA vF bC))))) bC))))
  bV)))),?_⟩
 rintro as aw U R V ⟨h,v,J,p,k,rfl,rfl,f,S,Y,hl,Z,X⟩;obtain⟨a,b,rfl⟩:=EM V;have Q:(h.map b').length=h.length:=ak _;have few:=f.few;refine⟨trivial,⟨by lia,by lia⟩,lA (λn o=>∃g m x y,o=[.la a (g.map b'),.la b m,.fz (.int p),.fz (.int k),x,y]/\g.length=h.length/\(∀i,i<h.length->ac g i=if i<n then bB h p k i else ac h i)/\m.length<=v.length+n) ⟨h,v,_,_,rfl,rfl,λi _=>by rw[ZZ (WZ _)],aG _⟩ ?_ ?_⟩
 .rintro n _ I ⟨g,m,x,y,rfl,t,r,O⟩;have I:n<h.length:=by rw[Q]at I;lia
  have B:ac g n=ac h n:=by rw[r n I,ZZ (X2 _)]
  have W:ac g p=ac h p:=by
   rw[r p S];split
   .unfold bB;rw[ZY (.inl rfl)]
   .rfl
  have u:Rws g J:=f.of t λi j=>by
   rw[r i j];split
   .exact⟨Z i j,Y5 f S j⟩
   .exact⟨f.big _ (fX j),f.wds _ (fX j)⟩
  have stay:bB h p k n=ac h n->∀i,i<h.length->ac g i=if i<n+1 then bB h p k i else ac h i:=λe i j=>by
   rw[r i j];by_cases c:i=n
   .subst c;rw[ZZ (X2 _),ZY (X0 _),e]
   .by_cases d:i<n
    .rw[ZY d,ZY (WV _ d)]
    .rw[ZZ d,ZZ vw]
  by_cases e:n=p
  .exact cp (by show xr true (decide (_=_))=false;rw[Zs vw];rfl) ⟨g,m,_,_,rfl,t,stay (ZY (.inl e)),by lia⟩
  .have q:n<g.length:=by lia
   have l:k<(ac g n).1.length:=by rwa[u.wds _ (fX q)]
   have N:=FR (u.big _ (fX q)).pos l;refine dA (by show xr true (decide (_=_))=true;rw[Zp vw];rfl) ⟨_,wV q,_,c7 (aj l),?_⟩;by_cases c:(ac g n).1[k]'l=0
   .exact cp (by show xr true (decide (_=_))=false;rw[Zs c];rfl) ⟨g,m,_,_,rfl,t,stay (ZY (.inr (by rw[<- B];exact N.mpr c))),by lia⟩
   .have L:=u.fn q Y;refine dA (by show xr true (decide (_=_))=true;rw[Zp c];rfl) ⟨_,wV q,_,k,rfl,l,u.big _ (fX q),0,_,rfl,kB,L.bq,by show Bd (1*_);rw[TW];exact di L.d,g,m,.add n p (0-vr (ac g n) k),J,rfl,rfl,u,⟨q,by lia,L.neg⟩,by lia,yU g (.add n p (0-vr (ac g n) k)),m++[g3 (.add n p (0-vr (ac g n) k))],_,_,rfl,by rw[Ng];exact t,λi j=>?_,by rw[aA];show _+1<=_;lia⟩;show ac (g.set n _) i=_;rw[JH q,B,W];by_cases d:i=n
    .rw[ZY d,d,ZY (X0 _)];unfold bB;rw[ZZ λz=>z.elim e λz=>c (N.mp (by rw[B];exact z))]
    .rw[ZZ d,r i j];by_cases M:i<n
     .rw[ZY M,ZY (WV _ M)]
     .rw[ZZ M,ZZ vw]
 .rintro _ ⟨g,m,x,y,rfl,t,r,O⟩;rw[Q]at r O;exact hD _ _ (X g m t (λi j=>by rw[r i j,ZY vw]) vw)
open Rw (vr jo jh pL a_ iI iK uG nu Big qZ lB oN lG oJ gP sg jJ ji cB jU j7)
def FH(c:Rat):(((pr c).1:Int):Rat)/(((pr c).2:Int):Rat)=c:=by rw[<- TU];exact rd c
def RG(c:Rat):0<(pr c).2:=by have:=c.den_pos;show(0:Int)<(c.den:Nat);lia
def Go{r:de}(h:0<r.2):0<(jo r).2:=lI h (XY (iI h)) iK.1
def VM{r:de}(h:0<r.2)(b:vr r k≠0):0<(fM r k).2/\(fM r k).1.length=r.1.length/\(a_ (fM r k).1 (fM r k).2=1\/fM r k=r)/\∀j,vr (fM r k) j*vr r k=vr r j:=by
 unfold fM;by_cases e:vr r k=1
 .rw[ZY e];exact⟨h,rfl,.inr rfl,λj=>by rw[e,Rat.mul_one]⟩
 .rw[ZZ e];have a:0<(jh r (pr (1/vr r k))).2:=XZ h (RG _);refine⟨Go a,by rw[lG];unfold jh;rw[ak],.inl (nu a),λj=>?_⟩;rw[qZ a,lB h (RG _),FH]
  grind
def PY{h:xa}{p:Nat}(a:0<(ac h i).2)(c:0<(ac h p).2)(f:(ac h i).1.length=(ac h p).1.length):0<(bB h p k i).2/\(a_ (bB h p k i).1 (bB h p k i).2=1\/bB h p k i=ac h i)/\∀j,vr (bB h p k i) j=if i=p then vr (ac h p) j else vr (ac h i) j-vr (ac h i) k*vr (ac h p) j:=by
 unfold bB;by_cases e:i=p
 .rw[ZY (.inl e)];exact⟨a,.inr rfl,λj=>by rw[ZY e,e]⟩
 .by_cases z:vr (ac h i) k=0
  .rw[ZY (.inr z)];exact⟨a,.inr rfl,λj=>by rw[ZZ e,z];grind⟩
  .rw[ZZ λy=>y.elim e z];have b:0<(pL (ac h i) (ac h p) (pr (0-vr (ac h i) k))).2:=by
    have d:=XZ c (RG (0-vr (ac h i) k));exact XZ a (lI d (XY (oR (WS d))) (JJ _ _))
   refine⟨Go b,.inl (nu b),λj=>?_⟩;rw[qZ b,oN a c (RG _) f,FH,ZZ e]
   grind
structure FnB(M:Nat)(c:Rat):Prop where
 n:c.num.natAbs<=M
 d:c.den<=M
def FnB.vr{M:Nat}{r:de}{k:Nat}(h:Big M r)(f:k<r.1.length):FnB M (Rw.vr r k):=by
 have a:=h.pos;have g:=lC r.1[k] (WS a);have l:=Ah (t:=r.1[k]) (c:=((Int.gcd r.1[k] r.2:Nat):Int)) (WS a) vw vw (XZ vw a);have e:=jV l (WS a);rw[F0 f];injection e with e;injection e with b e;injection e with d e;injection b with b;injection d with d;exact⟨by rw[<- b];exact aL l.lx (h.top _ (aU _)),by have:=l.ly;have:=h.bot;omega⟩
structure B0(p:xa)(J N:Nat):Prop where
 big:∀i,i<p.length->Big N (ac p i)/\(ac p i).1.length=J
 one:1<=N
 mb:(2*p.length*N)^p.length<=NN
 nn:N<=NN
abbrev aT(p:xa)(i j:Nat):Int:=(ac p i).1.getD j 0
abbrev aB(p:xa)(i:Nat):Int:=(ac p i).2
structure Gs(p:xa)(J N c:Nat)(h:xa):Prop where
 len:h.length=p.length
 row:∀i,i<p.length->0<(ac h i).2/\(ac h i).1.length=J/\(a_ (ac h i).1 (ac h i).2=1\/Big N (ac h i))
 st:∃pv s,gP (aT p) (aB p) p.length J (λi j=>vr (ac h i) j) c pv s
 unit:∀i l,i<p.length->l<c->vr (ac h i) l=if i=l then 1 else 0
 ker:∀x:Nat->Rat,(∀i,i<p.length->sg (λj=>vr (ac h i) j*x j) J=0)->∀i,i<p.length->sg (λj=>vr (ac p i) j*x j) J=0
section
variable{p h:xa}{J N c q:Nat}
def B0.zero(h:B0 p J N):Gs p J N 0 p:=⟨rfl,λi a=>⟨(h.big i a).1.pos,(h.big i a).2,.inr (h.big i a).1⟩,⟨λ_=>0,id,gP.zero λi a=>(h.big i a).1.pos⟩,λ_ _ _ z=>absurd z (WZ _),λ_ z=>z⟩
def NB{N:Nat}(a:1<=m)(b:1<=N):N<=(2*m*N)^m:=by
  have x:N<=2*m*N:=lL _ vw;have y:1<=2*m*N:=VU (show 1<=2*m by lia) b
  calc N<=(2*m*N)^1:=by rwa[Nat.pow_one]
    _<=_:=XU y a
def B0.sbigM(h:B0 p J N){R:Nat->Nat->Rat}{a:Nat}(C:∃pv s,gP (aT p) (aB p) p.length J R a pv s)(c:i<p.length){r:de}(n:0<r.2)(m:r.1.length=J)(g:a_ r.1 r.2=1\/Big N r)(e:∀j,j<J->vr r j=R i j):Big ((2*p.length*N)^p.length) r:=by
 rcases g with g|g
 .obtain⟨pv,s,C⟩:=C;obtain⟨v,u,l,k,f,o⟩:=C.bound h.one (λi j c d=>by
   have b:=h.big i c;show((ac p i).1.getD j 0).natAbs<=N;rw[au,aj (by rwa[b.2])];exact b.1.top _ (aU _)) (λi c=>⟨(h.big i c).1.pos,(h.big i c).1.bot⟩) c
  exact oJ n g m l k f λj d=>by rw[e j d];exact o j d
 .exact g.le (NB vw h.one)
def B0.sbig(h:B0 p J N){R:Nat->Nat->Rat}{a:Nat}(C:∃pv s,gP (aT p) (aB p) p.length J R a pv s)(d:i<p.length){r:de}(c:0<r.2)(b:r.1.length=J)(g:a_ r.1 r.2=1\/Big N r)(e:∀j,j<J->vr r j=R i j):Big NN r:=(h.sbigM C d c b g e).le h.mb
def Gs.bigM(g:Gs p J N c h)(a:B0 p J N)(b:i<p.length):Big ((2*p.length*N)^p.length) (ac h i):=a.sbigM g.st b (g.row i b).1 (g.row i b).2.1 (g.row i b).2.2 λ_ _=>rfl
def Gs.big(g:Gs p J N c h)(a:B0 p J N)(b:i<p.length):Big NN (ac h i):=a.sbig g.st b (g.row i b).1 (g.row i b).2.1 (g.row i b).2.2 λ_ _=>rfl
def lc{p q:Nat}(b:p<m)(a:q<m)(c:i<m):Rw.sw p q i<m:=by
 unfold Rw.sw;split
 .exact a
 .split<;>omega
def C9(p q i:Nat):Rw.sw p q (Rw.sw p q i)=i:=by
 unfold Rw.sw;by_cases a:i=p
 .subst a;rw[ZY rfl];by_cases b:q=i
  .rw[ZY b,b]
  .rw[ZZ b,ZY rfl]
 .by_cases b:i=q
  .subst b;rw[ZZ a,ZY rfl,ZY rfl]
  .rw[ZZ a,ZZ b,ZZ a,ZZ b]
def Gs.next(g:Gs p J N c h)(a:B0 p J N)(d:c<p.length)(U:c<J)(S:c<=q)(m:q<p.length)(T:vr (ac h q) c≠0){rs2:xa}(O:∀i,i<p.length->ac rs2 i=kD h c q c i) :
  (∀i,i<p.length->Big NN (ac rs2 i)/\(ac rs2 i).1.length=J)/\(∀i,i<p.length->Big NN (bB rs2 c c i))/\∀w:xa,w.length=p.length->(∀i,i<p.length->ac w i=bB rs2 c c i)->Gs p J N (c+1) w:=by
 have B:Rw.sw c q c=q:=ZY rfl;obtain⟨Y,X,W,V⟩:=VM (g.row q m).1 T;have M:ac rs2 c=fM (ac h q) c:=by rw[O c d];exact ZY rfl
 have D:∀i,i<p.length->i≠c->ac rs2 i=ac h (Rw.sw c q i):=λi b n=>by rw[O i b];exact ZZ n
 have f:∀i,i<p.length->0<(ac rs2 i).2/\(ac rs2 i).1.length=J/\(a_ (ac rs2 i).1 (ac rs2 i).2=1\/Big N (ac rs2 i)):=λi b=>by
  by_cases e:i=c
  .rw[e,M];refine⟨Y,by rw[X];exact(g.row q m).2.1,W.elim .inl λz=>?_⟩;rw[z];exact(g.row q m).2.2
  .rw[D i b e];exact g.row _ (lc d m b)
 have o:=λi(b:i<p.length)=>PY (h:=rs2) (p:=c) (k:=c) (i:=i) (f i b).1 (f c d).1 (by rw[(f i b).2.1,(f c d).2.1]);have u:∀i,i<p.length->(bB rs2 c c i).1.length=J:=λi b=>by
  unfold bB;split
  .exact(f i b).2.1
  .rw[lG];show(zipWith _ (ac rs2 i).1 (ac rs2 c).1).length=J;rw[TH,(f i b).2.1,(f c d).2.1,VQ]
 have v:∀i,i<p.length->a_ (bB rs2 c c i).1 (bB rs2 c c i).2=1\/Big N (bB rs2 c c i):=λi b=>(o i b).2.1.elim .inl λz=>by rw[z];exact(f i b).2.2
 have y:∀j,vr (bB rs2 c c c) j*vr (ac h q) c=vr (ac h q) j:=λj=>by
  rw[(o c d).2.2 j,ZY rfl,M];exact V j
 have F:∀i,i<p.length->i≠c->∀j,vr (bB rs2 c c i) j=vr (ac h (Rw.sw c q i)) j-vr (ac h (Rw.sw c q i)) c*vr (bB rs2 c c c) j:=λi b n j=>by
  rw[(o i b).2.2 j,(o c d).2.2 j,ZZ n,ZY rfl,D i b n]
 have E:∃pv s,gP (aT p) (aB p) p.length J (λi j=>vr (bB rs2 c c i) j) (c+1) pv s:=by
  obtain⟨pv,s,C⟩:=g.st;have Q:=C.swap S m (R':=λi j=>vr (ac h (Rw.sw c q i)) j) λi j _ _=>rfl;exact⟨_,_,Q.pivot d (λi b=>(a.big i b).1.pos) U (by show vr (ac h (Rw.sw c q c)) c≠0;rwa[B]) (R':=λi j=>vr (bB rs2 c c i) j) (λj _=>by show vr (bB rs2 c c c) j*vr (ac h (Rw.sw c q c)) c=vr (ac h (Rw.sw c q c)) j;rw[B];exact y j) λi j b n _=>F i b n j⟩
 have P:∀i,i<p.length->Big NN (bB rs2 c c i):=λi b=>a.sbig E b (o i b).1 (u i b) (v i b) λ_ _=>rfl;refine⟨λi b=>⟨?_,(f i b).2.1⟩,P,λw R t=>⟨R,λi b=>by rw[t i b];exact⟨(o i b).1,u i b,v i b⟩,?_,λi l b L=>?_,λx K=>g.ker x λi b=>?_⟩⟩
 .by_cases e:i=c
  .rw[e];refine a.sbig E d (f c d).1 (f c d).2.1 (f c d).2.2 λj _=>?_;show _=vr (bB rs2 c c c) j;rw[(o c d).2.2 j,ZY rfl]
  .rw[D i b e];exact g.big a (lc d m b)
 .obtain⟨pv,s,C⟩:=E;exact⟨pv,s,C.congr λi j b=>by rw[t i b]⟩
 .rw[t i b];have H:l<c->vr (bB rs2 c c c) l=0:=λL=>by
   have:=y l;rw[g.unit q l m L,ZZ vw]at this
   grind
  have G:vr (bB rs2 c c c) c=1:=by
   have:=y c
   grind
  by_cases e:i=c
  .subst e;by_cases z:l<i
   .rw[H z,ZZ (Up z)]
   .rw[show l=i by lia,G,ZY rfl]
  .rw[F i b e l];by_cases z:l<c
   .rw[H z,g.unit _ l (lc d m b) z];have:(Rw.sw c q i=l)=(i=l):=by
     unfold Rw.sw;rw[ZZ e];split
     .exact propext ⟨λ_=>by lia,λ_=>by lia⟩
     .rfl
    simp only[this]
    grind
   .rw[show l=c by lia,G,ZZ e]
    grind
 .have A:=K c d;rw[t c d]at A;by_cases e:i=q
  .rw[e,cB (g:=λj=>vr (ac h q) c*(vr (bB rs2 c c c) j*x j)) λj _=>by rw[<- y j];grind,ji,A]
   grind
  .have I:=lc d m b;have n:Rw.sw c q i≠c:=λz=>by
    have:=C9 c q i;rw[z,B]at this;exact e this.symm
   have r:=K _ I;rw[t _ I]at r;rw[cB (g:=λj=>vr (bB rs2 c c (Rw.sw c q i)) j*x j+vr (ac h i) c*(vr (bB rs2 c c c) j*x j)) λj _=>by rw[F _ I n,C9];grind,jJ,ji,A,r]
   grind
def Gs.found(g:Gs p J N c h)(n:c<p.length)(k:c<J)(d:∀x:Nat->Rat,(∀j,p.length<=j->x j=0)->(∀i,i<p.length->sg (λj=>vr (ac p i) j*x j) J=0)->∀j,j<p.length->x j=0):¬∀i,c<=i->i<p.length->vr (ac h i) c=0:=λl=>by
 have:=d (λj=>if j<c then -(vr (ac h j) c)else if j=c then 1 else 0) (λj m=>by rw[ZZ vw,ZZ vw]) (g.ker _ λi f=>?_) c n
 .rw[ZZ (X2 _),ZY rfl]at this;exact absurd this vk
 .rw[cB (g:=λj=>(if j=i then 1 else 0)*(if j<c then -(vr (ac h j) c)else 0)+(if j=c then 1 else 0)*vr (ac h i) c) λj m=>?_,jJ,j7 (v:=λj=>if j<c then -(vr (ac h j) c)else 0),j7 (v:=λ_=>vr (ac h i) c),ZY k]
  .by_cases e:i<c
   .rw[ZY (Ts e k),ZY e]
    grind
   .rw[l i (VW e) f];rw[ZZ e]
    grind
  .by_cases a:j<c
   .rw[ZY a,ZY a,g.unit i j f a,ZZ (show j≠c by exact aQ a)];by_cases b:i=j
    .rw[ZY b,ZY b.symm];grind
    .rw[ZZ b,ZZ (Ne.symm b)];grind
   .rw[ZZ a,ZZ a];by_cases b:j=c
    .rw[ZY b,b];grind
    .rw[ZZ b];grind
def Gs.answer(g:Gs p (p.length+1) N p.length h)(b:i<p.length):sg (λj=>vr (ac p i) j*vr (ac h j) p.length) p.length=vr (ac p i) p.length:=by
 have:=g.ker (λj=>if j<p.length then vr (ac h j) p.length else -1) (λi b=>?_) i b
 .show _=_;rw[show sg (λj=>vr (ac p i) j*(if j<p.length then vr (ac h j) p.length else -1)) (p.length+1)=sg (λj=>vr (ac p i) j*(if j<p.length then vr (ac h j) p.length else -1)) p.length+vr (ac p i) p.length*(if p.length<p.length then vr (ac h p.length) p.length else -1)from rfl,ZZ (X2 _),cB (g:=λj=>vr (ac p i) j*vr (ac h j) p.length) λj a=>by rw[ZY a]]at this
  grind
 .rw[show sg (λj=>vr (ac h i) j*(if j<p.length then vr (ac h j) p.length else -1)) (p.length+1)=sg (λj=>vr (ac h i) j*(if j<p.length then vr (ac h j) p.length else -1)) p.length+vr (ac h i) p.length*(if p.length<p.length then vr (ac h p.length) p.length else -1)from rfl,ZZ (X2 _),cB (g:=λj=>(if j=i then 1 else 0)*vr (ac h j) p.length) λj a=>by rw[ZY a,g.unit i j b a];simp only[eq_comm],j7 (v:=λj=>vr (ac h j) p.length),ZY b]
  grind
end
open Rw (vr jo jh pL a_ iI iK uG nu Big qZ lB oN lG oJ gP sg jJ ji cB jU j7)
abbrev nY(r:xt):de:=(tops (d7 1 r) r,((d7 1 r:Nat):Int))
abbrev MP(r:xt):T:=.lst (r.map aa)
def _c(r:xt):(nY r).1.length=r.length:=ak _
def TQ(r:xt)(j:Nat):vr (nY r) j=r.getD j 0:=by
 unfold vr;have b:=iY r UP;show(((tops (d7 1 r) r).getD j 0:Int):Rat)/(((d7 1 r:Nat):Int):Rat)=_;unfold tops;rw[au,au,aq];by_cases h:j<r.length
 .rw[aj h];show((r[j].num*((d7 1 r/r[j].den:Nat):Int):Int):Rat)/_=r[j];obtain⟨k,a⟩:=(nH r (n:=1)).2 r[j] (aU h);have hd:=r[j].den_pos;rw[show d7 1 r/r[j].den=k by rw[a];exact Nat.mul_div_cancel_left _ hd];have c:k≠0:=λz=>by rw[z]at a;lia
  rw[<- TU,a,Qr,Rat.divInt_mul_right vw];exact rd _
 .rw[aM (Nat.not_lt.mp h)];show((0:Int):Rat)/_=0
  grind
structure Sys(H:vx)(N:Nat):Prop where
 wid:∀r∈H,r.length=H.length+1
 few:H.length<=100
 lev:∀r∈H,Big N (nY r)
 num:∀r∈H,∀c∈r,Bd c.num
 one:1<=N
 mb:(2*H.length*N)^H.length<=NN
 nn:N<=NN
 inj:∀x:Nat->Rat,(∀j,H.length<=j->x j=0)->(∀r∈H,sg (λj=>r.getD j 0*x j) (H.length+1)=0)->∀j,j<H.length->x j=0
def Td(a:i<H.length):ac (H.map nY) i=nY H[i]:=by
 have:=Bg (h:=H.map nY) (i:=i) (by rwa[ak]);rw[aq,aj a]at this;injection this with this;exact this.symm
def Sys.b0(h:Sys H N):B0 (H.map nY) (H.length+1) N:=⟨λi a=>by
 rw[ak]at a;rw[Td a];exact⟨h.lev _ (aU a),by rw[_c];exact h.wid _ (aU a)⟩,h.one,by rw[ak];exact h.mb,h.nn⟩
def Rws.mk'{h:xa}(c:∀i,i<h.length->Big NN (ac h i)/\(ac h i).1.length=J)(f:h.length<=100)(d:J<=1000):Rws h J:=by
 have:∀r∈h,Big NN r/\r.1.length=J:=λr a=>by
  obtain⟨i,b,g⟩:=List.getElem_of_mem a;have e:=Bg b;rw[aj b,g]at e;injection e with e;rw[e];exact c i b
 exact⟨λr a=>(this r a).1,λr a=>(this r a).2,f,d⟩
def Sys.rws{c:Nat}{h:xa}(a:Sys H N)(g:Gs (H.map nY) (H.length+1) N c h):Rws h (H.length+1):=by
 have l:=g.len;have few:=a.few;rw[ak]at l;refine Rws.mk' (λi b=>?_) (aL (WG l) few) vw;have d:i<(H.map nY).length:=by rw[g.len]at b;exact b
 exact⟨g.big a.b0 d,(g.row i d).2.1⟩
def P5(a:i<H.length)(x:Nat->Rat):sg (λj=>vr (ac (H.map nY) i) j*x j) n=sg (λj=>H[i].getD j 0*x j) n:=cB λj _=>by rw[Td a,TQ]
def Sys.inj'(h:Sys H N):∀x:Nat->Rat,(∀j,(H.map nY).length<=j->x j=0)->(∀i,i<(H.map nY).length->sg (λj=>vr (ac (H.map nY) i) j*x j) (H.length+1)=0)->∀j,j<(H.map nY).length->x j=0:=by
 rw[ak];intro x d c;refine h.inj x d λr b=>?_;obtain⟨i,a,rfl⟩:=List.getElem_of_mem b;rw[<- P5 a];exact c i a
def N7(m:Nat)(y:Nat->Rat):xk:=(range m).map λi=>.lst ((range (m+1)).map λj=>aa (if j<m then if i=j then 1 else 0 else y i))
def UN{h:xa}(a:Sys H N)(g:Gs (H.map nY) (H.length+1) N H.length h):(h.map λr=>T.lst ((range (H.length+1)).map λk=>aa (vr r k)))=N7 H.length λi=>vr (ac h i) H.length:=by
 have l:=g.len;rw[ak]at l;unfold N7;refine UT (by rw[ak,ak,WP,l]) λi b f=>?_;rw[ak]at b;rw[VX,VX,Tu];have e:=Bg b;rw[aj b]at e;injection e with e;rw[e]
 congr 1
 refine UU λj d=>?_;have d:=List.mem_range.mp d;by_cases c:j<H.length
 .rw[ZY c,g.unit i j (by rw[ak];exact aR b (WG l)) c]
 .rw[ZZ c,show j=H.length by lia]
def U'{h:xa}(g:Gs (H.map nY) (H.length+1) N H.length h):∀r∈H,sg (λj=>r.getD j 0*vr (ac h j) H.length) H.length=r.getD H.length 0:=λr a=>by
 obtain⟨i,b,rfl⟩:=List.getElem_of_mem a;have l:(H.map nY).length=H.length:=ak _;have:=Gs.answer (p:=H.map nY) (N:=N) (h:=h) (by rwa[l]) (i:=i) (by rwa[l]);rw[l,Td b,TQ]at this;rw[<- this];exact cB λj _=>by rw[TQ]
def Nb:ST:=λa R=>∃(H:vx)(N:Nat),a=[.lst (H.map MP),.int H.length]/\Sys H N/\∀(b:xk)(y:Nat->Rat),(∀r∈H,sg (λj=>r.getD j 0*y j) H.length=r.getD H.length 0)->(∀i,i<H.length->FnB ((2*H.length*N)^H.length) (y i))->R (.fz (.tup [.lst b,.lst (N7 H.length y)]))
def Xu(T:Tx D):gT 7 C_ rN Nb:=yB T.aa0 Lk (λj _=>bG (RR (bH Bm) Hw Hw ["row"] (cg vc) (dZ (i:=0)) cA (bJ (kP T) (bA vc bC)) (gZ (i:=2) Lk.nd rfl (Or.inl rfl)))
  (bG (gR 3 (dg bC))
  (bG (bT 4 bF)
  (bG (dh (dO T.fB (bA vt bC)) (bZ (n:=99) 5)
  (bG (bT 6 (UJ 2 (bJ (NZ T) (bA vn (bA vi (bA vF bC))))))
  (bI (cC (b_ Gh (qv 6) gq)
  (bG (Lf 2 3 (RJ T) j.md (by rfl) (bA vi (bA (qv 6) (bA vF bC))))
  (bG (Lf 2 3 (Jj T) j.md (by rfl) (bA vi (bA vF bC)))
  (bI (F5 4 EI bF))))
  bV))))
  (bI (Ri 3 (Ri 2 (bR (d9 (bA ve (bA (bJ (Jl T) (bA vn bC)) bC)))))))))))<|by
 rintro _ R ⟨H,N,rfl,d,I⟩;have O:(H.map MP).length=H.length:=ak _;have P:(H.map nY).length=H.length:=ak _;have v:=d.few;have w:=d.b0;have V:(H.map λr=>b' (nY r))=(H.map nY).map b':=by rw[WU];rfl
 refine⟨by rw[O];exact aL v vk,comp_map MP (λr=>b' (nY r)) H (λr j N' M Q=>⟨r,rfl,by rw[d.wid r j];lia,d.num r j,di (aL (d.lev r j).bot d.nn),Q⟩) ?_⟩;rw[V];refine⟨⟨by lia,by lia⟩,lA (λc o=>∃h f x y,o=[.fz (.lst (H.map MP)),.fz (.int H.length),.l1 (h.map b'),.l1 f,.fz (.int (c:Nat)),x,y]/\Gs (H.map nY) (H.length+1) N c h/\f.length<=102*c) ⟨_,[],_,_,rfl,w.zero,aG _⟩ ?_ ?_⟩
 .rintro c _ k ⟨h,f,x,y,rfl,g,G⟩;have k:c<H.length:=by lia
  have F:c<(H.map nY).length:=by lia
  have l:=g.len;have p:=d.rws g;have W:(20000:Nat)<sizeLine:=by decide
  refine⟨h,_,c,c,rfl,p,by lia,by exact WV _ k,λq C u B=>⟨trivial,h,f,_,c,q,c,rfl,rfl,p,by exact Y3 C u,u,by exact WV _ k,B,by lia,λe t l2 U Y=>?_⟩,λz=>(g.found F (WV _ k) d.inj' λi a b=>z i a vw).elim⟩;obtain⟨L,K,J⟩:=g.next w F (WV _ k) C (aR u (WG l)) B (rs2:=e) λi m=>U i vw;exact⟨e,t,_,c,c,rfl,rfl,Rws.mk' (λi m=>L i vw) vw vw,by lia,by exact WV _ k,by lia,λi m=>K i vw,λA s Z S X=>⟨A,s,.fz (.int c),.fz (.int q),rfl,J A vw λi m=>S i vw,by lia⟩⟩
 .rintro _ ⟨h,f,x,y,rfl,g,G⟩;have g:Gs (H.map nY) (H.length+1) N H.length h:=g;have p:=d.rws g;have l:=g.len;refine⟨h,_,rfl,p,?_⟩;have:=I f _ (U' g) λi m=>by
   have E:i<(H.map nY).length:=by lia
   have b:=g.bigM w E;rw[P]at b;exact FnB.vr b (by rw[(g.row i E).2.1];exact X0 _)
  rw[<- UN d g]at this;exact this
open Rw (vr jo jh pL a_ iI iK uG nu Big qZ lB oN lG oJ gP sg jJ ji cB jU j7)
def HX:ST:=λa q=>∃(H:vx)(n:Nat),a=[.lst (H.map MP)]/\(∀r∈H,r.length=n)/\(H=[]->n=0)/\q (.fz (.int n))
def WL(T:Tx D):gT 1 xY oZ HX:=yB T.YT Vf (λb _=>bG (cC (b_ (z0 b.units) (bQ cI T.dH WJ (bA vc bC)) bF)
  (bI (bR bF))
  bV)
  (bI (bR (bQ cI T.dH WJ (bA (bK vc bF) bC)))))<|by
 rintro _ R ⟨H,n,rfl,h,a,q⟩
 match H,h,a with
 |[],h,a=>rw[a rfl]at q;exact q
 |r::H,h,a =>
  have e:(r.map aa).length=n:=by rw[ak];exact h r (aO ..)
  rw[<- e]at q;exact⟨_,rfl,q⟩
theorem Vg(i:Nat):∀m,(range m).filter (λj=>decide (j=i))=if i<m then[i]else[]
 |0=>by rw[ZZ (WZ _)];rfl
 |m+1=>by
  rw[range_succ,List.filter_append,Vg i m];by_cases e:m=i
  .subst e;rw[ZZ (X2 _),ZY (X0 _)];simp
  .rw[List.filter_cons_of_neg (by simpa using e)];by_cases c:i<m
   .rw[ZY c,ZY (WV _ c)];rfl
   .rw[ZZ c,ZZ vw];rfl
def yC:ST:=λb q=>∃(H:vx)(a:xt),b=[.lst (H.map MP),.lst (a.map aa)]/\H.length<=100/\(∀r∈H,r.length<=100)/\q (.l1 ((zipWith (λr c=>r++[c]) H a).map MP))
def Ln(T:Tx D):gT 1 rH jq yC:=yB T.NT Nh (λ_ _=>bI (bR (cW (bH oW) uz uz ["row","right"] (Hs T.Km (bA vc (bA vt bC))) (eG (n:=2) (bN (dZ (i:=0)) (bN (dZ (i:=1)) cZ))) cA (bM cY vc (dg (bA vt bC))))))<|by
 rintro _ R ⟨H,d,rfl,h,g,q⟩;have j:(H.zip d).length<=H.length:=by rw[VZ];exact min_le_left ..
 refine⟨by unfold Fj;rw[ak,VZ,ak,ak];exact aL (aL (min_le_left ..) h) vk,?_⟩;rw[zip_map];refine comp_map (λp=>.tup [MP p.1,aa p.2]) (λp=>MP (p.1++[p.2])) (H.zip d) (λp e N M f=>⟨rfl,?a,?b⟩) ?c
 case a =>
  have:=g _ (UX e).1;show(p.1.map aa).length+1<=sizeLine;rw[ak];exact aL (show _<=101 by exact succ_le_succ this) vk
 case b =>
  show N (.lst (p.1.map aa++[aa p.2]));rw[show(p.1.map aa++[aa p.2])=(p.1++[p.2]).map aa by rw[bf];rfl];exact f
 case c =>
  rw[map_zipWith]at q;rwa[List.zip,map_zipWith]
def Gd:ST:=λa q=>∃(m:Nat)(y:Nat->Rat),a=[.lst (N7 m y),.int m]/\m<=100/\q (.l1 ((range m).map λi:Nat=>.int i))
def Ut(T:Tx D):gT 1 vW nF Gd:=yB T.Wv Ez (λf _=>bG (gR 2 (dg bC))
  (bG (dh (cg vc) (bZ (n:=99) 3)
  (bG (m6 (bH sX) zL zL ["column"] (dO T.fB (bA vt bC)) (dZ (i:=0)) (DK (b_ (nM f.units) (bK vi vc) (mD T.j9 T.jg))) vc (gZ (i:=4) Ez.nd rfl (Or.inl rfl)))
  (bI (cC (b_ HY (bQ cI T.dH WJ (bA vi bC)) bF)
  (bI (rK 2 (bK vi bF)))
  bV))))
  (bI (iD 2))))<|by
 rintro _ R ⟨m,y,rfl,h,q⟩;have sz:(1000:Nat)<=sizeLine:=by decide
 refine eN _ (range m) (λb o=>∃x z,o=[.fz (.lst (N7 m y)),.fz (.int m),.l1 (b.map λi:Nat=>.int i),x,z]) ⟨_,_,rfl⟩ ?_ ?_
 .rintro b i r _ e ⟨x,z,rfl⟩;have g:i<m:=List.mem_range.mp (e ▸ by simp);have p:b.length<m:=by have:=ZH List.length e;rw[WP,aA,length_cons]at this;lia
  refine⟨⟨by lia,by lia⟩,by rw[rng,ak,WP];exact aL (show _<=1000 by lia) sz,jy (λk:Nat=>.int (0+k)) (λj=>decide (j=i)) (λj=>.int (0+(j:Nat))) (range m) (λj a N M d l=>?_) ?_⟩
  .have a:=List.mem_range.mp a;show hName 0 (L2.T.int (0+((j:Nat):Int))) _ _;rw[show(0:Int)+((j:Nat):Int)=((j:Nat):Int)by lia]at d ⊢;refine⟨_,c7 (VY (WV _ a)),?_⟩;by_cases c:j=i
   .refine dA ?_ (d (Zs c));show xr true (_&&_)=true;rw[ZY a,ZY c.symm]
    rfl
   .refine cp ?_ (l (Zp c));show xr true (_&&_)=false;rw[ZY a,ZZ (Ne.symm c)]
    rfl
  .rw[Vg,ZY g];refine⟨_,rfl,by rw[ak];lia,.fz (.lst ((range (m+1)).map λj=>aa (if j<m then if i=j then 1 else 0 else y i))),.fz (.lst [.int (0+(i:Nat))]),?_⟩;rw[bf];show[_,_,OT.l1 (b.map _++[L2.T.int (0+(i:Nat))]),_,OT.fz (.lst [L2.T.int (0+(i:Nat))])]=[_,_,OT.l1 (b.map _++[L2.T.int (i:Nat)]),_,_];rw[show(0:Int)+((i:Nat):Int)=((i:Nat):Int)by exact Int.zero_add _]
 .rintro _ ⟨x,z,rfl⟩;exact q
def Kq:ST:=λa q=>∃(m:Nat)(y:Nat->Rat),a=[.lst (N7 m y),.lst ((range m).map λi:Nat=>.int i),.int m]/\m<=100/\q (.fz .non)
def Yx(T:Tx D):gT 1 Dg q_ Kq:=yB T.ab7 Yj (λa _=>bG (dh (Px T.fB (bA (bQ cI T.dH WJ (bA vt bC)) (bA (bQ cI T.dH WJ (bA vc bC)) bC))) (bZ (n:=99) 3)
  (bI (cC (b_ (nM a.units) (bK (bK vc ve) vn) (mD T.j9 T.jg))
  (bI (bR ve))
  bV)))
  (bI (bR gq)))<|by
 rintro _ R ⟨m,y,rfl,h,q⟩;have c:((range m).map λi:Nat=>L2.T.int i).length=m:=by rw[ak,WP]
 have b:(N7 m y).length=m:=by unfold N7;rw[ak,WP]
 refine⟨⟨by lia,by lia,by lia,by lia⟩,Dv (λ_ _=>True) _ 0 trivial (λi t o e z=>?_) λo _=>q⟩;have:=(FA e).1;lia
def EY:ST:=λa q=>∃(m:Nat)(y:Nat->Rat),a=[.lst (N7 m y),.lst ((range m).map λi:Nat=>.int i),.int m]/\m<=100/\q (.l1 ((range m).map λi=>aa (y i)))
def R8(T:Tx D):gT 1 wO m7 EY:=yB T.Wt Rm (λ_ _=>bG (gR 3 (bM cJ (dg (bA (mD T.j9 T.jg) bC)) vn))
  (bG (dh (vp T.jK (bA vt bC)) (eG (n:=2) (bN (bZ (n:=99) 4) (bN (bZ (n:=99) 5) cZ)))
  (bI (uE 3 (bK (bK vc vi) vn) vF)))
  (bI (iD 3))))<|by
 rintro _ R ⟨m,y,rfl,h,q⟩;refine⟨⟨by lia,by lia,by show 1*_<=_;exact aL (show _<=100 by lia) vk⟩,λz a=>?_⟩;have a:z=(range m).map λi=>if i<0 then aa (y i)else aa 0:=by
  rw[a,px];refine UT (by rw[aN,ak,WP];rfl) λn j g=>?_;rw[List.getElem_replicate,VX,ZZ (WZ _)]
  rfl
 subst a;refine Bc (λi:Nat=>.int i) (range m) (λk o=>∃x z,o=[.fz (.lst (N7 m y)),.fz (.lst ((range m).map λi:Nat=>.int i)),.fz (.int m),.l1 ((range m).map λi=>if i<k then aa (y i)else aa 0),x,z]) ⟨_,_,rfl⟩ ?_ ?_
 .rintro k i _ e ⟨x,z,rfl⟩;have b:k<m:=by have:=(ao.mp e).1;rwa[WP]at this
  rw[VY b]at e;cases e;refine⟨rfl,_,c7 (VY b),_,c7 (VY (X0 m)),k,zQ (by rwa[ak,WP]),.fz (.int k),.fz (.int k),?_⟩;have:((range m).map λi=>if i<k then aa (y i)else aa 0).set k (aa (if m<m then if k=m then 1 else 0 else y k))=(range m).map λi=>if i<k+1 then aa (y i)else aa 0:=by
   rw[ZZ (X2 _)];refine UT (by rw[WH,ak,ak]) λn j g=>?_;rw[getElem_set,VX,VX,Tu];by_cases c:k=n
   .rw[ZY c,ZY vw,c]
   .rw[ZZ c];by_cases d:n<k
    .rw[ZY d,ZY (WV _ d)]
    .rw[ZZ d,ZZ vw]
  rw[<- this]
  rfl
 .rintro _ ⟨x,z,rfl⟩;have:((range m).map λi=>if i<(range m).length then aa (y i)else aa 0)=(range m).map λi=>aa (y i):=UU λi f=>by rw[WP,ZY (List.mem_range.mp f)]
  rw[<- this]at q;exact q
open Rw (vr jo jh pL a_ iI iK uG nu Big qZ lB oN lG oJ gP sg jJ ji cB jU j7)
abbrev abu(H:vx)(az:xt):vx:=zipWith (λr c=>r++[c]) H az
def zN:ST:=λb R=>∃(H:vx)(a:xt)(N:Nat),b=[.lst (H.map MP),.lst (a.map aa)]/\a.length=H.length/\(∀r∈H,r.length=H.length)/\Sys (abu H a) N/\∀y:Nat->Rat,(∀r∈abu H a,sg (λj=>r.getD j 0*y j) H.length=r.getD H.length 0)->(∀i,i<H.length->FnB ((2*H.length*N)^H.length) (y i))->R (.l1 ((range H.length).map λi=>aa (y i)))
def Mq(T:Tx D):gT 8 qY jx zN:=yB T.N_ Nk (λ_ _=>bG (bT 2 (bJ (WL T) (bA vc bC)))
  (bG (bT 3 (bK (bJ (Xu T) (bA (bJ (Ln T) (bA vc (bA vt bC))) (bA vn bC))) bF))
  (bG (bT 4 (bJ (Ut T) (bA ve (bA vn bC))))
  (bG (cC (QW.qt (iz (b_ Ey (bQ cI T.dH WJ (bA vi bC)) vn) (gA (b_ Gh (bJ (Yx T) (bA ve (bA vi (bA vn bC)))) gq))))
  (bI (bR gq))
  bV)
  (bI (bR (bJ (R8 T) (bA ve (bA vi (bA vn bC))))))))))<|by
 rintro _ R ⟨H,c,N,rfl,k,d,h,g⟩;have b:(abu H c).length=H.length:=by rw[TH,k,VQ]
 have a:=h.few;rw[b]at a;refine⟨H,H.length,rfl,d,λz=>by rw[z];rfl,H,c,rfl,a,λr j=>by rw[d r j];exact a,abu H c,N,?_,h,λl y f e=>?_⟩
 .rw[b];rfl
 .rw[b]at f e ⊢;have m:((range H.length).map λi:Nat=>L2.T.int i).length=H.length:=by rw[ak,WP]
  exact⟨H.length,y,rfl,a,cp (Zp (by show ¬((((range H.length).map λi:Nat=>L2.T.int i).length:Nat):Int)<_;lia)) ⟨H.length,y,rfl,a,H.length,y,rfl,a,g y f e⟩⟩
open Rw (sg)
def zB(f:Nat->Nat->Rat)(m:Nat):vz:=(range m).map λi=>(range m).map λj=>aa (f i j)
noncomputable def uV:xz->Nat->Rat
 |[],_=>0
 |w::l,j=>(if w.1=j then w.2 else 0)+uV l j
def vm:wq->xz
 |none=>[]
 |some o=>o.ways
structure WyB(s:Rat)(m:Nat)(l:xz):Prop where
 nd:(l.map (·.1)).Nodup
 few:l.length<=1000
 lt:∀w∈l,w.1<m
 bq:∀w∈l,Bq w.2/\Bd ((s.den:Int)*w.2.den)/\Bq (s*w.2)
noncomputable def g8(s:Rat)(a:xF)(i j:Nat):Rat:=(if j=i then 1 else 0)-s*uV (vm (a.getD i none)) j
def Fq:ST:=λb q=>∃(s:Rat)(a:xF),b=[aa s,.lst (a.map dB)]/\a.length<=100/\Bq s/\(∀o∈a,WyB s a.length (vm o))/\q (.l2 (zB (g8 s a) a.length))
def aeK(f:Nat->Nat->Rat)(m:Nat):(zB f m).length=m:=by unfold zB;rw[ak,WP]
def GW{f:Nat->Nat->Rat}(h:i<m):(zB f m)[i]?=some ((range m).map λj=>aa (f i j)):=by
 unfold zB;rw[aq,VY h];rfl
def vM{f g:Nat->Nat->Rat}(h:∀i j,i<m->j<m->f i j=g i j):zB f m=zB g m:=UU λi b=>UU λj a=>by rw[h i j (List.mem_range.mp b) (List.mem_range.mp a)]
def aen{f g:Nat->Nat->Rat}{v:Rat}(h:∀a b,a<m->b<m->g a b=if a=i/\b=k then v else f a b):(zB f m).set i (((range m).map λj=>aa (f i j)).set k (aa v))=zB g m:=by
 unfold zB;refine UT (by rw[WH,ak,ak]) λa q o=>?_;have l:a<m:=by rw[ak,WP]at o;exact o
 rw[getElem_set];by_cases e:i=a
 .rw[ZY e,VX,Tu];refine UT (by rw[WH,ak,ak]) λb p n=>?_;have d:b<m:=by rw[ak,WP]at n;exact n
  rw[getElem_set,VX,VX,Tu,h a b l d];by_cases c:k=b
  .rw[ZY c,ZY ⟨e.symm,c.symm⟩]
  .rw[ZZ c,ZZ λz=>c z.2.symm,e]
 .rw[ZZ e,VX,VX,Tu];refine UU λb d=>?_;rw[h a b l (List.mem_range.mp d),ZZ λz=>e z.1.symm]
def afN{f:Nat->Nat->Rat}(h:i<m):cv (zB f m) ((i:Nat):Int)=some ((range m).map λj=>aa (f i j)):=by
 show d6 (zB f m) i=_;rw[tR,GW h]
def adt(b:xz)(w:Nat×Rat)(j:Nat):uV (b++[w]) j=uV b j+if w.1=j then w.2 else 0:=by
 induction b with
 |nil=>show(_+(0:Rat))=0+_;grind
 |cons a b c=>show _+uV (b++[w]) j=(_+uV b j)+_;rw[c];grind
def aby(h:j∉l.map (·.1)):uV l j=0:=by
 induction l with
 |nil=>rfl
 |cons a c b =>
  show(if a.1=j then a.2 else 0)+uV c j=0;rw[b λz=>h (aJ _ z),ZZ λz=>h (by rw[<- z];exact aO ..)]
  grind
noncomputable def vI(s:Rat)(a:xF)(n:Nat)(b:xz)(i j:Nat):Rat:=if i<n then g8 s a i j else if i=n then(if j=i then 1 else 0)-s*uV b j else if j=i then 1 else 0
def _Q(s:Rat)(a:xF)(n i j:Nat):vI s a n [] i j=if i<n then g8 s a i j else if j=i then 1 else 0:=by
 unfold vI;split
 .rfl
 .split
  .show _-s*0=_;grind
  .rfl
def _l{c:xF}(i j:Nat):vI s c n (vm (c.getD n none)) i j=if i<n+1 then g8 s c i j else if j=i then 1 else 0:=by
 unfold vI;by_cases a:i<n
 .rw[ZY a,ZY (show i<n+1 by exact WV _ a)]
 .by_cases b:i=n
  .subst b;rw[ZZ a,ZY rfl,ZY (show i<i+1 by exact X0 _)]
   rfl
  .rw[ZZ a,ZZ b,ZZ (show ¬i<n+1 by lia)]
def Y6(s:Rat)(b:xF)(n:Nat)(a:xz)(j:Nat):vI s b n a n j=(if j=n then 1 else 0)-s*uV a j:=by unfold vI;rw[ZZ (X2 _),ZY rfl]
def Ue{a:xF}(c b:xz)(j:Nat)(h:i≠n):vI s a n c i j=vI s a n b i j:=by unfold vI;rw[ZZ h,ZZ h]
def Q9(T:Tx D):gT 4 wL nG Fq:=ya T.Vd λ{f Y}F=>by
 refine F.okT QC (λ_ _=>bG (gR 2 (bJ (M6 T) (bA (bQ cI T.dH WJ (bA vt bC)) bC)))
  (bG (dh (vp T.jK (bA vt bC)) (eG (n:=2) (bN (bZ (n:=99) 3) (bN (bZ (n:=99) 4) cZ)))
  (bI (cC (b_ Gh vi gq)
  (bI (dh (cg (bK vi bF)) (eG (n:=2) (bN (bZ (n:=99) 5) (bN (bZ (n:=99) 6) cZ)))
  (bI (_o 2 (bJ (oh T) (bA (_k 2 ve vF) (bA (bJ (acH T) (bA vc (bA (qv 6) bC))) bC))) ve vF))))
  bV)))
  (bI (iD 2)))) ?_
 rintro _ R ⟨s,d,rfl,L,I,K,q⟩;refine⟨d.length,?_,L,?_⟩
 .show[L2.T.int (((d.map dB).length:Nat):Int)]=_;rw[ak]
 .have S:∀x:Nat,((d.map dB).length:Nat)=d.length:=λ_=>ak _;refine Bc dB d (λn o=>∃x y z u,o=[.fz (aa s),.fz (.lst (d.map dB)),.l2 (zB (λi j=>if i<n then g8 s d i j else if j=i then 1 else 0) d.length),x,y,z,u]) ⟨.und,.und,.und,.und,?_⟩ ?_ ?_
  .show[_,_,OT.l2 (zB (λi j=>if j=i then 1 else 0) d.length),_,_,_,_]=_;rw[vM (f:=λi j=>if j=i then 1 else 0) (g:=λi j=>if i<0 then g8 s d i j else if j=i then 1 else 0) λi j _ _=>by rw[ZZ (WZ _)]]
  .rintro n p _ e ⟨x,y,z,u,rfl⟩;have E:n<d.length:=(ao.mp e).1;have O:d.getD n none=p:=by rw[au,e];rfl
   have l:=K p (aC e);rw[show zB (λi j=>if i<n then g8 s d i j else if j=i then 1 else 0) d.length=zB (vI s d n []) d.length from vM λi j _ _=>(_Q s d n i j).symm];rw[show zB (λi j=>if i<n+1 then g8 s d i j else if j=i then 1 else 0) d.length=zB (vI s d n (vm p)) d.length from vM λi j _ _=>by rw[<- O];exact(_l i j).symm];refine⟨rfl,?_⟩
   match p,l with
   |none,l=>exact⟨_,_,_,_,rfl⟩
   |some o,l =>
    refine eN cr o.ways (λh H=>∃z u,H=[.fz (aa s),.fz (.lst (d.map dB)),.l2 (zB (vI s d n h) d.length),.fz (.int n),.fz (dj o),z,u]) ⟨_,_,rfl⟩ ?_ ?_
    .rintro h ⟨k,c⟩ U _ G ⟨z,u,rfl⟩;have C:(k,c)∈o.ways:=G ▸ by simp
     have M:=l.lt _ C;obtain⟨Q,P,r⟩:=l.bq _ C;have J:k∉h.map (·.1):=λz=>by
      have B:=l.nd;rw[show vm (some o)=o.ways from rfl,G,bf]at B;exact(List.nodup_append.mp B).2.2 k z k vy rfl
     have m:vI s d n h n k=if k=n then 1 else 0:=by
      unfold vI;rw[ZZ (X2 _),ZY rfl,aby J]
      grind
     have A:Bq (vI s d n h n k)/\Bd (((vI s d n h n k).den:Int)*(s*c).den):=by
      rw[m];split
      .exact⟨h5,by show Bd (1*_);rw[TW];exact r.2⟩
      .exact⟨kB,by show Bd (1*_);rw[TW];exact r.2⟩
     refine⟨rfl,_,(afN E),_,c7 (VY M),s,c,rfl,I,Q,P,_,_,rfl,A.1,r,A.2,n,_,zQ (by rwa[aeK]),GW E,k,zQ (by rwa[ak,WP]),.fz (.int k),.fz (aa c),?_⟩;rw[<- aen (f:=vI s d n h) (g:=vI s d n (h++[(k,c)])) (i:=n) (k:=k) (v:=vI s d n h n k-s*c) λa b _ _=>?_]
     .rfl
     .by_cases w:a=n
      .subst w;rw[Y6,adt];by_cases t:b=k
       .subst t;rw[ZY (show a=a/\b=b from⟨rfl,rfl⟩),Y6,ZY (show(b,c).1=b from rfl)]
        grind
       .rw[ZZ (show ¬(a=a/\b=k)from λz=>t z.2),Y6,ZZ (show ¬(k,c).1=b from λz=>t z.symm)]
        grind
      .rw[ZZ (show ¬(a=n/\b=k)from λz=>w z.1)];exact Ue _ _ _ w
    .rintro _ ⟨z,u,rfl⟩;exact⟨_,_,_,_,rfl⟩
  .rintro _ ⟨x,y,z,u,rfl⟩;rw[show zB (g8 s d) d.length=zB (λi j=>if i<d.length then g8 s d i j else if j=i then 1 else 0) d.length from vM λi j N _=>by rw[ZY N]]at q;exact q
def eV{i:Int}(h:i.natAbs<18446744073709551616):Bd i:=aR h (aL (by decide:18446744073709551616<=2^64) (XU vk vk))
abbrev hQ(ns:xi):T:=.scr (ns.map T.int)
def Sw:ST:=λa q=>∃(ns:xi)(k:Nat),a=[hQ ns,.int (k:Nat)]/\ns.length<=100/\q (.fz (.int (ns.getD k 0)))
def oX{b:Type}(h:O->b)(l:List O)(lo a:xn):fj (l.map h) lo a=(fj l lo a).map h:=by unfold fj;rw[ak,map_take,List.map_drop]
def YO(l:List O)(k:Nat):fj l (some (k:Int)) (some ((k:Int)+1))=(l.drop k).take 1:=by
 unfold fj HT.sIx;show List.take ((if(k:Int)+1<0 then _ else min ((k:Int)+1).toNat l.length)-(if(k:Int)<0 then _ else min (k:Int).toNat l.length)) (List.drop (if(k:Int)<0 then _ else min (k:Int).toNat l.length) l)=_;rw[ZZ vw,ZZ (Int.not_lt_of_ge (X9 _))];by_cases h:k<l.length
 .rw[show min ((k:Int)+1).toNat l.length=k+1 by lia,show min (k:Int).toNat l.length=k by lia,show k+1-k=1 by exact TK _ _]
 .rw[show min (k:Int).toNat l.length=l.length by lia,List.drop_length,Tk (VW h),take_nil,take_nil]
def gL(T:Tx D):gT 1 Jv Bj Sw:=yB T.aiB _v (λ_ _=>bI (bR (bK (bM cY (i_ vc (fY vt) (fY (bM cY vt bF))) (dg (bA bF bC))) bF)))<|by
 rintro _ R ⟨ns,k,rfl,a,q⟩;have e:fj (ns.map L2.T.int) (some (k:Int)) (some ((k:Int)+1))=((ns.drop k).take 1).map L2.T.int:=by rw[oX,YO]
 refine⟨?_,.int (ns.getD k 0),?_,q⟩
 .show(fj (ns.map L2.T.int) (some (k:Int)) (some ((k:Int)+1))).length+1<=sizeLine;rw[e,ak,aY];exact aL (show _<=2 by lia) vk
 .show cv (fj (ns.map L2.T.int) (some (k:Int)) (some ((k:Int)+1))++[L2.T.int 0]) 0=_;rw[e];by_cases h:k<ns.length
  .rw[QQ h,List.take_succ_cons,au,aj h]
   rfl
  .rw[Tk (VW h),au,aM (VW h)]
   rfl
noncomputable def strN(c:Int):Nat->Int×Int
 |0=>((c%1999999973+31)*765432101%1999999973,if c<0\/10^18<=c then(c.natAbs:Int)else 0)
 |k+1=>(((strN c k).1*((strN c k).1%65521+40487)+7*(k:Int)+5)%1999999973,(strN c k).2.fdiv 1000000)
noncomputable def zX(c:Int)(k:Nat):Int:=if 0<(strN c k).2 then(strN c k).2%1000000 else(strN c (k+1)).1
def GH(c:Int):∀k,0<=(strN c k).1/\(strN c k).1<1999999973
 |0=>⟨Z3 _ vk,YY _ vk⟩
 |_+1=>⟨Z3 _ vk,YY _ vk⟩
def sJ(c:Int)(k:Nat):0<=zX c k/\zX c k<2000000000:=by
 unfold zX;have:=GH c (k+1);split<;>lia
abbrev iZ(c:Int)(n:Nat):xi:=(range n).map (zX c)
def nZ:ST:=λa q=>∃(c:Int)(n:Nat),a=[.int c,.int (n:Nat)]/\n<=1000/\q (.l1 ((iZ c n).map T.int))
def hE(T:Tx D):gT 1 lY gF nZ:=yB T.aeL aci (λ_ _=>bG (gR 2 (dg bC))
  (bG (bT 3 (bM cH (bM cJ (bM cY (bM cH vc bF) bF) bF) bF))
  (bG (bT 4 bF)
  (bG (cC (QW.qt (iz (b_ Ey vc bF) (gA (b_ pj vc (bM RF bF bF)))))
  (bI (bT 4 (bQ K6 T.V6 boot_abs (bA vc bC))))
  bV)
  (bG (dh (dO T.fB (bA vt bC)) (bZ (n:=99) 5)
  (bG (bT 3 (bM cH (bM cY (bM cY (bM cJ ve (bM cY (bM cH ve bF) bF)) (bM cJ bF vF)) bF) bF))
  (bG (rK 2 (bK (dg (bA ve (bA (bM cH vi bF) bC))) (qz Uz T.adq boot_int (bA (mO HY vi bF) bC))))
  (bI (bT 4 (bM lX vi bF))))))
  (bI (iD 2)))))))<|by
 rintro _ R ⟨c,n,rfl,e,q⟩;refine qf (λo=>o=[.fz (.int c),.fz (.int (n:Nat)),.l1 [],.fz (.int (strN c 0).1),.fz (.int (strN c 0).2),.und]) ?_ λY d=>?_
 .rintro _ rfl;refine⟨⟨by lia,by lia⟩,?_⟩;refine lA (λk o=>∃x,o=[.fz (.int c),.fz (.int (n:Nat)),.l1 ((iZ c k).map L2.T.int),.fz (.int (strN c k).1),.fz (.int (strN c k).2),x]) ⟨_,rfl⟩ ?_ ?_
  .rintro k _ f ⟨x,rfl⟩;have b:=GH c k;refine⟨by decide,⟨eV vw,eV vw⟩,⟨eV vk,eV vw⟩,by decide,by decide,.int (zX c k),?_,?_,⟨by decide,eV vk⟩,.fz (.int k),?_⟩
   .by_cases h:0<(strN c k).2
    .rw[Zs h];unfold zX;rw[ZY h]
     rfl
    .rw[Zp h];unfold zX;rw[ZZ h]
     rfl
   .rw[ak,ak,WP];exact aR (show k<1001 by lia) vk
   .rw[show iZ c (k+1)=iZ c k++[zX c k]by simp[iZ,range_succ],bf]
    rfl
  .rintro _ ⟨x,rfl⟩;exact q
 .refine⟨by decide,⟨eV vw,eV vk⟩,by decide,?_⟩;refine eL (λh=>d _ ?_) λh=>⟨⟨by decide,by decide,by decide⟩,eL (λa=>d _ ?_) λa=>d _ ?_⟩
  .show _=[_,_,_,_,OT.fz (L2.T.int (if c<0\/10^18<=c then(c.natAbs:Int)else 0)),_];rw[ZY (.inl h)]
   rfl
  .show _=[_,_,_,_,OT.fz (L2.T.int (if c<0\/10^18<=c then(c.natAbs:Int)else 0)),_];rw[ZY (.inr a)]
   rfl
  .show _=[_,_,_,_,OT.fz (L2.T.int (if c<0\/10^18<=c then(c.natAbs:Int)else 0)),_];rw[ZZ (λz=>z.elim h a)]
   rfl
def Zd:ST:=λc q=>∃a b:Int,c=[.int a,.int b]/\q (.fz (.int (Int.gcd a b)))
def CU(T:Tx D):gT 1 Sq Hh Zd:=yB T.amy FI (λ_ _=>bG (Qs (bQ abw T.ac6 boot_sorted (bA (dg (bA (bQ K6 T.V6 boot_abs (bA vc bC)) (bA (bQ K6 T.V6 boot_abs (bA vt bC)) bC))) bC)) (Sr (n:=2) rfl (bN (bZ (n:=99) 2) (bN (bZ (n:=99) 3) cZ))))
  (bG (LR (b_ HY vn bF)
  (bI (S4 2 3 rfl FI.nd vk (bA (bM cH ve vn) (bA vn bC)))))
  (bI (bR ve))))<|by
 rintro _ R ⟨a,b,rfl,q⟩;refine⟨[(a.natAbs:Int),(b.natAbs:Int)],rfl,by simp,λe d j=>?_⟩;obtain⟨l,h,rfl,c⟩ : ∃l h:Nat,e=[(l:Int),(h:Int)]/\Nat.gcd l h=Int.gcd a b:=by
  have g:=d.length_eq
  match e,g with
  |[x,y],_ =>
   have i:x=(a.natAbs:Int)\/x=(b.natAbs:Int):=by simpa using d.subset (aO ..)
   rcases i with rfl|rfl
   .have:=(List.perm_cons _).mp d;have:=List.perm_singleton.mp this;cases this;exact⟨_,_,rfl,rfl⟩
   .have:=(List.perm_cons _).mp (d.trans (List.Perm.swap _ _ _));have:=List.perm_singleton.mp this;cases this;exact⟨_,_,rfl,Nat.gcd_comm _ _⟩
 refine⟨rfl,λm o=>∃(l h:Nat),o=[.fz (.int a),.fz (.int b),.fz (.int l),.fz (.int h)]/\Nat.gcd l h=Int.gcd a b/\m=l,⟨_,_,_,rfl,c,rfl⟩,?_⟩;rintro m _ ⟨l,h,rfl,c,rfl⟩;refine eL (λf=>?_) λf=>?_
 .refine⟨λo=>o=[.fz (.int a),.fz (.int b),.fz (.int ((h%m:Nat):Int)),.fz (.int m)],?_,?_⟩
  .rintro _ rfl;exact⟨h%m,mod_lt _ vw,h%m,m,rfl,(Nat.gcd_rec m h).symm.trans c,rfl⟩
  .exact⟨f,by rw[Int.natCast_emod];rfl⟩
 .have:m=0:=by lia
  subst this;rw[Nat.gcd_zero_left]at c;rw[<- c]at q;exact q
def Hv:ST:=λc q=>∃a b:Int,c=[.int a,.int b]/\0<b/\Bd b/\q (.fz (aa (divInt a b)))
def lu(T:Tx D):gT 2 Br qw Hv:=yB T.acr abY (λ_ _=>bG (bT 2 (bJ (CU T) (bA vc (bA vt bC))))
  (bI (bR (d9 (bA (bM lX vc vn) (bA (bM lX vt vn) bC))))))<|by
 rintro _ R ⟨a,b,rfl,f,hd,q⟩;have d:b≠0:=by exact WS f
 have e:=oR (a:=a) d;have g1:=Yw (a:=a) d hd;refine⟨_,_,rfl,⟨by exact WS e,g1⟩,⟨by exact WS e,g1⟩,?_⟩;have l:=Ah (t:=a) d (c:=(Int.gcd a b:Nat)) (WS e) vw (XZ e f);rw[<- jV l d]at q;exact q
def ib(c:Nat):Bool:=decide (97<=c)&&decide (c<=122)
def r_:xy:=(Str.ofString "abcdefghijklmnopqrstuvwxyz").cps.toList
def Sk:∀i:Fin 26,d6 r_ i.val=some (97+i.val):=by decide +kernel
def ov{i:Int}(a:0<=i)(b:i<26):cv r_ i=some (97+i.toNat):=by
 obtain⟨k,rfl⟩:=lZ a;exact Sk ⟨k,by lia⟩
def Ze(h:n<26):ib (97+n):=by
 unfold ib;rw[Zs (show 97<=97+n by exact X1 _ _),Zs (show 97+n<=122 by lia)];rfl
def qg(x:Str):x.cps.toList.length=x.length:=Array.length_toList
def ZD(x y:Str):(x++y).cps.toList=x.cps.toList++y.cps.toList:=by
 show(x.cps++y.cps).toList=_;rw[Array.toList_append]
def _U(x y:Str):(x++y).length=x.length+y.length:=by
 show(x.cps++y.cps).size=_;rw[Array.size_append];rfl
def EW : (Iw x none (some (n:Int))).cps.toList=x.cps.toList.take n:=by
 unfold Iw;have a:x.cps.toList.length=x.length:=Array.length_toList;show((x.cps.toList.drop 0).take (HT.sIx x.length x.length (some (n:Int))-0))=_;rw[HT.Bp,drop_zero,sub_zero,<- a];rw[List.take_eq_take_iff];lia
def Xg : (Iw x (some (n:Int)) none).cps.toList=x.cps.toList.drop n:=by
 unfold Iw;have a:x.cps.toList.length=x.length:=Array.length_toList;show((x.cps.toList.drop (HT.sIx x.length 0 (some (n:Int)))).take (x.length-HT.sIx x.length 0 (some (n:Int))))=_;rw[HT.Bp,<- a];by_cases h:n<=x.cps.toList.length
 .rw[min_eq_left h];exact QP (by rw[UQ];exact aG _)
 .rw[Tk (by lia:x.cps.toList.length<=n),Tk vw,take_nil]
def Zy{ys:List O}{a b:Nat}(c:a<=b)(h:b<=ys.length):fj ys (some (a:Int)) (some (b:Int))=(ys.drop a).take (b-a):=by
 unfold fj;rw[HT.Bp,HT.Bp,min_eq_left h,min_eq_left (aL c h)]
def D0(h:x.cps.toList.all ib)(lo:1<=x.length)(a:x.length<=8):Wd x:=by
 unfold Wd kU;rwa[qg,Zs lo,Zs a]
structure iv(ns:Φ)(n:Nat):Prop where
 len:ns.length=n
 nd:ns.Nodup
 wd:∀x∈ns,Wd x
def ZM{R:Nat->Str->Prop}(h:∀(i:Nat)x,ns[i]?=some x->R i x)(l:ns.length=n)(u:∀i j x,i<j->j<n->R i x->R j x->False):ns.Nodup:=by
 unfold Nodup;rw[List.pairwise_iff_getElem];intro i j c a b e;exact u i j ns[i] b (l ▸ a) (h i _ (aj c)) (by rw[e];exact h j _ (aj a))
def Pg{g:HG}{c:RT}{e:RE}{q:xk->Prop}(R:Nat->Str->Prop)(n:Nat)(C:∀k,k<n->∀(N:T->Prop)(M:Prop),(∀x,R k x->N (.str x))->g (.int (k:Nat)) o λw=>c w λb=>sw b (e w λy=>N (frz y)) M)(k:∀ns:Φ,ns.length=n->(∀(i:Nat)x,ns[i]?=some x->R i x)->q (ns.map T.str)):iy g c e o (rng 0 n) q:=by
 have G:∀(m j:Nat),j+m=n->∀(a:Φ),a.length=j->(∀(i:Nat)x,a[i]?=some x->R i x)->∀{q:xk->Prop},(∀ns:Φ,ns.length=n->(∀(i:Nat)x,ns[i]?=some x->R i x)->(∃d,ns=a++d/\q (d.map T.str))\/¬∃d,ns=a++d)->iy g c e o ((range' j m).map λk:Nat=>.int ((0:Int)+k)) q:=by
  intro m
  induction m with
  |zero =>
   intro j H a h r q s;rcases s a vw r with⟨d,e,z⟩|z
   .have:d=[]:=by simpa using e
    rw[this]at z;exact z
   .exact absurd ⟨[],(append_nil a).symm⟩ z
  |succ m B =>
   intro j H a h r q s;rw[List.range'_succ,map_cons];refine abA ?_;rw[Int.zero_add];refine C j vw (λt=>iy g c e o ((range' (j+1) m).map λk:Nat=>.int ((0:Int)+k)) λa=>q (t::a)) (iy g c e o ((range' (j+1) m).map λk:Nat=>.int ((0:Int)+k)) q) λx D=>?_;refine B (j+1) vw (a++[x]) (by simp[h]) (λi y f=>?_) λns p u=>?_
   .by_cases F:i<a.length
    .rw[aF F]at f;exact r i y f
    .have E:=(ao.mp f).1;rw[aA,length_singleton]at E;have:i=a.length:=by lia
     subst this;rw[aD (aG _),Nat.sub_self]at f;cases f;exact h ▸ D
   .by_cases z:∃d,ns=a++[x]++d
    .obtain⟨d,e⟩:=z;refine .inl ⟨d,e,?_⟩;rcases s ns p u with⟨l,A,v⟩|z
     .rw[e,Wp]at A;have:=List.append_cancel_left A;rw[<- this]at v;exact v
     .exact absurd ⟨x::d,by rw[e,Wp];rfl⟩ z
    .exact .inr z
 have:=G n 0 (U1 _) [] rfl (λi x z=>by cases z) (q:=q) λns p u=>.inl ⟨ns,rfl,k ns p u⟩;rw[<- List.range_eq_range']at this;exact this
def r2(c:Nat)(i:Nat)(x:Str):Prop:=x.cps.toList=replicate (i+1) c
def i6(b:xy)(a:Nat)(c C:Int)(i:Nat)(x:Str):Prop:=x.cps.toList=b.take a++(97+((c+C*i)%26).toNat)::b.drop a
def YA{b:xy}{a:Nat}{c C:Int}(I:C=1\/C=3\/C=5\/C=7\/C=9\/C=11)(g:i<j)(h:j<26)(f:i6 b a c C i x)(d:i6 b a c C j x):False:=by
 have e:=f.symm.trans d;have e:=List.append_cancel_left e;injection e with e _;rcases I with rfl|rfl|rfl|rfl|rfl|rfl<;>omega
def SS{c:Nat}(b:ib c)(a:i<8)(h:r2 c i x):Wd x:=by
 have l:=qg x;rw[h,aN]at l;refine D0 ?_ vw vw;rw[h,all_eq_true];intro d hd;rwa[(List.mem_replicate.mp hd).2]
def SH{b:xy}{c:Nat}{e C:Int}(a:b.all ib)(f:b.length<=7)(h:i6 b c e C i x):Wd x:=by
 have l:=qg x;rw[h,aA,length_cons,aY,UQ]at l;refine D0 ?_ vw (by omega);rw[h,all_eq_true];rw[all_eq_true]at a;intro d hd;rcases Y1.mp hd with hd|hd
 .exact a d (mem_of_mem_take hd)
 .rcases YU.mp hd with rfl|hd
  .exact Ze vw
  .exact a d (List.mem_of_mem_drop hd)
theorem Pn:∀(b:Φ)(a:Array Nat),(b.foldl (λa p=>a++(Str.ofString "").cps++p.cps) a).toList=a.toList++(b.map λy=>y.cps.toList).flatten
 |[],a=>by simp
 |y::b,a=>by
  have c:(Str.ofString "").cps = #[]:=by decide +kernel
  rw[foldl_cons,Pn b,c,Array.append_empty,Array.toList_append,map_cons,flatten_cons,Wp]
def nc(a:Φ):(Txt.join (Str.ofString "") a).cps.toList=(a.map λy=>y.cps.toList).flatten:=by
 show((a.drop 1).foldl (λb p=>b++(Str.ofString "").cps++p.cps) (a.headD Str.empty).cps).toList=_;rw[Pn];cases a with
 |nil=>rfl
 |cons y a=>rfl
def SE{c d:RT}{x y z:RS}{E:DT}(b:Bool)(h:∀q:Bool->Prop,q b->nj c d o q)(e:sw b (x { E with nx:=z E } o) (y { E with nx:=z E } o)):kY (ti (nj c d) x y) z E o:=h (λk=>sw k (x { E with nx:=z E } o) (y { E with nx:=z E } o)) e
def U7:ST:=λa q=>∃(c:Int)(n:Nat),a=[.int c,.int (n:Nat)]/\n<=26/\∀ns:Φ,iv ns n->q (.l1 (ns.map T.str))
def iu{c:Int}(h:k<n:=by decide):cv ((iZ c n).map T.int) (k:Nat)=some (.int (zX c k)):=by
 show d6 ((iZ c n).map T.int) k=_;rw[tR,aq,aq,VY h];rfl
def Fs(T:Tx D):gT 2 Nf zO U7:=yB T.ahc ad5 (λX _=>bG (bT 2 tV)
  (bG (bT 3 (bJ (hE T) (bA vc (bA bF bC))))
  (bG (cC (QW.qt (Gr (b_ (z0 X.units) (bM cH (bK ve bF) bF) bF) (Bh (b_ Pr vt bF))))
  (bI (bR (cW (bH Bf) wI wI ["_law_k"] (dO T.fB (bA vt bC)) (dZ (i:=0)) cA (bM cJ (bK ve (bM cH (bK vi bF) bF)) (bM cY vc bF)))))
  bV)
  (bG (bT 4 (afV tV (bA (cW (bH Bf) wI wI ["_law_x"] (cg (i_ ve (fY bF) (fY (bM cY bF (bM cH (bK ve bF) bF))))) (dZ (i:=0)) cA (bK ve (bM cH vc bF))) bC)))
  (bG (bT 5 (bM cH (bK ve bF) bF))
  (bG (bT 6 (bK (dg (bA bF (bA bF (bA bF (bA bF (bA bF (bA bF bC))))))) (bM cH (bK ve bF) bF)))
  (bI (bR (cW (bH Bf) wI wI ["_law_k"] (dO T.fB (bA vt bC)) (dZ (i:=0)) cA (bM cY (bM cY (i_ vF FJ (fY (qv 6))) (bK ve (bM cH (bM cY (bK vi bF) (bM cJ (qv 7) vc)) bF))) (i_ vF (fY (qv 6)) FJ)))))))))))<|by
 rintro _ R ⟨c,n,rfl,P,q⟩;refine⟨c,11,rfl,by decide,?_⟩;have s0:=sJ c 0;have s1:=sJ c 1;have A:(Str.ofString "abcdefghijklmnopqrstuvwxyz").length<=sizeLine:=aL (show _<=1000 by decide +kernel) vk;have K:(rng 0 n).length<=sizeLine:=by rw[rng,ak,WP];exact aL P vk
 dsimp only;refine SE (decide (zX c 0%3=1)&&decide ((n:Int)<=8)) (λq v=>?_) ?_
 .refine⟨_,iu (k:=0),by decide,?_⟩;refine eL (λh=>?_) λh=>?_
  .rw[Zs h,Bool.true_and]at v;exact v
  .rw[Zp h,Bool.false_and]at v;exact v
 .refine fW (λU=>?_) λU=>?_
  .simp only[JS,decide_eq_true_eq]at U;refine⟨⟨by lia,by lia⟩,K,Pg (r2 (97+(zX c 1%26).toNat)) n (λk Y N M r=>?_) λns p s=>q ns ⟨p,ZM s p λi j x L S E B=>?_,λx l=>?_⟩⟩
   .refine⟨_,iu (k:=1),by decide,A,_,ov (Z3 _ vk) (YY _ vk),_,rfl,by lia,by lia,λz O=>r z ?_⟩;rw[show((k:Int)+1).toNat=k+1 by lia]at O;exact O
   .have:=ZH List.length (E.symm.trans B);rw[aN,aN]at this;lia
   .obtain⟨i,w⟩:=aV l;have li:=(ao.mp w).1;exact SS (Ze vw) vw (s i x w)
  .obtain⟨m,em,Q⟩ : ∃m:Nat,zX c 1%8=m/\m<=7:=⟨(zX c 1%8).toNat,by lia,by lia⟩;have V:fj ((iZ c 11).map L2.T.int) (some 2) (some (2+zX c 1%8))=(((iZ c 11).drop 2).take m).map L2.T.int:=by
    rw[em,oX];have:=Zy (ys:=iZ c 11) (a:=2) (b:=2+m) (X1 _ _) (by rw[ak,WP];lia);rw[show 2+m-2=m by exact TK _ _]at this;exact ZH (List.map L2.T.int) this
   have u:(((iZ c 11).drop 2).take m).length=m:=by rw[aY,UQ,ak,WP];lia
   refine⟨_,iu (k:=1),by decide,?_⟩;dsimp only[frz];show(fj ((iZ c 11).map L2.T.int) (some 2) (some (2+zX c 1%8))).length<=sizeLine/\_;rw[V];have t:∀x∈((iZ c 11).drop 2).take m,0<=x:=λx l=>by
    obtain⟨k,_,rfl⟩:=YV.mp (List.mem_of_mem_drop (mem_of_mem_take l));exact(sJ c k).1
   generalize((iZ c 11).drop 2).take m=f at u t ⊢;have e0:(Str.ofString "").length=0:=by decide +kernel
   refine⟨by rw[ak,u];exact aL Q vk,comp_map L2.T.int (λx=>.str ⟨#[97+(x%26).toNat]⟩) f (λx l N M r=>⟨by decide,A,_,ov (Z3 _ vk) (YY _ vk),r⟩) ⟨f.map λx=>⟨#[97+(x%26).toNat]⟩,by rw[WU];rfl,?_,?_⟩⟩
   .rw[e0,Nat.mul_zero,Nat.add_zero,WU,show((λx:Str=>x.length) ∘ λx:Int=>(⟨#[97+(x%26).toNat]⟩ : Str))=λ_=>1 from rfl,map_const',List.sum_replicate_nat];lia
   have G:(Txt.join (Str.ofString "") (f.map λx=>(⟨#[97+(x%26).toNat]⟩ : Str))).cps.toList=f.map λx=>97+(x%26).toNat:=by
    rw[nc,WU]
    clear u t V
    induction f with
    |nil=>rfl
    |cons x f W=>rw[map_cons,flatten_cons,W];rfl
   have y:(Txt.join (Str.ofString "") (f.map λx=>(⟨#[97+(x%26).toNat]⟩ : Str))).length<=7:=by rw[<- qg,G,ak];exact aL (WG u) Q
   have H:(f.map λx=>97+(x%26).toNat).all ib=true:=by
    rw[all_eq_true];intro d hd;obtain⟨x,l,rfl⟩:=YV.mp hd;exact Ze vw
   rw[<- G]at H;generalize Txt.join (Str.ofString "") (f.map λx=>(⟨#[97+(x%26).toNat]⟩ : Str))=C at y H ⊢
   clear G
   have s9:=sJ c 9;have j2:=sJ c 10;obtain⟨o,F,rf⟩ : ∃o:Nat,zX c 9%8=o/\o<=7:=⟨(zX c 9%8).toNat,by lia,by lia⟩;obtain⟨g,Z,I⟩ : ∃g:Int,cv [L2.T.int 1,L2.T.int 3,L2.T.int 5,L2.T.int 7,L2.T.int 9,L2.T.int 11] (zX c 10%6)=some (.int g)/\(g=1\/g=3\/g=5\/g=7\/g=9\/g=11):=by
    obtain e|e|e|e|e|e:zX c 10%6=0\/zX c 10%6=1\/zX c 10%6=2\/zX c 10%6=3\/zX c 10%6=4\/zX c 10%6=5:=by lia
    .exact⟨1,by rw[e];rfl,by decide⟩
    .exact⟨3,by rw[e];rfl,by decide⟩
    .exact⟨5,by rw[e];rfl,by decide⟩
    .exact⟨7,by rw[e];rfl,by decide⟩
    .exact⟨9,by rw[e];rfl,by decide⟩
    .exact⟨11,by rw[e];rfl,by decide⟩
   have z7:(16:Nat)<=sizeLine:=by decide
   refine⟨_,iu (k:=9),by decide,?_⟩;dsimp only[frz];rw[F];refine⟨_,iu (k:=10),by decide,_,Z,⟨by lia,by lia⟩,K,Pg (i6 C.cps.toList o (zX c 0) g) n (λk Y N M r=>?_) λns p s=>q ns ⟨p,ZM s p λi j x L S E B=>YA I L (aR S P) E B,λx l=>?_⟩⟩
   .have t1:(Iw C none (some (o:Int))).length<=7:=by rw[<- qg,EW,aY,qg];lia
    have t2:(Iw C (some (o:Int)) none).length<=7:=by rw[<- qg,Xg,UQ,qg];exact aL (sub_le _ _) y
    have J:∀d:Nat,({ cps:=#[d] } : Str).length=1:=λ_=>rfl;refine⟨by exact aL y vk,_,iu (k:=0),⟨eV vw,eV vw⟩,by decide,A,_,ov (Z3 _ vk) (YY _ vk),by rw[J];lia,by exact aL y vk,by rw[_U,J];lia,r _ ?_⟩;unfold i6;rw[ZD,ZD,EW,Xg,Wp];rfl
   .obtain⟨i,w⟩:=aV l;exact SH H (by rwa[qg]) (s i x w)
def Dk(l:xz)(a:xi):Rat:=(l.map λw=>w.2*((a.getD w.1 0:Int):Rat)).sum
structure HV(l:xz)(tp:xi):Prop where
 few:l.length<=1000
 lt:∀w∈l,w.1<tp.length
 num:∀w∈l,Bd w.2.num
 lcm:Bd (d7 1 (l.map (·.2)):Nat)
 part:∀t∈tops (d7 1 (l.map (·.2))) (l.map (·.2)),Bd t
 top:∀t∈tp,Bd t
def zR:ST:=λb q=>∃(o:bO)(a:xi),b=[dj o,.lst (a.map T.int)]/\HV o.ways a/\q (.fz (aa (Dk o.ways a)))
theorem T9{B:Nat}(f:0<B)(a:xi):∀l:xz,(∀w∈l,w.2.den ∣ B)->divInt ((l.map λw=>w.2.num*((B/w.2.den:Nat):Int)*a.getD w.1 0).sum) B=Dk l a
 |[],_=>by
  show divInt 0 B=0;exact QR _
 |w::l,h=>by
  have c:=T9 f a l λx d=>h x (aJ _ d);show divInt (w.2.num*((B/w.2.den:Nat):Int)*a.getD w.1 0+(l.map λw=>w.2.num*((B/w.2.den:Nat):Int)*a.getD w.1 0).sum) B=w.2*((a.getD w.1 0:Int):Rat)+Dk l a;rw[<- c,TU,TU,Rat.intCast_add,XV];have e:((w.2.num*((B/w.2.den:Nat):Int):Int):Rat)/((B:Int):Rat)=w.2:=by
   obtain⟨k,b⟩:=h w (aO ..);have hd:=w.2.den_pos;rw[show B/w.2.den=k by rw[b];exact Nat.mul_div_cancel_left _ hd];have i:k≠0:=λz=>by rw[z]at b;lia
   rw[<- TU,b,Qr,Rat.divInt_mul_right vw];exact rd _
  have g:((B:Int):Rat)≠0:=λz=>by have:=Rat.intCast_eq_zero_iff.mp z;lia
  grind
def aeN(l:List O)(g h:O->Int):((l.map g).zip l).map (λp=>p.1*h p.2)=l.map λw=>g w*h w:=by
 induction l with
 |nil=>rfl
 |cons w l a=>exact ZH (List.cons _) a
def MK(T:Tx D):gT 3 rD jL zR:=yB T.N6 M_ (λ_ _=>bG (bT 2 (bJ (kP T) (bA (cW (bH k_) kh kh ["room","chance"] (cg (bK vc bF)) (eG (n:=2) (bN (dZ (i:=0)) (bN (dZ (i:=1)) cZ))) cA vt) bC)))
  (bI (bR (bJ (gX T) (bA (bQ (Yb rfl) T.afd boot_sum (bA (cW (bH k_) kh kh ["part","way"] (Hs T.Km (bA (bK vn bF) (bA (bK vc bF) bC))) (eG (n:=2) (bN (dZ (i:=0)) (bN (dZ (i:=1)) cZ))) cA (bM cJ vc (bK ve (bK vt bF)))) bC)) (bA (bK vn bF) bC))))))<|by
 rintro _ R ⟨o,d,rfl,h,q⟩;refine⟨by rw[ak];exact aL h.few vk,comp_map cr (λw=>aa w.2) o.ways (λw hw N M c=>⟨rfl,c⟩) ?_⟩;have j:=iY (o.ways.map (·.2)) UP;refine⟨o.ways.map (·.2),by rw[WU];rfl,by rw[ak];exact h.few,λr g=>?_,h.lcm,?_⟩
 .obtain⟨w,hw,rfl⟩:=YV.mp g;exact h.num w hw
 .refine⟨by unfold Fj;rw[ak,VZ,ak,ak];exact aL (aL (Nat.min_le_right ..) h.few) vk,?_⟩;rw[zip_map];refine comp_map (λp:Int×(Nat×Rat)=>.tup [.int p.1,cr p.2]) (λp=>.int (p.1*d.getD p.2.1 0)) _ (λp e N M c=>?a) ?b
  case a =>
   have f:=(UX e).2;have lt:=h.lt _ f;have c:N (.int (p.1*d.getD p.2.1 0)):=c;rw[au,aj lt]at c;exact⟨rfl,_,c7 (aj lt),⟨h.part _ (UX e).1,h.top _ (aU lt)⟩,c⟩
  case b =>
   refine⟨((tops (d7 1 (o.ways.map (·.2))) (o.ways.map (·.2))).zip o.ways).map λp=>p.1*d.getD p.2.1 0,by rw[WU];rfl,_,_,rfl,by lia,h.lcm,λx y l=>?_⟩;rw[jV l vw];unfold tops;rw[WU,aeN o.ways _ λw=>d.getD w.1 0];have:=T9 j d o.ways λw hw=>(nH (o.ways.map (·.2))).2 w.2 (YV.mpr ⟨w,hw,rfl⟩);rw[<- this]at q;exact q
open Rw (sg jJ ji cB jU j7 Big)
def dw(l:xz)(x:Nat->Rat):Rat:=(l.map λw=>w.2*x w.1).sum
def QJ(l:xz):Rat:=(l.map (·.2)).sum
theorem dJ(w:Nat×Rat)(l:xz)(x:Nat->Rat):dw (w::l) x=w.2*x w.1+dw l x:=rfl
theorem Ax(w:Nat×Rat)(l:xz):QJ (w::l)=w.2+QJ l:=rfl
theorem o_{M:Rat}{x:Nat->Rat} : ∀{l:xz},(∀w∈l,0<=w.2/\x w.1<=M)->dw l x<=QJ l*M
 |[],_=>by show(0:Rat)<=0*M;rw[Rat.zero_mul];exact W1
 |w::l,h=>by
  rw[dJ,Ax];have:=o_ (l:=l) λv c=>h v (aJ _ c);obtain⟨a,b⟩:=h w (aO ..);have:=Rat.mul_le_mul_of_nonneg_left b a
  grind
theorem DJ{m:Nat}{x:Nat->Rat} : ∀{l:xz},(∀w∈l,w.1<m)->sg (λj=>uV l j*x j) m=dw l x
 |[],_=>by
  show sg (λj=>0*x j) m=0;rw[cB (g:=λ_=>0) λj _=>Rat.zero_mul _,jU]
 |w::l,h=>by
  rw[dJ,<- DJ (m:=m) (l:=l) λv a=>h v (aJ _ a)];rw[cB (g:=λj=>(if j=w.1 then 1 else 0)*(w.2*x j)+uV l j*x j) λj _=>?_,jJ,j7 (v:=λj=>w.2*x j),ZY (h w (aO ..))];show((if w.1=j then w.2 else 0)+uV l j)*x j=_;by_cases e:w.1=j
  .rw[ZY e,ZY e.symm];grind
  .rw[ZZ e,ZZ (Ne.symm e)];grind
theorem UL(x:Nat->Rat):∀{m:Nat},0<m->∃i,i<m/\∀j,j<m->x j<=x i
 |0,h=>absurd h (WZ _)
 |1,_=>⟨0,UP,λj a=>by rw[show j=0 by exact Nat.eq_zero_of_le_zero (VT a)];exact W1⟩
 |m+2,_=>by
  obtain⟨i,b,h⟩:=UL x (m:=m+1) (TR _);by_cases c:x i<=x (m+1)
  .refine⟨m+1,by exact X0 _,λj a=>?_⟩;by_cases e:j=m+1
   .rw[e];exact W1
   .exact Rat.le_trans (h j (XX (VT a) e)) c
  .refine⟨i,by exact Ts b (X0 _),λj a=>?_⟩;by_cases e:j=m+1
   .rw[e];exact UK (Rat.not_le.mp c)
   .exact h j (XX (VT a) e)
def ED{a:xF}{x:Nat->Rat}(b:i<a.length)(h:∀w∈vm (a.getD i none),w.1<a.length):sg (λj=>g8 s a i j*x j) a.length=x i-s*dw (vm (a.getD i none)) x:=by
 rw[<- DJ h,cB (g:=λj=>(if j=i then 1 else 0)*x j+(-s)*(uV (vm (a.getD i none)) j*x j)) λj _=>by unfold g8;grind,jJ,ji,j7 (v:=x),ZY b]
 grind
theorem M4(x:Nat->Rat):∀l:xz,dw l (λj=>-(x j))=-(dw l x)
 |[]=>by show(0:Rat)=-0;grind
 |w::l=>by rw[dJ,dJ,M4 x l];grind
def ab0(a:xt)(k:Nat):(((tops (d7 1 a) a).getD k 0:Int):Rat)=a.getD k 0*((d7 1 a:Nat):Rat):=by
 have h:=TQ a k;unfold Rw.vr at h;have b:=iY a UP;have n:((((d7 1 a:Nat):Int)):Rat)≠0:=λz=>by have:=Rat.intCast_eq_zero_iff.mp z;lia
 have e:((((d7 1 a:Nat):Int)):Rat)=((d7 1 a:Nat):Rat):=rfl;rw[<- e,<- h];show _=(((tops (d7 1 a) a).getD k 0:Int):Rat)/_*_
 grind
theorem Bk(a:xt):∀l:xz,Dk l (tops (d7 1 a) a)=dw l (λk=>a.getD k 0)*((d7 1 a:Nat):Rat)
 |[]=>by show(0:Rat)=0*_;rw[Rat.zero_mul]
 |w::l=>by
  show w.2*(((tops (d7 1 a) a).getD w.1 0:Int):Rat)+Dk l _=_;rw[Bk a l,dJ,ab0]
  grind
theorem Vt{x z:Nat->Rat} : ∀{l:xz},(∀w∈l,x w.1=z w.1)->dw l x=dw l z
 |[],_=>rfl
 |w::l,h=>by rw[dJ,dJ,h w (aO ..),Vt λv a=>h v (aJ _ a)]
theorem Te{x z:Nat->Rat} : ∀{l:xz},(∀w∈l,0<=w.2/\x w.1<=z w.1)->dw l x<=dw l z
 |[],_=>W1
 |w::l,h=>by
  rw[dJ,dJ];have:=Te (l:=l) λv c=>h v (aJ _ c);obtain⟨a,b⟩:=h w (aO ..);have:=Rat.mul_le_mul_of_nonneg_left b a
  grind
theorem Hi(x z:Nat->Rat):∀l:xz,dw l (λj=>x j-z j)=dw l x-dw l z
 |[]=>by show(0:Rat)=0-0;grind
 |w::l=>by rw[dJ,dJ,dJ,Hi x z l];grind
def DH{g:xj}(e:v[i]?=some d):(bp g v).getD i none=d.bind λd=>(g.getD i [])[d]?:=by
 unfold bp;rw[au,aq,List.getElem?_zipIdx,e];simp
def kK(s:Rat)(a:xF):vx:=(range a.length).map λi=>(range a.length).map λj=>g8 s a i j
def Nw(s:Rat)(a:xF):(zB (g8 s a) a.length).map T.lst=(kK s a).map MP:=by
 unfold zB kK;rw[WU,WU];refine UU λi _=>?_;show T.lst _=T.lst (List.map aa _);rw[WU]
 rfl
def Si{g:xj}(h:PlT g v):(bp g v).length=g.length:=by unfold bp;rw[ak,U2,h.len]
def _X{A Q:Nat}{r:xt}(e:1<=A)(d:0<Q)(h:∀c∈r,c.den ∣ Q/\c.num.natAbs<=A*c.den):Big (A*Q) (nY r):=by
 have f:=iY r UP;have hd:d7 1 r ∣ Q:=v7 r (JY _) λc a=>(h c a).1;have le:=UZ d hd;refine⟨by show(0:Int)<(d7 1 r:Nat);lia,?_,λt b=>?_⟩
 .show((d7 1 r:Nat):Int).natAbs<=A*Q;rw[XT];exact aL le (lL _ e)
 .obtain⟨c,a,rfl⟩:=YV.mp b;rw[VV,XT];refine aL (Nat.mul_le_mul_right _ (h c a).2) ?_;rw[Nat.mul_assoc,Nat.mul_div_cancel' ((nH r).2 c a)];exact jT _ le
def dm(S:Nat->Bool)(d:xy):Bool:=d.any S
def jn:Bool->vj->(Nat->Bool)->Bool
 |false,u,S=>u.any (dm S)
 |true,u,S=>decide (0<u.length)&&u.all (dm S)
def Ei : jn false u S=true↔∃d∈u,∃r∈d,S r:=by simp[jn,dm,List.any_eq_true]
def UW : jn true u S=true↔0<u.length/\∀d∈u,∃r∈d,S r:=by simp[jn,dm]
structure Lfp(e:Bool)(m:Nat)(mk:Nat->Bool)(ld:Nat->vj)(S:Nat->Bool):Prop where
 base:∀k,k<m->mk k=true->S k=true
 step:∀k,k<m->jn e (ld k) S=true->S k=true
 least:∀A:Nat->Bool,(∀k,k<m->mk k=true->A k=true)->(∀k,k<m->jn e (ld k) A=true->A k=true)->∀k,k<m->S k=true->A k=true
structure WyO(m:Nat)(o:bO):Prop where
 lt:∀w∈o.ways,w.1<m
 pos:∀w∈o.ways,0<w.2
 one:QJ o.ways=1
theorem D3{M:Rat}{x:Nat->Rat} : ∀{l:xz},(∀w∈l,0<w.2/\x w.1<=M)->(∃w∈l,x w.1<M)->dw l x<QJ l*M
 |[],_,e=>by obtain⟨_,z,_⟩:=e;cases z
 |w::l,h,e=>by
  rw[dJ,Ax];obtain⟨p,b⟩:=h w (aO ..);have I:∀v∈l,0<v.2/\x v.1<=M:=λv d=>h v (aJ _ d);have a:=o_ (l:=l) (M:=M) (x:=x) λv d=>⟨UK (I v d).1,(I v d).2⟩;by_cases c:x w.1<M
  .have:=Rat.mul_lt_mul_of_pos_left c p
   grind
  .obtain⟨v,d,f⟩:=e;rcases YU.mp d with rfl|d
   .exact absurd f c
   .have:=D3 I ⟨v,d,f⟩;have:=Rat.mul_le_mul_of_nonneg_left b (UK p)
    grind
section
variable{m:Nat}{o:bO}{x:Nat->Rat}{M:Rat}
def WyO.le(h:WyO m o)(b:∀w∈o.ways,x w.1<=M):dw o.ways x<=M:=by
 have:=o_ (l:=o.ways) (M:=M) (x:=x) λv a=>⟨UK (h.pos v a),b v a⟩;rw[h.one]at this
 grind
def WyO.lt_(h:WyO m o)(b:∀w∈o.ways,x w.1<=M)(e:∃w∈o.ways,x w.1<M):dw o.ways x<M:=by
 have:=D3 (l:=o.ways) (M:=M) (x:=x) (λv a=>⟨h.pos v a,b v a⟩) e;rw[h.one]at this
 grind
def WyO.ge(h:WyO m o)(a:∀w∈o.ways,M<=x w.1):M<=dw o.ways x:=by
 have:=h.le (x:=λk=>-(x k)) (M:=-M) λw b=>by have:=a w b;grind
 rw[M4]at this
 grind
def WyO.gt(h:WyO m o)(b:∀w∈o.ways,M<=x w.1)(e:∃w∈o.ways,M<x w.1):M<dw o.ways x:=by
 obtain⟨w,a,l⟩:=e;have:=h.lt_ (x:=λk=>-(x k)) (M:=-M) (λw a=>by have:=b w a;grind) ⟨w,a,by grind⟩;rw[M4]at this
 grind
end
def T1(x:Nat->Rat)(h:0<m):∃i,i<m/\∀j,j<m->x i<=x j:=by
 obtain⟨i,b,k⟩:=UL (λj=>-(x j)) h;exact⟨i,b,λj a=>by have:=k j a;grind⟩
def Q'(x:Nat->Rat)(L:Nat->Bool)(c:k<m)(g:L k):∃i,i<m/\L i/\∀j,j<m->L j=true->x i<=x j:=by
 obtain⟨b,o,f⟩:=UL x (m:=m) vw;obtain⟨i,n,h⟩:=T1 (λj=>if L j then x j else x b+1) (m:=m) vw;have d:L i:=by
  cases e:L i with
  |true=>rfl
  |false =>
   have:=h k c;rw[e,g]at this;have:=f k c
   grind
 refine⟨i,n,d,λj l a=>?_⟩;have:=h j l;rw[d,a]at this;exact this
def dG:wq->vj
 |none=>[]
 |some o=>[o.ways.map (·.1)]
def Y8{c:wq}(h:jn false (dG c) S):∃o,c=some o/\∃w∈o.ways,S w.1:=by
 obtain⟨d,hd,r,a,I⟩:=Ei.mp h;cases c with
 |none=>cases hd
 |some o =>
  cases YR.mp hd;obtain⟨w,hw,rfl⟩:=YV.mp a;exact⟨o,rfl,w,hw,I⟩
def T7{o:bO}{w:Nat×Rat}(a:w∈o.ways)(h:S w.1):jn false (dG (some o)) S:=Ei.mpr ⟨_,YR.mpr rfl,w.1,YV.mpr ⟨w,a,rfl⟩,h⟩
section
variable{m:Nat}{mk S:Nat->Bool}{c:Nat->wq}
def mp(lf:Lfp false m mk (λk=>dG (c k)) S)(hw:∀k,k<m->∀o,c k=some o->WyO m o){d:Nat->Rat}(I:∀k,k<m->mk k=false->S k=true->d k<=dw (vm (c k)) d)(j:∀k,k<m->mk k=true->d k<=0)(f:∀k,k<m->S k=false->d k<=0):∀k,k<m->d k<=0:=by
 intro r u;obtain⟨i,h,b⟩:=UL d (m:=m) vw;refine Rat.le_trans (b r u) (Rat.not_lt.mp λq=>?_);have y:=lf.least (λk=>decide (d k≠d i)) (λk a e=>Zs (λz=>by have:=j k a e;grind)) (λk a e=>Zs λz=>?_)
 .cases s:S i with
  |true=>exact of_decide_eq_true (y i h s) rfl
  |false=>have:=f i h s;grind
 .obtain⟨o,n,w,p,l⟩:=Y8 e;have l:d w.1≠d i:=of_decide_eq_true l;have W:=hw k a o n;cases g:mk k with
  |true=>have:=j k a g;grind
  |false =>
   cases s:S k with
   |true =>
    have le:=I k a g s;rw[n]at le;have le:d k<=dw o.ways d:=le;have lt:=W.lt_ (M:=d i) (x:=d) (λv t=>b _ (W.lt v t)) ⟨w,p,by have:=b _ (W.lt w p);grind⟩
    grind
   |false=>have:=f k a s;grind
structure gW(m:Nat)(mk:Nat->Bool)(c:Nat->wq)(S:Nat->Bool)(x:Nat->Rat):Prop where
 lf:Lfp false m mk (λk=>dG (c k)) S
 goal:∀k,k<m->mk k=true->x k=1
 mean:∀k,k<m->mk k=false->S k=true->x k=dw (vm (c k)) x
 no:∀k,k<m->S k=false->x k=0
variable{x:Nat->Rat}
def gW.nn(h:gW m mk c S x)(b:∀k,k<m->∀o,c k=some o->WyO m o):∀k,k<m->0<=x k:=λk a=>by
 have:=mp h.lf b (d:=λk=>-(x k)) (λk a g s=>by rw[M4,<- h.mean k a g s];exact W1) (λk a g=>by rw[h.goal k a g];decide) (λk a s=>by rw[h.no k a s];exact W1) k a
 grind
theorem Eo:∀l:xz,QJ l=dw l λ_=>1
 |[]=>rfl
 |w::l=>by rw[Ax,dJ,Eo l,Rat.mul_one]
def gW.le1(h:gW m mk c S x)(hw:∀k,k<m->∀o,c k=some o->WyO m o):∀k,k<m->x k<=1:=λk a=>by
 have:=mp h.lf hw (d:=λk=>x k-1) (λk a g s=>by
  rw[Hi,<- Eo];have e:=h.mean k a g s;cases b:c k with
  |none =>
   rw[b]at e;have e:x k=0:=e;show x k-1<=0-0;rw[e];grind
  |some o =>
   have W:=hw k a o b;rw[b]at e;show x k-1<=dw o.ways x-QJ o.ways;rw[W.one,e];exact W1) (λk a g=>by rw[h.goal k a g];grind) (λk a s=>by rw[h.no k a s];grind) k a
 grind
def gW.pos(h:gW m mk c S x)(hw:∀k,k<m->∀o,c k=some o->WyO m o):∀k,k<m->S k=true->0<x k:=λk a s=>by
 have nn:=h.nn hw;refine of_decide_eq_true (h.lf.least (λk=>decide (0<x k)) (λk a g=>Zs (by rw[h.goal k a g];decide)) (λk a e=>Zs ?_) k a s);obtain⟨o,d,w,f,b⟩:=Y8 e;have b:0<x w.1:=of_decide_eq_true b;have W:=hw k a o d;have l:S w.1:=by
  cases z:S w.1 with
  |true=>rfl
  |false=>have:=h.no _ (W.lt w f) z;grind
 cases g:mk k with
 |true=>rw[h.goal k a g];decide
 |false =>
  rw[h.mean k a g (h.lf.step k a (by rw[d];exact T7 f l)),d];exact W.gt (M:=0) (x:=x) (λv i=>nn _ (W.lt v i)) ⟨w,f,b⟩
def gW.val(h:gW m mk c S x)(hw:∀k,k<m->∀o,c k=some o->WyO m o)(e:k<m)(g:mk k=false){o:bO}(f:c k=some o):x k=dw o.ways x:=by
 cases s:S k with
 |true=>rw[h.mean k e g s,f];rfl
 |false =>
  have W:=hw k e o f;have z:∀w∈o.ways,x w.1=0:=λw d=>h.no _ (W.lt w d) (by
   cases t:S w.1 with
   |false=>rfl
   |true =>
    have:=h.lf.step k e (by rw[f];exact T7 d t);rw[s]at this;cases this)
  rw[h.no k e s];have a:=W.le (M:=0) (x:=x) λw d=>by rw[z w d];exact W1
  have b:=W.ge (M:=0) (x:=x) λw d=>by rw[z w d];exact W1
  grind
def UO(lf:Lfp false m mk (λk=>dG (c k)) S)(h:∀k,k<m->∀o,c k=some o->WyO m o)(f:∀k,k<m->x k=if mk k=false/\S k=true then dw (vm (c k)) x else 0):∀k,k<m->x k=0:=λk e=>by
 have a:=mp lf h (d:=x) (λk e g s=>by rw[f k e,ZY ⟨g,s⟩];exact W1) (λk e g=>by rw[f k e,ZZ (by rw[g];exact λz=>Bool.noConfusion z.1)];exact W1) (λk e s=>by rw[f k e,ZZ (by rw[s];exact λz=>Bool.noConfusion z.2)];exact W1) k e;have b:=mp lf h (d:=λk=>-(x k)) (λk e g s=>by rw[M4,f k e,ZY ⟨g,s⟩];exact W1) (λk e g=>by rw[f k e,ZZ (by rw[g];exact λz=>Bool.noConfusion z.1)];exact W1) (λk e s=>by rw[f k e,ZZ (by rw[s];exact λz=>Bool.noConfusion z.2)];exact W1) k e
 grind
end
def b6:Bool->Rat->Rat->Prop
 |false,a,b=>a<b
 |true,a,b=>b<a
structure Turn(e:Bool)(m:Nat)(mk:Nat->Bool)(x:Nat->Rat)(c Z:Nat->wq):Prop where
 goal:∀k,k<m->mk k=true->Z k=c k
 none:∀k,k<m->c k=none->Z k=none
 turn:∀k,k<m->mk k=false->∀o,c k=some o->∃p,Z k=some p/\(Z k=c k\/b6 e (dw o.ways x) (dw p.ways x))
section
variable{m:Nat}{mk S U:Nat->Bool}{c Z:Nat->wq}{g:Nat->wo}{x x':Nat->Rat}
def Turn.le(t:Turn false m mk x c Z)(h:gW m mk c S x)(hw:∀k,k<m->∀o,c k=some o->WyO m o)(d:k<m)(g:mk k=false){p:bO}(a:Z k=some p):x k<=dw p.ways x:=by
 cases b:c k with
 |none=>rw[t.none k d b]at a;cases a
 |some o =>
  obtain⟨q,e,z⟩:=t.turn k d g o b;rw[a]at e;cases e;rw[h.val hw d g b];rcases z with z|z
  .rw[a,b]at z;cases z;exact W1
  .exact UK z
def Turn.nought(t:Turn false m mk x c Z)(h:gW m mk c S x)(hw:∀k,k<m->∀o,c k=some o->WyO m o)(N:∀k,k<m->∀o,Z k=some o->WyO m o)(lf:Lfp false m mk (λk=>dG (Z k)) U):∀k,k<m->U k=false->x k=0:=λE y D=>by
 obtain⟨i,F,u,n⟩:=Q' (λj=>-(x j)) (λj=>!(U j)) y (by rw[D];rfl);have u:U i=false:=by simpa using u
 have n:∀j,j<m->U j=false->x j<=x i:=λj L H=>by have:=n j L (by rw[H];rfl);grind
 have K:=h.nn hw;have a:=n E y D;have b:=K E y;refine Classical.byContradiction λO=>?_;have J:0<x i:=by grind
 have I:S i:=by
  cases z:S i with
  |true=>rfl
  |false=>have:=h.no i F z;grind
 have G:=h.lf.least (λk=>U k || decide (x k≠x i)) (λk f g=>by rw[lf.base k f g];rfl) (λk f e=>?_) i F I
 .rw[u]at G;exact of_decide_eq_true (show decide (x i≠x i)=true from G) rfl
 .obtain⟨o,B,w,d,A⟩:=Y8 e;cases s:U k with
  |true=>rfl
  |false =>
   refine Zs λz=>?_;have g:mk k=false:=by
    cases g:mk k with
    |false=>rfl
    |true=>rw[lf.base k f g]at s;cases s
   obtain⟨p,q,l⟩:=t.turn k f g o B;have W:=N k f p q;have out:∀w∈p.ways,U w.1=false:=λw d=>by
    cases r:U w.1 with
    |false=>rfl
    |true =>
     have:=lf.step k f (by rw[q];exact T7 d r);rw[s]at this;cases this
   have le:=t.le h hw f g q;have up:=W.le (M:=x i) (x:=x) λw d=>n _ (W.lt w d) (out w d);have v:=h.val hw f g B;rcases l with l|l
   .rw[q,B]at l;cases l;have C:=out w d;rw[C]at A;have A:x w.1≠x i:=of_decide_eq_true (by simpa using A);have lt:=W.lt_ (M:=x i) (x:=x) (λw d=>n _ (W.lt w d) (out w d)) ⟨w,d,by have:=n _ (W.lt w d) C;grind⟩
    grind
   .have l:dw o.ways x<dw p.ways x:=l
    grind
def Turn.up(t:Turn false m mk x c Z)(h:gW m mk c S x)(b:gW m mk Z U x')(hw:∀k,k<m->∀o,c k=some o->WyO m o)(i:∀k,k<m->∀o,Z k=some o->WyO m o):(∀k,k<m->x k<=x' k)/\∀k,k<m->Z k≠c k->x k<x' k:=by
 have z:=t.nought h hw i b.lf;have le:∀k,k<m->x k<=x' k:=λk a=>by
  have:=mp b.lf i (d:=λk=>x k-x' k) (λk a g s=>by
   rw[Hi,<- b.mean k a g s];cases f:Z k with
   |none =>
    have e:=b.mean k a g s;have p:=b.pos i k a s;rw[f]at e;have e:x' k=0:=e
    grind
   |some p =>
    have:=t.le h hw a g f;show x k-x' k<=dw p.ways x-x' k
    grind) (λk a g=>by rw[h.goal k a g,b.goal k a g];grind) (λk a s=>by rw[z k a s,b.no k a s];grind) k a
  grind
 refine⟨le,λk a n=>?_⟩;have g:mk k=false:=by
  cases g:mk k with
  |false=>rfl
  |true=>exact absurd (t.goal k a g) n
 cases j:c k with
 |none=>exact absurd ((t.none k a j).trans j.symm) n
 |some o =>
  obtain⟨p,f,q⟩:=t.turn k a g o j;have q:dw o.ways x<dw p.ways x:=q.resolve_left n;have W:=i k a p f;rw[h.val hw a g j,b.val i a g f];have:=Te (l:=p.ways) (x:=x) (z:=x') λw r=>⟨UK (W.pos w r),le _ (W.lt w r)⟩
  grind
def Turn.down(t:Turn true m mk x c Z)(h:gW m mk c S x)(i:gW m mk Z U x')(hw:∀k,k<m->∀o,c k=some o->WyO m o)(j:∀k,k<m->∀o,Z k=some o->WyO m o):(∀k,k<m->x' k<=x k)/\∀k,k<m->Z k≠c k->x' k<x k:=by
 have y:=h.nn hw;have A:∀k,k<m->mk k=false->∀p,Z k=some p->dw p.ways x<=x k:=λk a g p b=>by
  cases f:c k with
  |none=>rw[t.none k a f]at b;cases b
  |some o =>
   obtain⟨q,u,z⟩:=t.turn k a g o f;rw[b]at u;cases u;rw[h.val hw a g f];rcases z with z|z
   .rw[b,f]at z;cases z;exact W1
   .exact UK z
 have le:∀k,k<m->x' k<=x k:=λk a=>by
  have:=mp i.lf j (d:=λk=>x' k-x k) (λk a g s=>by
   rw[Hi,<- i.mean k a g s];cases b:Z k with
   |none =>
    have e:=i.mean k a g s;have p:=i.pos j k a s;rw[b]at e;have e:x' k=0:=e
    grind
   |some p =>
    have:=A k a g p b;show x' k-x k<=x' k-dw p.ways x
    grind) (λk a g=>by rw[h.goal k a g,i.goal k a g];grind) (λk a s=>by rw[i.no k a s];have:=y k a;grind) k a
  grind
 refine⟨le,λk a n=>?_⟩;have g:mk k=false:=by
  cases g:mk k with
  |false=>rfl
  |true=>exact absurd (t.goal k a g) n
 cases f:c k with
 |none=>exact absurd ((t.none k a f).trans f.symm) n
 |some o =>
  obtain⟨p,b,r⟩:=t.turn k a g o f;have r:dw p.ways x<dw o.ways x:=r.resolve_left n;have W:=j k a p b;rw[h.val hw a g f,i.val j a g b];have:=Te (l:=p.ways) (x:=x') (z:=x) λw v=>⟨UK (W.pos w v),le _ (W.lt w v)⟩
  grind
structure gl(e:Bool)(m:Nat)(mk:Nat->Bool)(g:Nat->wo)(x:Nat->Rat):Prop where
 ok:∀k,k<m->mk k=false->∀o∈g k,¬b6 e (x k) (dw o.ways x)
def sj(mk:Nat->Bool)(g:Nat->wo)(k:Nat):vj:=if mk k then[]else(g k).map λo=>o.ways.map (·.1)
end
section
variable{m:Nat}{mk S U F L R:Nat->Bool}{c Z:Nat->wq}{g:Nat->wo}{x y:Nat->Rat}
structure HC(m:Nat)(g:Nat->wo)(c:Nat->wq):Prop where
 mem:∀k,k<m->∀o,c k=some o->o∈g k
 non:∀k,k<m->g k≠[]->∃o,c k=some o
def gy(B:gl false m mk g y)(f:HC m g c)(n:∀k,k<m->∀o∈g k,WyO m o)(h:gW m mk c S x)(j:∀k,k<m->0<=y k)(l:∀k,k<m->mk k=true->y k=1):∀k,k<m->x k<=y k:=λk b=>by
 have hw:∀k,k<m->∀o,c k=some o->WyO m o:=λk b o e=>n k b o (f.mem k b o e);have:=mp h.lf hw (d:=λk=>x k-y k) (λk b a s=>by
  rw[Hi,<- h.mean k b a s];cases i:c k with
  |none =>
   have e:=h.mean k b a s;have p:=h.pos hw k b s;rw[i]at e;have e:x k=0:=e
   grind
  |some p =>
   have:¬y k<dw p.ways y:=B.ok k b a p (f.mem k b p i);show x k-y k<=x k-dw p.ways y
   grind) (λk b a=>by rw[h.goal k b a,l k b a];grind) (λk b s=>by rw[h.no k b s];have:=j k b;grind) k b
 grind
def stay(ld:Nat->vj)(L:Nat->Bool)(k:Nat):vj:=(ld k).filter λd=>d.all L
end
abbrev dV(l:xo):L2.T:=.lst (l.map L2.T.bl)
abbrev bc(k:Nat):L2.T:=.int (k:Nat)
abbrev bz(l:xy):L2.T:=.lst (l.map bc)
abbrev Jh(u:vj):L2.T:=.lst (u.map bz)
def ck(G:xy)(k:Nat):Bool:=decide (k∈G)
def c4(m:Nat)(G:xy):xo:=(range m).map (ck G)
def JZ(m:Nat)(G:xy):(c4 m G).length=m:=by unfold c4;rw[ak,WP]
def Hm{g:Nat} : (c4 m G).set g true=c4 m (G++[g]):=by
 unfold c4 ck;refine UT (by rw[WH,ak,ak]) λk b a=>?_;rw[getElem_set,VX,Tu,VX,Tu];by_cases e:g=k
 .rw[ZY e,e];exact(Zs vy).symm
 .rw[ZZ e];exact decide_eq_decide.mpr (by simp;intro z;exact absurd z.symm e)
def tK(D:a'):ST:=λb q=>∃(s:Rat)(ns:Φ)(g:xj)(G:xy),b=[ci D s ns g,bz G]/\Io ns g/\(∀a∈G,a<ns.length)/\q (.l1 ((c4 ns.length G).map L2.T.bl))
def O7(T:Tx D):gT 3 jd eE (tK D):=yB T.Ed Bw (λ_ _=>bG (gR 2 (bM cJ (dg (bA gO bC)) (qW vc T.gJ T.jX (RP T) (KS:=iB))))
  (bG (dh (cg vt) (bZ (n:=99) 3)
  (bG (nq (Ay vc T.gJ T.lK (Nx T) (bA ve bC) (KS:=iB)))
  (bI (uE 2 gO ve))))
  (bI (iD 2))))<|by
 rintro _ R ⟨s,ns,g,G,rfl,h,d,q⟩;have f:=h.few;refine⟨⟨rfl,rfl⟩,s,ns,g,rfl,⟨by lia,by lia,by show 1*_<=_;exact aL (show _<=1000 by lia) vk⟩,λz b=>?_⟩;have b:z=(c4 ns.length []).map L2.T.bl:=by
  rw[b,show((replicate (((ns.length:Nat):Int)).toNat [frz (OT.fz (L2.T.bl false))]).flatten)=replicate ns.length (L2.T.bl false)from px];unfold c4;rw[WU];refine UT (by rw[aN,ak,WP]) λk j i=>?_;rw[List.getElem_replicate,VX]
  rfl
 rw[b];refine eN bc G (λc o=>∃x,o=[.fz (ci D s ns g),.fz (bz G),.l1 ((c4 ns.length c).map L2.T.bl),x]) ⟨_,rfl⟩ ?_ ?_
 .rintro c a l _ e ⟨x,rfl⟩;have lt:a<ns.length:=d a (by rw[e];simp);refine⟨⟨rfl,rfl⟩,s,ns,g,a,rfl,lt,a,?_,.fz (bc a),?_⟩
  .unfold c6;rw[ak,JZ,ZY (X9 _),ZY vw]
   rfl
  .rw[<- Hm,Th]
   rfl
 .rintro _ ⟨x,rfl⟩;exact q
abbrev mkG(mk:xo)(k:Nat):Bool:=mk.getD k false
abbrev i9(g:xj)(k:Nat):wo:=g.getD k []
def iC(C:zI)(k:Nat):Bool:=(C.getD k none).isSome
def U_:ST:=λa q=>∃(d:xy)(C:zI),a=[bz d,.lst (C.map dT)]/\d.length<=1000/\(∀r∈d,r<C.length)/\q (.fz (.bl (dm (iC C) d)))
def afa(T:Tx D):gT 1 L_ zV U_:=yB T.af5 acE (λ_ _=>bI (bR (bQ (YM rfl) T.afb boot_any (bA (cW (bH Js) QB QB ["room"] (cg vc) (dZ (i:=0)) cA (mO Gh (bK vn vc) gq)) bC))))<|by
 rintro _ R ⟨d,C,rfl,c,hd,q⟩;refine⟨by rw[ak];exact aL c vk,comp_map bc (λr=>.bl (iC C r)) d (λr h N M a=>?_) ⟨d.map (iC C),by rw[WU];rfl,?_⟩⟩
 .have g:=hd r h;have f:=aj g;refine⟨_,c7 f,?_⟩;have a:N (.bl ((C.getD r none).isSome)):=a;rw[au,f]at a;cases e:C[r]with
  |none=>rw[e]at a;exact a
  |some n=>rw[e]at a;exact a
 .show R (.fz (.bl ((d.map (iC C)).any λb=>b)));rwa[UH]
def yJ(e:Bool):ST:=λa q=>∃(u:vj)(C:zI),a=[Jh u,.lst (C.map dT)]/\u.length<=1000/\(∀d∈u,d.length<=1000/\∀r∈d,r<C.length)/\q (.fz (.bl (jn e u (iC C))))
def Xz(T:Tx D):gT 2 lO oA (yJ false):=yB T.abQ Xn (λ_ _=>bI (bR (bQ (YM rfl) T.afb boot_any (bA (cW (bH Ba) Gv Gv ["door"] (cg vc) (dZ (i:=0)) cA (bJ (afa T) (bA vc (bA vn bC)))) bC))))<|by
 rintro _ R ⟨u,C,rfl,a,hd,q⟩;refine⟨by rw[ak];exact aL a vk,comp_map bz (λd=>.bl (dm (iC C) d)) u (λd c N M e=>⟨d,C,rfl,(hd d c).1,(hd d c).2,e⟩) ⟨u.map (dm (iC C)),by rw[WU];rfl,?_⟩⟩;show R (.fz (.bl ((u.map (dm (iC C))).any λb=>b)));rwa[UH]
abbrev hV(ld:List vj)(k:Nat):vj:=ld.getD k []
structure j5(e:Bool)(mk:xo)(ld:List vj)(C:zI):Prop where
 len:C.length=mk.length
 zero:∀k,k<mk.length->(C.getD k none=some 0↔mkG mk k=true)
 lf:Lfp e mk.length (mkG mk) (hV ld) (iC C)
structure mi(m:Nat)(ld:List vj):Prop where
 len:ld.length=m
 few:∀u∈ld,u.length<=1000
 ok:∀u∈ld,∀d∈u,d.length<=1000/\∀r∈d,r<m
def HJ(b:Str->Ω):ST:=λa q=>∃(e:Bool)(v:Addr)(mk:xo)(ld:List vj),a=[dV mk,.lst (ld.map Jh),.val (.ref v)]/\e=false/\b lO=some (.ref v)/\mk.length<=100/\mi mk.length ld/\∀C:zI,j5 e mk ld C->q (.l1 (C.map dT))
def c_(S:Nat->Bool):Nat->Nat
 |0=>0
 |n+1=>c_ S n+if S n then 0 else 1
theorem YL{S U:Nat->Bool} : ∀{n:Nat},(∀k,k<n->S k=true->U k=true)->c_ U n<=c_ S n
 |0,_=>aG _
 |n+1,h=>by
  have a:=YL (n:=n) λk c=>h k (WV _ c);have b:=h n (X0 _);show c_ U n+(if U n then 0 else 1)<=c_ S n+if S n then 0 else 1;cases e:S n with
  |true=>rwa[b e]
  |false=>refine Nat.add_le_add a ?_;split<;>simp
theorem XR{S U:Nat->Bool}{k:Nat}(s:S k=false)(g:U k):∀{n:Nat},k<n->(∀k,k<n->S k=true->U k=true)->c_ U n<c_ S n
 |0,d,_=>absurd d (WZ _)
 |n+1,d,h=>by
  show c_ U n+(if U n then 0 else 1)<c_ S n+if S n then 0 else 1;by_cases c:k=n
  .subst c;have a:=YL (n:=k) λj f=>h j (Ts f d);rw[s,g];show c_ U k+0<c_ S k+1;lia
  .have a:=XR s g (n:=n) (XX (VT d) c) λj f=>h j (WV _ f);have b:=h n (X0 _);cases e:S n with
   |true=>rwa[b e]
   |false=>exact aR (Nat.add_lt_add_right a _) (Nat.add_le_add_left (by split<;>simp) _)
def dL(C:zI)(cm:xy)(n:Nat):zI:=C.zipIdx.map λp=>if p.2∈cm then some n else p.1
def qj : (dL C cm n).length=C.length:=by unfold dL;rw[ak,U2]
def Ua(a:k<C.length):(dL C cm n).getD k none=if k∈cm then some n else C.getD k none:=by
 unfold dL;rw[au,aq,aj (show k<C.zipIdx.length by rwa[U2]),Q1,au,aj a];show(if 0+k∈cm then some n else C[k])=_;rw[U1]
 rfl
def Z_ : dL C [] n=C:=by
 refine UT (by rw[qj]) λk b a=>?_;have:=Ua (cm:=[]) (n:=n) a;rw[au,aj b,au,aj a,ZZ vy]at this;exact this
def ae0{r:Nat} : (dL C cm n).set r (some n)=dL C (cm++[r]) n:=by
 refine UT (by rw[WH,qj,qj]) λk g f=>?_;have d:k<C.length:=by rw[qj]at f;exact f
 have a:=Ua (cm:=cm) (n:=n) d;have b:=Ua (cm:=cm++[r]) (n:=n) d;rw[au,aj (by rwa[qj])]at a b;rw[getElem_set];have a:(dL C cm n)[k]'(by rwa[qj])=_:=a;have b:(dL C (cm++[r]) n)[k]'(by rwa[qj])=_:=b;rw[a,b];by_cases e:r=k
 .rw[ZY e,ZY (by simp[e])]
 .rw[ZZ e];by_cases c:k∈cm
  .rw[ZY c,ZY (UR _ c)]
  .rw[ZZ c,ZZ (by simp[c];exact λz=>e z.symm)]
structure SI(e:Bool)(mk:xo)(ld:List vj)(C:zI)(cm:xy):Prop where
 len:C.length=mk.length
 zero:∀k,k<mk.length->(C.getD k none=some 0↔mkG mk k=true)
 low:∀A:Nat->Bool,(∀k,k<mk.length->mkG mk k=true->A k=true)->(∀k,k<mk.length->jn e (hV ld k) A=true->A k=true)->∀k,k<mk.length->iC C k=true->A k=true
 fin:cm=[]->∀k,k<mk.length->jn e (hV ld k) (iC C)=true->iC C k=true
def Z5{e:Bool}{A:Nat->Bool}(h:∀d∈u,∀r∈d,S r->A r=true)(f:jn e u S):jn e u A:=by
 cases e with
 |false =>
  obtain⟨d,hd,r,c,I⟩:=Ei.mp f;exact Ei.mpr ⟨d,hd,r,c,h d hd r c I⟩
 |true =>
  obtain⟨a,b⟩:=UW.mp f;exact UW.mpr ⟨a,λd hd=>let⟨r,c,I⟩:=b d hd;⟨r,c,h d hd r c I⟩⟩
def PF{e:Bool} : jn e u (λ_=>false)=false:=by
 cases h:jn e u (λ_=>false)with
 |false=>rfl
 |true =>
  cases e with
  |false=>obtain⟨d,hd,r,c,I⟩:=Ei.mp h;cases I
  |true =>
   obtain⟨a,b⟩:=UW.mp h;cases u with
   |nil=>cases a
   |cons d u=>obtain⟨r,c,I⟩:=b d (aO ..);cases I
def EV{ld:List vj}(h:mi m ld){d:xy}(hd:d∈hV ld k):d.length<=1000/\∀r∈d,r<m:=by
 have hd:d∈ld.getD k []:=hd;rw[au]at hd;cases e:ld[k]? with
 |none=>rw[e]at hd;cases hd
 |some u=>rw[e]at hd;exact h.ok u (aC e) d hd
def c2(e:Bool)(ld:List vj)(C:zI):xy:=(ld.zipIdx.filter λp=>(C.getD p.2 none).isNone&&jn e p.1 (iC C)).map (·.2)
def Ew{e:Bool}{ld:List vj}(g:mi m ld) : k∈c2 e ld C↔k<m/\iC C k=false/\jn e (hV ld k) (iC C):=by
 unfold c2;constructor
 .intro h;obtain⟨p,d,rfl⟩:=YV.mp h;obtain⟨d,j⟩:=List.mem_filter.mp d;obtain⟨q,c,o⟩:=List.mem_zipIdx d;rw[U1]at c;have f:p.1=ld[p.2]'c:=by rw[o];congr 1
  obtain⟨a,b⟩:=Bool.and_eq_true_iff.mp j;refine⟨by rw[<- g.len];exact c,?_,?_⟩
  .unfold iC;cases z:C.getD p.2 none with
   |none=>rfl
   |some n=>rw[z]at a;cases a
  .show jn e (ld.getD p.2 []) _=_;rwa[au,aj c,<- f]
 .rintro⟨i,a,b⟩;have i:k<ld.length:=by rwa[g.len]
  refine YV.mpr ⟨(ld[k],k),List.mem_filter.mpr ⟨?_,?_⟩,rfl⟩
  .have:=aU (l:=ld.zipIdx) (n:=k) (by rwa[U2]);rw[Q1,U1]at this;exact this
  .have b:jn e (ld.getD k []) (iC C):=b;rw[au,aj i]at b;unfold iC at a;refine Bool.and_eq_true_iff.mpr ⟨?_,b⟩;cases z:C.getD k none with
   |none=>rfl
   |some n=>rw[z]at a;cases a
def SI.next{e:Bool}{ld:List vj}(h:SI e mk ld C cm)(i:mi mk.length ld):SI e mk ld (dL C (c2 e ld C) (n+1)) (c2 e ld C)/\(c2 e ld C≠[]->c_ (iC (dL C (c2 e ld C) (n+1))) mk.length<c_ (iC C) mk.length)/\c_ (iC (dL C (c2 e ld C) (n+1))) mk.length<=c_ (iC C) mk.length:=by
 have m:∀k,k<mk.length->(dL C (c2 e ld C) (n+1)).getD k none=if k∈c2 e ld C then some (n+1)else C.getD k none:=λk f=>Ua (by rwa[h.len]);have o:∀k,k<mk.length->iC (dL C (c2 e ld C) (n+1)) k=(decide (k∈c2 e ld C) || iC C k):=λk f=>by
  unfold iC;rw[m k f];by_cases c:k∈c2 e ld C
  .rw[ZY c,Zs c];rfl
  .rw[ZZ c,Zp c];rfl
 have p:∀k,k<mk.length->iC C k=true->iC (dL C (c2 e ld C) (n+1)) k=true:=λk f s=>by rw[o k f,s,Bool.or_true]
 refine⟨⟨by rw[qj,h.len],λk f=>?_,λA a b k f s=>?_,λz k f t=>?_⟩,λv=>?_,YL p⟩
 .rw[m k f];by_cases c:k∈c2 e ld C
  .rw[ZY c];obtain⟨_,s,_⟩:=(Ew i).mp c;refine⟨λz=>(nomatch z),λg=>?_⟩;have:=(h.zero k f).mpr g;unfold iC at s;rw[this]at s;cases s
  .rw[ZZ c];exact h.zero k f
 .rw[o k f]at s;rcases Bool.or_eq_true_iff.mp s with s|s
  .obtain⟨_,_,j⟩:=(Ew i).mp (of_decide_eq_true s);exact b k f (Z5 (λd hd r w u=>h.low A a b r ((EV i hd).2 r w) u) j)
  .exact h.low A a b k f s
 .rw[z,Z_]at t ⊢;cases s:iC C k with
  |true=>rfl
  |false =>
   have:=(Ew (e:=e) (C:=C) i).mpr ⟨f,s,t⟩;rw[z]at this;cases this
 .obtain⟨k,f⟩ : ∃k,k∈c2 e ld C:=by
   cases c:c2 e ld C with
   |nil=>exact absurd c v
   |cons k l=>exact⟨k,aO ..⟩
  obtain⟨q,s,_⟩:=(Ew i).mp f;exact XR s (by rw[o k q,Zs f];rfl) q p
def V7(T:Tx D):gT 3 yP pF (HJ mg):=ya T.Xx λF=>by
 refine F.okU xV λai A K s H f u nd=>?_;have GV:∀b:Bool,∃E,gT 2 lO E (yJ false):=λ_=>⟨_,(Xz T)⟩;refine⟨_,(bG (gR 3 (cW (bH nR) qT qT ["mark"] (cg vc) (dZ (i:=0)) cA (Ij (cM vc) bF gq)))
  (bG (m6 (bH nR) qT ["marks","leads","joins","steps","coming","many","?room"] ["room","mark"] (vp T.jK (bA vc bC)) (eG (n:=2) (bN (dZ (i:=0)) (bN (dZ (i:=1)) cZ))) (DK (cM vt)) vc (gZ (i:=4) xV.nd rfl (Or.inl rfl)))
  (bG (bT 5 bF)
  (bG (LR (b_ HY (bQ cI T.dH WJ (bA vi bC)) bF)
  (bG (F5 5 EI bF)
  (bG (m6 (bH nR) qT ["marks","leads","joins","steps","coming","many","?room"] ["room","doors"] (vp T.jK (bA vt bC)) (eG (n:=2) (bN (dZ (i:=0)) (bN (dZ (i:=1)) cZ))) (DK (QW.qt (Gr (b_ yK (vY 5 vc) gq) (Bh (Ms 5 (cM (UJ 5 (V0 (mg:=mg) (k:=2) (nm:=λ_=>lO) (S:=λ_=>yJ false) 4 GV u.md (bA vt (bA vF bC)))))))))) vc (gZ (i:=4) xV.nd rfl (Or.inl rfl)))
  (bI (dh (cg vi) (bZ (n:=99) 6)
  (bI (uE 3 vF (qv 6))))))))
  (bI (iD 3)))))),?_⟩
 rintro _ R ⟨e,v,mk,ld,rfl,he,hv,m1,t,q⟩;have y:∀{O:Type}{l:List O},l.length<=mk.length->l.length<=sizeLine:=λ{O l}h=>aL h (aL m1 vk);have Y:∀k,k<mk.length->(mk.map λb=>if b then some 0 else none).getD k none=if mkG mk k then some 0 else none:=λk j=>by
  show _=if mk.getD k false then some 0 else none;rw[au,aq,au,aj j]
  rfl
 have V:∀k,k<mk.length->iC (mk.map λb=>if b then some 0 else none) k=mkG mk k:=λk j=>by
  unfold iC;rw[Y k j];cases mkG mk k<;>rfl
 have L:SI e mk ld (mk.map λb=>if b then some 0 else none) ((mk.zipIdx.filter (·.1)).map (·.2)):=by
  refine⟨ak ..,λk j=>?_,λA a b k j s=>a k j (by rw[<- V k j];exact s),λz k j hj=>?_⟩
  .rw[Y k j];cases mkG mk k with
   |true=>exact⟨λ_=>rfl,λ_=>rfl⟩
   |false=>exact⟨λz=>(nomatch z),λz=>(nomatch z)⟩
  .have no:∀r,r<mk.length->mkG mk r=false:=λr u=>by
    cases g:mkG mk r with
    |false=>rfl
    |true =>
     have g:mk.getD r false:=g;rw[au,aj u]at g;have:r∈(mk.zipIdx.filter (·.1)).map (·.2):=YV.mpr ⟨(mk[r],r),List.mem_filter.mpr ⟨by
      have:=aU (l:=mk.zipIdx) (n:=r) (by rwa[U2]);rw[Q1,U1]at this;exact this,g⟩,rfl⟩
     rw[z]at this;cases this
   have:=Z5 (A:=λ_=>false) (λd hd r u U=>by
    have W:=(EV t hd).2 r u;rw[V r W,no r W]at U;cases U) hj
   rw[PF]at this;cases this
 refine⟨y (by rw[ak];exact aG _),comp_map L2.T.bl (λb=>dT (if b then some 0 else none)) mk (λb _ N M hN=>by cases b<;>exact hN) ?_⟩;rw[show(mk.map λb=>dT (if b then some 0 else none))=(mk.map λb=>if b then some 0 else none).map dT by rw[WU];rfl];show(sW (mk.map L2.T.bl)).length<=sizeLine/\iy _ _ _ _ (sW (mk.map L2.T.bl)) _;rw[Kp];refine⟨y (by rw[ak,U2];exact aG _),jy (λp:Bool×Nat=>.tup [.int (p.2:Nat),.bl p.1]) (·.1) (λp=>bc p.2) mk.zipIdx (λp _ N M G w=>⟨rfl,fW G w⟩) ?_⟩;generalize mk.map (λb=>if b then some 0 else none)=I at L ⊢;rw[show((mk.zipIdx.filter (·.1)).map λp=>bc p.2)=((mk.zipIdx.filter (·.1)).map (·.2)).map bc by rw[WU];rfl];generalize(mk.zipIdx.filter (·.1)).map (·.2)=P at L ⊢;refine⟨λn o=>∃(C:zI)(cm:xy)(B:Nat)(x:OT),o=[.fz (dV mk),.fz (.lst (ld.map Jh)),.fz (.val (.ref v)),.l1 (C.map dT),.fz (bz cm),.fz (bc B),x]/\SI e mk ld C cm/\n=c_ (iC C) mk.length+if cm=[]then 0 else 1,⟨_,I,P,0,.und,rfl,L,rfl⟩,?_⟩;rintro n _ ⟨C,cm,B,x,rfl,m,rfl⟩;refine eL (λhc=>?_) λhc=>?_
 .have ne:cm≠[]:=λz=>by rw[z]at hc;exact absurd hc vk
  obtain⟨i1,i2,i3⟩:=m.next (n:=B) t;refine⟨λo=>∃x,o=[.fz (dV mk),.fz (.lst (ld.map Jh)),.fz (.val (.ref v)),.l1 ((dL C (c2 e ld C) (B+1)).map dT),.fz (bz (c2 e ld C)),.fz (bc (B+1)),x],?_,?_⟩
  .rintro _ ⟨x,rfl⟩;refine⟨_,?_,_,_,_,x,rfl,i1,rfl⟩;rw[ZZ ne];by_cases c:c2 e ld C=[]
   .rw[ZY c];lia
   .rw[ZZ c];have:=i2 c;exact Nat.succ_lt_succ this
  .show(sW (ld.map Jh)).length<=sizeLine/\iy _ _ _ _ (sW (ld.map Jh)) _;rw[Kp];refine⟨y (by rw[ak,U2,t.len];exact aG _),jy (λp:List xy×Nat=>.tup [.int (p.2:Nat),Jh p.1]) (λp=>(C.getD p.2 none).isNone&&jn e p.1 (iC C)) (λp=>bc p.2) ld.zipIdx (λp hp N M G w=>⟨rfl,?_⟩) ?_⟩
   .obtain⟨_,lp,ep⟩:=List.mem_zipIdx hp;rw[U1]at lp;have ls:p.2<C.length:=by rwa[m.len,<- t.len]
    have X:=aj ls;have J:p.1∈ld:=by rw[ep];exact aU _
    refine⟨_,c7 X,?_⟩;rw[au,X]at G w;cases z:C[p.2]with
    |some k=>rw[z]at w;exact w rfl
    |none =>
     rw[z]at G w;subst he;refine⟨false,hv,p.1,C,rfl,t.few _ J,λd hd=>⟨(t.ok _ J d hd).1,λr u=>by rw[m.len];exact(t.ok _ J d hd).2 r u⟩,?_⟩;exact⟨trivial,fW (λz=>G (by rw[z];rfl)) λz=>w (by rw[z];rfl)⟩
   .rw[show((ld.zipIdx.filter λp=>(C.getD p.2 none).isNone&&jn e p.1 (iC C)).map λp=>bc p.2)=(c2 e ld C).map bc by unfold c2;rw[WU];rfl];refine eN bc (c2 e ld C) (λZ o=>∃x,o=[.fz (dV mk),.fz (.lst (ld.map Jh)),.fz (.val (.ref v)),.l1 ((dL C Z (B+1)).map dT),.fz (bz (c2 e ld C)),.fz (bc (B+1)),x]) ⟨x,by rw[Z_];rfl⟩ ?_ ?_
    .rintro Z r bs _ ea ⟨x,rfl⟩;obtain⟨rm,_,_⟩:=(Ew t).mp (show r∈c2 e ld C by rw[ea];simp);refine⟨r,?_,.fz (bc r),?_⟩
     .unfold c6;rw[ak,qj,m.len,ZY (X9 _),ZY vw]
      rfl
     .rw[<- ae0,Th]
      rfl
    .rintro _ ⟨x,rfl⟩;exact⟨x,rfl⟩
 .have ce:cm=[]:=by
   cases cm with
   |nil=>rfl
   |cons a l=>exact absurd (show(0:Int)<((((a::l).map bc).length:Nat):Int)by rw[ak,length_cons];lia) hc
  refine q C ⟨m.len,m.zero,⟨λk j g=>?_,m.fin ce,m.low⟩⟩;have:=(m.zero k j).mpr g;unfold iC;rw[this]
  rfl
theorem pK{O:Type}{g:O->PyData}(h:∀x,PyData.canLay0 (g x)):∀A:List O,PyData.canLayAll0 (A.map g)
 |[]=>rfl
 |x::A=>by rw[map_cons];unfold PyData.canLayAll0;rw[pK h A,h x];rfl
theorem qI{O:Type}{g:O->PyData}{n:Nat}(h:∀x,PyData.depth (g x)<=n):∀A:List O,PyData.depthAll (A.map g)<=n
 |[]=>aZ _
 |x::A=>by
  rw[map_cons];unfold PyData.depthAll;have:=qI h A;have:=h x;lia
theorem o9{O:Type}{g:O->PyData}{h:O->T}(e:∀x,h x=dc (g x)):∀A:List O,A.map h=WQ (A.map g)
 |[]=>rfl
 |x::A=>by rw[map_cons,map_cons,o9 e A,e x];rfl
theorem Lg{O:Type}[DecidableEq O]{g:O->PyData}(h:∀x y,PyData.eqv (g x) (g y)=decide (x=y)):∀A a:List O,PyData.eqvAll (A.map g) (a.map g)=decide (A=a)
 |[],[]=>rfl
 |[],_::_=>rfl
 |_::_,[]=>rfl
 |x::A,y::a=>by
  rw[map_cons,map_cons];unfold PyData.eqvAll;rw[h,Lg h A a,<- decide_and];exact decide_eq_decide.mpr ⟨λz=>by rw[z.1,z.2],λz=>List.cons.inj z⟩
structure EqD{O:Type}[DecidableEq O](h:O->T)(g:O->PyData):Prop where
 of:∀x,h x=dc (g x)
 lay:∀x,PyData.canLay0 (g x)
 dep:∀x,PyData.depth (g x)<=60
 eqv:∀x y,PyData.eqv (g x) (g y)=decide (x=y)
def EqD.lst{O:Type}[DecidableEq O]{h:O->T}{g:O->PyData}(E:EqD h g)(A:List O):SeqAt.shaped (.list (A.map g)):=by
 have b:PyData.canLay0 (.list (A.map g)):=by unfold PyData.canLay0;exact pK E.lay A
 have a:PyData.depth (.list (A.map g))<=64:=by unfold PyData.depth;have:=qI E.dep A;lia
 unfold SeqAt.shaped;rw[b,Zs a];rfl
def dD:xL->PyData
 |none=>.none
 |some d=>.int (d:Nat)
def Mg:EqD dT dD:=⟨λx=>by cases x<;>rfl,λx=>by cases x<;>rfl,λx=>by cases x<;>exact aZ _,λx y=>by
 cases x<;>cases y
 .rfl
 .rfl
 .rfl
 .rename_i a b
  show decide ((a:Int)=(b:Int))=_;exact decide_eq_decide.mpr ⟨λz=>by rw[Int.ofNat.inj z],λz=>by rw[Option.some.inj z]⟩⟩
def Lfp.ld{e:Bool}{m:Nat}{mk:Nat->Bool}{ld d:Nat->vj}{S:Nat->Bool}(h:Lfp e m mk ld S)(f:∀k,k<m->ld k=d k):Lfp e m mk d S:=⟨h.base,λk c j=>h.step k c (by rwa[f k c]),λA a b=>h.least A a λk c j=>b k c (by rwa[<- f k c])⟩
def Lfp.marks{e:Bool}{mk c:Nat->Bool}{ld:Nat->vj}(h:Lfp e m mk ld S)(f:∀k,k<m->mk k=c k):Lfp e m c ld S:=⟨λk d g=>h.base k d (by rwa[f k d]),h.step,λA a b=>h.least A (λk d g=>a k d (by rwa[<- f k d])) b⟩
abbrev ik(ns:Φ)(G:xy):Prop:=∀g∈G,g<ns.length
def Tj(a:k<m):mkG (c4 m G) k=ck G k:=by
 show(c4 m G).getD k false=_;unfold c4;rw[au,aq,VY a]
 rfl
def i7(e:Bool)(h:xt)(m:Rat):Prop:=m∈h/\∀x∈h,¬b6 e m x
def Bl(e:Bool):ST:=λa q=>∃h:xt,a=[.lst (h.map aa)]/\(∀x∈h,Bq x)/\(h=[]->q (.fz .non))/\∀m,i7 e h m->q (.fz (aa m))
theorem acN{e:Bool}{d:xt}{m a:Rat}(h:i7 e d m):(b6 e m a->i7 e (d++[a]) a)/\(¬b6 e m a->i7 e (d++[a]) m):=by
 obtain⟨g,f⟩:=h;refine⟨λb=>⟨by simp,λx c=>?_⟩,λb=>⟨UR _ g,λx c=>?_⟩⟩
 .rcases Y1.mp c with z|z
  .have:=f x z;cases e<;>simp only[b6]at *<;>grind
  .rw[YR.mp z];cases e<;>simp only[b6]<;>grind
 .rcases Y1.mp c with z|z
  .exact f x z
  .rw[YR.mp z];exact b
def Uu(T:Tx D):gT 2 fH jw (Bl false):=yB T.Yl W5 (λ_ _=>bG (bT 1 gq)
  (bG (dh (cg vc) (bZ (n:=99) 2)
  (bI (cC (QW.qt (iz (b_ yK vt gq) (gA (cM (bJ (jl T) (bA vt (bA vn bC)))))))
  (bI (bT 1 vn))
  bV)))
  (bI (bR vt))))<|by
 rintro _ R ⟨h,rfl,b,j,q⟩;refine eN aa h (λf o=>(f=[]/\∃x,o=[.fz (.lst (h.map aa)),.fz .non,x])\/∃m x,o=[.fz (.lst (h.map aa)),.fz (aa m),x]/\i7 false f m) (.inl ⟨rfl,_,rfl⟩) ?_ ?_
 .rintro f a r _ e (⟨rfl,x,rfl⟩|⟨m,x,rfl,c⟩)
  .exact .inr ⟨a,_,rfl,by simp,λx k=>by rw[show x=a by simpa using k];simp only[b6];grind⟩
  .have p:Bq a:=b a (e ▸ by simp);have l:Bq m:=b m (e ▸ UR _ c.1);obtain⟨i,g⟩:=acN (a:=a) c;exact⟨m,a,rfl,l,p,eL (λlt=>.inr ⟨a,_,rfl,i lt⟩) λd=>.inr ⟨m,_,rfl,g d⟩⟩
 .rintro _ (⟨z,x,rfl⟩|⟨m,x,rfl,c⟩)
  .exact j z
  .exact q m c
def TV(e:Bool)(h:xt)(j b:Nat):Prop:=(b=j/\∀x∈h,¬b6 e (h.getD j 0) x)\/(b<h.length/\b6 e (h.getD j 0) (h.getD b 0)/\∀x∈h,¬b6 e (h.getD b 0) x)
theorem PP{e:Bool}{a b:Rat}(h:¬b6 e b a)(n:a≠b):b6 e a b:=by
 cases e<;>simp only[b6]at *<;>grind
def Sz{a b:Rat}(h:(a.num,((a.den:Nat):Int))=(b.num,((b.den:Nat):Int))):a=b:=by
 injection h with c d;exact Rat.ext c vw
def acp{h:xt}{m:Rat}(a:m∈h):∃j:Nat,h[j]?=some m/\∀(i:Nat)g,i<j->h[i]?=some g->g≠m:=by
 induction h with
 |nil=>cases a
 |cons r h c =>
  by_cases e:r=m
  .exact⟨0,by rw[e];rfl,λi _ z=>absurd z (WZ _)⟩
  .obtain⟨j,k,f⟩:=c ((YU.mp a).resolve_left λz=>e z.symm);refine⟨j+1,k,λi g d b=>?_⟩;cases i with
   |zero=>cases b;exact e
   |succ i=>exact f i g (Nat.lt_of_succ_lt_succ d) b
def z8(c:Str->Ω):ST:=λa q=>∃(e:Bool)(v:Addr)(h:xt)(d:xL),a=[.lst (h.map aa),dT d,.val (.ref v)]/\e=false/\c fH=some (.ref v)/\h.length<=1000/\(∀x∈h,Bq x)/\(h=[]->q (.fz (dT d)))/\(h≠[]->∃j:Nat,d=some j/\j<h.length/\∀b:Nat,TV e h j b->q (.fz (.int (b:Nat))))
def MF(T:Tx D):gT 3 qJ jr (z8 mg):=ya T.O6 λF=>by
 refine F.okU LQ λU A n s H f o P=>?_;have O:∀b:Bool,∃E,gT 2 fH E (Bl false):=λ_=>⟨_,(Uu T)⟩;refine⟨_,(bG (bT 3 (V0 (mg:=mg) (k:=2) (nm:=λ_=>fH) (S:=λ_=>Bl false) 2 O o.md (bA vc bC)))
  (bG (cC (QW.qt (iz (b_ yK ve gq) (gA (b_ (z0 o.units) (bK vc vt) ve))))
  (bI (bR vt))
  bV)
  (bI (bR (P6 o.units vc (bA ve bC)))))),?_⟩
 rintro _ R ⟨e,v,h,d,rfl,M,L,p,N,I,q⟩;subst M;refine⟨false,L,h,rfl,N,λz=>?_,λm l=>?_⟩
 .exact I z
 .obtain⟨j,rfl,u,q⟩:=q λz=>by rw[z]at l;cases l.1
  have C:=aj u;have y:h.getD j 0=h[j]:=by rw[au,C];rfl
  refine⟨_,c7 C,fW (λc=>q j (.inl ⟨rfl,?_⟩)) λc=>?_⟩
  .obtain⟨a,b⟩:=Bool.and_eq_true_iff.mp c;rw[y,show h[j]=m from Rat.ext (of_decide_eq_true a) (by have:=of_decide_eq_true b;lia)];exact l.2
  .have J:h[j]≠m:=λz=>by
    rw[z,Zs rfl,Zs rfl]at c;cases c
   obtain⟨b,t,K⟩:=acp l.1;have w:=(ao.mp t).1;have B:h.getD b 0=m:=by rw[au,t];rfl
   refine⟨h.map λr=>(r.num,((r.den:Nat):Int)),(m.num,((m.den:Nat):Int)),b,by rw[WU];rfl,rfl,by rw[ak];exact aL p vk,by rw[aq,t];rfl,λi g x G=>?_,q b (.inr ⟨w,by rw[y,B];exact PP (l.2 _ (aU u)) J,by rw[B];exact l.2⟩)⟩;rw[aq,aj (show i<h.length by exact Ts x w)]at G;cases G;exact λz=>K i _ x (aj _) (Sz z)
theorem DW{O b:Type}(f:O->T)(g:b->T):∀(A:List O)(a:List b),Fj (A.map f) (a.map g)=(A.zip a).map λp=>.tup [f p.1,g p.2]
 |[],a=>by cases a<;>rfl
 |_::_,[]=>rfl
 |x::A,y::a=>by
  rw[zip_cons_cons,map_cons,map_cons,map_cons,<- DW f g A a]
  rfl
open Rw (sg jJ ji cB jU j7 Big)
def ca(mk:xo)(a:xF)(S:Nat->Bool):xF:=(range mk.length).map λk=>if mkG mk k=false/\S k=true then a.getD k none else none
def Ce(c:Str->Ω):ST:=λb q=>∃(mk:xo)(a:xF),b=[dV mk,.lst (a.map dB)]/\mk.length<=100/\a.length=mk.length/\(∀o,some o∈a->o.ways.length<=1000/\∀w∈o.ways,w.1<mk.length)/\∀S:Nat->Bool,Lfp false mk.length (mkG mk) (λk=>dG (a.getD k none)) S->q (.l1 ((ca mk a S).map dB))
def Oo(T:Tx D):gT 4 uO kE (Ce mg):=ya T.R_ λF=>by
 refine F.okU BW λW A t s H E v S=>?_;obtain⟨L,J,_⟩:=OkF.val (Xz T);refine⟨_,(bG (m6 (bH jY) iT iT ["offer"] (cg vt) (dZ (i:=0)) cA (Ij (b_ yK vc gq) (dg bC) (dg (bA (GY (bH jY) ("offer"::iT) ("offer"::iT) ["room","chance"] (cg (bK vc bF)) (eG (n:=2) (bN (dZ (i:=0)) (bN (dZ (i:=1)) cZ))) cA vc) bC))) (gZ (i:=2) BW.nd rfl (Or.inl rfl)))
  (bG (bT 3 (bJ (V7 T) (bA vc (bA vn (bA (EX (by rfl) J) bC)))))
  (bI (bR (cW (bH jY) iT iT ["step","offer"] (Hs T.Km (bA ve (bA vt bC))) (eG (n:=2) (bN (dZ (i:=0)) (bN (dZ (i:=1)) cZ))) cA (Ij (QW.qt (iz (b_ yK vc gq) (gA (b_ (z0 v.units) vc bF)))) gq vt)))))),?_⟩
 rintro _ R ⟨mk,b,rfl,B,K,hc,q⟩;have j:∀{O:Type}{l:List O},l.length<=mk.length->l.length<=sizeLine:=λ{O l}h=>aL h (aL B vk);refine⟨j (by rw[ak,K];exact aG _),comp_map dB (λc=>Jh (dG c)) b (λc m N M f=>?_) ?_⟩
 .cases c with
  |none=>exact f
  |some o =>
   refine⟨by rw[ak];exact aL (hc o m).1 vk,comp_map cr (λw=>bc w.1) o.ways (λw hw N M f=>⟨rfl,f⟩) ?_⟩;rw[show Jh (dG (some o))=.lst [.lst (o.ways.map λw=>bc w.1)]by show L2.T.lst [L2.T.lst ((o.ways.map (·.1)).map bc)]=_;rw[WU];rfl]at f;exact f
 .rw[show(b.map λc=>Jh (dG c))=(b.map dG).map Jh by rw[WU];rfl];have P:∀k,hV (b.map dG) k=dG (b.getD k none):=λk=>by
   show(b.map dG).getD k []=_;rw[au,aq,au];cases b[k]?<;>rfl
  refine⟨false,L,mk,b.map dG,rfl,rfl,J,B,⟨by rw[ak,K],λu x=>?_,λu x d hd=>?_⟩,λC I=>?_⟩
  .obtain⟨c,_,rfl⟩:=YV.mp x;cases c with
   |none=>exact aZ _
   |some o=>exact US rfl
  .obtain⟨c,m,rfl⟩:=YV.mp x;cases c with
   |none=>cases hd
   |some o =>
    cases YR.mp hd;refine⟨by rw[ak];exact(hc o m).1,λr v=>?_⟩;obtain⟨w,hw,rfl⟩:=YV.mp v;exact(hc o m).2 w hw
  .have q:=q (iC C) (I.lf.ld λk _=>P k);have Q:=I.len;show(Fj (C.map dT) (b.map dB)).length<=sizeLine/\iy _ _ _ _ (Fj (C.map dT) (b.map dB)) _;rw[DW];refine⟨j (by rw[ak,VZ];lia),comp_map (λp:Option Nat×wq=>.tup [dT p.1,dB p.2]) (λp=>dB (if p.1=none\/p.1=some 0 then none else p.2)) (C.zip b) (λp U N M f=>?_) ?_⟩
   .refine⟨rfl,?_⟩;obtain⟨a,c⟩:=p;cases a with
    |none=>rw[ZY (.inl rfl)]at f;exact f
    |some n =>
     by_cases e:n=0
     .rw[ZY (.inr (by rw[e]))]at f;exact dA (Zs vw) f
     .rw[ZZ (by simp[e])]at f;exact cp (Zp vw) f
   .have:((C.zip b).map λp=>dB (if p.1=none\/p.1=some 0 then none else p.2))=(ca mk b (iC C)).map dB:=by
     unfold ca;rw[WU];refine UT (by rw[ak,ak,VZ,WP];lia) λk V G=>?_;rw[ak,WP]at G;rw[VX,VX,Tu,JP];dsimp only[Function.comp];have z:=I.zero k G;rw[au,aj (show k<C.length by lia)]at z;have z:C[k]=some 0↔mkG mk k=true:=z;have g:iC C k=C[k].isSome:=by unfold iC;rw[au,aj (show k<C.length by lia)];rfl
     rw[au,aj (show k<b.length by lia),g]
     congr 1
     cases e:C[k]with
     |none=>rw[ZY (.inl rfl),ZZ (λz=>by cases z.2)]
     |some n =>
      rw[e]at z;by_cases c:n=0
      .rw[ZY (.inr (by rw[c])),ZZ (λy=>by rw[z.mp (by rw[c])]at y;cases y.1)]
      .rw[ZZ (by simp[c]),ZY ⟨by
        cases g:mkG mk k with
        |false=>rfl
        |true=>exact absurd (Option.some.inj (z.mpr g)) c,rfl⟩]
       rfl
    rwa[this]
def UE(l:List O)(h:O->T){i:Int}(c:0<=i)(d:i<l.length):∃a∈l,cv (l.map h) i=some (h a):=by
 obtain⟨k,rfl⟩:=lZ c;have b:k<l.length:=by lia
 refine⟨l[k],aU b,?_⟩;show d6 (l.map h) k=_;rw[tR,aq,aj b];rfl
def div_pos{b:Int}(f:0<b):(divInt a b).den<=b.toNat/\(divInt a b).num.natAbs<=a.natAbs:=by
 have l:=Ah (t:=a) (b:=b) (c:=(Int.gcd a b:Nat)) (WS f) (by have:=oR (a:=a) (b:=b) (WS f);exact WS this) vw (XZ (oR (WS f)) f);have e:=jV l (WS f);injection e with e;injection e with g d;injection d with d _;injection g with g;injection d with d;have j:=l.lx;have i:=l.ly;have h:=l.pos;have g:a.fdiv ((Int.gcd a b:Nat):Int)=(divInt a b).num:=g;have d:b.fdiv ((Int.gcd a b:Nat):Int)=((divInt a b).den:Nat):=d;rw[g]at j;rw[d]at i h;omega
structure HA(s:Rat):Prop where
 lo:0<=s
 hi:s<1
 den:s.den<=100
structure ir(p:Rat):Prop where
 num:p.num.natAbs<=10^30
 den:p.den<=1000
def f8:ST:=λa q=>∃c:Int,a=[.int c]/\∀n:Nat,n<=8->q (.fz (.int (n:Nat)))
def _L(T:Tx D):gT 2 Uk D_ f8:=yB T.ajc ZE (λa _=>bG (bT 1 (bJ (hE T) (bA vc (bA bF bC))))
  (bG (cC (b_ (z0 a.units) (bM cH (bK vt bF) bF) bF)
  (bI (bR bF))
  bV)
  (bG (cC (b_ (z0 a.units) (bM cH (bK vt bF) bF) bF)
  (bI (bR (bM cY bF (bM cH (bK vt bF) bF))))
  bV)
  (bI (bR (bM cY bF (bM cH (bK vt bF) bF)))))))<|by
 rintro _ R ⟨c,rfl,q⟩;have d:=sJ c 1;have b:0<=zX c 1:=d.1;refine⟨c,2,rfl,by decide,_,iu (k:=0),by decide,eL (λh=>q 0 vk) λh=>⟨_,iu (k:=0),by decide,eL (λh=>⟨_,iu (k:=1),by decide,?_⟩) λh=>⟨_,iu (k:=1),by decide,?_⟩⟩⟩
 .have:=q (6+zX c 1%3).toNat vw;rw[show(((6+zX c 1%3).toNat:Nat):Int)=6+zX c 1%3 by lia]at this;exact this
 .have:=q (1+zX c 1%5).toNat vw;rw[show(((1+zX c 1%5).toNat:Nat):Int)=1+zX c 1%5 by lia]at this;exact this
structure LD where
 sort:Nat
 pay:Rat
 prs:xz
abbrev we:=List LD
abbrev xp:=List we
abbrev bv(d:LD):T:=.tup [.int (d.sort:Nat),aa d.pay,.lst (d.prs.map cr)]
structure LDk(m:Nat)(d:LD):Prop where
 sort:d.sort<5
 pay:ir d.pay
 few:d.prs.length<=4
 lt:∀p∈d.prs,p.1<m
 nn:∀p∈d.prs,0<=p.2
 one:Gm (d.prs.map (·.2))=1
 dn:∃q:Nat,0<q/\q<=4000/\∀p∈d.prs,p.2.den ∣ q
 s0:d.sort=0\/d.sort=4->∃a,d.prs=[(a,1)]
 s1:d.sort=1->∃a b x,d.prs=[(a,x),(b,1-x)]
 s2:d.sort=2->∃h:xy,d.prs=h.map λr=>(r,mkRat 1 h.length)
def Hr(l:List O) : fj l none (some (n:Int))=l.take n:=by
 unfold fj;show(l.drop 0).take (HT.sIx l.length l.length (some (n:Int))-0)=_;rw[HT.Bp,drop_zero,sub_zero];rw[List.take_eq_take_iff];lia
def Ru{b:Int}(g:0<b):(divInt a b).den ∣ b.toNat:=by
 have l:=Ah (t:=a) (b:=b) (c:=(Int.gcd a b:Nat)) (WS g) (by have:=oR (a:=a) (b:=b) (WS g);exact WS this) vw (XZ (oR (WS g)) g);have e:=jV l (WS g);injection e with e;injection e with _ f;injection f with f _;injection f with f;have f:b.fdiv ((Int.gcd a b:Nat):Int)=((divInt a b).den:Nat):=f;have d:((Int.gcd a b:Nat):Int) ∣ b:=JJ a b;rw[Int.fdiv_eq_ediv_of_dvd d]at f;obtain⟨x,h⟩:=d;have i:=oR (a:=a) (b:=b) (WS g);rw[Int.ediv_eq_of_eq_mul_right (WS i) h]at f;exact Int.natCast_dvd_natCast.mp ⟨(Int.gcd a b:Nat),by rwa[<- f,jS (XY g),Int.mul_comm]⟩
theorem GT{S:Int}(a:S≠0):∀l:xi,Gm (l.map λw=>divInt w S)=divInt l.sum S
 |[]=>by show(0:Rat)=divInt 0 S;rw[QR]
 |w::l=>by
  show divInt w S+Gm (l.map λw=>divInt w S)=divInt (w+l.sum) S;rw[GT a l,QU _ _ a a];refine(QY (pU a a) a).mpr ?_
  grind
theorem U5{n:Nat}(h:0<n):∀k:Nat,Gm (replicate k (mkRat 1 n))=mkRat k n
 |0=>by show(0:Rat)=mkRat 0 n;rw[Rat.zero_mkRat]
 |k+1=>by
  rw[replicate_succ];show mkRat 1 n+Gm (replicate k (mkRat 1 n))=_;rw[U5 h k,Rat.mkRat_add_mkRat _ _ (Up h) (Up h),Rat.mkRat_eq_iff (Nat.mul_ne_zero (Up h) (Up h)) (Up h)]
  push_cast
  grind
def Yp(h:0<n):mkRat n n=1:=by
 rw[show(1:Rat)=mkRat 1 1 from rfl,Rat.mkRat_eq_iff (Up h) (Nat.succ_ne_zero _)];lia
def one_sub{b:Int}(c:b≠0):1-divInt a b=divInt (b-a) b:=by
 rw[show(1:Rat)=divInt 1 1 from rfl,Rat.divInt_sub_divInt _ _ vk c,TW,Int.mul_one]
def Vz(x:Rat):1-x=⟨(x.den:Int)-x.num,x.den,x.den_nz,by
  have:=x.reduced;show Coprime ((x.den:Int)-x.num).natAbs x.den;have h:Int.gcd ((x.den:Int)-x.num) (x.den:Int)=1:=by
   rw[Int.gcd_self_sub_left];exact this
  exact h⟩:=by
 rw[Rat.mk_eq_divInt,<- one_sub (pq x),rd]
def adl(x:Rat):aa (1-x)=.tup [.int ((x.den:Int)-x.num),.int x.den]:=by rw[Vz]
def abE(x:Rat):(1-x).den=x.den:=by rw[Vz]
def LDk.sure{a b:Nat}{p:Rat}(c:b=0\/b=4)(e:a<m)(d:ir p):LDk m ⟨b,p,[(a,1)]⟩ :=
 ⟨by show b<5;lia,d,US rfl,by simp[e],by simp;decide,by simp[Gm];exact Rat.add_zero 1,⟨1,by decide,by decide,by simp⟩,λ_=>⟨_,rfl⟩,(λz=>by have z:b=1:=z;lia),(λz=>by have z:b=2:=z;lia)⟩
def LDk.toss{a b:Nat}{p x:Rat}(i:a<m)(h:b<m)(g:ir p)(d:0<=x)(c:0<=1-x)(f:0<q)(e:q<=4000)(hd:x.den ∣ q):LDk m ⟨1,p,[(a,x),(b,1-x)]⟩ :=
 ⟨US rfl,g,US rfl,by simp[i,h],by simp[d,c],by simp[Gm];grind,⟨q,f,e,by simp[hd,abE]⟩,(λz=>by rcases z with z|z<;>cases z),λ_=>⟨_,_,_,rfl⟩,(λz=>by cases z)⟩
def TB(h:0<n):(mkRat 1 n).den=n:=by
 have e:=Yo h;injection e with e;injection e with _ e;injection e with e _;injection e with e;lia
def LDk.even{p:Rat}{h:xy}(c:0<h.length)(d:h.length<=4)(e:∀r∈h,r<m)(f:ir p):LDk m ⟨2,p,h.map λr=>(r,mkRat 1 h.length)⟩:=by
 have nn:(0:Rat)<=mkRat 1 h.length:=by rw[<- Rat.divInt_ofNat];exact divInt_nonneg vk (X9 _)
 refine⟨US rfl,f,by rw[ak];exact d,λx b=>?_,λx b=>?_,?_,⟨h.length,c,by exact aL d vk,λx b=>?_⟩,(λz=>by rcases z with z|z<;>cases z),(λz=>by cases z),λ_=>⟨h,rfl⟩⟩
 .obtain⟨r,a,rfl⟩:=YV.mp b;exact e r a
 .obtain⟨r,a,rfl⟩:=YV.mp b;exact nn
 .rw[WU,show((λx:Nat×Rat=>x.2) ∘ λr=>(r,mkRat 1 h.length))=λ_=>mkRat 1 h.length from rfl,map_const',U5 c,Yp c]
 .obtain⟨r,a,rfl⟩:=YV.mp b;rw[TB c];exact Nat.dvd_refl _
def LDk.mix{p:Rat}{h:xy}{l:xi}(j:l.length<=4)(g:∀r∈h,r<m)(hw:∀w∈l,0<=w)(le:l.length<=h.length)(s0:0<l.sum)(s1:l.sum<=4000)(i:ir p):LDk m ⟨3,p,(h.zip l).map λx=>(x.1,divInt x.2 l.sum)⟩:=by
 have f:(h.zip l).map (λx=>x.2)=l:=List.map_snd_zip le;refine⟨US rfl,i,by rw[ak,VZ];lia,λx d=>?_,λx d=>?_,?_,⟨l.sum.toNat,by lia,by lia,λx d=>?_⟩,(λz=>by rcases z with z|z<;>cases z),(λz=>by cases z),(λz=>by cases z)⟩
 .obtain⟨r,c,rfl⟩:=YV.mp d;exact g _ (UX c).1
 .obtain⟨r,c,rfl⟩:=YV.mp d;exact divInt_nonneg (hw _ (UX c).2) (XY s0)
 .rw[WU,show((λx:Nat×Rat=>x.2) ∘ λx:Nat×Int=>(x.1,divInt x.2 l.sum))=(λw=>divInt w l.sum) ∘ λx:Nat×Int=>x.2 from rfl,<- WU,f,GT (WS s0)];have e:=one_sub (a:=l.sum) (b:=l.sum) (WS s0);rw[Int.sub_self,QR]at e
  grind
 .obtain⟨r,c,rfl⟩:=YV.mp d;exact Ru s0
theorem EU:∀{l:xi},(∀w∈l,0<=w)->0<=l.sum
 |[],_=>by decide
 |w::l,h=>by
  have:=h w (aO ..);have:=EU (l:=l) λx a=>h x (aJ _ a);rw[sum_cons];lia
theorem ES{b:Int} : ∀{l:xi},(∀w∈l,w<=b)->l.sum<=b*l.length
 |[],_=>by simp
 |w::l,h=>by
  have:=h w (aO ..);have:=ES (l:=l) λx a=>h x (aJ _ a);rw[sum_cons,length_cons];have:b*((l.length+1:Nat):Int)=b*l.length+b:=by grind
  lia
def aaU:ST:=λa q=>∃(c:Int)(m:Nat),a=[.int c,.int (m:Nat)]/\0<m/\m<=1000/\∀d:LD,LDk m d->q (.fz (bv d))
def _K(T:Tx D):gT 4 Ss Dm aaU:=ya T.akT λ{f Y}F=>by
 refine F.okT Uo (λJ _=>bG (bT 2 (bJ (hE T) (bA vc (bA bF bC))))
  (bG (bT 3 (cW (bH Cy) vQ vQ ["_law_x"] (cg (i_ vn (fY bF) (fY bF))) (dZ (i:=0)) cA (bM cH vc vn)))
  (bG (bT 4 (bJ (lu T) (bA (bM Rz (bM cH (bK vn bF) bF) bF) (bA (bM cY bF (bM cH (bK vn bF) bF)) bC))))
  (bG (bT 5 (eg.out (Ul (cX (qm (cX (CV (bK ve bF)) (cX (qm (cX lD (cX lD lE))) lE))) lE))))
  (bG (cC (b_ (z0 J.units) (bM cH (bK vn bF) bF) bF)
  (bG (bT 6 (bM cY bF (bM cH (bK vn bF) bF)))
  (bG (bT 7 (bJ (lu T) (bA (bM cH (bK vn bF) (bM cY (qv 6) bF)) (bA (qv 6) bC))))
  (bI (bT 5 (eg.out (Ul (cX (qm (cX (CV (bK ve bF)) (cX (OZ 7) lE))) (cX (qm (cX (CV (bK ve bF)) (cX (qm (cX (Zr Rz (CV (bK (qv 7) bF)) (CV (bK (qv 7) bF))) (cX (CV (bK (qv 7) bF)) lE))) lE))) lE))))))))
  bV)
  (bG (cC (b_ (z0 J.units) (bM cH (bK vn bF) bF) bF)
  (bG (bT 3 (i_ ve FJ (fY (bM cY bF (bM cH (bK vn bF) bF)))))
  (bI (m6 (bH Cy) vQ vQ ["_law_room"] (cg ve) (dZ (i:=0)) cA (d9 (bA vc (bA (d9 (bA bF (bA (bQ cI T.dH WJ (bA vi bC)) bC))) bC))) (gZ (i:=5) Uo.nd rfl (Or.inl rfl)))))
  bV)
  (bG (cC (b_ (z0 J.units) (bM cH (bK vn bF) bF) bF)
  (bG (gR 8 (cW (bH Cy) vQ vQ ["_law_x"] (cg (i_ vn (fY bF) (fY (bM cY bF (bM cH (bK vn bF) bF))))) (dZ (i:=0)) cA (bM cH vc (bK (dg (bA bF (bA bF (bA bF (bA bF bC))))) (bM cH (bK ve bF) bF)))))
  (bG (uE 8 (bM cY (vY 8 (Uv bF)) bF) (Uv bF))
  (bI (Ri 8 (m6 (bH Cy) vQ vQ ["_law_k"] (dO T.fB (bA (bQ cI T.dH WJ (bA (qv 8) bC)) bC)) (dZ (i:=0)) cA (d9 (bA (bK vi vc) (bA (bJ (lu T) (bA (bK (qv 9) vc) (bA (bQ (Yb rfl) T.afd boot_sum (bA (qv 9) bC)) bC))) bC))) (gZ (i:=5) Uo.nd rfl (Or.inl rfl)))))))
  bV)
  (bI (bR (d9 (bA (bQ (YN rfl) T.apE boot_min (bA (bM cH (bK vn bF) bF) (bA bF bC))) (bA vi (bA vF bC))))))))))))) ?_
 rintro _ R ⟨c,m,rfl,m0,m1,q⟩;have Z:(0:Int)<(m:Nat):=by lia
 have H:∀k,0<=zX c k/\zX c k<2000000000:=sJ c;obtain⟨t,U,rme⟩ : ∃t:Nat->Nat,(∀k,t k<m)/\∀k,zX c k%(m:Nat)=(t k:Nat):=⟨λk=>(zX c k%(m:Nat)).toNat,λk=>by
  have:=YY (zX c k) Z;have:=Z3 (zX c k) (show((m:Nat):Int)≠0 by exact WS Z);show(zX c k%(m:Nat)).toNat<m;lia,λk=>by
  have:=Z3 (zX c k) (show((m:Nat):Int)≠0 by exact WS Z);show _=((zX c k%(m:Nat)).toNat:Int);lia⟩
 obtain⟨B,e6,h6⟩ : ∃B:Nat,zX c 6%6=(B:Nat)/\B<6:=⟨(zX c 6%6).toNat,by have:=H 6;lia,by have:=H 6;lia⟩;have E:=iu (c:=c) (n:=13) (k:=6);refine p' (λo=>∃(x3 E X x8:OT)(p:Rat)(C:xz),o=[.fz (.int c),.fz (.int (m:Nat)),.fz (.lst ((iZ c 13).map L2.T.int)),x3,.fz (aa p),.fz (.lst (C.map cr)),E,X,x8]/\LDk m ⟨min B 4,p,C⟩) ?_ λs go=>?_
 .rintro _ ⟨x3,x6',X,x8,p,C,rfl,G⟩;refine⟨_,E,by decide,?_⟩;have:=q ⟨min B 4,p,C⟩ G;rw[show bv ⟨min B 4,p,C⟩=.tup [.int (if(4:Int)<zX c 6%6 then 4 else zX c 6%6),aa p,.lst (C.map cr)]by
   show L2.T.tup [.int ((min B 4:Nat):Int),_,_]=_;rw[e6,show((min B 4:Nat):Int)=(if(4:Int)<((B:Nat):Int)then(4:Int)else((B:Nat):Int))by split<;>lia]]at this
  exact this
 .refine⟨c,13,rfl,by decide,?_⟩;have ec:fj ((iZ c 13).map L2.T.int) (some 2) (some 6)=[2,3,4,5].map (λk=>L2.T.int (zX c k)):=rfl;show(fj ((iZ c 13).map L2.T.int) (some 2) (some 6)).length<=sizeLine/\iy _ _ _ _ (fj ((iZ c 13).map L2.T.int) (some 2) (some 6)) _;rw[ec];refine⟨show 4<=sizeLine by decide,comp_map (λk=>L2.T.int (zX c k)) (λk=>.int (t k:Nat)) [2,3,4,5] (λk _ N M K=>⟨Z,by rwa[rme]⟩) ?_⟩;have y0:=H 0;have y1:=H 1;refine⟨_,iu (k:=0),by decide,_,iu (k:=1),by decide,_,_,rfl,by lia,eV vw,?_⟩;have V:ir (divInt (zX c 0%61-30) (1+zX c 1%12)):=by
   obtain⟨x,y⟩:=div_pos (a:=zX c 0%61-30) (b:=1+zX c 1%12) vw;exact⟨aL y vw,by lia⟩
  generalize divInt (zX c 0%61-30) (1+zX c 1%12)=p at V ⊢;refine⟨_,rfl,_,E,by decide,?_⟩;have I:∀{n:Nat}{d:Int},((B:Nat):Int)≠d->decide (zX c 6%6=d)=false:=λg=>Zp (by rwa[e6]);have ye:∀{d:Int},((B:Nat):Int)=d->decide (zX c 6%6=d)=true:=λg=>Zs (by rwa[e6]);obtain h0|rfl|rfl|rfl:(B=0\/B=4\/B=5)\/B=1\/B=2\/B=3:=by lia
  .refine cp (I (n:=0) vw) ⟨_,E,by decide,cp (I (n:=0) vw) ⟨_,E,by decide,cp (I (n:=0) vw) (go _ ⟨_,_,_,_,p,[(t 2,1)],rfl,.sure vw (U 2) V⟩)⟩⟩
  .have x8:=H 8;have x9:=H 9;refine dA (ye rfl) ?_;refine⟨_,iu (k:=8),by decide,_,iu (k:=9),by lia,_,_,rfl,by lia,eV vw,_,rfl,_,rfl,?_⟩;obtain⟨b,eb,W,b1⟩ : ∃b:Int,1+zX c 8%6=b/\0<b/\b<=6:=⟨_,rfl,by lia,by lia⟩;rw[eb];have a0:=Z3 (zX c 9) (show b+1≠0 by lia);have a1:=YY (zX c 9) (show 0<b+1 by exact Int.lt_trans W (Int.lt_succ _));generalize zX c 9%(b+1)=a at a0 a1 ⊢;have nn:0<=divInt a b:=divInt_nonneg a0 (XY W);have l1:0<=1-divInt a b:=by rw[one_sub (WS W)];exact divInt_nonneg vw (XY W)
   have dd:=Ru (a:=a) W;generalize divInt a b=x at nn l1 dd ⊢;refine⟨_,E,by decide,cp (I (n:=0) vk) ⟨_,E,by decide,cp (I (n:=0) vk) (go _ ⟨.fz (.lst ([2,3,4,5].map λk=>L2.T.int (t k:Nat))),.fz (.int b),.fz (aa x),.und,p,[(t 2,x),(t 3,1-x)],?_,LDk.toss (U 2) (U 3) V nn l1 (show 0<b.toNat by lia) vw dd⟩)⟩⟩;rw[show[(t 2,x),(t 3,1-x)].map cr=[.tup [.int (t 2:Nat),aa x],.tup [.int (t 3:Nat),aa (1-x)]]from rfl,adl]
   rfl
  .have X:=H 7;obtain⟨n,en,n0,O⟩ : ∃n:Nat,1+zX c 7%4=(n:Nat)/\0<n/\n<=4:=⟨(1+zX c 7%4).toNat,by lia,by lia,by lia⟩;refine cp (I (n:=0) vk) ⟨_,E,by decide,dA (ye rfl) ?_⟩;refine⟨_,iu (k:=7),by decide,?_⟩;show(fj ([2,3,4,5].map λk=>L2.T.int (t k:Nat)) none (some (1+zX c 7%4))).length<=sizeLine/\iy _ _ _ _ (fj ([2,3,4,5].map λk=>L2.T.int (t k:Nat)) none (some (1+zX c 7%4))) _;have ec2:fj ([2,3,4,5].map λk=>L2.T.int (t k:Nat)) none (some (1+zX c 7%4))=(([2,3,4,5].map t).take n).map λr:Nat=>L2.T.int (r:Nat):=by
    rw[en,Hr,map_take,WU]
    rfl
   have rl:(([2,3,4,5].map t).take n).length=n:=by rw[aY];show min n 4=n;lia
   have S:∀r∈([2,3,4,5].map t).take n,r<m:=λr J=>by
    obtain⟨k,_,rfl⟩:=YV.mp (mem_of_mem_take J);exact U k
   rw[ec2];generalize([2,3,4,5].map t).take n=h at rl S ⊢;have r0:0<h.length:=by lia
   have e2:(h.map λr=>(r,mkRat 1 h.length)).map cr=h.map λr=>cr (r,mkRat 1 h.length):=by rw[WU];rfl
   refine⟨by rw[ak];exact aL (show _<=4 by exact aL (WG rl) O) vk,comp_map (λr:Nat=>L2.T.int (r:Nat)) (λr=>cr (r,mkRat 1 h.length)) h (λr J N M K=>?_) ⟨_,E,by decide,cp (I (n:=0) vk) (go _ ⟨.fz (.lst (h.map λr:Nat=>L2.T.int (r:Nat))),.und,.und,.und,p,h.map λr=>(r,mkRat 1 h.length),by rw[e2];rfl,LDk.even r0 (aL (WG rl) O) S V⟩)⟩⟩;rw[show cr (r,mkRat 1 h.length)=.tup [.int (r:Nat),aa (mkRat 1 h.length)]from rfl,Yo r0,<- ak (f:=λr:Nat=>L2.T.int (r:Nat))]at K;exact K
  .have X:=H 7;have x12:=H 12;obtain⟨n,en,n0,O⟩ : ∃n:Nat,9+zX c 7%4=((8+n:Nat):Int)/\0<n/\n<=4:=⟨(1+zX c 7%4).toNat,by lia,by lia,by lia⟩;refine cp (I (n:=0) vk) ⟨_,E,by decide,cp (I (n:=0) vk) ⟨_,E,by decide,dA (ye rfl) ?_⟩⟩;refine⟨_,iu (k:=7),by decide,?_⟩;show(fj ((iZ c 13).map L2.T.int) (some 8) (some (9+zX c 7%4))).length<=sizeLine/\iy _ _ _ _ (fj ((iZ c 13).map L2.T.int) (some 8) (some (9+zX c 7%4))) _;have ec3:fj ((iZ c 13).map L2.T.int) (some 8) (some (9+zX c 7%4))=(((iZ c 13).drop 8).take n).map L2.T.int:=by
    rw[en,oX];have:=Zy (ys:=iZ c 13) (a:=8) (b:=8+n) (X1 _ _) (by rw[ak,WP];lia);rw[show 8+n-8=n by exact TK _ _]at this;exact ZH (List.map L2.T.int) this
   have ul:(((iZ c 13).drop 8).take n).length=n:=by rw[aY,UQ,ak,WP];lia
   rw[ec3];generalize((iZ c 13).drop 8).take n=u at ul ⊢;obtain⟨d,hd,ed⟩:=UE [3,3,3,1000] L2.T.int (i:=zX c 12%4) (Z3 _ vk) (by show zX c 12%4<4;exact YY _ vk);have d0:0<d/\d<=1000:=by simp at hd;lia
   refine⟨by rw[ak];exact aL (show _<=4 by exact aL (WG ul) O) vk,comp_map L2.T.int (λx=>L2.T.int (x%d)) u (λx hx N M K=>⟨_,iu (k:=12),by decide,_,ed,d0.1,K⟩) ?_⟩;have em:u.map (λx=>L2.T.int (x%d))=(u.map (· % d)).map L2.T.int:=by rw[WU];rfl
   rw[em];have wl:(u.map (· % d)).length=n:=by rwa[ak]
   have P:∀w∈u.map (· % d),0<=w/\w<1000:=λw hw=>by
    obtain⟨x,_,rfl⟩:=YV.mp hw;have:=Z3 x (show d≠0 by lia);have:=YY x d0.1;lia
   generalize u.map (· % d)=l at wl P ⊢;obtain⟨A,v,rfl⟩ : ∃A v,l=A++[v]:=by
    rcases List.eq_nil_or_concat l with rfl|⟨A,v,e⟩
    .cases wl;cases n0
    .exact⟨A,v,by rw[e,List.concat_eq_append]⟩
   rw[aA,length_singleton]at wl;have ixl:cv ((A++[v]).map L2.T.int) (-1)=some (.int v):=by
    show d6 ((A++[v]).map L2.T.int).reverse 0=_;rw[bf,List.reverse_append]
    rfl
   have ixn:c6 ((A++[v]).map L2.T.int).length (-1)=some A.length:=by
    unfold c6;rw[ak,aA,length_singleton];rw[ZZ vk,ZY vw]
    congr 1
    lia
   refine⟨_,ixl,_,ixn,?_⟩;have es:((A++[v]).map L2.T.int).set A.length (.int (v+1))=(A++[v+1]).map L2.T.int:=by
    rw[bf,bf,List.set_append_right _ _ (by rw[ak];exact aG _),ak,Nat.sub_self]
    rfl
   dsimp only[frz];rw[es];have m4:(A++[v+1]).length=n:=by rwa[aA,length_singleton]
   have m3:∀w∈A++[v+1],0<=w/\w<=1000:=λw hw=>by
    rcases Y1.mp hw with z|z
    .have:=P w (UR _ z);lia
    .have:=P v (aP _ (YR.mpr rfl));rw[YR.mp z];lia
   have s0:0<(A++[v+1]).sum:=by
    have:0<=A.sum:=EU λw hw=>(P w (UR _ hw)).1;have:=(P v (aP _ (YR.mpr rfl))).1;rw[List.sum_append];show 0<A.sum+(v+1+0);lia
   have s1:(A++[v+1]).sum<=1000*(A++[v+1]).length:=ES λw hw=>(m3 w hw).2;generalize A++[v+1]=u at m4 m3 s0 s1 ⊢;have Q:(u.map L2.T.int).length=u.length:=ak ..;have r4:∀k,k<4->([2,3,4,5].map t)[k]?=some (t (k+2)):=λk G=>by
    obtain rfl|rfl|rfl|rfl:k=0\/k=1\/k=2\/k=3:=by lia
    all_goals rfl
   have z:∀k(G:k<u.length),((([2,3,4,5].map t).zip u).map λx=>(x.1,divInt x.2 u.sum))[k]?=some (t (k+2),divInt (u.getD k 0) u.sum):=λk G=>by
    rw[aq,List.getElem?_zip_eq_some (z:=(t (k+2),u.getD k 0)) |>.mpr ⟨r4 k vw,by rw[au,aj G];rfl⟩]
    rfl
   have ep:(range (u.map L2.T.int).length).map (λk=>cr (t (k+2),divInt (u.getD k 0) u.sum))=((([2,3,4,5].map t).zip u).map λx=>(x.1,divInt x.2 u.sum)).map cr:=by
    refine Q2 λk=>?_;rw[Q];by_cases G:k<u.length
    .rw[aq,VY G,aq,z k G]
     rfl
    .rw[aM (by rw[ak,WP];exact VW G),aM (by rw[ak,ak,VZ];omega)]
   refine⟨⟨by lia,by lia⟩,by rw[rng,ak,WP];exact aL (show _<=4 by lia) vk,JD (λk=>cr (t (k+2),divInt (u.getD k 0) u.sum)) (u.map L2.T.int).length (λk G N M K=>?_) (go _ ⟨.fz (.lst ([2,3,4,5].map λk=>L2.T.int (t k:Nat))),.und,.und,.fz (.lst (u.map L2.T.int)),p,(([2,3,4,5].map t).zip u).map λx=>(x.1,divInt x.2 u.sum),by rw[ep];rfl,LDk.mix (h:=[2,3,4,5].map t) (aL (WG m4) O) (λr J=>?_) (λw hw=>(m3 w hw).1) (show u.length<=4 by exact aL (WG m4) O) s0 vw V⟩)⟩
   .rw[Q]at G;have ek:u[k]?=some (u.getD k 0):=by rw[au,aj G];rfl
    have L:=r4 k vw;rw[aq]at L;refine⟨.int (t (k+2):Nat),?_,_,c7 ek,u,rfl,_,_,rfl,s0,eV vw,K⟩;show d6 _ k=_;rw[tR,aq];cases z2:([2,3,4,5] : xy)[k]? with
    |none=>rw[z2]at L;cases L
    |some j=>rw[z2]at L;injection L with L;show some (L2.T.int (t j:Nat))=_;rw[show t j=t (k+2)from L]
   .obtain⟨k,_,rfl⟩:=YV.mp J;exact U k
structure DSk(m mo:Nat)(ae:xp):Prop where
 len:ae.length=m
 few:∀u∈ae,u.length<=mo
 ok:∀u∈ae,∀d∈u,LDk m d
abbrev f4(ae:xp):vz:=ae.map λu=>u.map bv
abbrev Gp(ae:xp):T:=.lst (ae.map λu=>.lst (u.map bv))
def ZB(a:xp):frz (.l2 (f4 a))=Gp a:=by
 show L2.T.lst ((a.map λu=>u.map bv).map L2.T.lst)=_;rw[WU]
 rfl
def DSk.add{a:Nat}{c:xp}(h:DSk m a c){u:we}{d:LD}(e:c[k]?=some u)(lt:u.length<a)(hd:LDk m d):DSk m a (c.set k (u++[d])):=by
 refine⟨by rw[WH,h.len],λx b=>?_,λx b y f=>?_⟩
 .rcases List.mem_or_eq_of_mem_set b with z|rfl
  .exact h.few x z
  .rw[aA,length_singleton];exact lt
 .rcases List.mem_or_eq_of_mem_set b with z|rfl
  .exact h.ok x z y f
  .rcases Y1.mp f with z|z
   .exact h.ok u (aC e) y z
   .rw[YR.mp z];exact hd
def UA{a:xp}{r:Nat}{u:we}(e:a[r]?=some u):cv ((f4 a).map L2.T.lst) (r:Nat)=some (.lst (u.map bv)):=by
 show d6 ((f4 a).map L2.T.lst) r=_;rw[tR,aq,aq,e];rfl
def W3:ST:=λd q=>∃(ns:xi)(a m b:Nat),d=[hQ ns,.int (a:Nat),.int (m:Nat),.int (b:Nat)]/\ns.length<=100/\m<=300/\b<=1000/\∀c:xp,DSk m b c->q (.l2 (f4 c))
def adb(T:Tx D):gT 5 K4 zU W3:=yB T.agt WK (λ_ _=>bG (_D (bH Jp) Qz Qz ["_law_k"] (dO T.fB (bA vn bC)) (dZ (i:=0)) cA (dg bC) (gZ (i:=4) WK.nd rfl (Or.inl rfl)))
  (bG (cC (b_ HY vn bF)
  (bG (bT 5 (bM cH (bJ (gL T) (bA vc (bA vt bC))) bF))
  (bG (bT 6 (bJ (hE T) (bA vF (bA (bM cH (bM cH (bM _r vF bF) bF) (bM cY (bM cJ bF vn) bF)) bC))))
  (bI (dh (cg (bM cY (qv 6) (i_ vc (fY (bM cY vt bF)) (fY (bM cY vt bF))))) (bZ (n:=99) 7)
  (bG (bT 8 (bM cH (bK (bJ (hE T) (bA (qv 7) (bA bF bC))) bF) vn))
  (bI (cC (Ms 4 (b_ Ey (bQ cI T.dH WJ (bA (bK vi (qv 8)) bC)) ve))
  (bI (_3 4 (qv 8) (bJ (_K T) (bA (qv 7) (bA vn bC)))))
  bV)))))))
  bV)
  (bI (iD 4))))<|by
 rintro _ R ⟨ns,a,m,g,rfl,F,u,G,q⟩;have L:(range m).map (λ_=>([] : List L2.T))=f4 (replicate m []):=by
  unfold f4;rw[List.map_replicate,map_const',WP]
  rfl
 have z:DSk m g (replicate m []):=⟨aN,λx p=>by rw[(List.mem_replicate.mp p).2];exact aZ _,λx p y v=>by rw[(List.mem_replicate.mp p).2]at v;cases v⟩;refine⟨⟨by lia,by lia⟩,by rw[rng,ak,WP];exact aL u vk,WW (λ_=>[]) m (λk Q N M J=>J) ?_⟩;rw[L];refine eL (λw=>?_) λw=>q _ z;refine⟨ns,a,rfl,F,by decide,?_⟩;dsimp only[frz];generalize ns.getD a 0%2147483647=e;have f:(0:Int)<2*(m:Nat)+1:=by lia
 obtain⟨n,K,P⟩ : ∃n:Nat,e*48271%104729%(2*(m:Nat)+1)=(n:Nat)/\n<=2*m:=⟨(e*48271%104729%(2*(m:Nat)+1)).toNat,by
  have:=Z3 (e*48271%104729) (show(2*(m:Nat)+1:Int)≠0 by exact WS f);lia,by
  have:=YY (e*48271%104729) f;have:=Z3 (e*48271%104729) (show(2*(m:Nat)+1:Int)≠0 by exact WS f);lia⟩
 refine⟨.inr (by constructor<;>decide),by decide,⟨eV vk,eV vw⟩,f,e,n,by rw[K];rfl,by lia,?_⟩;have A:(iZ e n).map L2.T.int++fj (ns.map L2.T.int) (some ((a:Nat)+1)) (some ((a:Nat)+13))=(iZ e n++fj ns (some ((a:Nat)+1)) (some ((a:Nat)+13))).map L2.T.int:=by rw[oX,bf]
 have V:(fj ns (some ((a:Nat)+1)) (some ((a:Nat)+13))).length<=100:=by
  unfold fj;rw[aY,UQ];lia
 show((iZ e n).map L2.T.int).length+(fj (ns.map L2.T.int) (some ((a:Nat)+1)) (some ((a:Nat)+13))).length<=sizeLine/\_;refine⟨?_,?_⟩
 .rw[oX,ak,ak,ak,WP];exact aL (show _<=1100 by lia) vk
 dsimp only[frz];rw[A];have E:(iZ e n++fj ns (some ((a:Nat)+1)) (some ((a:Nat)+13))).length<=1100:=by rw[aA,ak,WP];lia
 generalize iZ e n++fj ns (some ((a:Nat)+1)) (some ((a:Nat)+13))=O at E ⊢;generalize iZ e n=C at A ⊢;refine eN L2.T.int O (λ_ o=>∃(b:xp)(l j:OT),o=[.fz (hQ ns),.fz (.int (a:Nat)),.fz (.int (m:Nat)),.fz (.int (g:Nat)),.l2 (f4 b),.fz (.int e),.fz (.lst (C.map L2.T.int)),l,j]/\DSk m g b) ⟨_,_,_,rfl,z⟩ ?_ ?_
 .rintro B c rest _ _ ⟨b,l,j,rfl,h⟩;dsimp only[hName];have mp:(0:Int)<(m:Nat):=by omega
  obtain⟨r,s,H⟩ : ∃r:Nat,zX c 13%(m:Nat)=(r:Nat)/\r<m:=by
   have U:=Z3 (zX c 13) (show((m:Nat):Int)≠0 by exact WS w);have S:=YY (zX c 13) mp;exact⟨(zX c 13%(m:Nat)).toNat,by lia,by lia⟩
  refine⟨c,14,rfl,by decide,_,iu (k:=13),mp,?_⟩;dsimp only[frz];rw[s];have I:r<b.length:=by rwa[h.len]
  have t:=aj I;refine⟨_,UA t,eL (λlt=>?_) λ_=>⟨b,.fz (.int c),.fz (.int (r:Nat)),rfl,h⟩⟩;have lt:((b[r].map bv).length:Int)<(g:Nat):=lt;rw[ak]at lt;refine⟨r,b[r].map bv,?_,by rw[aq,t];rfl,by rw[ak];exact aR (show _<1001 by lia) vk,c,m,rfl,by lia,by exact aL u vk,λd hd=>⟨b.set r (b[r]++[d]),.fz (.int c),.fz (.int (r:Nat)),?_,h.add t vw hd⟩⟩
  .unfold c6;rw[ak,ZY (X9 _),ZY vw]
   rfl
  .rw[show f4 (b.set r (b[r]++[d]))=(f4 b).set r (b[r].map bv++[bv d])by
    unfold f4;rw[Th,bf]
    rfl]
   rfl
 .rintro _ ⟨b,l,j,rfl,h⟩;exact q b h
def o7(l:xz)(p:Nat×Rat):xz:=if(l.any λx=>decide (x.1=p.1))=true then l.map (λx=>if x.1=p.1 then(x.1,x.2+p.2)else x)else l++[p]
def fZ(E:xz):xz:=E.foldl o7 []
def nQ(E:xz):xz:=(fZ E).filter λp=>!decide (p.2=0)
abbrev ba(ns:Φ)(p:Nat×Rat):Str×Rat:=(ns.getD p.1 ⟨#[]⟩,p.2)
def QX(c:ns.Nodup)(b:i<ns.length)(a:j<ns.length):(ns.getD i ⟨#[]⟩=ns.getD j ⟨#[]⟩)↔i=j:=by
 constructor
 .intro h;rw[au,au,aj b,aj a]at h;rcases Nat.lt_trichotomy i j with l|l|l
  .exact absurd h ((List.pairwise_iff_getElem.mp c) i j b a l)
  .exact l
  .exact absurd h.symm ((List.pairwise_iff_getElem.mp c) j i a b l)
 .intro h;rw[h]
def WE(b:ns.Nodup){p:Nat×Rat}(c:∀w∈l,w.1<ns.length)(d:p.1<ns.length):cb (l.map (ba ns)) (ba ns p)=(o7 l p).map (ba ns):=by
 have f:((l.map (ba ns)).any λx=>decide (x.1=(ba ns p).1))=l.any λx=>decide (x.1=p.1):=by
  rw[UH];refine Bool.eq_iff_iff.mpr ⟨λh=>?_,λh=>?_⟩
  .obtain⟨x,a,e⟩:=List.any_eq_true.mp h;exact List.any_eq_true.mpr ⟨x,a,Zs ((QX b (c x a) d).mp (of_decide_eq_true e))⟩
  .obtain⟨x,a,e⟩:=List.any_eq_true.mp h;exact List.any_eq_true.mpr ⟨x,a,Zs ((QX b (c x a) d).mpr (of_decide_eq_true e))⟩
 unfold cb o7;rw[f];split
 .rw[WU,WU];refine UU λx a=>?_;show(if(ba ns x).1=(ba ns p).1 then _ else _)=ba ns (if x.1=p.1 then _ else _);by_cases e:x.1=p.1
  .rw[ZY e,ZY ((QX b (c x a) d).mpr e)]
  .rw[ZZ e,ZZ λz=>e ((QX b (c x a) d).mp z)]
 .rw[bf];rfl
def Jz{p w:Nat×Rat}(h:w∈o7 l p):(w∈l/\w.1≠p.1)\/w=p\/∃x∈l,x.1=p.1/\w=(x.1,x.2+p.2):=by
 unfold o7 at h;split at h
 .obtain⟨x,a,rfl⟩:=YV.mp h;by_cases e:x.1=p.1
  .rw[ZY e];exact .inr (.inr ⟨x,a,e,rfl⟩)
  .rw[ZZ e];exact .inl ⟨a,e⟩
 .rename_i n
  rcases Y1.mp h with z|z
  .exact .inl ⟨z,λe=>n (List.any_eq_true.mpr ⟨w,z,Zs e⟩)⟩
  .exact .inr (.inl (YR.mp z))
def GA(c:ns.Nodup)(h:∀p∈E,p.1<ns.length):kZ (E.map (ba ns))=(fZ E).map (ba ns):=by
 suffices H:∀(E l:xz),(∀p∈E,p.1<ns.length)->(∀w∈l,w.1<ns.length)->(E.map (ba ns)).foldl cb (l.map (ba ns))=(E.foldl o7 l).map (ba ns)from H E [] h λ_ z=>(nomatch z)
 intro E
 induction E with
 |nil=>exact λ_ _ _=>rfl
 |cons p E d =>
  intro l b a;rw[map_cons,foldl_cons,foldl_cons,WE c a (b p (aO ..))];refine d _ (λq f=>b q (aJ _ f)) λw g=>?_;rcases Jz g with⟨z,_⟩|rfl|⟨x,e,_,rfl⟩
  .exact a w z
  .exact b w (aO ..)
  .exact a x e
def _O(a:ns.Nodup)(h:∀p∈E,p.1<ns.length):El (E.map (ba ns))=(nQ E).map (ba ns):=by
 unfold El nQ;rw[GA a h,List.filter_map]
 rfl
def Rn(c:0<q):r.den ∣ q↔∃x:Int,r=divInt x q:=by
 constructor
 .rintro⟨k,rfl⟩;refine⟨r.num*k,?_⟩;have d:((k:Nat):Int)≠0:=λz=>by rw[show k=0 by lia]at c;lia
  conv=>lhs;rw[<- rd r]
  refine(QY (pq r) (by push_cast;exact pU (pq r) d)).mpr ?_
  push_cast
  grind
 .rintro⟨x,rfl⟩;have:=Ru (a:=x) (b:=(q:Nat)) vw;exact this
def Ky{a b:Rat}(d:0<q)(f:a.den ∣ q)(e:b.den ∣ q):(a+b).den ∣ q:=by
 obtain⟨x,rfl⟩:=(Rn d).mp f;obtain⟨y,rfl⟩:=(Rn d).mp e;have c:((q:Nat):Int)≠0:=by lia
 refine(Rn d).mpr ⟨x+y,?_⟩;rw[QU _ _ c c];refine(QY (pU c c) c).mpr ?_
 grind
structure iA(m q:Nat)(as l:xz):Prop where
 nd:(l.map (·.1)).Nodup
 lt:∀w∈l,w.1<m
 nn:∀w∈l,0<=w.2
 dn:∀w∈l,w.2.den ∣ q
 sum:∀y:Nat->Rat,dw l y=dw as y
 few:l.length<=as.length
def KJ(b c:xz)(y:Nat->Rat):dw (b++c) y=dw b y+dw c y:=by
 induction b with
 |nil=>show dw c y=0+_;rw[T2]
 |cons a b d=>rw[cons_append,dJ,dJ,d,Rat.add_assoc]
def Y9(p:Nat×Rat)(y:Nat->Rat):dw [p] y=p.2*y p.1:=by rw[dJ];show _+0=_;rw[Rat.add_zero]
def T'{p:Nat×Rat}(a:(l.map (·.1)).Nodup)(y:Nat->Rat):dw (o7 l p) y=dw l y+p.2*y p.1:=by
 unfold o7;split
 .rename_i h
  induction l with
  |nil=>cases h
  |cons x l d =>
   obtain⟨c,b⟩:=List.nodup_cons.mp a;rw[map_cons,dJ,dJ];by_cases e:x.1=p.1
   .rw[ZY e];have rest:l.map (λx=>if x.1=p.1 then(x.1,x.2+p.2)else x)=l:=by
     conv=>rhs;rw[<- List.map_id l]
     refine UU λz f=>?_;rw[ZZ λw=>c (YV.mpr ⟨z,f,w.trans e.symm⟩)]
     rfl
    rw[rest,<- e];show(x.2+p.2)*y x.1+dw l y=_
    grind
   .rw[ZZ e,d b (by
     rw[any_cons,Zp e,Bool.false_or]at h;exact h)]
    grind
 .rw[KJ,Y9]
def EA{p:Nat×Rat}(c:(l.map (·.1)).Nodup):((o7 l p).map (·.1)).Nodup:=by
 unfold o7;by_cases h:(l.any λx=>decide (x.1=p.1))=true
 .rw[ZY h,WU];rw[show l.map ((λx=>x.1) ∘ λx=>if x.1=p.1 then(x.1,x.2+p.2)else x)=l.map (·.1)from UU λx _=>by show(if x.1=p.1 then(x.1,x.2+p.2)else x).1=x.1;split<;>rfl];exact c
 .rw[ZZ h,bf];refine List.nodup_append.mpr ⟨c,by simp,λa f b d z=>h ?_⟩;obtain⟨x,e,rfl⟩:=YV.mp f;rw[map_singleton,YR]at d;exact List.any_eq_true.mpr ⟨x,e,Zs (z.trans d)⟩
def afS(e:0<q){d:xz}{p:Nat×Rat}(c:p.1<m/\0<=p.2/\p.2.den ∣ q)(h:iA m q d l):iA m q (d++[p]) (o7 l p):=by
 refine⟨EA h.nd,λw b=>?_,λw b=>?_,λw b=>?_,λy=>by rw[T' h.nd,h.sum,KJ,Y9],?_⟩
 .rcases Jz b with⟨z,_⟩|rfl|⟨x,a,_,rfl⟩
  .exact h.lt w z
  .exact c.1
  .exact h.lt x a
 .rcases Jz b with⟨z,_⟩|rfl|⟨x,a,_,rfl⟩
  .exact h.nn w z
  .exact c.2.1
  .have:=h.nn x a;have:=c.2.1;show 0<=x.2+p.2
   grind
 .rcases Jz b with⟨z,_⟩|rfl|⟨x,a,_,rfl⟩
  .exact h.dn w z
  .exact c.2.2
  .exact Ky e (h.dn x a) c.2.2
 .have:=h.few;unfold o7;split
  .rw[ak,aA];exact aL this (X1 _ _)
  .rw[aA,aA];simp;omega
def Ho(e:0<q):∀{E:xz},(∀p∈E,p.1<m/\0<=p.2/\p.2.den ∣ q)->iA m q E (fZ E):=by
 intro E h
 suffices H:∀(E a l:xz),(∀p∈E,p.1<m/\0<=p.2/\p.2.den ∣ q)->iA m q a l->iA m q (a++E) (E.foldl o7 l)from H E [] [] h ⟨.nil,λ_ z=>(nomatch z),λ_ z=>(nomatch z),λ_ z=>(nomatch z),λ_=>rfl,aG _⟩
 intro E
 induction E with
 |nil=>intro a l _ h;rwa[append_nil]
 |cons p E c =>
  intro a l b h;have:=c (a++[p]) (o7 l p) (λx d=>b x (aJ _ d)) (afS e (b p (aO ..)) h);rw[Wp]at this;exact this
theorem Gx(y:Nat->Rat):∀l:xz,dw (l.filter λp=>!decide (p.2=0)) y=dw l y
 |[]=>rfl
 |w::l=>by
  by_cases e:w.2=0
  .rw[List.filter_cons_of_neg (by rw[Zs e];decide),Gx y l,dJ,e,Rat.zero_mul,T2]
  .rw[List.filter_cons_of_pos (by rw[Zp e];rfl),dJ,dJ,Gx y l]
def SQ(b:0<q)(h:∀p∈E,p.1<m/\0<=p.2/\p.2.den ∣ q):iA m q E (nQ E):=by
 have j:=Ho b h;have sub:∀w∈nQ E,w∈fZ E:=λw a=>(List.mem_filter.mp a).1;refine⟨(List.filter_sublist.map _).nodup j.nd,λw a=>j.lt w (sub w a),λw a=>j.nn w (sub w a),λw a=>j.dn w (sub w a),λy=>?_,aL (List.length_filter_le ..) j.few⟩;unfold nQ;rw[Gx,j.sum]
theorem mC{w:Nat×Rat} : ∀{l:xz},(∀w∈l,0<=w.2)->w∈l->w.2<=dw l λ_=>1
 |[],_,h=>by cases h
 |x::l,a,h=>by
  rw[dJ];have b:∀l:xz,(∀w∈l,0<=w.2)->0<=dw l λ_=>1:=λl=>by
   induction l with
   |nil=>intro _;exact W1
   |cons y l c =>
    intro h;rw[dJ];have:=h y (aO ..);have:=c λw hw=>h w (aJ _ hw)
    grind
  rcases YU.mp h with rfl|z
  .have:=b l λw hw=>a w (aJ _ hw)
   grind
  .have:=mC (l:=l) (λw hw=>a w (aJ _ hw)) z;have:=a x (aO ..)
   grind
theorem Bo:∀E:xz,(dw E λ_=>1)=Gm (E.map (·.2))
 |[]=>rfl
 |p::E=>by
  rw[dJ,Bo E,Rat.mul_one]
  rfl
def LDk.all{d:LD}(h:LDk m d):∃q:Nat,0<q/\q<=4000/\∀p∈d.prs,p.1<m/\0<=p.2/\p.2.den ∣ q:=by
 obtain⟨q,c,b,e⟩:=h.dn;exact⟨q,c,b,λp a=>⟨h.lt p a,h.nn p a,e p a⟩⟩
def oQ(a:0<q)(d:q<=4000)(c:0<=r)(b:r<=1)(hd:r.den ∣ q):Ch r:=⟨c,b,eV (by have:=UZ a hd;lia)⟩
def LDk.prsOk{d:LD}(h:LDk m d)(v:iv ns m):l5 (d.prs.map (ba ns)):=by
 obtain⟨q,f,i,s⟩:=h.all;have k:∀p∈d.prs,p.2<=1:=λp b=>by
  rw[<- h.one,<- Bo];exact mC h.nn b
 have few:=h.few;have C:(d.prs.map (ba ns)).map (·.2)=d.prs.map (·.2):=by rw[WU];rfl
 refine⟨by rw[ak];exact aL few vk,λp b=>?_,?_,by rw[C];exact h.one,λT a S e=>?_⟩
 .obtain⟨x,u,rfl⟩:=YV.mp b;obtain⟨Q,H,G⟩:=s x u;have D:x.1<ns.length:=by rwa[v.len]
  refine⟨v.wd _ ?_,oQ f i H (k x u) G⟩;show ns.getD x.1 ⟨#[]⟩∈ns;rw[au,aj D];exact aU D
 .rw[C];have:=v7 (d.prs.map (·.2)) (n:=1) (m:=q) (JY _) λr M=>by
   obtain⟨x,u,rfl⟩:=YV.mp M;exact(s x u).2.2
  have:=UZ f this;exact eV vw
 .obtain⟨g,P,t,rfl,N⟩:=List.map_eq_append_iff.mp e;obtain⟨c,B,rfl,rfl,rfl⟩:=List.map_eq_cons_iff.mp N;have sub:∀p∈g,p∈d.prs:=λp b=>t ▸ UR _ b;have z:=s c (t ▸ aP _ (aO ..));have O:Ch c.2:=oQ f i z.2.1 (k c (t ▸ aP _ (aO ..))) z.2.2;have j:=Ho f (E:=g) (m:=m) λp b=>s p (sub p b);rw[GA v.nd λp b=>by rw[v.len];exact(s p (sub p b)).1];have F:Ch (Df ((fZ g).map (ba ns)) (ba ns c).1):=by
   unfold Df;cases A:((fZ g).map (ba ns)).find? λx=>decide (x.1=(ba ns c).1)with
   |none=>exact⟨W1,by show(0:Rat)<=1;decide,eV vk⟩
   |some x =>
    obtain⟨y,o,rfl⟩:=YV.mp (List.mem_of_find?_eq_some A);refine oQ f i (j.nn y o) ?_ (j.dn y o);have K:=mC j.nn o;rw[j.sum]at K;have J:=h.one;rw[<- Bo,t,KJ]at J;have R:0<=dw (c::B) λ_=>1:=by
     have:∀l:xz,(∀w∈l,0<=w.2)->0<=dw l λ_=>1:=λl=>by
      induction l with
      |nil=>intro _;exact W1
      |cons y l L =>
       intro h;rw[dJ];have:=h y (aO ..);have:=L λw hw=>h w (aJ _ hw)
       grind
     exact this _ λw hw=>h.nn w (t ▸ aP _ hw)
    show y.2<=1
    grind
  refine⟨F.bq,O.bq,?_⟩;have:=F.2.2;have:=UZ f z.2.2;have I:(Df ((fZ g).map (ba ns)) (ba ns c).1).den<=4000:=by
   unfold Df;cases A:((fZ g).map (ba ns)).find? λx=>decide (x.1=(ba ns c).1)with
   |none=>exact US rfl
   |some x =>
    obtain⟨y,o,rfl⟩:=YV.mp (List.mem_of_find?_eq_some A);have:=UZ f (j.dn y o);exact aL this i
  refine eV ?_;rw[VV,XT,XT];exact Y3 (VU I (show c.2.den<=4000 by exact aL this i)) vk
noncomputable def da(D:a'):Nat->Addr
 |1=>D.Toss
 |2=>D.Even
 |3=>D.Mixed
 |_=>D.Sure
abbrev kM(t:Str)(d:LD):bO:=⟨t,d.pay,nQ d.prs⟩
abbrev zG(D:a')(t:Str)(d:LD):Made:=⟨da D d.sort,kM t d⟩
def aeR(D:a'):∀k,dU D (da D k)
 |0=>by unfold dU da;simp
 |1=>by unfold dU da;simp
 |2=>by unfold dU da;simp
 |3=>by unfold dU da;simp
 |_+4=>by unfold dU da;simp
def Xh(D:a'):ST:=λa q=>∃(t:Str)(d:LD)(ns:Φ)(m:Nat),a=[.str t,bv d,.lst (ns.map T.str)]/\Wd t/\iv ns m/\LDk m d/\q (.fz (eS ns (zG D t d)))
theorem __(T:Tx D):gT 8 Kr zH (Xh D):=yB T.ahV V2 (λv _=>bG (Qs vt (eG (n:=3) (bN (bZ (n:=99) 4) (bN (bZ (n:=99) 5) (bN (bZ (n:=99) 6) cZ)))))
  (bG (m6 (bH Fb) Ge Ge ["_law_room","_law_chance"] (cg (qv 6)) (eG (n:=2) (bN (dZ (i:=0)) (bN (dZ (i:=1)) cZ))) cA (d9 (bA (bK vi vc) (bA vt bC))) (gZ (i:=3) V2.nd rfl (Or.inl rfl)))
  (bG (cC (b_ (z0 v.units) vi bF)
  (bI (bR (FW T.ahF (QD T) T.ajh (bA vc (bA vF (bA (bK (bK ve bF) bF) (bA (bK (bK ve bF) bF) (bA (bK (bK ve bF) bF) bC))))))))
  bV)
  (bG (cC (b_ (z0 v.units) vi bF)
  (bI (bR (FW T.afY (Rt T) T.ajD (bA vc (bA vF (bA (cW (bH Fb) Ge Ge ["_law_room","_law_chance"] (cg ve) (eG (n:=2) (bN (dZ (i:=0)) (bN (dZ (i:=1)) cZ))) cA vc) bC))))))
  bV)
  (bG (cC (b_ (z0 v.units) vi bF)
  (bI (bR (FW T.ady (Pb T) T.Ug (bA vc (bA vF (bA ve bC))))))
  bV)
  (bI (bR (FW T.ahD (R6 T) T.akR (bA vc (bA vF (bA (bK (bK ve bF) bF) bC)))))))))))<|by
 rintro _ R ⟨t,d,ns,m,rfl,k,s,hd,q⟩;have o:=hd.few;have G:∀p∈d.prs,cv (ns.map L2.T.str) (p.1:Nat)=some (.str (ba ns p).1):=λp j=>by
  have A:p.1<ns.length:=by rw[s.len];exact hd.lt p j
  exact c7 (by rw[aj A];show _=some (ns.getD p.1 ⟨#[]⟩);rw[au,aj A];rfl)
 have H:(d.prs.map (ba ns)).map cz=d.prs.map λp=>cz (ba ns p):=by rw[WU];rfl
 have g:=hd.prsOk s;have u:=_O s.nd (E:=d.prs) λp j=>by rw[s.len];exact hd.lt p j
 refine⟨rfl,by rw[ak];exact aL o vk,comp_map cr (λp=>cz (ba ns p)) d.prs (λp j N M w=>⟨rfl,_,G p j,w⟩) ?_⟩;rw[<- H];obtain⟨f,c,l⟩:=d;have J:f<5:=hd.sort;have z:=hd.s0;have F:=hd.s1;have C:=hd.s2;dsimp only at *;obtain rfl|rfl|rfl|rfl|rfl:f=0\/f=4\/f=1\/f=2\/f=3:=by lia
 .obtain⟨a,rfl⟩:=z (.inl rfl);have y:nQ [(a,1)]=[(a,1)]:=by simp[nQ,fZ,o7]
  have e:R (.fz (gj D.Sure t c ([(a,1)].map (ba ns)))):=by rwa[<- y]
  exact⟨_,rfl,t,_,c,rfl,rfl,Ws D,rfl,k,(g.ok (ba ns (a,1)) (YR.mpr rfl)).1,e⟩
 .obtain⟨a,rfl⟩:=z (.inr rfl);have y:nQ [(a,1)]=[(a,1)]:=by simp[nQ,fZ,o7]
  have e:R (.fz (gj D.Sure t c ([(a,1)].map (ba ns)))):=by rwa[<- y]
  exact⟨_,rfl,t,_,c,rfl,rfl,Ws D,rfl,k,(g.ok (ba ns (a,1)) (YR.mpr rfl)).1,e⟩
 .obtain⟨a,b,x,rfl⟩:=F rfl;have e:R (.fz (gj D.Toss t c (El ([(a,x),(b,1-x)].map (ba ns))))):=by rwa[u]
  exact⟨_,rfl,_,rfl,_,rfl,t,_,_,c,x,rfl,rfl,acG D,rfl,k,(g.ok (ba ns (a,x)) (aO ..)).2,g,e⟩
 .obtain⟨h,rfl⟩:=C rfl;have e:R (.fz (gj D.Even t c (El ((h.map λr=>(r,mkRat 1 h.length)).map (ba ns))))):=by rwa[u]
  have B:even (((h.map λr=>(r,mkRat 1 h.length)).map (ba ns)).map (·.1))=(h.map λr=>(r,mkRat 1 h.length)).map (ba ns):=by
   have I:(((h.map λr=>(r,mkRat 1 h.length)).map (ba ns)).map (·.1)).length=h.length:=by simp
   unfold even;rw[I];simp[Function.comp_def]
  refine⟨by rw[ak,ak];exact aL o vk,comp_map cz (λp=>.str p.1) ((h.map λr=>(r,mkRat 1 h.length)).map (ba ns)) (λp j N M w=>⟨rfl,w⟩) ⟨t,c,((h.map λr=>(r,mkRat 1 h.length)).map (ba ns)).map (·.1),rfl,rfl,_6 D,?_,k,by rw[B];exact g,?_⟩⟩
  .rw[show(((h.map λr=>(r,mkRat 1 h.length)).map (ba ns)).map (·.1)).map L2.T.str=((h.map λr=>(r,mkRat 1 h.length)).map (ba ns)).map λp=>L2.T.str p.1 from WU]
   rfl
  .rw[B];exact e
 .have e:R (.fz (gj D.Mixed t c (El (l.map (ba ns))))):=by rwa[u]
  exact⟨t,c,l.map (ba ns),rfl,rfl,ach D,rfl,k,g,e⟩
structure Ia(ae:xp)(g:xj):Prop where
 len:g.length=ae.length
 at_:∀(k:Nat)u os,ae[k]?=some u->g[k]?=some os->∃tl:Φ,tl.length=u.length/\os=(tl.zip u).map λp=>kM p.1 p.2
theorem Wz{O c:Type} : ∀{A:List O}{ys:List c}{x:O}(y:c),A[ys.length]?=some x->A.zip (ys++[y])=A.zip ys++[(x,y)]
 |[],ys,_,_,e=>by cases e
 |a::A,[],x,y,e=>by cases e;simp
 |a::A,b::ys,x,y,e=>by
  rw[cons_append,zip_cons_cons,zip_cons_cons,Wz (A:=A) (ys:=ys) y (by simpa using e)]
  rfl
def ZR(D:a'):ST:=λd q=>∃(c:Int)(s:Rat)(m b:Nat)(a:xp),d=[.int c,aa s,Gp a]/\HA s/\DSk m b a/\m<=26/\b<=26/\∀ns g,iv ns m->Io ns g->Ia a g->q (.fz (ci D s ns g))
def _p(T:Tx D):gT 9 RX FQ (ZR D):=ya T.ajG λ{f Y}F=>by
 refine F.okT afJ (λ_ _=>bG (bT 3 (bJ (Fs T) (bA vc (bA (bQ cI T.dH WJ (bA vn bC)) bC))))
  (bG (gR 4 (dg bC))
  (bG (dh (dO T.fB (bA (bQ cI T.dH WJ (bA vn bC)) bC)) (bZ (n:=99) 5)
  (bG (bT 6 (bJ (Fs T) (bA (bM cY vc vF) (bA (bQ cI T.dH WJ (bA (bK vn vF) bC)) bC))))
  (bI (rK 4 (d9 (bA (bK ve vF) (bA (cW (bH Tp) Yh Yh ["_law_title","_law_door_here"] (Hs T.Km (bA (qv 6) (bA (bK vn vF) bC))) (eG (n:=2) (bN (dZ (i:=0)) (bN (dZ (i:=1)) cZ))) cA (bJ (__ T) (bA vc (bA vt (bA vF bC))))) bC)))))))
  (bI (Ri 4 (bR (FW T.agl (Tr T) T.aiV (bA vt (bA vi bC))))))))) ?_
 rintro _ R ⟨c,s,m,mo,b,rfl,I,hd,m1,L,q⟩;have dl:(b.map λu=>L2.T.lst (u.map bv)).length=m:=by rw[ak,hd.len]
 refine⟨c,m,by rw[<- dl];rfl,m1,λns v=>?_⟩;have K:=v.len;have e0:Dd ns []=[]:=by simp[Dd]
 refine⟨⟨by rw[dl];lia,by rw[dl];lia⟩,lA (λk o=>∃(d:wa)(H G:OT),o=[.fz (.int c),.fz (aa s),.fz (Gp b),.fz (.lst (ns.map L2.T.str)),.l1 (Dd ns d),H,G]/\d.length=k/\∀(i:Nat)u x,b[i]?=some u->d[i]?=some x->∃a,iv a u.length/\x=(a.zip u).map λp=>zG D p.1 p.2) ⟨[],.und,.und,by rw[e0];rfl,rfl,λi u x _ z=>by cases z⟩ ?_ ?_⟩
 .rintro k _ W ⟨d,H,G,rfl,g,C⟩;have W:k<m:=by rw[dl]at W;lia
  have r:k<b.length:=by rwa[hd.len]
  have Z:=aj r;have l:=aU r;have fk:=hd.few _ l;have V:cv (b.map λu=>L2.T.lst (u.map bv)) (k:Nat)=some (.lst (b[k].map bv)):=c7 Z;have nk:ns[k]?=some (ns.getD k ⟨#[]⟩):=by rw[au,aj vw];rfl
  refine⟨_,V,c+k,b[k].length,by rw[<- ak (as:=b[k]) (f:=bv)];rfl,by exact aL fk L,λa h=>?_⟩;refine⟨_,c7 nk,_,V,?_⟩;have zl:(a.zip b[k]).length<=26:=by rw[VZ];lia
  show(Fj (a.map L2.T.str) (b[k].map bv)).length<=sizeLine/\iy _ _ _ _ (Fj (a.map L2.T.str) (b[k].map bv)) _;rw[DW];refine⟨by rw[ak];exact aL zl vk,comp_map (λp=>.tup [.str p.1,bv p.2]) (λp=>eS ns (zG D p.1 p.2)) (a.zip b[k]) (λp B N M hN=>⟨rfl,p.1,p.2,ns,m,rfl,h.wd _ (UX B).1,v,hd.ok _ l _ (UX B).2,hN⟩) ⟨?_,d++[(a.zip b[k]).map λp=>zG D p.1 p.2],.fz (.int (k:Nat)),.fz (.lst (a.map L2.T.str)),?_,by rw[aA,g];rfl,λi u x A e=>?_⟩⟩
  .rw[ak,VZ];exact aR (show _<1000 by lia) vk
  .rw[show Dd ns (d++[(a.zip b[k]).map λp=>zG D p.1 p.2])=Dd ns d++[.tup [.str (ns.getD k ⟨#[]⟩),.lst ((a.zip b[k]).map λp=>eS ns (zG D p.1 p.2))]]by
    unfold Dd;rw[Wz (x:=ns.getD k ⟨#[]⟩) _ (by rwa[g]),bf,map_singleton]
    congr 2
    show g5 (_,((a.zip b[k]).map λp=>zG D p.1 p.2).map (eS ns))=_;rw[WU]
    rfl]
   rfl
  .by_cases E:i<d.length
   .rw[aF E]at e;exact C i u x A e
   .have O:=(ao.mp e).1;rw[aA,length_singleton]at O;have:i=k:=by lia
    subst this;rw[aD (WG g),show i-d.length=0 by lia]at e;cases e;rw[Z]at A;cases A;exact⟨a,h,rfl⟩
 .rintro _ ⟨d,H,G,rfl,g,C⟩;have g:d.length=m:=by rwa[g]
  have all:∀x∈d,∃u∈b,∃a,iv a u.length/\x=(a.zip u).map λp=>zG D p.1 p.2:=λx t=>by
   obtain⟨i,E⟩:=aV t;have O:=(ao.mp E).1;have ld:i<b.length:=by rw[hd.len];exact aR O (WG g)
   exact⟨_,aU ld,C i _ x (aj ld) E⟩
  have U:DV D ns d:=by
   refine⟨by rw[g,K],by lia,v.wd,v.nd,λx t=>?_⟩;obtain⟨u,X,a,h,rfl⟩:=all x t;have Y:=hd.few u X;have J:=h.len;refine⟨by rw[ak,VZ];lia,λy P=>?_,λy P=>?_,?_⟩
   .obtain⟨p,_,rfl⟩:=YV.mp P;exact aeR D _
   .obtain⟨p,B,rfl⟩:=YV.mp P;have r:=hd.ok u X p.2 (UX B).2;obtain⟨qq,q0,q1,hq⟩:=r.all;have j:=SQ q0 hq;have:=j.few;have:=r.few;exact⟨by show(nQ p.2.prs).length<=1000;lia,λw hw=>by rw[K];exact j.lt w hw⟩
   .rw[WU];show((a.zip u).map λp=>p.1).Nodup;rw[List.map_fst_zip (WG J)];exact h.nd
  have bs:Bq s:=⟨eV (by
   have h0:=Rat.num_nonneg.mpr I.lo;have Q:=(lt_iff s 1).mp I.hi;have Q:s.num*((1:Rat).den:Int)<(1:Rat).num*(s.den:Int):=Q;have:=I.den;simp at Q;lia),eV (by have:=I.den;lia)⟩
  refine⟨s,ns,d,rfl,rfl,rfl,rfl,I.lo,I.hi,bs,U,q ns (fo d) v ⟨?_,by lia,λos pe=>?_⟩ ⟨?_,λk u os A e=>?_⟩⟩
  .rw[ak,g,K]
  .obtain⟨x,t,rfl⟩:=YV.mp pe;rw[ak];exact(U.mds x t).few
  .rw[ak,g,hd.len]
  .rw[aq]at e;cases S:d[k]? with
   |none=>rw[S]at e;cases e
   |some x =>
    rw[S]at e;cases e;obtain⟨a,h,rfl⟩:=C k u x A S;exact⟨a,h.len,WU⟩
open Rw (sg jJ ji cB jU j7 Big)
def uK{i:Int}(h:i.natAbs<=10^n)(a:n<=2400):Bd i:=Y3 (aL h (XU vk a)) (by decide +kernel)
def G6{A:Nat}(e:r<=(A:Rat))(d : -(A:Rat)<=r):r.num.natAbs<=A*r.den:=by
 have a:=(le_iff r (A:Rat)).mp e;have b:=(le_iff (-(A:Rat)) r).mp d;have a:r.num*((1:Nat):Int)<=(A:Int)*(r.den:Int):=a;have b : -(A:Int)*(r.den:Int)<=r.num*((1:Nat):Int):=b;have c:((A*r.den:Nat):Int)=(A:Int)*r.den:=Qr ..;rw[Int.neg_mul]at b;omega
open Rw (sg jJ ji cB jU j7 Ub Big)
def WT(f:Nat->Nat->Rat)(m:Nat):vx:=(range m).map λi=>(range m).map λj=>f i j
def Em(f:Nat->Nat->Rat)(m:Nat):(WT f m).length=m:=by unfold WT;rw[ak,WP]
def afk{f:Nat->Nat->Rat} : ∀r∈WT f m,r.length=m:=λr a=>by
 obtain⟨i,_,rfl⟩:=YV.mp a;rw[ak,WP]
abbrev Xl(f:Nat->Nat->Rat)(b:Nat->Rat)(m:Nat):vx:=abu (WT f m) ((range m).map b)
def yM(f:Nat->Nat->Rat)(b:Nat->Rat)(m:Nat):(Xl f b m).length=m:=by rw[TH,Em,ak,WP,VQ]
def Qu{f:Nat->Nat->Rat}(h:i<m):(Xl f b m)[i]?=some (((range m).map λj=>f i j)++[b i]):=by
 unfold Xl WT;rw[List.getElem?_zipWith,aq,VY h,aq,VY h]
 rfl
def Li{f:Nat->Nat->Rat}{r:xt}(c:r∈Xl f b m):∃i,i<m/\r=((range m).map λj=>f i j)++[b i]:=by
 obtain⟨i,e⟩:=aV c;have a:i<m:=by have:=(ao.mp e).1;rw[yM]at this;exact this
 rw[Qu a]at e;exact⟨i,a,(Option.some.inj e).symm⟩
def Tt{f:Nat->Nat->Rat}(y:Nat->Rat):sg (λj=>(((range m).map λj=>f i j)++[b i]).getD j 0*y j) m=sg (λj=>f i j*y j) m/\(((range m).map λj=>f i j)++[b i]).getD m 0=b i:=by
 have l:((range m).map λj=>f i j).length=m:=by rw[ak,WP]
 refine⟨cB λj a=>?_,?_⟩
 .rw[au,aF (by rwa[l]),aq,VY a];rfl
 .rw[au,aD (by rw[l];exact aG _),l,Nat.sub_self];rfl
def Pv{f:Nat->Nat->Rat}{y:Nat->Rat}(h:∀r∈Xl f b m,sg (λj=>r.getD j 0*y j) m=r.getD m 0):∀i,i<m->sg (λj=>f i j*y j) m=b i:=λi a=>by
 have:=h _ (aC (Qu a));rw[(Tt y).1,(Tt y).2]at this;exact this
def NH{f:Nat->Nat->Rat}{A Q:Nat}{q:Nat->Nat}(l:m<=100)(o:1<=A)(h:∀i,i<m->0<q i/\q i<=Q)(v:∀i j,i<m->j<m->(f i j).den ∣ q i/\(f i j).num.natAbs<=A*(f i j).den)(w:∀i,i<m->(b i).den ∣ q i/\(b i).num.natAbs<=A*(b i).den)(y:1<=Q)(p:(2*m*(A*Q))^m<=NN)(n:A*Q<=NN)(k:∀x:Nat->Rat,(∀i,i<m->sg (λj=>f i j*x j) m=0)->∀j,j<m->x j=0):Sys (Xl f b m) (A*Q):=by
 have all:∀i,i<m->∀c∈((range m).map λj=>f i j)++[b i],c.den ∣ q i/\c.num.natAbs<=A*c.den:=λi d c C=>by
  rcases Y1.mp C with z|z
  .obtain⟨j,u,rfl⟩:=YV.mp z;exact v i j d (List.mem_range.mp u)
  .rw[YR.mp z];exact w i d
 refine⟨λr g=>?_,by rw[yM];exact l,λr g=>?_,λr g c t=>?_,Nat.mul_pos o y,by rw[yM];exact p,n,?_⟩
 .obtain⟨i,d,rfl⟩:=Li g;rw[yM,aA,ak,WP];rfl
 .obtain⟨i,d,rfl⟩:=Li g;exact(_X o (h i d).1 (all i d)).le (jT _ (h i d).2)
 .obtain⟨i,d,rfl⟩:=Li g;obtain⟨a,c⟩:=all i d c t;exact di (aL c (aL (jT _ (aL (UZ (h i d).1 a) (h i d).2)) n))
 .rw[yM];intro x B s;refine k x λi d=>?_;have:=s _ (aC (Qu d));have e:sg (λj=>(((range m).map λj=>f i j)++[b i]).getD j 0*x j) (m+1)=sg (λj=>(((range m).map λj=>f i j)++[b i]).getD j 0*x j) m+_*x m:=rfl;rw[e,B _ (aG _),Rat.mul_zero,Rat.add_zero,(Tt x).1]at this;exact this
open Rw (sg jJ ji cB jU j7 Big)
structure jZ(m:Nat)(o:bO):Prop where
 wy:WyO m o
 nd:(o.ways.map (·.1)).Nodup
 few:o.ways.length<=1000
 cq:∃q:Nat,0<q/\q<=4000/\∀w∈o.ways,w.2.den ∣ q
structure HlZ(ns:Φ)(g:xj):Prop where
 h:Io ns g
 few:ns.length<=8
 z:∀u∈g,∀o∈u,jZ ns.length o
abbrev cG(g:xj)(v:zI)(k:Nat):wq:=(bp g v).getD k none
def Kw{g:xj}{o:bO}(h:cG g v k=some o):∃u,g[k]?=some u/\o∈u:=by
 have h:(bp g v).getD k none=some o:=h;cases e:v[k]? with
 |none =>
  have:(bp g v)[k]?=none:=aM (by unfold bp;rw[ak,U2];exact List.getElem?_eq_none_iff.mp e);rw[au,this]at h;cases h
 |some d =>
  rw[DH e]at h;cases d with
  |none=>cases h
  |some d =>
   have h:(g.getD k [])[d]?=some o:=h;rw[au]at h;cases a:g[k]? with
   |none=>rw[a]at h;cases h
   |some u=>rw[a]at h;exact⟨u,rfl,aC h⟩
def HlZ.cw{g:xj}(h:HlZ ns g)(v:zI):∀k,k<ns.length->∀o,cG g v k=some o->WyO ns.length o:=λk _ o e=>by
 obtain⟨u,b,a⟩:=Kw e;exact(h.z u (aC b) o a).wy
theorem EN{m q:Nat}(f:0<q)(j:Nat):∀{l:xz},(∀w∈l,0<w.2/\w.2.den ∣ q)->(uV l j).den ∣ q/\0<=uV l j/\uV l j<=QJ l
 |[],_=>⟨JY _,W1,W1⟩
 |w::l,h=>by
  obtain⟨a,b,c⟩:=EN (m:=m) f j (l:=l) λx g=>h x (aJ _ g);obtain⟨p,d⟩:=h w (aO ..);have e:uV (w::l) j=(if w.1=j then w.2 else 0)+uV l j:=rfl;rw[e,Ax];split
  .refine⟨Ky f d a,by grind,by grind⟩
  .rw[T2];exact⟨a,b,by grind⟩
abbrev pQ:Nat:=1*4000
def oI(h:m<=8):(2*m*pQ)^m<=10^39:=by
 obtain rfl|rfl|rfl|rfl|rfl|rfl|rfl|rfl|rfl:m=0\/m=1\/m=2\/m=3\/m=4\/m=5\/m=6\/m=7\/m=8:=by lia
 all_goals decide +kernel
def fh(mk:xo)(k:Nat):Rat:=if mkG mk k then 1 else 0
def F7{a:xF}(b:k<mk.length):(ca mk a S).getD k none=if mkG mk k=false/\S k=true then a.getD k none else none:=by
 unfold ca;rw[au,aq,VY b]
 rfl
def Hk{a:xF} : (ca mk a S).length=mk.length:=by unfold ca;rw[ak,WP]
def Z0{a:xF}{o:bO}(h:some o∈ca mk a S):∃k,k<mk.length/\a.getD k none=some o:=by
 obtain⟨k,b,e⟩:=YV.mp h;split at e
 .exact⟨k,List.mem_range.mp b,e⟩
 .cases e
def OI{g:xj}(h:HlZ ns g)(E:mk.length=ns.length)(lf:Lfp false ns.length (mkG mk) (λk=>dG (cG g v k)) S):Sys (Xl (g8 1 (ca mk (bp g v) S)) (fh mk) ns.length) pQ:=by
 have F:=h.few;have N:∀o,some o∈ca mk (bp g v) S->jZ ns.length o:=λo K=>by
  obtain⟨k,_,e⟩:=Z0 K;obtain⟨u,M,I⟩:=Kw e;exact h.z u (aC M) o I
 have B:∀i,∀o,(ca mk (bp g v) S).getD i none=some o->jZ ns.length o:=λi o e=>N o (by
  rw[au]at e;cases y:(ca mk (bp g v) S)[i]? with
  |none=>rw[y]at e;cases e
  |some c =>
   rw[y]at e;have e:c=some o:=e;rw[<- e];exact aC y)
 have f:∀i:Nat,∃q,0<q/\q<=4000/\(∀j,(g8 1 (ca mk (bp g v) S) i j).den ∣ q/\(g8 1 (ca mk (bp g v) S) i j).num.natAbs<=1*(g8 1 (ca mk (bp g v) S) i j).den):=λi=>by
  have s:∀{q:Nat}(r:Rat),0<q->r.den ∣ q->0<=r->r<=1->∀b:Bool,((if b=true then(1:Rat)else 0)-1*r).den ∣ q/\((if b=true then(1:Rat)else 0)-1*r).num.natAbs<=1*((if b=true then(1:Rat)else 0)-1*r).den:=λ{q}r p d P O b=>by
   have e:(if b=true then(1:Rat)else 0)-1*r=(if b=true then 1 else 0) + -r:=by grind
   rw[e];refine⟨Ky p (by cases b<;>exact JY _) d,G6 (A:=1) ?_ ?_⟩
   .show _<=((1:Nat):Rat);rw[show((1:Nat):Rat)=1 from rfl];cases b<;>simp<;>grind
   .show -((1:Nat):Rat)<=_;rw[show((1:Nat):Rat)=1 from rfl];cases b<;>simp<;>grind
  have D:∀j,g8 1 (ca mk (bp g v) S) i j=(if(decide (j=i))=true then(1:Rat)else 0)-1*uV (vm ((ca mk (bp g v) S).getD i none)) j:=λj=>by
   unfold g8;by_cases c:j=i
   .rw[ZY c,ZY (Zs c)]
   .rw[ZZ c,ZZ (by rw[Zp c];decide)]
  cases e:(ca mk (bp g v) S).getD i none with
  |none=>exact⟨1,by decide,by decide,λj=>by rw[D,e];exact s 0 vk (Nat.dvd_refl 1) W1 vk _⟩
  |some o =>
   obtain⟨C,_,_,q,p,H,n⟩:=B i o e;refine⟨q,p,H,λj=>?_⟩;obtain⟨a,b,c⟩:=EN (m:=0) p j (l:=o.ways) λw hw=>⟨C.pos w hw,n w hw⟩;rw[C.one]at c;rw[D,e];exact s _ p a b c _
 have n:∃q:Nat->Nat,∀i,0<q i/\q i<=4000/\(∀j,(g8 1 (ca mk (bp g v) S) i j).den ∣ q i/\(g8 1 (ca mk (bp g v) S) i j).num.natAbs<=1*(g8 1 (ca mk (bp g v) S) i j).den):=⟨λi=>Classical.choose (f i),λi=>Classical.choose_spec (f i)⟩;obtain⟨q,n⟩:=n;have G:10^39<=NN:=XU vk vk;refine NH (q:=q) (A:=1) (Q:=4000) (aL F vk) vk (λi _=>⟨(n i).1,(n i).2.1⟩) (λi j _ _=>(n i).2.2 j) (λi _=>?_) vk (aL (oI F) G) (aL vk G) λx J=>?_
 .unfold fh;split
  .exact⟨JY _,aG _⟩
  .exact⟨JY _,aZ _⟩
 .refine UO lf (h.cw v) λk L=>?_;have t:(ca mk (bp g v) S).length=ns.length:=by rw[Hk,E]
  have:=J k L;rw[<- t,ED (by rwa[t]) λw hw=>by
   rw[t];cases e:(ca mk (bp g v) S).getD k none with
   |none=>rw[e]at hw;cases hw
   |some o=>rw[e]at hw;exact(B k o e).wy.lt w hw,F7 (by rwa[E])]at this
  by_cases c:mkG mk k=false/\S k
  .rw[ZY c]at this ⊢;have this:x k-1*dw (vm (cG g v k)) x=0:=this
   grind
  .rw[ZZ c]at this ⊢;have this:x k-1*(0:Rat)=0:=this
   grind
def SL(mk:xo):(mk.map λb=>aa (if b then 1 else 0))=((range mk.length).map (fh mk)).map aa:=by
 rw[WU];refine UT (by rw[ak,ak,WP]) λk a c=>?_;rw[ak]at a;rw[VX,VX,Tu];show aa _=aa (if mk.getD k false then 1 else 0);rw[au,aj a]
 rfl
def lH(D:a'):ST:=λa q=>∃(s:Rat)(ns:Φ)(g:xj)(mk:xo)(v:zI),a=[ci D s ns g,dV mk,.lst (v.map dT)]/\HlZ ns g/\mk.length=ns.length/\PlT g v/\∀(S:Nat->Bool)(x:Nat->Rat),gW ns.length (mkG mk) (cG g v) S x->(∀i,i<ns.length->FnB (10^39) (x i))->q (.l1 ((range ns.length).map λi=>aa (x i)))
def Ir(T:Tx D):gT 9 lF gD (lH D):=ya T.Lx λ{f Y}F=>by
 refine F.okT xM (λ_ _=>bG (m6 (bH mG) rF rF ["mark"] (cg vt) (dZ (i:=0)) cA (Ij (cM vc) (mD T.BP T.tX) (mD T.j9 T.jg)) (gZ (i:=3) xM.nd rfl (Or.inl rfl)))
  (bI (bR (bJ (Mq T) (bA (bJ (Q9 T) (bA (mD T.BP T.tX) (bA (bJ (Oo T) (bA vt (bA (bJ (Jk T) (bA vc (bA vn bC))) bC))) bC))) (bA ve bC)))))) ?_
 rintro _ R ⟨s,ns,g,mk,v,rfl,h,l,H,q⟩;have E:=h.few;have cl:(bp g v).length=ns.length:=by rw[Si H,h.h.len]
 refine⟨by rw[ak,l];exact aL E vk,comp_map L2.T.bl (λb=>aa (if b then 1 else 0)) mk (λb _ N M V=>by cases b<;>exact V) ?_⟩;refine⟨s,ns,g,v,rfl,h.h,H,mk,bp g v,rfl,by lia,by rw[cl,l],λo U=>?_,λS lf=>?_⟩
 .obtain⟨k,Z⟩:=aV U;obtain⟨u,G,C⟩:=Kw (k:=k) (show(bp g v).getD k none=some o by rw[au,Z];rfl);have z:=h.z u (aC G) o C;exact⟨z.few,by rw[l];exact z.wy.lt⟩
 have lf:Lfp false ns.length (mkG mk) (λk=>dG (cG g v k)) S:=by rw[l]at lf;exact lf
 have x:(ca mk (bp g v) S).length=ns.length:=by rw[Hk,l]
 have K:∀c∈ca mk (bp g v) S,∀o,c=some o->jZ ns.length o:=λc hc o e=>by
  subst e;obtain⟨k,_,e⟩:=Z0 hc;obtain⟨u,G,C⟩:=Kw e;exact h.z u (aC G) o C
 have b1:Bq (1:Rat):=h5;have B:=OI h l lf;refine⟨1,ca mk (bp g v) S,rfl,by lia,b1,λc hc=>?_,WT (g8 1 (ca mk (bp g v) S)) ns.length,(range mk.length).map (fh mk),pQ,?_,by rw[ak,WP,Em,l],by rw[Em];exact afk,?_,?_⟩
 .rw[x];cases c with
  |none=>exact⟨.nil,aZ _,λ_ z=>(nomatch z),λ_ z=>(nomatch z)⟩
  |some o =>
   have z:=K _ hc o rfl;obtain⟨q,P,q1,Q⟩:=z.cq;refine⟨z.nd,z.few,z.wy.lt,λw hw=>?_⟩;have d:=UZ P (Q w hw);have O:w.2<=1:=by
    have:=mC (λw hw=>UK (z.wy.pos w hw)) hw;rw[<- Eo,z.wy.one]at this;exact this
   have n:=G6 (r:=w.2) (A:=1) O (by have:=z.wy.pos w hw;rw[show((1:Nat):Rat)=1 from rfl];grind);have L:Bq w.2:=⟨eV vw,eV vw⟩;refine⟨L,?_,by rwa[Rat.one_mul]⟩;show Bd (((1:Nat):Int)*_);rw[show((1:Nat):Int)=1 from rfl,TW];exact L.2
 .show[L2.T.lst ((zB (g8 1 (ca mk (bp g v) S)) (ca mk (bp g v) S).length).map L2.T.lst),L2.T.lst (mk.map λb=>aa (if b then 1 else 0))]=_;rw[Nw,SL,show kK 1 (ca mk (bp g v) S)=WT (g8 1 (ca mk (bp g v) S)) ns.length by unfold kK WT;rw[x]]
 .rw[l];exact B
 .rw[Em,l];intro y W J;have X:=Pv (f:=g8 1 (ca mk (bp g v) S)) (b:=fh mk) (m:=ns.length) W;have t:∀k,k<ns.length->y k=fh mk k+if mkG mk k=false/\S k=true then dw (vm (cG g v k)) y else 0:=λk p=>by
   have:=X k p;rw[<- x,ED (by rwa[x]) λw hw=>by
    rw[x];cases e:(ca mk (bp g v) S).getD k none with
    |none=>rw[e]at hw;cases hw
    |some o =>
     rw[e]at hw;rw[au,aj (by rwa[x])]at e;exact(K _ (aU _) o e).wy.lt w hw,F7 (by rwa[l])]at this
   by_cases c:mkG mk k=false/\S k
   .rw[ZY c]at this ⊢;have this:y k-1*dw (vm (cG g v k)) y=fh mk k:=this
    grind
   .rw[ZZ c]at this ⊢;have this:y k-1*(0:Rat)=fh mk k:=this
    grind
  refine q S y ⟨lf,λk p j=>?_,λk p j s=>?_,λk p s=>?_⟩ λi I=>⟨aL (J i I).n (oI E),aL (J i I).d (oI E)⟩
  .rw[t k p,ZZ (by rw[j];exact λz=>Bool.noConfusion z.1)];unfold fh;rw[j];show(1:Rat)+0=1
   grind
  .have a:=t k p;rw[ZY ⟨j,s⟩]at a;unfold fh at a;rw[j]at a;have a:y k=0+_:=a
   grind
  .have j:mkG mk k=false:=by
    cases j:mkG mk k with
    |false=>rfl
    |true=>rw[lf.base k p j]at s;cases s
   have a:=t k p;rw[ZZ (by rw[s];exact λz=>Bool.noConfusion z.2)]at a;unfold fh at a;rw[j]at a;have a:y k=0+0:=a
   grind
noncomputable def z_:xj->List zI
 |[]=>[[]]
 |u::g=>((if u=[]then[none]else(range u.length).map some).map λd=>(z_ g).map λv=>d::v).flatten
theorem ZV:∀{g:xj}{v:zI},PlT g v->v∈z_ g
 |[],v,h=>by
  have:=h.len;rw[List.length_eq_zero_iff.mp this];exact YR.mpr rfl
 |u::g,[],h=>by have:=h.len;cases this
 |u::g,d::v,h=>by
  have b:=ZV (g:=g) (v:=v) ⟨Nat.succ.inj h.len,λk d u e c=>h.ok (k+1) d u e c⟩;have a:=h.ok 0 d u rfl rfl;refine List.mem_flatten.mpr ⟨_,YV.mpr ⟨d,?_,rfl⟩,YV.mpr ⟨v,b,rfl⟩⟩;cases d with
  |none =>
   have:u.length=0:=of_decide_eq_true a;rw[ZY (List.length_eq_zero_iff.mp this)];exact YR.mpr rfl
  |some d =>
   have:d<u.length:=of_decide_eq_true a;rw[ZZ λz=>by rw[z]at this;cases this];exact YV.mpr ⟨d,List.mem_range.mpr this,rfl⟩
theorem Ph{O:Type} : ∀{l l':List O},l.Nodup->(∀a∈l,a∈l')->l.length<=l'.length
 |[],_,_,_=>aZ _
 |a::l,l',e,h=>by
  obtain⟨s,t,rfl⟩:=List.append_of_mem (h a (aO ..));have c:=List.nodup_cons.mp e;have:=Ph (l:=l) (l':=s++t) c.2 λb d=>by
   have m:=h b (aJ _ d);rcases Y1.mp m with z|z
   .exact UR _ z
   .rcases YU.mp z with y|y
    .exact absurd (y ▸ d) c.1
    .exact aP _ y
  rw[length_cons,aA,length_cons];rw[aA]at this;lia
abbrev eh:=List xL×xt
abbrev wp:=Option eh
abbrev eF(p:eh):T:=.tup [.lst (p.1.map dT),.lst (p.2.map aa)]
abbrev xG(A:xt)(k:Nat):Rat:=A.getD k 0
def Yv(h:xt)(n M:Nat)(e:0<M):(∀r∈h,r.den<=M)->d7 n h<=n*M^h.length:=by
 induction h generalizing n with
 |nil=>intro _;show n<=n*1;lia
 |cons r h c =>
  intro a;have b:Nat.lcm n r.den<=n*M:=aL (by unfold Nat.lcm;exact div_le_self _ _) (jT _ (a r (aO ..)));refine aL (c (Nat.lcm n r.den) λx d=>a x (aJ _ d)) ?_;rw[length_cons,pow_succ,Nat.mul_comm (M^h.length),<- Nat.mul_assoc];exact Nat.mul_le_mul_right _ b
structure pR(e:Bool)(g:xj)(mk:xo)(A:xt)(v bP:zI):Prop where
 len:bP.length=v.length
 keep:∀(k:Nat)u,g[k]?=some u->mkG mk k=true\/u=[]->bP[k]?=v[k]?
 turn:∀(k d:Nat)u,mkG mk k=false->v[k]?=some (some d)->g[k]?=some u->∃b,bP[k]?=some (some b)/\TV e (u.map λo=>Dk o.ways (tops (d7 1 A) A)) d b
structure XsB(m:Nat)(A:xt):Prop where
 len:A.length=m
 fn:∀x∈A,FnB (10^39) x
 nn:∀x∈A,0<=x
 le:∀x∈A,x<=1
def XsB.get{m:Nat}{A:xt}(h:XsB m A)(k:Nat):0<=xG A k/\xG A k<=1:=by
 show 0<=A.getD k 0/\A.getD k 0<=1;rw[au];cases e:A[k]? with
 |none=>exact⟨W1,by show(0:Rat)<=1;decide⟩
 |some x=>exact⟨h.nn x (aC e),h.le x (aC e)⟩
def XsB.lcm(h:XsB m A)(b:m<=8):d7 1 A<=10^312:=by
 have:=Yv A 1 (10^39) (Nat.pow_pos vk) λr a=>(h.fn r a).d;rw[Nat.one_mul,h.len,<- Nat.pow_mul]at this;exact aL this (XU vk vw)
def L5{o:bO}(z:jZ ns.length o)(u:ns.length<=8)(h:XsB ns.length A):HV o.ways (tops (d7 1 A) A)/\Bq (Dk o.ways (tops (d7 1 A) A)):=by
 obtain⟨q,i,s,j⟩:=z.cq;have m:=h.lcm u;have v:d7 1 (o.ways.map (·.2))<=4000:=aL (UZ i (v7 _ (JY _) λr f=>by
  obtain⟨w,c,rfl⟩:=YV.mp f;exact j w c)) s
 have y:=iY (o.ways.map (·.2)) UP;have g:∀w∈o.ways,w.2.num.natAbs<=4000:=λw c=>by
  have p:w.2<=1:=by
   have:=mC (λw c=>UK (z.wy.pos w c)) c;rw[<- Eo,z.wy.one]at this;exact this
  have n:=G6 (r:=w.2) (A:=1) p (by have:=z.wy.pos w c;rw[show((1:Nat):Rat)=1 from rfl];grind);have:=UZ i (j w c);lia
 refine⟨⟨z.few,λw c=>by unfold tops;rw[ak,h.len];exact z.wy.lt w c,λw c=>eV (by have:=g w c;exact Y3 this vk),eV (by omega),λt d=>?_,λt d=>?_⟩,?_⟩
 .unfold tops at d;rw[WU]at d;obtain⟨w,c,rfl⟩:=YV.mp d;refine uK (n:=8) ?_ vk;show(w.2.num*((d7 1 (o.ways.map (·.2))/w.2.den:Nat):Int)).natAbs<=_;rw[VV,XT];exact aL (VU (g w c) (aL (div_le_self _ _) v)) vk
 .obtain⟨r,f,rfl⟩:=YV.mp d;refine uK (n:=39+312) ?_ vk;rw[VV,XT,pow_add];exact VU (h.fn r f).n (aL (div_le_self _ _) m)
 .have B:(Dk o.ways (tops (d7 1 A) A)).den<=4000:=by
   rw[<- T9 y _ o.ways λw c=>(nH _).2 _ (YV.mpr ⟨w,c,rfl⟩)];have:=(div_pos (a:=(o.ways.map λw=>w.2.num*((d7 1 (o.ways.map (·.2))/w.2.den:Nat):Int)*(tops (d7 1 A) A).getD w.1 0).sum) (b:=((d7 1 (o.ways.map (·.2)):Nat):Int)) vw).1;lia
  have e:=Bk A o.ways;have a:=z.wy.le (M:=1) (x:=λk=>A.getD k 0) λw _=>(h.get w.1).2;have b:=z.wy.ge (M:=0) (x:=λk=>A.getD k 0) λw _=>(h.get w.1).1;have l:(0:Rat)<=((d7 1 A:Nat):Rat):=by exact_mod_cast aZ _
  have n:=G6 (r:=Dk o.ways (tops (d7 1 A) A)) (A:=d7 1 A) (by rw[e];have:=Rat.mul_le_mul_of_nonneg_right a l;grind) (by rw[e];have:=Rat.mul_nonneg b l;grind);refine⟨uK (n:=312+4) ?_ vk,eV (by omega)⟩;rw[pow_add];exact aL n (VU m (aL B vk))
structure Pq(e:Bool)(g:xj)(mk:xo)(tp:xi)(v:zI)(k:Nat)(bP:zI):Prop where
 len:bP.length=k
 keep:∀(i:Nat)u,i<k->g[i]?=some u->mkG mk i=true\/u=[]->bP[i]?=v[i]?
 turn:∀(i d:Nat)u,i<k->mkG mk i=false->v[i]?=some (some d)->g[i]?=some u->∃b,bP[i]?=some (some b)/\TV e (u.map λo=>Dk o.ways tp) d b
def Pq.next{e:Bool}{g:xj}{q:xi}{p:zI}(j:Pq e g mk q v k p){a:xL}{u:wo}(x:v[k]?=some d)(w:g[k]?=some u)(B:mkG mk k\/u=[]->a=d)(A:∀n,mkG mk k=false->d=some n->∃b,a=some b/\TV e (u.map λo=>Dk o.ways q) n b):Pq e g mk q v (k+1) (p++[a]):=by
 have l:∀{i:Nat},i<k->(p++[a])[i]?=p[i]?:=λh=>aF (by have:=j.len;lia);have t:(p++[a])[k]?=some a:=by rw[aD (by have:=j.len;exact WG this),j.len,Nat.sub_self];rfl
 refine⟨by rw[aA,j.len];rfl,λi r h f c=>?_,λi n r h m f s=>?_⟩
 .by_cases z:i=k
  .subst z;rw[w]at f;cases f;rw[t,x,B c]
  .rw[l (XX (VT h) z)];exact j.keep i r (XX (VT h) z) f c
 .by_cases z:i=k
  .subst z;rw[w]at s;cases s;rw[x]at f;cases f;obtain⟨b,rfl,y⟩:=A n m rfl;exact⟨b,t,y⟩
  .rw[l (XX (VT h) z)];exact j.turn i n r (XX (VT h) z) m f s
def qX(D:a')(c:Str->Ω):ST:=λb q=>∃(e:Bool)(v:Addr)(s:Rat)(ns:Φ)(g:xj)(mk:xo)(p:eh),b=[ci D s ns g,dV mk,eF p,.val (.ref v)]/\e=false/\c fH=some (.ref v)/\HlZ ns g/\mk.length=ns.length/\PlT g p.1/\XsB ns.length p.2/\∀a:zI,pR e g mk p.2 p.1 a->q (.l1 (a.map dT))
def KR(T:Tx D):gT 4 rR jz (qX D mg):=ya T.O2 λ{f Y}F=>by
 refine F.okT Lb (λ_ _=>bG (bT 4 (bK (bJ (kP T) (bA (bK vn bF) bC)) bF))
  (bG (gR 5 (dg bC))
  (bG (dh (vp T.jK (bA (bK vn bF) bC)) (eG (n:=2) (bN (bZ (n:=99) 6) (bN (bZ (n:=99) 7) cZ)))
  (bG (bT 8 (Ij (cM (bK vt (qv 6))) (dg bC) (Ay vc T.gJ T.m5 (kQ T) (bA (qv 6) bC) (KS:=iB))))
  (bI (rK 5 (bJ (MF T) (bA (cW (bH oG) tZ tZ ["offer"] (cg (qv 8)) (dZ (i:=0)) cA (bJ (MK T) (bA vc (bA vF bC)))) (bA (qv 7) (bA ve bC))))))))
  (bI (iD 5))))) ?_
 rintro _ R ⟨e,a,s,ns,g,mk,p,rfl,W,V,h,ml,J,B,q⟩;have O:=h.few;obtain⟨v,A⟩:=p;dsimp only at J B q;have B1:=B.lcm O;refine⟨A,rfl,by rw[B.len];exact aL O vk,λr hr=>uK (n:=39) (B.fn r hr).n vk,uK (n:=312) (by rwa[XT]) vk,?_⟩;have S:∀u∈g,∀o∈u,_:=λu fA o C=>L5 (h.z u fA o C) O B;generalize et:tops (d7 1 A) A=w at S ⊢;refine Bc dT v (λk o=>∃t x y z,o=[.fz (ci D s ns g),.fz (dV mk),.fz (eF (v,A)),.fz (.val (.ref a)),.fz (.lst (w.map L2.T.int)),.l1 (t.map dT),x,y,z]/\Pq e g mk w v k t) ⟨[],.und,.und,.und,rfl,rfl,λi _ z=>absurd z (WZ _),λi _ _ z=>absurd z (WZ _)⟩ ?_ ?_
 .rintro k d _ l ⟨t,x,y,z,rfl,j⟩;have lk:=(ao.mp l).1;have C:k<g.length:=by rwa[<- J.len]
  have E:=aj C;have hl:=h.h.len;have lm:k<mk.length:=by lia
  have Z:=aj lm;have X:mkG mk k=mk[k]:=by unfold mkG;rw[au,Z];rfl
  have P:(t.map dT).length<sizeLine:=by rw[ak,j.len];exact aR (show _<1001 by lia) vk
  have ma:∀a:xL,t.map dT++[dT a]=(t++[a]).map dT:=λa=>by rw[bf];rfl
  have I:∀(L:xL)(G:OT),Pq e g mk w v (k+1) (t++[L])->∃U x y z,[OT.fz (ci D s ns g),.fz (dV mk),.fz (eF (v,A)),.fz (.val (.ref a)),.fz (.lst (w.map L2.T.int)),.l1 (t.map dT++[dT L]),.fz (.int k),.fz (dT d),G]=[.fz (ci D s ns g),.fz (dV mk),.fz (eF (v,A)),.fz (.val (.ref a)),.fz (.lst (w.map L2.T.int)),.l1 (U.map dT),x,y,z]/\Pq e g mk w v (k+1) U:=λL G h=>⟨t++[L],_,_,G,by rw[<- ma],h⟩;refine⟨rfl,_,c7 Z,?_⟩;cases cm:mk[k]with
  |true =>
   have mt:mkG mk k:=by rw[X,cm]
   refine⟨by decide,e,a,[],d,rfl,W,V,by decide,λx B=>(nomatch B),λ_=>⟨P,I d _ (j.next l E (λ_=>rfl) λQ z=>by rw[mt]at z;cases z)⟩,λz=>absurd rfl z⟩
  |false =>
   have mf:mkG mk k=false:=by rw[X,cm]
   have H:=aU C;have Y:=h.h.fews _ H;refine⟨⟨rfl,rfl⟩,_,_,_,k,_,rfl,h.h,E,by rw[ak];exact aL Y vk,comp_map dj (λo=>aa (Dk o.ways w)) g[k] (λo C N M hN=>⟨o,w,rfl,(S _ H o C).1,hN⟩) ⟨e,a,g[k].map λo=>Dk o.ways w,d,by rw[WU];rfl,W,V,by rw[ak];exact Y,λx B=>?_,λz=>⟨P,I d _ (j.next l E (λ_=>rfl) λQ _ G=>?_)⟩,λz=>?_⟩⟩
   .obtain⟨o,C,rfl⟩:=YV.mp B;exact(S _ H o C).2
   .have K:=J.ok k d _ l E;rw[G,List.map_eq_nil_iff.mp z]at K;exact absurd (of_decide_eq_true (show decide (Q<0)=true from K)) (WZ _)
   .have K:=J.ok k d _ l E;cases d with
    |none =>
     have:g[k].length=0:=of_decide_eq_true K;exact absurd (by rw[List.length_eq_zero_iff.mp this];rfl) z
    |some d =>
     refine⟨d,rfl,by rw[ak];exact of_decide_eq_true K,λb hb=>⟨P,I (some b) _ (j.next l E (λc=>?_) λQ _ G=>?_)⟩⟩
     .rcases c with c|c
      .rw[mf]at c;cases c
      .exact absurd (by rw[c];rfl) z
     .cases G;exact⟨b,rfl,hb⟩
 .rintro _ ⟨t,x,y,z,rfl,j⟩;refine q t ⟨j.len,λk u l c=>j.keep k u (by rw[J.len];exact(ao.mp l).1) l c,λk d u m l E=>?_⟩;rw[et];exact j.turn k d u (ao.mp l).1 m l E
def Zk{b:Bool}{mk:Nat->Bool}{ld:Nat->vj}{U:Nat->Bool}(h:Lfp b m mk ld S)(c:Lfp b m mk ld U)(d:k<m):S k=U k:=by
 have a:=h.least U c.base c.step k d;have b:=c.least S h.base h.step k d;cases e:S k with
 |true=>rw[a e]
 |false =>
  cases f:U k with
  |true=>rw[b f]at e;exact e.symm
  |false=>rfl
section
variable{m:Nat}{mk S U:Nat->Bool}{c:Nat->wq}{x x' x'':Nat->Rat}{e:Bool}
def gW.le_of(h:gW m mk c S x)(b:gW m mk c U x')(e:∀k,k<m->∀o,c k=some o->WyO m o)(a:k<m):x k<=x' k:=by
 have:=mp h.lf e (d:=λk=>x k-x' k) (λk a g s=>by rw[Hi,<- h.mean k a g s,<- b.mean k a g (by rw[<- Zk h.lf b.lf a];exact s)];exact W1) (λk a g=>by rw[h.goal k a g,b.goal k a g];grind) (λk a s=>by rw[h.no k a s,b.no k a (by rw[<- Zk h.lf b.lf a];exact s)];grind) k a
 grind
def gW.uniq(h:gW m mk c S x)(d:gW m mk c U x')(a:∀k,k<m->∀o,c k=some o->WyO m o)(b:k<m):x k=x' k:=Rat.le_antisymm (h.le_of d a b) (d.le_of h a b)
def UpX(e:Bool)(m:Nat)(x x':Nat->Rat):Prop:=(∀k,k<m->¬b6 e (x' k) (x k))/\∃k,k<m/\b6 e (x k) (x' k)
theorem F6{a b c:Rat}(h:¬b6 e b a)(k:¬b6 e c b):¬b6 e c a:=by
 cases e<;>simp only[b6]at *<;>grind
theorem TN{a b c:Rat}(h:b6 e a b)(k:¬b6 e c b):b6 e a c:=by
 cases e<;>simp only[b6]at *<;>grind
def JB{a:Rat} : ¬b6 e a a:=by
 cases e<;>simp only[b6]<;>grind
def Gc{a b B:Rat}(h:0<B):b6 e (a*B) (b*B)↔b6 e a b:=by
 cases e<;>simp only[b6]
 .exact⟨λl=>Rat.not_le.mp λz=>Rat.not_le.mpr l (Rat.mul_le_mul_of_nonneg_right z (UK h)),λl=>Rat.mul_lt_mul_of_pos_right l h⟩
 .exact⟨λl=>Rat.not_le.mp λz=>Rat.not_le.mpr l (Rat.mul_le_mul_of_nonneg_right z (UK h)),λl=>Rat.mul_lt_mul_of_pos_right l h⟩
def UpX.trans(h:UpX e m x x')(k:UpX e m x' x''):UpX e m x x'' :=
 ⟨λi a=>F6 (h.1 i a) (k.1 i a),by obtain⟨i,a,z⟩:=h.2;exact⟨i,a,TN z (k.1 i a)⟩⟩
def NS{Z:Nat->wq}(t:Turn e m mk x c Z)(h:gW m mk c S x)(i:gW m mk Z U x')(hw:∀k,k<m->∀o,c k=some o->WyO m o)(j:∀k,k<m->∀o,Z k=some o->WyO m o):(∀k,k<m->¬b6 e (x' k) (x k))/\((∃k,k<m/\Z k≠c k)->UpX e m x x'):=by
 cases e with
 |false =>
  obtain⟨a,b⟩:=t.up h i hw j;have n:∀k,k<m->¬b6 false (x' k) (x k):=λk d z=>Rat.not_lt.mpr (a k d) z;exact⟨n,λg=>by obtain⟨k,d,f⟩:=g;exact⟨n,k,d,b k d f⟩⟩
 |true =>
  obtain⟨a,b⟩:=t.down h i hw j;have n:∀k,k<m->¬b6 true (x' k) (x k):=λk d z=>Rat.not_lt.mpr (a k d) z;exact⟨n,λg=>by obtain⟨k,d,f⟩:=g;exact⟨n,k,d,b k d f⟩⟩
end
section
variable{e:Bool}{ns:Φ}{g:xj}{mk:xo}{A:xt}{v bP:zI}
def uT{u:wo}(e:v[k]?=some d)(a:g[k]?=some u):cG g v k=d.bind λd=>u[d]?:=by
 show(bp g v).getD k none=_;rw[DH e,au,a]
 rfl
def xW(h:sU d n)(a:n≠0):∃j,d=some j/\j<n:=by
 cases d with
 |none=>exact absurd (of_decide_eq_true (show decide (n=0)=true from h)) a
 |some j=>exact⟨j,rfl,of_decide_eq_true h⟩
def Gk{u:wo}{a:xi}{o:bO}(e:u[j]?=some o):(u.map λo=>Dk o.ways a).getD j 0=Dk o.ways a:=by
 rw[au,aq,e]
 rfl
def PlT.room(a:PlT g v){u:wo}(b:g[k]?=some u):∃d,v[k]?=some d/\sU d u.length:=by
 have l:k<v.length:=by rw[a.len];exact(ao.mp b).1
 exact⟨_,aj l,a.ok k _ u (aj l) b⟩
def pR.plan(t:pR e g mk A v bP)(h:PlT g v):PlT g bP:=by
 refine⟨t.len.trans h.len,λk d u a f=>?_⟩;obtain⟨r,l,i⟩:=h.room f;by_cases c:mkG mk k\/u=[]
 .rw[t.keep k u f c,l]at a;cases a;exact i
 .have q:mkG mk k=false:=by
   cases z:mkG mk k with
   |true=>exact absurd (.inl z) c
   |false=>rfl
  have p:u.length≠0:=λz=>c (.inr (List.length_eq_zero_iff.mp z));obtain⟨j,rfl,n⟩:=xW i p;obtain⟨b,o,m⟩:=t.turn k j u q l f;rw[o]at a;cases a;refine Zs (?_:b<u.length);rcases m with⟨z,_⟩|⟨z,_⟩
  .rw[z];exact n
  .rw[ak]at z;exact z
def pR.turned(t:pR e g mk A v bP)(n:PlT g v)(p:ns.length=g.length):Turn e ns.length (mkG mk) (xG A) (cG g v) (cG g bP):=by
 have B0:(0:Rat)<((d7 1 A:Nat):Rat):=by exact_mod_cast iY A UP
 have r:∀k,k<ns.length->∀u,g[k]?=some u->mkG mk k=true\/u=[]->cG g bP k=cG g v k:=λk h u f c=>by
  obtain⟨d,i,_⟩:=n.room f;rw[uT i f,uT (by rwa[t.keep k u f c]) f]
 refine⟨λk h a=>?_,λk h a=>?_,λk h a o l=>?_⟩
 .exact r k h _ (aj (aR h (WG p))) (.inl a)
 .have f:=aj (show k<g.length by exact aR h (WG p));obtain⟨d,i,Y⟩:=n.room f;rw[r k h _ f (.inr ?_),a];by_cases c:g[k].length=0
  .exact List.length_eq_zero_iff.mp c
  .obtain⟨j,rfl,w⟩:=xW Y c;rw[uT i f]at a;have a:g[k][j]?=none:=a;rw[aj w]at a;cases a
 .have f:=aj (show k<g.length by exact aR h (WG p));obtain⟨d,i,Y⟩:=n.room f;rw[uT i f]at l;cases d with
  |none=>cases l
  |some j =>
   have l:g[k][j]?=some o:=l;obtain⟨b,q,s⟩:=t.turn k j _ a i f;rcases s with⟨z,_⟩|⟨z,y,_⟩
   .subst z;refine⟨o,?_,.inl ?_⟩
    .rw[uT q f];exact l
    .rw[uT q f,uT i f]
   .rw[ak]at z;have m:=aj z;refine⟨g[k][b],by rw[uT q f];exact m,.inr ?_⟩;rw[Gk l,Gk m,Bk,Bk]at y;exact(Gc B0).mp y
def pR.moved(t:pR e g mk A v bP)(f:PlT g v)(s:ns.length=g.length)(n:bP≠v):∃k,k<ns.length/\cG g bP k≠cG g v k:=by
 refine Classical.byContradiction λp=>n (Q2 λk=>?_);by_cases h:k<g.length
 .have a:=aj h;obtain⟨d,i,Y⟩:=f.room a;by_cases c:mkG mk k\/g[k]=[]
  .exact t.keep k _ a c
  .have r:mkG mk k=false:=by
    cases z:mkG mk k with
    |true=>exact absurd (.inl z) c
    |false=>rfl
   obtain⟨j,rfl,l⟩:=xW Y λz=>c (.inr (List.length_eq_zero_iff.mp z));obtain⟨b,m,o⟩:=t.turn k j _ r i a;rcases o with⟨z,_⟩|⟨z,y,_⟩
   .rw[m,i,z]
   .rw[ak]at z;refine absurd (Classical.byContradiction λq=>p ⟨k,by lia,q⟩ : cG g bP k=cG g v k) λw=>?_;rw[uT m a,uT i a]at w;have w:g[k][b]?=g[k][j]?:=w;rw[aj l]at w;rw[Gk w,Gk (aj l)]at y;exact JB y
 .rw[aM (by rw[t.len,f.len];exact VW h),aM (by rw[f.len];exact VW h)]
def pR.best(t:pR e g mk A v v)(p:PlT g v)(h:HlZ ns g)(s:gW ns.length (mkG mk) (cG g v) S (xG A)):gl e ns.length (mkG mk) (λk=>g.getD k []) (xG A):=by
 have u:=h.h.len;have B0:(0:Rat)<((d7 1 A:Nat):Rat):=by exact_mod_cast iY A UP
 refine⟨λk q a o c=>?_⟩;have f:=aj (show k<g.length by lia);have c:o∈g[k]:=by
  have c:o∈g.getD k []:=c;rw[au,f]at c;exact c
 obtain⟨d,i,Y⟩:=p.room f;obtain⟨j,rfl,n⟩:=xW Y λz=>by rw[List.length_eq_zero_iff.mp z]at c;cases c
 have r:=aj n;obtain⟨b,l,m⟩:=t.turn k j _ a i f;rw[i]at l;cases l;rw[s.val (h.cw v) q a (by rwa[uT i f])];rcases m with⟨_,z⟩|⟨_,z,_⟩
 .have:=z _ (YV.mpr ⟨o,c,rfl⟩);rw[Gk r,Bk,Bk,Gc B0]at this;exact this
 .exact absurd z JB
end
def gW.congr{mk:Nat->Bool}{c:Nat->wq}{x f:Nat->Rat}(h:gW m mk c S x)(hw:∀k,k<m->∀o,c k=some o->WyO m o)(e:∀k,k<m->x k=f k):gW m mk c S f:=by
 refine⟨h.lf,λk a g=>by rw[<- e k a];exact h.goal k a g,λk a g s=>?_,λk a s=>by rw[<- e k a];exact h.no k a s⟩;rw[<- e k a,h.mean k a g s];refine Vt λw b=>?_;cases d:c k with
 |none=>rw[d]at b;cases b
 |some o =>
  rw[d]at b;exact e w.1 ((hw k a o d).lt w b)
structure Vl(e:Bool)(m:Nat)(g:xj)(mk:xo)(I:xh):Prop where
 ok:∀p∈I,PlT g p.1/\∃S,gW m (mkG mk) (cG g p.1) S p.2
 up:I.Pairwise λa b=>UpX e m b.2 a.2
section
variable{e:Bool}{ns:Φ}{g:xj}{mk:xo}{I:xh}
def Vl.len(h:Vl e ns.length g mk I)(z:HlZ ns g):I.length<=(z_ g).length:=by
 have f:(I.map (·.1)).Nodup:=by
  unfold Nodup;rw[List.pairwise_map];refine h.up.imp_of_mem λ{a b}c l u m=>?_;obtain⟨_,S,d⟩:=h.ok a c;obtain⟨_,U,n⟩:=h.ok b l;obtain⟨k,j,w⟩:=u.2;rw[m]at d;rw[d.uniq n (z.cw _) j]at w;exact JB w
 have:=Ph f (l':=z_ g) λa c=>by
  obtain⟨p,i,rfl⟩:=YV.mp c;exact ZV (h.ok p i).1
 rw[ak]at this;exact this
def Vl.cons{p:List xL×(Nat->Rat)}(h:Vl e ns.length g mk I)(f:PlT g p.1){S:Nat->Bool}(hc:gW ns.length (mkG mk) (cG g p.1) S p.2)(d:∀l,I.head?=some l->UpX e ns.length l.2 p.2):Vl e ns.length g mk (p::I):=by
 refine⟨λq c=>?_,List.pairwise_cons.mpr ⟨λb a=>?_,h.up⟩⟩
 .rcases YU.mp c with rfl|c
  .exact⟨f,S,hc⟩
  .exact h.ok q c
 .cases I with
  |nil=>cases a
  |cons l i =>
   have u:=d l rfl;rcases YU.mp a with rfl|a
   .exact u
   .exact((List.pairwise_cons.mp h.up).1 b a).trans u
end
structure Fin(e:Bool)(ns:Φ)(g:xj)(mk:xo)(b7:zI)(p:eh):Prop where
 pl:PlT g p.1
 xs:XsB ns.length p.2
 ch:∃S,gW ns.length (mkG mk) (cG g p.1) S (xG p.2)
 best:gl e ns.length (mkG mk) (λk=>g.getD k []) (xG p.2)
 lo:∃S x0,gW ns.length (mkG mk) (cG g b7) S x0/\∀k,k<ns.length->¬b6 e (xG p.2 k) (x0 k)
structure Stl(e:Bool)(ns:Φ)(g:xj)(mk:xo)(b7:zI)(p:eh)(cl:zI):Prop where
 pl:PlT g p.1
 xs:XsB ns.length p.2
 ch:∃S,gW ns.length (mkG mk) (cG g p.1) S (xG p.2)
 turn:pR e g mk p.2 p.1 cl
 lo:∃S x0,gW ns.length (mkG mk) (cG g b7) S x0/\∀k,k<ns.length->¬b6 e (xG p.2 k) (x0 k)
noncomputable def toT:wp->T
 |none=>.non
 |some p=>eF p
def abq(e:Bool)(ns:Φ)(g:xj)(mk:xo)(b:zI)(I:xh)(a:zI):wp->Prop
 |none=>I=[]/\a=b
 |some p=>I.head?=some (p.1,xG p.2)/\Stl e ns g mk b p a
def abq.plan{e:Bool}{ns:Φ}{g:xj}{mk:xo}{c b:zI}{I:xh}{a:wp}(d:PlT g c)(h:abq e ns g mk c I b a):PlT g b:=by
 cases a with
 |none=>rwa[h.2]
 |some p=>exact h.2.turn.plan h.2.pl
def abq.next{e:Bool}{g:xj}{d a q:zI}{I:xh}{c:wp}(z:HlZ ns g)(v:PlT g d)(o:Vl e ns.length g mk I)(h:abq e ns g mk d I a c)(s:c.map (·.1)≠some a)(f:XsB ns.length A)(hc:gW ns.length (mkG mk) (cG g a) S (xG A))(i:pR e g mk A a q):Vl e ns.length g mk ((a,xG A)::I)/\abq e ns g mk d ((a,xG A)::I) q (some (a,A)):=by
 have b:=h.plan v;have j:=z.h.len;cases c with
 |none =>
  obtain⟨rfl,rfl⟩:=h;exact⟨o.cons b hc λl e=>(nomatch e),rfl,b,f,⟨S,hc⟩,i,S,xG A,hc,λ_ _=>JB⟩
 |some p =>
  obtain⟨x,C⟩:=h;obtain⟨U,y⟩:=C.ch;have n:a≠p.1:=λw=>s (by rw[w];rfl);have u:=NS (C.turn.turned C.pl (ns:=ns) j.symm) y hc (z.cw _) (z.cw _);refine⟨o.cons b hc λl e=>?_,rfl,b,f,⟨S,hc⟩,i,by obtain⟨U,r,B,t⟩:=C.lo;exact⟨U,r,B,λk m=>F6 (t k m) (u.1 k m)⟩⟩;rw[x]at e;cases e;exact u.2 (C.turn.moved C.pl (ns:=ns) j.symm n)
def J_(g:xj):zI:=g.map λu=>if 0<u.length then some 0 else none
def _5(g:xj):PlT g (J_ g):=by
 refine⟨ak ..,λk d u a b=>?_⟩;unfold J_ at a;rw[aq,b]at a;cases a;show sU (if 0<u.length then some 0 else none) u.length=true;split
 .rename_i h;exact Zs h
 .rename_i h;exact Zs vw
def uh(D:a'):ST:=λa q=>∃(s:Rat)(ns:Φ)(g:xj),a=[ci D s ns g]/\Io ns g/\q (.l1 ((J_ g).map dT))
def Ox(T:Tx D):gT 4 oM jf (uh D):=yB T.Qx O4 (λ_ _=>bI (bR (cW (bH qd) vD vD ["room"] (dO T.fB (bA (qW vc T.gJ T.jX (RP T) (KS:=iB)) bC)) (dZ (i:=0)) cA (Ij (b_ HY (bQ cI T.dH WJ (bA (Ay vt T.gJ T.m5 (kQ T) (bA vc bC) (KS:=iB)) bC)) bF) bF gq))))<|by
 rintro _ R ⟨s,ns,g,rfl,h,q⟩;have e:=h.few;have j:=h.len;have f:(range ns.length).map (λk=>dT (if 0<(g.getD k []).length then some 0 else none))=(J_ g).map dT:=by
  refine Q2 λk=>?_;unfold J_;rw[aq,aq,aq];by_cases b:k<ns.length
  .rw[VY b,aj (show k<g.length by lia)];show some (dT (if 0<(g.getD k []).length then some 0 else none))=some (dT (if 0<g[k].length then some 0 else none));rw[show g.getD k []=g[k]by rw[au,aj (show k<g.length by lia)];rfl]
  .rw[aM (by rw[WP];exact VW b),aM (show g.length<=k by lia)]
   rfl
 refine⟨⟨rfl,rfl⟩,s,ns,g,rfl,⟨by lia,by lia⟩,by rw[rng,ak,WP];exact aL (show _<=1000 by lia) vk,JD (λk=>dT (if 0<(g.getD k []).length then some 0 else none)) ns.length (λk b N M a=>?_) ?_⟩
 .have d:=aj (show k<g.length by lia);rw[au,d]at a;have a:N (dT (if 0<g[k].length then some 0 else none)):=a;refine⟨⟨rfl,rfl⟩,s,ns,g,k,_,rfl,h,d,?_⟩;by_cases c:0<g[k].length
  .rw[ZY c]at a;exact dA (Zs (by rw[ak];lia)) a
  .rw[ZZ c]at a;exact cp (Zp (by rw[ak];lia)) a
 .rw[f];exact q
structure iF(e:Bool)(ns:Φ)(g:xj)(G:xy)(p:eh):Prop where
 pl:PlT g p.1
 xs:XsB ns.length p.2
 ch:∃S,gW ns.length (ck G) (cG g p.1) S (xG p.2)
 best:gl e ns.length (ck G) (i9 g) (xG p.2)
 no:e->∀S,Lfp true ns.length (ck G) (sj (ck G) (i9 g)) S->∀k,k<ns.length->S k=false->xG p.2 k=0
def gW.marks{m:Nat}{mk a S:Nat->Bool}{c:Nat->wq}{x:Nat->Rat}(h:gW m mk c S x)(e:∀k,k<m->mk k=a k):gW m a c S x:=⟨h.lf.marks e,λk b g=>h.goal k b (by rwa[e k b]),λk b g=>h.mean k b (by rwa[e k b]),h.no⟩
def Fin.chp{e:Bool}{g:xj}{f:zI}{p:eh}(h:Fin e ns g (c4 ns.length G) f p)(z:e->∀S,Lfp true ns.length (ck G) (sj (ck G) (i9 g)) S->∀k,k<ns.length->S k=false->xG p.2 k=0):iF e ns g G p:=by
 have d:∀k,k<ns.length->mkG (c4 ns.length G) k=ck G k:=λk b=>Tj b;obtain⟨S,c⟩:=h.ch;exact⟨h.pl,h.xs,⟨S,c.marks d⟩,⟨λk b a=>h.best.ok k b (by rwa[d k b])⟩,z⟩
def Mx:ST:=λa q=>∃i:Int,a=[.int i]/\q (.fz (.bl true))
def pd(T:Tx D):gT 1 Dl vf Mx:=yB T.agr adw (λ_ _=>bI (bR (vq (n8 .int vc T.dI T.adq boot_int) (Cq (Fk (n8 .bool vc T.dI T.R3 boot_bool))))))<|by
 rintro _ R ⟨i,rfl,q⟩;exact q
def yL:ST:=λa q=>∃r:Rat,a=[aa r]/\q (.fz (.bl true))
def KC(T:Tx D):gT 2 rJ jA yL:=yB T.NQ Kg (λa _=>bG (cC (QW.qt (iz (dN (cM (n8 .tuple vc T.dI T.Rj boot_tuple))) (gA (b_ (nM a.units) (bQ cI T.dH WJ (bA vc bC)) bF))))
  (bI (bR gO))
  bV)
  (bG (cC (QW.qt (iz (dN (cM (bJ (pd T) (bA (bK vc bF) bC)))) (gA (dN (cM (bJ (pd T) (bA (bK vc bF) bC)))))))
  (bI (bR gO))
  bV)
  (bI (bR (vq (mO HY (bK vc bF) bF) (Cq (mO (z0 a.units) (bJ (CU T) (bA (bK vc bF) (bA (bK vc bF) bC))) bF)))))))<|by
 rintro _ R ⟨r,rfl,q⟩;have:=r.den_pos;refine⟨_,rfl,_,rfl,dA (Zs vw) ⟨_,_,rfl,?_⟩⟩;rwa[show Int.gcd r.num r.den=1 from r.reduced]
def DY:ST:=λa q=>∃(h:xt)(m:Nat),a=[.lst (h.map aa),.int (m:Nat)]/\h.length=m/\m<=1000/\q (.fz (.bl true))
def SJ(T:Tx D):gT 3 v8 mV DY:=yB T.WR Tq (λc _=>bG (cC (QW.qt (iz (dN (cM (n8 .list vc T.dI T.wM boot_list))) (gA (b_ (nM c.units) (bQ cI T.dH WJ (bA vc bC)) vt))))
  (bI (bR gO))
  bV)
  (bI (bR (bQ (E5 rfl) T.ais boot_all (bA (cW (bH tG) yw yw ["_law_one"] (cg vc) (dZ (i:=0)) cA (bJ (KC T) (bA vc bC))) bC)))))<|by
 rintro _ R ⟨h,m,rfl,a,d,q⟩;refine cp (by rw[ak,a,Zs rfl];rfl) ⟨by rw[ak,a];exact aL d vk,comp_map aa (λ_=>.bl true) h (λr _ N M f=>⟨r,rfl,f⟩) ⟨h.map λ_=>true,by rw[WU];rfl,?_⟩⟩;have e:((h.map λ_=>true).all λb=>b)=true:=by simp
 rw[<- e]at q;exact q
def VB:ST:=λa q=>∃(c:Int)(m:Nat),a=[.int c,.int (m:Nat)]/\m<=8/\∀G:xy,G.length<=9->(∀g∈G,g<m)->q (.l1 (G.map bc))
def ET(T:Tx D):gT 2 K1 yc VB:=yB T.agn aeM (λf _=>bG (cC (b_ (z0 f.units) vt bF)
  (bI (bR (dg bC)))
  bV)
  (bG (bT 2 (bJ (hE T) (bA vc (bA bF bC))))
  (bI (bR (cW (bH JF) RM RM ["_law_x"] (cg (i_ vn (fY bF) (fY (bM cY bF (bM cH (bK vn bF) (bK (dg (bA bF (bA bF (bA bF (bA bF bC))))) (bM cH (bK vn bF) bF))))))) (dZ (i:=0)) cA (bM cH vc vn))))))<|by
 rintro _ R ⟨c,m,rfl,k,q⟩;refine eL (λz=>q [] vk λg a=>(nomatch a)) λz=>?_;refine⟨c,9,rfl,by decide,?_⟩;obtain⟨d,j,hd⟩ : ∃d:Int,cv [L2.T.int 4,L2.T.int 4,L2.T.int 4,L2.T.int 8] (zX c 8%4)=some (.int d)/\0<d:=by
  rcases(show zX c 8%4=0\/zX c 8%4=1\/zX c 8%4=2\/zX c 8%4=3 by lia)with z|z|z|z<;>rw[z]
  .exact⟨4,rfl,by decide⟩
  .exact⟨4,rfl,by decide⟩
  .exact⟨4,rfl,by decide⟩
  .exact⟨8,rfl,by decide⟩
 refine⟨_,rfl,_,rfl,by decide,_,j,hd,?_⟩;show(fj ((iZ c 9).map L2.T.int) (some 1) (some (1+zX c 0%d))).length<=sizeLine/\iy _ _ _ _ (fj ((iZ c 9).map L2.T.int) (some 1) (some (1+zX c 0%d))) _;generalize 1+zX c 0%d=u;rw[oX];have b:(fj (iZ c 9) (some 1) (some u)).length<=9:=by
  unfold fj;rw[aY,UQ];have:(iZ c 9).length=9:=rfl;lia
 refine⟨by rw[ak];exact aL b vk,comp_map L2.T.int (λx:Int=>.int (x%((m:Nat):Int))) _ (λx _ N M h=>⟨by lia,h⟩) ?_⟩;have e:(fj (iZ c 9) (some 1) (some u)).map (λx:Int=>L2.T.int (x%((m:Nat):Int)))=((fj (iZ c 9) (some 1) (some u)).map λx:Int=>(x%((m:Nat):Int)).toNat).map bc:=by
  rw[WU];refine UU λx _=>?_;show L2.T.int _=L2.T.int _;rw[jS (Z3 _ (by omega))]
 rw[e];refine q _ (by rwa[ak]) λg a=>?_;obtain⟨x,_,rfl⟩:=YV.mp a;have:=YY x (show(0:Int)<(m:Nat)by lia);have:=Z3 x (show((m:Nat):Int)≠0 by omega);lia
def Sf{t:Nat}{c:xp}{g:xj}(f:ns.length=m)(u:m<=8)(h:Io ns g)(hd:DSk m t c)(e:Ia c g):HlZ ns g:=by
 refine⟨h,by exact aL (WG f) u,λos n o b=>?_⟩;obtain⟨k,i⟩:=aV n;have a:k<c.length:=by rw[<- e.len];exact(ao.mp i).1
 obtain⟨y,_,rfl⟩:=e.at_ k _ os (aj a) i;obtain⟨p,x,rfl⟩:=YV.mp b;have a:=hd.ok _ (aU a) p.2 (UX x).2;obtain⟨q,d,l,v⟩:=a.all;have j:=SQ d v;have B:=j.few;have A:=a.few;refine⟨⟨λw hw=>by rw[f];exact j.lt w hw,λw hw=>?_,?_⟩,j.nd,by show(nQ p.2.prs).length<=1000;lia,q,d,l,j.dn⟩
 .have r:=j.nn w hw;have s:w.2≠0:=λz=>by
   have:=(List.mem_filter.mp (show w∈(fZ p.2.prs).filter λp=>!decide (p.2=0)from hw)).2;rw[Zs z]at this;cases this
  exact Rat.not_le.mp λz=>s (Rat.le_antisymm z r)
 .show QJ (nQ p.2.prs)=1;rw[Eo,j.sum,Bo,a.one]
def JW(T:Tx D):OkI P w K mg base bb 1 D.NoRoom_init jC (C5 D.NoRoom "room"):=yf T.Ko λF=>by
 refine F.okB JV ?_ ?_
 .rintro _ _ _ _ ⟨a,v,rfl,_⟩;rfl
 .rintro e A b s H _ Q E d ⟨a,v,rfl,c,q⟩;refine⟨_,(abk (l8.mk (oK (aeA T.ib_HallError T.xi_NoRoom (by rfl) T.Xa (cF (pv 0) (cF EC jB)))))
   (aep (l8.mk (afM (pv 0) (pv 1) rfl)))),?_⟩
  exact⟨_,rfl,a,[_],rfl,c,by decide,_,rfl,_,rfl,a,D.NoRoom,rfl,c,T.xs_NoRoom,T.Af,q⟩
inductive ka(n:Nat):L2.T->Prop
 |kind {t:L2.T} : so t=some false->ka n t
 |far {k:Int} : ¬(0<=k/\k<n)->ka n (.int k)
def zA(D:a'):SX:=λa R z=>∃(s:Rat)(ns:Φ)(g:xj)(t:L2.T),a=[ci D s ns g,t]/\((∃k:Nat,t=.int k/\k<ns.length/\R (.fz .non))\/(ka ns.length t/\z D.NoRoom ["room"] [t]))
def Ni(T:Tx D):OkI P w K mg base (el P w) 3 D.Hall_check_room dz (iO K (zA D)):=yf T.sE λF=>by
 refine F.okTX qO (λ_ _=>bI (cC (QW.qt (iz (dN (cM (bJ (Xd T) (bA vt bC)))) (gA (dN (JX Pr Ey bF vt (qW vc T.gJ T.jX (RP T) (KS:=iB)))))))
  (bI (ad1 rfl T.Wk T.xi_NoRoom (JW T) vt))
  bV)) ?_
 rintro _ R Z ⟨s,ns,g,t,rfl,h⟩;rcases h with⟨k,rfl,b,q⟩|⟨h,q⟩
 .refine⟨_,_,rfl,rfl,⟨rfl,rfl⟩,_,_,_,rfl,?_⟩;show sw (!decide ((k:Int)<(ns.length:Nat))) _ _;rwa[Zs (show(k:Int)<(ns.length:Nat)by lia)]
 .cases h with
  |kind e=>exact⟨_,_,rfl,e,q⟩
  |@far k e =>
   refine⟨_,_,rfl,rfl,?_⟩;refine eL (λa=>⟨⟨rfl,rfl⟩,_,_,_,rfl,?_⟩) λa=>q;refine dA ?_ q;rw[Zp (λz=>e ⟨a,z⟩)];rfl
def nr(ns:Φ)(b t:L2.T):Prop:=∃(a:xy)(c:List L2.T),b=.lst (a.map bc++t::c)/\ik ns a/\ka ns.length t
def zZ(D:a'):SX:=λb _ z=>∃(s:Rat)(ns:Φ)(g:xj)(a t:L2.T),b=[ci D s ns g,a]/\Io ns g/\nr ns a t/\z D.NoRoom ["room"] [t]
def Kv(T:Tx D):n7 P w K mg base 4 jd eE (zZ D):=yi T.Ed λF=>by
 refine F.okTX Bw (λ_ _=>bG (gR 2 (bM cJ (dg (bA gO bC)) (qW vc T.gJ T.jX (RP T) (KS:=iB))))
  (bG (dh (cg vt) (bZ (n:=99) 3)
  (bG (ac0 vc T.gJ T.lK (Ni T) (bA ve bC) (KS:=iB))
  (bI (uE 2 gO ve))))
  (bI (iD 2)))) ?_
 rintro _ R Z ⟨s,ns,g,y,t,rfl,h,⟨c,f,rfl,j,l⟩,q⟩;have m:=h.few;refine⟨⟨rfl,rfl⟩,s,ns,g,rfl,⟨by lia,by lia,by show 1*_<=_;exact aL (show _<=1000 by lia) vk⟩,λz i=>?_⟩;have i:z=(c4 ns.length []).map L2.T.bl:=by
  rw[i,show((replicate (((ns.length:Nat):Int)).toNat [frz (OT.fz (L2.T.bl false))]).flatten)=replicate ns.length (L2.T.bl false)from px];unfold c4;rw[WU];refine UT (by rw[aN,ak,WP]) λk v r=>?_;rw[List.getElem_replicate,VX]
  rfl
 rw[i];show uW _ _ _ (c.map bc++t::f) _;rw[show c.map bc++t::f=(c.map bc++t::f).map λt=>t from(List.map_id' _).symm];refine eN (λt=>t) (c.map bc++t::f) (λp o=>∃(u d:xy)(x:OT),c=u++d/\p=u.map bc/\o=[.fz (ci D s ns g),.fz (.lst ((c.map bc++t::f).map λt=>t)),.l1 ((c4 ns.length u).map L2.T.bl),x]) ⟨[],c,_,rfl,rfl,rfl⟩ ?_ ?_
 .rintro _ a A _ e ⟨u,d,x,rfl,rfl,rfl⟩;rw[bf,Wp]at e;have e:=List.append_cancel_left e;cases d with
  |nil =>
   cases e;exact⟨⟨rfl,rfl⟩,s,ns,g,t,rfl,.inr ⟨l,q⟩⟩
  |cons b d =>
   cases e;have lt:b<ns.length:=j b vy;refine⟨⟨rfl,rfl⟩,s,ns,g,bc b,rfl,.inl ⟨b,rfl,lt,b,?_,u++[b],d,.fz (bc b),by simp,by simp,?_⟩⟩
   .unfold c6;rw[ak,JZ,ZY (X9 _),ZY vw]
    rfl
   .rw[<- Hm,Th]
    rfl
 .rintro _ ⟨u,d,x,rfl,e,rfl⟩;have:=ZH List.length e;rw[aA,ak,aA,length_cons,ak]at this;lia
def Hu{t u:TS}{D:Ends}{a:L2.St}{H:Hp}(h:t { D with nx:=u D } a H):jP t u D a H:=h
theorem Aw{K:Frag}{F c:Hp} : ∀{A:Ζ}{v:zI},bW K F A (v.map dT)->bW K c A (v.map dT)
 |_,[],.nil=>.nil
 |_,none::_,.cons a b=>by cases a;exact .cons .non (Aw b)
 |_,some _::_,.cons a b=>by cases a;exact .cons (.int _) (Aw b)
theorem Fp{K:Frag}{F H:Hp} : ∀{A:Ζ}{v:zI},bW K F A (v.map dT)->fP H A (v.map dD)
 |_,[],.nil=>.nil
 |_,none::_,.cons a b=>by cases a;exact .cons .non (Fp b)
 |_,some _::_,.cons a b=>by cases a;exact .cons (.int _) (Fp b)
def ToH(K:Frag)(H d:Hp)(c h:Addr)(f:V):wp->Prop
 |none=>f=.non/\h=c
 |some g=>∃p a b A e,f=.ref p/\d p=some (.tup [.ref a,.ref b])/\(a=c\/H a=none)/\H b=none/\a≠b/\d a=some (.lst A)/\d b=some (.lst e)/\bW K d A (g.1.map dT)/\bW K (L2.hd (λz=>z=a\/z=b) d) e (g.2.map aa)
structure hH(K:Frag)(H H':Hp)(ns:Φ)(g:xj)(mk:xo)(b7:zI)(c cc:Addr)(tv:V)(to:wp)(cl:zI)(I:xh):Prop where
 S:zT H H'
 co:∃zs,H' cc=some (.lst zs)/\bW K H' zs (cl.map dT)
 nw:cc=c\/H cc=none
 hh:Vl false ns.length g mk I
 si:abq false ns g mk b7 I cl to
 to:ToH K H H' c cc tv to
def Ta{K:Frag}{F G:Hp}{a:Addr}{A:Ζ}(h:SqT K F a A)(e:∀b u,(∀l,u≠HO.lst l)->F b=some u->G b=some u):SqT K G a A:=by
 rcases h with h|h
 .exact .inl (h.imp (e _ _ λ_ z=>(nomatch z)) λc=>by obtain⟨o,r⟩:=c;exact⟨o,e _ _ (λ_ z=>(nomatch z)) r⟩)
 .exact .inr h
theorem G2{K:Frag}{F G:Hp}(e:∀b u,(∀l,u≠HO.lst l)->F b=some u->G b=some u):∀{d:Ζ}{h:xt},bW K F d (h.map aa)->bW K G d (h.map aa)
 |_,[],.nil=>.nil
 |_,r::_,.cons x y=>by
  obtain⟨q,f,rfl,s,c⟩:=x.tupI;cases c with
  |cons a c=>cases c with
   |cons b c =>
    cases c;cases a;cases b;exact .cons (.tup (Ta s e) (.cons (.int _) (.cons (.int _) .nil))) (G2 e y)
def Ve{H H':Hp}{g:xj}{Y a:zI}{c j v:Addr}{tv o J C:V}{to:wp}{I:xh}{m:Rat}(e:hH K H H' ns g mk Y c j tv to a I)(hn:to.map (·.1)≠some a)(ro:Rep K H o (ci D m ns g))(rm:Rep K H J (dV mk))(rk:Rep K H C (L2.T.val (V.ref v)))(hv:mg fH=some (.ref v))(h:HlZ ns g)(ml:mk.length=ns.length)(hp:PlT g Y){E:Ends}(hN:∀iL s f kx f7 gE,hH K H gE ns g mk Y c s iL (some kx) f f7->f7.length=I.length+1->E.nx [some o,some J,some (.ref c),some C,some iL,some (.ref s)] gE) :
  jP (ip (zr (Bv (Ku 5) (Bv (Lz (L2.spT K (lH D)) (Bv (Ku 0) (Bv (Ku 1) (Bv (Ku 5) ie)))) ie))) (xQ 4)) (ip (Lz (L2.spT K (qX D mg)) (Bv (Ku 0) (Bv (Ku 1) (Bv (Ku 4) (Bv (Ku 3) ie))))) (xQ 5)) E [some o,some J,some (.ref c),some C,some tv,some (.ref j)] H':=by
 obtain⟨zs,l,L⟩:=e.co;have hc:=e.si.plan hp;refine Hu ⟨_,rfl,_,rfl,_,rfl,_,rfl,[ci D m ns g,dV mk,.lst (a.map dT)],λx=>∃A:xt,x=.l1 (A.map aa)/\XsB ns.length A/\∃S,gW ns.length (mkG mk) (cG g a) S (xG A),.cons (ro.same e.S) (.cons (rm.same e.S) (.cons (.lst l L) .nil)),⟨m,ns,g,mk,a,rfl,h,ml,hc,λS x X fb=>?_⟩,?_⟩
 .have xm:((range ns.length).map x).map aa=(range ns.length).map λi=>aa (x i):=by rw[WU];rfl
  have xg:∀k,k<ns.length->((range ns.length).map x).getD k 0=x k:=λk P=>by rw[au,aq,VY P];rfl
  rw[<- xm];refine⟨_,rfl,⟨by rw[ak,WP],λr N=>?_,λr N=>?_,λr N=>?_⟩,S,X.congr (h.cw _) λk P=>(xg k P).symm⟩<;>obtain⟨i,Q,rfl⟩:=YV.mp N
  .exact fb i (List.mem_range.mp Q)
  .exact X.nn (h.cw _) i (List.mem_range.mp Q)
  .exact X.le1 (h.cw _) i (List.mem_range.mp Q)
 rintro Z _ _ ⟨A,rfl,xb,S,cx⟩ S2 ⟨B,nb,b,ys,eb,rfl,R,ry⟩;cases eb;refine⟨(show 2<=sizeLine by decide),λp O=>?_⟩;have bn:H' b=none:=nb b vy;have w:zT Z (upd Z p (.tup [.ref j,.ref b])):=zT.upd O;have d:=S2.trans w;have ne:j≠b:=λz=>by rw[z,bn]at l;cases l
 have n:∀{G:Hp},zT (upd Z p (.tup [.ref j,.ref b])) G->bW K (L2.hd (λz=>z=j\/z=b) G) ys (A.map aa):=λ{G}SG=>G2 (λq u nl eq=>by
  obtain⟨_,W⟩:=cQ eq;have U:=SG _ _ (w _ _ W);rw[cR λz=>?_]
  .exact U
  .rcases z with rfl|rfl
   .rw[SG _ _ (d _ _ l)]at U;cases U;exact nl _ rfl
   .rw[R]at W;cases W;exact nl _ rfl) ry
 refine⟨_,rfl,_,rfl,_,rfl,_,rfl,[ci D m ns g,dV mk,eF (a,A),.val (.ref v)],λx=>∃f,x=.l1 (f.map dT)/\pR false g mk A a f,.cons (ro.same (e.S.trans d)) (.cons (rm.same (e.S.trans d)) (.cons (.tup (.inl (.of cj)) (.cons (.lst (d _ _ l) (Aw L)) (.cons (.lst (w _ _ R) ((n (.refl _)).same cL)) .nil))) (.cons (rk.same (e.S.trans d)) .nil))),⟨false,v,m,ns,g,mk,(a,A),rfl,rfl,hv,h,ml,hc,xb,λf M=>⟨f,rfl,M⟩⟩,?_⟩;rintro H4 _ _ ⟨f,rfl,M⟩ t ⟨B',F,s,y,sf,rfl,qB,kr⟩;cases sf;obtain⟨n1,n2⟩:=e.si.next h hp e.hh hn xb cx M;have SA:=(e.S.trans d).trans t;exact hN (.ref p) s f (a,A) ((a,xG A)::I) H4 ⟨SA,⟨y,qB,Aw kr⟩,.inr ((e.S.trans d).free (F s vy)),n1,n2,⟨p,j,b,zs,ys,rfl,t _ _ cj,e.nw,e.S.free bn,ne,t _ _ (d _ _ l),t _ _ (w _ _ R),Aw L,n t⟩⟩ rfl
def Sj(D:a')(K:Frag)(j:Str->Ω):Sp:=λi H Q _=>∃(v:Addr)(s:Rat)(ns:Φ)(g:xj)(mk:xo)(f:zI)(c:Addr),bW K H i [ci D s ns g,dV mk,.lst (f.map dT),.val (.ref v)]/\i[2]?=some (.ref c)/\j fH=some (.ref v)/\HlZ ns g/\mk.length=ns.length/\PlT g f/\∀(d:Hp)(p a b:Addr)(A h:Ζ)(e:eh),Fin false ns g mk f e->zT H d->d p=some (.tup [.ref a,.ref b])->(a=c\/H a=none)->H b=none->a≠b->d a=some (.lst A)->d b=some (.lst h)->bW K (L2.hd (λz=>z=a\/z=b) d) A (e.1.map dT)->bW K (L2.hd (λz=>z=a\/z=b) d) h (e.2.map aa)->Q (.ref p) d
def Vo(T:Tx D):OkF P w K mg base 10 wY nU (Sj D K mg):=ya T.abl λF=>by
 refine F.ok qM (λU H Q E h=>?_) (λai d W s H U Q E Y h=>?_)
 .obtain⟨v,s,ns,g,mk,L,c,r,_⟩:=h;exact r.len
 .obtain⟨v,s',ns,g,mk,L,c,r,ec,hv,h,ml,hp,q⟩:=h;refine⟨_,(pA (zc (i:=4) qM.nd rfl (Or.inl rfl) YB)
   (pA (zc (i:=5) qM.nd rfl (Or.inl rfl) (pv 2))
   (pA (Wq PassesOwn.never (PW.pt (pw_or (Ju FU (pv 4) YB (M5 _)) (pw_or1 (Ju (Rl Y.units) (pv 5) (tu RN (pv 4) uo (λ_ _=>rfl)) (M5 _)))))
    (pA (zc (i:=4) qM.nd rfl (Or.inl rfl) (FM (cF (pv 5) (cF (mU (Ir T) Y.md (by rfl) (cF (pv 0) (cF (pv 1) (cF (pv 5) jB)))) jB))))
    (oH (zc (i:=5) qM.nd rfl (Or.inl rfl) (mU (KR T) Y.md (by rfl) (cF (pv 0) (cF (pv 1) (cF (pv 4) (cF (pv 3) jB)))))))))
   (oH (yH (pv 4)))))),?_⟩
  obtain⟨o,u,t,rfl⟩ : ∃o u t,U=[o,u,.ref c,t]:=by
   match U,r.len,ec with
   |[o,u,x,t],_,ec=>exact⟨o,u,t,by rw[Option.some.inj ec]⟩
  cases r with
  |cons ro r=>cases r with
  |cons rm r=>cases r with
  |cons rp r=>cases r with
  |cons rk r =>
  obtain⟨Z,zs,sf,hc,rz⟩:=rp.lstI;cases sf;refine Hu ?_;refine Hu ⟨_,rfl,?_⟩;refine Hu ⟨λm σ H'=>∃(n:wp)(f:zI)(I:xh)(j:V)(C:Addr),σ=[some o,some u,some (.ref c),some t,some j,some (.ref C)]/\hH K H H' ns g mk L c C j n f I/\m+I.length=(z_ g).length,⟨(z_ g).length,none,L,[],.non,c,rfl,⟨.refl _,⟨zs,hc,rz⟩,.inl rfl,⟨λ_ z=>(nomatch z),List.Pairwise.nil⟩,⟨rfl,rfl⟩,⟨rfl,rfl⟩⟩,rfl⟩,?_⟩;rintro m _ H' ⟨n,f,I,j,C,rfl,e,em⟩;have hb:I.length<=(z_ g).length:=e.hh.len h;have nx:∀N k eT X M J,hH K H J ns g mk L c k N (some X) eT M->M.length=I.length+1->∃B,B<m/\∃(n:wp)(f:zI)(I:xh)(j:V)(C:Addr),[some o,some u,some (V.ref c),some t,some N,some (V.ref k)]=[some o,some u,some (.ref c),some t,some j,some (.ref C)]/\hH K H J ns g mk L c C j n f I/\B+I.length=(z_ g).length:=λN k eT X M J e' l=>by
   have:=e'.hh.len h;exact⟨(z_ g).length-M.length,by lia,some X,eT,M,N,k,rfl,e',by exact Nat.sub_add_cancel this⟩
  cases n with
  |none =>
   obtain⟨rfl,rfl⟩:=e.to;refine⟨_,rfl,rfl,true,rfl,?_⟩;exact⟨λG J=>∃B,B<m/\∃(n:wp)(f:zI)(I:xh)(j:V)(k:Addr),G=[some o,some u,some (.ref C),some t,some j,some (.ref k)]/\hH K H J ns g mk L C k j n f I/\B+I.length=(z_ g).length,λ_ _ z=>z,Ve e (λz=>by cases z) ro rm rk hv h ml hp nx⟩
  |some y =>
   obtain⟨p,a,b,A,ys,rfl,tp,an,bn,ne,ha,c9,rx,ry⟩:=e.to;obtain⟨zs',fF,kq⟩:=e.co;refine⟨_,rfl,rfl,false,rfl,?_⟩;refine⟨_,rfl,_,rfl,p,_,0,.ref a,rfl,rfl,tp,rfl,.list (f.map dD),.list (y.1.map dD),.lst fF (Fp kq),.lst ha (Fp rx),Mg.lst f,Mg.lst y.1,_,rfl,?_⟩;have R:(!PyData.eqv (.list (f.map dD)) (.list (y.1.map dD))) = !decide (f=y.1):=by
    unfold PyData.eqv;rw[Lg Mg.eqv]
   by_cases O:f=y.1
   .rw[Zs O]at R;show if(!PyData.eqv (.list (f.map dD)) (.list (y.1.map dD)))=true then _ else _;rw[ZZ (by rw[R];decide)];subst O;obtain⟨S,Z⟩:=e.si.2.ch;exact⟨_,rfl,q H' p a b A ys y ⟨e.si.2.pl,e.si.2.xs,⟨S,Z⟩,e.si.2.turn.best e.si.2.pl h Z,e.si.2.lo⟩ e.S tp an bn ne ha c9 (Aw rx) ry⟩
   .rw[Zp O]at R;show if(!PyData.eqv (.list (f.map dD)) (.list (y.1.map dD)))=true then _ else _;rw[ZY (by rw[R];decide)];exact⟨λG J=>∃B,B<m/\∃(n:wp)(f:zI)(I:xh)(j:V)(k:Addr),G=[some o,some u,some (.ref c),some t,some j,some (.ref k)]/\hH K H J ns g mk L c k j n f I/\B+I.length=(z_ g).length,λ_ _ z=>z,Ve e (λz=>O (Option.some.inj z).symm) ro rm rk hv h ml hp nx⟩
def oY(D:a'):SX:=λb _ z=>∃(s:Rat)(ns:Φ)(g:xj)(a t:L2.T),b=[ci D s ns g,a]/\Io ns g/\nr ns a t/\z D.NoRoom ["room"] [t]
def yx(T:Tx D):n7 P w K mg base 11 fQ dY (oY D):=yi T.qR λF=>by
 refine F.okUX p8 λj A a s H E b i=>?_;obtain⟨f,e,_⟩:=OkF.val (Uu T);refine⟨_,bI (ZN 0 (Vo T) b.md (by rfl) (Kv T) b.md (by rfl) (bA vc (bA vt bC)) (bA (bJ (Ox T) (bA vc bC)) (bA (EX (by rfl) e) bC))),?_⟩;rintro _ R Z ⟨s,ns,g,d,t,rfl,h,c,q⟩;exact⟨⟨_,rfl⟩,s,ns,g,d,t,rfl,h,c,q⟩
def Lw(D:a'):ST:=λb q=>∃(s:Rat)(ns:Φ)(g:xj)(a t:L2.T),b=[ci D s ns g,a]/\Io ns g/\nr ns a t/\q (.l1 [t])
def X3(T:Tx D):gT 12 CN qU (Lw D):=ya T.abg λF=>by
 refine F.ok vH (λl H Q E c=>?_) (λai A n s H l Q E W c=>?_)
 .obtain⟨O,R,r,⟨_,_,_,_,_,rfl,_⟩,_⟩:=c;exact r.len
 .obtain⟨O,R,r,⟨P,ns,g,N,t,rfl,Y,X,q⟩,k⟩:=c;obtain⟨o,v,rfl⟩ : ∃o v,l=[o,v]:=by
   match l,r.len with
   |[o,v],_=>exact⟨o,v,rfl⟩
  refine⟨_,(pA (zc (i:=2) vH.nd rfl (Or.inl rfl) (GG jB))
   (pA (acu (i:=3) vH.nd rfl rfl (by rfl) T.Wk T.acU T.aeY rfl rfl rfl (λ_ _ _ HF=>(oH (oK (Wa (yx T) W.md (by rfl) HF (cF (pv 0) (cF (pv 1) jB))))))
    (λ_ _=>(oH (zc (i:=2) vH.nd rfl (Or.inl rfl) (GG (cF (aeB (K':=K) rfl (pv 3) rfl) jB))))))
   (oH (yH (pv 2))))),?_⟩
  refine Hu ⟨(show 0<=sizeLine by decide),λU H1 J f1 h1=>?_⟩;refine Hu ⟨λC d M e=>M=[some o,some v,some (.ref U),none]/\∃(G:Addr)(x:V),C=.ref D.NoRoom/\d=some G/\zT H e/\e G=some (.xd [("room",x)])/\Rep K e x t,?_,?_⟩
  .refine⟨_,rfl,_,rfl,_,λ_=>False,λC w m=>C=D.NoRoom/\w=(["room"] : Φ)/\m=[t],r.same J,⟨P,ns,g,N,t,rfl,Y,X,rfl,rfl,rfl⟩,(λ_ _ _ z=>z.elim),?_⟩;rintro e C d w m dq ⟨rfl,rfl,rfl⟩ S p f
   match m,f with
   |[x],.cons f .nil=>exact⟨rfl,d,x,rfl,rfl,J.trans S,p,f⟩
  .rintro _ _ L e ⟨rfl,d,x,rfl,rfl,S,p,f⟩;refine⟨D.NoRoom,rfl,T.sm_NoRoom,λa j=>?_⟩;refine⟨_,rfl,a,D.NoRoom,d,_,x,rfl,cj,zT.upd j _ _ p,T.xk_NoRoom,T.hd_NoRoom,T.Af,rfl,(show 1<=sizeLine by decide),λu H5 I B Z=>⟨_,rfl,?_⟩⟩;have h:bW K (L2.hd (λ_=>False) (upd e a (XO a D.NoRoom (some d)))) [x] [t]:=by rw[JC];exact .cons (f.same (zT.upd j)) .nil
   exact k H5 (.ref u) _ q ((S.trans (zT.upd j)).trans I) (NR.l1 ((S.trans (zT.upd j)).free B) Z (h.same (h_ (λb z=>z.imp id λ(y:b=u)=>y ▸ B) I)))
def _4(l:List O)(c:Int)(f:l.length=m)(g:0<m):∃t,t∈l/\cv l (c%(m:Nat))=some t:=by
 have a:=Z3 c (show((m:Nat):Int)≠0 by lia);have b:=YY c (show(0:Int)<(m:Nat)by lia);obtain⟨k,e⟩:=lZ a;have d:k<l.length:=by lia
 refine⟨l[k],aU d,?_⟩;rw[e];show d6 l k=_;rw[tR,aj d]
def Rx{s:Str}{d:PyData}(I:PyData.canLay0 (.str s))(h:PyData.canLay0 d)(n:PyData.depth d<=60):SeqAt.shaped (.list [.str s,d]):=by
 have b:PyData.canLay0 (.list [.str s,d]):=by
  unfold PyData.canLay0 PyData.canLayAll0 PyData.canLayAll0 PyData.canLayAll0;rw[I,h];rfl
 have a:PyData.depth (.list [.str s,d])<=64:=by
  simp only[PyData.depth,PyData.depthAll];lia
 unfold SeqAt.shaped;rw[b,Zs a];rfl
structure LI(m:Nat)(d:PyData):Prop where
 bad:ka m (dc d)
 eqv:PyData.eqv d d
 sh:SeqAt.shaped (.list [.str "room",d])
 kd:∃b,m2 .bool (dc d)=some b
 es:hW (dc d) (dc d)=some true
def aeT:ST:=λa q=>∃(c:Int)(m:Nat),a=[.int c,.int (m:Nat)]/\0<=c/\∀d,LI m d->q (.fz (dc d))
def PU(T:Tx D):gT 1 X_ Nj aeT:=yB T.aoE PM (λ_ _=>bI (bR (bK (dg (bA vt (bA (bM cY (bM cY vt bF) (bM lX vc bF)) (bA (bM Rz (Uv bF) (bM cH (bM lX vc bF) bF)) (bA gO (bA gO (bA gq (bA tV (bA (d9 (bA bF (bA bF bC))) bC))))))))) (bM cH vc bF))))<|by
 rintro _ R ⟨c,m,rfl,f,q⟩;refine⟨⟨by decide,eV vk⟩,⟨by decide,eV vk⟩,by decide,by decide,?_⟩;obtain⟨t,b,e⟩:=_4 [L2.T.int (m:Nat),.int ((m:Nat)+1+c.fdiv 8),.int (-1-c.fdiv 8%9),.bl true,.bl false,.non,.str "a",.tup [.int 0,.int 1]] c (m:=8) rfl vk;refine⟨t,e,?_⟩;have d:c.fdiv 8=c/8:=lv _ vk;have a:∀i:Int,¬(0<=i/\i<(m:Nat))->R (.fz (.int i)):=λi h=>q (.int i) ⟨.far h,by show decide (i=i)=true;exact Zs rfl,Rx (by decide +kernel) rfl (aZ _),⟨false,rfl⟩,by show some (decide (i=i))=_;rw[Zs rfl]⟩
 revert t
 simp only[YU,UV,or_false];rintro t (rfl|rfl|rfl|rfl|rfl|rfl|rfl|rfl) _
 .exact a _ vw
 .exact a _ vw
 .exact a _ (by omega)
 .exact q (.bool true) ⟨.kind rfl,rfl,Rx (by decide +kernel) rfl (aZ _),⟨true,rfl⟩,rfl⟩
 .exact q (.bool false) ⟨.kind rfl,rfl,Rx (by decide +kernel) rfl (aZ _),⟨true,rfl⟩,rfl⟩
 .exact q .none ⟨.kind rfl,rfl,Rx (by decide +kernel) rfl (aZ _),⟨false,rfl⟩,rfl⟩
 .exact q (.str "a") ⟨.kind rfl,by decide +kernel,by decide +kernel,⟨false,rfl⟩,by decide +kernel⟩
 .exact q (.tuple [.int 0,.int 1]) ⟨.kind rfl,by decide +kernel,by decide +kernel,⟨false,rfl⟩,by decide +kernel⟩
def aeF(l:List O) : fj l (some (n:Int)) none=l.drop n:=by
 unfold fj;rw[HT.Bp];show(l.drop (min n l.length)).take (l.length-min n l.length)=_;by_cases h:n<=l.length
 .rw[min_eq_left h];exact QP (by rw[UQ];exact aG _)
 .rw[Tk (by lia:l.length<=n),Tk vw,take_nil]
def Uf{a:Bool}{t u:L2.T}{b:Bool}{q:OT->Prop}(e:hW t u=some b)(h:q (.fz (.bl (xr a b)))):hB a t u q:=by unfold hB;rwa[e]
def K5(D:a'):ST:=λa q=>∃(s:Rat)(ns:Φ)(g:xj)(G:xy)(c:Int),a=[ci D s ns g,bz G,.int c,.int (ns.length:Nat)]/\Io ns g/\ik ns G/\G.length<=9/\q (.fz (.bl true))
def XF(T:Tx D):gT 13 Dh rE (K5 D):=yB T.abI Zi (λj _=>bG (bT 4 (bJ (PU T) (bA (bM cH vn bF) (bA ve bC))))
  (bG (bT 5 (bM cH (bM lX (bM cH vn bF) bF) (bM cY (bQ cI T.dH WJ (bA vt bC)) bF)))
  (bG (bT 6 (bJ (X3 T) (bA vc (bA (bM cY (bM cY (bM cY (i_ vt FJ (fY vF)) (dg (bA vi bC))) (i_ vt (fY vF) FJ)) (dg (bA (bM cY ve bF) bC))) bC))))
  (bI (bR (vq (mO (z0 j.units) (bQ cI T.dH WJ (bA (qv 6) bC)) bF) (vq (mO (z0 j.units) (bK (qv 6) bF) vi) (Cq (mO (z0 j.units) (n8 .bool (bK (qv 6) bF) T.dI T.R3 boot_bool) (n8 .bool vi T.dI T.R3 boot_bool))))))))))<|by
 rintro _ R ⟨s,ns,g,G,c,rfl,h,r,t,q⟩;have o:0<=c%1000003:=Z3 _ vk;generalize hc:c%1000003=Z at o;refine⟨by decide,?_⟩;dsimp only[frz];rw[hc];refine⟨Z,ns.length,rfl,o,λd hd=>⟨by decide,?_⟩⟩;dsimp only[frz];rw[hc];refine⟨⟨by decide,eV vk⟩,by exact Int.lt_add_one_of_le (X9 _),?_⟩;obtain⟨a,u⟩ : ∃a:Nat,Z.fdiv 8%(((G.map bc).length:Int)+1)=(a:Nat):=by
  have:=Z3 (Z.fdiv 8) (show((G.map bc).length:Int)+1≠0 by lia);exact⟨_,(jS this).symm⟩
 dsimp only[frz];rw[u];have f:fj (G.map bc) none (some (a:Int))=(G.take a).map bc:=by rw[oX,Hr]
 have k:fj (G.map bc) (some (a:Int)) none=(G.drop a).map bc:=by rw[oX,aeF]
 have i:∀{n:Nat},n<=20->n<=sizeLine:=λh=>aL h vk;have w:(G.take a).length<=9:=by rw[aY];lia
 have v:(G.drop a).length<=9:=by rw[UQ];exact aL (sub_le _ _) t
 obtain⟨b,m⟩:=hd.kd;refine⟨?_,?_,?_,s,ns,g,_,dc d,rfl,h,⟨G.take a,(G.drop a).map bc++[.int ((ns.length:Nat)+2)],?_,λe p=>r e (mem_of_mem_take p),hd.bad⟩,?_⟩
 .rw[f];exact i (by rw[ak];show(G.take a).length+1<=20;lia)
 .rw[f,k];exact i (by rw[aA,ak,ak];show(G.take a).length+1+(G.drop a).length<=20;lia)
 .rw[f,k];exact i (by rw[aA,aA,ak,ak];show(G.take a).length+1+(G.drop a).length+1<=20;lia)
 .show L2.T.lst (((fj (G.map bc) none (some (a:Int))++[dc d])++fj (G.map bc) (some (a:Int)) none)++[_])=_;rw[f,k,Wp,Wp]
  rfl
 .refine⟨_,rfl,?_⟩;show hB false (dc d) (dc d) λx=>match frz x with|.bl l=>sw l _ _|_=>False
  refine Uf hd.es ?_;refine dA rfl ⟨_,rfl,?_⟩;refine DO m ?_;refine DO m ?_;cases b<;>exact q
def Im(D:a'):ST:=λa q=>∃(s:Rat)(ns:Φ)(g:xj)(G:xy),a=[ci D s ns g,bz G]/\HlZ ns g/\ik ns G/\∀p:eh,iF false ns g G p->q (.pr (p.1.map dT) (p.2.map aa))
def yQ(T:Tx D):gT 11 fQ dY (Im D):=ya T.qR λF=>by
 refine F.ok p8 (λP H Q E h=>?_) (λai f t s H P Q E v h=>?_)
 .obtain⟨V,R,r,⟨_,_,_,_,rfl,_⟩,_⟩:=h;exact r.len
 .obtain⟨V,R,r,⟨j,ns,g,G,rfl,h,hg,q⟩,k⟩:=h;obtain⟨U,N,_⟩:=OkF.val (Uu T);refine⟨_,(oH (yH (mU (Vo T) v.md (by rfl) (cF (pv 0) (cF (mU (O7 T) v.md (by rfl) (cF (pv 0) (cF (pv 1) jB))) (cF (mU (Ox T) v.md (by rfl) (cF (pv 0) jB)) (cF (Wf (by rfl) N) jB))))))),?_⟩;obtain⟨o,d,rfl,L,rg⟩:=r.two;refine⟨_,rfl,_,rfl,_,rfl,[ci D j ns g,bz G],λx=>x=.l1 ((c4 ns.length G).map L2.T.bl),r,⟨j,ns,g,G,rfl,h.h,hg,rfl⟩,?_⟩;rintro H1 _ _ rfl J ⟨B,nb,m,ms,em,rfl,hm,fR⟩;cases em;refine⟨_,rfl,[ci D j ns g],λx=>x=.l1 ((J_ g).map dT),.cons (L.same J) .nil,⟨j,ns,g,rfl,h.h,rfl⟩,?_⟩;rintro H2 _ _ rfl I ⟨B2,u,c,zs,ec,rfl,hc,W⟩;cases ec;have i:=J.trans I;refine⟨U,j,ns,g,c4 ns.length G,J_ g,c,.cons (L.same i) (.cons (.lst (I _ _ hm) ((fR.same cL).same I)) (.cons (.lst hc (W.same cL)) (.cons (.val _) .nil))),rfl,N,h,JZ _ _,_5 g,λK p a b A O Z y S n C bn ne w M Y X=>?_⟩;have le:zT (L2.hd (λz=>z=a\/z=b) K) (L2.hd (λz=>(λ_=>False) z\/z∈[a,b]) K):=h_ (λz l=>.inl (by simpa using l)) λ_ _ e=>e;refine k K (.ref p) _ (q Z (y.chp λz=>(nomatch z))) (i.trans S) ⟨[a,b],λz l=>?_,p,a,b,A,O,rfl,rfl,ne,?_,w,M,Y.same le,X.same le⟩
  .rcases YU.mp l with rfl|l
   .rcases C with rfl|C
    .exact J.free (u _ vy)
    .exact i.free C
   .rw[YR.mp l];exact i.free bn
  .rw[cR λz=>?_]
   .exact n
   .rcases z with z|z
    .exact z
    .rcases YU.mp z with rfl|z
     .rw[n]at w;cases w
     .rw[YR.mp z,M]at n;cases n
structure PlD(ae:xp)(v:zI):Prop where
 len:v.length=ae.length
 ok:∀(k:Nat)(d:xL)(u:we),v[k]?=some d->ae[k]?=some u->sU d u.length=true
def PlD.snoc{f:xp}(h:∀(i:Nat)(d:xL)(u:we),i<k->v[i]?=some d->f[i]?=some u->sU d u.length=true)(l:v.length=k){u:we}(g:f[k]?=some u)(hd:sU d u.length):∀(i:Nat)(c:xL)(a:we),i<k+1->(v++[d])[i]?=some c->f[i]?=some a->sU c a.length=true:=λi c a j b e=>by
 by_cases z:i<k
 .rw[aF vw]at b;exact h i c a z b e
 .have:i=k:=by lia
  subst this;rw[aD (WG l),show i-v.length=0 by lia]at b;cases b;rw[g]at e;cases e;exact hd
def Qo:ST:=λb q=>∃(c:Int)(a:xp),b=[.int c,Gp a]/\a.length<=100/\∀v:zI,PlD a v->q (.l1 (v.map dT))
def acg(T:Tx D):gT 2 GQ u5 Qo:=yB T.aeH abo (λt _=>bG (bT 2 (bJ (hE T) (bA vc (bA (bQ cI T.dH WJ (bA vt bC)) bC))))
  (bG (gR 3 (dg bC))
  (bG (dh (dO T.fB (bA (bQ cI T.dH WJ (bA vt bC)) bC)) (bZ (n:=99) 4)
  (bI (cC (b_ (z0 t.units) (bQ cI T.dH WJ (bA (bK vt vi) bC)) bF)
  (bI (rK 3 gq))
  (bI (rK 3 (bM cH (bK vn vi) (bQ cI T.dH WJ (bA (bK vt vi) bC))))))))
  (bI (iD 3)))))<|by
 rintro _ R ⟨c,a,rfl,g,q⟩;have dl:(a.map λu=>L2.T.lst (u.map bv)).length=a.length:=ak ..;refine⟨c,a.length,by rw[<- dl];rfl,by exact aL g vk,⟨by rw[dl];lia,by rw[dl];lia⟩,?_⟩;refine lA (λk o=>∃(v:zI)(x:OT),o=[.fz (.int c),.fz (Gp a),.fz (.lst ((iZ c a.length).map L2.T.int)),.l1 (v.map dT),x]/\v.length=k/\∀(i:Nat)(d:xL)(u:we),i<k->v[i]?=some d->a[i]?=some u->sU d u.length=true) ⟨[],.und,rfl,rfl,λi d u z=>absurd z (WZ _)⟩ ?_ ?_
 .rintro k _ b ⟨v,x,rfl,l,h⟩;have b:k<a.length:=by rw[dl]at b;lia
  have j:=aj b;have m:cv (a.map λu=>L2.T.lst (u.map bv)) (k:Nat)=some (.lst (a[k].map bv)):=c7 j;have p:(v.map dT).length<sizeLine:=by rw[ak];exact aR (show _<1000 by lia) vk
  have B:=sJ c k;refine⟨_,m,?_⟩;by_cases e:a[k].length=0
  .refine dA (Zs (by rw[ak];lia)) ⟨p,v++[none],.fz (.int (k:Nat)),by rw[bf];rfl,by simp[l],PlD.snoc h l j (Zs e)⟩
  .have f:(0:Int)<(a[k].map bv).length:=by rw[ak];lia
   refine cp (Zp (by rw[ak];lia)) ⟨_,iu (k:=k) b,_,m,f,p,?_⟩;have A:=Z3 (zX c k) (show((a[k].map bv).length:Int)≠0 by exact WS f);have y:=YY (zX c k) f;obtain⟨n,r⟩:=lZ A;refine⟨v++[some n],.fz (.int (k:Nat)),?_,by simp[l],PlD.snoc h l j (Zs ?_)⟩
   .rw[bf];show _=[_,_,_,OT.l1 (v.map dT++[L2.T.int (n:Nat)]),_];rw[<- r]
    rfl
   .rw[ak]at y r;lia
 .rintro _ ⟨v,x,rfl,l,h⟩;have l:v.length=a.length:=by rwa[l]
  exact q v ⟨l,λk d u s w=>h k d u (by rw[dl];have:=(ao.mp s).1;lia) s w⟩
def BJ(D:a'):ST:=λa q=>∃(s:Rat)(ns:Φ)(g:xj)(G:xy)(v:zI),a=[ci D s ns g,bz G,.lst (v.map dT)]/\HlZ ns g/\ik ns G/\PlT g v/\∀A:xt,XsB ns.length A->(∃S,gW ns.length (ck G) (cG g v) S (xG A))->q (.l1 (A.map aa))
def O5(T:Tx D):gT 10 uP kj (BJ D):=yB T.Ro Oe (λ_ _=>bG (bT 3 (bJ (O7 T) (bA vc (bA vt bC))))
  (bG (nq (bJ (Nr T) (bA vc (bA vn bC))))
  (bI (bR (bJ (Ir T) (bA vc (bA ve (bA vn bC))))))))<|by
 rintro _ R ⟨s,ns,g,G,v,rfl,h,l,e,q⟩;refine⟨s,ns,g,G,rfl,h.h,l,s,ns,g,v,rfl,h.h,e,s,ns,g,c4 ns.length G,v,rfl,h,JZ _ _,e,λS x d m=>?_⟩;have f:((range ns.length).map x).map aa=(range ns.length).map λi=>aa (x i):=by rw[WU];rfl
 have j:∀k,k<ns.length->((range ns.length).map x).getD k 0=x k:=λk a=>by rw[au,aq,VY a];rfl
 rw[<- f];refine q _ ⟨by rw[ak,WP],λr b=>?_,λr b=>?_,λr b=>?_⟩ ⟨S,(d.congr (h.cw _) λk a=>(j k a).symm).marks λk a=>Tj a⟩<;>obtain⟨i,c,rfl⟩:=YV.mp b
 .exact m i (List.mem_range.mp c)
 .exact d.nn (h.cw _) i (List.mem_range.mp c)
 .exact d.le1 (h.cw _) i (List.mem_range.mp c)
def UM{L:xo}(a:k<L.length)(i:Nat):mkG (L.set k true) i=(decide (i=k) || mkG L i):=by
 show(L.set k true).getD i false=(_ || L.getD i false);rw[au,au];by_cases e:i=k
 .rw[e,UY a,Zs rfl];rfl
 .rw[VS (λz=>e z.symm),Zp e];rfl
def Pw{U:Nat->Bool}{d:xy}(h:∀i,S i->U i=true)(e:dm S d):dm U d:=by
 obtain⟨r,a,s⟩:=List.any_eq_true.mp e;exact List.any_eq_true.mpr ⟨r,a,h r s⟩
structure HL(m:Nat)(G:xy)(W:Nat->xy)(L:xo):Prop where
 len:L.length=m
 base:∀k,k<m->ck G k=true->mkG L k=true
 least:∀A:Nat->Bool,(∀k,k<m->ck G k=true->A k=true)->(∀k,k<m->dm A (W k)=true->A k=true)->∀k,k<m->mkG L k=true->A k=true
def pV(m:Nat)(W:Nat->xy)(L:xo):Prop:=∀k,k<m->dm (mkG L) (W k)=true->mkG L k=true
def NrT(m:Nat)(G:xy)(W:Nat->xy)(t:Nat)(L:xo):Prop:=HL m G W L/\(pV m W L\/c_ (mkG L) m+t<=m)
structure NrJ(m:Nat)(G:xy)(W:Nat->xy)(L0:xo)(k:Nat)(L:xo):Prop where
 i:HL m G W L
 up:∀i,mkG L0 i->mkG L i=true
 done:∀i,i<k->dm (mkG L0) (W i)=true->mkG L i=true
section
variable{m k t:Nat}{G:xy}{W:Nat->xy}{L L0:xo}
def NrJ.no(h:NrJ m G W L0 k L)(n:dm (mkG L) (W k)=false):NrJ m G W L0 (k+1) L:=⟨h.i,h.up,λi a e=>by
 by_cases c:i=k
 .subst c;rw[Pw h.up e]at n;cases n
 .exact h.done i (XX (VT a) c) e⟩
def NrJ.yes(h:NrJ m G W L0 k L)(n:k<m)(l:∀r∈W k,r<m)(y:dm (mkG L) (W k)):NrJ m G W L0 (k+1) (L.set k true):=by
 have f:=UM (L:=L) (k:=k) (by rwa[h.i.len]);have u:∀i,mkG L i->mkG (L.set k true) i=true:=λi e=>by rw[f,e,Bool.or_true]
 refine⟨⟨by rw[WH,h.i.len],λi d g=>u i (h.i.base i d g),λA a b i d e=>?_⟩,λi e=>u i (h.up i e),λi d e=>?_⟩
 .rw[f]at e;by_cases c:i=k
  .subst c;obtain⟨r,j,s⟩:=List.any_eq_true.mp y;exact b i d (List.any_eq_true.mpr ⟨r,j,h.i.least A a b r (l r j) s⟩)
  .rw[Zp c,Bool.false_or]at e;exact h.i.least A a b i d e
 .by_cases c:i=k
  .rw[f,Zs c];rfl
  .exact u i (h.done i (XX (VT d) c) e)
def NrJ.turn(f:∀k,k<m->∀r∈W k,r<m)(j:NrJ m G W L0 m L)(h:NrT m G W t L0):NrT m G W (t+1) L:=by
 refine⟨j.i,?_⟩;by_cases c:pV m W L0
 .refine .inl λk a s=>?_;obtain⟨r,b,s⟩:=List.any_eq_true.mp s;exact j.up k (c k a (List.any_eq_true.mpr ⟨r,b,j.i.least (mkG L0) h.1.base c r (f k a r b) s⟩))
 .right;have d:c_ (mkG L0) m+t<=m:=h.2.resolve_left c;obtain⟨k,a,s,n⟩ : ∃k,k<m/\dm (mkG L0) (W k)/\mkG L0 k=false:=by
   refine Classical.byContradiction λz=>c λk a s=>?_;cases e:mkG L0 k with
   |true=>rfl
   |false=>exact absurd ⟨k,a,s,e⟩ z
  have:=XR n (j.done k a s) a λi _ e=>j.up i e;lia
theorem Gu(S:Nat->Bool):∀n,c_ S n<=n
 |0=>aG _
 |n+1=>by
  have:=Gu S n;show c_ S n+(if S n then 0 else 1)<=n+1;split<;>lia
theorem Fa{S:Nat->Bool} : ∀{n:Nat},c_ S n=0->∀k,k<n->S k=true
 |n+1,h,k,a=>by
  have h:c_ S n+(if S n then 0 else 1)=0:=h;cases e:S n with
  |true =>
   rw[e]at h;by_cases c:k=n
   .rw[c,e]
   .exact Fa (n:=n) h k (XX (VT a) c)
  |false=>rw[e]at h;simp at h
def NrT.fin(h:NrT m G W m L):Lfp false m (ck G) (λk=>[W k]) (mkG L):=by
 have c:pV m W L:=h.2.elim id λz k d _=>Fa (show c_ (mkG L) m=0 by lia) k d;have j:∀{k:Nat}{A:Nat->Bool},jn false [W k] A=true↔dm A (W k)=true:=λ{k A}=>by
  show(([W k] : vj).any (dm A))=true↔_;simp
 exact⟨h.1.base,λk d e=>c k d (j.mp e),λA a b=>h.1.least A a λk d e=>b k d (j.mpr e)⟩
def NrT.start:NrT m G W 0 (c4 m G):=⟨⟨JZ _ _,λk b g=>by rw[Tj b];exact g,λA a _ k b e=>a k b (by rw[<- Tj b];exact e)⟩,.inr (Gu _ _)⟩
end
abbrev b8(l:xz):L2.T:=.lst (l.map cr)
abbrev iP(tk:List xz)(k:Nat):xy:=(tk.getD k []).map (·.1)
def cN(k:Nat):PyData:=.int (k:Nat)
def jm:EqD bc cN:=⟨λ_=>rfl,λ_=>rfl,λ_=>aZ _,λx y=>by
 show decide ((x:Int)=(y:Int))=_;exact decide_eq_decide.mpr ⟨λz=>Int.ofNat.inj z,λz=>by rw[z]⟩⟩
def Yk : ((G.map cN).any λy=>PyData.eqv y (cN k))=ck G k:=by
 rw[UH];unfold ck;refine Bool.eq_iff_iff.mpr ⟨λz=>?_,λz=>?_⟩
 .obtain⟨y,a,e⟩:=List.any_eq_true.mp z;have e:PyData.eqv (cN y) (cN k):=e;rw[jm.eqv]at e;exact Zs (of_decide_eq_true e ▸ a)
 .exact List.any_eq_true.mpr ⟨k,of_decide_eq_true z,by show PyData.eqv (cN k) (cN k)=true;rw[jm.eqv];exact Zs rfl⟩
def nT(G:xy):bz G=dc (.list (G.map cN)):=ZH L2.T.lst (o9 jm.of G)
def afH{a:Bool}{q:OT->Prop}(h:q (.fz (.bl (xr a (ck G k))))):i8 a (bc k) (bz G) q:=⟨cN k,G.map cN,rfl,nT G,rfl,jm.lst G,by rwa[Yk]⟩
def aac:ST:=λb q=>∃(a:List xz)(G:xy),b=[.lst (a.map b8),bz G]/\a.length<=100/\(∀l∈a,l.length<=1000/\∀w∈l,w.1<a.length)/\∀L:xo,L.length=a.length->Lfp false a.length (ck G) (λk=>[iP a k]) (mkG L)->q (.l1 (L.map L2.T.bl))
def _t(T:Tx D):gT 1 Q0 Fx aac:=ya T.aki λ{f Y}F=>by
 refine F.okT af7 (λm _=>bG (gR 2 (cW (bH Kh) Tg ["_law_taken_here","_law_goals_here","_law_found","_law_turn","?_law_k"] ["_law_k"] (dO T.fB (bA (bQ cI T.dH WJ (bA vc bC)) bC)) (dZ (i:=0)) cA (mO (DB m.units) vc vn (hm:=by rfl))))
  (bG (dh (dO T.fB (bA (bQ cI T.dH WJ (bA vc bC)) bC)) (bZ (n:=99) 3)
  (bI (dh (dO T.fB (bA (bQ cI T.dH WJ (bA vc bC)) bC)) (bZ (n:=99) 4)
  (bI (cC (cM (bQ (YM rfl) T.afb boot_any (bA (cW (bH Kh) Tg Tg ["_law_room","_law_chance"] (cg (bK vc vi)) (eG (n:=2) (bN (dZ (i:=0)) (bN (dZ (i:=1)) cZ))) cA (vY 4 vc)) bC)))
  (bI (uE 2 gO vi))
  bV)))))
  (bI (iD 2)))) ?_
 rintro _ R ⟨a,G,rfl,C,p,q⟩;have g:(a.map b8).length=a.length:=ak ..;have u:∀k,k<(a.map b8).length->∀r∈iP a k,r<(a.map b8).length:=λk c r m=>by
  rw[g]at c ⊢;obtain⟨w,l,rfl⟩:=YV.mp m;rw[au,aj c]at l;exact(p _ (aU c)).2 w l
 refine⟨⟨by lia,by lia⟩,by rw[rng,ak,WP];exact aL (show _<=100 by lia) vk,JD (λk=>.bl (ck G k)) (a.map b8).length (λk c N M d=>show i8 false (bc k) (bz G) λy=>N (frz y)from afH d) ?_⟩;have I:(range (a.map b8).length).map (λk=>L2.T.bl (ck G k))=(c4 (a.map b8).length G).map L2.T.bl:=by unfold c4;rw[WU];rfl
 rw[I];refine⟨⟨by lia,by lia⟩,lA (n:=(a.map b8).length) (λt o=>∃L x y,o=[.fz (.lst (a.map b8)),.fz (bz G),.l1 (L.map L2.T.bl),x,y]/\NrT (a.map b8).length G (iP a) t L) ⟨_,_,_,rfl,NrT.start⟩ ?_ ?_⟩
 .rintro t _ O ⟨J,x,y,rfl,h⟩;refine⟨⟨by lia,by lia⟩,lA (n:=(a.map b8).length) (λk o=>∃L x y,o=[.fz (.lst (a.map b8)),.fz (bz G),.l1 (L.map L2.T.bl),x,y]/\NrJ (a.map b8).length G (iP a) J k L) ⟨_,_,_,rfl,h.1,λ_ z=>z,λi B=>absurd B (WZ _)⟩ ?_ ?_⟩
  .rintro k _ c ⟨L,x,y,rfl,j⟩;have s:k<a.length:=by exact aR c (WG g)
   have A:a[k]?=some a[k]:=aj s;obtain⟨H,E⟩:=p _ (aU s);have K:=j.i.len;refine⟨_,c7 A,by rw[ak];exact aL H vk,comp_map cr (λw=>.bl (mkG L w.1)) a[k] (λw l N M d=>⟨rfl,?_⟩) ⟨a[k].map λw=>mkG L w.1,by rw[WU];rfl,?_⟩⟩
   .have v:=aj (show w.1<L.length by have:=E w l;lia);refine⟨_,c7 v,?_⟩;have d:N (.bl (L.getD w.1 false)):=d;rw[au,v]at d;exact d
   .have e:((a[k].map λw=>mkG L w.1).any λb=>b)=dm (mkG L) (iP a k):=by
     show _=(((a.getD k []).map (·.1)).any (mkG L));rw[au,A,UH,UH]
     rfl
    show sw ((a[k].map λw=>mkG L w.1).any λb=>b) _ _;rw[e];refine fW (λy=>⟨k,?_,L.set k true,x,.fz (.int (k:Nat)),?_,j.yes c (u k c) y⟩) λn=>⟨_,_,_,rfl,j.no n⟩
    .rw[ak];exact zQ vw
    .rw[Th];rfl
  .rintro _ ⟨L,x,y,rfl,j⟩;exact⟨_,_,_,rfl,j.turn u h⟩
 .rintro _ ⟨L,x,y,rfl,h⟩;have f:=h.fin;rw[g]at f;exact q L (h.1.len.trans g) f
abbrev eQ(l:xz):xN:=l.map λx=>.inl (x.1:Nat)
abbrev fv(l:xz):xk:=l.map λx=>aa x.2
def K9{a b:Nat} : (Sum.inl (a:Int):bh)=.inl (b:Int)↔a=b:=⟨λz=>Int.ofNat.inj (Sum.inl.inj z),λz=>by rw[z]⟩
def VA(l:xz)(n:Nat):Ls (eQ l) (.inl (n:Nat))=l.any λx=>decide (x.1=n):=by
 unfold Ls;rw[UH]
 congr 1
 funext x
 exact decide_eq_decide.mpr K9
theorem EK(n:Nat):∀l:xz,pC (eQ l) (fv l) (.inl (n:Nat))=(l.find? λx=>decide (x.1=n)).map λx=>aa x.2
 |[]=>rfl
 |x::l=>by
  show(if(Sum.inl (x.1:Nat):bh)=.inl (n:Nat)then some (aa x.2)else pC (eQ l) (fv l) (.inl (n:Nat)))=_;by_cases h:x.1=n
  .rw[ZY (K9.mpr h),lM (p:=λx:Nat×Rat=>decide (x.1=n)) (Zs h)];rfl
  .rw[ZZ λz=>h (K9.mp z),lT (p:=λx:Nat×Rat=>decide (x.1=n)) (by show ¬decide (x.1=n)=true;rw[Zp h];decide),EK n l]
def Fi(l:xz)(n:Nat):Rat:=((l.find? λx=>decide (x.1=n)).map (·.2)).getD 0
def _'(l:xz)(n:Nat):((pC (eQ l) (fv l) (.inl (n:Nat))).getD (aa 0))=aa (Fi l n):=by
 rw[EK];unfold Fi;cases(l.find? λx=>decide (x.1=n))<;>rfl
def adZ(b:(l.map (·.1)).Nodup){x:Nat×Rat}(a:x∈l)(e:x.1=n):(l.find? λy=>decide (y.1=n))=some x:=by
 induction l with
 |nil=>cases a
 |cons y l f =>
  obtain⟨d,c⟩:=List.nodup_cons.mp b;rcases YU.mp a with rfl|z
  .exact lM (p:=λy:Nat×Rat=>decide (y.1=n)) (Zs e)
  .rw[lT (p:=λy:Nat×Rat=>decide (y.1=n)) (by show ¬decide (y.1=n)=true;rw[Zp λw=>d (YV.mpr ⟨x,z,e.trans w.symm⟩)];decide)];exact f c z
def Rs(l:xz)(p:Nat×Rat)(c:(l.map (·.1)).Nodup):eH (eQ l) (.inl (p.1:Nat))=eQ (o7 l p)/\dP (eQ l) (fv l) (.inl (p.1:Nat)) (aa (Fi l p.1+p.2))=fv (o7 l p):=by
 unfold eH dP o7;rw[VA];by_cases h:(l.any λx=>decide (x.1=p.1))=true
 .rw[ZY h,ZY h,ZY h];refine⟨by simp only[eQ,WU];refine UU λx _=>?_;show(Sum.inl (x.1:Nat):bh)=.inl ((if x.1=p.1 then(x.1,x.2+p.2)else x).1:Nat);split<;>rfl,?_⟩
  clear h
  rw[show fv (l.map λx=>if x.1=p.1 then(x.1,x.2+p.2)else x)=l.map ((λx=>aa x.2) ∘ λx=>if x.1=p.1 then(x.1,x.2+p.2)else x)from WU]
  suffices H:∀(a:xz),(∀x∈a,x.1=p.1->x.2=Fi l p.1)->zipWith (λ(k:bh)x=>if k=.inl (p.1:Nat)then aa (Fi l p.1+p.2)else x) (eQ a) (fv a)=a.map ((λx=>aa x.2) ∘ λx=>if x.1=p.1 then(x.1,x.2+p.2)else x)from H l λx b e=>by
   unfold Fi;rw[adZ c b e];rfl
  intro a
  induction a with
  |nil=>intro _;rfl
  |cons x a f =>
   intro H;show zipWith _ ((Sum.inl ((x.1:Nat):Int):bh)::eQ a) (aa x.2::fv a)=_;rw[zipWith_cons_cons,f λy g=>H y (aJ _ g),map_cons]
   congr 1
   by_cases e:x.1=p.1
   .rw[ZY (K9.mpr e)];show _=aa (if x.1=p.1 then(x.1,x.2+p.2)else x).2;rw[ZY e,H x (aO ..) e]
   .rw[ZZ λz=>e (K9.mp z)];show _=aa (if x.1=p.1 then(x.1,x.2+p.2)else x).2;rw[ZZ e]
 .rw[ZZ h,ZZ h,ZZ h];have d:Fi l p.1=0:=by
   unfold Fi;rw[List.find?_eq_none.mpr λx b z=>h (List.any_eq_true.mpr ⟨x,b,z⟩)];rfl
  rw[d,T2];simp only[eQ,fv,bf];exact⟨rfl,rfl⟩
def ab2(b a:xz):fZ (b++a)=a.foldl o7 (fZ b):=foldl_append ..
def adH(E:xz):((fZ E).map (·.1)).Nodup:=by
 suffices H:∀(E l:xz),(l.map (·.1)).Nodup->((E.foldl o7 l).map (·.1)).Nodup from H E [] .nil
 intro E
 induction E with
 |nil=>exact λ_ h=>h
 |cons p E a=>exact λl h=>a _ (EA h)
def PJ(E:xz):(fZ E).length<=E.length:=by
 suffices H:∀(E l:xz),(E.foldl o7 l).length<=l.length+E.length from by simpa[fZ]using H E []
 intro E
 induction E with
 |nil=>exact λ_=>aG _
 |cons p E a =>
  intro l;have b:(o7 l p).length<=l.length+1:=by
   unfold o7;split
   .rw[ak];exact Xs _
   .rw[aA,length_singleton];exact aG _
  have:=a (o7 l p);rw[foldl_cons,length_cons];lia
def NV{d:LD}(h:LDk m d){b g:xz}{a:Nat×Rat}(e:d.prs=b++a::g):((Fi (fZ b) a.1).den<=4000/\(Fi (fZ b) a.1).num.natAbs<=4000)/\a.2.den<=4000/\a.2.num.natAbs<=4000:=by
 obtain⟨q,o,G,k⟩:=h.all;have n:∀{r:Rat},0<=r->r<=1->r.den ∣ q->r.den<=4000/\r.num.natAbs<=4000:=λ{r}F D C=>by
  have:=UZ o C;have:r.num.natAbs<=1*r.den:=G6 (A:=1) (by show r<=((1:Nat):Rat);rwa[show((1:Nat):Rat)=1 from rfl]) (by show -((1:Nat):Rat)<=r;rw[show((1:Nat):Rat)=1 from rfl];grind);lia
 have t:=h.one;rw[<- Bo,e,KJ]at t;have c:∀l:xz,(∀w∈l,0<=w.2)->0<=dw l λ_=>1:=λl=>by
  induction l with
  |nil=>intro _;exact W1
  |cons y l v =>
   intro h;rw[dJ];have:=h y (aO ..);have:=v λw hw=>h w (aJ _ hw)
   grind
 have f:=h.nn;rw[e]at f k;have I:=c b λw hw=>f w (UR _ hw);have H:=c (a::g) λw hw=>f w (aP _ hw);have s:a∈b++a::g:=aP _ (aO ..);have J:=mC (l:=a::g) (λw hw=>f w (aP _ hw)) (aO ..);refine⟨?_,n (f a s) (by grind) (k a s).2.2⟩;have j:=Ho o (E:=b) λp z=>k p (UR _ z);unfold Fi;cases B:(fZ b).find? λx=>decide (x.1=a.1)with
 |none=>exact⟨US rfl,aZ _⟩
 |some y =>
  have i:=List.mem_of_find?_eq_some B;have u:=mC j.nn i;rw[j.sum]at u;exact n (j.nn y i) (by show y.2<=1;grind) (j.dn y i)
def Z1:ST:=λa q=>∃(d:LD)(m:Nat),a=[bv d]/\LDk m d/\q (.l1 ((nQ d.prs).map cr))
def _g(T:Tx D):gT 3 Uy E_ Z1:=yB T.akO Zl (λf _=>bG (gR 1 Jr)
  (bG (dh (cg (bK vc bF)) (eG (n:=2) (bN (bZ (n:=99) 2) (bN (bZ (n:=99) 3) cZ)))
  (bG (Qs (GL 1 (xK f) vn (d9 (bA bF (bA bF bC)))) (eG (n:=2) (bN (bZ (n:=99) 4) (bN (bZ (n:=99) 5) cZ))))
  (bI (Jw 1 (xK f) (bJ (lu T) (bA (bM cY (bM cJ vi (bK ve bF)) (bM cJ (bK ve bF) vF)) (bA (bM cJ vF (bK ve bF)) bC))) vn))))
  (bI (_E 1 (bH TY) FX ["_law_door_here","_law_found","?_law_room","?_law_chance","_law_top","_law_bottom"] ["_law_room","_law_chance"] (eG (n:=2) (bN (dZ (i:=0)) (bN (dZ (i:=1)) cZ))) (DK (b_ (nM f.units) (bK vt bF) bF)) (d9 (bA vc (bA vt bC)))))))<|by
 rintro _ R ⟨d,m,rfl,h,q⟩;have A:=h.few;refine eN cr d.prs (λc o=>∃x y u v,o=[.fz (bv d),.d1 (eQ (fZ c)) (fv (fZ c)),x,y,u,v]) ⟨_,_,_,_,rfl⟩ ?_ ?_
 .rintro c a L _ e ⟨x,y,u,v,rfl⟩;obtain⟨⟨j,g⟩,w,t⟩:=NV h e;have s:=(Fi (fZ c) a.1).den_pos;have ad:=a.2.den_pos;refine⟨rfl,_,rfl,?_⟩;dsimp only[frz];have I:=_' (fZ c) a.1;rw[show L2.T.tup [L2.T.int 0,L2.T.int 1]=aa 0 from rfl,I];generalize J:Fi (fZ c) a.1=r at j g s;have l:(0:Int)<((r.den:Nat):Int)*((a.2.den:Nat):Int):=XZ vw vw;refine⟨rfl,⟨eV (Y3 g vk),eV (by omega)⟩,⟨eV (Y3 t vk),eV (by omega)⟩,⟨eV (by omega),eV (by omega)⟩,_,_,rfl,l,eV ?_,_,rfl,?_,.fz (.int (a.1:Nat)),.fz (aa a.2),.fz (.int r.num),.fz (.int (r.den:Nat)),?_⟩
  .rw[VV,XT,XT];exact Y3 (VU j w) vk
  .have:=PJ c;have:c.length<=d.prs.length:=by rw[e];simp
   rw[ak];exact Y3 (show _<=4 by lia) vk
  .obtain⟨C,B⟩:=Rs (fZ c) a (adH c);have H:divInt (r.num*((a.2.den:Nat):Int)+a.2.num*((r.den:Nat):Int)) (((r.den:Nat):Int)*((a.2.den:Nat):Int))=Fi (fZ c) a.1+a.2:=by
    rw[J]
    conv=>rhs;rw[<- rd r,<- rd a.2]
    rw[QU _ _ vw vw]
   rw[show fZ (c++[a])=o7 (fZ c) a from by rw[ab2];rfl,<- C,<- B,<- H]
   rfl
 .rintro _ ⟨x,y,u,v,rfl⟩;have E:=PJ d.prs;refine⟨by rw[ak];exact aL (show _<=4 by exact aL E A) vk,?_⟩;have e:((eQ (fZ d.prs)).zip (fv (fZ d.prs))).map (λp=>L2.T.tup [kT p.1,p.2])=(fZ d.prs).map cr:=by
   rw[List.zip_map',WU];rfl
  dsimp only;rw[e];refine jy cr (λp=>!decide (p.2=0)) cr (fZ d.prs) (λp K N M F G=>⟨rfl,?_⟩) q;have k:decide (p.2.num=0)=decide (p.2=0):=decide_eq_decide.mpr ⟨λz=>Rat.num_eq_zero.mp z,λz=>by rw[z];rfl⟩;refine fW (λh=>F ?_) λh=>G ?_
  .rw[<- h];exact ZH (λb=>!b) k.symm
  .rw[<- h];exact ZH (λb=>!b) k.symm
def cf(a:xp):wE:=a.map λu=>u.map λd=>nQ d.prs
abbrev e_(W:wE):L2.T:=.lst (W.map λu=>.lst (u.map b8))
def H_:ST:=λc q=>∃(m b:Nat)(a:xp),c=[Gp a]/\DSk m b a/\m<=100/\b<=100/\q (.l1 ((cf a).map λu=>.lst (u.map b8)))
def Wm(T:Tx D):gT 4 Ab pH H_:=yB T.Ye U4 (λ_ _=>bI (bR (cW (bH rZ) qP qP ["_law_doors_here"] (cg vc) (dZ (i:=0)) cA (GY (bH rZ) ("_law_doors_here"::qP) ("_law_doors_here"::qP) ["_law_door_here"] (cg vc) (dZ (i:=0)) cA (bJ (_g T) (bA vc bC))))))<|by
 rintro _ R ⟨m,j,g,rfl,h,f,e,q⟩;have dl:=h.len;refine⟨by rw[ak];exact aL (show _<=100 by exact aL (WG dl) f) vk,comp_map (λu=>.lst (u.map bv)) (λu=>.lst ((u.map λd=>nQ d.prs).map b8)) g (λu c N M b=>⟨by rw[ak];exact aL (show _<=100 by have:=h.few u c;exact aL this e) vk,comp_map bv (λd=>b8 (nQ d.prs)) u (λd hd k l a=>⟨d,m,rfl,h.ok u c d hd,a⟩) (by rw[WU]at b;exact b)⟩) ?_⟩;unfold cf at q;rw[WU]at q;exact q
structure Rp(m:Nat)(l:xz):Prop where
 few:l.length<=4
 lt:∀w∈l,w.1<m
 b:∀w∈l,w.2.den<=4000/\w.2.num.natAbs<=4000
def XI{b n d x y:Int}(l:a.natAbs<=10^(44*k))(g:b.natAbs<=10^(44*k))(j:n.natAbs<=4000)(hd:d.natAbs<=4000)(i:x.natAbs<=10^39)(h:y.natAbs<=10^39):(d*y).natAbs<=10^43/\(n*x).natAbs<=10^43/\(a*(d*y)+n*x*b).natAbs<=10^(44*(k+1))/\(b*(d*y)).natAbs<=10^(44*(k+1)):=by
 have c:(d*y).natAbs<=4000*10^39:=by rw[VV];exact VU hd h
 have f:(n*x).natAbs<=4000*10^39:=by rw[VV];exact VU j i
 have e:10^(44*(k+1))=10^(44*k)*10^44:=by rw[mul_add,pow_add]
 refine⟨aL c vk,aL f vk,?_,?_⟩<;>rw[e]
 .refine aL (Int.natAbs_add_le ..) ?_;rw[VV a,VV (n*x)];have p:=VU l c;have o:=VU f g;rw[Nat.mul_comm (4000*10^39)]at o;have m:10^(44*k)*(4000*10^39+4000*10^39)<=10^(44*k)*10^44:=jT _ vk;rw[mul_add]at m;lia
 .rw[VV b];exact VU g (aL c vk)
def Ra:ST:=λc q=>∃(l:xz)(A:xt),c=[b8 l,.lst (A.map aa)]/\Rp A.length l/\(∀x∈A,FnB (10^39) x)/\∀a b:Int,0<b->a.natAbs<=10^176->b.natAbs<=10^176->divInt a b=dw l (xG A)->q (.fz (.tup [.int a,.int b]))
def Ee(T:Tx D):gT 1 JG Bt Ra:=yB T.ai5 _b (λ_ _=>bG (bT 2 bF)
  (bG (bT 3 bF)
  (bG (dh (cg vc) (eG (n:=2) (bN (bZ (n:=99) 4) (bN (bZ (n:=99) 5) cZ)))
  (bG (bT 6 (bM cJ (bK vF bF) (bK (bK vt vi) bF)))
  (bG (bT 2 (bM cY (bM cJ vn (qv 6)) (bM cJ (bM cJ (bK vF bF) (bK (bK vt vi) bF)) ve)))
  (bI (bT 3 (bM cJ ve (qv 6)))))))
  (bI (bR (d9 (bA vn (bA ve bC))))))))<|by
 rintro _ R ⟨l,A,rfl,h,E,q⟩;refine eN cr l (λf o=>∃(a b:Int)(x y z:OT),o=[.fz (b8 l),.fz (.lst (A.map aa)),.fz (.int a),.fz (.int b),x,y,z]/\0<b/\a.natAbs<=10^(44*f.length)/\b.natAbs<=10^(44*f.length)/\divInt a b=dw f (xG A)) ⟨0,1,_,_,_,rfl,by decide,by decide,by decide,rfl⟩ ?_ ?_
 .rintro f v M _ e ⟨a,b,x,y,z,rfl,s,m,g,u⟩;have k:v∈l:=by rw[e];exact aP _ (aO ..)
  have L:f.length+1<=4:=by have:=h.few;rw[e,aA,length_cons]at this;lia
  have j:=aj (h.lt v k);have gr:xG A v.1=A[v.1]'(h.lt v k):=by show A.getD v.1 0=_;rw[au,j];rfl
  generalize A[v.1]'(h.lt v k)=r at j gr;have p:=E r (aC j);obtain⟨I,w⟩:=h.b v k;obtain⟨C,H,G,F⟩:=XI (n:=v.2.num) (d:=((v.2.den:Nat):Int)) (x:=r.num) (y:=((r.den:Nat):Int)) m g w (by rwa[XT]) p.n (by rw[XT];exact p.d);have J:=v.2.den_pos;have K:=r.den_pos;have c:∀{i:Int},i.natAbs<=10^(44*f.length)->Bd i:=λt=>uK (n:=132) (aL t (XU vk vw)) vk;have B:(0:Int)<((v.2.den:Nat):Int)*((r.den:Nat):Int):=XZ vw vw;refine⟨rfl,_,c7 j,⟨eV vw,uK (n:=39) (by rw[XT];exact p.d) vk⟩,⟨c m,uK (n:=43) C vk⟩,_,c7 j,⟨eV (Y3 w vk),uK (n:=39) p.n vk⟩,⟨uK (n:=43) H vk,c g⟩,⟨c g,uK (n:=43) C vk⟩,_,_,_,_,_,rfl,XZ s B,?_,?_,?_⟩
  .rw[aA];exact G
  .rw[aA];exact F
  .rw[KJ,Y9,<- u,gr]
   conv=>rhs;rw[<- rd v.2,<- rd r]
   rw[Rat.divInt_mul_divInt,QU _ _ (WS s) (WS B)]
 .rintro _ ⟨a,b,x,y,z,rfl,s,m,g,u⟩;have c:∀{i:Int},i.natAbs<=10^(44*l.length)->i.natAbs<=10^176:=λt=>aL t (XU vk (by have:=h.few;lia));exact q a b s (c m) (c g) u
def Dj(W:wE)(v:zI)(k:Nat):xz:=match v.getD k none with
 |none=>[]
 |some d=>(W.getD k []).getD d []
def d2(W:wE)(v:zI)(n:Nat):List xz:=(range n).map (Dj W v)
structure iE(W:wE)(v:zI):Prop where
 few:W.length<=100
 len:v.length=W.length
 at_:∀k d,v[k]?=some (some d)->d<(W.getD k []).length
def VL:ST:=λa q=>∃(W:wE)(v:zI),a=[e_ W,.lst (v.map dT)]/\iE W v/\q (.l1 ((d2 W v W.length).map b8))
def _7(T:Tx D):gT 1 K_ zF VL:=yB T.ahe afC (λ_ _=>bG (gR 2 (dg bC))
  (bG (dh (dO T.fB (bA (bQ cI T.dH WJ (bA vc bC)) bC)) (bZ (n:=99) 3)
  (bI (cC (b_ yK (bK vt ve) gq)
  (bI (rK 2 (dg bC)))
  (bI (rK 2 (bK (bK vc ve) (bK vt ve)))))))
  (bI (iD 2))))<|by
 rintro _ R ⟨W,v,rfl,h,q⟩;have s:=h.few;have r:=h.len;have b:(W.map λu=>L2.T.lst (u.map b8)).length=W.length:=ak ..;refine⟨⟨by lia,by lia⟩,lA (n:=(W.map λu=>L2.T.lst (u.map b8)).length) (λk o=>∃x,o=[.fz (e_ W),.fz (.lst (v.map dT)),.l1 ((d2 W v k).map b8),x]) ⟨_,rfl⟩ ?_ ?_⟩
 .rintro k _ c ⟨x,rfl⟩;have a:=aj (show k<v.length by lia);have m:=aj (show k<W.length by exact aR c (WG b));have f:∀l,Dj W v k=l->(d2 W v (k+1)).map b8=(d2 W v k).map b8++[b8 l]:=λl e=>by
   unfold d2;rw[range_succ,bf,bf,<- e];rfl
  have g:((d2 W v k).map b8).length<sizeLine:=by
   unfold d2;rw[ak,ak,WP];exact Y3 (show _<=100 by lia) vk
  generalize hd:v[k]' vw=d at a;have j:v.getD k none=d:=by rw[au,a];rfl
  cases d with
  |none =>
   refine⟨_,c7 a,g,.fz (.int (k:Nat)),?_⟩;rw[f [] (by unfold Dj;rw[j])]
   rfl
  |some d =>
   have ld:=h.at_ k d a;have i:W.getD k []=W[k]'(aR c (WG b)):=by rw[au,m];rfl
   rw[i]at ld;have p:=aj ld;refine⟨_,c7 a,_,c7 m,_,c7 a,_,c7 p,g,.fz (.int (k:Nat)),?_⟩;rw[f ((W[k]'(aR c (WG b)))[d]) (by unfold Dj;rw[j,i];show(W[k]'_).getD d []=_;rw[au,p];rfl)]
   rfl
 .rintro _ ⟨x,rfl⟩;rwa[b]
structure kt(m:Nat)(G:xy)(tk:Nat->xz)(x:Nat->Rat):Prop where
 goal:∀k,k<m->ck G k=true->x k=1
 rest:∀S,Lfp false m (ck G) (λk=>[(tk k).map (·.1)]) S->∀k,k<m->ck G k=false->x k=if S k=true then dw (tk k) x else 0
def EZ{b:Int}{x:Rat}(c:0<b)(e:divInt a b=x):x.num*b=a*((x.den:Nat):Int):=by
 have d:=x.den_pos;have e:divInt a b=divInt x.num ((x.den:Nat):Int):=by rw[e,rd]
 have:=(QY (WS c) vw).mp e
 grind
def _i(W:wE)(v:zI)(n:Nat):(d2 W v n).length=n:=by unfold d2;rw[ak,WP]
def FC{W:wE}(h:k<n):(d2 W v n)[k]?=some (Dj W v k):=by unfold d2;rw[aq,VY h];rfl
def acI{W:wE}(b:∀u∈W,∀w∈u,Rp m w)(k:Nat):Rp m (Dj W v k):=by
 have nil:Rp m []:=⟨aZ _,λ_ z=>(nomatch z),λ_ z=>(nomatch z)⟩;unfold Dj;split
 .exact nil
 .rename_i d _
  rw[au (l:=W.getD k [])];cases e:(W.getD k [])[d]? with
  |none=>exact nil
  |some w =>
   rw[au]at e;cases a:W[k]? with
   |none=>rw[a]at e;cases e
   |some u=>rw[a]at e;exact b u (aC a) w (aC e)
def za:ST:=λa q=>∃(A:xt)(W:wE)(G:xy)(v:zI),a=[.lst (A.map aa),e_ W,bz G,.lst (v.map dT)]/\A.length=W.length/\(∀x∈A,FnB (10^39) x)/\iE W v/\(∀u∈W,∀w∈u,Rp W.length w)/\kt W.length G (Dj W v) (xG A)/\q (.fz (.bl true))
def X8(T:Tx D):gT 4 v9 ou za:=yB T.abb Zj (λE _=>bG (cC (dN (cM (bJ (SJ T) (bA vc (bA (bQ cI T.dH WJ (bA vt bC)) bC)))))
  (bI (bR gO))
  bV)
  (bG (bT 4 (bJ (_7 T) (bA vt (bA ve bC))))
  (bG (bT 5 (bJ (_t T) (bA vi (bA vn bC))))
  (bG (dh (dO T.fB (bA (bQ cI T.dH WJ (bA vt bC)) bC)) (bZ (n:=99) 6)
  (bG (bT 7 (d9 (bA bF (bA bF bC))))
  (bG (cC (b_ (DB E.units) (qv 6) vn (hm:=by rfl))
  (bI (bT 7 (d9 (bA bF (bA bF bC)))))
  (bI (cC (cM (bK vF (qv 6)))
  (bI (bT 7 (bJ (Ee T) (bA (bK vi (qv 6)) (bA vc bC)))))
  bV)))
  (bI (cC (b_ (nM E.units) (bM cJ (bK (bK vc (qv 6)) bF) (bK (qv 7) bF)) (bM cJ (bK (qv 7) bF) (bK (bK vc (qv 6)) bF)))
  (bI (bR gO))
  bV)))))
  (bI (bR gO))))))<|by
 rintro _ R ⟨A,W,G,v,rfl,B,C,I,N,M,q⟩;have i:=I.few;have O:((W.map λu=>L2.T.lst (u.map b8)).length:Int)=(W.length:Nat):=by rw[ak]
 have t:=_i W v W.length;have s:=λk=>acI (v:=v) N k;refine⟨A,W.length,ZH (λz=>[L2.T.lst (A.map aa),L2.T.int z]) O,B,by exact aL i vk,W,v,rfl,I,d2 W v W.length,G,rfl,by exact aL (WG t) i,λl F=>?_,λL P lf=>?_⟩
 .obtain⟨k,U,rfl⟩:=YV.mp F;rw[t];exact⟨aL (s k).few vk,(s k).lt⟩
 rw[t]at P lf;have lf:Lfp false W.length (ck G) (λk=>[(Dj W v k).map (·.1)]) (mkG L):=lf.ld λk c=>by
  show[((d2 W v W.length).getD k []).map (·.1)]=_;rw[au,FC c];rfl
 refine⟨⟨by lia,by lia⟩,lA (n:=(W.map λu=>L2.T.lst (u.map b8)).length) (λ_ o=>∃x y,o=[.fz (.lst (A.map aa)),.fz (e_ W),.fz (bz G),.fz (.lst (v.map dT)),.fz (.lst ((d2 W v W.length).map b8)),.fz (dV L),x,y]) ⟨_,_,rfl⟩ ?_ ?_⟩
 .rintro k _ c ⟨x,y,rfl⟩;have c:k<W.length:=by lia
  have j:=aj (show k<A.length by lia);have gr:xG A k=A[k]' vw:=by show A.getD k 0=_;rw[au,j];rfl
  generalize A[k]' vw=r at j gr;have J:=C r (aC j);refine IF (λo=>∃a b:Int,0<b/\a.natAbs<=10^176/\b.natAbs<=10^176/\divInt a b=r/\o=[.fz (.lst (A.map aa)),.fz (e_ W),.fz (bz G),.fz (.lst (v.map dT)),.fz (.lst ((d2 W v W.length).map b8)),.fz (dV L),.fz (.int (k:Nat)),.fz (.tup [.int a,.int b])]) ?_ λY Q=>?_
  .rintro _ ⟨a,b,m,h,g,e,rfl⟩;refine⟨_,c7 j,⟨uK (n:=39) J.n vk,uK (n:=176) g vk⟩,_,c7 j,⟨uK (n:=176) h vk,uK (n:=39) (by rw[XT];exact J.d) vk⟩,cp ?_ ⟨_,_,rfl⟩⟩;rw[EZ m e,Zs rfl];rfl
  .have w:∀a b:Int,0<b->a.natAbs<=10^176->b.natAbs<=10^176->divInt a b=r->Y [.fz (.lst (A.map aa)),.fz (e_ W),.fz (bz G),.fz (.lst (v.map dT)),.fz (.lst ((d2 W v W.length).map b8)),.fz (dV L),.fz (.int (k:Nat)),.fz (.tup [.int a,.int b])]:=λa b m h g e=>Q _ ⟨a,b,m,h,g,e,rfl⟩;refine⟨cN k,G.map cN,rfl,nT G,rfl,jm.lst G,?_⟩;rw[Yk];have f:=M.rest _ lf k c;rw[gr]at f;have p:=aj (show k<L.length by lia);have H:mkG L k=L[k]' vw:=by show L.getD k false=_;rw[au,p];rfl
   generalize L[k]' vw=S at p H;rw[H]at f;cases K:ck G k with
   |true=>exact w 1 1 vk vk vk (by have:=M.goal k c K;rw[gr]at this;rw[this];rfl)
   |false =>
    have f:=f K;cases S with
    |true=>exact⟨_,c7 p,_,c7 (FC c),Dj W v k,A,rfl,by rw[B];exact s k,C,λa b m h g e=>w a b m h g (by rw[e,f];rfl)⟩
    |false=>exact⟨_,c7 p,w 0 1 vk vk vk (by rw[f];rfl)⟩
 .rintro _ ⟨x,y,rfl⟩;exact q
structure hJ(ae:xp)(v:zI):Prop where
 len:v.length=ae.length
 ok:∀(k:Nat)d u,v[k]?=some d->ae[k]?=some u->sU d u.length=true
def frD(r:Rat):PyData:=.tuple [.int r.num,.int (r.den:Nat)]
def hU(p:Nat×Rat):PyData:=.tuple [.int (p.1:Nat),frD p.2]
def eX(d:LD):PyData:=.tuple [.int (d.sort:Nat),frD d.pay,.list (d.prs.map hU)]
def PH(d:LD):bv d=dc (eX d):=by
 show L2.T.tup [_,_,.lst (d.prs.map cr)]=L2.T.tup [_,_,.lst (WQ (d.prs.map hU))];rw[<- o9 (h:=cr) (g:=hU) (λ_=>rfl)]
 rfl
def VI(d:LD):PyData.canLay0 (eX d):=by
 have:=pK (g:=hU) (λ_=>rfl) d.prs;show(true&&(true&&(PyData.canLayAll0 (d.prs.map hU)&&true)))=true;rw[this];rfl
def RH(d:LD):PyData.depth (eX d)<=60:=by
 have:=qI (g:=hU) (n:=5) (λ_=>US rfl) d.prs;simp only[eX,frD,PyData.depth,PyData.depthAll];lia
def oS(u:we):L2.T.lst (u.map bv)=dc (.list (u.map eX)):=ZH L2.T.lst (o9 PH u)
def Zh(u:we):SeqAt.shaped (.list (u.map eX)):=by
 have b:PyData.canLay0 (.list (u.map eX)):=by unfold PyData.canLay0;exact pK VI u
 have a:PyData.depth (.list (u.map eX))<=64:=by unfold PyData.depth;have:=qI RH u;lia
 unfold SeqAt.shaped;rw[b,Zs a];rfl
def RK(u:we):PyData.eqv (.list (u.map eX)) (.list [])=decide (u.length=0):=by cases u<;>rfl
def W6:ST:=λb q=>∃(v:zI)(a:xp),b=[.lst (v.map dT),Gp a]/\hJ a v/\q (.fz (.bl true))
def _z(T:Tx D):gT 2 R9 Dq W6:=yB T.aj1 _d (λb _=>bG (cC (QW.qt (iz (dN (cM (n8 .list vc T.dI T.wM boot_list))) (gA (b_ (nM b.units) (bQ cI T.dH WJ (bA vc bC)) (bQ cI T.dH WJ (bA vt bC))))))
  (bI (bR gO))
  bV)
  (bG (dh (Hs T.Km (bA vc (bA vt bC))) (eG (n:=2) (bN (bZ (n:=99) 2) (bN (bZ (n:=99) 3) cZ)))
  (bG (cC (QW.qt (Gr (b_ (z0 b.units) ve (dg bC)) (Bh (b_ Gh vn gq))))
  (bI (bR gO))
  bV)
  (bI (cC (QW.qt (Gr (b_ (nM b.units) ve (dg bC)) (Bh (QW.qt (iz (dN (cM (bJ (pd T) (bA vn bC)))) (iz (b_ Ey vn bF) (gA (b_ pj vn (bQ cI T.dH WJ (bA ve bC))))))))))
  (bI (bR gO))
  bV))))
  (bI (bR gO))))<|by
 rintro _ R ⟨v,a,rfl,h,q⟩;have i:((v.map dT).length:Int)=((a.map λu=>L2.T.lst (u.map bv)).length:Nat):=by rw[ak,ak,h.len]
 refine cp (by rw[i,Zs rfl];rfl) ?_;show uW _ _ _ (Fj (v.map dT) (a.map λu=>L2.T.lst (u.map bv))) _;rw[DW];refine eN (λp:Option Nat×we=>L2.T.tup [dT p.1,.lst (p.2.map bv)]) (v.zip a) (λ_ o=>∃x y,o=[.fz (.lst (v.map dT)),.fz (Gp a),x,y]) ⟨_,_,rfl⟩ ?_ ?_
 .rintro k ⟨d,u⟩ l _ e ⟨x,y,rfl⟩;have g:sU d u.length:=by
   have f:(v.zip a)[k.length]?=some (d,u):=by rw[e,aD (aG _),Nat.sub_self];rfl
   rw[List.getElem?_zip_eq_some]at f;exact h.ok _ d u f.1 f.2
  refine⟨rfl,.list (u.map eX),.list [],oS u,rfl,Zh u,rfl,?_⟩;rw[RK];cases d with
  |none =>
   have c:u.length=0:=of_decide_eq_true g;rw[Zs c];refine⟨.list (u.map eX),.list [],oS u,rfl,Zh u,rfl,?_⟩;rw[RK,Zs c];exact⟨_,_,rfl⟩
  |some j =>
   have c:j<u.length:=of_decide_eq_true g;rw[Zp (show ¬u.length=0 by lia)];refine⟨.list (u.map eX),.list [],oS u,rfl,Zh u,rfl,?_⟩;rw[RK,Zp (show ¬u.length=0 by lia)];exact⟨_,rfl,cp (Zp (show ¬(((u.map bv).length:Int)<=(j:Int))by rw[ak];lia)) ⟨_,_,rfl⟩⟩
 .rintro _ ⟨x,y,rfl⟩;exact q
def aai:ST:=λb q=>∃(p:eh)(a:xp)(W:wE)(G:xy),b=[eF p,Gp a,e_ W,bz G]/\hJ a p.1/\p.2.length=W.length/\(∀x∈p.2,FnB (10^39) x)/\iE W p.1/\(∀u∈W,∀w∈u,Rp W.length w)/\kt W.length G (Dj W p.1) (xG p.2)/\q (.fz (.bl true))
def _G(T:Tx D):gT 5 Ux FP aai:=yB T.akv af3 (λa _=>bG (cC (QW.qt (iz (dN (cM (n8 .tuple vc T.dI T.Rj boot_tuple))) (iz (b_ (nM a.units) (bQ cI T.dH WJ (bA vc bC)) bF) (gA (dN (cM (bJ (_z T) (bA (bK vc bF) (bA vt bC)))))))))
  (bI (bR gO))
  bV)
  (bI (bR (bJ (X8 T) (bA (bK vc bF) (bA vn (bA ve (bA (bK vc bF) bC))))))))<|by
 rintro _ R ⟨p,h,W,G,rfl,g,f,e,d,c,b,q⟩;exact⟨p.1,h,rfl,g,p.2,W,G,p.1,rfl,f,e,d,c,b,q⟩
structure u4(ae:xp)(W:wE)(G:xy)(p:eh):Prop where
 pl:hJ ae p.1
 len:p.2.length=W.length
 fn:∀x∈p.2,FnB (10^39) x
 ft:iE W p.1
 wb:∀u∈W,∀w∈u,Rp W.length w
 ch:kt W.length G (Dj W p.1) (xG p.2)
 ld:ae.length=W.length
 up:∀k,k<W.length->ck G k=false->∀w∈W.getD k [],dw w (xG p.2)<=xG p.2 k
def SB{b:Int}{y:Rat}(c:0<b)(e:divInt a b=y)(h:y<=r):a*((r.den:Nat):Int)<=r.num*b:=by
 have e:=EZ c e;have h:=(le_iff _ _).mp h;have d:=y.den_pos;refine Int.le_of_mul_le_mul_right (a:=((y.den:Nat):Int)) ?_ vw;have g:=Int.mul_le_mul_of_nonneg_right h (XY c);have f:a*((r.den:Nat):Int)*((y.den:Nat):Int)=y.num*((r.den:Nat):Int)*b:=by
  rw[show a*((r.den:Nat):Int)*((y.den:Nat):Int)=(a*((y.den:Nat):Int))*((r.den:Nat):Int)by grind,<- e];grind
 rw[f]
 grind
def Xe:ST:=λb q=>∃(p:eh)(a:xp)(W:wE)(G:xy),b=[eF p,Gp a,e_ W,bz G]/\u4 a W G p/\q (.fz (.bl true))
def ph(T:Tx D):gT 6 JT xU Xe:=yB T.afL acy (λA _=>bG (cC (dN (cM (bJ (_G T) (bA vc (bA vt (bA vn (bA ve bC)))))))
  (bI (bR gO))
  bV)
  (bG (bT 4 (bK vc bF))
  (bG (dh (dO T.fB (bA (bQ cI T.dH WJ (bA vt bC)) bC)) (bZ (n:=99) 5)
  (bI (dh (cg (bK vn vF)) (bZ (n:=99) 6)
  (bG (Qs (bJ (Ee T) (bA (qv 6) (bA vi bC))) (eG (n:=2) (bN (bZ (n:=99) 7) (bN (bZ (n:=99) 8) cZ))))
  (bI (cC (QW.qt (Gr (b_ (RQ A.units) vF ve (hm:=by rfl)) (Bh (b_ HY (bM cJ (qv 7) (bK (bK vi vF) bF)) (bM cJ (bK (bK vi vF) bF) (qv 8))))))
  (bI (bR gO))
  bV))))))
  (bI (bR gO)))))<|by
 rintro _ R ⟨p,i,W,G,rfl,h,q⟩;refine⟨p,i,W,G,rfl,h.pl,h.len,h.fn,h.ft,h.wb,h.ch,?_⟩;have E:=h.ft.few;have w:(i.map λu=>L2.T.lst (u.map bv)).length=W.length:=by rw[ak,h.ld]
 refine⟨⟨by lia,by omega⟩,lA (n:=(i.map λu=>L2.T.lst (u.map bv)).length) (λ_ o=>∃x y z c,o=[.fz (eF p),.fz (Gp i),.fz (e_ W),.fz (bz G),.fz (.lst (p.2.map aa)),x,y,z,c]) ⟨_,_,_,_,rfl⟩ ?_ ?_⟩
 .rintro k _ f ⟨x,y,z,c,rfl⟩;have f:k<W.length:=by exact aR f (WG w)
  have s:=aj f;have g:=aj (show k<p.2.length by rwa[h.len]);have gr:xG p.2 k=p.2[k]'(by rwa[h.len]):=by show p.2.getD k 0=_;rw[au,g];rfl
  have j:=h.up k f;rw[gr,au,s]at j;have t:=h.wb _ (aU f);generalize p.2[k]'(by rwa[h.len])=r at g gr j;have m:=h.fn r (aC g);refine⟨_,c7 s,eN b8 W[k] (λ_ o=>∃y z c,o=[.fz (eF p),.fz (Gp i),.fz (e_ W),.fz (bz G),.fz (.lst (p.2.map aa)),.fz (.int (k:Nat)),y,z,c]) ⟨_,_,_,rfl⟩ ?_ ?_⟩
  .rintro K v J _ e ⟨y,z,c,rfl⟩;have l:v∈W[k]:=by rw[e];exact aP _ (aO ..)
   refine⟨v,p.2,rfl,by rw[h.len];exact t v l,h.fn,λa b I C B F=>⟨rfl,cN k,G.map cN,rfl,nT G,rfl,jm.lst G,?_⟩⟩;rw[Yk];cases H:ck G k with
   |true=>exact⟨_,_,_,rfl⟩
   |false =>
    refine⟨_,c7 g,⟨uK (n:=176) C vk,uK (n:=39) (by rw[XT];exact m.d) vk⟩,_,c7 g,⟨uK (n:=39) m.n vk,uK (n:=176) B vk⟩,cp (Zp ?_) ⟨_,_,_,rfl⟩⟩;have:=SB I F (j H v l);exact Int.not_lt_of_ge this
  .rintro _ ⟨y,z,c,rfl⟩;exact⟨_,_,_,_,rfl⟩
 .rintro _ ⟨x,y,z,c,rfl⟩;exact q
def G'{a:xp}{g:xj}(b:Ia a g)(k d:Nat):∃t:Str,(g.getD k [])[d]?=((a.getD k [])[d]?).map (kM t):=by
 by_cases h:k<a.length
 .have e:=aj h;have c:=aj (show k<g.length by rwa[b.len]);obtain⟨f,l,i⟩:=b.at_ k _ _ e c;rw[au,au,e,c];show ∃t,(g[k]'(by rwa[b.len]))[d]?=(a[k][d]?).map (kM t);rw[i,aq];by_cases hd:d<a[k].length
  .refine⟨f[d]' vw,?_⟩;rw[aj (show d<(f.zip a[k]).length by rw[VZ];lia),aj hd,JP]
   rfl
  .exact⟨⟨#[]⟩,by rw[aM (show(f.zip a[k]).length<=d by rw[VZ];lia),aM (show a[k].length<=d by exact VW hd)];rfl⟩
 .have e:a[k]?=none:=aM (VW h);have c:g[k]?=none:=aM (by rw[b.len];exact VW h);exact⟨⟨#[]⟩,by rw[au,au,e,c];rfl⟩
def Lfp.jn_{e:Bool}{mk:Nat->Bool}{ld d:Nat->vj}(h:Lfp e m mk ld S)(f:∀k,k<m->∀A,jn e (ld k) A=jn e (d k) A):Lfp e m mk d S:=⟨h.base,λk c j=>h.step k c (by rwa[f k c]),λA a b=>h.least A a λk c j=>b k c (by rwa[<- f k c])⟩
def NO(c:wq)(A:Nat->Bool):jn false (dG c) A=jn false [(vm c).map (·.1)] A:=by cases c<;>rfl
def Eg{c:Nat->wq}{x:Nat->Rat}(h:gW m (ck G) c S x){b:Nat->xz}(e:∀k,k<m->b k=vm (c k)):kt m G b x:=⟨h.goal,λU l k a g=>by
 have l:Lfp false m (ck G) (λk=>[(vm (c k)).map (·.1)]) U:=l.ld λk a=>by rw[e k a]
 have d:=Zk (h.lf.jn_ λk a A=>NO (c k) A) l a;rw[<- d,e k a];cases s:S k with
 |true=>rw[ZY rfl];exact h.mean k a g s
 |false=>rw[ZZ vk];exact h.no k a s⟩
def pk(a:xp)(k:Nat):(cf a).getD k []=(a.getD k []).map λd=>nQ d.prs:=by
 unfold cf;rw[au,au,aq];cases a[k]?<;>rfl
def W8{a:xp}{g:xj}(h:Ia a g)(f:PlT g v)(i:k<g.length):Dj (cf a) v k=vm (cG g v k):=by
 have b:=aj i;obtain⟨d,e,Y⟩:=f.room b;rw[uT e b];unfold Dj;rw[show v.getD k none=d by rw[au,e];rfl];cases d with
 |none=>rfl
 |some j =>
  obtain⟨t,c⟩:=G' h k j;show((cf a).getD k []).getD j []=vm (g[k][j]?);rw[show g.getD k []=g[k]by rw[au,b];rfl]at c;rw[c,pk,au,aq];cases(a.getD k [])[j]?<;>rfl
def Hb{a:xp}{g:xj}(b:Ia a g){u:we}{os:wo}(d:a[k]?=some u)(c:g[k]?=some os):os.length=u.length:=by
 obtain⟨e,l,rfl⟩:=b.at_ k u os d c;rw[ak,VZ,l,VQ]
def Wl{f:xp}{g:xj}(a:Ia f g)(b:PlT g v):hJ f v:=⟨b.len.trans a.len,λk d u h e=>by
 have c:=aj (show k<g.length by rw[a.len];exact(ao.mp e).1);have:=b.ok k d _ h c;rwa[Hb a e c]at this⟩
def XD{b:xp}{g:xj}(a:Ia b g)(c:hJ b v):PlT g v:=⟨c.len.trans a.len.symm,λk d os h e=>by
 have f:=aj (show k<b.length by rw[<- a.len];exact(ao.mp e).1);rw[Hb a f e];exact c.ok k d _ h f⟩
def E7{f:Nat}{a:xp}(hd:DSk m f a)(g:m<=100)(b:hJ a v):iE (cf a) v:=by
 have lw:(cf a).length=a.length:=by unfold cf;rw[ak]
 refine⟨by rw[lw,hd.len];exact g,b.len.trans lw.symm,λk d c=>?_⟩;have h:k<a.length:=by rw[<- b.len];exact(ao.mp c).1
 have e:=aj h;have:=b.ok k _ _ c e;rw[pk,ak,au,e];exact of_decide_eq_true this
def Da{g:Nat}{b:xp}(hd:DSk m g b):∀u∈cf b,∀w∈u,Rp (cf b).length w:=λu n w h=>by
 obtain⟨s,l,rfl⟩:=YV.mp n;obtain⟨d,k,rfl⟩:=YV.mp h;have lw:(cf b).length=m:=by unfold cf;rw[ak,hd.len]
 have c:=hd.ok s l d k;obtain⟨q,e,t,i⟩:=c.all;have j:=SQ e i;have r:=j.few;have o:=c.few;refine⟨by exact aL r o,λp a=>by rw[lw];exact j.lt p a,λp a=>?_⟩;have dl:=UZ e (j.dn p a);have f:=mC j.nn a;rw[j.sum,Bo,c.one]at f;have v:=j.nn p a;have:p.2.num.natAbs<=1*p.2.den:=G6 (A:=1) (by show p.2<=((1:Nat):Rat);rw[show((1:Nat):Rat)=1 from rfl];exact f) (by show -((1:Nat):Rat)<=p.2;rw[show((1:Nat):Rat)=1 from rfl];grind);lia
def Zw{a:xp}(h:PlD a v):hJ a v:=⟨h.len,h.ok⟩
structure og(m:Nat)(ae:xp)(Q:Φ)(g:xj):Prop where
 m8:m<=8
 hd:DSk m 3 ae
 ho:Ia ae g
 ln:Q.length=m
 z:HlZ Q g
def pc{e:xp}{g:xj}(d:og m e Q g){p:eh}(b:iF false Q g G p):u4 e (cf e) G p:=by
 have lw:(cf e).length=Q.length:=by unfold cf;rw[ak,d.hd.len,d.ln]
 have s:=d.z.h.len;have o:=d.m8;have i:=Wl d.ho b.pl;obtain⟨S,c⟩:=b.ch;refine⟨i,b.xs.len.trans lw.symm,b.xs.fn,E7 d.hd (aL o vk) i,Da d.hd,?_,by rw[lw,d.hd.len,d.ln],λk f a w l=>?_⟩
 .rw[lw];exact Eg c λk f=>W8 d.ho b.pl vw
 .rw[lw]at f;rw[pk]at l;obtain⟨x,q,rfl⟩:=YV.mp l;obtain⟨j,r⟩:=aV q;obtain⟨t,n⟩:=G' d.ho k j;rw[r]at n;exact Rat.not_lt.mp (b.best.ok k f a _ (aC n))
structure l4(X:Cx)(C:Stmt)(r:RS):Prop where
 out:QS X C r
structure kL(X:Cx)(ss:xA)(r:RS):Prop where
 out:ef X ss r
def j6{C:Stmt}{r:RS}(h:QS X C r):l4 X C r:=⟨h⟩
def adY{C:Stmt}{a:RS}(h:l4 X C a):kL X [C] a:=⟨bI h.out⟩
def eU{C:Stmt}{c:xA}{a b:RS}(e:l4 X C a)(d:kL X c b):kL X (C::c) (kY a b):=⟨bG e.out d.out⟩
def af8{e:Expr}{b:RE}{a:Pos}(i:Nat){j:Pos}(h:X.N.Nodup)(c:e7 X.env.scope x)(g:eg X e b)(d:X.N[i]?=some x:=by rfl)(I:swapsWith e (some (.Name x j)) a.line X.env=pure false:=by rfl)(f:zd X x:=by first|exact .inl rfl|exact .inr rfl|assumption):l4 X (.Assign [.Name x j] e a) (oa i b):=⟨bT (i:=i) (hN:=h) (hx:=c) (he:=g.out) (hi:=d) (hs:=I) (hf:=f)⟩
def UD{a b:Expr}{e d:RE}{c:Pos}(g:eg X a e)(f:eg X b d)(I:oO b:=by exact λ_ _=>rfl):eg X (.Subscript a b c) (fi nf e d):=⟨bK g.out f.out I⟩
def FK{g:xj}(h:HlZ ns g)(f:PlT g v):HC ns.length (i9 g) (cG g v):=by
 have n:=h.h.len;refine⟨λk i o e=>?_,λk i a=>?_⟩
 .obtain⟨u,b,m⟩:=Kw e;show o∈g.getD k [];rwa[au,b]
 .have b:=aj (show k<g.length by lia);obtain⟨d,l,Y⟩:=f.room b;have a:g[k]≠[]:=by
   have a:g.getD k []≠[]:=a;rw[au,b]at a;exact a
  obtain⟨j,rfl,c⟩:=xW Y λz=>a (List.length_eq_zero_iff.mp z);exact⟨g[k][j],by rw[uT l b];exact aj c⟩
def Kl:EqD aa frD:=⟨λ_=>rfl,λ_=>rfl,λ_=>US rfl,λx y=>by
 unfold frD;rw[oC,<- decide_and];exact decide_eq_decide.mpr ⟨λz=>Rat.ext z.1 (by have:=z.2;lia),λz=>by rw[z];exact⟨rfl,rfl⟩⟩⟩
def ZI{d:Type}{R:O->L2.T->Prop}{g:d->L2.T}{Q:O->d->Prop}(o:∀a t,R a t->∃b,t=g b/\Q a b){l:List O}{f:List L2.T}(h:i' R l f):∃c:List d,f=c.map g/\c.length=l.length/\∀(j:Nat)a b,l[j]?=some a->c[j]?=some b->Q a b:=by
 induction h with
 |nil=>exact⟨[],rfl,rfl,λj a b e=>by cases e⟩
 |cons r _ n =>
  obtain⟨c,e,l,q⟩:=n;obtain⟨b,rfl,m⟩:=o _ _ r;refine⟨b::c,by rw[e];rfl,by rw[length_cons,length_cons,l],λj a p k i=>?_⟩;cases j with
  |zero=>cases k;cases i;exact m
  |succ j=>exact q j a p (by simpa using k) (by simpa using i)
def Wr{K:Frag}{F:Hp}{x:V}{b:Int}(h:Rep K F x (.tup [.int a,.int b])):∃q,x=.ref q/\SqT K F q [.int a,.int b]:=by
 obtain⟨q,A,rfl,s,r⟩:=h.tupI;refine⟨q,rfl,?_⟩;cases r with
 |cons a r=>cases r with
  |cons b r =>
   cases r;cases a;cases b;exact s
def SZ(c:Int):∃s:Rat,HA s/\cv [L2.T.tup [.int 1,.int 2],.tup [.int 0,.int 1],.tup [.int 2,.int 3],.tup [.int 99,.int 100]] (c%4)=some (aa s):=by
 rcases(show c%4=0\/c%4=1\/c%4=2\/c%4=3 by lia)with z|z|z|z<;>rw[z]
 .exact⟨mkRat 1 2,⟨by decide,by decide,by decide⟩,rfl⟩
 .exact⟨0,⟨by decide,by decide,by decide⟩,rfl⟩
 .exact⟨mkRat 2 3,⟨by decide,by decide,by decide⟩,rfl⟩
 .exact⟨mkRat 99 100,⟨by decide,by decide,by decide⟩,rfl⟩
def Mp{O:Type}[DecidableEq O]{h:O->L2.T}{g:O->PyData}(E:EqD h g)(A:List O):PyData.eqv (.list (A.map g)) (.list (A.map g)):=by
 unfold PyData.eqv;rw[Lg E.eqv,Zs rfl]
abbrev p0(A:xt):L2.T:=.lst (A.map aa)
abbrev iS(p:zI):L2.T:=.lst (p.map dT)
noncomputable def i4(D:a')(ns:xi)(s:Rat)(b:xp)(Q:Φ)(g:xj)(a g1:xy)(E:List zI)(c d v i j h e f:OT):xf:=[.fz (hQ ns),.fz (Gp b),.fz (e_ (cf b)),.fz (aa s),.fz (ci D s Q g),.fz (.lst [bz a,bz g1]),.fz (.lst (E.map iS)),.fz (.lst [bz a,bz g1]),c,d,v,i,j,h,e,f]
structure NJ(m:Nat)(ae:xp)(Q:Φ)(g:xj)(g0 g1:xy)(E:List zI):Prop where
 d:og m ae Q g
 l0:g0.length<=9
 hg0:ik Q g0
 hg1:ik Q g1
 lp:E.length<=64
 hp:∀p∈E,PlD ae p
def Mm{a:xp}{g:xj}(d:og m a Q g)(e:PlD a v)(b:XsB Q.length A)(i:∃S,gW Q.length (ck G) (cG g v) S (xG A)):A.length=(cf a).length/\(∀x∈A,FnB (10^39) x)/\iE (cf a) v/\(∀u∈cf a,∀w∈u,Rp (cf a).length w)/\kt (cf a).length G (Dj (cf a) v) (xG A):=by
 have lw:(cf a).length=Q.length:=by unfold cf;rw[ak,d.hd.len,d.ln]
 obtain⟨S,c⟩:=i;have f:=d.m8;refine⟨b.len.trans lw.symm,b.fn,E7 d.hd (aL f vk) (Zw e),Da d.hd,?_⟩;rw[lw];exact Eg c λk j=>W8 d.ho (XD d.ho (Zw e)) (by have:=d.z.h.len;lia)
def tT{g:xj}(z:HlZ Q g):∀k,k<Q.length->∀o∈i9 g k,WyO Q.length o:=λk d o a=>by
 have c:=z.h.len;have b:=aj (show k<g.length by lia);have a:o∈g.getD k []:=a;rw[au,b]at a;exact(z.z _ (aU _) o a).wy
def Qn(h:k<A.length):A[k]?=some (xG A k):=by
 show _=some (A.getD k 0);rw[au,aj h];rfl
def SC(a g1:xy):∃b:PyData,L2.T.lst [bz a,bz g1]=dc b/\PyData.eqv b b/\SeqAt.shaped b:=by
 refine⟨.list [.list (a.map cN),.list (g1.map cN)],?_,?_,?_⟩
 .show _=L2.T.lst [.lst (WQ (a.map cN)),.lst (WQ (g1.map cN))];rw[<- o9 jm.of,<- o9 jm.of]
 .have d:=Mp jm a;have c:=Mp jm g1;show PyData.eqv (.list _) (.list _)=true;unfold PyData.eqv PyData.eqvAll PyData.eqvAll PyData.eqvAll;rw[d,c];rfl
 .have l:∀{O:Type}{g:O->PyData}(A:List O),(∀x,PyData.canLay0 (g x))->PyData.canLay0 (.list (A.map g))=true:=λA h=>by unfold PyData.canLay0;exact pK h A
  have p:∀{O:Type}{g:O->PyData}(A:List O),(∀x,PyData.depth (g x)<=60)->PyData.depth (.list (A.map g))<=61:=λA h=>by unfold PyData.depth;have:=qI h A;exact succ_le_succ this
  have f:=l a jm.lay;have e:=l g1 jm.lay;have j:=p a jm.dep;have i:=p g1 jm.dep;have d:PyData.canLay0 (.list [.list (a.map cN),.list (g1.map cN)]):=by
   unfold PyData.canLay0 PyData.canLayAll0 PyData.canLayAll0 PyData.canLayAll0;rw[f,e];rfl
  have c:PyData.depth (.list [.list (a.map cN),.list (g1.map cN)])<=64:=by
   unfold PyData.depth PyData.depthAll PyData.depthAll PyData.depthAll;lia
  unfold SeqAt.shaped;rw[d,Zs c];rfl
def EL:ST:=λa q=>∃ns:xi,a=[hQ ns]/\ns.length<=63/\q (.fz (.bl true))
def UI(T:Tx D)(F:Fu Zg Py f Y):FT 14 f Y Rv EL:=by
 refine F.okU Hl λai C outer s H B hr nd=>?_;refine⟨_,(kL.out (eU (j6 (bT 1 (bJ (adb T) (bA vc (bA bF (bA (bJ (_L T) (bA (bJ (gL T) (bA vc (bA bF bC))) bC)) (bA bF bC)))))))
  (eU (j6 (bT 2 (bJ (Wm T) (bA vt bC))))
  (eU (af8 3 Hl.nd (Or.inl rfl) (UD (Ul (cX (qm (cX lD (cX lD lE))) (cX (qm (cX lD (cX lD lE))) (cX (qm (cX lD (cX lD lE))) (cX (qm (cX lD (cX lD lE))) lE))))) (Zr cH (Zr lX (CV (bJ (gL T) (bA vc (bA bF bC)))) lD) lD)))
  (eU (j6 (bT 4 (bJ (_p T) (bA (bJ (gL T) (bA vc (bA bF bC))) (bA ve (bA vt bC))))))
  (eU (j6 (bT 5 (dg (bA (bJ (ET T) (bA (bJ (gL T) (bA vc (bA bF bC))) (bA (bQ cI T.dH WJ (bA vt bC)) bC))) (bA (bJ (ET T) (bA (bJ (gL T) (bA vc (bA bF bC))) (bA (bQ cI T.dH WJ (bA vt bC)) bC))) bC)))))
  (eU (j6 (m6 (bH Py) k9 k9 ["_law_cell_here"] (cg (bM cY (dg (bA (bJ (gL T) (bA vc (bA bF bC))) bC)) (i_ vc (fY bF) (fY bF)))) (dZ (i:=0)) cA (bJ (acg T) (bA vc (bA vn bC))) (gZ (i:=6) Hl.nd rfl (Or.inl rfl))))
  (eU (j6 (m6 (bH Py) k9 ["_law_script","_law_rooms","_law_ways_here","_law_share","_law_hall_here","_law_goals_here","_law_plans","_law_handed","?_law_some","_law_others","_law_plan_here","_law_kept","_law_again","_law_mine","_law_one","_law_other"] ["_law_some"] (cg vF) (dZ (i:=0)) cA (qz Et T.wM boot_list (bA vc bC)) (gZ (i:=7) Hl.nd rfl (Or.inl rfl))))
  (eU (j6 (gR 8 (bJ (yQ T) (bA vi (bA (bK (qv 7) bF) bC)))))
  (eU (j6 (bT 9 (bJ (yQ T) (bA vi (bA (bK (qv 7) bF) bC)))))
  (eU (j6 (cC (QW.qt (iz (dN (Ms 8 (cM (bJ (ph T) (bA (qv 8) (bA vt (bA vn (bA (bK vF bF) bC)))))))) (gA (dN (cM (bJ (ph T) (bA (qv 9) (bA vt (bA vn (bA (bK vF bF) bC))))))))))
  (bI (bR gO))
  bV))
  (eU (j6 (dh (cg (qv 6)) (bZ (n:=99) 10)
  (bG (bT 13 (bJ (O5 T) (bA vi (bA (qz Et T.wM boot_list (bA (bK vF bF) bC)) (bA (qz Et T.wM boot_list (bA (qv 10) bC)) bC)))))
  (bG (cC (dN (cM (bJ (X8 T) (bA (qv 13) (bA vn (bA (bK vF bF) (bA (qv 10) bC)))))))
  (bI (bR gO))
  bV)
  (bI (Kt (FV PassesOwn.never rfl (FS (by rfl) T.Km (cF (pv 13) (cF (tu Cw (pv 8) uo (λ_ _=>rfl)) jB)).mono) (_1 (n:=2) rfl (K8 (gZ (i:=14) Hl.nd rfl (Or.inl rfl)) (K8 (gZ (i:=15) Hl.nd rfl (Or.inl rfl)) Z4)))
     (oH (DM (Ju Db (oo Ry (tu Cw (pv 14) uo (λ_ _=>rfl)) (tu Cw (pv 15) uo (λ_ _=>rfl))) (oo Ry (tu Cw (pv 15) uo (λ_ _=>rfl)) (tu Cw (pv 14) uo (λ_ _=>rfl))) (M5 _))
      (oH (yH C6))
      Hy)))))))))
  (eU (j6 (bT 11 (PR 8 (by rfl) T.wM uo)))
  (eU (j6 (Z2 false 8 uo bF))
  (eU (j6 (Z2 true 8 uo (d9 (bA bF (bA bF bC)))))
  (eU (j6 (cC (dN (cM (bJ (XF T) (bA vi (bA (bK vF bF) (bA (bJ (gL T) (bA vc (bA bF bC))) (bA (bQ cI T.dH WJ (bA vt bC)) bC)))))))
  (bI (bR gO))
  bV))
  (eU (j6 (bT 12 (bJ (yQ T) (bA vi (bA (bK (qv 7) bF) bC)))))
  (adY (j6 (bR (vq (bJ (ph T) (bA (qv 12) (bA vt (bA vn (bA (bK vF bF) bC))))) (vq (mO (z0 hr.units) (bK (qv 12) bF) (qv 11)) (Cq (mO (z0 hr.units) (qv 7) vF)))))))))))))))))))))))),?_⟩
 rintro _ R ⟨ns,rfl,W,q⟩;refine p' (λo=>∃s m G Q g J g1 E,NJ m G Q g J g1 E/\o=i4 D ns s G Q g J g1 E .und .und .und .und .und .und .und .und) ?_ λw hY=>?_
 rotate_left
 .refine⟨ns,0,rfl,by exact aL W vk,_,rfl,λm X=>⟨ns,5,m,3,rfl,by exact aL W vk,by exact aL X vk,by decide,λG hd=>?_⟩⟩;dsimp only;rw[ZB];obtain⟨s,I,es⟩:=SZ (fdiv (ns.getD 1 0) 7);have ml:((G.map λu=>L2.T.lst (u.map bv)).length:Int)=(m:Nat):=by rw[ak,hd.len]
  have two:∀c:Int,[L2.T.int c,L2.T.int ((G.map λu=>L2.T.lst (u.map bv)).length:Int)]=[L2.T.int c,L2.T.int (m:Nat)]:=λc=>ZH (λz=>[L2.T.int c,L2.T.int z]) ml;refine⟨m,3,G,rfl,hd,by exact aL X vk,by decide,ns,1,rfl,by exact aL W vk,⟨by decide,eV vk⟩,by decide,_,es,ns,1,rfl,by exact aL W vk,_,s,m,3,G,rfl,I,hd,by exact aL X vk,by decide,λQ g hn hok ho=>⟨ns,2,rfl,by exact aL W vk,_,m,two _,by omega,λJ l0 h0=>⟨ns,3,rfl,by exact aL W vk,_,m,two _,by omega,λg1 l1 h1=>⟨ns,4,rfl,by exact aL W vk,?_⟩⟩⟩⟩;have ec:L2.T.int (ns.getD 4 0)::fj (ns.map L2.T.int) (some 19) (some 22)=(ns.getD 4 0::fj ns (some 19) (some 22)).map L2.T.int:=by rw[oX];rfl
  have cl:(fj ns (some 19) (some 22)).length<=63:=by
   unfold fj;rw[aY,UQ];lia
  show 1+(fj (ns.map L2.T.int) (some 19) (some 22)).length<=sizeLine/\_;refine⟨by rw[oX,ak];exact aL (show _<=64 by lia) vk,?_⟩;dsimp only[frz];show(L2.T.int (ns.getD 4 0)::fj (ns.map L2.T.int) (some 19) (some 22)).length<=sizeLine/\iy _ _ _ _ (L2.T.int (ns.getD 4 0)::fj (ns.map L2.T.int) (some 19) (some 22)) _;rw[ec];refine⟨by rw[ak];exact aL (show _<=64 by rw[length_cons];exact succ_le_succ cl) vk,Wj L2.T.int (λ_ t=>∃p,t=iS p/\PlD G p) _ (λc hc N M hN=>⟨_,G,rfl,by rw[hd.len];exact aL X vk,λp K=>hN _ ⟨p,rfl,K⟩⟩) λts al=>?_⟩;obtain⟨E,rfl,h1',h2'⟩:=ZI (λ_ _ h=>h) al;refine⟨(show 2<=sizeLine by decide),comp_map bz bz [J,g1] (λr hg N M hN=>hN) ?_⟩;refine hY _ ⟨s,m,G,Q,g,J,g1,E,⟨⟨X,hd,ho,hn.len,Sf hn.len X hok hd ho⟩,l0,λr hg=>by rw[hn.len];exact h0 r hg,λr hg=>by rw[hn.len];exact h1 r hg,by rw[h1',length_cons];exact succ_le_succ cl,λp K=>?_⟩,rfl⟩;obtain⟨j,ej⟩:=aV K;have lj:j<(ns.getD 4 0::fj ns (some 19) (some 22)).length:=by rw[<- h1'];exact(ao.mp ej).1
  exact h2' j _ _ (aj lj) ej
 rintro _ ⟨s,m,G,Q,g,J,g1,E,dr,rfl⟩;have d:=dr.d;have X:=d.m8;have ln:=d.ln;have dl:=d.hd.len;have lw:(cf G).length=Q.length:=by unfold cf;rw[ak,dl,ln]
 refine qf (λo=>∃(p P:eh)(a b:OT),iF false Q g J p/\o=i4 D ns s G Q g J g1 E (.pr (p.1.map dT) (p.2.map aa)) (.fz (eF P)) a .und .und b .und .und) ?_ λw hY=>?_
 rotate_left
 .refine⟨_,rfl,s,Q,g,J,rfl,d.z,dr.hg0,λp K=>⟨_,rfl,s,Q,g,g1,rfl,d.z,dr.hg1,λP eM=>?_⟩⟩;refine⟨_,rfl,p,G,cf G,J,rfl,pc d K,_,rfl,P,G,cf G,g1,rfl,pc d eM,?_⟩;show uW _ _ _ (E.map iS) (i4 D ns s G Q g J g1 E (.pr (p.1.map dT) (p.2.map aa)) (.fz (eF P)) .und .und .und .und .und .und);refine eN iS E (λ_ o=>∃a b,o=i4 D ns s G Q g J g1 E (.pr (p.1.map dT) (p.2.map aa)) (.fz (eF P)) a .und .und b .und .und) ⟨_,_,rfl⟩ ?_ λo hP=>by obtain⟨a,b,z⟩:=hP;exact hY o ⟨p,P,a,b,K,z⟩
  rintro as v bs _ e ⟨a,b,rfl⟩;have aE:=dr.hp v (by rw[e];exact aP _ (aO ..));refine⟨_,rfl,s,Q,g,J,v,rfl,d.z,dr.hg0,XD d.ho (Zw aE),λA xb xc=>?_⟩;obtain⟨a1,a2,a3,a4,a5⟩:=Mm d aE xb xc;refine⟨_,rfl,A,cf G,J,v,rfl,a1,a2,a3,a4,a5,?_⟩;have up:∀k,k<Q.length->xG A k<=xG p.2 k:=by
   obtain⟨S,c⟩:=xc;obtain⟨U,Z⟩:=K.ch;exact gy K.best (FK d.z (XD d.ho (Zw aE))) (tT d.z) c (λk _=>(K.xs.get k).1) Z.goal
  show rP _ _ _ (i4 D ns s G Q g J g1 E (.pr (p.1.map dT) (p.2.map aa)) (.fz (eF P)) (.fz (iS v)) .und .und (.fz (p0 A)) .und .und);intro own H1 σ Dn h L;obtain⟨u13,e13,r13⟩:=h.get (i:=13) (t:=p0 A) rfl;obtain⟨q0,c0,c1,vs,l,e8,o8,ne,tp,hc,hd1,rx,ry⟩:=h.pr (i:=8) (ts:=p.1.map dT) (us:=p.2.map aa) rfl;obtain⟨a13,zs,rfl,h13,rz⟩:=r13.lstI;have l16:σ.length=16:=h.len.symm;have zl:zs.length=Q.length:=by rw[rz.len,ak,xb.len]
  have wl:l.length=Q.length:=by rw[ry.len,ak,K.xs.len]
  refine abC ⟨_,e13,_,e8,q0,_,1,_,rfl,rfl,.inl (.of (cQ tp).2),rfl,a13,c1,zs,l,rfl,(cQ h13).2,hd1,by rw[zl,wl],λ_ O H'=>O.length=σ.length/\(∀i,i∉[14,15]->O[i]?=σ[i]?)/\zT H1 H',⟨rfl,λ_ _=>rfl,.refl _⟩,?_,?_⟩
  .rintro k x y O H' t ex ey ⟨sl,se,sm⟩ hZ c9 ht;have km:k<Q.length:=by rw[<- zl];exact(ao.mp ex).1
   obtain⟨x',r6,rxk⟩:=rz.at_ (i:=k) (t:=aa (xG A k)) (by rw[aq,Qn (by rwa[xb.len])];rfl);obtain⟨y',l7,ryk⟩:=ry.at_ (i:=k) (t:=aa (xG p.2 k)) (by rw[aq,Qn (by rwa[K.xs.len])];rfl);rw[ex]at r6;rw[ey]at l7;cases r6;cases l7;obtain⟨q1,rfl,s1⟩:=Wr rxk;obtain⟨q2,rfl,s2⟩:=Wr ryk;have S3:zT (L2.hd (Ow own) H1) (upd H' t (.tup [.ref q1,.ref q2])):=cL.trans (sm.trans (zT.upd ht));have s1:=S3.tup s1;have s2:=S3.tup s2;have g14:((O.set 14 (some (V.ref q1))).set 15 (some (.ref q2)))[14]?=some (some (.ref q1)):=by rw[VS vk,UY vw]
   have g15:((O.set 14 (some (V.ref q1))).set 15 (some (.ref q2)))[15]?=some (some (.ref q2)):=by rw[UY (by rw[WH];lia)]
   have fx:=xb.fn _ (aC (Qn (A:=A) (k:=k) (by rwa[xb.len])));have fy:=K.xs.fn _ (aC (Qn (A:=p.2) (k:=k) (by rwa[K.xs.len])));have bn:∀{z:Rat},FnB (10^39) z->Bd z.num:=λf=>uK (n:=39) f.n vk;have bd:∀{z:Rat},FnB (10^39) z->Bd ((z.den:Nat):Int):=λf=>uK (n:=39) (by rw[XT];exact f.d) vk;refine⟨t,_,rfl,cj,rfl,_,_,rfl,_,_,rfl,rfl,_,g14,q1,_,0,_,rfl,rfl,s1,rfl,_,g15,q2,_,1,_,rfl,rfl,s2,rfl,_,_,rfl,rfl,⟨bn fx,bd fy⟩,_,g15,q2,_,0,_,rfl,rfl,s2,rfl,_,g14,q1,_,1,_,rfl,rfl,s1,rfl,_,_,rfl,rfl,⟨bn fy,bd fx⟩,_,_,rfl,rfl,?_⟩;have no:decide ((xG p.2 k).num*(((xG A k).den:Nat):Int)<(xG A k).num*(((xG p.2 k).den:Nat):Int))=false:=Zp λz=>Rat.not_lt.mpr (up k km) ((lt_iff _ _).mpr z);refine⟨_,rfl,?_⟩;show if decide ((xG p.2 k).num*(((xG A k).den:Nat):Int)<(xG A k).num*(((xG p.2 k).den:Nat):Int))=true then _ else _;rw[ZZ (by rw[no];decide)];refine⟨(bY (λz=>by rw[z,ht]at hZ;cases hZ)).trans hZ,(bY (λz=>by rw[z,ht]at c9;cases c9)).trans c9,by rw[WH,WH,sl],λi hi=>?_,sm.trans (zT.upd ht)⟩;rw[VS (λz=>hi (by rw[<- z];decide)),VS (λz=>hi (by rw[<- z];decide)),se i hi]
  .rintro O H' ⟨sl,se,sm⟩ _ _;have h':=h.same sm;refine L.nx own H' O _ ⟨_,_,rfl⟩ (bU sm) ⟨h'.len.trans sl.symm,λi x e=>?_,h'.out,h'.dis⟩;by_cases c:i∈[14,15]
   .have:x=.und:=by
     rcases YU.mp c with rfl|c
     .exact(Option.some.inj e).symm
     .cases YR.mp c;exact(Option.some.inj e).symm
    subst this;exact h'.sl i _ e
   .rw[se i c];exact h'.sl i _ e
 rintro _ ⟨p,P,a,b,K,rfl⟩;have oq:∀{n:Nat},n<=8->n<sizeLine:=λh=>Y3 h vk;have l1:(p.1.map dT).length<=8:=by rw[ak,K.pl.len];have:=d.z.h.len;lia
 have l2:(p.2.map aa).length<=8:=by rw[ak,K.xs.len];exact aL (WG ln) X
 have k1:(p.1.map dT++[L2.T.int 0]).length<sizeLine:=by rw[aA,length_singleton];exact Y3 (show _<=9 by exact succ_le_succ l1) vk
 have ml:((G.map λu=>L2.T.lst (u.map bv)).length:Int)=(Q.length:Nat):=by rw[ak,dl,ln]
 refine⟨⟨oq l1,oq l2⟩,⟨k1,oq l2⟩,_,rfl,ns,18,rfl,by exact aL W vk,s,Q,g,J,ns.getD 18 0,ZH (λz=>[ci D s Q g,bz J,L2.T.int (ns.getD 18 0),L2.T.int z]) ml,d.z.h,dr.hg0,dr.l0,?_⟩;refine⟨_,rfl,s,Q,g,J,rfl,d.z,dr.hg0,λp2 kR=>⟨_,rfl,p2,G,cf G,J,rfl,pc d kR,?_⟩⟩;have same:p2.2=p.2:=by
  have up:∀{p P:eh},iF false Q g J p->iF false Q g J P->∀k,k<Q.length->xG P.2 k<=xG p.2 k:=λ{p P}h h'=>by
   obtain⟨S,c⟩:=h'.ch;obtain⟨U,Z⟩:=h.ch;exact gy h.best (FK d.z h'.pl) (tT d.z) c (λk _=>(h.xs.get k).1) Z.goal
  refine Q2 λk=>?_;by_cases hk:k<Q.length
  .rw[Qn (by rwa[kR.xs.len]),Qn (by rwa[K.xs.len]),Rat.le_antisymm (up K kR k hk) (up kR K k hk)]
  .rw[aM (by rw[kR.xs.len];exact VW hk),aM (by rw[K.xs.len];exact VW hk)]
 refine⟨.list (p2.2.map frD),.list (p.2.map frD),ZH L2.T.lst (o9 Kl.of _),ZH L2.T.lst (o9 Kl.of _),Kl.lst _,Kl.lst _,?_⟩;rw[same,Mp Kl p.2];obtain⟨dt,et,ed,sh⟩:=SC J g1;refine⟨dt,dt,et,et,sh,sh,?_⟩;rwa[ed]
end
def P1{K:Frag}{b:Ζ}{H:Hp}{Q:VK}{E:XK}(h:lq K b H Q E):spT K EL b H Q E:=by
 obtain⟨a,ns,rfl,I,c,_,d⟩:=h;refine⟨[hQ ns],λx=>x=.fz (.bl true),.cons (.scr I (GX ns)) .nil,⟨ns,rfl,c,rfl⟩,?_⟩;rintro f v _ rfl _ ⟨B,_,_,u,e,r⟩;cases e;cases r;exact d f
def law_fn{l:PySem.W.OpenLaw}{w:World}{K:Frag}{a:Str->Ω}(T0:∃D,Txt K a D)(base:Heap)(f:Addr)(Y:FuncData)(F:Fun K Zg Zg Py f Y) :
  fD l.prog w K a base bb 14 f Y Rv (lq K):=by
 obtain⟨D,T⟩:=T0
 letI:Bs:=⟨l.prog,w,K,a,base⟩
 exact(UI T F).imp λ_ _ _ _ h=>P1 h
end K37
end
open PySem PySem.W PyProof.Rows L2
set_option maxRecDepth 100000 in
set_option maxHeartbeats 0 in
theorem PySem.Challenge.cw_chancehall_k37_whole_greatest_chances_holds : PySem.Challenge.rw_chancehall_k37_whole_greatest_chances.Holds := by
 w_on
 refine holds_law H37.wsd λa=>?_;refine holds_open (q:=H37.qv) (loose:=[]) (XP:=XL H37.qv []) (YP:=InK H37.KH) H37.left (InK.of H37.asK) InK.keeps H37.hX XL.keeps (by rfl) (by rfl) (by rfl) H37.hR (by rfl) a (by decide +kernel) ⟨rfl,rfl,rfl,rfl,rfl,by decide +kernel⟩ ?hw ?hc
 (case hw=>w_witness2)
 k_fill
 refine L2.aoI (l:=PySem.Challenge.rw_chancehall_k37_whole_greatest_chances) (k:=14) (x := "_law_script") rfl rfl ⟨rfl,by decide,by decide⟩ (λw h Y=>(show(H37.KH w.params).In h from Y)) ?F
 case F =>
  intro w c e h g G d;refine⟨K37.Py,?_,λbase f b F=>K37.law_fn ?T base f b F⟩
  .exact ar
  case T =>
   refine⟨⟨31,99,482,503,522,541,558,643,135,136,465,472,500,519,538,555,600,607,628,640,96⟩,⟨f0,f0,f0,f0,f0,f0,f0,f0,f0,f0,by k_is,by k_is,IR,qh,qh,hT,gx,bw,bw,bw,bw,bw,bw,iQ,hT,gx,bw,bw,bw,bw,bw,bw,iQ,hT,gx,bw,bw,bw,bw,bw,bw,iQ,hT,gx,bw,bw,bw,bw,bw,bw,iQ,hT,gx,bw,bw,bw,bw,bw,bw,iQ,hT,gx,gx,gx,bw,bw,bw,bw,bw,bw,IU,IT,IX,by k_is,by k_is,bw,IS,qi,fm,fm,fm,qi,fm,fm,fm,fm,fm,fm,fm,fm,d3,d3,d3,d3,d3,d3,d3,d3,d3,d3,d3,d3,d3,d3,d3,d3,ar,ar,ar,ar,ar,ar,ar,ar,ar,ar,ar,ar,ar,ar,ar,ar,ar,ar,ar,ar,ar,ar,ar,ar,ar,ar,ar,ar,ar,ar,ar,ar,ar,ar,ar,ar,ar,ar,ar,ar,ar,ar,ar,ar,ar,ar,ar,ar,ar,ar,ar,ar,ar,ar,ar,ar,ar,ar,ar,ar,ar,ar,ar,ar,ar,ar,ar,ar,ar,ar,ar,ar,ar,ar,ar,ar,ar,ar,ar,ar,ar,ar,ar,ar⟩⟩
#print axioms PySem.Challenge.cw_chancehall_k37_whole_greatest_chances_holds
