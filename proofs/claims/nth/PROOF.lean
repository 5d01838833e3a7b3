import PyProof.Rows.All
import PyProof.ExcClass
import PyProof.InstLoad
import PyProof.InstStoreFacts
import PyProof.ExcAttrAll.Exception
import PyProof.RaisesMany
import PyProof.Commute
import PyProof.StationsW
import PyProof.Draws
import PyProof.EnumMake
import PyProof.TupleIter
import PyProof.WalksMore
import Wide.All
import OpenK.AllK
import Wide.FinOn
import PyProof.EqAt
import PyProof.EqKinds
import PyProof.TupleCall
import KE.BitLaws
import PyProof.ExcBaseAll.Exception
import PyProof.RulesAs
import PyProof.NsDelKeeps
import PyProof.NeKinds
import KE.KDictLaws
import Open.SpecLaws
import KE.OsHead
import KE.OsGo
import PySem.Challenge.RW_halfseendesk_s04_nth
import PyWqbada
set_option Elab.async false
set_option linter.all false
set_option maxRecDepth 100000
set_option maxHeartbeats 2000000
set_option bootstrap.genMatcherCode false
set_option genSizeOf false
set_option genSizeOfSpec false
set_option compiler.extract_closed false
namespace MP_
open Lean
def mI(s:String):Syntax:=mkIdent (s.splitOn "."|>.foldl (λn c=>.str n c) .anonymous)
def mN:Name->Array Syntax->Syntax:=.node .none
def mS(f:String)(l:List Syntax)(r:String)(k:Name):Syntax:=mN k #[mkAtom f,mkNullNode ((l.intersperse (mkAtom ",")).toArray),mkAtom r]
def nT:String->Name:=.str `Lean.Parser.Term
def nC:String->Name:=.str `Lean.Parser.Tactic
def mP(f:Syntax)(a:Array Syntax):Syntax:=mN (nT "app") #[f,mkNullNode a]
def mA:List Syntax->Syntax
|[x]=>x
|l=>match l.reverse with|f::a=>mP f a.toArray|_=>.missing
def mW(w:String):Syntax:=if w="_" then mN (nT "hole") #[mkAtom w] else if w="?_" then mN (nT "syntheticHole") #[mkAtom "?",mkAtom "_"] else if w.front.isDigit then Syntax.mkNumLit w else if w.front='.' then mN (nT "dotIdent") #[mkAtom ".",mI (w.drop 1).toString] else mI w
def mG:List String->List Syntax->List Syntax->List (List Syntax×List Syntax)->Syntax
|[],_,c,_=>mA c
|w::r,p,c,s=>if w="("||w="⟨"||w="[" then mG r [] [] ((p,c)::s)
 else if w="," then mG r (mA c::p) [] s
 else if w=")"||w="⟩"||w="]" then
  let l:=(if c.isEmpty then p else mA c::p).reverse
  match s with|(p,d)::s=>mG r p ((if w=")" then mA c else if w="⟩" then mS "⟨" l w (nT "anonymousCtor") else mS "[" l w `«term[_]»)::d) s|_=>.missing
 else mG r p (mW w::c) s
def mL(s:String):Syntax:=mG (((("( ) ⟨ ⟩ [ ] ,".splitOn " ").foldl (λs c=>s.replace c (" "++c++" ")) s).splitOn " ").filter (· ≠"")) [] [] []
def mT(t n:String):Option Syntax:=(t.splitOn ";").findSome? λe=>if e.startsWith (n++" ") then some (match (e.drop (n.length+1)).toString.splitOn "=>" with|[b,x]=>mN (nT "fun") #[mkAtom "fun",mN (nT "basicFun") #[mkNullNode ((b.splitOn " ").map mW).toArray,mkNullNode,mkAtom "=>",mL x]]|x=>mL (x.headD "")) else none
def tb:="Â aG A outer s H vs Q E hr h=>?_;Ã Inv X pins σ;Ç Dn P w K mg base aE;È model X.prog X.w;Ì a7 P w K mg base;Í ks.map az.m;Ï hc=>?_;Ð aD(jP hr.hd X.c(ny X.c X.nG X.keep rfl X.mC));Ñ X.gj s H scope(compEnvC scope cl C X.env)fp;Ò l.kinds.map az.m;Ó model prog w;Ø _ _ _ _ _=>eN;Ù _ _=>rfl;Û pv 0;Ü b.es.map bq.row;Þ ⟨Tt,_,rfl,bu.of aq,rfl,_,_,rfl,_,_,rfl,rfl,rfl,eO ?_⟩;ß sf PySem.F.plainAttrs_list PySem.F.slot_list_append PySem.F.type_list_append yR;à .ListComp j6[⟨tg,iter,ju,0⟩]scope pos;á pv 1;â aa K H;ã .lst[];ä aX left;æ ⟨Tt,_,rfl,bu.of aq,rfl,_,_,rfl,_,_,rfl,rfl,rfl,?_⟩;è pv 2;ì .dK(bx V.int lacks);ï bg Û rfl;ñ p.ak.map ck.m;ò EP X pins σ;ó ae Û ag;ô dg sames;õ starEach es X.env;ö excClassObj nm q C N bs bm true sn sub ab col dd k0 k1 k2 k3 k5 newId;ø pv 3;ù eU rows(fJ ms rows);ú a7 X.prog X.w X.K X.mg X.base;û H' f=>?_;ü c8 fU Õ tL PySem.boot_len(ae è ag);ý c8 fU Õ tL PySem.boot_len(ae á ag);þ .lst(gD.map V.ref);ÿ jE.map codes;Ā cq sames;ā .ref C;Ă .ref f;ă nF P w K mg base;Ą gh I q Ä;ą eW X.prog X.w;Ć c8 fU Õ tL PySem.boot_len ó;ć I.ok.hd hc;Ĉ .inl rfl;ĉ Dn P w K mg base;Ċ cy.zero hD;ċ upd H1 D ã;Č oy P w K mg base A outer s;č i y H' hi f=>?_;Ď b hb=>?_;ď .lst(qs.map V.ref);Đ .dK kvs;đ ⟨_,rfl,?_⟩;Ē iQ x.zs bits;ē bf lf l s;Ĕ excClassObj nm q C N bs bm hdct sn sub ab col dd k0 k1 k2 k3 k5 newId;ĕ bg á rfl;Ė Flags.less1 left f;ė gn P w;Ę eQ classes;ę PySem.W.fnOf x cO(t7 st)(iW st)(aV st).none kV iS pm an aG ct;Ě hd=>?_;ě X.gj s3 H3 scope ce fp;Ĝ fq sames.length Ā ä Ý D;ĝ aY(eE(ae(jh jM bo)ag));Ğ .ref a;ğ upd H s.heap.objs.size;Ġ i6 K s₁.heap;ġ dy P w H;Ģ ⟨rfl,_,rfl,?_⟩;ģ compEnvC scope cl s3.heap.objs.size X.env;Ĥ bg(cA cY ï(jh jM bo)Ù)rfl;ĥ .ref p;Ħ cq sames b;ħ .dK(bx gA tt);Ĩ aZ ms;ĩ w.map B;Ī I.ax.fresh(bJ _);ī .Tuple mQ kk l7;Ĭ xj X.N X.env.scope scope;ĭ lF CX P w K mg base N cO;Į s2.trans s3;į fc Û è rfl;İ fc Û á rfl;ı Ee TN.c iN EX TN.keep GN sA rfl TN.mC;Ĳ pv 4;ĳ ae ø ag;Ĵ eE ag;ĵ b z=>absurd z Ä;Ķ l.map B;ķ .ref s.heap.objs.size;ĸ wipe σ vs;Ĺ ai.refl H';ĺ PySem.W.instObj C s.heap.objs.size;Ļ A.deeper(envOfC cO(aV st)s.heap.objs.size f aG);ļ σ.set i(some v);Ľ bw JM.iw line;ľ bw JM.iu line;Ŀ lV X pins;ŀ Binds X.K fd ps;Ł sames.getD i 0;ł sames.getD b 0;Ń qA C h.objs.size;ń past.map bV;Ņ kp p hp;ņ fJ ms rows;Ň aX(jt ms);ň .lst(iv l);ŉ .int 0;Ŋ putK kvs k;ŋ i x Tt H' hi f hT=>?_;Ō ws.getD 1[];ō upd H1 pl þ;Ŏ iv p.classes;ŏ exc C none .none x;Ő Builtin.bitAnd i j;ő ⟨_,rfl,rfl,_,rfl,?_⟩;Œ ae á ag;œ ae(cA cY á bo Ù)ag;Ŕ PySem.W.kHook kK kA kE;ŕ ⟨rfl,?_⟩;Ŗ ay 3;ŗ ay 2;Ř .dK(bx gI(gu y.m.flatten));ř y=>PyData.eqv(dataOf(aj.zip ds)y)dx;Ś b o nb nf g=>?_;ś ms.map(oP classes d);Ŝ .ref x;ŝ .int 1;Ş codes x;ş m9 qx rfl;Š h1=>?_;š ns.map V.int;Ţ ae è ag;ţ ae(pv 5)ag;Ť bu K H;ť upd H a;Ŧ bj L.pl T.cP T.nE;ŧ w hw=>AZ rx fx r fs w É;Ũ ent(rawInt L)T;ũ .ref T;Ū upd(ť(exc C od ũ a))T Ũ;ū refusal t b;Ŭ oQ CK H pk;ŭ i4 X.env.cells scope.names;Ů y.m.take i;ů y.m.map List.length;Ű vs.map toV;ű start N vs;Ų n8 ms rows;ų my Ò p.m;Ŵ envOfC cO scope s.heap.objs.size f cd;ŵ c8 fU Õ tL PySem.boot_len(ae ĕ ag);Ŷ ai.refl H;ŷ aD(aY qC);Ÿ aB į(aD(fc Û ø rfl));Ź .lst(iv(nv x.ns));ź .cu od ì;Ż .bool(lexLt ns ms);ż .Name x p;Ž wpAny M A;ž mh K mg;ſ .cu od u;ϊ .builtin id;ϋ ig K;ό ay 0;ύ lF aE P w K mg base;ώ ⟨_,rfl,rfl,_,rfl,ite_yes rfl ?_⟩;Ϗ b o hb e=>eb b o hb e;ϐ uF.map codes;ϑ ms.getD i fk;ϒ fj(iq(cZ e)(I.ok.wV x c HE hc));ϓ eval e X.env;ϔ b.map B;ϕ ay 1;ϖ .lst(iv(line.take j));ϗ .ins C dx fs;Ϙ .Compare a[op][b]pos;ϙ upd H l;Ϛ upd H T;ϛ HT.lexLt ns ms;Ϝ PE X e;ϝ xs.map PyData.int;Ϟ upd H' Tt;ϟ pW H H' p;Ϡ qk ms m.classes d m.ak;ϡ ae Ĳ ag;Ϣ I.base.free b o e n hx;ϣ .cu o Đ;Ϥ Et cO scope s.heap.objs.size f cd;ϥ jr x.zs p.fG bits;Ϧ gB K C;ϧ PE X a;Ϩ Inv X pins σ' H';ϩ e K q=>?_;Ϫ xw hr.units;ϫ v.gs.map cb.m;Ϭ sm b;ϭ ae(b9 cB)ag;Ϯ aV st;ϯ PySem.mem_of_lookup e;ϰ .tup xs;ϱ .lst xs;ϲ .dK[];ϳ .Name x pos;ϴ keywordEach[]X.env;ϵ jy(Bq hr.units)ï Ĵ(bT _);϶ iq(cZ e)I.ok.above;Ϸ Flags.lacks left(l.map ô)s;ϸ .lst(iv(nv sames));Ϲ b hb u hu=>?_;Ϻ n0 sames left;Àa ft X.prog X.w;Àb dy X.prog X.w;Àc _ _ p=>Bool.noConfusion p;Àd ĭ scope f aG A outer s H E;Àe z9(iW sNth);Àf ws.getD 0[];Àg importedModules P.main.body;Àh vj I hg hm;Ài ps.zip us;Àj model P w;Àk bg è rfl;Àl CD L ms classes;Àm y hy=>?_;Àn z.m.take i;Ào eA p.eC sg⟨D,Ē same⟩;Àp cA cY è bo Ù;Àq .ref y.a;Àr .error e;Às compEnvC scope cl C X.env;Àt I.base.keep b o e n hb hx;Àu ft P w H h a;Àv aa X.K H;Àw upd H2 D ã;Àx t.map B;Ày s1.trans s2;Àz past.map n9;Áa p.map B;Áb nv(List.range G);Ác fs.lookup f;Ád Codec.inInt 0 255;Áe upd H x;Áf br K x cO st f;Ág eI C p;Áh compareOp .Eq;Ái .ref D;Áj ⟨?_,?_⟩;Ák i v Tt H' hi f hT=>?_;Ál h2=>?_;Ám _ _ _ _ _=>dJ 8 oU.nd;Án r.map ô;Áo js rows x;Áp compareOp .NotEq;Áq .int i t;Ár ⟨I1.fu,?_⟩;Ás x hx=>?_;Át l x ih=>?_;Áu c v hc q=>k c v ?_ q;Áv upd H0 pl ź;Áw t.map cont;Áx some Ă;Áy ps.map V.ref;Áz fC.zero hD;Âa cA cY á(jh jM bo)Ù;Âb bf ä Ý s;Âc aD(aY yD);Âd PySem.mem_of_lookup hy;Âe .ref r;Âf .lst ys;Âg .ins C dx[];Âh i H' hi f=>?_;Âi .tup(k.map kV);Âj qA C s.heap.objs.size;Âk i=>bs.getD i false;Âl b o e nb=>?_;Âm some u;Ân kY Õ tE ó;Âo kHook kK kA kE;Âp h pins s σ H Q I hw;Âq eW P w;Âr dec lf s;Âs bh Ŗ dw;Ât ae ï ag;Âu TP X pins σ Q;Âv PySem.W.instObj C dx;Âw .ref p.a;Âx .int i;Ây iv part;Âz .ref it;Ãa .dT kvs;Ãb b=>sames.getD b 0;Ãc _ v x _=>?_;Ãd es.map bq.row;Ãe ⟨_,_,rfl,rfl,?_⟩;Ãf b=>pU.contains b;Ãg b=>k7.contains b;Ãh _ _ _ _=>trivial;Ãi upd H' d u;Ãj some v;Ãk sG CL CK l;Ãl pv 6;Ãm name.map B;Ãn mv rows ņ;Ão cy.zero cJ;Ãp ay 4;Ãq I1.ax.fresh(bJ _);Ãr I.Bc hd mu;Ãs .lst(iv(nv row));Ãt l s ih=>?_;Ãu iL=>?_;Ãv b v _ q=>q;Ãw _=>rfl;Ãx _ _=>False;Ãy _ _ _ _ _=>pv 2;Ãz upd H1 c(nB c o);Äa tC ŉ;Äb setAttr Ŝ name v;Äc qs.map V.ref;Äd pv 5;Äe o6 CE e;Äf ms.map PyData.int;Äg looseW kQ kL;Äh jq Í y.m.flatten;Äi g i j;Äj eval o X.env;Äk eK q hn;Äl dec ä s;Äm compareOp op;Än ae Ĵ ag;Äo AQ X pins σ tg R;Äp .ref z.a;Äq .ref lb;Är .ref la;Äs vz rfl;Ät eW prog w;Äu dec lf Ϭ;Äv Builtin.bitNot i;Äw .ref l;Äx .own x;Äy .cu uO ħ;Äz upd H0 d ϲ;Åa upd H e1 ã;Åb tC ŝ;Åc s1.trans s3;Åd p.eC.map gK;Åe ls.map eG.m;Åf iW st;Åg eX Û;Åh dX aQ;Åi b.ns.take j;Åj SP X pins D;Åk b o e=>dh _ e;Ål pv 7;Åm places.getD i 0;Ån nD p;Åo gq C;Åp cA yO Ãl bo Ù;Åq .dK(um[]kvs);År qj CV v;Ås nB cx o;Åt jN D Nx;Åu iv line;Åv c.map B;Åw .tup ys;Åx .int 32;Åy q hq=>?_;Åz m hm=>?_;Æa b o nb g=>?_;Æb _=>aD ĝ;Æc H3 f=>?_;Æd H2 f=>?_;Æe upd H d ſ;Æf uc s₁.heap H;Æg uH Ê;Æh s1.free hx;Æi rawInt L;Æj ot(qD è);Æk oX ms rows;Æl lH x;Æm l.map ô;Æn hb 0 v0 Æ rfl;Æo gq C g;Æp eX á;Æq eU y.m z.m;Ær eT y;Æs cA cY Û bo Ù;Æt bf lf Ý s;Æu bU r ta tb;Æv b9 cS;Æw aD(aY è);Æx L.getD b 0;Æy K w.params;Æz I1.ax.fresh j7;Ça I.kH x c e;Çb .tup[x,y];Çc .str x;Çd .ref b.a;Çe .lst o;Çf .inr rfl;Çg .dT(qS[]ts);Çh y.m.getD i[];Çi tupleKind Âq;Çj iv(nv e.row);Çk exc C od ũ a;Çl compareOp .Lt;Çm .tup[kV k,v];Çn topStub P;Ço tj p.side;Çp ns.take i;Çq ms.map qY;Çr iv(nv l);Çs fj(cZ e);Çt e.trans z;Çu cq Ĩ;Çv bZ hb;Çw ae Àk ag;Çx aL he;Çy .cu od Ř;Çz .Name g p;Èa ⟨t1,t2,?_⟩;Èb j q' e=>?_;Èc xs.map V.int;Èd xH.map codes;Èe upd H2 d Äy;Èf upd H' pl ì;Èg tupleKind ą;Èh n.map B;Èi ms.getD f fk;Èj eQ m.classes;Èk bh(ay 5)dw;Èl bf lf Ý s g;Èm ay 7;Èn List.range n;Èo .ref q;Èp .ref e;Èq .ref d;Èr .ref ap;Ès .cu o u"
def mX(x:Syntax)(a:Array Syntax):MacroM Syntax:=let n:=x.getId.toString;if n.front.toNat>191 then match mT tb n with
|some s=>pure (if a.isEmpty then s else if s.isOfKind (nT "app") then mP s[0] (s[1].getArgs++a) else mP s a)
|_=>Macro.throwUnsupported else Macro.throwUnsupported
def mM(p:Syntax):Syntax:=mN (nC "rcasesPatMed") #[mkNullNode #[p]]
def mC:Nat->Syntax->Syntax
|0,x=>x
|n+1,x=>let k s a:=mN (.str (nC "rcasesPat") s) a;if x.isIdent then k "one" #[x] else if x.getArgs.size<2 then k "ignore" #[x[0]] else k "tuple" #[x[0],mkNullNode (x[1].getArgs.map λy=>if y.isAtom then y else mN (nC "rcasesPatLo") #[mM (mC n y),mkNullNode]),x[2]]
def mK(s a:String)(x:Syntax):MacroM Syntax:=pure ((x.setKind (nC s)).setArg 0 (mkAtom a))
def mH:Nat->Syntax->Bool
|0,_=>false
|n+1,x=>x.isOfKind (nT "syntheticHole")||x.getArgs.any (mH n)
end MP_
local macro_rules(kind:=ident)|x=>MP_.mX x #[]
local macro_rules(kind:=Lean.Parser.Term.app)|x=>MP_.mX x[0] x[1].getArgs
local macro_rules(kind:=Lean.Parser.Tactic.tacticLet__)|x=>let d:=x[2][0];if d.isOfKind (MP_.nT "letPatDecl") then pure (MP_.mN (MP_.nC "obtain") #[Lean.mkAtom "obtain",Lean.mkNullNode #[MP_.mM (MP_.mC 9 d[0])],Lean.mkNullNode,Lean.mkNullNode #[Lean.mkAtom ":=",Lean.mkNullNode #[d[4]]]]) else MP_.mK "tacticHave__" "have" x
local macro_rules(kind:=Lean.Parser.Tactic.apply)|x=>if MP_.mH 99 x then MP_.mK "refine" "refine" x else Lean.Macro.throwUnsupported
local macro_rules(kind:=Lean.Parser.Tactic.delta)|x=>MP_.mK "unfold" "unfold" x
local macro_rules|`(tactic|done)=>`(tactic|simp_all)
set_option hygiene false
local macro_rules
|`(Ä)=>`(by simp)
|`(Å)=>`(⟨by k_is,⟨_,_,⟨by k_is,by k_is,by k_is,by k_is⟩,L2.nr (by k_is) (by k_is) (by k_is)⟩,⟨by k_is,by k_is,by k_is,by k_is⟩,by kernel_rfl⟩)
|`(Æ)=>`(by omega)
|`(É)=>`(by simp_all)
|`(Ê)=>`(by decide+kernel)
|`(Ë)=>`(c6 (by kernel_rfl))
|`(Î)=>`(s.heap.objs.size+1)
|`(Õ)=>`(by rfl)
|`(Ú)=>`(by decide)
|`(Ý)=>`((s,B)::r)
|`(å)=>`(upd (upd (upd H T0 (ent .none T0)) a (exc C od (.ref T) a)) T (ent (rawInt L) T))
|`(ç)=>`(⟨_,_,_,_,_,by k_is,by k_is,by decide,by repeat' constructor⟩)
|`(é)=>`(cellsFrom (s3.heap.objs.size+1) scope.names (i4 X.env.cells scope.names []))
|`(ê)=>`((·.map B))
|`(í)=>`(⟨rfl,rfl,rfl,by decide+kernel,rfl,by decide+kernel,by decide+kernel⟩)
|`(î)=>`(⟨λi m σ H=>m=xs.length-i/\i<=xs.length/\Pv i σ H,⟨xs.length,by simp,dY _,h0⟩,?_⟩)
|`(À $x)=>`(by simpa using $x)
local macro_rules
|`(tactic|show Ô)=>`(tactic|intro X hP hw hK hc i pins s σ H E I hf st hg)
|`(tactic|show Ö)=>`(tactic|intro pins s σ H Q I h)
|`(tactic|show ë)=>`(tactic|obtain⟨f0,f1,f2,f3,f4,f5⟩:=hf it Ä)
|`(tactic|show ð)=>`(tactic|intro pins s σ H x y v u Q I rx ry h)
namespace A_
def af:=@if_pos
def ah:=@if_neg
def aA:=@List.length_map
def aN:=@Option.some.inj
def aO:=@List.mem_cons_of_mem
def aP:=@PySem.wpAny_bind
def a0:=@List.map_cons
def ba:=@List.mem_cons
def bJ:=@Nat.le_refl
def bO:=@List.getElem?_eq_some_iff
def bW:=@List.getElem?_map
def bX:=@List.map_append
def bZ:=@List.mem_of_getElem?
def cf:=@List.mem_map
def cE:=@congrArg
def cQ:=@List.map_map
def cZ:=@PySem.Heap.lt_size
def c7:=@List.length_cons
def df:=@PySem.wpAny_pure
def dh:=@PySem.Heap.get?_push_of_some
def dm:=@List.getElem?_eq_getElem
def dX:=@Ne.symm
def dY:=@Nat.zero_le
def d9:=@Bool.false_ne_true
def eJ:=@decide_eq_true
def fj:=@Nat.ne_of_lt
def fQ:=@decide_eq_false
def gy:=@List.mem_cons_self
def gQ:=@Nat.le_trans
def gR:=@List.mem_append
def gS:=@List.sum_cons
def g7:=@List.length_range
def ib:=@PySem.Heap.get?_push_size
def iq:=@Nat.lt_of_lt_of_le
def iU:=@PySem.wpAny_mono
def iV:=@List.getD_eq_getElem?_getD
def je:=@PySem.wpAny_loadPart'
def jv:=@List.append_nil
def jw:=@Bool.and_eq_true
def j8:=@List.mem_filter
def j9:=@List.nodup_cons
def ko:=@List.find?_cons
def kq:=@List.map_congr_left
def kC:=@List.mem_flatMap
def lu:=@Bool.false_and
def lx:=@List.all_eq_true
def lQ:=@List.map_nil
def lR:=@Bool.true_and
def mT:=@List.length_take
def mU:=@List.length_append
def mV:=@List.mem_singleton
def mX:=@List.take_length
def mY:=@List.not_mem_nil
def mZ:=@or_false
def og:=@decide_eq_true_eq
def pj:=@Bool.eq_iff_iff
def pz:=@Nat.lt_of_le_of_lt
def qv:=@PySem.Heap.size_push
def qw:=@Nat.lt_irrefl
def qx:=@PySem.PassesOwn.never
def rJ:=@List.length_nil
def rK:=@List.all_cons
def rL:=@List.all_map
def rM:=@List.getElem_of_mem
def rN:=@of_decide_eq_true
def rO:=@List.append_assoc
def tP:=@PySem.wpAny_loadPart_at
def tQ:=@Nat.ne_of_gt
def tU:=@Nat.le_of_lt
def tV:=@PySem.wpAny_truthy_bool
def tW:=@List.mem_append_right
def tX:=@List.size_toArray
def tY:=@List.any_cons
def u5:=@PySem.codeAny_mono
def u6:=@PySem.Obj.data_mapFields
def u7:=@PySem.wpAny_field
def u9:=@PySem.sizeLine_eq
def va:=@List.lookup_cons
def vb:=@List.any_eq_true
def vc:=@Bool.and_eq_true_iff
def wI:=@Array.length_toList
def wJ:=@beq_iff_eq
def wK:=@beq_eq_false_iff_ne
def wL:=@PySem.wpAny_Call_Name_kw
def wM:=@List.getElem?_eq_none
def wN:=@Nat.zero_add
def wO:=@List.ext_getElem?
def wQ:=@List.filter_cons
def yq:=@Option.map_eq_some_iff
def yr:=@Bool.and_false
def yt:=@PyProof.Rows.boot_all
def yu:=@List.filter_map
def yw:=@List.nil_append
def Am:=@List.contains_cons
def An:=@PySem.wpAny_call
def Ao:=@PySem.Heap.get?_update_other
def Ap:=@Array.getElem?_eq_some_iff
def Aq:=@List.mem_range
def Ar:=@List.mem_append_left
def As:=@PySem.wpAny_passesOwn
def Au:=@List.getLast?_append
def Av:=@List.flatMap_append
def Aw:=@List.dropLast_subset
def Ax:=@List.nodup_nil
def Ay:=@List.filter_cons_of_pos
def Az:=@List.filter_cons_of_neg
def C3:=@PySem.wpAny_setField
def C4:=@Nat.le_of_eq
def C5:=@PySem.Heap.get?_update_self
def C6:=@Int.toNat_natCast
def C7:=@List.filterMap_cons
def C8:=@PySem.wpAny_execs_nil
def C9:=@PyProof.Rows.callWith_type1
def Da:=@PySem.Calls.spliced_cons
def Dc:=@List.of_mem_zip
def Dd:=@List.zip_cons_cons
def De:=@List.range_succ_eq_map
def Df:=@Option.isSome_map
def Dg:=@PySem.tupleKind_room_in1
def Dh:=@PySem.call_meetsIn
def Di:=@List.mem_of_getLast?
def Dj:=@List.filter_append
def Dk:=@List.flatMap_cons
def Dl:=@List.contains_iff_mem
def Dm:=@Nat.testBit_and
def Do:=@Nat.testBit_lt_two_pow
def Dq:=@Option.bind_some
def GY:=@PySem.Obj.isFreed_of_fields
def GZ:=@List.mem_filterMap
def G0:=@Option.isSome_iff_exists
def G1:=@List.getElem?_append_left
def G2:=@PySem.Calls.callWith_builtin
def G3:=@PySem.call_meets
def G4:=@List.take_of_length_le
def G5:=@Option.map_some
def G6:=@Nat.lt_trans
def G7:=@PySem.wpAny_Call_method
def G8:=@PySem.plainId_quiet
def G9:=@List.mapM_cons
def Hc:=@List.mem_of_mem_take
def Hd:=@List.getLast?_singleton
def He:=@decide_eq_false_iff_not
def Hf:=@List.length_filter_le
def Hg:=@List.range_succ
def Hh:=@List.pairwise_cons
def Hi:=@Int.natCast_nonneg
def Hj:=@Nat.pow_le_pow_right
def Hk:=@List.getElem?_zip_eq_some
def Hl:=@List.foldl_cons
def Hm:=@Int.le_refl
def OE:=@PySem.wpAny_isSubtype_exc
def OF:=@PySem.wpAny_newObj_type
def OG:=@PySem.F.slot_tuple_iterator_next
def OI:=@PySem.Heap.get?_none_of_le
def OJ:=@PySem.wpAny_execs_cons
def OK:=@PySem.Calls.spliced_nil
def OL:=@List.getElem?_append_right
def OM:=@PySem.richCompare_meets_room
def ON:=@if_true
def OO:=@PySem.Calls.evalArgs_plain
def OP:=@List.any_map
def OQ:=@PySem.pushCells_keeps
def OR:=@Nat.le_of_succ_le
def OS:=@Nat.lt_succ_of_lt
def OT:=@PySem.wpAny_standAt
def OU:=@Bool.false_or
def OV:=@PySem.codeAny_builtin
def OW:=@PySem.Around.under_plainId
def OX:=@PySem.wpAny_pyIter_enum
def OY:=@Bool.and_self
def OZ:=@PySem.SeqAt.canLay_of_shaped
def O0:=@List.nodup_append
def O1:=@List.length_eq_zero_iff
def O2:=@List.map_drop
def O3:=@List.take_append_drop
def O4:=@List.take_succ_cons
def O5:=@List.findIdx?_eq_some_iff_getElem
def O6:=@Nat.pow_succ
def O7:=@List.getElem?_range
def O8:=@Bool.and_true
def O9:=@List.pairwise_map
def Pa:=@List.flatten_cons
def Pb:=@Classical.byContradiction
def Pc:=@Bool.not_not
def Pd:=@decide_eq_true_iff
def XG:=@PySem.wpAny_typeLookup_exc
def XH:=@PySem.wpAny_holding
def XI:=@Bool.or_true
def XJ:=@PySem.wpAny_seqItems
def XM:=@PySem.Obj.cls_mapFields
def XQ:=@PySem.wpAny_pyIter_tuple
def XR:=@List.getElem_inj
def XS:=@List.getElem?_set_self
def XU:=@List.getElem?_set_ne
def XY:=@PySem.wpAny_pyIter_list
def X0:=@Nat.lt_succ_self
def X1:=@PySem.plainObj_wpAny_Assign_Attribute
def X2:=@Nat.le_succ
def X3:=@List.getElem?_take_of_lt
def X5:=@List.length_drop
def X6:=@Array.getElem?_toList
def X7:=@List.length_dropLast
def X8:=@PySem.Heap.DictOf.new
def X9:=@Nat.add_le_add_left
def Yb:=@List.getElem?_drop
def Yc:=@Nat.add_zero
def Yd:=@Nat.lt_of_not_le
def Ye:=@List.mem_of_mem_drop
def Yg:=@beq_self_eq_true
def Yh:=@List.findIdx?_cons
def Yi:=@List.exists_cons_of_length_eq_add_one
def Yj:=@Nat.succ.inj
def Yk:=@List.filterMap_append
def Yl:=@List.zip_append
def Ym:=@Int.zero_add
def Yn:=@List.drop_eq_nil_of_le
def Yo:=@List.zip_map_right
def Yp:=@decide_eq_decide
def Yq:=@List.nodup_range
def Yr:=@List.filter_congr
def Ys:=@PySem.W.Codec.inNat_iff
def aoS:=@PySem.F.entry_tuple_iterator_next
def aoT:=@PySem.F.args_tuple_iterator_next_1
def aoZ:=@PySem.Calls.Name_function_global
def ao9:=@PySem.wpAny_newFunctionEnv_cells
def apa:=@PyProof.Rows.callWith_builtin1
def apc:=@PySem.AutoSeq1.sub_tuple_tuple
def apf:=@Option.isSome_some
def apg:=@Array.getElem?_eq_none
def api:=@List.getElem?_cons_zero
def apj:=@List.getElem?_cons_succ
def apn:=@PySem.wpAny_letOwnedTupleGo_enum
def apq:=@of_decide_eq_false
def aps:=@List.getElem_range
def apt:=@Int.toNat_of_nonneg
def apv:=@List.getLast?_eq_none_iff
def apw:=@List.mem_map_of_mem
def apx:=@Function.comp_apply
def apy:=@List.filter_eq_nil_iff
def apz:=@List.pairwise_filter
def apB:=@List.Sublist.nodup
def apC:=@Nat.eq_of_testBit_eq
def apD:=@Nat.testBit_two_pow_self
def apE:=@Classical.not_forall
def apF:=@List.mem_eraseDups
def apG:=@Nat.testBit_two_pow_add_gt
def apH:=@Nat.testBit_two_pow_add_eq
def apI:=@List.find?_cons_of_neg
def apJ:=@Nat.pos_of_ne_zero
def apK:=@List.filter_sublist
def apL:=@List.dropLast_concat
def apM:=@Nat.lt_or_eq_of_le
end A_
open A_
section
namespace OH
open PySem PySem.Calls PySem.W PyProof.Rows
def runT(Ak:String->Option Builtin)(P:Program)(W:World)(m:Nat)(an:Option Value):Nat->SharedT->Thread->Option SharedT
 |0,_,_=>none
 |k+1,x,y=>match through y with
  |true=>some x
  |false=>match stepOk m an y with
   |false=>none
   |true=>match stepT (denote Ak) P W x y with
    |some z=>runT Ak P W m an k z.1 z.2
    |none=>none
theorem Yt{Ak:String->Option Builtin}{P:Program}{W:World}{m:Nat}{an:Option Value}:∀(k:Nat)(x z:SharedT)(y:Thread),runT Ak P W m an k x y=some z->topRun Ak P W m an k x.abs y=some z.abs:=by
 intro k;induction k with
 |zero=>intro x z y h;cases h
 |succ k ih=>
  intro x z y h;unfold runT at h;unfold topRun;cases e1:through y with
  |true=>
   rw[e1] at h;cases h;rfl
  |false=>
   rw[e1] at h;cases e2:stepOk m an y with
   |false=>rw[e2] at h;cases h
   |true=>
    rw[e2] at h;dsimp only at h⊢;cases e3:stepT (denote Ak) P W x y with
    |none=>rw[e3] at h;cases h
    |some v=>
     rw[e3] at h;rw[stepT_spec (s':=v.1) (t':=v.2) e3];exact ih _ _ _ h
def treeOf(l:List Obj):BT:=(l.foldl (λ(x:BT×Nat)o=>(x.1.ins x.2 o,x.2+1)) (.nil,0)).1
noncomputable def startT (W:World) (O:OsState):SharedT:=⟨treeOf (boot_heap W.params).objs.toList,(boot_heap W.params).objs.toList.length,(boot_heap W.params).life,Array.mk [],boot_drawn,boot_toks,O⟩
noncomputable def yx (W:World) (O:OsState):Shared:=⟨boot_heap W.params,Array.mk [],boot_drawn,boot_toks,O⟩
def Yu(W:World)(O:OsState):(startT W O).abs=yx W O:=by
 kernel_rfl
noncomputable def keptAt (P:Program) (W:World) (x:Shared):Bool:=staticsOk Àg (boot_heap W.params) x.heap&&namesBound P x.heap&&gensDone x&&laidKept (boot_heap W.params) x.heap
noncomputable def looksAt (P Q:Program) (lo:List Str) (Xt:Shared->Bool) {α:Type} (Yf:Shared->α) (W:World) (x:Shared):=
 (keptAt P W x,openSeen Q lo Àg Xt true x,Yf x)
def Yv{P:Program}{W:World}{N m:Nat}{an:Option Value}{O:OsState}{z:Shared}(size:((boot_heap W.params).isNs mainGlobals,(boot_heap W.params).objs.size,(boot_heap W.params).nsMap mainGlobals "__annotations__")=(true,m,an))(run:topRun treeTable P W m an N (yx W O) Çn=some z) (kept:keptAt P W z=true):topFrom treeTable P W N (yx W O)=some z:=by
 have s1:(boot_heap W.params).isNs mainGlobals=true:=cE Prod.fst size;have s2:(boot_heap W.params).objs.size=m:=cE (λx=>x.2.1) size;have s3:(boot_heap W.params).nsMap mainGlobals "__annotations__"=an:=cE (λx=>x.2.2) size;subst s2;subst s3;have g:((yx W O).heap.isNs mainGlobals&&(yx W O).gens.size==0)=true:=by
  show((boot_heap W.params).isNs mainGlobals&&true)=true;rw[s1];rfl
 unfold topFrom;rw[g];show(topRun treeTable P W (boot_heap W.params).objs.size ((boot_heap W.params).nsMap mainGlobals "__annotations__") N (yx W O) Çn).bind _=some z;rw[run];show(match keptAt P W z with|true=>some z|false=>none)=some z;rw[kept]
def Yw{P Q:Program}{lo:List Str}{Xt:Shared->Bool}{α:Type}{Yf:Shared->α}{Ya:World->α}{N:Nat}{m:Nat}{an:Option Value}{M:Nat}(e:opening P=plainProg P.main.scope.names) (hN:Nat.ble 600 N=true) (f:∀s,fenceModules? P s=some s)(size:∀W:World,((boot_heap W.params).isNs mainGlobals,(boot_heap W.params).objs.size,(boot_heap W.params).nsMap mainGlobals "__annotations__")=(true,m,an))(le:Nat.ble M N=true)(fin:∀(W:World)(O:OsState),(runT treeTable P W m an M (startT W O) Çn).map (λs=>looksAt P Q lo Xt Yf W s.abs)=some (true,openGood Q lo,Ya W)):LeftO P Q lo Xt Yf Ya N:=by
 intro W;obtain⟨⟨h,gs,d,k,O⟩,o1,o2⟩:=yq.mp (boot_open e hN f W);cases o2;obtain⟨z,r1,r2⟩:=yq.mp (fin W O);have r3:=Yt _ _ _ _ r1;rw[Yu] at r3;have r4:=topRun_mono (N-M) _ _ _ _ r3;have hM:M+(N-M)=N:=Nat.add_sub_cancel' (Nat.le_of_ble_eq_true le);rw[hM] at r4;have c1:keptAt P W z.abs=true:=cE Prod.fst r2;have c2:(openSeen Q lo Àg Xt true z.abs,Yf z.abs)=(openGood Q lo,Ya W):=cE Prod.snd r2;have t:topFrom treeTable P W N ⟨boot_heap W.params,Array.mk [],boot_drawn,boot_toks,O⟩=some z.abs:=Yv (size W) r4 c1;unfold openEnds;rw[o1];show Option.map _ (topFrom treeTable P W N ⟨boot_heap W.params,Array.mk [],boot_drawn,boot_toks,O⟩)=_;rw[t];exact cE some c2
lay_quick OH.runT
def Yx(W:World):((boot_heap W.params).isNs mainGlobals,(boot_heap W.params).objs.size,(boot_heap W.params).nsMap mainGlobals "__annotations__")=(true,11,some (.ref 6)):=by
 kernel_rfl
def Yy{P Q:Program}{lo:List Str}{Xt:Shared->Bool}{α:Type}{Yf:Shared->α}{Ya:World->α}{N:Nat}(e:opening P=plainProg P.main.scope.names) (hN:Nat.ble 600 N=true) (f:∀s,fenceModules? P s=some s)(fin:∀(W:World)(O:OsState),(PySem.W.Fast.tw1264388230241321415 PySem.W.Fast.tw14364793385576792824 P W 11 (some (.ref 6)) N (startT W O) Çn).map (λs=>looksAt P Q lo Xt Yf W s.abs)=some (true,openGood Q lo,Ya W)):LeftO P Q lo Xt Yf Ya N:=
 Yw e hN f Yx (Nat.ble_eq_true_of_le (bJ N)) λW O=>by
  rw[PySem.W.Fast.te1264388230241321415,PySem.W.Fast.te14364793385576792824];exact fin W O
end OH
end
section
namespace L2
open PySem PySem.Spec PyProof.Rows
def inClass(s:Stmt)(j:Nat):Stmt:=match s with
 |.ClassDef _ _ _ gM _ _ _ _ _ _ _=>gM.getD j (.Pass ⟨0,0,0,0⟩)
 |_=>.Pass ⟨0,0,0,0⟩
def t7(s:Stmt):Arguments:=match s with
 |.FunctionDef _ a _ _ _ _ _ _ _ _=>a
 |_=>{posonlyargs:=[],args:=[],vararg:=none,kwonlyargs:=[],kw_defaults:=[],kwarg:=none,defaults:=[]}
def iW(s:Stmt):List Stmt:=match s with
 |.FunctionDef _ _ b _ _ _ _ _ _ _=>b
 |_=>[]
def aV(s:Stmt):Scope:=match s with
 |.FunctionDef _ _ _ _ _ _ sc _ _ _=>sc
 |_=>{kind:=.function,names:=[],isGenerator:=false,isCoroutine:=false}
end L2
namespace HD
open PySem PySem.Spec PyProof.Rows L2
def top(i:Nat):Stmt:=PySem.Challenge.pw_halfseendesk_s04_nth.main.body.getD i (.Pass ⟨0,0,0,0⟩)
@[reducible] def kf (n q:Str) (st:Stmt) (m c:Value):Obj:=⟨.type "function",none,.func (PySem.W.fnOf n q (t7 st) Åf Ϯ .none .none .none m none c .none),#[]⟩
@[reducible] def ke (P:Params) (x:Str) (t:Nat) (v:Value):DictEntry:=⟨PyData.keyHash P x,.str x t,v⟩
@[reducible] def kc (n q:Str) (t:Nat) (l c:Int) (r:Nat) (x y:Value) (e:Nat) (d:Nat):Obj:=⟨.type "code",none,.fields #[.str n t,.str q (t+1),.str "/claim/cut.py" (t+2),.int l 0,.int c 0,.int 0 0,.int 0 0,.int 3 0,.ref r,.bool true,.int 181 0,.ref (r+1),.none,x,y,.ref e,.int d 0,.int l 0,.str "/claim/cut.py" (d+1)],#[]⟩
@[reducible] def kd (n:Str) (t:Nat) (l c:Int) (r:Nat) (x y:Value) (e:Nat) (d:Nat):Obj:=kc n n t l c r x y e d
@[reducible] def km (t:Nat):Str:=if t=187 then "halfseendesk.looks" else if t=214 then "halfseendesk.texts" else if t=292 then "halfseendesk.lockers" else if t=470 then "halfseendesk.platetexts" else if t=712 then "halfseendesk.sights" else if t=796 then "halfseendesk.displays" else if t=904 then "halfseendesk.books" else if t=1044 then "halfseendesk.readings" else "halfseendesk.plates"
@[reducible] def kg (n:Str) (i t r:Nat):Obj:=kf n n (top i) (.str (km t) t) Âe
@[reducible] def kr (P:Params) (x:Str) (t r:Nat):DictEntry:=ke P x t Âe
@[reducible] def ki (P:Params) (x:Str) (v:Int) (t:Nat):DictEntry:=ke P x (t+1) (.int v t)
@[reducible] def kx (P:Params) (a m:Nat) (l:Int) (e r f:Nat):Obj:=⟨.type "dict",none,.dict #[ke P "__module__" a (.str (km m) m),ke P "__firstlineno__" (a+4) (.int l (a+3)),kr P "__init__" e r,kr P "__static_attributes__" f (r+1),kr P "__dict__" (f+2) (r+4),kr P "__weakref__" (f+4) (r+5),ke P "__doc__" (f+5) .none] 4,#[]⟩
@[reducible] def ky (P:Params) (a m:Nat) (l:Int) (r:Nat):Obj:=⟨.type "dict",none,.dict #[ke P "__module__" a (.str (km m) m),ke P "__firstlineno__" (a+4) (.int l (a+3)),kr P "__static_attributes__" (a+5) r,kr P "__weakref__" (a+7) (r+3),ke P "__doc__" (a+8) .none] 3,#[]⟩
@[reducible] def kt (n:Str) (r s t:Nat):Obj:=⟨.type "type",none,.cls ⟨n,[.type "object"],[.ref r,.type "object"],s,n,true,[],[],false,none,false⟩,#[none,none,some (.str n t),some (.str n (t+8)),some (.builtin "object.__new__"),some (.bool true)]⟩
@[reducible] def ku (n:Str) (r s x t:Nat):Obj:=⟨.type "type",none,.cls ⟨n,[.type "Exception"],[.ref r,.type "Exception",.type "BaseException",.type "object"],s,n,true,[],[],false,none,false⟩,#[some Ŝ,none,some (.str n t),some (.str n (t+8)),some (.builtin "Exception.__new__"),some (.bool true)]⟩
@[reducible] def kj (q:Str) (i t r:Nat):Obj:=kf "__init__" q (inClass (top i) 0) (.str (km t) t) Âe
@[reducible] def kh (q:Str) (t:Nat) (l c:Int) (r:Nat) (x y:Value) (e:Nat) (d:Nat):Obj:=kc "__init__" q t l c r x y e d
@[reducible] def kv (n:Str) (t:Nat) (l c:Int) (r d:Nat):Obj:=kd n t l c r (.ref (r+2)) (.ref (r+3)) (r+4) d
@[reducible] def kn (n:Str) (t:Nat) (l c:Int) (r d:Nat):Obj:=kh n t l c r (.ref (r+2)) (.ref (r+3)) (r+4) d
@[reducible] def kw (n:Str) (t:Nat) (l c:Int) (r d:Nat):Obj:=kd n t l c r .none .none (r+2) d
noncomputable def kK (P:Params):PySem.W.Frag:=
 (nat_lit 3,⟨(.type "dict"),none,(.dict #[ke P "__name__" 165 (.str "halfseendesk.plates" 1135),ke P "__doc__" 166 .none,ke P "__package__" 167 .none,ke P "__loader__" 168 (.builtin "__main__.__loader__#opaque"),ke P "__spec__" 169 .none,kr P "__annotations__" 170 6,kr P "__builtins__" 171 4,ke P "__file__" 173 (.str "/claim/cut.py" 172),ke P "__cached__" 174 .none,kr P "SHAPES" 192 15,ki P "FRONT" 0 193,ki P "BEHIND" 1 195,ki P "CELLS" 16 197,ki P "ROW" 4 199,kr P "cell_behind" 207 22,kr P "cells_seen" 213 27,ki P "MOST_BYTES" 65536 216,ki P "LINE_END" 10 218,ki P "BLANK" 32 220,ke P "COLOUR_SIGNS" 223 (.str "0123456789abcdef" 222),ke P "NAME_SIGNS" 225 (.str "ABCDEFGHIJKLMNOPQRSTUVWXYZ0123456789" 224),ki P "LONGEST_NAME" 8 226,kr P "spelled" 233 32,kr P "cut" 243 39,kr P "whole_lines" 252 46,kr P "place_among" 262 53,kr P "places_in" 268 58,kr P "read_colours" 275 65,kr P "is_name" 282 72,kr P "name_behind" 291 79,ki P "SIGN" 0 294,ki P "SAME" 1 296,kr P "ROLES" 301 80,kr P "WORDS_OF_ROLES" 305 81,ki P "MOST_COPIES" 8 306,ki P "MOST_SAME" 4 308,ki P "MOST_SIGNS" 48 310,ki P "DIGIT_ZERO" 48 312,kr P "NoLocker" 333 91,kr P "Kind" 372 111,kr P "Locker" 403 132,kr P "read_locker" 409 141,kr P "read_name" 416 148,kr P "read_digit" 424 155,kr P "read_kind" 438 162,kr P "are_in_order" 444 561,kr P "are_in_order_lockers" 445 167,kr P "may_follow" 453 174,kr P "are_different" 459 179,kr P "has_twice" 465 184,ki P "MOST_HOISTS" 4 466,ki P "MOST_FLAGS" 8 468,kr P "SIDES" 475 185,ki P "UNKNOWN_SIDE" 2 476,kr P "HOIST_LINES" 482 186,kr P "SEEN_SHAPES" 487 187,ke P "SEEN_SIGNS" 489 (.str "0123456789abcdef?" 488),ki P "UNSEEN_SHAPE" 3 490,ki P "UNSEEN_CELL" 16 492,ki P "SIDE_LINE" 0 494,ki P "HOIST_LINE" 1 496,ki P "SHAPE_LINE" 2 498,ki P "CELLS_LINE" 3 500,ki P "NO_SUCH_LINE" 1 502,ki P "WRONG_PLACE" 2 504,kr P "NoPlate" 536 204,kr P "Sighting" 567 224,kr P "Glimpse" 600 245,kr P "Plate" 633 266,kr P "read_plate" 646 277,kr P "read_line" 656 284,kr P "read_side" 666 291,kr P "read_row" 673 298,kr P "may_stand" 681 305,kr P "lacks_flags" 688 312,kr P "lacks_cells" 695 319,kr P "has_whole_hoists" 702 326,kr P "put" 711 333,kr P "sighting_of" 722 340,kr P "View" 753 357,kr P "view_of" 759 366,kr P "kinds_along" 765 371,kr P "kinds_that_look_so" 771 376,kr P "may_be" 777 381,kr P "fits" 783 386,kr P "hoist_fits" 789 391,kr P "fits_at" 795 396,kr P "Plan" 830 413,kr P "display_told" 836 422,kr P "copies_lacking" 842 427,kr P "sames_along" 848 432,kr P "bits_of_sames" 854 437,kr P "places_of" 867 444,kr P "plan_of" 873 449,kr P "places_outside" 879 454,kr P "copies_in" 885 459,kr P "hoist_told" 891 464,kr P "flag_told" 897 469,kr P "hang" 903 474,ki P "TITLE_LINES" 2 906,ki P "MOST_ENTRIES" 2048 908,ki P "LONGEST_MEANING" 64 910,ki P "FULL_STOP" 46 912,ki P "LAST_PRINTED" 126 914,kr P "NoBook" 935 484,kr P "Entry" 966 504,kr P "Book" 997 525,kr P "read_book" 1003 534,kr P "numbers_of_signs" 1009 539,kr P "read_entry" 1018 546,kr P "read_signs" 1024 551,kr P "read_meaning" 1030 556,kr P "are_in_order_books" 1037 561,kr P "can_be_shown" 1043 566,ki P "MOST_IN_DOUBT" 1024 1046,kr P "TooMuchInDoubt" 1067 576,kr P "Reading" 1100 596,kr P "readings_of" 1106 605,kr P "entries_in_doubt" 1112 610,kr P "product" 1121 617,kr P "all_rows" 1127 622,kr P "sides_of" 1134 629,kr P "Finding" 1171 646,kr P "nth" 1182 657,kr P "nth_told" 1191 664,kr P "answered" 1202 671,kr P "found" 1214 678] 127),#[]⟩)::
 (nat_lit 15,⟨(.type "tuple"),none,(.seq #[(.str "square" 189),(.str "tails" 190),(.str "long" 191)] 0),#[]⟩)::
 (nat_lit 21,kv "cell_behind" 201 7 1 16 205)::
 (nat_lit 22,kg "cell_behind" 6 187 21)::
 (nat_lit 26,kw "cells_seen" 208 9 3 23 211)::
 (nat_lit 27,kg "cells_seen" 7 187 26)::
 (nat_lit 31,kw "spelled" 228 20 1 28 231)::
 (nat_lit 32,kg "spelled" 15 214 31)::
 (nat_lit 38,kv "cut" 234 22 2 33 241)::
 (nat_lit 39,kg "cut" 16 214 38)::
 (nat_lit 45,kv "whole_lines" 244 30 1 40 250)::
 (nat_lit 46,kg "whole_lines" 17 214 45)::
 (nat_lit 52,kv "place_among" 253 34 2 47 260)::
 (nat_lit 53,kg "place_among" 18 214 52)::
 (nat_lit 57,kw "places_in" 263 39 2 54 266)::
 (nat_lit 58,kg "places_in" 19 214 57)::
 (nat_lit 64,kv "read_colours" 269 44 1 59 273)::
 (nat_lit 65,kg "read_colours" 20 214 64)::
 (nat_lit 71,kv "is_name" 276 48 1 66 280)::
 (nat_lit 72,kg "is_name" 21 214 71)::
 (nat_lit 78,kv "name_behind" 283 50 2 73 289)::
 (nat_lit 79,kg "name_behind" 22 214 78)::
 (nat_lit 80,⟨(.type "tuple"),none,(.seq #[(.str "sign" 298),(.str "same" 299),(.str "answer" 300)] 0),#[]⟩)::
 (nat_lit 81,⟨(.type "tuple"),none,(.seq #[(.int 5 302),(.int 5 303),(.int 4 304)] 0),#[]⟩)::
 (nat_lit 90,ky P 321 292 64 89)::
 (nat_lit 91,ku "NoLocker" 91 90 82 314)::
 (nat_lit 107,kn "Kind.__init__" 346 68 7 102 356)::
 (nat_lit 108,kj "Kind.__init__" 33 292 107)::
 (nat_lit 110,kx P 341 292 66 358 108 365)::
 (nat_lit 111,kt "Kind" 111 110 334)::
 (nat_lit 128,kn "Locker.__init__" 385 77 3 123 391)::
 (nat_lit 129,kj "Locker.__init__" 34 292 128)::
 (nat_lit 131,kx P 380 292 75 393 129 396)::
 (nat_lit 132,kt "Locker" 132 131 373)::
 (nat_lit 140,kw "read_locker" 404 80 1 137 407)::
 (nat_lit 141,kg "read_locker" 35 292 140)::
 (nat_lit 147,kv "read_name" 410 89 1 142 414)::
 (nat_lit 148,kg "read_name" 36 292 147)::
 (nat_lit 154,kv "read_digit" 417 93 2 149 422)::
 (nat_lit 155,kg "read_digit" 37 292 154)::
 (nat_lit 161,kv "read_kind" 425 97 1 156 436)::
 (nat_lit 162,kg "read_kind" 38 292 161)::
 (nat_lit 166,kw "are_in_order" 439 110 1 163 442)::
 (nat_lit 167,kg "are_in_order" 39 292 166)::
 (nat_lit 173,kv "may_follow" 446 116 2 168 451)::
 (nat_lit 174,kg "may_follow" 41 292 173)::
 (nat_lit 178,kw "are_different" 454 120 1 175 457)::
 (nat_lit 179,kg "are_different" 42 292 178)::
 (nat_lit 183,kw "has_twice" 460 124 1 180 463)::
 (nat_lit 184,kg "has_twice" 43 292 183)::
 (nat_lit 185,⟨(.type "tuple"),none,(.seq #[(.str "front" 472),(.str "behind" 473),(.str "unknown" 474)] 0),#[]⟩)::
 (nat_lit 186,⟨(.type "tuple"),none,(.seq #[(.str "hoist" 478),(.str "hoist above" 479),(.str "hoist below" 480),(.str "hoist above below" 481)] 0),#[]⟩)::
 (nat_lit 187,⟨(.type "tuple"),none,(.seq #[(.str "square" 483),(.str "tails" 484),(.str "long" 485),(.str "shape?" 486)] 0),#[]⟩)::
 (nat_lit 200,kn "NoPlate.__init__" 518 144 3 195 524)::
 (nat_lit 201,kj "NoPlate.__init__" 60 470 200)::
 (nat_lit 203,⟨(.type "dict"),none,(.dict #[ke P "__module__" 513 (.str "halfseendesk.platetexts" 470),ke P "__firstlineno__" 517 (.int 142 516),ke P "__init__" 526 (.ref 201),ke P "__static_attributes__" 529 (.ref 202),ke P "__weakref__" 531 (.ref 205),ke P "__doc__" 532 .none] 3),#[]⟩)::
 (nat_lit 204,ku "NoPlate" 204 203 188 506)::
 (nat_lit 220,kn "Sighting.__init__" 549 150 3 215 555)::
 (nat_lit 221,kj "Sighting.__init__" 61 470 220)::
 (nat_lit 223,kx P 544 470 148 557 221 560)::
 (nat_lit 224,kt "Sighting" 224 223 537)::
 (nat_lit 241,kn "Glimpse.__init__" 580 155 4 236 587)::
 (nat_lit 242,kj "Glimpse.__init__" 62 470 241)::
 (nat_lit 244,kx P 575 470 153 589 242 593)::
 (nat_lit 245,kt "Glimpse" 245 244 568)::
 (nat_lit 262,kn "Plate.__init__" 613 161 4 257 620)::
 (nat_lit 263,kj "Plate.__init__" 63 470 262)::
 (nat_lit 265,kx P 608 470 159 622 263 626)::
 (nat_lit 266,kt "Plate" 266 265 601)::
 (nat_lit 276,kv "read_plate" 634 165 1 271 644)::
 (nat_lit 277,kg "read_plate" 64 470 276)::
 (nat_lit 283,kv "read_line" 647 181 1 278 654)::
 (nat_lit 284,kg "read_line" 65 470 283)::
 (nat_lit 290,kv "read_side" 657 187 1 285 664)::
 (nat_lit 291,kg "read_side" 66 470 290)::
 (nat_lit 297,kv "read_row" 667 196 1 292 671)::
 (nat_lit 298,kg "read_row" 67 470 297)::
 (nat_lit 304,kv "may_stand" 674 200 2 299 679)::
 (nat_lit 305,kg "may_stand" 68 470 304)::
 (nat_lit 311,kv "lacks_flags" 682 208 1 306 686)::
 (nat_lit 312,kg "lacks_flags" 69 470 311)::
 (nat_lit 318,kv "lacks_cells" 689 210 1 313 693)::
 (nat_lit 319,kg "lacks_cells" 70 470 318)::
 (nat_lit 325,kv "has_whole_hoists" 696 214 1 320 700)::
 (nat_lit 326,kg "has_whole_hoists" 71 470 325)::
 (nat_lit 332,kv "put" 703 216 3 327 709)::
 (nat_lit 333,kg "put" 72 470 332)::
 (nat_lit 339,kv "sighting_of" 714 227 3 334 720)::
 (nat_lit 340,kg "sighting_of" 74 712 339)::
 (nat_lit 353,kn "View.__init__" 735 231 3 348 741)::
 (nat_lit 354,kj "View.__init__" 75 712 353)::
 (nat_lit 356,kx P 730 712 229 743 354 746)::
 (nat_lit 357,kt "View" 357 356 723)::
 (nat_lit 365,kw "view_of" 754 234 3 362 757)::
 (nat_lit 366,kg "view_of" 76 712 365)::
 (nat_lit 370,kw "kinds_along" 760 237 2 367 763)::
 (nat_lit 371,kg "kinds_along" 77 712 370)::
 (nat_lit 375,kw "kinds_that_look_so" 766 239 2 372 769)::
 (nat_lit 376,kg "kinds_that_look_so" 78 712 375)::
 (nat_lit 380,kw "may_be" 772 241 2 377 775)::
 (nat_lit 381,kg "may_be" 79 712 380)::
 (nat_lit 385,kw "fits" 778 245 3 382 781)::
 (nat_lit 386,kg "fits" 80 712 385)::
 (nat_lit 390,kw "hoist_fits" 784 247 3 387 787)::
 (nat_lit 391,kg "hoist_fits" 81 712 390)::
 (nat_lit 395,kw "fits_at" 790 252 3 392 793)::
 (nat_lit 396,kg "fits_at" 82 712 395)::
 (nat_lit 409,kn "Plan.__init__" 810 257 4 404 817)::
 (nat_lit 410,kj "Plan.__init__" 84 796 409)::
 (nat_lit 412,kx P 805 796 255 819 410 823)::
 (nat_lit 413,kt "Plan" 413 412 798)::
 (nat_lit 421,kw "display_told" 831 261 2 418 834)::
 (nat_lit 422,kg "display_told" 85 796 421)::
 (nat_lit 426,kw "copies_lacking" 837 271 2 423 840)::
 (nat_lit 427,kg "copies_lacking" 86 796 426)::
 (nat_lit 431,kw "sames_along" 843 277 3 428 846)::
 (nat_lit 432,kg "sames_along" 87 796 431)::
 (nat_lit 436,kw "bits_of_sames" 849 279 4 433 852)::
 (nat_lit 437,kg "bits_of_sames" 88 796 436)::
 (nat_lit 443,kv "places_of" 855 282 2 438 865)::
 (nat_lit 444,kg "places_of" 89 796 443)::
 (nat_lit 448,kw "plan_of" 868 288 4 445 871)::
 (nat_lit 449,kg "plan_of" 90 796 448)::
 (nat_lit 453,kw "places_outside" 874 297 2 450 877)::
 (nat_lit 454,kg "places_outside" 91 796 453)::
 (nat_lit 458,kw "copies_in" 880 299 3 455 883)::
 (nat_lit 459,kg "copies_in" 92 796 458)::
 (nat_lit 463,kw "hoist_told" 886 301 3 460 889)::
 (nat_lit 464,kg "hoist_told" 93 796 463)::
 (nat_lit 468,kw "flag_told" 892 303 3 465 895)::
 (nat_lit 469,kg "flag_told" 94 796 468)::
 (nat_lit 473,kw "hang" 898 311 4 470 901)::
 (nat_lit 474,kg "hang" 95 796 473)::
 (nat_lit 483,ky P 923 904 327 482)::
 (nat_lit 484,ku "NoBook" 484 483 475 916)::
 (nat_lit 500,kn "Entry.__init__" 948 331 3 495 954)::
 (nat_lit 501,kj "Entry.__init__" 103 904 500)::
 (nat_lit 503,kx P 943 904 329 956 501 959)::
 (nat_lit 504,kt "Entry" 504 503 936)::
 (nat_lit 521,kn "Book.__init__" 979 336 3 516 985)::
 (nat_lit 522,kj "Book.__init__" 104 904 521)::
 (nat_lit 524,kx P 974 904 334 987 522 990)::
 (nat_lit 525,kt "Book" 525 524 967)::
 (nat_lit 533,kw "read_book" 998 339 2 530 1001)::
 (nat_lit 534,kg "read_book" 105 904 533)::
 (nat_lit 538,kw "numbers_of_signs" 1004 351 1 535 1007)::
 (nat_lit 539,kg "numbers_of_signs" 106 904 538)::
 (nat_lit 545,kv "read_entry" 1010 353 2 540 1016)::
 (nat_lit 546,kg "read_entry" 107 904 545)::
 (nat_lit 550,kw "read_signs" 1019 358 2 547 1022)::
 (nat_lit 551,kg "read_signs" 108 904 550)::
 (nat_lit 555,kw "read_meaning" 1025 363 1 552 1028)::
 (nat_lit 556,kg "read_meaning" 109 904 555)::
 (nat_lit 560,kw "are_in_order" 1031 369 1 557 1034)::
 (nat_lit 561,kg "are_in_order" 110 904 560)::
 (nat_lit 565,kw "can_be_shown" 1038 373 2 562 1041)::
 (nat_lit 566,kg "can_be_shown" 112 904 565)::
 (nat_lit 575,ky P 1055 1044 377 574)::
 (nat_lit 576,ku "TooMuchInDoubt" 576 575 567 1048)::
 (nat_lit 592,kn "Reading.__init__" 1080 381 4 587 1087)::
 (nat_lit 593,kj "Reading.__init__" 116 1044 592)::
 (nat_lit 595,kx P 1075 1044 379 1089 593 1093)::
 (nat_lit 596,kt "Reading" 596 595 1068)::
 (nat_lit 604,kw "readings_of" 1101 385 3 601 1104)::
 (nat_lit 605,kg "readings_of" 117 1044 604)::
 (nat_lit 609,kw "entries_in_doubt" 1107 397 2 606 1110)::
 (nat_lit 610,kg "entries_in_doubt" 118 1044 609)::
 (nat_lit 616,kv "product" 1113 402 1 611 1119)::
 (nat_lit 617,kg "product" 119 1044 616)::
 (nat_lit 621,kw "all_rows" 1122 407 1 618 1125)::
 (nat_lit 622,kg "all_rows" 120 1044 621)::
 (nat_lit 628,kv "sides_of" 1128 417 1 623 1132)::
 (nat_lit 629,kg "sides_of" 121 1044 628)::
 (nat_lit 642,kn "Finding.__init__" 1149 422 5 637 1157)::
 (nat_lit 643,kj "Finding.__init__" 123 1135 642)::
 (nat_lit 645,kx P 1144 1135 420 1159 643 1164)::
 (nat_lit 646,kt "Finding" 646 645 1137)::
 (nat_lit 656,kv "nth" 1172 427 4 651 1180)::
 (nat_lit 657,kg "nth" 124 1135 656)::
 (nat_lit 663,kv "nth_told" 1183 429 2 658 1189)::
 (nat_lit 664,kg "nth_told" 125 1135 663)::
 (nat_lit 670,kv "answered" 1192 434 4 665 1200)::
 (nat_lit 671,kg "answered" 126 1135 670)::
 (nat_lit 677,kv "found" 1203 448 3 672 1212)::
 (nat_lit 678,kg "found" 127 1135 677)::[]
def kA:List Addr:=[3,15,21,22,26,27,31,32,38,39,45,46,52,53,57,58,64,65,71,72,78,79,80,81,90,91,107,108,110,111,128,129,131,132,140,141,147,148,154,155,161,162,166,167,173,174,178,179,183,184,185,186,187,200,201,203,204,220,221,223,224,241,242,244,245,262,263,265,266,276,277,283,284,290,291,297,298,304,305,311,312,318,319,325,326,332,333,339,340,353,354,356,357,365,366,370,371,375,376,380,381,385,386,390,391,395,396,409,410,412,413,421,422,426,427,431,432,436,437,443,444,448,449,453,454,458,459,463,464,468,469,473,474,483,484,500,501,503,504,521,522,524,525,533,534,538,539,545,546,550,551,555,556,560,561,565,566,575,576,592,593,595,596,604,605,609,610,616,617,621,622,628,629,642,643,645,646,656,657,663,664,670,671,677,678]
noncomputable def kQ:Program:=PySem.W.view PySem.Challenge.pw_halfseendesk_s04_nth [1,2,3,4,5,6,7,9,10,11,12,13,14,15,16,17,18,19,20,21,22,24,25,26,27,28,29,30,31,32,33,34,35,36,37,38,40,41,42,43,44,45,47,48,49,50,51,52,53,54,55,56,57,58,59,60,61,62,63,64,65,66,67,68,69,70,71,72,74,75,76,77,78,79,80,81,82,84,85,86,87,88,89,90,91,92,93,94,95,97,98,99,100,101,102,103,104,105,106,107,108,109,110,111,112,114,115,116,117,118,119,120,121,123,124,125,126,127]
def kE(P:Params):kA=(kK P).map (·.1):=by kernel_rfl
abbrev kL:List Str:=["are_in_order_lockers","are_in_order_books"]
noncomputable abbrev kX:Shared->Bool:=λs=>PySem.W.xlAt kQ [] s&&PySem.W.recOk [] s
noncomputable abbrev kR (w:World) (os:OsState):=PySem.W.Fast.tw1264388230241321415 PySem.W.Fast.tw14364793385576792824 PySem.Challenge.pw_halfseendesk_s04_nth w 11 (some (.ref 6)) 11224 (OH.startT w os) (PySem.W.topStub PySem.Challenge.pw_halfseendesk_s04_nth)
section
open PySem.Calls PySem.W
def qy(w:World)(os:OsState):(kR w os).map (λs=>(s.abs.heap.bltView,plainSeenD kQ kL s.abs,clsSeenW kQ kL s.abs,(s.abs.heap.accountedOkI (importedModules PySem.Challenge.pw_halfseendesk_s04_nth.main.body),s.abs.heap.isNs mainGlobals,s.abs.heap.isNs builtinsNs),(kX s.abs,s.abs.gens.size==0),OH.keptAt PySem.Challenge.pw_halfseendesk_s04_nth w s.abs,pinSeenD kQ (drecsOf kQ) s.abs,Hook.obs Âo s.abs))=some (bltViewBooted,plainGoodD kQ kL,clsGoodW kQ kL,(true,true,true),(true,true),true,pinGoodD (drecsOf kQ),Hook.val Âo w):=by kernel_rfl
def oh(w:World)(os:OsState):(kR w os).map (λs=>(tablesOk kQ s.abs.heap,seen ((recsOf kQ).map (·.name)) (ownsOf kQ) [] {s.abs with gens:= #[]}))=some (true,expectedOf kQ):=by kernel_rfl
def qz(w:World)(os:OsState):(kR w os).map (λs=>(s.abs.heap.keysOk Äg ((recsOf kQ).map (·.name)) ((litsOf kQ).map (·.1)) ((clssOf kQ Äg).map (·.name))))=some (true):=by kernel_rfl
def Ho(w:World)(os:OsState):(kR w os).map (λs=>(tabsOk kQ s.abs))=some (true):=by kernel_rfl
def Yz(w:World)(os:OsState):(kR w os).map (λs=>(plainSeenE kQ Äg s.abs))=some (plainGoodE kQ Äg):=by kernel_rfl
def Hq(w:World)(os:OsState):(kR w os).map (λs=>(wideSeen kQ s.abs))=some (wideGood kQ):=by kernel_rfl
def lS{α β:Type}{x:Option α}{z:α}{f:α->β}{b:β}(r:x=some z)(h:x.map f=some b):f z=b:=by
 rw[r] at h;exact aN h
def YA{A B C D E F G H I J K:Type}{a a':A}{b b':B}{c c':C}{d d':D}{e e':E}{f f':F}{g g':G}{h h':H}{i i':I}{j j':J}{k k':K}(h1:a=a')(h2:b=b')(h3:c=c')(h4:d=d')(h5:e=e')(h6:f=f')(h7:g=g')(h8:h=h')(h9:i=i')(YB:j=j')(YC:k=k'):
  (a,(b,c,d,e,f,g,h,i,j),k)=(a',(b',c',d',e',f',g',h',i',j'),k'):=by
 cases h1;cases h2;cases h3;cases h4;cases h5;cases h6;cases h7;cases h8;cases h9;cases YB;cases YC;rfl
def YD:LeftO PySem.Challenge.pw_halfseendesk_s04_nth kQ kL kX (Hook.obs Âo) (Hook.val Âo) 11224:=
 OH.Yy (by kernel_rfl) Õ (λs=>by kernel_rfl) λw os=>by
  obtain⟨z,r,_⟩:=yq.mp (qy w os);rw[show PySem.W.Fast.tw1264388230241321415 PySem.W.Fast.tw14364793385576792824 PySem.Challenge.pw_halfseendesk_s04_nth w 11 (some (.ref 6)) 11224 (OH.startT w os) (PySem.W.topStub PySem.Challenge.pw_halfseendesk_s04_nth)=some z from r];have g0:=lS r (qy w os);have YE:=cE (λx=>x.1) g0;have YF:=cE (λx=>x.2.1) g0;have YG:=cE (λx=>x.2.2.1) g0;have Hr:=cE (λx=>x.2.2.2.1) g0;have Pe:=cE (λx=>x.2.2.2.2.1) g0;have YH:=cE (λx=>x.2.2.2.2.2.1) g0;have YI:=cE (λx=>x.2.2.2.2.2.2.1) g0;have YJ:=cE (λx=>x.2.2.2.2.2.2.2) g0;have g1:=lS r (oh w os);have YK:=cE (λx=>x.1) g1;have YL:=cE (λx=>x.2) g1;have g2:=lS r (qz w os);have YM:=g2;have g3:=lS r (Ho w os);have YN:=g3;have g4:=lS r (Yz w os);have YO:=g4;have g5:=lS r (Hq w os);have YQ:=g5;dsimp only at*;refine cE some (YA YH YL YE ?_ YN YI YO YF YQ YG YJ);have a1:=cE (λx=>x.1) Hr;have a2:=cE (λx=>x.2.1) Hr;have a3:=cE (λx=>x.2.2) Hr;have b1:=cE (λx=>x.1) Pe;have b2:=cE (λx=>x.2) Pe;dsimp only at a1 a2 a3 b1 b2;show(_&&_&&_&&_&&_&&_&&(z.abs.gens.size==0))=true;rw[YM,a1,a2,a3,YK,b1,b2];rfl
end
end HD
end
abbrev LI:=List Int
abbrev LN:=List Nat
abbrev bp:=List (List Nat)
abbrev di:=List (List Int)
abbrev FR:=PySem.W.Frag
abbrev MG:=PySem.Str->Option PySem.Value
abbrev OA:=Option PySem.Addr
abbrev LV:=List PySem.Value
abbrev LS:=List PySem.Str
abbrev AO:=Array (Option PySem.Value)
abbrev VP:=PySem.Value->PySem.Shared->Prop
abbrev bG:=List (PySem.Addr×PySem.Obj)
abbrev cg:=List (Nat×Nat)
abbrev eV:=List (PySem.Str×PySem.Addr)
abbrev LA:=List PySem.Addr
abbrev Sh:=PySem.Shared
abbrev Pg:=PySem.Program
abbrev Wd:=PySem.World
abbrev FD:=PySem.FuncData
section
namespace PySem
namespace XL
abbrev qA(C t:Addr):Obj:={cls:=.ref C,data:=.fields #[.ref t,.none,.none,.none,.bool false,.none]}
abbrev oj(bI:LV):Obj:={cls:=.type "tuple",data:=.seq bI.toArray}
def YR(x:Addr)(R:Result->Shared->Prop)(r:Result)(s':Sh):Prop:=match r with
 |.ok (.ret v)=>v=.none/\R (.ok (.ret Ŝ)) s'
 |.ok _=>False
 |.error e=>R Àr s'
section
variable{prog:Pg}{w:Wd}{A:Around}{E:VP}{h:Heap}{g:Array GenState}{d:Drawn}{t:Nat}{os:OsState}
def YS(F:ExcBaseFacts B newId initId bm)(hC:h.get? C=some Ĕ) (hn:h.Ns N mN) (wR:mN "__init__"=some (.ref fI)) (hf:h.get? fI=some oF) (Hs:oF.cls=.type "function")(hq:codeAny Ó A (.call (.ref fI) ⟨.ref (h.objs.size+1)::bI,[]⟩) (λr s'=>match r with
   |.ok (.ret v)=>v=.none/\Q (.done (.ret (.ref (h.objs.size+1)))) s'
   |.ok _=>False
   |.error e=>E e s') ⟨(h.push (oj bI)).push Ń,g,d,t,os⟩) (hrest:bI.length<=sizeLine:=by size_fits):
  wpAny Ó A (Builtin.«type.__call__» ⟨.ref C::bI,[]⟩) Q E ⟨h,g,d,t,os⟩:=by
 repeat (first|with_reducible refine tP hC ?_|with_reducible refine wpAny_madeBy_exc hC ?_|wp_step)
 refine codeAny_call_builtin_code (Code.quiet_builtin _ F.quiet) (wpAny_check_new_sub F hC ?_);refine codeAny_exc_new_sub F hC ?_ hrest;have hC₁:=dh Ń (dh (oj bI) hC);have hF₁:=dh Ń (dh (oj bI) hf);have hn₁:((h.push (oj bI)).push Ń).Ns N mN:=
  let ⟨o,es,ep,e,r⟩:=hn;⟨o,es,ep,dh _ (dh _ e),r⟩
 have YT:((h.push (oj bI)).push Ń).get? (h.objs.size+1)=some Ń:=by heap_get
 have Ht:(Value.ref C::bm).contains ā=true:=by simp
 unfold isInstance
 repeat (first|with_reducible refine tP YT ?_|(with_reducible refine OE hC₁ ?_;rw[Ht])|wp_step)
 refine XG hC₁ hn₁ F.mroIs F.init.lookup ?_;rw[wR];refine XH (aP ?_);unfold bindSpecial typeOf
 repeat (first|(with_reducible refine tP hF₁ ?_;rw[Hs])|wp_step)
 refine u5 hq λr s' z=>?_;rcases r with e|(_|v|_|_) <;> first|exact z|exact z.elim|skip
 all_goals (obtain⟨rfl,z⟩:=z;exact df (df z))
def YU(F:ExcBaseFacts B newId initId bm)(hC:h.get? C=some Ĕ) (hn:h.Ns N mN) (wR:mN "__init__"=some (.ref fI)) (hf:h.get? fI=some oF) (Hs:oF.cls=.type "function")(hq:codeAny Ó (A.under (.builtin "type.__call__" ⟨.ref C::bI,[]⟩)) (.call (.ref fI) ⟨.ref (h.objs.size+1)::bI,[]⟩) (YR (h.objs.size+1) R) ⟨(h.push (oj bI)).push Ń,g,d,t,os⟩) (hrest:bI.length<=sizeLine:=by size_fits):
  codeAny Ó A (.call ā ⟨bI,[]⟩) R ⟨h,g,d,t,os⟩:=by
 have f1:=tc_lookup;have f2:=tc_bind ā;have hT:(⟨h,g,d,t,os⟩:Sh).TypeIs ā "type":=⟨_,hC,rfl⟩;refine codeAny_of_tree ?_
 repeat (any_goals (first|assumption|with_reducible refine tP hC ?_|wp_step))
 refine ŕ;refine codeAny_call_builtin_at (Code.quiet_builtin _ Ê) entry_typeCall (wpAny_check_type_call_sub hC (YS (hrest:=hrest) F hC hn wR hf Hs (u5 hq λr s' z=>?_)));rcases r with e|(_|v|_|_) <;> exact z
end
section
def YV(t9:bm.contains (.type "BaseException")=true)(hh:A.handled=none)(h:Ž x (λv s₁=>∃e oe vs,v=.ref e/\s₁.heap.get? C=some Ĕ/\
   s₁.heap.get? e=some oe/\oe.cls=.ref C/\oe.data=.fields vs/\vs[1]? =some .none/\E Èp s₁) E s):
  wpAny M A (raiseStmt env (some x) none) Q E s:=by
 have Hu:(Value.ref C::bm).contains (.type "BaseException")=true:=by rw[Am,t9,XI]
 unfold raiseStmt;refine aP (iU h (λv s₁ h₁=>?_) λ_ _ x=>x);obtain⟨e,oe,vs,rfl,hC,he,AA,hd,h1,hE⟩:=h₁;obtain⟨hp,g,d,tk,os⟩:=s₁;obtain⟨oc,od,Hv,m3⟩:=oe;obtain rfl:oc=.ref C:=AA;obtain rfl:Hv=.fields vs:=hd
 repeat (first|with_reducible refine tP he ?_|with_reducible refine tP hC ?_|(with_reducible refine OE hC ?_;rw[Hu])|wp_step)
 rw[h1];refine df ?_;rw[ah Ú];exact df (wpAny_raiseNew_none hh hE)
end
section
variable{prog:Pg}{w:Wd}{A:Around}{E:VP}{h:Heap}{g:Array GenState}{d:Drawn}{t:Nat}{os:OsState}
def YW(F:ExcBaseFacts B newId initId bm)(hC:h.get? C=some ö) (hx:h.get? x=some oe) (hc:oe.cls=.ref C) (hd:oe.data=.fields vs) (hz:0<vs.size)(hq:Q .none ⟨(h.push (oj [])).update x (Obj.mapFields (·.setIfInBounds 0 (.ref h.objs.size))),g,d,t,os⟩):
  wpAny Ó A (call (.builtin initId) [.ref x]) Q E ⟨h,g,d,t,os⟩:=by
 have hx₁:=dh (oj []) hx;refine An (codeAny_call_builtin F.init.plain F.initEntry (wpAny_check_init_sub F hC hx hc ?_));unfold Builtin.«BaseException.__init__»
 repeat (any_goals (first|assumption|wp_step))
 rw[hd];refine df ?_;rw[show vs[0]? =some vs[0] from Array.getElem?_eq_getElem hz];refine df (aP (C3 hx₁ hd hz ?_));cases vs[0] <;> (wp_walk;exact hq)
end
end XL
end PySem
end
section
namespace PySem
namespace XL
structure Hw(fr:LA)(z e T:Addr)(oe:Obj)(fl:Value)(h h':Heap):Prop where
 new:h.objs.size<=T
 ne:T≠e
 keep:∀b o,b∉fr->b≠e->b≠z->h.get? b=some o->h'.get? b=some o
 slot:∀b o,b∈fr->b≠e->b≠z->h.get? b=some o->∃sl,h'.get? b=some {o with slots:=sl}
 exc:h'.get? e=some (oe.mapFields (·.setIfInBounds 1 ũ))
 ent:∃oT ts,h'.get? T=some oT/\oT.data=.fields ts/\ts[3]? =some fl
section
def Pf{base:Heap}{env:Env}{outer:List Env}{L e z:Addr}{oe:Obj}{vs:Array Value}{head:Value}{hn:Bool}{Q:Unit->Shared->Prop}(fs:A.frames=some (env::outer)) (ff:s.heap.FunFrames base (env::outer)) (fL:env.frame=some L) (ge:s.heap.get? e=some oe) (de:oe.data=.fields vs) (ze:1<vs.size)(k:∀h' T,Hw ((env::outer).filterMap (·.frame)) z e T oe Æi s.heap h'->Q () {s with heap:=h'}):
  wpAny M A (do
   let a <-frameOf env
   let pl <-entryPlaceOf L hn
   let b <-EntryCells.newEntry head a .none Æi .none pl
   setField Èp 1 b) Q E s:=by
 have nf:e∉(env::outer).filterMap (·.frame):=λm=>by
  obtain⟨_,o,g1,g2⟩:=ff.mem m;simp_all
 refine aP (wpAny_frameOf_fun fs ff fL λg gs=>aP (wpAny_entryPlaceOf λpl hp=>?_));unfold EntryCells.newEntry newFields;refine aP (OF ?_ (hp.sizeOk5 _ _ _ _ _));have g1:=(gs.2.1 e nf).trans ge;have g2:=dh (h:=g) {cls:=.type "traceback",dict:=none,data:=.fields ([head,.ref L,.none,rawInt L,.none]++(if pl.isEmpty then List.replicate 6 Value.none else pl)).toArray} g1;have te:=tQ (cZ g1);refine C3 g2 de ze (k _ g.objs.size ⟨C4 gs.1.symm,te,λb o n1 n2 _ g3=>?_,λb o n1 n2 _ g3=>?_,?_,?_⟩)
 ·rw[Ao _ _ (dX n2)];exact dh _ ((gs.2.1 b n1).trans g3)
 ·obtain⟨sl,g4⟩:=gs.2.2 b o g3;exact⟨sl,by rw[Ao _ _ (dX n2)];exact dh _ g4⟩
 ·exact C5 _ g2 (GY (u6 de _))
 ·refine⟨_,_,(Ao _ _ (dX te)).trans (ib g rfl),rfl,?_⟩;rfl
def YX{base:Heap}{env:Env}{outer:List Env}{L e z:Addr}{oe:Obj}{vs:Array Value}{Q:Unit->Shared->Prop}(fs:A.frames=some (env::outer)) (ff:s.heap.FunFrames base (env::outer)) (fL:env.frame=some L) (ge:s.heap.get? e=some oe) (de:oe.data=.fields vs) (h1:vs[1]? =some .none)(k:∀h' T,Hw ((env::outer).filterMap (·.frame)) z e T oe Æi s.heap h'->Q () {s with heap:=h'}):Ž (noteFrame Èp env) Q E s:=by
 unfold noteFrame;simp only[fL];refine aP (u7 ge de h1 ?_);rw[ah Ú];exact Pf fs ff fL ge de (Ap.mp h1).1 k
def YY{base:Heap}{env:Env}{outer:List Env}{L e z:Addr}{oe oz:Obj}{vs zs:Array Value}{Q:Unit->Shared->Prop}(fs:A.frames=some (env::outer)) (ff:s.heap.FunFrames base (env::outer)) (fL:env.frame=some L) (ge:s.heap.get? e=some oe) (de:oe.data=.fields vs) (h1:vs[1]? =some (.ref z))(gz:s.heap.get? z=some oz) (dz:oz.data=.fields zs) {fl:Value} (h3:zs[3]? =some fl) (gc:(fl==rawInt L)=false) (ez:z≠e)(k:∀h' T,Hw ((env::outer).filterMap (·.frame)) z e T oe Æi s.heap h'->T≠z->(∃o ts,h'.get? z=some o/\o.data=.fields ts/\ts[3]? =some .none)->Q () {s with heap:=h'}):Ž (noteFrame Èp env) Q E s:=by
 have zz:=(Ap.mp h3).1;unfold noteFrame;simp only[fL];refine aP (u7 ge de h1 ?_);rw[af (show(Value.ref z !=Value.none)=true by simp)];refine aP (u7 gz dz h3 ?_);rw[ah (show ¬((fl==rawInt L)=true) by simp_all)];refine aP (C3 gz dz zz ?_);have vd:∀b,b≠z->(s.heap.update z (Obj.mapFields (·.setIfInBounds 3 Value.none))).get? b=s.heap.get? b:=λb n=>Ao _ _ (dX n);have YZ:(s.heap.update z (Obj.mapFields (·.setIfInBounds 3 Value.none))).get? z=_:=C5 _ gz (GY (u6 dz _));have Y0:∀b o,s.heap.get? b=some o->(∀ws,o.data≠ .fields ws)->b≠z:=λb o g1 g2 q=>by
  simp_all
 have Y1:=ff.of_keeps (h':=s.heap.update z (Obj.mapFields (·.setIfInBounds 3 Value.none))) λb o g1 g2=>⟨o,(vd b (Y0 b o g1 g2)).trans g1,rfl⟩;have Y2:z∉(env::outer).filterMap (·.frame):=λm=>by
  obtain⟨_,o,g1,g2⟩:=ff.mem m;simp_all
 refine Pf (z:=e) fs Y1 fL ((vd e (dX ez)).trans ge) de (Ap.mp h1).1 λh' T n=>?_;have nn:s.heap.objs.size<=T:=by
  have:=n.new;simp_all
 have tz:T≠z:=λq=>absurd (cZ gz) É;have Dr:=n.keep z _ Y2 ez ez YZ;exact k h' T ⟨nn,n.ne,λb o n1 n2 n3 g1=>n.keep b o n1 n2 n2 ((vd b n3).trans g1),λb o n1 n2 n3 g1=>n.slot b o n1 n2 n2 ((vd b n3).trans g1),n.exc,n.ent⟩ tz
  ⟨_,_,Dr,u6 dz _,by simp[zz]⟩
end
end XL
end PySem
end
section
namespace PySem
namespace XL
open Builtin.ObjectAttr
section
variable{prog:Pg}{w:Wd}{A:Around}{E:VP}{h:Heap}{g:Array GenState}{d:Drawn}{t:Nat}{os:OsState}
def Y3{tk:Tok}{o:Obj}{Q:Fin->Shared->Prop}(SF:StoreFacts B bm sa owner)(hC:h.get? C=some ö) (hn:h.Ns N mN) (ua:mN name=none) (hB:typeLookup (.type B) name=pure none)(gx:h.get? x=some o) (cx:o.cls=.ref C) (nx:∀c,o.data≠ .cls c) (dx:o.dict=none)(k:∀h' ly,h'.Ns1 h.objs.size (λy=>if y=name then some v else none)->h'.get? x=some {o with dict:=some h.objs.size}->(∀b ob,b≠x->h.get? b=some ob->h'.get? b=some ob)->Q (.done (.ret .none)) ⟨h',g,d,ly,os⟩):
  wpAny Ó A (Builtin.«object.__setattr__» ⟨[.ref x,.str name tk,v],[]⟩) Q E ⟨h,g,d,t,os⟩:=by
 have ps:=SF.passes Ŝ;unfold Builtin.«object.__setattr__»
 repeat (first|rw[refuse_eq]|(rw[refuseLoop_ref,ps])|(with_reducible refine tP gx ?_;rw[cx])|with_reducible refine wpAny_mroOf_exc hC ?_|(with_reducible refine XG hC hn SF.mro hB ?_;rw[ua])|wp_step)
 rw[dx,ah (by simp[typeHasDict])];split
 ·simp_all
 split
 ·simp_all
 ·have Ph:(h.push {cls:=.type "dict",data:=.dict #[]}).get? x=some o:=dh _ gx;have ne:=fj (cZ gx);refine aP (wpAny_alloc' (aP (wpAny_update' Ph (df ?_))));have gd:((h.push {cls:=.type "dict",data:=.dict #[]}).update x λo=>{cls:=o.cls,dict:=some h.objs.size,data:=o.data,slots:=o.slots}).get? h.objs.size=some {cls:=.type "dict",data:=.dict #[]}:=
   (Heap.get?_update_ne _ _ _ _ ne.symm).trans (Heap.get?_push_at rfl rfl)
  have nd:((h.push {cls:=.type "dict",data:=.dict #[]}).update x λo=>{cls:=o.cls,dict:=some h.objs.size,data:=o.data,slots:=o.slots}).Ns h.objs.size (λ_=>none):=
   ⟨_,#[],_,gd,rfl,λe he=>absurd he Ä,λ_=>rfl⟩
  unfold storeInDict newKeyGuard;refine aP (df (aP (wpAny_nsSet1 (Heap.Ns1.of_empty nd) λh' n' sb=>?_)));obtain⟨oD,eD,pD,g1,g2,g3⟩:=n'.count (Within.cons name v Within.nil);refine aP (wpAny_lookBehind g1 (by rw[g2];exact pastItsLine_dict (gQ g3 (by rw[c7,rJ,u9];omega))) ?_)
  wp_walk
  refine k h' _ n' ?_ λb ob nb gb=>?_
  ·refine(sb.2 x ne).trans (C5 _ Ph ?_);have fr:=(Heap.get?_some_iff.mp gx).2;obtain⟨oc,od,Hv,m3⟩:=o;cases Hv <;> first|rfl|exact fr
  ·exact(sb.2 b (fj (cZ gb))).trans ((Heap.get?_update_ne _ _ _ _ nb).trans (dh _ gb))
def Y4{o:Obj}{Q:Unit->Shared->Prop}(SF:StoreFacts B bm sa owner)(hC:h.get? C=some ö) (hn:h.Ns N mN) (om:mN "__setattr__"=none) (ua:mN name=none) (hB:typeLookup (.type B) name=pure none)(gx:h.get? x=some o) (cx:o.cls=.ref C) (nx:∀c,o.data≠ .cls c) (dx:o.dict=none)(k:∀h' ly,h'.Ns1 h.objs.size (λy=>if y=name then some v else none)->h'.get? x=some {o with dict:=some h.objs.size}->(∀b ob,b≠x->h.get? b=some ob->h'.get? b=some ob)->Q () ⟨h',g,d,ly,os⟩):
  wpAny Ó A Äb Q E ⟨h,g,d,t,os⟩:=by
 have f3:=SF.slot.bind Ŝ;unfold setAttr callSpecial? specialOf
 repeat (any_goals (first|assumption|(with_reducible refine tP gx ?_;rw[cx])|(with_reducible refine XG hC hn SF.mro SF.slot.lookup ?_;rw[om])|wp_step))
 refine codeAny_call_builtin SF.slot.plain SF.entry (wpAny_check_sa SF hC gx cx (Y3 SF hC hn ua hB gx cx nx dx λh' ly a b c=>?_))
 repeat (any_goals (first|assumption|wp_step))
 exact k h' ly a b c
def Y5{o:Obj}{dx:Addr}{mA:MG}{ns:LS}{Q:Unit->Shared->Prop}(SF:StoreFacts B bm sa owner)(hC:h.get? C=some ö) (hn:h.Ns N mN) (om:mN "__setattr__"=none) (ua:mN name=none) (hB:typeLookup (.type B) name=pure none)(gx:h.get? x=some o) (cx:o.cls=.ref C) (nx:∀c,o.data≠ .cls c) (hd:o.dict=some dx) (ne:dx≠x) (hm:h.Ns1 dx mA) (hw:Within mA ns) (hz:ns.length<=sizeLine) (xC:x≠C)(k:∀h' ly,h'.Ns1 dx (λy=>if y=name then some v else mA y)->(∀b ob,b≠dx->h.get? b=some ob->h'.get? b=some ob)->Q () ⟨h',g,d,ly,os⟩):
  wpAny Ó A Äb Q E ⟨h,g,d,t,os⟩:=by
 refine store_attr SF hC hn om ua hB xC ⟨o,gx,cx,nx,.inr ⟨dx,hd,ne,hm⟩⟩ (λh' ly I' kp sm=>?_) hw hz;obtain⟨o1,g1,p1,p2,p3,g5⟩:=sm o gx;obtain⟨o2,e1,_,_,e4⟩:=I';have eo:o1=o2:=aN (g1.symm.trans e1);subst eo;rcases e4 with ⟨e5,_⟩|⟨d2,e5,_,e6⟩
 ·rw[g5 dx hd] at e5;cases e5
 ·have ed:dx=d2:=aN ((g5 dx hd).symm.trans e5);subst ed;refine k h' ly e6 λb ob nb gb=>?_;by_cases hb:b=x
  ·subst hb;have:ob=o:=aN (gb.symm.trans gx);subst this;have p4:=(g5 dx hd).trans hd.symm;refine g1.trans (cE some ?_);obtain⟨a1,a2,a3,a4⟩:=o1;obtain⟨b1,b2,b3,b4⟩:=ob;dsimp only at p1 p2 p3 p4;subst p1 p2 p3 p4;rfl
  ·exact kp b ob hb (λo0 d0 q1 q2 z=>nb (by
    have:o0=o:=aN (q1.symm.trans gx);subst this;rw[z];exact aN (q2.symm.trans hd))) gb
end
end XL
end PySem
end
section
namespace PySem
namespace XL
open AutoSeq1 (wpAny_loadPart')
section
def Y6{j t:Addr}{i:Nat}{aj:Array Value}{x:Value}{Q:VP}(hj:s.heap.IsTupleIter j t i)(ht:s.heap.IsTuple t aj)(hx:aj[i]? =some x)(k:∀h',h'.IsTupleIter j t (i+1)->Heap.SameBut j s.heap h'->Q x {s with heap:=h'}):wpAny Ó A (Builtin.SmallTypes.nextOf (.ref j)) Q E s:=by
 obtain⟨o,g1,c1,d1⟩:=id hj;obtain⟨p,g2,_,n,d2⟩:=ht;unfold Builtin.SmallTypes.nextOf;refine aP (wpAny_callSpecial?_slot (name:=Str.ofString "__next__") hj.typeIs OG (wpAny_call_entry OG hj.typeIs aoS ?_ (aoT _)));show wpAny _ _ (field (.ref j) 0 >>= _) _ _ s;refine aP (u7 g1 d1 (x:=.ref t) rfl ?_);rw[ah (show ¬(Value.ref t==Value.none)=true from d9)];refine aP (u7 g1 d1 (x:=.int i 0) rfl ?_);refine aP (XJ g2 d2 ?_);simp only[C6,hx];refine aP (C3 g1 d1 Ä (df ⟨x,rfl,df (k _ ⟨_,C5 _ g1 (GY (u6 d1 _)),(XM ..).trans c1,?_⟩ (Heap.SameBut.update ..))⟩));rw[u6 d1];rfl
def Y7{j t:Addr}{i:Nat}{aj:Array Value}{Q:VP}(hh:A.handled=none)(hj:s.heap.IsTupleIter j t i)(ht:s.heap.IsTuple t aj)(hx:aj[i]? =none)(k:∀h' e,Heap.ExtBut j s.heap h'->(∃o,h'.get? e=some o/\o.cls=.type "StopIteration")->E Èp {s with heap:=h'}):wpAny Ó A (Builtin.SmallTypes.nextOf (.ref j)) Q E s:=by
 obtain⟨o,g1,c1,d1⟩:=id hj;obtain⟨p,g2,_,n,d2⟩:=ht;unfold Builtin.SmallTypes.nextOf;refine aP (wpAny_callSpecial?_slot (name:=Str.ofString "__next__") hj.typeIs OG (wpAny_call_entry OG hj.typeIs aoS ?_ (aoT _)));show wpAny _ _ (field (.ref j) 0 >>= _) _ _ s;refine aP (u7 g1 d1 (x:=.ref t) rfl ?_);rw[ah (show ¬(Value.ref t==Value.none)=true from d9)];refine aP (u7 g1 d1 (x:=.int i 0) rfl ?_);refine aP (XJ g2 d2 ?_);simp only[C6,hx];refine aP (wpAny_rule (aP (C3 g1 d1 Ä ?_)));show wpAny _ _ (newExc (.type "StopIteration") [] >>= _) _ _ _;simp only[newExc,newTuple];refine aP (aP (OF ?_ (by size_fits)));refine aP (m:=firstArgMember _ _) (wpAny_of_eq (a:=Value.none) Õ (OF ?_ (by size_fits)));simp only[raiseNew];refine aP (wpAny_handled ?_)
 first|rw[show A.in1.handled=none from hh]|rw[hh]
 exact aP (df (wpAny_throw (k _ _ (((Heap.SameBut.update ..).extBut.push _).push _) ⟨_,ib _ rfl,rfl⟩)))
end
def Pi{prog:Pg}{w:Wd}{A:Around}(hh:A.handled=none)(j t:Addr)(aQ:t≠j)(aj:Array Value):
  Draws prog w A j [j,t] aj.size (λi v=>aj[i]? =some v) (λi h=>h.IsTupleIter j t i/\h.IsTuple t aj) where
 live:=λ_ _ st=>let ⟨o,ho,_⟩:=st.1;⟨o,ho⟩
 frame:=λ_ _ _ st hk=>⟨st.1.at λo e=>hk j Ä o e,let ⟨o,ho,r⟩:=st.2;⟨o,hk t Ä o ho,r⟩⟩
 item:=λi s Q E hi st hQ=>Y6 st.1 st.2 (x:=aj[i]) (by simp[hi]) λh' Hy yy=>hQ _ h' s.toks (by simp[hi]) ⟨Hy,let ⟨o,ho,r⟩:=st.2;⟨o,(yy.2 t aQ).trans ho,r⟩⟩ yy
 done:=λs Q E st hE=>Y7 hh st.1 st.2 Ä hE
def Y8(t:Addr)(aj:Array Value)(n:Nat)(yz:OA)(sl:AO):
  Meets (Builtin.«enumerate.__new__» ⟨[.type "enumerate",.ref t],[]⟩) (λ_ R s=>s.heap.get? t=some {cls:=.type "tuple",dict:=yz,data:=.seq aj n,slots:=sl}/\
   R (.ok (.ret (.ref (s.heap.push {cls:=.type "tuple_iterator",data:=.fields #[.ref t,.int 0 0]}).objs.size)))
    {s with heap:=(s.heap.push {cls:=.type "tuple_iterator",data:=.fields #[.ref t,.int 0 0]}).push {cls:=.type "enumerate",data:=.fields #[.none,.bool false,.ref s.heap.objs.size,rawInt 0,.none,.none]}}):=
 .of_wp λprog w A R s h=>by
  obtain⟨hp,g,d,tk,os⟩:=s;obtain⟨hl,h⟩:=h;have AB:=sub_enumerate;have hT:Heap.IsTuple (Shared.heap ⟨hp,g,d,tk,os⟩) t aj:=⟨_,hl,rfl,n,rfl⟩
  wp_walk using je hl
  refine wpAny_stack_any λst=>df ?_;split
  ·rename_i c _ _ _ _ _;cases (c==Value.type "enumerate")
   ·wp_walk using je hl,XQ hT
    exact⟨_,rfl,h⟩
   ·wp_walk using je hl,XQ hT
    exact⟨_,rfl,h⟩
  ·wp_walk using je hl,XQ hT
   exact⟨_,rfl,h⟩
section
def Y9{t:Addr}{aj:Array Value}{Q:VP}(hT:s.heap.IsTuple t aj)(k:∀h',IsEnum h' Î s.heap.objs.size 0 .none->h'.IsTupleIter s.heap.objs.size t 0->h'.objs.size=s.heap.objs.size+2->(∀b o,s.heap.get? b=some o->h'.get? b=some o)->Q (.ref Î) {s with heap:=h'}):
  wpAny Ó A (call (.type "enumerate") [.ref t]) Q E s:=by
 obtain⟨⟨c,yz,dt,sl⟩,hl,hc,n,hd⟩:=hT;obtain rfl:c=.type "tuple":=hc;obtain rfl:dt=.seq aj n:=hd;refine callType_new F.called_enumerate Ú (F.typeCall_enumerate_1 _) (F.newCall_enumerate_1 _) (λobj=>F.args_object_init_2 obj _) F.entry_enumerate_new (Y8 t aj n yz sl) ⟨hl,?_⟩;have hz:(s.heap.push {cls:=.type "tuple_iterator",data:=.fields #[.ref t,.int 0 0]}).objs.size=s.heap.objs.size+1:=qv ..;show _/\_;rw[hz];have he:IsEnum ((s.heap.push {cls:=.type "tuple_iterator",data:=.fields #[.ref t,.int 0 0]}).push {cls:=.type "enumerate",data:=.fields #[.none,.bool false,.ref s.heap.objs.size,rawInt 0,.none,.none]}) Î s.heap.objs.size 0 .none:=by
  have q:=ib (s.heap.push {cls:=.type "tuple_iterator",data:=.fields #[.ref t,.int 0 0]}) (o:={cls:=.type "enumerate",data:=.fields #[.none,.bool false,.ref s.heap.objs.size,rawInt 0,.none,.none]}) rfl;rw[hz] at q;exact q
 exact⟨⟨_,he,rfl⟩,k _ he ⟨_,dh _ (ib _ rfl),rfl,rfl⟩ (by rw[qv,hz]) λb o y=>dh _ (dh _ y)⟩
end
end XL
end PySem
end
section
namespace L2
open PySem PySem.Spec PyProof.Rows
abbrev Key:=Sum Int Str
abbrev dZ:=List Key
def rP:Key->Value->Bool
 |.inl k,v=>Value.isInt k v
 |.inr x,v=>Value.isStrOf x v
def Za(w:Wd):Key->Int
 |.inl k=>hashInt k
 |.inr x=>hashStr w x
theorem rQ:∀{k:Key}{v:Value},rP k v=true->(∃i t,k=Sum.inl i/\v=Value.int i t)\/(∃x t,k=Sum.inr x/\v=Value.str x t)
 |.inl i,v,h=>by
  obtain⟨t,e⟩:=Value.isInt_shape (k:=i) (v:=v) h;exact .inl ⟨i,t,rfl,e⟩
 |.inr x,v,h=>by
  obtain⟨t,e⟩:=Value.isStrOf_shape (x:=x) (v:=v) h;exact .inr ⟨x,t,rfl,e⟩
def Zb(i:Int)(t:Tok):rP (.inl i) Áq=true:=by simp[rP,Value.isInt]
def Zc(x:Str)(t:Tok):rP (.inr x) (.str x t)=true:=by simp[rP,Value.isStrOf]
def Zd(a b:Int):decide ((Sum.inl a:Key)=Sum.inl b)=(a==b):=by
 grind
def Ze(a b:Str):decide ((Sum.inr a:Key)=Sum.inr b)=decide (a=b):=by
 simp
def Zf(a:Int)(b:Str):decide ((Sum.inl a:Key)=Sum.inr b)=false:=fQ (λq=>nomatch q)
def Zg(a:Str)(b:Int):decide ((Sum.inr a:Key)=Sum.inl b)=false:=fQ (λq=>nomatch q)
def eW(prog:Pg)(w:Wd):PySem.KeyKind prog w Key where
 is:=rP
 hash:=Za w
 inj:=λv a b ha hb=>by
  rcases rQ ha with ⟨i,t,rfl,rfl⟩|⟨x,t,rfl,rfl⟩
  ·rcases rQ hb with ⟨j,u,rfl,e⟩|⟨y,u,rfl,e⟩
   ·injection e with e1 _;rw[e1]
   ·exact nomatch e
  ·rcases rQ hb with ⟨j,u,rfl,e⟩|⟨y,u,rfl,e⟩
   ·exact nomatch e
   ·injection e with e1 _;rw[e1]
 byValue:=λk v h=>by
  rcases rQ h with ⟨i,t,rfl,rfl⟩|⟨x,t,rfl,rfl⟩ <;> rfl
 pyHash:=λhv h=>by
  rcases rQ hv with ⟨i,t,rfl,rfl⟩|⟨x,t,rfl,rfl⟩
  ·exact wpAny_pyHash_int h
  ·exact wpAny_pyHash_str h
 eqBool:=λhu hv h=>by
  rcases rQ hu with ⟨i,t,rfl,rfl⟩|⟨x,t,rfl,rfl⟩
  ·rcases rQ hv with ⟨j,u,rfl,rfl⟩|⟨y,u,rfl,rfl⟩
   ·rw[Zd] at h;exact wpAny_eqBool_int h
   ·rw[Zf] at h;exact SeqAt.EqAt.int_str i t y u _ _ _ _ h
  ·rcases rQ hv with ⟨j,u,rfl,rfl⟩|⟨y,u,rfl,rfl⟩
   ·rw[Zg] at h;exact SeqAt.EqAt.str_int x t j u _ _ _ _ h
   ·rw[Ze] at h;exact wpAny_eqBool_str h
 «strs»:=λk x t v h=>by
  rcases rQ h with ⟨i,u,rfl,e⟩|⟨y,u,rfl,e⟩
  ·exact nomatch e
  ·injection e with e1 _;subst e1;cases v <;> rfl
def Zh(prog:Pg)(w:Wd)(i:Int)(t:Tok):(eW prog w).is (.inl i) Áq=true:=Zb i t
def Zi(prog:Pg)(w:Wd)(x:Str)(t:Tok):(eW prog w).is (.inr x) (.str x t)=true:=Zc x t
inductive V where
 |aJ|bl (b:Bool)|int (i:Int)|str (x:Str)|jf (b:Array UInt8)|AC (b:UInt64)|ref (a:Addr)|ty (n:String)
 deriving DecidableEq
abbrev au:=List V
def RelV:V->Value->Prop
 |.aJ,u=>u=Value.none
 |.bl b,u=>u=Value.bool b
 |.int i,u=>∃t,u=Value.int i t
 |.str x,u=>∃t,u=Value.str x t
 |.jf b,u=>∃t,u=Value.bytes b t
 |.AC b,u=>∃t,u=Value.float b t
 |.ref a,u=>u=Value.ref a
 |.ty n,u=>u=Value.type n
abbrev bc:au->LV->Prop:=Paired RelV
def bc.length{xs:au}{us:LV}(r:bc xs us):xs.length=us.length:=Paired.length r
theorem bc.get:∀{xs:au}{us:LV}{i:Nat}{x:V},bc xs us->xs[i]? =some x->∃u,us[i]? =some u/\RelV x u:=by
 intro xs us i x h;induction h generalizing i with
 |nil=>intro e;simp at e
 |cons r t ih=>
  intro e;cases i with
  |zero=>simp at e;subst e;exact⟨_,rfl,r⟩
  |succ i=>exact ih e
theorem bc.append:∀{xs ys:au}{us ws:LV},bc xs us->bc ys ws->bc (xs++ys) (us++ws):=by
 intro xs ys us ws h0;induction h0 with
 |nil=>exact @λs=>s
 |cons r t ih=>
  intro s;exact .cons r (ih s)
theorem bc.take:∀{xs:au}{us:LV}(n:Nat),bc xs us->bc (xs.take n) (us.take n):=by
 intro xs us n h;induction h generalizing n with
 |nil=>cases n <;> exact .nil
 |cons r t ih=>
  cases n with
  |zero=>exact .nil
  |succ n=>exact .cons r (ih n)
theorem bc.drop:∀{xs:au}{us:LV}(n:Nat),bc xs us->bc (xs.drop n) (us.drop n):=by
 intro xs us n h;induction h generalizing n with
 |nil=>cases n <;> exact .nil
 |cons r t ih=>
  cases n with
  |zero=>exact .cons r t
  |succ n=>exact ih n
def jL:Option V->Option Value->Prop
 |some v,some u=>RelV v u
 |none,none=>True
 |_,_=>False
def KV{κ:Type}:List (κ×V)->List (κ×Value)->Prop:=Paired λ(p:κ×V)(q:κ×Value)=>p.1=q.1/\RelV p.2 q.2
def kV:Key->V
 |.inl i=>.int i
 |.inr x=>.str x
inductive HO where
 |lst (xs:au)
 |tup (xs:au)
 |dK (kvs:List (Key×V))|dT (kvs:List (dZ×V))
 |set (S:Int->Bool) (n:Nat)
 |ins (C dx:Addr) (fs:List (Str×V))
 |own (x:Addr)
 |xd (fs:List (Str×V))
 |met (f x:Addr)
 |rR (lo hi:Int)
 |cu (o:Obj) (u:HO)
 |gG (ps:Array Value)
 |ext (φ:Heap->Prop)
abbrev Hp:=Addr->Option HO
def upd(H:Hp)(a:Addr)(o:HO):Hp:=λb=>if b=a then some o else H b
def aq{H:Hp}{a:Addr}{o:HO}:ť o a=some o:=by unfold upd;rw[af rfl]
def ao{H:Hp}{a b:Addr}{o:HO}(h:b≠a):ť o b=H b:=by unfold upd;rw[ah h]
def Pj{H:Hp}{a b:Addr}{o u:HO}(h:H a=some o)(h':H b=some u)(d:o≠u):a≠b:=by
 grind
def eK{H:Hp}{a b:Addr}{o:HO}(h:H a=some o)(h':H b=none):a≠b:=by
 grind
section
variable(P:Pg)(w:Wd)
def ft(H:Hp)(h:Heap)(a:Addr):HO->Prop
 |.lst xs=>xs.length<=sizeLine/\∃(aj:LV)(n:Nat),bc xs aj/\h.get? a=some {cls:=.type "list",data:=.seq aj.toArray n}
 |.tup xs=>xs.length<=sizeLine/\∃aj:LV,bc xs aj/\IsTup h a aj.toArray
 |.dK kvs=>kvs.length<=sizeLine/\(a==sysModules)=false/\∃vs,KV kvs vs/\h.DictOf Âq a vs
 |.dT kvs=>kvs.length<=sizeLine/\(a==sysModules)=false/\∃xs:List (dZ×Addr×Value),
   Paired (λ(p:dZ×V)(q:dZ×Addr×Value)=>p.1=q.1/\H q.2.1=some (.tup (p.1.map kV))/\RelV p.2 q.2.2) kvs xs/\
   ∃o es ep,h.get? a=some o/\o.ExactDict/\o.data=.dict es ep/\es.toList=xs.map (entryOfKey Çi)/\(xs.map (·.1)).Nodup
 |.set S n=>h.SetOf (intKind P w) a S n
 |.ins C dx fs=>H dx=some (.own a)/\fs.length<=1000/\dx≠a/\h.get? a=some Âv/\
   ∃mA,h.Ns1 dx mA/\(∀f,jL Ác (mA f))/\PySem.Within mA (fs.map (·.1))
 |.own _=>∃o,h.get? a=some o
 |.xd fs=>∃mA,h.Ns1 a mA/\∀f,jL Ác (mA f)
 |.rR lo hi=>∃t u v,h.get? a=some {cls:=.type "range",data:=.fields #[.int lo t,.int hi u,.int 1 v]}
 |.cu o u=>h.get? a=some o/\ft H h a u
 |.gG ps=>h.get? a=some {cls:=.none,data:=.fields ps}
 |.met f x=>h.get? a=some (PySem.W.methodObj Ă Ŝ)
 |.ext φ=>φ h/\(∃o,h.get? a=some o)/\∀h1 h2:Heap,φ h1->(∀o,h1.get? a=some o->h2.get? a=some o)->φ h2
def dy(H:Hp)(h:Heap):Prop:=∀a o,H a=some o->Àu o
end
section
theorem ft.lt(x:Àu o):a<h.objs.size:=by
 cases o with
 |lst xs=>obtain⟨_,_,_,_,e⟩:=x;exact cZ e
 |tup xs=>obtain⟨_,_,_,p⟩:=x;exact p.lt
 |dK kvs=>obtain⟨_,_,_,_,o,_,_,e,_⟩:=x;exact cZ e
 |dT kvs=>obtain⟨_,_,_,_,o,_,_,e,_⟩:=x;exact cZ e
 |set S n=>obtain⟨o,_,_,_,e,_⟩:=x;exact cZ e
 |ins C dx fs=>obtain⟨_,_,_,e,_⟩:=x;exact cZ e
 |own y=>obtain⟨_,e⟩:=x;exact cZ e
 |xd fs=>obtain⟨_,⟨_,_,_,e,_⟩,_⟩:=x;exact cZ e
 |rR lo hi=>obtain⟨_,_,_,e⟩:=x;exact cZ e
 |cu ob u=>obtain⟨e,_⟩:=x;exact cZ e
 |gG ps=>exact cZ (show h.get? a=some _ from x)
 |met f y=>exact cZ (show h.get? a=some _ from x)
 |ext φ=>obtain⟨_,⟨_,e⟩,_⟩:=x;exact cZ e
theorem Paired.lS{α β:Type}{F G:α->β->Prop}:∀{l₁:List α}{l₂:List β},Paired F l₁ l₂->(∀a b,F a b->G a b)->Paired G l₁ l₂:=by
 intro l₁ l₂ h0;induction h0 with
 |nil=>exact @λ_=>.nil
 |cons r t ih=>
  intro f;exact .cons (f _ _ r) (ih f)
theorem ft.m4(x:Àu o)(k:∀b u,(b=a\/H b=some (.own a))->h.get? b=some u->h'.get? b=some u)(ho:∀b,H b=some (.own a)->H' b=some (.own a)) (ht:∀b xs,H b=some ϰ->H' b=some ϰ):ft P w H' h' a o:=by
 induction o with
 |lst xs=>obtain⟨z,aj,n,r,e⟩:=x;exact⟨z,aj,n,r,k _ _ Ĉ e⟩
 |tup xs=>obtain⟨z,aj,r,ob,e,c⟩:=x;exact⟨z,aj,r,ob,k _ _ Ĉ e,c⟩
 |dK kvs=>obtain⟨z,y,vs,r,ob,es,ep,e,c⟩:=x;exact⟨z,y,vs,r,ob,es,ep,k _ _ Ĉ e,c⟩
 |dT kvs=>
  obtain⟨z,y,xs,r,ob,es,ep,e,c⟩:=x;exact⟨z,y,xs,Paired.lS r λp q z=>⟨z.1,ht _ _ z.2.1,z.2.2⟩,ob,es,ep,k _ _ Ĉ e,c⟩
 |set S n=>obtain⟨ob,es,ep,t,e,c⟩:=x;exact⟨ob,es,ep,t,k _ _ Ĉ e,c⟩
 |ins C dx fs=>
  obtain⟨d,z,ne,e,mA,⟨od,es,ep,e2,c⟩,r⟩:=x;exact⟨ho _ d,z,ne,k _ _ Ĉ e,mA,⟨od,es,ep,k _ _ (.inr d) e2,c⟩,r⟩
 |own y=>obtain⟨ob,e⟩:=x;exact⟨ob,k _ _ Ĉ e⟩
 |xd fs=>obtain⟨mA,⟨od,es,ep,e,c⟩,r⟩:=x;exact⟨mA,⟨od,es,ep,k _ _ Ĉ e,c⟩,r⟩
 |rR lo hi=>obtain⟨t,u,v,e⟩:=x;exact⟨t,u,v,k _ _ Ĉ e⟩
 |cu ob u ih=>obtain⟨e,q⟩:=x;exact⟨k _ _ Ĉ e,ih q⟩
 |gG ps=>
  have e:h.get? a=some {cls:=.none,data:=.fields ps}:=x;show h'.get? a=some {cls:=.none,data:=.fields ps};simp_all
 |met f y=>
  have e:h.get? a=some (PySem.W.methodObj Ă (.ref y)):=x;show h'.get? a=some (PySem.W.methodObj Ă (.ref y));simp_all
 |ext φ=>obtain⟨p,⟨o,e⟩,st⟩:=x;exact⟨st _ _ p λo q=>k _ _ Ĉ q,⟨o,k _ _ Ĉ e⟩,st⟩
def dy.lt(x:ġ h)(e:H a=some o):a<h.objs.size:=(x a o e).lt
theorem dy.fresh(x:ġ h)(e:h.objs.size<=a):H a=none:=by
 cases q:H a with
 |none=>rfl
 |some u=>exact absurd (iq (x.lt q) e) (qw _)
def dy.kept(x:ġ h)(k:∀b u,h.get? b=some u->h'.get? b=some u):ġ h':=λa o e=>
 (x a o e).m4 (λb u _ q=>k b u q) (λ_ q=>q) λ_ _ q=>q
def dy.laid(x:ġ h)(k:∀b u,h.get? b=some u->h'.get? b=some u)(hp:h.objs.size<=a)(new:ft P w (ť o) h' a o):dy P w (ť o) h':=λb u e=>by
 have hn:=x.fresh hp;by_cases hb:b=a
 ·subst hb;rw[aq] at e;cases e;exact new
 ·rw[ao hb] at e;exact(x b u e).m4 (λc v _ q=>k c v q) (λc q=>by rw[ao Äk];exact q) λc xs q=>by rw[ao Äk];exact q
end
def Rd(H:Hp)(a:Addr)(u:HO):Prop:=H a=some u\/∃o,H a=some Ès
def Rd.ok(r:Rd H a u)(x:ġ h):Àu u:=by
 rcases r with r|⟨o,r⟩
 ·exact x a u r
 ·obtain⟨_,q⟩:=x a _ r;exact q
def ub:Option HO->Prop
 |some (.lst _)=>True
 |some (.dK _)=>True
 |some (.dT _)=>True
 |some (.set _ _)=>True
 |some (.ins _ _ _)=>True
 |some (.ext _)=>True
 |_=>False
section
def dy.write(ok:ġ h)(mu:ub (H x))(he:e=x\/H e=some Äx)(k:∀b u,b≠e->h.get? b=some u->h'.get? b=some u)(AD:∃u,h'.get? e=some u)(new:ft P w (Áe o') h' x o'):dy P w (Áe o') h':=λb u q=>by
 have Zj:∀c y,H c=some (.own y)->c≠x:=λc y r z=>by subst z;rw[r] at mu;exact mu
 have Zk:∀c xs,H c=some ϰ->c≠x:=λc xs r z=>by subst z;rw[r] at mu;exact mu
 by_cases hb:b=x
 ·subst hb;rw[aq] at q;cases q;exact new
 ·rw[ao hb] at q;by_cases AE:b=e
  ·have q':H b=some Äx:=by
    simp_all
   rw[q] at q';cases q';obtain⟨v,hv⟩:=AD;exact⟨v,by simp_all⟩
  ·refine(ok b u q).m4 (λc v hc r=>k c v ?_ r) (λc r=>by rw[ao (Zj c b r)];exact r) λc xs r=>by rw[ao (Zk c xs r)];exact r
   grind
end
structure Un(fs ex:LA)(H H':Hp)(h h':Heap):Prop where
 keep:∀b o,h.get? b=some o->H b=none->b∉fs->b∉ex->h'.get? b=some o
 slot:∀b o,h.get? b=some o->H b=none->b∈fs->b∉ex->∃sl,h'.get? b=some {o with slots:=sl}
 free:∀b o,h.get? b=some o->H b=none->b∉ex->H' b=none
 there:∀b o,h.get? b=some o->b∉ex->∃o',h'.get? b=some o'
 pA:∀b xs,H b=some ϰ->H' b=some ϰ
 m5:∀b o u,H b=some Ès->H' b=some Ès
 pB:∀b ps,H b=some (.gG ps)->∃jc,H' b=some (.gG (ps++jc))
section
def Un.any(u:Un fs ex H H1 h h1){b:Addr}{ob:Obj}(q:h.get? b=some ob)(n:H b=none)(hx:b∉ex):∃sl,h1.get? b=some {ob with slots:=sl}:=by
 by_cases hb:b∈fs
 ·exact u.slot b ob q n hb hx
 ·exact⟨ob.slots,u.keep b ob q n hb hx⟩
def Un.kept(k:∀b u,h.get? b=some u->h'.get? b=some u):Un fs ex H H h h':=
 ⟨λb ob q _ _ _=>k b ob q,λb ob q _ _ _=>⟨ob.slots,k b ob q⟩,λ_ _ _ n _=>n,λb ob q _=>⟨ob,k b ob q⟩,λ_ _ q=>q,λ_ _ _ q=>q,λ_ ps q=>⟨#[],by rw[q];simp⟩⟩
def Un.refl:Un fs ex H H h h:=Un.kept λ_ _ q=>q
def Un.laid(k:∀b u,h.get? b=some u->h'.get? b=some u)(hp:h.objs.size<=a)(hn:H a=none):Un fs ex H (ť o) h h' where
 keep:=λb u q _ _ _=>k b u q
 slot:=λb u q _ _ _=>⟨u.slots,k b u q⟩
 free:=λb u q n _=>by rw[ao (fj (iq (cZ q) hp))];exact n
 there:=λb u q _=>⟨u,k b u q⟩
 pA:=λb xs q=>by rw[ao Äk];exact q
 m5:=λb u xs q=>by rw[ao Äk];exact q
 pB:=λb ps q=>⟨#[],by rw[ao Äk,q];simp⟩
def Un.write(mu:ub (H x))(he:e=x\/H e=some Äx)(k:∀b u,b≠e->h.get? b=some u->h'.get? b=some u)(AD:∃u,h'.get? e=some u):Un fs ex H (Áe o) h h':=by
 have hx:∀b,H b=none->b≠x:=λb n z=>by subst z;rw[n] at mu;exact mu
 have hb:∀b,H b=none->b≠e:=λb n z=>by
  simp_all
 have hm:∀b u,H b=some u->¬ub Âm->b≠x:=λb u q nm z=>by subst z;rw[q] at mu;exact nm mu
 refine⟨λb u q n _ _=>k b u (hb b n) q,λb u q n _ _=>⟨u.slots,k b u (hb b n) q⟩,λb u q n _=>by rw[ao (hx b n)];exact n,λb u q _=>?_,
  λb xs q=>by rw[ao (hm b _ q λz=>z)];exact q,λb u xs q=>by rw[ao (hm b _ q λz=>z)];exact q,λb ps q=>⟨#[],by rw[ao (hm b _ q λz=>z),q];simp⟩⟩
 grind
end
def Ds(h:Heap)(H:Hp):LA:=(List.range h.objs.size).filter λa=>(H a).isSome
def uc(h:Heap)(H:Hp):Heap:=PySem.W.hideAll h (Ds h H)
def Zl(h:Heap)(H:Hp):(uc h H).objs.size=h.objs.size:=PySem.W.hideAll_size _ _
def Zm(e:h.get? b=some o)(n:H b=none):(uc h H).get? b=some o:=
 PySem.W.hideAll_get _ e λhm=>by
  have q:(H b).isSome=true:=(j8.mp hm).2;rw[n] at q;simp at q
def Zn(e:(uc h H).get? b=some o):h.get? b=some o/\H b=none:=by
 have e':h.get? b=some o:=PySem.W.of_hideAll (Ds h H) e;refine⟨e',?_⟩;cases q:H b with
 |none=>rfl
 |some x=>
  have hm:b∈Ds h H:=j8.mpr ⟨Aq.mpr (cZ e'),by simp[q]⟩;have z:(uc h H).get? b=none:=PySem.W.hideAll_none (Ds h H) hm;simp_all
structure Mod(K:FR)(mg:MG)(base:Heap):Prop where
 rS:K.In base
 glob:base.Ns mainGlobals mg
 blt:∃mb,base.Ns builtinsNs mb/\∀x:Str,x≠"__name__"->mb x=bootBuiltins x
 nolimit:base.NoLimit
structure Cx where
 prog:Program
 w:World
 K:FR
 mg:Str->Option Value
 base:Heap
 A:Around
 N:LS
 g8:Shared
 qB:Hp
 env:Env
 outer:List Env
 stack:List Env
 ex:LA
 fn:Str->Bool
 calm:Bool
 pn:bG
 xe:VP
def m6(l:List Env):LA:=l.filterMap (·.frame)
abbrev Cx.fs(X:Cx):LA:=m6 X.outer
def wU(sc:Scope)(x:Str):Prop:=sc.names.lookup x=some .local\/sc.names.lookup x=some .cell\/sc.names.lookup x=some .free
def Loc(sc:Scope)(x:Str):Prop:=sc.names.lookup x=some .local\/sc.names.lookup x=some .cell
def Look(env:Env)(h:Heap)(m:MG)(x:Str)(u:Value):Prop:=
 (env.kindOf x=some .local/\m x=some u)\/((env.kindOf x=some .cell\/env.kindOf x=some .free)/\∃c,env.cells.lookup x=some c/\h.IsCell c Âm)
structure Cx.Ok(X:Cx):Prop where
 mod:Mod X.K X.mg X.base
 kind:X.env.scope.kind=.function
 glob:X.env.globals=mainGlobals
 blt:X.env.builtins=builtinsNs
 above:X.g8.heap.objs.size<=X.env.locals
 inj:∀x y c,X.env.cells.lookup x=some c->X.env.cells.lookup y=some c->x=y
 has:∀x,(X.env.kindOf x=some .cell\/X.env.kindOf x=some .free)->∃c,X.env.cells.lookup x=some c
 wV:∀x c,X.fn x=true->X.env.cells.lookup x=some c->X.g8.heap.objs.size<=c
 hd:X.calm=true->X.A.handled=none
 frames:X.A.frames=some X.stack
 AF:X.stack=X.outer\/(X.stack=X.env::X.outer/\X.env.frame=some X.env.locals)
 AG:∀b∈X.ex,b≠X.env.locals/\∀x c,X.env.cells.lookup x=some c->c≠b
 bs:∀b o,X.base.get? b=some o->X.g8.heap.get? b=some o/\X.qB b=none
 m7:X.base.objs.size<=X.g8.heap.objs.size
 yA:∀b o,X.base.get? b=some o->b∉X.ex
 yB:∀b∈X.ex,b∉X.fs
 kG:X.g8.heap.FunFrames X.base X.outer
 pC:∀b∈X.fs,X.qB b=none
structure Inv(X:Cx)(pins:bG)(σ:List (Option V))(H:Hp)(s:Sh):Prop where
 ok:X.Ok
 os:s.os=X.g8.os
 bare:AllBare s.gens
 base:Un X.fs X.ex X.qB H X.g8.heap s.heap
 loc:∃m,s.heap.Ns X.env.locals m/\∀(i:Nat)(x:Str)(v:V),X.N[i]? =some x->σ[i]? =some Ãj->wU X.env.scope x->∃u,RelV v u/\Look X.env s.heap m x u
 cell:∀x c,X.env.cells.lookup x=some c->∃v,s.heap.IsCell c v
 free:H X.env.locals=none
 kH:∀x c,X.env.cells.lookup x=some c->H c=none
 pin:∀p∈X.pn++pins,s.heap.get? p.1=some p.2/\H p.1=none/\p.1≠X.env.locals/\p.1∉X.fs/\∀v,p.2.data≠ .cell v
 ax:Àb H s.heap
 len:σ.length=X.N.length
section
variable{X:Cx}{pins:bG}{σ:List (Option V)}{H H':Hp}{s:Sh}{h':Heap}
def Cx.Ok.Zo(ok:X.Ok)(e:X.base.get? b=some o):b∉X.fs:=λhb=>by
 have:=(ok.kG.mem hb).1;simp_all
def Inv.bs(I:Ã H s):∀b o,X.base.get? b=some o->s.heap.get? b=some o/\H b=none:=λb o e=>
 ⟨I.base.keep b o (I.ok.bs b o e).1 (I.ok.bs b o e).2 (I.ok.Zo e) (I.ok.yA b o e),I.base.free b o (I.ok.bs b o e).1 (I.ok.bs b o e).2 (I.ok.yA b o e)⟩
def Inv.bk(I:Ã H s):∀b o,X.base.get? b=some o->s.heap.get? b=some o:=λb o e=>(I.bs b o e).1
def Inv.mod(I:Ã H s):Mod X.K X.mg X.base:=I.ok.mod
def Inv.fu(I:Ã H s):X.K.In s.heap:=I.ok.mod.rS.keeps I.bk
def Inv.fr(I:Ã H s):∃m,Fr X.base X.env.locals s.heap m:=
 let ⟨m,hn,_⟩:=I.loc
 ⟨m,hn,I.bk,gQ I.ok.m7 I.ok.above⟩
def Inv.lt(I:Ã H s):X.env.locals<s.heap.objs.size:=let ⟨_,hn,_⟩:=I.loc;hn.lt
def Inv.sz(I:Ã H s):X.g8.heap.objs.size<=s.heap.objs.size:=gQ I.ok.above (tU I.lt)
def Inv.Zp(I:Ã H s)(h:s.heap.objs.size<=a):a∉X.fs:=λhb=>by
 obtain⟨_,o,ho,_⟩:=I.ok.kG.mem hb;exact absurd (iq (cZ ho) (gQ I.sz h)) (qw _)
def Inv.ve(I:Ã H s):∀x c,X.env.cells.lookup x=some c->c≠X.env.locals:=λx c e z=>by
 obtain⟨v,o,ho,hd⟩:=I.cell x c e;obtain⟨m,⟨o',es,ep,pE,pF,_⟩,_⟩:=I.loc;simp_all
def Inv.kG(I:Ã H s):s.heap.FunFrames X.base X.outer:=by
 have all:∀(l:List Env),(∀b∈m6 l,b∈X.fs)->X.g8.heap.FunFrames X.base l->s.heap.FunFrames X.base l:=by
  intro l;induction l with
  |nil=>intro _ _;trivial
  |cons env r ih=>
   intro hs hl;obtain⟨hk,⟨L,o,hf,hn,ho,hd⟩,hr⟩:=hl;have hL:L∈X.fs:=hs L (by unfold m6;rw[C7,hf];exact gy);obtain⟨sl,e⟩:=I.base.slot L o ho (I.ok.pC L hL) hL λz=>I.ok.yB L z hL;exact⟨hk,⟨L,_,hf,hn,e,hd⟩,ih (λb hb=>hs b (by unfold m6;rw[C7,hf];exact aO _ hb)) hr⟩
 exact all X.outer (λ_ hb=>hb) I.ok.kG
def Inv.stack(I:Ã H s):s.heap.FunFrames X.base X.stack:=by
 rcases I.ok.AF with e|⟨e,hf⟩
 ·rw[e];exact I.kG
 ·rw[e];obtain⟨m,hn,_⟩:=I.loc;refine .cons (by rw[I.ok.kind];decide) hf hn ?_ I.kG;exact OI (gQ I.ok.m7 I.ok.above)
def Inv.AH(I:Ã H s):∀b∈m6 X.stack,b∈X.env.locals::X.fs:=λb hb=>by
 rcases I.ok.AF with e|⟨e,hf⟩
 ·simp_all
 ·rw[e] at hb;unfold m6 at hb;rw[C7,hf] at hb;exact hb
def Inv.Dt(I:Ã H s):∀b∈m6 X.stack,H b=none:=λb hb=>by
 rcases ba.mp (I.AH b hb) with e|hb
 ·rw[e];exact I.free
 ·obtain⟨_,o,ho,_⟩:=I.ok.kG.mem hb;exact I.base.free b o ho (I.ok.pC b hb) λz=>I.ok.yB b z hb
def Inv.step{g':Array GenState}{t':Nat}{d':Drawn}{ch:LA}(I:Ã H s)(oo:∀b∈ch,(b∈X.ex\/X.g8.heap.objs.size<=b)/\b≠X.env.locals/\(∀x c,X.env.cells.lookup x=some c->c≠b)/\∀p∈X.pn++pins,p.1≠b)(keep:∀b o,b≠X.env.locals->b∉X.fs->b∉ch->s.heap.get? b=some o->H b=none->h'.get? b=some o)(slot:∀b o,b≠X.env.locals->b∈X.fs->b∉ch->s.heap.get? b=some o->H b=none->∃sl,h'.get? b=some {o with slots:=sl}) (free:∀b o,b∉ch->s.heap.get? b=some o->H b=none->H' b=none)(there:∀b o,b∉ch->s.heap.get? b=some o->∃o',h'.get? b=some o')(pA:∀b xs,H b=some ϰ->H' b=some ϰ) (m5:∀b o u,H b=some Ès->H' b=some Ès) (pB:∀b ps,H b=some (.gG ps)->∃jc,H' b=some (.gG (ps++jc)))(ns:∀m,s.heap.Ns X.env.locals m->h'.Ns X.env.locals m) (ax:Àb H' h') (hg:AllBare g'):
  Inv X pins σ H' {s with heap:=h',gens:=g',drawn:=d',toks:=t'}:=by
 have Pk:∀b o,X.g8.heap.get? b=some o->b≠X.env.locals:=λb o e=>fj ϶;have Hz:∀b o,X.g8.heap.get? b=some o->b∉X.ex->b∉ch:=λb o e hx hb=>by
  rcases(oo b hb).1 with z|z
  ·simp_all
  ·exact absurd (iq (cZ e) z) (qw _)
 have aoH:∀x c,X.env.cells.lookup x=some c->∀v,s.heap.IsCell c v->h'.IsCell c v:=λx c e v ⟨o,ho,hd⟩=>by
  have AI:c∉ch:=λz=>(oo c z).2.2.1 x c e rfl;by_cases hc:c∈X.fs
  ·obtain⟨sl,q⟩:=slot c o (I.ve x c e) hc AI ho Ça;exact⟨_,q,hd⟩
  ·exact⟨o,keep c o (I.ve x c e) hc AI ho Ça,hd⟩
 refine⟨I.ok,I.os,hg,⟨λb o e n hb hx=>?_,λb o e n hb hx=>?_,λb o e n hx=>?_,λb o e hx=>?_,λb xs e=>pA b xs (I.base.pA b xs e),λb o xs e=>m5 b o xs (I.base.m5 b o xs e),λb ps e=>?_⟩,?_,λx c e=>?_,?_,λx c e=>?_,λp hp=>?_,ax,I.len⟩
 ·exact keep b o (Pk b o e) hb (Hz b o e hx) Àt Ϣ
 ·obtain⟨sl,e1⟩:=I.base.slot b o e n hb hx;obtain⟨sl',e2⟩:=slot b _ (Pk b o e) hb (Hz b o e hx) e1 Ϣ;simp_all
 ·obtain⟨o',e1⟩:=I.base.there b o e hx;exact free b o' (Hz b o e hx) e1 Ϣ
 ·obtain⟨o',e1⟩:=I.base.there b o e hx;simp_all
 ·obtain⟨m1,e1⟩:=I.base.pB b ps e;grind
 ·obtain⟨m,hn,hl⟩:=I.loc;refine⟨m,ns m hn,λi x v e1 e2 e3=>?_⟩;obtain⟨u,r,l⟩:=hl i x v e1 e2 e3;refine⟨u,r,?_⟩;rcases l with l|⟨k,c,e,z⟩
  ·exact .inl l
  ·exact .inr ⟨k,c,e,aoH x c e _ z⟩
 ·obtain⟨v,z⟩:=I.cell x c e;grind
 ·obtain⟨m,⟨o,_,_,ho,_⟩,_⟩:=I.loc;exact free _ o (λz=>(oo _ z).2.1 rfl) ho I.free
 ·obtain⟨v,o,ho,hd⟩:=I.cell x c e;exact free c o (λz=>(oo c z).2.2.1 x c e rfl) ho Ça
 ·obtain⟨e,n,ne,nf,d⟩:=I.pin p hp;have AI:p.1∉ch:=λz=>(oo p.1 z).2.2.2 p hp rfl;exact⟨keep p.1 p.2 ne nf AI e n,free p.1 p.2 AI e n,ne,nf,d⟩
def Inv.un{t':Nat}(I:Ã H s)(u:Un X.fs [] H H' s.heap h')(ax:Àb H' h'):Ã H' {s with heap:=h',toks:=t'}:=by
 obtain⟨m,⟨o,es,ep,ho,r⟩,_⟩:=id I.loc;obtain⟨sl,hL⟩:=u.any ho I.free Ä;exact I.step (g':=s.gens) (d':=s.drawn) (ch:=[]) (λ_ z=>nomatch z) (λb o _ hb _ e n=>u.keep b o e n hb Ä) (λb o _ hb _ e n=>u.slot b o e n hb Ä) (λb o _ e n=>u.free b o e n Ä) (λb o _ e=>u.there b o e Ä) u.pA u.m5 u.pB (λm' hm=>by
  obtain⟨o',oq,rT,pE,r'⟩:=hm;rw[ho] at pE;cases pE;exact⟨_,oq,rT,hL,r'⟩) ax I.bare
def Inv.call{g':Array GenState}{t':Nat}{d':Drawn}{ch:LA}(I:Ã H s)(u:Un (m6 X.stack) ch H H' s.heap h')(ax:Àb H' h')(hg:AllBare g')(oo:∀b∈ch,(b∈X.ex\/X.g8.heap.objs.size<=b)/\b≠X.env.locals/\(∀x c,X.env.cells.lookup x=some c->c≠b)/\∀p∈X.pn++pins,p.1≠b):
  Inv X pins σ H' {s with heap:=h',gens:=g',drawn:=d',toks:=t'}:=by
 obtain⟨m,⟨o,es,ep,ho,r⟩,_⟩:=id I.loc;obtain⟨sl,hL⟩:=u.any ho I.free λz=>(oo _ z).2.1 rfl;exact I.step (ch:=ch) oo (λb o hL hb hc e n=>u.keep b o e n (λz=>(ba.mp (I.AH b z)).elim hL hb) hc) (λb o _ _ hc e n=>u.any e n hc) (λb o hc e n=>u.free b o e n hc) (λb o hc e=>u.there b o e hc) u.pA u.m5 u.pB (λm' hm=>by
  obtain⟨o',oq,rT,pE,r'⟩:=hm;rw[ho] at pE;cases pE;exact⟨_,oq,rT,hL,r'⟩) ax hg
def Inv.turned{t':Nat}{it:Addr}(I:Ã H s)(k:∀b o,b≠it->s.heap.get? b=some o->h'.get? b=some o)(hn:H it=none)(hL:it≠X.env.locals)(h1:it∈X.ex\/X.g8.heap.objs.size<=it) (h2:∀x c,X.env.cells.lookup x=some c->c≠it) (h3:∀p∈X.pn++pins,p.1≠it):Ã H {s with heap:=h',toks:=t'}:=by
 have vg:∀b u,H b=some u->b≠it:=λb u e z=>by rw[z,hn] at e;cases e
 refine I.step (g':=s.gens) (d':=s.drawn) (ch:=[it]) Ď (λb o _ _ hc e _=>k b o (λz=>hc (by simp[z])) e) (λb o _ _ hc e _=>⟨o.slots,k b o (λz=>hc (by simp[z])) e⟩) (λ_ _ _ _ n=>n)
  (λb o hc e=>⟨o,k b o (λz=>hc (by simp[z])) e⟩) (λ_ _ e=>e) (λ_ _ _ e=>e) (λb ps e=>⟨#[],by rw[e];simp⟩) Åz (λb u e=>?_) I.bare
 ·have e:b=it:=by simpa using hb
  subst e;exact⟨h1,hL,h2,h3⟩
 ·obtain⟨o,es,ep,ho,r⟩:=hm;exact⟨o,es,ep,k _ o (dX hL) ho,r⟩
 ·refine(I.ax b u e).m4 Áu (λ_ q=>q) λ_ _ q=>q;rcases hc with z|z
  ·rw[z];exact vg b u e
  ·exact vg c _ z
def Inv.tok(I:Ã H s)(t:Nat):Ã H {s with toks:=t}:=I.un (h':=s.heap) (t':=t) Un.refl I.ax
def Inv.kept{t':Nat}(I:Ã H s)(k:∀b u,s.heap.get? b=some u->h'.get? b=some u):Ã H {s with heap:=h',toks:=t'}:=I.un (Un.kept k) (I.ax.kept k)
def Inv.laid{a:Addr}{o:HO}{t':Nat}(I:Ã H s)(k:∀b u,s.heap.get? b=some u->h'.get? b=some u)(hp:s.heap.objs.size<=a)(new:Àa (ť o) h' a o):
  Inv X pins σ (ť o) {s with heap:=h',toks:=t'}:=I.un (Un.laid k hp (I.ax.fresh hp)) (I.ax.laid k hp new)
def Inv.write{x e:Addr}{o:HO}{t':Nat}(I:Ã H s)(mu:ub (H x))(he:e=x\/H e=some Äx)(k:∀b u,b≠e->s.heap.get? b=some u->h'.get? b=some u)(AD:∃u,h'.get? e=some u)(new:Àa (Áe o) h' x o):Ã (Áe o) {s with heap:=h',toks:=t'}:=I.un (Un.write mu he k AD) (I.ax.write mu he k AD new)
def Inv.weak(I:Ã H s)(hl:σ'.length=σ.length)(w:∀(i:Nat)v,σ'[i]? =some Ãj->σ[i]? =some Ãj):Inv X pins σ' H s:=
 ⟨I.ok,I.os,I.bare,I.base,let ⟨m,hn,HA⟩:=I.loc;⟨m,hn,λi x v e1 e2 e3=>HA i x v e1 (w i v e2) e3⟩,I.cell,I.free,I.kH,I.pin,I.ax,hl.trans I.len⟩
def Inv.HB(I:Ã H s)(h:∀p∈Zq,s.heap.get? p.1=some p.2/\H p.1=none/\p.1≠X.env.locals/\p.1∉X.fs/\∀v,p.2.data≠ .cell v):Inv X Zq σ H s:=
 ⟨I.ok,I.os,I.bare,I.base,I.loc,I.cell,I.free,I.kH,λp hp=>(gR.mp hp).elim (λz=>I.pin p (Ar _ z)) (h p),I.ax,I.len⟩
def HC{N:LS}(hN:N.Nodup){i j:Nat}{x:Str}(a:N[i]? =some x)(b:N[j]? =some x):i=j:=by
 obtain⟨h1,e1⟩:=bO.mp a;obtain⟨h2,e2⟩:=bO.mp b;exact(XR hN).mp (e1.trans e2.symm)
def Pl{E:VP}{Q:Unit->Shared->Prop}(I:Ã H s)(hN:X.N.Nodup)(hi:X.N[i]? =some x)(hx:Loc X.env.scope x)(r:RelV v u)(h:∀s',Inv X pins ļ H s'->(∃a,Heap.SameBut a s.heap s'.heap/\(a=X.env.locals\/X.env.cells.lookup x=some a))->Q () s') (hf:X.fn x=true\/X.env.scope.names.lookup x=some .local:=by first|exact .inl rfl|exact .inr rfl|assumption):Ž (storeName X.env x u) Q E s:=by
 obtain⟨m,hn,hl⟩:=id I.loc;have AA:(X.env.scope.kind== .class||(X.env.scope.kind== .module&&X.env.locals !=X.env.globals))=false:=by rw[I.ok.kind];rfl
 have hiσ:i<σ.length:=by rw[I.len];exact(bO.mp hi).1
 have ve:=I.ve;have Xx:∀{a:Addr}{h':Heap},(∃o,s.heap.get? a=some o/\H a=none)->Heap.SameBut a s.heap h'->Àb H h':=λ{a h'}ha hs b ob e=>by
  obtain⟨_,_,Du⟩:=ha;refine(I.ax b ob e).m4 (λc w' hc q=>(hs.2 c ?_).trans q) (λ_ q=>q) λ_ _ q=>q;grind
 rcases hx with hk|hk
 ·refine wpAny_storeName_local hk hn (λh' Pn hs=>?_) AA;obtain⟨oL,_,_,Zr,_⟩:=id hn;refine h _ ⟨I.ok,I.os,I.bare,⟨λb o e n hb hx=>?_,λb o e n hb hx=>?_,I.base.free,λb o e hx=>?_,I.base.pA,I.base.m5,I.base.pB⟩,⟨_,Pn,λj y v' e1 e2 e3=>?_⟩,λy c e=>?_,I.free,I.kH,λp hp=>?_,Xx ⟨oL,Zr,I.free⟩ hs,by simpa using I.len⟩ ⟨_,hs,.inl rfl⟩
  ·exact(hs.2 b (fj ϶)).trans Àt
  ·obtain⟨sl,e1⟩:=I.base.slot b o e n hb hx;exact⟨sl,(hs.2 b (fj ϶)).trans e1⟩
  ·obtain⟨o',e1⟩:=I.base.there b o e hx;exact⟨o',(hs.2 b (fj ϶)).trans e1⟩
  ·by_cases hj:j=i
   ·subst hj;rw[hi] at e1;cases e1;rw[XS hiσ] at e2;cases e2;exact⟨u,r,.inl ⟨hk,by simp⟩⟩
   ·rw[XU (dX hj)] at e2;obtain⟨u',r',q⟩:=hl j y v' e1 e2 e3;refine⟨u',r',?_⟩;rcases q with ⟨k,e⟩|⟨k,c,e,z⟩
    ·refine .inl ⟨k,?_⟩;have:y≠x:=λe=>hj (HC hN e1 (e▸ hi));simp_all
    ·exact .inr ⟨k,c,e,z.sameBut hs (ve y c e)⟩
  ·obtain⟨w',z⟩:=I.cell y c e;exact⟨w',z.sameBut hs (ve y c e)⟩
  ·obtain⟨e,n,ne,nf,d⟩:=I.pin p hp;exact⟨(hs.2 p.1 ne).trans e,n,ne,nf,d⟩
 ·have HE:X.fn x=true:=by
   simp_all
  obtain⟨c,hc⟩:=I.ok.has x (.inl hk);obtain⟨w',z⟩:=I.cell x c hc;refine wpAny_storeName_cell I.ok.kind hk hc z (λh' AJ hs=>?_);obtain⟨oc,Zs,apP⟩:=id z;refine h {s with heap:=h'} ⟨I.ok,I.os,I.bare,⟨λb o e n hb hx=>?_,λb o e n hb hx=>?_,I.base.free,λb o e hx=>?_,I.base.pA,I.base.m5,I.base.pB⟩,⟨m,hn.sameBut hs (dX (ve x c hc)),λj y v' e1 e2 e3=>?_⟩,λy c' e=>?_,I.free,I.kH,λp hp=>?_,Xx ⟨oc,Zs,I.kH x c hc⟩ hs,À I.len⟩ ⟨c,hs,.inr hc⟩
  ·exact(hs.2 b ϒ).trans Àt
  ·obtain⟨sl,e1⟩:=I.base.slot b o e n hb hx;exact⟨sl,(hs.2 b ϒ).trans e1⟩
  ·obtain⟨o',e1⟩:=I.base.there b o e hx;exact⟨o',(hs.2 b ϒ).trans e1⟩
  ·by_cases hj:j=i
   ·subst hj;rw[hi] at e1;cases e1;rw[XS hiσ] at e2;cases e2;exact⟨u,r,.inr ⟨.inl hk,c,hc,AJ⟩⟩
   ·rw[XU (dX hj)] at e2;obtain⟨u',r',q⟩:=hl j y v' e1 e2 e3;refine⟨u',r',?_⟩;rcases q with q|⟨k,c',e,z'⟩
    ·exact .inl q
    ·refine .inr ⟨k,c',e,z'.sameBut hs ?_⟩;rintro rfl;exact hj (HC hN e1 (I.ok.inj _ _ _ e hc▸ hi))
  ·by_cases jg:c'=c
   ·grind
   ·obtain⟨w2,z2⟩:=I.cell y c' e;exact⟨w2,z2.sameBut hs jg⟩
  ·obtain⟨e,n,ne,nf,d⟩:=I.pin p hp;refine⟨(hs.2 p.1 ?_).trans e,n,ne,nf,d⟩;grind
def Dv(I:Ã H s)(hN:X.N.Nodup)(hi:X.N[i]? =some x)(hx:Loc X.env.scope x)(r:RelV v u)(h:∀s',Inv X pins ļ H s'->Q () s') (hf:X.fn x=true\/X.env.scope.names.lookup x=some .local:=by first|exact .inl rfl|exact .inr rfl|assumption):Ž (storeName X.env x u) Q E s:=
 Pl I hN hi hx r (λs' I' _=>h s' I') hf
def Inv.vh{s':Sh}{ch:LA}(I:Ã H s)(ho:s'.os=s.os)(u:Un (m6 X.stack) ch H H' s.heap s'.heap)(ax:Àb H' s'.heap)(hg:AllBare s'.gens)(oo:∀b∈ch,(b∈X.ex\/X.g8.heap.objs.size<=b)/\b≠X.env.locals/\(∀x c,X.env.cells.lookup x=some c->c≠b)/\∀p∈X.pn++pins,p.1≠b):Ã H' s':=by
 obtain⟨h',g',d',t',o'⟩:=s';have e:o'=s.os:=ho;subst e;exact I.call (g':=g') (t':=t') (d':=d') u ax hg oo
end
abbrev XK:=Value->OA->Hp->Prop
abbrev St:=List (Option V)
abbrev VK:=V->Hp->Prop
abbrev TE:=St->Hp->VK->Prop
abbrev TT:=St->Hp->(Bool->Hp->Prop)->Prop
abbrev TA:=St->Hp->(au->Hp->Prop)->Prop
structure Ends where
 nx:St->Hp->Prop
 rt:VK
 bk:St->Hp->Prop:=λ_ _=>False
 ct:St->Hp->Prop:=λ_ _=>False
abbrev TS:=Ends->St->Hp->Prop
inductive EP(X:Cx)(pins:bG)(σ:St)(Q:VK)(u:Value)(s':Sh):Prop
 |mk (v:V) (H':Hp) (_:Ã H' s') (_:RelV v u) (_:Q v H')
inductive TP(X:Cx)(pins:bG)(σ:St)(Q:Bool->Hp->Prop)(b:Bool)(s':Sh):Prop
 |mk (H':Hp) (_:Ã H' s') (_:Q b H')
inductive AP(X:Cx)(pins:bG)(σ:St)(Q:au->Hp->Prop)(us:LV)(s':Sh):Prop
 |mk (vs:au) (H':Hp) (_:Ã H' s') (_:bc vs us) (_:Q vs H')
inductive WP(X:Cx)(pins:bG)(Q:St->Hp->Prop)(s':Sh):Prop
 |mk (σ':St) (H':Hp) (_:Ϩ s') (_:Q σ' H')
def SP(X:Cx)(pins:bG)(D:Ends)(f:Flow)(s':Sh):Prop:=
 match f with
 |.next=>WP X pins D.nx s'
 |.brk=>WP X pins D.bk s'
 |.cont=>WP X pins D.ct s'
 |.ret u=>∃v σ' H',Ϩ s'/\RelV v u/\D.rt v H'
def PE(X:Cx)(e:Expr)(t:TE):Prop:=
 ∀(pins:bG)(s:Sh)(σ:St)(H:Hp)(Q:VK),Ã H s->t σ H Q->wpAny È X.A ϓ (ò Q) X.xe s
def PT(X:Cx)(e:Expr)(t:TT):Prop:=
 ∀(pins:bG)(s:Sh)(σ:St)(H:Hp)(Q:Bool->Hp->Prop),Ã H s->t σ H Q->wpAny È X.A (isTrue e X.env ϓ) Âu X.xe s
def PW(X:Cx)(e:Expr)(t:TT):Prop:=
 ∀(whole:Sem Value)(pins:bG)(s:Sh)(σ:St)(H:Hp)(Q:Bool->Hp->Prop),Ã H s->t σ H Q->wpAny È X.A (isTrue e X.env whole) Âu X.xe s
def PW.pt(h:PW X e t):PT X e t:=h _
def PA(X:Cx)(es:List Expr)(t:TA):Prop:=
 ∀(pos:Pos)(pins:bG)(s:Sh)(σ:St)(H:Hp)(Q:au->Hp->Prop),Ã H s->t σ H Q->wpAny È X.A (spliced (backTo pos õ)) (AP X pins σ Q) X.xe s
def PS(X:Cx)(st:Stmt)(t:TS):Prop:=
 ∀(pins:bG)(s:Sh)(σ:St)(H:Hp)(D:Ends),Ã H s->t D σ H->wpAny È X.A (exec st X.env) Åj X.xe s
def kI(X:Cx)(st:List Stmt)(t:TS):Prop:=
 ∀(pins:bG)(s:Sh)(σ:St)(H:Hp)(D:Ends),Ã H s->t D σ H->wpAny È X.A (execs st X.env) Åj X.xe s
def aK{α:Type}{t:Sem α}{Q Q':α->Shared->Prop}{M:Model}{A:Around}{E:VP}{s:Sh}(h:Ž t Q E s)(hQ:∀a s,Q a s->Q' a s):Ž t Q' E s:=iU h hQ λ_ _ x=>x
section
inductive ay(i:Nat)(σ:St)(H:Hp)(Q:VK):Prop
 |mk (v:_) (_:σ[i]? =some Ãj) (_:Q v H)
def tC(v:V):TE:=λ_ H Q=>Q v H
def Po(hN:X.N[i]? =some x)(hv:wU X.env.scope x)(hd:(x==("__debug__":Str))=false:=by decide)(kJ:(x==("__classdict__":Str))=false:=by decide):PE X ϳ (ay i):=by
 show Ö;obtain⟨v,e,h⟩:=h;obtain⟨m,hn,hl⟩:=I.loc;obtain⟨u,r,l⟩:=hl i x v hN e hv;have fin:ò Q u s:=⟨v,H,I,r,h⟩;rcases l with ⟨hk,hm⟩|⟨hk,c,hc,yC⟩
 ·exact wpAny_Name (wpAny_loadName_local I.ok.kind hk hn hm fin) hd
 ·rcases hk with hk|hk
  ·exact wpAny_Name (wpAny_loadName_cell I.ok.kind hk hc yC fin) hd
  ·exact wpAny_Name (wpAny_loadName_free I.ok.kind hk hc yC fin kJ) hd
def bo{i j pos}:PE X (.Constant Âx j pos) (tC Âx):=λ_ _ _ H _ I h=>wpAny_Constant_int ⟨.int i,H,I.tok _,⟨_,rfl⟩,h⟩
def yD{b j pos}:PE X (.Constant (.bool b) j pos) (tC (.bl b)):=λ_ _ _ H _ I h=>Constant_bool ⟨.bl b,H,I,rfl,h⟩
def qC{j pos}:PE X (.Constant .none j pos) (tC .aJ):=λ_ _ _ H _ I h=>Constant_none ⟨.aJ,H,I,rfl,h⟩
def Dx{x j pos}:PE X (.Constant Çc j pos) (tC Çc):=λ_ _ _ H _ I h=>Calls.Constant_str ⟨.str x,H,I.tok _,⟨_,rfl⟩,h⟩
def Gl(X:Cx)(x:Str):Prop:=X.env.kindOf x=some .globalImplicit
def vi(I:Ã H s)(hg:Gl X x)(hm:X.mg x=some u)(h:Q u s)(hd:(x==("__debug__":Str))=false:=by decide):wpAny È X.A (eval ϳ X.env) Q E s:=
 aoZ I.ok.kind hg (Calls.loadGlobal_global (by rw[I.ok.glob];exact I.mod.glob.keeps I.bk) hm h) hd
def vj{E:VP}{pins:bG}{s:Sh}{σ:St}{H:Hp}{x:Str}{u:Value}{pos:Pos}{Q:VP}(I:Ã H s)(hg:Gl X x)(hm:X.mg x=none)(hv:bootBuiltins x=some u)(h:Q u s)(hn:x≠"__name__":=by decide) (hd:(x==("__debug__":Str))=false:=by decide):wpAny È X.A (eval ϳ X.env) Q E s:=by
 obtain⟨mb,h1,h2⟩:=I.mod.blt;exact aoZ I.ok.kind hg (Calls.loadGlobal_builtin (by rw[I.ok.glob];exact I.mod.glob.keeps I.bk) hm (by rw[I.ok.blt];exact h1.keeps I.bk) ((h2 x hn).trans hv) h) hd
def vk(hg:Gl X x)(hm:X.mg x=some u)(r:RelV v u)(hd:(x==("__debug__":Str))=false:=by decide):PE X ϳ (tC v):=
 λ_ _ _ H _ I h=>vi I hg hm ⟨v,H,I,r,h⟩ hd
def PC(X:Cx)(op:CmpOp)(a b:Expr)(t:TE):Prop:=
 ∀(pins:bG)(s:Sh)(σ:St)(H:Hp)(Q:VK),Ã H s->t σ H Q->
  wpAny È X.A (eval a X.env) (λv s₁=>wpAny È X.A (eval b X.env) (λu s₂=>wpAny È X.A (compareOp op v u) (ò Q) X.xe s₂) X.xe s₁) X.xe s
def Pp(b:Expr)(h:op≠ .In)(h2:op≠ .NotIn):behindInMarks op b=false:=by
 have e1:(op==CmpOp.In)=false:=by cases op <;> first|rfl|exact absurd rfl h
 have e2:(op==CmpOp.NotIn)=false:=by cases op <;> first|rfl|exact absurd rfl h2
 cases b <;> simp[behindInMarks,e1,e2]
def Zt(ta:TE):TE:=λσ H Q=>ta σ H λx H1=>Q (.bl (decide (x=.aJ))) H1
def Pq(ta:TE):TE:=λσ H Q=>ta σ H λx H1=>Q (.bl (!decide (x=.aJ))) H1
theorem RelV.Pt(r:RelV x v):(v==Value.none)=decide (x=.aJ):=by
 cases x with
 |aJ=>cases r;rfl
 |bl _=>cases r;rfl
 |int _=>obtain⟨t,rfl⟩:=r;rfl
 |str _=>obtain⟨t,rfl⟩:=r;rfl
 |jf _=>obtain⟨t,rfl⟩:=r;rfl
 |AC _=>obtain⟨t,rfl⟩:=r;rfl
 |ref _=>cases r;rfl
 |ty _=>cases r;rfl
def qD{j lr}(ha:ϧ ta):PC X .Is a (.Constant .none j lr) (Zt ta):=by
 show Ö;refine aK (ha pins s σ H _ I h) λv s1 ⟨x,H1,I1,r1,q1⟩=>?_;exact Constant_none (is_none_gen ⟨.bl _,H1,I1,by rw[r1.Pt];rfl,q1⟩)
def HF{j lr}(ha:ϧ ta):PC X .IsNot a (.Constant .none j lr) (Pq ta):=by
 show Ö;refine aK (ha pins s σ H _ I h) λv s1 ⟨x,H1,I1,r1,q1⟩=>?_;exact Constant_none (isnot_none_gen ⟨.bl _,H1,I1,by rw[r1.Pt];rfl,q1⟩)
inductive yE(x:V)(q:Bool->Prop):Prop
 |mk (c:Bool) (_:x=.bl c) (_:q c)
def tB(t:TE):TT:=λσ H Q=>t σ H λx H1=>yE x λc=>Q c H1
def Pu(h:PC X op a b t)(h1:behindInMarks op b=false:=by first|exact Pp _ Ú (by decide)|rfl):PE X Ϙ t:=λpins s σ H Q I hw=>wpAny_Compare1 Âp h1
def ot(h:PC X op a b t)(h1:behindInMarks op b=false:=by first|exact Pp _ Ú (by decide)|rfl):PT X Ϙ (tB t):=by
 intro pins s σ H Q I hw;refine wpAny_isTrue_Compare1 (aK (h pins s σ H _ I hw) λv s1 h1=>aK h1 λu s2 h2=>aK h2 λc s3 ⟨x,H1,I1,r1,q1⟩=>?_) h1;obtain⟨d,rfl,q⟩:=q1;cases r1;exact tV ⟨H1,I1,q⟩
def jx(h:Ϝ t)(he:∀whole,isTrue e X.env whole=(do let v <-whole;standAt e.pos;holding [v] (truthy v)):=by intro _;rfl):PT X e (tB t):=by
 intro pins s σ H Q I hw;refine isTrue_plain (aK (h pins s σ H _ I hw) λv s1 ⟨x,H1,I1,r1,q1⟩=>?_) (he _);obtain⟨d,rfl,q⟩:=q1;cases r1;exact tV ⟨H1,I1,q⟩
def Dy(t u:TT):TT:=λσ H Q=>t σ H λc H1=>if c=true then u σ H1 Q else Q false H1
def HG(t u:TT):TT:=λσ H Q=>t σ H λc H1=>if c=true then Q true H1 else u σ H1 Q
def Zu(t:TT):TT:=λσ H Q=>t σ H λc H1=>Q (!c) H1
theorem pw_and1(ha:PT X a tA):PW X (.BoolOp .And [a] pos) tA:=by
 intro wh pins s σ H Q I h;refine isTrue_and (aK (ha pins s σ H Q I h) λc s1 e=>?_);cases c with
 |true=>exact isTrue_and_nil e
 |false=>exact e
theorem pw_or1(ha:PT X a tA):PW X (.BoolOp .Or [a] pos) tA:=by
 intro wh pins s σ H Q I h;refine isTrue_or (aK (ha pins s σ H Q I h) λc s1 e=>?_);cases c with
 |false=>exact isTrue_or_nil e
 |true=>exact e
theorem pw_and(ha:PT X a tA)(hb:PW X (.BoolOp .And (b::bI) pos) tB'):PW X (.BoolOp .And (a::b::bI) pos) (Dy tA tB'):=by
 intro wh pins s σ H Q I h;refine isTrue_and (aK (ha pins s σ H _ I h) λc s1 ⟨H1,I1,q1⟩=>?_);cases c with
 |true=>exact hb wh pins s1 σ H1 Q I1 q1
 |false=>exact⟨H1,I1,q1⟩
theorem pw_or(ha:PT X a tA)(hb:PW X (.BoolOp .Or (b::bI) pos) tB'):PW X (.BoolOp .Or (a::b::bI) pos) (HG tA tB'):=by
 intro wh pins s σ H Q I h;refine isTrue_or (aK (ha pins s σ H _ I h) λc s1 ⟨H1,I1,q1⟩=>?_);cases c with
 |true=>exact⟨H1,I1,q1⟩
 |false=>exact hb wh pins s1 σ H1 Q I1 q1
def pG(ha:PT X a tA):PT X (.UnaryOp .Not a pos) (Zu tA):=by
 show Ö;exact isTrue_not (aK (ha pins s σ H (λc H1=>Q (!c) H1) I h) λ_ _ ⟨H1,I1,q⟩=>⟨H1,I1,q⟩)
def HH(ta tb:TE):TE:=λσ H Q=>ta σ H λx H1=>yE x λc=>if c=true then tb σ H1 Q else Q (.bl false) H1
def HI(ta tb:TE):TE:=λσ H Q=>ta σ H λx H1=>yE x λc=>if c=true then Q (.bl true) H1 else tb σ H1 Q
def Zv(ta:TE):TE:=λσ H Q=>ta σ H λx H1=>yE x λc=>Q (.bl (!c)) H1
def rV{op}(h:ϧ t):PE X (.BoolOp op [a] pos) t:=λpins s σ H Q I hw=>BoolOp_one Âp
def ud(ha:ϧ ta)(hb:PE X (.BoolOp .And (b::bI) pos) tb):PE X (.BoolOp .And (a::b::bI) pos) (HH ta tb):=by
 show Ö;refine BoolOp_and (aK (ha pins s σ H _ I h) λv s1 ⟨x,H1,I1,r1,q1⟩=>?_);obtain⟨c,rfl,q1⟩:=q1;cases r1;refine tV ?_;cases c with
 |true=>exact hb pins s1 σ H1 Q I1 q1
 |false=>exact⟨.bl false,H1,I1,rfl,q1⟩
def Pw(ha:ϧ ta)(hb:PE X (.BoolOp .Or (b::bI) pos) tb):PE X (.BoolOp .Or (a::b::bI) pos) (HI ta tb):=by
 show Ö;refine BoolOp_or (aK (ha pins s σ H _ I h) λv s1 ⟨x,H1,I1,r1,q1⟩=>?_);obtain⟨c,rfl,q1⟩:=q1;cases r1;refine tV ?_;cases c with
 |false=>exact hb pins s1 σ H1 Q I1 q1
 |true=>exact⟨.bl true,H1,I1,rfl,q1⟩
def AK(ha:ϧ ta):PE X (.UnaryOp .Not a pos) (Zv ta):=by
 show Ö;refine UnaryOp_ (aK (ha pins s σ H _ I h) λv s1 ⟨x,H1,I1,r1,q1⟩=>?_);obtain⟨c,rfl,q1⟩:=q1;cases r1;exact not_of (tV ⟨.bl (!c),H1,I1,rfl,q1⟩)
def wW(t:TT)(ta tb:TE):TE:=λσ H Q=>t σ H λc H1=>if c=true then ta σ H1 Q else tb σ H1 Q
theorem rW(hc:PT X c tA)(ha:ϧ ta)(hb:PE X b tb):PE X (.IfExp c a b pos) (wW tA ta tb):=by
 show Ö;refine wpAny_IfExp (aK (hc pins s σ H _ I h) λd s1 ⟨H1,I1,q1⟩=>?_);cases d with
 |true=>exact ha pins s1 σ H1 Q I1 q1
 |false=>exact hb pins s1 σ H1 Q I1 q1
end
def aa(K:FR)(H:Hp)(a:Addr)(xs:au):Prop:=
 Rd H a ϱ\/
  ∃(o:Obj)(aj:Array Value)(n:Nat),K.lookup a=some o/\o.cls=.type "list"/\o.dict=none/\o.data=.seq aj n/\aj.size<=sizeLine/\bc xs aj.toList
def bu(K:FR)(H:Hp)(a:Addr)(xs:au):Prop:=
 Rd H a ϰ\/
  ∃(o:Obj)(aj:Array Value)(n:Nat),K.lookup a=some o/\o.cls=.type "tuple"/\o.data=.seq aj n/\aj.size<=sizeLine/\bc xs aj.toList
def Zw:Value->Option V
 |.none=>some .aJ
 |.bool b=>some (.bl b)
 |.int i _=>some Âx
 |.str x _=>some Çc
 |.bytes b _=>some (.jf b)
 |.float b _=>some (.AC b)
 |.ref a=>some Ğ
 |.type n=>some (.ty n)
 |_=>none
theorem RelV.abs(r:RelV x u):Zw u=some x:=by
 cases x with
 |aJ=>cases r;rfl
 |bl _=>cases r;rfl
 |int _=>obtain⟨t,rfl⟩:=r;rfl
 |str _=>obtain⟨t,rfl⟩:=r;rfl
 |jf _=>obtain⟨t,rfl⟩:=r;rfl
 |AC _=>obtain⟨t,rfl⟩:=r;rfl
 |ref _=>cases r;rfl
 |ty _=>cases r;rfl
def RelV.inj(r:RelV x u)(q:RelV y u):x=y:=aN (r.abs.symm.trans q.abs)
theorem bc.inj:∀{xs ys:au}{us:LV},bc xs us->bc ys us->xs=ys:=by
 intro xs ys us h;induction h generalizing ys with
 |nil=>intro h';cases h';rfl
 |cons r t ih=>
  intro h';cases h' with
  |cons r' t'=>rw[r.inj r',ih t']
section
variable{X:Cx}{pins:bG}{σ:St}{H:Hp}{s:Sh}{a:Addr}{xs ys:au}
def aa.of{K:FR}(h:H a=some ϱ):â a xs:=.inl (.inl h)
def bu.of{K:FR}(h:H a=some ϰ):Ť a xs:=.inl (.inl h)
def Inv.list(I:Ã H s)(h:Àv a xs):∃aj:LV,bc xs aj/\PlainL s.heap a aj.toArray/\xs.length<=sizeLine:=by
 rcases h with h|⟨o,aj,n,hk,hc,hd,hs,hz,r⟩
 ·obtain⟨z,aj,n,r,e⟩:=h.ok I.ax;exact⟨aj,r,⟨_,n,e,rfl,rfl,rfl⟩,z⟩
 ·refine⟨aj.toList,r,⟨o,n,I.fu a o hk,hc,hd,by assumption⟩,?_⟩;have e:=r.length;simp_all
def Inv.tuple(I:Ã H s)(h:bu X.K H a xs):∃aj:LV,bc xs aj/\IsTup s.heap a aj.toArray/\xs.length<=sizeLine:=by
 rcases h with h|⟨o,aj,n,hk,hc,hs,hz,r⟩
 ·obtain⟨z,aj,r,p⟩:=h.ok I.ax;exact⟨aj,r,p,z⟩
 ·refine⟨aj.toList,r,⟨o,I.fu a o hk,hc,n,À hs⟩,?_⟩;have e:=r.length;simp only[wI] at e;omega
def Inv.AL(I:Ã H s)(h:Àv a xs)(h':Àv a ys):xs=ys:=by
 obtain⟨aj,r,⟨o,n,e,_,_,d⟩,_⟩:=I.list h;obtain⟨its',r',⟨o',n',e',_,_,d'⟩,_⟩:=I.list h';rw[e] at e';cases e';rw[d] at d';injection d' with d1 _;have:aj=its':=by simpa using cE Array.toList d1
 subst this;exact r.inj r'
def Inv.Px(I:Ã H s)(h:bu X.K H a xs)(h':bu X.K H a ys):xs=ys:=by
 obtain⟨aj,r,⟨o,e,_,n,d⟩,_⟩:=I.tuple h;obtain⟨its',r',⟨o',e',_,n',d'⟩,_⟩:=I.tuple h';rw[e] at e';cases e';rw[d] at d';injection d' with d1 _;have:aj=its':=by simpa using cE Array.toList d1
 subst this;exact r.inj r'
end
abbrev Cx.iD(X:Cx)(E:VP):Cx:={X with xe:=E}
abbrev Cx.vm(X:Cx):Cx:=X.iD λ_ _=>False
def Cx.Ok.iD{X:Cx}(ok:X.Ok)(E:VP):(X.iD E).Ok:=
 ⟨ok.mod,ok.kind,ok.glob,ok.blt,ok.above,ok.inj,ok.has,ok.wV,ok.hd,ok.frames,ok.AF,ok.AG,ok.bs,ok.m7,ok.yA,ok.yB,ok.kG,ok.pC⟩
def Cx.Ok.lU{X:Cx}{E:VP}(ok:(X.iD E).Ok):X.Ok:=
 ⟨ok.mod,ok.kind,ok.glob,ok.blt,ok.above,ok.inj,ok.has,ok.wV,ok.hd,ok.frames,ok.AF,ok.AG,ok.bs,ok.m7,ok.yA,ok.yB,ok.kG,ok.pC⟩
section
variable{X:Cx}{pins:bG}{σ:St}{H:Hp}{s:Sh}{E:VP}
def Inv.iD(I:Ã H s)(E:VP):Inv (X.iD E) pins σ H s:=⟨I.ok.iD E,I.os,I.bare,I.base,I.loc,I.cell,I.free,I.kH,I.pin,I.ax,I.len⟩
def Inv.lU(I:Inv (X.iD E) pins σ H s):Ã H s:=⟨I.ok.lU,I.os,I.bare,I.base,I.loc,I.cell,I.free,I.kH,I.pin,I.ax,I.len⟩
theorem SP.lU(h:SP (X.iD E) pins D f s'):SP X pins D f s':=by
 cases f with
 |next=>obtain⟨σ',H',I,q⟩:=h;exact⟨σ',H',I.lU,q⟩
 |brk=>obtain⟨σ',H',I,q⟩:=h;exact⟨σ',H',I.lU,q⟩
 |cont=>obtain⟨σ',H',I,q⟩:=h;exact⟨σ',H',I.lU,q⟩
 |ret u=>obtain⟨v,σ',H',I,r,q⟩:=h;exact⟨v,σ',H',I.lU,r,q⟩
def kI.vm{st:List Stmt}{t:TS}(h:kI X.vm st t):kI X st t:=λpins s σ H D I hw=>
 iU (h pins s σ H D (I.iD _) hw) (λ_ _ q=>q.lU) λ_ _ z=>False.elim z
end
section
variable{X:Cx}{st:Stmt}{bI:List Stmt}{t u:TS}{e:Expr}{te:TE}{pos:Pos}
def Py:TS:=λD σ H=>D.nx σ H
def HJ(t u:TS):TS:=λD σ H=>t {D with nx:=u D} σ H
def d7:kI X [] Py:=λ_ _ σ H _ I h=>C8 ⟨σ,H,I,h⟩
def aB(h1:PS X st t)(h2:kI X bI u):kI X (st::bI) (HJ t u):=by
 intro pins s σ H D I h;refine OJ (aK (h1 pins s σ H {D with nx:=u D} I h) λf s1 q=>?_);cases f with
 |next=>
  obtain⟨σ',H',I',q⟩:=q;exact h2 pins s1 σ' H' D I' q
 |ret v=>exact q
 |brk=>exact q
 |cont=>exact q
theorem aD(h1:PS X st t):kI X [st] t:=by
 intro pins s σ H D I h;refine OJ (aK (h1 pins s σ H D I h) λf s1 q=>?_);cases f with
 |next=>exact C8 q
 |ret v=>exact q
 |brk=>exact q
 |cont=>exact q
def Inv.quiet(I:Ã H s):interactive X.env=false:=by simp[interactive,I.ok.kind]
def Zx(te:TE):TS:=λD σ H=>te σ H λ_ H1=>D.nx σ H1
def rX(he:Ϝ te)(hs:swapsWith e none pos.line X.env=pure false:=by rfl):PS X (.Expr e pos) (Zx te):=by
 intro pins s σ H D I h;exact wpAny_Expr_any (aK (he pins s σ H _ I h) λv s1 ⟨x,H1,I1,r1,q1⟩=>⟨σ,H1,I1,q1⟩) I.quiet hs
def AM(te:TE):TS:=λD σ H=>te σ H D.rt
def aY(he:Ϝ te):PS X (.Return (some e) pos) (AM te):=by
 intro pins s σ H D I h;exact wpAny_Return_some (aK (he pins s σ H _ I h) λv s1 ⟨x,H1,I1,r1,q1⟩=>⟨x,σ,H1,I1,r1,q1⟩)
def Zy(c:TT)(t u:TS):TS:=λD σ H=>c σ H λb H1=>if b=true then t D σ H1 else u D σ H1
theorem dq(hc:PT X c tc)(ha:kI X a t)(hb:kI X b u):PS X (.If c a b pos) (Zy tc t u):=by
 intro pins s σ H D I h;refine wpAny_If (aK (hc pins s σ H _ I h) λd s1 ⟨H1,I1,q1⟩=>?_);cases d with
 |true=>exact ha pins s1 σ H1 D I1 q1
 |false=>exact hb pins s1 σ H1 D I1 q1
end
abbrev TG:=V->St->Hp->(St->Hp->Prop)->Prop
abbrev AN:=au->St->Hp->(St->Hp->Prop)->Prop
def PG(X:Cx)(CZ:Expr)(t:TG):Prop:=
 ∀(pins:bG)(s:Sh)(σ:St)(H:Hp)(v:V)(u:Value)(Q:St->Hp->Prop),Ã H s->RelV v u->t v σ H Q->
  wpAny È X.A (assign CZ X.env u) (λ_ s'=>WP X pins Q s') X.xe s
def Dz(X:Cx)(ts:List Expr)(t:AN):Prop:=
 ∀(pins:bG)(s:Sh)(σ:St)(H:Hp)(vs:au)(us:LV)(Q:St->Hp->Prop),Ã H s->bc vs us->t vs σ H Q->
  wpAny È X.A (assignInOrder ((assignEach ts X.env).map (·.2)) us) (λ_ s'=>WP X pins Q s') X.xe s
abbrev Pz:=V->V->Hp->VK->Prop
def Zz(X:Cx)(op:Operator)(t:Pz):Prop:=
 ∀(pins:bG)(s:Sh)(σ:St)(H:Hp)(x y:V)(v u:Value)(Q:VK),Ã H s->RelV x v->RelV y u->t x y H Q->
  wpAny È X.A (inplaceOp op v u) (ò Q) X.xe s
section
def pH(i:Nat):TG:=λv σ H Q=>Q ļ H
def dJ(i:Nat)(hN:X.N.Nodup)(hi:X.N[i]? =some x:=by rfl)(hx:Loc X.env.scope x:=by first|exact .inl rfl|exact .inr rfl)(hf:X.fn x=true\/X.env.scope.names.lookup x=some .local:=by first|exact .inl rfl|exact .inr rfl|assumption):PG X ϳ (pH i):=by
 intro pins s σ H v u Q I r h;exact wpAny_assign_Name (Dv I hN hi hx r (λs' I'=>⟨_,H,I',h⟩) hf)
def PB:AN:=λvs σ H Q=>vs=[]/\Q σ H
inductive HK(t:TG)(u:AN)(vs:au)(σ:St)(H:Hp)(Q:St->Hp->Prop):Prop
 |mk (v r:_) (_:vs=v::r) (_:t v σ H λσ' H'=>u r σ' H' Q)
def ZA:Dz X [] PB:=by
 intro pins s σ H vs us Q I r h;obtain⟨e,h⟩:=h;subst e;cases r;exact assignInOrder_nil ⟨σ,H,I,h⟩
def PD(h1:PG X e t)(h2:Dz X es u)(hs:(assignEach (e::es) X.env).map (·.2)=assign e X.env::(assignEach es X.env).map (·.2):=by rfl):Dz X (e::es) (HK t u):=by
 intro pins s σ H vs us Q I r h;obtain⟨v,vr,e1,h⟩:=h;subst e1;cases r with
 |cons r rr=>
  rw[hs];refine assignInOrder_cons (aK (h1 pins s σ H _ _ _ I r h) λ_ s1 ⟨σ1,H1,I1,q1⟩=>?_);exact h2 pins s1 σ1 H1 _ _ Q I1 rr q1
inductive PF(K:FR)(n:Nat)(t:AN)(v:V)(σ:St)(H:Hp)(Q:St->Hp->Prop):Prop
 |mk (a xs:_) (_:v=.ref a) (_:Ť a xs) (_:xs.length=n) (_:t xs σ H Q)
def ZC{es:List Expr}{k:Nat}{t:AN}{n:Nat}(hc:X.calm=true)(h:Dz X es t)(hn:(assignEach es X.env).length=n:=by rfl) (qE:(assignEach es X.env).findIdx? (·.1)=none:=by rfl):PG X (.Tuple es k pos) (PF X.K n t):=by
 intro pins s σ H v u Q I r hw;obtain⟨a,xs,e1,hq,hl,hw⟩:=hw;subst e1;cases r;obtain⟨aj,rv,ht,hz⟩:=I.tuple hq;refine assign_Tuple_tuple ć ht (by simp[hn,<-hl,rv.length]) qE λh' hx=>?_;have I1:Ã H {s with heap:=h'}:=I.kept (t':=s.toks) λb o e=>hx b o Çs e;exact h pins _ σ H xs _ Q I1 (by assumption) hw
abbrev g2(K:FR)(i j:Nat):TG:=PF K 2 (HK (pH i) (HK (pH j) PB))
def iE{k:Nat}{p q:Pos}(i j:Nat)(hN:X.N.Nodup)(hc:X.calm=true:=by rfl)(hi:X.N[i]? =some x:=by rfl)(hj:X.N[j]? =some y:=by rfl)(hx:Loc X.env.scope x:=by first|exact .inl rfl|exact .inr rfl)(hy:Loc X.env.scope y:=by first|exact .inl rfl|exact .inr rfl)(hf:X.fn x=true\/X.env.scope.names.lookup x=some .local:=by first|exact .inr rfl|exact .inl rfl) (hg:X.fn y=true\/X.env.scope.names.lookup y=some .local:=by first|exact .inr rfl|exact .inl rfl):PG X (.Tuple [.Name x p,.Name y q] k pos) (g2 X.K i j):=
 ZC hc (PD (dJ i hN hi hx hf) (PD (dJ j hN hj hy hg) ZA))
def yF(te:TE)(g:TG):TS:=λD σ H=>te σ H λx H1=>g x σ H1 D.nx
def cj(i:Nat)(hN:X.N.Nodup)(he:Ϝ te)(hi:X.N[i]? =some x:=by rfl)(hx:Loc X.env.scope x:=by first|exact .inl rfl|exact .inr rfl)(hs:swapsWith e (some (.Name x lr)) pos.line X.env=pure false:=by rfl)(hf:X.fn x=true\/X.env.scope.names.lookup x=some .local:=by first|exact .inl rfl|exact .inr rfl|assumption):
  PS X (.Assign [.Name x lr] e pos) (yF te (pH i)):=by
 intro pins s σ H D I h;refine wpAny_Assign_Name (aK (he pins s σ H _ I h) λv s1 ⟨y,H1,I1,r1,q1⟩=>?_) hs;exact Dv I1 hN hi hx r1 (λs2 I2=>⟨_,H1,I2,q1⟩) hf
def ZD(i:Nat)(te:TE)(ti:Pz):TS:=λD σ H=>∃x,σ[i]? =some (some x)/\te σ H λy H1=>ti x y H1 λz H2=>D.nx (σ.set i (some z)) H2
def ZE(hN:X.N.Nodup)(hi:X.N[i]? =some x)(hx:Loc X.env.scope x)(he:Ϝ te)(ho:Zz X op ti)(hf:X.fn x=true\/X.env.scope.names.lookup x=some .local:=by first|exact .inl rfl|exact .inr rfl|assumption):
  PS X (.AugAssign (.Name x lr) op e pos) (ZD i te ti):=by
 intro pins s σ H D I h;obtain⟨v,e1,h⟩:=h;obtain⟨m,hn,hl⟩:=I.loc;have ZF:wU X.env.scope x:=by rcases hx with k|k;exact .inl k;exact .inr (.inl k)
 obtain⟨u,r,l⟩:=hl i x v hi e1 ZF;refine wpAny_AugAssign_Name ?_;have go:wpAny È X.A ϓ (λw s₂=>wpAny È X.A (inplaceOp op u w) (λr s₃=>wpAny È X.A (storeName X.env x r) (λ_=>SP X pins D .next) X.xe s₃) X.xe s₂) X.xe s:=by
  refine aK (he pins s σ H _ I h) λw s1 ⟨y,H1,I1,r1,q1⟩=>?_;refine aK (ho pins s1 σ H1 v y u w _ I1 r r1 q1) λz s2 ⟨zv,H2,I2,r2,q2⟩=>?_;exact Dv I2 hN hi hx r2 (λs3 I3=>⟨_,H2,I3,q2⟩) hf
 rcases l with ⟨hk,hm⟩|⟨hk,c,hc,yC⟩
 ·exact wpAny_loadName_local I.ok.kind hk hn hm go
 ·rcases hk with hk|hk
  ·exact wpAny_loadName_cell I.ok.kind hk hc yC go
  ·rcases hx with k|k
   ·have:X.env.scope.names.lookup x=some .free:=hk;simp_all
   ·have:X.env.scope.names.lookup x=some .free:=hk;simp_all
end
section
def ZG(c:TT)(tb:TS):TS:=λD σ H=>∃W:Nat->St->Hp->Prop,(∃m,W m σ H)/\∀m σ H,W m σ H->
 c σ H λb H1=>if b=true then ∃N:St->Hp->Prop,(∀σ' H',N σ' H'->∃m',m'<m/\W m' σ' H')/\tb {D with nx:=N,ct:=N,bk:=D.nx} σ H1 else D.nx σ H1
def ZH{c:Expr}{gM:List Stmt}{tc:TT}{tb:TS}(hp:PassesOwn È X.A X.env X.xe)(hc:PT X c tc)(hb:kI X gM tb):PS X (.While c gM [] pos) (ZG tc tb):=by
 intro pins s σ H D I h;obtain⟨W,⟨m0,w0⟩,turn⟩:=h;refine wpAny_While (codeAny_whileLoop (λn s'=>∃σ' H',Ϩ s'/\W n σ' H') ?_ m0 ⟨σ,H,I,w0⟩);rintro n s1 ⟨σ1,H1,I1,w1⟩;refine As hp (aK (hc pins s1 σ1 H1 _ I1 (turn n σ1 H1 w1)) λb s2 ⟨H2,I2,q2⟩=>?_);cases b with
 |true=>
  obtain⟨N,hN,q2⟩:=q2;rw[af rfl];refine As hp (aK (hb pins s2 σ1 H2 _ I2 q2) λf s3 q3=>?_);cases f with
  |next=>
   obtain⟨σ3,H3,I3,n3⟩:=q3;obtain⟨m',hm,w3⟩:=hN σ3 H3 n3;exact⟨m',hm,σ3,H3,I3,w3⟩
  |cont=>
   obtain⟨σ3,H3,I3,n3⟩:=q3;obtain⟨m',hm,w3⟩:=hN σ3 H3 n3;exact⟨m',hm,σ3,H3,I3,w3⟩
  |brk=>exact q3
  |ret v=>exact q3
 |false=>
  rw[ah d9];exact C8 ⟨σ1,H2,I2,q2⟩
end
structure It where
 go:Nat->Hp->Prop
 m8:Nat->Hp->V->Hp->Prop
 stop:Nat->Hp->Prop
def lV(X:Cx)(pins:bG)(H:Hp)(b:Addr):Prop:=
 H b=none/\b≠X.env.locals/\b∉X.fs/\(b∈X.ex\/X.g8.heap.objs.size<=b)/\(∀x c,X.env.cells.lookup x=some c->c≠b)/\∀p∈X.pn++pins,p.1≠b
def Inv.vo(I:Ã H s)(hb:s.heap.objs.size<=b)(hn:H' b=none):Ŀ H' b:=by
 refine⟨hn,tQ (iq I.lt hb),I.Zp hb,.inr (gQ I.sz hb),λx c e z=>?_,λp hp z=>?_⟩
 ·obtain⟨v,q⟩:=I.cell x c e;exact absurd (iq q.lt É) (qw _)
 ·exact absurd (iq (cZ (I.pin p hp).1) É) (qw _)
structure Turn(P:Pg)(w:Wd)(K:FR)(tg:Expr)(J:It)(fp:LA)(it:Addr)(tn:Nat->Heap->Prop):Prop where
 mem:it∈fp
 obj:∀i h,tn i h->∀b∈fp,∃o,h.get? b=some o/\∀v,o.data≠ .cell v
 keep:∀i h h',tn i h->(∀b∈fp,∀o,h.get? b=some o->h'.get? b=some o)->tn i h'
 item:∀(X:Cx),X.prog=P->X.w=w->X.K=K->X.calm=true->∀(i:Nat)(pins:bG)(s:Sh)(σ:St)(H:Hp)(E:VP),Ã H s->(∀b∈fp,Ŀ H b)->tn i s.heap->J.go i H->
  wpAny Àj X.A (pyNext Âz) (λr s1=>∃u,r=some u/\
   wpAny Àj X.A (letOwnedTupleGo tg Âz u) (λ_ s2=>∃x H',Ã H' s2/\RelV x u/\J.m8 i H x H'/\tn (i+1) s2.heap/\∀b∈fp,H' b=none) E s1) E s
 done:∀(X:Cx),X.prog=P->X.w=w->X.K=K->X.calm=true->∀(i:Nat)(pins:bG)(s:Sh)(σ:St)(H:Hp)(E:VP),Ã H s->(∀b∈fp,Ŀ H b)->tn i s.heap->J.stop i H->
  wpAny Àj X.A (pyNext Âz) (λr s1=>r=none/\Ã H s1) E s
 self:∀(A:Around)(i:Nat)(s:Sh)(Q:VP)(E:VP),tn i s.heap->Q Âz s->wpAny Àj A (pyIter Âz) Q E s
abbrev TI:=St->Hp->(It->Hp->Prop)->Prop
def AQ(X:Cx)(pins:bG)(σ:St)(tg:Expr)(R:It->Hp->Prop)(HL:Value)(s2:Sh):Prop:=
 ∃(it:Addr)(fp:LA)(tn:Nat->Heap->Prop)(J:It)(H':Hp),HL=.ref it/\Ã H' s2/\Turn X.prog X.w X.K tg J fp it tn/\tn 0 s2.heap/\(∀b∈fp,Ŀ H' b)/\R J H'
def PI(X:Cx)(tg iter:Expr)(wi:TI):Prop:=
 ∀(pins:bG)(s:Sh)(σ:St)(H:Hp)(R:It->Hp->Prop),Ã H s->wi σ H R->
  wpAny È X.A (eval iter X.env) (λv s1=>wpAny È X.A (pyIter v) Äo X.xe s1) X.xe s
def DA(ho:s.heap.get? it=some o)(hc:o.cls=.type n)(hd:o.data=.fields vs)(hn:["enumerate","zip","dict_itemiterator","dict_reverseitemiterator","odict_iterator","itertools.zip_longest","itertools.pairwise"].contains n=false) (hQ:Q () s):Ž (letOwnedTupleGo tg Âz u) Q E s:=by
 unfold letOwnedTupleGo;cases tg <;> first
  |exact df hQ
  |(cases u <;> first
    |exact df hQ
    |(refine aP (wpAny_load ho ?_)
      rw[hc,hd];show wpAny M A (if (["enumerate","zip","dict_itemiterator","dict_reverseitemiterator","odict_iterator","itertools.zip_longest","itertools.pairwise"].contains n&&vs[0]? ==some (rawInt _))=true then _ else _) Q E s;rw[ah (by intro h;rw[hn,lu] at h;cases h)];exact df hQ))
def vp(K:FR)(a:Addr):It:=
 ⟨λi H=>∃xs x,â a xs/\xs[i]? =some x,λi H x H'=>H'=H/\∀xs,â a xs->xs[i]? =some x,λi H=>∃xs,â a xs/\xs.length<=i⟩
def wX(lo:Int)(n:Nat):It:=⟨λi _=>i<n,λi H x H'=>H'=H/\x=.int (lo+i),λi _=>n<=i⟩
def ZI{P:Pg}{w:Wd}{K:FR}{tg:Expr}(a it:Addr):Turn P w K tg (vp K a) [it] it (λi h=>h.IsListIter it a i) where
 mem:=by simp
 obj:=λi h st b hb=>by
  have e:b=it:=À hb
  subst e;obtain⟨o,e,c,d⟩:=st;exact⟨o,e,λv z=>by rw[d] at z;cases z⟩
 keep:=λi h h' st k=>st.at λo e=>k it Ä o e
 item:=by
  show Ô;subst hP hw hK;obtain⟨xs,x,hq,hx⟩:=hg;obtain⟨aj,rv,p,hz⟩:=I.list hq;obtain⟨u,hu,ru⟩:=rv.get hx;show ë;refine wpAny_pyNext_list_item st p.isList (x:=u) (À hu) λh' ou sb=>?_;have I1:Ã H {s with heap:=h'}:=I.turned (t':=s.toks) (λb o hb e=>(sb.2 b hb).trans e) f0 f1 f3 f4 f5;obtain⟨o,e,c,d⟩:=id ou;exact⟨u,rfl,DA (s:={s with heap:=h'}) e c d Ú ⟨x,H,I1,ru,⟨rfl,λys hy=>by rw[I.AL hy hq];exact hx⟩,ou,λb hb=>(hf b hb).1⟩⟩
 done:=by
  show Ô;subst hP hw hK;obtain⟨xs,hq,hx⟩:=hg;obtain⟨aj,rv,p,hz⟩:=I.list hq;show ë;have hl:=rv.length;exact wpAny_pyNext_list_end ć st p.isList (by simp;omega) λh' eb=>⟨rfl,I.turned (t':=s.toks) Ϗ f0 f1 f3 f4 f5⟩
 self:=λ_ _ _ _ _ st h=>wpAny_pyIter_listiter st h
def ZJ{P:Pg}{w:Wd}{K:FR}{tg:Expr}(it:Addr)(lo:Int)(n:Nat):Turn P w K tg (wX lo n) [it] it (λi h=>IsRangeIter h it (lo+(i:Nat)*1) ((n:Int)-(i:Nat)) 1) where
 mem:=by simp
 obj:=λi h st b hb=>by
  have e:b=it:=À hb
  subst e;exact⟨_,st,λv z=>by
   have z':Data.fields _=Data.cell v:=z;cases z'⟩
 keep:=λi h h' st k=>k it Ä _ st
 item:=by
  show Ô;subst hP hw hK;show ë;have W:=Walks.range (prog:=X.prog) (w:=X.w) ć it lo 1 n;refine W.item i s _ _ hg st λv h' tk hv ou kk=>?_;obtain⟨t,rfl⟩:=hv;have I1:Ã H {s with heap:=h',toks:=tk}:=I.turned (λb o hb e=>kk b o (À hb) e) f0 f1 f3 f4 f5;refine⟨_,rfl,DA (s:={s with heap:=h',toks:=tk}) (n:="range_iterator") ou rfl rfl Ú ⟨.int (lo+i),H,I1,⟨t,?_⟩,⟨rfl,rfl⟩,ou,λb hb=>(hf b hb).1⟩⟩;rw[Int.mul_one]
 done:=by
  show Ô;subst hP hw hK;show ë;exact wpAny_pyNext_range_end ć st (by have:n<=i:=hg;omega) λh' eb=>⟨rfl,I.turned (t':=s.toks) Ϗ f0 f1 f3 f4 f5⟩
 self:=λ_ _ _ _ _ st h=>wpAny_pyIter_rangeiter st h
section
def ZK(K:FR)(tl:TE):TI:=λσ H R=>tl σ H λx H1=>∃a,x=.ref a/\(∃xs,aa K H1 a xs)/\R (vp K a) H1
def eX{l:Expr}{tl:TE}(hl:PE X l tl):PI X tg l (ZK X.K tl):=by
 intro pins s σ H R I h;refine aK (hl pins s σ H _ I h) λv s1 ⟨x,H1,I1,r1,q1⟩=>?_;obtain⟨a,e,⟨xs,hq⟩,q⟩:=q1;subst e;cases r1;obtain⟨aj,rv,p,hz⟩:=I1.list hq;refine XY p.isList ?_;refine⟨s1.heap.objs.size,[s1.heap.objs.size],_,_,H1,rfl,I1.kept (t':=s1.toks) λb o e=>dh _ e,ZI a _,⟨_,ib _ rfl,rfl,rfl⟩,λb hb=>?_,q⟩;have e:b=s1.heap.objs.size:=À hb
 subst e;exact I1.vo (bJ _) Ãq
def PJ{pins:bG}{σ:St}{H:Hp}{s:Sh}{R:It->Hp->Prop}{E:VP}{lo hi:Int}{t u v:Tok}{tk:Nat}(I:Ã H s)(h1: -(2^62)<=lo)(h2:lo<2^62)(h3: -(2^62)<=hi)(h4:hi<2^62)(q:R (wX lo (hi-lo).toNat) H):wpAny È X.A (pyIter ķ) Äo E {s with heap:=s.heap.push {cls:=.type "range",data:=.fields #[.int lo t,.int hi u,.int 1 v]},toks:=tk}:=by
 refine wpAny_pyIter_range (IsRange.new ..) (small_one h1 h2 h3 h4) ?_;have I1:Ã H {s with heap:=s.heap.push {cls:=.type "range",data:=.fields #[.int lo t,.int hi u,.int 1 v]},toks:=tk}:=I.kept λb o e=>dh _ e;refine⟨(s.heap.push {cls:=.type "range",data:=.fields #[.int lo t,.int hi u,.int 1 v]}).objs.size,[(s.heap.push {cls:=.type "range",data:=.fields #[.int lo t,.int hi u,.int 1 v]}).objs.size],_,_,H,rfl,
  I1.kept (t':=tk) λb o e=>dh _ e,ZJ _ lo (hi-lo).toNat,?_,λb hb=>?_,q⟩
 ·have e1:lo+((0:Nat):Int)*1=lo:=by simp
  have e2:(((hi-lo).toNat:Nat):Int)-((0:Nat):Int)=Builtin.Range.rangeSize lo hi 1:=by rw[rangeSize_one];split <;> omega
  show IsRangeIter _ _ (lo+((0:Nat):Int)*1) ((((hi-lo).toNat:Nat):Int)-((0:Nat):Int)) 1;rw[e1,e2];exact ib _ rfl
 ·have e:b=(s.heap.push {cls:=.type "range",data:=.fields #[.int lo t,.int hi u,.int 1 v]}).objs.size:=by simpa using hb
  subst e;exact I1.vo (bJ _) Ãq
def ZL(ta:TA):TI:=λσ H R=>ta σ H λvs H1=>∃j:Int,vs=[.int j]/\ -(2^62)<=j/\j<2^62/\R (wX 0 j.toNat) H1
def ZM(ta:TA):TI:=λσ H R=>ta σ H λvs H1=>∃i j:Int,vs=[.int i,.int j]/\(-(2^62)<=i/\i<2^62/\ -(2^62)<=j/\j<2^62)/\R (wX i (j-i).toNat) H1
def HM{a:Expr}{ta:TA}{p pos:Pos}(hg:Gl X "range")(hm:X.mg "range"=none)(ha:PA X [a] ta)(hs:starEach [a] X.env=[(false,eval a X.env)]:=by rfl):PI X tg (.Call (.Name "range" p) [a] [] pos) (ZL ta):=by
 intro pins s σ H R I h;refine Call_ (Àh boot_range (C9 (aK (ha pos pins s σ H _ I h) λus s1 ⟨vs,H1,I1,r1,q1⟩=>?_) hs rfl));obtain⟨j,e,q1,q2,q⟩:=q1;subst e;cases r1 with
 |cons r rr=>
  cases rr;obtain⟨t,rfl⟩:=r;exact call_range_1 (PJ I1 Æ Æ q1 q2 É)
def ZN(hg:Gl X "range")(hm:X.mg "range"=none)(ha:PA X [a,b] ta)(hs:starEach [a,b] X.env=[(false,eval a X.env),(false,eval b X.env)]:=by rfl)(rY:starEach [b] X.env=[(false,eval b X.env)]:=by rfl):
  PI X tg (.Call (.Name "range" p) [a,b] [] pos) (ZM ta):=by
 intro pins s σ H R I h;refine Call_ (Àh boot_range (C9 (aK (ha pos pins s σ H _ I h) λus s1 ⟨vs,H1,I1,r1,q1⟩=>?_) É (by rw[rY];rfl)));obtain⟨i,j,e,⟨q1,q2,q3,q4⟩,q⟩:=q1;subst e;cases r1 with
 |cons r rr=>
  cases rr with
  |cons r' rr=>
   cases rr;obtain⟨t,rfl⟩:=r;obtain⟨t',rfl⟩:=r';exact call_range_2 (PJ I1 q1 q2 q3 q4 q)
def ZO(wi:TI)(g:TG)(tb:TS):TS:=λD σ H=>wi σ H λJ H1=>∃W:Nat->Nat->St->Hp->Prop,(∃m,W 0 m σ H1)/\∀i m σ H,W i m σ H->
 (J.stop i H/\D.nx σ H)\/(J.go i H/\∃N:St->Hp->Prop,(∀σ' H',N σ' H'->∃m',m'<m/\W (i+1) m' σ' H')/\∀x H',J.m8 i H x H'->g x σ H' λσ2 H2=>tb {D with nx:=N,ct:=N,bk:=D.nx} σ2 H2)
def AR(fp:LA)(h:Heap):bG:=fp.filterMap λb=>(h.get? b).map λo=>(b,o)
def HN(hb:b∈fp)(e:h.get? b=some o):(b,o)∈AR fp h:=GZ.mpr ⟨b,hb,by rw[e];rfl⟩
def ZP(hp:p∈AR fp h):p.1∈fp/\h.get? p.1=some p.2:=by
 obtain⟨b,hb,e⟩:=GZ.mp hp;cases q:h.get? b with
 |none=>simp_all
 |some o=>
  grind
def Inv.pinned(I:Ã H s)(hf:∀b∈fp,Ŀ H b)(ho:∀b∈fp,∃o,s.heap.get? b=some o/\∀v,o.data≠ .cell v):Inv X (pins++AR fp s.heap) σ H s:=
 I.HB λp hp=>(gR.mp hp).elim (λz=>I.pin p (tW _ z)) λz=>by
  obtain⟨hb,e⟩:=ZP z;obtain⟨f0,f1,f2,_⟩:=hf p.1 hb;obtain⟨o,e',d⟩:=ho p.1 hb;rw[e] at e';cases e';exact⟨e,f0,f1,f2,d⟩
def Inv.DB(I:Inv X (pins++pl) σ H s):Ã H s:=I.HB λp hp=>I.pin p (tW _ (Ar _ hp))
def m9(hp:PassesOwn È X.A X.env X.xe)(hc:X.calm=true)(hi:PI X tg iter wi)(hg:PG X tg g)(hb:kI X gM tb)(hs:∀x,foldedSetIterable iter X.env x=pure x:=by intro _;rfl):PS X (.For tg iter gM [] pos) (ZO wi g tb):=by
 intro pins s σ H D I h;refine wpAny_For (aK (hi pins s σ H _ I h) λv s1 h1=>aK h1 λHL s2 h2=>?_) hs;obtain⟨it,fp,tn,J,H2,e,I2,T,DC,f2,W,⟨m0,w0⟩,turn⟩:=h2;subst e;have wY:∀{H':Hp},(∀b∈fp,H' b=none)->∀b∈fp,Ŀ H' b:=λhn b hb=>⟨hn b hb,(f2 b hb).2⟩;refine codeAny_forLoop_any (λn s'=>∃i σ' H',Ϩ s'/\tn i s'.heap/\(∀b∈fp,H' b=none)/\W i n σ' H') ?_ m0 ⟨0,σ,H2,I2,DC,λb hb=>(f2 b hb).1,w0⟩;rintro n s3 ⟨i,σ3,H3,I3,DE,PK,w3⟩;rcases turn i n σ3 H3 w3 with ⟨stop,qn⟩|⟨go,N,hN,step⟩
 ·refine As hp (aK (T.done X rfl rfl rfl hc i pins s3 σ3 H3 X.xe I3 (wY PK) DE stop) λr s4 ⟨hr,I4⟩=>?_);subst hr;exact C8 ⟨σ3,H3,I4,qn⟩
 ·refine As hp (aK (T.item X rfl rfl rfl hc i pins s3 σ3 H3 X.xe I3 (wY PK) DE go) λr s4 ⟨u,hr,h4⟩=>?_);subst hr;refine As hp (aK h4 λ_ s5 ⟨x,H5,I5,r5,y5,yG,ZQ⟩=>?_);have ZR:=I5.pinned (wY ZQ) (T.obj _ _ yG);refine As hp (aK (hg _ s5 σ3 H5 x u _ ZR r5 (step x H5 y5)) λ_ s6 ⟨σ6,H6,I6,q6⟩=>?_);refine As hp (aK (hb _ s6 σ6 H6 _ I6 q6) λf s7 q7=>?_);have again:∀{σ7:St}{H7:Hp},Inv X (pins++AR fp s5.heap) σ7 H7 s7->N σ7 H7->∃m,m<n/\∃i σ' H',Ϩ s7/\tn i s7.heap/\(∀b∈fp,H' b=none)/\W i m σ' H':=λ{σ7 H7}I7 n7=>by
   obtain⟨m',hm,w7⟩:=hN σ7 H7 n7;refine⟨m',hm,i+1,σ7,H7,I7.DB,T.keep _ _ _ yG λb hb o e=>(I7.pin (b,o) (tW _ (tW _ (HN hb e)))).1,λb hb=>?_,w7⟩;obtain⟨o,e,d⟩:=T.obj _ _ yG b hb;exact(I7.pin (b,o) (tW _ (tW _ (HN hb e)))).2.1
  cases f with
  |next=>obtain⟨σ7,H7,I7,n7⟩:=q7;exact again I7 n7
  |cont=>obtain⟨σ7,H7,I7,n7⟩:=q7;exact again I7 n7
  |brk=>obtain⟨σ7,H7,I7,q7⟩:=q7;exact⟨σ7,H7,I7.DB,q7⟩
  |ret v=>obtain⟨x7,σ7,H7,I7,r7,q7⟩:=q7;exact⟨x7,σ7,H7,I7.DB,r7,q7⟩
end
def wZ{K:FR}{a:Addr}{xs:au}{g:TG}{tb:TS}{D:Ends}{σ:St}{H:Hp}(Pv:Nat->St->Hp->Prop)(h0:Pv 0 σ H)(hl:∀i σ H,i<=xs.length->Pv i σ H->â a xs)(hs:∀i x σ H,xs[i]? =some x->Pv i σ H->g x σ H λσ2 H2=>tb {D with nx:=Pv (i+1),ct:=Pv (i+1),bk:=D.nx} σ2 H2) (hd:∀σ H,Pv xs.length σ H->D.nx σ H):
  ∃W:Nat->Nat->St->Hp->Prop,(∃m,W 0 m σ H)/\∀i m σ H,W i m σ H->
   ((vp K a).stop i H/\D.nx σ H)\/((vp K a).go i H/\∃N:St->Hp->Prop,(∀σ' H',N σ' H'->∃m',m'<m/\W (i+1) m' σ' H')/\∀x H',(vp K a).m8 i H x H'->g x σ H' λσ2 H2=>tb {D with nx:=N,ct:=N,bk:=D.nx} σ2 H2):=by
 refine î;rintro i m σ H ⟨rfl,hi,p⟩;have q:=hl i σ H hi p;by_cases bQ:i<xs.length
 ·refine .inr ⟨⟨xs,xs[i],q,by simp[bQ]⟩,Pv (i+1),λσ' H' p'=>⟨xs.length-(i+1),by omega,rfl,bQ,p'⟩,λx H' y=>?_⟩;obtain⟨e,y⟩:=y;subst e;exact hs i x σ _ (y xs q) p
 ·have e:i=xs.length:=by omega
  subst e;exact .inl ⟨⟨xs,q,bJ _⟩,hd σ H p⟩
abbrev R2:=V->V->Hp->VK->Prop
def eS(X:Cx)(f:Value->Value->Sem Value)(r:R2):Prop:=
 ∀(pins:bG)(s:Sh)(σ:St)(H:Hp)(x y:V)(v u:Value)(Q:VK),Ã H s->RelV x v->RelV y u->r x y H Q->
  wpAny È X.A (f v u) (ò Q) X.xe s
def DF(X:Cx)(f:Value->Sem Value)(r:V->Hp->VK->Prop):Prop:=
 ∀(pins:bG)(s:Sh)(σ:St)(H:Hp)(x:V)(v:Value)(Q:VK),Ã H s->RelV x v->r x H Q->
  wpAny È X.A (f v) (ò Q) X.xe s
def lD(X:Cx)(f:Value)(r:au->Hp->VK->Prop):Prop:=
 ∀(pins:bG)(s:Sh)(σ:St)(H:Hp)(xs:au)(us:LV)(Q:VK),Ã H s->bc xs us->r xs H Q->
  wpAny È X.A (call f us) (ò Q) X.xe s
def ZS(X:Cx)(r:V->Hp->(Bool->Hp->Prop)->Prop):Prop:=
 ∀(pins:bG)(s:Sh)(σ:St)(H:Hp)(x:V)(v:Value)(Q:Bool->Hp->Prop),Ã H s->RelV x v->r x H Q->
  wpAny È X.A (truthy v) Âu X.xe s
def bU(r:R2)(ta tb:TE):TE:=λσ H Q=>ta σ H λx H1=>tb σ H1 λy H2=>r x y H2 Q
def DG(r:V->Hp->VK->Prop)(ta:TE):TE:=λσ H Q=>ta σ H λx H1=>r x H1 Q
inductive rI(C:Int->Int->Prop)(g:Int->Int->V)(x:V)(y:V)(H:Hp)(Q:VK):Prop
 |mk (i j:_) (_:x=.int i) (_:y=.int j) (_:C i j) (_:Q Äi H)
inductive gf(g:Int->Int->V)(x:V)(y:V)(H:Hp)(Q:VK):Prop
 |mk (i j:_) (_:x=.int i) (_:y=.int j) (_:Q Äi H)
inductive rU(g:Int->V)(x:V)(H:Hp)(Q:VK):Prop
 |mk (i:_) (_:x=.int i) (_:Q (g i) H)
section
def HP(ha:ϧ ta)(hb:PE X b tb){pins:bG}{s:Sh}{σ:St}{H:Hp}{R:V->V->Hp->Prop}(I:Ã H s)(h:ta σ H λx H1=>tb σ H1 λy H2=>R x y H2) {Q:VP} {f:Value->Value->Sem Value}(hf:∀v u s2 x y H2,Ã H2 s2->RelV x v->RelV y u->R x y H2->wpAny È X.A (f v u) Q X.xe s2):
  wpAny È X.A (eval a X.env) (λv s₁=>wpAny È X.A (eval b X.env) (λu s₂=>wpAny È X.A (f v u) Q X.xe s₂) X.xe s₁) X.xe s:=by
 refine aK (ha pins s σ H _ I h) λv s1 ⟨x,H1,I1,r1,q1⟩=>?_;refine aK (hb pins s1 σ H1 _ I1 q1) λu s2 ⟨y,H2,I2,r2,q2⟩=>?_;exact hf v u s2 x y H2 I2 r1 r2 q2
def eM{op:Operator}{r:R2}(ho:eS X (binaryOp op) r)(ha:ϧ ta)(hb:PE X b tb):PE X (.BinOp a op b pos) Æu:=by
 show Ö;exact wpAny_BinOp (HP ha hb I h λv u s2 x y H2 I2 rx ry q=>ho pins s2 σ H2 x y v u Q I2 rx ry q)
def jh(ho:DF X (unaryOp op) r)(ha:ϧ ta):PE X (.UnaryOp op a pos) (DG r ta):=by
 show Ö;exact UnaryOp_ (aK (ha pins s σ H _ I h) λv s1 ⟨x,H1,I1,r1,q1⟩=>ho pins s1 σ H1 x v Q I1 r1 q1)
def AS{f:Value->Value->Sem Value}{C:Int->Int->Prop}{g:Int->Int->Int}(rule:∀(i j:Int)(t u:Tok)(s:Sh)(Q:VP)(E:VP),C i j->Q (.int Äi s.toks) {s with toks:=s.toks+1}->wpAny È X.A (f Áq (.int j u)) Q E s):
  eS X f (rI C λi j=>.int Äi):=by
 show ð;obtain⟨i,j,rfl,rfl,hc,q⟩:=h;obtain⟨t,rfl⟩:=rx;obtain⟨t',rfl⟩:=ry;exact rule i j t t' s _ _ hc ⟨.int Äi,H,I.tok _,⟨_,rfl⟩,q⟩
def DH{f:Value->Value->Sem Value}{g:Int->Int->Int}(rule:∀(i j:Int)(t u:Tok)(s:Sh)(Q:VP)(E:VP),Q (.int Äi s.toks) {s with toks:=s.toks+1}->wpAny È X.A (f Áq (.int j u)) Q E s):
  eS X f (gf λi j=>.int Äi):=by
 show ð;obtain⟨i,j,rfl,rfl,q⟩:=h;obtain⟨t,rfl⟩:=rx;obtain⟨t',rfl⟩:=ry;exact rule i j t t' s _ _ ⟨.int Äi,H,I.tok _,⟨_,rfl⟩,q⟩
def DI{f:Value->Value->Sem Value}{g:Int->Int->Bool}(rule:∀(i j:Int)(t u:Tok)(s:Sh)(Q:VP)(E:VP),Q (.bool Äi) s->wpAny È X.A (f Áq (.int j u)) Q E s):
  eS X f (gf λi j=>.bl Äi):=by
 show ð;obtain⟨i,j,rfl,rfl,q⟩:=h;obtain⟨t,rfl⟩:=rx;obtain⟨t',rfl⟩:=ry;exact rule i j t t' s _ _ ⟨.bl Äi,H,I,rfl,q⟩
def ZT(i j:Int):Prop:=0<j/\j<1073741824
def PL(i j:Int):Prop:=0<=j/\j<=1000000/\i.natAbs<2^64
def HQ(i j:Int):Prop:=(-(2^64)<i/\i<2^64)\/(-(2^64)<j/\j<2^64)
def HQ.ok(h:HQ i j):IntMulOk i j:=by
 rcases h with ⟨h1,h2⟩|⟨h1,h2⟩
 ·exact .of_left (intBits_le_64 h1 h2)
 ·exact .of_right (intBits_le_64 h1 h2)
def ZU(k:Nat):(0:Int)<=2^k:=by
 grind
def qF:eS X (binaryOp .Add) (gf λi j=>.int (i+j)):=DH λ_ _ _ _ _ _ _ q=>add_int q
def qG:eS X (binaryOp .Sub) (gf λi j=>.int (i-j)):=DH λ_ _ _ _ _ _ _ q=>sub_int q
def ZV:eS X (binaryOp .Mult) (rI HQ λi j=>.int (i*j)):=AS λ_ _ _ _ _ _ _ hc q=>mul_int q hc.ok
def ZW:eS X (binaryOp .FloorDiv) (rI ZT λi j=>.int (i/j)):=AS λi j _ _ _ _ _ hc q=>by
 have h1:(0:Int)<j:=hc.1;have h2:j<1073741824:=hc.2;exact floordiv_int Æ (by grind) (.inl (PyProof.noPylong_small Æ))
def HR:eS X (binaryOp .Mod) (rI (λ_ j=>0<j) λi j=>.int (i%j)):=AS λi j _ _ _ _ _ hc q=>by
 have h1:(0:Int)<j:=hc;exact mod_int' Æ (by rw[Int.fmod_eq_emod_of_nonneg i Æ];exact q)
def HS:eS X (binaryOp .LShift) (rI PL λi j=>.int (i*2^j.toNat)):=AS λ_ _ _ _ _ _ _ hc q=>lshift_int_small hc.1 hc.2.1 hc.2.2 q
def PM:eS X (binaryOp .RShift) (rI (λ_ j=>0<=j) λi j=>.int (i/2^j.toNat)):=AS λi j _ _ _ _ _ hc q=>
 rshift_int hc (by rw[Int.fdiv_eq_ediv_of_nonneg i (ZU _)];exact q)
def AU:eS X (binaryOp .BitAnd) (gf λi j=>.int Ő):=DH λ_ _ _ _ _ _ _ q=>and_int q
def ZX:eS X (inplaceOp .Add) (gf λi j=>.int (i+j)):=DH λ_ _ _ _ _ _ _ q=>iadd_int q
def PN{f:Value->Sem Value}{g:Int->Int}(rule:∀(i:Int)(t:Tok)(s:Sh)(Q:VP)(E:VP),Q (.int (g i) s.toks) {s with toks:=s.toks+1}->wpAny È X.A (f Áq) Q E s):
  DF X f (rU λi=>.int (g i)):=by
 intro pins s σ H x v Q I rx h;obtain⟨i,rfl,q⟩:=h;obtain⟨t,rfl⟩:=rx;exact rule i t s _ _ ⟨.int (g i),H,I.tok _,⟨_,rfl⟩,q⟩
def jM:DF X (unaryOp .USub) (rU λi=>.int (-i)):=PN λ_ _ _ _ _ q=>neg_int q
def PP:DF X (unaryOp .Invert) (rU λi=>.int Äv):=PN λ_ _ _ _ _ q=>invert_int q
end
def PQ:V->V->Bool
 |.aJ,.aJ=>true|.aJ,.int _=>true|.int _,.aJ=>true|.aJ,.bl _=>true|.bl _,.aJ=>true|.aJ,.str _=>true|.str _,.aJ=>true
 |.int _,.int _=>true|.bl _,.bl _=>true|.str _,.str _=>true|.jf _,.jf _=>true
 |.int _,.str _=>true|.str _,.int _=>true|.bl _,.str _=>true|.str _,.bl _=>true
 |_,_=>false
def ox:R2:=λx y H Q=>PQ x y=true/\Q (.bl (decide (x=y))) H
def ZY:R2:=λx y H Q=>PQ x y=true/\Q (.bl (!decide (x=y))) H
def lW:decide (V.int i=V.int j)=(i==j):=by
 grind
def PR:decide (V.bl i=V.bl j)=(i==j):=by
 grind
def PU:decide (V.str i=V.str j)=(i==j):=by
 grind
def PV:decide (V.jf i=V.jf j)=(i.toList==j.toList):=by
 rw[pj];simp
section
def gh(I:Ã H s)(q:Q (.bl k) H)(e:k=k'):ò Q (.bool k') s:=by
 subst e;exact⟨.bl k,H,I,rfl,q⟩
def ic:eS X Áh ox:=by
 show ð;obtain⟨hs,q⟩:=h;cases x with
 |aJ=>
  cases rx;cases y with
  |aJ=>cases ry;exact PySem.EqNone.eq_none_none Ą
  |bl j=>cases ry;exact PySem.EqNone.eq_none_bool Ą
  |int j=>obtain⟨t',rfl⟩:=ry;exact PySem.EqNone.eq_none_int Ą
  |str j=>obtain⟨t',rfl⟩:=ry;exact PySem.EqNone.eq_none_str Ą
  |_=>exact absurd (show false=true from hs) d9
 |bl i=>
  cases rx;cases y with
  |aJ=>cases ry;exact PySem.EqNone.eq_bool_none Ą
  |bl j=>cases ry;exact eq_bool (gh I q PR)
  |str j=>obtain⟨t',rfl⟩:=ry;exact PySem.EqMixed.eq_bool_str Ą
  |_=>exact absurd (show false=true from hs) d9
 |int i=>
  obtain⟨t,rfl⟩:=rx;cases y with
  |aJ=>cases ry;exact PySem.EqNone.eq_int_none Ą
  |int j=>obtain⟨t',rfl⟩:=ry;exact eq_int (gh I q lW)
  |str j=>obtain⟨t',rfl⟩:=ry;exact PySem.EqMixed.eq_int_str Ą
  |_=>exact absurd (show false=true from hs) d9
 |str i=>
  obtain⟨t,rfl⟩:=rx;cases y with
  |aJ=>cases ry;exact PySem.EqNone.eq_str_none Ą
  |bl j=>cases ry;exact PySem.EqMixed.eq_str_bool Ą
  |int j=>obtain⟨t',rfl⟩:=ry;exact PySem.EqMixed.eq_str_int Ą
  |str j=>obtain⟨t',rfl⟩:=ry;exact eq_str (gh I q PU)
  |_=>exact absurd (show false=true from hs) d9
 |jf i=>
  obtain⟨t,rfl⟩:=rx;cases y with
  |jf j=>obtain⟨t',rfl⟩:=ry;exact PySem.W.eq_bytes (gh I q PV)
  |_=>exact absurd (show false=true from hs) d9
 |_=>cases y <;> exact absurd (show false=true from hs) d9
def vq:eS X Áp ZY:=by
 show ð;obtain⟨hs,q⟩:=h;cases x with
 |aJ=>
  cases rx;cases y with
  |aJ=>cases ry;exact PySem.EqNone.ne_none_none Ą
  |bl j=>cases ry;exact PySem.EqNone.ne_none_bool Ą
  |int j=>obtain⟨t',rfl⟩:=ry;exact PySem.EqNone.ne_none_int Ą
  |str j=>obtain⟨t',rfl⟩:=ry;exact PySem.EqNone.ne_none_str Ą
  |_=>exact absurd (show false=true from hs) d9
 |bl i=>
  cases rx;cases y with
  |aJ=>cases ry;exact PySem.EqNone.ne_bool_none Ą
  |bl j=>cases ry;exact ne_bool (gh I q (cE not PR))
  |str j=>obtain⟨t',rfl⟩:=ry;exact PySem.EqMixed.ne_bool_str Ą
  |_=>exact absurd (show false=true from hs) d9
 |int i=>
  obtain⟨t,rfl⟩:=rx;cases y with
  |aJ=>cases ry;exact PySem.EqNone.ne_int_none Ą
  |int j=>obtain⟨t',rfl⟩:=ry;exact ne_int (gh I q (cE not lW))
  |str j=>obtain⟨t',rfl⟩:=ry;exact PySem.EqMixed.ne_int_str Ą
  |_=>exact absurd (show false=true from hs) d9
 |str i=>
  obtain⟨t,rfl⟩:=rx;cases y with
  |aJ=>cases ry;exact PySem.EqNone.ne_str_none Ą
  |bl j=>cases ry;exact PySem.EqMixed.ne_str_bool Ą
  |int j=>obtain⟨t',rfl⟩:=ry;exact PySem.EqMixed.ne_str_int Ą
  |str j=>obtain⟨t',rfl⟩:=ry;exact ne_str (gh I q (cE not PU))
  |_=>exact absurd (show false=true from hs) d9
 |jf i=>
  obtain⟨t,rfl⟩:=rx;cases y with
  |jf j=>obtain⟨t',rfl⟩:=ry;exact PySem.W.ne_bytes (gh I q (cE not PV))
  |_=>exact absurd (show false=true from hs) d9
 |_=>cases y <;> exact absurd (show false=true from hs) d9
def w6:eS X Çl (gf λi j=>.bl (decide (i<j))):=DI λ_ _ _ _ _ _ _ q=>lt_int q
def w8:eS X (compareOp .LtE) (gf λi j=>.bl (decide (i<=j))):=DI λ_ _ _ _ _ _ _ q=>le_int q
def vt:eS X (compareOp .Gt) (gf λi j=>.bl (decide (j<i))):=DI λ_ _ _ _ _ _ _ q=>gt_int q
def bT(b:Expr)(h:op≠ .In:=by decide)(h2:op≠ .NotIn:=by decide):behindInMarks op b=false:=by
 have e1:(op==CmpOp.In)=false:=by cases op <;> first|rfl|exact absurd rfl h
 have e2:(op==CmpOp.NotIn)=false:=by cases op <;> first|rfl|exact absurd rfl h2
 cases b <;> simp[behindInMarks,e1,e2]
def jy{op:CmpOp}{r:R2}(ho:eS X Äm r)(ha:ϧ ta)(hb:PE X b tb)(hm:behindInMarks op b=false):PE X Ϙ Æu:=by
 show Ö;exact wpAny_Compare1 (HP ha hb I h λv u s2 x y H2 I2 rx ry q=>ho pins s2 σ H2 x y v u Q I2 rx ry q) hm
def ng(t:TE):TT:=λσ H Q=>t σ H λx H'=>yE x λk=>Q k H'
def cI(ho:eS X Äm r)(ha:ϧ ta)(hb:PE X b tb)(hm:behindInMarks op b=false):PT X Ϙ (ng Æu):=by
 show Ö;refine wpAny_isTrue_Compare1 (aK (ha pins s σ H _ I h) λv s1 ⟨x,H1,I1,r1,q1⟩=>aK (hb pins s1 σ H1 _ I1 q1) λu s2 ⟨y,H2,I2,r2,q2⟩=>
  aK (ho pins s2 σ H2 x y v u _ I2 r1 r2 q2) λc s3 ⟨z,H3,I3,r3,k,e,q3⟩=>?_) hm
 subst e;cases r3;exact tV ⟨H3,I3,q3⟩
def HU(r r':R2)(ta tb tc:TE):TE:=λσ H Q=>ta σ H λx H1=>tb σ H1 λy H2=>r x y H2 λz H3=>yE z λk=>
 (if k=true then tc σ H3 λw' H4=>r' y w' H4 Q else Q (.bl false) H3)
theorem PY(ho:eS X Äm r)(pE:eS X (compareOp op') r')(ha:ϧ ta)(hb:PE X b tb)(hc:PE X c tc)(hm:lastMarks [op,op'] [b,c]=false:=by with_unfolding_all rfl):PE X (.Compare a [op,op'] [b,c] pos) (HU r r' ta tb tc):=by
 show Ö;refine Compare_chain (aK (ha pins s σ H _ I h) λv s1 ⟨x,H1,I1,r1,q1⟩=>chain_link (aK (hb pins s1 σ H1 _ I1 q1) λu s2 ⟨y,H2,I2,r2,q2⟩=>
  aK (ho pins s2 σ H2 x y v u _ I2 r1 r2 q2) λd s3 ⟨z,H3,I3,r3,k,e,q3⟩=>?_)) hm
 subst e;cases r3;refine tV ?_;cases k with
 |false=>exact ite_ff ⟨.bl false,H3,I3,rfl,q3⟩
 |true=>exact ite_tt (chain_last (aK (hc pins s3 σ H3 _ I3 q3) λw' s4 ⟨z',H4,I4,r4,q4⟩=>pE pins s4 σ H4 y z' u w' Q I4 r2 r4 q4))
theorem ZZ(ho:eS X Äm r)(pE:eS X (compareOp op') r')(ha:ϧ ta)(hb:PE X b tb)(hc:PE X c tc)(hm:lastMarks [op,op'] [b,c]=false:=by with_unfolding_all rfl):PT X (.Compare a [op,op'] [b,c] pos) (ng (HU r r' ta tb tc)):=by
 show Ö;refine isTrue_chain (aK (ha pins s σ H _ I h) λv s1 ⟨x,H1,I1,r1,q1⟩=>test_link (aK (hb pins s1 σ H1 _ I1 q1) λu s2 ⟨y,H2,I2,r2,q2⟩=>
  aK (ho pins s2 σ H2 x y v u _ I2 r1 r2 q2) λd s3 ⟨z,H3,I3,r3,k,e,q3⟩=>?_)) hm
 subst e;cases r3;refine tV ?_;cases k with
 |false=>
  obtain⟨k',e',q'⟩:=q3;cases e';exact ite_ff ⟨H3,I3,q'⟩
 |true=>
  refine ite_tt (test_last (aK (hc pins s3 σ H3 _ I3 q3) λw' s4 ⟨z',H4,I4,r4,q4⟩=>aK (pE pins s4 σ H4 y z' u w' _ I4 r2 r4 q4) λd' s5 ⟨z2,H5,I5,r5,k2,e2,q5⟩=>?_));subst e2;cases r5;exact tV ⟨H5,I5,q5⟩
def HV(K:FR)(x:V)(H:Hp)(k:Bool):Prop:=
 match x with
 |.aJ=>k=false
 |.bl b=>k=b
 |.int i=>k=(i !=0)
 |.str y=>y.length<=sizeLine/\k=((y.length:Int)!=0)
 |.jf y=>y.size<=sizeLine/\k=((y.size:Int)!=0)
 |.ref p=>(∃xs,â p xs/\k=!xs.isEmpty)\/(∃xs,Ť p xs/\k=!xs.isEmpty)\/∃kvs,H p=some Đ/\k=!kvs.isEmpty
 |_=>False
def Z0(r:KV kvs vs):(!vs.isEmpty)=!kvs.isEmpty:=by
 cases r <;> rfl
def PZ(r:bc xs aj):(!aj.toArray.isEmpty)=!xs.isEmpty:=by
 cases r <;> simp
def DJ:(sizeLine:Nat)<2^63:=by rw[u9];decide
def Z1:ZS X (λx H Q=>∃k,HV X.K x H k/\Q k H):=by
 intro pins s σ H x v Q I rx h;obtain⟨k,e,q⟩:=h;have hl:=DJ;have hs:sizeLine=16777216:=u9;cases x with
 |aJ=>
  cases rx;have e':k=false:=e;subst e';exact truthy_none ⟨H,I,q⟩
 |bl b=>
  cases rx;have e':k=b:=e;subst e';exact tV ⟨H,I,q⟩
 |int i=>
  obtain⟨t,rfl⟩:=rx;have e':k=(i !=0):=e;subst e';exact PySem.P.truthy_int ⟨H,I,q⟩
 |str y=>
  obtain⟨t,rfl⟩:=rx;obtain⟨hy,e'⟩:y.length<=sizeLine/\k=((y.length:Int)!=0):=e;subst e';exact PySem.P.truthy_str Æ ⟨H,I.tok _,q⟩
 |jf y=>
  obtain⟨t,rfl⟩:=rx;obtain⟨hy,e'⟩:y.size<=sizeLine/\k=((y.size:Int)!=0):=e;subst e';exact PySem.W.truthy_bytes Æ ⟨H,I.tok _,q⟩
 |ref p=>
  cases rx;have e':(∃xs,Àv p xs/\k=!xs.isEmpty)\/(∃xs,bu X.K H p xs/\k=!xs.isEmpty)\/∃kvs,H p=some Đ/\k=!kvs.isEmpty:=e;rcases e' with ⟨xs,hx,e'⟩|⟨xs,hx,e'⟩|⟨kvs,hx,e'⟩
  ·subst e';obtain⟨aj,r,pl,hz⟩:=I.list hx;have cK:=r.length;exact wpAny_truthy_list pl.isList (by grind) ⟨H,I.tok _,by rw[PZ r];exact q⟩
  ·subst e';obtain⟨aj,r,pl,hz⟩:=I.tuple hx;have cK:=r.length;exact truthy_tuple pl (by grind) ⟨H,I.tok _,by rw[PZ r];exact q⟩
  ·subst e';obtain⟨hz,hS,vs,r,m⟩:kvs.length<=sizeLine/\(p==sysModules)=false/\∃vs,KV kvs vs/\s.heap.DictOf ą p vs:=I.ax p _ hx;have cK:kvs.length=vs.length:=Paired.length r;exact wpAny_truthy_dict hS m Æ ⟨H,I.tok _,by rw[Z0 r];exact q⟩
 |_=>exact(show False from e).elim
def yH(ha:ϧ ta)(he:∀whole,isTrue a X.env whole=(do let v <-whole;standAt a.pos;holding [v] (truthy v))):
  PT X a (λσ H Q=>ta σ H λx H'=>∃k,HV X.K x H' k/\Q k H'):=by
 show Ö;exact isTrue_plain (aK (ha pins s σ H _ I h) λv s1 ⟨x,H1,I1,r1,q1⟩=>Z1 pins s1 σ H1 x v Q I1 r1 q1) (he _)
theorem vals1{x:V}{us:LV}(r:bc [x] us):∃u,us=[u]/\RelV x u:=by
 cases r with
 |cons r1 r2=>cases r2;exact⟨_,rfl,r1⟩
theorem vals2(r:bc [x,y] us):∃u w',us=[u,w']/\RelV x u/\RelV y w':=by
 cases r with
 |cons r1 r2=>
  cases r2 with
  |cons r3 r4=>cases r4;exact⟨_,_,rfl,r1,r3⟩
def HW(hc:X.calm=true):lD X (.builtin "max") (λxs H Q=>∃i j,xs=[.int i,.int j]/\Q (.int (if j>i then j else i)) H):=by
 intro pins s σ H xs us Q I r h;obtain⟨i,j,rfl,q⟩:=h;obtain⟨u,w',rfl,⟨t,rfl⟩,⟨t',rfl⟩⟩:=vals2 r;refine max_two_ints ć λh' tk k=>⟨_,H,I.kept k,?_,q⟩;by_cases hj:j>i
 ·rw[af hj,af hj];exact⟨_,rfl⟩
 ·rw[ah hj,ah hj];exact⟨_,rfl⟩
def Z2:lD X (.builtin "ord") (λxs H Q=>∃x,xs=[.str x]/\x.length=1/\Q (.int (x.cps.getD 0 0:Nat)) H):=by
 intro pins s σ H xs us Q I r h;obtain⟨x,rfl,hz,q⟩:=h;obtain⟨u,rfl,t,rfl⟩:=vals1 r;exact ord_of_one hz ⟨.int _,H,I.tok _,⟨_,rfl⟩,q⟩
end
structure yI(h:Heap)(x dx C:Addr)(mA:MG):Prop where
 obj:h.get? x=some Âv
 ns:h.Ns1 dx mA
 ne:dx≠x
def Z3{h:Heap}{dx:Addr}{mA:MG}(n:h.Ns1 dx mA):∃od,h.get? dx=some od/\∀name,PySem.W.lookIn name od=some (mA name):=by
 obtain⟨o,es,ep,ho,hd,hk,_,hm⟩:=n;refine⟨o,ho,λname=>?_⟩;have e:=hm name;unfold nsFind findBy at e;rw[<-Array.find?_toList] at e;unfold PySem.W.lookIn;rw[hd];dsimp only;split
 ·simp_all
 ·rename_i q;rw[q] at e;have a:es.toList.any (·.refKey)=false:=by
   rw[List.any_eq_false];intro y hy;obtain⟨z,t,HX⟩:=hk y (Array.mem_toList_iff.mp hy);simp[DictEntry.refKey,HX]
  simp_all
def yI.look(I:yI h x dx C mA):∃od,PySem.W.InstAt h x Âv C (some od)/\∀name,PySem.W.lookIn name od=some (mA name):=
 let ⟨od,ho,hl⟩:=Z3 I.ns
 ⟨od,⟨I.obj,rfl,rfl,ho⟩,hl⟩
section
variable{prog:Pg}{w:Wd}{A:Around}{E:VP}{s:Sh}{K:FR}{x dx C f:Addr}{mA:MG}{name:Str}{v:Value}
def get_map{aoI:Bool}{Q:VP}(X:K.In s.heap)(I:yI s.heap x dx C mA)(hg:PySem.W.plainGet K C name=true)(hh:PySem.W.hasDictIn K C=true)(ha:PySem.W.findIn K ā name=some none) (hv:mA name=some v) (yJ:PySem.W.handedIn v=true) (h:Q v {s with toks:=s.toks+1}):
  wpAny Ó A (getAttr Ŝ name aoI) Q E s:=by
 obtain⟨od,J,hl⟩:=I.look;exact PySem.W.get_value X J (PySem.W.plainGet_of hg).1 (PySem.W.findObj_own hh ha rfl É) yJ h
def Z4{ns:LS}{Q:Unit->Shared->Prop}(X:K.In s.heap)(I:yI s.heap x dx C mA)(hs:PySem.W.findIn K ā "__setattr__"=some (some (.builtin "object.__setattr__"))) (hp:PySem.W.plainOver K C=true) (ht:PySem.W.takerIn K C name=some none) (hh:PySem.W.hasDictIn K C=true)(hw:PySem.Within mA ns) (hsz:ns.length<=sizeLine)(h:∀h',yI h' x dx C (λy=>if y=name then some v else mA y)->Heap.SameBut dx s.heap h'->Q () {s with heap:=h',toks:=s.toks+2}):
  wpAny Ó A Äb Q E s:=by
 obtain⟨od,J,hl⟩:=I.look;refine PySem.W.set_plain X J hs (PySem.W.osa_open (s:={s with toks:=s.toks+1}) (r:=none) X J hp ht λb=>?_);obtain⟨cd,hc,pF⟩:=PySem.W.any_some hh;have hx:s.heap.get? x=some ⟨.ref C,some dx,.plain,#[]⟩:=I.obj;refine aP (df (aP (aP (wpAny_loadPart hx (aP (PySem.W.Looks.here (s:={s with toks:=s.toks+1}) (PySem.W.looks_clsIn X hc) ?_))))));rw[pF];refine df (a:=some dx) (aP (df (aP ?_)));refine wpAny_nsSet1 (s:={s with toks:=s.toks+1}) I.ns λh' lX rY=>?_;obtain⟨oD,esD,epD,Z5,Z6,Z7⟩:=lX.count (PySem.Within.cons name v hw);refine aP (wpAny_lookBehind Z5 (by rw[Z6];exact pastItsLine_dict (gQ Z7 (by rw[c7];omega))) ?_);exact df (h _ ⟨(rY.2 _ (dX I.ne)).trans I.obj,lX,I.ne⟩ rY)
def Z8{R:Result->Shared->Prop}{vs:LV}{kw:List (Str×Value)}(X:K.In s.heap)(hm:PySem.W.makesIn K C=true)(hi:PySem.W.findIn K ā "__init__"=some Áx) (hf:PySem.W.typeIn K Ă=some (.type "function"))(h:codeAny Ó (A.under (.builtin "type.__call__" ⟨.ref C::vs,kw⟩)) (.call Ă ⟨.ref Î::vs,kw⟩) (PySem.W.InitBack Î R) {s with heap:=(s.heap.push PySem.W.emptyDict).push ĺ}):
  codeAny Ó A (.call ā ⟨vs,kw⟩) R s:=by
 obtain⟨hh,g,d,t,os⟩:=s;exact PySem.W.make_core (PySem.W.makes_of X hm) (PySem.W.looks_findIn X hi) (λself=>PySem.W.bind_fn X self hf) Ĉ h
end
def ie(f:Str)(v:V):List (Str×V)->List (Str×V)
 |[]=>[(f,v)]
 |(g,x)::r=>if g=f then (g,v)::r else (g,x)::ie f v r
theorem HY(f g:Str)(v:V):∀fs:List (Str×V),(ie f v fs).lookup g=if g=f then some v else fs.lookup g:=by
 intro fs;induction fs with
 |nil=>
  show List.lookup g [(f,v)]=_;by_cases h:g=f
  ·have hb:(g==f)=true:=wJ.mpr h;simp only[List.lookup,hb,af h]
  ·have hb:(g==f)=false:=wK.mpr h;simp only[List.lookup,hb,ah h]
 |cons hd0 r ih=>
  obtain⟨k,x⟩:=hd0;have ih:=ih;rw[show ie f v ((k,x)::r)=(if k=f then (k,v)::r else (k,x)::ie f v r) from rfl];by_cases hk:k=f
  ·rw[af hk];by_cases h:g=k
   ·have hb:(g==k)=true:=wJ.mpr h;simp only[List.lookup,hb,af (h.trans hk)]
   ·have hb:(g==k)=false:=wK.mpr h;simp only[List.lookup,hb,ah (λe:g=f=>h (e.trans hk.symm))]
  ·rw[ah hk];by_cases h:g=k
   ·have hb:(g==k)=true:=wJ.mpr h;simp only[List.lookup,hb,ah (λe:g=f=>hk (h.symm.trans e))]
   ·have hb:(g==k)=false:=wK.mpr h;simp only[List.lookup,hb];exact ih
theorem AV(f:Str)(v:V):∀fs:List (Str×V),f∈(ie f v fs).map (·.1)/\∀g,g∈fs.map (·.1)->g∈(ie f v fs).map (·.1):=by
 intro fs;induction fs with
 |nil=>exact⟨by simp[ie],λg h=>by simp at h⟩
 |cons hd0 r ih=>
  obtain⟨k,x⟩:=hd0;obtain⟨i1,i2⟩:=ih;rw[show ie f v ((k,x)::r)=(if k=f then (k,v)::r else (k,x)::ie f v r) from rfl];by_cases hk:k=f
  ·rw[af hk];subst hk;exact⟨by simp,λg h=>by simpa using h⟩
  ·rw[ah hk];refine⟨?_,λg h=>?_⟩
   ·rw[a0];exact aO _ i1
   ·rw[a0] at h⊢;rcases ba.mp h with e|e
    ·exact ba.mpr (.inl e)
    ·exact aO _ (i2 g e)
theorem HZ(f:Str)(v:V):∀fs:List (Str×V),(ie f v fs).length<=fs.length+1:=by
 intro fs;induction fs with
 |nil=>
  simp[ie]
 |cons hd0 r ih=>
  obtain⟨k,x⟩:=hd0;have ih:=ih;rw[show ie f v ((k,x)::r)=(if k=f then (k,v)::r else (k,x)::ie f v r) from rfl];by_cases hk:k=f
  ·rw[af hk,c7,c7];omega
  ·rw[ah hk,c7,c7];omega
theorem jL.some_of(r:jL Ãj o):∃u,o=some u/\RelV v u:=by
 cases o with
 |none=>exact(show False from r).elim
 |some u=>exact⟨u,rfl,r⟩
theorem Z9(r:RelV v u):PySem.W.handedIn u=true:=by
 cases v with
 |aJ=>cases (show u=Value.none from r);rfl
 |bl b=>cases (show u=Value.bool b from r);rfl
 |int i=>obtain⟨t,e⟩:=(show ∃t,u=Value.int i t from r);cases e;rfl
 |str x=>obtain⟨t,e⟩:=(show ∃t,u=Value.str x t from r);cases e;rfl
 |jf b=>obtain⟨t,e⟩:=(show ∃t,u=Value.bytes b t from r);cases e;rfl
 |AC b=>obtain⟨t,e⟩:=(show ∃t,u=Value.float b t from r);cases e;rfl
 |ref a=>cases (show u=Value.ref a from r);rfl
 |ty n=>cases (show u=Value.type n from r);rfl
section
variable{P:Pg}{w:Wd}{H H':Hp}{h h':Heap}{a C dx:Addr}{fs yK:List (Str×V)}
def P0(ax:ġ h)(e:H a=some ϗ):∃mA,yI h a dx C mA/\(∀f,jL Ác (mA f))/\PySem.Within mA (fs.map (·.1))/\fs.length<=1000/\H dx=some (.own a):=by
 obtain⟨d,z,ne,ob,mA,n,r,q⟩:=(show ft P w H h a ϗ from ax a _ e);exact⟨mA,⟨ob,n,ne⟩,r,q,z,d⟩
end
structure kO(K:FR)(C:Addr):Prop where
 pg:PySem.W.plainGet K C Str.empty=true
 hd:PySem.W.hasDictIn K C=true
 po:PySem.W.plainOver K C=true
 sa:PySem.W.findIn K ā "__setattr__"=some (some (.builtin "object.__setattr__"))
def kO.get{K:FR}{C:Addr}(c:kO K C)(f:Str):PySem.W.plainGet K C f=true:=c.pg
def gB(K:FR)(C:Addr)(f:Str):Prop:=PySem.W.findIn K ā f=some none
def gB.aaa{K:FR}{C:Addr}{f:Str}(n:Ϧ f):PySem.W.takerIn K C f=some none:=by
 unfold PySem.W.takerIn;rw[show PySem.W.findIn K ā f=some none from n];rfl
section
variable{X:Cx}{pins:bG}{σ:St}{H:Hp}{s:Sh}{a C dx:Addr}{fs:List (Str×V)}{f:Str}{v:V}{A:Around}{E:VP}
def aab{b:Bool}{Q:VP}(I:Ã H s)(e:H a=some ϗ)(c:kO X.K C)(n:gB X.K C f)(l:fs.lookup f=some v)(h:∀u s',Ã H s'->RelV v u->Q u s'):wpAny È A (getAttr Ğ f b) Q E s:=by
 obtain⟨mA,O,r,_,_,_⟩:=P0 I.ax e;obtain⟨u,hu,ru⟩:=jL.some_of (v:=v) (o:=mA f) (by grind);exact get_map I.fu O (c.get f) c.hd n hu (Z9 ru) (h u _ (I.tok _) ru)
def aac{y:V}{u:Value}{Q:Unit->Shared->Prop}(I:Ã H s)(e:H a=some ϗ)(c:kO X.K C)(n:gB X.K C f)(hl:fs.length<1000)(ry:RelV y u)(h:∀s',Ã (ť (.ins C dx (ie f y fs))) s'->Q () s'):wpAny È A (setAttr Ğ f u) Q E s:=by
 obtain⟨mA,O,r,wi,_,ho⟩:=P0 I.ax e;have hz:(fs.map (·.1)).length<=sizeLine:=by rw[aA,u9];omega
 refine Z4 I.fu O c.sa c.po n.aaa c.hd wi hz λh' O' sb=>h _ ?_;have hd:∃o,h'.get? dx=some o:=let ⟨o,_,_,e',_⟩:=O'.ns;⟨o,e'⟩;refine I.write (x:=a) (e:=dx) (by rw[e];exact True.intro) (.inr ho) (λb q hb z=>(sb.2 b hb).trans z) hd ?_;refine⟨by rw[ao O.ne];exact ho,?_,O.ne,O'.obj,_,O'.ns,λg=>?_,λg hg=>?_⟩
 ·have:=HZ f y fs;omega
 ·show jL ((ie f y fs).lookup g) (if g=f then some u else mA g);rw[HY];by_cases q:g=f
  ·rw[af q,af q];exact ry
  ·simp_all
 ·by_cases q:g=f
  ·rw[q];exact(AV f y fs).1
  ·refine(AV f y fs).2 g (wi g λz=>hg ?_);simp_all
def Inv.made(I:Ã H s):Ã (upd (ğ (.own Î)) Î (.ins C s.heap.objs.size [])) {s with heap:=(s.heap.push PySem.W.emptyDict).push ĺ}:=by
 have e1:(s.heap.push PySem.W.emptyDict).get? s.heap.objs.size=some PySem.W.emptyDict:=ib s.heap rfl;have e2:((s.heap.push PySem.W.emptyDict).push ĺ).get? Î=some ĺ:=by
  have:=ib (s.heap.push PySem.W.emptyDict) (o:=PySem.W.instObj C s.heap.objs.size) rfl;simp_all
 have e3:(s.heap.push PySem.W.emptyDict).Ns s.heap.objs.size (λ_=>none):=⟨PySem.W.emptyDict,#[],_,e1,rfl,(λe he=>absurd he Ä),λ_=>rfl⟩;have I1:=I.laid (a:=s.heap.objs.size) (o:=.own Î) (h':=s.heap.push PySem.W.emptyDict) (t':=s.toks) (λb u q=>dh _ q) (bJ _) ⟨_,e1⟩;refine I1.laid (a:=s.heap.objs.size+1) (o:=.ins C s.heap.objs.size []) (t':=s.toks) (λb u q=>dh _ q) (C4 (qv _ _)) ?_;have ne:s.heap.objs.size≠s.heap.objs.size+1:=fj (X0 _);refine⟨by rw[ao ne,aq],dY _,ne,e2,λ_=>none,(Heap.Ns1.of_empty e3).at λo q=>dh _ q,λ_=>True.intro,λy hy=>absurd rfl hy⟩
def aad(hb:attributeBase e f env (eval e env)=eval e env)(h:wpAny Ó A (eval e env) (λo s₁=>wpAny Ó A (getAttr o f true) Q E s₁) E s):wpAny Ó A (eval (.Attribute e f pos) env) Q E s:=
 Attribute_any_ h (by rw[arm_eval_Attribute,hb])
end
def gi(K:FR)(ta:TE)(f:Str):TE:=λσ H Q=>ta σ H λx H1=>∃a C dx fs v,x=.ref a/\H1 a=some ϗ/\kO K C/\Ϧ f/\fs.lookup f=some v/\Q v H1
def DK(K:FR)(ta tv:TE)(f:Str):TS:=λD σ H=>tv σ H λy H1=>ta σ H1 λx H2=>∃a C dx fs,x=.ref a/\H2 a=some ϗ/\kO K C/\Ϧ f/\fs.length<1000/\
 D.nx σ (upd H2 a (.ins C dx (ie f y fs)))
section
def bg(he:Ϝ ta)(hb:attributeBase e f X.env ϓ=eval e X.env):PE X (.Attribute e f pos) (gi X.K ta f):=by
 show Ö;refine aad hb (aK (he pins s σ H _ I h) λu s1 ⟨x,H1,I1,rx,a,C,dx,fs,v,ex,ea,c,n,l,q⟩=>?_);subst ex;obtain rfl:u=Value.ref a:=rx;exact aab I1 ea c n l λu' s2 I2 ru=>⟨v,H1,I2,ru,q⟩
def fc(ha:PE X o ta)(hv:PE X jd tv)(hs:swapsWith jd (some (.Attribute o f lr)) pos.line X.env=pure false):PS X (.Assign [.Attribute o f lr] jd pos) (DK X.K ta tv f):=by
 intro pins s σ H D I h;refine X1 (aK (hv pins s σ H _ I h) λu s1 ⟨y,H1,I1,ry,q⟩=>aK (ha pins s1 σ H1 _ I1 q) λov s2 ⟨x,H2,I2,rx,a,C,dx,fs,ex,ea,c,n,l,q2⟩=>?_) hs;subst ex;obtain rfl:ov=Value.ref a:=rx;exact aac I2 ea c n l ry λs3 I3=>⟨σ,_,I3,q2⟩
def aae:R2:=gf λi j=>.int (i+j)
end
section
variable{X:Cx}{pins:bG}{σ:St}{H:Hp}{s:Sh}{A:Around}{E:VP}{Q:VP}{c:Value}{b:Bool}
end
structure dv(k:Nat)(A:Around):Prop where
 hd:A.handled=none
 dp:A.depth+3*k+5<recursionLimit
 un:A.units+16*k+200<cLine
def dv.mono(r:dv k A)(h:j<=k):dv j A:=⟨r.hd,by have:=r.dp;omega,by have:=r.un;omega⟩
def dv.deeper(r:dv (k+1) A)(env:Env):dv k (A.deeper env):=
 ⟨r.hd,by have:=r.dp;show A.depth+1+3*k+5<_;omega,by have:=r.un;show A.units+3+16*k+200<_;omega⟩
def aaf{A:Around}{C:Addr}{us:LV}{kw:List (Str×Value)}:(A.under (.builtin "type.__call__" ⟨.ref C::us,kw⟩)).depth=A.depth+1:=by
 rfl
def aag{A:Around}{C:Addr}{us:LV}{kw:List (Str×Value)}:(A.under (.builtin "type.__call__" ⟨.ref C::us,kw⟩)).units=A.units+1:=by
 rfl
def dv.make(r:dv (k+1) A)(C:Addr)(us:LV)(kw:List (Str×Value)):dv k (A.under (.builtin "type.__call__" ⟨.ref C::us,kw⟩)):=
 ⟨r.hd,by have:=r.dp;rw[aaf];omega,by have:=r.un;rw[aag];omega⟩
def dv.depth(r:dv k A):A.depth<recursionLimit:=by have:=r.dp;omega
def dv.units(r:dv k A):A.units+64<cLine:=by have:=r.un;omega
def dv.aah(r:dv k A):A.units<cLine:=by have:=r.un;omega
def dw:TA:=λ_ H Q=>Q [] H
def bh(ta:TE)(tr:TA):TA:=λσ H Q=>ta σ H λx H1=>tr σ H1 λxs H2=>Q (x::xs) H2
section
def ag:PA X [] dw:=λ_ _ _ _ H Q I h=>OK ⟨[],H,I,.nil,h⟩
def ae(ha:Ϝ te)(hr:PA X es t)(hs:starEach (e::es) X.env=(false,eval e X.env)::starEach es X.env:=by rfl):PA X (e::es) (bh te t):=by
 intro pos pins s σ H Q I h;rw[hs];show wpAny _ _ (spliced ((false,eval e X.env)::backTo pos õ)) _ _ s;refine Da (aK (ha pins s σ H _ I h) λu s1 ⟨x,H1,I1,r1,q1⟩=>?_);exact aK (hr pos pins s1 σ H1 _ I1 q1) λus s2 ⟨xs,H2,I2,r2,q2⟩=>⟨x::xs,H2,I2,.cons r1 r2,q2⟩
def w9(t:TA):TE:=λσ H Q=>t σ H λxs H1=>xs.length<=sizeLine/\∀p,H1 p=none->Q ĥ (upd H1 p ϰ)
def yL(t:TA):TE:=λσ H Q=>t σ H λxs H1=>xs.length<=sizeLine/\∀p,H1 p=none->Q ĥ (upd H1 p ϱ)
def ue{x1}(h:PA X es t):PE X (.Tuple es x1 pos) (w9 t):=by
 intro pins s σ H Q I hq;refine wpAny_Tuple_spliced (aK (h pos pins s σ H _ I hq) λus s1 ⟨xs,H1,I1,r,z,q⟩=>⟨by rw[<-r.length];exact z,?_⟩);have hf:H1 s1.heap.objs.size=none:=I1.ax.fresh (bJ _);refine⟨.ref s1.heap.objs.size,upd H1 s1.heap.objs.size ϰ,I1.laid (t':=s1.toks) (λb u e=>dh _ e) (bJ _) ?_,rfl,q _ hf⟩;exact⟨z,us,r,⟨_,ib _ rfl,rfl,_,rfl⟩⟩
def eE(h:PA X es t):PE X (.List es pos) (yL t):=by
 intro pins s σ H Q I hq;refine wpAny_List_spliced (aK (h pos pins s σ H _ I hq) λus s1 ⟨xs,H1,I1,r,z,q⟩=>⟨by rw[<-r.length];exact z,?_⟩);have hf:H1 s1.heap.objs.size=none:=I1.ax.fresh (bJ _);refine⟨.ref s1.heap.objs.size,upd H1 s1.heap.objs.size ϱ,I1.laid (t':=s1.toks) (λb u e=>dh _ e) (bJ _) ?_,rfl,q _ hf⟩;exact⟨z,us,0,r,ib _ rfl⟩
end
abbrev Sp:=au->Hp->VK->XK->Prop
abbrev nh:=List Env->Hp->Shared->XK->VP
structure oy(P:Pg)(w:Wd)(K:FR)(mg:MG)(base:Heap)(A:Around)(outer:List Env)(s:Sh)(H:Hp):Prop where
 frames:A.frames=some outer
 mod:Mod K mg base
 bs:∀b o,base.get? b=some o->s.heap.get? b=some o/\H b=none
 m7:base.objs.size<=s.heap.objs.size
 kG:s.heap.FunFrames base outer
 pC:∀b∈m6 outer,H b=none
 ax:ġ s.heap
 bare:AllBare s.gens
def CE(outer:List Env)(P:Pg)(w:Wd)(H:Hp)(s:Sh)(Q:VK)(u:Value)(s':Sh):Prop:=
 ∃v H',s'.os=s.os/\AllBare s'.gens/\Un (m6 outer) [] H H' s.heap s'.heap/\dy P w H' s'.heap/\RelV v u/\Q v H'
def CR(CX:nh)(outer:List Env)(P:Pg)(w:Wd)(H:Hp)(s:Sh)(Q:VK)(E:XK)(r:Result)(s':Sh):Prop:=
 match r with
 |.ok (.ret u)=>CE outer P w H s Q u s'
 |.ok _=>False
 |.error e=>CX outer H s E e s'
structure a7(P:Pg)(w:Wd)(K:FR)(mg:MG)(base:Heap)(CX:nh)(k:Nat)(f:Addr)(fd:FD)(ps:LS)(sp:Sp):Prop where
 len:∀vs H Q E,sp vs H Q E->vs.length=ps.length
 run:∀(A:Around)(outer:List Env)(s:Sh)(H:Hp)(args:Args)(us:LV)(vs:au)(Q:VK)(E:XK),dv k A->Č H->BindsTo s fd args Ài->bc vs us->sp vs H Q E->
  codeAny Àj A (.call Ă args) (CR CX outer P w H s Q E) s
def oy.make{P:Pg}{w:Wd}{K:FR}{mg:MG}{base:Heap}{A:Around}{outer:List Env}{s:Sh}{H:Hp}(e:Č H)(C:Addr)(us:LV)(kw:List (Str×Value)):
  oy P w K mg base (A.under (.builtin "type.__call__" ⟨.ref C::us,kw⟩)) outer s H:=⟨by first|exact e.frames|(simpa [Around.under,Code.envs,Code.isFrame,pushEnvs] using e.frames),e.mod,e.bs,e.m7,e.kG,e.pC,e.ax,e.bare⟩
section
variable{X:Cx}{pins:bG}{σ:St}{H:Hp}{s s':Sh}
def Inv.yM(I:Ã H s):oy X.prog X.w X.K X.mg X.base X.A X.stack s H:=
 ⟨I.ok.frames,I.ok.mod,I.bs,gQ I.ok.m7 I.sz,I.stack,I.Dt,I.ax,I.bare⟩
def Inv.after(I:Ã H s)(h:CE X.stack X.prog X.w H s Q u s'):ò Q u s':=by
 obtain⟨v,H',os,bare,un,ax,r,q⟩:=h;obtain⟨hh,g,d,t,os'⟩:=s';obtain rfl:os'=s.os:=os;exact⟨v,H',I.call (h':=hh) (g':=g) (d':=d) (t':=t) (ch:=[]) un ax bare ĵ,r,q⟩
end
def g9(sp:Sp)(iX:au)(E:XK)(t:TA):TE:=λσ H Q=>t σ H λvs H1=>sp (vs++iX) H1 Q E
def P1(C:Addr)(sp:Sp)(iX:au)(E:XK)(t:TA):TE:=λσ H Q=>t σ H λvs H1=>∀x dx,H1 x=none->H1 dx=none->dx≠x->
 sp (.ref x::(vs++iX)) (upd (upd H1 dx Äx) x Âg) (λv H2=>v=.aJ/\Q Ŝ H2) E
def Binds(K:FR)(fd:FD)(ps:LS)(ds:LV):Prop:=
 ∀(s:Sh)(us:LV),K.In s.heap->(us++ds).length=ps.length->BindsTo s fd ⟨us,[]⟩ (ps.zip (us++ds))
def Binds.all{K:FR}{fd:FD}{ps:LS}(h:∀us:LV,us.length=ps.length->bindArgs fd ⟨us,[]⟩=pure Ài):Binds K fd ps []:=λs us _ hl=>by
 rw[jv] at hl⊢;exact .of_eq (h us hl)
def uf(CX:nh)(X:Cx)(E:XK):Prop:=∀(pins:bG)(σ:St)(H:Hp)(s:Sh)(e:Value)(s':Sh),Ã H s->CX X.stack H s E e s'->X.xe e s'
section
def aaj(F:ú CX k f fd ps sp)(hr:dv k X.A)(hb:ŀ ds)(hd:bc iX ds)(hx:uf CX X E)(I:Ã H s) (r:bc vs us) (h:sp (vs++iX) H Q E):wpAny È X.A (call Ă us) (ò Q) X.xe s:=by
 have r2:bc (vs++iX) (us++ds):=r.append hd;have hl:(us++ds).length=ps.length:=by rw[<-r2.length];exact F.len _ _ _ _ h
 refine An (u5 (F.run X.A X.stack s H ⟨us,[]⟩ (us++ds) (vs++iX) Q E hr I.yM (hb s us I.fu hl) r2 h) λr s' hq=>?_);cases r with
 |error e=>exact hx pins σ H s e s' I hq
 |ok fl=>
  cases fl with
  |ret u=>exact I.after hq
  |next=>exact False.elim hq
  |brk=>exact False.elim hq
  |cont=>exact False.elim hq
def lY(F:ú CX k f fd ps sp)(hr:dv k X.A)(hg:Gl X x)(hm:X.mg x=some Ă)(hk:PySem.W.keepIn X.K Ă=true)(hb:ŀ ds)(hd:bc iX ds)(hx:uf CX X E)(ha:PA X (e::es) t) (iY:(x==("__debug__":Str))=false:=by decide) (he:starEach (e::es) X.env=(false,eval e X.env)::starEach es X.env:=by rfl) (c9:(backTo pos õ).any (·.1)=false:=by rfl):
  PE X (.Call ż (e::es) [] pos) (g9 sp iX E t):=by
 show Ö;refine wL (vi I hg hm ?_ iY);refine PySem.W.callWith_K (h₀:=X.base) I.ok.mod.rS hk (aK (ha pos pins s σ H _ I h) λus s1 ⟨vs,H1,I1,r,q⟩=>Ár) he c9;exact aaj F hr hb hd hx I1 r q
structure Mk(K:FR)(C f:Addr):Prop where
 makes:PySem.W.makesIn K C=true
 init:PySem.W.findIn K ā "__init__"=some Áx
 fn:PySem.W.isFn K Ă=true
 kp:PySem.W.keepIn K ā=true
def aak{pins:bG}{σ:St}{H:Hp}{s:Sh}{Q:VK}{us:LV}{vs:au}(M:Mk X.K C f)(F:ú CX k f fd ps sp)(hr:dv (k+1) X.A)(hb:ŀ ds)(hd:bc iX ds)(hx:uf CX X E) (I:Ã H s) (r:bc vs us)(h:∀x dx,H x=none->H dx=none->dx≠x->sp (.ref x::(vs++iX)) (upd (upd H dx Äx) x Âg) (λv H2=>v=.aJ/\Q Ŝ H2) E):
  wpAny È X.A (call ā us) (ò Q) X.xe s:=by
 have hq:=h Î s.heap.objs.size (I.ax.fresh (X2 _)) Ī (fj (X0 _));have I2:=Inv.made (C:=C) I;have r2:bc (V.ref Î::(vs++iX)) (Value.ref Î::(us++ds)):=.cons rfl (r.append hd);have hl:(Value.ref Î::us++ds).length=ps.length:=by
  have e:=r2.length;rw[F.len _ _ _ _ hq] at e;simp_all
 refine An (Z8 (f:=f) I.fu M.makes M.init (wJ.mp M.fn) (u5 (F.run _ X.stack _ _ ⟨Value.ref Î::us,[]⟩ (Value.ref Î::(us++ds)) _ _ E (hr.make C us [])
  (I2.yM.make C us []) (hb _ (Value.ref Î::us) I2.fu hl) r2 hq) λr s' lE=>?_))
 cases r with
 |error e=>exact hx pins σ _ _ e s' I2 lE
 |ok fl=>
  cases fl with
  |ret u=>
   obtain⟨v,H',I3,rv,ev,q3⟩:=I2.after lE;subst ev;exact⟨rv,⟨V.ref Î,H',I3,rfl,q3⟩⟩
  |next=>exact False.elim lE
  |brk=>exact False.elim lE
  |cont=>exact False.elim lE
def aal(M:Mk X.K C f)(F:ú CX k f fd ps sp)(hr:dv (k+1) X.A)(hg:Gl X x)(hm:X.mg x=some ā)(hb:ŀ ds)(hd:bc iX ds)(hx:uf CX X E)(ha:PA X (e::es) t) (iY:(x==("__debug__":Str))=false:=by decide) (he:starEach (e::es) X.env=(false,eval e X.env)::starEach es X.env:=by rfl) (c9:(backTo pos õ).any (·.1)=false:=by rfl):
  PE X (.Call ż (e::es) [] pos) (P1 C sp iX E t):=by
 show Ö;refine wL (vi I hg hm ?_ iY);refine PySem.W.callWith_K (h₀:=X.base) I.ok.mod.rS M.kp (aK (ha pos pins s σ H _ I h) λus s1 ⟨vs,H1,I1,r,q⟩=>Ár) he c9;exact aak M F hr hb hd hx I1 r q
end
structure bH(N P:LS)(sc:Scope):Prop where
 kind:sc.kind=.function
 co:sc.isCoroutine=false
 gen:sc.isGenerator=false
 nd:N.Nodup
 pre:N.take P.length=P
 par:∀x∈P,sc.names.lookup x=some .local\/sc.names.lookup x=some .cell
 aam:∀y∈sc.names,y.2≠ .free
theorem aan{kindOf:Str->Option NameKind}{x:Str}{binds:List (Str×Value)}:∀{m:MG},(∀v,(x,v)∉binds)->bindL kindOf binds m x=m x:=by
 induction binds with
 |nil=>exact @λ_ _=>rfl
 |cons hd0 r ih=>
  obtain⟨n,v⟩:=hd0;intro m h;unfold bindL;rw[ih λw hw=>h w (aO _ hw)];split
  ·have:x≠n:=by rintro rfl;exact h v gy
   simp[this]
  ·rfl
theorem aao{kindOf:Str->Option NameKind}{x:Str}{binds:List (Str×Value)}:∀{m:MG},(∀v,(x,v)∉binds)->bindC kindOf binds m x=m x:=by
 induction binds with
 |nil=>exact @λ_ _=>rfl
 |cons hd0 r ih=>
  obtain⟨n,v⟩:=hd0;intro m h;unfold bindC;rw[ih λw hw=>h w (aO _ hw)];split
  ·rfl
  ·have:x≠n:=by rintro rfl;exact h v gy
   simp[this]
def aap{kindOf:Str->Option NameKind}{x:Str}{v:Value}{P:LS}:∀{vs:LV}{i:Nat}{m:MG},P.Nodup->P[i]? =some x->vs[i]? =some v->kindOf x=some .local->
  bindL kindOf (P.zip vs) m x=some v:=by
 induction P with
 |nil=>intro _ _ _ _ h;simp at h
 |cons p P ih=>
  intro vs i m nd h1 h2 hk;cases vs with
  |nil=>simp at h2
  |cons w vs=>
   show bindL kindOf ((p,w)::P.zip vs) m x=_;unfold bindL;cases i with
   |zero=>
    simp at h1 h2;subst h1;subst h2;rw[aan λv hv=>(j9.mp nd).1 (Dc hv).1,af hk];simp
   |succ i=>exact ih (j9.mp nd).2 h1 h2 hk
def aaq{kindOf:Str->Option NameKind}{x:Str}{v:Value}{P:LS}:∀{vs:LV}{i:Nat}{m:MG},P.Nodup->P[i]? =some x->vs[i]? =some v->kindOf x≠some .local->
  bindC kindOf (P.zip vs) m x=some v:=by
 induction P with
 |nil=>intro _ _ _ _ h;simp at h
 |cons p P ih=>
  intro vs i m nd h1 h2 hk;cases vs with
  |nil=>simp at h2
  |cons w vs=>
   show bindC kindOf ((p,w)::P.zip vs) m x=_;unfold bindC;cases i with
   |zero=>
    simp at h1 h2;subst h1;subst h2;rw[aao λv hv=>(j9.mp nd).1 (Dc hv).1,ah hk];simp
   |succ i=>exact ih (j9.mp nd).2 h1 h2 hk
def start(N:LS)(vs:au):St:=vs.map some++List.replicate (N.length-vs.length) none
def lF(CX:nh)(P:Pg)(w:Wd)(K:FR)(mg:MG)(base:Heap)(N:LS)(cO:Str)(scope:Scope)(f:Addr)(cd:Value)(A:Around)(outer:List Env)(s:Sh)(H:Hp)(E:XK):Cx where
 prog:=P
 w:=w
 K:=K
 mg:=mg
 base:=base
 A:=A.deeper Ŵ
 N:=N
 g8:=s
 qB:=H
 env:=envOfC cO scope s.heap.objs.size f cd
 outer:=outer
 stack:=envOfC cO scope s.heap.objs.size f cd::outer
 ex:=[]
 calm:=true
 fn:=λ_=>true
 pn:=[]
 xe:=λe s'=>wpAny Àj (A.deeper Ŵ) (leaving Ŵ e) (λ_ AW=>CX outer H s E e AW) (λe' AW=>CX outer H s E e' AW) s'
def P2{sc:Scope}{n:Nat}{x:Str}(h:sc.names.lookup x=some .cell):∃c,(cellsFrom n sc.names []).lookup x=some c:=by
 have q:=PySem.W.cellsFrom_some sc.names n [] (.inl h);exact G0.mp q
def P3{CX:nh}{P:Pg}{w:Wd}{K:FR}{mg:MG}{base:Heap}{N ps:LS}{cO:Str}{scope:Scope}{f:Addr}{cd:Value}{A:Around}{outer:List Env}{s s1:Sh}{H:Hp}{E:XK}{us:LV}{vs:au}(S:bH N ps scope) (hd:A.handled=none) (e0:Č H) (hl:vs.length=ps.length) (r:bc vs us)(x:InCallC s s.heap.objs.size (bindL (envOfC cO scope s.heap.objs.size f cd).kindOf Ài λ_=>none) (cellsFrom Î scope.names []) (bindC (envOfC cO scope s.heap.objs.size f cd).kindOf Ài λ_=>none) s1):
  Inv (ĭ scope f cd A outer s H E) [] ű H s1:=by
 have c9:ps.length<=N.length:=by have:=cE List.length S.pre;rw[mT] at this;omega
 obtain⟨h1,tk,rfl,hk⟩:=x.done;have ug:∀b:Addr,b∉(ĭ scope f cd A outer s H E).ex:=λb z=>absurd (show b∈([]:LA) from z) Ä;refine⟨⟨e0.mod,S.kind,rfl,rfl,bJ _,λy z c h1 h2=>?_,λy hy=>?_,λy c _ h=>?_,λ_=>hd,Around.frames_deeper e0.frames,.inr ⟨rfl,rfl⟩,λb z=>absurd z (ug b),e0.bs,e0.m7,λb _ _=>ug b,λb z=>absurd z (ug b),e0.kG,e0.pC⟩,
  rfl,e0.bare,Un.kept hk,⟨_,x.toInCall.ns,λi y v h1 h2 h3=>?_⟩,λy c h=>⟨_,x.cell y c h⟩,e0.ax.fresh (bJ _),λy c h=>?_,λp hp=>absurd (show p∈([]:bG) from hp) Ä,e0.ax.kept hk,?_⟩
 ·exact name_of_addr x.apart (PySem.mem_of_lookup h1) (PySem.mem_of_lookup h2)
 ·have hy:scope.names.lookup y=some .cell\/scope.names.lookup y=some .free:=hy;rcases hy with hy|hy
  ·exact P2 hy
  ·exact absurd rfl (S.aam _ Âd)
 ·exact tU (x.above y c (PySem.mem_of_lookup h))
 ·have hi:i<vs.length:=by
   unfold start at h2;by_cases hi:i<vs.length
   ·exact hi
   ·rw[OL (À hi)] at h2;rw[List.getElem?_replicate] at h2;split at h2 <;> cases h2
  have ha:vs[i]? =some v:=by
   unfold start at h2;rw[G1 (À hi),bW] at h2;cases e:vs[i]? with
   |none=>rw[e] at h2;cases h2
   |some a=>rw[e] at h2;cases h2;rfl
  obtain⟨u,hu,rv⟩:=r.get ha;have hp:ps[i]? =some y:=by
   rw[<-S.pre,X3 Æ];exact h1
  have P4:ps.Nodup:=by rw[<-S.pre];exact S.nd.sublist (List.take_sublist _ _)
  refine⟨u,rv,?_⟩;rcases S.par y (bZ hp) with k|k
  ·exact .inl ⟨k,aap P4 hp hu k⟩
  ·obtain⟨c,e⟩:=P2 (n:=s.heap.objs.size+1) k;refine .inr ⟨.inl k,c,e,?_⟩;have q:=x.cell y c e;rw[aaq P4 hp hu (by show scope.names.lookup y≠_;rw[k];decide)] at q;exact q
 ·exact e0.ax.fresh (tU (x.above y c (PySem.mem_of_lookup h)))
 ·unfold start;show _=N.length;rw[mU,aA,List.length_replicate];omega
def P5{CX:nh}{P:Pg}{w:Wd}{K:FR}{mg:MG}{base:Heap}{k:Nat}{f:Addr}{name cO:Str}{Xy:Arguments}{gM:List Stmt}{scope:Scope}{dV kV iS pm aG ct oc:Value}{an od:OA}{m3:AO} {N ps:LS} {sp:Sp} (lk:K.lookup f=some ⟨oc,od,.func (PySem.W.fnOf name cO Xy gM scope dV kV iS pm an aG ct),m3⟩) (kJ:PySem.W.codeIn K aG cO=true) (S:bH N ps scope)(len:∀vs H Q E,sp vs H Q E->vs.length=ps.length)(uh:∀(A:Around)(outer:List Env)(s:Sh)(H:Hp)(vs:au)(Q:VK)(E:XK),dv k (A.deeper (envOfC cO scope s.heap.objs.size f aG))->sp vs H Q E->
   ∃t,kI Àd gM t/\t {nx:=λ_ H'=>Q .aJ H',rt:=Q} ű H):
  a7 P w K mg base CX (k+1) f (PySem.W.fnOf name cO Xy gM scope dV kV iS pm an aG ct) ps sp:=by
 refine⟨len,λA outer s H args us vs Q E hr e0 hb r iZ=>?_⟩;have hl:=len _ _ _ _ iZ;have KX:K.In s.heap:=e0.mod.rS.keeps λb o e=>(e0.bs b o e).1;have C0:s.heap.NoLimit:=e0.mod.nolimit.keeps λb o e=>(e0.bs b o e).1;have Ia:∀y∈ps.zip us,scope.names.lookup y.1=some .local\/(scope.names.lookup y.1=some .cell/\((cellsFrom Î scope.names []).lookup y.1).isSome=true):=λ⟨n,v⟩ hy=>by
  rcases S.par n (Dc hy).1 with q|q
  ·simp_all
  ·exact .inr ⟨q,PySem.W.cellsFrom_some _ _ _ (.inl q)⟩
 refine codeAny_call_function hr.depth (KX _ _ lk) rfl S.co S.gen rfl (PySem.W.codeRec_of KX kJ) (hb _ _ _ _ ?_);refine ao9 S.kind Ia λenv he s1 x=>?_;subst he;refine⟨C0.keeps x.toInCall.keep,codeAny_func ?_⟩;obtain⟨t,ht,hq⟩:=uh A outer s H vs Q E (hr.deeper _) iZ;have I:Inv Àd [] ű H s1:=P3 S hr.hd e0 hl r x;refine iU (ht [] s1 ű H _ I hq) (λfl s' hs=>?_) λe s' hs=>hs;have fin:∀{σ':St}{H':Hp}{v:V}{u:Value},Inv Àd [] σ' H' s'->RelV v u->Q v H'->CE outer P w H s Q u s':=
  λ{σ' H' v u}J rv q=>⟨v,H',J.os,J.bare,J.base,J.ax,rv,q⟩
 cases fl with
 |ret u=>
  obtain⟨v,σ',H',J,rv,q⟩:=hs;exact fin J rv q
 |next=>
  obtain⟨σ',H',J,q⟩:=hs;exact fin (v:=V.aJ) (u:=Value.none) J rfl q
 |brk=>
  obtain⟨_,_,_,q⟩:=hs;simp_all
 |cont=>
  obtain⟨_,_,_,q⟩:=hs;simp_all
section
variable{X:Cx}{x:Str}{p pos:Pos}{e:Expr}{es:List Expr}{t:TA}{id T:String}{r:au->Hp->VK->Prop}
def qH(r:au->Hp->VK->Prop)(t:TA):TE:=λσ H Q=>t σ H λvs H1=>r vs H1 Q
def c8(hc:lD X ϊ r)(hg:Gl X x)(hm:X.mg x=none)(hv:bootBuiltins x=some ϊ)(ha:PA X (e::es) t)(hn:x≠"__name__":=by decide)(iY:(x==("__debug__":Str))=false:=by decide)(he:starEach (e::es) X.env=(false,eval e X.env)::starEach es X.env:=by rfl) (c9:(backTo pos õ).any (·.1)=false:=by rfl):PE X (.Call ż (e::es) [] pos) (qH r t):=by
 show Ö;refine wL (Àh hv ?_ hn iY);exact apa (aK (ha pos pins s σ H _ I h) λus s1 ⟨vs,H1,I1,r1,q1⟩=>hc pins s1 σ H1 vs us Q I1 r1 q1) he c9
def xb(hc:lD X (.type T) r)(hg:Gl X x)(hm:X.mg x=none)(hv:bootBuiltins x=some (.type T))(ha:PA X (e::es) t)(hn:x≠"__name__":=by decide)(iY:(x==("__debug__":Str))=false:=by decide)(he:starEach (e::es) X.env=(false,eval e X.env)::starEach es X.env:=by rfl) (c9:(backTo pos õ).any (·.1)=false:=by rfl):PE X (.Call ż (e::es) [] pos) (qH r t):=by
 show Ö;refine wL (Àh hv ?_ hn iY);exact C9 (aK (ha pos pins s σ H _ I h) λus s1 ⟨vs,H1,I1,r1,q1⟩=>hc pins s1 σ H1 vs us Q I1 r1 q1) he c9
end
end L2
namespace HT
open PySem PyProof.Rows
def lexLt:LI->LI->Bool
 |[],[]=>false
 |[],_::_=>true
 |_::_,[]=>false
 |x::xs,y::ys=>if x=y then lexLt xs ys else decide (x<y)
def ui(x y:Int)(xs ys:LI):lexLt (x::xs) (y::ys)=if x=y then lexLt xs ys else decide (x<y):=rfl
def P6:lexLt [] []=false:=rfl
def P7(y:Int)(ys:LI):lexLt [] (y::ys)=true:=rfl
def P8(x:Int)(xs:LI):lexLt (x::xs) []=false:=rfl
def P9(A:Around)(s:Sh)(a:Int)(t:Tok)(c:Int)(u:Tok):∃e,SeqAt.EqAt A s (.int a t) (.int c u) e/\(e=true↔a=c):=
 ⟨(a==c),SeqAt.EqAt.int_int a t c u,by simp⟩
def Ib(A:Around)(s:Sh)(a:Int)(t:Tok)(c:Int)(u:Tok)(prog:Pg)(w:Wd)(E:VP)(Q:VP)(h:Q (.bool (decide (a<c))) s):
  wpAny Ó A (richCompare .Lt (.int a t) (.int c u)) Q E s:=
 (PyProof.Rows.lt_int h:wpAny Ó A (compareOp .Lt (.int a t) (.int c u)) Q E s)
section
open PySem.SeqAt
open PySem.AutoSeq1 (wpAny_loadPart')
open PySem.MeetsSeq PySem.MeetsSeq2 PySem.MeetsSeq3
def aar(l b:Addr)(items ir:Array Value)(n n2:Nat)(dd lZ:OA)(sl ni:AO)(ns ms:LI)(hi:IntsAre items.toList ns)(hj:IntsAre ir.toList ms):
  Meets (Builtin.«tuple.__lt__» ⟨[.ref l,.ref b],[]⟩)
   (λ_ R s=>s.heap.get? l=some {cls:=.type "tuple",dict:=dd,data:=.seq items n,slots:=sl}/\s.heap.get? b=some {cls:=.type "tuple",dict:=lZ,data:=.seq ir n2,slots:=ni}/\
    R (.ok (.ret Ż)) s):=
 .of_wp λprog w A R s h=>by
  obtain⟨hp,g,d,tk,os⟩:=s;obtain⟨hl,hb,h⟩:=h;have f2:=apc;have z1:items.size=ns.length:=by rw[<-hi.length];simp
  have z2:ir.size=ms.length:=by rw[<-hj.length];simp
  wp_walk using je hl,je hb,wpAny_forIn_list _ (λbI b s'=>b.1=none/\s'=⟨hp,g,d,tk,os⟩/\∃(vs ws:LV)(rZ l5:LI),bI=vs.zip ws/\
   IntsAre vs rZ/\IntsAre ws l5/\rZ.length+ir.size=l5.length+items.size/\R (.ok (.ret (.bool (lexLt rZ l5)))) ⟨hp,g,d,tk,os⟩) _
  case turn=>
   rintro⟨y,x⟩ bI b s' ⟨nj,rfl,vs,ws,rZ,l5,hz,yN,uj,cK,hR⟩;cases yN with
   |nil=>rw[List.zip_nil_left] at hz;cases hz
   |cons a t hvi'=>
    cases uj with
    |nil=>rw[List.zip_nil_right] at hz;cases hz
    |cons c u hwi'=>
     rw[Dd] at hz;injection hz with hyx hrest;injection hyx with hy hx;subst hy hx;rw[ui] at hR;simp only[c7] at cK;obtain⟨e,he,AX⟩:=P9 A.in1 ⟨hp,g,d,tk,os⟩ a t c u;refine aP (he prog w _ _ ?_);cases e with
     |true=>
      rw[af (AX.mp rfl)] at hR
      wp_walk
      exact⟨rfl,rfl,_,_,_,_,hrest,hvi',hwi',by omega,hR⟩
     |false=>
      rw[ah (λq=>absurd (AX.mpr q) d9)] at hR;have qI:=Ib A.in1 ⟨hp,g,d,tk,os⟩ a t c u prog w
      wp_walk using qI
      exact⟨_,rfl,À hR⟩
  case fin=>
   rintro⟨b1,b2⟩ s' ⟨nj,rfl,vs,ws,rZ,l5,hz,yN,uj,cK,hR⟩;simp only at nj;subst nj;have hv:lexLt rZ l5=decide (items.size<ir.size):=by
    cases yN with
    |nil=>
     cases uj with
     |nil=>
      simp only[rJ] at cK;rw[P6];exact(fQ Æ).symm
     |cons c u hw=>
      simp only[rJ,c7] at cK;rw[P7];exact(eJ Æ).symm
    |cons a t hv=>
     cases uj with
     |nil=>
      simp only[rJ,c7] at cK;rw[P8];exact(fQ Æ).symm
     |cons c u hw=>
      rw[Dd] at hz;cases hz
   rw[hv] at hR
   wp_walk
   exact⟨_,rfl,by simpa [Builtin.Tuple.tupleCompareSizes] using hR⟩
  case h=>
   exact⟨rfl,rfl,items.toList,ir.toList,ns,ms,rfl,hi,hj,by omega,h⟩
end
section
def aas(hl:IsTup s.heap l items)(hb:IsTup s.heap b ir)(hi:IntsAre items.toList ns)(hj:IntsAre ir.toList ms)(hu:A.units<cLine) (h:Q Ż s):wpAny Ó A (compareOp .Lt Äw (.ref b)) Q E s:=by
 obtain⟨⟨cls,dd,data,sl⟩,ho,hc,n,hd⟩:=id hl;obtain⟨⟨Qa,lZ,data2,ni⟩,AY,iL,n2,fO⟩:=id hb;simp only at hc hd iL fO;subst hc hd iL fO;exact OM (op:=.Lt) ⟨_,ho,rfl⟩ ⟨_,AY,rfl⟩ PySem.F.slot_tuple_lt PySem.F.entry_tuple_lt (PySem.F.args_tuple_lt_2 _ _) (aar l b items ir n n2 dd lZ sl ni ns ms hi hj)
  ⟨ho,AY,show Value.bool (lexLt ns ms)≠Value.notImplemented/\Q Ż s from⟨(λx=>nomatch x),h⟩⟩ hu
def l6(n d:Nat):Option Int->Nat
 |none=>d
 |some v=>if v<0 then (v+(n:Int)).toNat else min v.toNat n
def Qb(n d:Nat):l6 n d none=d:=rfl
def Qc(n d k:Nat):l6 n d (some (k:Int))=min k n:=by
 rfl
end
end HT
namespace L2
open PySem PySem.Spec PyProof.Rows
abbrev TO:=St->Hp->(Option Int->Hp->Prop)->Prop
def PO(X:Cx)(e:Option Expr)(t:TO):Prop:=
 ∀(pins:bG)(s:Sh)(σ:St)(H:Hp)(Q:Option Int->Hp->Prop),Ã H s->t σ H Q->
  wpAny È X.A (evalPart e X.env) (λu s'=>∃o H',Ã H' s'/\IsPart u o/\Q o H') X.xe s
def Qe:TO:=λ_ H Q=>Q none H
def Qg(t:TE):TO:=λσ H Q=>t σ H λx H1=>∃i,x=.int i/\Q (some i) H1
theorem intsAre_of{ns:LI}:∀{us:LV},bc š us->IntsAre us ns:=by
 induction ns with
 |nil=>intro us r;rw[lQ] at r;cases r;exact .nil
 |cons n ns ih=>
  intro us r;rw[a0] at r;cases r with
  |cons r1 r2=>
   obtain⟨t,e⟩:=r1;subst e;exact .cons n t (ih r2)
section
variable{X:Cx}{e:Expr}{te:TE}{lo hi:Option Expr}{tl th:TO}{pos p2:Pos}
def xc:PO X none Qe:=by
 show Ö;rw[evalPart_none];exact df ⟨none,H,I,.none,h⟩
def xf(h:Ϝ te):PO X (some e) (Qg te):=by
 intro pins s σ H Q I hw;rw[evalPart_some];refine aK (h pins s σ H _ I hw) λu s1 ⟨x,H1,I1,r1,q1⟩=>?_;obtain⟨i,rfl,q⟩:=q1;obtain⟨t,rfl⟩:=r1;exact⟨some i,H1,I1,.int i t,q⟩
def Qh(X:Cx)(r:V->Option Int->Option Int->Hp->VK->Prop):Prop:=
 ∀(pins:bG)(s:Sh)(σ:St)(H:Hp)(x:V)(v vl vu:Value)(lo hi:Option Int)(sl:Addr)(Q:VK),Ã H s->RelV x v->s.heap.IsSliceOf sl vl vu .none->IsPart vl lo->IsPart vu hi->r x lo hi H Q->
  ∃T id,typeLookup (.type T) "__getitem__"=pure (some ϊ)/\s.TypeIs v T/\wpAny È X.A (getItem v (.ref sl)) (ò Q) X.xe s
def Qi(r:V->Option Int->Option Int->Hp->VK->Prop)(te:TE)(tl th:TO):TE:=λσ H Q=>te σ H λx H1=>tl σ H1 λl H2=>th σ H2 λu H3=>r x l u H3 Q
def xg(hr:Qh X r)(he:Ϝ te)(hl:PO X lo tl)(hu:PO X hi th):PE X (.Subscript e (.Slice lo hi none p2) pos) (Qi r te tl th):=by
 show Ö;refine Subscript_ (aK (he pins s σ H _ I h) λv s1 ⟨x,H1,I1,r1,q1⟩=>?_);refine wpAny_Slice (aK (hl pins s1 σ H1 _ I1 q1) λvl s2 ⟨l,H2,I2,pl,q2⟩=>aK (hu pins s2 σ H2 _ I2 q2) λvu s3 ⟨u,H3,I3,pu,q3⟩=>?_);rw[evalPart_none];refine df ?_;have I4:Ã H3 {s3 with heap:=s3.heap.push {cls:=.type "slice",data:=.fields #[vl,vu,.none]}}:=I3.kept (t':=s3.toks) λb ob q=>dh _ q;obtain⟨T,id,hT,ht,hg⟩:=hr pins {s3 with heap:=s3.heap.push {cls:=.type "slice",data:=.fields #[vl,vu,.none]}} σ H3 x v vl vu l u s3.heap.objs.size Q I4 r1 (Heap.IsSliceOf.new ..) pl pu q3;show wpAny È X.A (subscriptTail e (.Slice lo hi none p2) v (.ref s3.heap.objs.size)) (ò Q) X.xe {s3 with heap:=s3.heap.push {cls:=.type "slice",data:=.fields #[vl,vu,.none]}};exact tail_any (ops:=[.ref s3.heap.objs.size,v]) ht hT hg Õ
def oA(xs:au)(lo hi:Option Int):au:=(xs.drop (HT.l6 xs.length 0 lo)).take (HT.l6 xs.length xs.length hi-HT.l6 xs.length 0 lo)
def aat(xs:au)(lo hi:Option Int):(oA xs lo hi).length<=xs.length:=by
 unfold oA;rw[mT,X5];omega
inductive Qj(K:FR)(x:V)(y:V)(H:Hp)(Q:VK):Prop
 |mk (a b ns ms:_) (_:x=.ref a) (_:y=.ref b) (_:Ť a š) (_:Ť b (ms.map V.int)) (_:Q (.bl ϛ) H)
def aau(hu:X.A.units<cLine):eS X Çl (Qj X.K):=by
 show ð;obtain⟨a,b,ns,ms,rfl,rfl,ha,hb,q⟩:=h;cases rx;cases ry;obtain⟨aj,r1,p1,_⟩:=I.tuple ha;obtain⟨nk,r2,p2,_⟩:=I.tuple hb;have i1:IntsAre aj.toArray.toList ns:=intsAre_of r1;have i2:IntsAre nk.toArray.toList ms:=intsAre_of r2;exact HT.aas p1 p2 i1 i2 hu ⟨.bl ϛ,H,I,rfl,q⟩
end
def r6(n:Nat)(i:Int):Option Nat:=if 0<=i then (if i<n then some i.toNat else none) else if-(n:Int)<=i then some (i+n).toNat else none
def pI{α:Type}(xs:List α)(i:Int):Option α:=(r6 xs.length i).bind λj=>xs[j]?
def aav(h:r6 n i=some j):seqIndex? i n=some j/\j<n/\ -(n:Int)<=i/\i<n:=by
 unfold r6 at h;by_cases h0:0<=i
 ·rw[af h0] at h;by_cases h1:i<n
  ·rw[af h1] at h;have e:i.toNat=j:=aN h;exact⟨by rw[seqIndex_of h0 h1,e],by omega,by omega,h1⟩
  ·simp_all
 ·rw[ah h0] at h;by_cases h1: -(n:Int)<=i
  ·rw[af h1] at h;have e:(i+n).toNat=j:=aN h;exact⟨by rw[seqIndex_neg Æ h1,e],by omega,h1,by omega⟩
  ·simp_all
theorem Qk(h:pI xs i=some v):∃j,seqIndex? i xs.length=some j/\xs[j]? =some v/\j<xs.length/\ -(xs.length:Int)<=i/\i<xs.length:=by
 unfold pI at h;cases e:r6 xs.length i with
 |none=>simp_all
 |some j=>
  rw[e] at h;obtain⟨h1,h2,h3,h4⟩:=aav e;simp_all
def fT{α:Type}{xs:List α}{j:Nat}{v:α}(h:xs[j]? =some v):pI xs (j:Int)=some v:=by
 have hj:j<xs.length:=(bO.mp h).1;have e:r6 xs.length (j:Int)=some j:=by
  unfold r6;simp_all
 unfold pI;rw[e];exact h
def vw(xs:List α)(v:α):pI (xs++[v]) (-1)=some v:=by
 have hl:(xs++[v]).length=xs.length+1:=by simp
 have e:r6 (xs++[v]).length (-1)=some xs.length:=by
  unfold r6;grind
 unfold pI;simp_all
def aaw(b:Expr):Prop:=∀o i,subscripted b false o i=operate [o,i] (getItem o i)
def Ic(X:Cx)(r:R2):Prop:=
 ∀(jd uZ:Expr)(pins:bG)(s:Sh)(σ:St)(H:Hp)(x y:V)(v u:Value)(Q:VK),Ã H s->RelV x v->RelV y u->r x y H Q->
  subscripted uZ false v u=operate [v,u] (getItem v u)->wpAny È X.A (subscriptTail jd uZ v u) (ò Q) X.xe s
def Ie(X:Cx)(id:String)(r:V->au->Hp->VK->Prop):Prop:=
 ∀(pins:bG)(s:Sh)(σ:St)(H:Hp)(x:V)(xs:au)(v:Value)(us:LV)(Q:VK),Ã H s->RelV x v->bc xs us->r x xs H Q->
  wpAny È X.A (call ϊ (v::us)) (ò Q) X.xe s
section
variable{X:Cx}{a b:Expr}{ta tb:TE}{pos:Pos}
def cA(hr:Ic X r)(ha:ϧ ta)(hb:PE X b tb)(hs:aaw b):PE X (.Subscript a b pos) Æu:=by
 show Ö;exact Subscript_ (HP ha hb I h λv u s2 x y H2 I2 rx ry q=>hr a b pins s2 σ H2 x y v u Q I2 rx ry q (hs _ _))
inductive ig(K:FR)(x:V)(y:V)(H:Hp)(Q:VK):Prop
 |mk (p xs i v:_) (_:x=.ref p) (_:y=.int i) (_:â p xs) (_:pI xs i=some v) (_:Q v H)
inductive aax(K:FR)(x:V)(y:V)(H:Hp)(Q:VK):Prop
 |mk (p xs i v:_) (_:x=.ref p) (_:y=.int i) (_:Ť p xs) (_:pI xs i=some v) (_:Q v H)
def cY:Ic X (ig X.K):=by
 intro jd uZ pins s σ H x y v u Q I rx ry h hs;obtain⟨p,xs,i,z,rfl,rfl,hq,he,q⟩:=h;cases rx;obtain⟨t,rfl⟩:=ry;obtain⟨aj,r,pl,hz⟩:=I.list hq;obtain⟨j,h1,h2,h3,h4,h5⟩:=Qk he;obtain⟨w,ew,i0⟩:=r.get h2;have hl:=r.length;have hn:=DJ;have fin:ò Q w s:=⟨z,H,I,i0,q⟩;by_cases h0:0<=i
 ·have hj:i.toNat=j:=by
   rw[seqIndex_of h0 h5] at h1;simp_all
  exact item_listR pl.isList h0 Æ É fin hs
 ·have hj:(i+(aj.toArray.size:Int)).toNat=j:=by
   rw[seqIndex_neg Æ h4] at h1;simp_all
  exact subscriptTail_builtinR (x:=w) pl.isList.typeIs slot_list_getitem.lookup
   (wpAny_getItem_list_neg (Q:=λr s'=>r=w/\ò Q r s') pl.isList Æ (by rw[tX] <;> omega) Æ (by rw[hj];simpa using ew) ⟨rfl,fin⟩) hs
def yO:Ic X (aax X.K):=by
 intro jd uZ pins s σ H x y v u Q I rx ry h hs;obtain⟨p,xs,i,z,rfl,rfl,hq,he,q⟩:=h;cases rx;obtain⟨t,rfl⟩:=ry;obtain⟨aj,r,pl,hz⟩:=I.tuple hq;obtain⟨j,h1,h2,h3,h4,h5⟩:=Qk he;obtain⟨w,ew,i0⟩:=r.get h2;have hl:=r.length;have hn:=DJ;have fin:ò Q w s:=⟨z,H,I,i0,q⟩;exact subscriptTail_builtinR (x:=w) pl.typeIs slot_tuple_getitem.lookup
  (getItem_tuple (j:=j) (Q:=λr s'=>r=w/\ò Q r s') pl Æ Æ (by rw[tX,<-hl];exact h1) (À ew) ⟨rfl,fin⟩) hs
def aay(lo hi:Option Int)(n:Nat):(sliceBounds lo hi none n).1=((HT.l6 n 0 lo:Nat):Int)/\(sliceBounds lo hi none n).2.1=((HT.l6 n n hi:Nat):Int)/\(sliceBounds lo hi none n).2.2=1:=by
 refine⟨?_,?_,rfl⟩
 ·cases lo with
  |none=>rfl
  |some i=>
   simp only[sliceBounds,HT.l6,Option.getD_none,show(1:Int)>0 by decide,ON];grind
 ·cases hi with
  |none=>rfl
  |some i=>
   simp only[sliceBounds,HT.l6,Option.getD_none,show(1:Int)>0 by decide,ON];grind
def aaz(aj:LV)(lo hi:Option Int):slicePick aj.toArray lo hi none=((aj.drop (HT.l6 aj.length 0 lo)).take (HT.l6 aj.length aj.length hi-HT.l6 aj.length 0 lo)).toArray:=by
 obtain⟨h1,h2,h3⟩:=aay lo hi aj.toArray.size;unfold slicePick;rw[h1,h2,h3];simp only[sliceRange_one,pick_run,tX] <;> rfl
inductive Ql(K:FR)(x:V)(lo:Option Int)(hi:Option Int)(H:Hp)(Q:VK):Prop
 |mk (a xs:_) (_:x=.ref a) (_:â a xs) (_:∀p,H p=none->Q ĥ (upd H p (.lst (oA xs lo hi))))
def xh:Qh X (Ql X.K):=by
 intro pins s σ H x v vl vu lo hi sl Q I rx hs pl pu h;obtain⟨a,xs,rfl,hx,q⟩:=h;cases rx;obtain⟨aj,r,ht,hz⟩:=I.list hx;have cK:=r.length;refine⟨"list",_,slot_list_getitem.lookup,ht.isList.typeIs,?_⟩;refine wpAny_getItem_list_slice ht.isList hs pl pu .none Ä ?_ É;rw[aaz,<-cK];refine⟨.ref s.heap.objs.size,_,I.laid (t':=s.toks) (o:=.lst (oA xs lo hi)) (λb ob q=>dh _ q) (bJ _) ?_,rfl,q _ Ī⟩;exact⟨gQ (aat xs lo hi) hz,_,0,(r.drop (HT.l6 xs.length 0 lo)).take (HT.l6 xs.length xs.length hi-HT.l6 xs.length 0 lo),ib _ rfl⟩
def lG:V->Bool
 |.aJ=>true
 |.bl _=>true
 |.int _=>true
 |.str _=>true
 |_=>false
def pJ:V->V->Bool
 |.aJ,.aJ=>true
 |.bl a,.bl b=>a==b
 |.bl a,.int b=>(if a then 1 else 0)==b
 |.int a,.bl b=>a==(if b then 1 else 0)
 |.int a,.int b=>a==b
 |.str a,.str b=>a==b
 |_,_=>false
theorem aaA(ry:RelV y u)(rx:RelV x v)(fy:lG y=true)(fx:lG x=true):SeqAt.EqAt A s u v (pJ y x):=by
 cases y with
 |aJ=>
  cases ry;cases x with
  |aJ=>cases rx;exact SeqAt.EqAt.same _
  |bl b=>cases rx;exact SeqAt.EqAt.none_bool b
  |int b=>obtain⟨t,rfl⟩:=rx;exact SeqAt.EqAt.none_int b t
  |str b=>obtain⟨t,rfl⟩:=rx;exact SeqAt.EqAt.none_str b t
  |_=>exact absurd (show false=true from fx) d9
 |bl a=>
  cases ry;cases x with
  |aJ=>cases rx;exact SeqAt.EqAt.bool_none a
  |bl b=>cases rx;exact SeqAt.EqAt.bool_bool a b
  |int b=>obtain⟨t,rfl⟩:=rx;exact SeqAt.EqAt.bool_int a b t
  |str b=>obtain⟨t,rfl⟩:=rx;exact SeqAt.EqAt.bool_str a b t
  |_=>exact absurd (show false=true from fx) d9
 |int a=>
  obtain⟨t',rfl⟩:=ry;cases x with
  |aJ=>cases rx;exact SeqAt.EqAt.int_none a t'
  |bl b=>cases rx;exact SeqAt.EqAt.int_bool a t' b
  |int b=>obtain⟨t,rfl⟩:=rx;exact SeqAt.EqAt.int_int a t' b t
  |str b=>obtain⟨t,rfl⟩:=rx;exact SeqAt.EqAt.int_str a t' b t
  |_=>exact absurd (show false=true from fx) d9
 |str a=>
  obtain⟨t',rfl⟩:=ry;cases x with
  |aJ=>cases rx;exact SeqAt.EqAt.str_none a t'
  |bl b=>cases rx;exact SeqAt.EqAt.str_bool a t' b
  |int b=>obtain⟨t,rfl⟩:=rx;exact SeqAt.EqAt.str_int a t' b t
  |str b=>obtain⟨t,rfl⟩:=rx;exact SeqAt.EqAt.str_str a t' b t
  |_=>exact absurd (show false=true from fx) d9
 |_=>exact absurd (show false=true from fy) d9
def lH(x:V)(u:Value):Bool:=match u with
 |.none=>pJ .aJ x
 |.bool b=>pJ (.bl b) x
 |.int i _=>pJ Âx x
 |.str z _=>pJ (.str z) x
 |_=>false
theorem DL{x y:V}{u:Value}(r:RelV y u)(f:lG y=true):lH x u=pJ y x:=by
 cases y with
 |aJ=>cases r;rfl
 |bl b=>cases r;rfl
 |int i=>obtain⟨t,rfl⟩:=r;rfl
 |str z=>obtain⟨t,rfl⟩:=r;rfl
 |_=>exact absurd (show false=true from f) d9
theorem DM{x:V}:∀{xs:au}{us:LV},bc xs us->xs.all lG=true->us.any Æl=xs.any λy=>pJ y x:=by
 intro xs us h;induction h with
 |nil=>exact λ_=>rfl
 |cons r t ih=>
  intro f;rw[rK,jw] at f;rw[tY,tY,DL r f.1,ih f.2]
theorem AZ{A:Around}{s:Sh}{x:V}{v:Value}(rx:RelV x v)(fx:lG x=true):∀{xs:au}{us:LV},bc xs us->xs.all lG=true->∀u∈us,SeqAt.EqAt A s u v (lH x u):=by
 intro xs us h;induction h with
 |nil=>intro _ u hu;cases hu
 |cons r t ih=>
  intro f u' hu;rw[rK,jw] at f;rcases ba.mp hu with rfl|hu
  ·rw[DL r f.1];exact aaA r rx f.1 fx
  ·exact ih f.2 u' hu
def vx(x:V)(xs:au):Bool:=xs.any λy=>pJ y x
inductive DN(K:FR)(neg:Bool)(x:V)(y:V)(H:Hp)(Q:VK):Prop
 |mk (p xs:_) (_:y=.ref p) (_:(â p xs\/bu K H p xs)) (_:lG x=true) (_:xs.all lG=true) (_:Q (.bl (if neg then !vx x xs else vx x xs)) H)
def Ig:eS X (compareOp .In) (DN X.K false):=by
 show ð;obtain⟨p,xs,rfl,hq,fx,fs,q⟩:=h;cases ry;rcases hq with hq|hq
 ·obtain⟨aj,r,pl,hz⟩:=I.list hq;refine SeqAt.in_listAt Æl pl.isList ŧ ⟨.bl _,H,I,rfl,?_⟩;rw[show aj.toArray.any Æl=aj.any Æl by simp,DM r fs];exact q
 ·obtain⟨aj,r,pl,hz⟩:=I.tuple hq;refine SeqAt.in_tupleAt Æl pl ŧ ⟨.bl _,H,I,rfl,?_⟩;rw[show aj.toArray.any Æl=aj.any Æl by simp,DM r fs];exact q
def aaB:eS X (compareOp .NotIn) (DN X.K true):=by
 show ð;obtain⟨p,xs,rfl,hq,fx,fs,q⟩:=h;cases ry;rcases hq with hq|hq
 ·obtain⟨aj,r,pl,hz⟩:=I.list hq;refine SeqAt.notIn_listAt Æl pl.isList ŧ ⟨.bl _,H,I,rfl,?_⟩;rw[show aj.toArray.any Æl=aj.any Æl by simp,DM r fs];exact q
 ·obtain⟨aj,r,pl,hz⟩:=I.tuple hq;refine SeqAt.notIn_tupleAt Æl pl ŧ ⟨.bl _,H,I,rfl,?_⟩;rw[show aj.toArray.any Æl=aj.any Æl by simp,DM r fs];exact q
def fU:lD X (.builtin "len") (λxs H Q=>∃p ys,xs=[.ref p]/\(Àv p ys\/bu X.K H p ys)/\Q (.int ys.length) H):=by
 intro pins s σ H xs us Q I r h;obtain⟨p,ys,rfl,hq,q⟩:=h;obtain⟨u,rfl,rx⟩:=vals1 r;cases rx;have hn:=DJ;rcases hq with hq|hq
 ·obtain⟨aj,r',pl,hz⟩:=I.list hq;have cK:=r'.length;exact Calls.call_len_list pl.isList (by grind) ⟨.int ys.length,H,I.tok _,⟨s.toks+1,by simp_all⟩,q⟩
 ·obtain⟨aj,r',pl,hz⟩:=I.tuple hq;have cK:=r'.length;exact len_tuple pl (by grind) ⟨.int ys.length,H,I.tok _,⟨s.toks+1,by simp_all⟩,q⟩
def aaC:lD X (.type "list") (λxs H Q=>∃p ys,xs=[.ref p]/\(Àv p ys\/bu X.K H p ys)/\∀l,H l=none->Q Äw (ϙ Âf)):=by
 intro pins s σ H xs us Q I r h;obtain⟨p,ys,rfl,hq,q⟩:=h;obtain⟨u,rfl,rx⟩:=vals1 r;cases rx;have fin:∀(aj:LV),bc ys aj->ys.length<=sizeLine->∀(h':Heap)(c':Nat),(∀b o',s.heap.get? b=some o'->h'.get? b=some o')->
   h'.get? s.heap.objs.size=some {cls:=.type "list",dict:=none,data:=.seq aj.toArray c',slots:= #[]}->ò Q ķ {s with heap:=h'}:=λaj r' hz h' c' kp e=>
  ⟨.ref s.heap.objs.size,_,I.laid (t':=s.toks) kp (bJ _) (show ft X.prog X.w _ h' _ Âf from⟨hz,aj,c',r',e⟩),rfl,q _ Ī⟩
 rcases hq with hq|hq
 ·obtain⟨aj,r',pl,hz⟩:=I.list hq;have cK:=r'.length;obtain⟨o,ho,hc,n,hd⟩:=pl.isList;exact call_list_seq p Ĉ ho hc hd (λh' c' kp e=>fin aj r' hz h' c' kp e) É
 ·obtain⟨aj,r',pl,hz⟩:=I.tuple hq;have cK:=r'.length;obtain⟨o,ho,hc,n,hd⟩:=pl;exact call_list_seq p Çf ho hc hd (λh' c' kp e=>fin aj r' hz h' c' kp e) É
def Qm:lD X (.type "tuple") (λxs H Q=>∃p ys,xs=[.ref p]/\((Àv p ys/\∀l,H l=none->Q Äw (ϙ Åw))\/(bu X.K H p ys/\Q ĥ H))):=by
 intro pins s σ H xs us Q I r h;obtain⟨p,ys,rfl,h⟩:=h;obtain⟨u,rfl,rx⟩:=vals1 r;cases rx;rcases h with ⟨hq,q⟩|⟨hq,q⟩
 ·obtain⟨aj,r',pl,hz⟩:=I.list hq;have cK:=r'.length;refine call_tuple_list pl.isList (λh' kp=>?_) É;have I1:Ã H {s with heap:=h'}:=I.kept (t':=s.toks) kp;have I2:Ã (upd H h'.objs.size Åw) {s with heap:=h'.push {cls:=.type "tuple",data:=.seq aj.toArray}}:=
   I1.laid (t':=s.toks) Åk (bJ _) (show ft X.prog X.w _ _ _ Åw from⟨hz,aj,r',IsTup.new _ _⟩)
  exact⟨.ref h'.objs.size,_,I2,rfl,q _ Ãq⟩
 ·obtain⟨aj,r',pl,hz⟩:=I.tuple hq;exact call_tuple_same pl ⟨.ref p,H,I,rfl,q⟩
def Ih(K:FR)(T:String)(x:V)(H:Hp):Prop:=match x with
 |.str _=>T="str"
 |.int _=>T="int"
 |.ref p=>(T="list"/\∃xs,â p xs)\/(T="tuple"/\∃o,K.lookup p=some o/\o.cls=.type "tuple"/\o.dict=none)\/
   (T="dict"/\((∃kvs,H p=some Đ)\/∃kvs,H p=some Ãa))\/(T="set"/\∃S n,H p=some (.set S n))
 |_=>False
def Qn(I:Ã H s)(r:RelV x v)(ty:Ih X.K T x H):
  s.TypeIs v T/\∀a,v=.ref a->∃ob,s.heap.get? a=some ob/\ob.dict=none:=by
 cases x with
 |str z=>
  obtain⟨t,rfl⟩:=r;cases (show T="str" from ty);exact⟨typeIs_str s z t,λ_ e=>nomatch e⟩
 |int i=>
  obtain⟨t,rfl⟩:=r;cases (show T="int" from ty);exact⟨typeIs_int s i t,λ_ e=>nomatch e⟩
 |ref p=>
  cases r;rcases ty with ⟨rfl,xs,hq⟩|⟨rfl,o,hk,hc,hd⟩|⟨rfl,hk⟩|⟨rfl,S,n,hk⟩
  ·obtain⟨aj,_,pl,_⟩:=I.list hq;refine⟨pl.isList.typeIs,λa e=>?_⟩;cases e;obtain⟨o,n,e,c,hd,_⟩:=pl;simp_all
  ·refine⟨⟨o,I.fu p o hk,hc⟩,λa e=>?_⟩;cases e;exact⟨o,I.fu _ o hk,hd⟩
  ·have z:∃o,s.heap.get? p=some o/\o.ExactDict:=by
    rcases hk with ⟨kvs,hk⟩|⟨kvs,hk⟩
    ·obtain⟨_,_,_,_,o,_,_,e,ex,_⟩:=I.ax p _ hk;simp_all
    ·obtain⟨_,_,_,_,o,_,_,e,ex,_⟩:=I.ax p _ hk;simp_all
   obtain⟨o,e,ex⟩:=z;refine⟨⟨o,e,ex.1⟩,λa e2=>?_⟩;cases e2;exact⟨o,e,ex.2.1⟩
  ·obtain⟨o,_,_,_,e,ex,_⟩:=I.ax p _ hk;refine⟨⟨o,e,ex.1⟩,λa e2=>?_⟩;cases e2;exact⟨o,e,ex.2.1⟩
 |_=>exact False.elim ty
def aaD(K:FR)(T:String)(r:V->au->Hp->VK->Prop)(to:TE):TE:=λσ H Q=>to σ H λx H1=>Ih K T x H1/\r x [] H1 Q
def Qo(K:FR)(T:String)(r:V->au->Hp->VK->Prop)(to:TE)(t:TA):TE:=λσ H Q=>to σ H λx H1=>Ih K T x H1/\t σ H1 λxs H2=>r x xs H2 Q
variable{o e:Expr}{es:List Expr}{to:TE}{t:TA}{name:Str}{iT fV:Pos}{T id:String}{r:V->au->Hp->VK->Prop}
def Qp(pa:PlainAttrs T)(slot:Slot T name id)(r9:typeOf ϊ=pure (.type "method_descriptor"))(hm:Ie X id r)(ho:PE X o to)(t9:attributeBase o name X.env Äj=eval o X.env:=by rfl) (xi:(iT.endLine==fV.line)=true:=by rfl):PE X (.Call (.Attribute o name iT) [] [] fV) (aaD X.K T r to):=by
 show Ö;refine wpAny_Call_method0_late t9 xi (aK (ho pins s σ H _ I h) λv s1 ⟨x,H1,I1,r1,ty,q1⟩=>?_);obtain⟨h1,h2⟩:=Qn I1 r1 ty;exact⟨T,id,pa,slot,r9,h1,h2,G2 rfl (PySem.evalArgs_none (hm pins s1 σ H1 x [] v [] Q I1 r1 .nil q1))⟩
def sf(pa:PlainAttrs T)(slot:Slot T name id)(r9:typeOf ϊ=pure (.type "method_descriptor"))(hm:Ie X id r)(ho:PE X o to)(ha:PA X (e::es) t)(t9:attributeBase o name X.env Äj=eval o X.env:=by rfl)(yP:((backTo fV (starEach (e::es) X.env)).all (λx=>!x.1)&&(backToKw fV ϴ).all (λx=>x.1.isSome)
   &&decide ((e::es).length+([]:List Keyword).length+(if ([]:List Keyword).isEmpty then 0 else 1)<30))=true:=by rfl)
  (xi:(iT.endLine==fV.line)=true:=by rfl) (hs:starEach (e::es) X.env=(false,eval e X.env)::starEach es X.env:=by rfl) (apS:(backTo fV õ).any (·.1)=false:=by rfl):
  PE X (.Call (.Attribute o name iT) (e::es) [] fV) (Qo X.K T r to t):=by
 show Ö;refine wpAny_Call_method_late t9 yP xi rfl (aK (ho pins s σ H _ I h) λv s1 ⟨x,H1,I1,r1,ty,q1⟩=>?_);obtain⟨h1,h2⟩:=Qn I1 r1 ty;refine⟨T,id,pa,slot,r9,h1,h2,?_⟩;have hA:=ha fV pins s1 σ H1 _ I1 q1;rw[hs] at hA⊢;refine G2 (by assumption) (OO ?_);exact aK hA λus s2 ⟨vs,H2,I2,r2,q2⟩=>hm pins s2 σ H2 x vs v us Q I2 r1 r2 q2
end
def Ii(X:Cx)(id:String)(r:V->au->Hp->VK->Prop):Prop:=
 ∀(pins:bG)(s:Sh)(σ:St)(H:Hp)(x:V)(xs:au)(v:Value)(us:LV)(Q:VK),Ã H s->RelV x v->bc xs us->r x xs H Q->
  wpAny È X.A (call ϊ (v::us)) (ò Q) X.xe s
theorem bc.one:∀{x:V}{us:LV},bc [x] us->∃u,us=[u]/\RelV x u:=by
 intro x us h;cases h with
 |cons r t=>cases t;exact⟨_,rfl,r⟩
def bc.zero:∀{us:LV},bc [] us->us=[]:=by
 intro us h;cases h;rfl
theorem bc.dropLast(h:bc xs us):bc xs.dropLast us.dropLast:=by
 induction h with
 |nil=>exact .nil
 |cons r t ih=>
  cases t with
  |nil=>exact .nil
  |cons q t'=>exact .cons r ih
def aaE(l:List α):l.eraseIdx (l.length-1)=l.dropLast:=by
 simp
section
variable{X:Cx}{pins:bG}{σ:St}{H:Hp}{s:Sh}{l b:Addr}{xs ys zs:au}
def Inv.Ij{aj its':LV}{n:Nat}{f:Array Value->Array Value}{t':Nat}(I:Ã H s)(hH:H l=some ϱ)(e:s.heap.get? l=some {cls:=.type "list",data:=.seq aj.toArray n}) (hf:f aj.toArray=its'.toArray) (hv:bc ys its') (hz:ys.length<=sizeLine):
  Inv X pins σ (ϙ Âf) {s with heap:=s.heap.update l (Obj.mapSeq f),toks:=t'}:=by
 have q:=PySem.IsL.update e f;rw[hf] at q;refine I.write (x:=l) (e:=l) (by rw[hH];exact trivial) Ĉ (λb' u hb hu=>(Ao s.heap (Obj.mapSeq f) (dX hb)).trans hu) ⟨_,q⟩ ?_;exact⟨hz,its',_,hv,q⟩
def Inv.aaF{aj:LV}{t':Nat}(I:Ã H s)(hv:bc ys aj)(hz:ys.length<=sizeLine):
  Inv X pins σ (ğ Âf) {s with heap:=s.heap.push {cls:=.type "list",data:=.seq aj.toArray},toks:=t'}:=
 I.laid (λ_ _ q=>dh _ q) (bJ _) ⟨hz,aj,0,hv,ib _ rfl⟩
def Inv.fresh(I:Ã H s):H s.heap.objs.size=none:=I.ax.fresh (bJ _)
def Inv.yQ(I:Ã H s)(hH:H l=some ϱ):xs.length<=sizeLine/\∃(aj:LV)(n:Nat),bc xs aj/\xs.length=aj.length/\s.heap.get? l=some {cls:=.type "list",data:=.seq aj.toArray n}:=by
 obtain⟨z,aj,n,r,e⟩:=I.ax l _ hH;exact⟨z,aj,n,r,r.length,e⟩
def aaG{n:Nat}(h:n<=sizeLine):Builtin.List.listTooLong n=false:=by
 unfold Builtin.List.listTooLong;simp_all
end
section
inductive aaH(x:V)(vs:au)(H:Hp)(Q:VK):Prop
 |mk (l xs y:_) (_:x=.ref l) (_:vs=[y]) (_:H l=some ϱ) (_:xs.length<sizeLine) (_:Q .aJ (ϙ (.lst (xs++[y]))))
def yR:Ii X "list.append" aaH:=by
 intro pins s σ H x vs v us Q I rx rv h;obtain⟨l,xs,y,rfl,rfl,hH,hz,q⟩:=h;cases rx;obtain⟨u,rfl,ru⟩:=rv.one;obtain⟨z,aj,n,r,hl,e⟩:=I.yQ hH;refine G3 F.slot_list_append ⟨_,e,rfl⟩ F.entry_list_append (F.args_list_append_2 _ _) (PySem.list_append l aj.toArray n u É) ⟨e,?_⟩;refine⟨.aJ,_,I.Ij (its':=aj++[u]) hH e Ä (r.append (.cons ru .nil)) ?_,rfl,q⟩;grind
inductive aaI(x:V)(vs:au)(H:Hp)(Q:VK):Prop
 |mk (l b xs zs:_) (_:x=.ref l) (_:vs=[.ref b]) (_:H l=some ϱ) (_:H b=some (.lst zs)) (_:xs.length+zs.length<=sizeLine) (_:Q .aJ (ϙ (.lst (xs++zs))))
def Qq:Ii X "list.extend" aaI:=by
 intro pins s σ H x vs v us Q I rx rv h;obtain⟨l,b,xs,zs,rfl,rfl,hH,hB,hz,q⟩:=h;cases rx;obtain⟨u,rfl,ru⟩:=rv.one;cases ru;obtain⟨z,aj,n,r,hl,e⟩:=I.yQ hH;obtain⟨z2,nk,n2,r2,ji,e2⟩:=I.yQ hB;have hsz:aj.toArray.size+nk.toArray.size<=sizeLine:=by rw[tX,tX];omega
 have aaJ:¬(!aj.toArray.isEmpty&&Builtin.List.listTooLong (aj.toArray.size+nk.toArray.size))=true:=by
  rw[aaG hsz,yr];simp
 refine G3 F.slot_list_extend ⟨_,e,rfl⟩ F.entry_list_extend (F.args_list_extend_2 _ _)
  (AutoSeq1.list_extend_list_list_0 l aj.toArray n b nk.toArray n2 aaJ (by rw[tX];omega) Æ) ⟨e,e2,?_⟩
 refine⟨.aJ,_,I.Ij (its':=aj++nk) hH e Ä (r.append r2) ?_,rfl,q⟩;simp_all
inductive aaK(x:V)(vs:au)(H:Hp)(Q:VK):Prop
 |mk (l xs y:_) (_:x=.ref l) (_:vs=[]) (_:H l=some ϱ) (_:xs[xs.length-1]? =some y) (_:Q y (ϙ (.lst xs.dropLast)))
def Qr:Ii X "list.pop" aaK:=by
 intro pins s σ H x vs v us Q I rx rv h;obtain⟨l,xs,y,rfl,rfl,hH,hy,q⟩:=h;cases rx;have hus:=rv.zero;subst hus;obtain⟨z,aj,n,r,hl,e⟩:=I.yQ hH;obtain⟨u,hu,ru⟩:=r.get hy;have A0:aj.toArray[aj.toArray.size-1]? =some u:=by
  show aj.toArray[aj.length-1]? =some u;rw[<-X6,<-hl];exact hu
 refine G3 F.slot_list_pop ⟨_,e,rfl⟩ F.entry_list_pop (F.args_list_pop_1 _) (MeetsSeq.list_pop_last l aj.toArray n u A0 (by rw[tX];omega)) ⟨e,?_⟩;refine⟨y,_,I.Ij (its':=aj.dropLast) hH e ?_ r.dropLast ?_,ru,q⟩
 ·show aj.toArray.eraseIdxIfInBounds (aj.toArray.size-1)=aj.dropLast.toArray;rw[tX,List.eraseIdxIfInBounds_toArray,aaE]
 ·rw[X7];omega
inductive Qs(x:V)(y:V)(H:Hp)(Q:VK):Prop
 |mk (l b xs zs:_) (_:x=.ref l) (_:y=.ref b) (_:H l=some ϱ) (_:H b=some (.lst zs)) (_:xs.length+zs.length<=sizeLine) (_:∀p,H p=none->Q ĥ (upd H p (.lst (xs++zs))))
def Qt:eS X (binaryOp .Add) Qs:=by
 show ð;obtain⟨l,b,xs,zs,rfl,rfl,hH,hB,hz,q⟩:=h;cases rx;cases ry;obtain⟨z,aj,n,r,hl,e⟩:=I.yQ hH;obtain⟨z2,nk,n2,r2,ji,e2⟩:=I.yQ hB;refine PySem.P.add_list e e2 ?_ É;have ea:aj.toArray++nk.toArray=(aj++nk).toArray:=by simp
 rw[ea];exact⟨.ref _,_,I.aaF (t':=s.toks) (r.append r2) É,rfl,q _ I.fresh⟩
end
theorem bc.ints{ns:LI}:∀{us:LV},bc š us->IntsAre us ns:=by
 induction ns with
 |nil=>
  intro us h;rw[lQ] at h;cases h;exact IntsAre.nil
 |cons n ns ih=>
  intro us h;rw[a0] at h;cases h with
  |cons r t=>
   obtain⟨k,rfl⟩:=r;exact IntsAre.cons n k (ih t)
theorem bc.Qu{bs:List Bool}:∀{us:LV},bc (bs.map V.bl) us->us=bs.map Value.bool:=by
 induction bs with
 |nil=>
  intro us h;rw[lQ] at h;cases h;rfl
 |cons b bs ih=>
  intro us h;rw[a0] at h;cases h with
  |cons r t=>
   cases r;rw[ih t,a0]
theorem bc.DO{a:Addr}{us:LV}(r:bc [V.ref a] us):us=[Value.ref a]:=by
 cases r with
 |cons r t=>
  cases t;cases r;rfl
section
def aaM(hh:A.handled=none)(hl:s.heap.IsList l aj.toArray)(hi:IntsAre aj ns)(h:∀h' tk t',(∀b o,s.heap.get? b=some o->h'.get? b=some o)->Q (.int ns.sum t') {s with heap:=h',toks:=tk}):wpAny Ó A (call (.builtin "sum") [.ref l]) Q E s:=by
 obtain⟨xs,e⟩:=hi.allInts.items;have hn:numsOf (intItems xs).toList=ns:=by rw[<-e];exact hi.numsOf
 rw[nums_intItems] at hn;rw[e] at hl;refine PySem.sum_intListG hh hl λh' tk t' hk=>?_;have:=h h' tk t' hk;rw[preSum_eq,G4 Ä,hn];exact this
def aaN(hh:A.handled=none)(hl:s.heap.IsList l aj.toArray)(hi:IntsAre aj ns)(aQ:0<ns.length)(h:∀h' tk M t',(∀b o,s.heap.get? b=some o->h'.get? b=some o)->M∈ns->(∀a,a∈ns->M<=a)->Q (.int M t') {s with heap:=h',toks:=tk}):wpAny Ó A (call (.builtin "min") [.ref l]) Q E s:=by
 obtain⟨xs,e⟩:=hi.allInts.items;have hn:numsOf (intItems xs).toList=ns:=by rw[<-e];exact hi.numsOf
 rw[nums_intItems] at hn;subst hn;rw[e] at hl;have hsz:0<xs.size:=À aQ
 refine PySem.min_intList hh hl hsz λv h' tk hv hk=>?_;obtain⟨t,rfl⟩:=intItems_at hv;obtain⟨h1,h2⟩:=argBest_lt (numAt xs) (xs.size-1);refine h h' tk _ t hk ?_ λa ha=>?_
 ·rw[numAt_eq];exact PySem.getD_mem (by rw[aA,wI];omega)
 ·obtain⟨j,hj,rfl⟩:=mem_getD ha;rw[aA,wI] at hj;rw[<-numAt_eq];exact h2 j Æ
end
section
inductive aaO(K:FR)(vs:au)(H:Hp)(Q:VK):Prop
 |mk (a:Addr) (ns:LI) (_:vs=[V.ref a]) (_:â a š) (_:Q (.int ns.sum) H)
def aaP(K:FR):au->Hp->VK->Prop:=λvs H Q=>∃(a:Addr)(ns:LI),vs=[V.ref a]/\â a š/\0<ns.length/\∀m,m∈ns->(∀y,y∈ns->m<=y)->Q (.int m) H
def Qv(hc:X.calm=true):lD X (.builtin "sum") (aaO X.K):=by
 intro pins s σ H vs us Q I r h;obtain⟨a,ns,rfl,hs,q⟩:=h;obtain⟨aj,rv,hl,_⟩:=I.list hs;rw[bc.DO r];exact aaM ć hl.isList rv.ints λh' tk t' hk=>⟨.int _,H,I.kept hk,⟨_,rfl⟩,q⟩
def Qw(hc:X.calm=true):lD X (.builtin "min") (aaP X.K):=by
 intro pins s σ H vs us Q I r h;obtain⟨a,ns,rfl,hs,aQ,q⟩:=h;obtain⟨aj,rv,hl,_⟩:=I.list hs;rw[bc.DO r];exact aaN ć hl.isList rv.ints aQ λh' tk m t' hk h1 h2=>⟨.int _,H,I.kept hk,⟨_,rfl⟩,q m h1 h2⟩
end
section
inductive Qx(K:FR)(x:V)(xs:au)(H:Hp)(Q:VK):Prop
 |mk (a:Addr) (ys:au) (y:V) (j:Nat) (z:V) (_:x=V.ref a) (_:xs=[y]) (_:â a ys) (_:lG y=true) (_:ys.all lG=true) (_:ys[j]? =some z) (_:pJ z y=true) (_:(∀(m:Nat)(z':V),m<j->ys[m]? =some z'->pJ z' y=false)) (_:Q (.int (j:Nat)) H)
def Qy{ys:au}(f:ys.all lG=true){j:Nat}{z:V}(h:ys[j]? =some z):lG z=true:=lx.mp f z (bZ h)
def Qz:Ie X "list.index" (Qx X.K):=by
 intro pins s σ H x xs v us Q I rx rxs h;obtain⟨a,ys,y,j,z,rfl,rfl,hs,fy,Ik,hz,hzj,A1,q⟩:=h;cases rx;cases rxs with
 |cons ry rt=>
  rename_i uy ut;cases rt;obtain⟨aj,rv,⟨⟨cls,dd,data,sl⟩,n,ho,hc,hdn,hd⟩,cK⟩:=I.list hs;simp only at hc hd;subst hc hd;obtain⟨u,hu,ru⟩:=rv.get hz;obtain⟨vy,hje⟩:=bO.mp hu;have Il:=rv.length;have hj:j<aj.toArray.size:=À vy
  have A2:=u9;refine G3 PySem.F.slot_list_index ⟨_,ho,rfl⟩ PySem.F.entry_list_index (PySem.F.args_list_index_2 _ _)
   (SeqAt.list_indexAt a aj.toArray n dd sl uy (lH y) j hj Æ ?_ ?_) ⟨ho,λu' hu'=>AZ ry fy rv Ik u' (À hu'),?_⟩
  ·have e1:aj.toArray[j]=u:=by simpa using hje
   rw[e1,DL ru (Qy Ik hz)];exact hzj
  ·intro m hm hmj;have A3:m<aj.length:=by simpa using hm
   have hmy:m<ys.length:=by omega
   have A0:ys[m]? =some ys[m]:=dm hmy;obtain⟨u2,Im,Io⟩:=rv.get A0;obtain⟨_,hme⟩:=bO.mp Im;have e1:aj.toArray[m]=u2:=À hme
   rw[e1,DL Io (Qy Ik A0)];exact A1 m _ hmj A0
  ·exact⟨.int (j:Nat),H,I.tok _,⟨_,rfl⟩,q⟩
end
def QA{prog:Pg}{w:Wd}{A:Around}{E:VP}{s:Sh}{l:Addr}{items:Array Value}{Q:VP}(hl:s.heap.IsList l items)(h:∀s₂:Sh,s₂={s with heap:=s.heap.push {cls:=.type "list_iterator",data:=.fields #[.ref l,.int 0 0]}}->
   (s₂.heap.IsListIter s.heap.objs.size l 0/\s₂.heap.IsList l items)->l≠s.heap.objs.size->Q ķ s₂):wpAny Ó A (pyIter Äw) Q E s:=by
 have bQ:l<s.heap.objs.size:=by obtain⟨_,e,_⟩:=hl;exact cZ e
 exact XY hl (h _ rfl ⟨⟨_,ib _ rfl,rfl,rfl⟩,hl.push _⟩ (fj bQ))
def QB{prog:Pg}{w:Wd}{A:Around}{bs:List Bool}{aj:LV}(e:aj=bs.map Value.bool):
  TruthOf prog w A (λi v=>aj.toArray[i]? =some v) Âk:=λi v s Q E hv hq=>by
 have yJ:aj[i]? =some v:=À hv
 rw[e,bW] at yJ;obtain⟨b,hb,rfl⟩:=yq.mp yJ;have hg:bs.getD i false=b:=by rw[iV,hb] <;> rfl
 have lE:Q (bs.getD i false) s:=hq;rw[hg] at lE;exact tV lE
theorem any_range:∀bs:List Bool,(List.range bs.length).any Âk=bs.any id:=by
 intro bs;induction bs with
 |nil=>exact rfl
 |cons b bs ih=>
  rw[c7,De,tY,OP,tY,<-ih]
  all_goals rfl
theorem all_range:∀bs:List Bool,(List.range bs.length).all Âk=bs.all id:=by
 intro bs;induction bs with
 |nil=>exact rfl
 |cons b bs ih=>
  rw[c7,De,rK,rL,rK,<-ih]
  all_goals rfl
section
inductive aaX(K:FR)(vs:au)(H:Hp)(Q:VK):Prop
 |mk (a:Addr) (bs:List Bool) (_:vs=[V.ref a]) (_:â a (bs.map V.bl)) (_:Q (.bl (bs.any id)) H)
inductive aaY(K:FR)(vs:au)(H:Hp)(Q:VK):Prop
 |mk (a:Addr) (bs:List Bool) (_:vs=[V.ref a]) (_:â a (bs.map V.bl)) (_:Q (.bl (bs.all id)) H)
def QC(hc:X.calm=true):lD X (.builtin "any") (aaX X.K):=by
 intro pins s σ H vs us Q I r h;obtain⟨a,bs,rfl,hs,q⟩:=h;obtain⟨aj,rv,hl,_⟩:=I.list hs;rw[bc.DO r];have hb:=rv.Qu;refine call_any_walk (QA hl.isList λs₂ e2 st aQ=>?_);subst e2;refine⟨_,_,_,_,_,_,_,rfl,Walks.list (A:=X.A.in1) ć _ a aQ aj.toArray,st,QB hb,λh' tk hk=>?_⟩;refine⟨.bl _,H,I.kept λb o eo=>hk b o (λjj=>?_) (dh _ eo),?_,q⟩
 ·rcases ba.mp jj with e1|jj
  ·exact absurd (e1▸ cZ eo) (qw _)
  ·simp_all
 ·show Value.bool _=Value.bool _;rw[<-any_range,hb,tX,aA]
def vz(hc:X.calm=true):lD X (.builtin "all") (aaY X.K):=by
 intro pins s σ H vs us Q I r h;obtain⟨a,bs,rfl,hs,q⟩:=h;obtain⟨aj,rv,hl,_⟩:=I.list hs;rw[bc.DO r];have hb:=rv.Qu;refine call_all_walk (QA hl.isList λs₂ e2 st aQ=>?_);subst e2;refine⟨_,_,_,_,_,_,_,rfl,Walks.list (A:=X.A.in1) ć _ a aQ aj.toArray,st,QB hb,λh' tk hk=>?_⟩;refine⟨.bl _,H,I.kept λb o eo=>hk b o (λjj=>?_) (dh _ eo),?_,q⟩
 ·rcases ba.mp jj with e1|jj
  ·exact absurd (e1▸ cZ eo) (qw _)
  ·simp_all
 ·show Value.bool _=Value.bool _;rw[<-all_range,hb,tX,aA]
end
mutual
inductive Dp(K:FR)(H:Hp):V->PyData->Prop
 |aJ:Dp K H .aJ .none
 |bl (b:Bool):Dp K H (.bl b) (.bool b)
 |int (i:Int):Dp K H Âx Âx
 |str (x:Str):Dp K H Çc Çc
 |lst {a:Addr} {xs:au} {ds:List PyData}:â a xs->i3 K H xs ds->Dp K H Ğ (.list ds)
 |tup {a:Addr} {xs:au} {ds:List PyData}:Ť a xs->i3 K H xs ds->Dp K H Ğ (.tuple ds)
inductive i3(K:FR)(H:Hp):au->List PyData->Prop
 |nil:i3 K H [] []
 |cons {v:V} {vs:au} {d:PyData} {ds:List PyData}:Dp K H v d->i3 K H vs ds->i3 K H (v::vs) (d::ds)
end
section
variable{X:Cx}{pins:bG}{σ:St}{H:Hp}{s:Sh}
def Dp.reads(I:Ã H s)(d:PyData)(v:V)(u:Value)(h:Dp X.K H v d):RelV v u->∃as,Reads s.heap u d as:=
 Dp.rec (motive_1:=λv d _=>∀u,RelV v u->∃as,Reads s.heap u d as) (motive_2:=λvs ds _=>∀us,bc vs us->∃as,ReadsAll s.heap us ds as)
  (λu r=>by cases r;exact⟨_,Reads.none⟩) (λb u r=>by cases r;exact⟨_,Reads.bool b⟩) (λi u r=>by obtain⟨t,rfl⟩:=r;exact⟨_,Reads.int i t⟩) (λx u r=>by obtain⟨t,rfl⟩:=r;exact⟨_,Reads.str x t⟩)
  (λhs _ ih u r=>by
   cases r;obtain⟨aj,rv,⟨o,n,ho,hc,_,hd⟩,_⟩:=I.list hs;obtain⟨as,hr⟩:=ih aj rv;exact⟨_,Reads.list ho hc hd hr⟩)
  (λhs _ ih u r=>by
   cases r;obtain⟨aj,rv,⟨o,ho,hc,n,hd⟩,_⟩:=I.tuple hs;obtain⟨as,hr⟩:=ih aj rv;exact⟨_,Reads.tuple ho hc hd hr⟩)
  (λus r=>by cases r;exact⟨_,ReadsAll.nil⟩)
  (λ_ _ i1 i2 us r=>by
   cases r with
   |cons r1 r2=>
    obtain⟨as,q1⟩:=i1 _ r1;obtain⟨bs,q2⟩:=i2 _ r2;exact⟨_,ReadsAll.cons q1 q2⟩) h u
end
section
def aaZ(K:FR):R2:=λx y H Q=>∃d e,Dp K H x d/\Dp K H y e/\SeqAt.shaped d=true/\SeqAt.shaped e=true/\Q (.bl (PyData.eqv d e)) H
def aa0(K:FR):R2:=λx y H Q=>∃d e,Dp K H x d/\Dp K H y e/\SeqAt.shaped d=true/\SeqAt.shaped e=true/\Q (.bl (!PyData.eqv d e)) H
def QD(hu:X.A.units+64<cLine):eS X Áh (aaZ X.K):=by
 show ð;obtain⟨d,e,hd,he,sd,se,q⟩:=h;obtain⟨as,r1⟩:=Dp.reads I d x v hd rx;obtain⟨bs,r2⟩:=Dp.reads I e y u he ry;exact SeqAt.compareEq_shaped r1 r2 sd se hu ⟨.bl _,H,I,rfl,q⟩
def Ip(hu:X.A.units+64<cLine):eS X Áp (aa0 X.K):=by
 show ð;obtain⟨d,e,hd,he,sd,se,q⟩:=h;obtain⟨as,r1⟩:=Dp.reads I d x v hd rx;obtain⟨bs,r2⟩:=Dp.reads I e y u he ry;exact SeqAt.compareNe_shaped r1 r2 sd se hu ⟨.bl _,H,I,rfl,q⟩
end
end L2
namespace L2
open PySem PySem.Spec PyProof.Rows
abbrev QE(h:Heap)(c:Addr)(v:Option Value):Prop:=h.IsCell c v
def aa1(scope sc:Scope):Scope:=
 {scope with names:=scope.names.map λ(n,k)=>if (k== .free&&sc.kind== .function&&sc.names.lookup n==some .cell) then (n,.cell) else (n,k)}
def i4(cells:eV):List (Str×NameKind)->eV->eV
 |[],acc=>acc
 |(n,k)::r,acc=>if k== .free then i4 cells r ((n,(cells.lookup n).getD 0)::acc) else i4 cells r acc
def aa2(env:Env)(f:Str×NameKind->eV->Sem (ForInStep eV))(hf:∀n k c,f (n,k) c=if k== .free then (do let a <-cellOf env n;pure (.yield ((n,a)::c))) else pure (.yield c)):
  ∀(names:List (Str×NameKind))(acc:eV),(∀y∈names,y.2=.free->∃c,env.cells.lookup y.1=some c)->forIn names acc f=pure (i4 env.cells names acc):=by
 intro names;induction names with
 |nil=>
  intro acc _;rw[List.forIn_nil];rfl
 |cons hd0 r ih=>
  obtain⟨n,k⟩:=hd0;intro acc h;rw[List.forIn_cons,hf];have ih:=λacc=>ih acc λy hy=>h y (aO _ hy);unfold i4;by_cases hk:(k==NameKind.free)=true
  ·rw[af hk,af hk];obtain⟨c,hc⟩:=h (n,k) gy (À hk);have e:cellOf env n=pure c:=by unfold cellOf;rw[hc]
   rw[e];have e2:(env.cells.lookup n).getD 0=c:=by rw[hc];rfl
   rw[e2];exact ih _
  ·rw[ah hk,ah hk];exact ih _
def aa3(h:∀y∈scope.names,y.2=.free->∃c,env.cells.lookup y.1=some c):closureFor scope env=pure (i4 env.cells scope.names []):=by
 simp only[closureFor];rw[aa2 env _ (λn k c=>rfl) scope.names [] h];rfl
theorem mem_lookup{α:Type}{l:List (Str×α)}:∀{n:Str}{c:α},(n,c)∈l->∃c',l.lookup n=some c':=by
 induction l with
 |nil=>intro n c h;cases h
 |cons p r ih=>
  intro n c h;obtain⟨k,v⟩:=p;rw[va];cases hb:n==k with
  |true=>exact⟨_,rfl⟩
  |false=>
   rcases ba.mp h with e|h
   ·cases e;simp at hb
   ·exact ih h
theorem QF{cells:eV}{names:List (Str×NameKind)}:∀{acc:eV}{n:Str}{c:Addr},(n,c)∈i4 cells names acc->(n,c)∈acc\/((n,.free)∈names/\c=(cells.lookup n).getD 0):=by
 induction names with
 |nil=>exact @λ_ _ _ h=>.inl h
 |cons hd0 r ih=>
  obtain⟨m,k⟩:=hd0;intro acc n c h;unfold i4 at h;split at h
  ·rename_i hk;have hk:k=.free:=by simpa using hk
   rcases ih h with h|⟨h1,h2⟩
   ·rcases ba.mp h with e|h
    ·cases e;exact .inr ⟨hk▸ gy,rfl⟩
    ·exact .inl h
   ·exact .inr ⟨aO _ h1,h2⟩
  ·rcases ih h with h|⟨h1,h2⟩
   ·exact .inl h
   ·exact .inr ⟨aO _ h1,h2⟩
theorem aa4{cells:eV}{names:List (Str×NameKind)}:∀{acc:eV}{p:Str×Addr},p∈acc->p∈i4 cells names acc:=by
 induction names with
 |nil=>exact @λ_ _ h=>h
 |cons hd0 r ih=>
  obtain⟨m,k⟩:=hd0;intro acc p h;unfold i4;split
  ·exact ih (aO _ h)
  ·exact ih h
theorem aa5{cells:eV}{names:List (Str×NameKind)}:∀{acc:eV}{n:Str},(n,.free)∈names->(n,(cells.lookup n).getD 0)∈i4 cells names acc:=by
 induction names with
 |nil=>intro acc n h;cases h
 |cons p r ih=>
  intro acc n h;unfold i4;rcases ba.mp h with e|h
  ·cases e;exact aa4 gy
  ·split
   ·exact ih h
   ·exact ih h
def Iq{names:List (Str×NameKind)}:∀{h:Heap}{acc:eV}{x:Str}{c:Addr},(x,c)∈cellsFrom h.objs.size names acc->
  (x,c)∈acc\/((x,.cell)∈names/\h.objs.size<=c/\QE (pushCells h names) c none):=by
 induction names with
 |nil=>exact @λ_ _ _ _ h=>.inl h
 |cons hd0 r ih=>
  obtain⟨n,k⟩:=hd0;intro h acc x c hm;unfold cellsFrom at hm;unfold pushCells;split at hm
  ·rename_i hk;rw[af hk];have hk:k=.cell:=by simpa using hk
   rw[<-qv h {cls:=.type "cell",data:=.cell none}] at hm;rcases ih hm with hm|⟨h1,h2,h3⟩
   ·rcases ba.mp hm with e|hm
    ·cases e;exact .inr ⟨hk▸ gy,bJ _,_,OQ r _ _ _ (ib _ rfl),rfl⟩
    ·exact .inl hm
   ·rw[qv] at h2;exact .inr ⟨aO _ h1,OR h2,h3⟩
  ·rename_i hk;rw[ah hk];rcases ih hm with hm|⟨h1,h2,h3⟩
   ·exact .inl hm
   ·exact .inr ⟨aO _ h1,h2,h3⟩
theorem QG{names:List (Str×NameKind)}:∀{n:Nat}{acc:eV}{p:Str×Addr},p∈acc->p∈cellsFrom n names acc:=by
 induction names with
 |nil=>exact @λ_ _ _ h=>h
 |cons hd0 r ih=>
  obtain⟨m,k⟩:=hd0;intro n acc p h;unfold cellsFrom;split
  ·exact ih (aO _ h)
  ·exact ih h
theorem aa6{names:List (Str×NameKind)}:∀{n:Nat}{acc:eV}{x:Str},(x,.cell)∈names->∃c,(x,c)∈cellsFrom n names acc:=by
 induction names with
 |nil=>intro n acc x h;cases h
 |cons p r ih=>
  intro n acc x h;unfold cellsFrom;rcases ba.mp h with e|h
  ·cases e;exact⟨n,QG gy⟩
  ·split
   ·exact ih h
   ·exact ih h
def aa7{names:List (Str×NameKind)}:∀{h:Heap}{acc:eV}{x y:Str}{c:Addr},(∀p∈acc,p.2<h.objs.size)->(∀x y c,(x,c)∈acc->(y,c)∈acc->x=y)->
  (x,c)∈cellsFrom h.objs.size names acc->(y,c)∈cellsFrom h.objs.size names acc->x=y:=by
 induction names with
 |nil=>exact @λ_ _ _ _ _ _ hi h1 h2=>hi _ _ _ h1 h2
 |cons hd0 r ih=>
  obtain⟨n,k⟩:=hd0;intro h acc x y c hl hi h1 h2;unfold cellsFrom at h1 h2;split at h1
  ·rename_i hk;rw[af hk] at h2;rw[<-qv h {cls:=.type "cell",data:=.cell none}] at h1 h2;refine ih (h:=h.push _) (λp hp=>?_) (λx y c a b=>?_) h1 h2
   ·rw[qv];rcases ba.mp hp with rfl|hp
    ·exact X0 _
    ·exact OS (hl p hp)
   ·rcases ba.mp a with e|a <;> rcases ba.mp b with e'|b
    ·cases e;cases e';rfl
    ·cases e;exact absurd (hl _ b) (qw _)
    ·cases e';exact absurd (hl _ a) (qw _)
    ·exact hi _ _ _ a b
  ·rename_i hk;rw[ah hk] at h2;exact ih hl hi h1 h2
def aa8{M:Model}{A:Around}{E:VP}{s:Sh}{scope:Scope}{globals:Addr}{OD:eV}{cO:Str}{Xz:OA}{code:Value}{XA:Env}{XD:Addr}{Q:Env->Shared->Prop}(h:Q (newEnv scope s.heap.objs.size globals (cellsFrom Î scope.names OD) cO Xz code (some XA) XD) {s with heap:=pushCells (s.heap.push {cls:=.type "dict",data:=.dict #[]}) scope.names}):
  wpAny M A (newFunctionEnv scope globals OD [] cO Xz code (some XA) XD) Q E s:=by
 simp only[newFunctionEnv,apf,ON];refine aP (wpAny_alloc ?_);refine aP (wpAny_layCells _ (λn k c=>rfl) scope.names OD _ _ ?_);rw[show({s with heap:=s.heap.push {cls:=.type "dict",data:=.dict #[]}}:Sh).heap.objs.size=s.heap.objs.size+1 from qv ..];rw[List.forIn_nil];exact aP (df (df h))
def QH{sc:Scope}{names:List (Str×NameKind)}:∀{x:Str}{k:NameKind},
  (names.map λ(n,k)=>if (k==NameKind.free&&sc.kind== .function&&sc.names.lookup n==some .cell) then (n,NameKind.cell) else (n,k)).lookup x=some k->
  ∃k',names.lookup x=some k'/\(k=k'\/(k'=.free/\k=.cell)):=by
 induction names with
 |nil=>
  intro _ _ h;simp at h
 |cons hd0 r ih=>
  obtain⟨n,k₀⟩:=hd0;intro x k h;have ih:=@ih x k;have h':List.lookup x ((if (k₀==NameKind.free&&sc.kind== .function&&sc.names.lookup n==some .cell)=true then (n,NameKind.cell) else (n,k₀))::(r.map _))=some k:=h;cases hx:x==n with
  |true=>
   simp only[va,hx];by_cases hc:(k₀==NameKind.free&&sc.kind== .function&&sc.names.lookup n==some .cell)=true
   ·rw[af hc] at h';simp only[va,hx] at h';cases h';simp only[jw,wJ] at hc;exact⟨k₀,rfl,.inr ⟨hc.1.1,rfl⟩⟩
   ·rw[ah hc] at h';simp only[va,hx] at h';cases h';exact⟨_,rfl,.inl rfl⟩
  |false=>
   simp only[va,hx];by_cases hc:(k₀==NameKind.free&&sc.kind== .function&&sc.names.lookup n==some .cell)=true
   ·rw[af hc] at h';simp only[va,hx] at h';exact ih h'
   ·rw[ah hc] at h';simp only[va,hx] at h';exact ih h'
structure xj(N:LS)(sc scope:Scope)(own:List (Str×Nat)):Prop where
 kind:scope.kind=.function
 uniq:∀y∈scope.names,scope.names.lookup y.1=some y.2
 ix:∀p∈own,N[p.2]? =some p.1
 free:∀y∈scope.names,y.2=.free->sc.names.lookup y.1=some .cell\/sc.names.lookup y.1=some .free
 own:∀y∈scope.names,y.2=.local\/y.2=.cell->y.1∈own.map (·.1)\/y.1∉N
def wipe(σ:St):LN->St
 |[]=>σ
 |v::vs=>(wipe σ vs).set v none
theorem QI(σ:St):∀vs:LN,(wipe σ vs).length=σ.length:=by
 intro vs;induction vs with
 |nil=>exact rfl
 |cons v vs ih=>
  unfold wipe;rw[List.length_set,ih]
theorem QJ{σ:St}{i:Nat}{x:V}{vs:LN}:ĸ[i]? =some (some x)->σ[i]? =some (some x)/\i∉vs:=by
 induction vs with
 |nil=>exact @λh=>⟨h,by simp⟩
 |cons v vs ih=>
  intro h;unfold wipe at h;by_cases hi:v=i
  ·subst hi;by_cases hv:v<(wipe σ vs).length
   ·rw[XS hv] at h;cases h
   ·rw[wM (À hv)] at h;cases h
  ·rw[XU hi] at h;obtain⟨h1,h2⟩:=ih h;exact⟨h1,by simp only[ba,not_or];exact⟨λe=>hi e.symm,h2⟩⟩
abbrev Cx.gj(X:Cx)(s:Sh)(H:Hp)(scope:Scope)(fe:Env)(fp:LA):Cx:={X with g8:=s,qB:=H,env:=fe,outer:=X.stack,ex:=fp,fn:=λx=>scope.names.lookup x==some .cell,pn:=[],xe:=λ_ _=>False}
section
variable{X:Cx}{pins:bG}{σ:St}{H:Hp}{s:Sh}
def aa9{scope:Scope}{own:List (Str×Nat)}{fp:LA}(I:Ã H s)(ok:Ĭ own)(hN:X.N.Nodup)(yS:∀b∈fp,Ŀ H b/\b<s.heap.objs.size):
  Inv (X.gj s H scope (compEnvC scope (cellsFrom Î scope.names (ŭ [])) s.heap.objs.size X.env) fp) [] (wipe σ (own.map (·.2))) H {s with heap:=pushCells (s.heap.push {cls:=.type "dict",data:=.dict #[]}) scope.names}:=by
 have Du:∀y∈scope.names,y.2=.free->∃c,X.env.cells.lookup y.1=some c:=λy hy e=>by
  rcases ok.free y hy e with k|k
  ·exact I.ok.has _ (.inl k)
  ·exact I.ok.has _ (.inr k)
 generalize hcenv:compEnvC scope (cellsFrom Î scope.names (ŭ [])) s.heap.objs.size X.env=fe;have kp:∀b o,s.heap.get? b=some o->(pushCells (s.heap.push {cls:=.type "dict",data:=.dict #[]}) scope.names).get? b=some o:=λb o e=>OQ _ _ _ _ (dh _ e);have hL:fe.locals=s.heap.objs.size:=by rw[<-hcenv];rfl
 have gH:fe.cells=cellsFrom Î scope.names (ŭ []):=by rw[<-hcenv];rfl
 have Ir:fe.scope=aa1 scope X.env.scope:=by rw[<-hcenv];rfl
 rw[<-qv s.heap {cls:=.type "dict",data:=.dict #[]}] at gH;have cm:∀{y c},(y,c)∈i4 X.env.cells scope.names []->X.env.cells.lookup y=some c/\c<s.heap.objs.size:=λ{y c}hm=>by
  rcases QF hm with hm|⟨h1,rfl⟩
  ·cases hm
  ·obtain⟨c,hc⟩:=Du _ h1 rfl;rw[hc];obtain⟨w,z⟩:=I.cell _ _ hc;exact⟨rfl,z.lt⟩
 have mem:∀{y c},fe.cells.lookup y=some c->(X.env.cells.lookup y=some c/\c<s.heap.objs.size)\/(s.heap.objs.size+1<=c/\QE (pushCells (s.heap.push {cls:=.type "dict",data:=.dict #[]}) scope.names) c none):=λ{y c}e=>by
  rw[gH] at e;rcases Iq ϯ with hm|⟨_,h2,h3⟩
  ·exact .inl (cm hm)
  ·rw[qv] at h2;exact .inr ⟨h2,h3⟩
 have look:∀{y},scope.names.lookup y=some .free->∃c,fe.cells.lookup y=some c/\X.env.cells.lookup y=some c:=λ{y}hl=>by
  have hy:(y,NameKind.free)∈scope.names:=PySem.mem_of_lookup hl;obtain⟨c',e'⟩:=mem_lookup (QG (names:=scope.names) (n:=(s.heap.push {cls:=.type "dict",data:=.dict #[]}).objs.size) (aa5 (cells:=X.env.cells) (acc:=[]) hy));rw[<-gH] at e';refine⟨c',e',?_⟩;rw[gH] at e';rcases Iq (PySem.mem_of_lookup e') with hm|⟨h1,_,_⟩
  ·exact(cm hm).1
  ·have:=ok.uniq _ h1;rw[hl] at this;cases this
 have okB:(X.gj s H scope fe fp).Ok:=by
  refine⟨I.ok.mod,by show fe.scope.kind=_;rw[Ir];exact ok.kind,by show fe.globals=_;rw[<-hcenv];exact I.ok.glob,by show fe.builtins=_;rw[<-hcenv];exact I.ok.blt,by show s.heap.objs.size<=fe.locals;rw[hL];exact bJ _,
   λy z c e1 e2=>?_,λy hy=>?_,λy c z e=>?_,I.ok.hd,I.ok.frames,.inl rfl,λb hb=>⟨?_,λy c e z=>?_⟩,I.bs,gQ I.ok.m7 I.sz,λb o e hb=>?_,λb hb z=>?_,I.stack,I.Dt⟩
  ·have e1:fe.cells.lookup y=some c:=e1;have e2:fe.cells.lookup z=some c:=e2;rw[gH] at e1 e2;refine aa7 (λp hp=>?_) (λy z c a b=>I.ok.inj y z c (cm a).1 (cm b).1) (PySem.mem_of_lookup e1) (PySem.mem_of_lookup e2);rw[qv];exact OS (cm (y:=p.1) (c:=p.2) hp).2
  ·show ∃c,fe.cells.lookup y=some c;have gO:∀k,fe.kindOf y=some k->(k=.cell\/k=.free)->∃c,fe.cells.lookup y=some c:=λk hk kT=>by
    unfold Env.kindOf at hk;rw[Ir] at hk;obtain⟨k',e,r⟩:=QH hk;have:k'=.cell\/k'=.free:=by
     rcases r with rfl|⟨rfl,_⟩
     ·exact kT
     ·exact .inr rfl
    rcases this with rfl|rfl
    ·obtain⟨c,hm⟩:=aa6 (n:=(s.heap.push {cls:=.type "dict",data:=.dict #[]}).objs.size) (acc:=ŭ []) ϯ;obtain⟨c',e'⟩:=mem_lookup hm;exact⟨c',by rw[gH];exact e'⟩
    ·obtain⟨c,h1,_⟩:=look e;exact⟨c,h1⟩
   rcases hy with hy|hy
   ·exact gO _ hy Ĉ
   ·exact gO _ hy Çf
  ·have z:(scope.names.lookup y==some NameKind.cell)=true:=z;have z:scope.names.lookup y=some .cell:=by simpa using z
   have e:fe.cells.lookup y=some c:=e;rw[gH] at e;rcases Iq ϯ with hm|⟨_,h2,_⟩
   ·rcases QF hm with hm|⟨h1,_⟩
    ·cases hm
    ·have q:=ok.uniq _ h1;rw[z] at q;cases q
   ·rw[qv] at h2;exact OR h2
  ·show b≠fe.locals;rw[hL];exact fj (yS b hb).2
  ·have e:fe.cells.lookup y=some c:=e;rcases mem e with ⟨h1,_⟩|⟨h1,_⟩
   ·exact(yS b hb).1.2.2.2.2.1 y c h1 z
   ·have h2:s.heap.objs.size+1<=b:=by rw[<-z];exact h1
    exact absurd (iq (yS b hb).2 (OR h2)) (qw _)
  ·rcases(yS b hb).1.2.2.2.1 with z|z
   ·exact I.ok.yA b o e z
   ·exact absurd (iq (cZ e) (gQ I.ok.m7 z)) (qw _)
  ·rcases ba.mp (I.AH b z) with z|z
   ·exact(yS b hb).1.2.1 z
   ·exact(yS b hb).1.2.2.1 z
 refine⟨okB,rfl,I.bare,Un.kept kp,⟨λ_=>none,?_,λi y av e1 e2 e3=>?_⟩,λy c e=>?_,?_,λy c e=>?_,λp hp=>?_,I.ax.kept kp,by rw[QI];exact I.len⟩
 ·show Heap.Ns _ fe.locals _;rw[hL];exact Heap.Ns.keeps (Heap.Ns.new ..) λb o e=>OQ _ _ _ _ e
 ·obtain⟨e2,aQ⟩:=QJ e2;have pK:scope.names.lookup y=some .free/\(fe.kindOf y=some .cell\/fe.kindOf y=some .free):=by
   have gO:∀k,fe.scope.names.lookup y=some k->k=.local\/k=.cell\/k=.free->scope.names.lookup y=some .free/\(fe.kindOf y=some .cell\/fe.kindOf y=some .free):=λk hk kT=>by
    have QK:=hk;rw[Ir] at hk;obtain⟨k',e,r⟩:=QH hk;have no:¬(k'=.local\/k'=.cell):=λhh=>by
     rcases ok.own _ ϯ hh with e'|e'
     ·obtain⟨p,hp,hpy⟩:=cf.mp e';have e3:=ok.ix p hp;have:p.1=y:=hpy;rw[this] at e3;exact aQ (cf.mpr ⟨p,hp,HC hN e3 e1⟩)
     ·exact e' (bZ e1)
    rcases r with rfl|⟨rfl,rfl⟩
    ·rcases kT with rfl|rfl|rfl
     ·exact absurd Ĉ no
     ·exact absurd Çf no
     ·exact⟨e,.inr QK⟩
    ·exact⟨e,.inl QK⟩
   have e3:wU fe.scope y:=e3;rcases e3 with e3|e3|e3
   ·exact gO _ e3 Ĉ
   ·exact gO _ e3 (.inr Ĉ)
   ·exact gO _ e3 (.inr Çf)
  obtain⟨m,hn,hl⟩:=I.loc;have abc:wU X.env.scope y:=(ok.free _ (PySem.mem_of_lookup pK.1) rfl).elim (λk=>.inr (.inl k)) (λk=>.inr (.inr k));obtain⟨w,r,q⟩:=hl i y av e1 e2 abc;refine⟨w,r,.inr ⟨pK.2,?_⟩⟩;obtain⟨c,h1,h2⟩:=look pK.1;rcases q with ⟨k,_⟩|⟨_,c',e',z⟩
  ·have k:X.env.scope.names.lookup y=some .local:=k;rcases ok.free _ (PySem.mem_of_lookup pK.1) rfl with k'|k' <;> rw[show X.env.scope.names.lookup y=_ from k'] at k <;> cases k
  ·rw[h2] at e';cases e';exact⟨c,h1,z.keeps kp⟩
 ·have e:fe.cells.lookup y=some c:=e;rcases mem e with ⟨h1,_⟩|⟨_,z⟩
  ·obtain⟨w,z⟩:=I.cell y c h1;exact⟨w,z.keeps kp⟩
  ·exact⟨_,z⟩
 ·show H fe.locals=none;rw[hL];exact I.ax.fresh (bJ _)
 ·have e:fe.cells.lookup y=some c:=e;rcases mem e with ⟨h1,_⟩|⟨h1,_⟩
  ·exact I.kH y c h1
  ·exact I.ax.fresh (OR h1)
 ·exact absurd (show p∈([]:bG)++[] from hp) Ä
def abd(I:Ã H s)(hD:H D=some ϱ)(hz:xs.length<sizeLine)(r:RelV y v)(h:∀s',Ã (upd H D (.lst (xs++[y]))) s'->Q .none s'):wpAny È X.A (call (.builtin "list.append") [.ref D,v]) Q E s:=by
 obtain⟨Dr,aj,n,ri,e⟩:=I.ax D _ hD;have hl:=ri.length;refine append_at (hsz:=by simp_all) e λh' sb pE=>?_;refine h {s with heap:=h'} (I.write (t':=s.toks) (by rw[hD];trivial) Ĉ (λb u hb q=>(sb.2 b hb).trans q) ⟨_,pE⟩ ⟨by grind,aj++[v],n+1,ri.append (.cons r .nil),?_⟩);simp_all
def xk(X:Cx)(ju:List Expr)(t:TT):Prop:=
 ∀(pins:bG)(s:Sh)(σ:St)(H:Hp)(Q:Bool->Hp->Prop),Ã H s->t σ H Q->
  wpAny È X.A (forIn ju true λc r=>if r=true then do let ok <-isTrue c X.env (eval c X.env);pure (ForInStep.yield ok) else pure (ForInStep.yield r)) Âu X.xe s
def A4:TT:=λ_ H Q=>Q true H
def eN:xk X [] A4:=λ_ _ _ H _ I h=>wpAny_tests_nil ⟨H,I,h⟩
def pL(h:PT X c t):xk X [c] t:=λpins s σ H Q I hw=>wpAny_tests_one Âp
end
def A5(h:Ž t Q Ãx s)(hQ:∀a s,Q a s->Q' a s):Ž t Q' E s:=iU h hQ λ_ _ z=>False.elim z
def abe(I:Nat->Shared->Prop)(turn:∀n s,I n s->wpAny Ó A (pyNext it) (λr s₁=>match r with
   |none=>R (.ok .next) s₁
   |some v=>wpAny Ó A (letOwnedTupleGo CZ it v) (λ_ s₁'=>wpAny Ó A (assign CZ env v) (λ_ s₂=>
     wpAny Ó A (forIn ju true λc r=>if r=true then do let ok <-isTrue c env (eval c env);pure (ForInStep.yield ok) else pure (ForInStep.yield r)) (λok s₃=>
      if ok=true then wpAny Ó A (eval j6 env) (λx s₄=>
       wpAny Ó A (call (.builtin "list.append") [acc,x]) (λ_ s₅=>∃m,m<n/\I m s₅) (notedBy Ó A env λe s'=>R Àr s') s₄) (notedBy Ó A env λe s'=>R Àr s') s₃
      else ∃m,m<n/\I m s₃) (notedBy Ó A env λe s'=>R Àr s') s₂) (notedBy Ó A env λe s'=>R Àr s') s₁') (notedBy Ó A env λe s'=>R Àr s') s₁) (notedBy Ó A env λe s'=>R Àr s') s)
  (n:Nat) (h:I n s):
  codeAny Ó A (.compLoop (.ListComp j6 [⟨CZ,iter,ju,0⟩] scope pos) 0 it acc env) R s:=by
 refine codeAny_loop rfl I (λn s hI=>?_) n h;show wpAny _ A ((compTurn (.ListComp j6 [⟨CZ,iter,ju,0⟩] scope pos) 0 it acc env).onRaise (λx=>do noteFrame x env;theTreesLotGoes x)) _ _ s;refine wpAny_noted ?_;rw[compTurn_list];refine aP (OT (aP (iU (turn n s hI) (λr s₁ h₁=>?_) λ_ _ h'=>h')));cases r with
 |none=>exact df h₁
 |some v=>
  refine aP (iU h₁ (λ_ s₁' h₁'=>?_) λ_ _ h'=>h');refine aP (iU h₁' (λ_ s₂ h₂=>aP (iU h₂ (λok s₃ h₃=>?_) λ_ _ h'=>h')) λ_ _ h'=>h');cases ok with
  |false=>exact df ⟨rfl,h₃⟩
  |true=>
   exact aP (aP (iU h₃ (λx s₄ h₄=>aP (iU h₄ (λ_ s₅ h₅=>df (df ⟨rfl,h₅⟩)) λ_ _ h'=>h')) λ_ _ h'=>h'))
section
inductive jN(D:Addr)(N:Hp->Prop)(y:V)(H:Hp):Prop
 |mk (acc:au) (_:H D=some (.lst acc)) (_:acc.length<sizeLine) (_:N (upd H D (.lst (acc++[y]))))
def A6(wi:TI)(g:TG)(tt:TT)(te:TE)(vs:LN):TE:=λσ H Q=>wi σ H λJ H1=>∀D,H1 D=none->∃W:Nat->Nat->Hp->Prop,(∃m,W 0 m ċ)/\∀i m H,W i m H->
 (J.stop i H/\Q Ái H)\/(J.go i H/\∃Nx:Hp->Prop,(∀H',Nx H'->∃m',m'<m/\W (i+1) m' H')/\∀x H',J.m8 i H x H'->g x ĸ H' λσ2 H2=>wipe σ2 vs=wipe σ vs/\tt σ2 H2 λb H3=>
  if b=true then te σ2 H3 Åt else Nx H3)
def QL{Ex:VP}{Eb:Cx->VP}(hc:X.calm=true) (hN:X.N.Nodup) (I:Ã H s) (hi:PI (X.iD Ex) tg iter wi) (ok:Ĭ own)(hg:∀(s:Sh)(H:Hp)(C:Addr)(cl:eV)(fp:LA),PG Ñ tg g) (ht:∀(s:Sh)(H:Hp)(C:Addr)(cl:eV)(fp:LA),xk Ñ ju tt)(he:∀(s:Sh)(H:Hp)(C:Addr)(cl:eV)(fp:LA),PE ((X.gj s H scope Às fp).iD (Eb Ñ)) j6 te) (hs:∀x,foldedSetIterable iter X.env x=pure x)(h:A6 wi g tt te (own.map (·.2)) σ H Q)(hRR:∀D C s' m H',Ã H' s'->Q Ái H'->s'.heap.Ns C m->Ŀ H' C->compPost È X.A Ex use Qf Ái C (.ok .next) s')(hX:∀s3 H3 cl fp D e s',Ã H3 s3->(∀b∈fp,Ŀ H3 b/\b<s3.heap.objs.size)->Eb (X.gj s3 H3 scope ģ fp) e s'->notedBy È X.A ģ (λe=>compPost È X.A Ex use Qf Ái s3.heap.objs.size Àr) e s'):
  wpAny È X.A (comprehension à scope X.env lr (newList []) false (eval iter X.env) use) Qf Ex s:=by
 have Du:∀y∈scope.names,y.2=.free->∃c,X.env.cells.lookup y.1=some c:=λy hy e=>by
  rcases ok.free y hy e with k|k
  ·exact I.ok.has _ (.inl k)
  ·exact I.ok.has _ (.inr k)
 refine wpAny_comprehension_free (use:=use) rfl hs (aa3 Du) ok.kind (λy hy e=>by rw[ok.uniq y hy,e])
  (aK (hi pins s σ H _ (I.iD _) h) λxv s1 hx=>aK hx λHL s2 h2=>?_)
 obtain⟨it,fp,tn,J,H2,e,I2,T,DC,f2,q⟩:=h2;have I2:=I2.lU;subst e;refine OF (aa8 ?_) (by show 0<=sizeLine;decide);generalize hD:s2.heap.objs.size=D;have hDn:H2 D=none:=I2.ax.fresh (C4 hD);obtain⟨W,⟨m0,w0⟩,turn⟩:=q D hDn;generalize Iu:({s2 with heap:=s2.heap.push {cls:=.type "list",data:=.seq ([]:LV).toArray}}:Sh)=s3;have I3:Ã Àw s3:=by
  rw[<-Iu];refine I2.laid (t':=s2.toks) Åk (C4 hD) ⟨dY _,[],0,.nil,?_⟩;rw[<-hD];exact ib _ rfl
 have h3:s3.heap=s2.heap.push {cls:=.type "list",data:=.seq ([]:LV).toArray}:=by rw[<-Iu]
 have sz:∀b∈fp,b<s2.heap.objs.size:=λb hb=>by
  obtain⟨o,e,_⟩:=T.obj _ _ DC b hb;exact cZ e
 have f3:∀b∈fp,Ŀ Àw b/\b<s3.heap.objs.size:=λb hb=>by
  have bQ:=sz b hb;refine⟨⟨?_,(f2 b hb).2⟩,by rw[h3,qv];exact OS bQ⟩;rw[ao (by grind)];exact(f2 b hb).1
 have DE:tn 0 s3.heap:=T.keep _ _ _ DC λb _ o e=>by rw[h3];exact dh _ e
 have I4:=aa9 I3 ok hN f3;have pg:=hg s3 Àw s3.heap.objs.size é fp;have pt:=ht s3 Àw s3.heap.objs.size é fp;have pe:=he s3 Àw s3.heap.objs.size é fp;show codeAny _ _ (.compStart à 0 Âz Ái (compEnvC scope é s3.heap.objs.size X.env)) (compPost È X.A Ex use Qf Ái s3.heap.objs.size) {s3 with heap:=pushCells (s3.heap.push {cls:=.type "dict",data:=.dict #[]}) scope.names};have QM:∀b∈fp,(Àw) b=none:=λb hb=>(f3 b hb).1.1;generalize kU:compEnvC scope é s3.heap.objs.size X.env=ce at I4 pg pt pe⊢;have cL:ce.locals=s3.heap.objs.size:=by subst kU;rfl
 generalize hH3:upd H2 D ã=H3 at I3 I4 pg pt pe w0 QM f3;generalize hs4:({s3 with heap:=pushCells (s3.heap.push {cls:=.type "dict",data:=.dict #[]}) scope.names}:Sh)=s4 at I4⊢;have QN:tn 0 s4.heap:=T.keep _ _ _ DE λb _ o e=>by rw[<-hs4];exact OQ _ _ _ _ (dh _ e)
 have wY:∀{σ':St}{H':Hp}{s':Sh},Inv ě [] σ' H' s'->(∀b∈fp,H' b=none)->∀b∈fp,lV ě [] H' b:=λ{σ' H' s'}I' hn b hb=>
  ⟨hn b hb,(I'.ok.AG b hb).1,I'.ok.yB b hb,.inl hb,λx c e=>(I'.ok.AG b hb).2 x c e,λp hp=>absurd (show p∈([]:bG)++[] from hp) Ä⟩
 have XE:codeAny È X.A (.compLoop à 0 Âz Ái ce) (compPost È X.A Ex use Qf Ái s3.heap.objs.size) s4:=by
  refine abe (λn s'=>∃i H',Inv ě [] (wipe σ (own.map (·.2))) H' s'/\tn i s'.heap/\(∀b∈fp,H' b=none)/\W i n H') ?_ m0 ⟨0,H3,I4,QN,QM,w0⟩;rintro n s5 ⟨i,H5,I5,yG,n5,w5⟩;rcases turn i n H5 w5 with ⟨stop,qq⟩|⟨go,Nx,hNx,step⟩
  ·have td:=T.done ě rfl rfl rfl hc i [] s5 _ H5 Ãx I5 (wY I5 n5) yG stop;refine A5 td λr s6 ⟨hr,I6⟩=>?_;subst hr;have I7:Ã H5 s6:=I3.vh (ch:=fp) I6.os I6.base I6.ax I6.bare λb hb=>⟨(f3 b hb).1.2.2.2.1,(f3 b hb).1.2.1,(f3 b hb).1.2.2.2.2.1,(f3 b hb).1.2.2.2.2.2⟩;have nC:H5 s3.heap.objs.size=none:=by
    have z:H5 ce.locals=none:=I6.free;rw[cL] at z;exact z
   obtain⟨m,hn,_⟩:=I6.loc;have hn:s6.heap.Ns ce.locals m:=hn;rw[cL] at hn;exact hRR D s3.heap.objs.size s6 m H5 I7 qq hn (I3.vo (bJ _) nC)
  ·have ti:=T.item ě rfl rfl rfl hc i [] s5 _ H5 Ãx I5 (wY I5 n5) yG go;refine A5 ti λr s6 ⟨u,hr,h6⟩=>?_;subst hr;refine A5 h6 λ_ s7 ⟨x,H7,I7,r7,y7,Iv,n7⟩=>?_;have I7':=I7.pinned (wY I7 n7) (T.obj _ _ Iv);refine A5 (pg _ s7 _ H7 x u _ I7' r7 (step x H7 y7)) λ_ s8 ⟨σ8,H8,I8,DP,q8⟩=>?_;refine A5 (pt _ s8 σ8 H8 _ I8 q8) λb s9 ⟨H9,I9,q9⟩=>?_;have fin:∀{s':Sh}{H':Hp},Inv ě ([]++AR fp s7.heap) σ8 H' s'->Nx H'->∃m,m<n/\∃i H',Inv ě [] (wipe σ (own.map (·.2))) H' s'/\tn i s'.heap/\(∀b∈fp,H' b=none)/\W i m H':=λ{s' H'}I' nx=>by
    obtain⟨m',hm,w'⟩:=hNx H' nx;have QO:∀b∈fp,∀o,s7.heap.get? b=some o->s'.heap.get? b=some o/\H' b=none:=λb hb o e=>
     let z:=I'.pin (b,o) (tW _ (tW _ (HN hb e)))
     ⟨z.1,z.2.1⟩
    have hl:(wipe σ (own.map (·.2))).length=σ8.length:=by rw[<-DP,QI]
    refine⟨m',hm,i+1,H',(I'.DB (pins:=[])).weak hl (λj v e=>?_),T.keep _ _ _ Iv λb hb o e=>(QO b hb o e).1,λb hb=>?_,w'⟩
    ·rw[<-DP] at e;exact(QJ e).1
    ·obtain⟨o,e,_⟩:=T.obj _ _ Iv b hb;exact(QO b hb o e).2
   cases b with
   |false=>
    simp only[Bool.false_eq_true,if_false] at q9⊢;exact fin I9 q9
   |true=>
    simp only[ON] at q9⊢;exact iU (pe _ s9 σ8 H9 _ (I9.iD _) q9) (λz oB ⟨yv,DQ,I10,r10,acc,abm,abn,nx⟩=>abd (X:=X.gj s3 H3 scope ce fp) I10.lU abm abn r10 λkW vA=>fin vA nx) λe oB hz=>kU▸ hX s3 H3 _ fp D e oB I3 f3 (kU▸ hz)
 exact codeAny_compStart_list XE (T.self X.A 0 _ _ _ QN XE)
def eF(hc:X.calm=true)(hN:X.N.Nodup)(hi:PI X tg iter wi)(ok:Ĭ own)(hg:∀(s:Sh)(H:Hp)(C:Addr)(cl:eV)(fp:LA),PG Ñ tg g) (ht:∀(s:Sh)(H:Hp)(C:Addr)(cl:eV)(fp:LA),xk Ñ ju tt)(he:∀(s:Sh)(H:Hp)(C:Addr)(cl:eV)(fp:LA),PE Ñ j6 te) (hs:∀x,foldedSetIterable iter X.env x=pure x:=by intro _;rfl):
  PE X à (A6 wi g tt te (own.map (·.2))):=by
 show Ö;rw[eval_ListComp];refine QL (Ex:=X.xe) (Eb:=λ_ _ _=>False) hc hN I hi ok hg ht he hs h (λD C s' m H' I' q hn f=>⟨m,hn,λpN sb=>?_⟩) λ_ _ _ _ _ _ _ _ _ z=>z.elim;obtain⟨f0,f1,f2,f3,f4,f5⟩:=f;exact⟨.ref D,H',I'.turned (t':=s'.toks) (λb o hb e=>(sb.2 b hb).trans e) f0 f1 f3 f4 f5,rfl,q⟩
def QP{Ex:VP}{Eb:Cx->VP}(hc:X.calm=true)(hN:X.N.Nodup)(hy:X.N[i]? =some y)(si:X.env.scope.names.lookup y=some .local)(A7:swapsWith à (some (.Name y py)) vB.line X.env=pure true) (hi:PI (X.iD Ex) tg iter wi) (ok:Ĭ own)(hg:∀(s:Sh)(H:Hp)(C:Addr)(cl:eV)(fp:LA),PG Ñ tg g) (ht:∀(s:Sh)(H:Hp)(C:Addr)(cl:eV)(fp:LA),xk Ñ ju tt)(he:∀(s:Sh)(H:Hp)(C:Addr)(cl:eV)(fp:LA),PE ((X.gj s H scope Às fp).iD (Eb Ñ)) j6 te) (hs:∀x,foldedSetIterable iter X.env x=pure x) (hX:∀{use:Option (Value->Sem Unit)}{Qf:VP}pins σ s3 H3 cl fp D e s',Ã H3 s3->(∀b∈fp,Ŀ H3 b/\b<s3.heap.objs.size)->Eb (X.gj s3 H3 scope ģ fp) e s'->notedBy È X.A ģ (λe=>compPost È X.A Ex use Qf Ái s3.heap.objs.size Àr) e s'):
  PS (X.iD Ex) (.Assign [.Name y py] à vB) (yF (A6 wi g tt te (own.map (·.2))) (pH i)):=by
 intro pins s σ H D I h;rw[exec_Assign_Name_used _ _ _ _ A7];refine aP (OT (aP ?_));have h:=h;refine aP (aK (QL (X:=X) (Eb:=Eb) (Qf:=λ_ s'=>SP (X.iD Ex) pins D .next s') hc hN I.lU hi ok hg ht he hs h (λL C s' m H' I' q hn f=>?_) (hX pins σ)) λ_ s' hq=>df (df hq));refine wpAny_assign_Name (Pl (v:=V.ref L) I' hN hy (.inl si) rfl (λs2 I2 ⟨a,sb,ha⟩=>?_) (.inr si));obtain⟨f0,f1,f2,f3,f4,f5⟩:=f;have haC:C≠a:=by
  grind
 refine⟨m,hn.sameBut sb haC,λh3 sb3=>?_⟩;exact⟨_,H',(I2.turned (t':=s2.toks) (λb o hb e=>(sb3.2 b hb).trans e) f0 f1 f3 f4 f5).iD _,q⟩
def uk(hc:X.calm=true)(hN:X.N.Nodup)(hy:X.N[i]? =some y)(si:X.env.scope.names.lookup y=some .local)(A7:swapsWith à (some (.Name y py)) vB.line X.env=pure true) (hi:PI X tg iter wi) (ok:Ĭ own)(hg:∀(s:Sh)(H:Hp)(C:Addr)(cl:eV)(fp:LA),PG Ñ tg g) (ht:∀(s:Sh)(H:Hp)(C:Addr)(cl:eV)(fp:LA),xk Ñ ju tt)(he:∀(s:Sh)(H:Hp)(C:Addr)(cl:eV)(fp:LA),PE Ñ j6 te) (hs:∀x,foldedSetIterable iter X.env x=pure x:=by intro _;rfl):
  PS X (.Assign [.Name y py] à vB) (yF (A6 wi g tt te (own.map (·.2))) (pH i)):=by
 exact QP (Ex:=X.xe) (Eb:=λ_ _ _=>False) hc hN hy si A7 hi ok hg ht he hs λ_ _ _ _ _ _ _ _ _ _ _ z=>z.elim
end
def DR{lo:Int}{n:Nat}{g:TG}{tt:TT}{te:TE}{vs:LN}{σ:St}{H1:Hp}{D:Addr}{Qd:Hp->Prop}(Pv:Nat->Hp->Prop)(h0:Pv 0 ċ)(hs:∀i H,i<n->Pv i H->g (.int (lo+i)) ĸ H λσ2 H2=>wipe σ2 vs=wipe σ vs/\tt σ2 H2 λb H3=>
   if b=true then te σ2 H3 (jN D (Pv (i+1))) else Pv (i+1) H3) (hd:∀H,Pv n H->Qd H):
  ∃W:Nat->Nat->Hp->Prop,(∃m,W 0 m ċ)/\∀i m H,W i m H->
   ((wX lo n).stop i H/\Qd H)\/((wX lo n).go i H/\∃Nx:Hp->Prop,(∀H',Nx H'->∃m',m'<m/\W (i+1) m' H')/\∀x H',(wX lo n).m8 i H x H'->g x ĸ H' λσ2 H2=>wipe σ2 vs=wipe σ vs/\tt σ2 H2 λb H3=>
    if b=true then te σ2 H3 Åt else Nx H3):=by
 refine⟨λi m H=>m=n-i/\i<=n/\Pv i H,⟨n,by simp,dY _,h0⟩,?_⟩;rintro i m H ⟨rfl,hi,p⟩;by_cases bQ:i<n
 ·refine .inr ⟨bQ,Pv (i+1),λH' p'=>⟨n-(i+1),by omega,rfl,bQ,p'⟩,λx H' y=>?_⟩;obtain⟨e,y⟩:=y;simp_all
 ·have e:i=n:=by omega
  subst e;exact .inl ⟨bJ _,hd H p⟩
def gC{K:FR}{a:Addr}{xs:au}{g:TG}{tt:TT}{te:TE}{vs:LN}{σ:St}{H1:Hp}{D:Addr}{Qd:Hp->Prop}(Pv:Nat->Hp->Prop)(h0:Pv 0 ċ)(hl:∀i H,i<=xs.length->Pv i H->â a xs)(hs:∀i x H,xs[i]? =some x->Pv i H->g x ĸ H λσ2 H2=>wipe σ2 vs=wipe σ vs/\tt σ2 H2 λb H3=>
   if b=true then te σ2 H3 (jN D (Pv (i+1))) else Pv (i+1) H3) (hd:∀H,Pv xs.length H->Qd H):
  ∃W:Nat->Nat->Hp->Prop,(∃m,W 0 m ċ)/\∀i m H,W i m H->
   ((vp K a).stop i H/\Qd H)\/((vp K a).go i H/\∃Nx:Hp->Prop,(∀H',Nx H'->∃m',m'<m/\W (i+1) m' H')/\∀x H',(vp K a).m8 i H x H'->g x ĸ H' λσ2 H2=>wipe σ2 vs=wipe σ vs/\tt σ2 H2 λb H3=>
    if b=true then te σ2 H3 Åt else Nx H3):=by
 refine⟨λi m H=>m=xs.length-i/\i<=xs.length/\Pv i H,⟨xs.length,by simp,dY _,h0⟩,?_⟩;rintro i m H ⟨rfl,hi,p⟩;have q:=hl i H hi p;by_cases bQ:i<xs.length
 ·refine .inr ⟨⟨xs,xs[i],q,by simp[bQ]⟩,Pv (i+1),λH' p'=>⟨xs.length-(i+1),by omega,rfl,bQ,p'⟩,λx H' y=>?_⟩;obtain⟨e,y⟩:=y;subst e;exact hs i x _ (y xs q) p
 ·have e:i=xs.length:=by omega
  subst e;exact .inl ⟨⟨xs,q,bJ _⟩,hd H p⟩
def QQ(N:LS)(sc scope:Scope)(own:List (Str×Nat)):Bool:=
 (match scope.kind with|.function=>true|_=>false)&&(scope.names.all λy=>decide (scope.names.lookup y.1=some y.2))&&(own.all λp=>decide (N[p.2]? =some p.1))&&
  (scope.names.all λy=>match y.2 with
   |.free=>(match sc.names.lookup y.1 with|some .cell=>true|some .free=>true|_=>false)
   |.local=>decide (y.1∈own.map (·.1))||decide (y.1∉N)
   |.cell=>decide (y.1∈own.map (·.1))||decide (y.1∉N)
   |_=>true)
def c6{N:LS}{sc scope:Scope}{own:List (Str×Nat)}(h:QQ N sc scope own=true):xj N sc scope own:=by
 unfold QQ at h;simp only[jw,lx,og] at h;obtain⟨⟨⟨h1,h2⟩,h3⟩,h4⟩:=h;refine⟨?_,h2,h3,λy hy e=>?_,λy hy e=>?_⟩
 ·split at h1
  ·assumption
  ·cases h1
 ·have q:=h4 y hy;simp only[e] at q;split at q <;> first|exact .inl (by assumption)|exact .inr (by assumption)|cases q
 ·have q:=h4 y hy;rcases e with e|e <;> (simp only[e,Bool.or_eq_true,og] at q;exact q)
section
variable{κ:Type}[DecidableEq κ]
def fW(kvs:List (κ×V))(k:κ):Option V:=(kvs.find? λkv=>decide (kv.1=k)).map (·.2)
def putK(kvs:List (κ×V))(k:κ)(v:V):List (κ×V):=
 if (kvs.any λkv=>decide (kv.1=k))=true then kvs.map (λkv=>if kv.1=k then (kv.1,v) else kv) else kvs++[(k,v)]
def qJ{p:κ×V}{r:List (κ×V)}{k:κ}(e:p.1=k):fW (p::r) k=some p.2:=by simp[fW,ko,e]
def qK{p:κ×V}{r:List (κ×V)}{k:κ}(e:¬p.1=k):fW (p::r) k=fW r k:=by simp[fW,ko,e]
theorem Iw(k:κ):∀kvs:List (κ×V),(kvs.any λkv=>decide (kv.1=k))=(fW kvs k).isSome:=by
 intro kvs;induction kvs with
 |nil=>exact rfl
 |cons p r ih=>
  rw[tY];by_cases e:p.1=k
  ·simp only[qJ e,eJ e,Bool.true_or,apf]
  ·rw[qK e,fQ e,OU];exact ih
theorem abq(k j:κ)(y:V):∀kvs:List (κ×V),fW (kvs.map λkv=>if kv.1=k then (kv.1,y) else kv) j=(fW kvs j).map λx=>if j=k then y else x:=by
 intro kvs;induction kvs with
 |nil=>exact rfl
 |cons p r ih=>
  have ih:=ih;rw[a0];by_cases h:p.1=k
  ·rw[af h];by_cases e:p.1=j
   ·rw[qJ (p:=(p.1,y)) e,qJ e,G5,af (e.symm.trans h)]
   ·rw[qK (p:=(p.1,y)) e,qK e,ih]
  ·rw[ah h];by_cases e:p.1=j
   ·rw[qJ (p:=p) e,qJ e,G5,ah (λz=>h Çt)]
   ·rw[qK (p:=p) e,qK e,ih]
theorem abr(k j:κ)(y:V):∀kvs:List (κ×V),fW kvs k=none->fW (kvs++[(k,y)]) j=if j=k then some y else fW kvs j:=by
 intro kvs;induction kvs with
 |nil=>
  intro _;by_cases e:k=j
  ·rw[af e.symm];exact qJ (p:=(k,y)) e
  ·rw[ah (λz=>e z.symm)];exact qK (p:=(k,y)) e
 |cons p r ih=>
  intro hn;rw[List.cons_append];have hk:¬p.1=k:=λz=>by rw[qJ z] at hn;cases hn
  rw[qK hk] at hn;have ih:=ih hn;by_cases e:p.1=j
  ·rw[qJ e,qJ e,ah (λz=>hk Çt)]
  ·rw[qK e,qK e,ih]
def abt(kvs:List (κ×V))(k j:κ)(y:V):fW (Ŋ y) j=if j=k then some y else fW kvs j:=by
 unfold putK;by_cases a:(kvs.any λkv=>decide (kv.1=k))=true
 ·rw[af a,abq];rw[Iw] at a;by_cases e:j=k
  ·obtain⟨x,hx⟩:=G0.mp a;simp_all
  ·simp_all
 ·rw[ah a];refine abr k j y kvs ?_;rw[Iw] at a;simp_all
def A8(kvs:List (κ×V))(k:κ)(v:V):(Ŋ v).length<=kvs.length+1:=by
 unfold putK;grind
theorem jL.Iy(r:jL o u):o.isSome=u.isSome:=by
 cases o with
 |none=>cases u with
  |none=>rfl
  |some _=>exact(show False from r).elim
 |some _=>cases u with
  |none=>exact(show False from r).elim
  |some _=>rfl
theorem jL.getD(r:jL o u)(rd:RelV d d'):RelV (o.getD d) (u.getD d'):=by
 cases o with
 |none=>cases u with
  |none=>exact rd
  |some _=>exact(show False from r).elim
 |some _=>cases u with
  |none=>exact(show False from r).elim
  |some _=>exact r
theorem KV.val{kvs:List (κ×V)}{vs:List (κ×Value)}(r:KV kvs vs)(k:κ):jL (fW kvs k) (valueAt vs k):=by
 unfold KV at r;induction r with
 |nil=>exact True.intro
 | @cons p q ps qs h t ih=>
  obtain⟨h1,h2⟩:=h;by_cases e:p.1=k
  ·have e':q.1=k:=h1.symm.trans e;have b:valueAt (q::qs) k=some q.2:=by simp[valueAt,ko,e']
   rw[qJ e,b];exact h2
  ·have e':¬q.1=k:=λz=>e (h1.trans z);have b:valueAt (q::qs) k=valueAt qs k:=by simp[valueAt,ko,e']
   rw[qK e,b];exact ih
theorem KV.any(r:KV kvs vs)(k:κ):(kvs.any λkv=>decide (kv.1=k))=vs.any λkv=>decide (kv.1=k):=by
 unfold KV at r;induction r with
 |nil=>rfl
 |cons h t ih=>simp_all
def KV.Iz(r:KV kvs vs)(k:κ)(ry:RelV y u):
  KV (kvs.map λkv=>if kv.1=k then (kv.1,y) else kv) (vs.map λkv=>if kv.1=k then (kv.1,u) else kv):=by
 unfold KV at r⊢;induction r with
 |nil=>exact .nil
 | @cons p q ps qs h t ih=>
  rw[a0,a0];refine .cons ?_ ih;grind
def KV.put(r:KV kvs vs)(k:κ)(ry:RelV y u):KV (Ŋ y) (stored vs k u):=by
 unfold putK stored;rw[r.any k];by_cases e:(vs.any λkv=>decide (kv.1=k))=true
 ·rw[af e,af e];exact r.Iz k ry
 ·rw[ah e,ah e];exact Paired.snoc r ⟨rfl,ry⟩
def KV.length{kvs:List (κ×V)}{vs:List (κ×Value)}(r:KV kvs vs):kvs.length=vs.length:=Paired.length r
end
theorem vC(r:RelV (kV k) u):(eW P w).is k u=true:=by
 cases k with
 |inl i=>obtain⟨t,e⟩:=(show ∃t,u=Value.int i t from r);subst e;exact Zh P w i t
 |inr x=>obtain⟨t,e⟩:=(show ∃t,u=Value.str x t from r);subst e;exact Zi P w x t
theorem abu{P:Pg}{w:Wd}{ks:dZ}:∀{us:LV},bc (ks.map kV) us->ItemsAre Âq ks us:=by
 induction ks with
 |nil=>
  intro _ r;rw[lQ] at r;cases r;exact .nil
 |cons k ks ih=>
  intro _ r;rw[a0] at r;cases r with
  |cons h t=>exact .cons (vC h) (ih t)
abbrev KT(H:Hp):List (dZ×V)->List (dZ×Addr×Value)->Prop:=Paired λp q=>p.1=q.1/\H q.2.1=some (.tup (p.1.map kV))/\RelV p.2 q.2.2
theorem KT.val{H:Hp}{kvs:List (dZ×V)}{xs:List (dZ×Addr×Value)}(r:KT H kvs xs)(k:dZ):jL (fW kvs k) ((atKey xs k).map (·.2)):=by
 induction r with
 |nil=>exact True.intro
 | @cons p q ps qs h t ih=>
  obtain⟨h1,_,h2⟩:=h;by_cases e:p.1=k
  ·have e':q.1=k:=h1.symm.trans e;have b:atKey (q::qs) k=some q.2:=by simp[atKey,ko,e']
   rw[qJ e,b];exact h2
  ·have e':¬q.1=k:=λz=>e (h1.trans z);have b:atKey (q::qs) k=atKey qs k:=by simp[atKey,ko,e']
   rw[qK e,b];exact ih
def KT.Iz{H:Hp}{kvs:List (dZ×V)}{xs:List (dZ×Addr×Value)}(r:KT H kvs xs)(k:dZ){y:V}{u:Value}(ry:RelV y u):
  KT H (kvs.map λkv=>if kv.1=k then (kv.1,y) else kv) (xs.map (putAt k u)):=by
 induction r with
 |nil=>exact .nil
 | @cons p q ps qs h t ih=>
  rw[a0,a0];refine .cons ?_ ih;obtain⟨h1,h2,h3⟩:=h;unfold putAt;by_cases e:p.1=k
  ·rw[af e,af (h1.symm.trans e)];exact⟨h1,h2,ry⟩
  ·rw[ah e,ah (λz=>e (h1.trans z))];exact⟨h1,h2,h3⟩
def KT.put(r:KT H kvs xs)(k:dZ)(hb:H b=some Âi)(ry:RelV y u):
  KT H (Ŋ y) (storedH xs k b u):=by
 have e:(kvs.any λkv=>decide (kv.1=k))=(atKey xs k).isSome:=by
  rw[Iw,(r.val k).Iy,Df]
 unfold putK storedH;rw[e];by_cases q:(atKey xs k).isSome=true
 ·rw[af q,af q];exact r.Iz k ry
 ·rw[ah q,ah q];exact Paired.snoc r ⟨rfl,hb,ry⟩
def KT.keeps(r:KT H kvs xs)(ht:∀b ys,H b=some Åw->H' b=some Åw):KT H' kvs xs:=
 Paired.lS r λ_ _ z=>⟨z.1,ht _ _ z.2.1,z.2.2⟩
section
def QR(ok:ġ h)(e:Rd H a u):Àu u:=e.ok ok
def xl(ok:ġ h)(e:Rd H a Đ):kvs.length<=sizeLine/\(a==sysModules)=false/\∃vs,KV kvs vs/\h.DictOf Âq a vs:=
 show ft P w H h a Đ from QR ok e
def DS(ok:ġ h)(e:H a=some Đ):kvs.length<=sizeLine/\(a==sysModules)=false/\∃vs,KV kvs vs/\h.DictOf Âq a vs:=xl ok (.inl e)
def xm{ks:dZ}(ok:ġ h)(e:H a=some (.tup (ks.map kV))):(tupleKind Âq).is h ks a:=by
 obtain⟨_,aj,r,o,h1,h2,n,h3⟩:=(show ft P w H h a (.tup (ks.map kV)) from ok a _ e);exact⟨o,aj.toArray,n,h1,h2,h3,by simpa using abu r⟩
def xn{kvs:List (dZ×V)}(ok:ġ h)(e:Rd H a Ãa):kvs.length<=sizeLine/\(a==sysModules)=false/\
  ∃xs,KT H kvs xs/\h.DictOfH Çi a xs:=by
 obtain⟨z,y,xs,r,o,es,ep,h1,h2,h3,h4,h5⟩:=(show ft P w H h a Ãa from QR ok e);refine⟨z,y,xs,r,o,es,ep,h1,h2,h3,h4,λx hx=>?_,h5⟩;have all:∀{l:List (dZ×V)}{m:List (dZ×Addr×Value)},KT H l m->∀x∈m,(tupleKind Âq).is h x.1 x.2.1:=by
  intro l m q;induction q with
  |nil=>intro x hx;exact nomatch hx
  | @cons p q ps qs hq t ih=>
   intro x hx;rcases ba.mp hx with e|hx
   ·subst e;exact xm ok (by rw[<-hq.1];exact hq.2.1)
   ·exact ih x hx
 exact all r x hx
def abv(ok:ġ h)(e:H a=some Ãa):kvs.length<=sizeLine/\(a==sysModules)=false/\
  ∃xs,KT H kvs xs/\h.DictOfH Çi a xs:=xn ok (.inl e)
end
def jO(H:Hp)(a:Addr)(y:V)(r:Option V):Prop:=
 (∃kvs k,Rd H a Đ/\y=kV k/\r=fW kvs k)\/∃kvs k b,Rd H a Ãa/\y=.ref b/\H b=some Âi/\r=fW kvs k
def xo(H:Hp)(a:Addr)(y v:V)(H':Hp):Prop:=
 (∃kvs k,H a=some Đ/\y=kV k/\kvs.length<sizeLine/\H'=upd H a (.dK (Ŋ v)))\/
 ∃kvs k b,H a=some Ãa/\y=.ref b/\H b=some Âi/\kvs.length<sizeLine/\H'=upd H a (.dT (Ŋ v))
def jO.k{H:Hp}{a:Addr}{kvs:List (Key×V)}{k:Key}(e:H a=some Đ):jO H a (kV k) (fW kvs k):=.inl ⟨kvs,k,.inl e,rfl,rfl⟩
def jO.t{H:Hp}{a b:Addr}{kvs:List (dZ×V)}{k:dZ}(e:H a=some Ãa)(eb:H b=some Âi):jO H a (.ref b) (fW kvs k):=.inr ⟨kvs,k,b,.inl e,rfl,eb,rfl⟩
def xo.k{H:Hp}{a:Addr}{kvs:List (Key×V)}{k:Key}{v:V}(e:H a=some Đ)(hl:kvs.length<sizeLine):xo H a (kV k) v (ť (.dK (Ŋ v))):=.inl ⟨kvs,k,e,rfl,hl,rfl⟩
section
variable{X:Cx}{pins:bG}{σ:St}{H:Hp}{s:Sh}{a:Addr}{y v:V}{u r:Value}{o:Option V}{A:Around}{E:VP}
def Inv.big(I:Ã H s):sysModules<s.heap.objs.size:=by
 have h:mainGlobals<s.heap.objs.size:=(I.mod.glob.keeps I.bk).lt;exact G6 Ú h
def abw(hu:A.units+1<cLine)(I:Ã H s)(g:jO H a y Ãj)(ry:RelV y u)(h:∀w' s',Ã H s'->RelV v w'->Q w' s'):
  wpAny È A (getItem Ğ u) Q E s:=by
 rcases g with ⟨kvs,k,e,ey,l⟩|⟨kvs,k,b,e,ey,eb,l⟩
 ·subst ey;obtain⟨z,hd,vs,fb,dd⟩:=xl I.ax e;obtain⟨w',hw,i0⟩:=jL.some_of (v:=v) (o:=valueAt vs k) (by rw[l];exact fb.val k);exact wpAny_getItem_of (vC ry) dd.mapOf hw (h w' _ (I.tok _) i0)
 ·subst ey;cases (show u=Value.ref b from ry);obtain⟨z,hd,xs,fb,dd⟩:=xn I.ax e;obtain⟨w',hw,i0⟩:=jL.some_of (v:=v) (o:=(atKey xs k).map (·.2)) (by rw[l];exact fb.val k);obtain⟨p,hp,qz⟩:=yq.mp hw;refine wpAny_getItem_heap (Dg hu) (xm I.ax eb) dd hp ?_;rw[qz];exact h w' _ (I.tok _) i0
def abx(hu:A.units+1<cLine)(I:Ã H s)(g:jO H a y o)(ry:RelV y u)(h:∀s',Ã H s'->Q (.bool (!o.isSome)) s'):
  wpAny È A (compareOp .NotIn u Ğ) Q E s:=by
 rcases g with ⟨kvs,k,e,ey,l⟩|⟨kvs,k,b,e,ey,eb,l⟩
 ·subst ey;obtain⟨z,hd,vs,fb,dd⟩:=xl I.ax e;refine wpAny_notIn_of (vC ry) hd dd.mapOf ?_;rw[<-(fb.val k).Iy,<-l];exact h _ (I.tok _)
 ·subst ey;cases (show u=Value.ref b from ry);obtain⟨z,hd,xs,fb,dd⟩:=xn I.ax e;refine wpAny_notIn_heap (Dg hu) (xm I.ax eb) hd dd ?_;have q:=(fb.val k).Iy;rw[Df] at q;rw[<-q,<-l];exact h _ (I.tok _)
def IA{h':Heap}{t':Nat}{ob:HO}(I:Ã H s)(mu:ub (H a))(hs:Heap.SameBut a s.heap h')(he:∃q,h'.get? a=some q)(new:Àa (ť ob) h' a ob):
  Inv X pins σ (ť ob) {s with heap:=h',toks:=t'}:=
 I.write (x:=a) (e:=a) mu Ĉ (λb q hb z=>(hs.2 b hb).trans z) he new
def QS(z:kvs.length<=sizeLine)(hd:(a==sysModules)=false)(fb:KV kvs vs)(dd:h'.DictOf Âq a vs):
  ft P w H' h' a Đ:=⟨z,hd,vs,fb,dd⟩
def aby{H':Hp}{Q:Unit->Shared->Prop}(hu:A.units+1<cLine)(I:Ã H s)(g:xo H a y v H')(ry:RelV y u)(rv:RelV v r)(h:∀s',Ã H' s'->Q () s'):
  wpAny È A (setItem Ğ u r) Q E s:=by
 rcases g with ⟨kvs,k,e,ey,l,eH⟩|⟨kvs,k,b,e,ey,eb,l,eH⟩
 ·subst ey eH;obtain⟨z,hd,vs,fb,dd⟩:=DS I.ax e;have hz:vs.length<=sizeLine:=by rw[<-fb.length];exact z
  have hl:(Ŋ v).length<=sizeLine:=by have:=A8 kvs k v;omega
  refine wpAny_setItem_pairs (hsz:=hz) (vC ry) dd λh' sj hs=>h _ ?_;have he:∃q,h'.get? a=some q:=let ⟨q,_,_,hq,_⟩:=sj;⟨q,hq⟩;exact IA I (by rw[e];exact True.intro) hs he (QS hl hd (fb.put k rv) sj)
 ·subst ey eH;cases (show u=Value.ref b from ry);obtain⟨z,hd,xs,fb,dd⟩:=abv I.ax e;have hz:xs.length<=sizeLine:=by rw[<-Paired.length fb];exact z
  have hl:(Ŋ v).length<=sizeLine:=by have:=A8 kvs k v;omega
  refine wpAny_setItem_heap (hsz:=hz) (Dg hu) (xm I.ax eb) dd λh' sj hs=>h _ ?_;obtain⟨q,es,ep,hq,h2,h3,h4,_,h5⟩:=sj;refine IA I (by rw[e];exact True.intro) hs ⟨q,hq⟩ ⟨hl,hd,_,(fb.put k eb rv).keeps λc ys ec=>?_,q,es,ep,hq,h2,h3,h4,h5⟩;rw[ao (Pj ec e (λz=>nomatch z))];exact ec
end
section
variable{X:Cx}{pins:bG}{σ:St}{H:Hp}{s:Sh}{a:Addr}{kvs:List (Key×V)}{k:Key}{u:Value}{A:Around}{E:VP}
end
def QT(i:Expr):Prop:=∀ov iv,subscripted i false ov iv=operate [ov,iv] (getItem ov iv)
def abz{prog:Pg}{w:Wd}{A:Around}{E:VP}{s:Sh}{env:Env}{jd uZ:Expr}{pos:Pos}{T id:String}{Q:VP}(hl:typeLookup (.type T) "__getitem__"=pure (some ϊ)) (hs:QT uZ)(h:wpAny Ó A (eval jd env) (λo s₁=>wpAny Ó A (eval uZ env) (λi s₂=>s₂.TypeIs o T/\wpAny Ó A (getItem o i) Q E s₂) E s₁) E s):
  wpAny Ó A (eval (.Subscript jd uZ pos) env) Q E s:=by
 refine Subscript_ (iU h (λo s₁ h₁=>iU h₁ (λi s₂ h₂=>?_) λ_ _ x=>x) λ_ _ x=>x);obtain⟨hT,h₂⟩:=h₂;unfold subscriptTail;refine aP ?_;rw[getitemInPython_of_ne hT.not_modules];refine aP (wpAny_specialOf hT hl ?_);have fin:wpAny Ó A (subscripted uZ false o i) (λr s₃=>wpAny Ó A (letTemporaryGo jd o r >>= λ_=>pure r) Q E s₃) E s₂:=by
  rw[hs o i];exact wpAny_operating (iU h₂ (λr s₃ h₃=>aP (wpAny_letTemporaryGo (df h₃))) λ_ _ x=>x)
 first
  |exact df (aP fin)
  |exact aP (df (aP fin))
  |exact aP fin
def abA(I:Ã H s)(g:jO H a y o):s.TypeIs Ğ "dict":=by
 rcases g with ⟨kvs,k,e,_,_⟩|⟨kvs,k,b,e,_,_,_⟩
 ·obtain⟨_,_,vs,_,dd⟩:=xl I.ax e;exact dd.typeIs
 ·obtain⟨_,_,xs,_,dd⟩:=xn I.ax e;exact dd.typeIs
def QU(td ty:TE):TE:=λσ H Q=>td σ H λx H1=>ty σ H1 λy H2=>∃a v,x=.ref a/\jO H2 a y Ãj/\Q v H2
def abB(ty td:TE):TE:=λσ H Q=>ty σ H λy H1=>td σ H1 λx H2=>∃a o,x=.ref a/\jO H2 a y o/\Q (.bl (!o.isSome)) H2
def abC(td ty tv:TE):TS:=λD σ H=>tv σ H λv H1=>td σ H1 λx H2=>ty σ H2 λy H3=>∃a H4,x=.ref a/\xo H3 a y v H4/\D.nx σ H4
section
def QV(hu:X.A.units+1<cLine)(ho:PE X o td)(hi:PE X i ty)(hs:QT i):PE X (.Subscript o i pos) (QU td ty):=by
 show Ö;refine abz PySem.F.slot_dict_getitem.lookup hs (aK (ho pins s σ H _ I h) λu s1 ⟨x,H1,I1,rx,q1⟩=>aK (hi pins s1 σ H1 _ I1 q1) λiv s2 ⟨y,H2,I2,ry,a,v,ex,g,q2⟩=>?_);subst ex;obtain rfl:u=Value.ref a:=rx;exact⟨abA I2 g,abw hu I2 g ry λw' s3 I3 i0=>⟨v,H2,I3,i0,q2⟩⟩
def abD(hu:X.A.units+1<cLine)(hi:PE X i ty)(ho:PE X o td):PC X .NotIn i o (abB ty td):=by
 show Ö;refine aK (hi pins s σ H _ I h) λiv s1 ⟨y,H1,I1,ry,q1⟩=>aK (ho pins s1 σ H1 _ I1 q1) λu s2 ⟨x,H2,I2,rx,a,ov,ex,g,q2⟩=>?_;subst ex;obtain rfl:u=Value.ref a:=rx;exact abx hu I2 g ry λs3 I3=>⟨.bl (!ov.isSome),H2,I3,rfl,q2⟩
def IB(hu:X.A.units+1<cLine)(ho:PE X o td)(hi:PE X i ty)(hv:PE X jd tv)(hs:swapsWith jd (some (.Subscript o i lr)) pos.line X.env=pure false):
  PS X (.Assign [.Subscript o i lr] jd pos) (abC td ty tv):=by
 intro pins s σ H D I h;refine wpAny_Assign_Subscript (aK (hv pins s σ H _ I h) λr s1 ⟨v,H1,I1,rv,q1⟩=>aK (ho pins s1 σ H1 _ I1 q1) λu s2 ⟨x,H2,I2,rx,q2⟩=>aK (hi pins s2 σ H2 _ I2 q2) λiv s3 ⟨y,H3,I3,ry,a,H4,ex,g,q3⟩=>?_) hs;subst ex;obtain rfl:u=Value.ref a:=rx;exact aby hu I3 g ry rv λs4 I4=>⟨σ,H4,I4,q3⟩
end
def abE{P:Pg}{w:Wd}{H:Hp}(h:Heap)(hb:sysModules<h.objs.size):ft P w H (h.push {cls:=.type "dict",data:=.dict #[]}) h.objs.size ϲ:=
 ⟨dY _,wK.mpr (dX (fj hb)),[],.nil,X8 h⟩
def abF:TE:=λ_ H Q=>∀p,H p=none->Q ĥ (upd H p ϲ)
section
def DT:PE X (.Dict [] [] pos) abF:=λpins s σ H Q I h=>
 wpAny_Dict_empty ⟨.ref s.heap.objs.size,_,I.laid (a:=s.heap.objs.size) (o:=.dK []) (t':=s.toks) (λ_ _ q=>dh _ q) (bJ _) (abE s.heap I.big),rfl,h _ Ī⟩
end
def um(kvs jc:List (Key×V)):List (Key×V):=jc.foldl (λacc kv=>putK acc kv.1 kv.2) kvs
theorem KV.merge:∀{jc:List (Key×V)}{rs:List (Key×Value)}{kvs:List (Key×V)}{vs:List (Key×Value)},KV jc rs->KV kvs vs->KV (um kvs jc) (merged vs rs):=by
 intro jc rs kvs vs r;unfold KV at r;induction r generalizing kvs vs with
 |nil=>intro q;exact q
 | @cons p q ps qs h t ih=>
  intro r0;have e:KV (putK kvs p.1 p.2) (stored vs q.1 q.2):=by
   have:=r0.put p.1 h.2;simp_all
  exact ih e
theorem abG:∀(jc kvs:List (Key×V)),(um kvs jc).length<=kvs.length+jc.length:=by
 intro jc;induction jc with
 |nil=>
  intro kvs;show kvs.length<=kvs.length+0;omega
 |cons p r ih=>
  intro kvs;have h1:=ih (putK kvs p.1 p.2);have h2:=A8 kvs p.1 p.2;show(um (putK kvs p.1 p.2) r).length<=_;rw[c7];omega
structure M1(X:Cx)(o:Expr)(m:Str)(iT:Pos)(e:Expr)(fV:Pos):Prop where
 base:attributeBase o m X.env Äj=eval o X.env
 dc:((backTo fV (starEach [e] X.env)).all (λx=>!x.1)&&(backToKw fV ϴ).all (λx=>x.1.isSome)
  &&decide (([e]:List Expr).length+([]:List Keyword).length+(if ([]:List Keyword).isEmpty then 0 else 1)<30))=true
 line:(iT.endLine==fV.line)=true
 trees:backTo fV (starEach [e] X.env)=[(false,eval e X.env)]
structure M2(X:Cx)(o:Expr)(m:Str)(iT:Pos)(e f:Expr)(fV:Pos):Prop where
 base:attributeBase o m X.env Äj=eval o X.env
 dc:((backTo fV (starEach [e,f] X.env)).all (λx=>!x.1)&&(backToKw fV ϴ).all (λx=>x.1.isSome)
  &&decide (([e,f]:List Expr).length+([]:List Keyword).length+(if ([]:List Keyword).isEmpty then 0 else 1)<30))=true
 line:(iT.endLine==fV.line)=true
 trees:backTo fV (starEach [e,f] X.env)=[(false,eval e X.env),(false,eval f X.env)]
def DU(H:Hp)(a:Addr):Prop:=(∃kvs,Rd H a Đ)\/∃kvs,Rd H a Ãa
def IC(I:Ã H s)(d:DU H a):
  s.TypeIs Ğ "dict"/\(∀b,Value.ref a=.ref b->∃ob,s.heap.get? b=some ob/\ob.dict=none)/\(a==sysModules)=false:=by
 rcases d with ⟨kvs,e⟩|⟨kvs,e⟩
 ·obtain⟨_,hd,vs,_,dd⟩:=xl I.ax e;refine⟨dd.typeIs,λb q=>?_,hd⟩;cases q;obtain⟨ob,_,_,h1,h2,_⟩:=dd;exact⟨ob,h1,h2.2.1⟩
 ·obtain⟨_,hd,xs,_,dd⟩:=xn I.ax e;refine⟨dd.typeIs,λb q=>?_,hd⟩;cases q;obtain⟨ob,_,_,h1,h2,_⟩:=dd;exact⟨ob,h1,h2.2.1⟩
section
variable{X:Cx}{pins:bG}{σ:St}{H:Hp}{s:Sh}{a:Addr}{y d:V}{u r:Value}{o:Option V}{A:Around}{E:VP}
def abH(hu:A.units+1<cLine)(I:Ã H s)(g:jO H a y o)(ry:RelV y u)(h:∀w' s',Ã H s'->RelV (o.getD .aJ) w'->Q w' s'):
  wpAny È A (call (.builtin "dict.get") [.ref a,u]) Q E s:=by
 rcases g with ⟨kvs,k,e,ey,l⟩|⟨kvs,k,b,e,ey,eb,l⟩
 ·subst ey;obtain⟨z,hd,vs,fb,dd⟩:=xl I.ax e;refine Dh PySem.F.slot_dict_get dd.typeIs PySem.F.entry_dict_get (PySem.F.args_dict_get_2 _ _) (meets_dict_get ą a (vC ry) hd) ⟨_,dd.mapOf,h _ _ (I.tok _) ?_⟩;rw[l];exact(fb.val k).getD rfl
 ·subst ey;cases (show u=Value.ref b from ry);obtain⟨z,hd,xs,fb,dd⟩:=xn I.ax e;refine Dh PySem.F.slot_dict_get dd.typeIs PySem.F.entry_dict_get (PySem.F.args_dict_get_2 _ _) (meetsH_dict_get Èg a b hd) ⟨Dg hu,k,xs,xm I.ax eb,dd,h _ _ (I.tok _) ?_⟩;rw[l];exact(fb.val k).getD rfl
def abI(hu:A.units+1<cLine)(I:Ã H s)(g:jO H a y o)(ry:RelV y u)(rd:RelV d r)(h:∀w' s',Ã H s'->RelV (o.getD d) w'->Q w' s'):
  wpAny È A (call (.builtin "dict.get") [.ref a,u,r]) Q E s:=by
 rcases g with ⟨kvs,k,e,ey,l⟩|⟨kvs,k,b,e,ey,eb,l⟩
 ·subst ey;obtain⟨z,hd,vs,fb,dd⟩:=xl I.ax e;refine Dh PySem.F.slot_dict_get dd.typeIs PySem.F.entry_dict_get (PySem.F.args_dict_get_3 _ _ _) (meets_dict_get_default ą a (vC ry) hd r) ⟨_,dd.mapOf,h _ _ (I.tok _) ?_⟩;rw[l];exact(fb.val k).getD rd
 ·subst ey;cases (show u=Value.ref b from ry);obtain⟨z,hd,xs,fb,dd⟩:=xn I.ax e;refine Dh PySem.F.slot_dict_get dd.typeIs PySem.F.entry_dict_get (PySem.F.args_dict_get_3 _ _ _) (meetsH_dict_get_default Èg a b hd r) ⟨Dg hu,k,xs,xm I.ax eb,dd,h _ _ (I.tok _) ?_⟩;rw[l];exact(fb.val k).getD rd
end
def QW(td ty:TE):TE:=λσ H Q=>td σ H λx H1=>∃a,x=.ref a/\DU H1 a/\ty σ H1 λy H2=>∃o,jO H2 a y o/\Q (o.getD .aJ) H2
def abJ(td ty tx:TE):TE:=λσ H Q=>td σ H λx H1=>∃a,x=.ref a/\DU H1 a/\ty σ H1 λy H2=>tx σ H2 λz H3=>∃o,jO H3 a y o/\Q (o.getD z) H3
section
def abK(hu:X.A.units+1<cLine)(ho:PE X o td)(he:Ϝ ty)(m:M1 X o "get" iT e fV):PE X (.Call (.Attribute o "get" iT) [e] [] fV) (QW td ty):=by
 show Ö;refine G7 m.base m.dc m.line PySem.F.plainAttrs_dict PySem.F.slot_dict_get PySem.F.type_dict_get (aK (ho pins s σ H _ I h) λu s1 ⟨x,H1,I1,rx,a,ex,d,q1⟩=>?_);subst ex;obtain rfl:u=Value.ref a:=rx;obtain⟨t1,t2,_⟩:=IC I1 d;refine Èa;rw[m.trees];refine G2 rfl (OO (Da (aK (he pins s1 σ H1 _ I1 q1) λiv s2 ⟨y,H2,I2,ry,ov,g,q2⟩=>OK ?_)));exact abH hu I2 g ry λw' s3 I3 i0=>⟨_,H2,I3,i0,q2⟩
def abL(hu:X.A.units+1<cLine)(ho:PE X o td)(he:Ϝ ty)(hf:PE X f tx)(m:M2 X o "get" iT e f fV):PE X (.Call (.Attribute o "get" iT) [e,f] [] fV) (abJ td ty tx):=by
 show Ö;refine G7 m.base m.dc m.line PySem.F.plainAttrs_dict PySem.F.slot_dict_get PySem.F.type_dict_get (aK (ho pins s σ H _ I h) λu s1 ⟨x,H1,I1,rx,a,ex,d,q1⟩=>?_);subst ex;obtain rfl:u=Value.ref a:=rx;obtain⟨t1,t2,_⟩:=IC I1 d;refine Èa;rw[m.trees];refine G2 rfl (OO (Da (aK (he pins s1 σ H1 _ I1 q1) λiv s2 ⟨y,H2,I2,ry,q2⟩=>
  Da (aK (hf pins s2 σ H2 _ I2 q2) λfv s3 ⟨z,H3,I3,rz,ov,g,q3⟩=>OK ?_))))
 exact abI hu I3 g ry rz λw' s4 I4 i0=>⟨_,H3,I4,i0,q3⟩
end
section
variable{X:Cx}{pins:bG}{σ:St}{H:Hp}{s:Sh}{a:Addr}{kvs:List (Key×V)}{A:Around}{E:VP}
end
section
variable{X:Cx}{pins:bG}{σ:St}{H:Hp}{s:Sh}{a:Addr}{y:V}{u:Value}{A:Around}{E:VP}
end
def abM:typeLookup (.type "list") "keys"=pure none:=am_miss_of_fast (by first|decide+kernel|rfl)
def QX:entryFor table "dict.update.loop"=some Builtin.«dict.update.loop»:=entryFor_of_tree (by kernel_rfl)
def A9:plainId "dict.update.loop"=true:=by decide+kernel
section
def abN{s:Sh}{a:Addr}{o:Obj}{xs:Array Value}{k:Nat}{Q:Option Value->Shared->Prop}(hx:s.heap.get? a=some o)(hc:o.cls=.type "list")(uo:o.data=.seq xs k)(hd:o.dict=none)(hA:A.handled=none)(h:∀h' tk,(∀b ob,s.heap.get? b=some ob->h'.get? b=some ob)->Q none {s with heap:=h',toks:=tk}):wpAny Ó A (getAttr? Ğ "keys") Q E s:=by
 obtain⟨c,yz,dat,sl⟩:=o;simp only at hc uo hd;subst hc uo hd;obtain⟨hp,g,d,tk,os⟩:=s;have hT:∀ly,(⟨hp,g,d,ly,os⟩:Sh).TypeIs Ğ "list":=λ_=>⟨_,hx,rfl⟩;have abO:=abM;have abP:(["__module__","__name__","__qualname__","__doc__","__annotations__"]:LS).contains "keys"=false:=by decide+kernel
 have hsz:("keys":Str).length+100<=sizeLine:=by first|size_fits|decide+kernel
 have f1:=sub_AttributeError;have f3:=PySem.F.slot_list_getattribute.lookup;have f4:=PySem.F.slot_list_getattribute.bind Ğ;have f5:=am_list_getattr_none;unfold getAttr? getAttrBy? getAttrBy
 repeat (any_goals (first|assumption|exact hT _|((with_reducible show wpAny _ _ (call (Value.builtin "list.__getattribute__") _ _) _ _ _);refine G3 PySem.F.slot_list_getattribute (hT _) am_entry_list_getattribute (PySem.F.args_list_getattribute_2 _ _) (meets_getattribute_miss_list a xs k sl "keys" _ abO abP hsz) ⟨hx,hA,λh' ly e vD=>?_⟩)|wp_step))
 obtain⟨t',u',he⟩:=vD.there;show wpAny _ _ (getattributeRaised _ _ _ _ _ _ _) _ _ _;unfold getattributeRaised
 repeat (any_goals (first|assumption|wp_step))
 all_goals first|exact h _ _ vD.keeps|(dsimp only;repeat (any_goals (first|assumption|exact h _ _ vD.keeps|wp_step)))
theorem abQ{α:Type}{R:Result->Shared->Prop}{S I l:Addr}{items:Array Value}{res:Value}{DD:Heap->List α->Prop}{G:Heap->α->Value->Value->Prop}{st:List α->α->List α}(hh:A.handled=none)(hlI:l≠I)(Ba:S<I)(hSl:S≠l)(dk:∀h h' acc,DD h acc->(∀b o,b<=S->h.get? b=some o->h'.get? b=some o)->DD h' acc) (gk:∀h h' q u y,G h q u y->(∀b o,b<S->h.get? b=some o->h'.get? b=some o)->G h' q u y)(ds:∀(s:Sh)acc q u y(Q:Unit->Shared->Prop)E,G s.heap q u y->DD s.heap acc->acc.length<=sizeLine->(∀h' tk,DD h' (st acc q)->Heap.SameBut S s.heap h'->Q () {s with heap:=h',toks:=tk})->wpAny Ó A.in1 (dictSet S u y) Q E s)(sl:∀acc q,(st acc q).length<=acc.length+1):
  ∀(bI:List α)(i:Nat)(acc:List α)(ix:Int)(t:Tok)(s:Sh),items.size=i+bI.length->acc.length+bI.length<=sizeLine->
   (∀(j:Nat)(q:α),bI[j]? =some q->∃(b:Addr)(u y:Value),items[i+j]? =some (.ref b)/\b<S/\IsTup s.heap b #[u,y]/\G s.heap q u y)->
   s.heap.IsListIter I l i->s.heap.IsList l items->DD s.heap acc->
   (∀h' tk,DD h' (bI.foldl st acc)->(∀b o,b≠S->b≠I->s.heap.get? b=some o->h'.get? b=some o)->R (.ok (.ret res)) {s with heap:=h',toks:=tk})->
   codeAny Ó A (.builtin "dict.update.loop" ⟨[.ref S,.ref I,.int ix t,res],[]⟩) R s:=by
 intro bI;induction bI with
 |nil=>
  intro i acc ix t s hsz DV ht mO hl hm hR;refine OV QX ?_;rw[OW A9 _];refine aP (wpAny_pyNext_list_end (A:=A.in1) hh mO hl (by first|exact apg (C4 hsz)|(simp at hsz;simp;omega)) λh' he=>?_);exact aP (df (df (hR h' s.toks (dk _ _ _ hm λb o hb e=>he b o (fj (pz hb Ba)) e) λb o _ hb e=>he b o hb e)))
 |cons q bI ih=>
  intro i acc ix t s hsz DV ht mO hl hm hR;obtain⟨b,u,y,hb,hbS,abU,hk⟩:=ht 0 q rfl;rw[c7] at hsz DV;refine OV QX ?_;rw[OW A9 _];refine aP (wpAny_pyNext_list_item (x:=.ref b) mO hl (À hb) λh1 abV Bb=>?_);have k1:∀b o,b<=S->s.heap.get? b=some o->h1.get? b=some o:=λb o hb e=>Bb.extBut b o (fj (pz hb Ba)) e;obtain⟨o,ho,hc,n,hd⟩:=abU.extBut Bb.extBut (fj (G6 hbS Ba));refine aP (XH ?_);refine aP (wpAny_tryCatch ?_);unfold Builtin.Dict.pairItems;refine aP (wpAny_typeOf (T:="tuple") ⟨o,ho,hc⟩ ?_);rw[af (by first|decide|rfl|simp)];refine aP (XJ ho hd (df ?_));refine XH (ds _ _ _ _ _ _ _ (gk _ _ _ _ _ hk λb o hb e=>k1 b o (tU hb) e) (dk _ _ _ hm k1) Æ λh2 tk2 DW rY=>?_);have z:=sl acc q;refine df ⟨G8 A9 _,ih (i+1) (st acc q) (ix+1) 0 _ (show items.size=i+1+bI.length by omega) Æ Èb (abV.at λo' e=>rY.extBut I o' (tQ Ba) e) ((hl.extBut Bb.extBut hlI).extBut rY.extBut (dX hSl)) DW λh' tk pF k=>hR h' tk pF λc oc h3 h4 e=>k c oc h3 h4 (rY.extBut c oc h3 (Bb.extBut c oc h4 e))⟩;obtain⟨b',u',y',nj,ID,abW,kT⟩:=ht (j+1) q' (À e);exact⟨b',u',y',by rw[show i+1+j=i+(j+1) by omega];exact nj,ID,(abW.extBut Bb.extBut (fj (G6 ID Ba))).extBut rY.extBut (fj ID),gk _ _ _ _ _ kT λb o hb e=>rY.extBut b o (fj hb) (k1 b o (tU hb) e)⟩
def QY{s:Sh}{l:Addr}{ol:Obj}{items:Array Value}{n:Nat}{α:Type}{prs:List α}{Q:VP}{DD:Heap->List α->Prop}{G:Heap->α->Value->Value->Prop}{st:List α->α->List α}(hh:A.handled=none)(hl:s.heap.get? l=some ol)(hc:ol.cls=.type "list")(hd:ol.dict=none)(uo:ol.data=.seq items n) (hsz:items.size=prs.length) (DV:prs.length<=sizeLine)(d0:DD (s.heap.push {cls:=.type "dict",data:=.dict #[]}) [])(dk:∀h h' acc,DD h acc->(∀b o,b<=s.heap.objs.size->h.get? b=some o->h'.get? b=some o)->DD h' acc) (gk:∀h h' q u y,G h q u y->(∀b o,b<s.heap.objs.size->h.get? b=some o->h'.get? b=some o)->G h' q u y)(ds:∀(s0:Sh)acc q u y(Q:Unit->Shared->Prop)E,G s0.heap q u y->DD s0.heap acc->acc.length<=sizeLine->(∀h' tk,DD h' (st acc q)->Heap.SameBut s.heap.objs.size s0.heap h'->Q () {s0 with heap:=h',toks:=tk})->wpAny Ó A.in1.in1 (dictSet s.heap.objs.size u y) Q E s0)(sl:∀acc q,(st acc q).length<=acc.length+1)(ht:∀(j:Nat)(q:α),prs[j]? =some q->∃(b:Addr)(u y:Value),items[j]? =some (.ref b)/\IsTup s.heap b #[u,y]/\G s.heap q u y)(h:∀h' tk,DD h' (prs.foldl st [])->(∀b o,s.heap.get? b=some o->h'.get? b=some o)->Q ķ {s with heap:=h',toks:=tk}):
  wpAny Ó A (call (.type "dict") [.ref l]) Q E s:=by
 refine callType_codes (Q₁:=λobj s₁=>obj=.ref s.heap.objs.size/\s₁={s with heap:=s.heap.push {cls:=.type "dict",data:=.dict #[]}}) PySem.F.kt_called_dict (PySem.F.kt_typeCall_dict_1 _) PySem.F.entry_dict_init (kt_code_dict_new _ ⟨rfl,rfl⟩) ?_;rintro obj s₁ ⟨rfl,rfl⟩;have QZ:(s.heap.push {cls:=.type "dict",data:=.dict #[]}).DictOf Ät s.heap.objs.size []:=X8 s.heap;have k0:∀b o,s.heap.get? b=some o->(s.heap.push {cls:=.type "dict",data:=.dict #[]}).get? b=some o:=λb o e=>dh _ e;refine⟨QZ.typeIs,PySem.F.args_dict_init_2 _ _,?_⟩;unfold Builtin.«dict.__init__»;refine aP ?_;unfold Builtin.Dict.selfAndRest;refine aP (wpAny_notOrdered_dict QZ.typeIs ?_);show wpAny _ _ (pure (s.heap.objs.size,[Value.ref l])) _ _ _;refine df ?_;show wpAny _ _ (Builtin.Dict.updateFrom "dict.__init__" s.heap.objs.size Äw [] .none) _ _ _;unfold Builtin.Dict.updateFrom;refine aP (wpAny_typeOf (T:="list") ⟨ol,k0 _ _ hl,hc⟩ ?_);rw[af Õ];refine aP (abN (k0 _ _ hl) hc uo hd hh λh1 tk1 DX=>?_);rw[af (show(none:Option Value).isNone=true from rfl)];refine aP (wpAny_rule ?_);have eY:h1.IsList l items:=⟨ol,DX _ _ (k0 _ _ hl),hc,n,uo⟩;have IE:s.heap.objs.size<h1.objs.size:=by
  have e:(s.heap.push {cls:=.type "dict",data:=.dict #[]}).get? s.heap.objs.size=some {cls:=.type "dict",data:=.dict #[]}:=ib _ rfl;exact cZ (DX _ _ e)
 refine aP (XY eY ?_);have k2:∀b o,h1.get? b=some o->(h1.push {cls:=.type "list_iterator",data:=.fields #[.ref l,.int 0 0]}).get? b=some o:=λb o e=>dh _ e;have bQ:l<s.heap.objs.size:=cZ hl;have hhS:=G6 bQ IE;have kk:∀b o,s.heap.get? b=some o->(h1.push {cls:=.type "list_iterator",data:=.fields #[.ref l,.int 0 0]}).get? b=some o:=λb o e=>k2 _ _ (DX _ _ (k0 _ _ e));have gO:=abQ (prog:=prog) (w:=w) (A:=A.in1) (R:=wants (λr s₂=>r=.none/\Q ķ s₂) E) (S:=s.heap.objs.size) (I:=h1.objs.size) (l:=l) (items:=items) (res:=Value.none) hh
  (fj hhS) IE (tQ bQ) dk gk ds sl prs 0 [] 0 0
  {s with heap:=h1.push {cls:=.type "list_iterator",data:=.fields #[.ref l,.int 0 0]},toks:=tk1} (by rw[hsz,wN]) (by rw[rJ,wN];exact DV)
  (λj q e=>by
   obtain⟨b,u,y,e1,e2,e3⟩:=ht j q e;exact⟨b,u,y,by rw[wN];exact e1,e2.lt,e2.keeps λc o z=>kk _ _ z,gk _ _ _ _ _ e3 λc o _ z=>kk _ _ z⟩)
  ⟨_,ib _ rfl,rfl,rfl⟩ (eY.at λo e=>k2 _ _ e) (dk _ _ _ d0 λb o _ e=>k2 _ _ (DX _ _ e))
  (λh' tk pF k=>⟨rfl,h h' tk pF λb o e=>k b o Çs (fj (G6 (cZ e) IE)) (kk _ _ e)⟩)
 first
  |exact df ⟨G8 A9 _,gO⟩
  |exact aP (df (df ⟨G8 A9 _,gO⟩))
end
section
def abZ{pins:bG}{σ:St}{H:Hp}{s:Sh}(I:Ã H s):∀{ps:LA}{kvs:List (Key×V)},Paired (λp kv=>bu X.K H p [kV kv.1,kv.2]) ps kvs->
  ∃prs:List (Key×Value),KV kvs prs/\prs.length=ps.length/\∀(j:Nat)(q:Key×Value),prs[j]? =some q->∃(b:Addr)(u:Value),ps[j]? =some b/\IsTup s.heap b #[u,q.2]/\rP q.1 u=true:=by
 intro ps kvs h0;induction h0 with
 |nil=>exact⟨[],.nil,rfl,λj q e=>by simp at e⟩
 | @cons p kv ps kvs h t ih=>
  obtain⟨prs,r,hl,hp⟩:=ih;obtain⟨aj,rv,ht,_⟩:=I.tuple h;obtain⟨u,y,ei,ru,ry⟩:=vals2 rv;subst ei;refine⟨(kv.1,y)::prs,.cons ⟨rfl,ry⟩ r,by rw[c7,c7,hl],λj q e=>?_⟩;cases j with
  |zero=>
   have e':(kv.1,y)=q:=aN e;subst e';exact⟨p,u,rfl,ht,vC (P:=X.prog) (w:=X.w) ru⟩
  |succ j=>
   obtain⟨b,u',e1,e2,e3⟩:=hp j q (À e);exact⟨b,u',À e1,e2,e3⟩
theorem Q0{ps:LA}:∀{us:LV},bc Áy us->us=ps.map Value.ref:=by
 induction ps with
 |nil=>
  intro us r;rw[lQ] at r;cases r;rfl
 |cons p ps ih=>
  intro us r;rw[a0] at r;cases r with
  |cons h t=>
   cases h;rw[a0,<-ih t]
def ab0(IF:X.calm=true):lD X (.type "dict") (λxs H Q=>∃(a:Addr)(ps:LA)(kvs:List (Key×V)),xs=[.ref a]/\Àv a Áy/\Paired (λp kv=>bu X.K H p [kV kv.1,kv.2]) ps kvs/\
  ∀p,H p=none->Q ĥ (upd H p Åq)):=by
 intro pins s σ H xs us Q I r q;obtain⟨a,ps,kvs,ex,hq,hp,q⟩:=q;subst ex;obtain⟨u,eu,rx⟩:=vals1 r;subst eu;cases rx;obtain⟨aj,rv,pl,hz⟩:=I.list hq;have ei:=Q0 rv;subst ei;rw[aA] at hz;obtain⟨prs,fb,hl,gU⟩:=abZ I hp;obtain⟨o,n,ho,hc,hd,uo⟩:=pl;refine QY (prs:=prs) (DD:=λh=>h.DictOf ą s.heap.objs.size) (G:=λ_ q u y=>y=q.2/\rP q.1 u=true) (st:=λa q=>stored a q.1 q.2) (I.ok.hd IF) ho hc hd uo (by simp[hl]) Æ (X8 s.heap) (λ_ _ _ d k=>d.at λo e=>k _ o (bJ _) e) (λ_ _ _ _ _ g _=>g) (λ_ _ _ _ _ _ _ g d hz k=>g.1▸ wpAny_dictSet_pairs (knd:=eW X.prog X.w) g.2 d (λh'=>k h' _) hz) (λa q=>stored_length_le a q.1 q.2) Èb λh' tk pF k=>?_
 ·obtain⟨b,u,e1,e2,e3⟩:=gU j q' e;exact⟨b,u,_,by simp_all,e2,rfl,e3⟩
 ·have hm:(s.heap.objs.size==sysModules)=false:=wK.mpr (tQ I.big);have cK:(um [] kvs).length<=sizeLine:=by
   refine gQ (abG kvs []) ?_;rw[rJ,wN,fb.length,hl];omega
  exact⟨.ref s.heap.objs.size,ğ Åq,I.laid (t':=tk) k (bJ _) (show ft X.prog X.w _ _ _ Åq from⟨cK,hm,merged [] prs,KV.merge fb .nil,pF⟩),rfl,q _ Ī⟩
end
section
variable{X:Cx}{pins:bG}{σ:St}{H:Hp}{s:Sh}{h':Heap}
def Inv.ab1{t':Nat}{ch:LA}(I:Ã H s)(k:∀b o,b∉ch->s.heap.get? b=some o->h'.get? b=some o)(hf:∀b∈ch,Ŀ H b):Ã H {s with heap:=h',toks:=t'}:=by
 have vg:∀b u,H b=some u->b∉ch:=λb u e z=>by
  have q:=(hf b z).1;simp_all
 refine I.step (g':=s.gens) (d':=s.drawn) (ch:=ch) (λb hb=>⟨(hf b hb).2.2.2.1,(hf b hb).2.1,(hf b hb).2.2.2.2.1,(hf b hb).2.2.2.2.2⟩) (λb o _ _ hc e _=>k b o hc e) (λb o _ _ hc e _=>⟨o.slots,k b o hc e⟩)
  (λ_ _ _ _ n=>n) (λb o hc e=>⟨o,k b o hc e⟩) (λ_ _ e=>e) (λ_ _ _ e=>e) (λb ps e=>⟨#[],by rw[e];simp⟩) Åz (λb u e=>?_) I.bare
 ·obtain⟨o,es,ep,ho,r⟩:=hm;exact⟨o,es,ep,k _ o (λz=>(hf _ z).2.1 rfl) ho,r⟩
 ·refine(I.ax b u e).m4 Áu (λ_ q=>q) λ_ _ q=>q;rcases hc with z|z
  ·rw[z];exact vg b u e
  ·exact vg c _ z
def Inv.ab2{t':Nat}{ch:LA}{T:Addr}{ob:HO}(I:Ã H s)(k:∀b o,b∉ch->s.heap.get? b=some o->h'.get? b=some o)(hf:∀b∈ch,Ŀ H b)(hT:s.heap.objs.size<=T)(new:Àa (Ϛ ob) h' T ob):Ã (Ϛ ob) {s with heap:=h',toks:=t'}:=by
 have hn:H T=none:=I.ax.fresh hT;have vg:∀b u,H b=some u->b∉ch:=λb u e z=>by
  have q:=(hf b z).1;simp_all
 refine I.step (g':=s.gens) (d':=s.drawn) (ch:=ch) (λb hb=>⟨(hf b hb).2.2.2.1,(hf b hb).2.1,(hf b hb).2.2.2.2.1,(hf b hb).2.2.2.2.2⟩) (λb o _ _ hc e _=>k b o hc e) (λb o _ _ hc e _=>⟨o.slots,k b o hc e⟩)
  (λb o _ e n=>?_) (λb o hc e=>⟨o,k b o hc e⟩) (λb xs e=>?_) (λb o u e=>?_) (λb ps e=>⟨#[],?_⟩) Åz (λb u e=>?_) I.bare
 ·rw[ao (fj (iq (cZ e) hT))];exact n
 ·rw[ao (eK e hn)];exact e
 ·rw[ao (eK e hn)];exact e
 ·rw[ao (eK e hn),e];simp
 ·obtain⟨o,es,ep,ho,r⟩:=hm;exact⟨o,es,ep,k _ o (λz=>(hf _ z).2.1 rfl) ho,r⟩
 ·by_cases hb:b=T
  ·subst hb;rw[aq] at e;cases e;exact new
  ·rw[ao hb] at e;refine(I.ax b u e).m4 Áu (λc q=>by rw[ao Äk];exact q) λc xs q=>by rw[ao Äk];exact q
   rcases hc with z|z
   ·rw[z];exact vg b u e
   ·exact vg c _ z
def Inv.lock(I:Ã H s)(h:H d=some u)(mu:ub Âm):∃od,Ã Æe s:=by
 have x:=I.ax d u h;have ex:∃od,s.heap.get? d=some od:=by
  cases u with
  |lst xs=>obtain⟨_,_,_,_,e⟩:=x;exact⟨_,e⟩
  |dK kvs=>obtain⟨_,_,_,_,o,_,_,e,_⟩:=x;exact⟨o,e⟩
  |dT kvs=>obtain⟨_,_,_,_,o,_,_,e,_⟩:=x;exact⟨o,e⟩
  |set S n=>obtain⟨o,_,_,_,e,_⟩:=x;exact⟨o,e⟩
  |ins C dx fs=>obtain⟨_,_,_,e,_⟩:=x;exact⟨_,e⟩
  |ext φ=>obtain⟨_,⟨_,e⟩,_⟩:=x;exact⟨_,e⟩
  |_=>exact False.elim mu
 obtain⟨od,e⟩:=ex;have new:Àa Æe s.heap d ſ:=by
  refine⟨e,x.m4 Ãv (λb q=>?_) λb xs q=>?_⟩
  ·rw[ao (λz=>by rw[z,h] at q;cases q;exact mu)];exact q
  ·rw[ao (λz=>by rw[z,h] at q;cases q;exact mu)];exact q
 exact⟨od,I.write (x:=d) (e:=d) (t':=s.toks) (h':=s.heap) É Ĉ Ãv ⟨od,e⟩ new⟩
def Inv.Bc(I:Ã H s)(h:H d=some u)(mu:ub Âm):∀o' u',X.qB d≠some (.cu o' u'):=λo' u' e=>by
 have q:=I.base.m5 d o' u' e;rw[h] at q;cases q;exact mu
def Inv.unlock(I:Ã H s)(h:H d=some ſ)(hn:∀o' u',X.qB d≠some (.cu o' u')):Ã (upd H d u) s:=by
 have yT:∀b o,H b=some o->(∀o' u',o≠ .cu o' u')->b≠d:=λb o e aQ z=>by
  grind
 have neN:∀b,H b=none->b≠d:=λb e z=>by rw[z,h] at e;cases e
 refine⟨I.ok,I.os,I.bare,⟨I.base.keep,I.base.slot,λb o e n hx=>?_,I.base.there,λb xs e=>?_,λb o x e=>?_,λb ps e=>?_⟩,I.loc,I.cell,?_,λx c e=>?_,λp hp=>?_,λb o e=>?_,I.len⟩
 ·rw[ao (neN b Ϣ)];exact I.base.free b o e n hx
 ·have q:=I.base.pA b xs e;rw[ao (yT b _ q (λ_ _ z=>nomatch z))];exact q
 ·have q:=I.base.m5 b o x e;rw[ao (λz=>by simp_all)];exact q
 ·obtain⟨m,q⟩:=I.base.pB b ps e;exact⟨m,by rw[ao (yT b _ q (λ_ _ z=>nomatch z))];exact q⟩
 ·rw[ao (neN _ I.free)];exact I.free
 ·rw[ao (neN c Ça)];exact I.kH x c e
 ·obtain⟨e,n,r⟩:=I.pin p hp;exact⟨e,by rw[ao (neN _ n)];exact n,r⟩
 ·by_cases hb:b=d
  ·rw[hb,aq] at e;cases e;rw[hb];obtain⟨_,x⟩:=I.ax d _ h;exact x.m4 (λc v _ q=>q) (λc q=>by rw[ao (yT c _ q (λ_ _ z=>nomatch z))];exact q) λc xs q=>by rw[ao (yT c _ q (λ_ _ z=>nomatch z))];exact q
  ·rw[ao hb] at e;exact(I.ax b o e).m4 (λc v _ q=>q) (λc q=>by rw[ao (yT c _ q (λ_ _ z=>nomatch z))];exact q) λc xs q=>by rw[ao (yT c _ q (λ_ _ z=>nomatch z))];exact q
end
def ab3(t:TS):TS:=λD σ H=>∃d u,H d=some u/\ub Âm/\∀od,t ⟨λσ' H'=>H' d=some ſ/\D.nx σ' Ãi,λv H'=>H' d=some ſ/\D.rt v Ãi,λσ' H'=>H' d=some ſ/\D.bk σ' Ãi,λσ' H'=>H' d=some ſ/\D.ct σ' Ãi⟩ σ Æe
def ab4(t:TE):TE:=λσ H Q=>∃d u,H d=some u/\ub Âm/\∀od,t σ Æe λv H'=>H' d=some ſ/\Q v Ãi
section
def Q1{st:Stmt}{t:TS}(h:PS X st t):PS X st (ab3 t):=by
 intro pins s σ H D I hw;obtain⟨d,u,hd,mu,hw⟩:=hw;obtain⟨od,I1⟩:=I.lock hd mu;refine aK (h pins s σ _ _ I1 (hw od)) λf s1 q=>?_;cases f with
 |next=>obtain⟨σ',H',I2,e,q⟩:=q;exact⟨σ',_,I2.unlock e Ãr,q⟩
 |brk=>obtain⟨σ',H',I2,e,q⟩:=q;exact⟨σ',_,I2.unlock e Ãr,q⟩
 |cont=>obtain⟨σ',H',I2,e,q⟩:=q;exact⟨σ',_,I2.unlock e Ãr,q⟩
 |ret v=>obtain⟨x,σ',H',I2,r,e,q⟩:=q;exact⟨x,σ',_,I2.unlock e Ãr,r,q⟩
def ab5(h:Ϝ t):Ϝ (ab4 t):=by
 intro pins s σ H Q I hw;obtain⟨d,u,hd,mu,hw⟩:=hw;obtain⟨od,I1⟩:=I.lock hd mu;refine aK (h pins s σ _ _ I1 (hw od)) λv s1 ⟨x,H1,I2,r,e2,q⟩=>?_;exact⟨x,_,I2.unlock e2 Ãr,r,q⟩
def DY{tg:Expr}{pins:bG}{σ:St}{H:Hp}{s:Sh}{R:It->Hp->Prop}{J:It}{tn:Nat->Heap->Prop}{tk:Nat}(I:Ã H s)(o:Obj)(T:Turn X.prog X.w X.K tg J [s.heap.objs.size] s.heap.objs.size tn) (st:tn 0 (s.heap.push o)) (q:R J H):AQ X pins σ tg R ķ {s with heap:=s.heap.push o,toks:=tk}:=by
 refine⟨s.heap.objs.size,[s.heap.objs.size],tn,J,H,rfl,I.kept λb ob e=>dh _ e,T,st,λb hb=>?_,q⟩;have e:b=s.heap.objs.size:=À hb
 subst e;exact I.vo (bJ _) Ī
end
def Bd(x:Str):It:=⟨λi _=>i<x.cps.size,λi H v H'=>H'=H/\∃c,x.cps[i]? =some c/\v=.str ⟨#[c]⟩,λi _=>x.cps.size<=i⟩
def Q2{P:Pg}{w:Wd}{K:FR}{tg:Expr}(it:Addr)(x:Str)(t:Tok)(ty:String)(r9:ty="str_ascii_iterator"\/ty="str_iterator"):
  Turn P w K tg (Bd x) [it] it (λi h=>h.IsStrIter it ty x t i) where
 mem:=by simp
 obj:=λi h st b hb=>by
  have e:b=it:=À hb
  subst e;obtain⟨o,e,c,d⟩:=st;exact⟨o,e,λv z=>by rw[d] at z;cases z⟩
 keep:=λi h h' st k=>let ⟨o,ho,r⟩:=st;⟨o,k it Ä o ho,r⟩
 item:=by
  show Ô;subst hP hw hK;show ë;have W:Walks X.prog X.w X.A it [it] [it] x.cps.size (SignAt x) (λi h=>h.IsStrIter it ty x t i):=by
   rcases r9 with e|e
   ·rw[e];exact Walks.strAscii ć it x t
   ·rw[e];exact Walks.strWide ć it x t
  have A1:["enumerate","zip","dict_itemiterator","dict_reverseitemiterator","odict_iterator","itertools.zip_longest","itertools.pairwise"].contains ty=false:=by
   rcases r9 with e|e
   ·rw[e];decide
   ·rw[e];decide
  refine W.item i s _ _ hg st λv h' tk hv ou kk=>?_;obtain⟨c,u,jk,rfl⟩:=hv;have I1:Ã H {s with heap:=h',toks:=tk}:=I.turned (λb o hb e=>kk b o (À hb) e) f0 f1 f3 f4 f5;obtain⟨oi,e,cc,dd⟩:=id ou;exact⟨_,rfl,DA (s:={s with heap:=h',toks:=tk}) e cc dd A1 ⟨.str ⟨#[c]⟩,H,I1,⟨u,rfl⟩,⟨rfl,c,jk,rfl⟩,ou,λb hb=>(hf b hb).1⟩⟩
 done:=by
  show Ô;subst hP hw hK;show ë;have hx:x.cps[i]? =none:=apg hg;rcases r9 with e|e
  ·rw[e] at st;exact wpAny_pyNext_ascii_end ć st hx λh' eb=>⟨rfl,I.turned (t':=s.toks) Ϗ f0 f1 f3 f4 f5⟩
  ·rw[e] at st;exact wpAny_pyNext_wide_end ć st hx λh' eb=>⟨rfl,I.turned (t':=s.toks) Ϗ f0 f1 f3 f4 f5⟩
 self:=λA i s Q E st h=>by
  rcases r9 with e|e
  ·rw[e] at st;exact wpAny_pyIter_striter_ascii st h
  ·rw[e] at st;exact wpAny_pyIter_striter_wide st h
def ab6(te:TE):TI:=λσ H R=>te σ H λv H1=>∃x,v=.str x/\R (Bd x) H1
def ab7{X:Cx}{tg e:Expr}{te:TE}(he:Ϝ te):PI X tg e (ab6 te):=by
 intro pins s σ H R I h;refine aK (he pins s σ H _ I h) λv s1 ⟨y,H1,I1,r1,x,ex,q⟩=>?_;subst ex;obtain⟨t,rfl⟩:=r1;cases ha:x.cps.all (· <128)
 ·exact wpAny_pyIter_wide ha (DY (tk:=s1.toks) I1 _ (Q2 _ x t "str_iterator" Çf) ⟨_,ib _ rfl,rfl,rfl⟩ q)
 ·exact wpAny_pyIter_ascii ha (DY (tk:=s1.toks) I1 _ (Q2 _ x t "str_ascii_iterator" Ĉ) ⟨_,ib _ rfl,rfl,rfl⟩ q)
theorem Q3{κ:Type}{kvs:List (κ×V)}{vs:List (κ×Value)}(h:KV kvs vs):∀{i:Nat}{k:κ}{v:V},kvs[i]? =some (k,v)->∃u,vs[i]? =some (k,u)/\RelV v u:=by
 unfold KV at h;induction h with
 |nil=>intro i k v e;simp at e
 | @cons a b l₁ l₂ r t ih=>
  intro i k v e;cases i with
  |zero=>
   simp only[api,Option.some.injEq] at e;subst e;refine⟨b.2,?_,r.2⟩;simp only[api];exact cE some (Prod.ext r.1.symm rfl)
  |succ j=>
   simp only[apj] at e⊢;exact ih e
def ab8(h:rP k u=true):RelV (kV k) u:=by
 rcases rQ h with ⟨i,t,rfl,rfl⟩|⟨x,t,rfl,rfl⟩
 ·exact⟨t,rfl⟩
 ·exact⟨t,rfl⟩
section
variable{X:Cx}{pins:bG}{σ:St}{H:Hp}{s:Sh}{d:Addr}{o:Obj}
def Inv.yU(I:Ã H s)(h:H d=some ϣ):
  (d==sysModules)=false/\s.heap.get? d=some o/\o.ExactDict/\∃(es:Array DictEntry)(ep:Nat)(vs:List (Key×Value)),o.data=.dict es ep/\es.size=kvs.length/\KV kvs vs/\s.heap.DictAt ą d vs ep:=by
 obtain⟨hd,z,hs,vs,kv,o',es,ep,ho,hx,nq,r⟩:=I.ax d _ h;rw[hd] at ho;cases ho;refine⟨hs,hd,hx,es,ep,vs,nq,?_,kv,o,es,hd,hx,nq,r⟩;have l1:=r.2.1.length;have l2:kvs.length=vs.length:=Paired.length kv;simp_all
end
def Be(d:Addr)(o:Obj)(kvs:List (Key×V)):It:=
 ⟨λi H=>H d=some ϣ/\i<kvs.length,λi H x H'=>H'=H/\∃k,kvs[i]? =some (k,x),λi H=>H d=some ϣ/\kvs.length<=i⟩
def vE(d:Addr)(o:Obj)(kvs:List (Key×V)):It:=
 ⟨λi H=>H d=some ϣ/\i<kvs.length,λi H x H'=>∃T k v,kvs[i]? =some (k,v)/\x=.ref T/\H T=none/\H'=upd H T Çm,λi H=>H d=some ϣ/\kvs.length<=i⟩
def DZ{o:Obj}{es oq:Array DictEntry}{ep rT:Nat}(h:o.data=.dict es ep)(h':o.data=.dict oq rT):oq=es/\rT=ep:=by
 simp_all
section
variable{P:Pg}{w:Wd}{K:FR}{tg:Expr}{d:Addr}{o:Obj}{es:Array DictEntry}{ep:Nat}
def ab9{kvs:List (Key×V)}(it:Addr)(Bf:o.data=.dict es ep):Turn P w K tg (Be d o kvs) [it] it (λi h=>h.IsValIter it d i kvs.length ep) where
 mem:=by simp
 obj:=λi h st b hb=>by
  have e:b=it:=À hb
  subst e;obtain⟨oi,e,c,dd⟩:=st;exact⟨oi,e,λv z=>by rw[dd] at z;cases z⟩
 keep:=λi h h' st k=>st.at λoi e=>k it Ä oi e
 item:=by
  show Ô;subst hP hw hK;obtain⟨hd,hi⟩:=hg;show ë;obtain⟨hs,Bg,hx,oq,rT,vs,nq,hsz,kv,hm⟩:=I.yU hd;obtain⟨rfl,rfl⟩:=DZ Bf nq;obtain⟨⟨k,v⟩,Bh⟩:∃p,kvs[i]? =some p:=⟨kvs[i],dm hi⟩;obtain⟨u,hu,ru⟩:=Q3 kv Bh;have hl:kvs.length=vs.length:=Paired.length kv;rw[hl] at st;refine wpAny_pyNext_values_item st hm hu λh' ou sb=>?_;have I1:Ã H {s with heap:=h'}:=I.turned (t':=s.toks) (λb ob hb e=>(sb.2 b hb).trans e) f0 f1 f3 f4 f5;obtain⟨oi,e,c,dd⟩:=id ou;refine⟨u,rfl,DA (s:={s with heap:=h'}) e c dd Ú ⟨v,H,I1,ru,⟨rfl,k,Bh⟩,?_,λb hb=>(hf b hb).1⟩⟩;show h'.IsValIter it d (i+1) kvs.length _;rw[hl];exact ou
 done:=by
  show Ô;subst hP hw hK;obtain⟨hd,hi⟩:=hg;show ë;obtain⟨hs,Bg,hx,oq,rT,vs,nq,hsz,kv,hm⟩:=I.yU hd;obtain⟨rfl,rfl⟩:=DZ Bf nq;have hl:kvs.length=vs.length:=Paired.length kv;rw[hl] at st;exact wpAny_pyNext_values_end ć st hm (wM Æ) λh' eb=>⟨rfl,I.turned (t':=s.toks) (λb ob hb e=>eb b ob hb e) f0 f1 f3 f4 f5⟩
 self:=λA i s Q E st h=>wpAny_pyIter_valiter st h
def D0{X:Cx}{fp:LA}(st:∀b∈fp,∃o,s.heap.get? b=some o/\∀v,o.data≠ .cell v)(hf:∀b∈fp,Ŀ H b){pN:Heap}{t':Nat}{x y:V}{u v:Value}(k:∀b o,b∉fp->s.heap.get? b=some o->pN.get? b=some o)(I:Ã H s)(hT:pN.get? s.heap.objs.size=some {cls:=.type "tuple",data:=.seq #[u,v]}) (ru:RelV x u) (rv:RelV y v):Ã (ğ Çb) {s with heap:=pN,toks:=t'}/\∀b∈fp,(ğ Çb) b=none:=
 ⟨I.ab2 k hf (bJ _) ⟨by show 2<=sizeLine;decide,[u,v],.cons ru (.cons rv .nil),_,hT,rfl,_,rfl⟩,λb hb=>by
  obtain⟨o,e,_⟩:=st b hb;rw[ao Çs];exact(hf b hb).1⟩
def Q4(st:∃ok ov,IsItemIter h it d i n ep ok ov):∀b∈[it],∃o,h.get? b=some o/\∀v,o.data≠ .cell v:=λb hb=>by
 obtain rfl:b=it:=À hb
 obtain⟨ok,ov,e⟩:=st;exact⟨_,e,λv z=>nomatch z⟩
def aca{kvs:List (Key×V)}{mQ:List Expr}{kk:Nat}{l7:Pos}(it:Addr)(Bf:o.data=.dict es ep):
  Turn P w K ī (vE d o kvs) [it] it (λi h=>∃ok ov,IsItemIter h it d i kvs.length ep ok ov) where
 mem:=by simp
 obj:=λi h=>Q4
 keep:=λi h h' st k=>let ⟨ok,ov,e⟩:=st;⟨ok,ov,k it Ä _ e⟩
 item:=by
  show Ô;subst hP hw hK;obtain⟨hd,hi⟩:=hg;obtain⟨hs,Bg,hx,oq,rT,vs,nq,hsz,kv,hm⟩:=I.yU hd;obtain⟨rfl,rfl⟩:=DZ Bf nq;obtain⟨⟨k,v⟩,Bh⟩:∃p,kvs[i]? =some p:=⟨kvs[i],dm hi⟩;obtain⟨u,hu,ru⟩:=Q3 kv Bh;have hl:kvs.length=vs.length:=Paired.length kv;have ob:=Q4 st;obtain⟨ok,ov,he⟩:=st;rw[hl] at he;have bQ:it<s.heap.objs.size:=cZ he;refine wpAny_pyNext_items_item he hm hu λgO h' HX ho hT hz hk=>?_;refine⟨_,rfl,wpAny_letOwnedTupleGo_items (s:={s with heap:=h'}) ho λpN Bi sb=>?_⟩;have uq:pN.get? s.heap.objs.size=some {cls:=.type "tuple",data:=.seq #[gO,u]}:=(sb.2 _ (tQ bQ)).trans hT;have ⟨I1,n1⟩:=D0 (t':=s.toks) ob hf (λb ob hb e=>(sb.2 b (À hb)).trans (hk b ob (À hb) e)) I uq (ab8 (show rP k gO=true from HX)) ru;exact⟨.ref s.heap.objs.size,_,I1,rfl,⟨_,k,v,Bh,rfl,I.ax.fresh (bJ _),rfl⟩,⟨gO,u,by rw[hl];exact Bi⟩,n1⟩
 done:=by
  show Ô;subst hP hw hK;obtain⟨hd,hi⟩:=hg;show ë;obtain⟨hs,Bg,hx,oq,rT,vs,nq,hsz,kv,hm⟩:=I.yU hd;obtain⟨rfl,rfl⟩:=DZ Bf nq;have hl:kvs.length=vs.length:=Paired.length kv;obtain⟨ok,ov,he⟩:=st;rw[hl] at he;exact wpAny_pyNext_items_end ć he hm (wM Æ) λh' eb=>⟨rfl,I.turned (t':=s.toks) (λb ob hb e=>eb b ob hb e) f0 f1 f3 f4 f5⟩
 self:=λA i s Q E st h=>let ⟨_,_,e⟩:=st;PySem.W.kcp_self e h
end
def acb(td:TE):TI:=λσ H R=>td σ H λx H1=>∃d o kvs,x=.ref d/\H1 d=some ϣ/\R (Be d o kvs) H1
def acd(td:TE):TI:=λσ H R=>td σ H λx H1=>∃d o kvs,x=.ref d/\H1 d=some ϣ/\R (vE d o kvs) H1
section
variable{X:Cx}{tg e:Expr}{td:TE}{iT fV:Pos}
def ace(he:Ϝ td)(t9:attributeBase e "values" X.env ϓ=eval e X.env:=by rfl)(xi:(iT.endLine==fV.line)=true:=by rfl):PI X tg (.Call (.Attribute e "values" iT) [] [] fV) (acb td):=by
 intro pins s σ H R I h;refine G7 (T:="dict") (id:="dict.values") t9 rfl xi F.plainAttrs_dict F.slot_dict_values F.type_dict_values (aK (he pins s σ H _ I h) λu s1 ⟨x,H1,I1,rx,d,o,kvs,ex,hd,q⟩=>?_);subst ex;obtain rfl:u=Value.ref d:=rx;obtain⟨hs,Bg,hx,es,ep,vs,nq,hsz,kv,hm⟩:=I1.yU hd;have hl:kvs.length=vs.length:=Paired.length kv;refine⟨hm.dictOf.typeIs,hm.dictOf.mapOf.noDict,?_⟩;have I2:Ã H1 {s1 with heap:=s1.heap.push {cls:=.type "dict_values",data:=.fields #[.ref d]}}:=I1.kept (t':=s1.toks) λb ob q=>dh _ q;have fin:wpAny È X.A (pyIter (.ref s1.heap.objs.size)) Äo X.xe {s1 with heap:=s1.heap.push {cls:=.type "dict_values",data:=.fields #[.ref d]}}:=by
  refine wpAny_pyIter_values (d:=d) (knd:=eW X.prog X.w) ⟨_,ib _ rfl,rfl,rfl⟩ (hm.push _) (DY (tk:=s1.toks) I2 _ (ab9 _ nq) ⟨_,ib _ rfl,rfl,?_⟩ q);simp_all
 show wpAny _ _ (callWith fV (.builtin "dict.values") [.ref d] [] []) _ X.xe s1;exact method_meetsIn F.slot_dict_values F.entry_dict_values rfl (PySem.evalArgs_none ⟨rfl,hm.dictOf.typeIs,F.args_dict_values_1 _,_,meets_dict_values ą d hs,⟨vs,hm.dictOf⟩,fin⟩)
def Q5{mQ:List Expr}{kk:Nat}{l7:Pos}(he:Ϝ td)(t9:attributeBase e "items" X.env ϓ=eval e X.env:=by rfl)(xi:(iT.endLine==fV.line)=true:=by rfl):
  PI X ī (.Call (.Attribute e "items" iT) [] [] fV) (acd td):=by
 intro pins s σ H R I h;refine G7 (T:="dict") (id:="dict.items") t9 rfl xi F.plainAttrs_dict F.slot_dict_items F.type_dict_items (aK (he pins s σ H _ I h) λu s1 ⟨x,H1,I1,rx,d,o,kvs,ex,hd,q⟩=>?_);subst ex;obtain rfl:u=Value.ref d:=rx;obtain⟨hs,Bg,hx,es,ep,vs,nq,hsz,kv,hm⟩:=I1.yU hd;have hl:kvs.length=vs.length:=Paired.length kv;refine⟨hm.dictOf.typeIs,hm.dictOf.mapOf.noDict,?_⟩;have I2:Ã H1 {s1 with heap:=s1.heap.push {cls:=.type "dict_items",data:=.fields #[.ref d]}}:=I1.kept (t':=s1.toks) λb ob q=>dh _ q;have fin:wpAny È X.A (pyIter (.ref s1.heap.objs.size)) (AQ X pins σ ī R) X.xe {s1 with heap:=s1.heap.push {cls:=.type "dict_items",data:=.fields #[.ref d]}}:=by
  refine wpAny_pyIter_items (d:=d) (knd:=eW X.prog X.w) ⟨_,ib _ rfl,rfl,rfl⟩ (hm.push _) (DY (tk:=s1.toks) I2 _ (aca _ nq) ⟨.none,.none,?_⟩ q);rw[hl];exact ib _ rfl
 show wpAny _ _ (callWith fV (.builtin "dict.items") [.ref d] [] []) _ X.xe s1;exact method_meetsIn F.slot_dict_items F.entry_dict_items rfl (PySem.evalArgs_none ⟨rfl,hm.dictOf.typeIs,F.args_dict_items_1 _,_,meets_dict_items ą d hs,⟨vs,hm.dictOf⟩,fin⟩)
end
def vF(K:FR)(a:Addr):It:=
 ⟨λi H=>∃(xs:au)(x:V),â a xs/\xs[i]? =some x,λi H v H'=>∃T x,v=.ref T/\H T=none/\H'=upd H T (.tup [.int (i:Nat),x])/\∀xs,â a xs->xs[i]? =some x,λi H=>∃xs:au,â a xs/\xs.length<=i⟩
def D1{e it:Addr}{Z:Prop}(st:(∃iC,IsEnum h e it c iC)/\(∃o,h.get? it=some o/\o.cls=C/\o.data=.fields vs)/\Z):∀b∈[e,it],∃o,h.get? b=some o/\∀v,o.data≠ .cell v:=λb hb=>by
 obtain⟨⟨iC,he⟩,⟨o,ho,hc,hd⟩,_⟩:=st;have e':b=e\/b=it:=À hb
 rcases e' with rfl|rfl
 ·exact⟨_,he,λv q=>nomatch q⟩
 ·exact⟨o,ho,λv q=>by rw[hd] at q;cases q⟩
def acf{P:Pg}{w:Wd}{K:FR}{mQ:List Expr}{kk:Nat}{l7:Pos}(a e it:Addr):
  Turn P w K ī (vF K a) [e,it] e (λi h=>(∃iC,IsEnum h e it ((i:Nat):Int) iC)/\h.IsListIter it a i/\e≠it) where
 mem:=by simp
 obj:=λi h=>D1
 keep:=λi h h' st k=>let ⟨⟨iC,he⟩,hi,aQ⟩:=st;⟨⟨iC,k e Ä _ he⟩,hi.at λo q=>k it Ä o q,aQ⟩
 item:=by
  show Ô;subst hP hw hK;have ob:=D1 st;obtain⟨⟨iC,he⟩,mO,aQ⟩:=st;obtain⟨xs,x,hq,hx⟩:=hg;obtain⟨aj,rv,p,hz⟩:=I.list hq;obtain⟨u,hu,ru⟩:=rv.get hx;have IG:e<s.heap.objs.size:=cZ he;refine wpAny_pyNext_enum_item he mO p.isList (x:=u) (À hu) aQ λh' ho Hy hT hsz hk=>?_;refine⟨_,rfl,apn (s:={s with heap:=h',toks:=s.toks+1}) ho λpN Bi sb=>?_⟩;have uq:pN.get? s.heap.objs.size=some {cls:=.type "tuple",data:=.seq #[.int i s.toks,u]}:=(sb.2 _ (tQ IG)).trans hT;have ⟨I1,n1⟩:=D0 (x:=.int (i:Nat)) (t':=s.toks+1) ob hf (λb ob hb q=>(sb.2 b (λz=>hb (by simp[z]))).trans (hk b ob (λz=>hb (by simp[z])) (λz=>hb (by simp[z])) q)) I uq ⟨_,rfl⟩ ru;exact⟨.ref s.heap.objs.size,_,I1,rfl,⟨_,x,rfl,I.ax.fresh (bJ _),rfl,λys hy=>by rw[I.AL hy hq];exact hx⟩,⟨⟨u,by rw[show((i+1:Nat):Int)=(i:Int)+1 by omega];exact Bi⟩,Hy.at λo q=>(sb.2 it Åh).trans q,aQ⟩,n1⟩
 done:=by
  show Ô;subst hP hw hK;obtain⟨⟨iC,he⟩,mO,aQ⟩:=st;obtain⟨xs,hq,hx⟩:=hg;obtain⟨aj,rv,p,hz⟩:=I.list hq;show ë;have hl:=rv.length;exact wpAny_pyNext_enum_end ć he mO p.isList (by simp;omega) λh' eb=>⟨rfl,I.turned (t':=s.toks) (λb o hb q=>eb b o hb q) f0 f1 f3 f4 f5⟩
 self:=λA i s Q E st h=>let ⟨⟨_,he⟩,_⟩:=st;OX he h
def acg(K:FR)(ta:TA):TI:=λσ H R=>ta σ H λvs H1=>∃a xs,vs=[.ref a]/\aa K H1 a xs/\R (vF K a) H1
def kY(hg:Gl X "enumerate")(hm:X.mg "enumerate"=none)(ha:PA X [e] ta)(hs:starEach [e] X.env=[(false,eval e X.env)]:=by rfl):
  PI X ī (.Call (.Name "enumerate" p) [e] [] pos) (acg X.K ta):=by
 intro pins s σ H R I h;refine Call_ (Àh boot_enumerate (C9 (aK (ha pos pins s σ H _ I h) λus s1 ⟨vs,H1,I1,r1,q1⟩=>?_) hs rfl));obtain⟨a,xs,ex,hq,q⟩:=q1;subst ex;cases r1 with
 |cons r rr=>
  cases rr;cases r;obtain⟨aj,rv,p',hz⟩:=I1.list hq;refine call_enumerate_list p'.isList λh' he mO hsz hk=>OX he ?_;have I2:Ã H1 {s1 with heap:=h'}:=I1.kept (t':=s1.toks) hk;refine⟨s1.heap.objs.size+1,[s1.heap.objs.size+1,s1.heap.objs.size],_,_,H1,rfl,I2,acf a (s1.heap.objs.size+1) s1.heap.objs.size,⟨⟨.none,he⟩,mO,Nat.succ_ne_self _⟩,λb hb=>?_,q⟩;have e':b=s1.heap.objs.size+1\/b=s1.heap.objs.size:=À hb
  have j7:s1.heap.objs.size<=b:=by
   grind
  exact I1.vo j7 Æz
def ach:bootBuiltins "zip"=some (.type "zip"):=by decide+kernel
def Bj(K:FR)(a b:Addr):It:=
 ⟨λi H=>∃(xs ys:au)(x y:V),â a xs/\â b ys/\xs[i]? =some x/\ys[i]? =some y,
  λi H v H'=>∃T x y,v=.ref T/\H T=none/\H'=upd H T Çb/\(∀xs,â a xs->xs[i]? =some x)/\∀ys,â b ys->ys[i]? =some y,
  λi H=>∃xs ys:au,â a xs/\â b ys/\(xs.length<=i\/ys.length<=i)⟩
def Q6{z TI TO i1 i2:Addr}(st:IsZip h z TI TO .none/\IsPair h TI (.ref i1) (.ref i2)/\(∃x y,IsPair h TO x y)/\h.IsListIter i1 a i/\h.IsListIter i2 b i):∀b∈[z,TI,TO,i1,i2],∃o,h.get? b=some o/\∀v,o.data≠ .cell v:=λc hc=>by
 obtain⟨hz,sk,⟨x,y,ur⟩,⟨o1,e1,_,d1⟩,⟨o2,e2,_,d2⟩⟩:=st;have e':c=z\/c=TI\/c=TO\/c=i1\/c=i2:=À hc
 rcases e' with rfl|rfl|rfl|rfl|rfl
 ·exact⟨_,hz,λv q=>nomatch q⟩
 ·exact⟨_,sk,λv q=>nomatch q⟩
 ·exact⟨_,ur,λv q=>nomatch q⟩
 ·exact⟨o1,e1,λv q=>by rw[d1] at q;cases q⟩
 ·exact⟨o2,e2,λv q=>by rw[d2] at q;cases q⟩
def aci{P:Pg}{w:Wd}{K:FR}{mQ:List Expr}{kk:Nat}{l7:Pos}{a b z TI TO i1 i2:Addr}(D:ZipApart z TI TO i1 i2 a b):
  Turn P w K ī (Bj K a b) [z,TI,TO,i1,i2] z (λi h=>IsZip h z TI TO .none/\IsPair h TI (.ref i1) (.ref i2)/\(∃x y,IsPair h TO x y)/\h.IsListIter i1 a i/\h.IsListIter i2 b i) where
 mem:=by simp
 obj:=λi h=>Q6
 keep:=λi h h' st k=>by
  obtain⟨hz,sk,⟨x,y,ur⟩,h1,h2⟩:=st;exact⟨k z Ä _ hz,k TI Ä _ sk,⟨x,y,k TO Ä _ ur⟩,h1.at λo q=>k i1 Ä o q,h2.at λo q=>k i2 Ä o q⟩
 item:=by
  show Ô;subst hP hw hK;have ob:=Q6 st;obtain⟨hz,sk,⟨x0,y0,ur⟩,h1,h2⟩:=st;obtain⟨xs,ys,x,y,yV,yW,hx,hy⟩:=hg;obtain⟨aj,rv,p,_⟩:=I.list yV;obtain⟨nk,yX,p2,_⟩:=I.list yW;obtain⟨u,hu,ru⟩:=rv.get hx;obtain⟨u2,Im,Io⟩:=yX.get hy;have qL:z<s.heap.objs.size:=cZ hz;refine wpAny_pyNext_zip_item D hz sk ur h1 h2 p.isList p2.isList (x:=u) (y:=u2) (À hu) (À Im) λh' z' TO' h1' h2' hT hsz hk=>?_;refine⟨_,rfl,wpAny_letOwnedTupleGo_zip (s:={s with heap:=h'}) z' λpN z'' sb=>?_⟩;have uq:pN.get? s.heap.objs.size=some {cls:=.type "tuple",data:=.seq #[u,u2]}:=(sb.2 _ (tQ qL)).trans hT;have ⟨I1,n1⟩:=D0 (t':=s.toks) ob hf (λc o hb q=>(sb.2 c (λq'=>hb (by simp[q']))).trans (hk c o (λq'=>hb (by simp[q'])) (λq'=>hb (by simp[q'])) (λq'=>hb (by simp[q'])) (λq'=>hb (by simp[q'])) q)) I uq ru Io;exact⟨.ref s.heap.objs.size,_,I1,rfl,⟨_,x,y,rfl,I.ax.fresh (bJ _),rfl,λl hl=>by rw[I.AL hl yV];exact hx,λl hl=>by rw[I.AL hl yW];exact hy⟩,⟨z'',(sb.2 _ D.TIz).trans (hk _ _ D.TIz D.TITO D.TIi1 D.TIi2 sk),⟨u,u2,(sb.2 _ D.TOz).trans TO'⟩,h1'.at λo q=>(sb.2 _ D.i1z).trans q,h2'.at λo q=>(sb.2 _ D.i2z).trans q⟩,n1⟩
 done:=by
  show Ô;subst hP hw hK;obtain⟨hz,sk,⟨x0,y0,ur⟩,h1,h2⟩:=st;obtain⟨xs,ys,yV,yW,aco⟩:=hg;obtain⟨aj,rv,p,_⟩:=I.list yV;obtain⟨nk,yX,p2,_⟩:=I.list yW;have l1:=rv.length;have l2:=yX.length;have he:aj.toArray[i]? =none\/nk.toArray[i]? =none:=by
   rcases aco with q|q
   ·exact .inl (by simp;omega)
   ·exact .inr (by simp;omega)
  exact wpAny_pyNext_zip_end ć D hz sk ur h1 h2 p.isList p2.isList he λh' hk=>⟨rfl,I.ab1 (t':=s.toks) (ch:=[z,TI,TO,i1,i2]) (λc o hb q=>
   hk c o (λq'=>hb (by simp[q'])) (λq'=>hb (by simp[q'])) (λq'=>hb (by simp[q'])) (λq'=>hb (by simp[q'])) q) hf⟩
 self:=λA i s Q E st h=>wpAny_pyIter_zip st.1 h
def acp(K:FR)(ta:TA):TI:=λσ H R=>ta σ H λvs H1=>∃a b xs ys,vs=[.ref a,.ref b]/\aa K H1 a xs/\aa K H1 b ys/\R (Bj K a b) H1
def Q7{X:Cx}{e e2:Expr}{ta:TA}{p pos l7:Pos}{mQ:List Expr}{kk:Nat}(hg:Gl X "zip")(hm:X.mg "zip"=none)(ha:PA X [e,e2] ta)(hs:starEach [e,e2] X.env=(false,eval e X.env)::starEach [e2] X.env:=by rfl) (c9:(backTo pos (starEach [e2] X.env)).any (·.1)=false:=by rfl):
  PI X ī (.Call (.Name "zip" p) [e,e2] [] pos) (acp X.K ta):=by
 intro pins s σ H R I h;refine Call_ (Àh ach (C9 (aK (ha pos pins s σ H _ I h) λus s1 ⟨vs,H1,I1,r1,q1⟩=>?_) hs c9));obtain⟨a,b,xs,ys,ex,yV,yW,q⟩:=q1;subst ex;cases r1 with
 |cons r rr=>
  cases rr with
  |cons r' rr=>
   cases rr;cases r;cases r';obtain⟨aj,rv,p1,_⟩:=I1.list yV;obtain⟨nk,yX,p2,_⟩:=I1.list yW;have la:a<s1.heap.objs.size:=p1.lt;have lb:b<s1.heap.objs.size:=p2.lt;refine call_zip_2 p1.isList p2.isList λh' hz sk ur h1 h2 hsz hk=>wpAny_pyIter_zip hz ?_;have I2:Ã H1 {s1 with heap:=h'}:=I1.kept (t':=s1.toks) hk;refine⟨s1.heap.objs.size+4,[s1.heap.objs.size+4,s1.heap.objs.size+2,s1.heap.objs.size+3,s1.heap.objs.size,s1.heap.objs.size+1],_,_,H1,rfl,I2,aci (PySem.W.ktu_apart s1.heap.objs.size a b la lb),⟨hz,sk,⟨_,_,ur⟩,h1,h2⟩,λc yY=>?_,q⟩;have e':c=s1.heap.objs.size+4\/c=s1.heap.objs.size+2\/c=s1.heap.objs.size+3\/c=s1.heap.objs.size\/c=s1.heap.objs.size+1:=À yY
   have j7:s1.heap.objs.size<=c:=by
    grind
   exact I1.vo j7 Æz
end L2
section
namespace Bits
open PySem PyProof.Rows
end Bits
end
section
namespace TL
open PySem PySem.Builtin PySem.Builtin.Str PySem.StrLaws
end TL
end
namespace L2
open PySem PySem.Spec PyProof.Rows
section
variable{X:Cx}{pins:bG}{σ:St}{H:Hp}{s:Sh}{Q:VK}
end
end L2
namespace Att
open PySem PySem.W PySem.Calls PyProof.Rows
end Att
namespace L2
open PySem PySem.Spec PyProof.Rows
abbrev aE:nh:=λ_ _ _ _ _ _=>False
abbrev E0:XK:=λ_ _ _=>False
def so:uf aE X E0:=λ_ _ _ _ _ _ _ h=>h.elim
structure br(K:FR)(x cO:Str)(st:Stmt)(f:Addr)(fd:FD):Prop where
 ex:∃(oc:Value)(od:OA)(kV iS pm:Value)(an:OA)(aG ct:Value)(m3:AO),
  fd=PySem.W.fnOf x cO (t7 st) Åf Ϯ .none kV iS pm an aG ct/\K.lookup f=some ⟨oc,od,.func fd,m3⟩/\PySem.W.codeIn K aG cO=true
 kp:PySem.W.keepIn K Ă=true
section
variable{P:Pg}{w:Wd}{K:FR}{mg:MG}{base:Heap}
def br.ok{x cO:Str}{st:Stmt}{f:Addr}{fd:FD}{N ps:LS}{k:Nat}{sp:Sp}(F:Áf fd)(S:bH N ps Ϯ)(uh:∀(aG:Value)(A:Around)(outer:List Env)(s:Sh)(H:Hp)(vs:au)(Q:VK)(E:XK),dv k Ļ->sp vs H Q E->
   ∃t,kI (ύ N cO Ϯ f aG A outer s H E).vm Åf t/\t {nx:=λ_ H'=>Q .aJ H',rt:=Q} ű H) (len:∀vs H Q E,sp vs H Q E->vs.length=ps.length:=by intro _ _ _ _ h;first|(cases h;subst_vars;rfl)|(repeat first|(obtain⟨rfl,_⟩:=h;rfl)|obtain⟨_,h⟩:=h)):Ì aE (k+1) f fd ps sp:=by
 obtain⟨oc,od,kV,iS,pm,an,aG,ct,m3,rfl,lk,kJ⟩:=F.ex;refine P5 lk kJ S len λA outer s H vs Q E hr iZ=>?_;obtain⟨t,h,q⟩:=uh aG A outer s H vs Q E hr iZ;exact⟨t,h.vm,q⟩
def br.binds{x cO:Str}{st:Stmt}{f:Addr}{fd:FD}{ps:LS}(F:Áf fd)(h:∀(kV iS pm:Value)(an:OA)(aG ct:Value)(us:LV),us.length=ps.length->bindArgs ę ⟨us,[]⟩=pure Ài):Binds K fd ps []:=by
 obtain⟨oc,od,kV,iS,pm,an,aG,ct,m3,rfl,lk,kJ⟩:=F.ex;exact .all (h kV iS pm an aG ct)
def nr{x cO:Str}{st:Stmt}{f:Addr}{oc:Value}{od an:OA}{m3:AO}{kV iS pm aG ct:Value}(l:K.lookup f=some ⟨oc,od,.func ę,m3⟩)(c:PySem.W.codeIn K aG cO=true) (k:PySem.W.keepIn K Ă=true):Áf ę:=⟨⟨oc,od,kV,iS,pm,an,aG,ct,m3,rfl,l,c⟩,k⟩
end
def yZ(hr:dv k A):A.units+1<cLine:=pz (X9 (by decide:1<=64) _) hr.units
section
def pv(i:Nat)(hN:X.N[i]? =some x:=by rfl)(hv:wU X.env.scope x:=by first|exact Or.inl rfl|exact Or.inr (Or.inl rfl)|exact Or.inr (Or.inr rfl))(hd:(x==("__debug__":Str))=false:=by decide)(kJ:(x==("__classdict__":Str))=false:=by decide):PE X ϳ (ay i):=Po hN hv hd kJ
end
def nu{A B:Prop}(h:B):if false=true then A else B:=by
 simp_all
def kZ{A B:Prop}(h:A):if true=true then A else B:=by
 simp_all
def a8{c A B:Prop}[Decidable c](h1:c->A)(h2:¬c->B):if c then A else B:=by
 simp_all
def ai(H H':Hp):Prop:=∀b o,H b=some o->H' b=some o
def ai.refl(H:Hp):ai H H:=λ_ _ h=>h
def ai.trans(a:ai H H1)(b:ai H1 H2):ai H H2:=λc o h=>b c o (a c o h)
theorem ai.free(e:ai H H')(h:H' l=Option.none):H l=Option.none:=by
 cases q:H l with
 |none=>rfl
 |some o=>
  rw[e l o q] at h;cases h
def ai.seq{K:FR}{H H':Hp}{a:Addr}{xs:au}(e:ai H H')(h:â a xs):aa K H' a xs:=by
 rcases h with (h|⟨o,h⟩)|h
 ·exact .inl (.inl (e _ _ h))
 ·exact .inl (.inr ⟨o,e _ _ h⟩)
 ·exact .inr h
section
variable{κ:Type}[DecidableEq κ]
theorem IH{l:List κ}:∀{k:κ},l.Nodup->¬k∈l->(l++[k]).Nodup:=by
 induction l with
 |nil=>
  intro k _ _;simp
 |cons a r ih=>
  intro k h hk;obtain⟨h1,h2⟩:=j9.mp h;show(a::(r++[k])).Nodup;refine j9.mpr ⟨λm=>?_,ih h2 λm=>hk (ba.mpr (Or.inr m))⟩;rcases gR.mp m with q|q
  ·exact h1 q
  ·exact hk (ba.mpr (Or.inl (mV.mp q).symm))
end
def ai.made(nx:H x=Option.none)(nd:H dx=Option.none)(k:∀b o,(upd (upd H dx Äx) x Âg) b=some o->b≠x->H1 b=some o):ai H H1:=λb o e=>
 k b o (by rw[ao (eK e nx),ao (eK e nd)];exact e) (eK e nx)
end L2
end
section
namespace L2
open PySem PySem.Spec PyProof.Rows PySem.XL
def one(x:Addr)(P:Obj->Prop):HO:=.ext λh=>∃o,h.get? x=some o/\P o
def sr(e:h.get? x=some o)(p:P o):ft Pr w H h x (one x P):=
 ⟨⟨o,e,p⟩,⟨o,e⟩,λ_ _ ⟨o,e,p⟩ k=>⟨o,k o e,p⟩⟩
def pO(ax:dy Pr w H h)(e:H x=some (one x P)):∃o,h.get? x=some o/\P o:=(ax x _ e).1
def II(C:Addr)(od:OA)(tv:Value)(o:Obj):Prop:=o.cls=.ref C/\o.dict=od/\∃vs,o.data=.fields vs/\vs[1]? =some tv
def exc(C:Addr)(od:OA)(tv:Value)(x:Addr):HO:=one x (II C od tv)
def Q8(fl:Value)(o:Obj):Prop:=∃ts,o.data=.fields ts/\ts[3]? =some fl
def ent(fl:Value)(T:Addr):HO:=one T (Q8 fl)
def uu(d:Addr)(fs:List (Str×V)):HO:=.ext λh=>∃mA,h.Ns1 d mA/\(∀f,jL Ác (mA f))/\Within mA (fs.map (·.1))/\fs.length<=1000
def Q9(n:h.Ns1 d mA)(r:∀f,jL Ác (mA f))(wi:Within mA (fs.map (·.1)))(l:fs.length<=1000):ft Pr w H h d (uu d fs):=by
 refine⟨⟨mA,n,r,wi,l⟩,?_,λh1 h2 ⟨m,n,r⟩ k=>⟨m,n.at k,r⟩⟩;obtain⟨o,_,_,e,_⟩:=n;simp_all
def acq(ax:dy Pr w H h)(e:H d=some (uu d fs)):∃mA,h.Ns1 d mA/\(∀f,jL Ác (mA f))/\Within mA (fs.map (·.1))/\fs.length<=1000:=(ax d _ e).1
abbrev uv:LV:=[.type "Exception",.type "BaseException",.type "object"]
inductive Ra(K:FR)(C N:Addr):Prop
 |mk (od:OA) (nm qn:Str) (bs sub:LV) (sn:LS) (ab:Bool) (col:Option Bool) (e0 e1 e2 e3 e5:Option Value) (_:K.lookup C=some ⟨.type "type",od,.cls ⟨nm,bs,.ref C::uv,N,qn,true,sn,sub,ab,col,false⟩,#[e0,e1,e2,e3,some (.builtin "Exception.__new__"),e5]⟩) (_:PySem.W.nsOkIn K N=true)
structure XC(K:FR)(C N:Addr):Prop where
 cl:Ra K C N
 ga:PySem.W.nsIn K N "__getattribute__"=some none
 gt:PySem.W.nsIn K N "__getattr__"=some none
 sa:PySem.W.nsIn K N "__setattr__"=some none
structure D4(K:FR)(N:Addr)(f:Str):Prop where
 own:PySem.W.nsIn K N f=some none
 base:typeLookup (.type "Exception") f=pure none
def acr{K:FR}{h:Heap}{N:Addr}{mg:MG}{n:Str}{v:Value}(X:K.In h)(G:h.Ns N mg)(e:PySem.W.nsIn K N n=some Ãj):mg n=some v:=by
 obtain⟨o,es,ep,ho,hd,_,hf⟩:=G;unfold PySem.W.nsIn at e;split at e
 ·rename_i c d oq n' sl q;have:=X _ _ q;rw[ho] at this;cases this;cases hd;split at e
  ·rename_i y he;rw[<-hf];unfold nsFind findBy;simp_all
  ·simp_all
 ·cases e
def XC.obj{K:FR}{C N:Addr}(c:XC K C N):∃nm q bs sn sub ab col dd k0 k1 k2 k3 k5,∀h:Heap,K.In h->h.get? C=some (excClassObj nm q C N bs uv true sn sub ab col dd k0 k1 k2 k3 k5 "Exception.__new__")/\h.Ns N (h.nsMap N)/\
  h.nsMap N "__getattribute__"=none/\h.nsMap N "__getattr__"=none/\h.nsMap N "__setattr__"=none:=by
 obtain⟨dd,nm,qn,bs,sub,sn,ab,col,k0,k1,k2,k3,k5,ho,ax⟩:=c.cl;exact⟨nm,qn,bs,sn,sub,ab,col,dd,k0,k1,k2,k3,k5,λh X=>⟨X _ _ ho,.of_isNs (PySem.W.isNs_of_in X ax),PySem.W.nsMap_none_of_in X ax c.ga,PySem.W.nsMap_none_of_in X ax c.gt,PySem.W.nsMap_none_of_in X ax c.sa⟩⟩
def Rb(p:II C od tv o)(T:Addr):II C od ũ (o.mapFields (·.setIfInBounds 1 ũ)):=by
 obtain⟨h1,h2,vs,h3,h4⟩:=p;have z:=(Ap.mp h4).1;refine⟨(XM _ _).trans h1,?_,_,u6 h3 _,by simp[z]⟩;obtain⟨c,d,dt,sl⟩:=o;cases dt <;> first|exact h2|cases h3
def D5(S:LA)(ax:ġ h)(same:∀b,b∉S->H2 b=H b)(iC:∀b,b∈S->H b=none\/∃φ,H b=some (.ext φ)) (new:∀b,b∈S->∀u,H2 b=some u->ft P w H2 h2 b u)(keep:∀b o u,H b=some u->b∉S->h.get? b=some o->h2.get? b=some o):dy P w H2 h2:=λb u q=>by
 by_cases hb:b∈S
 ·simp_all
 ·rw[same b hb] at q;have nS:∀c v,H c=some v->(∀φ,v≠ .ext φ)->c∉S:=λc v e ne z=>by
   grind
  refine(ax b u q).m4 (λc v hc g=>?_) (λc e=>?_) λc xs e=>?_
  ·grind
  ·simp_all
  ·simp_all
def D6{fs:LA}{H H2:Hp}{h h2:Heap}(S:LA)(same:∀b,b∉S->H2 b=H b)(iC:∀b,b∈S->(H b=none/\h.get? b=none)\/∃φ,H b=some (.ext φ))(keep:∀b o,b∉S->b∉fs->h.get? b=some o->h2.get? b=some o) (slot:∀b o,b∉S->b∈fs->h.get? b=some o->∃sl,h2.get? b=some {o with slots:=sl})(there:∀b,b∈S->∀o,h.get? b=some o->∃o',h2.get? b=some o'):Un fs [] H H2 h h2:=by
 have nS:∀b o,h.get? b=some o->H b=none->b∉S:=λb o e n z=>by
  grind
 have IJ:∀c v,H c=some v->(∀φ,v≠ .ext φ)->c∉S:=λc v e ne z=>by
  grind
 refine⟨λb o e n nb _=>keep b o (nS b o e n) nb e,λb o e n nb _=>slot b o (nS b o e n) nb e,λb o e n _=>by rw[same b (nS b o e n)];exact n,λb o e _=>?_,
  λb xs e=>by rw[same b (IJ b _ e (λφ z=>by cases z))];exact e,λb o u e=>by rw[same b (IJ b _ e (λφ z=>by cases z))];exact e,λb ps e=>⟨#[],by rw[same b (IJ b _ e (λφ z=>by cases z)),e];simp⟩⟩
 by_cases hb:b∈S
 ·simp_all
 ·grind
def Kp(a:Addr)(H0 H:Hp):Prop:=∀b o,H0 b=some o->b≠a->H b=some o
def IK(H0:Hp)(a C:Addr)(od:OA)(H:Hp):Prop:=∃tv,H a=some (exc C od tv a)/\Kp a H0 H/\(tv=.none\/∃T fl,tv=.ref T/\T≠a/\H0 T=none/\H T=some (ent fl T))
def qM(fl:Value)(H0:Hp)(a C:Addr)(od:OA)(H:Hp):Prop:=∃T,H a=some Çk/\Kp a H0 H/\T≠a/\H0 T=none/\H T=some (ent fl T)
def qM.at_(f:qM fl H0 a C od H):IK H0 a C od H:=
 let ⟨T,h1,h2,h3,h4,h5⟩:=f
 ⟨_,h1,h2,.inr ⟨T,fl,rfl,h3,h4,h5⟩⟩
def acs(h:e.frame=e'.frame):noteFrame x e=noteFrame x e':=by
 unfold noteFrame PySem.frameOf;rw[h]
def su{x:Addr}{P:Obj->Prop}{H:Hp}(e:H x=some (one x P)):∃φ,H x=some (.ext φ):=⟨_,e⟩
section
variable{X:Cx}{pins:bG}{σ:St}{H H0:Hp}{s:Sh}{A:Around}{E:VP}{a C:Addr}{od:OA}
def D7{Q:Unit->Shared->Prop}{env en:Env}{outer:List Env}{L:Addr}(qE:X.stack=env::outer)(Ea:env.frame=some L)(IL:en.frame=some L)(hA:A.frames=some X.stack)(I:Ã H s)(f:IK H0 a C od H)(k:∀s' H',Ã H' s'->qM Æi H0 a C od H'->Q () s'):wpAny È A (noteFrame Ğ en) Q E s:=by
 rw[acs (IL.trans Ea.symm)];obtain⟨tv,ha,kp,f⟩:=f;obtain⟨o,ge,pe⟩:=pO I.ax ha;obtain⟨q1,q2,vs,q3,q4⟩:=id pe;have ff:s.heap.FunFrames X.base (env::outer):=by rw[<-qE];exact I.stack
 have yK:A.frames=some (env::outer):=by rw[<-qE];exact hA
 have Rc:m6 X.stack=(env::outer).filterMap (·.frame):=by rw[qE];rfl
 rcases f with rfl|⟨T0,fl,rfl,h1,h2,h3⟩
 ·refine YX (z:=a) yK ff Ea ge q3 q4 λh' T n=>?_;rw[<-Rc] at n;have hT:=I.ax.fresh n.new;have gT:=OI n.new;have IM:=Rb pe T;have hH:∀b,b∉[a,T]->(Ū) b=H b:=λb nb=>by
   have:b≠a/\b≠T:=À nb
   rw[ao this.2,ao this.1]
  have vG:(Ū) T=some Ũ:=aq;have Bk:(Ū) a=some Çk:=by rw[ao (dX n.ne),aq]
  obtain⟨oT,ts,t1,t2,t3⟩:=n.ent;have xp:H0 T=none:=by
   cases e:H0 T with
   |none=>rfl
   |some u=>rw[kp T u e n.ne] at hT;cases hT
  refine k {s with heap:=h'} Ū (I.vh (s':={s with heap:=h'}) (ch:=[]) rfl (D6 [a,T] hH Ď Ś Ś λb hb o g=>?_) (D5 [a,T] I.ax hH Ď Ϲ λb o u hb nb g=>?_) I.bare ĵ)
   ⟨T,Bk,λb o e nb=>?_,n.ne,xp,vG⟩
  ·have:b=a\/b=T:=by simpa using hb
   rcases this with rfl|rfl
   ·exact .inr (su ha)
   ·simp_all
  ·have:b≠a/\b≠T:=by simpa using nb
   exact n.keep b o nf this.1 this.1 g
  ·have:b≠a/\b≠T:=by simpa using nb
   exact n.slot b o nf this.1 this.1 g
  ·have:b=a\/b=T:=by simpa using hb
   rcases this with rfl|rfl
   ·exact⟨_,n.exc⟩
   ·simp_all
  ·have:b=a\/b=T:=by simpa using hb
   rcases this with rfl|rfl
   ·exact .inr (su ha)
   ·simp_all
  ·have:b=a\/b=T:=by simpa using hb
   rcases this with rfl|rfl
   ·rw[Bk] at hu;cases hu;exact sr n.exc IM
   ·rw[vG] at hu;cases hu;exact sr t1 ⟨ts,t2,t3⟩
  ·have:b≠a/\b≠T:=by simpa using nb
   exact n.keep b o (λz=>by rw[I.Dt b z] at hb;cases hb) this.1 this.1 g
  ·rw[ao (λz=>by simp_all),ao nb];exact kp b o e nb
 ·cases h4:(fl==rawInt L) with
  |false=>
   obtain⟨oz,gz,zs,dz,z3⟩:=pO I.ax h3;refine YY yK ff Ea ge q3 q4 gz dz z3 h4 h1 λh' T n tz kz=>?_;rw[<-Rc] at n;have hT:=I.ax.fresh n.new;have gT:=OI n.new;have IM:=Rb pe T;have hH:∀b,b∉[a,T,T0]->(å) b=H b:=λb nb=>by
    have:b≠a/\b≠T/\b≠T0:=À nb
    rw[ao this.2.1,ao this.1,ao this.2.2]
   have vG:(å) T=some Ũ:=aq;have Bk:(å) a=some Çk:=by rw[ao (dX n.ne),aq]
   have hT0:(å) T0=some (ent .none T0):=by rw[ao (dX tz),ao h1];exact aq
   obtain⟨oT,ts,t1,t2,t3⟩:=n.ent;obtain⟨oz',zs',z1',z2',z3'⟩:=kz;have xp:H0 T=none:=by
    cases e:H0 T with
    |none=>rfl
    |some u=>rw[kp T u e n.ne] at hT;cases hT
   refine k {s with heap:=h'} å (I.vh (s':={s with heap:=h'}) (ch:=[]) rfl (D6 [a,T,T0] hH Ď Ś Ś λb hb o g=>?_) (D5 [a,T,T0] I.ax hH Ď Ϲ λb o u hb nb g=>?_) I.bare ĵ)
    ⟨T,Bk,λb o e nb=>?_,n.ne,xp,vG⟩
   ·have:b=a\/b=T\/b=T0:=by simpa using hb
    rcases this with rfl|rfl|rfl
    ·exact .inr (su ha)
    ·simp_all
    ·exact .inr (su h3)
   ·have:b≠a/\b≠T/\b≠T0:=by simpa using nb
    exact n.keep b o nf this.1 this.2.2 g
   ·have:b≠a/\b≠T/\b≠T0:=by simpa using nb
    exact n.slot b o nf this.1 this.2.2 g
   ·have:b=a\/b=T\/b=T0:=by simpa using hb
    rcases this with rfl|rfl|rfl
    ·exact⟨_,n.exc⟩
    ·simp_all
    ·simp_all
   ·have:b=a\/b=T\/b=T0:=by simpa using hb
    rcases this with rfl|rfl|rfl
    ·exact .inr (su ha)
    ·simp_all
    ·exact .inr (su h3)
   ·have:b=a\/b=T\/b=T0:=by simpa using hb
    rcases this with rfl|rfl|rfl
    ·rw[Bk] at hu;cases hu;exact sr n.exc IM
    ·rw[vG] at hu;cases hu;exact sr t1 ⟨ts,t2,t3⟩
    ·rw[hT0] at hu;cases hu;exact sr z1' ⟨zs',z2',z3'⟩
   ·have:b≠a/\b≠T/\b≠T0:=by simpa using nb
    exact n.keep b o (λz=>by rw[I.Dt b z] at hb;cases hb) this.1 this.2.2 g
   ·rw[ao (λz=>by simp_all),ao nb,ao (λz=>by simp_all)];exact kp b o e nb
  |true=>
   have h4:=eq_of_beq h4;subst h4;obtain⟨oz,gz,zs,dz,z3⟩:=pO I.ax h3;exact wpAny_noteFrame_inFlight Ea ge q3 q4 gz dz z3 (k s H I ⟨T0,ha,kp,h1,h2,h3⟩)
def Bl{Q:Unit->Shared->Prop}{fl:Value}(fr:OA)(I:Ã H s)(f:qM fl H0 a C od H)(k:∀s' H',Ã H' s'->qM (fr.elim .none λf=>rawInt f) H0 a C od H'->Q () s'):wpAny È A (setFlight Ğ fr) Q E s:=by
 obtain⟨T,ha,kp,aQ,xp,hT⟩:=f;obtain⟨o,ge,q1,q2,vs,q3,q4⟩:=pO I.ax ha;obtain⟨oz,gz,zs,dz,z3⟩:=pO I.ax hT;have zz:3<zs.size:=(Ap.mp z3).1;unfold setFlight;refine aP (u7 ge q3 q4 ?_);rw[af (show(Value.ref T !=Value.none)=true by simp)];refine C3 gz dz zz ?_;have vd:∀b,b≠T->(s.heap.update T (Obj.mapFields (·.setIfInBounds 3 (fr.elim .none λf=>rawInt f)))).get? b=s.heap.get? b:=λb n=>Ao _ _ (dX n);have gT:(s.heap.update T (Obj.mapFields (·.setIfInBounds 3 (fr.elim .none λf=>rawInt f)))).get? T=_:=C5 _ gz (GY (u6 dz _));have pT:Q8 (fr.elim .none λf=>rawInt f) (oz.mapFields (·.setIfInBounds 3 (fr.elim .none λf=>rawInt f))):=⟨_,u6 dz _,by simp[zz]⟩;have hH:∀b,b∉[T]->(Ϛ (ent (fr.elim .none λf=>rawInt f) T)) b=H b:=λb nb=>by
  have:b≠T:=À nb
  rw[ao this]
 refine k {s with heap:=s.heap.update T (Obj.mapFields (·.setIfInBounds 3 (fr.elim .none λf=>rawInt f)))} (Ϛ (ent (fr.elim .none λf=>rawInt f) T)) (I.vh (s':={s with heap:=s.heap.update T (Obj.mapFields (·.setIfInBounds 3 (fr.elim .none λf=>rawInt f)))}) (ch:=[]) rfl (D6 [T] hH Ď Ś Ś λb hb o g=>?_) (D5 [T] I.ax hH Ď Ϲ λb o u hb nb g=>?_) I.bare ĵ)
   ⟨T,?_,λb o e nb=>?_,aQ,xp,aq⟩
 ·have:b=T:=by simpa using hb
  subst this;exact .inr (su hT)
 ·have:b≠T:=by simpa using nb
  exact(vd b this).trans g
 ·have:b≠T:=by simpa using nb
  exact⟨o.slots,(vd b this).trans g⟩
 ·have:b=T:=by simpa using hb
  subst this;exact⟨_,gT⟩
 ·have:b=T:=by simpa using hb
  subst this;exact .inr (su hT)
 ·have:b=T:=by simpa using hb
  subst this;rw[aq] at hu;cases hu;exact sr gT pT
 ·have:b≠T:=by simpa using nb
  exact(vd b this).trans g
 ·rw[ao Åh];exact ha
 ·rw[ao (λz=>by rw[z,xp] at e;cases e)];exact kp b o e nb
end
def gn(P:Pg)(w:Wd):nh:=λouter H s E e s'=>∃a C od H0 H',e=.ref a/\s'.os=s.os/\AllBare s'.gens/\Un (m6 outer) [] H H' s.heap s'.heap/\dy P w H' s'.heap/\qM .none H0 a C od H'/\(∀d,od=some d->d≠a)/\E ā od H0
def y4(X:Cx)(E:XK)(e:Value)(s:Sh):Prop:=∃a C od H0 H σ,e=.ref a/\Inv X [] σ H s/\IK H0 a C od H/\(∀d,od=some d->d≠a)/\E ā od H0
abbrev Cx.xq(X:Cx)(E:XK):Cx:=X.iD (y4 X E)
def Cx.Ec(X:Cx):Prop:=X.stack=X.env::X.outer/\X.env.frame=some X.env.locals
def Inv.IP(I:Ã H s):Inv X [] σ H s:=I.HB λp hp=>absurd hp Ä
def qN{X:Cx}{E:XK}:uf (gn X.prog X.w) (X.xq E) E:=λpins σ H s e s' I h=>by
 obtain⟨a,C,od,H0,H',e1,e2,e3,e4,e5,e6,e7,e8⟩:=h;exact⟨a,C,od,H0,H',σ,e1,(I.lU.vh (ch:=[]) e2 e4 e5 e3 ĵ).IP,e6.at_,e7,e8⟩
def Re(ow:X.Ec):PassesOwn È X.A X.env (y4 X E):=λe s h=>by
 obtain⟨a,C,od,H0,H,σ,rfl,I,f,e7,e8⟩:=h;refine D7 ow.1 ow.2 ow.2 I.ok.frames I f λs' H' I' f'=>?_;obtain⟨T,ha,_⟩:=id f';obtain⟨o,ge,q1,q2,vs,q3,q4⟩:=pO I'.ax ha;refine aP (u7 ge q3 q4 ?_);rw[ah (show ¬(Value.ref T==Value.none)=true from d9)];refine Bl X.env.frame I' f' λAW oC y6 IQ=>?_;exact⟨a,C,od,H0,oC,σ,rfl,y6,IQ.at_,e7,e8⟩
def xt{CX:nh}{P:Pg}{w:Wd}{K:FR}{mg:MG}{base:Heap}{N:LS}{cO:Str}{scope:Scope}{f:Addr}{cd:Value}{A:Around}{outer:List Env}{s:Sh}{H:Hp}{E:XK}:
  (ĭ scope f cd A outer s H E).Ec:=⟨rfl,rfl⟩
def acz{P:Pg}{w:Wd}{K:FR}{mg:MG}{base:Heap}{N:LS}{cO:Str}{scope:Scope}{f:Addr}{cd:Value}{A:Around}{outer:List Env}{s:Sh}{H:Hp}{E:XK}{e:Value}{s1:Sh}(h:y4 (lF ė P w K mg base N cO scope f cd A outer s H E) E e s1):(lF ė P w K mg base N cO scope f cd A outer s H E).xe e s1:=by
 obtain⟨a,C,od,H0,H1,σ,rfl,I,f,e7,e8⟩:=h;show wpAny _ _ (leaving _ _) _ _ s1;unfold leaving;refine aP (D7 (X:=lF ė P w K mg base N cO scope _ cd A outer s H E) xt.1 xt.2 xt.2 I.ok.frames I f λs' H' I' f'=>?_);refine Bl (X:=lF ė P w K mg base N cO scope _ cd A outer s H E) none I' f' λAW oC y6 IQ=>?_;exact⟨a,C,od,H0,oC,rfl,y6.os,y6.bare,y6.base,y6.ax,IQ,e7,e8⟩
def br.qO{P:Pg}{w:Wd}{K:FR}{mg:MG}{base:Heap}{x cO:Str}{st:Stmt}{f:Addr}{fd:FD}{N ps:LS}{k:Nat}{sp:Sp}(F:Áf fd)(S:bH N ps Ϯ)(uh:∀(aG:Value)(A:Around)(outer:List Env)(s:Sh)(H:Hp)(vs:au)(Q:VK)(E:XK),dv k Ļ->sp vs H Q E->
   ∃t,kI ((lF ė P w K mg base N cO Ϯ f aG A outer s H E).xq E) Åf t/\t {nx:=λ_ H'=>Q .aJ H',rt:=Q} ű H) (len:∀vs H Q E,sp vs H Q E->vs.length=ps.length:=by intro _ _ _ _ h;first|(cases h;subst_vars;rfl)|(repeat first|(obtain⟨rfl,_⟩:=h;rfl)|obtain⟨_,h⟩:=h)):Ì ė (k+1) f fd ps sp:=by
 obtain⟨oc,od,kV,iS,pm,an,aG,ct,m3,rfl,lk,kJ⟩:=F.ex;refine P5 lk kJ S len λA outer s H vs Q E hr iZ=>?_;obtain⟨t,h,q⟩:=uh aG A outer s H vs Q E hr iZ;exact⟨t,λpins s1 σ H1 D I hw=>iU (h pins s1 σ H1 D (I.iD _) hw) (λ_ _ q=>q.lU) λe s2 z=>acz z,q⟩
def acA(E:XK)(C:Addr)(te:TE):TS:=λ_ σ H=>te σ H λv H1=>∃a od,v=.ref a/\H1 a=some (exc C od .none a)/\(∀d,od=some d->d≠a)/\E ā od H1
def jP{X:Cx}{E:XK}{e:Expr}{te:TE}{C N:Addr}{pos:Pos}(hh:X.A.handled=none)(c:XC X.K C N)(he:PE (X.xq E) e te):PS (X.xq E) (.Raise (some e) none pos) (acA E C te):=by
 intro pins s σ H D I h;obtain⟨nm,q,bs,sn,sub,ab,col,dd,k0,k1,k2,k3,k5,cls⟩:=c.obj;rw[arm_exec_Raise];refine aP (OT (YV (C:=C) (nm:=nm) (q:=q) (N:=N) (bs:=bs) (bm:=uv) (hdct:=true) (sn:=sn) (sub:=sub) (ab:=ab) (col:=col) (dd:=dd) (k0:=k0) (k1:=k1) (k2:=k2) (k3:=k3) (k5:=k5) (newId:="Exception.__new__") Ú hh
  (aP (aK (he pins s σ H _ I h) λu s1 ⟨v,H1,I1,rv,a,od,ev,ha,hd,xr⟩=>aP (OT (df ?_))))))
 subst ev;obtain rfl:u=Value.ref a:=rv;obtain⟨o,ge,q1,q2,vs,q3,q4⟩:=pO I1.ax ha;exact⟨a,o,vs,rfl,(cls _ I1.fu).1,ge,q1,q3,q4,a,C,od,H1,H1,σ,rfl,I1.lU.IP,⟨.none,ha,λb o e _=>e,.inl rfl⟩,hd,xr⟩
def Inv.Ed{X:Cx}{pins:bG}{σ:St}{H H2:Hp}{s:Sh}{h2:Heap}{t2:Nat}(S:LA)(I:Ã H s)(same:∀b,b∉S->H2 b=H b)(iC:∀b,b∈S->(H b=none/\s.heap.get? b=none)\/∃φ,H b=some (.ext φ)) (new:∀b,b∈S->∀u,H2 b=some u->Àa H2 h2 b u)(keep:∀b o,b∉S->s.heap.get? b=some o->h2.get? b=some o) (there:∀b,b∈S->∀o,s.heap.get? b=some o->∃o',h2.get? b=some o'):Ã H2 {s with heap:=h2,toks:=t2}:=
 I.vh (s':={s with heap:=h2,toks:=t2}) (ch:=[]) rfl (D6 S same iC (λb o nb _ g=>keep b o nb g) (λb o nb _ g=>⟨o.slots,keep b o nb g⟩) there)
  (D5 S I.ax same (λb hb=>(iC b hb).imp (·.1) id) new λb o u _ nb g=>keep b o nb g) I.bare ĵ
def IR{K:FR}{C N:Addr}(c:XC K C N):PySem.W.nsOkIn K N=true:=by
 obtain⟨_,_,_,_,_,_,_,_,_,_,_,_,_,_,h⟩:=c.cl;exact h
section
def acB{K:FR}{h:Heap}{f:Addr}(XK:K.In h)(hf:PySem.W.isFn K Ă=true):∃o,h.get? f=some o/\o.cls=.type "function":=by
 have e:=wJ.mp hf;unfold PySem.W.typeIn at e;cases q:K.lookup f with
 |none=>
  simp_all
 |some o=>
  simp only[q] at e;exact⟨o,XK _ _ q,aN e⟩
def acC(C:Addr)(sp:Sp)(iX:au)(E:XK)(t:TA):TE:=λσ H Q=>t σ H λvs H1=>vs.length<=sizeLine/\∀x,H1 x=none->
 sp (.ref x::(vs++iX)) (upd H1 x ŏ) (λv H2=>v=.aJ/\Q Ŝ H2) E
def acD{pins:bG}{σ:St}{H:Hp}{s:Sh}{Q:VK}{us:LV}{vs:au}(c:XC X.K C N)(mI:PySem.W.nsIn X.K N "__init__"=some Áx)(fn:PySem.W.isFn X.K Ă=true)(F:ú CX k f fd ps sp)(hr:dv (k+1) X.A)(hb:ŀ ds)(hd:bc iX ds)(hx:uf CX X E) (I:Ã H s) (r:bc vs us) (uw:vs.length<=sizeLine)(h:∀x,H x=none->sp (.ref x::(vs++iX)) (Áe ŏ) (λv H2=>v=.aJ/\Q Ŝ H2) E):
  wpAny È X.A (call ā us) (ò Q) X.xe s:=by
 obtain⟨nm,q,bs,sn,sub,ab,col,dd,k0,k1,k2,k3,k5,cls⟩:=c.obj;obtain⟨c1,c2,_⟩:=cls s.heap I.fu;obtain⟨oF,gF,cF⟩:=acB I.fu fn;have wR:=acr I.fu c2 mI;have hq:=h Î (I.ax.fresh (X2 _));have g2:((s.heap.push (oj us)).push Âj).get? Î=some Âj:=by
  have z:=ib (s.heap.push (oj us)) (o:=qA C s.heap.objs.size) rfl;simp_all
 have I2:Ã (upd H Î (exc C none .none Î)) {s with heap:=(s.heap.push (oj us)).push Âj}:=
  I.laid (t':=s.toks) (λb u q=>dh _ (dh _ q)) (X2 _) (sr g2 ⟨rfl,rfl,_,rfl,rfl⟩)
 have r2:bc (V.ref Î::(vs++iX)) (Value.ref Î::(us++ds)):=.cons rfl (r.append hd);have hl:(Value.ref Î::us++ds).length=ps.length:=by
  have e:=r2.length;rw[F.len _ _ _ _ hq] at e;simp_all
 obtain⟨hh,g,d,tk,os⟩:=s;refine An (YU PySem.F.excBase_Exception c1 c2 wR gF cF (u5 (F.run _ X.stack _ _ ⟨Value.ref (hh.objs.size+1)::us,[]⟩ (Value.ref (hh.objs.size+1)::(us++ds)) _ _ E (hr.make C us [])
  (I2.yM.make C us []) (hb _ (Value.ref (hh.objs.size+1)::us) I2.fu hl) r2 hq) λr s' lE=>?_) (by rw[<-r.length];exact uw))
 cases r with
 |error e=>exact hx pins σ _ _ e s' I2 lE
 |ok fl=>
  cases fl with
  |ret u=>
   obtain⟨v,H',I3,rv,ev,q3⟩:=I2.after lE;subst ev;exact⟨rv,⟨V.ref (hh.objs.size+1),H',I3,rfl,q3⟩⟩
  |next=>exact False.elim lE
  |brk=>exact False.elim lE
  |cont=>exact False.elim lE
def Ee(c:XC X.K C N)(mI:PySem.W.nsIn X.K N "__init__"=some Áx)(fn:PySem.W.isFn X.K Ă=true)(kp:PySem.W.keepIn X.K ā=true)(F:ú CX k f fd ps sp)(hr:dv (k+1) X.A)(hg:Gl X x)(hm:X.mg x=some ā)(hb:ŀ ds)(hd:bc iX ds)(hx:uf CX X E)(ha:PA X (e::es) t) (iY:(x==("__debug__":Str))=false:=by decide) (he:starEach (e::es) X.env=(false,eval e X.env)::starEach es X.env:=by rfl) (c9:(backTo pos õ).any (·.1)=false:=by rfl):
  PE X (.Call ż (e::es) [] pos) (acC C sp iX E t):=by
 show Ö;refine wL (vi I hg hm ?_ iY);refine PySem.W.callWith_K (h₀:=X.base) I.ok.mod.rS kp (aK (ha pos pins s σ H _ I h) λus s1 ⟨vs,H1,I1,r,q⟩=>Ár) he c9;exact acD c mI fn F hr hb hd hx I1 r q.1 q.2
def acE(K:FR)(t:TA):TE:=λσ H Q=>t σ H λvs H1=>∃a C N od tv,vs=[.ref a]/\H1 a=some (exc C od tv a)/\XC K C N/\Q .aJ H1
def acF{pl:Sem Bool}(hg:Gl X "Exception")(hm:X.mg "Exception"=none)(hf:PySem.W.findCls X.K (.type "Exception") (.type "type") "__init__"=some (.val (.builtin "Exception.__init__")))(ha:PA X (e::es) t)(r9:typeOf (.type "Exception")=pure (.type "type")) (qE:Manifest.isStub "Exception"=false) (hbv:bootBuiltins "Exception"=some (.type "Exception"))(he:starEach (e::es) X.env=(false,eval e X.env)::starEach es X.env:=by rfl) (c9:(backTo pos õ).any (·.1)=false:=by rfl)(ht:eval (.Call (.Attribute (.Name "Exception" p) "__init__" iT) (e::es) [] pos) X.env=(do
   let ov <-eval (.Name "Exception" p) X.env
   standAt iT.atName
   let (f,first) <-holding [ov] (getMethod ov "__init__" pl)
   callWith pos f first (backTo pos (starEach (e::es) X.env)) (backToKw pos ϴ)):=by rfl):
  PE X (.Call (.Attribute (.Name "Exception" p) "__init__" iT) (e::es) [] pos) (acE X.K t):=by
 show Ö;refine PySem.W.methodCall_KW (pl:=pl) (Àh hbv ?_) ht;obtain⟨m,F⟩:=I.fr;refine PySem.W.method_type F I.ok.mod.rS r9 qE hf Õ ?_;refine apa (aK (ha pos pins _ σ H _ (I.tok _) h) λus s1 ⟨vs,H1,I1,r1,a,C,N,od,tv,ev,Bm,c,q⟩=>?_) he c9;subst ev;obtain⟨u,rfl,ru⟩:=vals1 r1;cases ru;obtain⟨nm,qn,bs,sn,sub,ab,col,dd,k0,k1,k2,k3,k5,cls⟩:=c.obj;obtain⟨c1,c2,_⟩:=cls s1.heap I1.fu;obtain⟨o,ge,q1,q2,vH,q3,q4⟩:=pO I1.ax Bm;have zz:=(Ap.mp q4).1;obtain⟨hh,g,d,tk,os⟩:=s1;refine YW PySem.F.excBase_Exception c1 ge q1 q3 Æ ?_;have gp:=dh (h:=hh) (oj []) ge;have gx:((hh.push (oj [])).update a (Obj.mapFields (·.setIfInBounds 0 (.ref hh.objs.size)))).get? a=_:=C5 _ gp (GY (u6 q3 _));refine⟨.aJ,H1,I1.Ed (t2:=tk) [a] (λb _=>rfl) Ď Ϲ Æa λb hb o g=>?_,rfl,q⟩
 ·have:b=a:=by simpa using hb
  subst this;exact .inr (su Bm)
 ·have:b=a:=by simpa using hb
  subst this;rw[Bm] at hu;cases hu;refine sr gx ⟨(XM _ _).trans q1,?_,_,u6 q3 _,?_⟩
  ·obtain⟨cc,cd,dt,sl⟩:=o;cases dt <;> first|exact q2|cases q3
  ·simp_all
 ·have:b≠a:=by simpa using nb
  rw[Ao _ _ (dX this)];exact dh _ g
 ·simp_all
def acH(K:FR)(ta tv:TE)(g:Str):TS:=λD σ H=>tv σ H λy H1=>ta σ H1 λv H2=>∃a C N te,v=.ref a/\H2 a=some (exc C none te a)/\XC K C N/\D4 K N g/\
 ∀d,H2 d=none->d≠a->D.nx σ (upd (upd H2 a (exc C (some d) te a)) d (uu d (ie g y [])))
def acI{g:Str}{jd:Expr}{lr:Pos}(ha:PE X o ta)(hv:PE X jd tv)(hs:swapsWith jd (some (.Attribute o g lr)) pos.line X.env=pure false):PS X (.Assign [.Attribute o g lr] jd pos) (acH X.K ta tv g):=by
 intro pins s σ H D I h;refine X1 (aK (hv pins s σ H _ I h) λu s1 ⟨y,H1,I1,ry,q⟩=>aK (ha pins s1 σ H1 _ I1 q) λov s2 ⟨x,H2,I2,rx,a,C,N,te,ex,ea,c,n,q2⟩=>?_) hs;subst ex;obtain rfl:ov=Value.ref a:=rx;obtain⟨nm,qn,bs,sn,sub,ab,col,dd,k0,k1,k2,k3,k5,cls⟩:=c.obj;obtain⟨c1,c2,c3,c4,c5⟩:=cls s2.heap I2.fu;obtain⟨o,ge,p1,p2,vH,p3,p4⟩:=pO I2.ax ea;have ua:s2.heap.nsMap N g=none:=PySem.W.nsMap_none_of_in I2.fu (IR c) n.own;obtain⟨hh,gg,dr,tk,os⟩:=s2;refine Y4 PySem.F.store_Exception c1 c2 c5 ua n.base ge p1 (λc z=>(by rw[p3] at z;cases z)) p2 λh' ly w1 w2 w3=>?_;have dn:H2 hh.objs.size=none:=I2.ax.fresh (bJ _);have da:hh.objs.size≠a:=tQ (cZ ge);have e1:(upd (upd H2 a (exc C (some hh.objs.size) te a)) hh.objs.size (uu hh.objs.size (ie g y []))) a=some (exc C (some hh.objs.size) te a):=by rw[ao (dX da),aq]
 refine⟨σ,_,I2.Ed (h2:=h') (t2:=ly) [a,hh.objs.size] (λb nb=>?_) Ď (λb hb u' hu=>?_) Æa (λb hb o g=>?_),q2 hh.objs.size dn da⟩
 ·have:b≠a/\b≠hh.objs.size:=by simpa using nb
  rw[ao this.2,ao this.1]
 ·have:b=a\/b=hh.objs.size:=by simpa using hb
  rcases this with rfl|rfl
  ·exact .inr (su ea)
  ·exact .inl ⟨dn,OI (bJ _)⟩
 ·have:b=a\/b=hh.objs.size:=by simpa using hb
  rcases this with rfl|rfl
  ·rw[e1] at hu;cases hu;exact sr w2 ⟨p1,rfl,vH,p3,p4⟩
  ·rw[aq] at hu;cases hu;refine Q9 w1 (λf=>?_) (λz hz=>?_) (by show 1<=1000;decide)
   ·rw[HY];by_cases e:f=g
    ·rw[af e,af e];exact ry
    ·rw[ah e,ah e];exact True.intro
   ·by_cases e:z=g
    ·rw[e];exact(AV g y []).1
    ·rw[ah e] at hz;exact absurd rfl hz
 ·have:b≠a/\b≠hh.objs.size:=by simpa using nb
  exact w3 b o this.1 g
 ·have:b=a\/b=hh.objs.size:=by simpa using hb
  rcases this with rfl|rfl
  ·exact⟨_,w2⟩
  ·exact absurd (cZ g) (qw _)
def acJ(K:FR)(ta tv:TE)(g:Str):TS:=λD σ H=>tv σ H λy H1=>ta σ H1 λv H2=>∃a C N d te fs,v=.ref a/\H2 a=some (exc C (some d) te a)/\d≠a/\H2 d=some (uu d fs)/\fs.length<1000/\XC K C N/\D4 K N g/\
 D.nx σ (upd H2 d (uu d (ie g y fs)))
def acK{g:Str}{jd:Expr}{lr:Pos}(ha:PE X o ta)(hv:PE X jd tv)(hs:swapsWith jd (some (.Attribute o g lr)) pos.line X.env=pure false):PS X (.Assign [.Attribute o g lr] jd pos) (acJ X.K ta tv g):=by
 intro pins s σ H D I h;refine X1 (aK (hv pins s σ H _ I h) λu s1 ⟨y,H1,I1,ry,q⟩=>aK (ha pins s1 σ H1 _ I1 q) λov s2 ⟨x,H2,I2,rx,a,C,N,d,te,fs,ex,ea,ne,ed,fl,c,n,q2⟩=>?_) hs;subst ex;obtain rfl:ov=Value.ref a:=rx;obtain⟨nm,qn,bs,sn,sub,ab,col,dd,k0,k1,k2,k3,k5,cls⟩:=c.obj;obtain⟨c1,c2,c3,c4,c5⟩:=cls s2.heap I2.fu;obtain⟨o,ge,p1,p2,vH,p3,p4⟩:=pO I2.ax ea;obtain⟨mA,nA,rA,wA,lA⟩:=acq I2.ax ed;have ua:=PySem.W.nsMap_none_of_in I2.fu (IR c) n.own;have aC:a≠C:=λz=>by
  grind
 obtain⟨hh,gg,dr,tk,os⟩:=s2;have lz:(fs.map (·.1)).length<=sizeLine:=by rw[aA,u9];omega
 refine Y5 PySem.F.store_Exception c1 c2 c5 ua n.base ge p1 (λc z=>É) p2 ne nA wA lz aC λh' ly w1 w3=>?_;refine⟨σ,_,I2.Ed (h2:=h') (t2:=ly) [d] (λb nb=>?_) Ď (λb hb u' hu=>?_) Æa (λb hb o g=>?_),q2⟩
 ·have:b≠d:=by simpa using nb
  rw[ao this]
 ·have:b=d:=by simpa using hb
  subst this;exact .inr ⟨_,ed⟩
 ·have:b=d:=by simpa using hb
  subst this;rw[aq] at hu;cases hu;refine Q9 w1 (λf=>?_) (λz hz=>?_) (gQ (HZ g y fs) fl)
  ·rw[HY];by_cases e:f=g
   ·rw[af e,af e];exact ry
   ·simp_all
  ·by_cases e:z=g
   ·rw[e];exact(AV g y fs).1
   ·rw[ah e] at hz;exact(AV g y fs).2 z (wA z hz)
 ·simp_all
 ·have:b=d:=by simpa using hb
  subst this;obtain⟨o',_,_,e',_⟩:=w1;simp_all
end
abbrev Cx.qP(X:Cx)(a:Addr):Cx:={X with A:=X.A.mark (some Ğ),calm:=false,xe:=λ_ _=>False}
def Cx.Ok.qP{X:Cx}(ok:X.Ok)(a:Addr):(X.qP a).Ok:=
 ⟨ok.mod,ok.kind,ok.glob,ok.blt,ok.above,ok.inj,ok.has,ok.wV,λh=>(by cases h),ok.frames,ok.AF,ok.AG,ok.bs,ok.m7,ok.yA,ok.yB,ok.kG,ok.pC⟩
def Inv.qP{X:Cx}{pins:bG}{σ:St}{H:Hp}{s:Sh}(I:Ã H s)(a:Addr):Inv (X.qP a) pins σ H s:=⟨I.ok.qP a,I.os,I.bare,I.base,I.loc,I.cell,I.free,I.kH,I.pin,I.ax,I.len⟩
def Inv.y8(ok:X.Ok)(I:Inv (X.qP a) pins σ H s):Ã H s:=⟨ok,I.os,I.bare,I.base,I.loc,I.cell,I.free,I.kH,I.pin,I.ax,I.len⟩
def acL{M:Model}{A:Around}{E:VP}{nm q Rf q':Str}{C N C1 N1:Addr}{bs Rg:LV}{hdct acM:Bool}{sn Rh:LS}{sub Ri:LV}{ab Rj:Bool}{col Rk:Option Bool}{dd sj:OA}{k0 k1 k2 k3 k5 Rl Rm Rn Ro Rp:Option Value}{newId acN:String}{h:Heap} {g:Array GenState} {d:Drawn} {t:Nat} {os:OsState} {e:Addr} {oe:Obj} {Q:Bool->Shared->Prop}(hC:h.get? C=some (excClassObj nm q C N bs uv hdct sn sub ab col dd k0 k1 k2 k3 k5 newId)) (Rq:h.get? C1=some (excClassObj Rf q' C1 N1 Rg uv acM Rh Ri Rj Rk sj Rl Rm Rn Ro Rp acN))(he:h.get? e=some oe) (AA:oe.cls=.ref C) (ne:C≠C1)(hq:Q false ⟨h,g,d,t,os⟩):Ž (excMatches Èp (.ref C1)) Q E ⟨h,g,d,t,os⟩:=by
 have Hu:(Value.ref C1::uv).contains (.type "BaseException")=true:=by rw[Am,show uv.contains (.type "BaseException")=true by decide,XI]
 have Ht:(Value.ref C::uv).contains (.ref C1)=false:=by
  grind
 have f:=tc_notTuple;unfold excMatches
 repeat (first|(with_reducible refine tP he ?_;rw[AA])|with_reducible refine tP Rq ?_|with_reducible refine tP hC ?_|(with_reducible refine OE Rq ?_;rw[Hu])|(with_reducible refine OE hC ?_;rw[Ht])|wp_step)
 exact hq
abbrev TH:=Hp->Addr->Addr->OA->TS
def PH(X:Cx)(Ef:List ExceptHandler)(th:TH):Prop:=
 ∀(pins:bG)(s:Sh)(σ:St)(H H0:Hp)(a C N:Addr)(od:OA)(D:Ends),Ã H s->XC X.K C N->qM .none H0 a C od H->th H0 a C od D σ H->
  wpAny È X.A (handleBy Ğ X.env Ef) Åj X.xe s
def acO:TH:=λ_ _ _ _ _ _ _=>False
def acP:PH X [] acO:=λ_ _ _ _ _ _ _ _ _ _ _ _ _ h=>h.elim
def acQ(C1:Addr)(ts:TS)(th:TH):TH:=λH0 a C od D σ H=>(C=C1->∀H',qM .none H0 a C od H'->ts D σ H')/\(C≠C1->th H0 a C od D σ H)
theorem SP.y8(ok:X.Ok)(h:SP (X.qP a) pins D f s'):SP X pins D f s':=by
 cases f with
 |next=>obtain⟨σ',H',I,q⟩:=h;exact⟨σ',H',I.y8 ok,q⟩
 |brk=>obtain⟨σ',H',I,q⟩:=h;exact⟨σ',H',I.y8 ok,q⟩
 |cont=>obtain⟨σ',H',I,q⟩:=h;exact⟨σ',H',I.y8 ok,q⟩
 |ret u=>obtain⟨v,σ',H',I,r,q⟩:=h;exact⟨v,σ',H',I.y8 ok,r,q⟩
section
variable{X:Cx}{C1 N1:Addr}{x:Str}{p pos:Pos}{b0:Stmt}{Rr:List Stmt}{bI:List ExceptHandler}{ts:TS}{th:TH}
def Eg(c1:XC X.K C1 N1)(hg:Gl X x)(hm:X.mg x=some (.ref C1))(hs:∀a,kI (X.qP a) (b0::Rr) ts)(hr:PH X bI th)(iY:(x==("__debug__":Str))=false:=by decide):
  PH X (.ExceptHandler (some ż) none (b0::Rr) pos::bI) (acQ C1 ts th):=by
 intro pins s σ H H0 a C N od D I c f h;refine wpAny_handleBy_cons (codeAny_handlers_test (vi (X:=X.qP a) (I.qP a) hg hm ?_ iY)) (by intro q;cases q);obtain⟨nm,qn,bs,sn,sub,ab,col,dd,k0,k1,k2,k3,k5,cls⟩:=c.obj;obtain⟨Rf,qn',Rg,Rh,Ri,Rj,Rk,sj,Rl,Rm,Rn,Ro,Rp,acR⟩:=c1.obj;obtain⟨d1,_⟩:=cls s.heap I.fu;obtain⟨d2,_⟩:=acR s.heap I.fu;obtain⟨T,ha,kp,ne,xp,hT⟩:=id f;obtain⟨o,ge,q1,q2,vH,q3,q4⟩:=pO I.ax ha;by_cases e:C=C1
 ·subst e;obtain⟨hh,g,d,tk,os⟩:=s;refine wpAny_excMatches_sub_self d1 ge q1 Ú ?_;refine codeAny_handlers_suite ?_;refine Bl (X:=X) none I f λs' H' I' f'=>?_;refine iU (hs a pins s' σ H' D (I'.qP a) (h.1 rfl H' f')) (λfl s2 q=>q.y8 I'.ok) λ_ _ z=>False.elim z
 ·obtain⟨hh,g,d,tk,os⟩:=s;refine acL d1 d2 ge q1 e ?_;exact hr pins _ σ H H0 a C N od D I c f (h.2 e)
end
def Rt(X:Cx)(gM:List Stmt)(tb:XK->TS):Prop:=
 ∀(pins:bG)(s:Sh)(σ:St)(H:Hp)(D:Ends)(E:XK),Ã H s->tb E D σ H->wpAny È X.A (execs gM X.env) Åj
  (λe s'=>∃a C od H0 H',e=.ref a/\Ã H' s'/\qM .none H0 a C od H'/\(∀d,od=some d->d≠a)/\E ā od H0) s
def acS(K:FR)(th:TH)(D:Ends)(σ:St):XK:=λcv od H0=>∃C N,cv=.ref C/\XC K C N/\∀a H',(∀d,od=some d->d≠a)->qM .none H0 a C od H'->th H0 a C od D σ H'
def acT(K:FR)(tb:XK->TS)(th:TH):TS:=λD σ H=>tb (acS K th D σ) D σ H
def acU(ow:X.Ec)(hb:Rt X gM tb)(hh:PH X (h0::hs) th):PS X (.Try gM (h0::hs) [] [] pos) (acT X.K tb th):=by
 intro pins s σ H D I h;refine wpAny_Try_except (iU (hb pins s σ H D _ I h) (λf s1 q=>?_) λe s1 q=>?_)
 ·cases f with
  |next=>exact C8 q
  |brk=>exact q
  |cont=>exact q
  |ret v=>exact q
 ·obtain⟨a,C,od,H0,H1,rfl,I1,f1,hd,C',N,ec,c,hk⟩:=q;cases ec;refine D7 ow.1 ow.2 ow.2 I1.ok.frames I1 f1.at_ λs2 H2 I2 f2=>?_;refine Bl none I2 f2 λs3 H3 I3 f3=>?_;exact hh pins s3 σ H3 H0 a C N od D I3 c f3 (hk a H3 hd f3)
section
def acV(hN:X.N.Nodup)(hi:X.N[i]? =some x)(hx:Loc X.env.scope x)(F:ú (gn X.prog X.w) k f fd ps sp)(hr:dv k X.A)(hg:Gl X g)(hm:X.mg g=some Ă)(hk:PySem.W.keepIn X.K Ă=true)(hb:ŀ [])(ha:PA X.vm (e::es) t)(hs:swapsWith (.Call Çz (e::es) [] pos) (some (.Name x px)) vB.line X.env=pure false:=by rfl) (hf:X.fn x=true\/X.env.scope.names.lookup x=some .local:=by first|exact .inl rfl|exact .inr rfl|assumption)(iY:(g==("__debug__":Str))=false:=by decide) (he:starEach (e::es) X.env=(false,eval e X.env)::starEach es X.env:=by rfl) (c9:(backTo pos õ).any (·.1)=false:=by rfl):
  Rt X [.Assign [.Name x px] (.Call Çz (e::es) [] pos) vB] (λE=>yF (g9 sp [] E t) (pH i)):=by
 intro pins s σ H D E I h;have gO:wpAny È X.A (eval (.Call Çz (e::es) [] pos) X.env) (ò λv H1=>D.nx ļ H1) (λe s'=>∃a C od H0 H',e=.ref a/\Ã H' s'/\qM .none H0 a C od H'/\(∀d,od=some d->d≠a)/\E ā od H0) s:=by
  refine wL (vi I hg hm ?_ iY);refine PySem.W.callWith_K (h₀:=X.base) I.ok.mod.rS hk (iU (ha pos pins s σ H _ (I.iD _) h) (λus s1 ⟨vs,H1,I1,r,q⟩=>Ár) λ_ _ z=>False.elim z) he c9;have I1:=I1.lU;have q:sp (vs++[]) H1 (λv H1=>D.nx ļ H1) E:=q;rw[jv] at q;have hl:us.length=ps.length:=by rw[<-r.length];exact F.len _ _ _ _ q
  have bb:=hb s1 us I1.fu É;rw[jv] at bb;refine An (u5 (F.run X.A X.stack s1 H1 ⟨us,[]⟩ us vs _ E hr I1.yM bb r q) λr s' hq=>?_);cases r with
  |error e=>
   obtain⟨a,C,od,H0,H',e1,e2,e3,e4,e5,e6,e7,e8⟩:=hq;exact⟨a,C,od,H0,H',e1,I1.vh (ch:=[]) e2 e4 e5 e3 ĵ,e6,e7,e8⟩
  |ok fl=>
   cases fl with
   |ret u=>exact I1.after hq
   |next=>exact False.elim hq
   |brk=>exact False.elim hq
   |cont=>exact False.elim hq
 refine OJ (wpAny_Assign_Name (iU gO (λv s1 ⟨y,H1,I1,r1,q1⟩=>?_) λ_ _ z=>z) hs);exact Dv I1 hN hi hx r1 (λs2 I2=>C8 ⟨_,H1,I2,q1⟩) hf
end
def Bn(K:FR)(a:Addr):It:=
 ⟨λi H=>∃(xs:au)(x:V),Ť a xs/\xs[i]? =some x,λi H v H'=>∃T x,v=.ref T/\H T=none/\H'=upd H T (.tup [.int (i:Nat),x])/\∀xs,Ť a xs->xs[i]? =some x,λi H=>∃xs:au,Ť a xs/\xs.length=i⟩
def IS(x:IsTup h a aj):h.IsTuple a aj:=x
def acW{P:Pg}{w:Wd}{K:FR}{mQ:List Expr}{kk:Nat}{l7:Pos}(a e it:Addr):
  Turn P w K ī (Bn K a) [e,it] e (λi h=>(∃iC,IsEnum h e it ((i:Nat):Int) iC)/\h.IsTupleIter it a i/\e≠it/\a≠it/\a≠e) where
 mem:=by simp
 obj:=λi h=>D1
 keep:=λi h h' st k=>let ⟨⟨iC,he⟩,hi,aQ⟩:=st;⟨⟨iC,k e Ä _ he⟩,hi.at λo q=>k it Ä o q,aQ⟩
 item:=by
  show Ô;subst hP hw hK;have ob:=D1 st;obtain⟨⟨iC,he⟩,mO,aQ,Eh,IT⟩:=st;obtain⟨xs,x,hq,hx⟩:=hg;obtain⟨aj,rv,p,hz⟩:=I.tuple hq;obtain⟨u,hu,ru⟩:=rv.get hx;have IG:=cZ he;have hh:X.A.in1.handled=none:=I.ok.hd hc;refine wpAny_pyNext_enum_itemD (Pi hh it a Eh aj.toArray) he ⟨mO,IS p⟩ (by simpa using (bO.mp hu).1) aQ (by simp;exact⟨aQ,dX IT⟩) λy h' tk hy ho ou hT hsz hk=>?_;have ey:y=u:=by
   have q:=hu.symm.trans (À hy);exact(aN q).symm
  subst ey;refine⟨_,rfl,apn (s:={s with heap:=h',toks:=tk+1}) ho λpN Bi sb=>?_⟩;have uq:pN.get? s.heap.objs.size=some {cls:=.type "tuple",data:=.seq #[.int i tk,y]}:=(sb.2 _ (tQ IG)).trans hT;have ⟨I1,n1⟩:=D0 (x:=.int (i:Nat)) (t':=tk+1) ob hf (λb ob hb q=>(sb.2 b (λz=>hb (by simp[z]))).trans (hk b ob (λz=>hb (by simp[z])) (λz=>hb (by simp[z])) q)) I uq ⟨_,rfl⟩ ru;exact⟨.ref s.heap.objs.size,_,I1,rfl,⟨_,x,rfl,I.ax.fresh (bJ _),rfl,λys hy=>by rw[I.Px hy hq];exact hx⟩,⟨⟨y,by rw[show((i+1:Nat):Int)=(i:Int)+1 by omega];exact Bi⟩,ou.1.at λo q=>(sb.2 it Åh).trans q,aQ,Eh,IT⟩,n1⟩
 done:=by
  show Ô;subst hP hw hK;obtain⟨⟨iC,he⟩,mO,aQ,Eh,IT⟩:=st;obtain⟨xs,hq,hx⟩:=hg;obtain⟨aj,rv,p,hz⟩:=I.tuple hq;show ë;have hl:=rv.length;have hh:X.A.in1.handled=none:=I.ok.hd hc;have en:i=aj.toArray.size:=by
   rw[tX];omega
  subst en;exact wpAny_pyNext_enum_endD (Pi hh it a Eh aj.toArray) he ⟨mO,IS p⟩ λh' eb=>⟨rfl,I.turned (t':=s.toks) (λb o hb q=>eb b o hb q) f0 f1 f3 f4 f5⟩
 self:=λA i s Q E st h=>let ⟨⟨_,he⟩,_⟩:=st;OX he h
def acX(K:FR)(ta:TA):TI:=λσ H R=>ta σ H λvs H1=>∃a xs,vs=[.ref a]/\bu K H1 a xs/\R (Bn K a) H1
def Ru{X:Cx}{e:Expr}{ta:TA}{p pos l7:Pos}{mQ:List Expr}{kk:Nat}(hg:Gl X "enumerate")(hm:X.mg "enumerate"=none)(ha:PA X [e] ta)(hs:starEach [e] X.env=[(false,eval e X.env)]:=by rfl):
  PI X ī (.Call (.Name "enumerate" p) [e] [] pos) (acX X.K ta):=by
 intro pins s σ H R I h;refine Call_ (Àh boot_enumerate (C9 (aK (ha pos pins s σ H _ I h) λus s1 ⟨vs,H1,I1,r1,q1⟩=>?_) hs rfl));obtain⟨a,xs,ex,hq,q⟩:=q1;subst ex;cases r1 with
 |cons r rr=>
  cases rr;cases r;obtain⟨aj,rv,p',hz⟩:=I1.tuple hq;have Bo:=p'.lt;refine Y9 (IS p') λh' he mO hsz hk=>OX he ?_;have I2:Ã H1 {s1 with heap:=h'}:=I1.kept (t':=s1.toks) hk;refine⟨s1.heap.objs.size+1,[s1.heap.objs.size+1,s1.heap.objs.size],_,_,H1,rfl,I2,acW a (s1.heap.objs.size+1) s1.heap.objs.size,⟨⟨.none,he⟩,mO,Nat.succ_ne_self _,fj Bo,fj (OS Bo)⟩,λb hb=>?_,q⟩;have e':b=s1.heap.objs.size+1\/b=s1.heap.objs.size:=À hb
  have j7:s1.heap.objs.size<=b:=by
   grind
  exact I1.vo j7 Æz
def acY{K:FR}{a:Addr}{xs:au}{g:TG}{tb:TS}{D:Ends}{σ:St}{H:Hp}(Pv:Nat->St->Hp->Prop)(h0:Pv 0 σ H)(hl:∀i σ H,i<=xs.length->Pv i σ H->â a xs)(hs:∀i x T σ H,xs[i]? =some x->Pv i σ H->H T=none->g ũ σ (Ϛ (.tup [.int (i:Nat),x])) λσ2 H2=>tb {D with nx:=Pv (i+1),ct:=Pv (i+1),bk:=D.nx} σ2 H2) (hd:∀σ H,Pv xs.length σ H->D.nx σ H):
  ∃W:Nat->Nat->St->Hp->Prop,(∃m,W 0 m σ H)/\∀i m σ H,W i m σ H->
   ((vF K a).stop i H/\D.nx σ H)\/((vF K a).go i H/\∃N:St->Hp->Prop,(∀σ' H',N σ' H'->∃m',m'<m/\W (i+1) m' σ' H')/\∀x H',(vF K a).m8 i H x H'->g x σ H' λσ2 H2=>tb {D with nx:=N,ct:=N,bk:=D.nx} σ2 H2):=by
 refine î;rintro i m σ H ⟨rfl,hi,p⟩;have q:=hl i σ H hi p;by_cases bQ:i<xs.length
 ·refine .inr ⟨⟨xs,xs[i],q,by simp[bQ]⟩,Pv (i+1),λσ' H' p'=>⟨xs.length-(i+1),by omega,rfl,bQ,p'⟩,λx H' y=>?_⟩;obtain⟨T,z,e1,e2,e3,e4⟩:=y;subst e1 e3;exact hs i z T σ _ (e4 xs q) p e2
 ·have e:i=xs.length:=by omega
  subst e;exact .inl ⟨⟨xs,q,bJ _⟩,hd σ H p⟩
def Rv{K:FR}{a:Addr}{xs:au}{g:TG}{tb:TS}{D:Ends}{σ:St}{H:Hp}(Pv:Nat->St->Hp->Prop)(h0:Pv 0 σ H)(hl:∀i σ H,i<=xs.length->Pv i σ H->Ť a xs)(hs:∀i x T σ H,xs[i]? =some x->Pv i σ H->H T=none->g ũ σ (Ϛ (.tup [.int (i:Nat),x])) λσ2 H2=>tb {D with nx:=Pv (i+1),ct:=Pv (i+1),bk:=D.nx} σ2 H2) (hd:∀σ H,Pv xs.length σ H->D.nx σ H):
  ∃W:Nat->Nat->St->Hp->Prop,(∃m,W 0 m σ H)/\∀i m σ H,W i m σ H->
   ((Bn K a).stop i H/\D.nx σ H)\/((Bn K a).go i H/\∃N:St->Hp->Prop,(∀σ' H',N σ' H'->∃m',m'<m/\W (i+1) m' σ' H')/\∀x H',(Bn K a).m8 i H x H'->g x σ H' λσ2 H2=>tb {D with nx:=N,ct:=N,bk:=D.nx} σ2 H2):=by
 refine î;rintro i m σ H ⟨rfl,hi,p⟩;have q:=hl i σ H hi p;by_cases bQ:i<xs.length
 ·refine .inr ⟨⟨xs,xs[i],q,by simp[bQ]⟩,Pv (i+1),λσ' H' p'=>⟨xs.length-(i+1),by omega,rfl,bQ,p'⟩,λx H' y=>?_⟩;obtain⟨T,z,e1,e2,e3,e4⟩:=y;subst e1 e3;exact hs i z T σ _ (e4 xs q) p e2
 ·have e:i=xs.length:=by omega
  subst e;exact .inl ⟨⟨xs,q,rfl⟩,hd σ H p⟩
def acZ{x:Str}{g:TG}{tt:TT}{te:TE}{vs:LN}{σ:St}{H1:Hp}{D:Addr}{Qd:Hp->Prop}(Pv:Nat->Hp->Prop)(h0:Pv 0 ċ)(hs:∀i c H,x.cps[i]? =some c->Pv i H->g (.str ⟨#[c]⟩) ĸ H λσ2 H2=>wipe σ2 vs=wipe σ vs/\tt σ2 H2 λb H3=>
   if b=true then te σ2 H3 (jN D (Pv (i+1))) else Pv (i+1) H3) (hd:∀H,Pv x.cps.size H->Qd H):
  ∃W:Nat->Nat->Hp->Prop,(∃m,W 0 m ċ)/\∀i m H,W i m H->
   ((Bd x).stop i H/\Qd H)\/((Bd x).go i H/\∃Nx:Hp->Prop,(∀H',Nx H'->∃m',m'<m/\W (i+1) m' H')/\∀y H',(Bd x).m8 i H y H'->g y ĸ H' λσ2 H2=>wipe σ2 vs=wipe σ vs/\tt σ2 H2 λb H3=>
    if b=true then te σ2 H3 Åt else Nx H3):=by
 refine⟨λi m H=>m=x.cps.size-i/\i<=x.cps.size/\Pv i H,⟨x.cps.size,by simp,dY _,h0⟩,?_⟩;rintro i m H ⟨rfl,hi,p⟩;by_cases bQ:i<x.cps.size
 ·refine .inr ⟨bQ,Pv (i+1),λH' p'=>⟨x.cps.size-(i+1),by omega,rfl,bQ,p'⟩,λy H' q=>?_⟩;obtain⟨e,c,e1,e2⟩:=q;simp_all
 ·have e:i=x.cps.size:=by omega
  subst e;exact .inl ⟨bJ _,hd H p⟩
section
variable{X:Cx}
def Rw{E:XK}{i:Nat}{y:Str}{py:Pos}{j6 tg iter:Expr}{ju:List Expr}{scope:Scope}{own:List (Str×Nat)}{pos vB:Pos}{wi:TI}{g:TG}{tt:TT}{te:TE}(hc:X.calm=true)(ow:X.Ec)(hN:X.N.Nodup)(hy:X.N[i]? =some y)(si:X.env.scope.names.lookup y=some .local)(A7:swapsWith à (some (.Name y py)) vB.line X.env=pure true) (hi:PI (X.xq E) tg iter wi) (ok:Ĭ own)(hg:∀(s:Sh)(H:Hp)(C:Addr)(cl:eV)(fp:LA),PG Ñ tg g) (ht:∀(s:Sh)(H:Hp)(C:Addr)(cl:eV)(fp:LA),xk Ñ ju tt)(he:∀(s:Sh)(H:Hp)(C:Addr)(cl:eV)(fp:LA),PE ((X.gj s H scope Às fp).xq E) j6 te) (hs:∀x,foldedSetIterable iter X.env x=pure x:=by intro _;rfl):
  PS (X.xq E) (.Assign [.Name y py] à vB) (yF (A6 wi g tt te (own.map (·.2))) (pH i)):=by
 refine QP (Ex:=y4 X E) (Eb:=λB=>y4 B E) hc hN hy si A7 hi ok hg ht he hs λ{use Qf}pins σ s3 H3 cl fp D e oB I3 f3 hz=>?_;generalize kU:compEnvC scope cl s3.heap.objs.size X.env=ce at hz;have cL:ce.locals=s3.heap.objs.size:=by subst kU;rfl
 obtain⟨xa,xC,od,H0,Hx,σx,rfl,Ix,fx,i5,hE⟩:=hz;refine D7 (X:=X.gj s3 H3 scope ce fp) (en:=ce) ow.1 ow.2 (by rw[<-kU];exact ow.2) I3.ok.frames Ix fx λkW Bp vA Rx=>?_;obtain⟨m,hn,_⟩:=id vA.loc;have hn:=hn;rw[cL] at hn;have nC:Bp s3.heap.objs.size=none:=by
  have z:=vA.free;rw[cL] at z;exact z
 have gO:∃m,kW.heap.Ns s3.heap.objs.size m/\∀h',Heap.SameBut s3.heap.objs.size kW.heap h'->∀fe:Env,fe.locals=s3.heap.objs.size->wpAny È X.A (passOn "comprehension.variables-let-go" (.ref xa) fe:Sem Value) Ãx (y4 X E) {kW with heap:=h'}:=by
  refine⟨m,hn,λh' sb fe _=>?_⟩;have I12:Ã Bp kW:=I3.vh (ch:=fp) vA.os vA.base vA.ax vA.bare λb hb=>⟨(f3 b hb).1.2.2.2.1,(f3 b hb).1.2.1,(f3 b hb).1.2.2.2.2.1,(f3 b hb).1.2.2.2.2.2⟩;obtain⟨g0,g1,g2,g3,g4,g5⟩:=I3.vo (H':=Bp) (bJ _) nC;have Ry:Ã Bp {kW with heap:=h',toks:=kW.toks}:=I12.turned (t':=kW.toks) (λb o hb e=>(sb.2 b hb).trans e) g0 g1 g3 g4 g5;obtain⟨T',Bm,_⟩:=id Rx;obtain⟨o',ge',q1',q2',vH,q3',q4'⟩:=pO Ry.ax Bm;unfold PySem.passOn;refine aP (u7 ge' q3' q4' ?_);rw[ah (show ¬(Value.ref T'==Value.none)=true from d9)];refine aP (Bl fe.frame Ry Rx λoE H14 I14 f14=>wpAny_throw ?_);exact⟨xa,xC,od,H0,H14,σ,rfl,I14.IP,f14.at_,i5,hE⟩
 cases use <;> exact gO
end
end L2
end
section
namespace L2
open PySem PySem.Spec PyProof.Rows
theorem xu:∀xs ys:LI,PyData.eqvAll ϝ (ys.map PyData.int)=decide (xs=ys)
 |[],[]=>by simp[PyData.eqvAll]
 |[],y::ys=>by simp[PyData.eqvAll]
 |x::xs,[]=>by simp[PyData.eqvAll]
 |x::xs,y::ys=>by
  simp only[a0,PyData.eqvAll,PyData.eqv,xu xs ys];by_cases h:x=y
  ·subst h;simp
  ·simp[h]
theorem Rz:∀xs:LI,PyData.canLayAll0 ϝ=true:=by
 intro xs;induction xs with
 |nil=>exact rfl
 |cons x xs ih=>
  simp only[a0,PyData.canLayAll0,PyData.canLay0,ih,OY]
theorem RA:∀xs:LI,PyData.depthAll ϝ<=1:=by
 intro xs;induction xs with
 |nil=>
  simp[PyData.depthAll]
 |cons x xs ih=>
  have:=ih;simp only[a0,PyData.depthAll,PyData.depth];omega
def shaped_ints(xs:LI):SeqAt.shaped (.list ϝ)=true:=by
 unfold SeqAt.shaped;rw[jw,og];refine⟨Rz xs,?_⟩;have:=RA xs;simp only[PyData.depth];omega
theorem qQ{K:FR}{H:Hp}:∀xs:LI,i3 K H Èc ϝ:=by
 intro xs;induction xs with
 |nil=>exact .nil
 |cons x xs ih=>
  exact .cons (.int x) ih
inductive ac7(K:FR)(x:V)(y:V)(H:Hp)(Q:VK):Prop
 |mk (a b:Addr) (xs ys:LI) (_:x=.ref a) (_:y=.ref b) (_:â a Èc) (_:â b (ys.map V.int)) (_:Q (.bl (decide (xs=ys))) H)
inductive ac8(K:FR)(x:V)(y:V)(H:Hp)(Q:VK):Prop
 |mk (a b:Addr) (xs ys:LI) (_:x=.ref a) (_:y=.ref b) (_:â a Èc) (_:â b (ys.map V.int)) (_:Q (.bl (!decide (xs=ys))) H)
section
def ac9(hu:X.A.units+64<cLine):eS X Áh (ac7 X.K):=by
 intro pins s σ H x y v u Q I rx ry ⟨a,b,xs,ys,e1,e2,h1,h2,q⟩;subst e1 e2;refine QD hu pins s σ H _ _ v u Q I rx ry ⟨_,_,.lst h1 (qQ xs),.lst h2 (qQ ys),shaped_ints _,shaped_ints _,?_⟩;show Q (.bl (PyData.eqvAll _ _)) H;rw[xu];exact q
def RB(hu:X.A.units+64<cLine):eS X Áp (ac8 X.K):=by
 intro pins s σ H x y v u Q I rx ry ⟨a,b,xs,ys,e1,e2,h1,h2,q⟩;subst e1 e2;refine Ip hu pins s σ H _ _ v u Q I rx ry ⟨_,_,.lst h1 (qQ xs),.lst h2 (qQ ys),shaped_ints _,shaped_ints _,?_⟩;show Q (.bl (!PyData.eqvAll _ _)) H;rw[xu];exact q
inductive RC(K:FR)(x:V)(y:V)(H:Hp)(Q:VK):Prop
 |mk (a b xs:_) (_:x=.ref a) (_:y=.ref b) (_:â a xs) (_:â b []) (_:Q (.bl xs.isEmpty) H)
inductive ada(K:FR)(x:V)(y:V)(H:Hp)(Q:VK):Prop
 |mk (a b xs:_) (_:x=.ref a) (_:y=.ref b) (_:â a xs) (_:â b []) (_:Q (.bl (!xs.isEmpty)) H)
def RD(r:bc xs aj)(r':bc [] its')(h:xs≠[]):(aj.toArray.size !=its'.toArray.size)=true:=by
 cases r';have:=r.length;grind
def xw(hu:X.A.units+64<cLine):eS X Áh (RC X.K):=by
 intro pins s σ H x y v u Q I rx ry ⟨a,b,xs,e1,e2,h1,h2,q⟩;subst e1 e2;by_cases hx:xs=[]
 ·subst hx;refine QD hu pins s σ H _ _ v u Q I rx ry ⟨_,_,.lst h1 .nil,.lst h2 .nil,by rfl,by rfl,?_⟩;exact q
 ·cases rx;cases ry;obtain⟨aj,r1,⟨o1,n1,g1,c1,_,d1⟩,_⟩:=I.list h1;obtain⟨its',r2,⟨o2,n2,g2,c2,_,d2⟩,_⟩:=I.list h2;refine SeqAt.eq_list_lengthsAt ⟨o1,g1,c1,n1,d1⟩ ⟨o2,g2,c2,n2,d2⟩ (RD r1 r2 hx) Æ ⟨.bl false,H,I,rfl,?_⟩;grind
def Bq(hu:X.A.units+64<cLine):eS X Áp (ada X.K):=by
 intro pins s σ H x y v u Q I rx ry ⟨a,b,xs,e1,e2,h1,h2,q⟩;subst e1 e2;by_cases hx:xs=[]
 ·subst hx;refine Ip hu pins s σ H _ _ v u Q I rx ry ⟨_,_,.lst h1 .nil,.lst h2 .nil,by rfl,by rfl,?_⟩;exact q
 ·cases rx;cases ry;obtain⟨aj,r1,⟨o1,n1,g1,c1,_,d1⟩,_⟩:=I.list h1;obtain⟨its',r2,⟨o2,n2,g2,c2,_,d2⟩,_⟩:=I.list h2;obtain⟨cls,dd,data,sl⟩:=o1;obtain⟨Qa,lZ,data2,ni⟩:=o2;simp only at c1 d1 c2 d2;subst c1 d1 c2 d2;refine OM (op:=.NotEq) ⟨_,g1,rfl⟩ ⟨_,g2,rfl⟩ F.slot_list_ne F.entry_list_ne (F.args_list_ne_2 _ _) (SeqAt.list_ne_lengthsAt a b aj.toArray its'.toArray n1 n2 dd lZ sl ni (RD r1 r2 hx))
   ⟨g1,g2,(λx=>nomatch x),⟨.bl true,H,I,rfl,?_⟩⟩ Æ
  grind
end
end L2
end
section
namespace L2
open PySem PySem.Spec PyProof.Rows PySem.XL
theorem adb(x:Àu o):∃ob,h.get? a=some ob:=by
 cases o with
 |lst xs=>obtain⟨_,_,_,_,e⟩:=x;exact⟨_,e⟩
 |tup xs=>obtain⟨_,_,_,ob,e,_⟩:=x;exact⟨ob,e⟩
 |dK kvs=>obtain⟨_,_,_,_,o,_,_,e,_⟩:=x;exact⟨o,e⟩
 |dT kvs=>obtain⟨_,_,_,_,o,_,_,e,_⟩:=x;exact⟨o,e⟩
 |set S n=>obtain⟨o,_,_,_,e,_⟩:=x;exact⟨o,e⟩
 |ins C dx fs=>obtain⟨_,_,_,e,_⟩:=x;exact⟨_,e⟩
 |own y=>obtain⟨ob,e⟩:=x;exact⟨ob,e⟩
 |xd fs=>obtain⟨_,⟨ob,_,_,e,_⟩,_⟩:=x;exact⟨ob,e⟩
 |rR lo hi=>obtain⟨_,_,_,e⟩:=x;exact⟨_,e⟩
 |cu ob u=>obtain⟨e,_⟩:=x;exact⟨ob,e⟩
 |gG ps=>exact⟨_,x⟩
 |met f y=>exact⟨_,x⟩
 |ext φ=>obtain⟨_,⟨ob,e⟩,_⟩:=x;exact⟨ob,e⟩
section
def ade(C:Addr):TE:=λ_ H Q=>∀x,H x=none->Q Ŝ (Áe ŏ)
def ny(c:XC X.K C N)(mI:PySem.W.nsIn X.K N "__init__"=some none)(kp:PySem.W.keepIn X.K ā=true)(hg:Gl X x)(hm:X.mg x=some ā)(iY:(x==("__debug__":Str))=false:=by decide):
  PE X (.Call ż [] [] pos) (ade C):=by
 show Ö;refine wL (vi I hg hm ?_ iY);refine PySem.W.callWith_K0 I.fu kp ?_;obtain⟨nm,q,bs,sn,sub,ab,col,dd,k0,k1,k2,k3,k5,cls⟩:=c.obj;obtain⟨c1,c2,_⟩:=cls s.heap I.fu;have wR:=PySem.W.nsMap_none_of_in I.fu (IR c) mI;have I0:=I;obtain⟨hh,g,d,tk,os⟩:=s;refine wpAny_call_exc_sub PySem.F.excBase_Exception c1 c2 wR (λh' e me=>?_) Ä;obtain⟨t,ge,_⟩:=me.there;have ne:H e=none:=by
  cases z:H e with
  |none=>rfl
  |some u=>
   obtain⟨o,eo⟩:=adb (I0.ax e u z);have nn:=me.new;simp_all
 refine⟨.ref e,_,I0.Ed (h2:=h') (t2:=tk) [e] (λb nb=>?_) Ď Ϲ (λb o nb g=>me.keeps b o g) (λb hb o g=>⟨_,me.keeps b o g⟩),rfl,h e ne⟩
 ·have:b≠e:=by simpa using nb
  rw[ao this]
 ·have:b=e:=by simpa using hb
  subst this;exact .inl ⟨ne,me.new⟩
 ·have:b=e:=by simpa using hb
  subst this;rw[aq] at hu;cases hu;exact sr ge ⟨rfl,rfl,_,rfl,rfl⟩
end
section
def Dp.inj{pins:bG}{σ:St}{H:Hp}{s:Sh}(I:Ã H s){d d':PyData}{v:V}(h:Dp X.K H v d):Dp X.K H v d'->d=d':=by
 have no:∀{a xs ys},Àv a xs->bu X.K H a ys->False:=λs1 s2=>by
  obtain⟨_,_,⟨o1,n1,g1,c1,_,_⟩,_⟩:=I.list s1;obtain⟨_,_,⟨o2,g2,c2,_,_⟩,_⟩:=I.tuple s2;rw[g1] at g2;cases g2;rw[c1] at c2;exact absurd c2 Ê
 refine Dp.rec (motive_1:=λv d _=>∀d',Dp X.K H v d'->d=d') (motive_2:=λvs ds _=>∀RE,i3 X.K H vs RE->ds=RE)
  (λd' h=>by cases h;rfl) (λb d' h=>by cases h;rfl) (λi d' h=>by cases h;rfl) (λx d' h=>by cases h;rfl) (λs1 a1 ih d' h=>?_) (λs1 a1 ih d' h=>?_) (λd' h=>by cases h;rfl) (λ_ _ i1 i2 d' h=>?_) h d'
 ·cases h with
  |lst s2 a2=>
   have e:=I.AL s1 s2;subst e;rw[ih _ a2]
  |tup s2 a2=>exact(no s1 s2).elim
 ·cases h with
  |tup s2 a2=>
   have e:=I.Px s1 s2;subst e;rw[ih _ a2]
  |lst s2 a2=>exact(no s2 s1).elim
 ·cases h with
  |cons d2 r2=>rw[i1 _ d2,i2 _ r2]
def dataOf:List (Value×PyData)->Value->PyData
 |[],_=>.none
 |(u,d)::r,x=>if u=x then d else dataOf r x
inductive RF(K:FR)(x:V)(y:V)(H:Hp)(Q:VK):Prop
 |mk (p:Addr) (xs:au) (ds:List PyData) (dx:PyData) (_:y=.ref p) (_:â p xs) (_:i3 K H xs ds) (_:Dp K H x dx) (_:(∀d∈ds,SeqAt.shaped d=true)) (_:SeqAt.shaped dx=true) (_:Q (.bl (ds.any λd=>PyData.eqv d dx)) H)
def RG{pins:bG}{σ:St}{H:Hp}{s:Sh}(I:Ã H s){xs:au}:∀{ds:List PyData}{us:LV},i3 X.K H xs ds->bc xs us->
  ∀(i:Nat)(u:Value)(d:PyData),us[i]? =some u->ds[i]? =some d->dataOf (us.zip ds) u=d/\∃v,Dp X.K H v d/\RelV v u:=by
 induction xs with
 |nil=>
  intro ds us hd hv i u d h _;cases hv;simp at h
 |cons x xs ih=>
  intro ds us hd hv i u d h1 h2;cases hd with
  | @cons _ _ e ds d1 r1=>
  cases hv with
  | @cons _ w _ us v1 r2=>
  show(if w=u then e else dataOf (us.zip ds) u)=d/\_;cases i with
  |zero=>
   have e1:=aN h1;have e2:=aN h2;subst e1 e2;exact⟨af rfl,x,d1,v1⟩
  |succ i=>
   obtain⟨q1,v,q2,q3⟩:=ih r1 r2 i u d h1 h2;refine⟨?_,v,q2,q3⟩;by_cases z:w=u
   ·subst z;rw[af rfl];have:x=v:=v1.inj q3;subst this;exact Dp.inj I d1 q2
   ·rw[ah z];exact q1
theorem RH{K:FR}{H:Hp}{xs:au}:∀{ds:List PyData},i3 K H xs ds->xs.length=ds.length:=by
 induction xs with
 |nil=>intro ds h;cases h;rfl
 |cons x xs ih=>
  intro ds h;cases h with
  |cons _ r=>rw[c7,c7,ih r]
theorem adf{α β:Type}{f:α->Bool}{g:β->Bool}{xs:List α}:∀{ys:List β},xs.length=ys.length->(∀(i:Nat)x y,xs[i]? =some x->ys[i]? =some y->f x=g y)->xs.any f=ys.any g:=by
 induction xs with
 |nil=>
  intro ys h _;cases ys with
  |nil=>rfl
  |cons _ _=>simp at h
 |cons x xs ih=>
  intro ys h k;cases ys with
  |nil=>simp at h
  |cons y ys=>rw[tY,tY,k 0 x y rfl rfl,ih (À h) λi a b h1 h2=>k (i+1) a b h1 h2]
def IU(hu:X.A.units+128<cLine):eS X (compareOp .In) (RF X.K):=by
 intro pins s σ H x y v u Q I rx ry ⟨p,xs,ds,dx,e1,hs,hd,hx,sd,sx,q⟩;subst e1;cases ry;obtain⟨aj,r,pl,hz⟩:=I.list hs;obtain⟨as,Ei⟩:=Dp.reads I dx x v hx rx;have hl:aj.length=ds.length:=by rw[<-r.length,RH hd]
 refine SeqAt.in_listAt ř pl.isList (λw hw=>?_) ⟨.bl _,H,I,rfl,?_⟩
 ·obtain⟨i,hi,e⟩:=rM (show w∈aj by simpa using hw);have h1:aj[i]? =some w:=by rw[dm hi,e]
  have h2:ds[i]? =some ds[i]:=dm Æ;obtain⟨q1,v',q2,q3⟩:=RG I hd r i w _ h1 h2;rw[q1];obtain⟨bs,rd⟩:=Dp.reads I _ v' w q2 q3;have sh:=sd _ (bZ h2);refine SeqAt.eqAt_reads _ dx X.A.in1 s w v bs as rd Ei (OZ sh) (OZ sx) ?_;have:=SeqAt.depth_of_shaped sh;show X.A.units+1+_<_;omega
 ·rw[show aj.toArray.any ř=aj.any ř by simp];rw[adf (g:=λd=>PyData.eqv d dx) hl λi a b h1 h2=>by rw[(RG I hd r i a b h1 h2).1]];exact q
end
end L2
end
section
namespace L2
open PySem PySem.Spec PyProof.Rows
def bj{K:FR}{H:Hp}{a C dx:Addr}{fs:List (Str×V)}{f:Str}{v:V}{Q:V->Prop}(h:H a=some ϗ)(c:kO K C)(n:Ϧ f)(l:fs.lookup f=some v)(q:Q v):∃a' C' dx' yK v',V.ref a=.ref a'/\H a'=some (.ins C' dx' yK)/\kO K C'/\gB K C' f/\yK.lookup f=some v'/\Q v':=⟨a,C,dx,fs,v,rfl,h,c,n,l,q⟩
def cw{N P:LS}{sc:Scope}(k:sc.kind=.function:=by rfl)(h:sc.isCoroutine=false/\sc.isGenerator=false/\N.Nodup/\N.take P.length=P/\(∀x∈P,sc.names.lookup x=some .local\/sc.names.lookup x=some .cell)/\∀y∈sc.names,y.2≠ .free:=by decide+kernel):bH N P sc:=⟨k,h.1,h.2.1,h.2.2.1,h.2.2.2.1,h.2.2.2.2.1,h.2.2.2.2.2⟩
abbrev jl:=List (Addr×HO)
def aU(H:Hp)(ns:jl):Prop:=∀x∈ns,H x.1=some x.2
def aU.same(h:aU H ns)(s:ai H H'):aU H' ns:=λx hx=>s _ _ (h x hx)
def aU.upd(h:aU H ns)(n:∀x∈ns,x.1≠D):aU (upd H D o) ns:=λx hx=>by rw[ao (n x hx)];exact h x hx
def aU.nil:aU H []:=λx hx=>absurd hx Ä
def IV(Z:Nat->V->jl->Prop)(H:Hp)(ys:au):Prop:=∀i y,ys[i]? =some y->∃ns,Z i y ns/\aU H ns
def y9(D:Addr)(Z:Nat->V->jl->Prop)(H:Hp)(ys:au):Prop:=∀i y,ys[i]? =some y->∃ns,Z i y ns/\aU H ns/\∀x∈ns,x.1≠D
def y9.fill(h:y9 D Z H ys):IV Z H ys:=λi y e=>let ⟨ns,a,b,_⟩:=h i y e;⟨ns,a,b⟩
def y9.snoc{D:Addr}{Z:Nat->V->jl->Prop}{H H4:Hp}{ys:au}{y:V}{o:HO}{ns:jl}(h:y9 D Z H ys)(s:ai H H4)(z:Z ys.length y ns)(l:aU H4 ns)(n:∀x∈ns,x.1≠D):y9 D Z (upd H4 D o) (ys++[y]):=λi v e=>by
 by_cases hi:i<ys.length
 ·rw[G1 hi] at e;obtain⟨rZ,a,b,c⟩:=h i v e;exact⟨rZ,a,(b.same s).upd c,c⟩
 ·rw[OL Æ] at e;have e0:i-ys.length=0:=by
   cases z:i-ys.length with
   |zero=>rfl
   |succ k=>rw[z] at e;simp at e
  rw[e0] at e;have:y=v:=À e
  subst this;have:i=ys.length:=by omega
  subst this;exact⟨ns,z,l.upd n,n⟩
def qR(s:ai H H1)(h:H p=none):ai H (L2.upd H1 p o):=λb u e=>by rw[ao (eK e h)];exact s b u e
section
variable{K:FR}{g:TG}{tt:TT}{te:TE}{vs:LN}{σ:St}{H1:Hp}{D:Addr}{Qd:Hp->Prop}
def cy(H1:Hp)(D:Addr)(Z:Nat->V->jl->Prop)(i:Nat)(H:Hp):Prop:=∃ys,ai H1 H/\H D=some Âf/\ys.length=i/\y9 D Z H ys
def cy.zero(hD:H1 D=none):cy H1 D Z 0 ċ:=⟨[],qR (λ_ _ e=>e) hD,aq,rfl,λi y e=>by simp at e⟩
def cy.step(hD:H1 D=none)(hi:i<1000000)(f:cy H1 D Z i H)(s:ai H H4)(z:Z i y ns)(l:aU H4 ns)(n:∀x∈ns,x.1≠D):
  jN D (cy H1 D Z (i+1)) y H4:=by
 obtain⟨ys,s1,hd,hl,fd⟩:=f;subst hl;refine⟨ys,s _ _ hd,iq hi (by rw[u9];decide),ys++[y],qR (s1.trans s) hD,aq,by simp,fd.snoc s z l n⟩
def cy.same(f:cy H1 D Z i H):ai H1 H:=let ⟨_,s,_⟩:=f;s
def cy.has(f:cy H1 D Z i H):H D≠none:=let ⟨_,_,e,_⟩:=f;by rw[e];simp
def cy.end(f:cy H1 D Z i H):∃ys,ai H1 H/\H D=some Âf/\ys.length=i/\IV Z H ys:=let ⟨ys,a,b,c,d⟩:=f;⟨ys,a,b,c,d.fill⟩
def lI{a:Addr}{xs:au}(Pv:Nat->Hp->Prop)(h0:Pv 0 ċ)(hl:∀i H,i<=xs.length->Pv i H->â a xs)(hs:∀i x T H,xs[i]? =some x->Pv i H->H T=none->g ũ ĸ (Ϛ (.tup [.int (i:Nat),x])) λσ2 H2=>wipe σ2 vs=wipe σ vs/\tt σ2 H2 λb H3=>
   if b=true then te σ2 H3 (jN D (Pv (i+1))) else Pv (i+1) H3) (hd:∀H,Pv xs.length H->Qd H):
  ∃W:Nat->Nat->Hp->Prop,(∃m,W 0 m ċ)/\∀i m H,W i m H->
   ((vF K a).stop i H/\Qd H)\/((vF K a).go i H/\∃Nx:Hp->Prop,(∀H',Nx H'->∃m',m'<m/\W (i+1) m' H')/\∀x H',(vF K a).m8 i H x H'->g x ĸ H' λσ2 H2=>wipe σ2 vs=wipe σ vs/\tt σ2 H2 λb H3=>
    if b=true then te σ2 H3 Åt else Nx H3):=by
 refine⟨λi m H=>m=xs.length-i/\i<=xs.length/\Pv i H,⟨xs.length,by simp,dY _,h0⟩,?_⟩;rintro i m H ⟨rfl,hi,p⟩;have q:=hl i H hi p;by_cases bQ:i<xs.length
 ·refine .inr ⟨⟨xs,xs[i],q,by simp[bQ]⟩,Pv (i+1),λH' p'=>⟨xs.length-(i+1),by omega,rfl,bQ,p'⟩,λx H' y=>?_⟩;obtain⟨T,z,e1,e2,e3,e4⟩:=y;subst e1 e3;exact hs i z T _ (e4 xs q) p e2
 ·have e:i=xs.length:=by omega
  subst e;exact .inl ⟨⟨xs,q,bJ _⟩,hd H p⟩
end
def and_val{tA tB:TT}{σ:St}{H:Hp}{Q:Bool->Hp->Prop}(c1 c2:Bool)(hA:∀K:Bool->Hp->Prop,K c1 H->tA σ H K)(hB:c1=true->∀K:Bool->Hp->Prop,K c2 H->tB σ H K)(h:Q (c1&&c2) H):Dy tA tB σ H Q:=
 hA _ (by
  cases c1 with
  |false=>exact h
  |true=>exact hB rfl _ h)
def or_val{tA tB:TT}{σ:St}{H:Hp}{Q:Bool->Hp->Prop}(c1 c2:Bool)(hA:∀K:Bool->Hp->Prop,K c1 H->tA σ H K)(hB:c1=false->∀K:Bool->Hp->Prop,K c2 H->tB σ H K)(h:Q (c1||c2) H):HG tA tB σ H Q:=
 hA _ (by
  cases c1 with
  |true=>exact h
  |false=>exact hB rfl _ h)
def RI{tA tB:TE}{σ:St}{H:Hp}{Q:VK}(c1 c2:Bool)(hA:∀K:VK,K (.bl c1) H->tA σ H K)(hB:c1=false->∀K:VK,K (.bl c2) H->tB σ H K)(h:Q (.bl (c1||c2)) H):HI tA tB σ H Q:=
 hA _ ⟨c1,rfl,by
  cases c1 with
  |true=>exact h
  |false=>exact hB rfl _ h⟩
def Ej(c:Bool)(v:V)(hA:∀K:Bool->Hp->Prop,K c H->tA σ H K)(h1:c=true->∀K:VK,K v H->ta σ H K)(h2:c=false->∀K:VK,K v H->tb σ H K)(h:Q v H):wW tA ta tb σ H Q:=
 hA _ (by
  cases c with
  |true=>exact h1 rfl _ h
  |false=>exact h2 rfl _ h)
def RJ{D}(c:Bool)(v:V)(hA:∀K:Bool->Hp->Prop,K c H->tA σ H K)(h1:c=true->∀K:VK,K v H->ta σ H K)(h2:c=false->∀K:VK,K v H->tb σ H K)(h:D.nx ļ H):yF (wW tA ta tb) (pH i) D σ H:=
 Ej c v hA h1 h2 h
def RK{i:Nat}{v:V}{σ:St}{H:Hp}{t u:TS}{D}(h:t {D with nx:=u D} ļ H):pH i v σ H (HJ t u D):=h
section
variable{K:FR}{g:TG}{tt:TT}{te:TE}{vs:LN}{σ:St}{H1:Hp}{D:Addr}{Qd:Hp->Prop}
def adh(Pv:Nat->Hp->Prop)(h0:Pv 0 ċ)(hl:∀i H,i<=kvs.length->Pv i H->H d=some ϣ)(hs:∀i k v T H,kvs[i]? =some (k,v)->Pv i H->H T=none->g ũ ĸ (Ϛ Çm) λσ2 H2=>wipe σ2 vs=wipe σ vs/\tt σ2 H2 λb H3=>
   if b=true then te σ2 H3 (jN D (Pv (i+1))) else Pv (i+1) H3) (hd:∀H,Pv kvs.length H->Qd H):
  ∃W:Nat->Nat->Hp->Prop,(∃m,W 0 m ċ)/\∀i m H,W i m H->
   ((vE d o kvs).stop i H/\Qd H)\/((vE d o kvs).go i H/\∃Nx:Hp->Prop,(∀H',Nx H'->∃m',m'<m/\W (i+1) m' H')/\∀x H',(vE d o kvs).m8 i H x H'->g x ĸ H' λσ2 H2=>wipe σ2 vs=wipe σ vs/\tt σ2 H2 λb H3=>
    if b=true then te σ2 H3 Åt else Nx H3):=by
 refine⟨λi m H=>m=kvs.length-i/\i<=kvs.length/\Pv i H,⟨kvs.length,by simp,dY _,h0⟩,?_⟩;rintro i m H ⟨rfl,hi,p⟩;have q:=hl i H hi p;by_cases bQ:i<kvs.length
 ·refine .inr ⟨⟨q,bQ⟩,Pv (i+1),λH' p'=>⟨kvs.length-(i+1),by omega,rfl,bQ,p'⟩,λx H' y=>?_⟩;obtain⟨T,k,v,e1,e2,e3,e4⟩:=y;simp_all
 ·have e:i=kvs.length:=by omega
  subst e;exact .inl ⟨⟨q,bJ _⟩,hd H p⟩
end
section
variable{K:FR}{g:TG}{tb:TS}{D:Ends}{σ:St}{H:Hp}
def adi{d:Addr}{o:Obj}{kvs:List (Key×V)}(Pv:Nat->St->Hp->Prop)(h0:Pv 0 σ H)(hl:∀i σ H,i<=kvs.length->Pv i σ H->H d=some ϣ)(hs:∀i k v T σ H,kvs[i]? =some (k,v)->Pv i σ H->H T=none->g ũ σ (Ϛ Çm) λσ2 H2=>tb {D with nx:=Pv (i+1),ct:=Pv (i+1),bk:=D.nx} σ2 H2) (hd:∀σ H,Pv kvs.length σ H->D.nx σ H):
  ∃W:Nat->Nat->St->Hp->Prop,(∃m,W 0 m σ H)/\∀i m σ H,W i m σ H->
   ((vE d o kvs).stop i H/\D.nx σ H)\/((vE d o kvs).go i H/\∃N:St->Hp->Prop,(∀σ' H',N σ' H'->∃m',m'<m/\W (i+1) m' σ' H')/\∀x H',(vE d o kvs).m8 i H x H'->g x σ H' λσ2 H2=>tb {D with nx:=N,ct:=N,bk:=D.nx} σ2 H2):=by
 refine⟨λi m σ H=>m=kvs.length-i/\i<=kvs.length/\Pv i σ H,⟨kvs.length,by simp,dY _,h0⟩,?_⟩;rintro i m σ H ⟨rfl,hi,p⟩;have q:=hl i σ H hi p;by_cases bQ:i<kvs.length
 ·refine .inr ⟨⟨q,bQ⟩,Pv (i+1),λσ' H' p'=>⟨kvs.length-(i+1),by omega,rfl,bQ,p'⟩,λx H' y=>?_⟩;obtain⟨T,k,v,e1,e2,e3,e4⟩:=y;simp_all
 ·have e:i=kvs.length:=by omega
  subst e;exact .inl ⟨⟨q,bJ _⟩,hd σ H p⟩
def adj{d:Addr}{o:Obj}{kvs:List (Key×V)}(Pv:Nat->St->Hp->Prop)(h0:Pv 0 σ H)(hl:∀i σ H,i<=kvs.length->Pv i σ H->H d=some ϣ)(hs:∀i k v σ H,kvs[i]? =some (k,v)->Pv i σ H->g v σ H λσ2 H2=>tb {D with nx:=Pv (i+1),ct:=Pv (i+1),bk:=D.nx} σ2 H2) (hd:∀σ H,Pv kvs.length σ H->D.nx σ H):
  ∃W:Nat->Nat->St->Hp->Prop,(∃m,W 0 m σ H)/\∀i m σ H,W i m σ H->
   ((Be d o kvs).stop i H/\D.nx σ H)\/((Be d o kvs).go i H/\∃N:St->Hp->Prop,(∀σ' H',N σ' H'->∃m',m'<m/\W (i+1) m' σ' H')/\∀x H',(Be d o kvs).m8 i H x H'->g x σ H' λσ2 H2=>tb {D with nx:=N,ct:=N,bk:=D.nx} σ2 H2):=by
 refine⟨λi m σ H=>m=kvs.length-i/\i<=kvs.length/\Pv i σ H,⟨kvs.length,by simp,dY _,h0⟩,?_⟩;rintro i m σ H ⟨rfl,hi,p⟩;have q:=hl i σ H hi p;by_cases bQ:i<kvs.length
 ·refine .inr ⟨⟨q,bQ⟩,Pv (i+1),λσ' H' p'=>⟨kvs.length-(i+1),by omega,rfl,bQ,p'⟩,λx H' y=>?_⟩;obtain⟨e1,k,e2⟩:=y;simp_all
 ·have e:i=kvs.length:=by omega
  subst e;exact .inl ⟨⟨q,bJ _⟩,hd σ H p⟩
def RL{a b:Addr}{xs ys:au}(cK:xs.length=ys.length)(Pv:Nat->St->Hp->Prop)(h0:Pv 0 σ H)(hl:∀i σ H,i<=xs.length->Pv i σ H->â a xs/\â b ys)(hs:∀i x y T σ H,xs[i]? =some x->ys[i]? =some y->Pv i σ H->H T=none->g ũ σ (Ϛ Çb) λσ2 H2=>tb {D with nx:=Pv (i+1),ct:=Pv (i+1),bk:=D.nx} σ2 H2) (hd:∀σ H,Pv xs.length σ H->D.nx σ H):
  ∃W:Nat->Nat->St->Hp->Prop,(∃m,W 0 m σ H)/\∀i m σ H,W i m σ H->
   ((Bj K a b).stop i H/\D.nx σ H)\/((Bj K a b).go i H/\∃N:St->Hp->Prop,(∀σ' H',N σ' H'->∃m',m'<m/\W (i+1) m' σ' H')/\∀x H',(Bj K a b).m8 i H x H'->g x σ H' λσ2 H2=>tb {D with nx:=N,ct:=N,bk:=D.nx} σ2 H2):=by
 refine î;rintro i m σ H ⟨rfl,hi,p⟩;obtain⟨q1,q2⟩:=hl i σ H hi p;by_cases bQ:i<xs.length
 ·refine .inr ⟨⟨xs,ys,xs[i],ys[i],q1,q2,by simp[bQ],by simp[<-cK,bQ]⟩,Pv (i+1),λσ' H' p'=>⟨xs.length-(i+1),by omega,rfl,bQ,p'⟩,λx H' y=>?_⟩;obtain⟨T,x1,y1,e1,e2,e3,e4,e5⟩:=y;subst e1 e3;exact hs i x1 y1 T σ _ (e4 xs q1) (e5 ys q2) p e2
 ·have e:i=xs.length:=by omega
  subst e;exact .inl ⟨⟨xs,ys,q1,q2,.inl (bJ _)⟩,hd σ H p⟩
end
section
variable{β:Type}(g:β->V)
def bx(t:List (Nat×β)):List (Key×V):=t.map λp=>((Sum.inl ((p.1:Nat):Int):Key),g p.2)
def bY(t:List (Nat×β))(s:Nat):Option β:=(t.find? λp=>decide (p.1=s)).map (·.2)
def eA(t:List (Nat×β))(s:Nat)(v:β):List (Nat×β):=if (t.any λp=>decide (p.1=s))=true then t.map (λp=>if p.1=s then (p.1,v) else p) else t++[(s,v)]
def RM(a b:Nat):decide ((Sum.inl ((a:Nat):Int):Key)=Sum.inl ((b:Nat):Int))=decide (a=b):=by
 grind
theorem za(t:List (Nat×β)):∀(s:Nat),fW (bx g t) (Sum.inl ((s:Nat):Int))=(bY t s).map g:=by
 induction t with
 |nil=>exact @λs=>rfl
 |cons p t ih=>
  intro s;have ih:=ih s;unfold bx bY fW at ih⊢;rw[a0,ko,ko];rw[RM];cases decide (p.1=s) with
  |true=>rfl
  |false=>exact ih
def adk(t:List (Nat×β))(s:Nat):((bx g t).any λkv=>decide (kv.1=Sum.inl ((s:Nat):Int)))=t.any λp=>decide (p.1=s):=by
 unfold bx;rw[OP];congr 1;funext p;exact RM p.1 s
def Br(t:List (Nat×β))(s:Nat)(v:β):putK (bx g t) (Sum.inl ((s:Nat):Int)) (g v)=bx g (eA t s v):=by
 unfold putK eA;rw[adk];split
 ·unfold bx;rw[cQ,cQ];refine kq λp _=>?_;grind
 ·unfold bx;simp
def xx(t:List (Nat×β)):(bx g t).length=t.length:=by unfold bx;rw[aA]
theorem IW{t:List (Nat×β)}{i:Nat}{k:Key}{v:V}(h:(bx g t)[i]? =some (k,v)):∃s b,t[i]? =some (s,b)/\k=Sum.inl ((s:Nat):Int)/\v=g b:=by
 unfold bx at h;rw[bW] at h;cases e:t[i]? with
 |none=>rw[e] at h;cases h
 |some p=>
  rw[e] at h;have h:=aN h;refine⟨p.1,p.2,rfl,?_,?_⟩
  ·exact(cE Prod.fst h).symm
  ·exact(cE Prod.snd h).symm
theorem pP(t:List (Nat×β))(s:Nat):(t.any λp=>decide (p.1=s))=(bY t s).isSome:=by
 induction t with
 |nil=>rfl
 |cons p t ih=>
  unfold bY at ih⊢;rw[tY,ko];cases e:decide (p.1=s) with
  |true=>rfl
  |false=>rw[OU];exact ih
theorem Ek(s j:Nat)(v:β):∀t:List (Nat×β),bY (t.map λp=>if p.1=s then (p.1,v) else p) j=(bY t j).map λx=>if j=s then v else x:=by
 intro t;induction t with
 |nil=>exact rfl
 |cons p t ih=>
  have ih:=ih;unfold bY at ih⊢;rw[a0,ko,ko];have e1:(if p.1=s then (p.1,v) else p).1=p.1:=by split <;> rfl
  rw[e1];cases e:decide (p.1=j) with
  |false=>exact ih
  |true=>
   have e:=rN e;show some ((if p.1=s then (p.1,v) else p).2)=some (if j=s then v else p.2);rw[<-e];by_cases h:p.1=s
   ·rw[af h,af h]
   ·rw[ah h,ah h]
theorem adl(t:List (Nat×β))(s j:Nat)(v:β)(h:bY t s=none):bY (t++[(s,v)]) j=if j=s then some v else bY t j:=by
 induction t with
 |nil=>
  show((([(s,v)]:List (Nat×β)).find? λp=>decide (p.1=j)).map (·.2))=_;rw[ko];by_cases e:s=j
  ·dsimp only;rw[eJ e,af e.symm];rfl
  ·dsimp only;rw[fQ e,ah λz=>e z.symm];rfl
 |cons p t ih=>
  unfold bY at ih h⊢;rw[ko] at h;rw[List.cons_append,ko,ko];cases es:decide (p.1=s) with
  |true=>rw[es] at h;cases h
  |false=>
   rw[es] at h;cases ej:decide (p.1=j) with
   |false=>exact ih h
   |true=>
    have ej:=rN ej;have es:=apq es;rw[ah λz=>es (ej.trans z)]
theorem El(t:List (Nat×β))(s j:Nat)(v:β):bY (eA t s v) j=if j=s then some v else bY t j:=by
 unfold eA;rw[pP];cases e:bY t s with
 |none=>
  exact adl t s j v e
 |some x=>
  rw[af (show(some x).isSome=true from rfl),Ek];by_cases h:j=s
  ·simp_all
  ·simp_all
def RN(t:List (Nat×β))(s:Nat)(v:β):(eA t s v).length<=t.length+1:=by
 unfold eA;grind
def RO(t:List (Nat×β))(s:Nat)(v:β):(eA t s v).map (·.1)=if (bY t s).isSome=true then t.map (·.1) else t.map (·.1)++[s]:=by
 unfold eA;rw[pP];split
 ·rw[cQ];refine kq λp _=>?_;grind
 ·simp
def adm{t:List (Nat×β)}{s:Nat}(h:bY t s=none):s∉t.map (·.1):=by
 intro m;obtain⟨p,hp,e⟩:=cf.mp m;have q:(t.any λp=>decide (p.1=s))=true:=vb.mpr ⟨p,hp,eJ e⟩;rw[pP,h] at q;cases q
theorem Em{t:List (Nat×β)}{s:Nat}{v:β}(h:(t.map (·.1)).Nodup):((eA t s v).map (·.1)).Nodup:=by
 rw[RO];cases e:bY t s with
 |some x=>exact h
 |none=>exact IH h (adm e)
theorem zb{t:List (Nat×β)}(h:(t.map (·.1)).Nodup){s:Nat}{v:β}(hm:(s,v)∈t):bY t s=some v:=by
 induction t with
 |nil=>simp_all
 |cons p t ih=>
  rw[a0,j9] at h;unfold bY at ih⊢;grind
def xy(h:bY t s=some v):(s,v)∈t:=by
 unfold bY at h;obtain⟨p,hp,e⟩:=yq.mp h;grind
theorem adn(g:β->V):∀(t t0:List (Nat×β)),((t0++t).map (·.1)).Nodup->um (bx g t0) (bx g t)=bx g (t0++t):=by
 intro t;induction t with
 |nil=>
  intro t0 _;rw[jv];rfl
 |cons p t ih=>
  intro t0 h;have h2:p.1∉t0.map (·.1):=by
   rw[bX,a0] at h;have:=(O0.mp h).2.2;exact λm=>this _ m _ gy rfl
  have e:bY t0 p.1=none:=by
   cases e:bY t0 p.1 with
   |none=>rfl
   |some x=>exact absurd (cf.mpr ⟨_,xy e,rfl⟩) h2
  have ih:=ih (t0++[p]) (by rw[rO];exact h);have ep:putK (bx g t0) (Sum.inl ((p.1:Nat):Int)) (g p.2)=bx g (t0++[p]):=by
   rw[Br];unfold eA;rw[pP,e];rfl
  show um (putK (bx g t0) (Sum.inl ((p.1:Nat):Int)) (g p.2)) (bx g t)=_;rw[ep,ih,rO];rfl
end
section
variable{X:Cx}{pins:bG}{σ:St}{H:Hp}{s:Sh}{a:Addr}{kvs:List (Key×V)}{k:Key}{d:V}{u r:Value}{A:Around}{E:VP}
def ado(I:Ã H s)(e:H a=some Đ)(hl:kvs.length<sizeLine)(ry:RelV (kV k) u)(rd:RelV d r)(h1:∀v,fW kvs k=some v->∀w' s',Ã H s'->RelV v w'->Q w' s')(h2:fW kvs k=none->∀s',Ã (ť (.dK (Ŋ d))) s'->Q r s'):wpAny È A (call (.builtin "dict.setdefault") [.ref a,u,r]) Q E s:=by
 obtain⟨z,hd,vs,fb,dd⟩:=DS I.ax e;have hz:vs.length<=sizeLine:=by rw[<-fb.length];exact z
 have ji:(Ŋ d).length<=sizeLine:=by have:=A8 kvs k d;omega
 refine Dh PySem.F.slot_dict_setdefault dd.typeIs PySem.F.entry_dict_setdefault (PySem.F.args_dict_setdefault_3 _ _ _) (kt_meets_setdefault ą a (vC ry) hd r) ⟨vs,dd,hz,λv hv=>?_,λhn h' sj hs=>?_⟩
 ·have q:=fb.val k;rw[hv] at q;cases e1:fW kvs k with
  |none=>rw[e1] at q;exact q.elim
  |some y=>
   rw[e1] at q;exact h1 y e1 v _ (I.tok _) q
 ·have q:=fb.val k;rw[hn] at q;have e1:fW kvs k=none:=by
   cases e1:fW kvs k with
   |none=>rfl
   |some y=>rw[e1] at q;exact q.elim
  refine h2 e1 _ ?_;have he:∃q,h'.get? a=some q:=let ⟨q,_,_,hq,_⟩:=sj;⟨q,hq⟩;exact IA I (by rw[e];exact True.intro) hs he (QS ji hd (fb.put k rd) sj)
end
def adp(td ty tx:TE):TE:=λσ H Q=>td σ H λx H1=>∃a,x=.ref a/\DU H1 a/\ty σ H1 λy H2=>tx σ H2 λz H3=>∃kvs k,H3 a=some Đ/\y=kV k/\kvs.length<sizeLine/\(∀v,fW kvs k=some v->Q v H3)/\(fW kvs k=none->Q z (upd H3 a (.dK (Ŋ z))))
section
def adq(ho:PE X o td)(he:Ϝ ty)(hf:PE X f tx)(m:M2 X o "setdefault" iT e f fV):PE X (.Call (.Attribute o "setdefault" iT) [e,f] [] fV) (adp td ty tx):=by
 show Ö;refine G7 m.base m.dc m.line PySem.F.plainAttrs_dict PySem.F.slot_dict_setdefault PySem.F.type_dict_setdefault (aK (ho pins s σ H _ I h) λu s1 ⟨x,H1,I1,rx,a,ex,d,q1⟩=>?_);subst ex;obtain rfl:u=Value.ref a:=rx;obtain⟨t1,t2,_⟩:=IC I1 d;refine Èa;rw[m.trees];refine G2 rfl (OO (Da (aK (he pins s1 σ H1 _ I1 q1) λiv s2 ⟨y,H2,I2,ry,q2⟩=>
  Da (aK (hf pins s2 σ H2 _ I2 q2) λfv s3 ⟨z,H3,I3,rz,kvs,k,e3,ey,hl,q3,q4⟩=>OK ?_))))
 subst ey;exact ado I3 e3 hl ry rz (λv ev w' s4 I4 i0=>⟨_,H3,I4,i0,q3 v ev⟩) λen s4 I4=>⟨_,_,I4,rz,q4 en⟩
end
section
variable{prog:Pg}{w:Wd}{Kt:Type}[DecidableEq Kt]
def ads(knd:KeyKind prog w Kt)(a b:Addr)(ha:(a==sysModules)=false)(hb:(b==sysModules)=false):
  MeetsIn prog w (Builtin.«dict.__eq__» ⟨[.ref a,.ref b],[]⟩) (λ_ R s=>∃vs:List (Kt×Value),s.heap.DictOf knd a vs/\s.heap.DictOf knd b []/\R (.ok (.ret (.bool vs.isEmpty))) s):=
 .of_wp λA R s ⟨vs,hm,DW,h⟩=>by
  show wpAny _ _ (Builtin.Dict.dictSlotArgs "__eq__" ⟨[.ref a,.ref b],[]⟩ >>= _) _ _ s;refine aP ?_;unfold Builtin.Dict.dictSlotArgs;refine aP (wpAny_notOrdered_dict hm.typeIs ?_);show wpAny _ _ (pure (Value.ref a,Value.ref b)) _ _ s;refine df ?_;refine aP (wpAny_isInstance (b:=true) DW.typeIs Õ ?_);show wpAny _ _ (Builtin.Dict.samePairs "dict.__eq__" a b >>= _) _ _ s;obtain⟨o,es,ep,g1,g2,g3,g4,g5,g6⟩:=hm;obtain⟨o2,es2,RP,k1,k2,k3,k4,k5,k6⟩:=DW;have l1:es.size=vs.length:=by
   have:=g5.length
   rwa [wI] at this
  have l2:es2.size=0:=by
   have:=k5.length
   rwa [wI] at this
  refine aP ?_;unfold Builtin.Dict.samePairs;unfold Builtin.Dict.showsAll;rw[ah (by rw[ha];exact d9),ah (by rw[hb];exact d9)];refine aP (df (aP (df (aP (wpAny_dictEntries g1 g3 ?_)))));dsimp only;refine aP (wpAny_dictEntries k1 k3 ?_);rw[l1,l2];cases vs with
  |nil=>
   rw[ah Ä];have fin:wpAny Ó A.in1 (pure true) (λa s'=>wpAny Ó A.in1 (ret (Value.bool (a==true))) (λfin s'=>∃v,fin=Fin.done (Flow.ret v)/\R (Except.ok (Flow.ret v)) s') (λe s'=>R (Except.error e) s') s') (λe s'=>R (Except.error e) s') s:=df (df ⟨_,rfl,h⟩);refine aP (wpAny_dictEpoch g1 g3 ?_);rw[show(([]:List (Kt×Value)).length)=0 from rfl];have e0:∀(f:Nat->Option Bool×Unit->Sem (ForInStep (Option Bool×Unit))),(forIn [:0] ((none,()):Option Bool×Unit) f:Sem _)=pure (none,()):=λf=>by
    simp
   rw[e0];exact aP (df fin)
  |cons p r=>
   rw[af Ä];exact aP (wpAny_rule (df (df ⟨_,rfl,h⟩)))
end
section
inductive adu(x:V)(y:V)(H:Hp)(Q:VK):Prop
 |mk (a b kvs:_) (_:x=.ref a) (_:y=.ref b) (_:H a=some Đ) (_:H b=some ϲ) (_:Q (.bl kvs.isEmpty) H)
def adv(hu:X.A.units+64<cLine):eS X Áh adu:=by
 intro pins s σ H x y v u Q I rx ry ⟨a,b,kvs,e1,e2,h1,h2,q⟩;subst e1 e2;cases rx;cases ry;obtain⟨z,hd,vs,fb,dd⟩:=DS I.ax h1;obtain⟨z2,fO,vs2,adx,lZ⟩:=DS I.ax h2;cases adx;have ei:vs.isEmpty=kvs.isEmpty:=by cases fb <;> rfl
 show wpAny È X.A (richCompare .Eq Ğ (.ref b)) _ _ s;have ht:s.TypeIs Ğ "dict":=dd.typeIs;have hc:wpAny È X.A (call (.builtin "dict.__eq__") [.ref a,.ref b]) (λv s'=>v≠ .notImplemented/\(ò Q v s')) X.xe s:=
  Dh PySem.F.slot_dict_eq ht PySem.F.entry_dict_eq (PySem.F.args_dict_eq_2 _ _) (ads ą a b hd fO) ⟨vs,dd,lZ,(λz=>(by cases z)),.bl vs.isEmpty,H,I,rfl,by rw[ei];exact q⟩
 exact wpAny_richCompare_same_room ht lZ.typeIs PySem.F.slot_dict_eq hc Æ
end
theorem ady{α β:Type}{R:α->β->Prop}{l1:List α}:∀{l2:List β},l1.length=l2.length->(∀(i:Nat)(a:α)(b:β),l1[i]? =some a->l2[i]? =some b->R a b)->Paired R l1 l2:=by
 induction l1 with
 |nil=>
  intro l2 hl _;cases l2 with
  |nil=>exact .nil
  |cons _ _=>cases hl
 |cons a l1 ih=>
  intro l2 hl h;cases l2 with
  |nil=>cases hl
  |cons b l2=>exact .cons (h 0 a b rfl rfl) (ih (À hl) λi x y h1 h2=>h (i+1) x y h1 h2)
section
def adz:lD X (.type "range") (λxs H Q=>∃n:Nat,xs=[.int ((n:Nat):Int)]/\∀p,H p=none->Q ĥ (upd H p (.rR 0 n))):=by
 intro pins s σ H xs us Q I r h;obtain⟨n,rfl,q⟩:=h;obtain⟨u,rfl,rx⟩:=vals1 r;obtain⟨t,rfl⟩:=rx;refine call_range_1 ?_;exact⟨.ref s.heap.objs.size,_,I.laid Åk (bJ _) (show ft X.prog X.w _ _ _ (.rR 0 ((n:Nat):Int)) from⟨_,_,_,ib _ rfl⟩),rfl,q _ Ī⟩
def adA(hc:X.calm=true):lD X (.type "list") (λxs H Q=>∃(p:Addr)(n:Nat),xs=[.ref p]/\H p=some (.rR 0 ((n:Nat):Int))/\n<=1000000/\∀l,H l=none->Q Äw (ϙ (.lst ((List.range n).map λi=>V.int ((i:Nat):Int))))):=by
 intro pins s σ H xs us Q I r h;obtain⟨p,n,rfl,hp,hn,q⟩:=h;obtain⟨u,rfl,rx⟩:=vals1 r;cases rx;obtain⟨t,u,v,e⟩:=(I.ax p _ hp);refine call_list_range (n:=n) ć e (small_one Ú Ú Æ Æ) (by rw[rangeSize_one];split <;> omega) Æ λh' tk RQ c' hk hS RR=>?_;have rv:bc ((List.range n).map λi=>V.int ((i:Nat):Int)) RQ.toList:=by
  refine ady (by rw[aA,g7,wI,RR.1]) λi a b h1 h2=>?_;rw[X6] at h2;obtain⟨t',ht⟩:=RR.2 i b h2;rw[bW] at h1;cases er:Èn[i]? with
  |none=>simp_all
  |some j=>
   rw[er] at h1;obtain⟨e1,e2⟩:=bO.mp er;rw[aps] at e2;subst e2;cases h1;subst ht;refine⟨t',?_⟩;simp
 refine⟨.ref s.heap.objs.size,_,I.laid (t':=tk) hk (bJ _) (show ft X.prog X.w _ h' _ (.lst ((List.range n).map λi=>V.int ((i:Nat):Int))) from⟨?_,RQ.toList,c',rv,hS⟩),rfl,q _ Ī⟩;rw[aA,g7,u9];omega
end
abbrev pQ:=dZ×Addr×Value
def IX(acc bI:List pQ):List pQ:=bI.foldl (λa q=>storedH a q.1 q.2.1 q.2.2) acc
section
variable{prog:Pg}{w:Wd}
def RS{h h':Heap}{k:dZ}{a:Addr}(i:(tupleKind Ät).is h k a)(e:∀o,h.get? a=some o->h'.get? a=some o):(tupleKind Ät).is h' k a:=by
 obtain⟨o,aj,n,h1,h2,h3,h4⟩:=i;exact⟨o,aj,n,e o h1,h2,h3,h4⟩
def adB{h h':Heap}{S:Addr}{xs:List pQ}(d:h.DictOfH (tupleKind Ät) S xs)(e:∀o,h.get? S=some o->h'.get? S=some o)(ek:∀x∈xs,∀o,h.get? x.2.1=some o->h'.get? x.2.1=some o):h'.DictOfH (tupleKind Ät) S xs:=by
 obtain⟨o,es,ep,d1,d2,d3,d4,d5,d6⟩:=d;exact⟨o,es,ep,e o d1,d2,d3,d4,λx hx=>RS (d5 x hx) (ek x hx),d6⟩
def adC{xs:List pQ}{k:dZ}{a:Addr}{v:Value}{x:pQ}(h:x∈storedH xs k a v):x.2.1=a\/∃y∈xs,x.2.1=y.2.1:=by
 unfold storedH at h;split at h
 ·obtain⟨y,hy,e⟩:=cf.mp h;refine .inr ⟨y,hy,?_⟩;unfold putAt at e;split at e <;> rw[<-e]
 ·rcases gR.mp h with h|h
  ·exact .inr ⟨x,h,rfl⟩
  ·have:x=(k,a,v):=by simpa using h
   exact .inl (by rw[this])
def adD(xs:List pQ)(k:dZ)(a:Addr)(v:Value):(storedH xs k a v).length<=xs.length+1:=by
 unfold storedH;grind
end
def qS(kvs:List (dZ×V))(ts:List (dZ×Addr×V)):List (dZ×V):=ts.foldl (λacc t=>putK acc t.1 t.2.2) kvs
theorem adE(ts:List (dZ×Addr×V)):∀(kvs:List (dZ×V)),(qS kvs ts).length<=kvs.length+ts.length:=by
 induction ts with
 |nil=>exact @λkvs=>bJ _
 |cons t ts ih=>
  intro kvs;have h1:=ih (putK kvs t.1 t.2.2);have h2:=A8 kvs t.1 t.2.2;show(qS (putK kvs t.1 t.2.2) ts).length<=_;rw[c7];omega
theorem adF{H:Hp}:∀{ts:List (dZ×Addr×V)}{prs:List pQ}{kvs:List (dZ×V)}{xs:List pQ},Paired (λ(t:dZ×Addr×V)(q:pQ)=>t.1=q.1/\t.2.1=q.2.1/\H t.2.1=some (.tup (t.1.map kV))/\RelV t.2.2 q.2.2) ts prs->KT H kvs xs->KT H (qS kvs ts) (IX xs prs):=by
 intro ts prs kvs xs h0;induction h0 generalizing kvs xs with
 |nil=>exact λk=>k
 | @cons t q ts prs h r ih=>
  intro k;obtain⟨h1,h2,h3,h4⟩:=h;refine ih (kvs:=putK kvs t.1 t.2.2) (xs:=storedH xs q.1 q.2.1 q.2.2) ?_;rw[<-h1,<-h2];exact k.put t.1 h3 h4
section
variable{X:Cx}
def adG(hu:X.A.units+3<cLine)(IF:X.calm=true):lD X (.type "dict") (λxs H Q=>∃(a:Addr)(ps:LA)(ts:List (dZ×Addr×V)),xs=[.ref a]/\Àv a Áy/\Paired (λp(t:dZ×Addr×V)=>H p=some (.tup [.ref t.2.1,t.2.2])/\H t.2.1=some (.tup (t.1.map kV))) ps ts/\
  ∀p,H p=none->Q ĥ (upd H p Çg)):=by
 intro pins s σ H xs us Q I r q;obtain⟨a,ps,ts,ex,hq,hp,q⟩:=q;subst ex;obtain⟨u,eu,rx⟩:=vals1 r;subst eu;cases rx;obtain⟨aj,rv,pl,hz⟩:=I.list hq;have ei:=Q0 rv;subst ei;rw[aA] at hz;have adH:∀{ps:LA}{ts:List (dZ×Addr×V)},Paired (λp(t:dZ×Addr×V)=>H p=some (.tup [.ref t.2.1,t.2.2])/\H t.2.1=some (.tup (t.1.map kV))) ps ts->
   ∃prs:List pQ,Paired (λ(t:dZ×Addr×V)(q:pQ)=>t.1=q.1/\t.2.1=q.2.1/\H t.2.1=some (.tup (t.1.map kV))/\RelV t.2.2 q.2.2) ts prs/\prs.length=ps.length/\∀(j:Nat)(q:pQ),prs[j]? =some q->∃b:Addr,ps[j]? =some b/\IsTup s.heap b #[.ref q.2.1,q.2.2]/\(tupleKind ą).is s.heap q.1 q.2.1:=by
  intro ps ts hp;induction hp with
  |nil=>exact⟨[],.nil,rfl,λj q e=>by simp at e⟩
  | @cons p t ps ts h _ ih=>
   obtain⟨prs,r1,r2,r3⟩:=ih;obtain⟨_,aj,rv,ob,o1,o2,n,o3⟩:=(I.ax p _ h.1);obtain⟨u,y,ei,ru,ry⟩:=vals2 rv;subst ei;cases ru;refine⟨(t.1,t.2.1,y)::prs,.cons ⟨rfl,rfl,h.2,ry⟩ r1,by rw[c7,c7,r2],λj q e=>?_⟩;cases j with
   |zero=>
    have e':=aN e;subst e';exact⟨p,rfl,⟨ob,o1,o2,n,o3⟩,xm I.ax h.2⟩
   |succ j=>
    obtain⟨b,e1,e2⟩:=r3 j q (À e);exact⟨b,À e1,e2⟩
 obtain⟨prs,fb,hl,gU⟩:=adH hp;obtain⟨o,n,ho,hc,hd,uo⟩:=pl;refine QY (prs:=prs) (DD:=λh acc=>h.DictOfH Èg s.heap.objs.size acc/\∀x∈acc,x.2.1<s.heap.objs.size) (G:=λh q u y=>u=.ref q.2.1/\y=q.2.2/\q.2.1<s.heap.objs.size/\(tupleKind ą).is h q.1 q.2.1) (st:=λa q=>storedH a q.1 q.2.1 q.2.2) (I.ok.hd IF) ho hc hd uo (by simp[hl]) Æ ⟨Heap.DictOfH.new s.heap,by simp⟩ (λ_ _ _ d k=>⟨adB d.1 (λo e=>k _ o (bJ _) e) λx hx o e=>k _ o (tU (d.2 x hx)) e,d.2⟩) (λ_ _ _ _ _ g k=>⟨g.1,g.2.1,g.2.2.1,RS g.2.2.2 λo e=>k _ o g.2.2.1 e⟩)
  (λ_ acc q _ _ _ _ g d hz k=>by
   obtain⟨rfl,rfl,g1,g2⟩:=g;refine wpAny_dictSet_heap (knd:=tupleKind ą) (Dg (pz (show X.A.units+1+1<=X.A.units+3 by omega) hu)) g2 d.1 (λh' hm=>k h' _ ⟨hm,λx hx=>?_⟩) hz;rcases adC hx with e|⟨y,hy,e⟩
   ·rw[e];exact g1
   ·rw[e];exact d.2 y hy) (λa q=>adD a q.1 q.2.1 q.2.2) Èb λh' tk pF k=>?_
 ·obtain⟨b,e1,e2,e3⟩:=gU j q' e;exact⟨b,_,_,by simp_all,e2,rfl,rfl,by obtain⟨o,_,_,g,_⟩:=e3;exact cZ g,e3⟩
 ·have hm:=wK.mpr (tQ I.big);have cK:(qS [] ts).length<=sizeLine:=by
   refine gQ (adE ts []) ?_;rw[rJ,wN,Paired.length fb,hl];omega
  have pK:=I.ax.fresh (bJ _);obtain⟨⟨q2,es,ep,xA,g2,g3,g4,g5,g6⟩,_⟩:=pF;have kt:KT (ğ Çg) (qS [] ts) (IX [] prs):=(adF fb (kvs:=[]) (xs:=[]) .nil).keeps λb ys e=>by
   rw[ao (eK e pK)];omega
  exact⟨.ref s.heap.objs.size,ğ Çg,I.laid (t':=tk) k (bJ _) (⟨cK,hm,IX [] prs,kt,q2,es,ep,xA,g2,g3,g4,g6⟩),rfl,q _ pK⟩
end
end L2
end
section
namespace HT
open PySem PyProof.Rows
section
open PySem.SeqAt
open PySem.AutoSeq1 (wpAny_loadPart')
open PySem.MeetsSeq PySem.MeetsSeq2 PySem.MeetsSeq3
def RT{items:Array Value}{i:Nat}{v:Value}{r:LV}(h:items.toList.drop i=v::r):items[i]? =some v/\items.toList.drop (i+1)=r:=by
 have h0:(items.toList.drop i)[0]? =some v:=by rw[h];rfl
 rw[Yb,Yc,X6] at h0;refine⟨h0,?_⟩;have:(items.toList.drop i).drop 1=r:=by rw[h];rfl
 rw[List.drop_drop] at this;exact this
theorem adI(l b:Addr)(items ir:Array Value)(n n2:Nat)(dd lZ:OA)(sl ni:AO)(k:Nat):∀(i:Nat)(ns ms:LI),IntsAre (items.toList.drop i) ns->IntsAre (ir.toList.drop i) ms->ns.length=k->i<=items.size->i<=ir.size->
  Meets (Builtin.«list.__eq__.loop» ⟨[.ref l,.ref b,rawInt i,rawInt 0],[]⟩)
   (λ_ R s=>s.heap.get? l=some {cls:=.type "list",dict:=dd,data:=.seq items n,slots:=sl}/\s.heap.get? b=some {cls:=.type "list",dict:=lZ,data:=.seq ir n2,slots:=ni}/\
    R (.ok (.ret Ż)) s):=by
 induction k with
 |zero=>
  intro i ns ms hi hj hk h1 h2 prog w A R s h;obtain⟨hp,g,d,tk,os⟩:=s;obtain⟨hl,hb,h⟩:=h;have ens:ns=[]:=O1.mp hk;subst ens;have l1:=hi.length;have l2:=hj.length;rw[X5,wI] at l1 l2;simp only[rJ] at l1;have Bs:items[((i:Nat):Int).toNat]? =none:=by simp;omega
  wp_walk using je hl,je hb
  rw[Bs]
  wp_walk using je hl,je hb
  show R (.ok (.ret (.bool (decide (items.size<ir.size))))) _;have e:lexLt [] ms=decide (items.size<ir.size):=by
   cases ms with
   |nil=>
    rw[P6];simp only[rJ] at l2;exact(fQ Æ).symm
   |cons c ms=>
    rw[P7];simp only[c7] at l2;exact(eJ Æ).symm
  rw[<-e];exact h
 |succ k ih=>
  intro i ns ms hi hj hk h1 h2 prog w A R s h;obtain⟨hp,g,d,tk,os⟩:=s;obtain⟨hl,hb,h⟩:=h;have l1:=hi.length;have l2:=hj.length;rw[X5,wI] at l1 l2;generalize ed1:items.toList.drop i=d1 at hi;generalize ed2:ir.toList.drop i=d2 at hj;cases hi with
  |nil=>cases hk
  | @cons a t vH rZ hi'=>
   obtain⟨g1,g2⟩:=RT ed1;have Bs:items[((i:Nat):Int).toNat]? =some (.int a t):=À g1
   cases hj with
   |nil=>
    have zc:ir[((i:Nat):Int).toNat]? =none:=by simp only[rJ] at l2;simp;omega
    wp_walk using je hl,je hb
    rw[Bs,zc]
    wp_walk using je hl,je hb
    show R (.ok (.ret (.bool (decide (items.size<ir.size))))) _;rw[P8] at h;simp only[rJ,c7] at l1 l2;rw[fQ Æ];exact h
   | @cons c u ws' l5 En=>
    obtain⟨g3,g4⟩:=RT ed2;have zc:ir[((i:Nat):Int).toNat]? =some (.int c u):=À g3
    have hc:((i:Int)+1)=((i+1:Nat):Int):=by push_cast;rfl
    have z1:i<items.size:=by simp only[c7] at l1;omega
    have z2:i<ir.size:=by simp only[c7] at l2;omega
    rw[ui] at h
    wp_walk using je hl,je hb
    rw[Bs,zc];refine aP (EqGives.int a c t u prog w _ _ _ _ ?_);cases nj:(a==c) with
    |true=>
     rw[af (À nj)] at h
     wp_walk
     rw[hc];exact⟨G8 plain_eq_loop _,OV entry_eq_loop (by
      rw[OW plain_eq_loop _];exact ih (i+1) rZ l5 (by rw[g2];exact hi') (by rw[g4];exact En) (À hk) z1 z2 prog w A R _ ⟨hl,hb,h⟩)⟩
    |false=>
     rw[ah (À nj)] at h
     wp_walk using je hl,je hb
     rw[Bs,zc];have qI:=Ib A.in1 ⟨hp,g,d,tk,os⟩ a t c u prog w
     wp_walk using qI
     exact h
def adK(l b:Addr)(items ir:Array Value)(n n2:Nat)(dd lZ:OA)(sl ni:AO)(ns ms:LI)(hi:IntsAre items.toList ns)(hj:IntsAre ir.toList ms):
  Meets (Builtin.«list.__lt__» ⟨[.ref l,.ref b],[]⟩)
   (λ_ R s=>s.heap.get? l=some {cls:=.type "list",dict:=dd,data:=.seq items n,slots:=sl}/\s.heap.get? b=some {cls:=.type "list",dict:=lZ,data:=.seq ir n2,slots:=ni}/\
    R (.ok (.ret Ż)) s):=by
 intro prog w A R s h;obtain⟨hp,g,d,tk,os⟩:=s;obtain⟨hl,hb,h⟩:=h;have f3:=AutoSeq1.sub_list_list
 wp_walk using je hl,je hb
 exact⟨G8 plain_eq_loop _,OV entry_eq_loop (by
  rw[OW plain_eq_loop _];exact adI l b items ir n n2 dd lZ sl ni _ 0 ns ms hi hj rfl (dY _) (dY _) prog w A R _ ⟨hl,hb,h⟩)⟩
end
end HT
end
section
namespace HT
open PySem PyProof.Rows
section
open PySem.SeqAt
open PySem.AutoSeq1 (wpAny_loadPart')
open PySem.MeetsSeq PySem.MeetsSeq2 PySem.MeetsSeq3
def adL(l b la lb:Addr)(n n2:Nat)(dd lZ:OA)(sl ni:AO)(a c:Int)(t u:Tok)(e r:Bool)(IY:e=true->r=false):
  Meets (Builtin.«tuple.__lt__» ⟨[.ref l,.ref b],[]⟩)
   (λA R s=>s.heap.get? l=some {cls:=.type "tuple",dict:=dd,data:=.seq #[.int a t,.ref la] n,slots:=sl}/\s.heap.get? b=some {cls:=.type "tuple",dict:=lZ,data:=.seq #[.int c u,.ref lb] n2,slots:=ni}/\
    EqAt A.in1 s Är Äq e/\(∀(prog:Pg)(w:Wd)(E:VP)(Q:VP),Q (.bool r) s->wpAny Ó A.in1 (richCompare .Lt Är Äq) Q E s)/\
    R (.ok (.ret (.bool (if a=c then r else decide (a<c))))) s):=
 .of_wp λprog w A R s h=>by
  obtain⟨hp,g,d,tk,os⟩:=s;obtain⟨hl,hb,GV,bQ,h⟩:=h;have f2:=apc
  wp_walk using je hl,je hb,wpAny_forIn_list _ (λbI b s'=>b.1=none/\s'=⟨hp,g,d,tk,os⟩/\(bI=[(Value.int a t,Value.int c u),(Value.ref la,Value.ref lb)]\/(bI=[(Value.ref la,Value.ref lb)]/\a=c)\/(bI=[]/\a=c/\e=true))) _
  case turn=>
   rintro⟨y,x⟩ bI b s' ⟨nj,rfl,hz⟩;rcases hz with hz|⟨hz,Bt⟩|⟨hz,_⟩
   ·injection hz with hyx hrest;injection hyx with hy hx;subst hy hx;obtain⟨e1,Eo,AX⟩:=P9 A.in1 ⟨hp,g,d,tk,os⟩ a t c u;refine aP (Eo prog w _ _ ?_);cases e1 with
    |true=>
     wp_walk
     exact⟨rfl,rfl,.inr (.inl ⟨hrest,AX.mp rfl⟩)⟩
    |false=>
     rw[ah (λq=>absurd (AX.mpr q) d9)] at h;have qI:=Ib A.in1 ⟨hp,g,d,tk,os⟩ a t c u prog w
     wp_walk using qI
     exact⟨_,rfl,À h⟩
   ·injection hz with hyx hrest;injection hyx with hy hx;subst hy hx;refine aP (GV prog w _ _ ?_);cases e with
    |true=>
     wp_walk
     exact⟨rfl,rfl,.inr (.inr ⟨hrest,Bt,rfl⟩)⟩
    |false=>
     rw[af Bt] at h;have qI:=bQ prog w
     wp_walk using qI
     exact⟨_,rfl,À h⟩
   ·cases hz
  case fin=>
   rintro⟨b1,b2⟩ s' ⟨nj,rfl,hz⟩;simp only at nj;subst nj;rcases hz with hz|⟨hz,Bt⟩|⟨hz,Bt,he⟩
   ·cases hz
   ·cases hz
   ·rw[af Bt,IY he] at h
    wp_walk
    exact⟨_,rfl,by simpa [Builtin.Tuple.tupleCompareSizes] using h⟩
  case h=>
   exact⟨rfl,rfl,.inl rfl⟩
end
end HT
namespace L2
open PySem PySem.Spec PyProof.Rows
section
inductive RU(K:FR)(x:V)(y:V)(H:Hp)(Q:VK):Prop
 |mk (p q la lb:Addr) (a c:Int) (ns ms:LI) (_:x=.ref p) (_:y=.ref q) (_:Ť p [.int a,.ref la]) (_:Ť q [.int c,.ref lb]) (_:â la š) (_:â lb (ms.map V.int)) (_:Q (.bl (if a=c then HT.lexLt ns ms else decide (a<c))) H)
theorem adM:∀ns:LI,HT.lexLt ns ns=false:=by
 intro ns;induction ns with
 |nil=>exact rfl
 |cons x ns ih=>
  rw[HT.ui,af rfl];exact ih
theorem RV{ns:LI}:∀{us:LV},bc š us->IntsAre us ns:=by
 induction ns with
 |nil=>
  intro _ r;cases r;exact .nil
 |cons n ns ih=>
  intro _ r;cases r with
  |cons h t=>
   obtain⟨tk,rfl⟩:=h;exact .cons n tk (ih t)
def adN(hu:X.A.units+128<cLine):eS X Çl (RU X.K):=by
 intro pins s σ H x y v u Q I rx ry ⟨p,q,la,lb,a,c,ns,ms,e1,e2,hp,hq,h1,h2,k⟩;subst e1 e2;cases rx;cases ry;obtain⟨aj,rv,⟨o,ho,hc,n,hd⟩,_⟩:=I.tuple hp;obtain⟨nk,yX,⟨o2,AY,iL,n2,fO⟩,_⟩:=I.tuple hq;obtain⟨u1,u2,ei,r1,r2⟩:=vals2 rv;obtain⟨w1,w2,ei2,r3,r4⟩:=vals2 yX;subst ei ei2;obtain⟨t,rfl⟩:=r1;obtain⟨t2,rfl⟩:=r3;cases r2;cases r4;obtain⟨is1,rl1,⟨p1,m1,g1,c1,d1,f1⟩,_⟩:=I.list h1;obtain⟨is2,rl2,⟨p2,m2,g2,c2,d2,f2⟩,_⟩:=I.list h2;have i1:=RV rl1;have i2:=RV rl2;obtain⟨cls,yz,data,sl⟩:=o;obtain⟨Qa,adT,data2,ni⟩:=o2;obtain⟨apZ,ap1,data3,sl3⟩:=p1;obtain⟨ap2,ap4,ap5,sl4⟩:=p2;simp only at hc hd iL fO c1 d1 f1 c2 d2 f2;subst hc hd iL fO c1 d1 f1 c2 d2 f2;obtain⟨as,ra⟩:=Dp.reads I (.list (ns.map PyData.int)) Är Är (.lst h1 (qQ ns)) rfl;obtain⟨bs,rb⟩:=Dp.reads I (.list Äf) Äq Äq (.lst h2 (qQ ms)) rfl;have GV:SeqAt.EqAt X.A.in1 s Är Äq (PyData.eqvAll (ns.map PyData.int) Äf):=by
  refine SeqAt.eqAt_reads _ (.list Äf) X.A.in1 s Är Äq as bs ra rb (OZ (shaped_ints ns)) (OZ (shaped_ints ms)) ?_;have:=SeqAt.depth_of_shaped (shaped_ints ns);grind
 rw[xu] at GV;have bQ:∀(prog:Pg)(w:Wd)(E:VP)(Q:VP),Q (.bool ϛ) s->wpAny Ó X.A.in1 (richCompare .Lt Är Äq) Q E s:=λprog w E Q h=>
  OM (op:=.Lt) ⟨_,g1,rfl⟩ ⟨_,g2,rfl⟩ PySem.F.slot_list_lt PySem.F.entry_list_lt (PySem.F.args_list_lt_2 _ _) (HT.adK la lb is1.toArray is2.toArray m1 m2 none none sl3 sl4 ns ms (by simpa using i1) (by simpa using i2))
   ⟨g1,g2,show Value.bool ϛ≠Value.notImplemented/\Q (.bool ϛ) s from⟨(λx=>nomatch x),h⟩⟩ (by show X.A.units+1<cLine;omega)
 have IY:decide (ns=ms)=true->HT.lexLt ns ms=false:=λe=>by
  have:ns=ms:=rN e;rw[this];exact adM ms
 exact OM (op:=.Lt) ⟨_,ho,rfl⟩ ⟨_,AY,rfl⟩ PySem.F.slot_tuple_lt PySem.F.entry_tuple_lt (PySem.F.args_tuple_lt_2 _ _) (HT.adL p q la lb n n2 yz adT sl ni a c t t2 (decide (ns=ms)) ϛ IY)
  ⟨ho,AY,GV,bQ,(λx=>nomatch x),.bl _,H,I,rfl,k⟩ Æ
end
end L2
end
section
namespace L2
open PySem PySem.Spec PyProof.Rows
abbrev IZ(fd:FD):Obj:={cls:=.type "function",data:=.func fd}
def zd(f:Addr)(fd:FD):HO:=.ext λh=>h.get? f=some (IZ fd)
def zf(c:Addr)(q:Str):HO:=.ext λh=>∃o vs t,h.get? c=some o/\o.data=.fields vs/\vs[1]? =some (.str q t)
def Bu(K:FR)(c T:Addr):Prop:=∀h:Heap,K.In h->PySem.W.CodeHd h c T
def xB(mg:MG)(base:Heap):Prop:=∃bm ob,mg "__builtins__"=some (.ref bm)/\bm≠builtinsNs/\base.get? bm=some ob/\ob.cls=.type "module"/\ob.dict=some builtinsNs/\ob.data=.plain
abbrev sv(q:Str)(args:Arguments)(gM:Expr)(scope:Scope)(cl:eV)(pm:Value)(c:Addr)(iF:Value):FuncData:=PySem.W.kla_fn "<lambda>" q args gM scope cl pm (.ref c) iF
def adW(T:Addr)(q:Str)(args:Arguments)(gM:Expr)(scope:Scope)(cl:eV)(pm:Value):TE:=λσ H Q=>H T=some (.gG #[])/\∀(f c:Addr)(iF:Value)(jc:Array Value),H f=none->H c=none->c≠f->
 Q Ă (upd (upd (Ϛ (.gG jc)) c (zf c q)) f (zd f (sv q args gM scope cl pm c iF)))
section
variable{X:Cx}
def adX(hK:Bu X.K c T)(hb:xB X.mg X.base)(kJ:X.env.code=.ref c)(hq:X.env.qual++"<lambda>"=q)(gH:closureFor scope X.env=pure cl)(hd:defaultsOf args X.env=([],[]):=by rfl):
  PE X (.Lambda args gM scope pos) (adW T q args gM scope cl ((X.mg "__name__").getD .none)):=by
 show Ö;obtain⟨hT,h⟩:=h;subst hq;have hTk:s.heap.get? T=some (PySem.W.tabObj #[]):=I.ax T _ hT;have keep:=I.bs;have ns:∀{b:Addr}{m:MG},X.base.Ns b m->s.heap.Ns b m:=λ{b m} ⟨o,es,ep,e,d,r⟩=>⟨o,es,ep,(keep _ _ e).1,d,r⟩;obtain⟨bm,ob,b1,b2,b3,b4,b5,b6⟩:=hb;have qT:bm≠T:=λz=>by
  simp_all
 have hgN:∃o es ep,X.base.get? mainGlobals=some o/\o.data=.dict es ep:=by
  obtain⟨o,es,ep,e,d,r⟩:=I.ok.mod.glob;simp_all
 have hgT:mainGlobals≠T:=λz=>by
  grind
 have hbG:bm≠mainGlobals:=λz=>by
  simp_all
 refine PySem.W.kla_eval hd (PySem.W.kla_makeFunction gH I.ok.glob (ns I.ok.mod.glob) kJ (hK _ I.fu) hTk trivial rfl hgT ⟨bm,ob,b1,b2,hbG,qT,(keep _ _ b3).1,b4,b5,b6⟩ λc' iF h' tk ext ux iL Ja RW=>?_);have Ep:∀b o,b≠T->s.heap.get? b=some o->(h'.push (IZ (sv (X.env.qual++"<lambda>") args gM scope cl ((X.mg "__name__").getD .none) c' iF))).get? b=some o:=λb o hb e=>dh _ (ext b o hb e);have hcf:=fj iL;have hH:∀b o,H b=some o->b≠c'/\b≠h'.objs.size:=λb o e=>by
  have vI:b<s.heap.objs.size:=by
   refine Yd λz=>?_;rw[I.ax.fresh z] at e;simp_all
  grind
 have RX:=hH _ _ hT;have hcN:=I.ax.fresh ux;have hfN:=I.ax.fresh (gQ ux (tU iL));refine⟨.ref h'.objs.size,_,?_,rfl,h h'.objs.size c' iF (#[]++ #[rawInt pos.line,rawInt pos.col,.ref c']) hfN hcN hcf⟩;have iC:∀b o,H b=some o->b≠T->(upd (upd (Ϛ (.gG (#[]++ #[rawInt pos.line,rawInt pos.col,.ref c']))) c' (zf c' (X.env.qual++"<lambda>"))) h'.objs.size (zd h'.objs.size (sv (X.env.qual++"<lambda>") args gM scope cl ((X.mg "__name__").getD .none) c' iF))) b=some o:=λb o e hb=>by
  rw[ao (hH b o e).2,ao (hH b o e).1,ao hb];exact e
 have atT:(upd (upd (Ϛ (.gG (#[]++ #[rawInt pos.line,rawInt pos.col,.ref c']))) c' (zf c' (X.env.qual++"<lambda>"))) h'.objs.size (zd h'.objs.size (sv (X.env.qual++"<lambda>") args gM scope cl ((X.mg "__name__").getD .none) c' iF))) T=some (.gG (#[]++ #[rawInt pos.line,rawInt pos.col,.ref c'])):=by
  rw[ao RX.2,ao RX.1,aq]
 refine I.step (g':=s.gens) (d':=s.drawn) (t':=tk) (ch:=[]) (λ_ z=>nomatch z) (λb o _ _ _ e n=>Ep b o (λz=>by simp_all) e) (λb o _ _ _ e n=>⟨o.slots,Ep b o (λz=>by simp_all) e⟩) (λb o _ e n=>?_) (λb o _ e=>?_) (λb xs e=>iC b _ e (λz=>by simp_all)) (λb o u e=>iC b _ e (λz=>by simp_all)) (λb ps e=>?_) Åz (λb o e=>?_) I.bare
 ·have vI:=cZ e;rw[ao (fj (iq vI (gQ ux (tU iL)))),ao (fj (iq vI ux)),ao (λz=>by simp_all)];exact n
 ·by_cases hb:b=T
  ·rw[hb];exact⟨_,dh _ RW⟩
  ·simp_all
 ·by_cases hb:b=T
  ·simp_all
  ·simp_all
 ·obtain⟨o,es,ep,e,d,r⟩:=hm;exact⟨o,es,ep,Ep _ _ (λz=>by grind) e,d,r⟩
 ·by_cases hf:b=h'.objs.size
  ·subst hf;rw[aq] at e;cases e;exact⟨ib _ rfl,⟨_,ib _ rfl⟩,λh1 h2 p k=>k _ p⟩
  ·rw[ao hf] at e;by_cases hc:b=c'
   ·subst hc;rw[aq] at e;cases e;obtain⟨c2,o,vs,t,ec,e1,e2,e3⟩:=Ja;cases ec;have RY:=dh (IZ (sv (X.env.qual++"<lambda>") args gM scope cl ((X.mg "__name__").getD .none) b iF)) e1;exact⟨⟨o,vs,t,RY,e2,e3⟩,⟨_,RY⟩,λh1 h2 ⟨o,vs,t,p1,p2,p3⟩ k=>⟨o,vs,t,k _ p1,p2,p3⟩⟩
   ·rw[ao hc] at e;by_cases hb:b=T
    ·subst hb;rw[aq] at e;cases e;exact dh _ RW
    ·rw[ao hb] at e;refine(I.ax b o e).m4 (λa u ha q=>Ep a u (λz=>?_) q) (λa q=>iC a _ q (λz=>by simp_all)) (λa xs q=>iC a _ q (λz=>by simp_all));simp_all
def Er(P:Pg)(w:Wd)(K:FR)(mg:MG)(base:Heap)(k:Nat)(q:Str)(fdOf:Addr->Value->FuncData)(ps:LS)(sp:Sp):Prop:=
 ∀(f c:Addr)(iF:Value)(A:Around)(outer:List Env)(s:Sh)(H:Hp)(us:LV)(vs:au)(Q:VK),dv k A->Č H->H f=some (zd f (fdOf c iF))->H c=some (zf c q)->bc vs us->vs.length=ps.length->sp vs H Q E0->
  codeAny Àj A (.call Ă ⟨us,[]⟩) (CR aE outer P w H s Q E0) s
def Bv(H:Hp)(f:Addr)(q:Str)(fdOf:Addr->Value->FuncData):Prop:=∃c iF,H f=some (zd f (fdOf c iF))/\H c=some (zf c q)
def ad4(i:Nat)(q:Str)(fdOf:Addr->Value->FuncData)(ps:LS)(sp:Sp)(t:TA):TE:=λσ H Q=>∃f,σ[i]? =some Áx/\Bv H f q fdOf/\t σ H λvs H1=>Bv H1 f q fdOf/\vs.length=ps.length/\sp vs H1 Q E0
variable{x:Str}{i:Nat}{p pos:Pos}{e:Expr}{es:List Expr}{t:TA}{k:Nat}{q:Str}{fdOf:Addr->Value->FuncData}{ps:LS}{sp:Sp}
def ad5(L:Er X.prog X.w X.K X.mg X.base k q fdOf ps sp)(hr:dv k X.A)(hN:X.N[i]? =some x)(hv:wU X.env.scope x)(ha:PA X (e::es) t)(hd:(x==("__debug__":Str))=false:=by decide)(kJ:(x==("__classdict__":Str))=false:=by decide)(he:starEach (e::es) X.env=(false,eval e X.env)::starEach es X.env:=by rfl) (c9:(backTo pos õ).any (·.1)=false:=by rfl):PE X (.Call ż (e::es) [] pos) (ad4 i q fdOf ps sp t):=by
 show Ö;obtain⟨f,hf,⟨c,iF,l1,l2⟩,h⟩:=h;have lv:=Po (X:=X) (pos:=p) hN hv hd kJ pins s σ H (λv H1=>v=.ref f/\H1=H) I ⟨_,hf,rfl,rfl⟩;refine wL (iU lv (λu s1 ⟨v,H1,I1,rv,ev,eh⟩=>?_) λ_ _ z=>z);subst ev eh;cases rv;refine PySem.W.callWith_F ⟨_,_,_,_,(I1.ax f _ l1).1⟩ (aK (ha pos pins s1 σ H1 _ I1 h) λus s2 ⟨vs,H2,I2,r,⟨c',ad6,m1,m2⟩,hl,hq⟩=>⟨⟨_,_,_,_,(I2.ax f _ m1).1⟩,?_⟩) he c9;refine An (u5 (L f c' ad6 X.A X.stack s2 H2 us vs Q hr I2.yM m1 m2 r hl hq) λr s' hq=>?_);cases r with
 |error e=>exact so pins σ H2 s2 e s' I2 hq
 |ok fl=>
  cases fl with
  |ret u=>exact I2.after hq
  |next=>exact False.elim hq
  |brk=>exact False.elim hq
  |cont=>exact False.elim hq
end
def nB(c:Addr)(o:Obj):HO:=.ext λh=>h.get? c=some o
def del(H:Hp)(a:Addr):Hp:=λb=>if b=a then none else H b
def Es{H:Hp}{a:Addr}:del H a a=none:=af rfl
def vJ{H:Hp}{a b:Addr}(h:b≠a):del H a b=H b:=ah h
def Bw{H:Hp}{a b:Addr}(h:H b=none):del H a b=none:=by
 by_cases e:b=a
 ·rw[e,Es]
 ·rw[vJ e,h]
def dy.del{P:Pg}{w:Wd}{H:Hp}{h:Heap}{c:Addr}{o:Obj}(x:ġ h)(hc:H c=some (nB c o)):dy P w (del H c) h:=λa u e=>by
 have na:a≠c:=λz=>by rw[z,Es] at e;cases e
 rw[vJ na] at e;refine(x a u e).m4 Ãv (λb q=>?_) (λb xs q=>?_)
 ·rw[vJ (λz=>by rw[z,hc] at q;cases q)];exact q
 ·rw[vJ (λz=>by rw[z,hc] at q;cases q)];exact q
def dy.put{P:Pg}{w:Wd}{H:Hp}{h:Heap}{c:Addr}{o:Obj}(x:ġ h)(hn:H c=none)(hc:h.get? c=some o):dy P w (upd H c (nB c o)) h:=λa u e=>by
 by_cases na:a=c
 ·subst na;rw[aq] at e;cases e;exact⟨hc,⟨_,hc⟩,λh1 h2 p k=>k _ p⟩
 ·rw[ao na] at e;refine(x a u e).m4 Ãv (λb q=>?_) (λb xs q=>?_)
  ·rw[ao (λz=>by rw[z,hn] at q;cases q)];exact q
  ·rw[ao (λz=>by rw[z,hn] at q;cases q)];exact q
structure Jb(p x:Str)(sc:Scope):Prop where
 kind:sc.kind=.function
 co:sc.isCoroutine=false
 gen:sc.isGenerator=false
 loc:sc.names.lookup p=some .local
 fr:sc.names.lookup x=some .free
 RZ:∀y∈sc.names,y.2≠ .cell
 only:∀y∈sc.names,y.2=.free->y.1=x
abbrev Et(q:Str)(scope:Scope)(L f:Addr)(cd:Value)(cl:eV):Env:=newEnv scope L mainGlobals cl (q++".<locals>.") (some f) cd none builtinsNs
def Eu(P:Pg)(w:Wd)(K:FR)(mg:MG)(base:Heap)(N:LS)(cO:Str)(scope:Scope)(f:Addr)(cd:Value)(cl:eV)(A:Around)(outer:List Env)(s:Sh)(H:Hp):Cx where
 prog:=P
 w:=w
 K:=K
 mg:=mg
 base:=base
 A:=A.deeper (Ϥ cl)
 N:=N
 g8:=s
 qB:=H
 env:=Ϥ cl
 outer:=outer
 stack:=Ϥ cl::outer
 ex:=[]
 calm:=true
 fn:=λ_=>false
 pn:=[]
 xe:=λ_ _=>False
theorem Ew{x y:Str}{cx c:Addr}(h:List.lookup y [(x,cx)]=some c):y=x/\c=cx:=by
 rw[va] at h;cases e:y==x with
 |true=>rw[e] at h;exact⟨wJ.mp e,(aN h).symm⟩
 |false=>rw[e] at h;cases h
section
variable{P:Pg}{w:Wd}{K:FR}{mg:MG}{base:Heap}{q p x:Str}{scope:Scope}{f cx:Addr}{cd:Value}{A:Around}{outer:List Env}{s:Sh}{H:Hp}{v1 v:V}{u1 u:Value}{o:Obj}{h':Heap}{tk:Nat}
def ad7(S:Jb p x scope)(hd:A.handled=none)(e0:Č H)(r1:RelV v1 u1)(jk:s.heap.get? cx=some o)(ho:o.data=.cell Âm)(ru:RelV v u)(hn:H cx=none)(om:h'.Ns s.heap.objs.size (λy=>[(p,u1)].reverse.lookup y)) (hk:∀b o,s.heap.get? b=some o->h'.get? b=some o):
  Inv (Eu P w K mg base [p,x] q scope f cd [(x,cx)] A outer s H) [] (start [p,x] [v1,v]) H {s with heap:=h',toks:=tk}:=by
 have ug:∀b:Addr,b∉(Eu P w K mg base [p,x] q scope f cd [(x,cx)] A outer s H).ex:=λb z=>absurd (show b∈([]:LA) from z) Ä;refine⟨⟨e0.mod,S.kind,rfl,rfl,bJ _,λy z c h1 h2=>(Ew h1).1.trans (Ew h2).1.symm,λy hy=>?_,λy c z _=>Bool.noConfusion z,λ_=>hd,Around.frames_deeper e0.frames,.inr ⟨rfl,rfl⟩,λb z=>absurd z (ug b),e0.bs,e0.m7,λb _ _=>ug b,λb z=>absurd z (ug b),e0.kG,e0.pC⟩,
  rfl,e0.bare,Un.kept hk,⟨_,om,λi y v' h1 h2 h3=>?_⟩,λy c h=>?_,e0.ax.fresh (bJ _),λy c h=>?_,λp hp=>absurd (show p∈([]:bG) from hp) Ä,e0.ax.kept hk,rfl⟩
 ·have hy:scope.names.lookup y=some .cell\/scope.names.lookup y=some .free:=hy;rcases hy with hy|hy
  ·exact absurd rfl (S.RZ _ Âd)
  ·refine⟨cx,?_⟩;rw[show y=x from S.only _ Âd rfl];show List.lookup x [(x,cx)]=some cx;simp
 ·match i with
  |0=>
   cases h1;cases h2;exact⟨u1,r1,.inl ⟨S.loc,by show List.lookup p [(p,u1)]=some u1;simp⟩⟩
  |1=>
   cases h1;cases h2;exact⟨u,ru,.inr ⟨.inr S.fr,cx,by show List.lookup x [(x,cx)]=some cx;simp,o,hk _ _ jk,ho⟩⟩
  |i+2=>cases h1
 ·obtain⟨rfl,rfl⟩:=Ew h;exact⟨_,o,hk _ _ jk,ho⟩
 ·obtain⟨rfl,rfl⟩:=Ew h;exact hn
def oy.del(e0:Č H)(hc:H cx=some Ås):Č (del H cx):=
 ⟨e0.frames,e0.mod,λb o e=>⟨(e0.bs b o e).1,Bw (e0.bs b o e).2⟩,e0.m7,e0.kG,λb hb=>Bw (e0.pC b hb),e0.ax.del hc,e0.bare⟩
inductive Jc(cx:Addr)(v:V)(u0:Sp)(vs:au)(H:Hp)(Q:VK)(E':XK):Prop
 |mk (o:Obj) (u:Value) (_:H cx=some Ås) (_:o.data=.cell Âm) (_:RelV v u) (_:vs.length=1) (_:u0 vs (del H cx) (λr H'=>H' cx=none->Q r (upd H' cx Ås)) E')
def Un.put{fs:LA}{H H':Hp}{h h2:Heap}(un:Un fs [] (del H cx) H' h h2)(hc:H cx=some Ås):Un fs [] H (upd H' cx Ås) h h2:=by
 have ne:∀{b:Addr},H b=none->b≠cx:=λn z=>by rw[z,hc] at n;cases n
 refine⟨λb ob q n hb hx=>un.keep b ob q (Bw n) hb hx,λb ob q n hb hx=>un.slot b ob q (Bw n) hb hx,λb ob q n hx=>?_,un.there,λb xs q=>?_,λb ob u q=>?_,λb ps q=>?_⟩
 ·rw[ao (ne n)];exact un.free b ob q (Bw n) hx
 ·have z:b≠cx:=λz=>by rw[z,hc] at q;cases q
  rw[ao z];exact un.pA b xs (by rw[vJ z];exact q)
 ·have z:b≠cx:=λz=>by rw[z,hc] at q;cases q
  rw[ao z];exact un.m5 b ob u (by rw[vJ z];exact q)
 ·have z:b≠cx:=λz=>by rw[z,hc] at q;cases q
  rw[ao z];exact un.pB b ps (by rw[vJ z];exact q)
def ad8{k:Nat}{args:Arguments}{gM:Expr}{pm:Value}{u0:Sp}(S:Jb p x scope)(Jd:∀(c:Addr)(iF u:Value),bindArgs (sv q args gM scope [(x,cx)] pm c iF) ⟨[u],[]⟩=pure [(p,u)])(uh:∀(f c:Addr)(A:Around)(outer:List Env)(s:Sh)(H:Hp)(y:V)(Q:VK),dv k (A.deeper (Et q scope s.heap.objs.size f (.ref c) [(x,cx)]))->u0 [y] H Q E0->
   ∃t,PE (Eu P w K mg base [p,x] q scope f (.ref c) [(x,cx)] A outer s H) gM t/\t (start [p,x] [y,v]) H Q):Er P w K mg base (k+1) q (sv q args gM scope [(x,cx)] pm) [p] (Jc cx v u0):=by
 intro f c iF A outer s H us vs Q hr e0 hf hc r hl iZ;obtain⟨o,u,jk,ho,ru,_,ht⟩:=iZ;have R1:s.heap.get? cx=some o:=(e0.ax cx _ jk).1;have KX:=e0.mod.rS.keeps λb o e=>(e0.bs b o e).1;have C0:=e0.mod.nolimit.keeps λb o e=>(e0.bs b o e).1;obtain⟨o',vH,t',c1,c2,c3⟩:=(e0.ax c _ hc).1;refine PySem.W.kla_callFunE hr.depth (e0.ax f _ hf).1 rfl S.co S.gen rfl ⟨c,o',vH,t',rfl,c1,c2,c3⟩ ?_;cases r with
 |nil=>cases hl
 |cons r1 r2=>
 cases r2 with
 |cons _ _=>cases hl
 |nil=>
 rw[Jd];refine df ?_;refine wpAny_newFunctionEnv S.RZ Àm (λh' om hsb=>?_) S.kind
 ·rw[mV.mp hy];exact S.loc
 have hk:∀b o,s.heap.get? b=some o->h'.get? b=some o:=λb o e=>by
  rw[hsb.2 b Çs];exact dh _ e
 refine⟨C0.keeps hk,PySem.W.kla_codeExpr ?_⟩;obtain⟨t,hp,hq⟩:=uh f c A outer s (del H cx) _ _ (hr.deeper _) ht;have I:=ad7 (q:=q) (f:=f) (cd:=.ref c) (tk:=s.toks+1) S hr.hd (e0.del jk) r1 R1 ho ru Es om hk;refine iU (hp [] _ _ _ _ I hq) (λv' s' h=>?_) λ_ _ z=>False.elim z;obtain⟨y,H',J,rv,qq⟩:=h;have hJ:s'.heap.get? cx=some o:=J.base.keep cx o R1 Es (λz=>by have:=e0.pC cx z;rw[jk] at this;cases this) (by simp[Eu]);have hn:=J.kH x cx (by show List.lookup x [(x,cx)]=some cx;simp);exact⟨y,upd H' cx Ås,J.os,J.bare,Un.put J.base jk,J.ax.put hn hJ,rv,qq hn⟩
end
section
def Un.tail{X:Cx}{pins:bG}{σ:St}{H1 H2:Hp}{s1:Sh}{h2:Heap}{c:Addr}{o:Obj}(I:Ã H1 s1)(hex:X.ex=[])(hc:X.g8.heap.objs.size<=c)(hn:H1 c=none)(un:Un (m6 X.stack) [] Ãz H2 s1.heap h2):Un X.fs [] X.qB H2 X.g8.heap h2:=by
 have nx:∀b:Addr,b∉X.ex:=λb=>by rw[hex];simp
 have ne:∀{b:Addr}{ob:Obj},X.g8.heap.get? b=some ob->b≠c:=λe=>fj (iq (cZ e) hc);have fr:∀{b:Addr}{ob:Obj},X.g8.heap.get? b=some ob->X.qB b=none->upd H1 c (nB c o) b=none:=λe n=>by
  rw[ao (ne e)];exact I.base.free _ _ e n (nx _)
 have nt:∀{b:Addr}{u:HO},H1 b=some u->b≠c:=λe z=>by rw[z,hn] at e;cases e
 refine⟨λb ob q n hb _=>?_,λb ob q n hb _=>?_,λb ob q n _=>?_,λb ob q _=>?_,λb xs q=>?_,λb ob u q=>?_,λb ps q=>?_⟩
 ·refine un.keep b ob (I.base.keep b ob q n hb (nx b)) (fr q n) (λz=>?_) Ä;rcases ba.mp (I.AH b z) with z|z
  ·have:=cZ q;rw[z] at this;exact absurd (iq this I.ok.above) (qw _)
  ·exact hb z
 ·obtain⟨sl,e⟩:=I.base.slot b ob q n hb (nx b);obtain⟨s2,e2⟩:=un.any e (fr q n) Ä;exact⟨s2,e2⟩
 ·obtain⟨sl,e⟩:=I.base.any q n (nx b);exact un.free b _ e (fr q n) Ä
 ·obtain⟨o',e⟩:=I.base.there b ob q (nx b);exact un.there b o' e Ä
 ·have e:=I.base.pA b xs q;exact un.pA b xs (by rw[ao (nt e)];exact e)
 ·have e:=I.base.m5 b ob u q;exact un.m5 b ob u (by rw[ao (nt e)];exact e)
 ·obtain⟨m1,e⟩:=I.base.pB b ps q;obtain⟨m2,e2⟩:=un.pB b _ (by rw[ao (nt e)];exact e);exact⟨m1++m2,by rw[e2,Array.append_assoc]⟩
def PX(X:Cx)(e:Expr)(t:TE):Prop:=
 ∀(pins:bG)(s:Sh)(σ:St)(H:Hp)(Q:VK),Ã H s->t σ H Q->wpAny È X.A ϓ (CE X.outer X.prog X.w X.qB X.g8 Q) X.xe s
def aea(c:Addr)(i:Nat)(sp:Sp)(t:TA):TE:=λσ H Q=>∃v,σ[i]? =some Ãj/\t σ H λvs H1=>∀(o:Obj)(u:Value),o.data=.cell Âm->RelV v u->H1 c=none->sp vs Ãz Q E0
variable{X:Cx}{g x:Str}{c f:Addr}{fd:FD}{k i:Nat}{ps:LS}{sp:Sp}{p pos:Pos}{e:Expr}{es:List Expr}{t:TA}
def aeb(F:ú aE k f fd ps sp)(hr:dv k X.A)(hg:Gl X g)(hm:X.mg g=some Ă)(hk:PySem.W.keepIn X.K Ă=true)(hb:ŀ [])(hN:X.N[i]? =some x)(hx:X.env.scope.names.lookup x=some .cell)(hc:X.env.cells.lookup x=some c)(hf:X.fn x=true)(hex:X.ex=[])(ha:PA X (e::es) t) (iY:(g==("__debug__":Str))=false:=by decide) (he:starEach (e::es) X.env=(false,eval e X.env)::starEach es X.env:=by rfl) (c9:(backTo pos õ).any (·.1)=false:=by rfl):
  PX X (.Call Çz (e::es) [] pos) (aea c i sp t):=by
 show Ö;obtain⟨v,hv,h⟩:=h;refine wL (vi I hg hm ?_ iY);refine PySem.W.callWith_K (h₀:=X.base) I.ok.mod.rS hk (aK (ha pos pins s σ H _ I h) λus s1 h1=>?_) he c9;obtain⟨vs,H1,I1,r,q⟩:=h1;refine Ár;obtain⟨m,_,lo⟩:=I1.loc;obtain⟨u,ru,lk⟩:=lo i x v hN hv (.inr (.inl hx));obtain⟨o,ho,hd⟩:s1.heap.IsCell c Âm:=by
  rcases lk with ⟨z,_⟩|⟨_,c',e,yC⟩
  ·have z:X.env.scope.names.lookup x=some .local:=z;rw[hx] at z;cases z
  ·rw[hc] at e;cases e;exact yC
 have hn:=I1.kH x c hc;have q:=q o u hd ru hn;have Bx:=I1.ok.wV x c hf hc;have e0:=I1.yM;have e1:oy X.prog X.w X.K X.mg X.base X.A X.stack s1 Ãz:=⟨e0.frames,e0.mod,λb ob e=>⟨(e0.bs b ob e).1,by
   rw[ao (fj (iq (cZ (I1.ok.bs b ob e).1) Bx))];exact(e0.bs b ob e).2⟩,e0.m7,e0.kG,λb hb=>by
   have nb:b≠c:=by
    rcases ba.mp (I1.AH b hb) with z|z
    ·rw[z];exact(I1.ve x c hc).symm
    ·obtain⟨_,o',h',_⟩:=I1.ok.kG.mem z;exact fj (iq (cZ h') Bx)
   rw[ao nb];exact e0.pC b hb,e0.ax.put hn ho,e0.bare⟩
 have hl:(us++[]).length=ps.length:=by rw[jv,<-r.length];exact F.len _ _ _ _ q
 have hb:=hb s1 us I1.fu hl;rw[jv] at hb;refine An (u5 (F.run X.A X.stack s1 _ ⟨us,[]⟩ us vs _ E0 hr e1 hb r q) λr s' hq=>?_);cases r with
 |error e=>exact False.elim hq
 |ok fl=>
  cases fl with
  |ret u'=>
   obtain⟨y,H2,os,bare,un,ax,ry,qq⟩:=hq;exact⟨y,H2,os.trans I1.os,bare,Un.tail I1 hex Bx hn un,ax,ry,qq⟩
  |next=>exact False.elim hq
  |brk=>exact False.elim hq
  |cont=>exact False.elim hq
def br.okt{P:Pg}{w:Wd}{K:FR}{mg:MG}{base:Heap}{x cO:Str}{st:Stmt}{f:Addr}{fd:FD}{N ps:LS}{k:Nat}{sp:Sp}{e:Expr}{pos:Pos}(F:Áf fd)(S:bH N ps Ϯ)(hb:iW st=[.Return (some e) pos])(uh:∀(aG:Value)(A:Around)(outer:List Env)(s:Sh)(H:Hp)(vs:au)(Q:VK)(E:XK),fd.code=aG->dv k Ļ->sp vs H Q E->
   ∃t,PX (ύ N cO Ϯ f aG A outer s H E).vm e t/\t ű H Q) (len:∀vs H Q E,sp vs H Q E->vs.length=ps.length:=by intro _ _ _ _ h;cases h;subst_vars;rfl):Ì aE (k+1) f fd ps sp:=by
 obtain⟨oc,od,kV,iS,pm,an,aG,ct,m3,rfl,lk,kJ⟩:=F.ex;refine⟨len,λA outer s H args us vs Q E hr e0 nj r iZ=>?_⟩;have hl:=len _ _ _ _ iZ;have KX:K.In s.heap:=e0.mod.rS.keeps λb o e=>(e0.bs b o e).1;have C0:s.heap.NoLimit:=e0.mod.nolimit.keeps λb o e=>(e0.bs b o e).1;have Ia:∀y∈ps.zip us,(aV st).names.lookup y.1=some .local\/((aV st).names.lookup y.1=some .cell/\((cellsFrom Î (aV st).names []).lookup y.1).isSome=true):=λ⟨n,v⟩ hy=>by
  rcases S.par n (Dc hy).1 with q|q
  ·exact .inl q
  ·exact .inr ⟨q,PySem.W.cellsFrom_some _ _ _ (.inl q)⟩
 refine codeAny_call_function hr.depth (KX _ _ lk) rfl S.co S.gen rfl (PySem.W.codeRec_of KX kJ) (nj _ _ _ _ ?_);refine ao9 S.kind Ia λenv he s1 x=>?_;subst he;refine⟨C0.keeps x.toInCall.keep,codeAny_func ?_⟩;obtain⟨t,hp,hq⟩:=uh aG A outer s H vs Q E rfl (hr.deeper _) iZ;have I:Inv (ύ N cO Ϯ f aG A outer s H E) [] ű H s1:=P3 S hr.hd e0 hl r x;have gO:=hp [] s1 ű H Q (I.iD _) hq;show wpAny _ _ (execs Åf _) _ _ _;rw[hb];exact OJ (wpAny_Return_some (iU gO (λv s' hs=>hs) λ_ _ z=>False.elim z))
end
def zg(i j:Int):Int:=if j>i then j else i
section
def aed(hc:X.calm=true):lD X (.builtin "max") (λxs H Q=>∃i j k,xs=[.int i,.int j,.int k]/\Q (.int (zg (zg i j) k)) H):=by
 intro pins s σ H xs us Q I r h;obtain⟨i,j,k,rfl,q⟩:=h;cases r with
 |cons r1 r=>cases r with
  |cons r2 r=>cases r with
   |cons r3 r=>
    cases r;obtain⟨t1,rfl⟩:=r1;obtain⟨t2,rfl⟩:=r2;obtain⟨t3,rfl⟩:=r3;refine max_three_ints ć λh' tk kp=>⟨_,H,I.kept kp,?_,q⟩;unfold zg;by_cases h1:j>i
    ·rw[af h1,af h1];by_cases h2:k>j
     ·rw[af h2,af h2];exact⟨_,rfl⟩
     ·rw[ah h2,ah h2];exact⟨_,rfl⟩
    ·rw[ah h1,ah h1];by_cases h2:k>i
     ·rw[af h2,af h2];exact⟨_,rfl⟩
     ·rw[ah h2,ah h2];exact⟨_,rfl⟩
end
end L2
end
section
namespace L2
open PySem PySem.Spec PyProof.Rows
open PySem.W (WData Codec OpenSpec Well WellAll ReadsW ReadsAllW)
mutual
inductive Dw(K:FR)(H:Hp):V->WData->Prop
 |aJ:Dw K H .aJ .none
 |bl (b:Bool):Dw K H (.bl b) (.bool b)
 |int (i:Int):Dw K H Âx Âx
 |str (x:Str):Dw K H Çc Çc
 |jf (b:Array UInt8):Dw K H (.jf b) (.bytes b.toList)
 |lst {a:Addr} {xs:au} {ds:List WData}:â a xs->l8 K H xs ds->Dw K H Ğ (.list ds)
 |tup {a:Addr} {xs:au} {ds:List WData}:Ť a xs->l8 K H xs ds->Dw K H Ğ (.tuple ds)
inductive l8(K:FR)(H:Hp):au->List WData->Prop
 |nil:l8 K H [] []
 |cons {v:V} {vs:au} {d:WData} {ds:List WData}:Dw K H v d->l8 K H vs ds->l8 K H (v::vs) (d::ds)
end
theorem R3{K:FR}{H:Hp}:∀ns:LI,l8 K H š (ns.map WData.int):=by
 intro ns;induction ns with
 |nil=>exact .nil
 |cons n r ih=>
  exact .cons (.int n) ih
theorem Je{K:FR}{H:Hp}(ns:LI):∀(xs:au),l8 K H xs (ns.map WData.int)->xs=ns.map V.int:=by
 induction ns with
 |nil=>
  intro xs h;cases h;rfl
 |cons n r ih=>
  intro xs h;cases h with
  |cons h1 h2=>
   cases h1;rw[ih _ h2] <;> rfl
section
variable{P:Pg}{w:Wd}{K:FR}{H:Hp}{h:Heap}{R:PySem.W.WRecords}{cl:Str->OA}
def aee{a:Addr}{xs:au}(ax:ġ h)(KX:K.In h)(q:â a xs):∃(aj:LV)(o:Obj)(n:Nat),bc xs aj/\h.get? a=some o/\o.cls=.type "list"/\o.data=.seq aj.toArray n:=by
 rcases q with q|⟨o,aj,n,e,hc,_,hd,_,hv⟩
 ·obtain⟨_,aj,n,hv,e⟩:=(q.ok ax);simp_all
 ·exact⟨aj.toList,o,n,hv,KX _ _ e,hc,by simp[hd]⟩
def aef{a:Addr}{xs:au}(ax:ġ h)(KX:K.In h)(q:Ť a xs):∃(aj:LV)(o:Obj)(n:Nat),bc xs aj/\h.get? a=some o/\o.cls=.type "tuple"/\o.data=.seq aj.toArray n:=by
 rcases q with q|⟨o,aj,n,e,hc,hd,_,hv⟩
 ·obtain⟨_,aj,hv,o,e,hc,n,hd⟩:=(q.ok ax);simp_all
 ·exact⟨aj.toList,o,n,hv,KX _ _ e,hc,by simp[hd]⟩
def Dw.reads(ax:ġ h)(KX:K.In h)(d:WData)(v:V)(u:Value)(x:Dw K H v d):RelV v u->∃as,ReadsW R cl h u d as:=
 Dw.rec (motive_1:=λv d _=>∀u,RelV v u->∃as,ReadsW R cl h u d as) (motive_2:=λvs ds _=>∀us,bc vs us->∃as,ReadsAllW R cl h us ds as)
  (λu r=>by cases r;exact⟨_,ReadsW.none⟩) (λb u r=>by cases r;exact⟨_,ReadsW.bool b⟩) (λi u r=>by obtain⟨t,rfl⟩:=r;exact⟨_,ReadsW.int i t⟩) (λx u r=>by obtain⟨t,rfl⟩:=r;exact⟨_,ReadsW.str x t⟩)
  (λb u r=>by obtain⟨t,rfl⟩:=r;exact⟨_,ReadsW.bytes _ t⟩)
  (λhs _ ih u r=>by
   cases r;obtain⟨aj,o,n,rv,ho,hc,hd⟩:=aee ax KX hs;obtain⟨as,hr⟩:=ih aj rv;exact⟨_,ReadsW.list ho hc hd hr⟩)
  (λhs _ ih u r=>by
   cases r;obtain⟨aj,o,n,rv,ho,hc,hd⟩:=aef ax KX hs;obtain⟨as,hr⟩:=ih aj rv;exact⟨_,ReadsW.tuple ho hc hd hr⟩)
  (λus r=>by cases r;exact⟨_,ReadsAllW.nil⟩)
  (λ_ _ i1 i2 us r=>by
   cases r with
   |cons r1 r2=>
    obtain⟨as,q1⟩:=i1 _ r1;obtain⟨bs,q2⟩:=i2 _ r2;exact⟨_,ReadsAllW.cons q1 q2⟩) x u
end
mutual
def qU:WData->Bool
 |.none=>true
 |.bool _=>true
 |.int _=>true
 |.str _=>true
 |.bytes _=>true
 |.list xs=>pR xs
 |.tuple xs=>pR xs
 |_=>false
def pR:List WData->Bool
 |[]=>true
 |x::r=>qU x&&pR r
end
theorem aeg{α:Type}{f:α->WData}(h:∀a,qU (f a)=true):∀l:List α,pR (l.map f)=true:=by
 intro l;induction l with
 |nil=>exact rfl
 |cons x r ih=>
  show(qU (f x)&&pR (r.map f))=true;rw[h x,ih] <;> rfl
theorem vK:∀(c:Codec)(a:c.denote),qU (c.enc a)=true
 |.unit,_=>rfl
 |.bool,_=>rfl
 |.int _ _,_=>rfl
 |.nat _ _,_=>rfl
 |.u8,_=>rfl
 |.bytes _ _,_=>rfl
 |.text _ _ _ _,_=>rfl
 |.list _ _ c,a=>aeg (λx=>vK c x) a
 |.pair c d,a=>by
  show(qU (c.enc a.1)&&(qU (d.enc a.2)&&true))=true;rw[vK c a.1,vK d a.2] <;> rfl
 |.triple c d e,a=>by
  show(qU (c.enc a.1)&&(qU (d.enc a.2.1)&&(qU (e.enc a.2.2)&&true)))=true;rw[vK c a.1,vK d a.2.1,vK e a.2.2] <;> rfl
 |.option c,none=>rfl
 |.option c,some x=>vK c x
theorem aeh(cs:List Codec):∀(a:Codec.denoteAll cs),pR (Codec.encAll cs a)=true:=by
 induction cs with
 |nil=>exact @λ_=>rfl
 |cons c cs ih=>
  intro a;show(qU (c.enc a.1)&&pR (Codec.encAll cs a.2))=true;rw[vK c a.1,ih a.2] <;> rfl
theorem R4{xs:List WData}:∀{d:WData},d∈xs->d.weight<=WData.weightAll xs:=by
 induction xs with
 |nil=>exact @λd h=>absurd h Ä
 |cons x r ih=>
  intro d h;show d.weight<=x.weight+1+WData.weightAll r;rcases ba.mp h with e|m
  ·rw[e];omega
  ·have z:=ih m;omega
def toV:Value->V
 |.none=>.aJ
 |.bool b=>.bl b
 |.int i _=>.int i
 |.str x _=>.str x
 |.bytes b _=>.jf b
 |.ref a=>.ref a
 |_=>.aJ
def jz(A:LA):Value->Prop
 |.none=>True
 |.bool _=>True
 |.int _ _=>True
 |.str _ _=>True
 |.bytes _ _=>True
 |.ref a=>a∈A
 |_=>False
theorem jz.mono{A B:LA}(h:∀a∈A,a∈B):∀{u:Value},jz A u->jz B u:=λ{u}x=>by
 cases u with
 |ref a=>exact h a x
 |none=>trivial
 |bool b=>trivial
 |int i t=>trivial
 |str s t=>trivial
 |bytes b t=>trivial
 |_=>exact False.elim x
theorem aei{A:LA}{u:Value}(x:jz A u):RelV (toV u) u:=by
 cases u with
 |ref a=>rfl
 |none=>rfl
 |bool b=>rfl
 |int i t=>exact⟨t,rfl⟩
 |str s t=>exact⟨t,rfl⟩
 |bytes b t=>exact⟨t,rfl⟩
 |_=>exact False.elim x
theorem By{A:LA}{vs:LV}:(∀u∈vs,jz A u)->bc Ű vs:=by
 induction vs with
 |nil=>exact @λ_=>.nil
 |cons u r ih=>
  intro h;exact .cons (aei (h u (gy ..))) (ih λx hx=>h x (aO _ hx))
def oG(h:Heap)(A:LA)(a:Addr):Prop:=∃vs:LV,vs.length<=sizeLine/\(∀u∈vs,jz A u)/\
 (h.get? a=some {cls:=.type "list",data:=.seq vs.toArray}\/h.get? a=some {cls:=.type "tuple",data:=.seq vs.toArray})
def oG.mono{h:Heap}{A B:LA}{a:Addr}(k:∀a∈A,a∈B)(x:oG h A a):oG h B a:=by
 obtain⟨vs,h1,h2,h3⟩:=x;exact⟨vs,h1,λu hu=>(h2 u hu).mono k,h3⟩
theorem Jf{P:Params}{h:Heap}{vs:LV}:∀{ds:List WData},WellAll P h vs ds->vs.length=ds.length:=by
 induction vs with
 |nil=>intro ds h;cases h;rfl
 |cons v vs ih=>
  intro ds h;cases h with
  |cons _ b=>
   show _+1=_+1;rw[ih b]
theorem R7{P:Params}{h:Heap}{v:Value}{ds:List WData}(x:Well P h v (.list ds)):∃(a:Addr)(vs:LV),v=.ref a/\h.get? a=some {cls:=.type "list",data:=.seq vs.toArray}/\WellAll P h vs ds:=by
 cases x with
 |list ho jm=>simp_all
theorem R8{P:Params}{h:Heap}{v:Value}{ds:List WData}(x:Well P h v (.tuple ds)):∃(a:Addr)(vs:LV),v=.ref a/\h.get? a=some {cls:=.type "tuple",data:=.seq vs.toArray}/\WellAll P h vs ds:=by
 cases x with
 |tuple ho jm=>simp_all
theorem R9{P:Params}{h:Heap}{us:LV}{d:WData}{ds:List WData}(x:WellAll P h us (d::ds)):∃(v:Value)(vs:LV),us=v::vs/\Well P h v d/\WellAll P h vs ds:=by
 cases x with
 |cons a b=>grind
def aej{n:Nat}(h:n<=1048576):n<=sizeLine:=gQ h Ú
section
variable{P:Params}{h:Heap}
def Sa{M:WData->Prop}(n:M .none)(b:∀b,M (.bool b))(i:∀i,M Âx)(s:∀s,M (.str s))(y:∀b,M (.bytes b))(l:∀xs,(∀d∈xs,M d)->M (.list xs))(t:∀xs,(∀d∈xs,M d)->M (.tuple xs)):∀ds,pR ds=true->∀d∈ds,M d:=
 WData.rec_1 (motive_1:=λd=>qU d=true->M d) (motive_2:=λds=>pR ds=true->∀d∈ds,M d) (motive_3:=λ_=>True) (motive_4:=λ_=>True) (motive_5:=λ_=>True) (motive_6:=λ_=>True)
  (λ_=>n) (λx _=>b x) (λx _=>i x) (λx _=>s x) (λxs ih p=>l xs (ih p)) (λxs ih p=>t xs (ih p)) Àc (λ_ p=>Bool.noConfusion p) (λx _=>y x) (λ_ p=>Bool.noConfusion p) Àc Àc (λ_ _ _ p=>Bool.noConfusion p)
  (λ_ d m=>by cases m) (λx xs i1 i2 p d m=>by
   have q:=vc.mp p;cases m with
   |head=>exact i1 q.1
   |tail _ m=>exact i2 q.2 d m) trivial Ãh trivial Ãh Ãh (λ_ _ _=>trivial)
theorem Jg:∀ds:List WData,(∀d∈ds,∀v,Well P h v d->d.weight<=1048576->∃A:LA,jz A v/\∀a∈A,oG h A a)->∀vs:LV,WellAll P h vs ds->(∀d∈ds,d.weight<=1048576)->∃A:LA,(∀u∈vs,jz A u)/\∀a∈A,oG h A a:=by
 intro ds;induction ds with
 |nil=>
  intro _ vs x _;cases x;exact⟨[],λu m=>absurd m Ä,λa m=>absurd m Ä⟩
 |cons d ds ih=>
  intro one vs x z;obtain⟨v,vs,rfl,x1,x2⟩:=R9 x;obtain⟨A,a1,a2⟩:=one d gy v x1 (z d gy);obtain⟨B,b1,b2⟩:=ih (λe he=>one e (aO _ he)) vs x2 λe he=>z e (aO _ he);have kA:∀b∈A,b∈A++B:=λb hb=>gR.mpr (.inl hb);have kB:∀b∈B,b∈A++B:=λb hb=>gR.mpr (.inr hb);refine⟨A++B,λu hu=>?_,λb hb=>?_⟩
  ·rcases ba.mp hu with e|m
   ·rw[e];exact a1.mono kA
   ·exact(b1 u m).mono kB
  ·rcases gR.mp hb with m|m
   ·exact(a2 b m).mono kA
   ·exact(b2 b m).mono kB
def aek(ds:List WData)(vs:LV)(x:WellAll P h vs ds)(p:pR ds=true)(z:∀d∈ds,d.weight<=1048576):∃A:LA,(∀u∈vs,jz A u)/\∀a∈A,oG h A a:=by
 have nl:∀v,jz [] v->∃A:LA,jz A v/\∀a∈A,oG h A a:=λv o=>⟨[],o,λa m=>absurd m Ä⟩;have sq:∀(a:Addr)(vs:LV)(ds:List WData),vs.length=ds.length->WData.weightAll ds<=1048576->(h.get? a=some {cls:=.type "list",data:=.seq vs.toArray}\/h.get? a=some {cls:=.type "tuple",data:=.seq vs.toArray})->(∃A:LA,(∀u∈vs,jz A u)/\∀a∈A,oG h A a)->∃A:LA,jz A Ğ/\∀a∈A,oG h A a:=by
  intro a vs ds e z ho h0;obtain⟨A,h1,h2⟩:=h0;have k:∀b∈A,b∈a::A:=λb hb=>aO _ hb;refine⟨a::A,gy ..,λb hb=>?_⟩;rcases ba.mp hb with e1|m
  ·rw[e1];exact⟨vs,aej (by rw[e];exact gQ (PySem.W.length_le_weightAllW ds) z),λu hu=>(h1 u hu).mono k,ho⟩
  ·exact(h2 b m).mono k
 refine Jg ds (Sa (λv x _=>?_) Ãc Ãc Ãc Ãc (λxs ih v x z=>?_) (λxs ih v x z=>?_) ds p) vs x z
 ·cases x;exact nl _ trivial
 ·cases x;exact nl _ trivial
 ·cases x;exact nl _ trivial
 ·cases x;exact nl _ trivial
 ·cases x;exact nl _ trivial
 ·obtain⟨a,vs,rfl,ho,jm⟩:=R7 x;have z2:=z;exact sq a vs xs (Jf jm) z2 (.inl ho) (Jg xs ih vs jm λd hd=>gQ (R4 hd) z2)
 ·obtain⟨a,vs,rfl,ho,jm⟩:=R8 x;have z2:=z;exact sq a vs xs (Jf jm) z2 (.inr ho) (Jg xs ih vs jm λd hd=>gQ (R4 hd) z2)
end
def Ey(o:Obj):Option HO:=match o.data with
 |.seq vs _=>if (o.cls==Value.type "list")=true then some (.cu o (.lst (vs.toList.map toV))) else some (.cu o (.tup (vs.toList.map toV)))
 |_=>none
def i6(K:FR)(h:Heap)(A:LA):Hp:=λb=>if b∈A then (if (K.lookup b).isNone=true then (h.get? b).bind Ey else none) else none
def Sb(vs:LV):Ey {cls:=.type "list",data:=.seq vs.toArray}=some (.cu {cls:=.type "list",data:=.seq vs.toArray} (.lst Ű)):=by
 rfl
def Sd(vs:LV):Ey {cls:=.type "tuple",data:=.seq vs.toArray}=some (.cu {cls:=.type "tuple",data:=.seq vs.toArray} (.tup Ű)):=by
 rfl
section
variable{P:Pg}{w:Wd}{K:FR}{h:Heap}{A:LA}
def Ez{b:Addr}{o:Obj}(hb:b∈A)(hk:K.lookup b=none)(e:h.get? b=some o):i6 K h A b=Ey o:=by
 unfold i6;grind
def ael{b:Addr}{u:HO}(q:i6 K h A b=some u):b∈A/\K.lookup b=none:=by
 unfold i6 at q;by_cases hb:b∈A
 ·rw[af hb] at q;cases hk:K.lookup b with
  |none=>simp_all
  |some o=>
   simp_all
 ·simp_all
def EA(ar:∀a∈A,oG h A a){b:Addr}{u:HO}(q:i6 K h A b=some u):K.lookup b=none/\∃vs:LV,vs.length<=sizeLine/\(∀u∈vs,jz A u)/\
  ((h.get? b=some {cls:=.type "list",data:=.seq vs.toArray}/\u=.cu {cls:=.type "list",data:=.seq vs.toArray} (.lst Ű))\/
   (h.get? b=some {cls:=.type "tuple",data:=.seq vs.toArray}/\u=.cu {cls:=.type "tuple",data:=.seq vs.toArray} (.tup Ű))):=by
 obtain⟨hb,hk⟩:=ael q;obtain⟨vs,h1,h2,h3⟩:=ar b hb;refine⟨hk,vs,h1,h2,?_⟩;rcases h3 with e|e
 ·rw[Ez hb hk e,Sb] at q;exact .inl ⟨e,(aN q).symm⟩
 ·rw[Ez hb hk e,Sd] at q;exact .inr ⟨e,(aN q).symm⟩
def aem(KX:K.In h)(ar:∀a∈A,oG h A a){a:Addr}{vs:LV}(ha:a∈A)(e:h.get? a=some {cls:=.type "list",data:=.seq vs.toArray}):(∀u∈vs,jz A u)/\aa K (i6 K h A) a Ű:=by
 obtain⟨us,h1,h2,h3⟩:=ar a ha;have hu:us=vs:=by
  simp_all
 subst hu;refine⟨h2,?_⟩;cases hk:K.lookup a with
 |none=>exact .inl (.inr ⟨_,by rw[Ez ha hk e,Sb]⟩)
 |some o=>
  have e2:=KX a o hk;rw[e] at e2;obtain rfl:=aN e2;exact .inr ⟨_,us.toArray,_,hk,rfl,rfl,rfl,by assumption,by simpa using By h2⟩
def aen(KX:K.In h)(ar:∀a∈A,oG h A a){a:Addr}{vs:LV}(ha:a∈A)(e:h.get? a=some {cls:=.type "tuple",data:=.seq vs.toArray}):(∀u∈vs,jz A u)/\bu K (i6 K h A) a Ű:=by
 obtain⟨us,h1,h2,h3⟩:=ar a ha;have hu:us=vs:=by
  simp_all
 subst hu;refine⟨h2,?_⟩;cases hk:K.lookup a with
 |none=>exact .inl (.inr ⟨_,by rw[Ez ha hk e,Sd]⟩)
 |some o=>
  have e2:=KX a o hk;rw[e] at e2;obtain rfl:=aN e2;exact .inr ⟨_,us.toArray,_,hk,rfl,rfl,by assumption,by simpa using By h2⟩
theorem Jh{Pm:Params}{B:Hp}:∀ds:List WData,(∀d∈ds,∀v,Well Pm h v d->jz A v->Dw K B (toV v) d)->∀vs:LV,WellAll Pm h vs ds->(∀u∈vs,jz A u)->l8 K B Ű ds:=by
 intro ds;induction ds with
 |nil=>
  intro _ vs x _;cases x;exact .nil
 |cons d ds ih=>
  intro one vs x hu;obtain⟨v,vs,rfl,x1,x2⟩:=R9 x;exact .cons (one d gy v x1 (hu _ gy)) (ih (λe he=>one e (aO _ he)) vs x2 λu m=>hu u (aO _ m))
def aeo{Pm:Params}(KX:K.In h)(ar:∀a∈A,oG h A a)(ds:List WData)(vs:LV)(x:WellAll Pm h vs ds)(p:pR ds=true)(hu:∀u∈vs,jz A u):l8 K (i6 K h A) Ű ds:=by
 refine Jh ds (Sa (λv x _=>?_) (λb v x _=>?_) (λi v x _=>?_) (λs v x _=>?_) (λb v x _=>?_) (λxs ih v x hu=>?_) (λxs ih v x hu=>?_) ds p) vs x hu
 ·cases x;exact .aJ
 ·cases x;exact .bl b
 ·cases x;exact .int i
 ·cases x;exact .str s
 ·cases x;have z:=Dw.jf (K:=K) (H:=i6 K h A) b.toArray;exact z
 ·obtain⟨a,vs,rfl,ho,jm⟩:=R7 x;obtain⟨h2,hs⟩:=aem KX ar hu ho;exact .lst hs (Jh xs ih _ jm h2)
 ·obtain⟨a,vs,rfl,ho,jm⟩:=R8 x;obtain⟨h2,hs⟩:=aen KX ar hu ho;exact .tup hs (Jh xs ih _ jm h2)
end
def aep{ds:List WData}(h:WData.layableAll ds=true):∀d∈ds,d.weight<=1048576:=λd hd=>
 (PySem.W.layableW_iff.mp (lx.mp h d hd)).2.2
theorem aeq(cs:List Codec):∀(a:Codec.denoteAll cs),(Codec.encAll cs a).length=cs.length:=by
 induction cs with
 |nil=>exact @λ_=>rfl
 |cons c cs ih=>
  intro a;show(Codec.encAll cs a.2).length+1=cs.length+1;rw[ih a.2]
section
variable{K:FR}{H H':Hp}
def aer(s:ai H H')(h:Ť a xs):bu K H' a xs:=by
 rcases h with (h|⟨o,h⟩)|h
 ·exact .inl (.inl (s _ _ h))
 ·exact .inl (.inr ⟨o,s _ _ h⟩)
 ·exact .inr h
def aes(s:ai H H')(ds:List WData)(vs:au)(x:l8 K H vs ds):l8 K H' vs ds:=
 l8.rec (motive_1:=λv d _=>Dw K H' v d) (motive_2:=λvs ds _=>l8 K H' vs ds) .aJ .bl .int .str .jf (λh _ r=>.lst (s.seq h) r) (λh _ r=>.tup (aer s h) r) .nil (λ_ _ h r=>.cons h r) x
end
def aet{P:Pg}{w:Wd}{K:FR}{mg mb:MG}{CX:nh}{k:Nat}{fa:Addr}{fd:FD}{ps:LS}{sp:Sp}{s₁:Sh}{tK:LV}{ds:List WData}{R:PySem.W.WRecords}{cl:Str->OA}{d0:WData}{c T:Addr}(KX:K.In s₁.heap) (om:s₁.heap.Ns mainGlobals mg) (hb:s₁.heap.Ns builtinsNs mb) (hbb:∀x:Str,x≠"__name__"->mb x=bootBuiltins x) (aev:s₁.heap.NoLimit) (hg:s₁.gens= #[])(Bz:WellAll w.params s₁.heap tK ds) (c9:pR ds=true) (hwt:∀d∈ds,d.weight<=1048576) (hr:dv k callerA) (hT:s₁.heap.TableAt c T #[]) (Se:K.lookup T=none) (vL:xB mg s₁.heap)(F:∀base:Heap,K.In base->base.Ns mainGlobals mg->xB mg base->Ì CX k fa fd ps sp) (Jd:∀(s:Sh)(us:LV),us.length=ps.length->BindsTo s fd ⟨us,[]⟩ Ài) (cK:ds.length=ps.length)(iZ:∀(H:Hp)(xs:au),H T=some (.gG #[])->l8 K H xs ds->sp xs H (λv H'=>Dw K H' v d0) λ_ _ _=>False)(Ji:∀H e s',CX [] H s₁ (λ_ _ _=>False) e s'->False):
  codeAny Àj callerA (.call (.ref fa) ⟨tK,[]⟩) (λr s'=>∃u as,r=.ok (.ret u)/\ReadsW R cl s'.heap u d0 as/\OldK s₁.heap s'.heap/\s'.os=s₁.os/\AllBare s'.gens) s₁:=by
 obtain⟨A,ho,ar⟩:=aek ds tK Bz c9 hwt;have Jj:s₁.heap.get? T=some {cls:=.none,data:=.fields #[]}:=hT.2;have ug:∀{b:Addr}{o:Obj},s₁.heap.get? b=some o->(∀vs n,o.data≠ .seq vs n)->Ġ A b=none:=λ{b o}e d=>by
  cases q:Ġ A b with
  |none=>rfl
  |some u=>
   obtain⟨_,vs,_,_,⟨e2,_⟩|⟨e2,_⟩⟩:=EA ar q
   ·grind
   ·grind
 have aT:=ug Jj λvs n z=>by cases z
 have sm:ai (Ġ A) (upd (Ġ A) T (.gG #[])):=λb o e=>by
  rw[ao (eK e aT)];exact e
 have hS:=aes sm _ _ (aeo KX ar ds tK Bz c9 ho);have hV:=By ho;have EB:upd (Ġ A) T (.gG #[]) T=some (.gG #[]):=aq;have hN:∀b,b≠T->upd (Ġ A) T (.gG #[]) b=i6 K s₁.heap A b:=λb hb=>ao hb;have hO:∀b u,b≠T->upd (Ġ A) T (.gG #[]) b=some u->∃o u',u=.cu o u':=λb u hb e=>by
  rw[hN b hb] at e;obtain⟨_,vs,_,_,⟨_,e⟩|⟨_,e⟩⟩:=EA ar e
  ·simp_all
  ·simp_all
 have ax:dy P w (upd (Ġ A) T (.gG #[])) s₁.heap:=λb u q=>by
  by_cases qT:b=T
  ·subst qT;rw[EB] at q;cases q;exact Jj
  ·rw[hN b qT] at q;obtain⟨_,vs,h1,h2,⟨e,rfl⟩|⟨e,rfl⟩⟩:=EA ar q
   ·exact⟨e,by simp_all,vs,_,By h2,e⟩
   ·exact⟨e,by simp_all,vs,By h2,_,e,rfl,_,rfl⟩
 have hK:∀b u,upd (Ġ A) T (.gG #[]) b=some u->K.lookup b=none:=λb u q=>by
  by_cases qT:b=T
  ·grind
  ·rw[hN b qT] at q;exact(EA ar q).1
 have Jk:∀{b:Addr}{o:Obj},s₁.heap.get? b=some o->(∀vs n,o.data≠ .seq vs n)->(∀vs,o.data≠ .fields vs)->upd (Ġ A) T (.gG #[]) b=none:=λ{b o}e d1 d2=>by
  grind
 generalize upd (Ġ A) T (.gG #[])=H at hS EB hO ax hK Jk;have Jl:∀{b:Addr}{o:Obj},s₁.heap.get? b=some o->H b=none->(uc s₁.heap H).get? b=some o:=λe n=>Zm e n;have EC:∀{b:Addr}{m:MG},s₁.heap.Ns b m->(uc s₁.heap H).Ns b m:=λ{b m} ⟨o,es,ep,e,d,r⟩=>⟨o,es,ep,Jl e (Jk e (λvs n z=>by simp_all) λvs z=>by simp_all),d,r⟩;have nK:∀b o,K.lookup b=some o->H b=none:=λb o e=>by
  cases q:H b with
  |none=>rfl
  |some u=>
   grind
 have Sf:=λb o e=>Jl (KX b o e) (nK b o e);have hM:Mod K mg Æf:=⟨Sf,EC om,⟨mb,EC hb,hbb⟩,let ⟨mc,h1,h2⟩:=aev;⟨mc,EC h1,h2⟩⟩;have hBm:xB mg Æf:=by
  obtain⟨bm,ob,b1,b2,b3,b4,b5,b6⟩:=vL;exact⟨bm,ob,b1,b2,Jl b3 (Jk b3 (λvs n z=>by simp_all) λvs z=>by simp_all),b4,b5,b6⟩
 have e0:oy P w K mg Æf callerA [] s₁ H:=⟨rfl,hM,λb o e=>Zn e,C4 (Zl _ _),trivial,λb hb=>absurd (show b∈([]:LA) from hb) Ä,ax,.of_eq hg⟩;have hl:tK.length=ps.length:=by rw[Jf Bz];exact cK
 refine u5 ((F _ Sf (EC om) hBm).run callerA [] s₁ H ⟨tK,[]⟩ tK (tK.map toV) _ _ hr e0 (Jd s₁ tK hl) hV (iZ H _ EB hS)) λr s' x=>?_;cases r with
 |error e=>exact(Ji H e s' x).elim
 |ok fl=>
  cases fl with
  |next=>exact False.elim x
  |brk=>exact False.elim x
  |cont=>exact False.elim x
  |ret u=>
   obtain⟨v,H',os,bare,un,Jm,r',q⟩:=x;have kept:=λb o qT e=>by
    cases q2:H b with
    |none=>exact un.keep b o e q2 (by intro z;exact absurd (show b∈([]:LA) from z) Ä) Ä
    |some u2=>
     obtain⟨ob,u3,rfl⟩:=hO b u2 qT q2;have z2:=un.m5 b ob _ q2;obtain⟨e1,_⟩:=ax b _ q2;obtain⟨e2,_⟩:=Jm b _ z2;simp_all
   have KX':=λb o e=>kept b o (λz=>by simp_all) (KX b o e);obtain⟨as,Sg⟩:=Dw.reads (R:=R) (cl:=cl) Jm KX' d0 v u q r';obtain⟨jc,e1⟩:=un.pB T #[] EB;have e2:s'.heap.get? T=some {cls:=.none,data:=.fields (#[]++jc)}:=Jm T _ e1;refine⟨u,as,rfl,Sg,⟨λb o e=>?_,λb o e=>?_⟩,os,bare⟩
   ·by_cases qT:b=T
    ·subst qT;rw[Jj] at e;cases e;exact .inr (.inl ⟨hT.isCodeTable,rfl,#[],jc,rfl,e2⟩)
    ·exact .inl (kept b o qT e)
   ·grind
def aez{r:OpenSpec}{k:Nat}{q:Pg}{loose:LS}{XP:MG->Heap->Prop}{YP:Wd->Heap->Prop}{d:DefRec}{K:Params->FR}{CX:nh}{ps:LS}{sp:FR->Addr->Sp}(aeA:r.wellSaid=true) (Jn:d.params.defaults=[]) (cK:r.args.length=ps.length) (hr:dv k callerA)(hY:∀(w:Wd)(h:Heap),YP w h->(K w.params).In h) (Ja:((recsOf q).any λd'=>d'.name==d.name)=true)(F:∀(w:Wd)(mg:MG)(fa:Addr)(h:Heap),YP w h->(K w.params).In h->h.Ns mainGlobals mg->mg d.name=some (.ref fa)->
   ∃(fd:FD)(o:Obj)(c T:Addr),(K w.params).lookup fa=some o/\o.data=.func fd/\fd.code=.ref c/\Bu Æy c T/\(K w.params).lookup T=none/\(∀(s:Sh)(us:LV),us.length=ps.length->BindsTo s fd ⟨us,[]⟩ Ài)/\
    ∀base:Heap,(K w.params).In base->base.Ns mainGlobals mg->xB mg base->a7 r.prog w Æy mg base CX k fa fd ps (sp Æy T))
  (iZ:∀(K:FR)(T:Addr)(H:Hp)(xs:au)(a:Codec.denoteAll r.args),H T=some (.gG #[])->Codec.withinAll r.args a=true->Codec.app r.args r.asked a=true->l8 K H xs (Codec.encAll r.args a)->
   sp K T xs H (λv H'=>Dw K H' v (r.ret.enc (Codec.app r.args r.f a))) λ_ _ _=>False)
  (Ji:∀(H:Hp)(s:Sh)(e:Value)(s':Sh),CX [] H s (λ_ _ _=>False) e s'->False):
  PySem.W.WalkOS q loose XP YP r d [] (λf vs=>PySem.call f vs):=by
 intro w g8 s₁ mg mb G Y fa o pm cd iS dV kV ho hd kJ hD ED hg args tK as Si aeB Sg Bz hlo;obtain⟨a,e1,e2⟩:=PySem.W.os_pre_some Si;obtain⟨e3,uj⟩:=Codec.encAll_of_decAll r.args args a e1;subst e3;have KX:=hY w _ Y;obtain⟨fd,o',c,T,k1,k2,k3,hC,Se,hb,hF⟩:=F w mg fa _ Y KX G.T.g ED;obtain⟨d',pF,hn⟩:=vb.mp Ja;have hn:=wJ.mp hn;obtain⟨a',o2,fd',c',P',t1,t2,t3,t4,t5,t6⟩:=G.T.tab d' pF;rw[hn,ED] at t1;cases t1;rw[KX _ _ k1] at t2;cases t2;rw[k2] at t3;cases t3;rw[k3] at t4;cases t4;have hPT:P'=T:=by
  obtain⟨⟨ob,vs,f1,f2,f3,f4⟩,_⟩:=t6;obtain⟨ob2,vs2,_,_,_,_,_,_,_,g1,g2,g3,g4,_⟩:=hC _ KX;simp_all
 subst hPT;refine PySem.W.enter_call (u5 (aet (R:=[]) (cl:=classAt g8.heap) (d0:=r.ret.enc (Codec.app r.args r.f a)) KX G.T.g G.T.b G.T.builtins G.T.nolimit hg Bz (aeh _ _) (aep aeB) hr t6 Se G.T.bmain hF hb (by rw[aeq];exact cK)
  (λH xs hO hS=>iZ Æy P' H xs a hO uj e2 hS) λH e s'=>Ji H s₁ e s') λr' s' hq=>?_)
 obtain⟨u,as',rfl,h1,h2,h3,h4⟩:=hq;exact⟨.inl ⟨u,_,as',rfl,λ_=>rfl,h1,(OpenSpec.post_iff aeA uj _ _).mpr rfl,λz=>Bool.noConfusion z⟩,h2,h3,h4⟩
def Sj{K:FR}{c T:Addr}{od:OA}{sl:AO}{v0 v1 v2 v3 v4 v5 v6 v8 xD Jo Jp Jq Jr Js:Value}{fl tx:Int}{tf tt:Tok}{b:Bool}{x:Str}{ts:Tok}(l:K.lookup c=some ⟨.type "code",od,.fields #[v0,v1,v2,v3,v4,v5,v6,.int fl tf,v8,.bool b,.int tx tt,.ref T,xD,Jo,Jp,Jq,Jr,Js,.str x ts],sl⟩) (ne:(c==T)=false):Bu K c T:=λh X=>
 ⟨_,_,_,_,_,_,_,_,_,X _ _ l,rfl,rfl,rfl,rfl,rfl,rfl,rfl,rfl,λz=>by rw[z] at ne;simp at ne⟩
end L2
end
section
namespace JM
open Flags
def aI(m:Int):LI->di
 |[]=>[[]]
 |x::r=>if x=m then []::aI m r else match aI m r with
  |[]=>[[x]]
  |w::l=>(x::w)::l
def vM(m:Int)(ps:di)(x:Int):di:=
 if x=m then ps++[[]] else ps.dropLast++[ps.getLastD []++[x]]
theorem lJ(m:Int):∀l,aI m l≠[]:=by
 intro l;induction l with
 |nil=>
  simp[aI]
 |cons x r ih=>
  unfold aI;split
  ·simp
  ·split <;> simp
def Jt(m x:Int)(w:LI)(l:di)(h:l≠[]):vM m (w::l) x=w::vM m l x:=by
 unfold vM;split
 ·rfl
 ·cases l with
  |nil=>simp_all
  |cons a l=>rfl
theorem aeE(m x:Int):∀l,aI m (l++[x])=vM m (aI m l) x:=by
 intro l;induction l with
 |nil=>
  by_cases h:x=m <;> simp[aI,vM,h]
 |cons y r ih=>
  have ih:=ih;have aQ:=lJ m r;show aI m (y::(r++[x]))=_;unfold aI;split
  ·rw[ih,Jt _ _ _ _ aQ]
  ·rw[ih];cases e:aI m r with
   |nil=>exact absurd e aQ
   |cons w l=>
    cases l with
    |nil=>by_cases hx:x=m <;> simp[vM,hx]
    |cons a l=>
     rw[Jt m x w (a::l) Ä];rw[Jt m x (y::w) (a::l) Ä]
def k7:LI:=[48,49,50,51,52,53,54,55,56,57,97,98,99,100,101,102]
def pU:LI:=k7++[63]
def jA:LI:=[115,101,101,110]
def uz:di:=[[102,114,111,110,116],[98,101,104,105,110,100],[117,110,107,110,111,119,110]]
def iu:di:=[[104,111,105,115,116],[104,111,105,115,116,32,97,98,111,118,101],[104,111,105,115,116,32,98,101,108,111,119],[104,111,105,115,116,32,97,98,111,118,101,32,98,101,108,111,119]]
def iw:di:=[[115,113,117,97,114,101],[116,97,105,108,115],[108,111,110,103],[115,104,97,112,101,63]]
def B(n:Int):UInt8:=UInt8.ofNat n.toNat
def a9(l:LI):Prop:=∀x∈l,0<=x/\x<=255
def Ju(h:0<=x/\x<=255):(B x).toNat=x.toNat:=by
 unfold B;rw[UInt8.toNat_ofNat'];omega
def Sk(hx:0<=x/\x<=255)(hy:0<=y/\y<=255)(e:B x=B y):x=y:=by
 have:=cE UInt8.toNat e;rw[Ju hx,Ju hy] at this;omega
theorem vN:∀{a b:LI},a9 a->a9 b->a.map B=b.map B->a=b
 |[],[],_,_,_=>rfl
 |[],_::_,_,_,e=>by simp at e
 |_::_,[],_,_,e=>by simp at e
 |x::a,y::b,ha,hb,e=>by
  simp only[a0,List.cons.injEq] at e;rw[Sk (ha x gy) (hb y gy) e.1,vN (λz hz=>ha z (aO _ hz)) (λz hz=>hb z (aO _ hz)) e.2]
theorem xE(m:Int)(hm:0<=m/\m<=255):∀l,a9 l->cutAt (B m) Ķ=(aI m l).map ê:=by
 intro l;induction l with
 |nil=>exact @λ_=>rfl
 |cons x r ih=>
  intro h;have hx:=h x gy;have ih:=ih λz hz=>h z (aO _ hz);show(if B x=B m then []::cutAt (B m) (r.map B) else match cutAt (B m) (r.map B) with
   |[]=>[[B x]]
   |w::l=>(B x::w)::l)=(aI m (x::r)).map ê
  unfold aI;by_cases e:x=m
  ·rw[af e,af (by rw[e]),ih];rfl
  ·rw[ah e,ah λq=>e (Sk hx hm q),ih];cases aI m r with
   |nil=>rfl
   |cons w l=>rfl
theorem pV(m:Int):∀{l},a9 l->∀w∈aI m l,a9 w:=by
 intro l;induction l with
 |nil=>
  intro _ w hw;simp[aI] at hw;subst hw;intro z hz;cases hz
 |cons x r ih=>
  intro h w hw;have ih:=ih λz hz=>h z (aO _ hz);unfold aI at hw;split at hw
  ·rcases ba.mp hw with rfl|hw
   ·intro z hz;cases hz
   ·exact ih w hw
  ·cases e:aI m r with
   |nil=>exact absurd e (lJ m r)
   |cons a l=>
    rw[e] at hw ih;rcases ba.mp hw with rfl|hw
    ·intro z hz;rcases ba.mp hz with rfl|hz
     ·exact h _ gy
     ·exact ih a gy z hz
    ·exact ih w (aO _ hw)
theorem aeF(m:Int){l:LI}:m∉l->aI m l=[l]:=by
 induction l with
 |nil=>exact @λ_=>rfl
 |cons x r ih=>
  intro h;have h1:¬x=m:=λe=>h (by rw[e];exact gy);have h2:=ih λq=>h (aO _ q);unfold aI;rw[ah h1,h2]
theorem Sl(m:Int)(r:LI){l:LI}:m∉l->aI m (l++m::r)=l::aI m r:=by
 induction l with
 |nil=>
  intro _;show aI m (m::r)=_;unfold aI;rw[af rfl];split <;> rfl
 |cons x l ih=>
  intro h;have h1:¬x=m:=λe=>h (by rw[e];exact gy);have h2:=ih λq=>h (aO _ q);show(if x=m then []::aI m (l++m::r) else match aI m (l++m::r) with
   |[]=>[[x]]
   |w::l=>(x::w)::l)=_
  rw[ah h1,h2]
def glue(m:Int):di->LI
 |[]=>[]
 |[w]=>w
 |w::r=>w++m::glue m r
theorem aeG(m:Int)(w:LI)(h:r≠[]):glue m (w::r)=w++m::glue m r:=by
 cases r with
 |nil=>simp_all
 |cons a r=>rfl
theorem aeH(m:Int):∀l,glue m (aI m l)=l:=by
 intro l;induction l with
 |nil=>exact rfl
 |cons x r ih=>
  have ih:=ih;have aQ:=lJ m r;unfold aI;split
  ·rename_i e;rw[aeG m [] aQ,ih,e];rfl
  ·cases e:aI m r with
   |nil=>exact absurd e aQ
   |cons w l=>
    rw[e] at ih;cases l with
    |nil=>
     show x::w=x::r;rw[show w=r from ih]
    |cons a l=>
     rw[<-ih];rfl
def vO(c:LI):Bool:=c.length==16&&c.all k7.contains
def EE(h:l.all (λx=>decide (0<=x)&&decide (x<=255))=true):a9 l:=λx hx=>by
 simp_all
def aeI(h:0<=x/\x<=255):(hexValue (B x)).isSome=k7.contains x:=by
 have e:=(by decide+kernel:∀n<256,(hexValue (B (n:Nat))).isSome=k7.contains ((n:Nat):Int)) x.toNat Æ
 rwa [apt h.1] at e
theorem mapM_some(f:α->Option β):∀l:List α,(l.mapM f).isSome=l.all (λx=>(f x).isSome):=by
 intro l;induction l with
 |nil=>exact rfl
 |cons x r ih=>
  have ih:=ih;rw[G9,rK,<-ih];cases f x with
  |none=>rfl
  |some y=>
   cases r.mapM f with
   |none=>rfl
   |some z=>rfl
def Jv(h:a9 l)(e:∀x,0<=x/\x<=255->f x=g x):l.all f=l.all g:=by
 rw[pj,lx,lx];exact⟨λq x hx=>by rw[<-e x (h x hx)];exact q x hx,λq x hx=>by rw[e x (h x hx)];exact q x hx⟩
def Sm(h:a9 c):(lookIn Åv).isSome=vO c:=by
 unfold lookIn vO;rw[aA];by_cases e:c.length=16
 ·rw[ah (λq=>q e),Df,mapM_some,rL];rw[show c.all ((λx=>(hexValue x).isSome)∘B)=c.all k7.contains from Jv h (λx hx=>aeI hx),e];rfl
 ·simp_all
def preOf(b:LI):LI:=jA++32::(b++[32])
def aeJ{b:LI}(h:a9 b):a9 (preOf b):=λx hx=>by
 unfold preOf at hx;rcases gR.mp hx with q|q
 ·exact EE (l:=jA) Ú x q
 ·rcases ba.mp q with q|q
  ·subst q;decide
  ·rcases gR.mp q with q|q
   ·exact h x q
   ·have:x=32:=by simpa using q
    subst this;decide
def aeK(hw:a9 w)(hb:a9 b):
  ((ascii "seen"++32::(b.map B++[32])).isPrefixOf ĩ &&(lookIn ((w.map B).drop (6+(b.map B).length))).isSome)=true↔ ∃c,w=jA++32::(b++32::c)/\vO c=true:=by
 have e0:ascii "seen"++32::(b.map B++[32])=(preOf b).map B:=by
  unfold preOf;rw[bX,a0,bX];rfl
 have el:(preOf b).length=6+b.length:=by
  unfold preOf;rw[mU,c7,mU];show 4+(b.length+1+1)=_;omega
 rw[e0,jw,List.isPrefixOf_iff_prefix,aA,<-O2];constructor
 ·rintro⟨⟨t,ht⟩,hl⟩;have hd:a9 (w.drop (6+b.length)):=λx hx=>hw x (Ye hx);rw[Sm hd] at hl;refine⟨w.drop (6+b.length),?_,hl⟩;have h1:(w.take (6+b.length)).map B=(preOf b).map B:=by
   have:=cE (List.take (6+b.length)) ht;rw[<-List.map_take] at this;grind
  have h2:=vN (λx hx=>hw x (Hc hx)) (aeJ hb) h1;have h3:=O3 (6+b.length) w;rw[h2] at h3;refine h3.symm.trans ?_;unfold preOf;simp
 ·rintro⟨c,rfl,hc⟩;have e1:jA++32::(b++32::c)=preOf b++c:=by
   unfold preOf;simp
  rw[e1] at hw⊢;have Jw:=λx hx=>hw x (tW _ hx);have ed:(preOf b++c).drop (6+b.length)=c:=by
   simp_all
  rw[ed,Sm Jw];simp_all
def dQ(s:Nat):LI:=uz.getD s []
def Sn:∀s∈[0,1,2],sideWord s=(dQ s).map B/\a9 (dQ s)/\uz.contains (dQ s)=true:=by
 intro s hs;have:s=0\/s=1\/s=2:=À hs
 rcases this with rfl|rfl|rfl <;> exact⟨by decide,EE Ú,by decide⟩
def pS(l:Bytes)(s:Nat):Bool:=(ascii "seen"++32::(sideWord s++[32])).isPrefixOf l&&(lookIn (l.drop (6+(sideWord s).length))).isSome
def So(hw:a9 w)(hs:s∈[0,1,2]):pS ĩ s=true↔ ∃c,w=jA++32::(dQ s++32::c)/\vO c=true:=by
 obtain⟨e,h8,_⟩:=Sn s hs;unfold pS;rw[e];exact aeK hw h8
def Sq{w:LI}(hw:a9 w){l:di}(hl:∀x∈l,a9 x):w.map B∈l.map ê↔w∈l:=by
 rw[cf];constructor
 ·rintro⟨x,hx,e⟩;rw[<-vN (hl x hx) hw e];exact hx
 ·grind
def fH(l:Bytes):Option (Bool×Bool):=[(false,false),(true,false),(false,true),(true,true)].find? λ(x:Bool×Bool)=>(Glimpse.lines ⟨x.1,x.2,[]⟩).head?==some l
def fF(l:Bytes):Option Nat:=[0,1,2,3].find? λ(s:Nat)=>shapeSeen s==l
def Sr(l:di)(h:l.all (λw=>w.all (λx=>decide (0<=x)&&decide (x<=255)))=true):∀x∈l,a9 x:=λx hx=>EE (lx.mp h x hx)
def aeL{w:LI}(hw:a9 w):(fH ĩ).isSome=iu.contains w:=by
 have e:iu.map ê=[(false,false),(true,false),(false,true),(true,true)].map (λ(x:Bool×Bool)=>((Glimpse.lines ⟨x.1,x.2,[]⟩).head?).getD []):=by decide
 have e2:∀x∈[(false,false),(true,false),(false,true),(true,true)],(Glimpse.lines ⟨x.1,x.2,[]⟩).head?=some (((Glimpse.lines ⟨x.1,x.2,[]⟩).head?).getD []):=by decide
 rw[pj];unfold fH;rw[List.find?_isSome];rw[show(iu.contains w=true↔w∈iu) from by simp,<-Sq hw (Sr iu Ú),e,cf];constructor
 ·rintro⟨x,hx,h⟩;refine⟨x,hx,?_⟩;rw[eq_of_beq h];rfl
 ·rintro⟨x,hx,h⟩;refine⟨x,hx,?_⟩;rw[e2 x hx,h];exact Yg _
def aeM{w:LI}(hw:a9 w):(fF ĩ).isSome=iw.contains w:=by
 have e:iw.map ê=[0,1,2,3].map shapeSeen:=by decide
 rw[pj];unfold fF;rw[List.find?_isSome];rw[show(iw.contains w=true↔w∈iw) from by simp,<-Sq hw (Sr iw Ú),e,cf];simp
def aeN(l:Bytes):plateLine l=match [0,1,2].find? (pS l) with
  |some s=>(lookIn (l.drop (6+(sideWord s).length))).map λ(x:Nat)=>.seen s x
  |none=>match fH l with
   |some x=>some (.hoist x.1 x.2)
   |none=>match fF l with
    |some s=>some (.flag s)
    |none=>if l.length=4 then (l.mapM cellIn).map .cells else none:=rfl
def Jx{p:LI}(h:a9 p):PlateNeutral.text? p=some Áa:=by
 unfold PlateNeutral.text?;rw[af ?_]
 ·rfl
 ·unfold NeutralIO.bytes;rw[lx];intro x hx;have:=h x hx;simp_all
end JM
end
section
namespace HD
open PySem PySem.Spec PyProof.Rows L2
abbrev Jy:Stmt:=top 6
abbrev Jz:Stmt:=top 7
abbrev JA:Stmt:=top 15
abbrev JB:Stmt:=top 16
abbrev JC:Stmt:=top 17
abbrev JD:Stmt:=top 18
abbrev JE:Stmt:=top 19
abbrev JF:Stmt:=top 20
abbrev JG:Stmt:=top 21
abbrev JH:Stmt:=top 22
abbrev aeO:Stmt:=inClass (top 33) 0
abbrev aeP:Stmt:=inClass (top 34) 0
abbrev JI:Stmt:=top 35
abbrev JJ:Stmt:=top 36
abbrev JK:Stmt:=top 37
abbrev JL:Stmt:=top 38
abbrev JN:Stmt:=top 39
abbrev JO:Stmt:=top 41
abbrev JP:Stmt:=top 42
abbrev JQ:Stmt:=top 43
abbrev JR:Stmt:=inClass (top 60) 0
abbrev aeQ:Stmt:=inClass (top 61) 0
abbrev aeR:Stmt:=inClass (top 62) 0
abbrev aeS:Stmt:=inClass (top 63) 0
abbrev JS:Stmt:=top 64
abbrev JT:Stmt:=top 65
abbrev JU:Stmt:=top 66
abbrev JV:Stmt:=top 67
abbrev JW:Stmt:=top 68
abbrev JX:Stmt:=top 69
abbrev JY:Stmt:=top 70
abbrev JZ:Stmt:=top 71
abbrev J0:Stmt:=top 72
abbrev J1:Stmt:=top 74
abbrev aeT:Stmt:=inClass (top 75) 0
abbrev J2:Stmt:=top 76
abbrev J3:Stmt:=top 77
abbrev J4:Stmt:=top 78
abbrev J5:Stmt:=top 79
abbrev J6:Stmt:=top 80
abbrev J7:Stmt:=top 81
abbrev J8:Stmt:=top 82
abbrev aeU:Stmt:=inClass (top 84) 0
abbrev J9:Stmt:=top 85
abbrev Ka:Stmt:=top 86
abbrev Kb:Stmt:=top 87
abbrev Kc:Stmt:=top 88
abbrev Kd:Stmt:=top 89
abbrev Ke:Stmt:=top 90
abbrev Kf:Stmt:=top 91
abbrev Kg:Stmt:=top 92
abbrev Kh:Stmt:=top 93
abbrev Ki:Stmt:=top 94
abbrev Kj:Stmt:=top 95
abbrev aeV:Stmt:=inClass (top 103) 0
abbrev aeW:Stmt:=inClass (top 104) 0
abbrev Kk:Stmt:=top 105
abbrev Kl:Stmt:=top 106
abbrev Km:Stmt:=top 107
abbrev Ko:Stmt:=top 108
abbrev Kq:Stmt:=top 109
abbrev Kr:Stmt:=top 110
abbrev Ks:Stmt:=top 112
abbrev aeX:Stmt:=inClass (top 116) 0
abbrev Ku:Stmt:=top 117
abbrev Kw:Stmt:=top 118
abbrev Kx:Stmt:=top 119
abbrev Ky:Stmt:=top 120
abbrev Kz:Stmt:=top 121
abbrev aeY:Stmt:=inClass (top 123) 0
abbrev KA:Stmt:=top 126
abbrev KB:Stmt:=top 127
abbrev aeZ:Str:="are_in_order_lockers"
end HD
end
section
namespace HD
open PySem PySem.Spec PyProof.Rows L2
open PySem.W (Codec)
def pW(H H':Hp)(p:Addr)(o:HO):Prop:=ai H H'/\H p=none/\H' p=some o
def aL{H:Hp}{p:Addr}{o:HO}(h:H p=none):ai H (upd H p o):=λb u e=>by rw[ao (eK e h)];exact e
def fm{H H1:Hp}{p:Addr}{o:HO}(s:ai H H1)(h:H p=none):ai H (upd H1 p o):=λb u e=>by rw[ao (eK e h)];exact s b u e
def codes(x:Str):LI:=x.cps.toList.map λn=>((n:Nat):Int)
abbrev iv(l:LI):au:=l.map V.int
def Ss(l:LI)(z:Int):iv (l++[z])=iv l++[.int z]:=by
 simp
def eO{A B:Hp->Prop}(h:A H):A4 σ H (λb H3=>if b=true then A H3 else B H3):=by
 unfold A4;simp_all
def take_snoc{α:Type}{l:List α}{i:Nat}{x:α}(h:l[i]? =some x):l.take (i+1)=l.take i++[x]:=by
 rw[List.take_succ,h];rfl
def gV{n:Nat}(h:n<=1000000):n<sizeLine:=pz h (by rw[u9];decide)
inductive BA(vs:au)(H:Hp)(Q:VK)(E':XK):Prop
 |mk (x:Str) (_:vs=[.str x]) (_:x.cps.size<=100000) (_:∀H' p,ϟ (.lst (iv Ş))->Q ĥ H')
section
variable{P:Pg}{w:Wd}{K:FR}{mg:MG}{base:Heap}
def KC:bH ["written","sign"] ["written"] (aV JA):=í
def ae0{f:Addr}{fd:FD}(F:br K "spelled" "spelled" JA f fd)(ae1:mg "ord"=none):Ì aE 1 f fd ["written"] BA:=by
 refine F.ok KC Â;obtain⟨x,rfl,hx,k⟩:=h;refine⟨_,aD (aY (eF (own:=[("sign",1)]) rfl KC.nd (ab7 Û) Ë (λ_ _ _ _ _=>dJ 1 KC.nd) Ø
  (λ_ _ _ _ _=>c8 Z2 Õ ae1 boot_ord Œ))),?_⟩
 refine⟨_,rfl,x,rfl,λD hD=>acZ (λi H'=>ai H H'/\H' D=some (.lst (iv ((codes x).take i)))) ⟨aL hD,aq⟩ (λi c H' hc ⟨s1,hd⟩=>⟨rfl,eO ?_⟩) (λH' ⟨s1,hd⟩=>?_)⟩
 ·have hl:=(Ap.mp hc).1;have jk:Ş[i]? =some (c:Int):=by
   unfold codes;simp_all
  refine⟨_,rfl,_,rfl,rfl,_,hd,?_,fm s1 hD,?_⟩
  ·rw[aA,mT];exact pz (Nat.min_le_left _ _) (gV Æ)
  ·rw[aq,take_snoc jk,Ss];rfl
 ·refine k H' D ⟨s1,hD,?_⟩;rw[hd];have:(codes x).length=x.cps.size:=by unfold codes;rw[aA,wI]
  grind
abbrev eB(H:Hp)(qs:LA)(L:di):Prop:=Paired (λq l=>H q=some ň) qs L
inductive vP(K:FR)(vs:au)(H:Hp)(Q:VK)(E':XK):Prop
 |mk (a:Addr) (m:Int) (ns:LI) (_:vs=[.ref a,.int m]) (_:â a (iv ns)) (_:ns.length<=100000) (_:∀H' p qs,ϟ ď->eB H' qs (JM.aI m ns)->qs.Nodup->p∉qs->(∀q∈qs,H q=none)->Q ĥ H')
def eB.same(h:eB H qs L)(s:ai H H'):eB H' qs L:=Paired.lS h λq l e=>s _ _ e
def eB.len(h:eB H qs L):qs.length=L.length:=Paired.length h
theorem eB.upd(h:eB H qs L)(n:p∉qs):eB (upd H p o) qs L:=by
 induction h with
 |nil=>exact .nil
 |cons r t ih=>exact .cons (by rw[ao (λz=>n (by rw[z];exact gy))];exact r) (ih λz=>n (aO _ z))
theorem eB.mem(h:eB H qs L):∀q∈qs,∃l∈L,H q=some ň:=by
 induction h with
 |nil=>intro q h;cases h
 |cons r t ih=>
  intro q h;rcases ba.mp h with rfl|h
  ·exact⟨_,gy,r⟩
  ·obtain⟨l,hl,e⟩:=ih q h;exact⟨l,aO _ hl,e⟩
theorem eB.snoc(e:H q=some ň)(h:eB H qs L):eB H (qs++[q]) (L++[l]):=by
 induction h with
 |nil=>exact .cons e .nil
 |cons r t ih=>exact .cons r ih
theorem eB.last(h:eB H qs L):L≠[]->∃gD q,qs=gD++[q]/\eB H gD L.dropLast/\H q=some (.lst (iv (L.getLastD []))):=by
 induction h with
 |nil=>exact λh=>absurd rfl h
 |cons r t ih=>
  intro _;cases t with
  |nil=>exact⟨[],_,rfl,.nil,r⟩
  |cons r2 t=>
   obtain⟨gD,q',e,t',r'⟩:=ih Ä;exact⟨_::gD,q',by rw[e];rfl,.cons r t',r'⟩
def KD:bH ["text","mark","parts","byte"] ["text","mark"] (aV JB):=í
theorem EF(m:Int):∀l:LI,(JM.aI m l).length<=l.length+1:=by
 intro l;induction l with
 |nil=>
  simp[JM.aI]
 |cons x r ih=>
  have ih:=ih;unfold JM.aI;split
  ·simp only[c7];omega
  ·split
   ·simp
   ·rename_i w l e;rw[e] at ih;simp only[c7] at ih⊢;omega
theorem xF(m:Int)(l:LI):∀(w:LI),w∈JM.aI m l->w.length<=l.length:=by
 induction l with
 |nil=>
  intro w h;simp[JM.aI] at h;simp[h]
 |cons x r ih=>
  intro w h;have ih:=ih;unfold JM.aI at h;split at h
  ·rcases ba.mp h with rfl|h
   ·simp
   ·have:=ih w h;simp only[c7];omega
  ·cases e:JM.aI m r with
   |nil=>exact absurd e (JM.lJ m r)
   |cons w' l=>
    rw[e] at h ih;rcases ba.mp h with rfl|h
    ·have:=ih w' gy;simp only[c7];omega
    ·have:=ih w (aO _ h);simp only[c7];omega
inductive CtI(a p:Addr)(m:Int)(ns:LI)(H:Hp)(i:Nat)(σ:L2.St)(H':Hp):Prop
 |mk (v:Option V) (qs:LA) (_:σ=[some Ğ,some (.int m),some ĥ,v]) (_:ai H H') (_:H' p=some ď) (_:eB H' qs (JM.aI m Çp)) (_:qs.Nodup) (_:p∉qs) (_:∀q∈qs,H q=none)
def ae3{f:Addr}{fd:FD}(F:br K "cut" "cut" JB f fd):Ì aE 1 f fd ["text","mark"] (vP K):=by
 refine F.ok KD Â;obtain⟨a,m,ns,rfl,hS,hl,k⟩:=h;refine⟨_,aB (cj 2 KD.nd (eE Än))
  (aB (ş Åg (dJ 3 KD.nd)
   (aD (dq (cI ic ø á (bT _))
    (aD (rX (ß è Än)))
    (aD (rX (ß (cA cY è (jh jM bo) Ù) ĳ))))))
  Æw),?_⟩
 refine⟨dY _,λq0 BB=>⟨(by show 1<=sizeLine;decide),λp hp=>?_⟩⟩;have qy:=(aL BB).free hp;have pq:p≠q0:=λz=>by rw[z,aq] at hp;cases hp
 refine⟨_,rfl,a,rfl,⟨_,(fm (aL BB) qy).seq hS⟩,wZ (K:=K) (a:=a) (xs:=iv ns) (CtI a p m ns H)
  ⟨none,[q0],rfl,fm (aL BB) qy,aq,.cons (by rw[ao (dX pq)];exact aq) .nil,by simp,À pq,À BB⟩ (λi σ H' _ h=>(by obtain⟨_,_,_,s1⟩:=h;exact s1.seq hS)) ?_ ?_⟩
 ·rintro i y σ H' hi ⟨v,qs,rfl,s1,h1,h2,h3,h4,h5⟩;obtain⟨z,hz,rfl⟩:∃z,ns[i]? =some z/\y=V.int z:=by
   rw[bW] at hi;cases e:ns[i]? with
   |none=>rw[e] at hi;cases hi
   |some z=>rw[e] at hi;exact⟨z,rfl,(aN hi).symm⟩
  have d8:=(bO.mp hz).1;have et:=take_snoc hz;have ec:=JM.aeE m z Çp;have lq:qs.length<=i+1:=by
   rw[h2.len];refine gQ (EF m _) ?_;rw[mT];omega
  refine⟨_,rfl,_,rfl,rfl,_,rfl,a8 Ï Ï⟩
  ·simp at hc;refine⟨_,rfl,.inl ⟨rfl,_,aa.of h1⟩,dY _,λq hq=>⟨p,_,_,rfl,rfl,(by rw[ao (eK h1 hq)];exact h1),(by rw[aA];exact gV Æ),?_⟩⟩;have EG:=s1.free hq;have Su:q∉qs:=λhm=>by
    obtain⟨l,_,r⟩:=eB.mem h2 q hm;rw[r] at hq;cases hq
   refine⟨_,qs++[q],rfl,fm (fm s1 EG) qy,?_,?_,?_,?_,?_⟩
   ·rw[aq,bX];rfl
   ·rw[et,ec];unfold JM.vM;rw[af hc];exact eB.upd (eB.snoc (l:=[]) aq (eB.upd h2 Su)) (λz=>by
     rcases gR.mp z with z|z
     ·exact h4 z
     ·exact eK h1 hq (À z))
   ·exact IH h3 Su
   ·intro z;rcases gR.mp z with z|z
    ·exact h4 z
    ·exact eK h1 hq (À z)
   ·intro q' z;rcases gR.mp z with z|z
    ·exact h5 q' z
    ·rw[show q'=q by simpa using z];exact EG
  ·simp at hc;obtain⟨gD,q,rfl,t',r'⟩:=eB.last h2 (JM.lJ m _);have nqs:=λz=>by
    have:=(O0.mp h3).2.2 q z q Ä;exact this rfl
   refine⟨_,rfl,_,rfl,p,_,_,V.ref q,rfl,rfl,aa.of h1,?_,.inl ⟨rfl,_,aa.of r'⟩,_,rfl,q,_,_,rfl,rfl,r',?_,?_⟩
   ·rw[bX];exact vw _ _
   ·rw[aA];have:((JM.aI m Çp).getLastD []).length<=(ns.take i).length:=by
     refine xF m _ _ ?_;rw[List.getLastD_eq_getLast?];cases e:(JM.aI m Çp).getLast? with
     |none=>exact absurd (apv.mp e) (JM.lJ m _)
     |some l=>exact Di e
    rw[mT] at this;exact gV Æ
   ·have np:p≠q:=λz=>h4 (by rw[z];simp);refine⟨_,gD++[q],rfl,fm s1 (h5 q Ä),by rw[ao np];exact h1,?_,h3,h4,h5⟩;rw[et,ec];unfold JM.vM;rw[ah hc];refine eB.snoc ?_ (eB.upd t' nqs);rw[aq];exact cE (λz=>some (HO.lst z)) (Ss _ _).symm
 ·rintro σ H' ⟨v,qs,rfl,s1,h1,h2,h3,h4,h5⟩;rw[aA,mX] at h2;exact⟨_,rfl,k H' p qs ⟨s1,qy,h1⟩ h2 h3 h4 h5⟩
end
def oI:Option Nat->V
 |some i=>.int (i:Nat)
 |none=>.aJ
def bw(ph:di)(part:LI):Option Nat:=ph.findIdx? λw=>decide (w=part)
inductive EH(K:FR)(vs:au)(H:Hp)(Q:VK)(E':XK):Prop
 |mk (aw ap:Addr) (ph:LS) (part:LI) (_:vs=[.ref aw,.ref ap]) (_:Ť aw (ph.map V.str)) (_:(∀x∈ph,x.cps.size<=100000)) (_:â ap Ây) (_:∀H',ai H H'->Q (oI (bw (ph.map codes) part)) H')
def find_none{α:Type}{p:α->Bool}{l:List α}(h:∀x∈l,p x=false):l.findIdx? p=none:=by
 simp_all
theorem ae5{α:Type}{p:α->Bool}{l:List α}:∀{i:Nat}{x:α},l[i]? =some x->(∀y∈l.take i,p y=false)->p x=true->l.findIdx? p=some i:=by
 induction l with
 |nil=>intro i x h _ _;simp at h
 |cons a l ih=>
  intro i x h hn hp;rw[Yh];cases i with
  |zero=>
   have e:=aN h;subst e;rw[hp];rfl
  |succ i=>
   rw[hn a Ä,ih (i:=i) (x:=x) h (λy hy=>hn y (by rw[O4];exact aO _ hy)) hp];rfl
def ai.tup{K:FR}{H H':Hp}{a:Addr}{xs:au}(e:ai H H')(h:Ť a xs):bu K H' a xs:=by
 rcases h with (h|⟨o,h⟩)|h
 ·exact .inl (.inl (e _ _ h))
 ·exact .inl (.inr ⟨o,e _ _ h⟩)
 ·exact .inr h
section
variable{P:Pg}{w:Wd}{K:FR}{mg:MG}{base:Heap}
def Sv:bH ["words","part","place","word"] ["words","part"] (aV JD):=í
def ae6{f fS:Addr}{fd xG:FD}(F:br K "place_among" "place_among" JD f fd)(tE:mg "enumerate"=none)(GS:Ì aE 1 fS xG ["written"] BA)(mS:mg "spelled"=some (.ref fS))(kS:PySem.W.keepIn K (.ref fS)=true)(bS:Binds K xG ["written"] []):
  a7 P w K mg base aE 2 f fd ["words","part"] (EH K):=by
 refine F.ok Sv Â;obtain⟨aw,ap,ph,part,rfl,hW,hw,hP,k⟩:=h;refine⟨_,aB (ş (Ru Õ tE ó) (iE 2 3 Sv.nd)
   (aD (dq (cI (ac9 hr.units) (lY GS hr rfl mS kS bS .nil so ĳ) á (bT _)) Æw d7)))
  ŷ,?_⟩
 refine⟨_,rfl,aw,_,rfl,hW,Rv (K:=K) (a:=aw) (xs:=ph.map V.str) (λi σ H'=>∃v2 v3:Option V,σ=[some (.ref aw),some Èr,v2,v3]/\ai H H'/\∀y∈(ph.map codes).take i,decide (y=part)=false)
  ⟨none,none,rfl,ai.refl H,by simp⟩ (λi σ H' _ ⟨_,_,_,s1,_⟩=>ai.tup s1 hW) ?_ ?_⟩
 ·rintro i y T σ H' hi ⟨v2,v3,rfl,s1,hn⟩ hT;obtain⟨x,hx,rfl⟩:∃x,ph[i]? =some x/\y=V.str x:=by
   grind
  have s2:=fm (o:=.tup [.int (i:Nat),.str x]) s1 (s1.free hT);refine⟨T,_,rfl,bu.of aq,rfl,_,_,rfl,_,_,rfl,rfl,_,rfl,x,rfl,hw x (bZ hx),λH2 p hN=>?_⟩;have s3:=s2.trans hN.1;have jk:(ph.map codes)[i]? =some Ş:=by rw[bW,hx];rfl
  refine⟨_,rfl,p,ap,codes x,part,rfl,rfl,aa.of hN.2.2,s3.seq hP,_,rfl,a8 Ï Ï⟩
  ·refine đ;have e:=ae5 jk hn hc;have q:=k H2 s3;unfold bw at q;rw[e] at q;exact q
  ·refine⟨_,_,rfl,s3,λy hy=>?_⟩;rw[take_snoc jk] at hy;grind
 ·rintro σ H' ⟨v2,v3,rfl,s1,hn⟩;have q:=k H' s1;rw[aA] at hn;unfold bw at q;rw[find_none (λy hy=>hn y (by rw[<-aA (f:=codes),mX];exact hy))] at q;exact q
def jB(signs part:LI):Option LI:=if part.all (λb=>signs.contains b)=true then some (part.map λb=>((signs.idxOf b:Nat):Int)) else none
inductive EI(K:FR)(vs:au)(H:Hp)(Q:VK)(E':XK):Prop
 |mk (x:Str) (ap:Addr) (part:LI) (_:vs=[.str x,.ref ap]) (_:x.cps.size<=100000) (_:â ap Ây) (_:part.length<=100000) (_:(jB Ş part=none->∀H',ai H H'->Q .aJ H')) (_:∀l,jB Ş part=some l->∀H' p,ϟ ň->Q ĥ H')
theorem KF(b:Int):∀l:LI,vx (.int b) (iv l)=l.contains b:=by
 intro l;induction l with
 |nil=>exact rfl
 |cons x l ih=>
  have ih:=ih;unfold vx iv at ih⊢;rw[a0,tY,ih,Am];congr 1;show(x==b)=(b==x);by_cases h:x=b
  ·subst h;rfl
  ·have h2:¬b=x:=λz=>h z.symm;rw[wK.mpr h,wK.mpr h2]
theorem BC:∀l:LI,(iv l).all lG=true:=by
 intro l;induction l with
 |nil=>exact rfl
 |cons x l ih=>
  show(lG (.int x)&&(iv l).all lG)=true;rw[ih];rfl
theorem sy{l:LI}{i:Nat}{y:V}(h:(iv l)[i]? =some y):∃z,l[i]? =some z/\y=V.int z:=by
 unfold iv at h;rw[bW] at h;cases e:l[i]? with
 |none=>rw[e] at h;cases h
 |some z=>rw[e] at h;exact⟨z,rfl,(aN h).symm⟩
def ae7(l:List Bool)(b:Bool):(l++[b]).map V.bl=l.map V.bl++[.bl b]:=by
 simp
def Sw{l:LI}{b:Int}(h:l.contains b=true):∃j z,l.idxOf b=j/\(iv l)[j]? =some z/\pJ z (.int b)=true/\∀(m:Nat)(z':V),m<j->(iv l)[m]? =some z'->pJ z' (.int b)=false:=by
 have hm:b∈l:=À h
 have bQ:l.idxOf b<l.length:=List.idxOf_lt_length_of_mem hm;refine⟨_,.int b,rfl,?_,?_,λm z' hm' hz=>?_⟩
 ·unfold iv;rw[bW,dm bQ,List.getElem_idxOf];rfl
 ·show(b==b)=true;exact Yg b
 ·obtain⟨z,hz2,rfl⟩:=sy hz;show(z==b)=false;have:=List.not_of_lt_findIdx (p:=(· ==b)) (xs:=l) (i:=m) hm';obtain⟨hl,e⟩:=bO.mp hz2;rw[e] at this;simpa using this
def zh:bH ["signs","part","known","byte"] ["signs","part"] (aV JE):=í
def afa{f fS:Addr}{fd xG:FD}(F:br K "places_in" "places_in" JE f fd)(tA:mg "all"=none)(GS:Ì aE 1 fS xG ["written"] BA)(mS:mg "spelled"=some (.ref fS))(kS:PySem.W.keepIn K (.ref fS)=true)(bS:Binds K xG ["written"] []):
  a7 P w K mg base aE 2 f fd ["signs","part"] (EI K):=by
 refine F.ok zh Â;obtain⟨x,ap,part,rfl,hx,hP,hl,k0,k1⟩:=h;refine⟨_,aB (cj 2 zh.nd (lY GS hr rfl mS kS bS .nil so ó))
  (aB (dq (pG (jx (c8 Äs Õ tA yt (ae (eF (own:=[("byte",3)]) (te:=bU (DN K false) Ŗ ŗ) rfl zh.nd Æp Ë (λ_ _ _ _ _=>dJ 3 zh.nd) Ø
     (λ_ _ _ _ _=>jy Ig ø è (by with_unfolding_all rfl))) ag)))) ŷ d7)
  (aD (aY (eF (own:=[("byte",3)]) (te:=Qo K "list" (Qx K) ŗ Âs) rfl zh.nd Æp Ë (λ_ _ _ _ _=>dJ 3 zh.nd) Ø
     (λ_ _ _ _ _=>sf PySem.F.plainAttrs_list PySem.F.slot_list_index PySem.F.type_list_index Qz è ĳ))))),?_⟩
 refine⟨_,rfl,x,rfl,hx,λH1 pk hN=>?_⟩;have s1:=hN.1;refine⟨_,rfl,ap,rfl,⟨_,s1.seq hP⟩,λD hD=>gC (K:=K) (a:=ap) (xs:=iv part) (λi H'=>ai H1 H'/\H' D=some (.lst (((part.take i).map λb=>(codes x).contains b).map V.bl))) ⟨aL hD,aq⟩
  (λi H' _ ⟨s2,_⟩=>(s1.trans s2).seq hP) (λi y H' hi ⟨s2,hd⟩=>?_) (λH' ⟨s2,hd⟩=>?_)⟩
 ·obtain⟨z,hz,rfl⟩:=sy hi;have d8:=(bO.mp hz).1;refine⟨rfl,eO ⟨_,rfl,_,rfl,pk,_,rfl,.inl (aa.of (s2 _ _ hN.2.2)),rfl,BC _,_,hd,?_,fm s2 hD,?_⟩⟩
  ·rw[aA,aA,mT];exact gV Æ
  ·rw[aq,take_snoc hz,bX];show some (HO.lst (_++[V.bl (vx (.int z) (iv Ş))]))=some (HO.lst ((_++[_]).map V.bl));rw[ae7,KF]
 ·rw[show(iv part).length=part.length by simp,mX] at hd;refine⟨D,_,rfl,aa.of hd,_,rfl,?_⟩;have ea:(part.map λb=>(codes x).contains b).all id=part.all λb=>(codes x).contains b:=by
   simp
  rw[ea];refine a8 Ï Ï
  ·simp at hc;refine k0 ?_ H' Ày;unfold jB;simp_all
  ·have hc:part.all (λb=>(codes x).contains b)=true:=by simpa using hc
   have e1:jB Ş part=some (part.map λb=>(((codes x).idxOf b:Nat):Int)):=by
    unfold jB;simp_all
   refine⟨_,rfl,ap,rfl,⟨_,(s1.trans s2).seq hP⟩,λD2 cJ=>gC (K:=K) (a:=ap) (xs:=iv part) (λi oC=>ai H' oC/\oC D2=some (.lst (iv ((part.take i).map λb=>(((codes x).idxOf b:Nat):Int))))) ⟨aL cJ,aq⟩
    (λi oC _ ⟨s3,_⟩=>((s1.trans s2).trans s3).seq hP) (λi y oC hi ⟨s3,pX⟩=>?_) (λoC ⟨s3,pX⟩=>?_)⟩
   ·obtain⟨z,hz,rfl⟩:=sy hi;have d8:=(bO.mp hz).1;obtain⟨j,zz,ej,hj,KG,BD⟩:=Sw (lx.mp hc z (bZ hz));have hk:=(Į) _ _ hN.2.2;refine⟨rfl,eO ⟨_,rfl,.inl ⟨rfl,_,aa.of hk⟩,_,rfl,pk,_,_,j,zz,rfl,rfl,aa.of hk,rfl,BC _,hj,KG,BD,_,pX,?_,fm s3 cJ,?_⟩⟩
    ·unfold iv;rw[aA,aA,mT];exact gV Æ
    ·rw[aq,take_snoc hz,bX,<-ej];simp
   ·rw[show(iv part).length=part.length by simp,mX] at pX;exact k1 _ e1 oC D2 ⟨(s1.trans s2).trans s3,(s1.trans s2).free cJ,pX⟩
def ij(part:LI):Option LI:=if part.length=16 then jB JM.k7 part else none
inductive KH(K:FR)(vs:au)(H:Hp)(Q:VK)(E':XK):Prop
 |mk (ap:Addr) (part:LI) (_:vs=[.ref ap]) (_:â ap Ây) (_:part.length<=100000) (_:(ij part=none->∀H',ai H H'->Q .aJ H')) (_:∀l,ij part=some l->∀H' p,ϟ ň->Q ĥ H')
def afb:bH ["part"] ["part"] (aV JF):=í
def eZ(l:LI):(iv l).length=l.length:=by unfold iv;rw[aA]
def afc(F:br K "read_colours" "read_colours" JF f fd)(tL:mg "len"=none)(mC:mg "COLOUR_SIGNS"=some uC)(rC:RelV (.str "0123456789abcdef") uC)(GP:Ì aE 2 fP KI ["signs","part"] (EI K)) (mP:mg "places_in"=some (.ref fP)) (kP:PySem.W.keepIn K (.ref fP)=true) (bP:Binds K KI ["signs","part"] []):
  a7 P w K mg base aE 3 f fd ["part"] (KH K):=by
 refine F.ok afb Â;obtain⟨ap,part,rfl,hP,hl,k0,k1⟩:=h;refine⟨_,aB (dq (cI vq Ć bo (bT _)) ŷ d7)
  (aD (aY (lY GP hr rfl mP kP bP .nil so (ae (vk Õ mC rC) ó)))),?_⟩
 refine⟨_,rfl,ap,_,rfl,.inl hP,rfl,_,rfl,a8 Ï Ï⟩
 ·have hc:¬part.length=16:=by
   grind
  refine k0 ?_ H Ŷ;unfold ij;simp_all
 ·have hc:part.length=16:=by
   grind
  have e:ij part=jB (codes "0123456789abcdef") part:=by
   unfold ij;rw[af hc];rfl
  exact⟨_,rfl,_,ap,part,rfl,by decide,hP,hl,λz H' s1=>k0 Çt H' s1,λl z H' p hN=>k1 l Çt H' p hN⟩
end
def Dn(P:Pg)(w:Wd)(K:FR)(mg:MG)(base:Heap)(CX:nh)(k:Nat)(x:Str)(ps:LS)(sp:Sp):Prop:=
 ∃f fd,Ì CX k f fd ps sp/\mg x=some Ă/\PySem.W.keepIn K Ă=true/\L2.Binds K fd ps []
def Cn(mg:MG)(x:Str)(v:V):Prop:=∃u,mg x=some u/\RelV v u
def Tn(K:FR)(mg:MG)(x:Str)(xs:au):Prop:=∃a,mg x=some Ğ/\∀H,Ť a xs
def LstAt(H H':Hp):Option LI->V->Prop
 |none,v=>v=.aJ
 |some l,v=>∃c,v=.ref c/\H c=none/\H' c=some ň
section
variable{X:Cx}
def bz{CX:nh}{k m:Nat}{x:Str}{ps:LS}{sp:Sp}{e:Expr}{es:List Expr}{t:TA}{p pos:Pos}{E:XK}(d:Dn X.prog X.w X.K X.mg X.base CX k x ps sp)(ha:PA X (e::es) t)(hr:dv m X.A:=by assumption)(hx:uf CX X E:=by exact so)(hk:k<=m:=by decide)(hg:Gl X x:=by rfl)(iY:(x==("__debug__":Str))=false:=by decide)(he:starEach (e::es) X.env=(false,eval e X.env)::starEach es X.env:=by rfl)(c9:(backTo pos õ).any (·.1)=false:=by rfl):PE X (.Call ż (e::es) [] pos) (g9 sp [] E t):=
 let ⟨_,_,g,a,b,c⟩:=d
 lY g (hr.mono hk) hg a b c .nil hx ha iY he c9
def b9{x:Str}{v:V}{pos:Pos}(c:Cn X.mg x v)(hg:Gl X x:=by rfl)(hd:(x==("__debug__":Str))=false:=by decide):PE X ϳ (tC v):=let ⟨_,m,r⟩:=c;vk hg m r hd
end
structure eG where
 a:Addr
 dx:Addr
 l:Addr
 shape:Nat
 cells:LI
structure ck where
 a:Addr
 dx:Addr
 l:Addr
 above:Bool
 below:Bool
 flags:List eG
structure eP where
 a:Addr
 dx:Addr
 cl:Addr
 gl:Addr
 side:Nat
 classes:LI
 ak:List ck
structure Cs where
 S:Addr
 G:Addr
 P:Addr
abbrev Nd:=Addr×HO
def vQ(s:eG):List (Str×V):=[("shape",.int (s.shape:Nat)),("cells",.ref s.l)]
def pY(g:ck):List (Str×V):=[("above",.bl g.above),("below",.bl g.below),("flags",.ref g.l)]
def l9(p:eP):List (Str×V):=[("side",.int (p.side:Nat)),("classes",.ref p.cl),("glimpses",.ref p.gl)]
def ik(C:Cs)(s:eG):List Nd:=[(s.a,.ins C.S s.dx (vQ s)),(s.l,.lst (iv s.cells))]
def gq(C:Cs)(g:ck):List Nd:=(g.a,.ins C.G g.dx (pY g))::(g.l,.lst (g.flags.map λs=>V.ref s.a))::g.flags.flatMap (ik C)
def eI(C:Cs)(p:eP):List Nd:=(p.a,.ins C.P p.dx (l9 p))::(p.cl,.lst Ŏ)::(p.gl,.lst (p.ak.map λg=>V.ref g.a))::p.ak.flatMap Åo
def Lies(H:Hp)(ns:List Nd):Prop:=∀x∈ns,H x.1=some x.2
def Lies.same{H H':Hp}{ns:List Nd}(h:Lies H ns)(s:ai H H'):Lies H' ns:=λx hx=>s _ _ (h x hx)
structure iG where
 above:Bool
 below:Bool
 flags:List (Nat×LI)
structure fX where
 side:Nat
 classes:LI
 ak:List iG
def eG.m(s:eG):Nat×LI:=(s.shape,s.cells)
def ck.m(g:ck):iG:=⟨g.above,g.below,g.flags.map eG.m⟩
def eP.m(p:eP):fX:=⟨p.side,p.classes,p.ak.map ck.m⟩
section
variable{C:Cs}{H:Hp}{p:eP}
def Lies.pl(h:Lies H Ág):H p.a=some (.ins C.P p.dx (l9 p)):=h (p.a,_) (by unfold eI;simp)
def Lies.cl(h:Lies H Ág):H p.cl=some (.lst Ŏ):=h (p.cl,_) (by unfold eI;simp)
def Lies.gl(h:Lies H Ág):H p.gl=some (.lst (p.ak.map λg=>V.ref g.a)):=h (p.gl,_) (by unfold eI;simp)
def Lies.sub(h:Lies H Ág){g:ck}(hg:g∈p.ak):Lies H Æo:=λx hx=>h x (by
 unfold eI;exact aO _ (aO _ (aO _ (kC.mpr ⟨g,hg,hx⟩))))
def Lies.ga{g:ck}(h:Lies H Æo):H g.a=some (.ins C.G g.dx (pY g)):=h (g.a,_) (by unfold gq;simp)
def Lies.fl{g:ck}(h:Lies H Æo):H g.l=some (.lst (g.flags.map λs=>V.ref s.a)):=h (g.l,_) (by unfold gq;simp)
def Lies.zi{g:ck}(h:Lies H Æo){s:eG}(hs:s∈g.flags):Lies H (ik C s):=λx hx=>h x (by
 unfold gq;exact aO _ (aO _ (kC.mpr ⟨s,hs,hx⟩)))
def Lies.sa{s:eG}(h:Lies H (ik C s)):H s.a=some (.ins C.S s.dx (vQ s)):=h (s.a,_) (by unfold ik;simp)
def Lies.sl{s:eG}(h:Lies H (ik C s)):H s.l=some (.lst (iv s.cells)):=h (s.l,_) (by unfold ik;simp)
end
def il{f:Str}{v:V}{r:List (Str×V)}:((f,v)::r).lookup f=some v:=by
 rw[va,Yg]
def fY{f g:Str}{v:V}{r:List (Str×V)}(h:(f==g)=false):((g,v)::r).lookup f=r.lookup f:=by
 rw[va,h]
def Sx(p:eP):(l9 p).lookup ("side":Str)=some (.int (p.side:Nat)):=il
def KJ(p:eP):(l9 p).lookup ("classes":Str)=some (.ref p.cl):=(fY Ê).trans il
def nD(p:eP):(l9 p).lookup ("glimpses":Str)=some (.ref p.gl):=(fY Ê).trans ((fY Ê).trans il)
def Sy(g:ck):(pY g).lookup ("above":Str)=some (.bl g.above):=il
def Sz(g:ck):(pY g).lookup ("below":Str)=some (.bl g.below):=(fY Ê).trans il
def vR(g:ck):(pY g).lookup ("flags":Str)=some (.ref g.l):=(fY Ê).trans ((fY Ê).trans il)
def KL(s:eG):(vQ s).lookup ("shape":Str)=some (.int (s.shape:Nat)):=il
def EJ(s:eG):(vQ s).lookup ("cells":Str)=some (.ref s.l):=(fY Ê).trans il
structure ma(K:FR)(C:Cs):Prop where
 cS:kO K C.S
 cG:kO K C.G
 cP:kO K C.P
 zj:gB K C.S "shape"
 EK:gB K C.S "cells"
 SA:gB K C.G "above"
 SB:gB K C.G "below"
 vS:gB K C.G "flags"
 KM:gB K C.P "side"
 EL:gB K C.P "classes"
 nE:gB K C.P "glimpses"
theorem pZ{α:Type}(l:List α):l=[]\/∃r x,l=r++[x]:=by
 cases e:l.getLast? with
 |none=>exact .inl (apv.mp e)
 |some x=>
  right;obtain⟨r,hr⟩:=List.getLast?_eq_some_iff.mp e;exact⟨r,x,hr⟩
inductive EM(C:Addr)(ns:LS)(vs:au)(H:Hp)(Q:VK)(E':XK):Prop
 |mk (x dx:Addr) (as:au) (_:vs=.ref x::as) (_:as.length=ns.length) (_:H x=some Âg) (_:∀H',H' x=some (.ins C dx (ns.zip as))->(∀b o,H b=some o->b≠x->H' b=some o)->Q .aJ H')
def nF(P:Pg)(w:Wd)(K:FR)(mg:MG)(base:Heap)(x:Str)(C:Addr)(ns:LS):Prop:=
 ∃f fd,Mk K C f/\Ì aE 1 f fd ("self"::ns) (EM C ns)/\mg x=some ā/\L2.Binds K fd ("self"::ns) []
def afd{f g:Str}{v x:V}{r:List (Str×V)}(h:¬g=f):ie f v ((g,x)::r)=(g,x)::ie f v r:=by
 show(if g=f then (g,v)::r else (g,x)::ie f v r)=_;rw[ah h]
section
variable{P:Pg}{w:Wd}{K:FR}{mg:MG}{base:Heap}{C:Cs}
end
def ite_yes{c A B:Prop}[Decidable c](hc:c)(h:A):if decide c=true then A else B:=by
 rw[af (eJ hc)];exact h
def ite_no{c A B:Prop}[Decidable c](hc:¬c)(h:B):if decide c=true then A else B:=by
 rw[ah (À hc)];exact h
section
variable{X:Cx}
def p7{m:Nat}{x:Str}{C:Addr}{ns:LS}{e:Expr}{es:List Expr}{t:TA}{p pos:Pos}(d:nF X.prog X.w X.K X.mg X.base x C ns)(hr:dv m X.A)(ha:PA X (e::es) t)(hk:2<=m:=by decide)(hg:Gl X x:=by rfl)(iY:(x==("__debug__":Str))=false:=by decide)(he:starEach (e::es) X.env=(false,eval e X.env)::starEach es X.env:=by rfl)(c9:(backTo pos õ).any (·.1)=false:=by rfl):PE X (.Call ż (e::es) [] pos) (P1 C (EM C ns) [] E0 t):=
 let ⟨_,_,M,g,a,c⟩:=d
 aal M g (hr.mono hk) hg a c .nil so ha iY he c9
end
end HD
end
section
namespace HD
open PySem PySem.Spec PyProof.Rows L2
theorem afe{f:Str}{v:V}{fs:List (Str×V)}:(∀x∈fs.map (·.1),¬x=f)->ie f v fs=fs++[(f,v)]:=by
 induction fs with
 |nil=>exact @λ_=>rfl
 |cons hd0 r ih=>
  obtain⟨g,x⟩:=hd0;intro h;rw[afd (h g Ä),ih λy hy=>h y (aO _ hy)];rfl
def EN(K:FR):Nat->LS->TS
 |_,[]=>Py
 |k,[n]=>DK K ό (ay k) n
 |k,n::ns=>HJ (DK K ό (ay k) n) (EN K (k+1) ns)
theorem SC{K:FR}{C x dx:Addr}(c:kO K C){σ:L2.St}(h0:σ[0]? =some (some (V.ref x))){D:Ends}:∀(ns:LS)(as:au)(done:List (Str×V))(k:Nat)(H:Hp),as.length=ns.length->(∀(i:Nat)a,as[i]? =some a->σ[k+i]? =some (some a))->H x=some (.ins C dx done)->done.length+ns.length<=1000->
  (∀n∈ns,n∉done.map (·.1))->ns.Nodup->(∀n∈ns,Ϧ n)->(∀H',H' x=some (.ins C dx (done++ns.zip as))->(∀b o,H b=some o->b≠x->H' b=some o)->D.nx σ H')->EN K k ns D σ H
 |[],as,done,k,H,hl,ha,hx,hs,hf,hd,hn,q=>by
  obtain rfl:as=[]:=À hl
  exact q H (À hx) λb o e _=>e
 |n::ns,a::as,done,k,H,hl,ha,hx,hs,hf,hd,hn,q=>by
  rw[c7] at hs;obtain⟨fw,fO⟩:=j9.mp hd;have e1:ie n a done=done++[(n,a)]:=afe λy hy e=>hf n Ä (by rw[<-e];exact hy);have step:∀D':Ends,D'.nx σ (Áe (.ins C dx (done++[(n,a)])))->DK K ό (ay k) n D' σ H:=λD' h=>by
   refine⟨a,ha 0 a rfl,_,h0,x,C,dx,done,rfl,hx,c,hn n Ä,by omega,?_⟩;rw[e1];exact h
  have bI:∀H',H' x=some (.ins C dx ((done++[(n,a)])++ns.zip as))->(∀b o,Áe (.ins C dx (done++[(n,a)])) b=some o->b≠x->H' b=some o)->D.nx σ H':=λH' h1 h2=>by
   refine q H' (by rw[h1,rO];rfl) λb o e hb=>h2 b o ?_ hb;rw[ao hb];exact e
  cases ns with
  |nil=>
   obtain rfl:as=[]:=À hl
   exact step D (bI _ (by rw[aq];simp) λb o e _=>e)
  |cons m ms=>
   refine step _ (SC c h0 (m::ms) as (done++[(n,a)]) (k+1) _ (À hl) (λi b e=>?_) aq (by simp at hs⊢;omega) (λy hy hm=>?_) fO (λy hy=>hn y (aO _ hy)) bI)
   ·rw[show k+1+i=k+(i+1) by omega];exact ha (i+1) b e
   ·rw[bX] at hm;rcases gR.mp hm with hm|hm
    ·exact hf y (aO _ hy) hm
    ·obtain rfl:y=n:=by simpa using hm
     exact fw hy
def aff{P:Pg}{w:Wd}{K:FR}{mg:MG}{base:Heap}{C:Addr}{ns:LS}{qn:Str}{st:Stmt}{f:Addr}{fd:FD}(F:br K "__init__" qn st f fd)(c:kO K C)(n:∀n∈ns,Ϧ n)(S:bH ("self"::ns) ("self"::ns) Ϯ)(hs:ns.length<=1000)(d:∀aG A outer s H E,kI (ύ ("self"::ns) qn Ϯ f aG A outer s H E).vm Åf (EN K 1 ns)):Ì aE 1 f fd ("self"::ns) (EM C ns):=by
 refine F.ok S (len:=λvs H Q E h=>(by obtain⟨x,dx,as,rfl,hl,_⟩:=h;exact cE (· +1) hl)) Â;obtain⟨x,dx,as,rfl,hl,h1,k⟩:=h;refine⟨_,d aG A outer s H E,SC c (by unfold L2.start;rfl) ns as [] 1 H hl (λi a e=>?_) h1 (À hs) Ä (j9.mp S.nd).2 n λH' h2 h3=>k H' h2 h3⟩;unfold L2.start;have hi:=(bO.mp e).1;rw[G1 (by simp;omega),bW,show 1+i=i+1 by omega,apj,e];rfl
end HD
end
section
namespace HD
open PySem PySem.Spec PyProof.Rows L2
open PySem.W (Codec)
def jQ(line:LI):Option LI:=if line.length=4 then jB JM.pU line else none
inductive SD(K:FR)(vs:au)(H:Hp)(Q:VK)(E':XK):Prop
 |mk (ap:Addr) (line:LI) (_:vs=[.ref ap]) (_:â ap Åu) (_:line.length<=100000) (_:∀H' v,ai H H'->LstAt H H' (jQ line) v->Q v H')
section
variable{P:Pg}{w:Wd}{K:FR}{mg:MG}{base:Heap}
def afg:bH ["line"] ["line"] (aV JV):=cw
def afh(F:br K "read_row" "read_row" JV f fd)(tL:mg "len"=none)(cR:Cn mg "ROW" (.int 4))(cS:Cn mg "SEEN_SIGNS" (.str "0123456789abcdef?"))(dP:Ç 2 "places_in" ["signs","part"] (EI K)):Ì aE 3 f fd ["line"] (SD K):=by
 refine F.ok afg Â;obtain⟨ap,part,rfl,hP,hl,k⟩:=h;refine⟨_,aB (dq (cI vq Ć (b9 cR) (bT _)) ŷ d7)
  (aD (aY (bz (hr:=hr) dP (ae Æv ó)))),?_⟩
 refine⟨_,rfl,ap,_,rfl,.inl hP,rfl,_,rfl,a8 Ï Ï⟩
 ·have hc:¬part.length=4:=by
   grind
  refine k H .aJ Ŷ ?_;unfold jQ;rw[ah hc];rfl
 ·have hc:part.length=4:=by
   grind
  have e:jQ part=jB (codes "0123456789abcdef?") part:=by
   unfold jQ;rw[af hc];rfl
  exact⟨_,rfl,_,ap,part,rfl,by decide,hP,hl,λz H' s1=>k H' _ s1 (by rw[e,z];rfl),λl z H' p hN=>k H' _ hN.1 (by rw[e,z];exact⟨p,rfl,hN.2.1,hN.2.2⟩)⟩
def dQ(line:LI):Option (Nat×LI):=match JM.aI 32 line with
 |[a,b,c]=>if a=JM.jA then (match bw JM.uz b,ij c with
  |some s,some l=>some (s,l)
  |_,_=>none) else none
 |_=>none
def zk(H H':Hp):Option (Nat×LI)->V->Prop
 |none,v=>v=.aJ
 |some (s,l),v=>∃t c,v=.ref t/\H t=none/\H c=none/\H' t=some (.tup [.int (s:Nat),.ref c])/\H' c=some ň
inductive SE(K:FR)(vs:au)(H:Hp)(Q:VK)(E':XK):Prop
 |mk (ap:Addr) (line:LI) (_:vs=[.ref ap]) (_:â ap Åu) (_:line.length<=100000) (_:∀H' v,ai H H'->zk H H' (dQ line) v->Q v H')
def EO:bH ["line","words","side","classes"] ["line"] (aV JU):=cw
def xH:LS:=["front","behind","unknown"]
def afi(F:br K "read_side" "read_side" JU f fd)(tL:mg "len"=none)(cB:Cn mg "BLANK" Åx)(cS:Tn K mg "SIDES" (xH.map V.str))(dC:Ç 1 "cut" ["text","mark"] (vP K)) (dS:Ç 1 "spelled" ["written"] BA) (dA:Ç 2 "place_among" ["words","part"] (EH K)) (dR:Ç 3 "read_colours" ["part"] (KH K)):
  a7 P w K mg base aE 4 f fd ["line"] (SE K):=by
 obtain⟨aS,mS,hS⟩:=cS;refine F.ok EO Â;obtain⟨ap,line,rfl,hP,hl,k⟩:=h;have uA:dv 1 _:=hr.mono Ú;have sA:dv 2 _:=hr.mono Ú;refine⟨_,aB (cj 1 EO.nd (bz (hr:=uA) dC (ae Û ϭ)))
  (aB (dq (PW.pt (pw_or (cI vq ý bo (bT _))
    (pw_or1 (cI (RB hr.units) (cA cY á bo Ù) (bz (hr:=uA) dS (ae Dx ag)) (bT _))))) ŷ d7)
  (aB (cj 2 EO.nd (bz (hr:=sA) dA (ae (vk (v:=.ref aS) Õ mS rfl) œ)))
  (aB (cj 3 EO.nd (bz (hr:=hr) dR œ))
  (aB (dq (PW.pt (pw_or Æj (pw_or1 (ot (qD ø))))) ŷ d7)
  (aD (aY (ue (ae è ĳ)))))))),?_⟩
 refine⟨_,rfl,ap,32,line,rfl,hP,hl,λH1 p qs hN hp nd np hf=>?_⟩;have cK:((qs.map V.ref).length:Int)=((JM.aI 32 line).length:Nat):=by rw[aA,hp.len]
 have s1:=hN.1;refine⟨_,rfl,p,_,rfl,.inl (aa.of hN.2.2),rfl,_,rfl,a8 Ï Ï⟩
 ·refine k H1 .aJ s1 ?_;have:dQ line=none:=by
   unfold dQ;grind
  rw[this];rfl
 ·have h3:(JM.aI 32 line).length=3:=by
   grind
  obtain⟨a,b,c,e3⟩:∃a b c,JM.aI 32 line=[a,b,c]:=by
   match JM.aI 32 line,h3 with
   |[a,b,c],_=>exact⟨a,b,c,rfl⟩
  rw[e3] at hp;have KN:∀w∈[a,b,c],w.length<=100000:=λw hw=>gQ (xF 32 line w É) hl;obtain⟨qa,qb,qc,rfl⟩:∃x y z,qs=[x,y,z]:=by
   have:=hp.len
   match qs,this with
   |[x,y,z],_=>exact⟨x,y,z,rfl⟩
  cases hp with
  |cons ha hp=>
   cases hp with
   |cons hb hp=>
    cases hp with
    |cons jg hp=>
     refine⟨_,rfl,p,_,0,V.ref qa,rfl,rfl,aa.of hN.2.2,rfl,"seen",rfl,by decide,λH2 p2 md=>?_⟩;have s2:=s1.trans md.1;refine⟨qa,p2,a,codes "seen",rfl,rfl,aa.of (md.1 _ _ ha),aa.of md.2.2,_,rfl,a8 Ě Ě⟩
     ·refine k H2 .aJ s2 ?_;have:dQ line=none:=by
       unfold dQ;rw[e3];show(if a=JM.jA then _ else none)=none;simp at hd;rw[ah (λz=>hd (z.trans rfl))]
      rw[this];rfl
     ·simp at hd;refine⟨_,rfl,p,_,1,V.ref qb,rfl,rfl,aa.of (md.1 _ _ hN.2.2),rfl,aS,qb,xH,b,rfl,hS H2,by decide,aa.of (md.1 _ _ hb),λH3 s3=>?_⟩;refine⟨_,rfl,p,_,2,V.ref qc,rfl,rfl,aa.of (s3 _ _ (md.1 _ _ hN.2.2)),rfl,qc,c,rfl,aa.of (s3 _ _ (md.1 _ _ jg)),KN c Ä,λz H4 s4=>?_,λl z H4 p4 ER=>?_⟩
      ·
       have en:dQ line=none:=by
        unfold dQ;rw[e3];show(if a=JM.jA then _ else none)=none;rw[af (show a=JM.jA from hd),z];cases bw JM.uz b <;> rfl
       refine⟨_,rfl,_,rfl,a8 (λ_=>?_) (λ_=>⟨_,rfl,_,rfl,kZ ?_⟩)⟩
       ·exact k H4 .aJ ((s2.trans s3).trans s4) (by rw[en];rfl)
       ·exact k H4 .aJ ((s2.trans s3).trans s4) (by rw[en];rfl)
      ·have s4:=ER.1;refine⟨_,rfl,_,rfl,a8 (λhn=>?_) (λhn=>⟨_,rfl,_,rfl,nu ?_⟩)⟩
       ·simp at hn;have en:dQ line=none:=by
         unfold dQ;rw[e3];show(if a=JM.jA then _ else none)=none;rw[af (show a=JM.jA from hd),show JM.uz=xH.map codes from rfl];cases e:bw Èd b with
         |none=>rfl
         |some i=>rw[e] at hn;cases hn
        exact k H4 .aJ ((s2.trans s3).trans s4) (by rw[en];rfl)
       ·simp at hn;obtain⟨i,ei⟩:∃i,bw Èd b=some i:=by
         cases e:bw Èd b with
         |none=>rw[e] at hn;exact absurd rfl hn
         |some i=>simp
        have en:dQ line=some (i,l):=by
         unfold dQ;rw[e3];show(if a=JM.jA then _ else none)=_;rw[af (show a=JM.jA from hd),z,show JM.uz=xH.map codes from rfl,ei]
        refine⟨_,rfl,_,rfl,(by show 2<=sizeLine;decide),λt ht=>?_⟩;have s5:=(s2.trans s3).trans s4;refine k _ (.ref t) (fm s5 (s5.free ht)) ?_;rw[en];refine⟨t,p4,rfl,s5.free ht,(s2.trans s3).free ER.2.1,?_,?_⟩
        ·rw[aq,ei];rfl
        ·rw[ao (eK ER.2.2 ht)];exact ER.2.2
end
inductive Told where
 |side (s:Nat) (l:LI)
 |hoist (k:Nat)
 |shape (k:Nat)
 |row (l:LI)
def Told.sort:Told->Nat
 |.side _ _=>0
 |.hoist _=>1
 |.shape _=>2
 |.row _=>3
def jR(line:LI):Option Told:=match dQ line with
 |some x=>some (.side x.1 x.2)
 |none=>match bw JM.iu line with
  |some k=>some (.hoist k)
  |none=>match bw JM.iw line with
   |some k=>some (.shape k)
   |none=>(jQ line).map .row
def zl(H H':Hp):Told->V->Prop
 |.side s l,v=>∃t c,v=.ref t/\H c=none/\H' t=some (.tup [.int (s:Nat),.ref c])/\H' c=some ň
 |.hoist k,v=>v=.int (k:Nat)
 |.shape k,v=>v=.int (k:Nat)
 |.row l,v=>∃c,v=.ref c/\H c=none/\H' c=some ň
def afj(H H':Hp):Option Told->V->Prop
 |none,v=>v=.aJ
 |some t,v=>∃q y,v=.ref q/\H q=none/\H' q=some (.tup [.int (t.sort:Nat),y])/\zl H H' t y
inductive SG(K:FR)(vs:au)(H:Hp)(Q:VK)(E':XK):Prop
 |mk (ap:Addr) (line:LI) (_:vs=[.ref ap]) (_:â ap Åu) (_:line.length<=100000) (_:∀H' v,ai H H'->afj H H' (jR line) v->Q v H')
def SH:LS:=["hoist","hoist above","hoist below","hoist above below"]
def SJ:LS:=["square","tails","long","shape?"]
theorem zl.same(h:zl H H1 t v)(s:ai H1 H2):zl H H2 t v:=by
 cases t with
 |side a l=>obtain⟨t,c,h1,h2,h3,h4⟩:=h;exact⟨t,c,h1,h2,s _ _ h3,s _ _ h4⟩
 |hoist k=>exact h
 |shape k=>exact h
 |row l=>obtain⟨c,h1,h2,h3⟩:=h;exact⟨c,h1,h2,s _ _ h3⟩
def afk(h0:zk H H' (dQ line) v0)(h3:LstAt H H' (jQ line) v3)(hx:[v0,oI ľ,oI Ľ,v3][i]? =some x) (hn:x≠ .aJ) (hb:∀j y,j<i->[v0,oI ľ,oI Ľ,v3][j]? =some y->y=.aJ):
  ∃t,jR line=some t/\t.sort=i/\zl H H' t x:=by
 have e0:v0=.aJ->dQ line=none:=λz=>by
  cases e:dQ line with
  |none=>rfl
  |some p=>
   rw[e] at h0;obtain⟨t,c,h1,_⟩:=h0;simp_all
 have eo:∀o:Option Nat,oI o=.aJ->o=none:=λo z=>by
  cases o with
  |none=>rfl
  |some k=>cases z
 match i,hx with
 |0,hx=>
  have ex:=aN hx;subst ex;cases e:dQ line with
  |none=>rw[e] at h0;exact absurd h0 hn
  |some p=>
   rw[e] at h0;obtain⟨t,c,h1,h2,h3,h4,h5⟩:=h0;refine⟨.side p.1 p.2,by unfold jR;rw[e],rfl,t,c,h1,h3,h4,h5⟩
 |1,hx=>
  have ex:=aN hx;have z0:=e0 Æn;cases e:bw JM.iu line with
  |none=>rw[e] at ex;exact absurd ex.symm hn
  |some k=>
   rw[e] at ex;exact⟨.hoist k,by unfold jR;rw[z0,e],rfl,ex.symm⟩
 |2,hx=>
  have ex:=aN hx;have z0:=e0 Æn;have z1:=eo _ (hb 1 _ Æ rfl);cases e:bw JM.iw line with
  |none=>rw[e] at ex;exact absurd ex.symm hn
  |some k=>
   rw[e] at ex;exact⟨.shape k,by unfold jR;rw[z0,z1,e],rfl,ex.symm⟩
 |3,hx=>
  have ex:=aN hx;subst ex;have z0:=e0 Æn;have z1:=eo _ (hb 1 _ Æ rfl);have z2:=eo _ (hb 2 _ Æ rfl);cases e:jQ line with
  |none=>rw[e] at h3;exact absurd h3 hn
  |some l=>
   rw[e] at h3;obtain⟨c,h1,h2,h4⟩:=h3;exact⟨.row l,by unfold jR;rw[z0,z1,z2,e];rfl,rfl,c,h1,h2,h4⟩
 |i+4,hx=>simp at hx
def afl(h0:zk H H' (dQ line) v0)(h3:LstAt H H' (jQ line) v3)(hb:∀j y,j<4->[v0,oI ľ,oI Ľ,v3][j]? =some y->y=.aJ):jR line=none:=by
 have z0:=hb 0 v0 Æ rfl;have z1:=hb 1 _ Æ rfl;have z2:=hb 2 _ Æ rfl;have z3:=hb 3 v3 Æ rfl;unfold jR;cases e:dQ line with
 |some p=>
  rw[e] at h0;obtain⟨t,c,h1,_⟩:=h0;simp_all
 |none=>
  cases e1:bw JM.iu line with
  |some k=>rw[e1] at z1;cases z1
  |none=>
   cases e2:bw JM.iw line with
   |some k=>rw[e2] at z2;cases z2
   |none=>
    cases e3:jQ line with
    |some l=>
     rw[e3] at h3;obtain⟨c,h1,_⟩:=h3;simp_all
    |none=>rfl
theorem zk.same(h:zk H H1 o v)(s0:ai H0 H)(s:ai H1 H2):zk H0 H2 o v:=by
 cases o with
 |none=>exact h
 |some p=>obtain⟨t,c,h1,h2,h3,h4,h5⟩:=h;exact⟨t,c,h1,s0.free h2,s0.free h3,s _ _ h4,s _ _ h5⟩
theorem LstAt.same(h:LstAt H H1 o v)(s0:ai H0 H)(s:ai H1 H2):LstAt H0 H2 o v:=by
 cases o with
 |none=>exact h
 |some p=>obtain⟨c,h1,h2,h3⟩:=h;exact⟨c,h1,s0.free h2,s _ _ h3⟩
section
variable{P:Pg}{w:Wd}{K:FR}{mg:MG}{base:Heap}
def KO:bH ["line","readings","sort","told"] ["line"] (aV JT):=cw
def afm(F:br K "read_line" "read_line" JT f fd)(tE:mg "enumerate"=none)(cH:Tn K mg "HOIST_LINES" (SH.map V.str))(cS:Tn K mg "SEEN_SHAPES" (SJ.map V.str))(dS:Ç 4 "read_side" ["line"] (SE K)) (dA:Ç 2 "place_among" ["words","part"] (EH K)) (dR:Ç 3 "read_row" ["line"] (SD K)):
  a7 P w K mg base aE 5 f fd ["line"] (SG K):=by
 obtain⟨aH,mH,hH⟩:=cH;obtain⟨aS,mS,hS⟩:=cS;refine F.ok KO Â;obtain⟨ap,line,rfl,hP,hl,k⟩:=h;have sA:dv 2 _:=hr.mono Ú;have KP:dv 3 _:=hr.mono Ú;refine⟨_,aB (cj 1 KO.nd (ue (ae (bz (hr:=hr) dS ó)
   (ae (bz (hr:=sA) dA (ae (vk (v:=.ref aH) Õ mH rfl) ó))
   (ae (bz (hr:=sA) dA (ae (vk (v:=.ref aS) Õ mS rfl) ó))
   (ae (bz (hr:=KP) dR ó) ag))))))
  (aB (ş (Ru Õ tE Œ) (iE 2 3 KO.nd)
   (aD (dq (ot (HF ø)) (aD (aY (ue (ae è ĳ)))) d7)))
  ŷ),?_⟩
 refine⟨_,rfl,ap,line,rfl,hP,hl,λH1 v0 s1 h0=>?_⟩;refine⟨_,rfl,aH,ap,SH,line,rfl,hH H1,by decide,s1.seq hP,λH2 s2=>?_⟩;have e9:=s1.trans s2;refine⟨_,rfl,aS,ap,SJ,line,rfl,hS H2,by decide,e9.seq hP,λH3 s3=>?_⟩;have p9:=e9.trans s3;refine⟨_,rfl,ap,line,rfl,p9.seq hP,hl,λH4 v3 s4 h3=>?_⟩;have oE:=p9.trans s4;refine⟨(by show 4<=sizeLine;decide),λtt SK=>?_⟩;have s5:=fm (o:=.tup [v0,oI ľ,oI Ľ,v3]) oE (oE.free SK);have sl:∀{H':Hp},ai (upd H4 tt (.tup [v0,oI ľ,oI Ľ,v3])) H'->ai H4 H':=λz=>(aL SK).trans z;refine⟨_,rfl,tt,[v0,oI ľ,oI Ľ,v3],rfl,bu.of aq,Rv (K:=K) (a:=tt) (xs:=[v0,oI ľ,oI Ľ,v3])
  (λi σ H'=>∃u2 u3:Option V,σ=[some Èr,some (.ref tt),u2,u3]/\ai (upd H4 tt (.tup [v0,oI ľ,oI Ľ,v3])) H'/\∀j y,j<i->[v0,oI ľ,oI Ľ,v3][j]? =some y->y=.aJ)
  ⟨none,none,rfl,ai.refl _,λj y hj _=>absurd hj Æ⟩ (λi σ H' _ ⟨_,_,_,s6,_⟩=>ai.tup s6 (bu.of aq)) ?_ ?_⟩
 ·rintro i x T σ H' hi ⟨u2,u3,rfl,s6,hb⟩ hT;have s7:=fm (o:=.tup [.int (i:Nat),x]) s6 (s6.free hT);refine⟨T,_,rfl,bu.of aq,rfl,_,_,rfl,_,_,rfl,rfl,_,rfl,_,rfl,a8 Ï Ï⟩
  ·simp at hc;refine⟨_,rfl,_,rfl,(by show 2<=sizeLine;decide),λq hq=>?_⟩;have s8:=fm (o:=.tup [.int (i:Nat),x]) s7 (s7.free hq);have s9:=s5.trans s8;obtain⟨t,et,es,ta⟩:=afk (h0.same Ŷ (((s2.trans s3).trans s4).trans (sl s8))) (h3.same p9 (sl s8)) hi hc hb;refine k _ Èo s9 ?_;rw[et];refine⟨q,x,rfl,(s5.trans s7).free hq,?_,ta⟩;rw[aq,es]
  ·simp at hc;refine⟨_,_,rfl,s7,λj y hj hy=>?_⟩;grind
 ·rintro σ H' ⟨u2,u3,rfl,s6,hb⟩;have en:=afl (h0.same Ŷ (((s2.trans s3).trans s4).trans (sl s6))) (h3.same p9 (sl s6)) hb;exact k H' .aJ (s5.trans s6) (by rw[en];rfl)
end
def k8(m:fX):Bool:=match m.ak.getLast? with
 |some g=>g.flags.isEmpty
 |none=>false
def jC(m:fX):Bool:=match m.ak.getLast? with
 |some g=>(match g.flags.getLast? with
  |some s=>decide (s.2.length<16)
  |none=>false)
 |none=>false
def qd(m:fX):Bool:=!m.ak.isEmpty&&(!k8 m&& !jC m)
def du(m:fX)(k:Nat):Bool:=
 if (m.classes.isEmpty||decide (k=0))=true then m.classes.isEmpty&&decide (k=0)
 else if (decide (k=3)||jC m)=true then decide (k=3)&&jC m
 else if decide (k=1)=true then decide (m.ak.length<4)&& !k8 m
 else match m.ak.getLast? with
  |some g=>decide (g.flags.length<8)
  |none=>false
inductive qe(C:Cs)(b:fX->Bool)(vs:au)(H:Hp)(Q:VK)(E':XK):Prop
 |mk (p:eP) (_:vs=[.ref p.a]) (_:Lies H Ág) (_:∀H',ai H H'->Q (.bl (b p.m)) H')
def qe.len:∀vs H Q E,qe C b vs H Q E->vs.length=(["plate"]:LS).length:=λvs H Q E h=>by
 obtain⟨p,rfl,_⟩:=h;rfl
def afn(h:m.ak=[]):k8 m=false:=by unfold k8;rw[h];rfl
def SL{p:eP}{gs:List ck}{g:ck}(h:p.ak=gs++[g]):k8 p.m=g.flags.isEmpty:=by
 unfold k8 eP.m;rw[h,bX,a0,lQ,Au,Hd];show(g.flags.map eG.m).isEmpty=_;simp
def afo(h:m.ak=[]):jC m=false:=by unfold jC;rw[h];rfl
def afp{p:eP}{gs:List ck}{g:ck}(h:p.ak=gs++[g])(hf:g.flags=[]):jC p.m=false:=by
 unfold jC eP.m;rw[h,bX,a0,lQ,Au,Hd];show(match (g.flags.map eG.m).getLast? with
  |some s=>decide (s.2.length<16)
  |none=>false)=_
 simp_all
def afq{p:eP}{gs:List ck}{g:ck}{ss:List eG}{s:eG}(h:p.ak=gs++[g])(hf:g.flags=ss++[s]):jC p.m=decide (s.cells.length<16):=by
 unfold jC eP.m;rw[h,bX,a0,lQ,Au,Hd];show(match (g.flags.map eG.m).getLast? with
  |some s=>decide (s.2.length<16)
  |none=>false)=_
 rw[hf,bX,a0,lQ,Au,Hd];rfl
section
variable{P:Pg}{w:Wd}{K:FR}{mg:MG}{base:Heap}{C:Cs}
def afr:bH ["plate"] ["plate"] (aV JX):=cw
def afs(F:br K "lacks_flags" "lacks_flags" JX f fd)(T:ma K C):Ì aE 1 f fd ["plate"] (qe C k8):=by
 refine F.ok afr Â;obtain⟨p,rfl,L,k⟩:=h;refine⟨_,aD (aY (ud ϵ
  (rV (jy Ϫ Ĥ Ĵ (bT _))))),?_⟩
 refine⟨_,rfl,Ŧ Ån ⟨dY _,λe1 n1=>?_⟩⟩;have s1:ai H Åa:=aL n1;refine⟨p.gl,e1,_,rfl,rfl,aa.of (s1 _ _ L.gl),aa.of aq,_,rfl,?_⟩;rcases pZ p.ak with e|⟨gs,g,e⟩
 ·rw[e];refine nu ?_;have q:=k _ s1;rw[afn (by unfold eP.m;rw[e];rfl)] at q;exact q
 ·have hg:g∈p.ak:=by rw[e];simp
  have L1:=L.same s1;have ne:(!(p.ak.map λg=>V.ref g.a).isEmpty)=true:=by rw[e,bX];simp
  rw[ne];refine kZ ⟨_,rfl,bj L1.pl T.cP T.nE Ån ⟨_,rfl,p.gl,_,_,V.ref g.a,rfl,rfl,aa.of L1.gl,?_,bj ((L1.sub hg).ga) T.cG T.vS (vR g) ⟨dY _,λe2 n2=>?_⟩⟩⟩
  ·rw[e,bX];exact vw _ _
  ·have s2:=fm (o:=.lst []) s1 (s1.free n2);have L2':=L.same s2;refine⟨g.l,e2,_,rfl,rfl,aa.of (L2'.sub hg).fl,aa.of aq,?_⟩;have q:=k _ s2;rw[SL e] at q;simp_all
def afu:bH ["plate"] ["plate"] (aV JY):=cw
def afv(F:br K "lacks_cells" "lacks_cells" JY f fd)(T:ma K C)(tL:mg "len"=none)(cC:Cn mg "CELLS" (.int 16))(dF:Ç 1 "lacks_flags" ["plate"] (qe C k8)):
  a7 P w K mg base aE 2 f fd ["plate"] (qe C jC):=by
 refine F.ok afu Â;obtain⟨p,rfl,L,k⟩:=h;refine⟨_,aB (dq (PW.pt (pw_or (cI Ϫ ï Ĵ (bT _)) (pw_or1 (jx (bz dF ó))))) Âc d7)
  (aD (aY (jy w6 (c8 fU Õ tL PySem.boot_len (ae (bg (cA cY Ĥ (jh jM bo) Ù) rfl) ag)) (b9 cC) (bT _)))),?_⟩
 refine⟨_,rfl,Ŧ Ån ⟨dY _,λe1 n1=>?_⟩⟩;have s1:ai H Åa:=aL n1;have L1:=L.same s1;refine⟨p.gl,e1,_,rfl,rfl,aa.of L1.gl,aa.of aq,_,rfl,?_⟩;rcases pZ p.ak with e|⟨gs,g,e⟩
 ·rw[e];refine kZ ?_;have q:=k _ s1;rw[afo (by unfold eP.m;rw[e];rfl)] at q;exact q
 ·have hg:g∈p.ak:=by rw[e];simp
  have ne:(p.ak.map λg=>V.ref g.a).isEmpty=false:=by rw[e,bX];simp
  rw[ne];refine nu ⟨_,rfl,p,rfl,L1,λH2 s2=>đ⟩;have s3:=s1.trans s2;have L3:=L.same s3;rw[SL e];rcases pZ g.flags with e2|⟨ss,sg,e2⟩
  ·rw[e2];refine kZ ?_;have q:=k _ s3;rw[afp e e2] at q;exact q
  ·have hs:sg∈g.flags:=by rw[e2];simp
   have ne2:g.flags.isEmpty=false:=by rw[e2];simp
   rw[ne2];refine nu ⟨_,rfl,bj L3.pl T.cP T.nE Ån ⟨_,rfl,p.gl,_,_,V.ref g.a,rfl,rfl,aa.of L3.gl,?_,bj ((L3.sub hg).ga) T.cG T.vS (vR g) ⟨_,rfl,g.l,_,_,V.ref sg.a,rfl,rfl,aa.of (L3.sub hg).fl,?_,bj (((L3.sub hg).zi hs).sa) T.cS T.EK (EJ sg) ⟨sg.l,_,rfl,.inl (aa.of ((L3.sub hg).zi hs).sl),_,_,rfl,rfl,?_⟩⟩⟩⟩
   ·rw[e,bX];exact vw _ _
   ·rw[e2,bX];exact vw _ _
   ·have q:=k _ s3;rw[afq e e2] at q;show Q (V.bl (decide ((((iv sg.cells).length:Nat):Int)<16))) H2;rw[eZ,show decide (((sg.cells.length:Nat):Int)<16)=decide (sg.cells.length<16) by
     by_cases z:sg.cells.length<16
     ·rw[eJ z,eJ Æ]
     ·rw[fQ z,fQ Æ]]
    exact q
def afw:bH ["plate"] ["plate"] (aV JZ):=cw
def afx(F:br K "has_whole_hoists" "has_whole_hoists" JZ f fd)(T:ma K C)(dF:Ç 1 "lacks_flags" ["plate"] (qe C k8))(dC:Ç 2 "lacks_cells" ["plate"] (qe C jC)):
  a7 P w K mg base aE 3 f fd ["plate"] (qe C qd):=by
 refine F.ok afw Â;obtain⟨p,rfl,L,k⟩:=h;refine⟨_,aD (aY (ud ϵ
  (ud (AK (bz dF ó)) (rV (AK (bz dC ó)))))),?_⟩
 refine⟨_,rfl,Ŧ Ån ⟨dY _,λe1 n1=>?_⟩⟩;have s1:ai H Åa:=aL n1;have L1:=L.same s1;refine⟨p.gl,e1,_,rfl,rfl,aa.of L1.gl,aa.of aq,_,rfl,?_⟩;have ew:p.m.ak.isEmpty=p.ak.isEmpty:=by unfold eP.m;cases p.ak <;> rfl
 rw[show(p.ak.map λg=>V.ref g.a).isEmpty=p.ak.isEmpty by simp];refine a8 Ï Ï
 ·refine⟨_,rfl,p,rfl,L1,λH2 s2=>⟨_,rfl,_,rfl,a8 Ě Ě⟩⟩
  ·refine⟨_,rfl,p,rfl,L1.same s2,λH3 s3=>đ⟩;have q:=k _ ((s1.trans s2).trans s3);unfold qd at q;grind
  ·have q:=k _ Ày;unfold qd at q;simp_all
 ·have q:=k _ s1;unfold qd at q;simp_all
inductive SM(C:Cs)(vs:au)(H:Hp)(Q:VK)(E':XK):Prop
 |mk (p:eP) (n:Nat) (_:vs=[.ref p.a,.int (n:Nat)]) (_:Lies H Ág) (_:∀H',ai H H'->Q (.bl (du p.m n)) H')
def afy:bH ["plate","sort"] ["plate","sort"] (aV JW):=cw
def ES(a b:Nat):decide (V.int (a:Nat)=V.int (b:Nat))=decide (a=b):=by
 grind
def dec_lt(a b:Nat):decide (((a:Nat):Int)<((b:Nat):Int))=decide (a<b):=by
 simp
def afz(F:br K "may_stand" "may_stand" JW f fd)(T:ma K C)(tL:mg "len"=none)(c0:Cn mg "SIDE_LINE" ŉ)(c1:Cn mg "HOIST_LINE" ŝ)(c3:Cn mg "CELLS_LINE" (.int 3))(cH:Cn mg "MOST_HOISTS" (.int 4))(cF:Cn mg "MOST_FLAGS" (.int 8))(dF:Ç 1 "lacks_flags" ["plate"] (qe C k8)) (dC:Ç 2 "lacks_cells" ["plate"] (qe C jC)):
  a7 P w K mg base aE 3 f fd ["plate","sort"] (SM C):=by
 refine F.ok afy Â;obtain⟨p,n,rfl,L,k⟩:=h;refine⟨_,aB (dq (PW.pt (pw_or (cI Ϫ ï Ĵ (bT _)) (pw_or1 (cI ic á (b9 c0) (bT _)))))
   (aD (aY (ud (jy Ϫ ï Ĵ (bT _)) (rV (jy ic á (b9 c0) (bT _)))))) d7)
  (aB (dq (PW.pt (pw_or (cI ic á (b9 c3) (bT _)) (pw_or1 (jx (bz dC ó)))))
   (aD (aY (ud (jy ic á (b9 c3) (bT _)) (rV (bz dC ó))))) d7)
  (aB (dq (cI ic á (b9 c1) (bT _))
   (aD (aY (ud (jy w6 (c8 fU Õ tL PySem.boot_len Ât) (b9 cH) (bT _)) (rV (AK (bz dF ó)))))) d7)
  (aD (aY (ud ϵ (rV (jy w6 (c8 fU Õ tL PySem.boot_len (ae Ĥ ag)) (b9 cF) (bT _)))))))),?_⟩
 have ec:p.m.classes.isEmpty=(iv p.classes).isEmpty:=by unfold eP.m iv;cases p.classes <;> rfl
 refine⟨_,rfl,bj L.pl T.cP T.EL (KJ p) ⟨dY _,λe1 n1=>?_⟩⟩;have s1:ai H Åa:=aL n1;have L1:=L.same s1;refine⟨p.cl,e1,_,rfl,rfl,aa.of L1.cl,aa.of aq,_,rfl,?_⟩;rw[<-ec];have first:∀H1,ai H H1->(p.m.classes.isEmpty||decide (n=0))=true->AM (HH (bU (RC K) (gi K ό "classes") (yL dw)) (bU ox ϕ Äa)) {nx:=λ_ H'=>Q .aJ H',rt:=Q} [some Âw,some (.int (n:Nat))] H1:=λH1 t1 hc=>by
  have M1:=L.same t1;refine⟨_,rfl,bj M1.pl T.cP T.EL (KJ p) ⟨dY _,λe2 n2=>?_⟩⟩;have t2:=fm (o:=.lst []) t1 (t1.free n2);refine⟨p.cl,e2,_,rfl,rfl,aa.of (L.same t2).cl,aa.of aq,_,rfl,?_⟩;rw[<-ec];have q:=k _ t2;unfold du at q;rw[af hc] at q;refine a8 Ě Ě
  ·refine⟨_,rfl,rfl,?_⟩;simp_all
  ·simp_all
 refine a8 (λhc=>first _ s1 É) Ï;have hc:p.m.classes.isEmpty=false:=À hc
 refine ő;rw[show V.int 0=V.int ((0:Nat):Int) from rfl,ES];refine a8 (λhd=>first _ s1 É) Ě;have hd:decide (n=0)=false:=À hd
 have XF:∀H1,ai H H1->(decide (n=3)||jC p.m)=true->AM (HH (bU ox ϕ (tC (.int 3))) (g9 (qe C jC) [] E0 (bh ό dw))) {nx:=λ_ H'=>Q .aJ H',rt:=Q} [some Âw,some (.int (n:Nat))] H1:=λH1 t1 h2=>by
  refine ő;rw[show V.int 3=V.int ((3:Nat):Int) from rfl,ES];refine a8 (λh3=>⟨_,rfl,p,rfl,L.same t1,λH2 t2=>?_⟩) (λh3=>?_)
  ·have q:=k _ (t1.trans t2);unfold du at q;simp_all
  ·simp at h3;have q:=k _ t1;unfold du at q;simp_all
 refine ő;rw[show V.int 3=V.int ((3:Nat):Int) from rfl,ES];refine a8 (λh3=>XF _ s1 É) (λh3=>⟨_,rfl,p,rfl,L1,λH2 s2=>⟨_,rfl,a8 (λh4=>XF _ Ày É) (λh4=>?_)⟩⟩);have h3:decide (n=3)=false:=À h3
 simp at h4;have s3:=s1.trans s2;have bI:∀H',ai H H'->Q (.bl (if decide (n=1)=true then decide (p.m.ak.length<4)&& !k8 p.m else match p.m.ak.getLast? with
  |some g=>decide (g.flags.length<8)
  |none=>false)) H':=λH' t=>by
  have q:=k _ t;unfold du at q;rw[hc,hd,Bool.or_self,ah d9,h3,h4,Bool.or_self,ah d9] at q;exact q
 have L3:=L.same s3;refine ő;rw[show V.int 1=V.int ((1:Nat):Int) from rfl,ES];refine a8 Š Š
 ·refine⟨_,rfl,bj L3.pl T.cP T.nE Ån ⟨p.gl,_,rfl,.inl (aa.of L3.gl),_,_,rfl,rfl,_,rfl,?_⟩⟩;have e4:decide ((((p.ak.map λg=>V.ref g.a).length:Nat):Int)<4)=decide (p.m.ak.length<4):=by
   rw[show(4:Int)=((4:Nat):Int) from rfl,dec_lt];unfold eP.m;simp
  rw[e4];refine a8 (λh5=>⟨_,rfl,p,rfl,L3,λH3 s4=>đ⟩) (λh5=>?_)
  ·have q:=bI _ (s3.trans s4);simp_all
  ·simp_all
 ·refine⟨_,rfl,bj L3.pl T.cP T.nE Ån ⟨dY _,λe5 n5=>?_⟩⟩;have s5:=fm (o:=.lst []) s3 (s3.free n5);have L5:=L.same s5;refine⟨p.gl,e5,_,rfl,rfl,aa.of L5.gl,aa.of aq,_,rfl,?_⟩;rcases pZ p.ak with e|⟨gs,g,e⟩
  ·rw[e];refine nu ?_;have q:=bI _ s5;rw[ah h1,show p.m.ak=[] by unfold eP.m;rw[e];rfl] at q;simp_all
  ·have hg:g∈p.ak:=by rw[e];simp
   have ne:(!(p.ak.map λg=>V.ref g.a).isEmpty)=true:=by rw[e,bX];simp
   rw[ne];refine kZ ⟨_,rfl,bj L5.pl T.cP T.nE Ån ⟨_,rfl,p.gl,_,_,V.ref g.a,rfl,rfl,aa.of L5.gl,?_,bj ((L5.sub hg).ga) T.cG T.vS (vR g) ⟨g.l,_,rfl,.inl (aa.of (L5.sub hg).fl),_,_,rfl,rfl,?_⟩⟩⟩
   ·rw[e,bX];exact vw _ _
   ·have q:=bI _ s5;have eg:p.m.ak.getLast?=some g.m:=by
     unfold eP.m;simp_all
    rw[ah h1,eg] at q;show Q (V.bl (decide ((((g.flags.map λs=>V.ref s.a).length:Nat):Int)<((8:Nat):Int)))) _;rw[dec_lt,aA];have e6:g.m.flags.length=g.flags.length:=by unfold ck.m;simp only[aA]
    simp_all
end
def qV(m:fX):Told->fX
 |.side s l=>⟨s,l,m.ak⟩
 |.hoist k=>⟨m.side,m.classes,m.ak++[⟨decide (k%2=1),decide (k/2=1),[]⟩]⟩
 |.shape k=>⟨m.side,m.classes,m.ak.dropLast++(m.ak.getLast?.map λg=>(⟨g.above,g.below,g.flags++[(k,[])]⟩:iG)).toList⟩
 |.row l=>⟨m.side,m.classes,m.ak.dropLast++(m.ak.getLast?.map λg=>(⟨g.above,g.below,g.flags.dropLast++(g.flags.getLast?.map λs=>(s.1,s.2++l)).toList⟩:iG)).toList⟩
structure Rep(C:Cs)(H:Hp)(p:eP):Prop where
 lies:Lies H Ág
 nd:((eI C p).map (·.1)).Nodup
def SN(h:du m 1=true):m.ak.length<4:=by
 unfold du at h;simp_all
def afA{m:fX}(h:du m 2=true):∃g,m.ak.getLast?=some g/\g.flags.length<8:=by
 unfold du at h;split at h
 ·simp at h
 ·split at h
  ·simp at h
  ·split at h
   ·rename_i z;exact absurd z Ú
   ·split at h
    ·rename_i g e;exact⟨g,e,À h⟩
    ·cases h
def afB{m:fX}(h:du m 3=true):∃g s,m.ak.getLast?=some g/\g.flags.getLast?=some s/\s.2.length<16:=by
 unfold du at h;split at h
 ·simp at h
 ·split at h
  ·simp at h;unfold jC at h;split at h
   ·rename_i g e;split at h
    ·rename_i s e2;exact⟨g,s,e,e2,À h⟩
    ·cases h
   ·cases h
  ·rename_i h1 h2;exact absurd Ä h2
def KQ{α β:Type}{f:α->β}{l:List α}{y:β}(h:(l.map f).getLast?=some y):∃r x,l=r++[x]/\f x=y:=by
 rcases pZ l with e|⟨r,x,e⟩
 ·rw[e] at h;cases h
 ·refine⟨r,x,e,?_⟩;rw[e,bX,a0,lQ,Au,Hd] at h;exact aN h
inductive SO(C:Cs)(vs:au)(H:Hp)(Q:VK)(E':XK):Prop
 |mk (p:eP) (t:Told) (v:V) (H0:Hp) (_:vs=[.ref p.a,.int (t.sort:Nat),v]) (_:Rep C H p) (_:ai H0 H) (_:Lies H0 Ág) (_:zl H0 H t v) (_:(∀l,t=.row l->l.length=4)) (_:du p.m t.sort=true) (_:∀H' p',p'.a=p.a->p'.m=qV p.m t->Rep C H' p'->(∀b o,H b=some o->b∉(eI C p).map (·.1)->H' b=some o)->(∀b,b∈(eI C p').map (·.1)->b∈(eI C p).map (·.1)\/H0 b=none)->Q .aJ H')
def afC(h:Lies H ns)(hb:b∈ns.map (·.1)):∃o,H b=some o:=by
 obtain⟨x,hx,rfl⟩:=cf.mp hb;exact⟨_,h x hx⟩
def BE(h:Lies H ns)(hb:H b=none):b∉ns.map (·.1):=λz=>by
 obtain⟨o,e⟩:=afC h z;simp_all
def KR(L:Lies H (A++(b,o)::B))(nd:((A++(b,o)::B).map (·.1)).Nodup)(keep:∀c u,H c=some u->c≠b->H2 c=some u)(hb:H2 b=some o')(hN:Lies H2 N):
  Lies H2 (A++(b,o')::(B++N)):=λx hx=>by
 rw[bX,a0] at nd;obtain⟨n1,n2,n3⟩:=O0.mp nd;obtain⟨n4,n5⟩:=j9.mp n2;rcases gR.mp hx with hx|hx
 ·exact keep _ _ (L x (Ar _ hx)) (n3 x.1 (cf.mpr ⟨x,hx,rfl⟩) b gy)
 ·rcases ba.mp hx with rfl|hx
  ·omega
  ·rcases gR.mp hx with hx|hx
   ·exact keep _ _ (L x (tW _ (aO _ hx))) λz=>n4 (by grind)
   ·exact hN x hx
def KS{A B N:List Nd}{b:Addr}{o o':HO}(nd:((A++(b,o)::B).map (·.1)).Nodup)(hn:(N.map (·.1)).Nodup)(hd:∀c,c∈N.map (·.1)->c∉(A++(b,o)::B).map (·.1)):((A++(b,o')::(B++N)).map (·.1)).Nodup:=by
 have e:(A++(b,o')::(B++N)).map (·.1)=(A++(b,o)::B).map (·.1)++N.map (·.1):=by simp
 rw[e];exact O0.mpr ⟨nd,hn,λx hx y hy z=>hd y hy (by rw[<-z];exact hx)⟩
def KU{A B N:List Nd}{b:Addr}{o o':HO}{c:Addr}(h:c∈(A++(b,o')::(B++N)).map (·.1)):c∈(A++(b,o)::B).map (·.1)\/c∈N.map (·.1):=by
 grind
def SQ{gs:List ck}{g g':ck}(h:g.a=g'.a):((gs++[g]).map λg=>V.ref g.a)=(gs++[g']).map λg=>V.ref g.a:=by
 simp_all
def afD{ss:List eG}{s s':eG}(h:s.a=s'.a):((ss++[s]).map λs=>V.ref s.a)=(ss++[s']).map λs=>V.ref s.a:=by
 simp_all
section
variable{P:Pg}{w:Wd}{K:FR}{mg:MG}{base:Heap}{C:Cs}
def afE:bH ["plate","sort","told"] ["plate","sort","told"] (aV J0):=cw
def afF(k:Nat):decide (V.int (((k:Nat):Int)%2)=V.int 1)=decide (k%2=1):=by
 grind
def afG(k:Nat):decide (V.int (((k:Nat):Int)/2)=V.int 1)=decide (k/2=1):=by
 grind
def afH{f:Addr}{fd:FD}(F:br K "put" "put" J0 f fd)(T:ma K C)(c0:Cn mg "SIDE_LINE" ŉ)(c1:Cn mg "HOIST_LINE" ŝ)(c2:Cn mg "SHAPE_LINE" (.int 2))(dG:ă "Glimpse" C.G ["above","below","flags"]) (dS:ă "Sighting" C.S ["shape","cells"]):Ì aE 3 f fd ["plate","sort","told"] (SO C):=by
 refine F.ok afE Â;obtain⟨p,t,v,H0,rfl,R,s0,L0,ta,h4,may,k⟩:=h;refine⟨_,aD (dq (cI ic á (b9 c0) (bT _))
   (aB (fc Û (cA yO è bo Ù) rfl) (aD (fc Û (cA yO è bo Ù) rfl)))
  (aD (dq (cI ic á (b9 c1) (bT _))
   (aD (rX (ß ï (ae (p7 dG hr
    (ae (jy ic (eM HR è bo) bo (bT _)) (ae (jy ic (eM ZW è bo) bo (bT _)) Än))) ag))))
  (aD (dq (cI ic á (b9 c2) (bT _))
   (aD (rX (ß Ĥ (ae (p7 dS hr
    (ae è Än)) ag))))
   (aD (rX (sf PySem.F.plainAttrs_list PySem.F.slot_list_extend PySem.F.type_list_extend Qq (bg (cA cY Ĥ (jh jM bo) Ù) rfl) Ţ)))))))),?_⟩
 have L:=R.lies;cases t with
 |side sd l=>
  obtain⟨tt,c,rfl,SR,ht,hc⟩:=ta;refine ώ;refine⟨_,rfl,tt,_,0,_,rfl,rfl,bu.of ht,rfl,_,rfl,p.a,C.P,p.dx,_,rfl,L.pl,T.cP,T.KM,(by show 3<1000;decide),?_⟩;have nta:=Pj ht L.pl Ä;refine⟨_,rfl,tt,_,1,_,rfl,rfl,bu.of (by rw[ao nta];exact ht),rfl,_,rfl,p.a,C.P,p.dx,_,rfl,aq,T.cP,T.EL,?_,?_⟩
  ·exact pz (HZ _ _ _) (by show 4<1000;decide)
  ·have SS:=BE L0 SR;have zm:p.a∈(eI C p).map (·.1):=by unfold eI;simp
   have ET:c≠p.a:=λz=>SS É;have nd:=R.nd;have SU:=(j9.mp nd);have nd2:=(j9.mp SU.2);have sub:∀b,b∈((p.gl,HO.lst (p.ak.map λg=>V.ref g.a))::p.ak.flatMap Åo).map (·.1)->b∈(eI C p).map (·.1):=λb hb=>aO _ (aO _ hb);refine k _ {p with cl:=c,side:=sd,classes:=l} rfl rfl ⟨λx hx=>?_,?_⟩ Âl Ď
   ·have hx:x∈(p.a,HO.ins C.P p.dx (l9 {p with cl:=c,side:=sd,classes:=l}))::(c,HO.lst (iv l))::((p.gl,HO.lst (p.ak.map λg=>V.ref g.a))::p.ak.flatMap Åo):=hx;rcases ba.mp hx with rfl|hx
    ·rw[aq];rfl
    ·rcases ba.mp hx with rfl|hx
     ·rw[ao ET,ao ET];omega
     ·have jS:x.1≠p.a:=λz=>SU.1 (by grind);rw[ao jS,ao jS];exact L x (aO _ (aO _ hx))
   ·refine j9.mpr ⟨λz=>?_,j9.mpr ⟨λz=>SS (sub c z),nd2.2⟩⟩;grind
   ·rw[ao (λz=>nb É),ao (λz=>nb É)];omega
   ·rcases ba.mp hb with z|z
    ·simp_all
    ·grind
 |hoist n=>
  obtain rfl:v=V.int (n:Nat):=ta;have cK:=SN may;refine⟨_,rfl,rfl,_,rfl,ite_no (show ¬V.int ((1:Nat):Int)=V.int 0 by decide) ώ⟩;refine⟨_,rfl,Ŧ Ån ⟨.inl ⟨rfl,_,aa.of L.gl⟩,_,rfl,_,_,rfl,rfl,Æ,rfl,_,rfl,_,_,rfl,rfl,⟨by decide,by decide⟩,rfl,dY _,λl hl=>?_⟩⟩;intro x dx hx i5 aQ;refine⟨x,dx,_,rfl,rfl,aq,λH2 h2 k2=>ŕ⟩;have s1:ai H (ϙ ã):=aL hl;have s2:=ai.made hx i5 k2;have s3:=s1.trans s2;have hlx:l≠x:=λz=>by rw[<-z,aq] at hx;cases hx
  have ji:=s2 _ _ aq;refine⟨p.gl,_,_,rfl,rfl,s3 _ _ L.gl,?_,?_⟩
  ·rw[aA];unfold eP.m at cK;simp only[aA] at cK;exact gV Æ
  ·have e1:eI C p=[(p.a,.ins C.P p.dx (l9 p)),(p.cl,.lst Ŏ)]++(p.gl,.lst (p.ak.map λg=>V.ref g.a))::p.ak.flatMap Åo:=rfl;have e2:eI C {p with ak:=p.ak++[⟨x,dx,l,decide (n%2=1),decide (n/2=1),[]⟩]}=[(p.a,.ins C.P p.dx (l9 p)),(p.cl,.lst Ŏ)]++(p.gl,.lst ((p.ak++[(⟨x,dx,l,decide (n%2=1),decide (n/2=1),[]⟩:ck)]).map λg=>V.ref g.a))::(p.ak.flatMap Åo++[(x,.ins C.G dx (pY ⟨x,dx,l,decide (n%2=1),decide (n/2=1),[]⟩)),(l,.lst [])]):=by
    show(p.a,HO.ins C.P p.dx (l9 p))::(p.cl,HO.lst Ŏ)::(p.gl,_)::(p.ak++[_]).flatMap Åo=_;rw[Av];rfl
   have KW:=BE L Æh;have KY:=BE L hl;have EU:p.gl∈(eI C p).map (·.1):=by unfold eI;simp
   have KZ:x≠p.gl:=λz=>KW É;have zo:l≠p.gl:=λz=>KY É;refine k _ {p with ak:=p.ak++[⟨x,dx,l,decide (n%2=1),decide (n/2=1),[]⟩]} rfl ?_ Áj Âl Ď
   ·unfold eP.m qV;rw[bX];rfl
   ·rw[e2];refine KR (H:=H) (by assumption) (by rw[<-e1];exact R.nd) (λc u e hc=>by rw[ao hc];exact s3 _ _ e) ?_ Àm
    ·rw[aq,bX];rfl
    ·rcases ba.mp hy with rfl|hy;rotate_left;obtain rfl:=mV.mp hy;rotate_left
     ·rw[ao KZ,h2];refine cE (λz=>some (HO.ins C.G dx z)) ?_;rw[afF,afG];rfl
     ·rw[ao zo];omega
   ·rw[e2];refine KS (by rw[<-e1];exact R.nd) (by grind) (λc hc=>?_);grind
   ·rw[ao (λz=>nb É)];exact s3 _ _ e
   ·rw[e2] at hb;rcases KU hb with hb|hb
    ·exact .inl hb
    ·simp at hb;rcases hb with rfl|rfl
     ·exact .inr (s0.free Æh)
     ·exact .inr (s0.free hl)
 |shape n=>
  obtain rfl:v=V.int (n:Nat):=ta;obtain⟨gm,eg,cK⟩:=afA may;obtain⟨gs,g,uB,rfl⟩:=KQ eg;have hg:g∈p.ak:=by rw[uB];simp
  refine⟨_,rfl,rfl,_,rfl,ite_no (show ¬V.int ((2:Nat):Int)=V.int 0 by decide) ⟨_,rfl,rfl,_,rfl,ite_no (show ¬V.int ((2:Nat):Int)=V.int 1 by decide) ώ⟩⟩;refine⟨_,rfl,Ŧ Ån ⟨_,rfl,p.gl,_,_,V.ref g.a,rfl,rfl,aa.of L.gl,?_,bj ((L.sub hg).ga) T.cG T.vS (vR g) ⟨.inl ⟨rfl,_,aa.of (L.sub hg).fl⟩,_,rfl,dY _,λl hl=>?_⟩⟩⟩
  ·rw[uB,bX];exact vw _ _
  intro x dx hx i5 aQ;refine⟨x,dx,_,rfl,rfl,aq,λH2 h2 k2=>ŕ⟩;have s1:ai H (ϙ ã):=aL hl;have s2:=ai.made hx i5 k2;have s3:=s1.trans s2;have hlx:l≠x:=λz=>by rw[<-z,aq] at hx;cases hx
  have ji:=s2 _ _ aq;refine⟨g.l,_,_,rfl,rfl,s3 _ _ (L.sub hg).fl,?_,?_⟩
  ·rw[aA];unfold ck.m at cK;simp only[aA] at cK;exact gV Æ
  ·have e1:eI C p=((p.a,.ins C.P p.dx (l9 p))::(p.cl,.lst Ŏ)::(p.gl,.lst (p.ak.map λg=>V.ref g.a))::(gs.flatMap Åo++[(g.a,.ins C.G g.dx (pY g))]))++(g.l,.lst (g.flags.map λs=>V.ref s.a))::g.flags.flatMap (ik C):=by
    unfold eI;rw[show p.ak.flatMap Åo=gs.flatMap Åo++gq C g by simp_all];unfold gq;simp
   have e2:eI C {p with ak:=gs++[{g with flags:=g.flags++[⟨x,dx,l,n,[]⟩]}]}=((p.a,.ins C.P p.dx (l9 p))::(p.cl,.lst Ŏ)::(p.gl,.lst (p.ak.map λg=>V.ref g.a))::(gs.flatMap Åo++[(g.a,.ins C.G g.dx (pY g))]))++(g.l,.lst ((g.flags++[(⟨x,dx,l,n,[]⟩:eG)]).map λs=>V.ref s.a))::(g.flags.flatMap (ik C)++[(x,.ins C.S dx (vQ ⟨x,dx,l,n,[]⟩)),(l,.lst [])]):=by
    unfold eI;rw[Av,uB,SQ (gs:=gs) (g:=g) (g':={g with flags:=g.flags++[⟨x,dx,l,n,[]⟩]}) rfl];simp[gq,Av,l9,pY,ik,iv]
   have KW:=BE L Æh;have KY:=BE L hl;have EU:g.l∈(eI C p).map (·.1):=by rw[e1];simp
   have KZ:x≠g.l:=λz=>KW É;have zo:l≠g.l:=λz=>KY É;refine k _ {p with ak:=gs++[{g with flags:=g.flags++[⟨x,dx,l,n,[]⟩]}]} rfl ?_ Áj Âl Ď
   ·unfold eP.m qV;simp[ck.m,eG.m,uB,Au]
   ·rw[e2];refine KR (H:=H) (by rw[<-e1];exact L) (by rw[<-e1];exact R.nd) (λc u e hc=>by rw[ao hc];exact s3 _ _ e) ?_ Àm
    ·rw[aq,bX];rfl
    ·rcases ba.mp hy with rfl|hy;rotate_left;obtain rfl:=mV.mp hy;rotate_left
     ·rw[ao KZ,h2];rfl
     ·rw[ao zo];omega
   ·rw[e2];refine KS (by rw[<-e1];exact R.nd) (by grind) (λc hc=>?_);simp at hc;rw[<-e1];rcases hc with rfl|rfl
    ·omega
    ·omega
   ·rw[ao (λz=>nb (by rw[z];exact EU))];exact s3 _ _ e
   ·rw[e2] at hb;rcases KU hb with hb|hb
    ·exact .inl (by rw[e1];exact hb)
    ·simp at hb;rcases hb with rfl|rfl
     ·exact .inr (s0.free Æh)
     ·exact .inr (s0.free hl)
 |row l=>
  obtain⟨c,rfl,SR,hc⟩:=ta;obtain⟨gm,sm,eg,es,cK⟩:=afB may;obtain⟨gs,g,uB,rfl⟩:=KQ (show(p.ak.map ck.m).getLast?=some gm from eg);obtain⟨ss,sg,EV,rfl⟩:=KQ (show(g.flags.map eG.m).getLast?=some sm from es);have hg:g∈p.ak:=by rw[uB];simp
  have hs:sg∈g.flags:=by rw[EV];simp
  have K0:=h4 l rfl;refine⟨_,rfl,rfl,_,rfl,ite_no (show ¬V.int ((3:Nat):Int)=V.int 0 by decide) ⟨_,rfl,rfl,_,rfl,ite_no (show ¬V.int ((3:Nat):Int)=V.int 1 by decide) ⟨_,rfl,rfl,_,rfl,ite_no (show ¬V.int ((3:Nat):Int)=V.int 2 by decide) ?_⟩⟩⟩;refine⟨_,rfl,Ŧ Ån ⟨_,rfl,p.gl,_,_,V.ref g.a,rfl,rfl,aa.of L.gl,?_,bj ((L.sub hg).ga) T.cG T.vS (vR g) ⟨_,rfl,g.l,_,_,V.ref sg.a,rfl,rfl,aa.of (L.sub hg).fl,?_,bj (((L.sub hg).zi hs).sa) T.cS T.EK (EJ sg) ⟨.inl ⟨rfl,_,aa.of ((L.sub hg).zi hs).sl⟩,_,rfl,sg.l,c,_,_,rfl,rfl,((L.sub hg).zi hs).sl,hc,?_,?_⟩⟩⟩⟩
  ·rw[uB,bX];exact vw _ _
  ·rw[EV,bX];exact vw _ _
  ·have:sg.cells.length<16:=cK;rw[eZ,eZ,K0];exact tU (gV Æ)
  ·have e1:eI C p=((p.a,.ins C.P p.dx (l9 p))::(p.cl,.lst Ŏ)::(p.gl,.lst (p.ak.map λg=>V.ref g.a))::(gs.flatMap Åo++((g.a,.ins C.G g.dx (pY g))::(g.l,.lst (g.flags.map λs=>V.ref s.a))::(ss.flatMap (ik C)++[(sg.a,.ins C.S sg.dx (vQ sg))]))))++(sg.l,.lst (iv sg.cells))::[]:=by
    unfold eI;rw[show p.ak.flatMap Åo=gs.flatMap Åo++gq C g by simp_all];unfold gq;rw[show g.flags.flatMap (ik C)=ss.flatMap (ik C)++ik C sg by simp_all];simp[ik]
   have e2:eI C {p with ak:=gs++[{g with flags:=ss++[{sg with cells:=sg.cells++l}]}]}=((p.a,.ins C.P p.dx (l9 p))::(p.cl,.lst Ŏ)::(p.gl,.lst (p.ak.map λg=>V.ref g.a))::(gs.flatMap Åo++((g.a,.ins C.G g.dx (pY g))::(g.l,.lst (g.flags.map λs=>V.ref s.a))::(ss.flatMap (ik C)++[(sg.a,.ins C.S sg.dx (vQ sg))]))))++(sg.l,.lst (iv (sg.cells++l)))::([]++[]):=by
    unfold eI;dsimp only;rw[Av,uB,SQ (gs:=gs) (g:=g) (g':={g with flags:=ss++[{sg with cells:=sg.cells++l}]}) rfl,EV,afD (ss:=ss) (s:=sg) (s':={sg with cells:=sg.cells++l}) rfl];simp[gq,Av,l9,pY,ik,vQ]
   have EU:sg.l∈(eI C p).map (·.1):=by rw[e1];simp
   refine k _ {p with ak:=gs++[{g with flags:=ss++[{sg with cells:=sg.cells++l}]}]} rfl ?_ Áj Âl Ď
   ·unfold eP.m qV;dsimp only;simp[ck.m,eG.m,uB,EV,Au]
   ·rw[e2];refine KR (H:=H) (by rw[<-e1];exact L) (by rw[<-e1];exact R.nd) (λc u e hc=>by rw[ao hc];exact e) ?_ (λy hy=>absurd hy Ä);rw[aq];simp
   ·rw[e2];exact KS (by rw[<-e1];exact R.nd) Ä Ä
   ·rw[ao (λz=>nb (by rw[z];exact EU))];omega
   ·rw[e2] at hb;rcases KU hb with hb|hb
    ·exact .inl (by rw[e1];exact hb)
    ·exact absurd hb Ä
end
def K1(k l:Nat):List (Str×V):=[("kind",.int (k:Nat)),("line",.int (l:Nat))]
structure EW(K:FR)(mg:MG)(C N:Addr):Prop where
 c:XC K C N
 afL:D4 K N "kind"
 afM:D4 K N "line"
 mC:mg "NoPlate"=some ā
 keep:PySem.W.keepIn K ā=true
inductive K2(C:Addr)(vs:au)(H:Hp)(Q:VK)(E':XK):Prop
 |mk (x:Addr) (k l:Nat) (_:vs=[.ref x,.int (k:Nat),.int (l:Nat)]) (_:H x=some ŏ) (_:∀H' d,H' x=some (exc C (some d) .none x)->d≠x->H' d=some (uu d (K1 k l))->(∀b o,H b=some o->b≠x->H' b=some o)->Q .aJ H')
def SV(P:Pg)(w:Wd)(K:FR)(mg:MG)(base:Heap)(C N:Addr):Prop:=
 ∃f fd,EW K mg C N/\PySem.W.nsIn K N "__init__"=some Áx/\PySem.W.isFn K Ă=true/\Ì aE 1 f fd ["self","kind","line"] (K2 C)/\L2.Binds K fd ["self","kind","line"] []
section
variable{P:Pg}{w:Wd}{K:FR}{mg:MG}{base:Heap}{C:Cs}{CN N:Addr}
def afN:typeOf (.type "Exception")=pure (.type "type"):=by rfl
def afO:bH ["self","kind","line"] ["self","kind","line"] (aV JR):=cw
def afP(F:br K "__init__" "NoPlate.__init__" JR f fd)(T:EW K mg CN N)(tE:mg "Exception"=none)(hf:PySem.W.findCls K (.type "Exception") (.type "type") "__init__"=some (.val (.builtin "Exception.__init__"))):
  a7 P w K mg base aE 1 f fd ["self","kind","line"] (K2 CN):=by
 refine F.ok afO Â;obtain⟨x,n,l,rfl,h1,k⟩:=h;refine⟨_,aB (rX (acF Õ tE hf ó afN Ê Ê)) (aB (acI Û á rfl) (aD (acK Û è rfl))),?_⟩;refine⟨_,rfl,x,CN,N,_,_,rfl,h1,T.c,_,rfl,_,rfl,x,CN,N,_,rfl,h1,T.c,T.afL,λd hd aQ=>?_⟩;refine⟨_,rfl,_,rfl,x,CN,N,d,_,_,rfl,(by rw[ao Åh];exact aq),aQ,aq,(by show 1<1000;decide),T.c,T.afM,?_⟩;refine k _ d (by rw[ao Åh,ao Åh];exact aq) aQ ?_ λb o e hb=>?_
 ·rw[aq];rfl
 ·have SW:=eK e hd;rw[ao SW,ao SW,ao hb];exact e
def mf:Nat->fX->di->Except (Nat×Nat) fX
 |_,m,[]=>.ok m
 |i,m,w::r=>match jR w with
  |none=>.error (1,i)
  |some t=>if du m t.sort=true then mf (i+1) (qV m t) r else .error (2,i)
def gW(bC:LI):Except (Nat×Nat) fX:=match mf 0 ⟨0,[],[]⟩ (JM.aI 10 bC).dropLast with
 |.error e=>.error e
 |.ok m=>if bC=[]\/(JM.aI 10 bC).getLastD []≠[] then .error (1,(JM.aI 10 bC).dropLast.length) else if qd m=true then .ok m else .error (2,(JM.aI 10 bC).dropLast.length)
inductive SX(K:FR)(C:Cs)(CN:Addr)(vs:au)(H:Hp)(Q:VK)(E:XK):Prop
 |mk (ap:Addr) (bC:LI) (_:vs=[.ref ap]) (_:â ap (iv bC)) (_:bC.length<=66000) (_:(∀m,gW bC=.ok m->∀H' p,ai H H'->Lies H' Ág->p.m=m->Q Âw H')) (_:∀e,gW bC=.error e->∀H' d,ai H H'->H' d=some (uu d (K1 e.1 e.2))->E (.ref CN) (some d) H')
def SY{w l:LI}(h:jQ w=some l):l.length=4:=by
 unfold jQ at h;split at h
 ·rename_i e;unfold jB at h;grind
 ·cases h
def afQ{w l:LI}(h:jR w=some (.row l)):l.length=4:=by
 unfold jR at h;split at h
 ·cases h
 ·split at h
  ·simp_all
  ·split at h
   ·simp_all
   ·cases e:jQ w with
    |none=>simp_all
    |some l'=>
     rw[e] at h;have z:=aN h;injection z with z;subst z;exact SY e
def drop_cons{α:Type}{l:List α}{i:Nat}{x:α}(h:l[i]? =some x):l.drop i=x::l.drop (i+1):=by
 obtain⟨hl,e⟩:=bO.mp h;rw[List.drop_eq_getElem_cons hl,e]
theorem eB.get{H:Hp}:∀{qs:LA}{L:di}{i:Nat}{q:Addr},eB H qs L->qs[i]? =some q->∃l,L[i]? =some l/\H q=some ň:=by
 intro qs L i q h0;induction h0 generalizing i with
 |nil=>intro h;simp at h
 |cons r t ih=>
  intro h;cases i with
  |zero=>
   have e:=aN h;subst e;exact⟨_,rfl,r⟩
  |succ i=>exact ih h
def zp:bH ["text","lines","rest","plate","number","line","told"] ["text"] (aV JS):=cw
inductive RpI(C:Cs)(ap pl qr x:Addr)(Hb:Hp)(L:di)(i:Nat)(σ:L2.St)(H':Hp):Prop
 |mk (p:eP) (v4 v5 v6:Option V) (_:σ=[some Èr,some (.ref pl),some (.ref qr),some Ŝ,v4,v5,v6]) (_:ai Hb H') (_:Rep C H' p) (_:p.a=x) (_:(∀b,b∈(eI C p).map (·.1)->Hb b=none)) (_:mf 0 ⟨0,[],[]⟩ L=mf i p.m (L.drop i))
def afS{f:Addr}{fd:FD}(F:br K "read_plate" "read_plate" JS f fd)(T:ma K C)(tL:mg "len"=none)(tE:mg "enumerate"=none)(cL:Cn mg "LINE_END" (.int 10))(cN:Cn mg "NO_SUCH_LINE" ŝ)(cW:Cn mg "WRONG_PLACE" (.int 2))(dC:Ç 1 "cut" ["text","mark"] (vP K)) (dP:ă "Plate" C.P ["side","classes","glimpses"]) (dN:SV P w K mg base CN N) (dR:Ç 5 "read_line" ["line"] (SG K)) (dM:Ç 3 "may_stand" ["plate","sort"] (SM C))(dU:Ç 3 "put" ["plate","sort","told"] (SO C)) (dW:Ç 3 "has_whole_hoists" ["plate"] (qe C qd)):Ì ė 6 f fd ["text"] (SX K C CN):=by
 obtain⟨fN,SZ,TN,iN,EX,GN,bN⟩:=dN;refine F.qO zp Â;obtain⟨ap,bC,rfl,hT,hl,k1,k2⟩:=h;have sA:dv 2 _:=hr.mono Ú;refine⟨_,aB (cj 1 zp.nd (bz (hr:=hr) dC (ae Û (ae (b9 cL) ag))))
  (aB (cj 2 zp.nd (Qp PySem.F.plainAttrs_list PySem.F.slot_list_pop PySem.F.type_list_pop Qr á))
  (aB (cj 3 zp.nd (p7 dP hr (ae bo (ae Ĵ Än))))
  (aB (m9 (Re xt) rfl (kY Õ tE Œ) (iE 4 5 zp.nd)
   (aB (cj 6 zp.nd (bz (hr:=hr) dR ţ))
   (aB (dq (ot (qD Ãl)) (aD (jP hr.hd TN.c (ı bN .nil so (ae (b9 cN) ϡ)))) d7)
   (aB (dq (pG (jx (bz (hr:=hr) dM (ae ø (ae Åp ag))))) (aD (jP hr.hd TN.c (ı bN .nil so (ae (b9 cW) ϡ)))) d7)
   (aD (rX (bz (hr:=hr) dU (ae ø (ae Åp (ae Åp ag))))))))))
  (aB (dq (PW.pt (pw_or (cI Ϫ Û Ĵ (bT _)) (pw_or1 (cI (Bq hr.units) è Ĵ (bT _)))))
   (aD (jP hr.hd TN.c (ı bN .nil so (ae (b9 cN) (ae ý ag))))) d7)
  (aB (dq (pG (jx (bz (hr:=hr) dW ĳ)))
   (aD (jP hr.hd TN.c (ı bN .nil so (ae (b9 cW) (ae ý ag))))) d7)
  (aD (aY ø))))))),?_⟩
 refine⟨_,rfl,ap,10,bC,rfl,hT,gQ hl Ú,λH1 pl qs hN hp nd np hf=>?_⟩;obtain⟨gD,qr,rfl,uD,xI⟩:=eB.last hp (JM.lJ 10 bC);have s1:=hN.1;refine⟨_,rfl,.inl ⟨rfl,_,aa.of hN.2.2⟩,pl,_,V.ref qr,rfl,rfl,hN.2.2,?_,?_⟩
 ·simp
 have eL:(((gD++[qr]).map V.ref).dropLast)=gD.map V.ref:=by rw[bX];simp
 rw[eL];have K3:=λz=>np (Ar _ z);have K4:qr≠pl:=λz=>np É;generalize hL:(JM.aI 10 bC).dropLast=L at uD;generalize hRest:(JM.aI 10 bC).getLastD []=rst at xI;have sb:ai H ō:=fm s1 hN.2.1;have zq:eB ō gD L:=eB.upd uD K3;have rb:(ō) qr=some (.lst (iv rst)):=by rw[ao K4];exact xI
 have lb:(ō) pl=some þ:=aq;generalize ō=Hb at sb zq rb lb;have aqa:L.length<=66000:=by
  rw[<-hL,X7];have:=EF 10 bC;omega
 have S2:=zq.len;have afT:∀w∈L,w.length<=100000:=λw hw=>by
  have:=xF 10 bC w (by rw[<-hL] at hw;exact Aw _ hw);omega
 have pM:gW bC=match mf 0 ⟨0,[],[]⟩ L with
   |.error e=>.error e
   |.ok m=>if bC=[]\/rst≠[] then .error (1,L.length) else if qd m=true then .ok m else .error (2,L.length):=by
  unfold gW;rw[hL,hRest]
 have BF:∀(kk ll:Nat)(Hx:Hp),gW bC=.error (kk,ll)->ai H Hx->([V.int (kk:Nat),V.int (ll:Nat)]:au).length<=sizeLine/\∀x,Hx x=none->
   K2 CN (V.ref x::([V.int (kk:Nat),V.int (ll:Nat)]++[])) (upd Hx x (exc CN none .none x)) (λv H2=>v=.aJ/\∃a od,V.ref x=V.ref a/\H2 a=some (exc CN od .none a)/\(∀d,od=some d->d≠a)/\E (.ref CN) od H2) E0:=λkk ll Hx e sx=>
  ⟨(by show 2<=sizeLine;decide),λx hx=>⟨x,kk,ll,rfl,aq,λH5 d h1 aQ h2 kp=>⟨rfl,x,some d,rfl,h1,λd' e'=>(by cases e';exact aQ),k2 _ e H5 d (λb o eb=>kp b o (by rw[ao (eK (sx _ _ eb) hx)];exact sx _ _ eb) (eK (sx _ _ eb) hx)) h2⟩⟩⟩
 refine⟨dY _,λl1 eY=>⟨dY _,λl2 ji=>?_⟩⟩;intro x dx hx i5 S3;refine⟨x,dx,_,rfl,rfl,aq,λH4 h4 k4=>ŕ⟩;have t1:ai Hb (upd Hb l1 ã):=aL eY;have t2:ai Hb (upd (upd Hb l1 ã) l2 ã):=fm t1 (t1.free ji);have t4:=ai.made hx i5 k4;have t5:=t2.trans t4;have S4:l1≠l2:=λz=>by rw[<-z,aq] at ji;cases ji
 have nx2:l2≠x:=λz=>by rw[<-z,aq] at hx;cases hx
 have nx1:l1≠x:=λz=>by rw[<-z,ao S4,aq] at hx;cases hx
 have R0:Rep C H4 ⟨x,dx,l1,l2,0,[],[]⟩:=by
  refine⟨λy hy=>?_,?_⟩
  ·have hy:=hy;rcases ba.mp hy with rfl|hy
   ·exact h4
   ·rcases ba.mp hy with rfl|hy
    ·exact t4 _ _ (by rw[ao S4];exact aq)
    ·obtain rfl:=mV.mp hy;exact t4 _ _ aq
  ·show([x,l1,l2]:LA).Nodup;grind
 have F0:∀b,b∈(eI C ⟨x,dx,l1,l2,0,[],[]⟩).map (·.1)->Hb b=none:=λb hb=>by
  have hb:b=x\/b=l1\/b=l2:=by simpa [eI] using hb
  rcases hb with rfl|rfl|rfl
  ·exact t2.free hx
  ·omega
  ·exact t1.free ji
 refine⟨_,rfl,pl,_,rfl,aa.of (t5 _ _ lb),acY (K:=K) (a:=pl) (xs:=gD.map V.ref)
  (RpI C ap pl qr x Hb L)
  ⟨⟨x,dx,l1,l2,0,[],[]⟩,none,none,none,rfl,t5,R0,rfl,F0,rfl⟩ (λi σ H' _ h=>(by obtain⟨_,_,_,_,_,sx⟩:=h;exact aa.of (sx _ _ lb))) ?_ ?_⟩
 ·rintro i y TT σ H' hi ⟨p,v4,v5,v6,rfl,sx,R,zm,pK,sC⟩ vG;obtain⟨q,hq,rfl⟩:∃q,gD[i]? =some q/\y=V.ref q:=by
   grind
  obtain⟨wd,hw,hqw⟩:=eB.get zq hq;have sT:=fm (o:=.tup [.int (i:Nat),.ref q]) sx (sx.free vG);have S5:ai H' (upd H' TT (.tup [.int (i:Nat),.ref q])):=aL vG;rw[drop_cons hw] at sC;refine⟨TT,_,rfl,bu.of aq,rfl,_,_,rfl,_,_,rfl,rfl,_,rfl,q,wd,rfl,aa.of (sT _ _ hqw),afT wd (bZ hw),λH3 v s3 EY=>?_⟩;have S6:=sT.trans s3;have s3H:=sb.trans S6;cases zr:jR wd with
  |none=>
   rw[zr] at EY;obtain rfl:v=.aJ:=EY;have er:gW bC=.error (1,i):=by
    rw[pM,sC];unfold mf;simp_all
   exact⟨_,rfl,_,rfl,ite_yes rfl ⟨_,rfl,BF 1 i H3 er s3H⟩⟩
  |some t=>
   rw[zr] at EY;obtain⟨q2,y2,rfl,xA,K5,ta⟩:=EY;have L3:=R.lies.same (S5.trans s3);refine⟨_,rfl,_,rfl,ite_no Ä ⟨_,rfl,_,rfl,q2,_,0,_,rfl,rfl,bu.of K5,rfl,p,t.sort,É,L3,λH5 s5=>đ⟩⟩;have S7:=S6.trans s5;have s5H:=sb.trans S7;refine a8 (λhm=>?_) (λhm=>?_)
   ·simp at hm;have er:gW bC=.error (2,i):=by
     rw[pM,sC];unfold mf;simp_all
    exact⟨_,rfl,BF 2 i H5 er s5H⟩
   ·simp at hm;have R5:Rep C H5 p:=⟨L3.same s5,R.nd⟩;refine⟨_,rfl,_,rfl,q2,_,0,_,rfl,rfl,bu.of (s5 _ _ K5),rfl,_,rfl,q2,_,1,_,rfl,rfl,bu.of (s5 _ _ K5),rfl,p,t,y2,upd H' TT (.tup [.int (i:Nat),.ref q]),(by rw[zm];rfl),R5,s3.trans s5,R.lies.same S5,ta.same s5,
     λl e=>afQ (by rw[zr,e]),hm,λH6 p' e1 e2 R6 kf kn=>?_⟩
    refine⟨p',_,_,_,rfl,λb o eb=>kf b o (S7 _ _ eb) (λz=>by grind),R6,e1.trans zm,λb hb=>?_,?_⟩
    ·rcases kn b hb with z|z
     ·grind
     ·exact sT.free z
    ·rw[sC,e2];rw[show mf i p.m (wd::L.drop (i+1))=(match jR wd with
      |none=>.error (1,i)
      |some t=>if du p.m t.sort=true then mf (i+1) (qV p.m t) (L.drop (i+1)) else .error (2,i)) from rfl,zr]
     simp_all
 ·rintro σ H' ⟨p,v4,v5,v6,rfl,sx,R,zm,pK,sC⟩;have sH:=sb.trans sx;rw[aA,S2,List.drop_length] at sC;have sC:mf 0 ⟨0,[],[]⟩ L=.ok p.m:=sC;rw[sC] at pM;dsimp only at pM;have K6:(((gD.map V.ref).length:Nat):Int)=((L.length:Nat):Int):=by rw[aA,S2]
  refine⟨_,rfl,dY _,λe1 n1=>?_⟩;have EZ:=fm (o:=.lst []) sH (sH.free n1);have K7:=fm (o:=.lst []) sx (sx.free n1);refine⟨ap,e1,_,rfl,rfl,EZ.seq hT,aa.of aq,_,rfl,a8 Ï Ï⟩
  ·have hc:bC=[]:=by
    simp_all
   have er:gW bC=.error (1,L.length):=by rw[pM,af (.inl hc)]
   refine⟨_,rfl,pl,_,rfl,.inl (aa.of (K7 _ _ lb)),?_⟩;rw[K6];exact BF 1 L.length _ er EZ
  ·have hc:¬bC=[]:=λz=>hc É;refine⟨_,rfl,dY _,λe2 n2=>?_⟩;have K8:=fm (o:=.lst []) EZ (EZ.free n2);have K9:=fm (o:=.lst []) K7 (K7.free n2);refine⟨qr,e2,_,rfl,rfl,aa.of (K9 _ _ rb),aa.of aq,_,rfl,a8 Ě Ě⟩
   ·have hd:rst≠[]:=λz=>by rw[z] at hd;exact absurd hd Ú
    have er:gW bC=.error (1,L.length):=by rw[pM,af (.inr hd)]
    refine⟨_,rfl,pl,_,rfl,.inl (aa.of (K9 _ _ lb)),?_⟩;rw[K6];exact BF 1 L.length _ er K8
   ·have hd:rst=[]:=by
     simp_all
    have A1:¬(bC=[]\/rst≠[]):=λz=>z.elim hc (λz=>z hd);rw[ah A1] at pM;have Lx:Lies _ Ág:=(R.lies.same (aL (o:=.lst []) n1)).same (aL (o:=.lst []) n2);refine⟨_,rfl,p,É,Lx,λH3 s3=>đ⟩;refine a8 (λhw=>?_) (λhw=>?_)
    ·simp at hw;have er:gW bC=.error (2,L.length):=by rw[pM,hw];rfl
     refine⟨_,rfl,pl,_,rfl,.inl (aa.of (s3 _ _ (K9 _ _ lb))),?_⟩;rw[K6];exact BF 2 L.length _ er (K8.trans s3)
    ·simp at hw;rw[af hw] at pM;refine đ;have q:=k1 p.m pM H3 p (K8.trans s3) (Lx.same s3) rfl;simp_all
end
def zt:Str:="ABCDEFGHIJKLMNOPQRSTUVWXYZ0123456789"
def iH(part:LI):Bool:=decide (1<=part.length)&&(decide (part.length<=8)&&part.all λb=>(codes zt).contains b)
inductive La(K:FR)(vs:au)(H:Hp)(Q:VK)(E':XK):Prop
 |mk (ap:Addr) (part:LI) (_:vs=[.ref ap]) (_:â ap Ây) (_:part.length<=100000) (_:∀H',ai H H'->Q (.bl (iH part)) H')
section
variable{P:Pg}{w:Wd}{K:FR}{mg:MG}{base:Heap}
def afX:bH ["part"] ["part"] (aV JG):=cw
def afY(F:br K "is_name" "is_name" JG f fd)(tL:mg "len"=none)(cL:Cn mg "LONGEST_NAME" (.int 8))(cN:Cn mg "NAME_SIGNS" (.str zt))(dP:Ç 2 "places_in" ["signs","part"] (EI K)):Ì aE 3 f fd ["part"] (La K):=by
 refine F.ok afX Â;obtain⟨ap,part,rfl,hP,hl,k⟩:=h;refine⟨_,aD (aY (ud (PY w8 w8 bo Ć (b9 cL))
  (rV (Pu (HF (bz (hr:=hr) dP (ae (b9 cN) ó))))))),?_⟩
 have e1:decide ((1:Int)<=(((iv part).length:Nat):Int))=decide (1<=part.length):=by
  grind
 have e2:decide ((((iv part).length:Nat):Int)<=8)=decide (part.length<=8):=by
  grind
 have q:=k;unfold iH at q;refine⟨_,rfl,ap,_,rfl,.inl hP,_,_,rfl,rfl,_,rfl,?_⟩;rw[e1];refine a8 Ï Ï
 ·refine⟨_,_,rfl,rfl,_,rfl,?_⟩;rw[e2];refine a8 Ě Ě
  ·rw[hc,hd,lR,lR] at q;refine⟨_,rfl,zt,ap,part,rfl,by decide,hP,hl,λz H' s1=>?_,λl z H' p hN=>?_⟩
   ·have q:=q _ s1;unfold jB at z;grind
   ·have q:=q _ hN.1;unfold jB at z;grind
  ·have hd:decide (part.length<=8)=false:=by simpa using hd
   rw[hd,lu,yr] at q;exact q _ Ŷ
 ·have hc:decide (1<=part.length)=false:=by simpa using hc
  rw[hc,lu] at q;exact⟨_,rfl,q _ Ŷ⟩
def fg(t:LI)(line:LI):Option LI:=match JM.aI 32 line with
 |[a,b]=>if a=t/\iH b=true then some b else none
 |_=>none
inductive Lb(K:FR)(vs:au)(H:Hp)(Q:VK)(E':XK):Prop
 |mk (x:Str) (ap:Addr) (line:LI) (_:vs=[.str x,.ref ap]) (_:x.cps.size<=100000) (_:â ap Åu) (_:line.length<=100000) (_:∀H' v,ai H H'->LstAt H H' (fg Ş line) v->Q v H')
theorem afZ(h:l.length=2):∃a b,l=[a,b]:=by
 match l,h with
 |[a,b],_=>exact⟨a,b,rfl⟩
def S8:bH ["title","line","words"] ["title","line"] (aV JH):=cw
def af0(F:br K "name_behind" "name_behind" JH f fd)(tL:mg "len"=none)(cB:Cn mg "BLANK" Åx)(dC:Ç 1 "cut" ["text","mark"] (vP K)) (dS:Ç 1 "spelled" ["written"] BA) (dN:Ç 3 "is_name" ["part"] (La K)):
  a7 P w K mg base aE 4 f fd ["title","line"] (Lb K):=by
 refine F.ok S8 Â;obtain⟨x,ap,line,rfl,hx,hP,hl,k⟩:=h;have uA:dv 1 _:=hr.mono Ú;refine⟨_,aB (cj 2 S8.nd (bz (hr:=uA) dC (ae á ϭ)))
  (aB (dq (PW.pt (pw_or (cI vq ü bo (bT _))
    (pw_or (cI (RB hr.units) Àp (bz (hr:=uA) dS ó) (bT _))
    (pw_or1 (pG (jx (bz (hr:=hr) dN (ae Àp ag)))))))) ŷ d7)
  (aD (aY Àp))),?_⟩
 refine⟨_,rfl,ap,32,line,rfl,hP,hl,λH1 p qs hN hp nd np hf=>?_⟩;have cK:((qs.map V.ref).length:Int)=((JM.aI 32 line).length:Nat):=by rw[aA,hp.len]
 have s1:=hN.1;refine⟨_,rfl,p,_,rfl,.inl (aa.of hN.2.2),rfl,_,rfl,a8 Ï Ï⟩
 ·refine k H1 .aJ s1 ?_;have:fg Ş line=none:=by
   unfold fg;grind
  rw[this];rfl
 ·have h2:(JM.aI 32 line).length=2:=by
   grind
  obtain⟨a,b,e2⟩:=afZ h2;rw[e2] at hp;have en:fg Ş line=if a=codes x/\iH b=true then some b else none:=by unfold fg;rw[e2]
  have KN:∀w∈[a,b],w.length<=100000:=λw hw=>gQ (xF 32 line w É) hl;obtain⟨qa,qb,rfl⟩:∃x y,qs=[x,y]:=by
   have:=hp.len
   match qs,this with
   |[x,y],_=>exact⟨x,y,rfl⟩
  cases hp with
  |cons ha hp=>
   cases hp with
   |cons hb hp=>
    refine⟨_,rfl,p,_,0,V.ref qa,rfl,rfl,aa.of hN.2.2,rfl,_,rfl,x,rfl,hx,λH2 p2 md=>?_⟩;have s2:=s1.trans md.1;refine⟨qa,p2,a,codes x,rfl,rfl,aa.of (md.1 _ _ ha),aa.of md.2.2,_,rfl,a8 Ě Ě⟩
    ·refine k H2 .aJ s2 ?_;simp at hd;rw[en,ah (λz=>hd z.1)];rfl
    ·simp at hd;refine⟨_,rfl,p,_,1,V.ref qb,rfl,rfl,aa.of (md.1 _ _ hN.2.2),rfl,qb,b,rfl,aa.of (md.1 _ _ hb),KN b Ä,λH3 s3=>đ⟩;refine a8 (λhn=>?_) (λhn=>?_)
     ·have hn:¬iH b=true:=by simpa using hn
      refine k H3 .aJ Į ?_;rw[en,ah (λz=>hn z.2)];rfl
     ·simp at hn;refine⟨_,rfl,p,_,1,V.ref qb,rfl,rfl,aa.of (s3 _ _ (md.1 _ _ hN.2.2)),rfl,?_⟩;refine k H3 (.ref qb) Į ?_;rw[en,af ⟨hd,hn⟩];exact⟨qb,rfl,hf qb Ä,s3 _ _ (md.1 _ _ hb)⟩
def jD(bC:LI):Option di:=if (JM.aI 10 bC).getLastD []=[] then some (JM.aI 10 bC).dropLast else none
def af1(H H':Hp):Option di->V->Prop
 |none,v=>v=.aJ
 |some L,v=>∃p qs,v=.ref p/\H p=none/\H' p=some ď/\eB H' qs L/\(∀q∈qs,H q=none)
inductive Lc(K:FR)(vs:au)(H:Hp)(Q:VK)(E':XK):Prop
 |mk (ap:Addr) (bC:LI) (_:vs=[.ref ap]) (_:â ap (iv bC)) (_:bC.length<=100000) (_:∀H' v,ai H H'->af1 H H' (jD bC) v->Q v H')
def Ld:bH ["text","lines","rest"] ["text"] (aV JC):=cw
def af2(F:br K "whole_lines" "whole_lines" JC f fd)(cL:Cn mg "LINE_END" (.int 10))(dC:Ç 1 "cut" ["text","mark"] (vP K)):
  a7 P w K mg base aE 2 f fd ["text"] (Lc K):=by
 refine F.ok Ld Â;obtain⟨ap,bC,rfl,hP,hl,k⟩:=h;refine⟨_,aB (cj 1 Ld.nd (bz (hr:=hr) dC (ae Û (ae (b9 cL) ag))))
  (aB (cj 2 Ld.nd (Qp PySem.F.plainAttrs_list PySem.F.slot_list_pop PySem.F.type_list_pop Qr á))
  (aD (aY (rW (cI Ϫ è Ĵ (bT _)) á qC)))),?_⟩
 refine⟨_,rfl,ap,10,bC,rfl,hP,hl,λH1 pl qs hN hp nd np hf=>?_⟩;obtain⟨gD,qr,rfl,uD,xI⟩:=eB.last hp (JM.lJ 10 bC);have s1:=hN.1;refine⟨_,rfl,.inl ⟨rfl,_,aa.of hN.2.2⟩,pl,_,V.ref qr,rfl,rfl,hN.2.2,?_,?_⟩
 ·simp
 have eL:(((gD++[qr]).map V.ref).dropLast)=gD.map V.ref:=by rw[bX];simp
 rw[eL];have K3:=λz=>np (Ar _ z);have K4:qr≠pl:=λz=>np É;have sb:ai H ō:=fm s1 hN.2.1;have zq:=eB.upd (o:=.lst (gD.map V.ref)) uD K3;have rb:(ō) qr=some (.lst (iv ((JM.aI 10 bC).getLastD []))):=by rw[ao K4];exact xI
 have lb:(ō) pl=some þ:=aq;generalize ō=Hb at sb zq rb lb;refine⟨_,rfl,dY _,λe1 n1=>?_⟩;have s2:=fm (o:=.lst []) sb (sb.free n1);have Le:ai Hb (upd Hb e1 ã):=aL n1;refine⟨qr,e1,_,rfl,rfl,aa.of (Le _ _ rb),aa.of aq,_,rfl,a8 Ï Ï⟩
 ·have hc:(JM.aI 10 bC).getLastD []=[]:=by simpa using hc
  refine⟨_,rfl,k _ _ s2 ?_⟩;unfold jD;rw[af hc];exact⟨pl,gD,rfl,hN.2.1,Le _ _ lb,zq.same Le,λq hq=>hf q (Ar _ hq)⟩
 ·have hc:¬(JM.aI 10 bC).getLastD []=[]:=by simpa using hc
  refine k _ _ s2 ?_;unfold jD;rw[ah hc];rfl
end
structure gX where
 role:Nat
 name:LI
 jT:Int
 copies:Int
 shape:Nat
 look:LI
abbrev aF:=List gX
structure az where
 a:Addr
 dx:Addr
 nm:Addr
 lk:Addr
 m:gX
def vT(k:az):List (Str×V):=[("role",.int (k.m.role:Nat)),("name",.ref k.nm),("which",.int k.m.jT),("copies",.int k.m.copies),("shape",.int (k.m.shape:Nat)),("look",.ref k.lk)]
def jU(C:Addr)(k:az):jl:=[(k.a,.ins C k.dx (vT k)),(k.nm,.lst (iv k.m.name)),(k.lk,.lst (iv k.m.look))]
def vU(k:az):(vT k).lookup ("role":Str)=some (.int (k.m.role:Nat)):=il
def S9(k:az):(vT k).lookup ("name":Str)=some (.ref k.nm):=(fY Ê).trans il
def Lf(k:az):(vT k).lookup ("which":Str)=some (.int k.m.jT):=(fY Ê).trans ((fY Ê).trans il)
def Lg(k:az):(vT k).lookup ("copies":Str)=some (.int k.m.copies):=(fY Ê).trans ((fY Ê).trans ((fY Ê).trans il))
def Ta(k:az):(vT k).lookup ("shape":Str)=some (.int (k.m.shape:Nat)):=(fY Ê).trans ((fY Ê).trans ((fY Ê).trans ((fY Ê).trans il)))
def Tb(k:az):(vT k).lookup ("look":Str)=some (.ref k.lk):=(fY Ê).trans ((fY Ê).trans ((fY Ê).trans ((fY Ê).trans ((fY Ê).trans il))))
structure uE where
 a:Addr
 dx:Addr
 nm:Addr
 kl:Addr
 name:LI
 kinds:List az
def E1(l:uE):List (Str×V):=[("name",.ref l.nm),("kinds",.ref l.kl)]
def zu(C:Addr)(ks:List az):jl:=ks.flatMap (jU C)
def af3(l:uE):(E1 l).lookup ("name":Str)=some (.ref l.nm):=il
def E2(l:uE):(E1 l).lookup ("kinds":Str)=some (.ref l.kl):=(fY Ê).trans il
structure sD(K:FR)(C:Addr):Prop where
 c:kO K C
 vV:Ϧ "role"
 nName:Ϧ "name"
 Lh:Ϧ "which"
 Li:Ϧ "copies"
 zj:Ϧ "shape"
 Tc:Ϧ "look"
structure LkT(K:FR)(C:Addr):Prop where
 c:kO K C
 nName:Ϧ "name"
 aqd:Ϧ "kinds"
structure mh(K:FR)(mg:MG)(x:Str)(C N:Addr):Prop where
 c:XC K C N
 nG:PySem.W.nsIn K N "__init__"=some none
 mC:mg x=some ā
 keep:PySem.W.keepIn K ā=true
section
variable{P:Pg}{w:Wd}{K:FR}{mg:MG}{base:Heap}{C CN N:Addr}
abbrev No(E:XK)(C:Addr)(H:Hp):Prop:=∀H',ai H H'->E ā none H'
def No.go(h:No E C H)(s:ai H H1):No E C H1:=λH2 s2=>h H2 (s.trans s2)
def gJ(h:No E C H):∀x,H x=none->∃(a:Addr)(od:OA),V.ref x=V.ref a/\Áe ŏ a=some (exc C od .none a)/\(∀d,od=some d->d≠a)/\E ā od (Áe ŏ):=
 λx hx=>⟨x,none,rfl,aq,λd z=>(by cases z),h _ (aL hx)⟩
inductive Lj(K:FR)(CN:Addr)(vs:au)(H:Hp)(Q:VK)(E:XK):Prop
 |mk (ap:Addr) (part:LI) (_:vs=[.ref ap]) (_:â ap Ây) (_:part.length<=100000) (_:(iH part=true->∀H',ai H H'->Q Èr H')) (_:(iH part=false->No E CN H))
def af5:bH ["word"] ["word"] (aV JJ):=cw
def af6(F:br K "read_name" "read_name" JJ f fd)(X:ž "NoLocker" CN N)(dN:Ç 3 "is_name" ["part"] (La K)):
  a7 P w K mg base ė 4 f fd ["word"] (Lj K CN):=by
 refine F.qO af5 Â;obtain⟨ap,part,rfl,hP,hl,k1,k2⟩:=h;refine⟨_,aB (dq (pG (jx (bz dN ó))) Ð d7) (aD (aY Û)),?_⟩;refine⟨_,rfl,ap,part,rfl,hP,hl,λH1 s1=>⟨_,rfl,a8 Ï Ï⟩⟩
 ·exact gJ ((k2 É).go s1)
 ·exact⟨_,rfl,k1 É H1 s1⟩
def iy(w:LI)(most:Int):Option Int:=match w with
 |[d]=>if d<49\/d>48+most then none else some (d-48)
 |_=>none
inductive Lk(K:FR)(CN:Addr)(vs:au)(H:Hp)(Q:VK)(E:XK):Prop
 |mk (ap:Addr) (part:LI) (most:Int) (_:vs=[.ref ap,.int most]) (_:â ap Ây) (_:part.length<=100000) (_:(∀d,iy part most=some d->∀H',ai H H'->Q (.int d) H')) (_:(iy part most=none->No E CN H))
def af7:bH ["word","most"] ["word","most"] (aV JK):=cw
def af8(F:br K "read_digit" "read_digit" JK f fd)(tL:mg "len"=none)(X:ž "NoLocker" CN N)(cD:Cn mg "DIGIT_ZERO" (.int 48)):
  a7 P w K mg base ė 1 f fd ["word","most"] (Lk K CN):=by
 refine F.qO af7 Â;obtain⟨ap,part,most,rfl,hP,hl,k1,k2⟩:=h;refine⟨_,aB (dq (PW.pt (pw_or (cI vq Ć bo (bT _))
   (pw_or (cI w6 Æs (eM qF (b9 cD) bo) (bT _)) (pw_or1 (cI vt Æs (eM qF (b9 cD) á) (bT _))))))
   (Ð) d7) (aD (aY (eM qG Æs (b9 cD)))),?_⟩
 refine⟨_,rfl,ap,_,rfl,.inl hP,rfl,_,rfl,a8 Ï Ï⟩
 ·have e:iy part most=none:=by
   unfold iy;grind
  exact gJ (k2 e)
 ·obtain⟨d,rfl⟩:∃d,part=[d]:=by
   match part with
   |[d]=>exact⟨d,rfl⟩
   |[]=>exact absurd (by simp[iv]) hc
   |a::b::r=>
    exfalso;apply hc;simp only[iv,aA,c7,Bool.not_eq_true',He];intro q;injection q with q;omega
  have e0:iy [d] most=if d<49\/d>48+most then none else some (d-48):=rfl;refine⟨_,rfl,ap,_,0,V.int d,rfl,rfl,hP,rfl,_,_,rfl,rfl,_,_,rfl,rfl,_,rfl,a8 Š Š⟩
  ·simp at h1;exact gJ (k2 É)
  ·simp at h1;refine⟨_,rfl,ap,_,0,V.int d,rfl,rfl,hP,rfl,_,rfl,_,_,rfl,rfl,_,_,rfl,rfl,_,rfl,a8 Ál Ál⟩
   ·simp at h2;exact gJ (k2 É)
   ·simp at h2;exact⟨_,rfl,ap,_,0,V.int d,rfl,rfl,hP,rfl,_,_,rfl,rfl,(k1 _ É H Ŷ)⟩
end
def vW{C:Addr}{ns:LS}{as:au}{H1:Hp}{Q:VK}{E:XK}(hl:as.length=ns.length)(h:∀x dx H',H1 x=none->H1 dx=none->dx≠x->H' x=some (.ins C dx (ns.zip as))->ai H1 H'->Q Ŝ H'):
  ∀x dx,H1 x=none->H1 dx=none->dx≠x->EM C ns (.ref x::(as++[])) (upd (upd H1 dx Äx) x Âg) (λv H2=>v=.aJ/\Q Ŝ H2) E:=λx dx hx hd aQ=>
 ⟨x,dx,as,by rw[jv],hl,aq,λH' e1 e2=>⟨rfl,h x dx H' hx hd aQ e1 λb o eb=>e2 b o (by rw[ao (eK eb hx),ao (eK eb hd)];exact eb) (eK eb hx)⟩⟩
theorem eB.at{H:Hp}{qs:LA}{L:di}(h:eB H qs L){j:Nat}(hj:j<L.length):∃q,q∈qs/\Äc[j]? =some Èo/\H q=some (.lst (iv (L.getD j []))):=by
 induction h generalizing j with
 |nil=>exact absurd hj Ä
 |cons r t ih=>
  cases j with
  |zero=>exact⟨_,by simp,rfl,r⟩
  |succ j=>
   obtain⟨q,a,b,c⟩:=ih (j:=j) (À hj);exact⟨q,aO _ a,b,c⟩
def Ll{α:Type}{xs:List α}{k:Nat}{v:α}(hk:0<k)(h:xs[xs.length-k]? =some v)(hl:k<=xs.length):pI xs (-(k:Int))=some v:=by
 have e:r6 xs.length (-(k:Int))=some (xs.length-k):=by
  unfold r6;grind
 unfold pI;simp_all
def uF:LS:=["sign","same","answer"]
def jE:LS:=["square","tails","long"]
def lK(r:Nat)(w:LI):Option LI:=if r=0 then (if iH w=true then some w else none) else some []
def qW(r:Nat)(w:LI):Option Int:=if r=1 then iy w 4 else some 0
def qX(r:Nat):Option LI->Option Int->Option Int->Option Nat->Option LI->Option gX
 |some n,some h,some c,some s,some l=>some ⟨r,n,h,c,s,l⟩
 |_,_,_,_,_=>none
def oH(ws:di):Option gX:=match bw ϐ Àf with
 |none=>none
 |some r=>if ws.length=(if r=2 then 4 else 5) then qX r (lK r Ō) (qW r Ō) (iy (ws.getD (ws.length-3) []) 8) (bw ÿ (ws.getD (ws.length-2) [])) (ij (ws.getD (ws.length-1) [])) else none
def iI(line:LI):Option gX:=oH (JM.aI 32 line)
def E3{b c d e}:qX r none b c d e=none:=by cases b <;> cases c <;> cases d <;> cases e <;> rfl
def E4{a c d e}:qX r a none c d e=none:=by cases a <;> cases c <;> cases d <;> cases e <;> rfl
def Lm{a b d e}:qX r a b none d e=none:=by cases a <;> cases b <;> cases d <;> cases e <;> rfl
def E5{a b c e}:qX r a b c none e=none:=by cases a <;> cases b <;> cases c <;> cases e <;> rfl
def E6{a b c d}:qX r a b c d none=none:=by cases a <;> cases b <;> cases c <;> cases d <;> rfl
def zw{ph:di}{part:LI}{r:Nat}(h:bw ph part=some r):r<ph.length:=by
 unfold bw at h;obtain⟨h1,_⟩:=O5.mp h;exact h1
inductive Ln(K:FR)(CK CN:Addr)(vs:au)(H:Hp)(Q:VK)(E:XK):Prop
 |mk (ap:Addr) (line:LI) (_:vs=[.ref ap]) (_:â ap Åu) (_:line.length<=100000) (_:(∀m,iI line=some m->∀H' k,ai H H'->k.m=m->aU H' (jU CK k)->(∀x∈jU CK k,H x.1=none)->Q (.ref k.a) H')) (_:(iI line=none->No E CN H))
section
variable{P:Pg}{w:Wd}{K:FR}{mg:MG}{base:Heap}{CK CN N:Addr}
def vX:bH ["line","words","role","name","which","copies","shape","look"] ["line"] (aV JL):=cw
def af9(h2:σ[2]? =some (some (.int (r:Nat))))(h1:σ[1]? =some (some ĥ))(hp:â p xs)(hx:xs[1]? =some (.ref q1))(hq:H q1=some (.lst (iv w1)))(hw:w1.length<=100000)(no:lK r w1=none->No E CN H) (yes:∀n,lK r w1=some n->∀Hn a,ai H Hn->Hn a=some (.lst (iv n))->(a=q1\/H a=none)->Q Ğ Hn):
  wW (ng (bU ox ŗ Äa)) (g9 (Lj K CN) [] E (bh (bU ϋ ϕ Åb) dw)) (yL dw) σ H Q:=by
 refine⟨_,h2,rfl,_,rfl,a8 Ï Ï⟩
 ·have e:r=0:=by
   simp_all
  unfold lK at no yes;rw[af e] at no;refine⟨_,h1,p,xs,1,.ref q1,rfl,rfl,hp,fT (j:=1) hx,q1,w1,rfl,aa.of hq,hw,λhn H' s'=>?_,λhn=>no É⟩;refine yes w1 ?_ H' q1 s' (s' _ _ hq) Ĉ;simp_all
 ·have e:¬r=0:=by
   simp_all
  exact⟨dY _,λx hx=>(yes [] (by unfold lK;rw[ah e]) _ x (aL hx) aq (.inr hx))⟩
def aga{K:FR}{CN:Addr}{E:XK}{σ:L2.St}{H:Hp}{Q:VK}{p:Addr}{xs:au}{r:Nat}{q1:Addr}{w1:LI}(h2:σ[2]? =some (some (.int (r:Nat))))(h1:σ[1]? =some (some ĥ))(hp:â p xs)(hx:xs[1]? =some (.ref q1))(hq:H q1=some (.lst (iv w1)))(hw:w1.length<=100000)(no:qW r w1=none->No E CN H) (yes:∀n,qW r w1=some n->∀Hn,ai H Hn->Q (.int n) Hn):
  wW (ng (bU ox ŗ Åb)) (g9 (Lk K CN) [] E (bh (bU ϋ ϕ Åb) (bh (tC (.int 4)) dw))) Äa σ H Q:=by
 refine⟨_,h2,rfl,_,rfl,a8 Ï Ï⟩
 ·have e:r=1:=by
   have:V.int (r:Nat)=V.int 1:=À hc
   injection this with this;omega
  unfold qW at no yes;rw[af e] at no yes;exact⟨_,h1,p,xs,1,.ref q1,rfl,rfl,hp,fT (j:=1) hx,q1,w1,4,rfl,aa.of hq,hw,λd hd H' s'=>yes d hd H' s',λhn=>no hn⟩
 ·have e:¬r=1:=by
   intro z;apply hc;rw[z];simp
  exact yes 0 (by unfold qW;rw[ah e]) H Ŷ
def agb{f:Addr}{fd:FD}(F:br K "read_kind" "read_kind" JL f fd)(tL:mg "len"=none)(X:ž "NoLocker" CN N)(cB:Cn mg "BLANK" Åx)(cR:Tn K mg "ROLES" (uF.map V.str))(cW:Tn K mg "WORDS_OF_ROLES" [.int 5,.int 5,.int 4])(cS:Cn mg "SIGN" ŉ) (cSa:Cn mg "SAME" ŝ) (cMS:Cn mg "MOST_SAME" (.int 4)) (cMC:Cn mg "MOST_COPIES" (.int 8)) (cSh:Tn K mg "SHAPES" (jE.map V.str))(dC:Ç 1 "cut" ["text","mark"] (vP K)) (dA:Ç 2 "place_among" ["words","part"] (EH K)) (dN:ĉ ė 4 "read_name" ["word"] (Lj K CN)) (dD:ĉ ė 1 "read_digit" ["word","most"] (Lk K CN))(dR:Ç 3 "read_colours" ["part"] (KH K)) (dK:ă "Kind" CK ["role","name","which","copies","shape","look"]):Ì ė 5 f fd ["line"] (Ln K CK CN):=by
 obtain⟨aR,mR,hR⟩:=cR;obtain⟨aW,mW,hW⟩:=cW;obtain⟨Td,mSh,hSh⟩:=cSh;obtain⟨fN,SZ,GN,mN,kN,bN⟩:=dN;obtain⟨fD,fdD,GD,mD,kD,bD⟩:=dD;refine F.qO vX Â;obtain⟨ap,line,rfl,hP,hl,k1,k2⟩:=h;have uA:dv 1 _:=hr.mono Ú;refine⟨_,aB (cj 1 vX.nd (bz (hr:=hr) dC (ae Û ϭ)))
  (aB (cj 2 vX.nd (bz (hr:=hr) dA (ae (vk (v:=.ref aR) Õ mR rfl) œ)))
  (aB (dq (PW.pt (pw_or Æj (pw_or1 (cI vq ý (cA yO (vk (v:=.ref aW) Õ mW rfl) è Ù) (bT _)))))
   (Ð) d7)
  (aB (cj 3 vX.nd (rW (cI ic è Æv (bT _)) (lY GN hr rfl mN kN bN .nil qN œ) Ĵ))
  (aB (cj 4 vX.nd (rW (cI ic è (b9 cSa) (bT _)) (lY GD uA rfl mD kD bD .nil qN (ae (cA cY á bo Ù) (ae (b9 cMS) ag))) bo))
  (aB (cj 5 vX.nd (lY GD uA rfl mD kD bD .nil qN (ae Âa (ae (b9 cMC) ag))))
  (aB (cj 6 vX.nd (bz (hr:=hr) dA (ae (vk (v:=.ref Td) Õ mSh rfl) (ae Âa ag))))
  (aB (cj 7 vX.nd (bz (hr:=hr) dR (ae Âa ag)))
  (aB (dq (PW.pt (pw_or (ot (qD Ãl)) (pw_or1 (ot (qD Ål))))) Ð d7)
  (aD (aY (p7 dK hr (ae è (ae ø (ae Ĳ (ae Äd (ae Ãl (ae Ål ag))))))))))))))))),?_⟩
 refine⟨_,rfl,ap,32,line,rfl,hP,hl,λH1 p qs hN hp nd np hf=>?_⟩;have s1:=hN.1;have hws:=λw hw=>gQ (xF 32 line w hw) hl;have ek:iI line=oH (JM.aI 32 line):=rfl;have aQ:=JM.lJ 32 line;generalize JM.aI 32 line=ws at hp hws ek aQ;have cK:(qs.map V.ref).length=ws.length:=by rw[aA,hp.len]
 have E7:∀j,(ws.getD j []).length<=100000:=λj=>by
  grind
 obtain⟨q0,BB,sE,hh0⟩:=hp.at (j:=0) (by grind);refine⟨_,rfl,p,_,0,_,rfl,rfl,aa.of hN.2.2,fT (j:=0) sE,aR,q0,uF,ws.getD 0 [],rfl,hR H1,by decide,aa.of hh0,λH2 s2=>?_⟩;have e9:=s1.trans s2;refine⟨_,rfl,_,rfl,a8 Ï Ï⟩
 ·have hc:oI (bw ϐ Àf)=V.aJ:=by simpa using hc
  have e:iI line=none:=by
   rw[ek];unfold oH;cases z:bw ϐ Àf with
   |none=>rfl
   |some i=>rw[z] at hc;cases hc
  exact gJ ((k2 e).go e9)
 ·have hc:¬oI (bw ϐ Àf)=V.aJ:=by simpa using hc
  obtain⟨r,er⟩:∃r,bw ϐ Àf=some r:=by
   cases z:bw ϐ Àf with
   |none=>rw[z] at hc;exact absurd rfl hc
   |some i=>simp
  have agk:=zw er;rw[er];have xJ:iI line=if ws.length=(if r=2 then 4 else 5) then qX r (lK r Ō) (qW r Ō) (iy (ws.getD (ws.length-3) []) 8) (bw ÿ (ws.getD (ws.length-2) [])) (ij (ws.getD (ws.length-1) [])) else none:=by
   rw[ek];unfold oH;simp_all
  have eat:pI [V.int 5,V.int 5,V.int 4] (r:Int)=some (.int ((if r=2 then 4 else 5:Nat):Int)):=by
   match r,agk with
   |0,_=>rfl
   |1,_=>rfl
   |2,_=>rfl
  refine⟨_,rfl,p,_,rfl,.inl (aa.of (s2 _ _ hN.2.2)),_,rfl,aW,_,(r:Int),_,rfl,rfl,hW H2,eat,rfl,_,rfl,a8 Ě Ě⟩
  ·have hd:¬ws.length=(if r=2 then 4 else 5):=by
    grind
   exact gJ ((k2 É).go e9)
  ·have hd:ws.length=(if r=2 then 4 else 5):=by
    grind
   rw[af hd] at xJ;have h4:4<=ws.length:=by rw[hd];split <;> decide
   have qz:=hp.same s2;have mi:=s2 _ _ hN.2.2;obtain⟨q1,Lo,zx,Te⟩:=qz.at (j:=1) Æ;obtain⟨q5,hq5,hx5,hh5⟩:=qz.at (j:=ws.length-3) Æ;obtain⟨q6,hq6,Tf,hh6⟩:=qz.at (j:=ws.length-2) Æ;obtain⟨q7,hq7,hx7,hh7⟩:=qz.at (j:=ws.length-1) Æ;refine af9 (r:=r) (w1:=ws.getD 1 []) rfl rfl (aa.of mi) zx Te (E7 1) (λz=>(k2 (by rw[xJ,z,E3])).go e9) λnm enm H3 an s3 hn3 han=>?_;refine aga (r:=r) (w1:=ws.getD 1 []) rfl rfl (aa.of (s3 _ _ mi)) zx (s3 _ _ Te) (E7 1) (λz=>(k2 (by rw[xJ,z,E4])).go (e9.trans s3)) λwh ewh H4 s4=>?_;have oE:=(e9.trans s3).trans s4;have Lp:=s3.trans s4;refine⟨_,rfl,_,rfl,p,_,_,_,rfl,rfl,aa.of (Lp _ _ mi),Ll (k:=3) Ú É Æ,q5,ws.getD (ws.length-3) [],8,rfl,aa.of (Lp _ _ hh5),E7 _,λcp ecp H5 s5=>?_,λz=>(k2 (by rw[xJ,z,Lm])).go oE⟩;have vY:=oE.trans s5;have Lq:=Lp.trans s5;refine⟨_,rfl,_,rfl,p,_,_,_,rfl,rfl,aa.of (Lq _ _ mi),Ll (k:=2) Ú É Æ,Td,q6,jE,ws.getD (ws.length-2) [],rfl,hSh H5,by decide,aa.of (Lq _ _ hh6),λH6 s6=>?_⟩;have xK:=vY.trans s6;have Tg:=Lq.trans s6;refine⟨_,rfl,_,rfl,p,_,_,_,rfl,rfl,aa.of (Tg _ _ mi),Ll (k:=1) Ú É Æ,q7,ws.getD (ws.length-1) [],rfl,aa.of (Tg _ _ hh7),E7 _,λz H7 s7=>?_,λlk elk H7 al Lr=>?_⟩
   ·have no:=(k2 (by rw[xJ,z,E6])).go (xK.trans s7);exact⟨_,rfl,_,rfl,a8 (λ_=>gJ no) (λ_=>⟨_,rfl,_,rfl,kZ (gJ no)⟩)⟩
   ·have s7:=Lr.1;refine⟨_,rfl,_,rfl,a8 (λhs=>?_) (λhs=>⟨_,rfl,_,rfl,nu ?_⟩)⟩
    ·have hs:oI (bw ÿ (ws.getD (ws.length-2) []))=V.aJ:=by simpa using hs
     have z:bw ÿ (ws.getD (ws.length-2) [])=none:=by
      cases z:bw ÿ (ws.getD (ws.length-2) []) with
      |none=>rfl
      |some i=>rw[z] at hs;cases hs
     exact gJ ((k2 (by rw[xJ,z,E5])).go (xK.trans s7))
    ·have hs:¬oI (bw ÿ (ws.getD (ws.length-2) []))=V.aJ:=by simpa using hs
     obtain⟨sh,Th⟩:∃i,bw ÿ (ws.getD (ws.length-2) [])=some i:=by
      cases z:bw ÿ (ws.getD (ws.length-2) []) with
      |none=>rw[z] at hs;exact absurd rfl hs
      |some i=>simp
     rw[Th];refine⟨_,rfl,_,rfl,_,rfl,_,rfl,_,rfl,_,rfl,vW rfl λx dx H8 hx i5 aQ e8 s8=>?_⟩;have zy:=xK.trans s7;have BG:iI line=some ⟨r,nm,wh,cp,sh,lk⟩:=by rw[xJ,enm,ewh,ecp,Th,elk];rfl
     refine k1 _ BG H8 ⟨x,dx,an,al,⟨r,nm,wh,cp,sh,lk⟩⟩ (zy.trans s8) rfl Àm λy hy=>?_
     ·simp only[jU,ba,mY,mZ] at hy;rcases hy with rfl|rfl|rfl
      ·exact e8
      ·exact s8 _ _ (s7 _ _ (s6 _ _ (s5 _ _ (s4 _ _ hn3))))
      ·exact s8 _ _ Lr.2.2
     ·simp only[jU,ba,mY,mZ] at hy;rcases hy with rfl|rfl|rfl
      ·exact zy.free hx
      ·rcases han with rfl|z
       ·simp_all
       ·exact e9.free z
      ·exact xK.free Lr.2.1
end
def Ti{K:FR}{H H':Hp}(s:ai H H'){vs:au}{ds:List PyData}(x:i3 K H vs ds):i3 K H' vs ds:=
 i3.rec (motive_1:=λv d _=>Dp K H' v d) (motive_2:=λvs ds _=>i3 K H' vs ds) .aJ .bl .int .str (λh _ r=>.lst (s.seq h) r) (λh _ r=>.tup (ai.tup s h) r) .nil (λ_ _ h r=>.cons h r) x
def agv{K:FR}{H H':Hp}(s:ai H H'){v:V}{d:PyData}(x:Dp K H v d):Dp K H' v d:=by
 cases Ti s (.cons x .nil);assumption
theorem agw{K:FR}{H:Hp}{vs:au}:∀{ds:List PyData}(n:Nat),i3 K H vs ds->i3 K H (vs.take n) (ds.take n):=by
 induction vs with
 |nil=>intro ds n h;cases h;cases n <;> exact .nil
 |cons v vs ih=>
  intro ds n h;cases h with
  |cons h r=>cases n with
   |zero=>exact .nil
   |succ n=>exact .cons h (ih n r)
theorem agx{K:FR}{H:Hp}{vs:au}:∀{ds:List PyData}{i:Nat}{v:V},i3 K H vs ds->vs[i]? =some v->∃d,ds[i]? =some d/\Dp K H v d:=by
 induction vs with
 |nil=>intro ds i v _ e;simp at e
 |cons v vs ih=>
  intro ds i v h e;cases h with
  |cons h r=>cases i with
   |zero=>
    have:=aN e;subst this;exact⟨_,rfl,h⟩
   |succ i=>have q:=ih (i:=i) r e;exact q
def Tj(xs:au){i:Nat}(h:i<=xs.length):oA xs none (some (i:Int))=xs.take i:=by
 unfold oA;rw[HT.Qb,HT.Qc,List.drop_zero,Nat.sub_zero,Nat.min_eq_left h]
def BH(xs:au)(h:i<=xs.length):oA xs (some (i:Int)) none=xs.drop i:=by
 unfold oA;rw[HT.Qb,HT.Qc,Nat.min_eq_left h];exact G4 Ä
def uG{α:Type}{ys:au}{L:List α}{g:α->V}(hl:ys.length=L.length)(h:∀(i:Nat)(y:V)(x:α),ys[i]? =some y->L[i]? =some x->y=g x):ys=L.map g:=by
 apply wO;grind
def xM{n i:Nat}{x:Nat}(h:Èn[i]? =some x):x=i:=by
 obtain⟨h1,h2⟩:=bO.mp h;rw[aps] at h2;exact h2.symm
def xN(ds:List PyData)(i:Nat):Bool:=(ds.take i).any λd=>PyData.eqv d (ds.getD i .none)
def oJ(ds:List PyData):Bool:=(List.range ds.length).any (xN ds)
inductive To(K:FR)(vs:au)(H:Hp)(Q:VK)(E':XK):Prop
 |mk (p:Addr) (xs:au) (ds:List PyData) (_:vs=[.ref p]) (_:â p xs) (_:i3 K H xs ds) (_:(∀d∈ds,SeqAt.shaped d=true)) (_:xs.length<=100000) (_:∀H',ai H H'->Q (.bl (oJ ds)) H')
section
variable{P:Pg}{w:Wd}{K:FR}{mg:MG}{base:Heap}{CK CN N:Addr}
def Ls:bH ["things","place","thing"] ["things"] (aV JQ):=cw
def agy{f:Addr}{fd:FD}(F:br K "has_twice" "has_twice" JQ f fd)(tA:mg "any"=none)(tE:mg "enumerate"=none):Ì aE 1 f fd ["things"] (To K):=by
 refine F.ok Ls Â;obtain⟨p,xs,ds,rfl,hp,hd,E8,hl,k⟩:=h;have hu:A.units+3+128<cLine:=by have:=hr.un;exact pz Ä this
 refine⟨_,aD (aY (c8 (QC rfl) Õ tA boot_any (ae (eF (own:=[("place",1),("thing",2)]) (g:=g2 K 1 2) (te:=bU (RF K) ŗ (Qi (Ql K) ό Qe (Qg ϕ))) rfl Ls.nd Ân Ë
  (λ_ _ _ _ _=>iE 1 2 Ls.nd) Ø
  (λ_ _ _ _ _=>jy (IU hu) è (xg xh Û xc (xf á)) (by with_unfolding_all rfl))) ag))),?_⟩
 refine⟨_,rfl,p,xs,rfl,hp,λD hD=>lI (K:=K) (a:=p) (xs:=xs) (cy H D λi y ns=>ns=[]/\y=.bl (xN ds i)) Ċ (λi H' _ f=>f.same.seq hp) (λi x T H' hi f hT=>?_) û⟩
 ·have d8:=(bO.mp hi).1;refine⟨T,_,rfl,bu.of aq,rfl,_,_,rfl,_,_,rfl,rfl,rfl,eO ?_⟩;have s1:ai H' (upd H' T (.tup [.int (i:Nat),x])):=aL hT;have s2:=f.same.trans s1;refine⟨_,rfl,_,rfl,_,rfl,_,rfl,p,xs,rfl,s2.seq hp,λc hc=>?_⟩;have s3:=aL (o:=.lst (oA xs none (some (i:Int)))) hc;obtain⟨d,fw,fO⟩:=agx hd hi;refine⟨c,_,ds.take i,d,rfl,aa.of aq,?_,agv Į fO,λd hd=>E8 d (Hc hd),E8 d (bZ fw),?_⟩
  ·have z:=Ti Į (agw i hd);rw[Tj xs Æ] at z⊢;omega
  ·refine f.step hD Æ Åc ŕ aU.nil Ä;unfold xN;simp_all
 ·obtain⟨ys,s1,fw,eY,fl⟩:=f.end;have ey:ys=((List.range ds.length).map (xN ds)).map V.bl:=by
   rw[cQ];refine uG (by rw[eY,g7,RH hd]) λi y x h1 h2=>?_;obtain⟨ns,⟨_,e⟩,_⟩:=fl i y h1;grind
  refine⟨D,(List.range ds.length).map (xN ds),rfl,?_,?_⟩
  ·rw[<-ey];exact aa.of fw
  ·have q:=k H' s1;unfold oJ at q;simp_all
def iJ(a b:gX):Bool:=if a.role=0/\b.role=0 then true else HT.lexLt [(a.role:Nat),a.jT] [(b.role:Nat),b.jT]
inductive Lu(CK:Addr)(vs:au)(H:Hp)(Q:VK)(E':XK):Prop
 |mk (a b:az) (_:vs=[.ref a.a,.ref b.a]) (_:aU H (jU CK a)) (_:aU H (jU CK b)) (_:∀H',ai H H'->Q (.bl (iJ a.m b.m)) H')
def jn(h:aU H (jU C k)):H k.a=some (.ins C k.dx (vT k)):=h (k.a,_) (by simp[jU])
def Tp(h:aU H (jU C k)):H k.nm=some (.lst (iv k.m.name)):=h (k.nm,_) (by simp[jU])
def Tq(h:aU H (jU C k)):H k.lk=some (.lst (iv k.m.look)):=h (k.lk,_) (by simp[jU])
def lW(n m:Nat):decide (V.int (n:Nat)=V.int (m:Nat))=decide (n=m):=by
 grind
def agz:bH ["before","kind"] ["before","kind"] (aV JO):=cw
def agA(F:br K "may_follow" "may_follow" JO f fd)(T:sD K CK)(cS:Cn mg "SIGN" ŉ):Ì aE 1 f fd ["before","kind"] (Lu CK):=by
 refine F.ok agz Â;obtain⟨a,b,rfl,ha,hb,k⟩:=h;refine⟨_,aB (dq (PW.pt (pw_and (cI ic ï Æv (bT _)) (pw_and1 (cI ic ĕ Æv (bT _))))) Âc d7)
  (aD (aY (jy (aau hr.aah) (ue (ae ï Ât)) (ue (ae ĕ (ae ĕ ag))) (bT _)))),?_⟩
 have bI:¬(a.m.role=0/\b.m.role=0)->AM (bU (Qj K) (w9 (bh (gi K ό "role") (bh (gi K ό "which") dw))) (w9 (bh (gi K ϕ "role") (bh (gi K ϕ "which") dw)))) {nx:=λ_ H'=>Q .aJ H',rt:=Q} [some (.ref a.a),some Çd] H:=λhn=>by
  refine⟨_,rfl,bj (jn ha) T.c T.vV (vU a) ⟨_,rfl,bj (jn ha) T.c T.Lh (Lf a) ⟨(by show 2<=sizeLine;decide),λt1 h1=>?_⟩⟩⟩;have s1:=aL (o:=.tup [.int (a.m.role:Nat),.int a.m.jT]) h1;refine⟨_,rfl,bj (s1 _ _ (jn hb)) T.c T.vV (vU b) ⟨_,rfl,bj (s1 _ _ (jn hb)) T.c T.Lh (Lf b) ⟨(by show 2<=sizeLine;decide),λt2 h2=>?_⟩⟩⟩;have s2:=aL (o:=.tup [.int (b.m.role:Nat),.int b.m.jT]) h2;refine⟨t1,t2,[(a.m.role:Nat),a.m.jT],[(b.m.role:Nat),b.m.jT],rfl,rfl,bu.of (s2 _ _ aq),bu.of aq,?_⟩;have q:=k _ Ày;unfold iJ at q;grind
 refine⟨_,rfl,bj (jn ha) T.c T.vV (vU a) Ģ⟩;rw[show V.int 0=V.int ((0:Nat):Int) from rfl,lW];refine a8 Š Š
 ·simp at h1;refine⟨_,rfl,bj (jn hb) T.c T.vV (vU b) Ģ⟩;rw[lW];refine a8 Ál Ál
  ·simp at h2;have q:=k H Ŷ;unfold iJ at q;rw[af ⟨h1,h2⟩] at q;exact q
  ·simp at h2;exact bI λz=>h2 z.2
 ·simp at h1;exact bI λz=>h1 z.1
end
def nH{C:Addr}{H:Hp}{ks:List az}(h:aU H (zu C ks)){k:az}(hk:k∈ks):aU H (jU C k):=λx hx=>h x (kC.mpr ⟨k,hk,hx⟩)
def agB(h:∀k∈ks,aU H (jU C k)):aU H (zu C ks):=λx hx=>by
 obtain⟨k,hk,hx⟩:=kC.mp hx;exact h k hk x hx
theorem E9{l:List az}{i:Nat}{y:V}(h:(l.map λk=>V.ref k.a)[i]? =some y):∃z,l[i]? =some z/\y=V.ref z.a:=by
 rw[bW] at h;cases e:l[i]? with
 |none=>rw[e] at h;cases h
 |some z=>rw[e] at h;exact⟨z,rfl,(aN h).symm⟩
def isSign(m:gX):Bool:=decide (m.role=0)
def nI(ms:aF):Bool:=if (ms.filter isSign).length<1\/(ms.filter isSign).length>48 then false else (ms.zip (ms.drop 1)).all λp=>iJ p.1 p.2
inductive Fb(CK:Addr)(b:aF->Bool)(vs:au)(H:Hp)(Q:VK)(E':XK):Prop
 |mk (p:Addr) (ks:List az) (_:vs=[.ref p]) (_:H p=some (.lst (ks.map λk=>V.ref k.a))) (_:aU H (zu CK ks)) (_:ks.length<=100000) (_:∀H',ai H H'->Q (.bl (b Í)) H')
def Fc{α:Type}{p:α->Bool}{l:List α}{i:Nat}{x:α}(h:l[i]? =some x):(l.take (i+1)).filter p=(l.take i).filter p++(if p x=true then [x] else []):=by
 rw[take_snoc h,Dj];congr 1;by_cases z:p x=true
 ·rw[af z];simp[z]
 ·rw[ah z];simp[z]
section
variable{P:Pg}{w:Wd}{K:FR}{mg:MG}{base:Heap}{CK CL CN N:Addr}
def zA:bH ["kinds","signs","kind","place"] ["kinds"] (aV JN):=cw
def agC{f:Addr}{fd:FD}(F:br K "are_in_order" "are_in_order" JN f fd)(T:sD K CK)(tL:mg "len"=none)(tA:mg "all"=none)(tE:mg "enumerate"=none)(cS:Cn mg "SIGN" ŉ)(cM:Cn mg "MOST_SIGNS" (.int 48))(dF:Ç 1 "may_follow" ["before","kind"] (Lu CK)):Ì aE 2 f fd ["kinds"] (Fb CK nI):=by
 refine F.ok zA Â;obtain⟨p,ks,rfl,hp,hk,hl,k⟩:=h;refine⟨_,aB (cj 1 zA.nd (c8 fU Õ tL PySem.boot_len (ae (eF (own:=[("kind",2)]) (tt:=ng (bU ox (gi K ŗ "role") Äa)) (te:=ay 2) rfl zA.nd Åg Ë
   (λ_ _ _ _ _=>dJ 2 zA.nd) (λ_ _ _ _ _=>pL (cI ic Àk Æv (bT _))) Ãy) ag)))
  (aB (dq (PW.pt (pw_or (cI w6 á bo (bT _)) (pw_or1 (cI vt á (b9 cM) (bT _))))) Âc d7)
  (aD (aY (c8 Äs Õ tA yt (ae (eF (own:=[("place",3),("kind",2)]) (g:=g2 K 3 2) (te:=g9 (Lu CK) [] E0 (bh (bU ϋ ό Ŗ) (bh ŗ dw))) rfl zA.nd
   (kY Õ tE (ae (xg xh Û (xf bo) xc) ag)) Ë
   (λ_ _ _ _ _=>iE 3 2 zA.nd) Ø
   (λ_ _ _ _ _=>bz dF (ae (cA cY Û ø Ù) Ţ))) ag))))),?_⟩
 have eo:nI Í=if (ks.filter λk=>isSign k.m).length<1\/(ks.filter λk=>isSign k.m).length>48 then false else ((ks.map az.m).zip ((ks.map az.m).drop 1)).all λp=>iJ p.1 p.2:=by
  unfold nI;rw[yu,aA];rfl
 refine⟨_,rfl,p,rfl,⟨_,aa.of hp⟩,λD hD=>gC (K:=K) (a:=p) (xs:=ks.map λk=>V.ref k.a) (λi H'=>ai H H'/\H' D=some (.lst (((ks.take i).filter λk=>isSign k.m).map λk=>V.ref k.a))) ⟨aL hD,aq⟩
  (λi H' _ ⟨s1,_⟩=>aa.of (s1 _ _ hp)) (λi y H' hi ⟨s1,hd⟩=>?_) (λH' ⟨s1,hd⟩=>?_)⟩
 ·obtain⟨z,hz,rfl⟩:=E9 hi;have d8:=(bO.mp hz).1;have xO:=(nH hk (bZ hz)).same s1;refine⟨rfl,_,rfl,bj (jn xO) T.c T.vV (vU z) Ģ⟩;rw[show V.int 0=V.int ((0:Nat):Int) from rfl,lW];have et:=Fc (p:=λk:az=>isSign k.m) hz;refine a8 Ï Ï
  ·refine⟨_,rfl,_,hd,?_,fm s1 hD,?_⟩
   ·rw[aA];have:=Hf (λk:az=>isSign k.m) (ks.take i);rw[mT] at this;exact gV Æ
   ·rw[aq,et,af (show isSign z.m=true from hc),bX];rfl
  ·refine⟨s1,?_⟩;rw[et,ah (show ¬isSign z.m=true from hc),jv];omega
 ·rw[aA,mX] at hd;refine⟨D,_,rfl,.inl (aa.of hd),?_⟩;rw[aA];generalize (ks.filter λk=>isSign k.m).length=n at eo;refine⟨_,rfl,_,_,rfl,rfl,_,rfl,a8 Š Š⟩
  ·have h1:n<1:=by
    grind
   have q:=k H' s1;rw[eo,af (Or.inl h1)] at q;exact q
  ·have h1:¬n<1:=by
    grind
   refine⟨_,rfl,_,_,rfl,rfl,_,rfl,a8 Ál Ál⟩
   ·have h2:n>48:=by
     grind
    have q:=k H' s1;rw[eo,af (Or.inr h2)] at q;exact q
   ·have h2:¬n>48:=by
     grind
    rw[ah (λz=>z.elim h1 h2)] at eo;refine⟨_,rfl,_,rfl,p,_,rfl,aa.of (s1 _ _ hp),λc hc=>?_⟩;have ex:oA (ks.map λk=>V.ref k.a) (some 1) none=(ks.drop 1).map λk=>V.ref k.a:=by
     by_cases hz:1<=ks.length
     ·rw[show(1:Int)=((1:Nat):Int) from rfl,BH _ É,O2]
     ·have:ks=[]:=by
       simp_all
      rw[this];rfl
    rw[ex];have s2:=s1.trans (aL (o:=.lst ((ks.drop 1).map λk=>V.ref k.a)) hc);have jg:(upd H' c (.lst ((ks.drop 1).map λk=>V.ref k.a))) c=some (.lst ((ks.drop 1).map λk=>V.ref k.a)):=aq;generalize upd H' c (.lst ((ks.drop 1).map λk=>V.ref k.a))=H2 at s2 jg;refine⟨c,_,rfl,aa.of jg,λD2 cJ=>lI (K:=K) (a:=c) (xs:=(ks.drop 1).map λk=>V.ref k.a) (cy H2 D2 λi y ns=>ns=[]/\∃a b,ks[i]? =some a/\ks[i+1]? =some b/\y=.bl (iJ a.m b.m)) Ão (λi H3 _ f=>aa.of (f.same _ _ jg)) (λi y Tt H3 hi f hT=>?_) Æc⟩
    ·obtain⟨b,hb,rfl⟩:=E9 hi;rw[Yb] at hb;have hb:ks[i+1]? =some b:=by rw[<-hb];congr 1;omega
     have hib:=(bO.mp hb).1;obtain⟨a,ha⟩:∃a,ks[i]? =some a:=⟨_,dm Æ⟩;have s3:ai H3 (upd H3 Tt (.tup [.int (i:Nat),.ref b.a])):=aL hT;have s4:=(s2.trans f.same).trans s3;refine Þ;exact⟨_,rfl,_,rfl,p,_,(i:Int),.ref a.a,rfl,rfl,aa.of (s4 _ _ hp),fT É,_,rfl,a,b,rfl,(nH hk (bZ ha)).same s4,(nH hk Çv).same s4,λH5 s5=>(f.step cJ Æ (s3.trans s5) ⟨rfl,a,b,ha,hb,rfl⟩ aU.nil Ä)⟩
    ·obtain⟨ys,s3,pX,Fd,fl⟩:=f.end;have hz:((ks.map az.m).zip ((ks.map az.m).drop 1)).length=ys.length:=by
      simp_all
     have ey:ys=(((ks.map az.m).zip ((ks.map az.m).drop 1)).map λp=>iJ p.1 p.2).map V.bl:=by
      rw[cQ];refine uG hz.symm λi y x h1 h2=>?_;obtain⟨ns,⟨_,a,b,ea,eb,e⟩,_⟩:=fl i y h1;grind
     refine⟨D2,_,rfl,by rw[<-ey];exact aa.of pX,?_⟩;have q:=k H3 Į;simp_all
end
theorem xP{β:Type}{v:β->V}{nd:β->jl}{H:Hp}{ys:au}:∀{R:Nat->β->Prop},IV (λi y ns=>∃b,R i b/\y=v b/\ns=nd b) H ys->∃bs:List β,ys=bs.map v/\(∀(i:Nat)(b:β),bs[i]? =some b->R i b)/\∀b∈bs,aU H (nd b):=by
 induction ys with
 |nil=>exact @λR _=>⟨[],rfl,λi b h=>by simp at h,by simp⟩
 |cons y ys ih=>
  intro R h;obtain⟨ns,⟨b,r,e,en⟩,l⟩:=h 0 y rfl;obtain⟨bs,e1,r1,l1⟩:=ih (R:=λi b=>R (i+1) b) λi z hz=>h (i+1) z hz;refine⟨b::bs,by rw[e1,e];rfl,λi c hc=>?_,λc hc=>?_⟩
  ·cases i with
   |zero=>
    have:=aN hc;subst this;exact r
   |succ i=>exact r1 i c hc
  ·rcases ba.mp hc with rfl|hc
   ·rw[<-en];exact l
   ·exact l1 c hc
theorem Tr{α:Type}{K:FR}{H:Hp}{v:α->V}{d:α->PyData}{l:List α}:(∀x∈l,Dp K H (v x) (d x))->i3 K H (l.map v) (l.map d):=by
 induction l with
 |nil=>exact @λ_=>.nil
 |cons x l ih=>
  intro h;exact .cons (h x Ä) (ih λy hy=>h y (aO _ hy))
def vZ(m:gX):PyData:=.list (m.name.map PyData.int)
def qY(m:gX):PyData:=.tuple [.int (m.shape:Nat),.list (m.look.map PyData.int)]
def oK(ms:aF):Bool:=!oJ ((ms.filter isSign).map vZ)&& !oJ Çq
def agE(m:gX):SeqAt.shaped (qY m)=true:=by
 unfold SeqAt.shaped qY;rw[jw,og];refine Áj
 ·simp only[PyData.canLay0,PyData.canLayAll0,Rz,OY]
 ·have:=RA m.look;simp only[PyData.depth,PyData.depthAll];omega
section
variable{P:Pg}{w:Wd}{K:FR}{mg:MG}{base:Heap}{CK CL CN N:Addr}
def BI:bH ["kinds","names","faces","kind"] ["kinds"] (aV JP):=cw
def agF{f:Addr}{fd:FD}(F:br K "are_different" "are_different" JP f fd)(T:sD K CK)(cS:Cn mg "SIGN" ŉ)(dT:Ç 1 "has_twice" ["things"] (To K)):Ì aE 2 f fd ["kinds"] (Fb CK oK):=by
 refine F.ok BI Â;obtain⟨p,ks,rfl,hp,hk,hl,k⟩:=h;refine⟨_,aB (uk (i:=1) (own:=[("kind",3)]) (tt:=ng (bU ox (gi K Ŗ "role") Äa)) (te:=gi K Ŗ "name") rfl BI.nd rfl rfl Õ Åg Ë
   (λ_ _ _ _ _=>dJ 3 BI.nd) (λ_ _ _ _ _=>pL (cI ic (bg ø rfl) Æv (bT _))) (λ_ _ _ _ _=>bg ø rfl))
  (aB (uk (i:=2) (own:=[("kind",3)]) (te:=w9 (bh (gi K Ŗ "shape") (bh (gi K Ŗ "look") dw))) rfl BI.nd rfl rfl Õ Åg Ë
   (λ_ _ _ _ _=>dJ 3 BI.nd) Ø (λ_ _ _ _ _=>ue (ae (bg ø rfl) (ae (bg ø rfl) ag))))
  (aD (aY (ud (AK (bz dT Œ)) (rV (AK (bz dT Ţ))))))),?_⟩
 refine⟨_,rfl,p,rfl,⟨_,aa.of hp⟩,λD hD=>gC (K:=K) (a:=p) (xs:=ks.map λk=>V.ref k.a) (λi H'=>ai H H'/\H' D=some (.lst (((ks.take i).filter λk=>isSign k.m).map λk=>V.ref k.nm))) ⟨aL hD,aq⟩
  (λi H' _ ⟨s1,_⟩=>aa.of (s1 _ _ hp)) (λi y H' hi ⟨s1,hd⟩=>?_) (λH' ⟨s1,hd⟩=>?_)⟩
 ·obtain⟨z,hz,rfl⟩:=E9 hi;have d8:=(bO.mp hz).1;have xO:=(nH hk (bZ hz)).same s1;refine⟨rfl,_,rfl,bj (jn xO) T.c T.vV (vU z) Ģ⟩;rw[show V.int 0=V.int ((0:Nat):Int) from rfl,lW];have et:=Fc (p:=λk:az=>isSign k.m) hz;refine a8 Ï Ï
  ·refine⟨_,rfl,bj (jn xO) T.c T.nName (S9 z) ⟨_,hd,?_,fm s1 hD,?_⟩⟩
   ·rw[aA];have:=Hf (λk:az=>isSign k.m) (ks.take i);rw[mT] at this;exact gV Æ
   ·rw[aq,et,af (show isSign z.m=true from hc),bX];rfl
  ·refine⟨s1,?_⟩;rw[et,ah (show ¬isSign z.m=true from hc),jv];omega
 ·rw[aA,mX] at hd;refine⟨_,rfl,p,rfl,⟨_,aa.of (s1 _ _ hp)⟩,λD2 cJ=>gC (K:=K) (a:=p) (xs:=ks.map λk=>V.ref k.a) (cy H' D2 λi y ns=>∃b:Addr×az,ks[i]? =some b.2/\y=.ref b.1/\ns=[(b.1,.tup [.int (b.2.m.shape:Nat),.ref b.2.lk])]) Ão
   (λi H2 _ f=>aa.of (f.same _ _ (s1 _ _ hp))) (λi y H2 hi f=>?_) Æd⟩
  ·obtain⟨z,hz,rfl⟩:=E9 hi;have d8:=(bO.mp hz).1;have xO:=(nH hk (bZ hz)).same (s1.trans f.same);refine⟨rfl,eO ⟨_,rfl,bj (jn xO) T.c T.zj (Ta z) ⟨_,rfl,bj (jn xO) T.c T.Tc (Tb z) ⟨(by show 2<=sizeLine;decide),λt ht=>?_⟩⟩⟩⟩;refine f.step cJ Æ (aL ht) ⟨(t,z),hz,rfl,rfl⟩ Ás λx hx=>?_
   ·have:x=(t,_):=mV.mp hx;subst this;exact aq
   ·have:x=(t,_):=mV.mp hx;subst this;exact λe=>f.has É
  ·obtain⟨ys,s2,fO,ji,fl⟩:=f.end;rw[aA] at ji;obtain⟨bs,e1,r1,l1⟩:=xP (v:=λb:Addr×az=>V.ref b.1) (nd:=λb:Addr×az=>[(b.1,.tup [.int (b.2.m.shape:Nat),.ref b.2.lk])]) (R:=λi b=>ks[i]? =some b.2) fl;have e9:=s1.trans s2;have eb:bs.map (·.2)=ks:=by
    apply wO;grind
   have gO:∀{H3:Hp},ai H2 H3->i3 K H3 ys ((ks.map az.m).map qY):=λ{H3}s3=>by
    rw[e1,<-eb,cQ,cQ];refine Tr λb hb=>?_;have wa:b.2∈ks:=by rw[<-eb];exact apw hb
    refine .tup (bu.of (s3 _ _ (l1 b hb (b.1,_) (mV.mpr rfl)))) (.cons (.int _) (.cons (.lst (aa.of (s3 _ _ (e9 _ _ (Tq (nH hk wa))))) (qQ _)) .nil))
   have ef:(ks.map az.m).filter isSign=(ks.filter λk=>isSign k.m).map az.m:=by
    rw[yu];rfl
   refine⟨_,rfl,D,_,((ks.filter λk=>isSign k.m).map az.m).map vZ,rfl,aa.of (s2 _ _ hd),?_,?_,?_,λH3 s3=>⟨_,rfl,_,rfl,?_⟩⟩
   ·rw[cQ];exact Tr λb hb=>(.lst (aa.of (e9 _ _ (Tp (nH hk ((j8.mp hb).1))))) (qQ _))
   ·intro d hd;obtain⟨m,_,rfl⟩:=cf.mp hd;exact shaped_ints _
   ·grind
   ·have q:=k;unfold oK at q;rw[ef] at q;refine a8 Ï Ï
    ·rw[hc] at q;refine⟨_,rfl,D2,_,(ks.map az.m).map qY,rfl,aa.of (s3 _ _ fO),gO s3,λd hd=>?_,by omega,λH4 s4=>⟨_,rfl,q H4 ((e9.trans s3).trans s4)⟩⟩;obtain⟨m,_,rfl⟩:=cf.mp hd;exact agE m
    ·have hc:(!oJ (((ks.filter λk=>isSign k.m).map az.m).map vZ))=false:=by simpa using hc
     rw[hc,lu] at q;exact q H3 (e9.trans s3)
end
def gE:di->Option aF
 |[]=>some []
 |l::r=>match iI l,gE r with
  |some m,some ms=>some (m::ms)
  |_,_=>none
theorem Ts{r:di}:∀{l:LI},l∈r->iI l=none->gE r=none:=by
 induction r with
 |nil=>intro l h;cases h
 |cons x r ih=>
  intro l h e;unfold gE;rcases ba.mp h with rfl|h
  ·rw[e]
  ·rw[ih h e];cases iI x <;> rfl
theorem agG{r:di}:∀{ms:aF},ms.length=r.length->(∀(i:Nat)l m,r[i]? =some l->ms[i]? =some m->iI l=some m)->gE r=some ms:=by
 induction r with
 |nil=>
  intro ms h _;cases ms with
  |nil=>rfl
  |cons _ _=>cases h
 |cons l r ih=>
  intro ms h k;cases ms with
  |nil=>cases h
  |cons m ms=>
   unfold gE;rw[k 0 l m rfl rfl,ih (ms:=ms) (À h) λi l m h1 h2=>k (i+1) l m h1 h2]
def zB(n:Option LI)(ks:Option aF):Option (LI×aF):=match n,ks with
 |some n,some ms=>if (nI ms&&oK ms)=true then some (n,ms) else none
 |_,_=>none
def fZ(bC:LI):Option (LI×aF):=match jD bC with
 |some (l::r)=>zB (fg (codes "locker") l) (gE r)
 |_=>none
def BJ:zB n none=none:=by cases n <;> rfl
def BK:zB none ks=none:=by cases ks <;> rfl
def sG(CL CK:Addr)(l:uE):jl:=(l.a,.ins CL l.dx (E1 l))::(l.nm,.lst (iv l.name))::(l.kl,.lst (l.kinds.map λk=>V.ref k.a))::zu CK l.kinds
inductive Tv(K:FR)(CL CK CN:Addr)(vs:au)(H:Hp)(Q:VK)(E:XK):Prop
 |mk (ap:Addr) (bC:LI) (_:vs=[.ref ap]) (_:â ap (iv bC)) (_:bC.length<=66000) (_:(∀x,fZ bC=some x->∀H' l,ai H H'->l.name=x.1->l.kinds.map az.m=x.2->aU H' Ãk->l.kinds.length<=66000->Q (.ref l.a) H')) (_:(fZ bC=none->No E CN H))
section
variable{P:Pg}{w:Wd}{K:FR}{mg:MG}{base:Heap}{CK CL CN N:Addr}
def BL:bH ["text","lines","name","kinds","line"] ["text"] (aV JI):=cw
def agH{f:Addr}{fd:FD}(F:br K "read_locker" "read_locker" JI f fd)(X:ž "NoLocker" CN N)(dW:Ç 2 "whole_lines" ["text"] (Lc K)) (dN:Ç 4 "name_behind" ["title","line"] (Lb K)) (dK:ĉ ė 5 "read_kind" ["line"] (Ln K CK CN))(dO:Ç 2 aeZ ["kinds"] (Fb CK nI)) (dD:Ç 2 "are_different" ["kinds"] (Fb CK oK)) (dL:ă "Locker" CL ["name","kinds"]):
  a7 P w K mg base ė 6 f fd ["text"] (Tv K CL CK CN):=by
 obtain⟨fK,fdK,GK,mK,kK,bK⟩:=dK;refine F.qO BL Â;obtain⟨ap,bC,rfl,hP,hl,k1,k2⟩:=h;refine⟨_,aB (cj 1 BL.nd (bz dW ó))
  (aB (dq (PW.pt (pw_or (ot (qD á)) (pw_or1 (cI Ϫ á Ĵ (bT _))))) Ð d7)
  (aB (cj 2 BL.nd (bz dN (ae Dx œ)))
  (aB (Rw (i:=3) (own:=[("line",4)]) (g:=pH 4) (tt:=A4) (te:=g9 (Ln K CK CN) [] E (bh Ãp dw)) rfl xt BL.nd rfl rfl Õ (eX (xg xh á (xf bo) xc)) Ë
   (λ_ _ _ _ _=>dJ 4 BL.nd) Ø (λ_ _ _ _ _=>lY GK hr rfl mK kK bK .nil qN ϡ))
  (aB (dq (PW.pt (pw_or Æj (pw_or (pG (jx (bz dO ĳ))) (pw_or1 (pG (jx (bz dD ĳ)))))))
   (Ð) d7)
  (aD (aY (p7 dL hr (ae è ĳ)))))))),?_⟩
 refine⟨_,rfl,ap,bC,rfl,hP,by omega,λH1 v s1 hv=>?_⟩;have Lv:∀L,jD bC=some L->L.length<=66000/\∀w∈L,w.length<=100000:=λL e=>by
  unfold jD at e;split at e
  ·have e:=aN e;subst e;refine⟨?_,λw hw=>?_⟩
   ·rw[X7];have:=EF 10 bC;omega
   ·have:=xF 10 bC w (Aw _ hw);omega
  ·simp_all
 have el:fZ bC=match jD bC with
   |some (l::r)=>zB (fg (codes "locker") l) (gE r)
   |_=>none:=rfl
 cases ew:jD bC with
 |none=>
  rw[ew] at hv el;have hv:=hv;subst hv;exact⟨_,rfl,_,rfl,kZ (gJ ((k2 el).go s1))⟩
 |some L=>
  obtain⟨hL1,mi⟩:=Lv L ew;rw[ew] at hv el;obtain⟨p,qs,rfl,qy,hp,qf,fr⟩:=hv;refine⟨_,rfl,_,rfl,nu ⟨_,rfl,dY _,λe1 n1=>?_⟩⟩;have s2:=aL (o:=.lst []) n1;have uD:=s2 _ _ hp;have Lw:=qf.same s2;have e9:=s1.trans s2;have Eo:(upd H1 e1 ã) e1=some ã:=aq;generalize upd H1 e1 ã=H2 at s2 uD Lw e9 Eo;refine⟨p,e1,_,rfl,rfl,aa.of uD,aa.of Eo,_,rfl,a8 Ï Ï⟩
  ·have hq:qs=[]:=by
    simp_all
   subst hq;cases Lw;exact gJ ((k2 el).go e9)
  ·cases Lw with
   |nil=>simp_all
   | @cons q l qs r hq u4=>
    have u4:eB H2 qs r:=u4;have el:fZ bC=zB (fg (codes "locker") l) (gE r):=el;have xI:r.length<=66000:=by simp only[c7] at hL1;omega
    have wb:=u4.len;refine⟨_,rfl,p,_,0,V.ref q,rfl,rfl,aa.of uD,fT (j:=0) rfl,"locker",q,l,rfl,by decide,aa.of hq,mi l Ä,λH3 vn s3 hn=>?_⟩;have p9:=e9.trans s3;refine⟨_,rfl,_,rfl,p,_,rfl,aa.of (s3 _ _ uD),λc hc=>?_⟩;rw[show oA ((q::qs).map V.ref) (some 1) none=qs.map V.ref from(BH _ (i:=1) Ä).trans rfl];have s4:=aL (o:=.lst Äc) hc;have jg:(upd H3 c ď) c=some ď:=aq;generalize upd H3 c ď=H4 at s4 jg;have oE:=p9.trans s4;have agJ:=u4.same (s3.trans s4);refine⟨c,rfl,⟨_,aa.of jg⟩,λD hD=>gC (K:=K) (a:=c) (xs:=qs.map V.ref) (cy H4 D λi y ns=>∃b:az,(∀l,r[i]? =some l->iI l=some b.m)/\y=.ref b.a/\ns=jU CK b) Ċ
     (λi H5 _ f=>aa.of (f.same _ _ jg)) (λi y H5 hi f=>?_) (λH5 f=>?_)⟩
    ·rw[bW] at hi;cases eq:qs[i]? with
     |none=>simp_all
     |some qi=>
      rw[eq] at hi;have ey:=aN hi;subst ey;have d8:=(bO.mp eq).1;obtain⟨q',_,e',h'⟩:=agJ.at (j:=i) Æ;rw[bW,eq] at e';have e':=aN e';injection e' with e';subst e';have qI:r[i]? =some (r.getD i []):=by
       simp_all
      have wc:=bZ qI;refine⟨rfl,eO ⟨_,rfl,qi,r.getD i [],rfl,aa.of (f.same _ _ h'),mi _ (aO _ wc),λm em H6 kd s6 ek hkd pK=>?_,λen=>?_⟩⟩
      ·refine f.step hD Æ s6 ⟨kd,λl hl=>?_,rfl,rfl⟩ hkd λx hx e=>f.has (by grind);simp_all
      ·exact(k2 (by rw[el,Ts wc en,BJ])).go (oE.trans f.same)
    ·obtain⟨ys,s5,Ly,Tw,fl⟩:=f.end;rw[aA] at Tw;obtain⟨ks,e1,r1,l1⟩:=xP (v:=λb:az=>V.ref b.a) (nd:=jU CK) (R:=λi b=>∀l,r[i]? =some l->iI l=some b.m) fl;subst e1;rw[aA] at Tw;have Lz:gE r=some Í:=agG É λi l m h1 h2=>by
      grind
     rw[Lz] at el;have vY:=oE.trans s5;have LB:=agB l1;cases en:fg (codes "locker") l with
     |none=>
      rw[en,BK] at el;rw[en] at hn;have hn:=hn;subst hn;exact⟨_,rfl,_,rfl,kZ (gJ ((k2 el).go vY))⟩
     |some nm=>
      rw[en] at hn el;obtain⟨an,rfl,Fe,lX⟩:=hn;have el:fZ bC=if (nI Í &&oK Í)=true then some (nm,ks.map az.m) else none:=el;refine⟨_,rfl,_,rfl,nu ⟨_,rfl,D,ks,rfl,Ly,LB,by omega,λH6 s6=>⟨_,rfl,a8 (λho=>?_) (λho=>?_)⟩⟩⟩
      ·simp at ho;rw[ho,lu,ah Ú] at el;exact gJ ((k2 el).go (vY.trans s6))
      ·simp at ho;refine⟨_,rfl,D,ks,rfl,s6 _ _ Ly,LB.same s6,by omega,λH7 s7=>⟨_,rfl,a8 Ě Ě⟩⟩
       ·simp at hd;rw[hd,yr,ah Ú] at el;exact gJ ((k2 el).go ((vY.trans s6).trans s7))
       ·simp at hd;rw[ho,hd,OY,af rfl] at el;have Ff:=s6.trans s7;refine⟨_,rfl,_,rfl,vW rfl λx dx H8 hx i5 aQ e8 s8=>?_⟩;refine k1 _ el H8 ⟨x,dx,an,D,nm,ks⟩ ((vY.trans Ff).trans s8) rfl rfl Àm É;simp only[sG,ba] at hy;rcases hy with rfl|rfl|rfl|hy
        ·exact e8
        ·exact s8 _ _ (Ff _ _ (s5 _ _ (s4 _ _ lX)))
        ·exact s8 _ _ (Ff _ _ Ly)
        ·exact(LB.same (Ff.trans s8)) y hy
end
end HD
end
section
namespace HD
open PySem PySem.Spec PyProof.Rows L2
def getD_map{α β:Type}{f:α->β}{l:List α}{i:Nat}{a:α}{d:β}(h:l[i]? =some a):(l.map f).getD i d=f a:=by
 simp_all
def getD_at{α:Type}{l:List α}{i:Nat}{a d:α}(h:l[i]? =some a):l.getD i d=a:=by
 simp_all
def iM(look:LI):Prop:=look.length=16/\∀x∈look,0<=x/\x<16
def getD_mem{l:LI}{i:Nat}(h:i<l.length):l.getD i 0∈l:=by
 simp_all
def agL{signs part l:LI}(h:jB signs part=some l):l.length=part.length/\∀x∈l,0<=x/\x<signs.length:=by
 unfold jB at h;grind
def agM(h:iI line=some m):m.shape<3/\iM m.look:=by
 unfold iI oH at h;split at h
 ·cases h
 ·rename_i r er;by_cases hl:(JM.aI 32 line).length=(if r=2 then 4 else 5)
  ·rw[af hl] at h;generalize lK r _=a1 at h;generalize qW r _=a2 at h;generalize iy _ 8=a3 at h;cases e4:bw ÿ ((JM.aI 32 line).getD ((JM.aI 32 line).length-2) []) with
   |none=>rw[e4,E5] at h;cases h
   |some sh=>
    rw[e4] at h;cases e5:ij ((JM.aI 32 line).getD ((JM.aI 32 line).length-1) []) with
    |none=>rw[e5,E6] at h;cases h
    |some lk=>
     rw[e5] at h
     match a1,a2,a3,h with
     |some n,some w,some c,h=>
      have:=aN h;subst this;refine⟨zw e4,?_⟩;unfold ij at e5;split at e5
      ·rename_i qZ;obtain⟨p1,p2⟩:=agL e5;exact⟨p1.trans qZ,p2⟩
      ·cases e5
  ·simp_all
end HD
end
section
namespace HD
open PySem JM
def BM{p:Int->Bool}(h:((List.range 256).all λn=>p ((n:Nat):Int))=true)(hx:0<=x/\x<=255):p x=true:=by
 have:=lx.mp h x.toNat (Aq.mpr Æ);grind
def eqB(ha:a9 a)(hx:a9 Ş)(e:(codes x).map B=Flags.ascii s):(a.map B=Flags.ascii s)↔a=codes x:=by
 rw[<-e];exact⟨λz=>vN ha hx z,λz=>by rw[z]⟩
def uH(h:(codes x).all (λx=>decide (0<=x)&&decide (x<=255))=true):a9 Ş:=EE h
def hexVal(h:0<=x/\x<=255):Flags.hexValue (B x)=if k7.contains x=true then some (k7.idxOf x) else none:=by
 have:=BM (p:=λx=>decide (Flags.hexValue (B x)=if k7.contains x=true then some (k7.idxOf x) else none)) Ê h;simp_all
def agN(h:0<=x/\x<=255):Flags.isSign (B x)=(codes zt).contains x:=by
 have:=BM (p:=λx=>decide (Flags.isSign (B x)=(codes zt).contains x)) Ê h;simp_all
theorem agO{l:LI}:a9 l->(l.map B).mapM Flags.hexValue=if l.all Ãg=true then some (l.map λb=>k7.idxOf b) else none:=by
 induction l with
 |nil=>exact @λ_=>rfl
 |cons x r ih=>
  intro h;have ih:=ih λz hz=>h z (aO _ hz);rw[a0,G9,hexVal (h x gy),ih,rK];by_cases h1:k7.contains x=true
  ·rw[af h1,h1,lR];by_cases h2:r.all Ãg=true
   ·rw[af h2,af h2];rfl
   ·rw[ah h2,ah h2];rfl
  ·rw[ah h1];have h1:k7.contains x=false:=by simpa using h1
   rw[h1,lu,ah d9];rfl
def eQ(l:LI):Nat:=Flags.lookOf λi=>(l.getD i 0).toNat
def Tx{l:LI}(h:a9 l):Flags.lookIn Ķ=(ij l).map eQ:=by
 unfold Flags.lookIn ij;rw[aA];by_cases e:l.length=16
 ·rw[ah (λq=>q e),af e,agO h];unfold jB;by_cases h2:l.all Ãg=true
  ·rw[af h2,af h2];refine cE (λf=>some (Flags.lookOf f)) (funext λi=>?_);rw[iV,iV,bW,bW];cases l[i]? with
   |none=>rfl
   |some x=>rfl
  ·rw[ah h2,ah h2];rfl
 ·rw[af e,ah e];rfl
def Fg(h:a9 l):Flags.isName Ķ=iH l:=by
 unfold Flags.isName iH;rw[aA,rL,show l.all (Flags.isSign∘B)=l.all λb=>(codes zt).contains b from Jv h λx hx=>agN hx]
theorem digit_eq(h:a9 l)(most:Nat):Flags.digitOf most Ķ=(iy l (most:Int)).map Int.toNat:=by
 unfold Flags.digitOf iy
 match l,h with
 |[],_=>rfl
 |[d],h=>
  have hd:=h d gy;show(if 49<=(B d).toNat/\(B d).toNat<=48+most then some ((B d).toNat-48) else none)=Option.map Int.toNat (if d<49\/d>48+(most:Int) then none else some (d-48));rw[Ju hd];by_cases c:d<49\/d>48+(most:Int)
  ·rw[af c,ah Æ];rfl
  ·rw[ah c,af Æ];congr 1;omega
 |a::b::r,_=>rfl
def Tz(a b c w:LI):bw [a,b,c] w=if a=w then some 0 else if b=w then some 1 else if c=w then some 2 else none:=by
 unfold bw;grind
def agP(h:a9 w):Flags.shapeOf ĩ=bw ÿ w:=by
 unfold Flags.shapeOf;show _=bw [codes "square",codes "tails",codes "long"] w;rw[Tz];have e1:=eqB (a:=w) (x:="square") (s:="square") h Æg Ê;have e2:=eqB (a:=w) (x:="tails") (s:="tails") h Æg Ê;have e3:=eqB (a:=w) (x:="long") (s:="long") h Æg Ê;grind
def qg(m:gX):Flags.Role:=if m.role=0 then .sign (m.name.map B) else if m.role=1 then .same m.jT.toNat else .answer
def bV(m:gX):Flags.Kind:=⟨qg m,m.copies.toNat,m.shape,eQ m.look⟩
def LC(hc:a9 c)(hs:a9 s)(hl:a9 l)(R:Flags.Role)(hR:∀a b d,qg ⟨r,n,wh,a,b,d⟩=R):
  Flags.kindOf R Åv (s.map B) Ķ=(qX r (some n) (some wh) (iy c 8) (bw ÿ s) (ij l)).map bV:=by
 unfold Flags.kindOf;rw[show Flags.digitOf 8 Åv=(iy c 8).map Int.toNat from digit_eq hc 8,agP hs,Tx hl];cases e1:iy c 8 with
 |none=>rfl
 |some a=>
  cases e2:bw ÿ s with
  |none=>rfl
  |some b=>
   cases e3:ij l with
   |none=>rfl
   |some d=>
    show some _=some (bV ⟨r,n,wh,a,b,d⟩);unfold bV;simp_all
def agQ{line:LI}(h:a9 line):Flags.kindIn (line.map B)=(iI line).map bV:=by
 unfold Flags.kindIn iI;rw[show Flags.cutAt 32 (line.map B)=(aI 32 line).map ê from xE 32 Ú line h];have hJ:=pV 32 (l:=line) h;generalize aI 32 line=ws at hJ;have rm:∀w:LI,bw ϐ w=if codes "sign"=w then some 0 else if codes "same"=w then some 1 else if codes "answer"=w then some 2 else none:=λw=>Tz _ _ _ w;have d1:¬codes "sign"=codes "same":=by decide+kernel
 have d2:¬codes "sign"=codes "answer":=by decide+kernel
 have d3:¬codes "same"=codes "answer":=by decide+kernel
 have short:∀v:di,v.length≠4->v.length≠5->oH v=none:=λv h4 h5=>by
  unfold oH;split
  ·rfl
  ·rename_i r _;rw[ah];by_cases z:r=2
   ·rw[af z];exact h4
   ·rw[ah z];exact h5
 match ws,hJ with
 |[],_=>rw[short [] Ú Ú];rfl
 |[a],_=>rw[short [a] Ä Ä];rfl
 |[a,b],_=>rw[short [a,b] Ä Ä];rfl
 |[a,b,c],_=>rw[short [a,b,c] Ä Ä];rfl
 |[a,c,s,l],hJ=>
  have ha:=hJ a Ä;have ea:=eqB (a:=a) (x:="answer") (s:="answer") ha Æg Ê;show(if a.map B=Flags.ascii "answer" then Flags.kindOf .answer Åv (s.map B) Ķ else none)=_;have ek:oH [a,c,s,l]=if codes "answer"=a then qX 2 (some []) (some 0) (iy c 8) (bw ÿ s) (ij l) else none:=by
   unfold oH;rw[show([a,c,s,l]:di).getD 0 []=a from rfl,rm a];by_cases c1:codes "sign"=a
   ·rw[af c1,ah (λz=>d2 (c1.trans z.symm))];rfl
   ·rw[ah c1];by_cases c2:codes "same"=a
    ·rw[af c2,ah (λz=>d3 (c2.trans z.symm))];rfl
    ·rw[ah c2];by_cases c3:codes "answer"=a
     ·rw[af c3,af c3];rfl
     ·rw[ah c3,ah c3]
  rw[ek];by_cases c3:a=codes "answer"
  ·rw[af (ea.mpr c3),af c3.symm];exact LC (hJ c Ä) (hJ s Ä) (hJ l Ä) .answer λ_ _ _=>rfl
  ·rw[ah (λz=>c3 (ea.mp z)),ah (λz:codes "answer"=a=>c3 z.symm)];rfl
 |[a,n,c,s,l],hJ=>
  have ha:=hJ a Ä;have hn:=hJ n Ä;have e1:=eqB (a:=a) (x:="sign") (s:="sign") ha Æg Ê;have e2:=eqB (a:=a) (x:="same") (s:="same") ha Æg Ê;show(if a.map B=Flags.ascii "sign"/\Flags.isName Èh=true then Flags.kindOf (.sign Èh) Åv (s.map B) Ķ else if a.map B=Flags.ascii "same" then (Flags.digitOf 4 Èh).bind (λ(j:Nat)=>Flags.kindOf (.same j) Åv (s.map B) Ķ) else none)=_;have ek:oH [a,n,c,s,l]=if codes "sign"=a then qX 0 (lK 0 n) (some 0) (iy c 8) (bw ÿ s) (ij l) else if codes "same"=a then qX 1 (some []) (iy n 4) (iy c 8) (bw ÿ s) (ij l) else none:=by
   unfold oH;rw[show([a,n,c,s,l]:di).getD 0 []=a from rfl,rm a];by_cases c1:codes "sign"=a
   ·rw[af c1,af c1];rfl
   ·rw[ah c1,ah c1];by_cases c2:codes "same"=a
    ·rw[af c2,af c2];rfl
    ·rw[ah c2,ah c2];by_cases c3:codes "answer"=a
     ·rw[af c3];rfl
     ·rw[ah c3]
  rw[ek,Fg hn];by_cases c1:a=codes "sign"
  ·rw[af c1.symm];by_cases c4:iH n=true
   ·rw[af ⟨e1.mpr c1,c4⟩,show lK 0 n=some n by unfold lK;rw[af rfl,af c4]];exact LC (hJ c Ä) (hJ s Ä) (hJ l Ä) (.sign Èh) λ_ _ _=>rfl
   ·rw[ah (λz=>c4 z.2),ah (λz=>d1 (c1.symm.trans (e2.mp z))),show lK 0 n=none by unfold lK;rw[af rfl,ah c4],E3];rfl
  ·rw[ah (λz:_/\_=>c1 (e1.mp z.1)),ah (λz:codes "sign"=a=>c1 z.symm)];by_cases c2:a=codes "same"
   ·rw[af (e2.mpr c2),af c2.symm,show Flags.digitOf 4 Èh=(iy n 4).map Int.toNat from digit_eq hn 4];cases e:iy n 4 with
    |none=>rw[E4];rfl
    |some j=>
     exact LC (hJ c Ä) (hJ s Ä) (hJ l Ä) (.same j.toNat) λ_ _ _=>rfl
   ·rw[ah (λz=>c2 (e2.mp z)),ah (λz:codes "same"=a=>c2 z.symm)];rfl
 |a::b::c::d::e::g::r,_=>rw[short _ Ä Ä];rfl
def nJ:LN->Nat
 |[]=>0
 |d::r=>d%16+16*nJ r
theorem agR(x:Nat):∀l:LN,nJ (l++[x])=nJ l+16^l.length*(x%16):=by
 intro l;induction l with
 |nil=>
  simp[nJ]
 |cons d r ih=>
  show d%16+16*nJ (r++[x])=d%16+16*nJ r+16^(r.length+1)*(x%16);rw[ih,Nat.mul_add,O6,<-Nat.mul_assoc,Nat.mul_comm 16 (16^r.length)];omega
theorem agS(f:Nat->Nat):∀n,((List.range n).map λi=>f i%16*16^i).sum=nJ ((List.range n).map f):=by
 intro n;induction n with
 |zero=>exact rfl
 |succ n ih=>
  rw[Hg,bX,bX,List.sum_append,ih];show _+(f n%16*16^n+0)=nJ (_++[f n]);rw[agR,aA,g7,Nat.mul_comm (16^n)];omega
theorem TF:∀(i:Nat)(l:LN),nJ l/16^i%16=l.getD i 0%16
 |i,[]=>by simp[nJ]
 |0,d::r=>by
  show(d%16+16*nJ r)/16^0%16=d%16;rw[Nat.pow_zero,Nat.div_one];omega
 |i+1,d::r=>by
  show(d%16+16*nJ r)/16^(i+1)%16=r.getD i 0%16;rw[Nat.pow_succ',<-Nat.div_div_eq_div_mul,show(d%16+16*nJ r)/16=nJ r by omega];exact TF i r
def Fh(f:Nat->Nat)(h:i<16):Flags.cell (Flags.lookOf f) i=f i%16:=by
 unfold Flags.cell Flags.lookOf;rw[agS,TF,iV,bW,O7 h];rfl
def BN(h:iM l)(hi:i<16):Flags.cell (eQ l) i=(l.getD i 0).toNat:=by
 unfold eQ;rw[Fh _ hi];obtain⟨h0,h1⟩:=h.2 _ (getD_mem (l:=l) (i:=i) (by rw[h.1];exact hi));omega
def agT{a b:LI}(ha:iM a)(hb:iM b)(e:eQ a=eQ b):a=b:=by
 apply wO;intro i;by_cases hi:i<16
 ·have h1:=BN ha hi;have h2:=BN hb hi;rw[e,h2] at h1;have ga:=ha.2 _ (getD_mem (l:=a) (i:=i) (by rw[ha.1];exact hi));have gb:=hb.2 _ (getD_mem (l:=b) (i:=i) (by rw[hb.1];exact hi));have:a.getD i 0=b.getD i 0:=by omega
  rw[iV,iV,dm (by rw[ha.1];exact hi),dm (by rw[hb.1];exact hi)] at this;rw[dm (by rw[ha.1];exact hi),dm (by rw[hb.1];exact hi)];exact cE some this
 ·rw[wM (by rw[ha.1];omega),wM (by rw[hb.1];omega)]
structure Kv(m:gX):Prop where
 role:m.role<3
 TJ:m.role≠1->m.jT=0
 BO:m.role=1->1<=m.jT/\m.jT<=4
 nm:a9 m.name
 lk:iM m.look
 sh:m.shape<3
 cp:1<=m.copies/\m.copies<=8
def TQ(h:iy w most=some d):1<=d/\d<=most:=by
 unfold iy at h;grind
def TU{line:LI}(hJ:a9 line){m:gX}(h:iI line=some m):Kv m:=by
 obtain⟨E8,qh⟩:=agM h;unfold iI oH at h;have h8:=pV 32 (l:=line) hJ;generalize aI 32 line=ws at h h8;split at h
 ·cases h
 ·rename_i r er;have hr:r<3:=zw er;by_cases hl:ws.length=(if r=2 then 4 else 5)
  ·rw[af hl] at h;have hw1:a9 Ō:=by
    rw[iV];cases e:ws[1]? with
    |none=>exact λx hx=>absurd hx Ä
    |some w=>exact h8 w (bZ e)
   cases e1:lK r Ō with
   |none=>rw[e1,E3] at h;cases h
   |some n=>
    cases e2:qW r Ō with
    |none=>rw[e2,E4] at h;cases h
    |some wh=>
     cases e3:iy (ws.getD (ws.length-3) []) 8 with
     |none=>rw[e3,Lm] at h;cases h
     |some c=>
      cases e4:bw ÿ (ws.getD (ws.length-2) []) with
      |none=>rw[e4,E5] at h;cases h
      |some sh=>
       cases e5:ij (ws.getD (ws.length-1) []) with
       |none=>rw[e5,E6] at h;cases h
       |some lk=>
        rw[e1,e2,e3,e4,e5] at h;have:=aN h;subst this;refine⟨hr,λz=>?_,λz=>?_,?_,qh,E8,TQ e3⟩
        ·unfold qW at e2;rw[ah z] at e2;exact(aN e2).symm
        ·unfold qW at e2;rw[af z] at e2;exact TQ e2
        ·unfold lK at e1;split at e1
         ·split at e1
          ·rw[<-aN e1];exact hw1
          ·cases e1
         ·rw[<-aN e1];exact λx hx=>absurd hx Ä
  ·rw[ah hl] at h;cases h
theorem LD{r:di}:∀{ms:aF},(∀l∈r,a9 l)->gE r=some ms->∀m∈ms,Kv m:=by
 induction r with
 |nil=>
  intro ms _ h m hm;have:=aN h;subst this;exact absurd hm Ä
 |cons l r ih=>
  intro ms h8 h m hm;unfold gE at h;cases e1:iI l with
  |none=>rw[e1] at h;cases gE r <;> cases h
  |some k=>
   rw[e1] at h;cases e2:gE r with
   |none=>rw[e2] at h;cases h
   |some ks=>
    rw[e2] at h;have:=aN h;subst this;rcases ba.mp hm with rfl|hm
    ·exact TU (h8 l Ä) e1
    ·exact ih (λz hz=>h8 z (aO _ hz)) e2 m hm
def sI(kp:Kv p)(kx:Kv x)(h:x.role=0):iJ p x=true↔p.role=0:=by
 unfold iJ;by_cases c:p.role=0/\x.role=0
 ·simp_all
 ·rw[ah c,HT.ui];simp_all
def we(kp:Kv p)(kx:Kv x)(h:x.role=1):iJ p x=true↔p.role=0\/(p.role=1/\p.jT<x.jT):=by
 unfold iJ;rw[ah (λz=>by omega),HT.ui];by_cases c:((p.role:Nat):Int)=((x.role:Nat):Int)
 ·rw[af c,HT.ui];by_cases d:p.jT=x.jT
  ·rw[af d];constructor
   ·intro z;cases z
   ·omega
  ·grind
 ·grind
def Fi{p x:gX}(kp:Kv p)(kx:Kv x)(h:x.role=2):iJ p x=true↔ ¬p.role=2:=by
 unfold iJ;have h1:=kx.TJ Æ;rw[ah (λz=>by omega),HT.ui];by_cases c:((p.role:Nat):Int)=((x.role:Nat):Int)
 ·have h2:=kp.TJ Æ;rw[af c,HT.ui,af (by rw[h1,h2])];constructor
  ·intro z;cases z
  ·intro z;omega
 ·rw[ah c,og];have:=kp.role;omega
def agV{a b c:gX}(ka:Kv a)(kb:Kv b)(kc:Kv c)(h1:iJ a b=true)(h2:iJ b c=true):iJ a c=true:=by
 have hb:=kb.role;have hc:=kc.role;have ra:b.role=0\/b.role=1\/b.role=2:=by omega
 have rc:c.role=0\/c.role=1\/c.role=2:=by omega
 rcases rc with rc|rc|rc
 ·rw[sI kb kc rc] at h2;rw[sI ka kb h2] at h1;rw[sI ka kc rc];exact h1
 ·rw[we kb kc rc] at h2;rw[we ka kc rc];rcases h2 with h2|⟨h2,h3⟩
  ·rw[sI ka kb h2] at h1;exact .inl h1
  ·rw[we ka kb h2] at h1;rcases h1 with h1|⟨h1,h4⟩
   ·exact .inl h1
   ·exact .inr ⟨h1,by omega⟩
 ·rw[Fi kb kc rc] at h2;rw[Fi ka kc rc];rcases ra with ra|ra|ra
  ·rw[sI ka kb ra] at h1;omega
  ·rw[we ka kb ra] at h1;omega
  ·exact absurd ra h2
theorem LF:∀{ms:aF},(∀m∈ms,Kv m)->(((ms.zip (ms.drop 1)).all λp=>iJ p.1 p.2)=true↔ms.Pairwise λp x=>iJ p x=true)
 |[],_=>by simp
 |[a],_=>by simp
 |a::b::r,h=>by
  have ih:=LF (ms:=b::r) λm hm=>h m (aO _ hm);have ez:(a::b::r).zip ((a::b::r).drop 1)=(a,b)::(b::r).zip ((b::r).drop 1):=rfl;rw[ez,rK,jw,ih,Hh (a:=a)];constructor
  ·rintro⟨h1,h2⟩;refine⟨λy hy=>?_,h2⟩;rcases ba.mp hy with rfl|hy
   ·exact h1
   ·exact agV (h a Ä) (h b Ä) (h y (by simp[hy])) h1 ((Hh.mp h2).1 y hy)
  ·rintro⟨h1,h2⟩;exact⟨h1 b Ä,h2⟩
theorem pw_place{α:Type}{R:α->α->Prop}{l:List α}:l.Pairwise R↔ ∀(i:Nat)x,l[i]? =some x->∀p∈l.take i,R p x:=by
 induction l with
 |nil=>
  simp
 |cons a r ih=>
  rw[Hh,ih];constructor
  ·rintro⟨h1,h2⟩ i x hx p hp;cases i with
   |zero=>simp at hp
   |succ i=>
    rw[O4] at hp;rcases ba.mp hp with rfl|hp
    ·exact h1 x (bZ hx)
    ·exact h2 i x hx p hp
  ·intro h;refine⟨λx hx=>?_,λi x hx p hp=>h (i+1) x hx p (by rw[O4];exact aO _ hp)⟩;obtain⟨i,hi,e⟩:=rM hx;exact h (i+1) x (by show r[i]? =some x;rw[dm hi,e]) a (by rw[O4];simp)
def LG{ds:List PyData}:oJ ds=false↔ds.Pairwise λd e=>PyData.eqv d e=false:=by
 rw[pw_place];unfold oJ;rw[List.any_eq_false];constructor
 ·intro h i x hx p hp;have hi:=(bO.mp hx).1;have:=h i (Aq.mpr hi);unfold xN at this;simp_all
 ·intro h i hi;have hi:=Aq.mp hi;obtain⟨x,hx⟩:∃x,ds[i]? =some x:=⟨_,dm hi⟩;have:=h i x hx;unfold xN;simp_all
def LH(a b:gX):PyData.eqv (vZ a) (vZ b)=decide (a.name=b.name):=L2.xu _ _
def TX(a b:gX):PyData.eqv (qY a) (qY b)=(decide (a.shape=b.shape)&&decide (a.look=b.look)):=by
 unfold qY;simp only[PyData.eqv,PyData.eqvAll,L2.xu,O8];grind
def TY(p x:gX):Prop:=p.role=0/\x.role=0/\p.name=x.name
def Fj(p x:gX):Prop:=p.shape=x.shape/\p.look=x.look
def xQ(ps:aF)(x:gX):Prop:=(∀p∈ps,iJ p x=true/\¬TY p x/\¬Fj p x)/\(x.role=0->ps.length<48)
def four{A B C D:Bool}{w x y z:Nat}:(if A=true then some w else if B=true then some x else if C=true then some y else if D=true then some z else none)=none↔A=false/\B=false/\C=false/\D=false:=by
 grind
def xR(m:gX):(bV m).isSign=decide (m.role=0):=by
 unfold bV Flags.Kind.isSign qg;grind
def xS(h:m.role=0):(bV m).role=.sign (m.name.map B):=by show qg m=_;unfold qg;rw[af h]
def zC(h:m.role=1):(bV m).role=.same m.jT.toNat:=by show qg m=_;unfold qg;rw[ah Æ,af h]
def Fk(k:Kv m)(h:m.role=2):(bV m).role=.answer:=by show qg m=_;unfold qg;rw[ah Æ,ah Æ]
def zD{ps:aF}{f:Flags.Kind->Bool}:((ps.map bV).any f=false)↔ ∀p∈ps,f (bV p)=false:=by
 simp
def zE(kp:Kv p)(kx:Kv x):((bV p).shape==(bV x).shape&&(bV p).look==(bV x).look)=false↔ ¬Fj p x:=by
 show(p.shape==x.shape&&eQ p.look==eQ x.look)=false↔_;unfold Fj;by_cases h:p.shape=x.shape
 ·by_cases h2:p.look=x.look
  ·simp_all
  ·have h3:=λz=>h2 (agT kp.lk kx.lk z);simp_all
 ·simp[h]
def TZ{ps:aF}{x:gX}(kp:∀p∈ps,Kv p)(kx:Kv x):Flags.wrongBehind (ps.map bV) (bV x)=none↔xQ ps x:=by
 unfold Flags.wrongBehind;rw[four,zD];have hr:=kx.role;have rx:x.role=0\/x.role=1\/x.role=2:=by omega
 rcases rx with rx|rx|rx
 ·rw[xS rx,xR,zD,zD,aA,eJ rx,lR];unfold xQ;constructor
  ·rintro⟨h1,h2,h3,h4⟩;refine⟨λp hp=>⟨?_,λz=>?_,(zE Ņ kx).mp (h4 p hp)⟩,λ_=>?_⟩
   ·rw[sI Ņ kx rx];have:=h1 p hp;rw[xR] at this;simp_all
   ·have:=h2 p hp;rw[xS z.1,z.2.2] at this;simp_all
   ·have:¬Flags.SIGNS<=ps.length:=by simpa using h3
    have e:Flags.SIGNS=48:=rfl;omega
  ·rintro⟨h1,h2⟩;refine⟨λp hp=>?_,λp hp=>?_,?_,λp hp=>(zE Ņ kx).mpr (h1 p hp).2.2⟩
   ·have:=(sI Ņ kx rx).mp (h1 p hp).1;rw[xR,this];rfl
   ·have p0:=(sI Ņ kx rx).mp (h1 p hp).1;rw[xS p0];have hn:=(h1 p hp).2.1;rw[wK];intro z;injection z with z;exact hn ⟨p0,rx,vN (kp p hp).nm kx.nm z⟩
   ·have:=h2 rx;have e:Flags.SIGNS=48:=rfl;simp_all
 ·rw[zC rx,xR,zD,zD,fQ Æ,lu];unfold xQ;have hx:=kx.BO rx;constructor
  ·rintro⟨h1,h2,h3,h4⟩;refine⟨λp hp=>⟨?_,λz=>?_,(zE Ņ kx).mp (h4 p hp)⟩,λz=>?_⟩
   ·rw[we Ņ kx rx];have Ho:=(kp p hp).role;have rp:p.role=0\/p.role=1\/p.role=2:=by omega
    rcases rp with rp|rp|rp
    ·exact .inl rp
    ·refine .inr ⟨rp,?_⟩;have:=h2 p hp;rw[zC rp] at this;have:=apq this;have:=(kp p hp).BO rp;omega
    ·have:=h1 p hp;rw[Fk Ņ rp] at this;simp at this
   ·have:=z.2.1;omega
   ·omega
  ·rintro⟨h1,h2⟩;refine⟨λp hp=>?_,λp hp=>?_,rfl,λp hp=>(zE Ņ kx).mpr (h1 p hp).2.2⟩
   ·rcases(we Ņ kx rx).mp (h1 p hp).1 with z|z
    ·rw[xS z];rfl
    ·rw[zC z.1];rfl
   ·rcases(we Ņ kx rx).mp (h1 p hp).1 with z|z
    ·rw[xS z]
    ·rw[zC z.1];have:=(kp p hp).BO z.1;exact fQ Æ
 ·rw[Fk kx rx,xR,zD,fQ (by omega:¬x.role=0),lu];unfold xQ;constructor
  ·rintro⟨h1,h2,h3,h4⟩;refine⟨λp hp=>⟨?_,λz=>?_,(zE Ņ kx).mp (h4 p hp)⟩,λz=>?_⟩
   ·rw[Fi Ņ kx rx];intro rp;have:=h1 p hp;rw[Fk Ņ rp] at this;simp at this
   ·have:=z.2.1;omega
   ·omega
  ·rintro⟨h1,h2⟩;refine⟨λp hp=>?_,rfl,rfl,λp hp=>(zE Ņ kx).mpr (h1 p hp).2.2⟩;have z:=(Fi Ņ kx rx).mp (h1 p hp).1;have Ho:=(kp p hp).role;have rp:p.role=0\/p.role=1:=by omega
   rcases rp with rp|rp
   ·rw[xS rp];rfl
   ·rw[zC rp];rfl
def xT:aF->aF->Prop
 |_,[]=>True
 |past,x::r=>xQ past x/\xT (past++[x]) r
def xU(ms:aF):Prop:=∃m∈ms,m.role=0
def T3:((ms.map bV).all λ(k:Flags.Kind)=>!k.isSign)=true↔ ¬xU ms:=by
 rw[rL,lx];unfold xU;constructor
 ·rintro h ⟨m,hm,e⟩;have:=h m hm;simp only[apx,xR,e] at this;simp_all
 ·intro h m hm;have:¬m.role=0:=λe=>h ⟨m,hm,e⟩;simp only[apx,xR];simp_all
def agW(past:aF)(ls:di)(z:LI):Prop:=z=[]/\∃ms,gE ls=some ms/\xT past ms/\xU (past++ms)
def agX(ls:di):∀(z:LI)(i:Nat)(past:aF),(∀l∈ls,a9 l)->(∀p∈past,Kv p)->
  (∀ms,z=[]->gE ls=some ms->xT past ms->xU (past++ms)->Flags.judgeLines i ń ((ls++[z]).map ê)=.ok ((past++ms).map bV))/\(¬agW past ls z->∃e,Flags.judgeLines i ń ((ls++[z]).map ê)=.error e):=by
 induction ls with
 |nil=>
  intro z i past _ kp;have e:Flags.judgeLines i ń (([]++[z]:di).map ê)=if z.map B≠[]\/((past.map bV).all λ(k:Flags.Kind)=>!k.isSign)=true then .error (1,i) else .ok ń:=rfl;rw[e];constructor
  ·intro ms hz hk _ hs;have:=aN hk;subst this;rw[jv] at hs⊢;rw[ah];rintro (h|h)
   ·exact h (by rw[hz];rfl)
   ·exact(T3.mp h) hs
  ·intro h;rw[af]
   ·exact⟨_,rfl⟩
   ·by_cases hz:z=[]
    ·right;rw[T3];intro hs;exact h ⟨hz,[],rfl,trivial,by rw[jv];exact hs⟩
    ·left;intro q;exact hz (List.map_eq_nil_iff.mp q)
 |cons w r ih=>
  intro z i past h8 kp;obtain⟨y,r',er⟩:∃y r',(r++[z]).map ê=y::r':=by
   cases r with
   |nil=>exact⟨_,_,rfl⟩
   |cons a b=>exact⟨_,_,rfl⟩
  have e:Flags.judgeLines i ń (((w::r)++[z]).map ê)=match Flags.kindIn ĩ with
    |none=>.error (1,i)
    |some x=>match Flags.wrongBehind ń x with
     |some e=>.error (e,i)
     |none=>Flags.judgeLines (i+1) (past.map bV++[x]) ((r++[z]).map ê):=by
   show Flags.judgeLines i ń (w.map B::(r++[z]).map ê)=_;rw[er];rfl
  rw[e,agQ (h8 w Ä)];have uI:=λl hl=>h8 l (aO _ hl);cases ek:iI w with
  |none=>
   refine⟨λms _ hk=>?_,λ_=>⟨_,rfl⟩⟩;rw[Ts (l:=w) Ä ek] at hk;cases hk
  |some x=>
   have kx:=TU (h8 w Ä) ek;have kpx:∀p∈past++[x],Kv p:=λp hp=>by
    rcases gR.mp hp with hp|hp
    ·exact kp p hp
    ·rw[mV.mp hp];exact kx
   obtain⟨T4,T5⟩:=ih z (i+1) (past++[x]) uI kpx;rw[bX] at T4 T5;have Lz:∀ms,gE (w::r)=some ms->∃l5,gE r=some l5/\ms=x::l5:=λms hk=>by
    unfold gE at hk;rw[ek] at hk;cases e2:gE r with
    |none=>rw[e2] at hk;cases hk
    |some ks=>
     rw[e2] at hk;exact⟨ks,rfl,(aN hk).symm⟩
   show(∀ms,z=[]->_->_->_->(match Flags.wrongBehind ń (bV x) with
     |some e=>.error (e,i)
     |none=>Flags.judgeLines (i+1) (past.map bV++[bV x]) ((r++[z]).map ê):Except Flags.Fault (List Flags.Kind))=_)/\(_->∃e,(match Flags.wrongBehind ń (bV x) with
     |some e=>.error (e,i)
     |none=>Flags.judgeLines (i+1) (past.map bV++[bV x]) ((r++[z]).map ê):Except Flags.Fault (List Flags.Kind))=_)
   constructor
   ·intro ms hz hk hs jV;obtain⟨l5,kT,rfl⟩:=Lz ms hk;rw[(TZ kp kx).mpr hs.1];have:=T4 l5 hz kT hs.2 (by rw[rO];exact jV);refine this.trans ?_;rw[rO];rfl
   ·intro h;cases ew:Flags.wrongBehind ń (bV x) with
    |some e=>exact⟨_,rfl⟩
    |none=>
     refine T5 λg=>h ?_;obtain⟨hz,l5,kT,yy,jV⟩:=g;refine⟨hz,x::l5,?_,⟨(TZ kp kx).mp ew,yy⟩,by rw[rO] at jV;exact jV⟩;unfold gE;rw[ek,kT]
theorem agZ:∀{ms past:aF},xT past ms↔ ∀(i:Nat)x,ms[i]? =some x->xQ (past++ms.take i) x:=by
 intro ms;induction ms with
 |nil=>
  intro past;simp[xT]
 |cons a r ih=>
  intro past;show xQ past a/\xT (past++[a]) r↔_;rw[ih];constructor
  ·rintro⟨h1,h2⟩ i x hx;cases i with
   |zero=>
    have:=aN hx;subst this;simpa using h1
   |succ i=>
    have:=h2 i x hx;rw[rO] at this;exact this
  ·intro h;refine⟨by simpa using h 0 a rfl,λi x hx=>?_⟩;have:=h (i+1) x hx;rw[rO];exact this
theorem ag0{ms:aF}:(∀m∈ms,Kv m)->(ms.Pairwise λp x=>iJ p x=true)->0<(ms.filter isSign).length->∃x,ms[(ms.filter isSign).length-1]? =some x/\x.role=0:=by
 induction ms with
 |nil=>
  intro _ _ h;simp at h
 |cons a r ih=>
  intro kv hp h;obtain⟨p1,p2⟩:=Hh.mp hp;have kr:=λm hm=>kv m (aO _ hm);by_cases ha:a.role=0
  ·have ef:(a::r).filter isSign=a::r.filter isSign:=by
    rw[wQ,af (show isSign a=true by unfold isSign;simpa using ha)]
   rw[ef,c7,Nat.add_sub_cancel];by_cases hz:0<(r.filter isSign).length
   ·obtain⟨x,hx,sE⟩:=ih kr p2 hz;refine⟨x,?_,sE⟩;obtain⟨k,ek⟩:∃k,(r.filter isSign).length=k+1:=⟨(r.filter isSign).length-1,by omega⟩;rw[ek] at hx⊢;exact hx
   ·rw[show(r.filter isSign).length=0 by omega];exact⟨a,rfl,ha⟩
  ·exfalso;have:(a::r).filter isSign=[]:=by
    rw[apy];intro x hx hs;have sE:x.role=0:=by unfold isSign at hs;simpa using hs
    rcases ba.mp hx with rfl|hx
    ·exact ha sE
    ·exact ha ((sI (kv a Ä) (kr x hx) sE).mp (p1 x hx))
   rw[this] at h;simp at h
def ag1{ms:aF}(kv:∀m∈ms,Kv m)(hp:ms.Pairwise λp x=>iJ p x=true){i:Nat}{x:gX}(hx:ms[i]? =some x)(h0:x.role=0):i+1<=(ms.filter isSign).length:=by
 have hi:=(bO.mp hx).1;have jm:∀p∈ms.take (i+1),isSign p=true:=λp k9=>by
  rw[take_snoc hx] at k9;unfold isSign;rw[og];rcases gR.mp k9 with k9|k9
  ·exact(sI (kv p (Hc k9)) (kv x (bZ hx)) h0).mp (pw_place.mp hp i x hx p k9)
  ·simp_all
 have e1:((ms.take (i+1)).filter isSign).length=i+1:=by
  rw[List.filter_eq_self.mpr jm,mT];omega
 have e2:ms.filter isSign=(ms.take (i+1)).filter isSign++(ms.drop (i+1)).filter isSign:=by
  rw[<-Dj,O3]
 simp_all
def T6{ms:aF}(kv:∀m∈ms,Kv m):(nI ms&&oK ms)=true↔xT [] ms/\xU ms:=by
 have oo:=LF kv;rw[agZ,jw];unfold nI oK;rw[jw];have tn:((!oJ ((ms.filter isSign).map vZ))=true)↔ms.Pairwise λp x=>¬TY p x:=by
  rw[show((!oJ ((ms.filter isSign).map vZ))=true)↔oJ ((ms.filter isSign).map vZ)=false by simp,LG,O9,apz];constructor
  ·intro h;refine h.imp λ{a b}nM z=>?_;have:=nM (by unfold isSign;simpa using z.1) (by unfold isSign;simpa using z.2.1);rw[LH,z.2.2] at this;simp at this
  ·intro h;refine h.imp λ{a b}nM ha hb=>?_;rw[LH,He];exact λz=>nM ⟨by unfold isSign at ha;simpa using ha,by unfold isSign at hb;simpa using hb,z⟩
 have tf:((!oJ Çq)=true)↔ms.Pairwise λp x=>¬Fj p x:=by
  rw[show((!oJ Çq)=true)↔oJ Çq=false by simp,LG,O9];constructor
  ·intro h;refine h.imp λ{a b}nM z=>?_;rw[TX,z.1,z.2] at nM;simp at nM
  ·intro h;refine h.imp λ{a b}nM=>?_;rw[TX,Bool.and_eq_false_iff];by_cases c:a.shape=b.shape
   ·right;rw[He];exact λz=>nM ⟨c,z⟩
   ·left;rw[He];exact c
 rw[tn,tf];have jV:1<=(ms.filter isSign).length↔xU ms:=by
  unfold xU;constructor
  ·intro h;obtain⟨x,hx⟩:∃x,x∈ms.filter isSign:=by
    cases e:ms.filter isSign with
    |nil=>rw[e] at h;simp at h
    |cons x r=>exact⟨x,by simp⟩
   exact⟨x,(j8.mp hx).1,by have:=(j8.mp hx).2;unfold isSign at this;simpa using this⟩
  ·rintro⟨m,hm,h0⟩;have:m∈ms.filter isSign:=j8.mpr ⟨hm,by unfold isSign;simpa using h0⟩;exact List.length_pos_of_mem this
 constructor
 ·rintro⟨h1,h2,h3⟩;split at h1
  ·cases h1
  ·rename_i hc;have hp:=oo.mp h1;refine⟨λi x hx=>⟨λp k9=>?_,λh0=>?_⟩,jV.mp Æ⟩
   ·rw[yw] at k9;exact⟨pw_place.mp hp i x hx p k9,pw_place.mp h2 i x hx p k9,pw_place.mp h3 i x hx p k9⟩
   ·have:=ag1 kv hp hx h0;rw[yw,mT];omega
 ·rintro⟨h1,h2⟩;have hp:ms.Pairwise λp x=>iJ p x=true:=pw_place.mpr λi x hx p k9=>((h1 i x hx).1 p (by rw[yw];exact k9)).1;refine⟨?_,pw_place.mpr λi x hx p k9=>((h1 i x hx).1 p (by rw[yw];exact k9)).2.1,pw_place.mpr λi x hx p k9=>((h1 i x hx).1 p (by rw[yw];exact k9)).2.2⟩;have n1:=jV.mpr h2;rw[ah,oo]
  ·exact hp
  ·rintro (z|z)
   ·omega
   ·obtain⟨x,hx,sE⟩:=ag0 kv hp Æ;have:=(h1 _ x hx).2 sE;have hl:=(bO.mp hx).1;rw[yw,mT] at this;omega
def ag2(h:a9 l):Flags.nameIn Ķ=(fg (codes "locker") l).map λn=>n.map B:=by
 unfold Flags.nameIn fg;rw[show Flags.cutAt 32 Ķ=(aI 32 l).map ê from xE 32 Ú l h];have h8:=pV 32 (l:=l) h;generalize aI 32 l=ws at h8
 match ws,h8 with
 |[],_=>rfl
 |[a],_=>rfl
 |[a,b],h8=>
  have ea:=eqB (a:=a) (x:="locker") (s:="locker") (h8 a Ä) Æg Ê;show(if a.map B=Flags.ascii "locker"/\Flags.isName ϔ=true then some ϔ else none)=Option.map _ (if a=codes "locker"/\iH b=true then some b else none);rw[Fg (h8 b Ä)];by_cases c:a=codes "locker"/\iH b=true
  ·rw[af c,af ⟨ea.mpr c.1,c.2⟩];rfl
  ·rw[ah c,ah (λz:_/\_=>c ⟨ea.mp z.1,z.2⟩)];rfl
 |a::b::c::r,_=>rfl
def ag3(h:a9 t):(∀x,fZ t=some x->Flags.judge Àx=.ok ⟨x.1.map B,x.2.map bV⟩)/\(fZ t=none->∃e,Flags.judge Àx=.error e):=by
 have oN:Flags.cutAt 10 Àx=(aI 10 t).map ê:=xE 10 Ú t h;have h8:=pV 10 (l:=t) h;obtain⟨ls,z,ew⟩:∃ls z,aI 10 t=ls++[z]:=by
  rcases pZ (aI 10 t) with e|⟨r,x,e⟩
  ·exact absurd e (lJ 10 t)
  ·simp_all
 have hw:jD t=if z=[] then some ls else none:=by
  unfold jD;simp_all
 rw[ew] at oN h8;cases ls with
 |nil=>
  have hl:fZ t=none:=by
   unfold fZ;simp_all
  have hj:Flags.judge Àx=.error (1,0):=by
   unfold Flags.judge;simp_all
  simp_all
 |cons w r=>
  have DP:=h8 w Ä;have uI:∀l∈r,a9 l:=λl hl=>h8 l (by simp[hl]);obtain⟨y,r',er⟩:∃y r',(r++[z]).map ê=y::r':=by
   cases r with
   |nil=>simp
   |cons a b=>simp
  have hj:∀n,Flags.nameIn ĩ=some n->Flags.judge Àx=(Flags.judgeLines 1 [] ((r++[z]).map ê)).map λ(l:List Flags.Kind)=>(⟨n,l⟩:Flags.Locker):=λn hn=>by
   unfold Flags.judge;simp_all
  have hj0:Flags.nameIn ĩ=none->Flags.judge Àx=.error (1,0):=λhn=>by
   unfold Flags.judge;simp_all
  have hl:fZ t=if z=[] then zB (fg (codes "locker") w) (gE r) else none:=by
   unfold fZ;grind
  rw[hl];have hn:=ag2 DP;obtain⟨j1,j2⟩:=agX r z 1 [] uI Ä;simp only[lQ,yw] at j1 j2;cases en:fg (codes "locker") w with
  |none=>
   rw[en] at hn;refine⟨λx hx=>?_,λ_=>⟨(1,0),hj0 hn⟩⟩;rw[BK] at hx;simp_all
  |some n=>
   rw[en] at hn;have hj:=hj _ hn;rw[hj];constructor
   ·intro x hx;split at hx
    ·rename_i hz;cases ek:gE r with
     |none=>rw[ek,BJ] at hx;cases hx
     |some ms=>
      rw[ek] at hx;have hx:(if (nI ms&&oK ms)=true then some (n,ms) else none)=some x:=hx;split at hx
      ·rename_i ho;have:=aN hx;subst this;obtain⟨o1,o2⟩:=(T6 (LD uI ek)).mp ho;rw[j1 ms hz ek o1 o2];rfl
      ·simp_all
    ·simp_all
   ·intro hx;obtain⟨e,ee⟩:=j2 λg=>by
     obtain⟨hz,ms,hk,hs,jV⟩:=g;rw[af hz,hk] at hx;have hx:(if (nI ms&&oK ms)=true then some (n,ms) else none)=none:=hx;rw[af ((T6 (LD uI hk)).mpr ⟨hs,by assumption⟩)] at hx;simp_all
    exact⟨e,by rw[ee];rfl⟩
def iO(c:Int):Option Nat:=if c=16 then none else some c.toNat
def BP:Told->Flags.PlateLine
 |.side s l=>.seen s (eQ l)
 |.hoist k=>.hoist (decide (k%2=1)) (decide (k/2=1))
 |.shape k=>.flag k
 |.row l=>.cells (l.map iO)
def ag5(h:0<=x/\x<=255):Flags.cellIn (B x)=if pU.contains x=true then some (iO ((pU.idxOf x:Nat):Int)) else none:=by
 have:=BM (p:=λx=>decide (Flags.cellIn (B x)=if pU.contains x=true then some (iO ((pU.idxOf x:Nat):Int)) else none)) Ê h;simp_all
theorem ag6{l:LI}:a9 l->(l.map B).mapM Flags.cellIn=if l.all Ãf=true then some (l.map λb=>iO ((pU.idxOf b:Nat):Int)) else none:=by
 induction l with
 |nil=>exact @λ_=>rfl
 |cons x r ih=>
  intro h;have ih:=ih λz hz=>h z (aO _ hz);rw[a0,G9,ag5 (h x gy),ih,rK];by_cases h1:pU.contains x=true
  ·rw[af h1,h1,lR];by_cases h2:r.all Ãf=true
   ·rw[af h2,af h2];rfl
   ·rw[ah h2,ah h2];rfl
  ·rw[ah h1];have h1:pU.contains x=false:=by simpa using h1
   rw[h1,lu,ah d9];rfl
def ag7{w:LI}(hw:a9 w):(if (w.map B).length=4 then ((w.map B).mapM Flags.cellIn).map Flags.PlateLine.cells else none)=(jQ w).map λl=>BP (.row l):=by
 unfold jQ;rw[aA];by_cases h:w.length=4
 ·rw[af h,af h,ag6 hw];unfold jB;by_cases h2:w.all Ãf=true
  ·rw[af h2,af h2];show some (Flags.PlateLine.cells _)=some (Flags.PlateLine.cells _);rw[cQ];rfl
  ·rw[ah h2,ah h2];rfl
 ·rw[ah h,ah h];rfl
def T7(h:ws.contains w=false):bw ws w=none:=by
 unfold bw;grind
def ag8(hw:a9 w):fH ĩ=(bw iu w).map λk=>(decide (k%2=1),decide (k/2=1)):=by
 have hs:=aeL hw;by_cases h:iu.contains w=true
 ·have h':w∈iu:=by simpa using h
  simp only[iu,ba,mY,mZ] at h';rcases h' with rfl|rfl|rfl|rfl <;> decide+kernel
 ·have h:iu.contains w=false:=by simpa using h
  rw[T7 h];simp_all
def ag9(hw:a9 w):fF ĩ=bw iw w:=by
 have hs:=aeM hw;by_cases h:iw.contains w=true
 ·have h':w∈iw:=by simpa using h
  simp only[iw,ba,mY,mZ] at h';rcases h' with rfl|rfl|rfl|rfl <;> decide+kernel
 ·have h:iw.contains w=false:=by simpa using h
  rw[T7 h];simp_all
def aha(h:vO c=true):(32:Int)∉c:=λhm=>by
 unfold vO at h;have:=lx.mp (vc.mp h).2 32 hm;exact absurd this Ú
def T8:vO c=(ij c).isSome:=by
 unfold vO ij jB;grind
def ahb(hs:s∈[0,1,2]):(32:Int)∉JM.dQ s:=by
 have:s=0\/s=1\/s=2:=À hs
 rcases this with rfl|rfl|rfl <;> decide+kernel
def ahc(hs:s∈[0,1,2])(hc:(32:Int)∉c):aI 32 (jA++32::(JM.dQ s++32::c))=[jA,JM.dQ s,c]:=by
 rw[Sl 32 _ (show(32:Int)∉jA by decide),Sl 32 _ (ahb hs),aeF 32 hc]
def ahd(hs:s∈[0,1,2]):bw uz (JM.dQ s)=some s:=by
 have:s=0\/s=1\/s=2:=À hs
 rcases this with rfl|rfl|rfl <;> decide+kernel
def ahe(h:bw ws w=some i):ws[i]? =some w:=by
 unfold bw at h;obtain⟨h1,h2,_⟩:=O5.mp h;simp_all
def ahf(hw:a9 w):(match [0,1,2].find? (pS ĩ) with
  |some s=>(Flags.lookIn ((w.map B).drop (6+(Flags.sideWord s).length))).map λ(x:Nat)=>Flags.PlateLine.seen s x
  |none=>none)=(HD.dQ w).map (λx=>BP (.side x.1 x.2))/\([0,1,2].find? (pS ĩ)=none↔HD.dQ w=none):=by
 have up:∀s∈[0,1,2],pS ĩ s=true->∃c l,w=jA++32::(JM.dQ s++32::c)/\ij c=some l/\HD.dQ w=some (s,l):=λs hs hp=>by
  obtain⟨c,e,hc⟩:=(So hw hs).mp hp;have h32:=aha hc;rw[T8] at hc;obtain⟨l,hl⟩:=G0.mp hc;refine⟨c,l,e,hl,?_⟩;unfold HD.dQ;rw[e,ahc hs h32];dsimp only;rw[af rfl,ahd hs,hl]
 cases ef:[0,1,2].find? (pS ĩ) with
 |some s=>
  have hs:=List.mem_of_find?_eq_some ef;obtain⟨c,l,e,hl,es⟩:=up s hs (List.find?_some ef);refine⟨?_,⟨λz=>(by cases z),λz=>É⟩⟩;rw[es];show Option.map _ _=some (Flags.PlateLine.seen s (eQ l));obtain⟨e2,_,_⟩:=Sn s hs;have ed:(w.map B).drop (6+(Flags.sideWord s).length)=c.map B:=by
   rw[e2,aA,<-O2];congr 1;have e1:w=preOf (JM.dQ s)++c:=by
    rw[e];unfold preOf;simp
   have el:(preOf (JM.dQ s)).length=6+(JM.dQ s).length:=by
    unfold preOf;simp[jA];omega
   grind
  have Jw:a9 c:=λx hx=>hw x É;rw[ed,Tx Jw,hl];rfl
 |none=>
  have hn:HD.dQ w=none:=by
   cases es:HD.dQ w with
   |none=>rfl
   |some x=>
    exfalso;unfold HD.dQ at es;split at es
    ·rename_i a b c ec;split at es
     ·rename_i ea;cases e1:bw uz b with
      |none=>simp_all
      |some s=>
       cases e2:ij c with
       |none=>simp_all
       |some l=>
        have hb:=ahe e1;have Iu:s<3:=(bO.mp hb).1;have hs:s∈[0,1,2]:=by
         grind
        have vI:b=JM.dQ s:=by
         unfold JM.dQ;simp_all
        have hw2:w=jA++32::(JM.dQ s++32::c):=by
         have g:=aeH 32 w;rw[ec,ea,vI] at g;exact g.symm
        have hp:=(So hw hs).mpr ⟨c,hw2,by rw[T8,e2];rfl⟩;grind
     ·simp_all
    ·simp_all
  simp_all
def ahi{w:LI}(hw:a9 w):Flags.plateLine ĩ=(jR w).map BP:=by
 rw[aeN,ag8 hw,ag9 hw,ag7 hw];obtain⟨s1,s2⟩:=ahf hw;unfold jR;cases ef:[0,1,2].find? (pS ĩ) with
 |some s=>
  rw[ef] at s1 s2;dsimp only at s1⊢;cases es:HD.dQ w with
  |none=>exact absurd (s2.mpr es) Ä
  |some x=>
   rw[es] at s1;exact s1
 |none=>
  rw[s2.mp ef];dsimp only;cases e1:bw iu w with
  |some k=>rfl
  |none=>
   cases e2:bw iw w with
   |some k=>rfl
   |none=>
    show(jQ w).map _=_;cases jQ w <;> rfl
def ip(s:Nat×LI):Flags.Seen:=Flags.seenOf s.1 (s.2.map iO)
def i7(g:iG):Flags.Glimpse:=⟨g.above,g.below,g.flags.map ip⟩
def oO(m:fX):Flags.Plate:=⟨eQ m.classes,m.side,m.ak.map i7⟩
inductive Open:fX->Flags.PlateState->Prop
 |uJ {m:fX} {s:Flags.PlateState}:s.flag=none->s.hoists=m.ak.map i7->(∀g∈m.ak,∀f∈g.flags,f.2.length=16)->Open m s
 |opened {m:fX} {s:Flags.PlateState} (gs:List iG) (a b:Bool) (fs:List (Nat×LI)) (k:Nat) (cs:LI):m.ak=gs++[⟨a,b,fs++[(k,cs)]⟩]->s.flag=some (k,cs.map iO)->s.hoists=gs.map i7++[⟨a,b,fs.map ip⟩]->
   cs.length<16->cs.length%4=0->(∀g∈gs,∀f∈g.flags,f.2.length=16)->(∀f∈fs,f.2.length=16)->Open m s
structure zF(m:fX)(s:Flags.PlateState):Prop where
 head:s.head=if m.classes=[] then none else some (m.side,eQ m.classes)
 op:Open m s
 hd:m.classes=[]->m.ak=[]
theorem Fl{m:fX}(h:∀g∈m.ak,∀f∈g.flags,f.2.length=16):jC m=false:=by
 unfold jC;cases e:m.ak.getLast? with
 |none=>rfl
 |some g=>
  dsimp only;cases e2:g.flags.getLast? with
  |none=>rfl
  |some f=>
   dsimp only;rw[h g (Di e) f (Di e2)];rfl
def ahj(l:List α)(x:α):(l++[x]).getLast?=some x:=by simp
def Fm(h:m.ak=gs++[⟨a,b,fs++[(k,cs)]⟩])(hl:cs.length<16):jC m=true:=by
 unfold jC;simp_all
def LJ(f:α->β)(l:List α):(l.map f).getLast?=l.getLast?.map f:=by
 simp
theorem T9(s:Flags.Seen)(g:Flags.Glimpse):∀l:List Flags.Glimpse,Flags.putFlag s (l++[g])=l++[{g with flags:=g.flags++[s]}]
 |[]=>rfl
 |[x]=>rfl
 |x::y::r=>by
  show x::Flags.putFlag s (y::r++[g])=_;rw[T9 s g (y::r)];rfl
def Ua:Told->Prop
 |.side _ l=>l.length=16
 |.row l=>l.length=4
 |_=>True
def ahk{m:fX}{s:Flags.PlateState}(r:zF m s){t:Told}(ht:Ua t):
  (du m t.sort=true->∃s',s.line (BP t)=some s'/\zF (qV m t) s')/\(du m t.sort=false->s.line (BP t)=none):=by
 obtain⟨hh,ho,hd⟩:=r;have ahl:m.classes≠[]->s.head.isSome=true:=λhc=>by rw[hh,ah hc];rfl
 have ahm:m.classes=[]->s.head=none:=λhc=>by rw[hh,af hc]
 have emp:m.classes.isEmpty=true↔m.classes=[]:=by simp
 have Fn:m.classes.isEmpty=false↔m.classes≠[]:=by simp
 have opn:m.classes=[]->s.flag=none/\s.hoists=[]:=λhc=>by
  have hg:=hd hc;cases ho with
  |uJ h1 h2 _=>simp_all
  |opened gs a b fs k cs h1=>simp_all
 have e4:Flags.MOST=4:=rfl;have e8:Flags.LONG=8:=rfl;cases t with
 |side sd l=>
  show(du m 0=true->_)/\(du m 0=false->_);have em:du m 0=m.classes.isEmpty:=by unfold du;simp
  rw[em];show(_->∃s',(if s.head=none then some {s with head:=some (sd,eQ l)} else none)=some s'/\_)/\(_->(if s.head=none then some {s with head:=some (sd,eQ l)} else none)=none);constructor
  ·intro h;have hc:=emp.mp h;obtain⟨o1,o2⟩:=opn hc;refine⟨_,af (ahm hc),?_⟩;have hl:l≠[]:=λz=>by
    have hh:l.length=16:=ht;simp_all
   refine⟨?_,.uJ o1 (by show s.hoists=m.ak.map i7;rw[o2,hd hc];rfl) (λg hg=>by rw[show(qV m (.side sd l)).ak=m.ak from rfl,hd hc] at hg;simp at hg),λz=>absurd z hl⟩;show some (sd,eQ l)=if l=[] then none else some (sd,eQ l);simp_all
  ·simp_all
 |hoist k=>
  show(du m 1=true->∃s',(if s.head.isSome=true/\s.flag=none/\s.hoists.length<Flags.MOST/\(match s.hoists.getLast? with
   |some g=>!g.flags.isEmpty
   |none=>true)=true then some {s with hoists:=s.hoists++[(⟨decide (k%2=1),decide (k/2=1),[]⟩:Flags.Glimpse)]} else none)=some s'/\_)/\(du m 1=false->(if s.head.isSome=true/\s.flag=none/\s.hoists.length<Flags.MOST/\(match s.hoists.getLast? with
   |some g=>!g.flags.isEmpty
   |none=>true)=true then some {s with hoists:=s.hoists++[(⟨decide (k%2=1),decide (k/2=1),[]⟩:Flags.Glimpse)]} else none)=none)
  by_cases hc:m.classes=[]
  ·have em:du m 1=false:=by unfold du;simp[hc]
   simp_all
  ·have kU:=Fn.mpr hc;cases ho with
   |opened gs a b fs kk cs h1 h2 h3 h4 h5 h6 h7=>
    have em:du m 1=false:=by unfold du;simp[kU,Fm h1 h4]
    simp_all
   |uJ h1 h2 h3=>
    have em:du m 1=(decide (m.ak.length<4)&& !k8 m):=by unfold du;simp[kU,Fl h3]
    have el:(match s.hoists.getLast? with
     |some g=>!g.flags.isEmpty
     |none=>true)=!k8 m:=by
     unfold k8;rw[h2,LJ];cases m.ak.getLast? with
     |none=>rfl
     |some g=>
      show(!(g.flags.map ip).isEmpty)=!g.flags.isEmpty;cases g.flags <;> rfl
    rw[em,el];have aho:(s.head.isSome=true/\s.flag=none/\s.hoists.length<Flags.MOST/\(!k8 m)=true)↔(decide (m.ak.length<4)&& !k8 m)=true:=by
     simp_all
    constructor
    ·intro h;refine⟨_,af (aho.mpr h),?_⟩;refine⟨?_,.uJ h1 ?_ ?_,λz=>absurd z hc⟩
     ·show s.head=if m.classes=[] then none else some (m.side,eQ m.classes);omega
     ·show s.hoists++_=(m.ak++[_]).map i7;rw[h2,bX];rfl
     ·intro g hg;rcases gR.mp hg with hg|hg
      ·grind
      ·simp_all
    ·simp_all
 |shape k=>
  show(du m 2=true->∃s',(if s.head.isSome=true/\s.flag=none/\(match s.hoists.getLast? with
   |some g=>decide (g.flags.length<Flags.LONG)
   |none=>false)=true then some {s with flag:=some (k,[])} else none)=some s'/\_)/\(du m 2=false->(if s.head.isSome=true/\s.flag=none/\(match s.hoists.getLast? with
   |some g=>decide (g.flags.length<Flags.LONG)
   |none=>false)=true then some {s with flag:=some (k,[])} else none)=none)
  by_cases hc:m.classes=[]
  ·have em:du m 2=false:=by unfold du;simp[hc]
   simp_all
  ·have kU:=Fn.mpr hc;cases ho with
   |opened gs a b fs kk cs h1 h2 h3 h4 h5 h6 h7=>
    have em:du m 2=false:=by unfold du;simp[kU,Fm h1 h4]
    simp_all
   |uJ h1 h2 h3=>
    have em:du m 2=(match m.ak.getLast? with
     |some g=>decide (g.flags.length<8)
     |none=>false):=by
     unfold du;rw[kU,Fl h3];rfl
    have el:(match s.hoists.getLast? with
     |some g=>decide (g.flags.length<Flags.LONG)
     |none=>false)=(match m.ak.getLast? with
     |some g=>decide (g.flags.length<8)
     |none=>false):=by
     rw[h2,LJ];cases m.ak.getLast? with
     |none=>rfl
     |some g=>
      show decide ((g.flags.map ip).length<8)=decide (g.flags.length<8);rw[aA]
    rw[em,el];constructor
    ·intro h;refine⟨_,af ⟨ahl hc,h1,h⟩,?_⟩;rcases pZ m.ak with e|⟨gs,g,e⟩
     ·simp_all
     ·refine⟨hh,.opened gs g.above g.below g.flags k [] ?_ rfl ?_ Ú Ú ?_ ?_,λz=>absurd z hc⟩
      ·show m.ak.dropLast++(m.ak.getLast?.map _).toList=_;simp_all
      ·rw[h2,e,bX];rfl
      ·grind
      ·grind
    ·simp_all
 |row l=>
  have K0:l.length=4:=ht;show(du m 3=true->∃s',(match s.flag with
   |some (k,mm)=>if (mm++l.map iO).length=16 then some {s with hoists:=Flags.putFlag (Flags.seenOf k (mm++l.map iO)) s.hoists,flag:=none} else some {s with flag:=some (k,mm++l.map iO)}
   |none=>none)=some s'/\_)/\(du m 3=false->(match s.flag with
   |some (k,mm)=>if (mm++l.map iO).length=16 then some {s with hoists:=Flags.putFlag (Flags.seenOf k (mm++l.map iO)) s.hoists,flag:=none} else some {s with flag:=some (k,mm++l.map iO)}
   |none=>none)=none)
  cases ho with
  |uJ h1 h2 h3=>
   have em:du m 3=false:=by
    unfold du;by_cases hc:m.classes=[]
    ·simp_all
    ·simp[Fn.mpr hc,Fl h3]
   simp_all
  |opened gs a b fs kk cs h1 h2 h3 h4 h5 h6 h7=>
   have hc:m.classes≠[]:=λz=>by have:=hd z;rw[h1] at this;simp at this
   have em:du m 3=true:=by unfold du;simp[Fn.mpr hc,Fm h1 h4]
   rw[em,h2];refine⟨λ_=>?_,λz=>(by cases z)⟩;dsimp only;have ep:(qV m (.row l)).ak=gs++[⟨a,b,fs++[(kk,cs++l)]⟩]:=by
    show m.ak.dropLast++(m.ak.getLast?.map _).toList=_;simp_all
   have ec:cs.map iO++l.map iO=(cs++l).map iO:=by rw[bX]
   rw[ec,aA,mU,K0];by_cases qZ:cs.length+4=16
   ·rw[af qZ];refine⟨_,rfl,hh,.uJ rfl ?_ ?_,λz=>absurd z hc⟩
    ·have eg:i7 ⟨a,b,fs++[(kk,cs++l)]⟩=⟨a,b,fs.map ip++[Flags.seenOf kk ((cs++l).map iO)]⟩:=by
      unfold i7;rw[bX];rfl
     rw[h3,T9,ep,bX (f:=i7),a0,lQ,eg]
    ·grind
   ·rw[ah qZ];refine⟨_,rfl,hh,.opened gs a b fs kk (cs++l) ep rfl h3 ?_ ?_ h6 h7,λz=>absurd z hc⟩
    ·grind
    ·simp_all
end HD
end
section
namespace HD
open PySem PySem.Spec PyProof.Rows L2
open PySem.W (Codec)
abbrev nv(l:LN):LI:=l.map λn=>((n:Nat):Int)
def fk:gX:=⟨0,[],0,0,0,[]⟩
def nN{l:LN}{i:Nat}{y:V}(h:Çr[i]? =some y):∃z,l[i]? =some z/\y=V.int (z:Nat):=by
 obtain⟨z,hz,e⟩:=sy h;rw[bW] at hz;cases q:l[i]? with
 |none=>rw[q] at hz;cases hz
 |some n=>
  rw[q] at hz;have:=aN hz;subst this;exact⟨n,rfl,e⟩
def jF(l:LN):(nv l).length=l.length:=by unfold nv;rw[aA]
def BQ(h:aU H Ãk):H l.a=some (.ins CL l.dx (E1 l)):=h (l.a,_) (by simp[sG])
def ahp(h:aU H Ãk):H l.kl=some (.lst (l.kinds.map λk=>V.ref k.a)):=h (l.kl,_) (by simp[sG])
def ahq(h:aU H Ãk):aU H (zu CK l.kinds):=λx hx=>h x (by unfold sG;exact aO _ (aO _ (aO _ hx)))
def Ub{α:Type}{l:List α}(h:l.length=1):∃a,l=[a]:=List.length_eq_one_iff.mp h
def Uc{α:Type}{l:List α}(h:l.length=2):∃a b,l=[a,b]:=by
 obtain⟨a,l,rfl⟩:=Yi h;obtain⟨b,rfl⟩:=Ub (Yj h);exact⟨a,b,rfl⟩
def Ud{α:Type}{l:List α}(h:l.length=3):∃a b c,l=[a,b,c]:=by
 obtain⟨a,l,rfl⟩:=Yi h;obtain⟨b,c,rfl⟩:=Uc (Yj h);exact⟨a,b,c,rfl⟩
def ahr{α:Type}{l:List α}(h:l.length=4):∃a b c d,l=[a,b,c,d]:=by
 obtain⟨a,l,rfl⟩:=Yi h;obtain⟨b,c,d,rfl⟩:=Ud (Yj h);exact⟨a,b,c,d,rfl⟩
def lg(K:FR)(C:Addr)(fs:LS):Prop:=kO K C/\∀f∈fs,Ϧ f
def rg(c:Nat):Nat:=c-c%4+4-1-c%4
inductive LK(vs:au)(H:Hp)(Q:VK)(E':XK):Prop
 |mk (c:Nat) (_:vs=[.int (c:Nat)]) (_:Q (.int (rg c:Nat)) H)
def sJ(look classes:LI)(side:Nat):LI:=if side=1 then (List.range 16).map (λc=>classes.getD (look.getD (rg c) 0).toNat 0) else look.map λx=>classes.getD x.toNat 0
inductive Ue(K:FR)(vs:au)(H:Hp)(Q:VK)(E':XK):Prop
 |mk (al ac:Addr) (look classes:LI) (side:Nat) (_:vs=[.ref al,.ref ac,.int (side:Nat)]) (_:â al (iv look)) (_:iM look) (_:â ac (iv classes)) (_:classes.length=16) (_:∀H' p,ϟ (.lst (iv (sJ look classes side)))->Q ĥ H')
def Ug{D:Addr}{ys:au}{H:Hp}{α:Type}{L:List α}{g:α->Int}(hd:H D=some Âf)(e:ys=L.map λx=>V.int (g x)):H D=some (.lst (iv (L.map g))):=by
 simp_all
def xV{l:LI}{i:Nat}(h:i<l.length):(iv l)[i]? =some (.int (l.getD i 0)):=by
 simp_all
section
variable{P:Pg}{w:Wd}{K:FR}{mg:MG}{base:Heap}{CK CL CS N CV:Addr}{C:Cs}
def ahs:bH ["cell"] ["cell"] (aV Jy):=cw
def aht(F:br K "cell_behind" "cell_behind" Jy f fd)(cR:Cn mg "ROW" (.int 4)):Ì aE 1 f fd ["cell"] LK:=by
 refine F.ok ahs Â;obtain⟨c,rfl,k⟩:=h;refine⟨_,aD (aY (eM qG (eM qG (eM qF (eM qG Û (eM HR Û (b9 cR))) (b9 cR)) bo) (eM HR Û (b9 cR)))),?_⟩;refine⟨_,rfl,_,rfl,_,_,rfl,rfl,Æ,_,_,rfl,rfl,_,_,rfl,rfl,_,_,rfl,rfl,_,rfl,_,_,rfl,rfl,Æ,_,_,rfl,rfl,?_⟩;have e:((c:Int)-(c:Int)%4+4-1-(c:Int)%4)=((rg c:Nat):Int):=by unfold rg;omega
 simp_all
def Uh{c:Nat}(h:c<16):rg c<16:=by unfold rg;omega
def BR:bH ["look","classes","side","cell","colour"] ["look","classes","side"] (aV Jz):=cw
def ahu{f:Addr}{fd:FD}(F:br K "cells_seen" "cells_seen" Jz f fd)(tR:mg "range"=none)(cB:Cn mg "BEHIND" ŝ)(cC:Cn mg "CELLS" (.int 16))(dB:Ç 1 "cell_behind" ["cell"] LK):Ì aE 2 f fd ["look","classes","side"] (Ue K):=by
 refine F.ok BR Â;obtain⟨al,ac,look,classes,side,rfl,hL,qh,hC,Ui,k⟩:=h;refine⟨_,aB (dq (cI ic è (b9 cB) (bT _)) (aD (aY (eF (own:=[("cell",3)]) (te:=bU ϋ ϕ (bU ϋ ό (g9 LK [] E0 Âs))) rfl BR.nd (HM Õ tR (ae (b9 cC) ag)) Ë
   (λ_ _ _ _ _=>dJ 3 BR.nd) Ø (λ_ _ _ _ _=>cA cY á (cA cY Û (bz dB ĳ) Ù) Ù)))) d7)
  (aD (aY (eF (own:=[("colour",4)]) (te:=bU ϋ ϕ Ãp) rfl BR.nd Åg Ë
   (λ_ _ _ _ _=>dJ 4 BR.nd) Ø (λ_ _ _ _ _=>cA cY á Ĳ Ù)))),?_⟩
 have q:=k;unfold sJ at q;refine ő;rw[show V.int 1=V.int ((1:Nat):Int) from rfl,lW];have Uj:∀x,0<=x->x<16->pI (iv classes) x=some (.int (classes.getD x.toNat 0)):=λx h0 h1=>by
  obtain⟨n,rfl⟩:∃n:Nat,x=(n:Int):=⟨x.toNat,by omega⟩;exact fT (xV Æ)
 refine a8 Ï Ï
 ·simp at hc;rw[af hc] at q;refine⟨16,rfl,by decide,by decide,λD hD=>DR (lo:=0) (n:=16) (cy H D λi y ns=>ns=[]/\y=.int (classes.getD (look.getD (rg i) 0).toNat 0)) Ċ Âh û⟩
  ·have hb:=Uh hi;obtain⟨g0,g1⟩:=qh.2 _ (getD_mem (l:=look) (i:=rg i) (by rw[qh.1];exact hb));refine⟨rfl,eO ⟨_,rfl,_,rfl,_,rfl,i,?_,?_⟩⟩
   ·simp
   ·exact⟨al,_,_,.int (look.getD (rg i) 0),rfl,rfl,f.same.seq hL,fT (xV (by rw[qh.1];exact hb)),ac,_,_,_,rfl,rfl,f.same.seq hC,Uj _ g0 g1,(f.step hD Æ Ĺ ⟨rfl,rfl⟩ aU.nil Ä)⟩
  ·obtain⟨ys,s1,fw,eY,fl⟩:=f.end;refine q H' D ⟨s1,hD,Ug fw (uG (by assumption) λi y x h1 h2=>?_)⟩;obtain⟨ns,⟨_,e⟩,_⟩:=fl i y h1;grind
 ·simp at hc;rw[ah hc] at q;refine⟨_,rfl,al,rfl,⟨_,hL⟩,λD hD=>gC (K:=K) (a:=al) (xs:=iv look) (cy H D λi y ns=>ns=[]/\∃x,look[i]? =some x/\y=.int (classes.getD x.toNat 0)) Ċ (λi H' _ f=>f.same.seq hL) č û⟩
  ·obtain⟨z,hz,rfl⟩:=sy hi;have d8:=(bO.mp hz).1;have qZ:=qh.1;obtain⟨g0,g1⟩:=qh.2 z (bZ hz);exact⟨rfl,eO ⟨_,rfl,_,rfl,ac,_,_,_,rfl,rfl,f.same.seq hC,Uj z g0 g1,(f.step hD Æ Ĺ ⟨rfl,z,hz,rfl⟩ aU.nil Ä)⟩⟩
  ·obtain⟨ys,s1,fw,eY,fl⟩:=f.end;rw[eZ] at eY;refine q H' D ⟨s1,hD,Ug fw (uG eY λi y x h1 h2=>?_)⟩;obtain⟨ns,⟨_,z,e1,e⟩,_⟩:=fl i y h1;simp_all
inductive LL(K:FR)(C:Cs)(CK:Addr)(vs:au)(H:Hp)(Q:VK)(E':XK):Prop
 |mk (k:az) (ac:Addr) (classes:LI) (side:Nat) (_:vs=[.ref k.a,.ref ac,.int (side:Nat)]) (_:aU H (jU CK k)) (_:iM k.m.look) (_:â ac (iv classes)) (_:classes.length=16) (_:∀H' s,ai H H'->s.shape=k.m.shape->s.cells=sJ k.m.look classes side->aU H' (ik C s)->(∀x∈ik C s,H x.1=none)->Q (.ref s.a) H')
def ahv:bH ["kind","classes","side"] ["kind","classes","side"] (aV J1):=cw
def ahw(F:br K "sighting_of" "sighting_of" J1 f fd)(T:sD K CK)(dS:ă "Sighting" C.S ["shape","cells"])(dC:Ç 2 "cells_seen" ["look","classes","side"] (Ue K)):
  a7 P w K mg base aE 3 f fd ["kind","classes","side"] (LL K C CK):=by
 refine F.ok ahv Â;obtain⟨z,ac,classes,side,rfl,hz,qh,hC,Ui,k⟩:=h;refine⟨_,aD (aY (p7 dS hr (ae ï (ae (bz dC (ae ï (ae á Ţ))) ag)))),?_⟩;refine⟨_,rfl,bj (jn hz) T.c T.zj (Ta z) ⟨_,rfl,bj (jn hz) T.c T.Tc (Tb z) ⟨_,rfl,_,rfl,z.lk,ac,z.m.look,classes,side,rfl,aa.of (Tq hz),qh,hC,Ui,λH1 pc hN=>?_⟩⟩⟩;refine vW rfl λx dx H2 hx i5 aQ e2 s2=>?_;refine k H2 ⟨x,dx,pc,z.m.shape,_⟩ (hN.1.trans s2) rfl rfl Àm λy hy=>?_
 ·simp only[ik,ba,mY,mZ] at hy;rcases hy with rfl|rfl
  ·exact e2
  ·exact s2 _ _ hN.2.2
 ·simp only[ik,ba,mY,mZ] at hy;rcases hy with rfl|rfl
  ·exact hN.1.free hx
  ·exact hN.2.1
end
def Fo{D:Addr}{ys:au}{H:Hp}{n:Nat}{b:Nat->Bool}(hd:H D=some Âf)(hl:ys.length=n)(h:∀(i:Nat)(y:V),ys[i]? =some y->y=.bl (b i)):H D=some (.lst (((List.range n).map b).map V.bl)):=by
 have e:ys=(List.range n).map (V.bl∘b):=uG (by rw[hl,g7]) λi y x h1 h2=>by
  rw[h i y h1,xM h2];rfl
 rw[hd,cQ,e]
def wg(h w:LI)(i:Nat):Bool:=decide (h.getD i 0=16)||decide (h.getD i 0=w.getD i 0)
def wj(h w:Nat×LI):Bool:=if h.1≠3/\h.1≠w.1 then false else (List.range h.2.length).all (wg h.2 w.2)
inductive LM(C:Cs)(vs:au)(H:Hp)(Q:VK)(E':XK):Prop
 |mk (a b:eG) (_:vs=[.ref a.a,.ref b.a]) (_:Lies H (ik C a)) (_:Lies H (ik C b)) (_:a.cells.length<=b.cells.length) (_:a.cells.length<=100) (_:∀H',ai H H'->Q (.bl (wj a.m b.m)) H')
section
variable{P:Pg}{w:Wd}{K:FR}{mg:MG}{base:Heap}{CK CL CS N CV:Addr}{C:Cs}
def LO:bH ["half","whole","cell","seen"] ["half","whole"] (aV J5):=cw
def ahx{f:Addr}{fd:FD}(F:br K "may_be" "may_be" J5 f fd)(T:ma K C)(tA:mg "all"=none)(tE:mg "enumerate"=none)(cU:Cn mg "UNSEEN_SHAPE" (.int 3))(cX:Cn mg "UNSEEN_CELL" (.int 16)):
  a7 P w K mg base aE 1 f fd ["half","whole"] (LM C):=by
 refine F.ok LO Â;obtain⟨a,b,rfl,ha,hb,hl,ji,k⟩:=h;refine⟨_,aB (dq (PW.pt (pw_and (cI vq ï (b9 cU) (bT _)) (pw_and1 (cI vq ï ĕ (bT _))))) Âc d7)
  (aD (aY (c8 Äs Õ tA yt (ae (eF (own:=[("cell",2),("seen",3)]) (g:=g2 K 2 3) (te:=HI (bU ox Ŗ (tC (.int 16))) (bU ox Ŗ (bU ϋ (gi K ϕ "cells") ŗ))) rfl LO.nd
   (kY Õ tE Ât) Ë
   (λ_ _ _ _ _=>iE 2 3 LO.nd) Ø
   (λ_ _ _ _ _=>Pw (jy ic ø (b9 cX) (bT _)) (rV (jy ic ø (cA cY ĕ è Ù) (bT _))))) ag)))),?_⟩
 have em:wj a.m b.m=if a.shape≠3/\a.shape≠b.shape then false else (List.range a.cells.length).all (wg a.cells b.cells):=rfl;rw[em] at k;refine and_val (!decide (a.shape=3)) (!decide (a.shape=b.shape)) (λK h=>⟨_,rfl,bj ha.sa T.cS T.zj (KL a) Ģ⟩) (λ_ K h=>⟨_,rfl,bj ha.sa T.cS T.zj (KL a) ⟨_,rfl,bj hb.sa T.cS T.zj (KL b) Ģ⟩⟩) (a8 Ï Ï)
 ·rw[show V.int 3=V.int ((3:Nat):Int) from rfl,lW];exact h
 ·rw[lW];exact h
 ·rw[af É] at k;exact k H Ŷ
 ·rw[ah (by grind)] at k;have gH:=ha.sl;refine⟨_,rfl,bj ha.sa T.cS T.EK (EJ a) ⟨a.l,_,rfl,aa.of gH,λD hD=>lI (K:=K) (a:=a.l) (xs:=iv a.cells) (cy H D λi y ns=>ns=[]/\y=.bl (wg a.cells b.cells i)) Ċ (λi H' _ f=>aa.of (f.same _ _ gH)) ŋ û⟩⟩
  ·obtain⟨z,hz,rfl⟩:=sy hi;have d8:=(bO.mp hz).1;have s1:ai H' (Ϟ (.tup [.int (i:Nat),.int z])):=aL hT;have s2:=f.same.trans s1;refine Þ;refine RI (decide (z=16)) (decide (z=b.cells.getD i 0)) (λK h=>⟨_,rfl,rfl,?_⟩) (λ_ K h=>⟨_,rfl,_,rfl,bj (s2 _ _ hb.sa) T.cS T.EK (EJ b) ⟨_,rfl,b.l,_,_,.int (b.cells.getD i 0),rfl,rfl,aa.of (s2 _ _ hb.sl),fT (xV Æ),rfl,?_⟩⟩) ?_
   ·simp_all
   ·simp_all
   ·refine f.step hD Æ s1 ŕ aU.nil Ä;unfold wg;simp_all
  ·obtain⟨ys,s1,fw,eY,fl⟩:=f.end;rw[eZ] at eY;refine⟨D,(List.range a.cells.length).map (wg a.cells b.cells),rfl,aa.of (Fo fw eY λi y e=>?_),?_⟩
   ·obtain⟨ns,⟨_,e⟩,_⟩:=fl i y e;omega
   ·simp_all
end
structure cV where
 a:Addr
 ns:LN
structure cb where
 a:Addr
 ls:List cV
def lsN(x:cV):jl:=[(x.a,.lst (iv (nv x.ns)))]
def eT(y:cb):jl:=(y.a,.lst (y.ls.map λx=>V.ref x.a))::y.ls.flatMap lsN
def cb.m(y:cb):bp:=y.ls.map cV.ns
def i8(H:Hp)(ns:jl):Prop:=∀x∈ns,H x.1=none
def BS(h:aU H (lsN x)):H x.a=some Ź:=h (x.a,_) (by simp[lsN])
def jG(h:aU H Ær):H y.a=some (.lst (y.ls.map λx=>V.ref x.a)):=h (y.a,_) (by simp[eT])
def mj(h:aU H Ær)(hx:x∈y.ls):H x.a=some Ź:=BS λz hz=>h z (by unfold eT;exact aO _ (kC.mpr ⟨x,hx,hz⟩))
def Uk{H:Hp}{a:Addr}{ls:List cV}(h:H a=some (.lst (ls.map λx=>V.ref x.a)))(h2:∀x∈ls,aU H (lsN x)):aU H (eT ⟨a,ls⟩):=λz hz=>by
 rcases ba.mp hz with rfl|hz
 ·exact h
 ·obtain⟨x,hx,hz⟩:=kC.mp hz;exact h2 x hx z hz
def BU{H:Hp}{a:Addr}{ls:List cV}(h:H a=none)(h2:∀x∈ls,i8 H (lsN x)):i8 H (eT ⟨a,ls⟩):=λz hz=>by
 rcases ba.mp hz with rfl|hz
 ·exact h
 ·obtain⟨x,hx,hz⟩:=kC.mp hz;exact h2 x hx z hz
theorem iz{α:Type}{a:α->Addr}{l:List α}{i:Nat}{y:V}(h:(l.map λk=>V.ref (a k))[i]? =some y):∃z,l[i]? =some z/\y=V.ref (a z):=by
 rw[bW] at h;cases e:l[i]? with
 |none=>rw[e] at h;cases h
 |some z=>rw[e] at h;exact⟨z,rfl,(aN h).symm⟩
def LP{α β:Type}{bs:List α}{m:α->β}{l:List β}(hl:bs.length=l.length)(h:∀(i:Nat)(b:α)(x:β),bs[i]? =some b->l[i]? =some x->m b=x):bs.map m=l:=by
 apply wO;grind
def BV(i:Nat):(List.range (i+1)).filter p=(List.range i).filter p++(if p i=true then [i] else []):=by
 rw[Hg,Dj];grind
def ahy(i:Nat):((List.range i).filter p).length<=i:=by
 grind
def lL(H1:Hp)(D:Addr)(p:Nat->Bool)(i:Nat)(H:Hp):Prop:=ai H1 H/\H D=some (.lst (iv (nv ((List.range i).filter p))))
def lL.zero{H1:Hp}{D:Addr}{p:Nat->Bool}(hD:H1 D=none):lL H1 D p 0 ċ:=⟨aL hD,aq⟩
def lL.yes(hD:H1 D=none)(hi:i<1000000)(f:lL H1 D p i H)(s:ai H H4)(h:p i=true):jN D (lL H1 D p (i+1)) (V.int (i:Nat)) H4:=by
 refine⟨_,s _ _ f.2,?_,fm (f.1.trans s) hD,?_⟩
 ·rw[eZ,jF];have:=ahy (p:=p) i;exact gV Æ
 ·rw[aq,BV,af h];simp
def lL.no(f:lL H1 D p i H)(s:ai H H4)(h:¬p i=true):lL H1 D p (i+1) H4:=by
 refine⟨f.1.trans s,?_⟩;rw[BV,ah h,jv];exact s _ _ f.2
def jo(H:Hp)(D:Addr)(g:Nat->LN):Nat->Hp->Prop:=cy H D λi y ns=>∃b:cV,(b.ns=g i/\i8 H (lsN b))/\y=.ref b.a/\ns=lsN b
def jo.step{H H' H3:Hp}{D r:Addr}{g:Nat->LN}{i:Nat}(hD:H D=none)(hi:i<1000000)(f:jo H D g i H')(s:ai H' H3)(hr:H' r=none)(e:H3 r=some (.lst (iv (nv (g i))))):
  jN D (jo H D g (i+1)) (V.ref r) H3:=
 cy.step hD hi f s (ns:=lsN ⟨r,g i⟩) ⟨⟨r,g i⟩,⟨rfl,λx hx=>by
  simp only[lsN,ba,mY,mZ] at hx;subst hx;exact f.same.free hr⟩,rfl,rfl⟩ (λx hx=>by
  simp only[lsN,ba,mY,mZ] at hx;subst hx;exact e) (λx hx e=>by
  simp only[lsN,ba,mY,mZ] at hx;subst hx;exact f.has (by rw[<-e];exact hr))
def jo.end{H H':Hp}{D:Addr}{g:Nat->LN}{n:Nat}(hD:H D=none)(f:jo H D g n H'):∃y:cb,y.a=D/\ai H H'/\y.m=(List.range n).map g/\aU H' Ær/\i8 H Ær:=by
 obtain⟨ys,s1,fw,eY,fl⟩:=cy.end f;obtain⟨bs,e1,r1,l1⟩:=xP (v:=λb:cV=>V.ref b.a) (nd:=lsN) (R:=λi b=>b.ns=g i/\i8 H (lsN b)) fl;subst e1;rw[aA] at eY;refine⟨⟨D,bs⟩,rfl,s1,?_,Uk fw l1,BU hD λb hb=>?_⟩
 ·refine LP (by rw[aA,g7];exact eY) λi b x h1 h2=>?_;rw[bW] at h2;cases e:Èn[i]? with
  |none=>rw[e] at h2;cases h2
  |some j=>
   rw[e] at h2;cases h2;rw[xM e];exact(r1 i b h1).1
 ·obtain⟨i,hi,e⟩:=rM hb;exact(r1 i b (by rw[dm hi,e])).2
theorem wk{α β:Type}{l:List α}{g:α->β}{d:α}:(List.range l.length).map (λi=>g (l.getD i d))=l.map g:=by
 refine LP (by rw[g7,aA]) λi b x h1 h2=>?_;rw[bW] at h2;cases e:l[i]? with
 |none=>rw[e] at h2;cases h2
 |some z=>
  rw[e] at h2;cases h2;rw[xM h1,getD_at e]
def sL(ls:List (Nat×LI))(h:Nat×LI):LN:=(List.range ls.length).filter λi=>wj h (ls.getD i (0,[]))
def xW(ls:List (Nat×LI))(g:iG):bp:=g.flags.map (sL ls)
def zG(C:Cs)(H:Hp)(p:Addr)(ls:List eG):Prop:=H p=some (.lst (ls.map λl=>V.ref l.a))/\(∀l∈ls,Lies H (ik C l))/\∀l∈ls,l.cells.length=16
def zG.same{C:Cs}{H H':Hp}{p:Addr}{ls:List eG}(h:zG C H p ls)(s:ai H H'):zG C H' p ls:=⟨s _ _ h.1,λl hl=>(h.2.1 l hl).same s,h.2.2⟩
inductive LQ(C:Cs)(vs:au)(H:Hp)(Q:VK)(E':XK):Prop
 |mk (p:Addr) (ls:List eG) (h:eG) (_:vs=[.ref p,.ref h.a]) (_:zG C H p ls) (_:ls.length<=100000) (_:Lies H (ik C h)) (_:h.cells.length=16) (_:∀H' r,pW H H' r (.lst (iv (nv (sL Åe h.m))))->Q Âe H')
inductive LR(C:Cs)(vs:au)(H:Hp)(Q:VK)(E':XK):Prop
 |mk (p:Addr) (ls:List eG) (g:ck) (_:vs=[.ref p,.ref g.a]) (_:zG C H p ls) (_:ls.length<=100000) (_:Lies H Æo) (_:g.flags.length<=100) (_:(∀s∈g.flags,s.cells.length=16)) (_:∀H' y,ai H H'->cb.m y=xW Åe g.m->aU H' Ær->i8 H Ær->Q Àq H')
section
variable{P:Pg}{w:Wd}{K:FR}{mg:MG}{base:Heap}{CK CL CS N CV:Addr}{C:Cs}
def LU:bH ["looks","half","number","whole"] ["looks","half"] (aV J4):=cw
def ahz{f:Addr}{fd:FD}(F:br K "kinds_that_look_so" "kinds_that_look_so" J4 f fd)(tE:mg "enumerate"=none)(dM:Ç 1 "may_be" ["half","whole"] (LM C)):Ì aE 2 f fd ["looks","half"] (LQ C):=by
 refine F.ok LU Â;obtain⟨p,ls,z,rfl,hp,hl,hz,ahA,k⟩:=h;refine⟨_,aD (aY (eF (own:=[("number",2),("whole",3)]) (g:=g2 K 2 3) (tt:=tB (g9 (LM C) [] E0 (bh ϕ Âs))) (te:=ay 2) rfl LU.nd
   (Ân) Ë
   (λ_ _ _ _ _=>iE 2 3 LU.nd)
   (λ_ _ _ _ _=>pL (jx (bz dM (ae á ĳ)))) Ãy)),?_⟩
 refine⟨_,rfl,p,_,rfl,aa.of hp.1,λD hD=>lI (K:=K) (a:=p) (xs:=ls.map λl=>V.ref l.a) (lL H D λi=>wj z.m ((ls.map eG.m).getD i (0,[]))) (lL.zero hD) (λi H' _ f=>aa.of (f.1 _ _ hp.1)) ŋ û⟩
 ·obtain⟨l,eY,rfl⟩:=iz hi;have hm:=bZ eY;have d8:=(bO.mp eY).1;have s1:ai H' (Ϟ (.tup [.int (i:Nat),.ref l.a])):=aL hT;have s2:=f.1.trans s1;refine æ;refine⟨_,rfl,_,rfl,z,l,rfl,hz.same s2,(hp.2.1 l hm).same s2,by rw[ahA,hp.2.2 l hm];exact bJ _,by omega,λH3 s3=>đ⟩;have e:wj z.m ((ls.map eG.m).getD i (0,[]))=wj z.m l.m:=by rw[getD_map eY]
  refine a8 Ï Ï
  ·exact⟨_,rfl,f.yes hD Æ Åc (e.trans hc)⟩
  ·exact f.no Åc É
 ·have e:=f.2;rw[aA] at e;refine k H' D ⟨f.1,hD,?_⟩;unfold sL;simp_all
def LW:bH ["looks","glimpse","flag"] ["looks","glimpse"] (aV J3):=cw
def ahB{f:Addr}{fd:FD}(F:br K "kinds_along" "kinds_along" J3 f fd)(T:ma K C)(dM:Ç 2 "kinds_that_look_so" ["looks","half"] (LQ C)):Ì aE 3 f fd ["looks","glimpse"] (LR C):=by
 refine F.ok LW Â;obtain⟨p,ls,g,rfl,hp,hl,hg,nO,ahC,k⟩:=h;have gc:=hg.fl;refine⟨_,aD (aY (eF (own:=[("flag",2)]) (te:=g9 (LQ C) [] E0 (bh ό (bh ŗ dw))) rfl LW.nd (eX ĕ) Ë
   (λ_ _ _ _ _=>dJ 2 LW.nd) Ø (λ_ _ _ _ _=>bz dM (ae Û Ţ)))),?_⟩
 refine⟨_,rfl,bj hg.ga T.cG T.vS (vR g) ⟨g.l,rfl,⟨_,aa.of gc⟩,λD hD=>gC (K:=K) (a:=g.l) (xs:=g.flags.map λs=>V.ref s.a) (jo H D λi=>sL Åe ((g.flags.map eG.m).getD i (0,[]))) Ċ (λi H' _ f=>aa.of (f.same _ _ gc)) č û⟩⟩
 ·obtain⟨sg,h1,rfl⟩:=iz hi;have hm:=bZ h1;have d8:=(bO.mp h1).1;exact⟨rfl,eO ⟨_,rfl,_,rfl,p,ls,sg,rfl,hp.same f.same,hl,(hg.zi hm).same f.same,ahC sg hm,λH3 r n3=>(jo.step hD Æ f n3.1 n3.2.1 (by rw[getD_map h1];exact n3.2.2))⟩⟩
 ·obtain⟨y,rfl,s1,em,l1,fr⟩:=jo.end hD f;refine k H' y s1 ?_ l1 fr;rw[em,aA];have:=wk (l:=g.flags.map eG.m) (g:=sL Åe) (d:=(0,[]));rw[aA] at this;exact this
end
def nP{β:Type}(nd:β->jl)(ad:β->Addr)(R:Nat->β->Prop)(H:Hp)(D:Addr):Nat->Hp->Prop:=cy H D λi y ns=>∃b:β,(R i b/\i8 H (nd b))/\y=.ref (ad b)/\ns=nd b
def nP.step{β:Type}{nd:β->jl}{ad:β->Addr}{R:Nat->β->Prop}{H H' H3:Hp}{D:Addr}{i:Nat}(hD:H D=none)(hi:i<1000000)(f:nP nd ad R H D i H')(s:ai H' H3)(b:β)(r:R i b)(l:aU H3 (nd b))(fr:i8 H' (nd b)):
  jN D (nP nd ad R H D (i+1)) (V.ref (ad b)) H3:=
 cy.step hD hi f s (ns:=nd b) ⟨b,⟨r,λx hx=>f.same.free (fr x hx)⟩,rfl,rfl⟩ l (λx hx e=>f.has (by rw[<-e];exact fr x hx))
def nP.end{β:Type}{nd:β->jl}{ad:β->Addr}{R:Nat->β->Prop}{H H':Hp}{D:Addr}{n:Nat}(f:nP nd ad R H D n H'):∃bs:List β,bs.length=n/\ai H H'/\H' D=some (.lst (bs.map λb=>V.ref (ad b)))/\(∀(i:Nat)(b:β),bs[i]? =some b->R i b)/\(∀b∈bs,aU H' (nd b))/\∀b∈bs,i8 H (nd b):=by
 obtain⟨ys,s1,fw,eY,fl⟩:=cy.end f;obtain⟨bs,e1,r1,l1⟩:=xP (v:=λb:β=>V.ref (ad b)) (nd:=nd) (R:=λi b=>R i b/\i8 H (nd b)) fl;subst e1;rw[aA] at eY;refine⟨bs,eY,s1,fw,λi b e=>(r1 i b e).1,l1,λb hb=>?_⟩;obtain⟨i,hi,e⟩:=rM hb;exact(r1 i b (by rw[dm hi,e])).2
def i8.back(h:i8 H' ns)(s:ai H H'):i8 H ns:=λx hx=>s.free (h x hx)
def Fp{α β γ:Type}{bs:List β}{l:List α}{m:β->γ}{g:α->γ}(hl:bs.length=l.length)(h:∀(i:Nat)(b:β)(x:α),bs[i]? =some b->l[i]? =some x->m b=g x):bs.map m=l.map g:=
 LP (by rw[aA];exact hl) λi b y h1 h2=>by
  rw[bW] at h2;cases e:l[i]? with
  |none=>rw[e] at h2;cases h2
  |some x=>
   rw[e] at h2;cases h2;exact h i b x h1 e
structure uK where
 a:Addr
 dx:Addr
 gl:Addr
 side:Nat
 gs:List cb
def Fq(v:uK):List (Str×V):=[("side",.int (v.side:Nat)),("glimpses",.ref v.gl)]
def qj(CV:Addr)(v:uK):jl:=(v.a,.ins CV v.dx (Fq v))::(v.gl,.lst (v.gs.map λg=>V.ref g.a))::v.gs.flatMap eT
def ahD(v:uK):(Fq v).lookup ("side":Str)=some (.int (v.side:Nat)):=il
def ahE(v:uK):(Fq v).lookup ("glimpses":Str)=some (.ref v.gl):=(fY Ê).trans il
def Ul(h:aU H År):H v.a=some (.ins CV v.dx (Fq v)):=h (v.a,_) (by simp[qj])
def ahF(h:aU H År):H v.gl=some (.lst (v.gs.map λg=>V.ref g.a)):=h (v.gl,_) (by simp[qj])
def ahG(h:aU H År)(hg:g∈v.gs):aU H (eT g):=λx hx=>h x (by
 unfold qj;exact aO _ (aO _ (kC.mpr ⟨g,hg,hx⟩)))
def oP(classes:LI)(side:Nat)(k:gX):Nat×LI:=(k.shape,sJ k.look classes side)
def qk(ms:aF)(classes:LI)(side:Nat)(gs:List iG):List bp:=gs.map (xW (ms.map (oP classes side)))
structure wm(C:Cs)(H:Hp)(p:eP):Prop where
 l:Lies H Ág
 xX:p.classes.length=16
 dc:p.ak.length<=100
 flags:∀g∈p.ak,g.flags.length<=100
 cells:∀g∈p.ak,∀s∈g.flags,s.cells.length=16
def wm.same{C:Cs}{H H':Hp}{p:eP}(h:wm C H p)(s:ai H H'):wm C H' p:=⟨h.l.same s,h.xX,h.dc,h.flags,h.cells⟩
structure oQ(CK:Addr)(H:Hp)(pk:Addr)(ks:List az):Prop where
 a:H pk=some (.lst (ks.map λk=>V.ref k.a))
 l:aU H (zu CK ks)
 dc:ks.length<=100000
 look:∀k∈ks,iM k.m.look
def oQ.same{CK:Addr}{H H':Hp}{pk:Addr}{ks:List az}(h:Ŭ ks)(s:ai H H'):oQ CK H' pk ks:=⟨s _ _ h.a,h.l.same s,h.dc,h.look⟩
inductive LX(C:Cs)(CK CV:Addr)(vs:au)(H:Hp)(Q:VK)(E':XK):Prop
 |mk (pk:Addr) (ks:List az) (p:eP) (side:Nat) (_:vs=[.ref pk,.ref p.a,.int (side:Nat)]) (_:Ŭ ks) (_:wm C H p) (_:∀H' v,ai H H'->v.side=side->v.gs.map cb.m=qk Í p.classes side ñ->aU H' År->i8 H År->Q (.ref v.a) H')
section
variable{P:Pg}{w:Wd}{K:FR}{mg:MG}{base:Heap}{CK CL CS N CV:Addr}{C:Cs}
def zH:bH ["kinds","plate","side","looks","kind","glimpse"] ["kinds","plate","side"] (aV J2):=cw
def ahH{look classes:LI}{side:Nat}(h:iM look):(sJ look classes side).length=16:=by
 unfold sJ;split
 ·rfl
 ·rw[aA,h.1]
def ahI{f:Addr}{fd:FD}(F:br K "view_of" "view_of" J2 f fd)(T:ma K C)(dV:ă "View" CV ["side","glimpses"])(dS:Ç 3 "sighting_of" ["kind","classes","side"] (LL K C CK))(dA:Ç 3 "kinds_along" ["looks","glimpse"] (LR C)):
  a7 P w K mg base aE 4 f fd ["kinds","plate","side"] (LX C CK CV):=by
 refine F.ok zH Â;obtain⟨pk,ks,p,side,rfl,hk,hp,k⟩:=h;refine⟨_,aB (cj 3 zH.nd (eF (own:=[("kind",4)]) (te:=g9 (LL K C CK) [] E0 (bh Ãp (bh (gi K ϕ "classes") (bh ŗ dw)))) rfl zH.nd Åg Ë
   (λ_ _ _ _ _=>dJ 4 zH.nd) Ø (λ_ _ _ _ _=>bz dS (ae Ĳ (ae ĕ Ţ)))))
  (aD (aY (p7 dV hr (ae è (ae (eF (own:=[("glimpse",5)]) (te:=g9 (LR C) [] E0 (bh Ŗ Èk)) rfl zH.nd (eX ĕ) Ë
   (λ_ _ _ _ _=>dJ 5 zH.nd) Ø (λ_ _ _ _ _=>bz dA (ae ø ţ))) ag))))),?_⟩
 refine⟨_,rfl,pk,rfl,⟨_,aa.of hk.a⟩,λD hD=>gC (K:=K) (a:=pk) (xs:=ks.map λk=>V.ref k.a) (nP (ik C) eG.a (λi b=>∀k,ks[i]? =some k->b.m=oP p.classes side k.m/\b.cells.length=16) H D) Ċ (λi H' _ f=>aa.of (f.same _ _ hk.a)) č û⟩
 ·obtain⟨z,h1,rfl⟩:=iz hi;have hm:=bZ h1;have d8:=(bO.mp h1).1;have hf:=hk.dc;refine⟨rfl,eO ⟨_,rfl,_,rfl,bj (f.same _ _ hp.l.pl) T.cP T.EL (KJ p) ⟨_,rfl,z,p.cl,p.classes,side,rfl,(nH hk.l hm).same f.same,hk.look z hm,aa.of (f.same _ _ hp.l.cl),hp.xX,λH3 sg s3 e1 e2 ls fr=>?_⟩⟩⟩;refine nP.step hD Æ f s3 sg (λk' kT=>?_) ls fr;rw[h1] at kT;cases kT;refine⟨?_,by rw[e2];exact ahH (hk.look z hm)⟩;unfold eG.m oP;simp_all
 ·obtain⟨bs,jW,s1,fw,r1,l1,fr1⟩:=nP.end f;rw[aA] at jW;have ahJ:zG C H' D bs:=⟨fw,λb hb=>l1 b hb,λb hb=>by
   obtain⟨i,hi,e⟩:=rM hb;exact(r1 i b (by grind) ks[i] (dm Æ)).2⟩
  have em:bs.map eG.m=(ks.map az.m).map (oP p.classes side):=by
   rw[cQ];exact Fp jW λi b x h1 h2=>(r1 i b h1 x h2).1
  have oh:=hp.same s1;have hf:=hk.dc;refine⟨_,rfl,_,rfl,bj oh.l.pl T.cP T.nE Ån ⟨p.gl,rfl,⟨_,aa.of oh.l.gl⟩,λD2 cJ=>gC (K:=K) (a:=p.gl) (xs:=p.ak.map λg=>V.ref g.a) (nP eT cb.a (λi b=>∀g,p.ak[i]? =some g->b.m=xW (bs.map eG.m) g.m) H' D2) Ão (λi H2 _ f=>aa.of (f.same _ _ oh.l.gl)) (λi y H2 hi f=>?_) Æd⟩⟩
  ·obtain⟨g,h1,rfl⟩:=iz hi;have hm:=bZ h1;have d8:=(bO.mp h1).1;have LY:=hp.dc;refine⟨rfl,eO ⟨_,rfl,_,rfl,D,bs,g,rfl,ahJ.same f.same,by omega,(oh.l.sub hm).same f.same,hp.flags g hm,hp.cells g hm,λH3 y s3 e1 ls fr=>?_⟩⟩;refine nP.step cJ Æ f s3 y (λk' kT=>?_) ls fr;simp_all
  ·obtain⟨gs,nO,s2,fO,r2,l2,fr2⟩:=nP.end f;rw[aA] at nO;refine vW rfl λx dx H3 hx i5 aQ e3 s3=>?_;refine k H3 ⟨x,dx,D2,side,gs⟩ (s1.trans Į) rfl ?_ Àm λy hy=>?_
   ·unfold qk;rw[cQ,<-em];exact Fp nO λi b x h1 h2=>r2 i b h1 x h2
   ·simp only[qj,ba] at hy;rcases hy with rfl|rfl|hy
    ·exact e3
    ·exact s3 _ _ fO
    ·obtain⟨b,hb,hy⟩:=kC.mp hy;exact s3 _ _ (l2 b hb y hy)
   ·simp only[qj,ba] at hy;rcases hy with rfl|rfl|hy
    ·exact(s1.trans s2).free hx
    ·exact s1.free cJ
    ·obtain⟨b,hb,hy⟩:=kC.mp hy;exact s1.free (fr2 b hb y hy)
end
def in_nums(x:Nat)(l:LN):vx (.int (x:Nat)) Çr=l.contains x:=by
 rw[KF];grind
def Fs(h:i<l.length):Çr[i]? =some (.int ((l.getD i 0:Nat):Int)):=by
 simp_all
def iA(y:cb):y.m.length=y.ls.length:=by unfold cb.m;rw[aA]
def BW{y:cb}{i:Nat}{x:cV}(h:y.ls[i]? =some x):y.m.getD i []=x.ns:=by unfold cb.m;rw[getD_map h]
def xY(tO:Nat)(h:LN)(seen:bp):Bool:=(List.range seen.length).all λi=>(seen.getD i []).contains (h.getD (tO+i) 0)
inductive LZ(vs:au)(H:Hp)(Q:VK)(E':XK):Prop
 |mk (tO:Nat) (h:cV) (y:cb) (_:vs=[.int (tO:Nat),.ref h.a,.ref y.a]) (_:aU H (lsN h)) (_:aU H Ær) (_:tO+y.ls.length<=h.ns.length) (_:y.ls.length<=100) (_:∀H',ai H H'->Q (.bl (xY tO h.ns y.m)) H')
section
variable{P:Pg}{w:Wd}{K:FR}{mg:MG}{base:Heap}{CK CL CS N CV:Addr}{C:Cs}
def L6:bH ["place","hoist","kinds_seen","number","kinds"] ["place","hoist","kinds_seen"] (aV J8):=cw
def ahL{f:Addr}{fd:FD}(F:br K "fits_at" "fits_at" J8 f fd)(tA:mg "all"=none)(tE:mg "enumerate"=none):Ì aE 1 f fd ["place","hoist","kinds_seen"] LZ:=by
 refine F.ok L6 Â;obtain⟨tO,h,y,rfl,hh,hy,j7,yP,k⟩:=h;refine⟨_,aD (aY (c8 Äs Õ tA yt (ae (eF (own:=[("number",3),("kinds",4)]) (g:=g2 K 3 4) (te:=bU (DN K false) (bU ϋ ϕ (bU aae ό Ŗ)) Ãp) rfl L6.nd
   (kY Õ tE Ţ) Ë
   (λ_ _ _ _ _=>iE 3 4 L6.nd) Ø
   (λ_ _ _ _ _=>jy Ig (cA cY á (eM qF Û ø) Ù) Ĳ (by with_unfolding_all rfl))) ag))),?_⟩
 refine⟨_,rfl,y.a,_,rfl,aa.of (jG hy),λD hD=>lI (K:=K) (a:=y.a) (xs:=y.ls.map λx=>V.ref x.a) (cy H D λi v ns=>ns=[]/\v=.bl ((y.m.getD i []).contains (h.ns.getD (tO+i) 0))) Ċ (λi H' _ f=>aa.of (f.same _ _ (jG hy))) ŋ û⟩
 ·obtain⟨l,h1,rfl⟩:=iz hi;have hm:=bZ h1;have d8:=(bO.mp h1).1;have s1:ai H' (Ϟ (.tup [.int (i:Nat),.ref l.a])):=aL hT;have s2:=f.same.trans s1;refine Þ;refine⟨_,rfl,_,rfl,_,rfl,_,_,rfl,rfl,h.a,_,_,.int ((h.ns.getD (tO+i) 0:Nat):Int),rfl,rfl,aa.of (s2 _ _ (BS hh)),fT (j:=tO+i) (Fs Æ),_,rfl,l.a,_,rfl,.inl (aa.of (s2 _ _ (mj hy hm))),rfl,BC _,?_⟩;refine f.step hD Æ s1 ŕ aU.nil Ä;rw[BW h1,<-in_nums];rfl
 ·obtain⟨ys,s1,fw,eY,fl⟩:=f.end;rw[aA] at eY;refine⟨D,(List.range y.ls.length).map λi=>(y.m.getD i []).contains (h.ns.getD (tO+i) 0),rfl,aa.of (Fo fw eY λi v e=>?_),?_⟩
  ·obtain⟨ns,⟨_,e⟩,_⟩:=fl i v e;omega
  ·have q:=k H' s1;unfold xY at q;rw[iA] at q;simp_all
def nQ(below:Bool)(u:Nat):Nat:=if below=true then 0 else u
def sM(above:Bool)(u:Nat):Nat:=if above=true then u else 0
def L7(a b:Bool)(u:Nat)(h:LN)(seen:bp):Bool:=(List.range (sM a u+1-nQ b u)).any λi=>xY (nQ b u+i) h seen
def uL(h:LN)(g:iG)(seen:bp):Bool:=L7 g.above g.below (h.length-g.flags.length) h seen
inductive L9(C:Cs)(vs:au)(H:Hp)(Q:VK)(E':XK):Prop
 |mk (h:cV) (g:ck) (y:cb) (_:vs=[.ref h.a,.ref g.a,.ref y.a]) (_:aU H (lsN h)) (_:Lies H Æo) (_:aU H Ær) (_:y.ls.length=g.flags.length) (_:g.flags.length<=h.ns.length) (_:h.ns.length<=100) (_:∀H',ai H H'->Q (.bl (uL h.ns g.m y.m)) H')
def zI:bH ["hoist","glimpse","kinds_seen","unseen","first","last","place"] ["hoist","glimpse","kinds_seen"] (aV J7):=cw
def ahM(F:br K "hoist_fits" "hoist_fits" J7 f fd)(T:ma K C)(tL:mg "len"=none)(tA:mg "any"=none)(tR:mg "range"=none)(dF:Ç 1 "fits_at" ["place","hoist","kinds_seen"] LZ):Ì aE 2 f fd ["hoist","glimpse","kinds_seen"] (L9 C):=by
 refine F.ok zI Â;obtain⟨h,g,y,rfl,hh,hg,hy,si,j7,yP,k⟩:=h;refine⟨_,aB (cj 3 zI.nd (eM qG Ć ŵ))
  (aB (cj 4 zI.nd (rW (jx ĕ) bo ø))
  (aB (cj 5 zI.nd (rW (jx ĕ) ø bo))
  (aD (aY (c8 (QC rfl) Õ tA boot_any (ae (eF (own:=[("place",6)]) (te:=g9 LZ [] E0 (bh (ay 6) (bh ό (bh ŗ dw)))) rfl zI.nd (ZN Õ tR (ae Ĳ (ae (eM qF Äd bo) ag))) Ë
   (λ_ _ _ _ _=>dJ 6 zI.nd) Ø (λ_ _ _ _ _=>bz dF (ae Ãl (ae Û Ţ)))) ag)))))),?_⟩
 have eu:((h.ns.length:Nat):Int)-((g.flags.length:Nat):Int)=((h.ns.length-g.flags.length:Nat):Int):=by omega
 refine⟨_,rfl,h.a,_,rfl,.inl (aa.of (BS hh)),_,rfl,bj hg.ga T.cG T.vS (vR g) ⟨g.l,_,rfl,.inl (aa.of hg.fl),_,_,rfl,rfl,?_⟩⟩;dsimp only;rw[eZ,jF,aA,eu];have k:=k;unfold uL at k;rw[show g.m.flags.length=g.flags.length by unfold ck.m;rw[aA],show g.m.above=g.above from rfl,show g.m.below=g.below from rfl] at k;generalize hu:h.ns.length-g.flags.length=u at k;unfold L7 at k;refine Ej g.below (.int ((nQ g.below u:Nat):Int)) (λK q=>⟨_,rfl,bj hg.ga T.cG T.SB (Sz g) ⟨_,rfl,q⟩⟩) ϩ (λe K q=>đ) ?_
 ·rw[e] at q;exact q
 ·rw[e] at q;exact q
 ·dsimp only;refine RK (RJ g.above (.int ((sM g.above u:Nat):Int)) (λK q=>⟨_,rfl,bj hg.ga T.cG T.SA (Sy g) ⟨_,rfl,q⟩⟩) (λe K q=>đ) ϩ ?_)
  ·rw[e] at q;exact q
  ·rw[e] at q;exact q
  ·have b1:nQ g.below u<=u:=by unfold nQ;split <;> omega
   have b2:sM g.above u<=u:=by unfold sM;split <;> omega
   generalize nQ g.below u=fi at b1 k;generalize sM g.above u=la at b2 k;refine⟨_,rfl,_,rfl,_,_,rfl,rfl,(fi:Int),((la:Int)+1),rfl,⟨by omega,by omega,by omega,by omega⟩,λD hD=>?_⟩;rw[show(((la:Nat):Int)+1-(fi:Nat)).toNat=la+1-fi by omega];refine DR (lo:=(fi:Int)) (n:=la+1-fi) (cy H D λi v ns=>ns=[]/\v=.bl (xY (fi+i) h.ns y.m)) Ċ Âh û
   ·refine⟨rfl,eO ⟨_,rfl,_,rfl,_,rfl,fi+i,h,y,?_,aU.same hh f.same,aU.same hy f.same,by omega,by omega,λH3 s3=>?_⟩⟩
    ·rfl
    ·exact f.step hD Æ s3 ⟨rfl,rfl⟩ aU.nil Ä
   ·obtain⟨ys,s1,fw,eY,fl⟩:=f.end;refine⟨D,(List.range (la+1-fi)).map λi=>xY (fi+i) h.ns y.m,rfl,aa.of (Fo fw eY λi v e=>?_),?_⟩
    ·obtain⟨ns,⟨_,e⟩,_⟩:=fl i v e;omega
    ·simp_all
def ml:bp->List iG->List bp->Bool
 |h::hs,g::gs,s::ss=>uL h g s&&ml hs gs ss
 |_,_,_=>true
inductive Ma(C:Cs)(CV:Addr)(vs:au)(H:Hp)(Q:VK)(E':XK):Prop
 |mk (y:cb) (p:eP) (v:uK) (_:vs=[.ref y.a,.ref p.a,.ref v.a]) (_:aU H Ær) (_:wm C H p) (_:aU H År) (_:y.ls.length=p.ak.length) (_:v.gs.length=p.ak.length) (_:(∀(i:Nat)(h:cV)(g:ck)(s:cb),y.ls[i]? =some h->p.ak[i]? =some g->v.gs[i]? =some s->s.ls.length=g.flags.length/\g.flags.length<=h.ns.length/\h.ns.length<=100)) (_:∀H',ai H H'->Q (.bl (ml y.m ñ ϫ)) H')
theorem ahN(hs:bp):∀(gs:List iG)(ss:List bp),hs.length=gs.length->ss.length=gs.length->ml hs gs ss=(List.range hs.length).all λi=>uL (hs.getD i []) (gs.getD i ⟨false,false,[]⟩) (ss.getD i []):=by
 induction hs with
 |nil=>
  intro gs ss h1 h2;cases gs with
  |nil=>cases ss with
   |nil=>rfl
   |cons _ _=>cases h2
  |cons _ _=>cases h1
 |cons h hs ih=>
  intro gs ss h1 h2;cases gs with
  |nil=>cases h1
  |cons g gs=>cases ss with
   |nil=>cases h2
   |cons s ss=>
    have ih:=ih gs ss (À h1) (À h2);unfold ml;rw[ih,c7,De,rK,rL];rfl
def Mb:bH ["hoists","plate","view","j","hoist"] ["hoists","plate","view"] (aV J6):=cw
def ahO{f:Addr}{fd:FD}(F:br K "fits" "fits" J6 f fd)(T:ma K C)(TV:lg K CV ["side","glimpses"])(tA:mg "all"=none)(tE:mg "enumerate"=none)(dF:Ç 2 "hoist_fits" ["hoist","glimpse","kinds_seen"] (L9 C)):Ì aE 3 f fd ["hoists","plate","view"] (Ma C CV):=by
 refine F.ok Mb Â;obtain⟨y,p,v,rfl,hy,hp,hv,eY,ji,ax,k⟩:=h;refine⟨_,aD (aY (c8 Äs Õ tA yt (ae (eF (own:=[("j",3),("hoist",4)]) (g:=g2 K 3 4) (te:=g9 (L9 C) [] E0 (bh Ãp (bh (bU ϋ (gi K ϕ "glimpses") Ŗ) (bh (bU ϋ (gi K ŗ "glimpses") Ŗ) dw)))) rfl Mb.nd
   (Ân) Ë
   (λ_ _ _ _ _=>iE 3 4 Mb.nd) Ø
   (λ_ _ _ _ _=>bz dF (ae Ĳ (ae (cA cY ĕ ø Ù) (ae (cA cY Àk ø Ù) ag))))) ag))),?_⟩
 have yP:=hp.dc;rw[ahN _ _ _ (by rw[iA,aA];exact eY) É,iA] at k;refine⟨_,rfl,y.a,_,rfl,aa.of (jG hy),λD hD=>lI (K:=K) (a:=y.a) (xs:=y.ls.map λx=>V.ref x.a) (cy H D λi u ns=>ns=[]/\u=.bl (uL Çh ((p.ak.map ck.m).getD i ⟨false,false,[]⟩) ((v.gs.map cb.m).getD i []))) Ċ (λi H' _ f=>aa.of (f.same _ _ (jG hy))) ŋ û⟩
 ·obtain⟨l,h1,rfl⟩:=iz hi;have hm:=bZ h1;have d8:=(bO.mp h1).1;have s1:ai H' (Ϟ (.tup [.int (i:Nat),.ref l.a])):=aL hT;have s2:=f.same.trans s1;obtain⟨g,hg⟩:∃g,p.ak[i]? =some g:=⟨_,dm Æ⟩;obtain⟨z,hz⟩:∃z,v.gs[i]? =some z:=⟨_,dm Æ⟩;obtain⟨o1,o2,o3⟩:=ax i l g z h1 hg hz;have hgm:=bZ hg;have BX:=bZ hz;refine Þ;refine⟨_,rfl,_,rfl,bj (s2 _ _ hp.l.pl) T.cP T.nE Ån ⟨_,rfl,p.gl,_,_,.ref g.a,rfl,rfl,aa.of (s2 _ _ hp.l.gl),fT (by rw[bW,hg];rfl),
   _,rfl,bj (s2 _ _ (Ul hv)) TV.1 (TV.2 _ Ä) (ahE v) ⟨_,rfl,v.gl,_,_,.ref z.a,rfl,rfl,aa.of (s2 _ _ (ahF hv)),fT (by rw[bW,hz];rfl),l,g,z,rfl,λx hx=>?_,(hp.l.sub hgm).same s2,(ahG hv BX).same s2,o1,o2,o3,λH3 s3=>?_⟩⟩⟩
  ·exact s2 _ _ (hy x (by unfold eT;exact aO _ (kC.mpr ⟨l,hm,hx⟩)))
  ·refine f.step hD Æ Åc ŕ aU.nil Ä;rw[BW h1,getD_map hg,getD_map hz]
 ·obtain⟨ys,s1,fw,Um,fl⟩:=f.end;rw[aA] at Um;refine⟨D,_,rfl,aa.of (Fo (b:=λi=>uL Çh ((p.ak.map ck.m).getD i ⟨false,false,[]⟩) ((v.gs.map cb.m).getD i [])) fw Um λi v e=>?_),?_⟩
  ·obtain⟨ns,⟨_,e⟩,_⟩:=fl i v e;omega
  ·simp_all
end
def rh(p:Nat->Bool)(g:Nat->Int)(n:Nat):LI:=((List.range n).filter p).map g
def nR(H1:Hp)(D:Addr)(p:Nat->Bool)(g:Nat->Int)(i:Nat)(H:Hp):Prop:=ai H1 H/\H D=some (.lst (iv (rh p g i)))
def nR.zero(hD:H1 D=none):nR H1 D p g 0 ċ:=⟨aL hD,aq⟩
def ahQ(p:Nat->Bool)(g:Nat->Int)(i:Nat):(rh p g i).length<=i:=by
 unfold rh;grind
def nR.yes(hD:H1 D=none)(hi:i<1000000)(f:nR H1 D p g i H)(s:ai H H4)(h:p i=true)(hv:v=V.int (g i)):jN D (nR H1 D p g (i+1)) v H4:=by
 subst hv;refine⟨_,s _ _ f.2,?_,fm (f.1.trans s) hD,?_⟩
 ·rw[eZ];have:=ahQ p g i;exact gV Æ
 ·unfold rh;rw[aq,BV,af h,bX];simp
def nR.no(f:nR H1 D p g i H)(s:ai H H4)(h:¬p i=true):nR H1 D p g (i+1) H4:=by
 refine⟨f.1.trans s,?_⟩;unfold rh;rw[BV,ah h,jv];exact s _ _ f.2
def fC(H1:Hp)(D:Addr)(g:Nat->Int)(i:Nat)(H:Hp):Prop:=ai H1 H/\H D=some (.lst (iv ((List.range i).map g)))
def fC.zero(hD:H1 D=none):fC H1 D g 0 ċ:=⟨aL hD,aq⟩
def fC.step(hD:H1 D=none)(hi:i<1000000)(f:fC H1 D g i H)(s:ai H H4)(hv:v=V.int (g i)):jN D (fC H1 D g (i+1)) v H4:=by
 subst hv;refine⟨_,s _ _ f.2,?_,fm (f.1.trans s) hD,?_⟩
 ·rw[eZ,aA,g7];exact gV Æ
 ·rw[aq,Hg,bX];simp
def lh(ms:aF)(s:Nat):Int:=(ms.getD s fk).jT
def zJ(ms:aF)(sames row:LN)(above b:Nat):Bool:=decide (lh ms ł<=(above:Int))&&decide (row.getD ((lh ms ł).toNat-1) 0=row.getD above 0)
def Ft(ms:aF)(sames row:LN)(above:Nat):Int:=(rh (zJ ms sames row above) (λb=>2^b) sames.length).sum
structure BY(ms:aF)(sames:LN):Prop where
 dc:sames.length<=1000
 lt:∀s∈sames,s<ms.length
 pos:∀s∈sames,1<=lh ms s
inductive Mc(CK:Addr)(vs:au)(H:Hp)(Q:VK)(E':XK):Prop
 |mk (pk ps pr:Addr) (ks:List az) (sames row:LN) (above:Nat) (_:vs=[.ref pk,.ref ps,.ref pr,.int (above:Nat)]) (_:Ŭ ks) (_:H ps=some ϸ) (_:BY Í sames) (_:H pr=some Ãs) (_:above<row.length) (_:∀H',ai H H'->Q (.int (Ft Í sames row above)) H')
section
variable{P:Pg}{w:Wd}{K:FR}{mg:MG}{base:Heap}{CK CL CS N CV:Addr}{C:Cs}
def BZ:bH ["kinds","sames","row","above","whiches","number","bit","which"] ["kinds","sames","row","above"] (aV Kc):=cw
def boot_sum:bootBuiltins "sum"=some (.builtin "sum"):=by decide+kernel
def ahR(F:br K "bits_of_sames" "bits_of_sames" Kc f fd)(T:sD K CK)(tS:mg "sum"=none)(tE:mg "enumerate"=none):Ì aE 1 f fd ["kinds","sames","row","above"] (Mc CK):=by
 refine F.ok BZ Â;obtain⟨pk,ps,pr,ks,sames,row,above,rfl,hk,jX,gr,gU,nM,k⟩:=h;refine⟨_,aB (uk (i:=4) (own:=[("number",5)]) (te:=gi K (bU ϋ ό (ay 5)) "which") rfl BZ.nd rfl rfl Õ Æp Ë
   (λ_ _ _ _ _=>dJ 5 BZ.nd) Ø (λ_ _ _ _ _=>bg (cA cY Û Äd Ù) rfl))
  (aD (aY (c8 (Qv rfl) Õ tS boot_sum (ae (eF (own:=[("bit",6),("which",7)]) (g:=g2 K 6 7) (tt:=Dy (ng (bU (gf λi j=>.bl (decide (i<=j))) Èm Ŗ)) (ng (bU ox (bU ϋ ŗ (bU (gf λi j=>.int (i-j)) Èm Åb)) (bU ϋ ŗ Ŗ)))) (te:=bU (rI PL λi j=>.int (i*2^j.toNat)) Åb (ay 6)) rfl BZ.nd
   (kY Õ tE ϡ) Ë
   (λ_ _ _ _ _=>iE 6 7 BZ.nd)
   (λ_ _ _ _ _=>pL (PW.pt (pw_and (cI w8 Ål ø (bT _)) (pw_and1 (cI ic (cA cY è (eM qG Ål bo) Ù) (cA cY è ø Ù) (bT _))))))
   (λ_ _ _ _ _=>eM HS bo Ãl)) ag)))),?_⟩
 refine⟨_,rfl,ps,rfl,⟨_,aa.of jX⟩,λD hD=>gC (K:=K) (a:=ps) (xs:=iv (nv sames)) (fC H D λi=>lh Í Ł) Áz (λi H' _ f=>aa.of (f.1 _ _ jX)) č û⟩
 ·obtain⟨z,hz,rfl⟩:=nN hi;have d8:=(bO.mp hz).1;have BX:=bZ hz;have bQ:=gr.lt z BX;have Uo:=gr.dc;rw[aA] at bQ;obtain⟨b,hb⟩:∃b,ks[z]? =some b:=⟨_,dm bQ⟩;refine⟨rfl,eO ⟨_,rfl,_,rfl,pk,_,_,.ref b.a,rfl,rfl,aa.of (f.1 _ _ hk.a),fT É,bj (jn ((nH hk.l Çv).same f.1)) T.c T.Lh (Lf b) ?_⟩⟩;refine fC.step hD Æ f Ĺ ?_;unfold lh;simp_all
 ·have hd:=f.2;have s1:=f.1;rw[eZ,jF] at hd;refine⟨_,rfl,D,_,rfl,aa.of hd,λD2 cJ=>lI (K:=K) (a:=D) (xs:=iv ((List.range sames.length).map λi=>lh Í Ł)) (nR H' D2 (zJ Í sames row above) (λb=>2^b)) (nR.zero cJ) (λi H2 _ f=>aa.of (f.1 _ _ hd)) (λi x Tt H2 hi f2 hT=>?_) (λH2 f2=>?_)⟩
  ·obtain⟨z,hz,rfl⟩:=sy hi;rw[bW] at hz;cases er:(List.range sames.length)[i]? with
   |none=>simp_all
   |some j=>
    rw[er] at hz;have d8:=(bO.mp er).1;rw[g7] at d8;cases xM er;have hz:lh Í Ł=z:=aN hz;subst hz;have Uo:=gr.dc;have Up:=gr.pos Ł É;have s2:ai H2 (upd H2 Tt (.tup [.int (i:Nat),.int (lh Í Ł)])):=aL hT;have s3:=(s1.trans f2.1).trans s2;refine æ;have eb:zJ Í sames row above i=(decide (lh Í Ł<=(above:Int))&&decide (row.getD ((lh Í Ł).toNat-1) 0=row.getD above 0)):=rfl;generalize lh Í Ł=wh at Up eb s2 s3;refine and_val (decide (wh<=(above:Int))) (decide (row.getD (wh.toNat-1) 0=row.getD above 0)) (λK q=>⟨_,rfl,_,rfl,_,_,rfl,rfl,_,rfl,q⟩) (λhc K q=>?_) (a8 Ï Ï)
    ·have j7:=rN hc;refine⟨_,rfl,_,rfl,_,_,rfl,rfl,pr,_,_,.int ((row.getD (wh.toNat-1) 0:Nat):Int),rfl,rfl,aa.of (s3 _ _ gU),?_,_,rfl,_,rfl,pr,_,_,.int ((row.getD above 0:Nat):Int),rfl,rfl,aa.of (s3 _ _ gU),fT (Fs nM),rfl,_,rfl,?_⟩
     ·rw[show wh-1=((wh.toNat-1:Nat):Int) by omega];exact fT (Fs Æ)
     ·rw[lW];omega
    ·refine⟨_,rfl,_,_,rfl,rfl,⟨by omega,by omega,by decide⟩,?_⟩;refine f2.yes cJ Æ s2 (eb.trans hc) ?_;simp
    ·exact f2.no s2 É
  ·have e:=f2.2;rw[eZ,aA,g7] at e;exact⟨D2,_,rfl,aa.of e,k H2 (s1.trans f2.1)⟩
end
def B0(K:FR)(t:TE):TT:=λσ H Q=>t σ H λx H'=>∃k,HV K x H' k/\Q k H'
def sN(ms:aF)(sames row:LN)(above:Nat):Nat:=(((List.range sames.length).filter (zJ ms sames row above)).map (2^ ·)).sum
theorem ahS(l:LN):(nv l).sum=((l.sum:Nat):Int):=by
 induction l with
 |nil=>rfl
 |cons a l ih=>
  simp_all
def ahT(ms:aF)(sames row:LN)(above:Nat):Ft ms sames row above=((sN ms sames row above:Nat):Int):=by
 unfold Ft sN rh;rw[<-ahS];unfold nv;rw[cQ];congr 1
def ql(ms:aF)(sames row:LN):LN:=(List.range row.length).map (sN ms sames row)
inductive Md(CK:Addr)(vs:au)(H:Hp)(Q:VK)(E':XK):Prop
 |mk (pk ps pr:Addr) (ks:List az) (sames row:LN) (_:vs=[.ref pk,.ref ps,.ref pr]) (_:Ŭ ks) (_:H ps=some ϸ) (_:BY Í sames) (_:H pr=some Ãs) (_:row.length<=1000) (_:∀H' p,ϟ (.lst (iv (nv (ql Í sames row))))->Q ĥ H')
def gY(g b:Nat):Bool:=Builtin.bitAnd (b:Int) (Builtin.bitNot (g:Int))!=0
def rj(g:Nat)(places:LN):Nat:=(places.filter (gY g)).length
inductive Me(K:FR)(vs:au)(H:Hp)(Q:VK)(E':XK):Prop
 |mk (g:Nat) (pp:Addr) (places:LN) (_:vs=[.int (g:Nat),.ref pp]) (_:â pp (iv (nv places))) (_:places.length<=1000) (_:∀H',ai H H'->Q (.int ((rj g places:Nat):Int)) H')
def xZ(g b:Nat):Bool:=Builtin.bitAnd ((g:Int)/2^b) 1!=0
def rk(ms:aF)(sames:LN)(g:Nat):Int:=(rh (xZ g) (λb=>(ms.getD ł fk).copies) sames.length).sum
inductive Mf(CK:Addr)(vs:au)(H:Hp)(Q:VK)(E':XK):Prop
 |mk (g:Nat) (pk ps:Addr) (ks:List az) (sames:LN) (_:vs=[.int (g:Nat),.ref pk,.ref ps]) (_:Ŭ ks) (_:H ps=some ϸ) (_:BY Í sames) (_:∀H',ai H H'->Q (.int (rk Í sames g)) H')
section
variable{P:Pg}{w:Wd}{K:FR}{mg:MG}{base:Heap}{CK CL CS N CV:Addr}{C:Cs}
def Mg:bH ["kinds","sames","row","above"] ["kinds","sames","row"] (aV Kb):=cw
def ahU(F:br K "sames_along" "sames_along" Kb f fd)(tL:mg "len"=none)(tR:mg "range"=none)(dB:Ç 1 "bits_of_sames" ["kinds","sames","row","above"] (Mc CK)):Ì aE 2 f fd ["kinds","sames","row"] (Md CK):=by
 refine F.ok Mg Â;obtain⟨pk,ps,pr,ks,sames,row,rfl,hk,jX,gr,gU,Fu,k⟩:=h;refine⟨_,aD (aY (eF (own:=[("above",3)]) (te:=g9 (Mc CK) [] E0 (bh ό (bh ϕ (bh ŗ Âs)))) rfl Mg.nd (HM Õ tR (ae ü ag)) Ë
  (λ_ _ _ _ _=>dJ 3 Mg.nd) Ø (λ_ _ _ _ _=>bz dB (ae Û (ae á (ae è ĳ)))))),?_⟩
 refine⟨_,rfl,pr,_,rfl,.inl (aa.of gU),(row.length:Int),by simp,by omega,by omega,λD hD=>?_⟩;rw[C6];refine DR (lo:=0) (n:=row.length) (fC H D λi=>Ft Í sames row i) Áz Âh û
 ·refine⟨rfl,eO ⟨_,rfl,_,rfl,_,rfl,_,rfl,pk,ps,pr,ks,sames,row,i,?_,hk.same f.1,f.1 _ _ jX,gr,f.1 _ _ gU,hi,λH3 s3=>?_⟩⟩
  ·simp
  ·exact fC.step hD Æ f s3 rfl
 ·refine k H' D ⟨f.1,hD,?_⟩;rw[f.2];unfold ql nv;rw[cQ];congr 3;exact kq λi _=>ahT _ _ _ i
def Mh:bH ["group","places","bits"] ["group","places"] (aV Kf):=cw
def ahV(F:br K "places_outside" "places_outside" Kf f fd)(tL:mg "len"=none):Ì aE 1 f fd ["group","places"] (Me K):=by
 refine F.ok Mh Â;obtain⟨g,pp,places,rfl,x3,c9,k⟩:=h;refine⟨_,aD (aY (c8 fU Õ tL PySem.boot_len (ae (eF (own:=[("bits",2)]) (tt:=B0 K (bU (gf λi j=>.int Ő) ŗ (DG (rU λi=>.int Äv) ό))) (te:=ay 2) rfl Mh.nd Æp Ë
  (λ_ _ _ _ _=>dJ 2 Mh.nd) (λ_ _ _ _ _=>pL (yH (eM AU è (jh PP Û)) Ãw)) Ãy) ag))),?_⟩
 refine⟨_,rfl,pp,rfl,⟨_,x3⟩,λD hD=>gC (K:=K) (a:=pp) (xs:=iv (nv places)) (nR H D (λi=>gY g Åm) (λi=>((places.getD i 0:Nat):Int))) (nR.zero hD) (λi H' _ f=>f.1.seq x3) č û⟩
 ·obtain⟨z,hz,rfl⟩:=nN hi;have d8:=(bO.mp hz).1;refine⟨rfl,_,rfl,_,rfl,_,rfl,_,_,rfl,rfl,_,rfl,a8 Ï Ï⟩
  ·exact⟨_,rfl,f.yes hD Æ Ĺ (by rw[getD_at hz];exact hc) É⟩
  ·exact f.no Ĺ (by rw[getD_at hz];exact hc)
 ·have e:=f.2;rw[eZ,jF] at e;refine⟨D,_,rfl,.inl (aa.of e),?_⟩;have el:(iv (rh (λi=>gY g Åm) (λi=>((places.getD i 0:Nat):Int)) places.length)).length=rj g places:=by
   rw[eZ];unfold rh rj;rw[aA];have h1:((List.range places.length).filter λi=>gY g Åm).length=(((List.range places.length).map λi=>places.getD i 0).filter (gY g)).length:=by
    rw[yu,aA];rfl
   rw[h1];have h2:=wk (l:=places) (g:=λx=>x) (d:=0);simp_all
  rw[el];exact k H' f.1
def Mi:bH ["group","kinds","sames","bit","number"] ["group","kinds","sames"] (aV Kg):=cw
def ahW(F:br K "copies_in" "copies_in" Kg f fd)(T:sD K CK)(tS:mg "sum"=none)(tE:mg "enumerate"=none):Ì aE 1 f fd ["group","kinds","sames"] (Mf CK):=by
 refine F.ok Mi Â;obtain⟨g,pk,ps,ks,sames,rfl,hk,jX,gr,k⟩:=h;refine⟨_,aD (aY (c8 (Qv rfl) Õ tS boot_sum (ae (eF (own:=[("bit",3),("number",4)]) (g:=g2 K 3 4) (tt:=B0 K (bU (gf λi j=>.int Ő) (bU (rI (λ_ j=>0<=j) λi j=>.int (i/2^j.toNat)) ό Ŗ) Åb)) (te:=gi K (bU ϋ ϕ Ãp) "copies") rfl Mi.nd
  (kY Õ tE Ţ) Ë
  (λ_ _ _ _ _=>iE 3 4 Mi.nd)
  (λ_ _ _ _ _=>pL (yH (eM AU (eM PM Û ø) bo) Ãw)) (λ_ _ _ _ _=>bg (cA cY á Ĳ Ù) rfl)) ag))),?_⟩
 refine⟨_,rfl,ps,_,rfl,aa.of jX,λD hD=>lI (K:=K) (a:=ps) (xs:=iv (nv sames)) (nR H D (xZ g) (λb=>((ks.map az.m).getD ł fk).copies)) (nR.zero hD) (λi H' _ f=>aa.of (f.1 _ _ jX)) ŋ û⟩
 ·obtain⟨z,hz,rfl⟩:=nN hi;have d8:=(bO.mp hz).1;have BX:=bZ hz;have bQ:=gr.lt z BX;have Uo:=gr.dc;rw[aA] at bQ;obtain⟨b,hb⟩:∃b,ks[z]? =some b:=⟨_,dm bQ⟩;have s2:ai H' (Ϟ (.tup [.int (i:Nat),.int (z:Nat)])):=aL hT;have s3:=f.1.trans s2;refine æ;refine⟨_,rfl,_,rfl,_,_,rfl,rfl,Hi i,_,_,rfl,rfl,_,rfl,a8 Ï Ï⟩
  ·exact⟨_,rfl,_,rfl,pk,_,_,.ref b.a,rfl,rfl,aa.of (s3 _ _ hk.a),fT É,bj (jn ((nH hk.l Çv).same s3)) T.c T.Li (Lg b) (f.yes hD Æ s2 hc É)⟩
  ·exact f.no s2 hc
 ·have e:=f.2;rw[eZ,jF] at e;exact⟨D,_,rfl,aa.of e,k H' f.1⟩
end
def gI(n:Nat):V:=.int (n:Nat)
def oneMore(t:cg)(s:Nat):cg:=eA t s ((bY t s).getD 0+1)
def gu(flat:LN):cg:=flat.foldl oneMore []
def B1(l:LN)(s:Nat):gu (l++[s])=oneMore (gu l) s:=by
 unfold gu;simp
def snoc_ind{α:Type}{P:List α->Prop}(h0:P [])(hs:∀l a,P l->P (l++[a]))(l:List α):P l:=by
 have h:∀m:List α,P m.reverse:=λm=>by
  induction m with
  |nil=>exact h0
  |cons a m ih=>simp_all
 have:=h l.reverse;simp_all
def Mj(l:LN):(gu l).length<=l.length:=by
 refine snoc_ind (P:=λl=>(gu l).length<=l.length) (bJ _) Ãt l;rw[B1,mU];have:=RN (gu l) s ((bY (gu l) s).getD 0+1);unfold oneMore;grind
def Fv(l:LN):((gu l).map (·.1)).Nodup:=by
 refine snoc_ind (P:=λl=>((gu l).map (·.1)).Nodup) Ax Ãt l;rw[B1];exact Em ih
def Uq(l:LN)(s:Nat):(bY (gu l) s).getD 0=l.count s:=by
 refine snoc_ind (P:=λl=>(bY (gu l) s).getD 0=l.count s) rfl Át l;rw[B1];unfold oneMore;rw[El,List.count_append];by_cases h:s=x
 ·subst h;rw[af rfl,ih,List.count_singleton_self];rfl
 ·rw[ah h,ih,List.count_eq_zero_of_not_mem (l:=[x]) (À h)];rfl
def Ur(l:LN)(s:Nat):(bY (gu l) s).isSome=l.contains s:=by
 refine snoc_ind (P:=λl=>(bY (gu l) s).isSome=l.contains s) rfl Át l;rw[B1];unfold oneMore;rw[El];by_cases h:s=x
 ·subst h;rw[af rfl];simp
 ·rw[ah h,ih];simp[h]
def Us(h:p∈gu l):p.1∈l:=by
 have h1:=zb (Fv l) (s:=p.1) (v:=p.2) h;have h2:=Ur l p.1;simp_all
def sO(ms:aF)(s:Nat):Int:=(ms.getD s fk).copies
def oR(ms:aF)(p:Nat×Nat):Option (Nat×Int):=if (p.2:Int)>sO ms p.1 then some (p.1,(p.2:Int)-sO ms p.1) else none
def jq(ms:aF)(flat:LN):List (Nat×Int):=(gu flat).filterMap (oR ms)
theorem Fw(ms:aF):∀t:cg,((t.filterMap (oR ms)).map (·.1)).Sublist (t.map (·.1)):=by
 intro t;induction t with
 |nil=>exact List.Sublist.refl _
 |cons p t ih=>
  have ih:=ih;rw[C7,a0];have ee:oR ms p=none\/∃z,oR ms p=some (p.1,z):=by
   unfold oR;split
   ·exact .inr ⟨_,rfl⟩
   ·exact .inl rfl
  rcases ee with e|⟨z,e⟩
  ·rw[e];exact List.Sublist.cons _ ih
  ·rw[e];exact List.Sublist.cons₂ _ ih
structure Ml(H:Hp)(y:cb)(n:Nat):Prop where
 l:aU H Ær
 dc:y.ls.length<=1000
 short:∀x∈y.ls,x.ns.length<=1000
 lt:∀x∈y.ls,∀s∈x.ns,s<n
inductive Ut(CK:Addr)(vs:au)(H:Hp)(Q:VK)(E':XK):Prop
 |mk (pk:Addr) (ks:List az) (y:cb) (_:vs=[.ref pk,.ref y.a]) (_:Ŭ ks) (_:Ml H y ks.length) (_:∀H' p,ϟ (.dK (bx V.int Äh))->Q ĥ H')
section
variable{P:Pg}{w:Wd}{K:FR}{mg:MG}{base:Heap}{CK CL CS N CV CP:Addr}{C:Cs}
def Uu:bootBuiltins "dict"=some (.type "dict"):=by decide+kernel
def zK:bH ["kinds","rows","used","row","sign","times"] ["kinds","rows"] (aV Ka):=cw
def ahX(F:br K "copies_lacking" "copies_lacking" Ka f fd)(T:sD K CK)(tD:mg "dict"=none):Ì aE 1 f fd ["kinds","rows"] (Ut CK):=by
 refine F.ok zK Â;obtain⟨pk,ks,y,rfl,hk,hy,k⟩:=h;refine⟨_,aB (cj 2 zK.nd DT)
  (aB (ş Æp (dJ 3 zK.nd) (aD (ş (eX ø) (dJ 4 zK.nd)
   (aD (IB (yZ hr) è Ĳ (eM qF (abL (yZ hr) è Ĳ bo ⟨rfl,rfl,rfl,rfl⟩) bo) rfl)))))
  (aD (aY (xb (ab0 rfl) Õ tD Uu (ae (ab5 (eF (own:=[("sign",4),("times",5)]) (g:=g2 K 4 5) (tt:=ng (bU (gf λi j=>.bl (decide (j<i))) (ay 5) (gi K (bU ϋ ό Ãp) "copies")))
   (te:=w9 (bh Ãp (bh (bU (gf λi j=>.int (i-j)) (ay 5) (gi K (bU ϋ ό Ãp) "copies")) dw))) rfl zK.nd (Q5 è) Ë
   (λ_ _ _ _ _=>iE 4 5 zK.nd)
   (λ_ _ _ _ _=>pL (cI vt Äd (bg (cA cY Û Ĳ Ù) rfl) (bT _)))
   (λ_ _ _ _ _=>ue (ae Ĳ (ae (eM qG Äd (bg (cA cY Û Ĳ Ù) rfl)) ag))))) ag))))),?_⟩
 intro d hd;have sP:ai H (upd H d ϲ):=aL hd;have Uv:∀i,(y.ls.take i |>.map cV.ns).flatten.length<=1000000:=λi=>by
  have h1:∀(l:List cV),(∀x∈l,x.ns.length<=1000)->(l.map cV.ns).flatten.length<=1000*l.length:=by
   intro l;induction l with
   |nil=>simp
   |cons a l ih=>
    grind
  have h2:=h1 (y.ls.take i) λx hx=>hy.short x (Hc hx);have h3:=hy.dc;grind
 refine⟨_,rfl,y.a,rfl,⟨_,aa.of (sP _ _ (jG hy.l))⟩,wZ (K:=K) (a:=y.a) (xs:=y.ls.map λx=>V.ref x.a) (λi σ H'=>∃v3 v4,σ=[some (.ref pk),some Àq,some Èq,v3,v4,none]/\ai H H'/\H' d=some (.dK (bx gI (gu (y.ls.take i |>.map cV.ns).flatten))))
  ⟨none,none,rfl,sP,aq⟩ (λi σ H' _ ⟨_,_,_,s1,_⟩=>aa.of (s1 _ _ (jG hy.l))) ?_ ?_⟩
 ·rintro i x σ H' hi ⟨v3,v4,rfl,s1,uM⟩;obtain⟨r,h1,rfl⟩:=iz hi;have hm:=bZ h1;have et:=take_snoc h1;have Fx:=mj hy.l hm;have gc:=Uv (i+1);rw[et,bX,List.flatten_append] at gc;have gc:((y.ls.take i |>.map cV.ns).flatten++r.ns).length<=1000000:=by simpa using gc
  refine⟨_,rfl,r.a,rfl,⟨_,aa.of (s1 _ _ Fx)⟩,wZ (K:=K) (a:=r.a) (xs:=iv (nv r.ns)) (λj σ H'=>∃v4,σ=[some (.ref pk),some Àq,some Èq,some (.ref r.a),v4,none]/\ai H H'/\H' d=some (.dK (bx gI (gu ((y.ls.take i |>.map cV.ns).flatten++r.ns.take j)))))
   ⟨v4,rfl,s1,by rw[List.take_zero,jv];exact uM⟩ (λj σ H' _ ⟨_,_,s2,_⟩=>aa.of (s2 _ _ Fx)) ?_ ?_⟩
  ·rintro j x σ H2 hj ⟨v4,rfl,s2,fO⟩;obtain⟨z,hz,rfl⟩:=nN hj;have vy:=(bO.mp hz).1;have sQ:=take_snoc hz;generalize hF:(y.ls.take i |>.map cV.ns).flatten=F0 at fO gc⊢;have gH:=Mj (F0++r.ns.take j);rw[mU,mT] at gH;rw[mU] at gc;generalize hT:gu (F0++r.ns.take j)=T0 at fO gH;refine⟨_,rfl,d,rfl,.inl ⟨_,.inl fO⟩,_,rfl,(bY T0 z).map gI,?_,((bY T0 z).getD 0:Nat),1,?_,rfl,_,rfl,_,rfl,d,_,rfl,xo.k (k:=Sum.inl ((z:Nat):Int)) fO (by rw[xx];exact gV Æ),?_⟩
   ·have q:=jO.k (k:=(Sum.inl ((z:Nat):Int):Key)) fO;rw[za] at q;exact q
   ·cases bY T0 z <;> rfl
   ·refine⟨_,rfl,qR s2 hd,?_⟩;rw[aq,sQ,<-rO,B1,hT];unfold oneMore;rw[<-Br];rfl
  ·simp_all
 ·rintro σ H' ⟨v3,v4,rfl,s1,uM⟩;rw[aA,mX] at uM;have ef:(y.ls.map cV.ns).flatten=y.m.flatten:=rfl;rw[ef] at uM;have hmu:=True.intro;refine⟨d,_,uM,hmu,λod=>?_⟩;have sl:ai H (upd H' d Çy):=qR s1 hd;have lN:(upd H' d Çy) d=some Çy:=aq;generalize upd H' d Çy=H1 at sl lN;have gH:=Mj y.m.flatten;have gc:=Uv y.ls.length;rw[mX,ef] at gc;have bQ:∀p∈gu y.m.flatten,p.1<ks.length:=λp hp=>by
   have h1:=Us hp;obtain⟨l,hl,h2⟩:=List.mem_flatten.mp h1;unfold cb.m at hl;obtain⟨x,hx,rfl⟩:=cf.mp hl;exact hy.lt x hx _ h2
  have B3:=Fv y.m.flatten;have Mm:jq Í y.m.flatten=(gu y.m.flatten).filterMap (oR Í):=rfl;generalize gu y.m.flatten=T0 at lN gH bQ B3 Mm;refine⟨_,rfl,d,od,_,rfl,lN,λD hD=>adh (d:=d) (o:=od) (kvs:=bx gI T0) (λi H2=>∃ps:LA,ai H1 H2/\H2 D=some (.lst Áy)/\ps.length<=i/\Paired (λp kv=>H2 p=some (.tup [kV kv.1,kv.2])) ps (bx V.int ((T0.take i).filterMap (oR Í))))
   ⟨[],aL hD,aq,bJ _,.nil⟩ (λi H2 _ ⟨_,s2,_⟩=>s2 _ _ lN) ?_ ?_⟩
  ·rintro i kk vv Tt H2 hi ⟨ps,s2,cJ,c9,gU⟩ hT;obtain⟨sg,n,h1,rfl,rfl⟩:=IW gI hi;have d8:=(bO.mp h1).1;have et:=take_snoc h1;have A2:=bQ _ (bZ h1);obtain⟨b,hb⟩:∃b,ks[sg]? =some b:=⟨_,dm A2⟩;have vL:=bZ hb;have s3:ai H2 (upd H2 Tt (.tup [.int (sg:Nat),.int (n:Nat)])):=aL hT;have s4:=(sl.trans s2).trans s3;have ec:sO Í sg=b.m.copies:=by unfold sO;rw[getD_map hb]
   refine æ;refine⟨_,rfl,_,rfl,_,rfl,pk,_,_,.ref b.a,rfl,rfl,aa.of (s4 _ _ hk.a),fT É,bj (jn ((nH hk.l vL).same s4)) T.c T.Li (Lg b) ⟨_,_,rfl,rfl,_,rfl,a8 Ï Ï⟩⟩
   ·simp at hc;refine⟨_,rfl,_,rfl,_,rfl,_,rfl,pk,_,_,.ref b.a,rfl,rfl,aa.of (s4 _ _ hk.a),fT É,bj (jn ((nH hk.l vL).same s4)) T.c T.Li (Lg b) ⟨_,_,rfl,rfl,(by show 2<=sizeLine;decide),λt ht=>?_⟩⟩;have B4:=s3.free ht;have s5:=s3.trans (aL (o:=.tup [.int (sg:Nat),.int (((n:Nat):Int)-b.m.copies)]) ht);have Mn:D≠t:=λz=>by rw[<-z,cJ] at B4;cases B4
    refine⟨_,s5 _ _ cJ,?_,ps++[t],?_,?_,?_,?_⟩
    ·rw[aA];exact gV Æ
    ·exact qR (s2.trans s5) hD
    ·rw[aq,bX];rfl
    ·simp_all
    ·rw[et,Yk];have e1:([(sg,n)]:cg).filterMap (oR Í)=[(sg,((n:Nat):Int)-b.m.copies)]:=by
      rw[C7];unfold oR;simp_all
     rw[e1];unfold bx;rw[bX];refine Paired.snoc (Paired.lS gU λp kv e=>?_) ?_
     ·rw[ao (λz=>by simp_all)];exact s5 _ _ e
     ·rw[ao (dX Mn)];exact aq
   ·simp at hc;refine⟨ps,s2.trans s3,s3 _ _ cJ,Nat.le_succ_of_le c9,?_⟩;rw[et,Yk];have e1:([(sg,n)]:cg).filterMap (oR Í)=[]:=by
     rw[C7];unfold oR;grind
    rw[e1,jv];exact Paired.lS gU λp kv e=>s3 _ _ e
  ·rintro H2 ⟨ps,s2,cJ,c9,gU⟩;rw[xx,mX] at gU;rw[<-Mm] at gU;have fO:=s2 _ _ lN;have hDd:D≠d:=λz=>by rw[z,lN] at hD;cases hD
   have s5:ai H (upd H2 d (.dK (bx gI T0))):=qR (sl.trans s2) hd;refine⟨fO,D,ps,_,rfl,aa.of (by rw[ao hDd];exact cJ),Paired.lS gU λp kv e=>bu.of (by rw[ao (λz=>by rw[z,fO] at e;cases e)];exact e),λp hp=>?_⟩;have ah0:((jq Í y.m.flatten).map (·.1)).Nodup:=by
    rw[Mm];exact apB (Fw _ T0) B3
   have em:=adn V.int Äh [] ah0;rw[yw] at em;refine k _ p ⟨s5.trans (aL hp),s5.free hp,?_⟩;rw[aq];exact cE (λz=>some (HO.dK z)) em
end
def gL(x:cV):V:=.ref x.a
def oneAt(t:List (Nat×LN))(p:Nat×Nat):List (Nat×LN):=eA t p.1 ((bY t p.1).getD []++[p.2])
def iP(ps:cg):List (Nat×LN):=ps.foldl oneAt []
def B5(l:cg)(p:Nat×Nat):iP (l++[p])=oneAt (iP l) p:=by
 unfold iP;simp
def places_len(l:cg):(iP l).length<=l.length:=by
 refine snoc_ind (P:=λl=>(iP l).length<=l.length) (bJ _) Ãt l;rw[B5,mU];have:=RN (iP l) s.1 ((bY (iP l) s.1).getD []++[s.2]);unfold oneAt;grind
def Uw(l:cg)(s:Nat):(bY (iP l) s).getD []=(l.filter λp=>decide (p.1=s)).map (·.2):=by
 refine snoc_ind (P:=λl=>(bY (iP l) s).getD []=(l.filter λp=>decide (p.1=s)).map (·.2)) rfl Át l;rw[B5,Dj,bX,<-ih];unfold oneAt;rw[El];by_cases h:s=x.1
 ·rw[af h,wQ,af (by simp[h]),h];rfl
 ·rw[ah h,wQ,ah (by simpa using λe=>h e.symm)];simp
def Ux(l:cg){s:Nat}{x:LN}(h:bY (iP l) s=some x):x.length<=l.length:=by
 have:=Uw l s;grind
def cont(p:Nat×cV):Nat×LN:=(p.1,p.2.ns)
structure B6(H0 H:Hp)(d:Addr)(t:List (Nat×cV)):Prop where
 d:H d=some (.dK (bx gL t))
 l:∀p∈t,H p.2.a=some (.lst (iv (nv p.2.ns)))
 nd:(t.map λp=>p.2.a).Nodup
 fr:∀p∈t,H0 p.2.a=none
theorem zL(t:List (Nat×cV))(s:Nat):bY Áw s=(bY t s).map cV.ns:=by
 induction t with
 |nil=>rfl
 |cons p t ih=>
  unfold bY at ih⊢;rw[a0,ko,ko,show(cont p).1=p.1 from rfl];cases decide (p.1=s) with
  |true=>rfl
  |false=>exact ih
def Uy(t:List (Nat×cV))(s:Nat)(x:cV):(eA t s x).map cont=eA Áw s x.ns:=by
 unfold eA;rw[pP,pP,zL,Df];split
 ·rw[cQ,cQ];refine kq λp _=>?_;show cont (if p.1=s then (p.1,x) else p)=if p.1=s then (p.1,x.ns) else cont p;split <;> rfl
 ·rw[bX];rfl
def ah1{t:List (Nat×cV)}{s:Nat}{x y:cV}(h:bY t s=some x)(e:y.a=x.a)(hn:(t.map (·.1)).Nodup):bx gL (eA t s y)=bx gL t:=by
 unfold eA;rw[pP,h,af (show(some x).isSome=true from rfl)];unfold bx;rw[cQ];refine kq λp hp=>?_;show((Sum.inl (((if p.1=s then (p.1,y) else p).1:Nat):Int):Key),gL (if p.1=s then (p.1,y) else p).2)=(Sum.inl ((p.1:Nat):Int),gL p.2);by_cases c:p.1=s
 ·rw[af c];have:=zb hn (s:=s) (v:=p.2) (by grind);rw[h] at this;cases this;unfold gL;rw[e]
 ·simp_all
def ah2{t:List (Nat×cV)}{s:Nat}{x y:cV}(h:bY t s=some x)(e:y.a=x.a)(hn:(t.map (·.1)).Nodup):((eA t s y).map λp=>p.2.a)=t.map λp=>p.2.a:=by
 unfold eA;rw[pP,h,af (show(some x).isSome=true from rfl),cQ];refine kq λp hp=>?_;show(if p.1=s then (p.1,y) else p).2.a=p.2.a;by_cases c:p.1=s
 ·rw[af c];have:=zb hn (s:=s) (v:=p.2) (by grind);simp_all
 ·simp_all
def x4{β:Type}{t:List (Nat×β)}{s:Nat}{v:β}{p:Nat×β}(h:p∈eA t s v):p=(s,v)\/(p∈t/\p.1≠s):=by
 unfold eA at h;grind
def ah3{t:List (Nat×cV)}(h:(t.map λp=>p.2.a).Nodup){p q:Nat×cV}(hp:p∈t)(hq:q∈t)(aQ:p.1≠q.1):p.2.a≠q.2.a:=by
 intro e;obtain⟨i,hi,ei⟩:=rM hp;obtain⟨j,hj,ej⟩:=rM hq;have Fy:i=j:=by
  have h1:(t.map λp=>p.2.a)[i]' É=(t.map λp=>p.2.a)[j]' É:=by
   simp_all
  exact(XR h).mp h1
 simp_all
def zM{α:Type}{l:List α}{i:Nat}{a:α}(h:l[i]? =some a):l.drop i=a::l.drop (i+1):=by
 obtain⟨h1,h2⟩:=bO.mp h;rw[<-h2];simp
def eU(rows lO:bp):cg:=(rows.zip lO).flatMap λp=>p.1.zip p.2
inductive Uz(vs:au)(H:Hp)(Q:VK)(E':XK):Prop
 |mk (y z:cb) (_:vs=[.ref y.a,.ref z.a]) (_:aU H Ær) (_:aU H (eT z)) (_:y.ls.length=z.ls.length) (_:(∀(i:Nat)(a b:cV),y.ls[i]? =some a->z.ls[i]? =some b->a.ns.length=b.ns.length)) (_:(eU y.m z.m).length<=100000) (_:∀H' p t,ai H H'->H p=none->B6 H H' p t->t.map cont=iP Æq->Q ĥ H')
section
variable{P:Pg}{w:Wd}{K:FR}{mg:MG}{base:Heap}{CK CL CS N CV CP:Addr}{C:Cs}
def Fz:bH ["rows","stands","places","row","bits","sign","here"] ["rows","stands"] (aV Kd):=cw
inductive PcI(y z:cb)(d:Addr)(H:Hp)(i:Nat)(σ:L2.St)(H':Hp):Prop
 |mk (v3 v4 v5 v6 t:_) (_:σ=[some Àq,some Äp,some Èq,v3,v4,v5,v6]) (_:ai H H') (_:B6 H H' d t) (_:(t.map (·.1)).Nodup) (_:t.map cont=iP (eU Ů Àn))
inductive PcJ(y z:cb)(d:Addr)(H:Hp)(a b:cV)(i:Nat)(j:Nat)(σ:L2.St)(H':Hp):Prop
 |mk (v5 v6 t:_) (_:σ=[some Àq,some Äp,some Èq,some (.ref a.a),some Çd,v5,v6]) (_:ai H H') (_:B6 H H' d t) (_:(t.map (·.1)).Nodup) (_:t.map cont=iP (eU Ů Àn++(a.ns.take j).zip Åi))
def ah6{f:Addr}{fd:FD}(F:br K "places_of" "places_of" Kd f fd)(tZ:mg "zip"=none):Ì aE 1 f fd ["rows","stands"] Uz:=by
 refine F.ok Fz Â;obtain⟨y,z,rfl,hy,hz,cK,ah7,yP,k⟩:=h;refine⟨_,aB (cj 2 Fz.nd DT)
  (aB (ş (Q7 Õ tZ (ae Û Œ)) (iE 3 4 Fz.nd)
   (aD (ş (Q7 Õ tZ (ae ø ϡ)) (iE 5 6 Fz.nd)
    (aD (rX (ß (adq è Äd Ĵ ⟨rfl,rfl,rfl,rfl⟩) (ae Ãl ag)))))))
  Æw),?_⟩
 intro d hd;have sP:ai H (upd H d ϲ):=aL hd;have qm:=jG hy;have sR:=jG hz;refine⟨_,rfl,_,rfl,y.a,z.a,_,_,rfl,aa.of (sP _ _ qm),aa.of (sP _ _ sR),RL (K:=K) (a:=y.a) (b:=z.a) (xs:=y.ls.map λx=>V.ref x.a) (ys:=z.ls.map λx=>V.ref x.a) (by rw[aA,aA];exact cK)
  (PcI y z d H)
  ⟨none,none,none,none,[],rfl,sP,⟨aq,by simp,Ax,by simp⟩,Ax,rfl⟩ (λi σ H' _ h=>(by obtain⟨_,_,_,_,_,_,s1⟩:=h;exact⟨aa.of (s1 _ _ qm),aa.of (s1 _ _ sR)⟩)) ?_ ?_⟩
 ·rintro i x1 x2 T1 σ H' hi hj ⟨v3,v4,v5,v6,t,rfl,s1,tb,hn,et⟩ hT1;obtain⟨a,ha,rfl⟩:=iz hi;obtain⟨b,hb,rfl⟩:=iz hj;have Bo:=mj hy (bZ ha);have jW:=mj hz Çv;have nM:=ah7 i a b ha hb;have UA:y.m[i]? =some a.ns:=by unfold cb.m;rw[bW,ha];rfl
  have UB:z.m[i]? =some b.ns:=by unfold cb.m;rw[bW,hb];rfl
  have eta:=take_snoc UA;have etb:=take_snoc UB;have s2:ai H' (upd H' T1 (.tup [.ref a.a,.ref b.a])):=aL hT1;have UC:B6 H (upd H' T1 (.tup [.ref a.a,.ref b.a])) d t:=⟨s2 _ _ tb.d,λp hp=>s2 _ _ (tb.l p hp),tb.nd,tb.fr⟩;have bQ:(y.m.take i).length=(z.m.take i).length:=by rw[mT,mT,iA,iA,cK]
  refine⟨T1,_,rfl,bu.of aq,rfl,_,_,rfl,_,_,rfl,rfl,?_⟩;have s3:=s1.trans s2;generalize upd H' T1 (.tup [.ref a.a,.ref b.a])=Hx at s3 UC;have Si:∀j,(eU Ů Àn++(a.ns.take j).zip Åi).length<=100000:=λj=>by
   have e1:eU y.m z.m=eU Ů Àn++(a.ns.zip b.ns++eU (y.m.drop (i+1)) (z.m.drop (i+1))):=by
    have ey:y.m=y.m.take i++(a.ns::y.m.drop (i+1)):=by
     rw[<-zM UA];simp
    have ez:z.m=z.m.take i++(b.ns::z.m.drop (i+1)):=by
     rw[<-zM UB];simp
    unfold eU
    conv=>lhs;rw[ey,ez,Yl bQ,Dd,Av,Dk]
   grind
  refine⟨_,rfl,_,rfl,a.a,b.a,_,_,rfl,aa.of (s3 _ _ Bo),aa.of (s3 _ _ jW),RL (K:=K) (a:=a.a) (b:=b.a) (xs:=iv (nv a.ns)) (ys:=iv (nv b.ns)) (by rw[eZ,eZ,jF,jF];exact nM)
   (PcJ y z d H a b i)
   ⟨v5,v6,t,rfl,s3,UC,hn,by rw[et];simp⟩ (λj σ H' _ h=>(by obtain⟨_,_,_,_,s4⟩:=h;exact⟨aa.of (s4 _ _ Bo),aa.of (s4 _ _ jW)⟩)) ?_ ?_⟩
  ·rintro j x1 x2 T2 σ H2 zc BD ⟨v5',v6',t2,rfl,s4,zN,lX,sQ⟩ uq;obtain⟨sg,jV,rfl⟩:=nN zc;obtain⟨bt,UD,rfl⟩:=nN BD;have e1:=take_snoc jV;have e2:=take_snoc UD;have vy:=(bO.mp jV).1;have s5:ai H2 (upd H2 T2 (.tup [.int (sg:Nat),.int (bt:Nat)])):=aL uq;have s6:=s4.trans s5;have jY:B6 H (upd H2 T2 (.tup [.int (sg:Nat),.int (bt:Nat)])) d t2:=⟨s5 _ _ zN.d,λp hp=>s5 _ _ (zN.l p hp),zN.nd,zN.fr⟩;have UE:iP (eU Ů Àn++(a.ns.take (j+1)).zip (b.ns.take (j+1)))=oneAt (iP (eU Ů Àn++(a.ns.take j).zip Åi)) (sg,bt):=by
    rw[e1,e2,Yl É,<-rO,<-B5];rfl
   have UF:t2.length<=100000:=by
    have h1:(t2.map cont).length<=(eU Ů Àn++(a.ns.take j).zip Åi).length:=by
     rw[sQ];exact places_len _
    grind
   refine⟨T2,_,rfl,bu.of aq,rfl,_,_,rfl,_,_,rfl,rfl,?_⟩;generalize upd H2 T2 (.tup [.int (sg:Nat),.int (bt:Nat)])=H3 at s6 jY;refine⟨_,rfl,d,rfl,.inl ⟨_,.inl jY.d⟩,_,rfl,dY _,λq hq=>⟨_,Sum.inl ((sg:Nat):Int),(aL hq) _ _ jY.d,rfl,(by rw[xx];exact gV Æ),λv hv=>?_,λhv=>?_⟩⟩
   ·rw[za] at hv;obtain⟨x,hx,rfl⟩:=yq.mp hv;have gv:=xy hx;have nU:=jY.l _ gv;have s7:ai H3 (upd H3 q ã):=aL hq;have hxq:=eK nU hq;have S3:x.a≠d:=λe=>by rw[e,jY.d] at nU;cases nU
    have hxb:x.ns.length<=1000000:=by
     have h1:=zL t2 sg;rw[hx,sQ] at h1;have h2:=Ux _ h1;grind
    refine⟨.inl ⟨rfl,_,aa.of (s7 _ _ nU)⟩,_,rfl,x.a,_,_,rfl,rfl,s7 _ _ nU,(by rw[eZ,jF];exact gV Æ),?_⟩;refine⟨_,_,eA t2 sg ⟨x.a,x.ns++[bt]⟩,rfl,qR (s6.trans s7) (jY.fr _ gv),⟨?_,λp hp=>?_,?_,λp hp=>?_⟩,Em lX,?_⟩
    ·rw[ao (dX S3),ah1 (y:=⟨x.a,x.ns++[bt]⟩) hx rfl lX];exact s7 _ _ jY.d
    ·rcases x4 hp with rfl|⟨hp,aQ⟩
     ·rw[aq];simp
     ·rw[ao (ah3 jY.nd hp gv aQ)];exact s7 _ _ (jY.l p hp)
    ·rw[ah2 (y:=⟨x.a,x.ns++[bt]⟩) hx rfl lX];exact jY.nd
    ·rcases x4 hp with rfl|⟨hp,aQ⟩
     ·exact jY.fr (sg,x) gv
     ·exact jY.fr p hp
    ·rw[Uy,sQ,UE];unfold oneAt;rw[<-sQ,zL,hx];rfl
   ·rw[za] at hv;have hx:bY t2 sg=none:=by
     simp_all
    have s7:ai H3 (upd H3 q ã):=aL hq;have UG:q≠d:=λe=>by rw[e,jY.d] at hq;cases hq
    have EG:=s6.free hq;have Lo:(upd (upd H3 q ã) d (.dK (putK (bx gL t2) (Sum.inl ((sg:Nat):Int)) Èo))) q=some ã:=by rw[ao UG];exact aq
    refine⟨.inl ⟨rfl,_,aa.of Lo⟩,_,rfl,q,_,_,rfl,rfl,Lo,(by show 0<sizeLine;exact gV Æ),?_⟩;refine⟨_,_,eA t2 sg ⟨q,[bt]⟩,rfl,qR (qR (s6.trans s7) hd) EG,⟨?_,λp hp=>?_,?_,λp hp=>?_⟩,Em lX,?_⟩
    ·rw[ao (dX UG),aq];exact cE (λz=>some (HO.dK z)) (Br gL t2 sg ⟨q,[bt]⟩)
    ·rcases x4 hp with rfl|⟨hp,aQ⟩
     ·rw[aq];rfl
     ·have c9:=jY.l p hp;rw[ao (eK c9 hq),ao (λe=>by rw[e,jY.d] at c9;cases c9)];exact s7 _ _ c9
    ·unfold eA;rw[pP,hx];show((t2++[(sg,(⟨q,[bt]⟩:cV))]).map λp=>p.2.a).Nodup;rw[bX];refine IH jY.nd λm=>?_;obtain⟨p,hp,e⟩:=cf.mp m;have c9:=jY.l p hp;simp_all
    ·rcases x4 hp with rfl|⟨hp,aQ⟩
     ·omega
     ·exact jY.fr p hp
    ·rw[Uy,sQ,UE];unfold oneAt;rw[<-sQ,zL,hx];rfl
  ·rintro σ H2 ⟨v5,v6,t2,rfl,s4,zN,lX,sQ⟩;refine⟨_,_,_,_,t2,rfl,s4,zN,lX,?_⟩;rw[sQ,eta,etb,eZ,jF,mX,G4 (l:=b.ns) (i:=a.ns.length) Æ];unfold eU;rw[Yl bQ,Av];simp
 ·rintro σ H' ⟨v3,v4,v5,v6,t,rfl,s1,tb,hn,et⟩;rw[aA,G4 (by rw[iA];exact bJ _),G4 (by rw[iA];omega)] at et;exact⟨_,rfl,k H' d t s1 hd tb et⟩
end
structure sS where
 a:Addr
 zs:LI
structure gw where
 a:Addr
 dx:Addr
 sm:Addr
 gp:Addr
 sp:Addr
 sames:LN
 eC:List (Nat×sS)
 fG:LI
def gA(x:sS):V:=.ref x.a
def gK(p:Nat×sS):Nat×LI:=(p.1,p.2.zs)
def uN(p:gw):List (Str×V):=[("sames",.ref p.sm),("gaps",.ref p.gp),("spares",.ref p.sp)]
def UH(p:gw):(uN p).lookup ("sames":Str)=some (.ref p.sm):=il
def Mo(p:gw):(uN p).lookup ("gaps":Str)=some (.ref p.gp):=(fY Ê).trans il
def UI(p:gw):(uN p).lookup ("spares":Str)=some (.ref p.sp):=(fY Ê).trans ((fY Ê).trans il)
structure oS(CP:Addr)(H:Hp)(p:gw):Prop where
 a:H p.a=some (.ins CP p.dx (uN p))
 sm:H p.sm=some (.lst (iv (nv p.sames)))
 gp:H p.gp=some (.dK (bx gA p.eC))
 gl:∀q∈p.eC,H q.2.a=some (.lst (iv q.2.zs))
 sp:H p.sp=some (.lst (iv p.fG))
def cz(z:Int):Int:=if z>0 then z else 0
def FA(G:Nat)(l:Int)(places:LN):LI:=(List.range G).map λg=>l-((rj g places:Nat):Int)
def nV(G:Nat)(lacks:List (Nat×Int))(FB:List (Nat×LN)):List (Nat×LI):=lacks.map λp=>(p.1,FA G p.2 ((bY FB p.1).getD []))
def x5(G:Nat)(sp own:LI):LI:=(List.range G).map λg=>sp.getD g 0-cz (own.getD g 0)
def rl(G:Nat)(sp:LI)(eC:List (Nat×LI)):LI:=eC.foldl (λsp p=>x5 G sp p.2) sp
def aia(G:Nat)(sp own:LI):(x5 G sp own).length=G:=by unfold x5;rw[aA,g7]
theorem UJ(G:Nat)(eC:List (Nat×LI)):∀(sp:LI),sp.length=G->(rl G sp eC).length=G:=by
 induction eC with
 |nil=>exact @λsp h=>h
 |cons p eC ih=>
  intro sp h;exact ih _ (aia G sp p.2)
def aib(G:Nat)(sp:LI)(eC:List (Nat×LI))(p:Nat×LI):rl G sp (eC++[p])=x5 G (rl G sp eC) p.2:=by
 unfold rl;simp
def UK(h:p∈nV G lacks FB):p.2.length=G:=by
 unfold nV at h;obtain⟨q,_,rfl⟩:=cf.mp h;unfold FA;simp
inductive UL(CK CP:Addr)(vs:au)(H:Hp)(Q:VK)(E':XK):Prop
 |mk (pk ps pl pp:Addr) (ks:List az) (sames:LN) (lacks:List (Nat×Int)) (t:List (Nat×cV)) (_:vs=[.ref pk,.ref ps,.ref pl,.ref pp]) (_:Ŭ ks) (_:H ps=some ϸ) (_:BY Í sames) (_:sames.length<=10) (_:H pl=some ì) (_:(lacks.map (·.1)).Nodup) (_:lacks.length<=1000) (_:H pp=some (.dK (bx gL t))) (_:(∀p∈t,H p.2.a=some (.lst (iv (nv p.2.ns))))) (_:(∀p∈t,p.2.ns.length<=1000)) (_:(∀p∈lacks,(bY t p.1).isSome=true)) (_:pp≠pl) (_:∀H' p,ai H H'->oS CP H' p->H p.a=none->H p.gp=none->p.a≠p.gp->p.sm=ps->p.sames=sames->p.eC.map gK=nV (2^sames.length) lacks Áw->p.fG=rl (2^sames.length) ((List.range (2^sames.length)).map (rk Í sames)) Åd->Q Âw H')
section
variable{P:Pg}{w:Wd}{K:FR}{mg:MG}{base:Heap}{CK CL CS N CV CP:Addr}{C:Cs}
def UM:bootBuiltins "list"=some (.type "list"):=by decide+kernel
def FC:bootBuiltins "max"=some (.builtin "max"):=by decide+kernel
def oU:bH ["kinds","sames","lacks","places","groups","gaps","sign","lack","group","spares","own"] ["kinds","sames","lacks","places"] (aV Ke):=cw
inductive PnI(pk ps pl pp gl d:Addr)(B:Hp)(G:Nat)(lacks:List (Nat×Int))(t:List (Nat×cV))(i:Nat)(σ:L2.St)(H':Hp):Prop
 |mk (v6 v7 tt:_) (_:σ=[some (.ref pk),some (.ref ps),some (.ref pl),some (.ref pp),some (.ref gl),some Èq,v6,v7,none,none,none]) (_:ai B H') (_:H' d=some ħ) (_:(∀q∈tt,H' q.2.a=some (.lst (iv q.2.zs)))) (_:(∀q∈tt,B q.2.a=none)) (_:tt.map gK=nV G (lacks.take i) Áw)
def aid(F:br K "plan_of" "plan_of" Ke f fd)(TP:lg K CP ["sames","gaps","spares"])(tL:mg "len"=none)(Mp:mg "list"=none)(tR:mg "range"=none)(tM:mg "max"=none)(dP:ă "Plan" CP ["sames","gaps","spares"]) (dO:Ç 1 "places_outside" ["group","places"] (Me K)) (dC:Ç 1 "copies_in" ["group","kinds","sames"] (Mf CK)):Ì aE 3 f fd ["kinds","sames","lacks","places"] (UL CK CP):=by
 refine F.ok oU Â;obtain⟨pk,ps,pl,pp,ks,sames,lacks,t,rfl,hk,jX,gr,aie,c9,zO,UN,x3,UF,Mq,hJ,aQ,k⟩:=h;have hu:A.units+3+1<cLine:=pz Ä hr.un;refine⟨_,aB (cj 4 oU.nd (xb (adA rfl) Õ Mp UM (ae (xb adz Õ tR boot_range (ae (eM HS bo ý) ag)) ag)))
  (aB (cj 5 oU.nd DT)
  (aB (Q1 (ş (Q5 è) (iE 6 7 oU.nd)
   (aD (IB (yZ hr) Äd Ãl (eF (own:=[("group",8)]) (te:=bU (gf λi j=>.int (i-j)) Èm (g9 (Me K) [] E0 (bh (ay 8) (bh (QU Ŗ (ay 6)) dw)))) rfl oU.nd (eX Ĳ) Ë
    (Ám) Ø (λ_ _ _ _ _=>eM qG Ål (bz dO (ae (pv 8) (ae (QV hu ø Ãl Ù) ag))))) rfl))))
  (aB (cj 9 oU.nd (eF (own:=[("group",8)]) (te:=g9 (Mf CK) [] E0 (bh (ay 8) (bh ό (bh ϕ dw)))) rfl oU.nd (eX Ĳ) Ë
    (Ám) Ø (λ_ _ _ _ _=>bz dC (ae (pv 8) (ae Û Œ)))))
  (aB (Q1 (ş (ace Äd) (dJ 10 oU.nd)
   (aD (cj 9 oU.nd (eF (own:=[("group",8)]) (te:=bU (gf λi j=>.int (i-j)) (bU ϋ (ay 9) (ay 8)) (qH (λxs H Q=>∃i j,xs=[.int i,.int j]/\Q (.int (if j>i then j else i)) H) (bh Äa (bh (bU ϋ (ay 10) (ay 8)) dw)))) rfl oU.nd (eX Ĳ) Ë
    (Ám) Ø (λ_ _ _ _ _=>eM qG (cA cY (pv 9) (pv 8) Ù) (c8 (HW rfl) Õ tM FC (ae bo (ae (cA cY (pv 10) (pv 8) Ù) ag)))))))))
  (aD (aY (p7 dP hr (ae á (ae Äd (ae (pv 9) ag)))))))))),?_⟩
 have hG:2^sames.length<=1024:=Hj Ú aie;have hG0:0<2^sames.length:=Nat.pow_pos Ú;refine⟨_,rfl,ps,_,rfl,.inl (aa.of jX),_,_,rfl,rfl,⟨by omega,by grind,by decide⟩,2^sames.length,?_,λr zP=>⟨r,2^sames.length,rfl,aq,by omega,λgl nO=>?_⟩⟩
 ·simp
 generalize hGG:2^sames.length=G at hG hG0 nO⊢;have s0:ai H (upd (upd H r (.rR 0 ((G:Nat):Int))) gl (.lst ((List.range G).map λi=>V.int ((i:Nat):Int)))):=(aL zP).trans (aL nO);have B7:(upd (upd H r (.rR 0 ((G:Nat):Int))) gl (.lst ((List.range G).map λi=>V.int ((i:Nat):Int)))) gl=some (.lst (iv Áb)):=by
  rw[aq];simp
 generalize upd (upd H r (.rR 0 ((G:Nat):Int))) gl (.lst ((List.range G).map λi=>V.int ((i:Nat):Int)))=H0 at s0 B7;intro d hd;have lN:d≠pl:=λe=>by rw[e,s0 _ _ c9] at hd;cases hd
 have aih:(Äz) pl=some ì:=by rw[ao (dX lN)];exact s0 _ _ c9
 refine⟨pl,_,aih,True.intro,λod=>?_⟩;have UO:(Áv) d=none:=by rw[ao lN];exact hd
 have FE:(Áv) pl=some ź:=aq;have B8:∀b o,H0 b=some o->b≠pl->(Áv) b=some o:=λb o e hb=>by rw[ao hb];exact e
 have hB0:∀b,(Áv) b=none->H0 b=none:=λb e=>by
  by_cases hb:b=pl
  ·simp_all
  ·rw[ao hb] at e;exact e
 have FF:ai Áv (upd Äz pl ź):=λb o e=>by
  by_cases hb:b=pl
  ·subst hb;rw[aq] at e⊢;exact e
  ·rw[ao hb] at e⊢;rw[ao (eK e hd)];exact e
 have UP:(upd Äz pl ź) d=some (.dK (bx gA [])):=by rw[ao lN];exact aq
 generalize qE:upd Äz pl ź=S1 at FF UP;generalize hB:upd H0 pl ź=B at UO FE B8 hB0 FF;have bpp:=B8 _ _ (s0 _ _ x3) aQ;have btl:=λp hp=>B8 _ _ (s0 _ _ (UF p hp)) (λe=>by grind);have UQ:=B8 _ _ B7 (λe=>by rw[e,s0 _ _ c9] at B7;cases B7);refine⟨_,rfl,pl,od,_,rfl,FF _ _ FE,adi (d:=pl) (o:=od) (kvs:=bx V.int lacks) (PnI pk ps pl pp gl d B G lacks t)
  ⟨none,none,[],rfl,FF,UP,by simp,by simp,rfl⟩ (λi σ H' _ h=>(by obtain⟨_,_,_,_,s1⟩:=h;exact s1 _ _ FE)) ?_ ?_⟩
 ·rintro i kk vv Tt σ H' hi ⟨v6,v7,tt,rfl,s1,uM,wb,hqf,qo⟩ hT;obtain⟨sg,l,h1,rfl,rfl⟩:=IW V.int hi;have d8:=(bO.mp h1).1;have et:=take_snoc h1;have jj:=bZ h1;obtain⟨x,hx⟩:=G0.mp (hJ _ jj);have hx:=hx;have gv:=xy hx;have s2:ai H' (Ϟ (.tup [kV (Sum.inl ((sg:Nat):Int)),V.int l])):=aL hT;have s3:=s1.trans s2;refine⟨Tt,_,rfl,bu.of aq,rfl,_,_,rfl,_,_,rfl,rfl,?_⟩;generalize hHx:Ϟ (.tup [kV (Sum.inl ((sg:Nat):Int)),V.int l])=Hx at s2 s3⊢;refine⟨_,rfl,gl,rfl,⟨_,aa.of (s3 _ _ UQ)⟩,λD hD=>gC (K:=K) (a:=gl) (xs:=iv Áb) (fC Hx D λg=>l-((rj g x.ns:Nat):Int)) Áz (λj H2 _ f=>aa.of (f.1 _ _ (s3 _ _ UQ))) (λj y H2 hj f=>?_) Æd⟩
  ·obtain⟨z,hz,rfl⟩:=nN hj;have qL:=(bO.mp hz).1;rw[g7] at qL;cases xM hz;have s4:=s3.trans f.1;have sU:=jO.k (k:=(Sum.inl ((sg:Nat):Int):Key)) (s4 _ _ bpp);rw[za,hx] at sU;exact⟨rfl,eO ⟨_,rfl,_,rfl,_,rfl,_,rfl,pp,_,rfl,sU,j,x.a,x.ns,rfl,aa.of (s4 _ _ (btl _ gv)),Mq _ gv,λH3 s5=>⟨_,_,rfl,rfl,(fC.step hD Æ f s5 rfl)⟩⟩⟩
  ·have fO:=f.2;rw[eZ,jF,g7] at fO;have s4:=s2.trans f.1;have hDB:=s3.free hD;have aim:=s4 _ _ uM;have htn:bY tt sg=none:=by
    cases e:bY tt sg with
    |none=>rfl
    |some u=>
     have h2:=xy e;have h3:sg∈(tt.map gK).map (·.1):=cf.mpr ⟨gK (sg,u),cf.mpr ⟨_,h2,rfl⟩,rfl⟩;rw[qo] at h3;unfold nV at h3;rw[cQ] at h3;obtain⟨q,hq,e2⟩:=cf.mp h3;have e2:=e2;exfalso;have B3:=zO;have e3:lacks.map (·.1)=(lacks.take i).map (·.1)++sg::(lacks.drop (i+1)).map (·.1):=by
      conv=>lhs;rw[<-O3 i lacks,zM h1,bX,a0]
     grind
   have cK:tt.length<=1000:=by
    have:(tt.map gK).length=(nV G (lacks.take i) Áw).length:=by rw[qo]
    unfold nV at this;grind
   refine⟨_,rfl,_,rfl,d,_,rfl,xo.k (k:=Sum.inl ((sg:Nat):Int)) aim (by rw[xx];exact gV Æ),?_⟩;have UR:putK (bx gA tt) (Sum.inl ((sg:Nat):Int)) Ái=bx gA (tt++[(sg,⟨D,(List.range G).map λg=>l-((rj g x.ns:Nat):Int)⟩)]):=by
    have:=Br gA tt sg ⟨D,(List.range G).map λg=>l-((rj g x.ns:Nat):Int)⟩;unfold eA at this;rw[pP,htn] at this;exact this
   refine⟨_,_,tt++[(sg,⟨D,(List.range G).map λg=>l-((rj g x.ns:Nat):Int)⟩)],rfl,qR (s1.trans s4) UO,?_,λq hq=>?_,λq hq=>?_,?_⟩
   ·rw[aq];simp_all
   ·rcases gR.mp hq with hq|hq
    ·have h2:=s4 _ _ (wb q hq);rw[ao (λe=>by simp_all)];omega
    ·have:q=(sg,⟨D,(List.range G).map λg=>l-((rj g x.ns:Nat):Int)⟩):=by simpa using hq
     subst this;rw[ao (λe=>by simp_all)];omega
   ·grind
   ·rw[et,bX,qo];unfold nV;rw[bX];congr 1;show[gK _]=[(sg,FA G l ((bY Áw sg).getD []))];rw[zL,hx];rfl
 ·rintro σ H' ⟨v6,v7,tt,rfl,s1,uM,wb,hqf,qo⟩;rw[xx,mX] at qo;refine⟨s1 _ _ FE,?_⟩;have s5:ai H0 Èf:=λb o e=>by
   by_cases hb:b=pl
   ·subst hb;rw[aq];rw[s0 _ _ c9] at e;omega
   ·rw[ao hb];exact s1 _ _ (B8 _ _ e hb)
  have US:(Èf) d=some ħ:=by rw[ao lN];exact uM
  have UT:∀q∈tt,(Èf) q.2.a=some (.lst (iv q.2.zs)):=λq hq=>by
   have h2:=wb q hq;rw[ao (λe=>by grind)];omega
  generalize upd H' pl ì=H5 at s5 US UT;have s6:=s0.trans s5;have hdH:=s0.free hd;have Mr:=s5 _ _ B7;refine⟨_,rfl,gl,rfl,⟨_,aa.of Mr⟩,λD hD=>gC (K:=K) (a:=gl) (xs:=iv Áb) (fC H5 D λg=>rk Í sames g) Áz (λj H2 _ f=>aa.of (f.1 _ _ Mr)) (λj y H2 hj f=>?_) Æd⟩
  ·obtain⟨z,hz,rfl⟩:=nN hj;have qL:=(bO.mp hz).1;rw[g7] at qL;cases xM hz;have s7:=s6.trans f.1;exact⟨rfl,eO ⟨_,rfl,_,rfl,_,rfl,j,pk,ps,ks,sames,rfl,hk.same s7,s7 _ _ jX,gr,λH3 s8=>(fC.step hD Æ f s8 rfl)⟩⟩
  ·have iZ:=f.2;have s7:=f.1;rw[eZ,jF,g7] at iZ;have Ms:=s7 _ _ US;have aip:=s7 _ _ Mr;have UU:=λq hq=>s7 _ _ (UT q hq);have s8:=s6.trans s7;have hDH:=s6.free hD;refine⟨d,_,Ms,True.intro,λuO=>?_⟩;have b1:(Èe) d=some Äy:=aq;have b2:∀b o,H2 b=some o->b≠d->(Èe) b=some o:=λb o e hb=>by rw[ao hb];exact e
   have b3:∀b o,H2 b=some Çe->(Èe) b=some Çe:=λb o e=>b2 b _ e (λz=>by simp_all);generalize upd H2 d Äy=B2 at b1 b2 b3;have aiq:((List.range G).map λg=>rk Í sames g).length=G:=by rw[aA,g7]
   refine⟨_,rfl,d,uO,_,rfl,b1,adj (d:=d) (o:=uO) (kvs:=bx gA tt) (λi σ H'=>∃yp sp,σ=[some (.ref pk),some (.ref ps),some (.ref pl),some (.ref pp),some (.ref gl),some Èq,v6,v7,none,some (.ref sp),yp]/\ai B2 H'/\H' sp=some (.lst (iv (rl G ((List.range G).map λg=>rk Í sames g) ((tt.map gK).take i)))))
    ⟨none,D,rfl,ai.refl B2,b3 _ _ iZ⟩ (λi σ H' _ ⟨_,_,_,s9,_⟩=>s9 _ _ b1) ?_ ?_⟩
   ·rintro i kk vv σ H' hi ⟨yp,sp,rfl,s9,zQ⟩;obtain⟨sg,x,h1,rfl,rfl⟩:=IW gA hi;have jj:=bZ h1;have nU:=s9 _ _ (b3 _ _ (UU _ jj));have ux:(tt.map gK)[i]? =some (sg,x.zs):=by rw[bW,h1];rfl
    have et:=take_snoc ux;have hxG:x.zs.length=G:=UK (p:=(sg,x.zs)) (by rw[<-qo];exact bZ ux);have hcG:=UJ G ((tt.map gK).take i) _ aiq;have UV:=s9 _ _ (b3 _ _ aip);rw[et,aib];generalize rl G ((List.range G).map λg=>rk Í sames g) ((tt.map gK).take i)=cur at zQ hcG;refine⟨_,rfl,gl,rfl,⟨_,aa.of UV⟩,λD2 cJ=>gC (K:=K) (a:=gl) (xs:=iv Áb) (fC H' D2 λg=>cur.getD g 0-cz (x.zs.getD g 0)) (fC.zero cJ) (λj H3 _ f=>aa.of (f.1 _ _ UV)) (λj y H3 hj f3=>?_) (λH3 f3=>?_)⟩
    ·obtain⟨z,hz,rfl⟩:=nN hj;have qL:=(bO.mp hz).1;rw[g7] at qL;cases xM hz;exact⟨rfl,eO ⟨_,rfl,_,rfl,sp,_,_,.int (cur.getD j 0),rfl,rfl,aa.of (f3.1 _ _ zQ),fT (xV Æ),_,rfl,_,rfl,x.a,_,_,.int (x.zs.getD j 0),rfl,rfl,aa.of (f3.1 _ _ nU),fT (xV É),_,_,rfl,_,_,rfl,rfl,(fC.step cJ Æ f3 (ai.refl H3) rfl)⟩⟩
    ·have e3:=f3.2;rw[eZ,jF,g7] at e3;exact⟨_,D2,rfl,s9.trans f3.1,e3⟩
   ·rintro σ H' ⟨yp,sp,rfl,s9,zQ⟩;rw[xx,<-aA (f:=gK),mX] at zQ;refine⟨s9 _ _ b1,?_⟩;have oB:ai H2 (upd H' d ħ):=λb o e=>by
     by_cases hb:b=d
     ·subst hb;rw[aq];simp_all
     ·rw[ao hb];exact s9 _ _ (b2 _ _ e hb)
    have UW:(upd H' d ħ) sp=some (.lst (iv (rl G ((List.range G).map λg=>rk Í sames g) (tt.map gK)))):=by
     rw[ao (λe=>by rw[e,s9 _ _ b1] at zQ;cases zQ)];omega
    have kW:=s8.trans oB;generalize upd H' d ħ=H7 at oB UW kW;refine⟨_,rfl,_,rfl,_,rfl,vW rfl λx dx H8 hx i5 aqt e8 e9=>?_⟩;refine k H8 ⟨x,dx,ps,d,sp,sames,tt,_⟩ (kW.trans e9) ⟨e8,(kW.trans e9) _ _ jX,(oB.trans e9) _ _ Ms,λq hq=>(oB.trans e9) _ _ (UU q hq),e9 _ _ UW⟩ (kW.free hx) hdH ?_ rfl rfl É (by rw[hGG];rfl);intro e;have e:x=d:=e;rw[e,oB _ _ Ms] at hx;simp_all
end
def uP(g same:Nat):Bool:=Builtin.bitAnd (g:Int) (same:Int)!=0
def sV(same:Nat):Int:=if ((same:Nat):Int)!=0 then-1 else 0
def jZ(b:Bool):Int:=if b=true then 1 else 0
def iQ(before:LI)(bits same:Nat):LI:=(List.range before.length).map λg=>before.getD g 0+sV same+jZ (gY g bits)
def jr(before fG:LI)(bits same:Nat):LI:=(List.range fG.length).map λg=>fG.getD g 0+cz (before.getD g 0)-cz ((iQ before bits same).getD g 0)-jZ (uP g same)
def uQ(x y:Addr)(H H':Hp):Prop:=∀b o,H b=some o->b≠x->b≠y->H' b=some o
def uQ.refl:uQ x y H H:=λ_ _ e _ _=>e
def ai.x{x y:Addr}{H H':Hp}(s:ai H H'):uQ x y H H':=λb o e _ _=>s b o e
def gw.own(p:gw):LA:=p.sm::p.sp::p.eC.map λq=>q.2.a
def sW(H:Hp)(p p':gw):Prop:=∀a∈p'.own,a∈p.own\/H a=none
inductive UX(CP:Addr)(vs:au)(H:Hp)(Q:VK)(E':XK):Prop
 |mk (p:gw) (sg bits same:Nat) (x:sS) (_:vs=[.ref p.a,.int (sg:Nat),.int (bits:Nat),.int (same:Nat)]) (_:oS CP H p) (_:p.a≠p.gp) (_:bY p.eC sg=some x) (_:x.zs.length=p.fG.length) (_:0<p.fG.length) (_:p.fG.length<=2000) (_:p.eC.length<=2000) (_:(p.eC.map (·.1)).Nodup) (_:((ϥ same).any (λz=>decide (z<0))=true->∀H',ai H H'->Q (.bl false) H')) (_:((ϥ same).any (λz=>decide (z<0))=false->∀H' p',oS CP H' p'->p'.a=p.a->p'.gp=p.gp->p'.sm=p.sm->p'.sames=p.sames->p'.eC.map gK=eA Åd sg (Ē same)->p'.fG=jr x.zs p.fG bits same->uQ p.a p.gp H H'->sW H p p'->Q (.bl true) H'))
theorem Mt(t:List (Nat×sS))(s:Nat):bY (t.map gK) s=(bY t s).map sS.zs:=by
 induction t with
 |nil=>rfl
 |cons p t ih=>
  unfold bY at ih⊢;rw[a0,ko,ko,show(gK p).1=p.1 from rfl];cases decide (p.1=s) with
  |true=>rfl
  |false=>exact ih
def ais(t:List (Nat×sS))(s:Nat)(x:sS):(eA t s x).map gK=eA (t.map gK) s x.zs:=by
 unfold eA;rw[pP,pP,Mt,Df];split
 ·rw[cQ,cQ];refine kq λp _=>?_;show gK (if p.1=s then (p.1,x) else p)=if p.1=s then (p.1,x.zs) else gK p;split <;> rfl
 ·rw[bX];rfl
section
variable{P:Pg}{w:Wd}{K:FR}{mg:MG}{base:Heap}{CK CL CS N CV CP:Addr}{C:Cs}
def UY:bootBuiltins "min"=some (.builtin "min"):=by decide+kernel
abbrev UZ:au->Hp->VK->Prop:=λxs H Q=>∃i j,xs=[.int i,.int j]/\Q (.int (if j>i then j else i)) H
def wo:bH ["plan","sign","bits","same","before","needs","gaps","group","gap","spares","spare"] ["plan","sign","bits","same"] (aV Kj):=cw
def ait(F:br K "hang" "hang" Kj f fd)(TP:lg K CP ["sames","gaps","spares"])(tE:mg "enumerate"=none)(tM:mg "max"=none)(tN:mg "min"=none):Ì aE 1 f fd ["plan","sign","bits","same"] (UX CP):=by
 refine F.ok wo Â;obtain⟨p,sg,bits,same,x,rfl,hp,FG,hx,nU,Up,A2,nO,B3,k1,k2⟩:=h;refine⟨_,aB (cj 4 wo.nd (QV (yZ hr) ï á Ù))
  (aB (cj 5 wo.nd (rW (yH ø Ãw) (jh jM bo) bo))
  (aB (cj 6 wo.nd (eF (own:=[("group",7),("gap",8)]) (g:=g2 K 7 8)
   (te:=bU (gf λi j=>.int (i+j)) (bU (gf λi j=>.int (i+j)) (ay 8) (ay 5)) (wW (B0 K (bU (gf λi j=>.int Ő) ŗ (DG (rU λi=>.int Äv) Èm))) Åb Äa)) rfl wo.nd
   (kY Õ tE ϡ) Ë
   (λ_ _ _ _ _=>iE 7 8 wo.nd) Ø
   (λ_ _ _ _ _=>eM qF (eM qF (pv 8) Äd) (rW (yH (eM AU è (jh PP Ål)) Ãw) bo bo))))
  (aB (uk (i:=9) (own:=[("group",7),("spare",10)]) (g:=g2 K 7 10)
   (te:=bU (gf λi j=>.int (i-j)) (bU (gf λi j=>.int (i-j)) (bU (gf λi j=>.int (i+j)) (ay 10) (qH UZ (bh Äa (bh (bU ϋ Ãp Èm) dw)))) (qH UZ (bh Äa (bh (bU ϋ (ay 6) Èm) dw)))) (wW (B0 K (bU (gf λi j=>.int Ő) Èm Ŗ)) Åb Äa)) rfl wo.nd rfl rfl Õ
   (kY Õ tE Ât) Ë
   (λ_ _ _ _ _=>iE 7 10 wo.nd) Ø
   (λ_ _ _ _ _=>eM qG (eM qG (eM qF (pv 10) (c8 (HW rfl) Õ tM FC (ae bo (ae (cA cY Ĳ Ål Ù) ag)))) (c8 (HW rfl) Õ tM FC (ae bo (ae (cA cY Ãl Ål Ù) ag)))) (rW (yH (eM AU Ål ø) Ãw) bo bo)))
  (aB (dq (cI w6 (c8 (Qw rfl) Õ tN UY (ae (pv 9) ag)) bo (bT _)) Âc d7)
  (aB (IB (yZ hr) ï á Ãl rfl)
  (aB (fc Û (pv 9) rfl)
  Âc)))))),?_⟩
 have gv:=xy hx;have jS:=hp.gl _ gv;have sU:=jO.k (k:=(Sum.inl ((sg:Nat):Int):Key)) hp.gp;rw[za,hx] at sU;refine⟨_,rfl,bj hp.a TP.1 (TP.2 _ Ä) (Mo p) ⟨_,rfl,p.gp,_,rfl,sU,?_⟩⟩;dsimp only;refine RK (RJ (((same:Nat):Int)!=0) (.int (sV same)) (λK q=>⟨_,rfl,_,rfl,q⟩) (λe K q=>đ) ϩ ?_)
 ·unfold sV at q;simp_all
 ·unfold sV at q;rw[ah É] at q;exact q
 refine⟨_,rfl,x.a,_,rfl,aa.of jS,λD hD=>lI (K:=K) (a:=x.a) (xs:=iv x.zs) (fC H D λg=>x.zs.getD g 0+sV same+jZ (gY g bits)) Áz (λi H' _ f=>aa.of (f.1 _ _ jS)) Ák û⟩
 ·obtain⟨z,hz,rfl⟩:=sy hi;have d8:=(bO.mp hz).1;have s1:ai H' (Ϟ (.tup [.int (i:Nat),.int z])):=aL hT;refine Þ;refine⟨_,rfl,_,rfl,_,_,rfl,rfl,Ej (gY i bits) (.int (jZ (gY i bits))) (λK q=>⟨_,rfl,_,rfl,_,rfl,_,_,rfl,rfl,_,rfl,q⟩) ϩ ϩ Ãe⟩
  ·rw[e] at q;exact q
  ·rw[e] at q;exact q
  ·refine fC.step hD Æ f s1 ?_;simp_all
 ·have wq:=f.2;have s1:=f.1;rw[eZ] at wq;have wq:H' D=some (.lst (iv (Ē same))):=wq;have aqu:(Ē same).length=x.zs.length:=by unfold iQ;rw[aA,g7]
  have aiu:=s1 _ _ jS;have aiv:=s1 _ _ hp.a;have U0:=s1 _ _ hp.sp;refine⟨_,rfl,bj aiv TP.1 (TP.2 _ Ä) (UI p) ⟨p.sp,_,rfl,aa.of U0,λD2 cJ=>lI (K:=K) (a:=p.sp) (xs:=iv p.fG) (fC H' D2 λg=>p.fG.getD g 0+cz (x.zs.getD g 0)-cz ((Ē same).getD g 0)-jZ (uP g same)) (fC.zero cJ) (λi H2 _ f=>aa.of (f.1 _ _ U0)) (λi v Tt H2 hi f2 hT=>?_) (λH2 f2=>?_)⟩⟩
  ·obtain⟨z,hz,rfl⟩:=sy hi;have d8:=(bO.mp hz).1;have s2:ai H2 (upd H2 Tt (.tup [.int (i:Nat),.int z])):=aL hT;have s3:=f2.1.trans s2;refine Þ;refine⟨_,rfl,_,rfl,_,rfl,x.a,_,_,.int (x.zs.getD i 0),rfl,rfl,aa.of (s3 _ _ aiu),fT (xV (by show i<x.zs.length;omega)),_,_,rfl,_,_,rfl,rfl,
    _,rfl,_,rfl,D,_,_,.int ((Ē same).getD i 0),rfl,rfl,aa.of (s3 _ _ wq),fT (xV Æ),_,_,rfl,_,_,rfl,rfl,
    Ej (uP i same) (.int (jZ (uP i same))) (λK q=>⟨_,rfl,_,rfl,_,_,rfl,rfl,_,rfl,q⟩) ϩ ϩ Ãe⟩
   ·rw[e] at q;exact q
   ·rw[e] at q;exact q
   ·refine fC.step cJ Æ f2 s2 ?_;rw[getD_at hz];rfl
  ·have hS:=f2.2;have s2:=f2.1;rw[eZ] at hS;have hS:H2 D2=some (.lst (iv (ϥ same))):=hS;have aiw:(ϥ same).length=p.fG.length:=by unfold jr;rw[aA,g7]
   have s3:=s1.trans s2;generalize jr x.zs p.fG bits same=sps at hS aiw k1 k2;refine⟨_,rfl,D2,sps,rfl,aa.of hS,by omega,λm hm j7=>⟨_,_,rfl,rfl,_,rfl,a8 Ï Ï⟩⟩
   ·simp at hc;exact k1 (vb.mpr ⟨m,hm,eJ hc⟩) H2 s3
   ·simp at hc;have Mu:sps.any (λz=>decide (z<0))=false:=by
     grind
    have k3:=k2 Mu;have U1:=s3 _ _ hp.a;have aix:=s3 _ _ hp.gp;have aqv:=s2 _ _ wq;have FH:=hD;have FI:=s1.free cJ;have aqw:D≠p.gp:=λe=>by rw[e,hp.gp] at FH;cases FH
    have aqx:D≠p.a:=λe=>by rw[e,hp.a] at FH;cases FH
    have aqy:D2≠p.gp:=λe=>by rw[e,hp.gp] at FI;cases FI
    have aqz:D2≠p.a:=λe=>by rw[e,hp.a] at FI;cases FI
    refine⟨_,rfl,_,rfl,bj U1 TP.1 (TP.2 _ Ä) (Mo p) ⟨_,rfl,p.gp,_,rfl,xo.k (k:=Sum.inl ((sg:Nat):Int)) aix (by rw[xx];exact gV Æ),?_⟩⟩;have UR:putK (bx gA p.eC) (Sum.inl ((sg:Nat):Int)) Ái=bx gA Ào:=Br gA p.eC sg ⟨D,Ē same⟩;rw[UR];refine⟨_,rfl,_,rfl,p.a,CP,p.dx,uN p,rfl,(by rw[ao FG];exact U1),TP.1,TP.2 _ Ä,(by show 3<1000;decide),?_⟩;have ef:ie ("spares":Str) (.ref D2) (uN p)=uN ⟨p.a,p.dx,p.sm,p.gp,D2,p.sames,eA p.eC sg ⟨D,Ē same⟩,sps⟩:=by
     rfl
    rw[ef];have hx:∀b o,H2 b=some o->b≠p.a->b≠p.gp->(upd (upd H2 p.gp (.dK (bx gA Ào))) p.a (.ins CP p.dx (uN ⟨p.a,p.dx,p.sm,p.gp,D2,p.sames,eA p.eC sg ⟨D,Ē same⟩,sps⟩))) b=some o:=λb o e h1 h2=>by
     rw[ao h1,ao h2];omega
    have nU:∀b o,H2 b=some Çe->(upd (upd H2 p.gp (.dK (bx gA Ào))) p.a (.ins CP p.dx (uN ⟨p.a,p.dx,p.sm,p.gp,D2,p.sames,eA p.eC sg ⟨D,Ē same⟩,sps⟩))) b=some Çe:=λb o e=>hx b _ e (λz=>by simp_all) (λz=>by simp_all);refine k3 _ ⟨p.a,p.dx,p.sm,p.gp,D2,p.sames,eA p.eC sg ⟨D,Ē same⟩,sps⟩ ⟨aq,nU _ _ (s3 _ _ hp.sm),?_,λq hq=>?_,nU _ _ hS⟩ rfl rfl rfl rfl (ais _ _ _) rfl (λb o e h1 h2=>hx b o (s3 _ _ e) h1 h2) (λa ha=>?_)
    ·rw[ao (dX FG),aq]
    ·rcases x4 hq with rfl|⟨hq,_⟩
     ·simp_all
     ·exact nU _ _ (s3 _ _ (hp.gl q hq))
    ·unfold gw.own at ha⊢;rcases ba.mp ha with rfl|ha
     ·simp
     ·rcases ba.mp ha with rfl|ha
      ·simp_all
      ·obtain⟨q,hq,rfl⟩:=cf.mp ha;rcases x4 hq with rfl|⟨hq,_⟩
       ·simp_all
       ·grind
end
abbrev hZ:=List (Nat×LI)×LI
def nW(l:LI):Bool:=!l.any λz=>decide (z<0)
def rn(st:hZ)(sg bits same:Nat)(row:LI):hZ:=(eA st.1 sg (iQ row bits same),jr row st.2 bits same)
def uR(sames:LN)(st:hZ)(sg bits:Nat)(row:LI):LN->Option (Nat×hZ)
 |[]=>none
 |b::r=>if nW (jr row st.2 bits (2^b))=true then some (sames.getD b 0,rn st sg bits (2^b) row) else uR sames st sg bits row r
def oW(n bits:Nat):LN:=(List.range n).filter (xZ bits)
def nX(sames:LN)(st:hZ)(sg bits:Nat):Option (Nat×hZ):=match bY st.1 sg with
 |none=>some (sg,st)
 |some row=>if nW (jr row st.2 bits 0)=true then some (sg,rn st sg bits 0 row) else uR sames st sg bits row (oW sames.length bits)
def gw.st(p:gw):hZ:=(p.eC.map gK,p.fG)
structure mq(CP:Addr)(H:Hp)(p:gw):Prop where
 ok:oS CP H p
 ne:p.a≠p.gp
 row:∀q∈p.eC,q.2.zs.length=p.fG.length
 pos:0<p.fG.length
 dc:p.fG.length<=2000
 B9:p.eC.length<=2000
 nd:(p.eC.map (·.1)).Nodup
 FJ:p.sames.length<=10
def oS.same(h:oS CP H p)(s:ai H H'):oS CP H' p:=⟨s _ _ h.a,s _ _ h.sm,s _ _ h.gp,λq hq=>s _ _ (h.gl q hq),s _ _ h.sp⟩
def mq.same(h:mq CP H p)(s:ai H H'):mq CP H' p:=⟨h.ok.same s,h.ne,h.row,h.pos,h.dc,h.B9,h.nd,h.FJ⟩
def Mv(l:List (Nat×sS)):(l.map gK).map (·.1)=l.map (·.1):=by rw[cQ];rfl
def U2{CP:Addr}{H H':Hp}{p p':gw}{sg bits same:Nat}{x:sS}(g:mq CP H p)(hx:bY p.eC sg=some x)(ok:oS CP H' p')(ea:p'.a=p.a)(eg:p'.gp=p.gp)(es:p'.sames=p.sames)(e1:p'.eC.map gK=eA Åd sg (Ē same)) (e2:p'.fG=jr x.zs p.fG bits same):mq CP H' p':=by
 have hl:p'.fG.length=p.fG.length:=by rw[e2];unfold jr;rw[aA,g7]
 have hk:p'.eC.map (·.1)=p.eC.map (·.1):=by
  rw[<-Mv,e1,RO,Mt,hx,Mv];rfl
 refine⟨ok,by rw[ea,eg];exact g.ne,λq hq=>?_,by rw[hl];exact g.pos,by rw[hl];exact g.dc,?_,by rw[hk];exact g.nd,by rw[es];exact g.FJ⟩
 ·have h1:gK q∈eA Åd sg (Ē same):=by rw[<-e1];exact cf.mpr ⟨q,hq,rfl⟩
  rcases x4 h1 with e|⟨h2,_⟩
  ·have:q.2.zs=iQ x.zs bits same:=cE Prod.snd e;rw[this,hl,<-g.row _ (xy hx)];unfold iQ;simp
  ·obtain⟨q',lE,e⟩:=cf.mp h2;have:q.2.zs=q'.2.zs:=(cE Prod.snd e).symm;rw[this,hl];exact g.row q' lE
 ·have:=cE List.length hk;rw[aA,aA] at this;rw[this];exact g.B9
inductive Mw(CP:Addr)(vs:au)(H:Hp)(Q:VK)(E':XK):Prop
 |mk (p:gw) (sg bits:Nat) (r:Nat×hZ) (_:vs=[.ref p.a,.int (sg:Nat),.int (bits:Nat)]) (_:mq CP H p) (_:nX p.sames p.st sg bits=some r) (_:∀H' p',mq CP H' p'->p'.a=p.a->p'.gp=p.gp->p'.sames=p.sames->p'.st=r.2->uQ p.a p.gp H H'->sW H p p'->Q (.int ((r.1:Nat):Int)) H')
section
variable{P:Pg}{w:Wd}{K:FR}{mg:MG}{base:Heap}{CK CL CS N CV CP:Addr}{C:Cs}
def Ca:bH ["plan","sign","bits","places","place","tried"] ["plan","sign","bits"] (aV Ki):=cw
def aiy{f:Addr}{fd:FD}(F:br K "flag_told" "flag_told" Ki f fd)(TP:lg K CP ["sames","gaps","spares"])(tL:mg "len"=none)(tR:mg "range"=none)(dH:Ç 1 "hang" ["plan","sign","bits","same"] (UX CP)):Ì aE 2 f fd ["plan","sign","bits"] (Mw CP):=by
 refine F.ok Ca Â;obtain⟨p,sg,bits,r,rfl,hp,gc,k⟩:=h;refine⟨_,aB (dq (PW.pt (pw_or (ot (abD (yZ hr) á ï) (by with_unfolding_all rfl)) (pw_or1 (jx (bz dH (ae Û (ae á (ae è (ae bo ag))))))))) (aD (aY á)) d7)
  (aB (uk (i:=3) (own:=[("place",4)]) (tt:=B0 K (bU (gf λi j=>.int Ő) (bU (rI (λ_ j=>0<=j) λi j=>.int (i/2^j.toNat)) ŗ Ãp) Åb)) (te:=ay 4) rfl Ca.nd rfl rfl Õ (HM Õ tR (ae (c8 fU Õ tL PySem.boot_len Ât) ag)) Ë
   (λ_ _ _ _ _=>dJ 4 Ca.nd) (λ_ _ _ _ _=>pL (yH (eM AU (eM PM è Ĳ) bo) Ãw)) (λ_ _ _ _ _=>pv 4))
  (aB (cj 5 Ca.nd bo)
  (aB (ZH qx (pG (jx (bz dH (ae Û (ae á (ae è (ae (eM HS bo (cA cY ø Äd Ù)) ag))))))) (aD (ZE (i:=5) Ca.nd rfl (Or.inl rfl) bo ZX)))
  (aD (aY (cA cY ï (cA cY ø Äd Ù) Ù)))))),?_⟩
 have sU:=jO.k (k:=(Sum.inl ((sg:Nat):Int):Key)) hp.ok.gp;rw[za] at sU;refine⟨_,rfl,_,rfl,bj hp.ok.a TP.1 (TP.2 _ Ä) (Mo p) ⟨p.gp,_,rfl,sU,_,rfl,?_⟩⟩;have eg:=Mt p.eC sg;cases e:bY p.eC sg with
 |none=>
  rw[e] at eg;have ef:nX p.sames p.st sg bits=some (sg,p.st):=by
   unfold nX gw.st;simp_all
  rw[ef] at gc;cases gc;exact a8 (λ_=>kZ ⟨_,rfl,k H p hp rfl rfl rfl rfl uQ.refl λa ha=>.inl ha⟩) (λhc=>absurd rfl hc)
 |some x=>
  rw[e] at eg;have gv:=xy e;have Cb:=hp.row _ gv;have ef:nX p.sames p.st sg bits=if nW (ϥ 0)=true then some (sg,rn p.st sg bits 0 x.zs) else uR p.sames p.st sg bits x.zs (oW p.sames.length bits):=by
   unfold nX gw.st;simp_all
  rw[ef] at gc;refine a8 (λhc=>absurd hc Ä) (λ_=>?_);refine⟨_,rfl,_,rfl,_,rfl,p,sg,bits,0,x,rfl,hp.ok,hp.ne,e,Cb,hp.pos,hp.dc,hp.B9,hp.nd,λh H1 s1=>⟨_,rfl,nu ?_⟩,λh H1 p1 Cc zR Cd em1 zS Mx My FK Mz=>⟨_,rfl,kZ ?_⟩⟩
  ·rw[ah (by unfold nW;rw[h];decide)] at gc;have oh:=hp.same s1;have yP:=hp.FJ;refine⟨_,rfl,bj oh.ok.a TP.1 (TP.2 _ Ä) (UH p) ⟨p.sm,_,rfl,.inl (aa.of oh.ok.sm),(p.sames.length:Int),by simp,by omega,by omega,λD hD=>?_⟩⟩;rw[C6];refine DR (lo:=0) (n:=p.sames.length) (lL H1 D (xZ bits)) (lL.zero hD) Âh û
   ·rw[Ym];refine⟨rfl,_,rfl,_,rfl,_,_,rfl,rfl,Hi i,_,_,rfl,rfl,_,rfl,a8 Ï Ï⟩
    ·exact⟨_,rfl,f.yes hD Æ Ĺ hc⟩
    ·exact f.no Ĺ hc
   ·have wq:H' D=some (.lst (iv (nv (oW p.sames.length bits)))):=f.2;have s2:=s1.trans f.1;have bQ:∀b∈oW p.sames.length bits,b<p.sames.length:=λb hb=>by
     unfold oW at hb;simp_all
    have hDa:D≠p.a:=λz=>by rw[z,oh.ok.a] at hD;cases hD
    have hDg:D≠p.gp:=λz=>by rw[z,oh.ok.gp] at hD;cases hD
    generalize oW p.sames.length bits=pl at wq bQ gc;refine⟨λm σ H2=>∃j:Nat,σ=[some Âw,some (.int (sg:Nat)),some (.int (bits:Nat)),some Ái,none,some (.int (j:Nat))]/\m=pl.length-j/\ai H H2/\H2 D=some (.lst (iv (nv pl)))/\uR p.sames p.st sg bits x.zs (pl.drop j)=some r,
     ⟨_,0,rfl,rfl,s2,wq,gc⟩,?_⟩
    rintro m σ H2 ⟨j,rfl,rfl,s3,cJ,hj⟩;have vy:j<pl.length:=by
     cases Nat.lt_or_ge j pl.length with
     |inl h=>exact h
     |inr h=>rw[Yn h] at hj;cases hj
    obtain⟨b,hb⟩:∃b,pl[j]? =some b:=⟨_,dm vy⟩;have jW:=bQ b Çv;rw[zM hb] at hj;have qz:=hp.same s3;have FL:(iv (nv pl))[j]? =some (.int ((b:Nat):Int)):=by
     simp_all
    refine⟨_,rfl,_,rfl,_,rfl,_,rfl,_,rfl,D,_,_,.int ((b:Nat):Int),rfl,rfl,aa.of cJ,fT FL,_,_,rfl,rfl,⟨Hi b,by omega,by decide⟩,p,sg,bits,2^b,x,?_,qz.ok,hp.ne,e,Cb,hp.pos,hp.dc,hp.B9,hp.nd,λh H3 s4=>⟨_,rfl,kZ ?_⟩,λh H3 p1 Cc zR Cd em1 zS Mx My FK Mz=>⟨_,rfl,nu ?_⟩⟩
    ·simp
    ·unfold uR at hj;rw[ah (by unfold nW;rw[show p.st.2=p.fG from rfl,h];decide)] at hj;refine⟨_,λσ' H' q=>⟨_,?_,q⟩,_,rfl,_,_,rfl,rfl,j+1,rfl,rfl,s3.trans s4,s4 _ _ cJ,hj⟩;omega
    ·unfold uR at hj;rw[af (by unfold nW;rw[show p.st.2=p.fG from rfl,h];rfl)] at hj;cases hj;have rq:=FK _ _ cJ hDa hDg;refine⟨_,rfl,bj (by rw[<-zR];exact Cc.a) TP.1 (TP.2 _ Ä) (UH p1) ⟨_,rfl,_,rfl,D,_,_,.int ((b:Nat):Int),rfl,rfl,aa.of rq,fT FL,p1.sm,_,_,.int ((p.sames.getD b 0:Nat):Int),rfl,rfl,aa.of Cc.sm,?_,?_⟩⟩
     ·rw[zS];exact fT (Fs jW)
     ·refine k H3 p1 (U2 hp e Cc zR Cd zS Mx My) zR Cd zS ?_ (λb o e1 h1 h2=>FK b o (s3 _ _ e1) h1 h2) (λa ha=>(Mz a ha).imp id λz=>s3.free z);unfold gw.st rn;simp_all
  ·rw[af (by unfold nW;rw[h];rfl)] at gc;cases gc;refine⟨_,rfl,k H1 p1 (U2 hp e Cc zR Cd zS Mx My) zR Cd zS ?_ FK Mz⟩;unfold gw.st rn;simp_all
end
def nY(sames:LN):hZ->cg->Option (LN×hZ)
 |st,[]=>some ([],st)
 |st,p::r=>match nX sames st p.1 p.2 with
  |none=>none
  |some x=>match nY sames x.2 r with
   |none=>none
   |some y=>some (x.1::y.1,y.2)
def sW.refl:sW H p p:=λ_ h=>.inl h
def Apart(D:Addr)(p:gw):Prop:=D≠p.a/\D≠p.gp/\D∉p.own
def aiC(h:oS CP H p)(ha:a∈p.own):∃l,H a=some (.lst l):=by
 unfold gw.own at ha;rcases ba.mp ha with rfl|ha
 ·exact⟨_,h.sm⟩
 ·rcases ba.mp ha with rfl|ha
  ·exact⟨_,h.sp⟩
  ·obtain⟨q,hq,rfl⟩:=cf.mp ha;exact⟨_,h.gl q hq⟩
def apart_new(h:oS CP H p)(hD:H D=none):Apart D p:=by
 refine⟨λe=>?_,λe=>?_,λe=>?_⟩
 ·rw[e,h.a] at hD;cases hD
 ·rw[e,h.gp] at hD;cases hD
 ·obtain⟨l,hl⟩:=aiC h e;simp_all
def MA(h:Apart D p)(ea:p'.a=p.a)(eg:p'.gp=p.gp)(ow:sW H p p')(hD:H D≠none):Apart D p':=⟨by rw[ea];exact h.1,by rw[eg];exact h.2.1,λe=>(ow D e).elim h.2.2 hD⟩
def oS.upd(h:oS CP H p)(ap:Apart D p):oS CP (upd H D o) p:=by
 have n:∀a∈p.own,a≠D:=λa ha e=>ap.2.2 É;refine⟨?_,?_,?_,λq hq=>?_,?_⟩
 ·rw[ao (dX ap.1)];exact h.a
 ·rw[ao (n _ (by unfold gw.own;simp))];exact h.sm
 ·rw[ao (dX ap.2.1)];exact h.gp
 ·rw[ao (n _ (by unfold gw.own;exact aO _ (aO _ (cf.mpr ⟨q,hq,rfl⟩))))];exact h.gl q hq
 ·rw[ao (n _ (by unfold gw.own;simp))];exact h.sp
def mq.upd(h:mq CP H p)(ap:Apart D p):mq CP (upd H D o) p:=⟨h.ok.upd ap,h.ne,h.row,h.pos,h.dc,h.B9,h.nd,h.FJ⟩
inductive MB(CP:Addr)(vs:au)(H:Hp)(Q:VK)(E':XK):Prop
 |mk (p:gw) (x z:cV) (r:LN×hZ) (_:vs=[.ref p.a,.ref x.a,.ref z.a]) (_:mq CP H p) (_:aU H (lsN x)) (_:aU H (lsN z)) (_:x.ns.length=z.ns.length) (_:x.ns.length<=1000) (_:nY p.sames p.st (x.ns.zip z.ns)=some r) (_:∀H' p' q,mq CP H' p'->p'.a=p.a->p'.gp=p.gp->p'.sames=p.sames->p'.st=r.2->uQ p.a p.gp H H'->sW H p p'->H q=none->H' q=some (.lst (iv (nv r.1)))->Apart q p'->Q Èo H')
section
variable{P:Pg}{w:Wd}{K:FR}{mg:MG}{base:Heap}{CK CL CS N CV CP:Addr}{C:Cs}
def MC:bH ["plan","row","stands","place","sign"] ["plan","row","stands"] (aV Kh):=cw
inductive HtI(CP D:Addr)(p:gw)(H:Hp)(x z:cV)(r:LN×hZ)(i:Nat)(H2:Hp):Prop
 |mk (p2:gw) (fs:LN) (r2:LN×hZ) (_:uQ p.a p.gp H H2) (_:mq CP H2 p2) (_:p2.a=p.a) (_:p2.gp=p.gp) (_:p2.sames=p.sames) (_:sW H p p2) (_:Apart D p2) (_:H2 D=some (.lst (iv (nv fs)))) (_:fs.length=i) (_:nY p.sames p2.st ((x.ns.zip z.ns).drop i)=some r2) (_:fs++r2.1=r.1) (_:r2.2=r.2)
def aiE(F:br K "hoist_told" "hoist_told" Kh f fd)(tE:mg "enumerate"=none)(dF:Ç 2 "flag_told" ["plan","sign","bits"] (Mw CP)):Ì aE 3 f fd ["plan","row","stands"] (MB CP):=by
 refine F.ok MC Â;obtain⟨p,x,z,r,rfl,hp,hx,hz,hl,ji,hh,k⟩:=h;have jS:=BS hx;have sR:=BS hz;refine⟨_,aD (aY (eF (own:=[("place",3),("sign",4)]) (g:=g2 K 3 4) (te:=g9 (Mw CP) [] E0 (bh ό (bh Ãp (bh (bU ϋ ŗ Ŗ) dw)))) rfl MC.nd
   (kY Õ tE Œ) Ë
   (λ_ _ _ _ _=>iE 3 4 MC.nd) Ø
   (λ_ _ _ _ _=>bz dF (ae Û (ae Ĳ (ae (cA cY è ø Ù) ag)))))),?_⟩
 have aiF:x.a≠p.a:=λe=>by rw[e,hp.ok.a] at jS;cases jS
 have aiG:x.a≠p.gp:=λe=>by rw[e,hp.ok.gp] at jS;cases jS
 have aiH:z.a≠p.a:=λe=>by rw[e,hp.ok.a] at sR;cases sR
 have aiI:z.a≠p.gp:=λe=>by rw[e,hp.ok.gp] at sR;cases sR
 refine⟨_,rfl,x.a,_,rfl,aa.of jS,λD hD=>?_⟩;have FM:=eK jS hD;have hzD:=eK sR hD;have Ce:=apart_new hp.ok hD;refine lI (K:=K) (a:=x.a) (xs:=iv (nv x.ns)) (HtI CP D p H x z r)
  ⟨p,[],r,ai.x (aL hD),hp.upd Ce,rfl,rfl,rfl,sW.refl,Ce,aq,rfl,hh,rfl,rfl⟩ (λi H2 _ h=>(by obtain⟨p2,fs,r2,sx⟩:=h;exact aa.of (sx _ _ jS aiF aiG))) ?_ ?_
 ·rintro i v Tt H2 hi ⟨p2,fs,r2,sx,g2,ea,eg,es,ow,ap,cJ,gc,qp,wt,FO⟩ hT;obtain⟨sg,jV,rfl⟩:=nN hi;have d8:=(bO.mp jV).1;obtain⟨bt,UD⟩:∃bt,z.ns[i]? =some bt:=⟨_,dm Æ⟩;have gU:(x.ns.zip z.ns)[i]? =some (sg,bt):=by
   simp_all
  rw[zM gU] at qp;have s1:ai H2 (upd H2 Tt (.tup [.int (i:Nat),.int (sg:Nat)])):=aL hT;have FL:(iv (nv z.ns))[i]? =some (.int ((bt:Nat):Int)):=by
   simp_all
  unfold nY at qp;cases e1:nX p.sames p2.st sg bt with
  |none=>simp_all
  |some y1=>
   rw[e1] at qp;dsimp only at qp;cases e2:nY p.sames y1.2 ((x.ns.zip z.ns).drop (i+1)) with
   |none=>simp_all
   |some y2=>
    rw[e2] at qp;have qp:=aN qp;subst qp;refine Þ;generalize hHx:upd H2 Tt (.tup [.int (i:Nat),.int (sg:Nat)])=Hx at s1;have g3:=g2.same s1;refine⟨_,rfl,_,rfl,_,rfl,_,rfl,z.a,_,_,.int ((bt:Nat):Int),rfl,rfl,aa.of (s1 _ _ (sx _ _ sR aiH aiI)),fT FL,p2,sg,bt,y1,by simp_all,g3,by simp_all,λH3 p3 g4 zT zU MD U3 zV zW=>?_⟩;have Cf:=s1 _ _ cJ;have rq:=zV _ _ Cf ap.1 ap.2.1;have Cg:=MA ap zT zU zW É;refine⟨_,rq,by rw[eZ,jF];exact gV Æ,p3,fs++[y1.1],y2,λb o e h1 h2=>?_,g4.upd Cg,zT.trans ea,zU.trans eg,MD.trans es,λa ha=>?_,Cg,?_,by simp_all,by simp_all,by simp_all,FO⟩
    ·rw[ao (eK e hD)];exact zV _ _ (s1 _ _ (sx b o e h1 h2)) É É
    ·rcases zW a ha with h|h
     ·exact ow a h
     ·refine .inr ?_;cases e:H a with
      |none=>rfl
      |some o=>
       exfalso;have hn:=s1.free h;by_cases h1:a=p.a
       ·rw[h1,<-ea,g2.ok.a] at hn;cases hn
       ·by_cases h2:a=p.gp
        ·rw[h2,<-eg,g2.ok.gp] at hn;cases hn
        ·rw[sx a o e h1 h2] at hn;cases hn
    ·rw[aq];simp
 ·rintro H2 ⟨p2,fs,r2,sx,g2,ea,eg,es,ow,ap,cJ,gc,qp,wt,FO⟩;rw[eZ,jF] at gc qp;rw[Yn É] at qp;cases qp;grind
end
def aZ(ms:aF):LN:=(List.range ms.length).filter λi=>decide ((ms.getD i fk).role=1)
def fJ(ms:aF)(rows:bp):bp:=rows.map (ql ms Ĩ)
def Cj(ms:aF)(rows:bp):List (Nat×LI):=nV (2^(aZ ms).length) (jq ms rows.flatten) (iP ù)
def oX(ms:aF)(rows:bp):hZ:=(Cj ms rows,rl (2^(aZ ms).length) ((List.range (2^(aZ ms).length)).map (rk ms Ĩ)) (Cj ms rows))
def mr(sames:LN):hZ->List cg->Option (bp×hZ)
 |st,[]=>some ([],st)
 |st,p::r=>match nY sames st p with
  |none=>none
  |some x=>match mr sames x.2 r with
   |none=>none
   |some y=>some (x.1::y.1,y.2)
def mv(rows lO:bp):List cg:=(rows.zip lO).map λp=>p.1.zip p.2
def nZ(ms:aF)(rows:bp):Option (Option bp):=
 if jq ms rows.flatten=[] then some (some rows) else if (oX ms rows).2.any (λz=>decide (z<0))=true then some none else (mr Ĩ Æk Ãn).map λx=>some x.1
structure wu(ms:aF):Prop where
 dc:(aZ ms).length<=10
 pos:∀s∈aZ ms,1<=lh ms s
inductive FP(CK:Addr)(vs:au)(H:Hp)(Q:VK)(E':XK):Prop
 |mk (pk:Addr) (ks:List az) (y:cb) (r:Option bp) (_:vs=[.ref pk,.ref y.a]) (_:Ŭ ks) (_:wu Í) (_:Ml H y ks.length) (_:(y.m.flatten).length<=1000) (_:nZ Í y.m=some r) (_:(∀hs,r=some hs->∀H' z,ai H H'->cb.m z=hs->aU H' (eT z)->i8 H (eT z)->Q Äp H')) (_:(r=none->∀H',ai H H'->Q .aJ H'))
def aiJ(l:cg)(s:Nat):(bY (iP l) s).isSome=(l.map (·.1)).contains s:=by
 refine snoc_ind (P:=λl=>(bY (iP l) s).isSome=(l.map (·.1)).contains s) rfl Át l;rw[B5,bX];unfold oneAt;rw[El];by_cases h:s=x.1
 ·rw[af h];simp[h]
 ·rw[ah h,ih];simp[h]
def aiK(l:cg):((iP l).map (·.1)).Nodup:=by
 refine snoc_ind (P:=λl=>((iP l).map (·.1)).Nodup) Ax Ãt l;rw[B5];exact Em ih
theorem U4:∀(rows lO:bp),rows.length=lO.length->(∀(i:Nat)(a b:LN),rows[i]? =some a->lO[i]? =some b->a.length=b.length)->(eU rows lO).map (·.1)=rows.flatten:=by
 intro rows;induction rows with
 |nil=>
  intro lO h1 _;cases lO with
  |nil=>rfl
  |cons _ _=>cases h1
 |cons a rows ih=>
  intro lO h1 h2;cases lO with
  |nil=>cases h1
  |cons b lO=>
   have ih:=ih lO (À h1) λi x y e1 e2=>h2 (i+1) x y e1 e2;unfold eU at ih⊢;rw[Dd,Dk,bX,ih,Pa];congr 1;have:=h2 0 a b rfl rfl;exact List.map_fst_zip (by show a.length<=b.length;omega)
def U5(ms:aF)(rows:bp):rows.length=(fJ ms rows).length:=by unfold fJ;rw[aA]
def ME(ms:aF)(rows:bp):∀(i:Nat)(a b:LN),rows[i]? =some a->ņ[i]? =some b->a.length=b.length:=λi a b h1 h2=>by
 unfold fJ at h2;rw[bW,h1] at h2;cases h2;unfold ql;simp
def aiL(G:Nat)(lacks:List (Nat×Int))(FB:List (Nat×LN)):(nV G lacks FB).map (·.1)=lacks.map (·.1):=by
 unfold nV;simp
def MF(ms:aF)(flat:LN):((jq ms flat).map (·.1)).Nodup:=apB (Fw ms (gu flat)) (Fv flat)
def aiM(ms:aF)(flat:LN):(jq ms flat).length<=flat.length:=by
 have h1:=(Fw ms (gu flat)).length_le;have h2:=Mj flat;rw[aA,aA] at h1;unfold jq;omega
def U6(h:p∈jq ms flat):p.1∈flat:=by
 have h1:p.1∈(jq ms flat).map (·.1):=cf.mpr ⟨p,h,rfl⟩;have h2:=(Fw ms (gu flat)).subset h1;obtain⟨q,hq,e⟩:=cf.mp h2;rw[<-e];exact Us hq
def aiN(h:wu ms):BY ms Ĩ:=⟨by have:=h.dc;omega,λs hs=>by
 unfold aZ at hs;simpa using (j8.mp hs).1,h.pos⟩
section
variable{P:Pg}{w:Wd}{K:FR}{mg:MG}{base:Heap}{CK CL CS N CV CP:Addr}{C:Cs}
def oY:bH ["kinds","rows","lacks","row","sames","number","kind","stands","plan"] ["kinds","rows"] (aV J9):=cw
inductive DsI(CP D3:Addr)(p:gw)(H6:Hp)(y z:cb)(r0:bp×hZ)(i:Nat)(H7:Hp):Prop
 |mk (p2:gw) (zs:List cV) (r2:bp×hZ) (_:uQ p.a p.gp H6 H7) (_:mq CP H7 p2) (_:p2.a=p.a) (_:p2.gp=p.gp) (_:p2.sames=p.sames) (_:sW H6 p p2) (_:Apart D3 p2) (_:H7 D3=some (.lst (zs.map λx=>V.ref x.a))) (_:zs.length=i) (_:(∀x∈zs,H7 x.a=some Ź/\Apart x.a p2/\H6 x.a=none/\x.a≠D3)) (_:mr p.sames p2.st ((mv y.m z.m).drop i)=some r2) (_:zs.map cV.ns++r2.1=r0.1)
def aiP(F:br K "display_told" "display_told" J9 f fd)(T:sD K CK)(TP:lg K CP ["sames","gaps","spares"])(Mp:mg "list"=none)(tE:mg "enumerate"=none)(tN:mg "min"=none)(cS:Cn mg "SAME" ŝ)(dL:Ç 1 "copies_lacking" ["kinds","rows"] (Ut CK)) (dA:Ç 2 "sames_along" ["kinds","sames","row"] (Md CK)) (dP:Ç 1 "places_of" ["rows","stands"] Uz)(dO:Ç 3 "plan_of" ["kinds","sames","lacks","places"] (UL CK CP)) (dH:Ç 3 "hoist_told" ["plan","row","stands"] (MB CP)):Ì aE 4 f fd ["kinds","rows"] (FP CK):=by
 refine F.ok oY Â;obtain⟨pk,ks,y,r,rfl,hk,FQ,hy,gc,o4,k1,k2⟩:=h;refine⟨_,aB (cj 2 oY.nd (bz dL (ae Û Œ)))
  (aB (dq (cI (adv hr.units) è DT (bT _)) (aD (aY (eF (own:=[("row",3)]) (te:=qH (λxs H Q=>∃p ys,xs=[.ref p]/\(â p ys\/bu K H p ys)/\∀l,H l=none->Q Äw (ϙ Âf)) Âs) rfl oY.nd Æp Ë
   (λ_ _ _ _ _=>dJ 3 oY.nd) Ø (λ_ _ _ _ _=>xb aaC Õ Mp UM ĳ)))) d7)
  (aB (cj 4 oY.nd (eF (own:=[("number",5),("kind",6)]) (g:=g2 K 5 6) (tt:=ng (bU ox (gi K (ay 6) "role") Åb)) (te:=ay 5) rfl oY.nd
   (Ân) Ë
   (λ_ _ _ _ _=>iE 5 6 oY.nd)
   (λ_ _ _ _ _=>pL (cI ic (bg Ãl rfl) Æv (bT _))) (λ_ _ _ _ _=>pv 5)))
  (aB (cj 7 oY.nd (eF (own:=[("row",3)]) (te:=g9 (Md CK) [] E0 (bh ό (bh Ãp Âs))) rfl oY.nd Æp Ë
   (λ_ _ _ _ _=>dJ 3 oY.nd) Ø (λ_ _ _ _ _=>bz dA (ae Û (ae Ĳ ĳ)))))
  (aB (cj 8 oY.nd (bz dO (ae Û (ae Ĳ (ae è (ae (bz dP (ae á (ae Ål ag))) ag))))))
  (aB (dq (cI w6 (c8 (Qw rfl) Õ tN UY (ae (bg (pv 8) rfl) ag)) bo (bT _)) ŷ d7)
  (aD (aY (eF (own:=[("number",5),("row",3)]) (g:=g2 K 5 3) (te:=g9 (MB CP) [] E0 (bh (ay 8) (bh Ŗ (bh (bU ϋ Èm (ay 5)) dw)))) rfl oY.nd
   (kY Õ tE Œ) Ë
   (λ_ _ _ _ _=>iE 5 3 oY.nd) Ø
   (λ_ _ _ _ _=>bz dH (ae (pv 8) (ae ø (ae (cA cY Ål Äd Ù) ag)))))))))))),?_⟩
 have qm:=jG hy.l;have U7:=hy.dc;refine⟨_,rfl,_,rfl,pk,ks,y,rfl,hk,hy,λH1 pl nL=>?_⟩;have s1:=nL.1;have c9:=nL.2.2;have aiQ:=o4;unfold nZ at o4;have zO:=MF Í y.m.flatten;have UN:=aiM Í y.m.flatten;have qh:∀p∈jq Í y.m.flatten,p.1∈y.m.flatten:=λp hp=>U6 hp;have hG:Cj Í y.m=nV (2^(aZ Í).length) Äh (iP (eU y.m (fJ Í y.m))):=rfl;generalize jq Í y.m.flatten=lacks at c9 o4 zO UN qh hG;refine⟨_,rfl,λe he=>⟨pl,e,_,rfl,rfl,(Çx) _ _ c9,aq,_,rfl,a8 Ï Ï⟩⟩
 ·have hc:lacks=[]:=by
   cases lacks with
   |nil=>rfl
   |cons a b=>exact absurd hc (by unfold bx;simp)
  rw[af hc] at o4;have s2:ai H (upd H1 e ϲ):=s1.trans Çx;generalize upd H1 e ϲ=H2 at s2;refine⟨_,rfl,y.a,rfl,⟨_,aa.of (s2 _ _ qm)⟩,λD hD=>gC (K:=K) (a:=y.a) (xs:=y.ls.map λx=>V.ref x.a) (jo H2 D λi=>y.m.getD i []) Ċ (λi H' _ f=>aa.of (f.same _ _ (s2 _ _ qm))) (λi v H' hi f=>?_) û⟩
  ·obtain⟨x,hx,rfl⟩:=iz hi;have gv:=bZ hx;have d8:=(bO.mp hx).1;exact⟨rfl,eO ⟨_,rfl,x.a,_,rfl,.inl (aa.of (f.same _ _ (s2 _ _ (mj hy.l gv)))),λl hl=>(jo.step hD Æ f (aL hl) hl (by rw[aq,BW hx]))⟩⟩
  ·obtain⟨z,rfl,s3,em,l1,fr⟩:=jo.end hD f;refine k1 _ (aN o4).symm H' z Į ?_ l1 (i8.back fr s2);rw[em,aA];have:=wk (l:=y.m) (g:=λx=>x) (d:=[]);rw[iA,List.map_id'] at this;exact this
 ·have hc:¬lacks=[]:=λz=>hc (by rw[z];rfl);rw[ah hc] at o4;have s2:ai H (upd H1 e ϲ):=s1.trans Çx;have U8:=(aL (o:=.dK []) he) _ _ c9;generalize upd H1 e ϲ=H2 at s2 U8;have wa:=hk.same s2;have hkf:=hk.dc;refine⟨_,rfl,pk,_,rfl,aa.of wa.a,λD hD=>lI (K:=K) (a:=pk) (xs:=ks.map λk=>V.ref k.a) (lL H2 D λi=>decide (((ks.map az.m).getD i fk).role=1)) (lL.zero hD) (λi H' _ f=>aa.of (f.1 _ _ wa.a)) Ák Æc⟩
  ·obtain⟨b,hb,rfl⟩:=iz hi;have d8:=(bO.mp hb).1;have s3:ai H' (Ϟ (.tup [.int (i:Nat),.ref b.a])):=aL hT;refine æ;refine⟨_,rfl,bj (jn ((nH wa.l Çv).same (f.1.trans s3))) T.c T.vV (vU b) Ģ⟩;rw[show V.int 1=V.int ((1:Nat):Int) from rfl,lW];refine a8 Ï Ï
   ·exact⟨_,rfl,f.yes hD Æ s3 (by rw[getD_map hb];exact hc)⟩
   ·exact f.no s3 (by rw[getD_map hb];exact hc)
  ·have gr:H3 D=some (.lst (iv (nv (aZ Í)))):=by
    have:=f.2;rw[aA] at this;unfold aZ;rw[aA];exact this
   have s3:=s2.trans f.1;have aiS:=f.1 _ _ U8;have hk3:=hk.same s3;have U9:=aiN FQ;refine⟨_,rfl,y.a,rfl,⟨_,aa.of (s3 _ _ qm)⟩,λD2 cJ=>gC (K:=K) (a:=y.a) (xs:=y.ls.map λx=>V.ref x.a) (jo H3 D2 λi=>ql Í (aZ Í) Çh) Ão (λi H' _ f=>aa.of (f.same _ _ (s3 _ _ qm))) (λi v H' hi f2=>?_) (λH4 f2=>?_)⟩
   ·obtain⟨x,hx,rfl⟩:=iz hi;have gv:=bZ hx;have d8:=(bO.mp hx).1;exact⟨rfl,eO ⟨_,rfl,_,rfl,_,rfl,pk,D,x.a,ks,aZ Í,x.ns,rfl,hk3.same f2.same,f2.same _ _ gr,U9,f2.same _ _ (s3 _ _ (mj hy.l gv)),hy.short x gv,λH5 q n5=>(jo.step cJ Æ f2 n5.1 n5.2.1 (by rw[BW hx];exact n5.2.2))⟩⟩
   ·obtain⟨z,rfl,s4,em,l4,fr4⟩:=jo.end cJ f2;have mw:z.m=fJ Í y.m:=by
     rw[em,aA];have:=wk (l:=y.m) (g:=ql Í (aZ Í)) (d:=[]);rw[iA] at this;exact this
    have qL:y.ls.length=z.ls.length:=by rw[<-iA,<-iA,mw];exact U5 _ _
    have Va:∀(i:Nat)(a b:cV),y.ls[i]? =some a->z.ls[i]? =some b->a.ns.length=b.ns.length:=λi a b h1 h2=>ME Í y.m i a.ns b.ns (by unfold cb.m;rw[bW,h1];rfl) (by rw[<-mw];unfold cb.m;rw[bW,h2];rfl);have LY:=U4 y.m z.m (by rw[iA,iA];exact qL) (by rw[mw];exact ME _ _);have aqC:(eU y.m z.m).length<=1000:=by
     have:=cE List.length LY;rw[aA] at this;omega
    have s5:=s3.trans s4;have aiU:=s4 _ _ gr;have Vb:=s4 _ _ aiS;refine⟨_,rfl,_,rfl,_,rfl,_,rfl,_,rfl,y,z,rfl,aU.same hy.l s5,l4,qL,Va,by omega,λH5 pp t s6 x3 tb et=>?_⟩;have s7:=s5.trans s6;have Mq:∀p∈t,p.2.ns.length<=1000:=λp hp=>by
     obtain⟨i,hi,ei⟩:=rM hp;have h1:cont p∈iP Æq:=by rw[<-et];exact cf.mpr ⟨p,hp,rfl⟩
     have h2:=zb (aiK Æq) (s:=p.1) (v:=p.2.ns) h1;have:=Ux _ h2;omega
    have hJ:∀p∈lacks,(bY t p.1).isSome=true:=λp hp=>by
     have h1:=zL t p.1;rw[et] at h1;have h2:=aiJ Æq p.1;rw[h1,LY,Df] at h2;rw[h2];simpa using qh p hp
    have aiV:pp≠pl:=λe=>by rw[e,Vb] at x3;cases x3
    refine⟨pk,D,pl,pp,ks,aZ Í,lacks,t,rfl,hk.same s7,s6 _ _ aiU,U9,FQ.dc,s6 _ _ Vb,zO,by omega,tb.d,tb.l,Mq,hJ,aiV,λH6 p s8 ok zm FG aQ aqD jX FS iZ=>?_⟩;have s9:=s7.trans s8;have Vc:p.st=oX Í y.m:=by
     unfold gw.st oX;rw[iZ,FS,hG,et,mw]
    have aiW:p.fG.length=2^(aZ Í).length:=by
     rw[iZ];exact UJ _ _ _ (by rw[aA,g7])
    have h2k:2^(aZ Í).length<=1024:=Hj Ú FQ.dc;have h2p:0<2^(aZ Í).length:=Nat.pow_pos Ú;have nO:p.eC.length=lacks.length:=by
     have:=cE List.length FS;unfold nV at this;rw[aA,aA] at this;exact this
    have Al:mq CP H6 p:=⟨ok,aQ,λq hq=>by rw[aiW];exact UK (p:=gK q) (by rw[<-FS];exact cf.mpr ⟨q,hq,rfl⟩),by omega,by omega,by omega,by rw[<-Mv,FS,aiL];exact zO,by rw[jX];exact FQ.dc⟩;have RP:p.fG=(oX Í y.m).2:=cE Prod.snd Vc;rw[<-RP] at o4;refine⟨_,rfl,bj ok.a TP.1 (TP.2 _ Ä) (UI p) ⟨p.sp,p.fG,rfl,aa.of ok.sp,by omega,λm hm j7=>⟨_,_,rfl,rfl,_,rfl,a8 Ãu Ãu⟩⟩⟩
    ·simp at iL;rw[af (vb.mpr ⟨m,hm,eJ iL⟩)] at o4;exact k2 (aN o4).symm H6 s9
    ·simp at iL;rw[ah (λe=>by
      obtain⟨z',Dr,h2⟩:=vb.mp e;have:=rN h2;have:=j7 z' Dr;omega)] at o4
     rw[<-Vc,<-jX,<-mw] at o4;obtain⟨r0,sX,er⟩:=yq.mp o4;have k3:=k1 r0.1 er.symm;clear o4 aiQ k1 k2;have FT:=s9 _ _ qm;have Vd:=l4.same (s6.trans s8);have aiX:=jG Vd;have aiY:=aU.same hy.l s9;have FU:∀b o,H6 b=some Çe->b≠p.a/\b≠p.gp:=λb o e=>⟨λz=>(by rw[z,ok.a] at e;cases e),λz=>(by rw[z,ok.gp] at e;cases e)⟩;refine⟨_,rfl,y.a,_,rfl,aa.of FT,λD3 rq=>?_⟩;have Ce:=apart_new ok rq;refine lI (K:=K) (a:=y.a) (xs:=y.ls.map λx=>V.ref x.a) (DsI CP D3 p H6 y z r0)
      ⟨p,[],r0,ai.x (aL rq),Al.upd Ce,rfl,rfl,rfl,sW.refl,Ce,aq,rfl,by simp,sX,rfl⟩ (λi H7 _ h=>(by obtain⟨p2,zs,r2,sx⟩:=h;exact aa.of (sx _ _ FT (FU _ _ FT).1 (FU _ _ FT).2))) ?_ ?_
     ·rintro i v Tt H7 hi ⟨p2,zs,r2,sx,g2,ea,eg,es,ow,ap,MH,MI,x6,hh,wt⟩ hT;obtain⟨x,hx,rfl⟩:=iz hi;have d8:=(bO.mp hx).1;obtain⟨u,hu⟩:∃u,z.ls[i]? =some u:=⟨_,dm Æ⟩;have gv:=bZ hx;have hum:=bZ hu;have Tf:=mj aiY gv;have hu6:=mj Vd hum;have gU:(mv y.m z.m)[i]? =some (x.ns.zip u.ns):=by
       unfold mv cb.m;rw[bW,(Hk (i:=i) (l₁:=y.ls.map cV.ns) (l₂:=z.ls.map cV.ns) (z:=(x.ns,u.ns))).mpr ⟨by rw[bW,hx];rfl,by rw[bW,hu];rfl⟩];rfl
      rw[zM gU] at hh;unfold mr at hh;cases e1:nY p.sames p2.st (x.ns.zip u.ns) with
      |none=>rw[e1] at hh;cases hh
      |some y1=>
       rw[e1] at hh;dsimp only at hh;cases e2:mr p.sames y1.2 ((mv y.m z.m).drop (i+1)) with
       |none=>rw[e2] at hh;cases hh
       |some y2=>
        rw[e2] at hh;have hh:=aN hh;subst hh;have t1:ai H7 (upd H7 Tt (.tup [.int (i:Nat),.ref x.a])):=aL hT;refine Þ;generalize hHx:upd H7 Tt (.tup [.int (i:Nat),.ref x.a])=Hx at t1;have kept:∀b o,H6 b=some Çe->Hx b=some Çe:=λb o e=>t1 _ _ (sx _ _ e (FU _ _ e).1 (FU _ _ e).2);refine⟨_,rfl,_,rfl,_,rfl,_,rfl,z.a,_,_,.ref u.a,rfl,rfl,aa.of (kept _ _ aiX),fT (by rw[bW,hu];rfl),p2,x,u,y1,by rw[ea];rfl,g2.same t1,λq hq=>?_,λq hq=>?_,Va i x u hx hu,hy.short x gv,by rw[es];exact e1,λH8 p3 q g3 zT zU MD U3 zV zW MJ ai1 ai2=>?_⟩
        ·simp only[lsN,ba,mY,mZ] at hq;subst hq;exact kept _ _ Tf
        ·simp only[lsN,ba,mY,mZ] at hq;subst hq;exact kept _ _ hu6
        ·have Cf:=t1 _ _ MH;have FV:=zV _ _ Cf ap.1 ap.2.1;have Cg:=MA ap zT zU zW (by rw[Cf];exact λz=>by cases z);have Ve:q≠D3:=λe=>by rw[e,Cf] at MJ;cases MJ
         have Vf:∀a,Hx a=none->H6 a=none:=λa h=>by
          cases e:H6 a with
          |none=>rfl
          |some o=>
           exfalso;have hn:=t1.free h;by_cases h1:a=p.a
           ·rw[h1,<-ea,g2.ok.a] at hn;cases hn
           ·by_cases h2:a=p.gp
            ·rw[h2,<-eg,g2.ok.gp] at hn;cases hn
            ·rw[sx a o e h1 h2] at hn;cases hn
         refine⟨_,FV,by rw[aA];exact gV Æ,p3,zs++[⟨q,y1.1⟩],y2,λb o e h1 h2=>?_,g3.upd Cg,zT.trans ea,zU.trans eg,MD.trans es,λa ha=>?_,Cg,?_,by rw[mU,MI];rfl,λw hw=>?_,by rw[U3];exact e2,?_⟩
         ·rw[ao (eK e rq)];exact zV _ _ (t1 _ _ (sx b o e h1 h2)) (by rw[ea];exact h1) (by rw[eg];exact h2)
         ·exact(zW a ha).elim (ow a) λh=>.inr (Vf a h)
         ·rw[aq,bX];rfl
         ·rcases gR.mp hw with hw|hw
          ·obtain⟨w1,w2,w3,w5⟩:=x6 w hw;have w4:=t1 _ _ w1;refine⟨?_,MA w2 zT zU zW (by rw[w4];exact λz=>by cases z),w3,w5⟩;rw[ao w5];exact zV _ _ w4 w2.1 w2.2.1
          ·have:w=⟨q,y1.1⟩:=by simpa using hw
           subst this;refine⟨?_,ai2,Vf _ MJ,Ve⟩;rw[ao Ve];exact ai1
         ·rw[bX,rO];exact wt
     ·rintro H7 ⟨p2,zs,r2,sx,g2,ea,eg,es,ow,ap,MH,MI,x6,hh,wt⟩;rw[aA] at MI hh;rw[Yn (by unfold mv;rw[aA,List.length_zip,iA];omega)] at hh;cases hh;rw[jv] at wt;have sF:=λb o e=>sx b o (s9 _ _ e) (λz=>(by rw[z,s7.free zm] at e;cases e)) (λz=>(by rw[z,s7.free FG] at e;cases e));refine k3 H7 ⟨D3,zs⟩ sF wt (Uk MH λx hx q hq=>?_) (BU (s9.free rq) λx hx q hq=>?_)
      ·simp only[lsN,ba,mY,mZ] at hq;subst hq;exact(x6 x hx).1
      ·simp only[lsN,ba,mY,mZ] at hq;subst hq;exact s9.free (x6 x hx).2.2.1
end
def sY(part:LI):Bool:=!(decide (part.length>64)||(JM.aI 32 part).contains [])&&part.all λb=>decide (32<=b)&&decide (b<=126)
inductive Vg(K:FR)(CB:Addr)(vs:au)(H:Hp)(Q:VK)(E:XK):Prop
 |mk (ap:Addr) (part:LI) (_:vs=[.ref ap]) (_:â ap Ây) (_:part.length<=100000) (_:(sY part=true->∀H',ai H H'->Q Èr H')) (_:(sY part=false->No E CB H))
theorem Vh{K:FR}{H:Hp}:∀{qs:LA}{L:di},eB H qs L->i3 K H Äc (L.map λl=>PyData.list (l.map PyData.int)):=by
 intro qs L h0;induction h0 with
 |nil=>exact .nil
 |cons h t ih=>
  exact .cons (.lst (aa.of h) (qQ _)) ih
theorem any_empty(L:di):((L.map λl=>PyData.list (l.map PyData.int)).any λd=>PyData.eqv d (.list []))=L.contains []:=by
 induction L with
 |nil=>rfl
 |cons l L ih=>
  rw[a0,tY,ih,Am];congr 1;cases l <;> rfl
section
variable{P:Pg}{w:Wd}{K:FR}{mg:MG}{base:Heap}{CK CL CS N CV CP CB:Addr}{C:Cs}
def MK:bH ["part","byte"] ["part"] (aV Kq):=cw
def ai3{f:Addr}{fd:FD}(F:br K "read_meaning" "read_meaning" Kq f fd)(tL:mg "len"=none)(tA:mg "all"=none)(X:ž "NoBook" CB N)(cM:Cn mg "LONGEST_MEANING" (.int 64))(cB:Cn mg "BLANK" Åx)(cP:Cn mg "LAST_PRINTED" (.int 126))(dC:Ç 1 "cut" ["text","mark"] (vP K)):Ì ė 2 f fd ["part"] (Vg K CB):=by
 refine F.qO MK Â;obtain⟨ap,part,rfl,hP,hl,k1,k2⟩:=h;refine⟨_,aB (dq (PW.pt (pw_or (cI vt Ć (b9 cM) (bT _)) (pw_or1 (cI (IU (pz (X9 Ú _) hr.un)) Ĵ (bz dC (ae Û ϭ)) (by with_unfolding_all rfl))))) Ð d7)
  (aB (dq (pG (jx (c8 Äs Õ tA yt (ae (eF (own:=[("byte",1)]) (te:=HU (gf λi j=>.bl (decide (i<=j))) (gf λi j=>.bl (decide (i<=j))) (tC Åx) ϕ (tC (.int 126))) rfl MK.nd Åg Ë
   (λ_ _ _ _ _=>dJ 1 MK.nd) Ø (λ_ _ _ _ _=>PY w8 w8 (b9 cB) á (b9 cP))) ag)))) Ð d7)
  (aD (aY Û))),?_⟩
 have em:sY part=(!(decide (part.length>64)||(JM.aI 32 part).contains [])&&part.all λb=>decide (32<=b)&&decide (b<=126)):=rfl;refine⟨_,rfl,ap,_,rfl,.inl hP,_,_,rfl,rfl,_,rfl,a8 Ï Ï⟩
 ·have hc:part.length>64:=by
   grind
  refine kZ (gJ (k2 ?_));simp_all
 ·have hc:¬part.length>64:=by
   grind
  refine⟨dY _,λl uw=>⟨_,rfl,ap,32,part,rfl,L2.ai.seq (aL uw) hP,hl,λH2 p qs nw qf nd aQ fr=>?_⟩⟩;have s1:ai H (ϙ ã):=aL uw;have s2:=s1.trans nw.1;have ji:=nw.1 _ _ aq;refine⟨p,_,_,.list [],rfl,aa.of nw.2.2,Vh qf,.lst (aa.of ji) .nil,λd hd=>?_,rfl,_,rfl,?_⟩
  ·obtain⟨x,_,rfl⟩:=cf.mp hd;exact shaped_ints x
  rw[any_empty];refine a8 Ãu Ãu
  ·refine gJ ((k2 ?_).go s2);simp_all
  ·have e1:sY part=part.all λb=>decide (32<=b)&&decide (b<=126):=by
    simp_all
   refine⟨_,rfl,ap,rfl,⟨_,s2.seq hP⟩,λD hD=>gC (K:=K) (a:=ap) (xs:=iv part) (cy H2 D λi v ns=>ns=[]/\∀b,part[i]? =some b->v=.bl (decide (32<=b)&&decide (b<=126))) Ċ (λi H' _ f=>(s2.trans f.same).seq hP) č û⟩
   ·obtain⟨z,hz,rfl⟩:=sy hi;have d8:=(bO.mp hz).1;refine⟨rfl,eO ⟨_,rfl,_,_,rfl,rfl,_,rfl,a8 Š Š⟩⟩
    ·refine Ãe;refine f.step hD Æ Ĺ ⟨rfl,λb hb=>?_⟩ aU.nil Ä;simp_all
    ·refine f.step hD Æ Ĺ ⟨rfl,λb hb=>?_⟩ aU.nil Ä;grind
   ·obtain⟨ys,s3,pX,Fd,fl⟩:=f.end;rw[eZ] at Fd;have ey:ys=(part.map λb=>decide (32<=b)&&decide (b<=126)).map V.bl:=by
     rw[cQ];refine uG Fd λi y x h1 h2=>?_;obtain⟨ns,⟨_,e⟩,_⟩:=fl i y h1;simp_all
    refine⟨D,part.map λb=>decide (32<=b)&&decide (b<=126),rfl,by rw[<-ey];exact aa.of pX,_,rfl,?_⟩;rw[rL];have e2:part.all (id∘ λb=>decide (32<=b)&&decide (b<=126))=sY part:=by rw[e1];rfl
    rw[e2];refine a8 (λhc3=>?_) (λhc3=>?_)
    ·exact gJ ((k2 É).go Į)
    ·exact⟨_,rfl,k1 É H' Į⟩
end
abbrev keyOf(name:LI):dZ:=name.map Sum.inl
def Vi(name:LI):iv name=(keyOf name).map kV:=by
 unfold iv keyOf;rw[cQ];rfl
theorem ai5(h:keyOf a=keyOf b):a=b:=by
 induction a generalizing b with
 |nil=>
  simp_all
 |cons x a ih=>
  cases b with
  |nil=>cases h
  |cons y b=>
   grind
def jH(ms:aF)(i:Nat):Bool:=decide ((ms.getD i fk).role=0)
def sZ(ms:aF)(n:Nat):List (LI×Nat):=((List.range n).filter (jH ms)).map λj=>((ms.getD j fk).name,j)
def jI(ms:aF)(name:LI):Option Nat:=(sZ ms ms.length).foldl (λacc p=>if p.1=name then some p.2 else acc) none
def x8(ms:aF):List (dZ×V):=(sZ ms ms.length).foldl (λacc p=>putK acc (keyOf p.1) (V.int ((p.2:Nat):Int))) []
def ai6(ms:aF)(name:LI):fW (x8 ms) (keyOf name)=(jI ms name).map λn=>V.int ((n:Nat):Int):=by
 unfold x8 jI;have gen:∀(l:List (LI×Nat))(kvs:List (dZ×V))(acc:Option Nat),fW kvs (keyOf name)=acc.map (λn=>V.int ((n:Nat):Int))->
   fW (l.foldl (λacc p=>putK acc (keyOf p.1) (V.int ((p.2:Nat):Int))) kvs) (keyOf name)=(l.foldl (λacc p=>if p.1=name then some p.2 else acc) acc).map λn=>V.int ((n:Nat):Int):=by
  intro l;induction l with
  |nil=>intro kvs acc h;exact h
  |cons p l ih=>
   intro kvs acc h;rw[Hl,Hl];refine ih _ _ ?_;rw[abt];by_cases e:p.1=name
   ·rw[af e,af (by rw[e])];rfl
   ·rw[ah e,ah (λz=>e (ai5 z).symm)];exact h
 exact gen _ [] none rfl
def Vj(ms:aF)(i:Nat):sZ ms (i+1)=sZ ms i++(if jH ms i=true then [((ms.getD i fk).name,i)] else []):=by
 unfold sZ;rw[BV,bX];grind
inductive Vk(CK:Addr)(vs:au)(H:Hp)(Q:VK)(E':XK):Prop
 |mk (pk:Addr) (ks:List az) (_:vs=[.ref pk]) (_:Ŭ ks) (_:∀H' p,ϟ (.dT (x8 Í))->Q ĥ H')
section
variable{P:Pg}{w:Wd}{K:FR}{mg:MG}{base:Heap}{CK CL CS N CV CP CB:Addr}{C:Cs}
def ML:bH ["kinds","number","kind"] ["kinds"] (aV Kl):=cw
abbrev Vl(K:FR):au->Hp->VK->Prop:=λxs H Q=>∃p ys,xs=[.ref p]/\((â p ys/\∀l,H l=none->Q Äw (ϙ Åw))\/(Ť p ys/\Q ĥ H))
inductive NoI(D:Addr)(H:Hp)(ks:List az)(i:Nat)(H2:Hp):Prop
 |mk (ps:LA) (ts:List (dZ×Addr×V)) (_:ai H H2) (_:H2 D=some (.lst Áy)) (_:ps.length<=i) (_:Paired (λp(t:dZ×Addr×V)=>H2 p=some (.tup [.ref t.2.1,t.2.2])/\H2 t.2.1=some (.tup (t.1.map kV))) ps ts) (_:ts.map (λt=>(t.1,t.2.2))=(sZ Í i).map λp=>(keyOf p.1,V.int ((p.2:Nat):Int)))
def ai8(F:br K "numbers_of_signs" "numbers_of_signs" Kl f fd)(T:sD K CK)(tD:mg "dict"=none)(tT:mg "tuple"=none)(tE:mg "enumerate"=none)(cS:Cn mg "SIGN" ŉ):Ì aE 1 f fd ["kinds"] (Vk CK):=by
 refine F.ok ML Â;obtain⟨pk,ks,rfl,hk,k⟩:=h;have hkf:=hk.dc;refine⟨_,aD (aY (xb (adG (pz (X9 Ú _) hr.un) rfl) Õ tD Uu (ae (eF (own:=[("number",1),("kind",2)]) (g:=g2 K 1 2) (tt:=ng (bU ox (gi K ŗ "role") Äa))
   (te:=w9 (bh (qH (Vl K) (bh (gi K ŗ "name") dw)) (bh ϕ dw))) rfl ML.nd
   (Ân) Ë
   (λ_ _ _ _ _=>iE 1 2 ML.nd)
   (λ_ _ _ _ _=>pL (cI ic Àk Æv (bT _)))
   (λ_ _ _ _ _=>ue (ae (xb Qm Õ tT boot_tuple Çw) Œ))) ag))),?_⟩
 refine⟨_,rfl,pk,_,rfl,aa.of hk.a,λD hD=>lI (K:=K) (a:=pk) (xs:=ks.map λk=>V.ref k.a) (NoI D H ks)
  ⟨[],[],aL hD,aq,bJ _,.nil,rfl⟩ (λi H2 _ h=>(by obtain⟨_,_,s1⟩:=h;exact aa.of (s1 _ _ hk.a))) ?_ ?_⟩
 ·rintro i v Tt H2 hi ⟨ps,ts,s1,cJ,c9,gU,qo⟩ hT;obtain⟨b,hb,rfl⟩:=iz hi;have d8:=(bO.mp hb).1;have s2:ai H2 (upd H2 Tt (.tup [.int (i:Nat),.ref b.a])):=aL hT;have s3:=s1.trans s2;have jW:=(nH hk.l Çv).same s3;have eb:(ks.map az.m).getD i fk=b.m:=getD_map hb;refine æ;refine⟨_,rfl,bj (jn jW) T.c T.vV (vU b) Ģ⟩;rw[show V.int 0=V.int ((0:Nat):Int) from rfl,lW];generalize hHx:upd H2 Tt (.tup [.int (i:Nat),.ref b.a])=Hx at s2 s3 jW;refine a8 Ï Ï
  ·refine⟨_,rfl,bj (jn jW) T.c T.nName (S9 b) ⟨b.nm,_,rfl,.inl ⟨aa.of (Tp jW),λl hl=>⟨_,rfl,(by show 2<=sizeLine;decide),λt ht=>?_⟩⟩⟩⟩;have s4:=aL (o:=.tup (iv b.m.name)) hl;have s5:=s2.trans (s4.trans (aL (o:=.tup [.ref l,.int (i:Nat)]) ht));have bQ:l≠t:=λz=>by rw[<-z,aq] at ht;cases ht
   have B4:=s2.free (s4.free ht);have hDl:l≠D:=λz=>by rw[z,s2 _ _ cJ] at hl;cases hl
   have Mn:t≠D:=λz=>by rw[z,cJ] at B4;cases B4
   refine⟨_,s5 _ _ cJ,by rw[aA];exact gV Æ,ps++[t],ts++[(keyOf b.m.name,l,V.int ((i:Nat):Int))],qR (s1.trans s5) hD,?_,?_,?_,?_⟩
   ·rw[aq,bX];rfl
   ·simp_all
   ·refine Paired.snoc (Paired.lS gU λp t' e=>Áj) Áj
    ·rw[ao (λz=>by simp_all)];exact s5 _ _ e.1
    ·rw[ao (λz=>by simp_all)];exact s5 _ _ e.2
    ·rw[ao Mn];exact aq
    ·rw[ao hDl,ao bQ,aq,Vi]
   ·rw[bX,qo,Vj,af (show jH Í i=true by unfold jH;rw[eb];exact hc),bX,eb];rfl
  ·refine⟨ps,ts,s1.trans s2,s2 _ _ cJ,Nat.le_succ_of_le c9,Paired.lS gU λp t e=>⟨s2 _ _ e.1,s2 _ _ e.2⟩,?_⟩;rw[qo,Vj,ah (show ¬jH Í i=true by unfold jH;rw[eb];exact hc),jv]
 ·rintro H2 ⟨ps,ts,s1,cJ,c9,gU,qo⟩;rw[aA] at qo;refine⟨D,ps,ts,rfl,aa.of cJ,gU,λp hp=>?_⟩;refine k _ p ⟨s1.trans (aL hp),s1.free hp,?_⟩;rw[aq];have em:qS [] ts=x8 Í:=by
   have e1:qS [] ts=(ts.map λt=>(t.1,t.2.2)).foldl (λacc p=>putK acc p.1 p.2) []:=by
    unfold qS;rw[List.foldl_map]
   rw[e1,qo,List.foldl_map];unfold x8;simp
  rw[em]
end
def oV:Option Nat->V
 |none=>.aJ
 |some n=>.int ((n:Nat):Int)
def o5(ms:aF)(part:LI):List (Option Nat):=(JM.aI 46 part).map (jI ms)
def wx(ms:aF)(part:LI):Option LN:=if (o5 ms part).length>8\/(o5 ms part).contains none=true then none else some ((o5 ms part).map λo=>o.getD 0)
inductive Vm(K:FR)(CB:Addr)(vs:au)(H:Hp)(Q:VK)(E:XK):Prop
 |mk (ap pn:Addr) (ms:aF) (part:LI) (_:vs=[.ref ap,.ref pn]) (_:â ap Ây) (_:part.length<=100000) (_:H pn=some (.dT (x8 ms))) (_:(∀row,wx ms part=some row->∀H' p,ϟ Ãs->Q ĥ H')) (_:(wx ms part=none->No E CB H))
def aja(l:List (Option Nat)):(l.map oV).all lG=true:=by
 rw[rL];exact lx.mpr λo _=>by cases o <;> rfl
theorem ajb(l:List (Option Nat)):vx .aJ (l.map oV)=l.contains none:=by
 unfold vx;rw[OP];induction l with
 |nil=>rfl
 |cons o l ih=>
  rw[tY,Am,ih];congr 1;cases o <;> rfl
section
variable{P:Pg}{w:Wd}{K:FR}{mg:MG}{base:Heap}{CK CL CS N CV CP CB:Addr}{C:Cs}
def MM:bH ["part","numbers","row","name"] ["part","numbers"] (aV Ko):=cw
def ajc(F:br K "read_signs" "read_signs" Ko f fd)(tL:mg "len"=none)(tT:mg "tuple"=none)(X:ž "NoBook" CB N)(cF:Cn mg "MOST_FLAGS" (.int 8))(cS:Cn mg "FULL_STOP" (.int 46))(dC:Ç 1 "cut" ["text","mark"] (vP K)):Ì ė 2 f fd ["part","numbers"] (Vm K CB):=by
 refine F.qO MM Â;obtain⟨ap,pn,ms,part,rfl,hP,hl,MN,k1,k2⟩:=h;have hu:A.units+3+1<cLine:=pz Ä hr.un;refine⟨_,aB (uk (i:=2) (own:=[("name",3)]) (te:=QW ϕ (qH (Vl K) Âs)) rfl MM.nd rfl rfl Õ (eX (bz dC (ae Û (ae Æv ag)))) Ë
   (λ_ _ _ _ _=>dJ 3 MM.nd) Ø (λ_ _ _ _ _=>abK hu á (xb Qm Õ tT boot_tuple ĳ) ⟨rfl,rfl,rfl,rfl⟩))
  (aB (dq (PW.pt (pw_or (cI vt ü (b9 cF) (bT _)) (pw_or1 (cI Ig qC è (by with_unfolding_all rfl))))) Ð d7)
  Æw),?_⟩
 refine⟨_,rfl,ap,46,part,rfl,hP,hl,λH1 p qs nw qf nd aQ fr=>⟨p,rfl,⟨_,aa.of nw.2.2⟩,λD hD=>gC (K:=K) (a:=p) (xs:=qs.map V.ref) (cy H1 D λi v ns=>ns=[]/\∀x,(JM.aI 46 part)[i]? =some x->v=oV (jI ms x)) Ċ (λi H' _ f=>aa.of (f.same _ _ nw.2.2)) č û⟩⟩
 ·rw[bW] at hi;cases eq:qs[i]? with
  |none=>simp_all
  |some q=>
   rw[eq] at hi;cases hi;obtain⟨x,hx,hq⟩:=eB.get qf eq;have d8:=(bO.mp eq).1;have gH:=EF 46 part;have wb:=qf.len;have Vn:=f.same _ _ (nw.1 _ _ MN);refine⟨rfl,eO ⟨_,rfl,pn,rfl,.inr ⟨_,.inl Vn⟩,_,rfl,q,_,rfl,.inl ⟨aa.of (f.same _ _ hq),λl uw=>⟨_,jO.t (k:=keyOf x) ((aL uw) _ _ Vn) (by rw[aq,Vi]),?_⟩⟩⟩⟩;rw[ai6];refine f.step hD Æ (aL uw) ⟨rfl,λx' vD=>?_⟩ aU.nil Ä;rw[hx] at vD;cases vD;cases jI ms x <;> rfl
 ·obtain⟨ys,s1,fw,eY,fl⟩:=f.end;rw[aA,qf.len] at eY;have ey:ys=(o5 ms part).map oV:=by
   unfold o5;rw[cQ];refine uG eY λi y x h1 h2=>?_;obtain⟨ns,⟨_,e⟩,_⟩:=fl i y h1;simp_all
  subst ey;have s2:=nw.1.trans s1;have er:wx ms part=if (o5 ms part).length>8\/(o5 ms part).contains none=true then none else some ((o5 ms part).map λo=>o.getD 0):=rfl;generalize o5 ms part=L at fw er;refine⟨_,rfl,D,_,rfl,.inl (aa.of fw),_,_,rfl,rfl,_,rfl,a8 Ï Ï⟩
  ·have hc:L.length>8:=by
    grind
   refine kZ (gJ ((k2 ?_).go s2));simp_all
  ·have hc:¬L.length>8:=by
    grind
   refine⟨_,rfl,D,_,rfl,.inl (aa.of fw),rfl,aja L,_,rfl,?_⟩;rw[ajb];refine a8 Ãu Ãu
   ·refine gJ ((k2 ?_).go s2);simp_all
   ·refine⟨_,rfl,k1 _ (by rw[er,ah (λz=>z.elim hc iL)]) H' D ⟨s2,nw.1.free hD,?_⟩⟩;rw[fw];congr 2;unfold iv nv;rw[cQ,cQ];refine kq λo ho=>?_;cases o with
    |none=>simp_all
    |some n=>rfl
end
structure bq where
 a:Addr
 dx:Addr
 rw:Addr
 mn:Addr
 row:LN
 MO:LI
def FW(e:bq):List (Str×V):=[("row",.ref e.rw),("meaning",.ref e.mn)]
def o6(CE:Addr)(e:bq):jl:=[(e.a,.ins CE e.dx (FW e)),(e.rw,.lst Çj),(e.mn,.lst (iv e.MO))]
def bq.m(e:bq):LN×LI:=(e.row,e.MO)
def Ck(e:bq):(FW e).lookup ("row":Str)=some (.ref e.rw):=il
def Cm{CE:Addr}{H:Hp}{e:bq}(h:aU H Äe):H e.a=some (.ins CE e.dx (FW e)):=h (e.a,_) (by simp[o6])
def Co{CE:Addr}{H:Hp}{e:bq}(h:aU H Äe):H e.rw=some (.lst Çj):=h (e.rw,_) (by simp[o6])
def ajd{CE:Addr}{H:Hp}{e:bq}(h1:H e.a=some (.ins CE e.dx (FW e)))(h2:H e.rw=some (.lst Çj))(h3:H e.mn=some (.lst (iv e.MO))):aU H Äe:=λz hz=>by
 simp only[o6,ba,mY,mZ] at hz;rcases hz with rfl|rfl|rfl
 ·exact h1
 ·exact h2
 ·exact h3
def aje{CE:Addr}{H:Hp}{e:bq}(h1:H e.a=none)(h2:H e.rw=none)(h3:H e.mn=none):i8 H Äe:=λz hz=>by
 simp only[o6,ba,mY,mZ] at hz;rcases hz with rfl|rfl|rfl
 ·exact h1
 ·exact h2
 ·exact h3
def iB(ms:aF)(line:LI):Option (LN×LI):=if line.contains 32=true then
  match wx ms (line.take (line.idxOf 32)) with
  |none=>none
  |some row=>if sY (line.drop (line.idxOf 32+1))=true then some (row,line.drop (line.idxOf 32+1)) else none
 else none
inductive MP(K:FR)(CB CE:Addr)(vs:au)(H:Hp)(Q:VK)(E:XK):Prop
 |mk (ap pn:Addr) (ms:aF) (line:LI) (_:vs=[.ref ap,.ref pn]) (_:â ap Åu) (_:line.length<=100000) (_:H pn=some (.dT (x8 ms))) (_:(∀x,iB ms line=some x->∀H' e,ai H H'->bq.m e=x->aU H' Äe->i8 H Äe->Q (.ref e.a) H')) (_:(iB ms line=none->No E CB H))
section
variable{P:Pg}{w:Wd}{K:FR}{mg:MG}{base:Heap}{CK CL CS N CV CP CB CE fh:Addr}{C:Cs}
def Vo:bH ["line","numbers","end"] ["line","numbers"] (aV Km):=cw
def ajf{f:Addr}{fd:FD}(F:br K "read_entry" "read_entry" Km f fd)(X:ž "NoBook" CB N)(cB:Cn mg "BLANK" Åx)(dE:ă "Entry" CE ["row","meaning"])(dS:ĉ ė 2 "read_signs" ["part","numbers"] (Vm K CB)) (dM:ĉ ė 2 "read_meaning" ["part"] (Vg K CB)):Ì ė 3 f fd ["line","numbers"] (MP K CB CE):=by
 obtain⟨fS,xG,GS,mS,kS,bS⟩:=dS;obtain⟨fM,fdM,GM,mM,kM,bM⟩:=dM;refine F.qO Vo Â;obtain⟨ap,pn,ms,line,rfl,hP,hl,MN,k1,k2⟩:=h;refine⟨_,aB (dq (cI aaB (b9 cB) Û (by with_unfolding_all rfl)) Ð d7)
  (aB (cj 2 Vo.nd (sf PySem.F.plainAttrs_list PySem.F.slot_list_index PySem.F.type_list_index Qz Û ϭ))
  (aD (aY (p7 dE hr (ae (lY GS hr rfl mS kS bS .nil qN (ae (xg xh Û xc (xf è)) Œ)) (ae (lY GM hr rfl mM kM bM .nil qN (ae (xg xh Û (xf (eM qF è bo)) xc) ag)) ag)))))),?_⟩
 have ee:iB ms line=if line.contains 32=true then (match wx ms (line.take (line.idxOf 32)) with
  |none=>none
  |some row=>if sY (line.drop (line.idxOf 32+1))=true then some (row,line.drop (line.idxOf 32+1)) else none) else none:=rfl
 refine⟨_,rfl,ap,_,rfl,.inl hP,rfl,BC _,_,rfl,?_⟩;rw[KF];refine a8 Ï Ï
 ·have hc:¬line.contains 32=true:=by simpa using hc
  exact gJ (k2 É)
 ·have hc:line.contains 32=true:=by simpa using hc
  rw[af hc] at ee;obtain⟨j,zz,ej,hj,KG,BD⟩:=Sw hc;have vy:j<line.length:=by
   grind
  refine⟨_,rfl,.inl ⟨rfl,_,hP⟩,ap,_,_,j,zz,rfl,rfl,hP,rfl,BC _,hj,KG,BD,?_⟩;have ej:line.idxOf 32=j:=by omega
  rw[ej] at ee;refine⟨_,rfl,_,rfl,_,rfl,ap,_,rfl,hP,λc1 ux=>?_⟩;rw[Tj _ (show j<=(iv line).length by grind),show(iv line).take j=iv (line.take j) by simp];have s1:ai H (upd H c1 ϖ):=aL ux;have Vp:(upd H c1 ϖ) c1=some ϖ:=aq;generalize upd H c1 ϖ=H1 at s1 Vp;refine⟨_,rfl,c1,pn,ms,line.take j,rfl,aa.of Vp,by grind,s1 _ _ MN,λrow er H2 p n2=>?_,λer=>?_⟩
  ·rw[er] at ee;dsimp only at ee;have s2:=s1.trans n2.1;refine⟨_,rfl,_,rfl,_,_,rfl,rfl,_,rfl,ap,_,rfl,s2.seq hP,λc2 iL=>?_⟩;rw[show((j:Int)+1)=((j+1:Nat):Int) from rfl,BH _ (show j+1<=(iv line).length by grind),show(iv line).drop (j+1)=iv (line.drop (j+1)) by simp];have s3:ai H2 (upd H2 c2 (.lst (iv (line.drop (j+1))))):=aL iL;have MQ:(upd H2 c2 (.lst (iv (line.drop (j+1))))) c2=some (.lst (iv (line.drop (j+1)))):=aq;generalize upd H2 c2 (.lst (iv (line.drop (j+1))))=H3 at s3 MQ;refine⟨c2,line.drop (j+1),rfl,aa.of MQ,by grind,λem H4 s4=>?_,λem=>?_⟩
   ·rw[af em] at ee;refine vW rfl λx dx H5 hx i5 aQ e5 s5=>?_;have s6:=s2.trans (s3.trans s4);refine k1 _ ee H5 ⟨x,dx,p,c2,row,line.drop (j+1)⟩ (s6.trans s5) rfl (ajd e5 (s5 _ _ (s4 _ _ (s3 _ _ n2.2.2))) (s5 _ _ (s4 _ _ MQ))) (aje (s6.free hx) (s1.free n2.2.1) (s2.free iL))
   ·rw[ah É] at ee;exact(k2 ee).go Į
  ·rw[er] at ee;exact(k2 ee).go s1
end
def uS(r s:LN):Bool:=if ((r.length:Nat):Int)=((s.length:Nat):Int) then HT.lexLt (nv r) (nv s) else decide (((r.length:Nat):Int)<((s.length:Nat):Int))
def zX(rows:bp):Bool:=(rows.zip (rows.drop 1)).all λp=>uS p.1 p.2
structure x9(CE:Addr)(H:Hp)(p:Addr)(es:List bq):Prop where
 a:H p=some (.lst (es.map λe=>V.ref e.a))
 l:∀e∈es,aU H Äe
 dc:es.length<=2048
def x9.same{CE:Addr}{H H':Hp}{p:Addr}{es:List bq}(h:x9 CE H p es)(s:ai H H'):x9 CE H' p es:=⟨s _ _ h.a,λe he=>(h.l e he).same s,h.dc⟩
inductive Vq(CE:Addr)(vs:au)(H:Hp)(Q:VK)(E':XK):Prop
 |mk (p:Addr) (es:List bq) (_:vs=[.ref p]) (_:x9 CE H p es) (_:∀H',ai H H'->Q (.bl (zX Ãd)) H')
def Cp(row:LN)(rw p:Addr):jl:=[(p,.tup [.int ((row.length:Nat):Int),.ref rw])]
section
variable{P:Pg}{w:Wd}{K:FR}{mg:MG}{base:Heap}{CK CL CS N CV CP CB CE fh:Addr}{C:Cs}
def zY:bH ["entries","places","entry","before","place"] ["entries"] (aV Kr):=cw
def ajg(F:br K "are_in_order" "are_in_order" Kr f fd)(T:lg K CE ["row","meaning"])(tL:mg "len"=none)(tA:mg "all"=none)(tE:mg "enumerate"=none):Ì aE 1 f fd ["entries"] (Vq CE):=by
 refine F.ok zY Â;obtain⟨p,es,rfl,hp,k⟩:=h;have hu:A.units+3+128<cLine:=by have:=hr.un;exact pz Ä this
 refine⟨_,aB (cj 1 zY.nd (eF (own:=[("entry",2)]) (te:=w9 (bh (qH (λxs H Q=>∃p ys,xs=[.ref p]/\(â p ys\/bu K H p ys)/\Q (.int ((ys.length:Nat):Int)) H) (bh (gi K ŗ "row") dw)) (bh (gi K ŗ "row") dw))) rfl zY.nd Åg Ë
   (λ_ _ _ _ _=>dJ 2 zY.nd) Ø (λ_ _ _ _ _=>ue (ae (c8 fU Õ tL PySem.boot_len Çw) Çw))))
  (aD (aY (c8 Äs Õ tA yt (ae (eF (own:=[("before",3),("place",4)]) (g:=g2 K 3 4) (te:=bU (RU K) (bU ϋ ϕ Ŗ) Ãp) rfl zY.nd
   (kY Õ tE (ae (xg xh á (xf bo) xc) ag)) Ë
   (λ_ _ _ _ _=>iE 3 4 zY.nd) Ø
   (λ_ _ _ _ _=>jy (adN hu) (cA cY á ø Ù) Ĳ (bT _))) ag)))),?_⟩
 have hf:=hp.dc;refine⟨_,rfl,p,rfl,⟨_,aa.of hp.a⟩,λD hD=>gC (K:=K) (a:=p) (xs:=es.map λe=>V.ref e.a) (cy H D λi y ns=>∃b:bq×Addr,es[i]? =some b.1/\y=.ref b.2/\ns=Cp b.1.row b.1.rw b.2) Ċ (λi H' _ f=>aa.of (f.same _ _ hp.a)) č û⟩
 ·obtain⟨e,he,rfl⟩:=iz hi;have d8:=(bO.mp he).1;have hl:=(hp.l e (bZ he)).same f.same;refine⟨rfl,eO ⟨_,rfl,bj (Cm hl) T.1 (T.2 _ Ä) (Ck e) ⟨e.rw,_,rfl,.inl (aa.of (Co hl)),_,rfl,bj (Cm hl) T.1 (T.2 _ Ä) (Ck e) ⟨(by show 2<=sizeLine;decide),λt ht=>?_⟩⟩⟩⟩;refine f.step hD Æ (aL ht) ⟨(e,t),he,rfl,rfl⟩ ?_ ?_
  ·intro z hz;simp only[Cp,mV] at hz;subst hz;rw[aq];simp
  ·intro z hz;simp only[Cp,mV] at hz;subst hz;obtain⟨ys,_,hd,_⟩:=f.end;grind
 ·obtain⟨ys,s1,hd,hl,fl⟩:=f.end;obtain⟨bs,rfl,r1,l1⟩:=xP (v:=λb:bq×Addr=>V.ref b.2) (nd:=λb=>Cp b.1.row b.1.rw b.2) (R:=λi b=>es[i]? =some b.1) fl;rw[aA,aA] at hl;have AE:∀(i:Nat)(b:bq×Addr),bs[i]? =some b->H' b.2=some (.tup [.int ((b.1.row.length:Nat):Int),.ref b.1.rw])/\H' b.1.rw=some (.lst (iv (nv b.1.row))):=λi b hb=>⟨l1 b Çv (b.2,.tup [.int ((b.1.row.length:Nat):Int),.ref b.1.rw]) (by simp[Cp]),s1 _ _ (Co (hp.l b.1 (bZ (r1 i b hb))))⟩;have ebs:bs.map Prod.fst=es:=by
   apply wO;grind
  refine⟨_,rfl,_,rfl,D,_,rfl,aa.of hd,λc hc=>?_⟩;have ex:oA (bs.map λb=>V.ref b.2) (some 1) none=(bs.drop 1).map λb=>V.ref b.2:=by
   by_cases hz:1<=bs.length
   ·rw[show(1:Int)=((1:Nat):Int) from rfl,BH _ É,O2]
   ·have:bs=[]:=by
     simp_all
    rw[this];rfl
  rw[ex];have s2:=aL (o:=.lst ((bs.drop 1).map λb=>V.ref b.2)) hc;have jg:(upd H' c (.lst ((bs.drop 1).map λb=>V.ref b.2))) c=some (.lst ((bs.drop 1).map λb=>V.ref b.2)):=aq;generalize upd H' c (.lst ((bs.drop 1).map λb=>V.ref b.2))=H2 at s2 jg;refine⟨c,_,rfl,aa.of jg,λD2 cJ=>lI (K:=K) (a:=c) (xs:=(bs.drop 1).map λb=>V.ref b.2) (cy H2 D2 λi y ns=>ns=[]/\∃a b,bs[i]? =some a/\bs[i+1]? =some b/\y=.bl (uS a.1.row b.1.row)) Ão (λi H3 _ f=>aa.of (f.same _ _ jg)) (λi y Tt H3 hi f hT=>?_) Æc⟩
  ·obtain⟨b,hb,rfl⟩:=iz hi;rw[Yb] at hb;have hb:bs[i+1]? =some b:=by rw[<-hb];congr 1;omega
   have hib:=(bO.mp hb).1;obtain⟨a,ha⟩:∃a,bs[i]? =some a:=⟨_,dm Æ⟩;have s3:ai H3 (upd H3 Tt (.tup [.int (i:Nat),.ref b.2])):=aL hT;have s4:=(s2.trans f.same).trans s3;have Vr:=AE i a ha;have FX:=AE _ b hb;refine Þ;refine⟨_,rfl,_,rfl,D,_,(i:Int),.ref a.2,rfl,rfl,aa.of (s4 _ _ hd),fT É,_,rfl,a.2,b.2,a.1.rw,b.1.rw,_,_,nv a.1.row,nv b.1.row,rfl,rfl,bu.of (s4 _ _ Vr.1),bu.of (s4 _ _ FX.1),aa.of (s4 _ _ Vr.2),aa.of (s4 _ _ FX.2),?_⟩;exact f.step cJ Æ s3 ⟨rfl,a,b,ha,hb,rfl⟩ aU.nil Ä
  ·obtain⟨ys,s3,pX,Fd,fl⟩:=f.end;have hz:((es.map bq.row).zip ((es.map bq.row).drop 1)).length=ys.length:=by
    simp_all
   have ey:ys=(((es.map bq.row).zip ((es.map bq.row).drop 1)).map λp=>uS p.1 p.2).map V.bl:=by
    rw[cQ];refine uG hz.symm λi y x h1 h2=>?_;obtain⟨ns,⟨_,a,b,ea,eb,e⟩,_⟩:=fl i y h1;grind
   refine⟨D2,_,rfl,by rw[<-ey];exact aa.of pX,?_⟩;have q:=k H3 (s1.trans Į);rw[rL];exact q
end
def zZ(h:H y.a=some (.lst (y.ls.map λx=>V.ref x.a)))(h2:∀x∈y.ls,H x.a=some Ź):aU H Ær:=λz hz=>by
 rcases ba.mp hz with rfl|hz
 ·exact h
 ·obtain⟨x,hx,hz⟩:=kC.mp hz;simp only[lsN,mV] at hz;simp_all
def j0(ms:aF)(row:LN):Bool:=match nZ ms [row] with
 |some (some _)=>true
 |_=>false
structure FY(ms:aF)(rows:bp):Prop where
 short:∀r∈rows,r.length<=8
 lt:∀r∈rows,∀s∈r,s<ms.length
 sg:∀r∈rows,∀s∈r,jH ms s=true
inductive Vs(CK CE:Addr)(vs:au)(H:Hp)(Q:VK)(E':XK):Prop
 |mk (pk:Addr) (ks:List az) (p:Addr) (es:List bq) (_:vs=[.ref pk,.ref p]) (_:Ŭ ks) (_:wu Í) (_:x9 CE H p es) (_:FY Í Ãd) (_:(∀e∈es,nZ Í [e.row]≠none)) (_:∀H',ai H H'->Q (.bl ((es.map bq.row).all (j0 Í))) H')
section
variable{P:Pg}{w:Wd}{K:FR}{mg:MG}{base:Heap}{CK CL CS N CV CP CB CE fh:Addr}{C:Cs}
def MR:bH ["kinds","entries","entry"] ["kinds","entries"] (aV Ks):=cw
def ajh(F:br K "can_be_shown" "can_be_shown" Ks f fd)(T:lg K CE ["row","meaning"])(tA:mg "all"=none)(dD:Ç 4 "display_told" ["kinds","rows"] (FP CK)):Ì aE 5 f fd ["kinds","entries"] (Vs CK CE):=by
 refine F.ok MR Â;obtain⟨pk,ks,p,es,rfl,hk,hm,hp,Vt,hd,k⟩:=h;refine⟨_,aD (aY (c8 Äs Õ tA yt (ae (eF (own:=[("entry",2)]) (te:=Pq (g9 (FP CK) [] E0 (bh ό (bh (yL (bh (gi K ŗ "row") dw)) dw)))) rfl MR.nd Æp Ë
   (λ_ _ _ _ _=>dJ 2 MR.nd) Ø (λ_ _ _ _ _=>Pu (HF (bz dD (ae Û (ae (eE Çw) ag)))))) ag))),?_⟩
 have hf:=hp.dc;refine⟨_,rfl,p,rfl,⟨_,aa.of hp.a⟩,λD hD=>gC (K:=K) (a:=p) (xs:=es.map λe=>V.ref e.a) (cy H D λi y ns=>ns=[]/\∃e,es[i]? =some e/\y=.bl (j0 Í e.row)) Ċ (λi H' _ f=>aa.of (f.same _ _ hp.a)) č û⟩
 ·obtain⟨e,he,rfl⟩:=iz hi;have d8:=(bO.mp he).1;have BG:=bZ he;have hl:=(hp.l e BG).same f.same;refine⟨rfl,eO ⟨_,rfl,_,rfl,bj (Cm hl) T.1 (T.2 _ Ä) (Ck e) ⟨(by show 1<=sizeLine;decide),λl HA=>?_⟩⟩⟩;have s1:ai H' (upd H' l (.lst [.ref e.rw])):=aL HA;have eY:(upd H' l (.lst [.ref e.rw])) l=some (.lst [.ref e.rw]):=aq;generalize upd H' l (.lst [.ref e.rw])=H1 at s1 eY;cases ed:nZ Í [e.row] with
  |none=>simp_all
  |some r=>
   have hrw:=Vt.short e.row (cf.mpr ⟨e,BG,rfl⟩);refine⟨pk,ks,⟨l,[⟨e.rw,e.row⟩]⟩,r,rfl,(hk.same f.same).same s1,hm,⟨zZ eY Ás,Ä,Ás,Ás⟩,(by simp[cb.m];omega),ed,λhs eh H2 z s2 ez lz fz=>?_,λeh H2 s2=>?_⟩
   ·obtain rfl:x=_:=by simpa using hx
    exact s1 _ _ (Co hl)
   ·grind
   ·obtain rfl:x=_:=by simpa using hx
    intro s hs;have:=Vt.lt e.row (cf.mpr ⟨e,BG,rfl⟩) s hs;simp_all
   ·exact f.step hD Æ Ày ⟨rfl,e,he,by unfold j0;rw[ed,eh];rfl⟩ aU.nil Ä
   ·exact f.step hD Æ Ày ⟨rfl,e,he,by unfold j0;rw[ed,eh];rfl⟩ aU.nil Ä
 ·obtain⟨ys,s1,fw,hl,fl⟩:=f.end;rw[aA] at hl;have ey:ys=((es.map bq.row).map (j0 Í)).map V.bl:=by
   rw[cQ,cQ];refine uG hl λi y x h1 h2=>?_;obtain⟨ns,⟨_,e,ee,rfl⟩,_⟩:=fl i y h1;simp_all
  refine⟨D,_,rfl,by rw[<-ey];exact aa.of fw,?_⟩;simp_all
end
def i9(ms:aF):di->Option (List (LN×LI))
 |[]=>some []
 |l::r=>match iB ms l,i9 ms r with
  |some e,some es=>some (e::es)
  |_,_=>none
theorem aji{ms:aF}{r:di}:∀{l:LI},l∈r->iB ms l=none->i9 ms r=none:=by
 induction r with
 |nil=>intro l h;cases h
 |cons x r ih=>
  intro l h e;unfold i9;rcases ba.mp h with rfl|h
  ·rw[e]
  ·rw[ih h e];cases iB ms x <;> rfl
theorem ajj{ms:aF}{r:di}:∀{es:List (LN×LI)},es.length=r.length->(∀(i:Nat)l e,r[i]? =some l->es[i]? =some e->iB ms l=some e)->i9 ms r=some es:=by
 induction r with
 |nil=>
  intro ms h _;cases ms with
  |nil=>rfl
  |cons _ _=>cases h
 |cons l r ih=>
  intro es h k;cases es with
  |nil=>cases h
  |cons m es=>
   unfold i9;rw[k 0 l m rfl rfl,ih (es:=es) (À h) λi l m h1 h2=>k (i+1) l m h1 h2]
def FZ(ms:aF)(nm:LI):Option (List (LN×LI))->Option (LI×List (LN×LI))
 |some es=>if (zX (es.map (·.1))&&(es.map (·.1)).all (j0 ms))=true then some (nm,es) else none
 |none=>none
def MS(name:LI)(ms:aF)(nb nf:Option LI)(r:di):Option (LI×List (LN×LI)):=match nb with
 |none=>none
 |some nm=>if nf=some name then FZ ms nm (i9 ms r) else none
def book1(name:LI)(ms:aF):Option di->Option (LI×List (LN×LI))
 |some (l::f::r)=>if r.length<=2048 then MS name ms (fg (codes "book") l) (fg (codes "for") f) r else none
 |_=>none
def j3(name:LI)(ms:aF)(bC:LI):Option (LI×List (LN×LI)):=book1 name ms (jD bC)
theorem ajk(p:α->β->Prop)[∀x y,Decidable (p x y)](y:β)(f:α->Nat)(R:Nat->Prop)(l:List α):∀(acc:Option Nat),(∀x∈l,R (f x))->(∀m,acc=some m->R m)->∀m,l.foldl (λacc x=>if p x y then some (f x) else acc) acc=some m->R m:=by
 induction l with
 |nil=>exact @λacc _ h m e=>h m e
 |cons x l ih=>
  intro acc hl h m e;refine ih _ (λz hz=>hl z (aO _ hz)) (λm' e'=>?_) m e;dsimp only at e';split at e'
  ·cases e';exact hl x Ä
  ·exact h m' e'
def ajl{ms:aF}{name:LI}{n:Nat}(h:jI ms name=some n):n<ms.length/\jH ms n=true:=by
 unfold jI at h;refine ajk (λ(p:LI×Nat)(nm:LI)=>p.1=nm) name (λp=>p.2) (λn=>n<ms.length/\jH ms n=true) (sZ ms ms.length) none Ás (λm e=>(by cases e)) n h;unfold sZ at hx;obtain⟨j,hj,rfl⟩:=cf.mp hx;obtain⟨h1,h2⟩:=j8.mp hj;exact⟨À h1,h2⟩
def ajm{ms:aF}{part:LI}{row:LN}(h:wx ms part=some row):row.length<=8/\∀s∈row,s<ms.length/\jH ms s=true:=by
 unfold wx at h;by_cases hc:(o5 ms part).length>8\/(o5 ms part).contains none=true
 ·grind
 ·rw[ah hc] at h;have h:=(aN h).symm;subst h;refine⟨?_,λs hs=>?_⟩
  ·simp_all
  ·obtain⟨o,ho,rfl⟩:=cf.mp hs;cases o with
   |none=>simp_all
   |some n=>
    unfold o5 at ho;obtain⟨x,_,e⟩:=cf.mp ho;exact ajl e
def MT(h:iB ms line=some e):e.1.length<=8/\∀s∈e.1,s<ms.length/\jH ms s=true:=by
 unfold iB at h;split at h
 ·split at h
  ·simp_all
  ·rename_i row er;split at h
   ·have h:=(aN h).symm;subst h;exact ajm er
   ·simp_all
 ·cases h
structure qt where
 a:Addr
 dx:Addr
 nm:Addr
 el:Addr
 name:LI
 es:List bq
def Vu(b:qt):List (Str×V):=[("name",.ref b.nm),("entries",.ref b.el)]
def Vv(b:qt):(Vu b).lookup ("entries":Str)=some (.ref b.el):=(fY Ê).trans il
structure ya(fh CE:Addr)(H:Hp)(b:qt):Prop where
 a:H b.a=some (.ins fh b.dx (Vu b))
 n:H b.nm=some (.lst (iv b.name))
 e:x9 CE H b.el b.es
def ya.same{fh CE:Addr}{H H':Hp}{b:qt}(h:ya fh CE H b)(s:ai H H'):ya fh CE H' b:=⟨s _ _ h.a,s _ _ h.n,h.e.same s⟩
def qt.m(b:qt):LI×List (LN×LI):=(b.name,b.es.map bq.m)
structure uT(CL CK:Addr)(H:Hp)(l:uE):Prop where
 lies:aU H Ãk
 dc:l.kinds.length<=66000
 look:∀k∈l.kinds,iM k.m.look
 ms:wu Ò
 sh:∀rows,(∀r∈rows,∀s∈r,jH Ò s=true)->nZ Ò rows≠none
def uT.same(h:uT CL CK H l)(s:ai H H'):uT CL CK H' l:=⟨h.lies.same s,h.dc,h.look,h.ms,h.sh⟩
def uT.ks(h:uT CL CK H l):oQ CK H l.kl l.kinds:=⟨ahp h.lies,ahq h.lies,by have:=h.dc;omega,h.look⟩
inductive Vw(K:FR)(CL CK CB CE fh:Addr)(vs:au)(H:Hp)(Q:VK)(E:XK):Prop
 |mk (l:uE) (ap:Addr) (bC:LI) (_:vs=[.ref l.a,.ref ap]) (_:uT CL CK H l) (_:â ap (iv bC)) (_:bC.length<=66000) (_:(∀x,j3 l.name Ò bC=some x->∀H' b,ai H H'->qt.m b=x->ya fh CE H' b->FY Ò Ü->Q Çd H')) (_:(j3 l.name Ò bC=none->No E CB H))
section
variable{P:Pg}{w:Wd}{K:FR}{mg:MG}{base:Heap}{CK CL CS N CV CP CB CE fh:Addr}{C:Cs}
def z4:bH ["locker","text","lines","name","numbers","entries","line"] ["locker","text"] (aV Kk):=cw
def ajn{f:Addr}{fd:FD}(F:br K "read_book" "read_book" Kk f fd)(X:ž "NoBook" CB N)(TL:lg K CL ["name","kinds"])(tL:mg "len"=none)(cT:Cn mg "TITLE_LINES" (.int 2))(cM:Cn mg "MOST_ENTRIES" (.int 2048))(dW:Ç 2 "whole_lines" ["text"] (Lc K)) (dN:Ç 4 "name_behind" ["title","line"] (Lb K)) (dU:Ç 1 "numbers_of_signs" ["kinds"] (Vk CK)) (dE:ĉ ė 3 "read_entry" ["line","numbers"] (MP K CB CE))(dO:Ç 1 "are_in_order_books" ["entries"] (Vq CE)) (dC:Ç 5 "can_be_shown" ["kinds","entries"] (Vs CK CE)) (dB:ă "Book" fh ["name","entries"]):
  a7 P w K mg base ė 6 f fd ["locker","text"] (Vw K CL CK CB CE fh):=by
 obtain⟨fE,fdE,GE,mE,kE,bE⟩:=dE;refine F.qO z4 Â;obtain⟨l,ap,bC,rfl,hL,hP,hl,k1,k2⟩:=h;have KP:dv 3 _:=hr.mono Ú;refine⟨_,aB (cj 2 z4.nd (bz (hr:=hr) dW Œ))
  (aB (dq (PW.pt (pw_or Æj (pw_or1 (pG (ZZ w8 w8 (b9 cT) ü (eM qF (b9 cT) (b9 cM))))))) Ð d7)
  (aB (cj 3 z4.nd (bz (hr:=hr) dN (ae Dx (ae Àp ag))))
  (aB (dq (PW.pt (pw_or (ot (qD ø)) (pw_or1 (cI (Ip hr.units) (bz (hr:=hr) dN (ae Dx (ae Àp ag))) ï (bT _))))) Ð d7)
  (aB (cj 4 z4.nd (bz (hr:=hr) dU Ât))
  (aB (Rw (i:=5) (own:=[("line",6)]) (g:=pH 6) (tt:=A4) (te:=g9 (MP K CB CE) [] E (bh (ay 6) (bh Ãp dw))) rfl xt z4.nd rfl rfl Õ (eX (xg xh è (xf (b9 cT)) xc)) Ë
   (λ_ _ _ _ _=>dJ 6 z4.nd) Ø (λ_ _ _ _ _=>lY GE KP rfl mE kE bE .nil qN (ae Ãl ϡ)))
  (aB (dq (PW.pt (pw_or (pG (jx (bz (hr:=hr) dO ţ))) (pw_or1 (pG (jx (bz (hr:=hr) dC (ae ï ţ)))))))
   (Ð) d7)
  (aD (aY (p7 dB hr (ae ø ţ)))))))))),?_⟩
 refine⟨_,rfl,ap,bC,rfl,hP,by omega,λH1 v s1 hv=>?_⟩;have Lv:∀L,jD bC=some L->∀w∈L,w.length<=100000:=λL e=>by
  unfold jD at e;split at e
  ·have e:=aN e;subst e;refine λw hw=>?_;have:=xF 10 bC w (Aw _ hw);omega
  ·simp_all
 have el:j3 l.name Ò bC=book1 l.name Ò (jD bC):=rfl;generalize j3 l.name Ò bC=bk at el k1 k2;cases ew:jD bC with
 |none=>
  rw[ew] at hv el;have hv:=hv;subst hv;exact⟨_,rfl,_,rfl,kZ (gJ ((k2 el).go s1))⟩
 |some L=>
  have mi:=Lv L ew;rw[ew] at hv el;obtain⟨p,qs,rfl,qy,hp,qf,fr⟩:=hv;have wb:=qf.len;refine⟨_,rfl,_,rfl,nu ⟨_,rfl,p,_,rfl,.inl (aa.of hp),?_⟩⟩;rw[aA,wb];refine⟨_,_,rfl,rfl,_,rfl,a8 Š Š⟩
  case' refine_2=>
   have h1:¬(2:Int)<=((L.length:Nat):Int):=À h1
   refine⟨_,rfl,kZ (gJ ((k2 (el.trans ?_)).go s1))⟩
   match L,h1 with
   |[],_=>rfl
   |[_],_=>rfl
   |a::b::c,h1=>exact absurd (by simp only[c7];omega) h1
  simp at h1;obtain⟨la,lb,r,rfl⟩:∃a b c,L=a::b::c:=by
   match L,h1 with
   |[],h1=>exact absurd h1 Ä
   |[_],h1=>exact absurd h1 Ä
   |a::b::c,_=>exact⟨a,b,c,rfl⟩
  cases qf with
  | @cons q l0 qs0 r0 hq qf=>
  cases qf with
  | @cons q2 l2 qs r2 xA u4=>
  have u4:eB H1 qs r:=u4;have wb:=u4.len;refine⟨_,_,rfl,rfl,_,_,rfl,rfl,_,rfl,a8 Ál Ál⟩
  ·have h2:¬r.length<=2048:=by
    grind
   exact gJ ((k2 (el.trans (ah h2))).go s1)
  have h2:r.length<=2048:=by
   grind
  have el:=el.trans (af h2);refine⟨_,rfl,p,_,0,V.ref q,rfl,rfl,aa.of hp,fT (j:=0) rfl,"book",q,la,rfl,by decide,aa.of hq,mi la Ä,λH3 vn s3 hn=>?_⟩;have p9:=s1.trans s3;generalize fg (codes "book") la=nb at hn el;cases nb with
  |none=>
   have hn:=hn;subst hn;exact⟨_,rfl,_,rfl,kZ (gJ ((k2 el).go p9))⟩
  |some nm=>
  obtain⟨an,rfl,Fe,lX⟩:=hn;refine⟨_,rfl,_,rfl,nu ⟨_,rfl,p,_,1,V.ref q2,rfl,rfl,aa.of (s3 _ _ hp),fT (j:=1) rfl,"for",q2,lb,rfl,by decide,aa.of (s3 _ _ xA),mi lb Ä,λH4 vf s4 hf=>?_⟩⟩;have oE:=p9.trans s4;have L4:=hL.same oE;refine⟨_,rfl,bj (BQ L4.lies) TL.1 (TL.2 _ Ä) (af3 l) ?_⟩;have F1:H4 l.nm=some (.lst (iv l.name)):=L4.lies (l.nm,_) (by simp[sG]);generalize fg (codes "for") lb=nf at hf el;obtain⟨d,fw,fO,pX⟩:∃d,Dp K H4 vf d/\SeqAt.shaped d=true/\PyData.eqv d (.list (l.name.map PyData.int))=decide (nf=some l.name):=by
   cases nf with
   |none=>
    have hf:=hf;subst hf;exact⟨_,.aJ,rfl,rfl⟩
   |some x=>
    obtain⟨c,rfl,_,hc⟩:=hf;refine⟨_,.lst (aa.of hc) (qQ x),shaped_ints _,?_⟩;show PyData.eqvAll _ _=_;rw[xu];simp
  refine⟨d,_,fw,.lst (aa.of F1) (qQ _),fO,shaped_ints _,_,rfl,?_⟩;rw[pX];refine a8 (λh3=>?_) (λh3=>?_)
  ·simp at h3;exact gJ ((k2 (el.trans (ah h3))).go oE)
  simp at h3;have el:=el.trans (af h3);refine⟨_,rfl,bj (BQ L4.lies) TL.1 (TL.2 _ Ä) (E2 l) ⟨l.kl,l.kinds,rfl,L4.ks,λH5 pn n5=>?_⟩⟩;have vY:=oE.trans n5.1;have Hq:=n5.1 _ _ (s4 _ _ (s3 _ _ hp));refine⟨_,rfl,_,rfl,p,_,rfl,aa.of Hq,λc hc=>?_⟩;rw[show oA ((q::q2::qs).map V.ref) (some 2) none=qs.map V.ref from(BH _ (i:=2) Ä).trans rfl];have s6:=aL (o:=.lst Äc) hc;have jg:(upd H5 c ď) c=some ď:=aq;generalize upd H5 c ď=H6 at s6 jg;have xK:=vY.trans s6;have ajo:=u4.same (((s3.trans s4).trans n5.1).trans s6);have ajp:=s6 _ _ n5.2.2;refine⟨c,rfl,⟨_,aa.of jg⟩,λD hD=>gC (K:=K) (a:=c) (xs:=qs.map V.ref) (cy H6 D λi y ns=>∃b:bq,(∀l',r[i]? =some l'->iB Ò l'=some b.m)/\y=.ref b.a/\ns=o6 CE b) Ċ
     (λi H7 _ f=>aa.of (f.same _ _ jg)) (λi y H7 hi f=>?_) (λH7 f=>?_)⟩
  ·rw[bW] at hi;cases eq:qs[i]? with
   |none=>simp_all
   |some qi=>
    rw[eq] at hi;have ey:=aN hi;subst ey;have d8:=(bO.mp eq).1;obtain⟨q',_,e',h'⟩:=ajo.at (j:=i) Æ;rw[bW,eq] at e';have e':=aN e';injection e' with e';subst e';have qI:r[i]? =some (r.getD i []):=by
     simp_all
    have wc:=bZ qI;refine⟨rfl,eO ⟨_,rfl,_,rfl,qi,pn,l.kinds.map az.m,r.getD i [],rfl,aa.of (f.same _ _ h'),mi _ (aO _ (aO _ wc)),f.same _ _ ajp,λm em H8 en s8 ek IL pK=>?_,λen=>?_⟩⟩
    ·refine f.step hD Æ s8 ⟨en,λl' hl=>?_,rfl,rfl⟩ IL λx hx e=>f.has (by rw[<-e];exact pK x hx);simp_all
    ·exact(k2 (by rw[el,aji wc en];rfl)).go (xK.trans f.same)
  ·obtain⟨ys,s7,hd7,Vx,fl⟩:=f.end;rw[aA] at Vx;obtain⟨es,e1,r1,l1⟩:=xP (v:=λb:bq=>V.ref b.a) (nd:=o6 CE) (R:=λi b=>∀l',r[i]? =some l'->iB Ò l'=some b.m) fl;subst e1;rw[aA] at Vx;have zP:∀(i:Nat)(b:bq),es[i]? =some b->∃l',iB Ò l'=some b.m:=λi b hb=>by
    grind
   have ees:i9 Ò r=some (es.map bq.m):=ajj É λi l' m h1 h2=>by
    grind
   rw[ees] at el;have emr:(es.map bq.m).map (·.1)=es.map bq.row:=by
    rw[cQ];rfl
   have el:bk=if (zX Ãd &&(es.map bq.row).all (j0 Ò))=true then some (nm,es.map bq.m) else none:=by
    rw[<-emr];exact el
   have zy:=xK.trans s7;have MU:x9 CE H7 D es:=⟨hd7,l1,by omega⟩;have uU:FY Ò Ãd:=by
    refine⟨λrow z5=>?_,λrow z5 s hs=>?_,λrow z5 s hs=>?_⟩
    all_goals
     obtain⟨b,hb,rfl⟩:=cf.mp z5;obtain⟨i,hi,e⟩:=rM hb;obtain⟨l',e'⟩:=zP i b (by rw[<-e];exact dm hi);have:=MT e'
    ·simp_all
    ·simp_all
    ·simp_all
   refine⟨_,rfl,D,es,rfl,MU,λH8 s8=>⟨_,rfl,a8 (λho=>?_) (λho=>?_)⟩⟩
   ·simp at ho;rw[ho,lu,ah Ú] at el;exact gJ ((k2 el).go (zy.trans s8))
   simp at ho;have Vy:=zy.trans s8;have L8:=hL.same Vy;refine⟨_,rfl,bj (BQ L8.lies) TL.1 (TL.2 _ Ä) (E2 l) ⟨_,rfl,l.kl,l.kinds,D,es,rfl,L8.ks,L8.ms,MU.same s8,uU,λe he=>L8.sh [e.row] (λr hr s hs=>by
     obtain rfl:r=e.row:=À hr
     exact uU.sg _ (cf.mpr ⟨e,he,rfl⟩) s hs),λH9 s9=>⟨_,rfl,a8 Ě Ě⟩⟩⟩
   ·have hd:(es.map bq.row).all (j0 Ò)=false:=by simpa using hd
    rw[hd,yr,ah Ú] at el;exact gJ ((k2 el).go (Vy.trans s9))
   have hd:(es.map bq.row).all (j0 Ò)=true:=À hd
   rw[ho,hd,OY,af rfl] at el;have MV:=s8.trans s9;exact⟨_,rfl,_,rfl,vW rfl λx dx Ha hx i5 aQ ea sa=>(k1 _ el Ha ⟨x,dx,an,D,nm,es⟩ ((zy.trans MV).trans sa) rfl ⟨ea,sa _ _ (MV _ _ (s7 _ _ (s6 _ _ (n5.1 _ _ (s4 _ _ lX))))),MU.same (MV.trans sa)⟩ uU)⟩
end
def mx(rows:bp)(i:Nat):Nat:=(rows.getD i []).length
def z6(rows:bp)(a b:Bool)(n:Nat)(i:Nat):Bool:=decide (mx rows i=n)||((a||b)&&decide (n<mx rows i))
def rB(rows:bp)(g:iG):LN:=(List.range rows.length).filter (z6 rows g.above g.below g.flags.length)
inductive MW(C:Cs)(fh CE:Addr)(vs:au)(H:Hp)(Q:VK)(E':XK):Prop
 |mk (b:qt) (g:ck) (_:vs=[.ref b.a,.ref g.a]) (_:ya fh CE H b) (_:Lies H Æo) (_:∀H' p,ϟ (.lst (iv (nv (rB Ü g.m))))->Q ĥ H')
abbrev Vz(K:FR):au->Hp->VK->Prop:=λxs H Q=>∃p ys,xs=[.ref p]/\(â p ys\/bu K H p ys)/\Q (.int ((ys.length:Nat):Int)) H
section
variable{P:Pg}{w:Wd}{K:FR}{mg:MG}{base:Heap}{CK CL CS N CV CP CB CE fh:Addr}{C:Cs}
def yb:bH ["book","glimpse","seen","may_be_longer","lengths","entry","number","length"] ["book","glimpse"] (aV Kw):=cw
def ajt(F:br K "entries_in_doubt" "entries_in_doubt" Kw f fd)(TC:ma K C)(TB:lg K fh ["name","entries"])(TE:lg K CE ["row","meaning"])(tL:mg "len"=none)(tE:mg "enumerate"=none):Ì aE 1 f fd ["book","glimpse"] (MW C fh CE):=by
 refine F.ok yb Â;obtain⟨b,g,rfl,hb,hg,k⟩:=h;refine⟨_,aB (cj 2 yb.nd ŵ)
  (aB (cj 3 yb.nd (Pw ĕ (rV ĕ)))
  (aB (uk (i:=4) (own:=[("entry",5)]) (te:=qH (Vz K) (bh (gi K (ay 5) "row") dw)) rfl yb.nd rfl rfl Õ (eX ï) Ë
   (λ_ _ _ _ _=>dJ 5 yb.nd) Ø (λ_ _ _ _ _=>c8 fU Õ tL PySem.boot_len (ae (bg Äd rfl) ag)))
  (aD (aY (eF (own:=[("number",6),("length",7)]) (g:=g2 K 6 7) (tt:=HG (ng (bU ox Èm ŗ)) (Dy (tB Ŗ) (ng (bU (gf λi j=>.bl (decide (i>j))) Èm ŗ)))) (te:=ay 6) rfl yb.nd
   (kY Õ tE ϡ) Ë
   (λ_ _ _ _ _=>iE 6 7 yb.nd)
   (λ_ _ _ _ _=>pL (PW.pt (pw_or (cI ic Ål è (bT _)) (pw_or1 (PW.pt (pw_and (jx ø) (pw_and1 (cI vt Ål è (bT _))))))))) (λ_ _ _ _ _=>pv 6)))))),?_⟩
 have hf:=hb.e.dc;refine⟨_,rfl,bj hg.ga TC.cG TC.vS (vR g) ⟨g.l,_,rfl,.inl (aa.of hg.fl),?_⟩⟩;dsimp only;rw[aA];refine RI g.above g.below (λK q=>⟨_,rfl,bj hg.ga TC.cG TC.SA (Sy g) q⟩) (λ_ K q=>⟨_,rfl,bj hg.ga TC.cG TC.SB (Sz g) q⟩) ?_;refine⟨_,rfl,bj hb.a TB.1 (TB.2 _ Ä) (Vv b) ⟨b.el,rfl,⟨_,aa.of hb.e.a⟩,λD hD=>gC (K:=K) (a:=b.el) (xs:=b.es.map λe=>V.ref e.a) (fC H D λi=>((mx Ü i:Nat):Int)) Áz (λi H' _ f=>aa.of (f.1 _ _ hb.e.a)) č (λH1 f=>?_)⟩⟩
 ·obtain⟨e,he,rfl⟩:=iz hi;have d8:=(bO.mp he).1;have hl:=(hb.e.l e (bZ he)).same f.1;refine⟨rfl,eO ⟨_,rfl,bj (Cm hl) TE.1 (TE.2 _ Ä) (Ck e) ⟨e.rw,_,rfl,.inl (aa.of (Co hl)),?_⟩⟩⟩;refine fC.step hD Æ f Ĺ ?_;unfold mx;simp_all
 ·have hd:=f.2;rw[aA] at hd;have s1:=f.1;refine⟨_,rfl,D,_,rfl,aa.of hd,λD2 cJ=>lI (K:=K) (a:=D) (xs:=iv ((List.range b.es.length).map λi=>((mx Ü i:Nat):Int))) (lL H1 D2 (z6 Ü g.above g.below g.flags.length)) (lL.zero cJ) (λi H' _ f=>aa.of (f.1 _ _ hd)) Ák Æc⟩
  ·have d8:=(bO.mp hi).1;rw[eZ,aA,g7] at d8;have ev:v=.int ((mx Ü i:Nat):Int):=by
    simp_all
   subst ev;have s3:ai H' (Ϟ (.tup [.int (i:Nat),.int ((mx Ü i:Nat):Int)])):=aL hT;refine æ;generalize upd H' Tt (.tup [.int (i:Nat),.int ((mx Ü i:Nat):Int)])=H4 at s3;refine or_val (decide (mx Ü i=g.flags.length)) ((g.above||g.below)&&decide (g.flags.length<mx Ü i)) (λK q=>⟨_,rfl,_,rfl,rfl,_,rfl,by rw[lW];exact q⟩)
    (λ_ K q=>and_val (g.above||g.below) (decide (g.flags.length<mx Ü i)) (λK q=>⟨_,rfl,_,rfl,q⟩) (λ_ K q=>⟨_,rfl,_,rfl,_,_,rfl,rfl,_,rfl,?_⟩) q) (a8 Ï Ï)
   ·simp_all
   ·exact⟨_,rfl,f.yes cJ Æ s3 hc⟩
   ·exact f.no s3 hc
  ·have h3:=f.2;rw[eZ,aA,g7] at h3;refine k H3 D2 ⟨s1.trans f.1,s1.free cJ,?_⟩;rw[h3];unfold rB ck.m;simp
end
def gZ(l:LN):Nat:=l.foldl (λa b=>a*b) 1
inductive VA(vs:au)(H:Hp)(Q:VK)(E':XK):Prop
 |mk (p:Addr) (l:LN) (_:vs=[.ref p]) (_:H p=some (.lst Çr)) (_:(∀n∈l,n<=100000)) (_:Q (.int ((gZ l:Nat):Int)) H)
def tj(s:Nat):LN:=if s=2 then [0,1] else [s]
inductive VB(C:Cs)(vs:au)(H:Hp)(Q:VK)(E':XK):Prop
 |mk (p:eP) (_:vs=[.ref p.a]) (_:Lies H Ág) (_:∀H' q,pW H H' q (.lst (iv (nv Ço)))->Q Èo H')
section
variable{P:Pg}{w:Wd}{K:FR}{mg:MG}{base:Heap}{CK CL CS N CV CP CB CE fh:Addr}{C:Cs}
def F2:bH ["numbers","whole","number"] ["numbers"] (aV Kx):=cw
def aju(F:br K "product" "product" Kx f fd):Ì aE 1 f fd ["numbers"] VA:=by
 refine F.ok F2 Â;obtain⟨p,l,rfl,hp,hl,k⟩:=h;refine⟨_,aB (cj 1 F2.nd bo)
  (aB (ş Åg (dJ 2 F2.nd) (aD (cj 1 F2.nd (eM ZV á è))))
  (aD (aY á))),?_⟩
 refine⟨_,rfl,p,rfl,⟨_,aa.of hp⟩,wZ (K:=K) (a:=p) (xs:=iv (nv l)) (λi σ H'=>∃v,σ=[some ĥ,some (.int ((gZ (l.take i):Nat):Int)),v]/\H'=H) ⟨none,rfl,rfl⟩ (λi σ H' _ ⟨_,_,e⟩=>by rw[e];exact aa.of hp) ?_ ?_⟩
 ·rintro i x σ H' hi ⟨v,rfl,rfl⟩;obtain⟨z,hz,rfl⟩:=nN hi;have qL:=hl z (bZ hz);refine⟨_,rfl,_,rfl,_,_,rfl,rfl,.inr ⟨by omega,by omega⟩,some (.int ((z:Nat):Int)),?_,rfl⟩;rw[take_snoc hz];unfold gZ;simp
 ·rintro σ H' ⟨v,rfl,rfl⟩;refine đ;simp_all
def ajv:bH ["plate"] ["plate"] (aV Kz):=cw
def ajw(F:br K "sides_of" "sides_of" Kz f fd)(T:ma K C)(cF:Cn mg "FRONT" ŉ)(cB:Cn mg "BEHIND" ŝ)(cU:Cn mg "UNKNOWN_SIDE" (.int 2)):Ì aE 1 f fd ["plate"] (VB C):=by
 refine F.ok ajv Â;obtain⟨p,rfl,hp,k⟩:=h;refine⟨_,aD (aY (rW (cI ic ï (b9 cU) (bT _)) (eE (ae (b9 cF) ϭ)) (eE Ât))),?_⟩;refine⟨_,rfl,bj hp.pl T.cP T.KM (Sx p) Ģ⟩;rw[show V.int 2=V.int ((2:Nat):Int) from rfl,lW];have k:=k;unfold tj at k;refine a8 Ï Ï
 ·rw[af É] at k;exact⟨by show 2<=sizeLine;decide,λq hq=>k _ q ⟨aL hq,hq,aq⟩⟩
 ·rw[ah É] at k;exact⟨_,rfl,bj hp.pl T.cP T.KM (Sx p) ⟨by show 1<=sizeLine;decide,λq hq=>k _ q ⟨aL hq,hq,aq⟩⟩⟩
end
def o7(rows:bp)(c:LN):bp:=rows.flatMap λrow=>c.map λn=>row++[n]
def lj(cs:bp):bp:=cs.foldl o7 [[]]
def uV(cs:bp):bp:=if cs.contains []=true then [] else lj cs
theorem ajx(l:LN)(a:Nat):l.foldl (λa b=>a*b) a=a*gZ l:=by
 induction l generalizing a with
 |nil=>simp[gZ]
 |cons x l ih=>
  unfold gZ;grind
def MX(a b:LN):gZ (a++b)=gZ a*gZ b:=by
 rw[<-ajx];unfold gZ;simp
theorem ajy(h:∀n∈l,1<=n):1<=gZ l:=by
 induction l with
 |nil=>exact bJ _
 |cons x l ih=>
  have h1:=h x Ä;have h2:=ih λn hn=>h n (aO _ hn);show 1<=gZ ([x]++l);rw[MX];have e:gZ [x]=x:=Nat.one_mul x;rw[e];exact Nat.mul_pos h1 h2
theorem MY(rows:bp)(c:LN):(o7 rows c).length=rows.length*c.length:=by
 unfold o7;induction rows with
 |nil=>simp
 |cons r rows ih=>rw[Dk,mU,ih,aA,c7,Nat.succ_mul,Nat.add_comm]
def F3(cs:bp)(c:LN):lj (cs++[c])=o7 (lj cs) c:=by
 unfold lj;simp
def VC(cs:bp):(lj cs).length=gZ (cs.map List.length):=by
 refine snoc_ind (P:=λcs=>(lj cs).length=gZ (cs.map List.length)) rfl Át cs;rw[F3,MY,ih,bX,MX];congr 1;exact(Nat.one_mul _).symm
def ajz(h:∀n∈l,1<=n)(i:Nat):gZ (l.take i)<=gZ l:=by
 have h1:1<=gZ (l.drop i):=ajy λn hn=>h n (Ye hn);have h2:gZ l=gZ (l.take i)*gZ (l.drop i):=by rw[<-MX,O3]
 rw[h2];exact Nat.le_mul_of_pos_right _ h1
theorem ajA{H:Hp}{ls:List cV}:(∀x∈ls,H x.a=some Ź)->eB H (ls.map cV.a) (ls.map λx=>nv x.ns):=by
 induction ls with
 |nil=>exact @λ_=>.nil
 |cons x ls ih=>
  intro h;exact .cons (h x Ä) (ih λz hz=>h z (aO _ hz))
def MZ(cs:bp):∀row∈lj cs,row.length=cs.length:=by
 refine snoc_ind (P:=λcs=>∀row∈lj cs,row.length=cs.length) (λrow h=>?_) (λl x ih row h=>?_) cs
 ·have:row=[]:=by simpa [lj] using h
  rw[this];rfl
 ·rw[F3] at h;unfold o7 at h;obtain⟨r,hr,h⟩:=kC.mp h;obtain⟨n,_,rfl⟩:=cf.mp h;rw[mU,ih r hr,mU];rfl
inductive VD(vs:au)(H:Hp)(Q:VK)(E':XK):Prop
 |mk (y:cb) (_:vs=[.ref y.a]) (_:aU H Ær) (_:y.ls.length<=100) (_:(∀x∈y.ls,x.ns.length<=100000)) (_:(y.m.contains []=false->gZ ů<=1024)) (_:∀H' z,ai H H'->cb.m z=uV y.m->aU H' (eT z)->i8 H (eT z)->Q Äp H')
section
variable{P:Pg}{w:Wd}{K:FR}{mg:MG}{base:Heap}{CK CL CS N CV CP CB CE fh:Addr}{C:Cs}
def wy:bH ["choices","rows","choice","longer","row","number"] ["choices"] (aV Ky):=cw
inductive RwI(y:cb)(H:Hp)(i:Nat)(σ:L2.St)(H':Hp):Prop
 |mk (z:cb) (v2 v3 v4:Option V) (_:σ=[some Àq,some Äp,v2,v3,v4,none]) (_:ai H H') (_:aU H' (eT z)) (_:i8 H (eT z)) (_:z.m=lj Ů)
inductive RwJ(y z:cb)(c:cV)(g:Addr)(H3 H:Hp)(j:Nat)(σ:L2.St)(H':Hp):Prop
 |mk (v4:Option V) (ls:List cV) (_:σ=[some Àq,some Äp,some (.ref c.a),some (.ref g),v4,none]) (_:ai H3 H') (_:aU H' (eT ⟨g,ls⟩)) (_:(∀x∈ls,x.a≠g)) (_:(∀x∈ls,i8 H (lsN x))) (_:ls.map cV.ns=o7 (z.m.take j) c.ns)
def ajD{f:Addr}{fd:FD}(F:br K "all_rows" "all_rows" Ky f fd):Ì aE 1 f fd ["choices"] VD:=by
 refine F.ok wy Â;obtain⟨y,rfl,hy,U7,si,gU,k⟩:=h;have hu:A.units+3+128<cLine:=by have:=hr.un;exact pz Ä this
 refine⟨_,aB (dq (cI (IU hu) Ĵ Û (by with_unfolding_all rfl)) (aD (aY Ĵ)) d7)
  (aB (cj 1 wy.nd (eE Än))
  (aB (ş Åg (dJ 2 wy.nd) (aB (cj 3 wy.nd Ĵ)
   (aB (ş Æp (dJ 4 wy.nd) (aD (rX (sf PySem.F.plainAttrs_list PySem.F.slot_list_extend PySem.F.type_list_extend Qq ø (ae
    (eF (own:=[("number",5)]) (te:=bU Qs Ãp (yL Èk)) rfl wy.nd (eX è) Ë
     (λ_ _ _ _ _=>dJ 5 wy.nd) Ø (λ_ _ _ _ _=>eM Qt Ĳ (eE ţ))) ag)))))
   (aD (cj 1 wy.nd ø)))))
  (aD (aY á)))),?_⟩
 have qm:=jG hy;refine⟨dY _,λl uw=>?_⟩;have s1:ai H (ϙ ã):=aL uw;have ji:(ϙ ã) l=some ã:=aq;generalize upd H l ã=H1 at s1 ji;have ajE:=ajA λx hx=>s1 _ _ (mj hy hx);have ajF:H1 y.a=some (.lst ((y.ls.map cV.a).map V.ref)):=by
  rw[cQ];exact s1 _ _ qm
 refine⟨_,rfl,y.a,_,_,.list [],rfl,aa.of ajF,Vh ajE,.lst (aa.of ji) .nil,λd hd=>?_,rfl,_,rfl,?_⟩
 ·obtain⟨x,_,rfl⟩:=cf.mp hd;exact shaped_ints x
 rw[any_empty];have kU:(y.ls.map λx=>nv x.ns).contains []=y.m.contains []:=by
  rw[pj,Dl,Dl];unfold cb.m;simp
 rw[kU];refine a8 Ï Ï
 ·refine⟨dY _,λp hp=>?_⟩;refine k _ ⟨p,[]⟩ (s1.trans (aL hp)) ?_ (zZ aq Ä) (BU (s1.free hp) Ä);unfold uV;rw[af hc];rfl
 have hc:y.m.contains []=false:=À hc
 have ajG:=gU hc;have ajH:∀n∈y.m.map List.length,1<=n:=λn hn=>by
  grind
 have Fu:∀i,(lj Ů).length<=1024:=λi=>by
  rw[VC,List.map_take];exact gQ (ajz ajH i) ajG
 have ek:uV y.m=lj y.m:=by unfold uV;rw[ah (by assumption)]
 rw[ek] at k;refine⟨dY _,λe he=>⟨by show 1<=sizeLine;decide,λr sX=>?_⟩⟩;have hre:r≠e:=λz=>by rw[z,aq] at sX;cases sX
 have s2:ai H1 (upd (upd H1 e ã) r (.lst [.ref e])):=(aL he).trans (aL sX);have VE:aU (upd (upd H1 e ã) r (.lst [.ref e])) (eT ⟨r,[⟨e,[]⟩]⟩):=zZ aq λx hx=>by
  obtain rfl:x=_:=À hx
  rw[ao hre.symm,aq];rfl
 generalize upd (upd H1 e ã) r (.lst [.ref e])=H2 at s2 VE;have e9:=s1.trans s2;refine⟨_,rfl,y.a,rfl,⟨_,aa.of (e9 _ _ qm)⟩,wZ (K:=K) (a:=y.a) (xs:=y.ls.map λx=>V.ref x.a) (RwI y H)
  ⟨⟨r,[⟨e,[]⟩]⟩,none,none,none,rfl,e9,VE,BU (s1.free ((aL he).free sX)) Ás,rfl⟩ (λi σ H' _ h=>(by obtain⟨_,_,_,_,_,s3⟩:=h;exact aa.of (s3 _ _ qm))) ?_ ?_⟩
 ·obtain rfl:x=_:=by simpa using hx
  exact λw hw=>(by simp only[lsN,mV] at hw;subst hw;exact s1.free he)
 ·rintro i x σ H3 hi ⟨z,v2,v3,v4,rfl,s3,hz,Cq,mw⟩;obtain⟨c,jk,rfl⟩:=iz hi;have yY:=bZ jk;have ET:=s3 _ _ (mj hy yY);have gH:=si c yY;have rD:y.m[i]? =some c.ns:=by unfold cb.m;rw[bW,jk];rfl
  have VF:lj (y.m.take (i+1))=o7 z.m c.ns:=by rw[take_snoc rD,F3,mw]
  have A3:=Fu (i+1);rw[VF] at A3;refine⟨dY _,λg M0=>?_⟩;have s4:ai H3 (upd H3 g ã):=aL M0;have hgg:(upd H3 g ã) g=some ã:=aq;refine⟨_,rfl,z.a,rfl,⟨_,aa.of (s4 _ _ (jG hz))⟩,wZ (K:=K) (a:=z.a) (xs:=z.ls.map λx=>V.ref x.a) (RwJ y z c g H3 H)
   ⟨v4,[],rfl,s4,zZ hgg Ä,by simp,by simp,by rw[List.take_zero];rfl⟩ (λj σ H' _ h=>(by obtain⟨_,_,_,s5⟩:=h;exact aa.of (s5 _ _ (jG hz)))) ?_ ?_⟩
  ·rintro j x σ H4 hj ⟨v4,ls,rfl,s5,F4,zo,VG,F5⟩;obtain⟨r,VH,rfl⟩:=iz hj;have wc:=bZ VH;have aqK:r.ns.length<=1000:=by
    have h1:r.ns∈z.m:=by unfold cb.m;exact cf.mpr ⟨r,wc,rfl⟩
    rw[mw] at h1;have h2:=MZ _ _ h1;grind
   have Fx:=s5 _ _ (mj hz wc);have VI:=s5 _ _ ET;have VJ:=jG F4;refine⟨_,rfl,.inl ⟨rfl,_,aa.of VJ⟩,_,rfl,c.a,rfl,⟨_,aa.of VI⟩,λD hD=>gC (K:=K) (a:=c.a) (xs:=iv (nv c.ns)) (jo H4 D λi=>r.ns++[c.ns.getD i 0]) Ċ (λi H' _ f=>aa.of (f.same _ _ VI)) (λn v H' hi f=>?_) (λH5 f=>?_)⟩
   ·obtain⟨m,hm,rfl⟩:=nN hi;have zO:=(bO.mp hm).1;refine⟨rfl,eO ⟨_,rfl,_,rfl,(by show 1<=sizeLine;decide),λq hq=>⟨r.a,q,_,_,rfl,rfl,(aL hq) _ _ (f.same _ _ Fx),aq,?_,λq2 xA=>?_⟩⟩⟩
    ·rw[eZ,jF];exact tU (gV (by grind))
    ·refine jo.step hD Æ f ((aL hq).trans (aL xA)) ((aL hq).free xA) ?_;rw[aq,getD_at hm];simp
   ·obtain⟨d,hda,s6,VL,lN,Jn⟩:=jo.end hD f;rw[eZ,jF] at VL;have hg5:=s6 _ _ VJ;have sU:∀x∈d.ls,x.a≠g:=λx hx z=>by
     have h1:=Jn (x.a,_) (by unfold eT;exact aO _ (kC.mpr ⟨x,hx,by simp[lsN];rfl⟩));simp_all
    have ajM:d.m=c.ns.map λn=>r.ns++[n]:=by
     rw[VL];exact wk (l:=c.ns) (g:=λn=>r.ns++[n]) (d:=0)
    have et:o7 (z.m.take (j+1)) c.ns=ls.map cV.ns++d.m:=by
     have e1:z.m[j]? =some r.ns:=by unfold cb.m;rw[bW,VH];rfl
     rw[take_snoc e1,F5,ajM];unfold o7;simp
    refine⟨g,D,_,_,rfl,rfl,hg5,(by rw[<-hda];exact jG lN),?_,_,ls++d.ls,rfl,fm (s5.trans s6) M0,zZ ?_ ?_,?_,?_,?_⟩
    ·have h1:=cE List.length et;rw[mU,aA,iA] at h1;have h2:(o7 (z.m.take (j+1)) c.ns).length<=1024:=by
      rw[MY];rw[MY] at A3;refine gQ (Nat.mul_le_mul_right _ ?_) A3;grind
     rw[aA,aA];exact tU (gV (by grind))
    ·rw[aq,bX]
    ·intro x hx;rcases gR.mp hx with hx|hx
     ·rw[ao (zo x hx)];exact s6 _ _ (mj F4 hx)
     ·rw[ao (sU x hx)];exact mj lN hx
    ·grind
    ·intro x hx;rcases gR.mp hx with hx|hx
     ·simp_all
     ·exact λw hw=>(s3.trans s5).free (Jn w (by unfold eT;exact aO _ (kC.mpr ⟨x,hx,hw⟩)))
    ·rw[bX,et];rfl
  ·rintro σ H4 ⟨v4,ls,rfl,s5,F4,zo,VG,F5⟩;refine⟨_,rfl,⟨g,ls⟩,_,_,_,rfl,s3.trans s5,F4,BU (s3.free M0) VG,?_⟩;rw[aA,<-iA,mX] at F5;rw[VF];exact F5
 ·rintro σ H3 ⟨z,v2,v3,v4,rfl,s3,hz,Cq,mw⟩;rw[aA,<-iA,mX] at mw;exact⟨_,rfl,k H3 z s3 mw hz Cq⟩
end
theorem ajN(sames:LN)(l:cg):∀(st:hZ)(x:LN×hZ),nY sames st l=some x->x.1.length=l.length:=by
 induction l with
 |nil=>
  intro st x h;unfold nY at h;rw[<-aN h];rfl
 |cons p r ih=>
  intro st x h;unfold nY at h;split at h
  ·cases h
  ·split at h
   ·cases h
   ·rename_i y e;rw[<-aN h];show y.1.length+1=r.length+1;rw[ih _ _ e]
theorem VM(sames:LN)(l:List cg):∀(st:hZ)(x:bp×hZ),mr sames st l=some x->x.1.map List.length=l.map List.length:=by
 induction l with
 |nil=>
  intro st x h;unfold mr at h;rw[<-aN h];rfl
 |cons p r ih=>
  intro st x h;unfold mr at h;split at h
  ·cases h
  ·rename_i z ez;split at h
   ·cases h
   ·rename_i y e;rw[<-aN h,a0,a0,ih _ _ e,ajN sames p _ _ ez]
def VN{ms:aF}{rows hs:bp}(h:nZ ms rows=some (some hs)):hs.map List.length=rows.map List.length:=by
 unfold nZ at h;split at h
 ·simp_all
 ·split at h
  ·simp_all
  ·cases e:mr Ĩ Æk Ãn with
   |none=>simp_all
   |some x=>
    rw[e] at h;have h:=aN (aN h);rw[<-h,VM _ _ _ _ e];unfold mv fJ;rw[cQ];apply wO;intro i;rw[bW,bW,Yo,bW];cases er:rows[i]? with
    |none=>simp_all
    |some r=>
     rw[Hk.mpr (show rows[i]? =some (r,r).1/\rows[i]? =some (r,r).2 from⟨er,er⟩)];unfold ql;simp
def ajO(cs:bp):∀nums∈lj cs,∀(i n:Nat)(c:LN),nums[i]? =some n->cs[i]? =some c->n∈c:=by
 refine snoc_ind (P:=λcs=>∀nums∈lj cs,∀(i n:Nat)(c:LN),nums[i]? =some n->cs[i]? =some c->n∈c) (λnums h i n c h1 h2=>?_) (λl x ih nums h i n c h1 h2=>?_) cs
 ·simp at h2
 ·rw[F3] at h;unfold o7 at h;obtain⟨r,hr,h⟩:=kC.mp h;obtain⟨m,hm,rfl⟩:=cf.mp h;have Fu:=MZ l r hr;by_cases hi:i<l.length
  ·rw[G1 Æ] at h1;rw[G1 hi] at h2;exact ih r hr i n c h1 h2
  ·rw[OL Æ] at h1;rw[OL Æ] at h2;have e0:i-l.length=0:=by
    have:=(bO.mp h2).1;simpa using this
   rw[Fu,e0] at h1;rw[e0] at h2;cases h1;cases h2;exact hm
def ajP{hs rows:bp}(e:hs.map List.length=rows.map List.length){i:Nat}{h r:LN}(h1:hs[i]? =some h)(h2:rows[i]? =some r):h.length=r.length:=by
 have:=cE (λl=>l[i]?) e;simp only[bW,h1,h2] at this;simpa using this
def rE{α:Type}(H1:Hp)(D:Addr)(l:List α)(q:α->Bool)(g:α->V)(i:Nat)(H:Hp):Prop:=ai H1 H/\H D=some (.lst (((l.take i).filter q).map g))
def rE.zero{α:Type}{H1:Hp}{D:Addr}{l:List α}{q:α->Bool}{g:α->V}(hD:H1 D=none):rE H1 D l q g 0 ċ:=⟨aL hD,aq⟩
def rE.yes{α:Type}{H1 H H4:Hp}{D:Addr}{l:List α}{q:α->Bool}{g:α->V}{i:Nat}{x:α}{v:V}(hD:H1 D=none)(hi:i<1000000)(f:rE H1 D l q g i H)(s:ai H H4)(hx:l[i]? =some x)(h:q x=true)(hv:v=g x):jN D (rE H1 D l q g (i+1)) v H4:=by
 subst hv;refine⟨_,s _ _ f.2,?_,fm (f.1.trans s) hD,?_⟩
 ·rw[aA];have:=Hf q (l.take i);rw[mT] at this;exact gV Æ
 ·rw[aq,Fc hx,af h,bX];rfl
def rE.no(f:rE H1 D l q g i H)(s:ai H H4)(hx:l[i]? =some x)(h:¬q x=true):rE H1 D l q g (i+1) H4:=by
 refine⟨f.1.trans s,?_⟩;rw[Fc hx,ah h,jv];exact s _ _ f.2
theorem ajQ{α β:Type}{q:α->Option β}{l:List α}{i:Nat}{x:α}(h:l[i]? =some x):(l.take (i+1)).filterMap q=(l.take i).filterMap q++(match q x with|some y=>[y]|none=>[]):=by
 rw[take_snoc h,Yk];congr 1;cases e:q x with
 |none=>simp[e]
 |some y=>simp[e]
structure o8 where
 a:Addr
 dx:Addr
 nums:cV
 hs:cb
 sd:cV
def F6(r:o8):List (Str×V):=[("entries",.ref r.nums.a),("hoists",.ref r.hs.a),("sides",.ref r.sd.a)]
def z7(CR:Addr)(r:o8):jl:=(r.a,.ins CR r.dx (F6 r))::(lsN r.nums++(eT r.hs++lsN r.sd))
def VO{CR:Addr}{r:o8}{p:Addr×HO->Prop}(h1:p (r.a,.ins CR r.dx (F6 r)))(h2:∀x∈lsN r.nums,p x)(h3:∀x∈eT r.hs,p x)(h4:∀x∈lsN r.sd,p x):∀x∈z7 CR r,p x:=λx hx=>by
 rcases ba.mp hx with rfl|hx
 ·exact h1
 ·grind
def o8.m(r:o8):LN×bp×LN:=(r.nums.ns,r.hs.m,r.sd.ns)
abbrev Views:=List (Nat×List bp)
def my(ms:aF)(p:fX):Views:=(tj p.side).map λs=>(s,qk ms p.classes s p.ak)
def tm(GX:Views)(iK:List iG)(hs:bp):LN:=(GX.filter λv=>ml hs iK v.2).map (·.1)
def js(rows:bp)(nums:LN):bp:=nums.map λn=>rows.getD n []
def uW(ms:aF)(rows:bp)(iK:List iG)(GX:Views)(nums:LN):Option (LN×bp×LN):=match nZ ms (js rows nums) with
 |some (some hs)=>if tm GX iK hs=[] then none else some (nums,hs,tm GX iK hs)
 |_=>none
def j4(rows:bp)(iK:List iG):bp:=iK.map (rB rows)
def tp(rows:bp)(iK:List iG):Nat:=gZ ((j4 rows iK).map List.length)
def rF(ms:aF)(rows:bp)(p:fX):List (LN×bp×LN):=(uV (j4 rows p.ak)).filterMap (uW ms rows p.ak (my ms p))
def Cr(CR:Addr)(H:Hp)(q:Addr)(rs:List o8):Prop:=H q=some (.lst (rs.map λr=>V.ref r.a))/\∀r∈rs,aU H (z7 CR r)
inductive VQ(C:Cs)(CL CK fh CE CR CT:Addr)(vs:au)(H:Hp)(Q:VK)(E:XK):Prop
 |mk (l:uE) (b:qt) (p:eP) (_:vs=[.ref l.a,.ref b.a,.ref p.a]) (_:uT CL CK H l) (_:ya fh CE H b) (_:wm C H p) (_:FY Ò Ü) (_:(tp Ü p.m.ak<=1024->∀H' q rs,ai H H'->rs.map o8.m=rF Ò Ü p.m->Cr CR H' q rs->Q Èo H')) (_:(1024<tp Ü p.m.ak->No E CT H))
section
variable{P:Pg}{w:Wd}{K:FR}{mg:MG}{base:Heap}{CK CL CS N CV CP CB CE fh CR CT:Addr}{C:Cs}
def mz:bH ["locker","book","plate","choices","glimpse","choice","views","side","readings","numbers","hoists","number","sides","view"] ["locker","book","plate"] (aV Ku):=cw
inductive VR(CR:Addr)(l:uE)(b:qt)(p:eP)(y:cb)(D3 r:Addr)(H4:Hp)(z:cb)(i:Nat)(σ:L2.St)(H':Hp):Prop
 |mk (v9 yp xD:Option V) (rs:List o8) (_:σ=[some (.ref l.a),some Çd,some Âw,some Àq,none,none,some (.ref D3),none,some Âe,v9,yp,none,xD,none]) (_:ai H4 H') (_:aU H' (eT z)) (_:H' r=some (.lst (rs.map λx=>V.ref x.a))) (_:(∀x∈rs,aU H' (z7 CR x)/\∀y∈z7 CR x,y.1≠r)) (_:rs.length<=i) (_:rs.map o8.m=(z.m.take i).filterMap (uW Ò Ü ñ ų))
def ajR{f:Addr}{fd:FD}(F:br K "readings_of" "readings_of" Ku f fd)(X:ž "TooMuchInDoubt" CT N)(TC:ma K C)(TL:lg K CL ["name","kinds"])(TB:lg K fh ["name","entries"])(TE:lg K CE ["row","meaning"])(TV:lg K CV ["side","glimpses"])(tL:mg "len"=none)(cM:Cn mg "MOST_IN_DOUBT" (.int 1024))(dI:Ç 1 "entries_in_doubt" ["book","glimpse"] (MW C fh CE)) (dP:Ç 1 "product" ["numbers"] VA) (dV:Ç 4 "view_of" ["kinds","plate","side"] (LX C CK CV)) (dS:Ç 1 "sides_of" ["plate"] (VB C))(dA:Ç 1 "all_rows" ["choices"] VD) (dD:Ç 4 "display_told" ["kinds","rows"] (FP CK)) (dF:Ç 3 "fits" ["hoists","plate","view"] (Ma C CV)) (dR:ă "Reading" CR ["entries","hoists","sides"]):
  a7 P w K mg base ė 5 f fd ["locker","book","plate"] (VQ C CL CK fh CE CR CT):=by
 refine F.qO mz Â;obtain⟨l,b,p,rfl,hL,hB,hP,uU,k1,k2⟩:=h;refine⟨_,aB (uk (i:=3) (own:=[("glimpse",4)]) (te:=g9 (MW C fh CE) [] E0 (bh ϕ (bh Ãp dw))) rfl mz.nd rfl rfl Õ (eX Àk) Ë
   (λ_ _ _ _ _=>dJ 4 mz.nd) Ø (λ_ _ _ _ _=>bz dI (ae á ϡ)))
  (aB (dq (cI vt (bz dP (ae (eF (own:=[("choice",5)]) (te:=qH (Vz K) Èk) rfl mz.nd (eX ø) Ë
   (λ_ _ _ _ _=>dJ 5 mz.nd) Ø (λ_ _ _ _ _=>c8 fU Õ tL PySem.boot_len ţ)) ag)) (b9 cM) (bT _)) Ð d7)
  (aB (uk (i:=6) (own:=[("side",7)]) (te:=g9 (LX C CK CV) [] E0 (bh (gi K ό "kinds") (bh ŗ (bh Èm dw)))) rfl mz.nd rfl rfl Õ (eX (bz dS Ţ)) Ë
   (λ_ _ _ _ _=>dJ 7 mz.nd) Ø (λ_ _ _ _ _=>bz dV (ae ï (ae è (ae Ål ag)))))
  (aB (cj 8 mz.nd Ĵ)
  (aB (m9 (Re xt) rfl (eX (bz dA ĳ)) (dJ 9 mz.nd)
   (aB (cj 10 mz.nd (bz dD (ae ï (ae (eF (own:=[("number",11)]) (te:=gi K (bU ϋ (gi K ϕ "entries") (ay 11)) "row") rfl mz.nd (eX (pv 9)) Ë
    (λ_ _ _ _ _=>dJ 11 mz.nd) Ø (λ_ _ _ _ _=>bg (cA cY ĕ (pv 11) Ù) rfl)) ag))))
   (aB (cj 12 mz.nd (rW (ot (qD (pv 10))) Ĵ (eF (own:=[("view",13)]) (tt:=ng (g9 (Ma C CV) [] E0 (bh (ay 10) (bh ŗ (bh (ay 13) dw))))) (te:=gi K (ay 13) "side") rfl mz.nd (eX Ãl) Ë
    (λ_ _ _ _ _=>dJ 13 mz.nd) (λ_ _ _ _ _=>pL (jx (bz dF (ae (pv 10) (ae è (ae (pv 13) ag)))))) (λ_ _ _ _ _=>bg (pv 13) rfl))))
   (aD (dq (cI (Bq hr.units) (pv 12) Ĵ (bT _)) (aD (rX (ß (pv 8) (ae (p7 dR hr (ae (pv 9) (ae (pv 10) (ae (pv 12) ag)))) ag)))) d7)))))
  (aD (aY (pv 8))))))),?_⟩
 have hgf:=hP.dc;refine⟨_,rfl,bj hP.l.pl TC.cP TC.nE Ån ⟨p.gl,rfl,⟨_,aa.of hP.l.gl⟩,λD hD=>gC (K:=K) (a:=p.gl) (xs:=p.ak.map λg=>V.ref g.a) (jo H D λi=>(j4 Ü ñ).getD i []) Ċ (λi H' _ f=>aa.of (f.same _ _ hP.l.gl)) (λi v H' hi f=>?_) (λH1 f=>?_)⟩⟩
 ·obtain⟨g,hg,rfl⟩:=iz hi;have d8:=(bO.mp hg).1;refine⟨rfl,eO ⟨_,rfl,_,rfl,b,g,rfl,hB.same f.same,(hP.l.sub (bZ hg)).same f.same,λH3 q n=>jo.step hD Æ f n.1 n.2.1 ?_⟩⟩;rw[n.2.2];unfold j4;simp_all
 obtain⟨y,eya,s1,rD,hy,U7⟩:=jo.end hD f;subst eya;rw[aA] at rD;have gH:(j4 Ü ñ).length=p.ak.length:=by
  unfold j4;simp
 have rD:y.m=j4 Ü ñ:=by
  rw[rD,<-gH];have:=wk (l:=j4 Ü ñ) (g:=λx=>x) (d:=[]);simp_all
 have si:y.ls.length=p.ak.length:=by rw[<-iA,rD,gH]
 have yY:∀c∈y.m,c.length<=2048:=λc hc=>by
  rw[rD] at hc;unfold j4 at hc;obtain⟨g,_,rfl⟩:=cf.mp hc;unfold rB;have h1:=Hf (z6 Ü g.above g.below g.flags.length) (List.range (b.es.map bq.row).length);rw[g7,aA] at h1;have:=hB.e.dc;grind
 refine⟨_,rfl,y.a,rfl,⟨_,aa.of (jG hy)⟩,λD2 cJ=>gC (K:=K) (a:=y.a) (xs:=y.ls.map λx=>V.ref x.a) (fC H1 D2 λi=>(((y.m.getD i []).length:Nat):Int)) (fC.zero cJ) (λi H' _ f=>aa.of (f.1 _ _ (jG hy))) (λi v H' hi f2=>?_) (λH2 f2=>?_)⟩
 ·obtain⟨x,hx,rfl⟩:=iz hi;have d8:=(bO.mp hx).1;refine⟨rfl,eO ⟨_,rfl,x.a,_,rfl,.inl (aa.of (f2.1 _ _ (mj hy (bZ hx)))),fC.step cJ Æ f2 Ĺ ?_⟩⟩;rw[eZ,jF,BW hx]
 have s2:=s1.trans f2.1;have fO:=f2.2;rw[aA,<-iA] at fO;have zr:(List.range y.m.length).map (λi=>(((y.m.getD i []).length:Nat):Int))=nv ů:=by
  unfold nv;rw[cQ];exact wk (l:=y.m) (g:=λc=>((c.length:Nat):Int)) (d:=[])
 rw[zr] at fO;have edd:tp Ü p.m.ak=gZ ů:=by
  rw[rD];rfl
 rw[edd] at k1 k2;refine⟨D2,_,rfl,fO,λn hn=>?_,_,_,rfl,rfl,_,rfl,a8 Ï Ï⟩
 ·grind
 ·have hc:1024<gZ ů:=by
   grind
  exact gJ ((k2 hc).go s2)
 have hc:gZ ů<=1024:=by
  grind
 have k1:=k1 hc;have VS:=hP.same s2;have mi:=hL.same s2;refine⟨_,rfl,p,rfl,VS.l,λH3 q n3=>⟨q,rfl,⟨_,aa.of n3.2.2⟩,λD3 rq=>gC (K:=K) (a:=q) (xs:=iv (nv Ço)) (nP (qj CV) uK.a (λi v=>∀s,Ço[i]? =some s->v.side=s/\v.gs.map cb.m=qk Ò p.classes s ñ) H3 D3) (cy.zero rq) (λi H' _ f=>aa.of (f.same _ _ n3.2.2)) (λi v H' hi f3=>?_) (λH4 f3=>?_)⟩⟩
 ·obtain⟨sd,sP,rfl⟩:=nN hi;have d8:=(bO.mp sP).1;have A2:(tj p.side).length<=2:=by
   unfold tj;grind
  have s3:=n3.1.trans f3.same;refine⟨rfl,eO ⟨_,rfl,bj (BQ (mi.same s3).lies) TL.1 (TL.2 _ Ä) (E2 l) ⟨_,rfl,_,rfl,l.kl,l.kinds,p,sd,rfl,(mi.same s3).ks,VS.same s3,λH5 v s5 e1 e2 lv fv=>?_⟩⟩⟩;refine nP.step rq Æ f3 s5 v (λs hs=>?_) lv fv;grind
 obtain⟨vs,Il,s3,ajU,VT,hvL,hvF⟩:=nP.end f3;rw[eZ,jF] at Il;have s4:=s2.trans (n3.1.trans s3);refine⟨dY _,λr sX=>?_⟩;have s5:ai H4 (upd H4 r ã):=aL sX;have zP:(upd H4 r ã) r=some ã:=aq;have aqN:∀b o,H4 b=some o->b≠r:=λb o e z=>by rw[z,sX] at e;cases e
 generalize upd H4 r ã=H5 at s5 zP;have hy5:=(hy.same f2.1).same ((n3.1.trans s3).trans s5);refine⟨_,rfl,y,rfl,hy5,by omega,λx hx=>?_,λ_=>hc,λH6 z s6 mw hz Cq=>?_⟩
 ·have:=yY x.ns (by unfold cb.m;exact cf.mpr ⟨x,hx,rfl⟩);omega
 have sR:z.a≠r:=λe=>by
  have h1:=Cq (z.a,_) (gy ..);grind
 have VU:∀x∈eT z,x.1≠r:=λx hx e=>by
  have h1:=Cq x hx;grind
 have s46:=s5.trans s6;have hr6:=s6 _ _ zP;have eR:rF Ò Ü p.m=z.m.filterMap (uW Ò Ü ñ ų):=by
  rw[mw,rD];rfl
 rw[eR] at k1;have aqO:z.ls.length<=1024:=by
  rw[<-iA,mw];unfold uV;split
  ·simp
  ·rw[VC];omega
 refine⟨z.a,rfl,⟨_,aa.of (jG hz)⟩,wZ (K:=K) (a:=z.a) (xs:=z.ls.map λx=>V.ref x.a) (VR CR l b p y D3 r H4 z)
  ⟨none,none,none,[],rfl,s46,hz,hr6,by simp,bJ _,rfl⟩ (λi σ H' _ h=>(by obtain⟨_,_,_,_,_,_,h⟩:=h;exact aa.of (jG h))) ?_ ?_⟩
 ·rintro i v σ H7 hi ⟨v9,yp,xD,rs,rfl,s7,F7,M3,yc,ajZ,F8⟩;obtain⟨x,hx,rfl⟩:=iz hi;have gv:=bZ hx;have d8:=(bO.mp hx).1;have VV:x.ns∈z.m:=by unfold cb.m;exact cf.mpr ⟨x,gv,rfl⟩
  have hzi:z.m[i]? =some x.ns:=by unfold cb.m;rw[bW,hx];rfl
  have Cb:x.ns∈lj y.m:=by
   rw[mw] at VV;unfold uV at VV;grind
  have nU:x.ns.length=p.ak.length:=by rw[MZ _ _ Cb,rD,gH]
  have jS:=mj F7 gv;have VW:∀(j n:Nat)(g:ck),x.ns[j]? =some n->p.ak[j]? =some g->∃e,b.es[n]? =some e/\g.flags.length<=e.row.length:=λj n g h1 h2=>by
   have h3:=ajO y.m x.ns Cb j n (rB Ü g.m) h1 (by rw[rD];unfold j4;rw[bW,bW,h2];rfl);unfold rB at h3;obtain⟨h4,h5⟩:=j8.mp h3;simp at h4;refine⟨b.es[n],dm h4,?_⟩;unfold z6 mx at h5;rw[getD_map (dm h4)] at h5;have eg:g.m.flags.length=g.flags.length:=by unfold ck.m;rw[aA]
   grind
  have hes:∀n∈x.ns,∃e,b.es[n]? =some e:=λn hn=>by
   obtain⟨j,hj,e⟩:=rM hn;obtain⟨e',h',_⟩:=VW j n p.ak[j] (by grind) (dm Æ);grind
  have F9:=s4.trans s7;have hL7:=hL.same F9;have hB7:=hB.same F9;have hP7:=hP.same F9;refine⟨_,rfl,bj (BQ hL7.lies) TL.1 (TL.2 _ Ä) (E2 l) ⟨_,rfl,x.a,rfl,⟨_,aa.of jS⟩,λD8 FV=>gC (K:=K) (a:=x.a) (xs:=iv (nv x.ns)) (cy H7 D8 λi v ns=>∃e:bq,(∀n,x.ns[i]? =some n->b.es[n]? =some e)/\v=.ref e.rw/\ns=[]) (cy.zero FV) (λi H' _ f=>aa.of (f.same _ _ jS)) (λj v H' hi f8=>?_) (λH8 f8=>?_)⟩⟩
  ·obtain⟨n,hn,rfl⟩:=nN hi;have vy:=(bO.mp hn).1;obtain⟨e,he⟩:=hes n (bZ hn);have Cu:=hB7.same f8.same;have j7:=Cu.e.l e (bZ he);refine⟨rfl,eO ⟨_,rfl,bj Cu.a TB.1 (TB.2 _ Ä) (Vv b) ⟨_,rfl,b.el,_,(n:Int),.ref e.a,rfl,rfl,aa.of Cu.e.a,fT (by grind),bj (Cm j7) TE.1 (TE.2 _ Ä) (Ck e) ?_⟩⟩⟩;refine f8.step FV Æ Ĺ ⟨e,λn' Pn=>?_,rfl,rfl⟩ aU.nil Ä;grind
  obtain⟨ys,s8,hd8,VX,fl⟩:=f8.end;obtain⟨bs,rfl,r8,_⟩:=xP (v:=λe:bq=>V.ref e.rw) (nd:=λ_=>[]) (R:=λi e=>∀n,x.ns[i]? =some n->b.es[n]? =some e) fl;rw[aA,eZ,jF] at VX;have AE:∀(j:Nat)(e:bq),bs[j]? =some e->∃n,x.ns[j]? =some n/\b.es[n]? =some e:=λj e he=>by
   have h1:=(bO.mp he).1;exact⟨x.ns[j]' Æ,dm _,r8 j e he _ (dm _)⟩
  have vL:∀e∈bs,e∈b.es:=λe he=>by
   obtain⟨j,hj,rfl⟩:=rM he;obtain⟨n,_,h2⟩:=AE j _ (dm hj);grind
  have M4:=F9.trans s8;have M5:=hL.same M4;have Cu:=hB.same M4;have hP8:=hP.same M4;have uI:=s8 _ _ M3;have e2m:(⟨D8,bs.map λe=>⟨e.rw,e.row⟩⟩:cb).m=js Ü x.ns:=by
   unfold cb.m js;rw[cQ];refine Fp VX λj e n h1 h2=>?_;grind
  have z5:∀i0∈js Ü x.ns,i0∈b.es.map bq.row:=λi0 h=>by
   rw[<-e2m] at h;unfold cb.m at h;grind
  have hy2:Ml H8 ⟨D8,bs.map λe=>⟨e.rw,e.row⟩⟩ l.kinds.length:=by
   refine⟨zZ (by rw[cQ];exact hd8) λw hw=>?_,by grind,λw hw=>?_,λw hw=>?_⟩
   all_goals obtain⟨e,he,rfl⟩:=cf.mp hw
   ·exact Co (Cu.e.l e (vL e he))
   ·have:=uU.short e.row (cf.mpr ⟨e,vL e he,rfl⟩);grind
   ·intro s hs;have:=uU.lt e.row (cf.mpr ⟨e,vL e he,rfl⟩) s hs;grind
  have gc:((⟨D8,bs.map λe=>⟨e.rw,e.row⟩⟩:cb).m.flatten).length<=1000:=by
   have h1:∀(L:bp),(∀w∈L,w.length<=8)->L.flatten.length<=8*L.length:=by
    intro L;induction L with
    |nil=>simp
    |cons a L ih=>
     grind
   have h2:=h1 (⟨D8,bs.map λe=>⟨e.rw,e.row⟩⟩:cb).m λw hw=>uU.short w (z5 w (by grind));rw[iA] at h2;grind
  have VY:=ajQ (q:=uW Ò Ü ñ ų) hzi;have rG:uW Ò Ü ñ ų x.ns=match nZ Ò (js Ü x.ns) with
   |some (some hs)=>if tm ų ñ hs=[] then none else some (x.ns,hs,tm ų ñ hs)
   |_=>none:=rfl
  generalize uW Ò Ü ñ ų x.ns=Ei at VY rG;have skip:Ei=none->∀(H':Hp)(VZ V0:Option V),ai H8 H'->VR CR l b p y D3 r H4 z (i+1) [some (.ref l.a),some Çd,some Âw,some Àq,none,none,some (.ref D3),none,some Âe,some (.ref x.a),VZ,none,V0,none] H':=λen H' VZ V0 s'=>by
   refine⟨_,_,_,rs,rfl,(s7.trans s8).trans s',F7.same (s8.trans s'),s' _ _ uI,λw hw=>⟨(yc w hw).1.same (s8.trans s'),(yc w hw).2⟩,by omega,?_⟩;grind
  cases ed:nZ Ò (js Ü x.ns) with
  |none=>exact absurd ed (M5.sh _ λi0 hr s hs=>uU.sg i0 (z5 i0 hr) s hs)
  |some ro=>
  rw[ed] at rG;refine⟨l.kl,l.kinds,_,ro,rfl,M5.ks,M5.ms,hy2,gc,by grind,λhs eh H9 zz s9 M6 x6 fzz=>?_,λeh H9 s9=>?_⟩
  ·subst eh;have rG:Ei=if tm ų ñ hs=[] then none else some (x.ns,hs,tm ų ñ hs):=rG;have V1:∀w∈eT zz,w.1≠r:=λw hw e=>by
    have h1:=fzz w hw;grind
   have hr9:=s9 _ _ uI;have evs:vs.map (λv=>(v.side,v.gs.map cb.m))=my Ò p.m:=Fp Il λi v sd h1 h2=>by
    obtain⟨h3,h4⟩:=VT i v h1 sd h2;rw[h3,h4];rfl
   have esf:tm ų ñ hs=(vs.filter λv=>ml hs ñ ϫ).map uK.side:=by
    rw[<-evs];unfold tm;rw[yu,cQ];rfl
   rw[esf] at rG;have V2:=λv hv=>(hvL v hv).same ((s7.trans s8).trans s9);have V3:=((s7.trans s8).trans s9) _ _ ajU;have cK:=VN ed;have hhl:hs.length=p.ak.length:=by
    have:=cE List.length cK;rw[aA,aA] at this;rw[this];unfold js;grind
   have akd:zz.ls.length=p.ak.length:=by rw[<-iA,M6,hhl]
   refine⟨_,rfl,_,rfl,nu ⟨_,rfl,D3,rfl,⟨_,aa.of V3⟩,λD9 Ga=>gC (K:=K) (a:=D3) (xs:=vs.map λv=>V.ref v.a) (rE H9 D9 vs (λv=>ml hs ñ ϫ) λv=>V.int (v.side:Nat)) (rE.zero Ga) (λi H' _ f=>aa.of (f.1 _ _ V3)) (λj v H' hi f9=>?_) (λDQ f9=>?_)⟩⟩
   ·obtain⟨v,hv,rfl⟩:=iz hi;have V4:=bZ hv;have vy:=(bO.mp hv).1;have A2:(tj p.side).length<=2:=by
     unfold tj;grind
    obtain⟨sd,sP⟩:∃sd,Ço[j]? =some sd:=⟨_,dm Æ⟩;have yN:=(VT j v hv sd sP).2;have ake:v.gs.length=p.ak.length:=by
     have:=cE List.length yN;unfold qk at this;grind
    refine⟨rfl,_,rfl,_,rfl,_,rfl,zz,p,v,rfl,x6.same f9.1,(hP8.same s9).same f9.1,(V2 v V4).same f9.1,akd,ake,λm h g s h1 h2 h3=>?_,λH' s'=>đ⟩
    ·have e1:hs[m]? =some h.ns:=by rw[<-M6];unfold cb.m;rw[bW,h1];rfl
     have A3:=(bO.mp h2).1;obtain⟨n,hn⟩:∃n,x.ns[m]? =some n:=⟨_,dm Æ⟩;obtain⟨e,he,hfe⟩:=VW m n g hn h2;have e2:(js Ü x.ns)[m]? =some e.row:=by
      unfold js;grind
     have e3:=ajP cK e1 e2;have e4:=uU.short e.row (cf.mpr ⟨e,bZ he,rfl⟩);refine⟨?_,by omega,by omega⟩;have e5:ϫ[m]? =some s.m:=by rw[bW,h3];rfl
     rw[yN] at e5;unfold qk at e5;rw[bW,bW,h2] at e5;have e5:=aN e5;have e6:=cE List.length e5;unfold xW ck.m at e6;rw[aA,aA,iA] at e6;omega
    ·rw[M6];refine a8 Ï Ï
     ·have yJ:=(V2 v V4).same (f9.1.trans s');exact⟨_,rfl,bj (Ul yJ) TV.1 (TV.2 _ Ä) (ahD v) (rE.yes Ga Æ f9 s' hv hc rfl)⟩
     ·exact f9.no s' hv hc
   ·have oB:=f9.1;have z8:=f9.2;rw[aA,mX] at z8;have z8:DQ D9=some (.lst (iv (nv ((vs.filter λv=>ml hs ñ ϫ).map uK.side)))):=by
     rw[z8];simp
    generalize ((vs.filter λv=>ml hs ñ ϫ).map uK.side)=sds at rG z8;refine⟨_,rfl,dY _,λe he=>⟨D9,e,_,rfl,rfl,aa.of ((Çx) _ _ z8),aa.of aq,_,rfl,a8 (λaQ=>?_) (λaQ=>?_)⟩⟩
    ·have aQ:¬sds=[]:=λz=>by
      grind
     rw[ah aQ] at rG;have kW:ai H8 (upd DQ e ã):=(s9.trans oB).trans Çx;have V5:=(aL (o:=.lst []) he) _ _ z8;have V6:=(x6.same oB).same (aL (o:=.lst []) he);generalize upd DQ e ã=Bp at kW V5 V6;have M7:=kW _ _ uI;refine⟨_,rfl,.inl ⟨rfl,_,aa.of M7⟩,_,rfl,_,rfl,_,rfl,?_⟩;intro a dx ha i5 aqR;refine⟨a,dx,[.ref x.a,.ref zz.a,.ref D9],rfl,rfl,aq,λH12 e12 e2=>ŕ⟩;have e9:=λb o eb=>e2 b o (by rw[ao (eK eb ha),ao (eK eb i5)];exact eb) (eK eb ha);have akh:=e9 _ _ M7;have V7:a≠r:=λz=>by rw[z,M7] at ha;cases ha
     have hDr:D9≠r:=λz=>by rw[z,hr9] at Ga;cases Ga
     have Gb:=s8.trans (kW.trans e9);have aqS:=Gb _ _ jS;have V8:=λw hw=>VU w (by unfold eT;exact aO _ (kC.mpr ⟨x,gv,hw⟩));refine⟨r,_,_,rfl,rfl,akh,by rw[aA];exact gV Æ,_,_,_,rs++[⟨a,dx,x,zz,⟨D9,sds⟩⟩],rfl,fm (s7.trans Gb) sX,λw hw=>?_,?_,λw hw=>?_,by grind,?_⟩
     ·rw[ao (VU w hw)];exact(F7.same Gb) w hw
     ·rw[aq,bX];rfl
     ·rcases gR.mp hw with hw|hw
      ·exact⟨λq hq=>by rw[ao ((yc w hw).2 q hq)];exact((yc w hw).1.same Gb) q hq,(yc w hw).2⟩
      ·obtain rfl:w=_:=by simpa using hw
       refine⟨VO (by show upd H12 r _ a=_;rw[ao V7];exact e12) Åy Åy Åy,VO V7 V8 V1 Åy⟩
       ·rw[ao (V8 q hq)];simp only[lsN,mV] at hq;grind
       ·rw[ao (V1 q hq)];exact(V6.same e9) q hq
       ·simp only[lsN,mV] at hq;subst hq;rw[ao hDr];exact e9 _ _ V5
       ·simp only[lsN,mV] at hq;grind
     ·rw[VY,rG,bX,F8];show _++[(x.ns,zz.m,sds)]=_;grind
    ·have aQ:sds=[]:=by
      cases sds with
      |nil=>rfl
      |cons a b=>grind
     rw[af aQ] at rG;exact skip rG _ _ _ ((s9.trans oB).trans Çx)
  ·subst eh;refine⟨_,rfl,_,rfl,kZ ⟨dY _,λd hd=>⟨_,rfl,dY _,λe he=>⟨d,e,_,rfl,rfl,aa.of ((Çx) _ _ aq),aa.of aq,_,rfl,nu (skip rG _ _ _ (s9.trans ((aL hd).trans Çx)))⟩⟩⟩⟩
 ·rintro σ H7 ⟨v9,yp,xD,rs,rfl,s7,F7,M3,yc,ajZ,F8⟩;rw[aA,<-iA,mX] at F8;exact⟨_,rfl,k1 H7 r rs (s4.trans s7) F8 ⟨M3,λx hx=>(yc x hx).1⟩⟩
end
structure Gc(ms:aF):Prop where
 look:∀k∈ms,iM k.look
 mo:wu ms
 sh:∀rows,(∀r∈rows,∀s∈r,jH ms s=true)->nZ ms rows≠none
structure Gd(m:fX):Prop where
 xX:m.classes.length=16
 dc:m.ak.length<=100
 flags:∀g∈m.ak,g.flags.length<=100
 cells:∀g∈m.ak,∀s∈g.flags,s.2.length=16
structure Cv where
 a:Addr
 dx:Addr
 q:Addr
 l:uE
 b:qt
 p:eP
 rs:List o8
def M8(f:Cv):List (Str×V):=[("locker",.ref f.l.a),("book",.ref f.b.a),("plate",.ref f.p.a),("readings",.ref f.q)]
def V9(f:Cv):(M8 f).lookup ("readings":Str)=some (.ref f.q):=(fY Ê).trans ((fY Ê).trans ((fY Ê).trans il))
structure Kn where
 C:Cs
 CL:Addr
 CK:Addr
 fh:Addr
 CE:Addr
 CR:Addr
 CF:Addr
structure Wa(k:Kn)(H:Hp)(f:Cv):Prop where
 a:H f.a=some (.ins k.CF f.dx (M8 f))
 l:uT k.CL k.CK H f.l
 b:ya k.fh k.CE H f.b
 p:wm k.C H f.p
 rs:Cr k.CR H f.q f.rs
def Cr.same{CR:Addr}{H H':Hp}{q:Addr}{rs:List o8}(h:Cr CR H q rs)(s:ai H H'):Cr CR H' q rs:=⟨s _ _ h.1,λr hr=>(h.2 r hr).same s⟩
structure Wb(f:Cv)(x:LI×aF)(y:LI×List (LN×LI))(m:fX):Prop where
 n:f.l.name=x.1
 k:f.l.kinds.map az.m=x.2
 b:f.b.m=y
 p:f.p.m=m
 r:f.rs.map o8.m=rF x.2 (y.2.map (·.1)) m
inductive Wc(K:FR)(k:Kn)(CN CB mG CT:Addr)(vs:au)(H:Hp)(Q:VK)(E:XK):Prop
 |mk (at_ ab ap:Addr) (t b p:LI) (_:vs=[.ref at_,.ref ab,.ref ap]) (_:â at_ (iv t)) (_:â ab (iv b)) (_:â ap (iv p)) (_:t.length<=66000) (_:b.length<=66000) (_:p.length<=66000) (_:(∀x,fZ t=some x->Gc x.2)) (_:(∀m,gW p=.ok m->Gd m)) (_:(fZ t=none->No E CN H)) (_:∀x,fZ t=some x->(j3 x.1 x.2 b=none->No E CB H)/\∀y,j3 x.1 x.2 b=some y->(∀e,gW p=.error e->∀H' d,ai H H'->H' d=some (uu d (K1 e.1 e.2))->E (.ref mG) (some d) H')/\∀m,gW p=.ok m->(1024<tp (y.2.map (·.1)) m.ak->No E CT H)/\(tp (y.2.map (·.1)) m.ak<=1024->∀H' f,ai H H'->Wa k H' f->Wb f x y m->Q (.ref f.a) H'))
section
variable{P:Pg}{w:Wd}{K:FR}{mg:MG}{base:Heap}{CN CB mG CT CF:Addr}{k:Kn}
def Ge:bH ["t","b","p","locker","book","plate"] ["t","b","p"] (aV KB):=cw
def akj(F:br K "found" "found" KB f fd)(dL:ĉ ė 6 "read_locker" ["text"] (Tv K k.CL k.CK CN))(dB:ĉ ė 6 "read_book" ["locker","text"] (Vw K k.CL k.CK CB k.CE k.fh))(dP:ĉ ė 6 "read_plate" ["text"] (SX K k.C mG))(dR:ĉ ė 5 "readings_of" ["locker","book","plate"] (VQ k.C k.CL k.CK k.fh k.CE k.CR CT)) (dF:ă "Finding" k.CF ["locker","book","plate","readings"]):Ì ė 7 f fd ["t","b","p"] (Wc K k CN CB mG CT):=by
 obtain⟨fL,fdL,GL,mL,kL,bL⟩:=dL;obtain⟨fB,fdB,GB,mB,kB,bB⟩:=dB;obtain⟨fP,KI,GP,mP,kP,bP⟩:=dP;obtain⟨fR,fdR,GR,mR,kR,bR⟩:=dR;refine F.qO Ge Â;obtain⟨at_,ab,ap,t,b,p,rfl,hT,hB,hP,lT,lB,lP,gL,gP,k1,k2⟩:=h;have hr5:dv 5 _:=hr.mono Ú;refine⟨_,aB (cj 3 Ge.nd (lY GL hr rfl mL kL bL .nil qN ó))
  (aB (cj 4 Ge.nd (lY GB hr rfl mB kB bB .nil qN (ae ø Œ)))
  (aB (cj 5 Ge.nd (lY GP hr rfl mP kP bP .nil qN Ţ))
  (aD (aY (p7 dF hr (ae ø (ae Ĳ (ae Äd (ae (lY GR hr5 rfl mR kR bR .nil qN (ae ø (ae Ĳ ţ))) ag))))))))),?_⟩
 refine⟨_,rfl,at_,t,rfl,hT,lT,λx ex H1 l s1 e1 e2 hl lk=>?_,k1⟩;obtain⟨k2,k3⟩:=k2 x ex;have Al:=gL x ex;have hL:uT k.CL k.CK H1 l:=by
  rw[<-e2] at Al;exact⟨hl,lk,λq hq=>Al.look q.m (cf.mpr ⟨q,hq,rfl⟩),Al.mo,Al.sh⟩
 refine⟨_,rfl,_,rfl,l,ab,b,rfl,hL,s1.seq hB,lB,λy ey H2 bk s2 e3 hb rs=>?_,λen=>?_⟩
 ·rw[e1,e2] at ey;obtain⟨k3,k4⟩:=k3 y ey;have e9:=s1.trans s2;refine⟨_,rfl,ap,p,rfl,e9.seq hP,lP,λm em H3 pl s3 hp e4=>?_,λe ee H3 d s3 hd=>k3 e ee H3 d (e9.trans s3) hd⟩;obtain⟨k4,k5⟩:=k4 m em;have gp:=gP m em;have p9:=e9.trans s3;have We:wm k.C H3 pl:=by
   subst e4;exact⟨hp,gp.xX,by have:=gp.dc;unfold eP.m at this;rw[aA] at this;exact this,λg hg=>(by have:=gp.flags g.m (cf.mpr ⟨g,hg,rfl⟩);unfold ck.m at this;rw[aA] at this;exact this),λg hg s hs=>gp.cells g.m (cf.mpr ⟨g,hg,rfl⟩) s.m (cf.mpr ⟨s,hs,rfl⟩)⟩
  have M9:bk.es.map bq.row=y.2.map (·.1):=by
   rw[<-e3];unfold qt.m;rw[cQ];rfl
  refine⟨_,rfl,_,rfl,_,rfl,_,rfl,_,rfl,_,rfl,l,bk,pl,rfl,(hL.same s2).same s3,hb.same s3,We,rs,λhd H4 q rds s4 e5 hr4=>?_,λhd=>?_⟩
  ·rw[M9,e4] at hd;rw[M9,e2,e4] at e5;refine vW rfl λa dx H5 ha i5 aQ e6 s5=>?_;refine k5 hd H5 ⟨a,dx,q,l,bk,pl,rds⟩ ((p9.trans s4).trans s5) ⟨e6,(((hL.same s2).same s3).same s4).same s5,((hb.same s3).same s4).same s5,(We.same s4).same s5,hr4.same s5⟩ ⟨e1,e2,e3,e4,e5⟩
  ·rw[M9,e4] at hd;exact(k4 hd).go p9
 ·rw[e1,e2] at en;exact(k2 en).go s1
end
def refusal(t b p:LI):Option Int:=if 65536<t.length\/65536<b.length\/65536<p.length then some (-2) else match fZ t with
 |none=>some (-6)
 |some x=>match j3 x.1 x.2 b with
  |none=>some (-9)
  |some y=>match gW p with
   |.error _=>some (-8)
   |.ok m=>if 1024<tp (y.2.map (·.1)) m.ak then some (-7) else none
def mx3(a b c:Nat):decide (zg (zg ((a:Nat):Int) ((b:Nat):Int)) ((c:Nat):Int)>65536)=decide (65536<a\/65536<b\/65536<c):=by
 rw[Yp];unfold zg;split <;> split <;> omega
inductive Wf(K:FR)(k:Kn)(q:Str)(fdOf:Addr->Value->FuncData)(u0:Sp)(vs:au)(H:Hp)(Q:VK)(E':XK):Prop
 |mk (at_ ab ap f:Addr) (t b p:LI) (_:vs=[.ref at_,.ref ab,.ref ap,.ref f]) (_:Bv H f q fdOf) (_:â at_ (iv t)) (_:â ab (iv b)) (_:â ap (iv p)) (_:t.length<=66000) (_:b.length<=66000) (_:p.length<=66000) (_:(∀x,fZ t=some x->Gc x.2)) (_:(∀m,gW p=.ok m->Gd m)) (_:(∀z,ū p=some z->∀H' r,H' r=some (.lst [.int z])->Q Âe H')) (_:(ū p=none->∀x y m,fZ t=some x->j3 x.1 x.2 b=some y->gW p=.ok m->∀H' f,ai H H'->Wa k H' f->Wb f x y m->u0 [.ref f.a] H' Q E0))
def Wg{fdOf:Addr->Value->FuncData}(h:Bv H f q fdOf)(s:ai H H'):Bv H' f q fdOf:=let ⟨c,iF,a,b⟩:=h;⟨c,iF,s _ _ a,s _ _ b⟩
abbrev Cw(n:Int):TS:=AM (yL (bh (DG (rU λi=>.int (-i)) (tC (.int n))) dw))
section
variable{P:Pg}{w:Wd}{K:FR}{mg:MG}{base:Heap}{CN CB mG CT CF N1 N2 N3 N4:Addr}{k:Kn}{q:Str}{fdOf:Addr->Value->FuncData}{u0:Sp}
def Wh:bH ["t","b","p","told","finding"] ["t","b","p","told"] (aV KA):=cw
def ako(F:br K "answered" "answered" KA f fd)(XN:ž "NoLocker" CN N1)(XB:ž "NoBook" CB N2)(XP:EW K mg mG N3)(XT:ž "TooMuchInDoubt" CT N4)(nd:[CN,CB,mG,CT].Nodup)(tL:mg "len"=none)(tM:mg "max"=none)(cM:Cn mg "MOST_BYTES" (.int 65536))(dF:ĉ ė 7 "found" ["t","b","p"] (Wc K k CN CB mG CT)) (L:Er P w K mg base 7 q fdOf ["finding"] u0):Ì aE 8 f fd ["t","b","p","told"] (Wf K k q fdOf u0):=by
 obtain⟨fF,aqW,GF,mF,kF,bF⟩:=dF;refine F.ok Wh Â;obtain⟨at_,ab,ap,lf,t,b,p,rfl,Wi,hT,hB,hP,lT,lB,lP,gL,gP,k1,k2⟩:=h;simp only[j9,ba,mY,mZ,not_or,not_false_eq_true,Ax,and_true] at nd;obtain⟨⟨n1,n2,n3⟩,⟨n4,n5⟩,n6⟩:=nd;refine⟨_,aB (dq (cI vt (c8 (aed rfl) Õ tM FC (ae Ć (ae ý (ae ü ag)))) (b9 cM) (bT _)) (aD ĝ) d7)
  (aB (acU ⟨rfl,rfl⟩ (acV (i:=4) Wh.nd rfl (Or.inl rfl) GF hr rfl mF kF bF (ae Û (ae á Ţ)))
   (Eg (ts:=Cw 6) XN.c rfl XN.mC Æb
   (Eg (ts:=Cw 9) XB.c rfl XB.mC Æb
   (Eg (ts:=Cw 8) XP.c rfl XP.mC Æb
   (Eg (ts:=Cw 7) XT.c rfl XT.mC Æb acP)))))
  (aD (aY (ad5 (i:=3) L hr rfl (Or.inl rfl) ϡ)))),?_⟩
 refine⟨_,rfl,at_,_,rfl,.inl hT,_,rfl,ab,_,rfl,.inl hB,_,rfl,ap,_,rfl,.inl hP,_,_,_,rfl,_,_,rfl,rfl,_,rfl,?_⟩;rw[eZ,eZ,eZ,mx3];have er:ū p=if 65536<t.length\/65536<b.length\/65536<p.length then some (-2) else match fZ t with
  |none=>some (-6)
  |some x=>match j3 x.1 x.2 b with
   |none=>some (-9)
   |some y=>match gW p with
    |.error _=>some (-8)
    |.ok m=>if 1024<tp (y.2.map (·.1)) m.ak then some (-7) else none:=rfl
 generalize refusal t b p=rf at er k1 k2;have C2:∀(z n:Int),rf=some z->z= -n->∀(D:Ends)(σ:L2.St)(H':Hp),(∀r oC,oC r=some (.lst [.int z])->D.rt Âe oC)->Cw n D σ H':=λz n _ e2 D σ H' hD=>by
  subst e2;exact⟨_,rfl,(by show 1<=sizeLine;decide),λr hr=>hD r _ aq⟩
 refine a8 Ï Ï
 ·have hc:65536<t.length\/65536<b.length\/65536<p.length:=by simpa using hc
  rw[af hc] at er;exact C2 _ _ er rfl _ _ _ λr H' e=>k1 _ er H' r e
 ·have hc:¬(65536<t.length\/65536<b.length\/65536<p.length):=by simpa using hc
  rw[ah hc] at er;refine⟨_,rfl,_,rfl,_,rfl,at_,ab,ap,t,b,p,rfl,hT,hB,hP,lT,lB,lP,gL,gP,λen H1 s1=>?_,λx ex=>⟨λen H1 s1=>?_,λy ey=>⟨λe ee H1 d s1 hd=>?_,λm em=>⟨λhd H1 s1=>?_,λhd H1 fd s1 ok is=>?_⟩⟩⟩⟩
  ·rw[en] at er;exact⟨CN,N1,rfl,XN.c,λa H3 i5 fl=>⟨λ_ H4 Na=>C2 _ _ er rfl _ _ _ λr H' e=>k1 _ er H' r e,λz=>absurd rfl z⟩⟩
  ·rw[ex] at er;dsimp only at er;rw[en] at er;exact⟨CB,N2,rfl,XB.c,λa H3 i5 fl=>⟨λz=>absurd z.symm n1,λ_=>⟨λ_ H4 Na=>C2 _ _ er rfl _ _ _ λr H' e=>k1 _ er H' r e,λz=>absurd rfl z⟩⟩⟩
  ·rw[ex] at er;dsimp only at er;rw[ey] at er;dsimp only at er;rw[ee] at er;exact⟨mG,N3,rfl,XP.c,λa H3 i5 fl=>⟨λz=>absurd z.symm n2,λ_=>⟨λz=>absurd z.symm n4,λ_=>⟨λ_ H4 Na=>C2 _ _ er rfl _ _ _ λr H' e=>k1 _ er H' r e,λz=>absurd rfl z⟩⟩⟩⟩
  ·rw[ex] at er;dsimp only at er;rw[ey] at er;dsimp only at er;rw[em] at er;dsimp only at er;rw[af hd] at er;exact⟨CT,N4,rfl,XT.c,λa H3 i5 fl=>⟨λz=>absurd z.symm n3,λ_=>⟨λz=>absurd z.symm n5,λ_=>⟨λz=>absurd z.symm n6,λ_=>⟨λ_ H4 Na=>C2 _ _ er rfl _ _ _ λr H' e=>k1 _ er H' r e,λz=>absurd rfl z⟩⟩⟩⟩⟩
  ·rw[ex] at er;dsimp only at er;rw[ey] at er;dsimp only at er;rw[em] at er;dsimp only at er;rw[ah Æ] at er;exact⟨lf,rfl,Wg Wi s1,_,rfl,Wg Wi s1,rfl,k2 er x y m ex ey em H1 fd s1 ok is⟩
end
end HD
end
section
namespace L2
open PySem PySem.Spec PyProof.Rows
def akp{X:Cx}:eS X (compareOp .GtE) (gf λi j=>.bl (decide (j<=i))):=DI λ_ _ _ _ _ _ _ q=>ge_int q
end L2
namespace HD
open PySem PySem.Spec PyProof.Rows L2
open PySem.W (Codec)
def z9:List Stmt->Option Expr
 |[.Return (some (.Call _ [_,_,_,e] _ _)) _]=>some e
 |_=>none
def Wj:Option Expr->Option Arguments
 |some (.Lambda a _ _ _)=>some a
 |_=>none
def Wk:Option Expr->Option Expr
 |some (.Lambda _ b _ _)=>some b
 |_=>none
def Wl:Option Expr->Option Scope
 |some (.Lambda _ _ s _)=>some s
 |_=>none
def akq:(Wj Àe).isSome=true:=by rfl
def akr:(Wk Àe).isSome=true:=by rfl
def aks:(Wl Àe).isSome=true:=by rfl
abbrev mA:Arguments:=(Wj Àe).get akq
abbrev mB:Expr:=(Wk Àe).get akr
abbrev mS:Scope:=(Wl Àe).get aks
abbrev yd:Str:="nth.<locals>.<lambda>"
def Aa(rs:bp)(i:Nat):LI:=match rs[i]? with
 |none=>[-4]
 |some ns=>((ns.length:Nat):Int)::nv ns
inductive Nb(k:Kn)(vs:au)(H:Hp)(Q:VK)(E':XK):Prop
 |mk (f:Cv) (i:Nat) (_:vs=[.int ((i:Nat):Int),.ref f.a]) (_:H f.a=some (.ins k.CF f.dx (M8 f))) (_:H f.q=some (.lst (f.rs.map λr=>V.ref r.a))) (_:∀r∈f.rs,r.nums.ns.length<=100/\H r.a=some (.ins k.CR r.dx (F6 r))/\H r.nums.a=some (.lst (iv (nv r.nums.ns)))) (_:∀H' r,H' r=some (.lst (iv (Aa (f.rs.map λr=>r.nums.ns) i)))->Q Âe H')
section
variable{P:Pg}{w:Wd}{K:FR}{mg:MG}{base:Heap}{CN CB mG CT CF N1 N2 N3 N4:Addr}{k:Kn}
def Wm:bH ["i","finding","numbers"] ["i","finding"] (aV sNthTold):=cw
def akt(r:o8):(F6 r).lookup ("entries":Str)=some (.ref r.nums.a):=il
def aku{f:Addr}{fd:FD}(F:br K "nth_told" "nth_told" sNthTold f fd)(T:lg K k.CF ["locker","book","plate","readings"])(TR:lg K k.CR ["entries","hoists","sides"])(tL:mg "len"=none):Ì aE 6 f fd ["i","finding"] (Nb k):=by
 refine F.ok Wm Â;obtain⟨fd,i,rfl,ha,hq,xI,q⟩:=h;refine⟨_,aB (dq (cI akp Û ŵ (bT _)) (aD ĝ) d7)
  (aB (cj 2 Wm.nd (bg (cA cY ĕ Û Ù) rfl))
  (aD (aY (eM Qt (eE (ae ü ag)) è)))),?_⟩
 refine⟨_,rfl,_,rfl,bj ha T.1 (T.2 _ Ä) (V9 fd) ⟨fd.q,_,rfl,.inl (aa.of hq),_,_,rfl,rfl,_,rfl,?_⟩⟩;rw[aA];refine a8 Ï Ï
 ·have hc:fd.rs.length<=i:=by simpa using hc
  refine⟨_,rfl,(by show 1<=sizeLine;decide),λr hr=>q _ r ?_⟩;rw[aq];unfold Aa;rw[wM (by rw[aA];exact hc)];rfl
 ·have hc:i<fd.rs.length:=by simpa using hc
  have hi:fd.rs[i]? =some fd.rs[i]:=dm hc;obtain⟨r1,r2,r3⟩:=xI _ (bZ hi);refine⟨_,rfl,bj ha T.1 (T.2 _ Ä) (V9 fd) ⟨_,rfl,fd.q,_,_,_,rfl,rfl,aa.of hq,fT (by rw[bW,hi];rfl),bj r2 TR.1 (TR.2 _ Ä) (akt _) ?_⟩⟩;refine⟨_,rfl,fd.rs[i].nums.a,_,rfl,.inl (aa.of r3),(by show 1<=sizeLine;decide),λp hp=>⟨_,rfl,p,fd.rs[i].nums.a,_,_,rfl,rfl,aq,(by rw[ao (eK r3 hp)];exact r3),?_,λp2 qz=>q _ p2 ?_⟩⟩
  ·show 1+(iv (nv fd.rs[i].nums.ns)).length<=sizeLine;rw[aA,aA];exact gQ (show _<=101 by omega) (by rw[u9];decide)
  ·rw[aq];unfold Aa;rw[bW,hi];show some (HO.lst ([.int _]++_))=some (.lst (iv (((fd.rs[i].nums.ns.length:Nat):Int)::nv fd.rs[i].nums.ns)));rw[aA,aA];rfl
def akv:Jb "finding" "i" mS:=⟨rfl,rfl,rfl,rfl,rfl,by decide+kernel,by decide+kernel⟩
abbrev Wn(k:Kn)(i:Nat):Sp:=λvs H Q E=>Nb k (.int ((i:Nat):Int)::vs) H Q E
def akw{cx:Addr}{i:Nat}{pm:Value}(dN:Ç 6 "nth_told" ["i","finding"] (Nb k)):Er P w K mg base 7 yd (sv yd mA mB mS [("i",cx)] pm) ["finding"] (Jc cx (.int ((i:Nat):Int)) (Wn k i)):=
 ad8 akv (λc iF u=>rfl) λf c A outer s H y Q hr h=>⟨_,bz dN (ae á ó),⟨_,rfl,_,rfl,h⟩⟩
def aa.put{H:Hp}{a x:Addr}{xs:au}{o:HO}(h:â a xs)(hx:∀u,H x=some u->∃ps,u=.gG ps):aa K (Áe o) a xs:=by
 rcases h with (h|⟨o,h⟩)|h
 ·exact .inl (.inl (by rw[ao (λz=>by rw[z] at h;obtain⟨ps,e⟩:=hx _ h;cases e)];exact h))
 ·exact .inl (.inr ⟨o,by rw[ao (λz=>by rw[z] at h;obtain⟨ps,e⟩:=hx _ h;cases e)];exact h⟩)
 ·exact .inr h
inductive Nc(K:FR)(T:Addr)(vs:au)(H:Hp)(Q:VK)(E':XK):Prop
 |mk (i:Nat) (at_ ab ap:Addr) (t b p:LI) (_:vs=[.int ((i:Nat):Int),.ref at_,.ref ab,.ref ap]) (_:H T=some (.gG #[])) (_:â at_ (iv t)) (_:â ab (iv b)) (_:â ap (iv p)) (_:t.length<=66000) (_:b.length<=66000) (_:p.length<=66000) (_:(∀x,fZ t=some x->Gc x.2)) (_:(∀m,gW p=.ok m->Gd m)) (_:(∀z,ū p=some z->∀H' r,H' r=some (.lst [.int z])->Q Âe H')) (_:(ū p=none->∀x y m,fZ t=some x->j3 x.1 x.2 b=some y->gW p=.ok m->(∀z∈rF x.2 (y.2.map (·.1)) m,z.1.length<=100)/\∀H' r,H' r=some (.lst (iv (Aa ((rF x.2 (y.2.map (·.1)) m).map (·.1)) i)))->Q Âe H'))
def akx:bH ["i","t","b","p"] ["i","t","b","p"] (aV sNth):=cw
def aky{f:Addr}{fd:FD}{T c:Addr}(F:br K "nth" "nth" sNth f fd)(hc:fd.code=.ref c)(hK:Bu K c T)(hb:xB mg base)(dA:∀(cx:Addr)(i:Nat),Ç 8 "answered" ["t","b","p","told"] (Wf K k yd (sv yd mA mB mS [("i",cx)] ((mg "__name__").getD .none)) (Jc cx (.int ((i:Nat):Int)) (Wn k i)))):Ì aE 9 f fd ["i","t","b","p"] (Nc K T):=by
 refine F.okt akx rfl (λaG A outer s H vs Q E ec hr h=>?_);obtain⟨i,at_,ab,ap,t,b,p,rfl,hT,h1,h2,h3,l1,l2,l3,g1,g2,k1,k2⟩:=h;have ec:=ec.symm.trans hc;obtain⟨fA,fdA,GA,gA,kA,bA⟩:=dA Î i;refine⟨_,aeb (i:=0) (x:="i") (c:=s.heap.objs.size+1) GA hr rfl gA kA bA rfl rfl rfl rfl rfl (ae á (ae è (ae ø (ae (adX (q:=yd) (cl:=[("i",s.heap.objs.size+1)]) hK hb ec rfl rfl) ag)))),?_⟩;refine⟨_,rfl,_,rfl,_,rfl,_,rfl,hT,λlf lc iF jc n1 n2 n3 o u ho ru hn=>?_⟩;have nT:∀u,H T=some u->∃ps,u=.gG ps:=λu e=>by
  simp_all
 have nlc:lc≠T:=λz=>by rw[z,hT] at n2;cases n2
 have nlf:lf≠T:=λz=>by rw[z,hT] at n1;cases n1
 have nf:lf≠s.heap.objs.size+1:=λz=>by rw[<-z,aq] at hn;cases hn
 have nc:lc≠s.heap.objs.size+1:=λz=>by rw[<-z,ao n3,aq] at hn;cases hn
 have seq:∀{a:Addr}{xs:au},â a xs->aa K (upd (upd (upd (Ϛ (.gG jc)) lc (zf lc yd)) lf (zd lf (sv yd mA mB mS [("i",s.heap.objs.size+1)] ((mg "__name__").getD .none) lc iF))) Î (nB Î o)) a xs:=λh=>
  aa.put (aa.put (aa.put (aa.put h nT) (λu e=>by rw[ao nlc,n2] at e;cases e)) (λu e=>by rw[ao n3.symm,ao nlf,n1] at e;cases e)) (λu e=>by have e:=hn.symm.trans e;cases e)
 refine⟨at_,ab,ap,lf,t,b,p,rfl,⟨lc,iF,(ao nf).trans aq,(ao nc).trans ((ao n3).trans aq)⟩,seq h1,seq h2,seq h3,l1,l2,l3,g1,g2,k1,λer x y m ex ey em H' fd s' ok is=>?_⟩;obtain⟨q1,q2⟩:=k2 er x y m ex ey em;have jk:H' Î=some (nB Î o):=s' _ _ aq;have nd:∀{a:Addr}{u:HO},H' a=some u->(∀φ,u≠ .ext φ)->del H' Î a=some u:=λe n=>by
  rw[vJ (λz=>by rw[z,jk] at e;cases e;exact n _ rfl)];exact e
 refine⟨o,u,jk,ho,ru,rfl,fd,i,rfl,nd ok.a Ä,nd ok.rs.1 Ä,λr hr=>⟨?_,nd (ok.rs.2 r hr (r.a,_) (by simp[z7])) Ä,nd (ok.rs.2 r hr (r.nums.a,_) (by simp[z7,lsN])) Ä⟩,λH2 r e n=>q2 _ r ?_⟩
 ·have:=q1 r.m (by rw[<-is.r];exact apw hr);exact this
 ·rw[ao (λz=>by rw[z,n] at e;cases e),e,<-is.r,cQ];rfl
end
end HD
end
section
namespace HD
open PySem
def bitAnd_nn(a b:Nat):Builtin.bitAnd (a:Int) (b:Int)=((a&&& b:Nat):Int):=by
 rfl
def ye(g b:Nat):xZ g b=g.testBit b:=by
 unfold xZ;have e:((g:Nat):Int)/2^b=((g/2^b:Nat):Int):=by
  rfl
 rw[e,show(1:Int)=((1:Nat):Int) from rfl,bitAnd_nn,Nat.testBit_eq_decide_div_mod_eq,Nat.and_one_is_mod];grind
def Cy(g b:Nat):gY g b=false↔ ∀i,b.testBit i=true->g.testBit i=true:=by
 have e1:gY g b=decide (b&&& g≠b):=by
  unfold gY Builtin.bitAnd Builtin.bitNot;rw[eJ (Hi b),fQ (by omega:¬(0:Int)<= -((g:Nat):Int)-1)];dsimp only;rw[show-(-((g:Nat):Int)-1)-1=((g:Nat):Int) by omega,C6,C6];have j7:b&&& g<=b:=Nat.and_le_left;by_cases h:b&&& g=b
  ·rw[h];simp
  ·rw[eJ h];have:((b:Nat):Int)-((b&&& g:Nat):Int)≠0:=by omega
   simpa using this
 rw[e1,He,Decidable.not_not];refine⟨λh i hi=>?_,λh=>apC λi=>?_⟩
 ·rw[<-h,Dm,jw] at hi;exact hi.2
 ·rw[Dm];cases hb:b.testBit i with
  |false=>rfl
  |true=>rw[h i hb];rfl
def Gf:gY g b=true↔ ∃i,b.testBit i=true/\g.testBit i=false:=by
 constructor
 ·intro h;refine Pb λhn=>?_;have:gY g b=false:=(Cy g b).mpr λi hi=>by
   simp_all
  simp_all
 ·rintro⟨i,h1,h2⟩;cases e:gY g b with
  |true=>rfl
  |false=>
   rw[(Cy g b).mp e i h1] at h2;simp_all
theorem akB(g b:Nat):uP g (2^b)=g.testBit b:=by
 unfold uP;rw[bitAnd_nn];cases e:g.testBit b with
 |true=>
  have h:g&&& 2^b≠0:=λz=>by
   have h1:(g&&& 2^b).testBit b=true:=by rw[Dm,e,apD];rfl
   simp_all
  simp_all
 |false=>
  have h:g&&& 2^b=0:=apC λi=>by
   grind
  simp_all
def akC(g:Nat):uP g 0=false:=by
 unfold uP;rw[bitAnd_nn,Nat.and_zero];rfl
abbrev oZ(g b:Nat):Int:=jZ (gY g b)
def tq(g b:Nat):oZ g b=0\/oZ g b=1:=by
 unfold oZ jZ;split <;> simp
theorem Gg(hs:∀i,g.testBit i=true->h.testBit i=true):oZ h b<=oZ g b:=by
 unfold oZ jZ;cases e:gY h b with
 |false=>
  have:=tq g b;unfold oZ jZ at this;rw[ah d9];omega
 |true=>
  obtain⟨i,h1,h2⟩:=Gf.mp e;have:gY g b=true:=Gf.mpr ⟨i,h1,by
   cases e2:g.testBit i with
   |false=>rfl
   |true=>rw[hs i e2] at h2;cases h2⟩
  rw[this];exact Hm _
def Gh(a c:Nat):∀i,a.testBit i=true->(a|||c).testBit i=true:=λi h=>by rw[Nat.testBit_or,h];rfl
def Wo(a c:Nat):∀i,c.testBit i=true->(a|||c).testBit i=true:=λi h=>by rw[Nat.testBit_or,h,XI]
def Wp(a c:Nat):∀i,(a&&& c).testBit i=true->a.testBit i=true:=λi h=>by rw[Dm,jw] at h;exact h.1
def akD(a c:Nat):∀i,(a&&& c).testBit i=true->c.testBit i=true:=λi h=>by rw[Dm,jw] at h;exact h.2
def akE(a c b:Nat):oZ (a|||c) b+oZ (a&&& c) b<=oZ a b+oZ c b:=by
 have h1:=Gg (b:=b) (Gh a c);have h2:=Gg (b:=b) (Wo a c);have h3:=tq (a|||c) b;have h4:=tq (a&&& c) b;have h5:=tq a b;have h6:=tq c b;rcases h5 with e5|e5
 ·rcases h6 with e6|e6
  ·have f5:gY a b=false:=by
    cases e:gY a b with
    |false=>rfl
    |true=>unfold oZ jZ at e5;rw[e] at e5;cases e5
   have f6:gY c b=false:=by
    cases e:gY c b with
    |false=>rfl
    |true=>unfold oZ jZ at e6;rw[e] at e6;cases e6
   have f4:gY (a&&& c) b=false:=(Cy _ _).mpr λi hi=>by
    rw[Dm,(Cy _ _).mp f5 i hi,(Cy _ _).mp f6 i hi];rfl
   grind
  ·omega
 ·omega
def ja(l:cg)(s:Nat):Nat:=(l.filter λp=>decide (p.1=s)).length
def jJ(l:cg)(s g:Nat):Int:=((l.filter λp=>decide (p.1=s)).map λp=>oZ g p.2).sum
def bf(lf:Nat->Int)(l:cg)(s g:Nat):Int:=(ja l s:Int)-lf s-jJ l s g
def jb(n:Nat)(sm:Nat->Nat)(lf:Nat->Int)(g:Nat):Int:=((List.range n).map λb=>if g.testBit b=true then lf Ϭ else 0).sum
def iR(lf:Nat->Int)(l:cg)(g:Nat)(D:LN):Int:=(D.map λs=>cz (ē g)).sum
def dj(n:Nat)(sm:Nat->Nat)(lf:Nat->Int)(l:cg)(D:LN)(g:Nat):Int:=jb n sm lf g-iR lf l g D
theorem akF(hs:∀i,g.testBit i=true->h.testBit i=true)(l:cg)(s:Nat):jJ l s h<=jJ l s g:=by
 unfold jJ;generalize l.filter (λp=>decide (p.1=s))=L;induction L with
 |nil=>simp
 |cons p L ih=>
  have:=Gg (b:=p.2) hs;grind
theorem akG(a c:Nat)(l:cg)(s:Nat):jJ l s (a|||c)+jJ l s (a&&& c)<=jJ l s a+jJ l s c:=by
 unfold jJ;generalize l.filter (λp=>decide (p.1=s))=L;induction L with
 |nil=>simp
 |cons p L ih=>
  have:=akE a c p.2;grind
theorem Cz(l:cg)(s g:Nat):0<=jJ l s g/\jJ l s g<=ja l s:=by
 unfold jJ ja;generalize l.filter (λp=>decide (p.1=s))=L;induction L with
 |nil=>exact⟨Hm _,Hm _⟩
 |cons p L ih=>
  have:=tq g p.2;simp only[a0,gS,c7];omega
theorem akH(n:Nat)(sm:Nat->Nat)(lf:Nat->Int)(a c:Nat):jb n sm lf (a|||c)+jb n sm lf (a&&& c)=jb n sm lf a+jb n sm lf c:=by
 unfold jb;generalize List.range n=L;induction L with
 |nil=>rfl
 |cons b L ih=>
  have h:(if (a|||c).testBit b=true then lf Ϭ else 0)+(if (a&&& c).testBit b=true then lf Ϭ else 0)=(if a.testBit b=true then lf Ϭ else 0)+(if c.testBit b=true then lf Ϭ else 0):=by
   grind
  grind
def akI(h:x+y<=u+i)(h1:x<=u)(h2:y<=u)(h3:i<=x)(h4:i<=y):cz x+cz y<=cz u+cz i:=by
 unfold cz;omega
def Ac(hs:∀i,g.testBit i=true->h.testBit i=true)(lf:Nat->Int)(l:cg)(s:Nat):ē g<=bf lf l s h:=by
 have:=akF hs l s;unfold bf;omega
def Wq(a c:Nat)(lf:Nat->Int)(l:cg)(s:Nat):ē a+bf lf l s c<=bf lf l s (a|||c)+bf lf l s (a&&& c):=by
 have:=akG a c l s;unfold bf;omega
def Nf(a c:Nat)(lf:Nat->Int)(l:cg)(s:Nat):cz (ē a)+cz (ē c)<=cz (ē (a|||c))+cz (ē (a&&& c)):=
 akI (Wq a c lf l s) (Ac (Gh a c) lf l s) (Ac (Wo a c) lf l s) (Ac (Wp a c) lf l s) (Ac (akD a c) lf l s)
theorem akJ(a c:Nat)(lf:Nat->Int)(l:cg):∀D:LN,iR lf l a D+iR lf l c D<=iR lf l (a|||c) D+iR lf l (a&&& c) D:=by
 intro D;induction D with
 |nil=>exact Hm _
 |cons s D ih=>
  have h1:=ih;have h2:=Nf a c lf l s;unfold iR at h1⊢;simp only[a0,gS];omega
theorem akK(a c:Nat)(lf:Nat->Int)(l:cg){s:Nat}{D:LN}:s∈D->(iR lf l a D+iR lf l c D)+(cz (ē (a|||c))+cz (ē (a&&& c))-cz (ē a)-cz (ē c))<=iR lf l (a|||c) D+iR lf l (a&&& c) D:=by
 induction D with
 |nil=>exact @λh=>absurd h Ä
 |cons x D ih=>
  intro h;rcases ba.mp h with rfl|h
  ·have h1:=akJ a c lf l D;unfold iR at h1⊢;simp only[a0,gS];omega
  ·have h1:=ih h;have h2:=Nf a c lf l x;unfold iR at h1⊢;simp only[a0,gS];omega
def akL{h b c:Nat}(h1:h.testBit b=false)(h2:c.testBit b=true):h<h|||c:=by
 have j7:h<=h|||c:=Nat.left_le_or;grind
def uX(lf:Nat->Int)(l:cg)(s b g:Nat):bf lf ((s,b)::l) s g=bf lf l s g+1-oZ g b:=by
 unfold bf ja jJ;grind
def Ad(lf:Nat->Int)(l:cg)(b g:Nat)(h:s≠s'):bf lf ((s,b)::l) s' g=bf lf l s' g:=by
 unfold bf ja jJ;simp_all
def akM(n:Nat)(sm:Nat->Nat)(lf:Nat->Int)(l:cg){D:LN}{s:Nat}(hs:s∈D)(a c:Nat):dj n sm lf l D (a|||c)+dj n sm lf l D (a&&& c)+(cz (ē (a|||c))+cz (ē (a&&& c))-cz (ē a)-cz (ē c))<=dj n sm lf l D a+dj n sm lf l D c:=by
 have h1:=akH n sm lf a c;have h2:=akK a c lf l hs;unfold dj;omega
def Ng(n:Nat)(sm:Nat->Nat)(lf:Nat->Int)(l:cg)(D:LN)(s B:Nat):Prop:=∀g,g<2^n->0<=dj n sm lf l D g+cz (ē g)-cz (ē g+oZ g B)
def Wr(n:Nat)(sm:Nat->Nat)(lf:Nat->Int)(l:cg)(D:LN)(s B b:Nat):Prop:=∀g,g<2^n->0<=dj n sm lf l D g+cz (ē g)-cz (ē g-1+oZ g B)-(if g.testBit b=true then 1 else 0)
def akN(n:Nat)(sm:Nat->Nat)(lf:Nat->Int)(r:cg){D:LN}{s B:Nat}(hs:s∈D)(h:∀g,g<2^n->0<=dj n sm lf Ý D g):
  Ng n sm lf Ý D s B\/∃b,B.testBit b=true/\Wr n sm lf Ý D s B b:=by
 refine Pb λhn=>?_;have Fe:=λz=>hn (Or.inl z);have lX:=λb hb z=>hn (Or.inr ⟨b,hb,z⟩);have gO:∀(m g:Nat),2^n-g<=m->g<2^n->oZ g B=1->dj n sm lf Ý D g=0->0<=bf lf Ý s g->False:=by
  intro m;induction m with
  |zero=>omega
  |succ m ih=>
   intro g hm hg ho h0 aqY;have hob:gY g B=true:=by
    cases e:gY g B with
    |true=>rfl
    |false=>unfold oZ jZ at ho;rw[e] at ho;cases ho
   obtain⟨b,hb1,FX⟩:=Gf.mp hob;have om:=lX b hb1;unfold Wr at om;have ⟨c,hc⟩:=apE.mp om;have gH:=Pb λz=>hc λy=>absurd y z;have hc:¬0<=dj n sm lf Ý D c+cz (bf lf Ý s c)-cz (bf lf Ý s c-1+oZ c B)-(if c.testBit b=true then 1 else 0):=λz=>hc λ_=>z;have Bx:=h c gH;have hco:=tq c B;have Ws:c.testBit b=true:=by
    cases e:c.testBit b with
    |true=>rfl
    |false=>
     rw[e,ah d9] at hc;exfalso;apply hc;unfold cz;omega
   rw[Ws,af rfl] at hc;have hUl:=Nat.or_lt_two_pow hg gH;have hIl:=Nat.and_lt_two_pow g gH;have hU:=h _ hUl;have hI:=h _ hIl;have AB:=akM n sm lf Ý hs g c;have akS:=Nf g c lf Ý s;have hgU:=Ac (Gh g c) lf Ý s;have Nh:=tq (g|||c) B;have hIo:=Gg (b:=B) (Wp g c);have aq2:=tq (g&&& c) B;have uA:=Ac (Gh g c) lf r s;have sA:=Wq g c lf r s;have e1:=uX lf r s B g;have e2:=uX lf r s B c;have e3:=uX lf r s B (g|||c);have e4:=uX lf r s B (g&&& c);generalize hS0:dj n sm lf Ý D c=S0 at Bx hc AB;generalize dj n sm lf Ý D (g&&& c)=SI at hI AB;rw[h0] at AB;have Wt:S0=0/\(oZ c B=1\/bf lf Ý s c<=0):=by
    unfold cz at hc;omega
   obtain⟨Wt,jg⟩:=Wt;rcases Nh with Nh|Nh
   ·exfalso;unfold cz at AB akS;omega
   ·have hSU:dj n sm lf Ý D (g|||c)=0:=by omega
    have:=akL FX Ws;grind
 unfold Ng at Fe;have ⟨g,hg⟩:=apE.mp Fe;have nO:=Pb λz=>hg λy=>absurd y z;have hg:¬0<=dj n sm lf Ý D g+cz Èl-cz (bf lf Ý s g+oZ g B):=λz=>hg λ_=>z;have hgs:=h g nO;have sC:=tq g B;have hz:oZ g B=1/\dj n sm lf Ý D g=0/\0<=bf lf Ý s g:=by
  unfold cz at hg;omega
 exact gO _ g (bJ _) nO hz.1 hz.2.1 hz.2.2
theorem akT(f:Nat->Int){a b:LN}(h:a.Perm b):(a.map f).sum=(b.map f).sum:=by
 induction h with
 |nil=>rfl
 |cons x _ ih=>rw[a0,a0,gS,gS,ih]
 |swap x y l=>
  simp only[a0,gS];omega
 |trans _ _ h1 h2=>exact h1.trans h2
theorem Ni(f:Nat->Int){D:LN}:(∀s∈D,f s=0)->(D.map f).sum=0:=by
 induction D with
 |nil=>exact @λ_=>rfl
 |cons x D ih=>
  intro h;rw[a0,gS,h x Ä,ih λs hs=>h s (aO _ hs)];rfl
theorem akU(f:Nat->Int):∀{A D:LN},A.Nodup->D.Nodup->(∀s∈A,s∉D->f s=0)->(∀s∈D,s∉A->f s=0)->(A.map f).sum=(D.map f).sum:=by
 intro A;induction A with
 |nil=>exact @λD _ _ _ h=>(Ni f λs hs=>h s hs Ä).symm
 |cons x A ih=>
  intro D hA hD h1 h2;obtain⟨hx,hA⟩:=j9.mp hA;by_cases FM:x∈D
  ·have hp:=List.perm_cons_erase FM;rw[akT f hp,a0,a0,gS,gS];congr 1;refine ih hA (hD.erase x) (λs hs hn=>?_) (λs hs hn=>?_)
   ·exact h1 s (aO _ hs) λz=>hn ((hD.mem_erase_iff).mpr ⟨λe=>hx (e▸ hs),z⟩)
   ·obtain⟨z1,z2⟩:=(hD.mem_erase_iff).mp hs;exact h2 s z2 λz=>(ba.mp z).elim z1 hn
  ·rw[a0,gS,h1 x Ä FM,Ym];exact ih hA hD (λs hs=>h1 s (aO _ hs)) λs hs hn=>h2 s hs λz=>(ba.mp z).elim (λe=>FM (e▸ hs)) hn
theorem Wu:∀(n:Nat)(l:LN),l.length<=n->l.eraseDups.Nodup
 |0,l,h=>by
  have:l=[]:=O1.mp Æ;rw[this];exact Ax
 |n+1,[],_=>Ax
 |n+1,a::l,h=>by
  rw[List.eraseDups_cons];refine j9.mpr ⟨λz=>?_,Wu n _ ?_⟩
  ·have:=apF.mp z;simp at this
  ·have:=Hf (λb=>!b==a) l;simp only[c7] at h;omega
def uY(q:Nat->Bool)(n:Nat):Nat:=(((List.range n).filter q).map (2^ ·)).sum
def Wv(q:Nat->Bool)(n:Nat):uY q (n+1)=(if q n=true then 2^n else 0)+uY q n:=by
 unfold uY;rw[Hg,Dj,bX,List.sum_append];grind
theorem Nj(q:Nat->Bool):∀n,uY q n<2^n:=by
 intro n;induction n with
 |zero=>
  simp[uY]
 |succ n ih=>
  rw[Wv];have:=ih;have e:2^(n+1)=2^n+2^n:=by rw[O6];omega
  split <;> omega
theorem Ww(q:Nat->Bool):∀n b,(uY q n).testBit b=(decide (b<n)&&q b):=by
 intro n;induction n with
 |zero=>
  intro b;simp[uY]
 |succ n ih=>
  intro b;rw[Wv];have hl:=Nj q n;have ih:=ih b;by_cases h:q n=true
  ·rw[af h];by_cases hb:b<n
   ·rw[apG hb,ih,eJ hb,eJ Æ]
   ·by_cases he:b=n
    ·subst he;rw[apH,Do hl,h,eJ Æ];rfl
    ·rw[fQ Æ,lu];refine Do ?_;have e1:2^(n+1)=2^n+2^n:=by rw[O6];omega
     have e2:2^(n+1)<=2^b:=Hj Ú Æ;omega
  ·rw[ah h,wN,ih];by_cases hb:b<n
   ·rw[eJ hb,eJ Æ]
   ·by_cases he:b=n
    ·subst he;have:q b=false:=by simpa using h
     rw[this,yr,yr]
    ·rw[fQ hb,fQ Æ]
theorem akV(q:Nat->Bool):∀l:LN,l.filter q∈Flags.choices l:=by
 intro l;induction l with
 |nil=>
  simp[Flags.choices]
 |cons x l ih=>
  have ih:=ih;unfold Flags.choices;by_cases h:q x=true
  ·rw[Ay h];exact tW _ (cf.mpr ⟨_,ih,rfl⟩)
  ·rw[Az h];exact Ar _ ih
def dg(sames:LN)(p:Nat×Nat):Flags.Spot:=⟨p.1,(oW sames.length p.2).map λb=>sames.getD b 0⟩
def aX(left:LN):Nat->Int:=λk=>((left.getD k 0:Nat):Int)
def Wx(sames left:LN)(l:cg)(s:Nat):Flags.lacks left Æm s=ja l s-left.getD s 0:=by
 unfold Flags.lacks ja;rw[yu,aA];congr 2
def akW(sames:LN)(l:cg)(s g:Nat)(y:LN)(hg:∀b,b<sames.length->g.testBit b=!y.contains ł)(hl:∀p∈l,p.2<2^sames.length):
  (((l.map ô).filter λp=>p.sign==s&&p.may.any λk=>y.contains k).length:Int)=jJ l s g:=by
 rw[yu,aA];unfold jJ;induction l with
 |nil=>rfl
 |cons p l ih=>
  have ih:=ih λx hx=>hl x (aO _ hx);have hp:=hl p Ä;have eo:(dg sames p).may.any (λk=>y.contains k)=gY g p.2:=by
   unfold dg;rw[OP,pj,vb,Gf];unfold oW;constructor
   ·rintro⟨b,hb,h⟩;obtain⟨h1,h2⟩:=j8.mp hb;simp at h1;refine⟨b,by rw[<-ye];exact h2,?_⟩;simp_all
   ·rintro⟨b,h1,h2⟩;have hb:b<sames.length:=by
     refine Yd λz=>?_;have:p.2.testBit b=false:=Do (iq hp (Hj Ú z));simp_all
    refine⟨b,j8.mpr ⟨by simp_all,by rw[ye];exact h1⟩,?_⟩;simp_all
  by_cases hs:p.1=s
  ·rw[Ay (l:=l) (p:=λp=>decide (p.1=s)) É,a0,gS,<-ih];have e1:((dg sames p).sign==s)=true:=by simpa [dg] using hs
   cases eb:gY g p.2 with
   |true=>
    rw[Ay É,c7];unfold oZ jZ;grind
   |false=>
    rw[Az É];unfold oZ jZ;simp_all
  ·rw[Az (l:=l) (p:=λp=>decide (p.1=s)) É,<-ih];have e1:((dg sames p).sign==s)=false:=by simpa [dg] using hs
   simp_all
theorem sum_nat(f:Nat->Nat):∀l:LN,(((l.map f).sum:Nat):Int)=(l.map λs=>((f s:Nat):Int)).sum:=by
 intro l;induction l with
 |nil=>exact rfl
 |cons x l ih=>
  rw[a0,a0,gS,gS,Int.natCast_add,ih]
theorem sum_add(f g h:Nat->Int){l:LN}:(∀s∈l,f s=g s+h s)->(l.map f).sum=(l.map g).sum+(l.map h).sum:=by
 induction l with
 |nil=>exact @λ_=>rfl
 |cons x l ih=>
  intro e;rw[a0,a0,a0,gS,gS,gS,e x Ä,ih λs hs=>e s (aO _ hs)];omega
def akX(sames left:LN)(g:Nat)(y:LN)(hg:∀b,b<sames.length->g.testBit b=!y.contains ł):
  ((((sames.filter λk=>!y.contains k).map λk=>left.getD k 0).sum:Nat):Int)=jb sames.length Ãb ä g:=by
 have gen:∀(L:LN)(o:Nat),(∀b,b<L.length->g.testBit (o+b)=!y.contains Æx)->((((L.filter λk=>!y.contains k).map λk=>left.getD k 0).sum:Nat):Int)=((List.range L.length).map λb=>if g.testBit (o+b)=true then aX left Æx else 0).sum:=by
  intro L;induction L with
  |nil=>intro o _;rfl
  |cons x L ih=>
   intro o h;have h0:=h 0 Ä;rw[Yc] at h0;have h0:g.testBit o=!y.contains x:=h0;have ih:=ih (o+1) λb hb=>by
    have:=h (b+1) (À hb);rw[show o+1+b=o+(b+1) by omega,this];rfl
   rw[c7,De,a0,gS,cQ];have e2:(List.range L.length).map ((λb=>if g.testBit (o+b)=true then aX left ((x::L).getD b 0) else 0)∘Nat.succ)=(List.range L.length).map λb=>if g.testBit (o+1+b)=true then aX left Æx else 0:=by
    apply kq;intro b _;show(if g.testBit (o+(b+1))=true then aX left Æx else 0)=_;rw[show o+(b+1)=o+1+b by omega]
   rw[e2,<-ih,Yc];show _=(if g.testBit o=true then aX left x else 0)+_;rw[h0];by_cases hy:y.contains x=true
   ·rw[hy,Az (by rw[hy];decide)];simp
   ·have hy:y.contains x=false:=by simpa using hy
    rw[hy,Ay (by rw[hy];rfl),a0,gS,Int.natCast_add];rfl
 have:=gen sames 0 λb hb=>by rw[wN];exact hg b hb
 simp only[wN] at this;exact this
def yf(lf:Nat->Int)(l:cg)(D:LN):Prop:=∀s,s∉D->(ja l s:Int)<=lf s
def Nk(h:s∉l.map (·.1)):ja l s=0:=by
 unfold ja;rw[O1,apy];grind
def Wy(sames left:LN)(l:cg)(y:LN)(g:Nat)(hg:∀b,b<sames.length->g.testBit b=!y.contains ł)(hl:∀p∈l,p.2<2^sames.length){D:LN}(hD:D.Nodup)(Gi:yf ä l D):
  ((((l.map ô).map λp=>p.sign).eraseDups.map (Flags.lacks left Æm)).sum<=((sames.filter λk=>!y.contains k).map λk=>left.getD k 0).sum+(((l.map ô).map λp=>p.sign).eraseDups.map λs=>min Ϸ (((l.map ô).filter λp=>p.sign==s&&p.may.any λk=>y.contains k).length)).sum)↔
   0<=dj sames.length Ãb ä l D g:=by
 have esg:(l.map ô).map (λp=>p.sign)=l.map (·.1):=by
  rw[cQ];rfl
 rw[esg];have h1:=akX sames left g y hg;have h2:=sum_nat (Flags.lacks left Æm) (l.map (·.1)).eraseDups;have h3:=sum_nat (λs=>min Ϸ (((l.map ô).filter λp=>p.sign==s&&p.may.any λk=>y.contains k).length)) (l.map (·.1)).eraseDups;have h4:=sum_add (λs=>((Flags.lacks left Æm s:Nat):Int)) (λs=>((min Ϸ (((l.map ô).filter λp=>p.sign==s&&p.may.any λk=>y.contains k).length):Nat):Int)) (λs=>cz (bf ä l s g)) (l:=(l.map (·.1)).eraseDups) λs _=>by
  have e1:=akW sames l s g y hg hl;have e2:=Wx sames left l s;have e3:=Cz l s g;generalize ((l.map ô).filter λp=>p.sign==s&&p.may.any λk=>y.contains k).length=o at e1;rw[e2];unfold bf cz aX;omega
 have h5:=akU (λs=>cz (bf ä l s g)) (A:=(l.map (·.1)).eraseDups) (D:=D) (Wu _ _ (bJ _)) hD (λs _ hn=>?_) (λs _ hn=>?_)
 ·unfold dj iR;omega
 ·have e1:=Gi s hn;have e3:=Cz l s g;unfold bf cz;omega
 ·have e0:=Nk λz=>hn (apF.mpr z);have e3:=Cz l s g;unfold bf cz aX;omega
def Wz{L:Flags.Locker}{sames:LN}(hs:L.sameKinds=sames)(B3:sames.Nodup)(left:LN)(l:cg)(hl:∀p∈l,p.2<2^sames.length){D:LN}(hD:D.Nodup)(Gi:yf ä l D):
  L.enough left Æm=true↔ ∀g,g<2^sames.length->0<=dj sames.length Ãb ä l D g:=by
 unfold Flags.Locker.enough;rw[hs,lx];constructor
 ·intro h g hg;have hy:=h _ (akV (λk=>!g.testBit (sames.idxOf k)) sames);rw[og] at hy;refine(Wy sames left l _ g Ď hl hD Gi).mp hy;simp_all
 ·intro h y _;rw[og];refine(Wy sames left l y (uY (λb=>!y.contains ł) sames.length) Ď hl hD Gi).mpr (h _ (Nj _ _));rw[Ww,eJ hb,lR]
end HD
end
section
namespace HD
open PySem L2
def fq(n:Nat)(sm:Nat->Nat)(lf:Nat->Int)(l:cg)(D:LN):hZ:=(D.map λs=>(s,(List.range (2^n)).map (bf lf l s)),(List.range (2^n)).map (dj n sm lf l D))
def dec(lf:Nat->Int)(k:Nat):Nat->Int:=λj=>if j=k then lf j-1 else lf j
def WA(f:Nat->Int)(h:g<G):((List.range G).map f).getD g 0=f g:=by
 simp_all
def o9{G:Nat}{f h:Nat->Int}(e:∀g,g<G->f g=h g):(List.range G).map f=(List.range G).map h:=by
 simp_all
def CA(f:Nat->Int)(G:Nat):nW ((List.range G).map f)=true↔ ∀g,g<G->0<=f g:=by
 unfold nW;simp
theorem Ek(f:Nat->β)(s:Nat):∀D:LN,bY (D.map λx=>(x,f x)) s=if s∈D then some (f s) else none:=by
 intro D;induction D with
 |nil=>exact rfl
 |cons x D ih=>
  have ih:=ih;unfold bY at ih⊢;rw[a0];by_cases h:x=s
  ·subst h;rw[List.find?_cons_of_pos Ä,af Ä];rfl
  ·rw[apI (À h),ih];by_cases h2:s∈D
   ·rw[af h2,af (aO _ h2)]
   ·rw[ah h2,ah (λz=>(ba.mp z).elim (λe=>h e.symm) h2)]
def WB{β:Type}(f:Nat->β){s:Nat}(v:β){D:LN}(h:s∈D):eA (D.map λx=>(x,f x)) s v=D.map λx=>(x,if x=s then v else f x):=by
 unfold eA;have ha:((D.map λx=>(x,f x)).any λp=>decide (p.1=s))=true:=by
  simp_all
 rw[af ha,cQ];apply kq;grind
theorem Gj(f h:Nat->Int){s:Nat}{D:LN}:D.Nodup->s∈D->(∀x∈D,x≠s->h x=f x)->(D.map h).sum=(D.map f).sum-f s+h s:=by
 induction D with
 |nil=>exact @λ_ hs _=>absurd hs Ä
 |cons x D ih=>
  intro nd hs e;obtain⟨hx,nd⟩:=j9.mp nd;rw[a0,a0,gS,gS];by_cases pb:x=s
  ·subst pb;have:(D.map h).sum=(D.map f).sum:=by
    congr 1;apply kq;intro y hy;exact e y (aO _ hy) λz=>hx (z▸ hy)
   rw[this];omega
  ·have yy:=(ba.mp hs).elim (λz=>absurd z.symm pb) id;rw[ih nd yy λy hy=>e y (aO _ hy),e x Ä pb];omega
def WC{n:Nat}{sm:Nat->Nat}{lf:Nat->Int}{k:Nat}(h:∀b,b<n->sm b≠k)(g:Nat):jb n sm (dec lf k) g=jb n sm lf g:=by
 unfold jb;congr 1;apply kq;intro b hb;unfold dec;simp_all
def akZ{sm:Nat->Nat}{lf:Nat->Int}(hb:b<n)(hi:∀a,a<n->sm a=sm b->a=b)(g:Nat):jb n sm Äu g=jb n sm lf g-(if g.testBit b=true then 1 else 0):=by
 unfold jb;have:=Gj (λa=>if g.testBit a=true then lf (sm a) else 0) (λa=>if g.testBit a=true then dec lf Ϭ (sm a) else 0) (s:=b) (D:=List.range n) Yq É λx hx aQ=>by
  unfold dec;grind
 rw[this];have e:dec lf Ϭ Ϭ=lf Ϭ-1:=by unfold dec;rw[af rfl]
 grind
def Nl(lf:Nat->Int)(l:cg)(s g:Nat):bf Âr l s g=bf lf l s g+1:=by
 unfold bf dec;rw[af rfl];omega
def wz(lf:Nat->Int)(l:cg){s k:Nat}(h:s≠k)(g:Nat):bf (dec lf k) l s g=bf lf l s g:=by
 unfold bf dec;rw[ah h]
section
variable{n:Nat}{sm:Nat->Nat}{lf:Nat->Int}{r:cg}{D:LN}{s B:Nat}
def WD(j5:s∈D)(nd:D.Nodup)(gr:∀b,b<n->sm b≠s)(g:Nat):dj n sm Âr r D g=dj n sm lf Ý D g+cz Èl-cz (bf lf Ý s g+oZ g B):=by
 unfold dj;rw[WC gr];have:=Gj (λx=>cz (bf lf Ý x g)) (λx=>cz (bf Âr r x g)) nd j5 λx _ aQ=>by
  rw[wz _ _ aQ,Ad _ _ _ _ Åh]
 unfold iR;rw[this,Nl,uX];grind
def WE{b:Nat}(hb:b<n)(hi:∀a,a<n->sm a=sm b->a=b)(j5:s∈D)(nd:D.Nodup)(yg:sm b∉D)(g:Nat):dj n sm Äu r D g=dj n sm lf Ý D g+cz Èl-cz (bf lf Ý s g-1+oZ g B)-(if g.testBit b=true then 1 else 0):=by
 unfold dj;rw[akZ hb hi];have:=Gj (λx=>cz (bf lf Ý x g)) (λx=>cz (bf Äu r x g)) nd j5 λx hx aQ=>by
  rw[wz _ _ (λz=>yg É),Ad _ _ _ _ Åh]
 unfold iR;rw[this,wz _ _ (λz=>yg É),uX];grind
def WG(j5:s∉D)(gr:∀b,b<n->sm b≠s)(g:Nat):dj n sm Âr r D g=dj n sm lf Ý D g:=by
 unfold dj iR;rw[WC gr];congr 2;apply kq;intro x hx;have aQ:x≠s:=λz=>j5 (z▸ hx);rw[wz _ _ aQ,Ad _ _ _ _ Åh]
def ak0(j5:s∉D)(gr:∀b,b<n->sm b≠s):fq n sm lf Ý D=fq n sm Âr r D:=by
 unfold fq;congr 1
 ·apply kq;intro x hx;have aQ:x≠s:=λz=>j5 (z▸ hx);congr 1;exact o9 λg _=>by rw[wz _ _ aQ,Ad _ _ _ _ Åh]
 ·exact o9 λg _=>(WG j5 gr g).symm
def WH:sV 0=0:=rfl
def WI(b:Nat):sV (2^b)= -1:=by
 unfold sV;have:0<2^b:=Nat.two_pow_pos b;grind
def Nm(f:Nat->Int)(G B same:Nat):iQ ((List.range G).map f) B same=(List.range G).map λg=>f g+sV same+oZ g B:=by
 unfold iQ;simp_all
def WJ(f h:Nat->Int)(G B same:Nat):jr ((List.range G).map f) ((List.range G).map h) B same=(List.range G).map λg=>h g+cz (f g)-cz (f g+sV same+oZ g B)-jZ (uP g same):=by
 unfold jr;rw[aA,g7,Nm];simp_all
def WK(j5:s∈D)(nd:D.Nodup)(gr:∀b,b<n->sm b≠s):jr ((List.range (2^n)).map Æt) (fq n sm lf Ý D).2 B 0=(List.range (2^n)).map (dj n sm Âr r D):=by
 unfold fq;rw[WJ];exact o9 λg _=>by
  rw[WD (B:=B) j5 nd gr,WH,akC,show jZ false=0 from rfl,Int.add_zero,Int.sub_zero]
def Nn(hb:b<n)(hi:∀a,a<n->sm a=sm b->a=b)(j5:s∈D)(nd:D.Nodup)(yg:sm b∉D):jr ((List.range (2^n)).map Æt) (fq n sm lf Ý D).2 B (2^b)=(List.range (2^n)).map (dj n sm Äu r D):=by
 unfold fq;rw[WJ];exact o9 λg _=>by
  rw[WE (B:=B) hb hi j5 nd yg,WI,akB];rfl
def ak1(j5:s∈D)(nd:D.Nodup)(gr:∀b,b<n->sm b≠s):rn (fq n sm lf Ý D) s B 0 ((List.range (2^n)).map Æt)=fq n sm Âr r D:=by
 unfold rn;rw[WK j5 nd gr];unfold fq;rw[WB _ _ j5,Nm];congr 1;apply kq;intro x hx;congr 1;by_cases h:x=s
 ·rw[af h,h];exact o9 λg _=>by rw[Nl,uX,WH];omega
 ·rw[ah h];exact o9 λg _=>by rw[wz _ _ h,Ad _ _ _ _ (dX h)]
def ak2{b:Nat}(hb:b<n)(hi:∀a,a<n->sm a=sm b->a=b)(j5:s∈D)(nd:D.Nodup)(yg:sm b∉D):rn (fq n sm lf Ý D) s B (2^b) ((List.range (2^n)).map Æt)=fq n sm Äu r D:=by
 unfold rn;rw[Nn hb hi j5 nd yg];unfold fq;rw[WB _ _ j5,Nm];congr 1;apply kq;intro x hx;congr 1;have tu:x≠sm b:=λz=>yg (z▸ hx);by_cases h:x=s
 ·rw[af h,h];exact o9 λg _=>by rw[wz _ _ (h▸ tu),uX,WI];omega
 ·rw[ah h];exact o9 λg _=>by rw[wz _ _ tu,Ad _ _ _ _ (dX h)]
end
abbrev cq(sames:LN):Nat->Nat:=λb=>sames.getD b 0
structure n0(sames left:LN)(l:cg)(D:LN):Prop where
 nd:D.Nodup
 Ae:yf ä l D
 bits:∀p∈l,p.2<2^sames.length
 sgn:∀p∈l,∀b,b<sames.length->cq sames b≠p.1
 sd:∀b,b<sames.length->cq sames b∉D
 all:∀g,g<2^sames.length->0<=dj sames.length Ā ä l D g
def tw(h:0<left.getD f 0):aX Ė=dec ä f:=by
 have hf:f<left.length:=by
  grind
 funext j;unfold aX dec Flags.less1;grind
def Gk(nd:sames.Nodup)(hb:b<sames.length):∀a,a<sames.length->cq sames a=cq sames b->a=b:=λa ha e=>by
 unfold cq at e;rw[iV,iV,dm ha,dm hb] at e;exact(XR nd).mp e
def cnt_cons(r:cg)(s B:Nat):ja Ý s=ja r s+1:=by
 unfold ja;simp
def Gm(r:cg)(B:Nat)(h:s≠x):ja Ý x=ja r x:=by
 unfold ja;simp_all
def ak3(n:Nat)(sm:Nat->Nat)(lf:Nat->Int):jb n sm lf 0=0:=by
 unfold jb;exact Ni _ λb _=>by rw[Nat.zero_testBit,ah d9]
def ak4(hb:b<n):jb n sm lf (2^b)=lf Ϭ:=by
 unfold jb;have:=Gj (λ_=>(0:Int)) (λa=>if (2^b).testBit a=true then lf (sm a) else 0) (s:=b) (D:=List.range n) Yq É λx hx aQ=>by
  grind
 rw[this,Ni _ λ_ _=>rfl,apD,af rfl];omega
def Np(z:Int):0<=cz z:=by unfold cz;split <;> omega
theorem WL(lf:Nat->Int)(l:cg)(g:Nat):∀D:LN,0<=iR lf l g D:=by
 intro D;induction D with
 |nil=>exact Hm _
 |cons s D ih=>
  have h1:=ih;have h2:=Np (ē g);unfold iR at h1⊢;rw[a0,gS];omega
theorem ak5(lf:Nat->Int)(l:cg)(g:Nat){s:Nat}{D:LN}:s∈D->cz (ē g)<=iR lf l g D:=by
 induction D with
 |nil=>exact @λh=>absurd h Ä
 |cons x D ih=>
  intro h;have h1:=WL lf l g D;have h2:=Np (bf lf l x g);rcases ba.mp h with rfl|h
  ·unfold iR at h1⊢;rw[a0,gS];omega
  ·have h3:=ih h;unfold iR at h1 h3⊢;rw[a0,gS];omega
def ak6{sm:Nat->Nat}(hs:s∈D)(h:0<=dj n sm Äl r D 0):0<left.getD s 0:=by
 refine apJ λz=>?_;have h1:=ak5 Äl r 0 hs;have h2:=Cz r s 0;have h3:=Nl ä r s 0;unfold dj at h;rw[ak3] at h;have h4:bf ä r s 0=(ja r s:Int)-jJ r s 0:=by unfold bf aX;rw[z];omega
 unfold cz at h1;omega
def ak7(hb:b<n)(h:0<=dj n sm (dec ä Ϭ) r D (2^b)):0<left.getD Ϭ 0:=by
 have h1:=WL (dec ä Ϭ) r (2^b) D;unfold dj at h;rw[ak4 hb] at h;have:dec ä Ϭ Ϭ=((left.getD Ϭ 0:Nat):Int)-1:=by unfold dec aX;rw[af rfl]
 omega
section
variable{L:Flags.Locker}{sames left:LN}{r:cg}{D:LN}{s B:Nat}
def n0.sign(c:Ϻ Ý D)(h0:0<left.getD s 0)(h:∀g,g<2^sames.length->0<=dj sames.length Ā Äl r D g):n0 sames (Flags.less1 left s) r D:=by
 refine⟨c.nd,λx hx=>?_,λp hp=>c.bits p (aO _ hp),λp hp=>c.sgn p (aO _ hp),c.sd,by rw[tw h0];exact h⟩;rw[tw h0];have:=c.Ae x hx;unfold dec;by_cases pb:x=s
 ·subst pb;rw[cnt_cons] at this;rw[af rfl];omega
 ·rw[Gm _ _ (dX pb)] at this;rw[ah pb];exact this
def n0.same(c:Ϻ Ý D){b:Nat}(hb:b<sames.length)(h0:0<left.getD Ħ 0)(hs:s∈D)(h:∀g,g<2^sames.length->0<=dj sames.length Ā (dec ä Ħ) r D g):n0 sames (Flags.less1 left Ħ) r D:=by
 refine⟨c.nd,λx hx=>?_,λp hp=>c.bits p (aO _ hp),λp hp=>c.sgn p (aO _ hp),c.sd,by rw[tw h0];exact h⟩;rw[tw h0];have:=c.Ae x hx;have pb:x≠s:=λz=>hx (z▸ hs);rw[Gm _ _ (dX pb)] at this;unfold dec;by_cases tu:x=cq sames b
 ·rw[af tu];have e0:ja r x=0:=Nk λz=>by
   obtain⟨p,hp,e⟩:=cf.mp z;exact c.sgn p (aO _ hp) b hb (by rw[<-tu];exact e.symm)
  rw[e0];have:aX left x=((left.getD Ħ 0:Nat):Int):=by rw[tu];rfl
  omega
 ·rw[ah tu];exact this
def Af(hL:L.sameKinds=sames)(nd:sames.Nodup)(c:Ϻ Ý D)(h0:0<left.getD f 0)(hd:yf (dec ä f) r D):L.enough Ė Án=true↔ ∀g,g<2^sames.length->0<=dj sames.length Ā (dec ä f) r D g:=by
 have:=Wz hL nd Ė r (λp hp=>c.bits p (aO _ hp)) c.nd (by rw[tw h0];exact hd);rw[tw h0] at this;exact this
def Ag(L:Flags.Locker)(sames left:LN)(s B:Nat)(r:cg):Nat:=(((dg sames (s,B)).sign::if 0<Flags.lacks left (((s,B)::r).map ô) (dg sames (s,B)).sign then (dg sames (s,B)).may else []).filter λ(f:Nat)=>decide (0<left.getD f 0)&&L.enough Ė Án).headD 0
def WM(h:(decide (0<left.getD s 0)&&L.enough (Flags.less1 left s) Án)=true):Ag L sames left s B r=s:=by
 unfold Ag;rw[wQ,af (show(decide (0<left.getD (dg sames (s,B)).sign 0)&&L.enough (Flags.less1 left (dg sames (s,B)).sign) Án)=true from h)];rfl
def ak8:L.fill (((s,B)::r).map ô) left=Ag L sames left s B r::L.fill Án (Flags.less1 left (Ag L sames left s B r)):=rfl
def ak9(sames:LN)(st:hZ)(s B:Nat)(row:LI)(P:Nat->Bool):∀bs:LN,(∀b∈bs,nW (jr row st.2 B (2^b))=P Ħ)->(∃b∈bs,P Ħ=true)->
  ∃b∈bs,uR sames st s B row bs=some (cq sames b,rn st s B (2^b) row)/\P Ħ=true/\((bs.map Ā).filter P).headD 0=cq sames b:=by
 intro bs;induction bs with
 |nil=>
  intro _ h;obtain⟨b,hb,_⟩:=h;cases hb
 |cons b bs ih=>
  intro he h;have eb:=he b Ä;unfold uR;by_cases hp:P Ħ=true
  ·rw[eb,af hp];refine⟨b,by simp,rfl,hp,?_⟩;rw[a0,Ay hp];rfl
  ·rw[eb,ah hp];obtain⟨x,hx,WN⟩:=h;have vD:=(ba.mp hx).elim (λz=>absurd (z▸ WN) hp) id;obtain⟨y,hy,e1,e2,e3⟩:=ih (λz hz=>he z (aO _ hz)) ⟨x,vD,WN⟩;refine⟨y,aO _ hy,e1,e2,?_⟩;rw[a0,Az hp];exact e3
def ala(hL:L.sameKinds=sames)(nd:sames.Nodup)(c:Ϻ Ý D):
  ∃f,nX sames Ĝ s B=some (f,fq sames.length Ā (aX Ė) r D)/\n0 sames Ė r D/\Ag L sames left s B r=f:=by
 have gr:=c.sgn (s,B) Ä;by_cases hs:s∈D
 ·have yh:nX sames Ĝ s B=if nW (jr ((List.range (2^sames.length)).map Âb) (fq sames.length Ā ä Ý D).2 B 0)=true then some (s,rn Ĝ s B 0 ((List.range (2^sames.length)).map Âb))
    else uR sames Ĝ s B ((List.range (2^sames.length)).map Âb) (oW sames.length B):=by
   unfold nX;have:bY (fq sames.length Ā ä Ý D).1 s=some ((List.range (2^sames.length)).map Âb):=(Ek (λx=>(List.range (2^sames.length)).map (bf ä Ý x)) s D).trans (af hs);rw[this]
  rw[WK hs c.nd gr,ak1 hs c.nd gr] at yh;have Ef:yf Äl r D:=λx hx=>by
   have:=c.Ae x hx;have pb:x≠s:=λz=>hx (z▸ hs);rw[Gm _ _ (dX pb)] at this;unfold dec;omega
  by_cases ax:nW ((List.range (2^sames.length)).map (dj sames.length Ā Äl r D))=true
  ·rw[af ax] at yh;have ax:=(CA _ _).mp ax;have h0:=ak6 hs (ax 0 (Nat.two_pow_pos _));refine⟨s,by rw[yh,tw h0],c.sign h0 ax,WM ?_⟩;rw[eJ h0,(Af hL nd c h0 Ef).mpr ax];rfl
  ·rw[ah ax] at yh;have ax:=λz=>ax ((CA _ _).mpr z);have WO:¬Ng sames.length Ā ä Ý D s B:=λz=>ax λg hg=>by
    rw[WD (B:=B) hs c.nd gr];exact z g hg
   have hex:=(akN _ _ _ r hs c.all).resolve_left WO;have vI:∀b∈oW sames.length B,b<sames.length/\B.testBit b=true:=λb hb=>by
    unfold oW at hb;obtain⟨h1,h2⟩:=j8.mp hb;rw[ye] at h2;simp_all
   have Nq:∀b,b<sames.length->0<left.getD Ħ 0->yf (dec ä Ħ) r D:=λb hb h0 x hx=>by
    have:=c.Ae x hx;have pb:x≠s:=λz=>hx (z▸ hs);rw[Gm _ _ (dX pb)] at this;unfold dec;by_cases tu:x=cq sames b
    ·rw[af tu];have e0:ja r x=0:=Nk λz=>by
      obtain⟨p,hp,e⟩:=cf.mp z;exact c.sgn p (aO _ hp) b hb Æ
     rw[e0];have:aX left x=((left.getD Ħ 0:Nat):Int):=by rw[tu];rfl
     omega
    ·omega
   have hP:∀b,b<sames.length->nW (jr ((List.range (2^sames.length)).map Âb) (fq sames.length Ā ä Ý D).2 B (2^b))=(decide (0<left.getD Ħ 0)&&L.enough (Flags.less1 left Ħ) Án):=λb hb=>by
    rw[Nn hb (Gk nd hb) hs c.nd (c.sd b hb),pj,CA,jw,og];constructor
    ·intro h;have h0:=ak7 hb (h (2^b) (Nat.pow_lt_pow_right Ú hb));exact⟨h0,(Af hL nd c h0 (Nq b hb h0)).mpr h⟩
    ·rintro⟨h0,h⟩;exact(Af hL nd c h0 (Nq b hb h0)).mp h
   obtain⟨b0,hb0,alc⟩:=hex;have wB:b0<sames.length:=by
    refine Yd λz=>?_;have hB:=c.bits (s,B) Ä;have:B.testBit b0=false:=Do (iq hB (Hj Ú z));simp_all
   obtain⟨b,hb,e1,e2,e3⟩:=ak9 sames Ĝ s B ((List.range (2^sames.length)).map Âb) (λf=>decide (0<left.getD f 0)&&L.enough Ė Án) (oW sames.length B) (λb hb=>hP b (vI b hb).1)
    ⟨b0,j8.mpr ⟨À wB,by rw[ye];exact hb0⟩,by
     rw[<-hP b0 wB,Nn wB (Gk nd wB) hs c.nd (c.sd b0 wB),CA];intro g hg;rw[WE (B:=B) wB (Gk nd wB) hs c.nd (c.sd b0 wB)];exact alc g hg⟩
   have jW:=(vI b hb).1;have e2:=e2;have Ah:=e2;rw[jw,og] at Ah;have jm:=(Af hL nd c Ah.1 (Nq b jW Ah.1)).mp Ah.2;refine⟨cq sames b,?_,c.same jW Ah.1 hs jm,?_⟩
   ·rw[yh,e1,ak2 jW (Gk nd jW) hs c.nd (c.sd b jW),tw Ah.1]
   ·have hnp:¬(decide (0<left.getD (dg sames (s,B)).sign 0)&&L.enough (Flags.less1 left (dg sames (s,B)).sign) Án)=true:=λz=>by
     have z:=z;rw[jw,og] at z;exact ax ((Af hL nd c z.1 Ef).mp z.2)
    have ale:0<Flags.lacks left (((s,B)::r).map ô) (dg sames (s,B)).sign:=by
     refine apJ λz=>WO λg hg=>?_;have z:Flags.lacks left (((s,B)::r).map ô) s=0:=z;rw[Wx] at z;have h1:=Cz r s g;have h2:=uX ä r s B g;have h3:=c.all g hg;have h4:bf ä r s g+1<=0:=by
      rw[cnt_cons] at z;unfold bf aX;omega
     have h5:=Np (bf ä Ý s g);rw[h2] at h5⊢;rw[show bf ä r s g+1-oZ g B+oZ g B=bf ä r s g+1 by omega];have h6:cz (bf ä r s g+1)=0:=by unfold cz;rw[ah Æ]
     omega
    unfold Ag;rw[wQ,ah hnp,af ale];exact e3
 ·have yh:nX sames Ĝ s B=some (s,fq sames.length Ā ä Ý D):=by
   unfold nX;have:bY (fq sames.length Ā ä Ý D).1 s=none:=(Ek (λx=>(List.range (2^sames.length)).map (bf ä Ý x)) s D).trans (ah hs);simp_all
  have h0:0<left.getD s 0:=by
   have:=c.Ae s hs;rw[cnt_cons] at this;unfold aX at this;omega
  have jm:∀g,g<2^sames.length->0<=dj sames.length Ā Äl r D g:=λg hg=>by
   rw[WG (B:=B) hs gr];exact c.all g hg
  have cs:=c.sign h0 jm;refine⟨s,by rw[yh,tw h0,ak0 hs gr],cs,WM ?_⟩;have hd:=cs.Ae;rw[tw h0] at hd;rw[eJ h0,(Af hL nd c h0 hd).mpr jm];rfl
end
section
variable{L:Flags.Locker}{sames:LN}{D:LN}
def alf(hL:L.sameKinds=sames)(nd:sames.Nodup)(l:cg):∀(bI:cg)(left:LN),Ϻ (l++bI) D->
  ∃fs yi,nY sames (fq sames.length Ā ä (l++bI) D) l=some (fs,fq sames.length Ā (aX yi) bI D)/\n0 sames yi bI D/\L.fill ((l++bI).map ô) left=fs++L.fill (bI.map ô) yi:=by
 induction l with
 |nil=>exact @λbI left c=>⟨[],left,rfl,c,rfl⟩
 |cons hd0 l ih=>
  obtain⟨s,B⟩:=hd0;intro bI left c;obtain⟨f,e1,c1,e2⟩:=ala hL nd (show n0 sames left ((s,B)::(l++bI)) D from c);obtain⟨fs,yi,e3,c2,e4⟩:=ih bI Ė c1;refine⟨f::fs,yi,?_,c2,?_⟩
  ·unfold nY;have e1:nX sames (fq sames.length Ā ä ((s,B)::l++bI) D) (s,B).1 (s,B).2=some (f,fq sames.length Ā (aX Ė) (l++bI) D):=e1;rw[e1];dsimp only;rw[e3]
  ·have:=ak8 (L:=L) (sames:=sames) (left:=left) (r:=l++bI) (s:=s) (B:=B);rw[e2,e4] at this;exact this
def alg(hL:L.sameKinds=sames)(nd:sames.Nodup)(ps:List cg):∀(left:LN),Ϻ ps.flatten D->
  ∃x,mr sames (fq sames.length Ā ä ps.flatten D) ps=some x/\L.fill (ps.flatten.map ô) left=x.1.flatten:=by
 induction ps with
 |nil=>exact @λleft c=>⟨_,rfl,rfl⟩
 |cons p ps ih=>
  intro left c;obtain⟨fs,yi,e1,c1,e2⟩:=alf hL nd p ps.flatten left c;obtain⟨x,e3,e4⟩:=ih yi c1;refine⟨(fs::x.1,x.2),?_,?_⟩
  ·unfold mr;rw[Pa,e1];dsimp only;rw[e3]
  ·rw[Pa,e2,e4];rfl
end
theorem alh:∀hs:bp,Flags.pieces (hs.map List.length) hs.flatten=hs:=by
 intro hs;induction hs with
 |nil=>exact rfl
 |cons h hs ih=>
  rw[a0,Pa];unfold Flags.pieces;rw[List.take_left,List.drop_left,ih]
theorem zb{β:Type}{t:List (Nat×β)}(nd:(t.map (·.1)).Nodup){p:Nat×β}(h:p∈t):bY t p.1=some p.2:=by
 induction t with
 |nil=>cases h
 |cons x t ih=>
  obtain⟨hx,nd⟩:=j9.mp nd;unfold bY;rcases ba.mp h with rfl|h
  ·simp
  ·have:x.1≠p.1:=λz=>hx É;rw[apI É];exact ih nd h
theorem ali(l:cg)(s g:Nat):((rj g ((l.filter λp=>decide (p.1=s)).map (·.2)):Nat):Int)=jJ l s g:=by
 unfold rj jJ;generalize l.filter (λp=>decide (p.1=s))=M;induction M with
 |nil=>rfl
 |cons p M ih=>
  rw[a0,a0,gS,<-ih];unfold oZ jZ;grind
theorem WQ(l:cg)(s:Nat):ja l s=(l.map (·.1)).count s:=by
 unfold ja;induction l with
 |nil=>rfl
 |cons p l ih=>
  rw[a0,List.count_cons];by_cases h:p.1=s
  ·rw[Ay (À h),c7,ih];simp[h]
  ·rw[Az (À h),ih];simp[h]
theorem alj(G:Nat)(h:Nat->Nat->Int)(D:LN):∀(f:Nat->Int),rl G ((List.range G).map f) (D.map λs=>(s,(List.range G).map (h s)))=(List.range G).map λg=>f g-(D.map λs=>cz (h s g)).sum:=by
 induction D with
 |nil=>exact @λf=>o9 λg _=>by rw[lQ,List.sum_nil];omega
 |cons s D ih=>
  intro f;have e:x5 G ((List.range G).map f) ((List.range G).map (h s))=(List.range G).map λg=>f g-cz (h s g):=by
   unfold x5;exact o9 λg hg=>by rw[WA f hg,WA _ hg]
  rw[a0];show rl G (x5 G ((List.range G).map f) ((List.range G).map (h s))) _=_;rw[e,ih];exact o9 λg _=>by rw[a0,gS];omega
abbrev jt(ms:aF):LN:=ms.map λm=>m.copies.toNat
theorem Gn{ms:aF}(hc:∀m∈ms,0<=m.copies)(s:Nat):sO ms s=aX (jt ms) s:=by
 unfold sO aX jt;cases e:ms[s]? with
 |none=>
  rw[iV,iV,bW,e];rfl
 |some m=>
  rw[iV,iV,bW,e];have:=hc m (bZ e);show m.copies=((m.copies.toNat:Nat):Int);omega
theorem alk(hc:∀m∈ms,0<=m.copies)(sames:LN)(g:Nat):rk ms sames g=jb sames.length Ā Ň g:=by
 unfold rk rh jb;generalize List.range sames.length=M;induction M with
 |nil=>rfl
 |cons b M ih=>
  have e:=Gn hc Ħ;unfold sO at e;rw[a0,gS,<-ih];by_cases h:xZ g b=true
  ·rw[Ay h,a0,gS,af (by rw[<-ye];exact h),e]
  ·rw[Az h,ah (by rw[<-ye];exact h),Ym]
def Nr(rows lO:bp):(mv rows lO).flatten=eU rows lO:=by
 rfl
def n8(ms:aF)(rows:bp):LN:=(jq ms rows.flatten).map (·.1)
def Nt(ms:aF)(rows:bp):(eU rows ņ).map (·.1)=rows.flatten:=U4 rows ņ (U5 ms rows) (ME ms rows)
def alm(h:p∈jq ms flat):p.2=(flat.count p.1:Int)-sO ms p.1:=by
 unfold jq at h;obtain⟨q,hq,e⟩:=GZ.mp h;unfold oR at e;split at e
 ·have e:=(aN e).symm;subst e;have h1:=zb (Fv flat) hq;have h2:=Uq flat q.1;simp_all
 ·cases e
def aln(hc:∀m∈ms,0<=m.copies)(h:s∉(jq ms flat).map (·.1)):(flat.count s:Int)<=sO ms s:=by
 by_cases hs:flat.contains s=true
 ·have h1:=Ur flat s;rw[hs] at h1;obtain⟨n,hn⟩:=G0.mp h1;have h2:=Uq flat s;rw[hn] at h2;have h2:=h2;have hq:(s,n)∈gu flat:=by
   unfold bY at hn;cases e:(gu flat).find? λp=>decide (p.1=s) with
   |none=>simp_all
   |some q=>
    grind
  refine Int.not_lt.mp λz=>h ?_;refine cf.mpr ⟨(s,(n:Int)-sO ms s),?_,rfl⟩;unfold jq;refine GZ.mpr ⟨(s,n),hq,?_⟩;unfold oR;simp_all
 ·have:flat.count s=0:=List.count_eq_zero.mpr (λz=>hs É);rw[this,Gn hc];unfold aX;omega
def Nu(hc:∀m∈ms,0<=m.copies)(rows:bp):oX ms rows=fq (aZ ms).length Çu Ň ù Ų:=by
 have eg:Cj ms rows=(n8 ms rows).map λs=>(s,(List.range (2^(aZ ms).length)).map (bf Ň ù s)):=by
  unfold Cj nV n8;rw[cQ];apply kq;intro p hp;congr 1;unfold FA;refine o9 λg _=>?_;rw[Uw,ali,alm hp,Gn hc];unfold bf;rw[WQ,Nt]
 unfold oX;rw[eg];unfold fq;congr 1;have ec:(List.range (2^(aZ ms).length)).map (rk ms Ĩ)=(List.range (2^(aZ ms).length)).map (jb (aZ ms).length Çu Ň):=o9 λg _=>alk hc _ g;rw[ec,alj];rfl
end HD
end
section
namespace HD
open PySem L2 JM
def WR{L:Flags.Locker}{ms:aF}(hk:L.kinds=ms.map bV){i:Nat}(hi:i<ms.length):L.kinds[i]? =some (bV ϑ):=by
 simp_all
def WS{L:Flags.Locker}{ms:aF}(hk:L.kinds=ms.map bV){i:Nat}(hi:i<ms.length):(L.kinds[i]?).map Flags.Kind.role=some (qg ϑ):=by
 rw[WR hk hi];rfl
def Nv{L:Flags.Locker}{ms:aF}(hk:L.kinds=ms.map bV):L.sameKinds=aZ ms:=by
 unfold Flags.Locker.sameKinds aZ;have hl:L.kinds.length=ms.length:=by rw[hk,aA]
 rw[hl];apply Yr;intro i hi;have hi:i<ms.length:=À hi
 rw[WS hk hi];unfold qg;by_cases h0:(ms.getD i fk).role=0
 ·rw[af h0,h0];rfl
 ·rw[ah h0];by_cases h1:(ms.getD i fk).role=1
  ·rw[af h1,h1];rfl
  ·rw[ah h1,fQ h1]
def alo{L:Flags.Locker}{ms:aF}(hk:L.kinds=ms.map bV){s:Nat}(hs:s∈aZ ms):L.points s=(lh ms s).toNat:=by
 unfold aZ at hs;obtain⟨h1,h2⟩:=j8.mp hs;simp at h1;have h2:(ms.getD s fk).role=1:=À h2
 unfold Flags.Locker.points;rw[WS hk h1];unfold qg;rw[ah Æ,af h2];rfl
theorem alp(P:Nat->Bool)(l:LN):l.filter P=((List.range l.length).filter λb=>P (l.getD b 0)).map λb=>l.getD b 0:=by
 induction l with
 |nil=>exact rfl
 |cons x l ih=>
  have ih:=ih;rw[c7,De,wQ,wQ,yu];have e:((λb=>P ((x::l).getD b 0))∘Nat.succ)=λb=>P (l.getD b 0):=rfl;rw[e];by_cases h:P x=true
  ·rw[af h,af (show P ((x::l).getD 0 0)=true from h),a0,cQ,ih];rfl
  ·rw[ah h,ah (show ¬P ((x::l).getD 0 0)=true from h),cQ,ih];rfl
def WT(ms:aF)(sames row:LN)(i:Nat):sN ms sames row i=uY (zJ ms sames row i) sames.length:=rfl
def alq{L:Flags.Locker}{ms:aF}(hk:L.kinds=ms.map bV)(mo:wu ms)(row:LN)(i:Nat):
  dg Ĩ (row.getD i 0,sN ms Ĩ row i)=⟨row.getD i 0,L.sameKinds.filter λ(f:Nat)=>decide (L.points f<=i)&&row.getD (L.points f-1) 0==row.getD i 0⟩:=by
 unfold dg;dsimp only;congr 1;rw[Nv hk,alp];congr 1;unfold oW;apply Yr;intro b hb;have hb:b<(aZ ms).length:=À hb
 have hm:(aZ ms).getD b 0∈aZ ms:=by
  rw[iV,dm hb];exact List.getElem_mem hb
 rw[ye,WT,Ww,eJ hb,lR,alo hk hm];have hp:=mo.pos _ hm;unfold zJ;have e1:decide (lh ms ((aZ ms).getD b 0)<=(i:Int))=decide ((lh ms ((aZ ms).getD b 0)).toNat<=i):=by
  rw[Yp];omega
 rw[e1,Bool.beq_eq_decide_eq]
theorem WU{L:Flags.Locker}{ms:aF}(hk:L.kinds=ms.map bV)(mo:wu ms):∀rows:bp,L.spots rows=(eU rows ņ).map (dg Ĩ):=by
 intro rows;induction rows with
 |nil=>exact rfl
 |cons r rows ih=>
  have ih:=ih;unfold Flags.Locker.spots eU fJ at ih⊢;rw[Dk,ih,a0,Dd,Dk,bX];congr 1;unfold ql;have e:r=(List.range r.length).map λi=>r.getD i 0:=by
   have:=wk (l:=r) (g:=λx=>x) (d:=0);rw[List.map_id'] at this;exact this.symm
  have e2:r.zip ((List.range r.length).map (sN ms Ĩ r))=(List.range r.length).map λi=>(r.getD i 0,sN ms Ĩ r i):=by
   apply wO;intro i;by_cases hi:i<r.length
   ·rw[bW,O7 hi,Hk.mpr (show r[i]? =some (r.getD i 0,sN ms Ĩ r i).1/\((List.range r.length).map (sN ms Ĩ r))[i]? =some (r.getD i 0,sN ms Ĩ r i).2 from Áj)]
    ·rfl
    ·rw[iV,dm hi];rfl
    ·rw[bW,O7 hi];rfl
   ·rw[wM (by rw[List.length_zip];omega),wM (by rw[aA,g7];omega)]
  rw[e2,cQ];apply kq;intro i _;exact(alq hk mo r i).symm
def WV(ms:aF):(aZ ms).Nodup:=List.Nodup.sublist apK Yq
structure wC(ms:aF):Prop where
 mo:wu ms
 cp:∀m∈ms,0<=m.copies
def Ai(ms:aF)(rows:bp):Prop:=∀r∈rows,∀s∈r,jH ms s=true
def WW(h:jH ms s=true):s∉aZ ms:=λz=>by
 unfold aZ at z;have z:(ms.getD s fk).role=1:=by simpa using (j8.mp z).2
 have h:(ms.getD s fk).role=0:=by unfold jH at h;simpa using h
 omega
def WX(ms:aF)(rows:bp):∀p∈eU rows ņ,p.2<2^(aZ ms).length:=λp hp=>by
 unfold eU fJ at hp;obtain⟨q,hq,hp⟩:=kC.mp hp;have h1:=(Dc hq).2;obtain⟨r,_,e⟩:=cf.mp h1;have h2:=(Dc hp).2;rw[<-e] at h2;unfold ql at h2;obtain⟨i,_,e2⟩:=cf.mp h2;rw[<-e2,WT];exact Nj _ _
def WY(g:wC ms)(rows:bp):yf Ň ù Ų:=λs hs=>by
 rw[WQ,Nt,<-Gn g.cp];exact aln g.cp hs
def alr(g:wC ms)(sg:Ai ms rows)(h:∀q,q<2^(aZ ms).length->0<=dj (aZ ms).length Çu Ň ù Ų q):n0 Ĩ (jt ms) ù Ų:=by
 have hJ:∀b,b<(aZ ms).length->cq Ĩ b∈aZ ms:=λb hb=>by
  simp_all
 have jV:∀s∈rows.flatten,jH ms s=true:=λs hs=>by
  obtain⟨r,hr,hs⟩:=List.mem_flatten.mp hs;exact sg r hr s hs
 refine⟨MF _ _,WY g rows,WX ms rows,λp hp b hb e=>?_,λb hb hz=>?_,h⟩
 ·have h1:p.1∈rows.flatten:=by rw[<-Nt ms rows];exact cf.mpr ⟨p,hp,rfl⟩
  exact WW (jV _ h1) (e▸ hJ b hb)
 ·unfold n8 at hz;obtain⟨q,hq,e⟩:=cf.mp hz;exact WW (jV _ (U6 hq)) É
def Gp{L:Flags.Locker}{ms:aF}(hk:L.kinds=ms.map bV)(g:wC ms)(rows:bp):L.enough L.allCopies (L.spots rows)=true↔ ∀q,q<2^(aZ ms).length->0<=dj (aZ ms).length Çu Ň ù Ų q:=by
 rw[WU hk g.mo,show L.allCopies=jt ms by unfold Flags.Locker.allCopies jt;rw[hk,cQ];rfl];exact Wz (Nv hk) (WV ms) _ _ (WX ms rows) (MF _ _) (WY g rows)
def WZ(g:wC ms)(rows:bp):(oX ms rows).2.any (λz=>decide (z<0))=false↔ ∀q,q<2^(aZ ms).length->0<=dj (aZ ms).length Çu Ň ù Ų q:=by
 rw[Nu g.cp];have:=CA (dj (aZ ms).length Çu Ň ù Ų) (2^(aZ ms).length);rw[<-this];unfold nW fq;simp
def Nw{L:Flags.Locker}{ms:aF}(hk:L.kinds=ms.map bV)(g:wC ms){rows:bp}(sg:Ai ms rows):nZ ms rows=some (if L.canShowAll rows=true then some (L.displayed rows) else none):=by
 have gO:(∀q,q<2^(aZ ms).length->0<=dj (aZ ms).length Çu Ň ù Ų q)->∃x,mr Ĩ Æk Ãn=some x/\x.1.map List.length=rows.map List.length/\L.displayed rows=x.1:=λh=>by
  have c:=alr g sg h;rw[<-Nr] at c;obtain⟨x,e1,e2⟩:=alg (L:=L) (Nv hk) (WV ms) Ãn (jt ms) c;rw[Nr,<-Nu g.cp] at e1;rw[Nr,<-WU hk g.mo] at e2;have hl:x.1.map List.length=rows.map List.length:=by
   rw[VM _ _ _ _ e1];unfold mv fJ;rw[cQ];apply wO;intro i;rw[bW,bW,Yo,bW];cases er:rows[i]? with
   |none=>simp_all
   |some r=>
    rw[Hk.mpr (show rows[i]? =some (r,r).1/\rows[i]? =some (r,r).2 from⟨er,er⟩)];unfold ql;simp
  refine⟨x,e1,hl,?_⟩;have ee:=(Gp hk g rows).mpr h;unfold Flags.Locker.displayed Flags.Locker.display;rw[af ee,show L.allCopies=jt ms by unfold Flags.Locker.allCopies jt;rw[hk,cQ];rfl,e2,<-hl];exact alh x.1
 have ec:L.canShowAll rows=L.enough L.allCopies (L.spots rows):=rfl;unfold nZ;by_cases hl:jq ms rows.flatten=[]
 ·rw[af hl];have hK:n8 ms rows=[]:=by unfold n8;rw[hl];rfl
  have h:∀q,q<2^(aZ ms).length->0<=dj (aZ ms).length Çu Ň ù Ų q:=λq _=>by
   rw[hK];unfold dj iR jb;rw[lQ,List.sum_nil,Int.sub_zero];generalize List.range (aZ ms).length=M;induction M with
   |nil=>simp
   |cons b M ih=>
    rw[a0,gS];have:(0:Int)<=if q.testBit b=true then aX (jt ms) (cq Ĩ b) else 0:=by
     unfold aX;omega
    omega
  obtain⟨x,e1,_,e2⟩:=gO h;have en:mr Ĩ Æk Ãn=some ((mv rows ņ).map (λp=>p.map (·.1)),oX ms rows):=by
   have h1:∀(l:cg)(st:hZ),st.1=[]->nY Ĩ st l=some (l.map (·.1),st):=by
    intro l;induction l with
    |nil=>intro st _;rfl
    |cons p l ih=>
     intro st qE;unfold nY nX;rw[qE,show bY ([]:List (Nat×LI)) p.1=none from rfl];grind
   have h2:∀(ps:List cg)(st:hZ),st.1=[]->mr Ĩ st ps=some (ps.map (λp=>p.map (·.1)),st):=by
    intro ps;induction ps with
    |nil=>intro st _;rfl
    |cons p ps ih=>
     intro st qE;unfold mr;grind
   refine h2 _ _ ?_;rw[Nu g.cp,hK];rfl
  have ex:x.1=rows:=by
   rw[en] at e1;rw[<-aN e1];unfold mv fJ;rw[cQ];apply wO;intro i;rw[bW,Yo,bW];cases er:rows[i]? with
   |none=>simp_all
   |some r=>
    rw[Hk.mpr (show rows[i]? =some (r,r).1/\rows[i]? =some (r,r).2 from⟨er,er⟩)];show some ((r.zip (ql ms Ĩ r)).map (·.1))=some r;rw[List.map_fst_zip (by unfold ql;rw[aA,g7];exact bJ _)]
  rw[ec,af ((Gp hk g rows).mpr h),e2,ex]
 ·rw[ah hl];by_cases ha:(oX ms rows).2.any (λz=>decide (z<0))=true
  ·rw[af ha,ec,ah (λz=>?_)];have:=(WZ g rows).mpr ((Gp hk g rows).mp z);simp_all
  ·rw[ah ha];have h:=(WZ g rows).mp É;obtain⟨x,e1,_,e2⟩:=gO h;rw[e1,ec,af ((Gp hk g rows).mpr h),e2];rfl
structure rH(ms:aF):Prop where
 kv:∀m∈ms,Kv m
 pw:ms.Pairwise λp x=>iJ p x=true
 nm:(ms.filter isSign).Pairwise λa b=>a.name≠b.name
def Ny(h8:a9 t)(h:fZ t=some x):rH x.2:=by
 unfold fZ at h;split at h
 ·rename_i l r e;cases e1:fg (codes "locker") l with
  |none=>rw[e1,BK] at h;cases h
  |some n=>
   cases e2:gE r with
   |none=>rw[e2,BJ] at h;cases h
   |some ms=>
    rw[e1,e2] at h;have h:(if (nI ms&&oK ms)=true then some (n,ms) else none)=some x:=h;split at h
    ·rename_i ho;have:=aN h;subst this;have hr:=λw hw=>by
      unfold jD at e;split at e
      ·have e:=aN e;have:w∈(aI 10 t).dropLast:=by rw[e];exact aO _ hw
       exact pV 10 h8 w (Aw _ this)
      ·simp_all
     have kv:=LD hr e2;obtain⟨ho,hd⟩:=vc.mp ho;refine⟨kv,?_,?_⟩
     ·unfold nI at ho;split at ho
      ·simp_all
      ·exact(LF kv).mp ho
     ·unfold oK at hd;obtain⟨hd,_⟩:=vc.mp hd;simp at hd;have:=LG.mp hd;rw[O9] at this;refine this.imp λ{a b}nM e=>?_;rw[LH,eJ e] at nM;simp_all
    ·simp_all
 ·cases h
theorem W0:∀{l:LI}{lo hi:Int},l.Pairwise (· < ·)->(∀x∈l,lo<=x/\x<=hi)->l≠[]->(l.length:Int)<=hi-lo+1
 |[],_,_,_,_,h=>absurd rfl h
 |[x],lo,hi,_,h,_=>by
  have:=h x Ä;simp only[List.length_singleton];omega
 |x::y::l,lo,hi,pw,h,_=>by
  obtain⟨h1,h2⟩:=Hh.mp pw;have hx:=h x Ä;have:=W0 (l:=y::l) (lo:=x+1) (hi:=hi) h2 (λz hz=>⟨by have:=h1 z hz;omega,(h z (aO _ hz)).2⟩) Ä;rw[c7];omega
def als{ms:aF}(f:rH ms):(aZ ms).length<=4:=by
 by_cases hn:aZ ms=[]
 ·rw[hn];decide
 have Nz:∀i∈aZ ms,i<ms.length/\(ms.getD i fk).role=1:=λi hi=>by
  unfold aZ at hi;obtain⟨h1,h2⟩:=j8.mp hi;exact⟨À h1,À h2⟩
 have tF:∀i,i<ms.length->ms[i]? =some ϑ:=λi hi=>by
  rw[iV,dm hi];rfl
 have jj:=λi hi=>bZ (tF i hi);have bQ:(aZ ms).Pairwise (· < ·):=by
  unfold aZ;exact List.Pairwise.sublist apK List.pairwise_lt_range
 have hw:((aZ ms).map (lh ms)).Pairwise (· < ·):=by
  rw[O9];refine List.Pairwise.imp_of_mem (λ{i j}hi hj Fy=>?_) bQ;obtain⟨i1,i2⟩:=Nz i hi;obtain⟨j1,j2⟩:=Nz j hj;have hf:=(pw_place.mp f.pw) j _ (tF j j1) ϑ (by
   refine bZ (i:=i) ?_;rw[X3 Fy,tF i i1])
  have:=(we (f.kv _ (jj i i1)) (f.kv _ (jj j j1)) j2).mp hf;unfold lh;rcases this with h|h
  ·omega
  ·exact h.2
 have:=W0 (lo:=1) (hi:=4) hw (λz hz=>by
  obtain⟨i,hi,rfl⟩:=cf.mp hz;obtain⟨i1,i2⟩:=Nz i hi;exact(f.kv _ (jj i i1)).BO i2) (À hn)
 rw[aA] at this;omega
def NA(f:rH ms):wC ms:=by
 refine⟨⟨by have:=als f;omega,λs hs=>?_⟩,λm hm=>by have:=(f.kv m hm).cp;omega⟩;unfold aZ at hs;obtain⟨h1,h2⟩:=j8.mp hs;simp at h1;simp at h2;have hm:ms.getD s fk∈ms:=by
  simp_all
 exact((f.kv _ hm).BO h2).1
def alu(h8:a9 t)(h:fZ t=some x):Gc x.2:=by
 have f:=Ny h8 h;have g:=NA f;refine⟨λk hk=>(f.kv k hk).lk,g.mo,λrows sg=>?_⟩;rw[Nw (L:=⟨[],x.2.map bV⟩) rfl g sg];simp
def W1(x:Str)(s:String)(hx:a9 Ş)(hs:(codes x).map B=Flags.ascii s)(h:a9 l):Flags.wordName (Flags.ascii s) Ķ=(fg Ş l).map λn=>n.map B:=by
 unfold Flags.wordName fg;rw[show Flags.cutAt 32 Ķ=(aI 32 l).map ê from xE 32 Ú l h];have h8:=pV 32 (l:=l) h;generalize aI 32 l=ws at h8
 match ws,h8 with
 |[],_=>rfl
 |[a],_=>rfl
 |[a,b],h8=>
  have ea:a.map B=Flags.ascii s↔a=codes x:=by
   rw[<-hs];exact⟨λe=>vN (h8 a Ä) hx e,λe=>by rw[e]⟩
  show(if a.map B=Flags.ascii s/\Flags.isName ϔ=true then some ϔ else none)=Option.map _ (if a=codes x/\iH b=true then some b else none);rw[Fg (h8 b Ä)];by_cases c:a=codes x/\iH b=true
  ·rw[af c,af ⟨ea.mpr c.1,c.2⟩];rfl
  ·rw[ah c,ah (λz:_/\_=>c ⟨ea.mp z.1,z.2⟩)];rfl
 |a::b::c::r,_=>rfl
def wF(l:LI):Bool:=!(aI 32 l).contains []
def wG(l:LI):Bool:=!((aI 32 l).drop 1).contains []
def W2(x:Int)(r:LI):wF (x::r)=(decide (x≠32)&&wG r):=by
 unfold wF wG;show(!(if x=32 then []::aI 32 r else match aI 32 r with|[]=>[[x]]|w::l=>(x::w)::l).contains [])=_;by_cases h:x=32
 ·rw[af h,fQ (λz=>z h),lu];simp
 ·rw[ah h,eJ h,lR];cases e:aI 32 r with
  |nil=>exact absurd e (lJ 32 r)
  |cons w l=>
   simp
def alv(y:Int)(r:LI):wG (y::r)=if y=32 then wF r else wG r:=by
 unfold wF wG;show(!((if y=32 then []::aI 32 r else match aI 32 r with|[]=>[[y]]|w::l=>(y::w)::l).drop 1).contains [])=_;by_cases h:y=32
 ·rw[af h,af h];rfl
 ·rw[ah h,ah h];cases e:aI 32 r with
  |nil=>exact absurd e (lJ 32 r)
  |cons w l=>rfl
def kB(l:List UInt8):Bool:=l.getLast? !=some 32&&Flags.noTwoBlanks l
def CC(h:0<=x/\x<=255):(B x==32)=decide (x=32):=by
 have:=BM (p:=λx=>decide ((B x==32)=decide (x=32))) Ê h;simp_all
def W3(x y:Int)(hx:0<=x/\x<=255)(hy:0<=y/\y<=255)(r:List UInt8):kB (B x::B y::r)=(!(decide (x=32)&&decide (y=32))&&kB (B y::r)):=by
 unfold kB;rw[show Flags.noTwoBlanks (B x::B y::r)=(!(B x==32&&B y==32)&&Flags.noTwoBlanks (B y::r)) from rfl,CC hx,CC hy,List.getLast?_cons_cons];cases (decide (x=32)&&decide (y=32)) <;> cases ((B y::r).getLast? !=some 32) <;> simp
def W4(x:Int)(hx:0<=x/\x<=255):kB [B x]=decide (x≠32):=by
 unfold kB;rw[show Flags.noTwoBlanks [B x]=true from rfl,O8];have:=CC hx;show(some (B x)!=some 32)=_;by_cases h:x=32
 ·rw[h];decide
 ·rw[eJ h];rw[fQ h] at this;have h2:B x≠32:=by simpa using this
  simpa using h2
theorem NC:∀(n:Nat)(r:LI)(x:Int),r.length<=n->a9 (x::r)->x≠32->kB ((x::r).map B)=wG r
 |_,[],x,_,h,hx=>by
  rw[a0,lQ,W4 x (h x Ä),eJ hx];rfl
 |0,y::r,x,hl,_,_=>absurd hl Ä
 |n+1,y::r,x,hl,h,hx=>by
  have h8x:=h x Ä;have ND:=h y Ä;simp at hl;rw[a0,a0,W3 x y h8x ND,fQ hx,lu,alv];by_cases hy:y=32
  ·rw[af hy];cases r with
   |nil=>
    rw[lQ,W4 y ND,fQ (λz=>z hy)];rfl
   |cons z r=>
    have h8z:=h z Ä;rw[a0,W3 y z ND h8z,eJ hy,lR,W2];by_cases hz:z=32
    ·rw[eJ hz,fQ (λw=>w hz)];rfl
    ·rw[fQ hz,eJ hz,lR];exact NC n r z (by simp only[c7] at hl;omega) (λw hw=>h w (aO _ (aO _ hw))) hz
  ·rw[ah hy];exact NC n r y hl (λw hw=>h w (aO _ hw)) hy
def aly{l:LI}(h:a9 l):Flags.isMeaning Ķ=sY l:=by
 have em:sY l=(!(decide (l.length>64)||(aI 32 l).contains [])&&l.all λb=>decide (32<=b)&&decide (b<=126)):=rfl;have ew:(aI 32 l).contains []=!wF l:=by unfold wF;rw[Pc]
 rw[em,ew];unfold Flags.isMeaning;rw[aA,rL];have ea:l.all ((λ(c:UInt8)=>decide (32<=c.toNat)&&decide (c.toNat<=126))∘B)=l.all λb=>decide (32<=b)&&decide (b<=126):=Jv h λx hx=>by
  have:=BM (p:=λx=>decide ((decide (32<=(B x).toNat)&&decide ((B x).toNat<=126))=(decide (32<=x)&&decide (x<=126)))) Ê hx;simpa using this
 rw[ea];cases l with
 |nil=>rfl
 |cons x r=>
  rw[W2];have hk:(((x::r).map B).head? !=some 32)=decide (x≠32):=by
   have:=CC (h x Ä);show(some (B x)!=some 32)=_;by_cases hx:x=32
   ·rw[hx];decide
   ·rw[eJ hx];rw[fQ hx] at this;have h2:B x≠32:=by simpa using this
    simpa using h2
  have e1:decide (1<=(x::r).length)=true:=eJ Ä;have e2:decide ((x::r).length>64)=!decide ((x::r).length<=64):=by
   generalize (x::r).length=n;by_cases hn:n<=64
   ·rw[eJ hn,fQ Æ];rfl
   ·rw[fQ hn,eJ Æ];rfl
  rw[hk,e1,e2,lR];have wD:decide (x≠32)=true->kB ((x::r).map B)=wG r:=λhx=>NC r.length r x (bJ _) h (rN hx);unfold kB at wD;generalize (((x::r).map B).getLast? !=some 32)=p1 at wD⊢;generalize Flags.noTwoBlanks ((x::r).map B)=p2 at wD⊢;generalize (x::r).all (λb=>decide (32<=b)&&decide (b<=126))=p3;generalize decide ((x::r).length<=64)=p4;generalize wG r=p5 at wD⊢;generalize decide (x≠32)=p6 at wD⊢;cases p6
  ·cases p1 <;> cases p2 <;> cases p3 <;> cases p4 <;> cases p5 <;> rfl
  ·have wD:=wD rfl;subst wD;cases p1 <;> cases p2 <;> cases p3 <;> cases p4 <;> rfl
def alz(h:iI line=some m)(h0:m.role=0):iH m.name=true:=by
 unfold iI oH at h;generalize aI 32 line=ws at h;split at h
 ·cases h
 ·rename_i r er;by_cases hl:ws.length=(if r=2 then 4 else 5)
  ·rw[af hl] at h;cases e1:lK r Ō with
   |none=>rw[e1,E3] at h;cases h
   |some n=>
    cases e2:qW r Ō with
    |none=>rw[e2,E4] at h;cases h
    |some wh=>
     cases e3:iy (ws.getD (ws.length-3) []) 8 with
     |none=>rw[e3,Lm] at h;cases h
     |some c=>
      cases e4:bw ÿ (ws.getD (ws.length-2) []) with
      |none=>rw[e4,E5] at h;cases h
      |some sh=>
       cases e5:ij (ws.getD (ws.length-1) []) with
       |none=>rw[e5,E6] at h;cases h
       |some lk=>
        rw[e1,e2,e3,e4,e5] at h;have:=aN h;subst this;have h0:=h0;unfold lK at e1;grind
  ·simp_all
theorem alA{r:di}:∀{ms:aF},gE r=some ms->∀m∈ms,m.role=0->iH m.name=true:=by
 induction r with
 |nil=>
  intro ms h m hm;have:=aN h;subst this;exact absurd hm Ä
 |cons l r ih=>
  intro ms h m hm;unfold gE at h;cases e1:iI l with
  |none=>rw[e1] at h;cases gE r <;> cases h
  |some k=>
   rw[e1] at h;cases e2:gE r with
   |none=>rw[e2] at h;cases h
   |some ks=>
    rw[e2] at h;have:=aN h;subst this;rcases ba.mp hm with rfl|hm
    ·exact alz e1
    ·exact ih e2 m hm
def alB{t:LI}{x:LI×aF}(h:fZ t=some x):∀m∈x.2,m.role=0->iH m.name=true:=by
 unfold fZ at h;split at h
 ·rename_i l r e;cases e1:fg (codes "locker") l with
  |none=>rw[e1,BK] at h;cases h
  |some n=>
   cases e2:gE r with
   |none=>rw[e2,BJ] at h;cases h
   |some ms=>
    rw[e1,e2] at h;have h:(if (nI ms&&oK ms)=true then some (n,ms) else none)=some x:=h;split at h
    ·have:=aN h;subst this;exact alA e2
    ·simp_all
 ·cases h
def pd(name:LI)(m:gX):Bool:=decide (m.role=0)&&decide (m.name=name)
def alC{L:Flags.Locker}{ms:aF}(hk:L.kinds=ms.map bV)(f:rH ms){name:LI}(h8:a9 name):L.find Ãm=ms.findIdx? (pd name):=by
 unfold Flags.Locker.find;rw[hk,List.findIdx?_map];have:∀l:aF,(∀m∈l,Kv m)->l.findIdx? ((λ(k:Flags.Kind)=>k.role== .sign Ãm)∘bV)=l.findIdx? (pd name):=by
  intro l;induction l with
  |nil=>intro _;rfl
  |cons m l ih=>
   intro kv;have km:=kv m Ä;have e:((λ(k:Flags.Kind)=>k.role== .sign Ãm)∘bV) m=pd name m:=by
    show((bV m).role== .sign Ãm)=_;unfold pd;by_cases h0:m.role=0
    ·rw[xS h0,eJ h0,lR];by_cases hn:m.name=name
     ·rw[hn,eJ rfl];simp
     ·rw[fQ hn];have:m.name.map B≠name.map B:=λz=>hn (vN km.nm h8 z);simpa using this
    ·rw[fQ h0,lu];by_cases h1:m.role=1
     ·rw[zC h1];rfl
     ·have:=km.role;rw[Fk km Æ];rfl
   rw[Yh,Yh,e,ih λx hx=>kv x (aO _ hx)]
 exact this ms f.kv
theorem alD(name:LI)(l:List (LI×Nat)):∀(acc:Option Nat),(∀p∈l,p.1≠name)->l.foldl (λacc p=>if p.1=name then some p.2 else acc) acc=acc:=by
 induction l with
 |nil=>exact @λacc _=>rfl
 |cons p l ih=>
  intro acc h;rw[Hl,ah (h p Ä)];exact ih acc λq hq=>h q (aO _ hq)
theorem alE(name:LI)(k:Nat)(l:List (LI×Nat)):∀(acc:Option Nat),(∀p∈l,p.1=name->p.2=k)->((∃p∈l,p.1=name)\/acc=some k)->l.foldl (λacc p=>if p.1=name then some p.2 else acc) acc=some k:=by
 induction l with
 |nil=>exact @λacc _ h=>h.elim (λ⟨p,hp,_⟩=>absurd hp Ä) id
 |cons p l ih=>
  intro acc h1 h2;rw[Hl];refine ih _ (λq hq=>h1 q (aO _ hq)) ?_;by_cases hp:p.1=name
  ·rw[af hp,h1 p Ä hp];exact Or.inr rfl
  ·rw[ah hp];rcases h2 with ⟨q,hq,e⟩|h2
   ·rcases ba.mp hq with rfl|hq
    ·exact absurd e hp
    ·exact Or.inl ⟨q,hq,e⟩
   ·exact Or.inr h2
def W5(f:rH ms)(name:LI):jI ms name=ms.findIdx? (pd name):=by
 have tF:∀i,i<ms.length->ms[i]? =some ϑ:=λi hi=>by
  rw[iV,dm hi];rfl
 have jj:∀p,p∈sZ ms ms.length↔ ∃j,j<ms.length/\(ms.getD j fk).role=0/\p=((ms.getD j fk).name,j):=λp=>by
  unfold sZ jH;simp only[cf,j8,Aq,og];exact⟨λ⟨j,⟨h1,h2⟩,e⟩=>⟨j,h1,h2,e.symm⟩,λ⟨j,h1,h2,e⟩=>⟨j,⟨h1,h2⟩,e.symm⟩⟩
 have hu:∀i j,i<j->j<ms.length->pd name ϑ=true->pd name (ms.getD j fk)=true->False:=λi j Fy hj h1 h2=>by
  have hp:=apz.mp f.nm;have:=(pw_place.mp hp) j _ (tF j hj) ϑ (by
   refine bZ (i:=i) ?_;rw[X3 Fy,tF i Æ])
  unfold pd at h1 h2;obtain⟨a1,a2⟩:=vc.mp h1;obtain⟨b1,b2⟩:=vc.mp h2;exact this a1 b1 ((rN a2).trans (rN b2).symm)
 unfold jI;cases e:ms.findIdx? (pd name) with
 |none=>
  rw[List.findIdx?_eq_none_iff] at e;refine alD name _ none λp hp z=>?_;obtain⟨j,hj,h0,rfl⟩:=(jj p).mp hp;have:=e _ (bZ (tF j hj));unfold pd at this;rw[eJ h0,eJ z] at this;cases this
 |some k=>
  obtain⟨hk,h1,_⟩:=O5.mp e;have kT:pd name (ms.getD k fk)=true:=by
   rw[iV,dm hk];exact h1
  have wa:=vc.mp kT;refine alE name k _ none (λp hp z=>?_) (Or.inl ⟨((ms.getD k fk).name,k),(jj _).mpr ⟨k,hk,rN wa.1,rfl⟩,rN wa.2⟩);obtain⟨j,hj,h0,rfl⟩:=(jj p).mp hp;have En:pd name (ms.getD j fk)=true:=by
   unfold pd;rw[eJ h0,eJ z];rfl
  rcases Nat.lt_trichotomy j k with h|h|h
  ·exact(hu j k h hk En kT).elim
  ·exact h
  ·exact(hu k j h hj kT En).elim
def alF{L:Flags.Locker}{ms:aF}(hk:L.kinds=ms.map bV)(f:rH ms){name:LI}(h8:a9 name):L.find Ãm=jI ms name:=(alC hk f h8).trans (W5 f name).symm
def alG{ms:aF}(f:rH ms)(hn:∀m∈ms,m.role=0->iH m.name=true){name:LI}{k:Nat}(h:jI ms name=some k):iH name=true:=by
 rw[W5 f] at h;obtain⟨hk,h1,_⟩:=O5.mp h;have h1:=vc.mp h1;have:=hn _ (List.getElem_mem hk) (rN h1.1);rw[rN h1.2] at this;exact this
theorem alH{l:LI}:a9 l->Flags.partAt 32 Ķ=if l.contains 32=true then some ((l.take (l.idxOf 32)).map B,(l.drop (l.idxOf 32+1)).map B) else none:=by
 induction l with
 |nil=>exact @λ_=>rfl
 |cons x r ih=>
  intro h;have ih:=ih λw hw=>h w (aO _ hw);have hx:=CC (h x Ä);rw[a0];unfold Flags.partAt;rw[List.idxOf_cons,Am];by_cases e:x=32
  ·rw[af (by rw[eJ e] at hx;simpa using hx),af (by rw[e];rfl)];subst e;rfl
  ·have hB:¬B x=32:=by rw[fQ e] at hx;simpa using hx
   have e1:(x==32)=false:=À e
   have e2:((32:Int)==x)=false:=by simpa using dX e
   rw[ah hB,ih,e1,e2,OU];by_cases hc:r.contains 32=true
   ·rw[af hc,af hc];rfl
   ·rw[ah hc,ah hc];rfl
theorem alI{L:Flags.Locker}{ms:aF}(hk:L.kinds=ms.map bV)(f:rH ms){ps:di}:(∀p∈ps,a9 p)->L.rowIn (ps.map ê)=if (ps.map (jI ms)).contains none=true then none else some ((ps.map (jI ms)).map λo=>o.getD 0):=by
 induction ps with
 |nil=>exact @λ_=>rfl
 |cons p ps ih=>
  intro h;have ih:=ih λq hq=>h q (aO _ hq);unfold Flags.Locker.rowIn at ih⊢;rw[a0,G9,alF hk f (h p Ä),ih,a0,Am];cases e:jI ms p with
  |none=>rfl
  |some k=>
   have e2:((none:Option Nat)==some k)=false:=rfl;rw[e2,OU];by_cases hc:(ps.map (jI ms)).contains none=true
   ·rw[af hc,af hc];rfl
   ·rw[ah hc,ah hc];rfl
def entry_eq{L:Flags.Locker}{ms:aF}(hk:L.kinds=ms.map bV)(f:rH ms)(hn:∀m∈ms,m.role=0->iH m.name=true){w:LI}(h8:a9 w):
  ((Flags.entryIn ĩ).bind λx=>(L.rowIn x.1).map λr=>(r,x.2))=(iB ms w).map λe=>(e.1,e.2.map B):=by
 unfold Flags.entryIn iB;rw[alH h8];by_cases hc:w.contains 32=true
 ·rw[af hc,af hc];have NF:a9 (w.take (w.idxOf 32)):=λx hx=>h8 x (Hc hx);have W6:a9 (w.drop (w.idxOf 32+1)):=λx hx=>h8 x (Ye hx);generalize w.take (w.idxOf 32)=p1 at NF;generalize w.drop (w.idxOf 32+1)=p2 at W6;rw[Dq];dsimp only;unfold Flags.namesIn;rw[show Flags.cutAt 46 (p1.map B)=(aI 46 p1).map ê from xE 46 Ú p1 NF,aly W6];have jX:=pV 46 (l:=p1) NF;have er:=alI hk f jX;unfold wx o5;rw[aA];generalize aI 46 p1=ps at jX er;dsimp only;rw[aA];by_cases cK:ps.length<=8
  ·by_cases hcn:(ps.map (jI ms)).contains none=true
   ·rw[af (Or.inr hcn)];rw[af hcn] at er;dsimp only;split
    ·rw[Dq];split
     ·rw[Dq,er];rfl
     ·rfl
    ·rfl
   ·have jm:(ps.map ê).all Flags.isName=true:=by
     rw[rL,lx];intro p hp;show Flags.isName Áa=true;rw[Fg (jX p hp)];cases e:jI ms p with
     |none=>exact absurd (by rw[Dl];exact cf.mpr ⟨p,hp,e⟩) hcn
     |some k=>exact alG f hn e
    rw[af (show ps.length<=Flags.LONG/\(ps.map ê).all Flags.isName=true from⟨cK,jm⟩),ah (λz:ps.length>8\/(ps.map (jI ms)).contains none=true=>z.elim (λy=>by omega) hcn),Dq];rw[ah hcn] at er;dsimp only;by_cases hm:sY p2=true
    ·rw[af hm,af hm,Dq,er];rfl
    ·rw[ah hm,ah hm];rfl
  ·rw[ah (λz:ps.length<=Flags.LONG/\(ps.map ê).all Flags.isName=true=>cK z.1),af (show ps.length>8\/(ps.map (jI ms)).contains none=true from Or.inl Æ)];rfl
 ·rw[ah hc,ah hc];rfl
theorem W7:∀r s:LN,r.length=s.length->HT.lexLt (nv r) (nv s)=Flags.before r s
 |[],[],_=>rfl
 |[],_::_,h=>by simp at h
 |_::_,[],h=>by simp at h
 |x::r,y::s,h=>by
  have ih:=W7 r s (À h);show HT.lexLt (((x:Nat):Int)::nv r) (((y:Nat):Int)::nv s)=(decide (x<y)||(x==y&&Flags.before r s));rw[HT.ui,ih];by_cases e:x=y
  ·subst e;rw[af rfl,fQ Æ];simp
  ·rw[ah Æ,show(x==y)=false by simpa using e,lu,Bool.or_false,Yp];omega
def alJ(r s:LN):uS r s=Flags.rowBefore r s:=by
 unfold uS Flags.rowBefore;by_cases e:r.length=s.length
 ·rw[af Æ,W7 r s e,fQ Æ,show(r.length==s.length)=true by simp_all];simp
 ·grind
def alK{L:Flags.Locker}{ms:aF}(hk:L.kinds=ms.map bV)(g:wC ms){row:LN}(sg:∀s∈row,jH ms s=true):j0 ms row=L.canShow row:=by
 unfold j0;rw[Nw hk g (rows:=[row]) (λr hr=>by
  obtain rfl:r=row:=À hr
  exact sg),show L.canShowAll [row]=L.canShow row from rfl]
 cases L.canShow row <;> rfl
abbrev mJ:=LN×LI
def n9(e:mJ):Flags.Entry:=⟨e.1,e.2.map B⟩
def qu(past:List mJ)(e:mJ):Bool:=!(past.getLast?.any λp=>!uS p.1 e.1)
def tG(ms:aF):List mJ->di->Option (List mJ)
 |past,[]=>some past
 |past,w::r=>match iB ms w with
  |none=>none
  |some e=>if (j0 ms e.1&&(qu past e&&decide (past.length<2048)))=true then tG ms (past++[e]) r else none
def alL{L:Flags.Locker}{ms:aF}(hk:L.kinds=ms.map bV)(f:rH ms)(hn:∀m∈ms,m.role=0->iH m.name=true)(z:LI)(r:di):∀(i:Nat)(past:List mJ),(∀w∈r,a9 w)->
  (∀es,(z=[]/\tG ms past r=some es)->L.judgeEntries i Àz ((r++[z]).map ê)=.ok (es.map n9))/\((¬z=[]\/tG ms past r=none)->∃e,L.judgeEntries i Àz ((r++[z]).map ê)=.error e):=by
 induction r with
 |nil=>
  intro i past _;have ej:L.judgeEntries i Àz ((([]:di)++[z]).map ê)=if z.map B=[] then .ok Àz else .error (1,i):=rfl;rw[ej];refine⟨λes h=>?_,λh=>?_⟩
  ·rw[af (by rw[h.1];rfl),show past=es from aN h.2]
  ·rcases h with h|h
   ·exact⟨_,ah (λq=>h (À q))⟩
   ·cases h
 |cons w r ih=>
  intro i past h8;have h8w:=h8 w Ä;have g:=NA f;obtain⟨y,r',er⟩:∃y r',(r++[z]).map ê=y::r':=by
   cases r with
   |nil=>exact⟨_,_,rfl⟩
   |cons a b=>exact⟨_,_,rfl⟩
  have ej:L.judgeEntries i Àz (((w::r)++[z]).map ê)=match Flags.entryIn ĩ with
    |none=>.error (1,i)
    |some (n,m)=>match L.entryRow Àz n with
     |.error k=>.error (k,i)
     |.ok row=>L.judgeEntries (i+1) (past.map n9++[⟨row,m⟩]) ((r++[z]).map ê):=by
   rw[show((w::r)++[z]).map ê=w.map B::y::r' from cE (w.map B:: ·) er,er];rfl
  have ee:=entry_eq hk f hn h8w;have eg:tG ms past (w::r)=match iB ms w with
   |none=>none
   |some e=>if (j0 ms e.1&&(qu past e&&decide (past.length<2048)))=true then tG ms (past++[e]) r else none:=rfl
  rw[ej,eg];cases e1:Flags.entryIn ĩ with
  |none=>
   rw[e1] at ee;have e2:iB ms w=none:=by
    cases e:iB ms w with
    |none=>rfl
    |some x=>rw[e] at ee;cases ee
   rw[e2];exact⟨λes h=>(by cases h.2),λ_=>⟨_,rfl⟩⟩
  |some x=>
   obtain⟨n,m⟩:=x;rw[e1,Dq] at ee;dsimp only at ee⊢;unfold Flags.Locker.entryRow;cases e3:L.rowIn n with
   |none=>
    rw[e3] at ee;have e2:iB ms w=none:=by
     cases e:iB ms w with
     |none=>rfl
     |some x=>rw[e] at ee;cases ee
    rw[e2];exact⟨λes h=>(by cases h.2),λ_=>⟨_,rfl⟩⟩
   |some row=>
    rw[e3] at ee;cases e2:iB ms w with
    |none=>rw[e2] at ee;cases ee
    |some e=>
     rw[e2] at ee;have ee:=aN ee;have wt:=cE Prod.fst ee;have FO:=cE Prod.snd ee;subst wt FO;have jV:=(MT e2).2;have ec:=alK hk g (row:=e.1) λs hs=>(jV s hs).2;have el:((past.map n9).getLast?.any λ(p:Flags.Entry)=>!Flags.rowBefore p.row e.1)=!qu past e:=by
      unfold qu;rw[Pc,List.getLast?_map];cases past.getLast? with
      |none=>rfl
      |some p=>
       show(!Flags.rowBefore p.1 e.1)=!uS p.1 e.1;rw[alJ]
     have em:(past.map n9).length=past.length:=aA ..;dsimp only;rw[<-ec,el,em];obtain⟨j1,j2⟩:=ih (i+1) (past++[e]) λv hv=>h8 v (aO _ hv);rw[bX,show[e].map n9=[⟨e.1,e.2.map B⟩] from rfl] at j1 j2;cases hcan:j0 ms e.1 with
     |false=>
      rw[af (rfl:false=false),lu,ah d9];exact⟨λes h=>(by cases h.2),λ_=>⟨_,rfl⟩⟩
     |true=>
      rw[ah (by decide:¬(true=false)),lR];cases hnx:qu past e with
      |false=>
       rw[af (by decide:(!false)=true),lu,ah d9];exact⟨λes h=>(by cases h.2),λ_=>⟨_,rfl⟩⟩
      |true=>
       rw[ah (by decide:¬(!true)=true),lR];by_cases hp:past.length<2048
       ·rw[ah (show ¬Flags.ENTRIES<=past.length from λq=>by have:(2048:Nat)<=past.length:=q;omega),eJ hp,af rfl];exact⟨j1,j2⟩
       ·rw[af (show Flags.ENTRIES<=past.length from by show(2048:Nat)<=past.length;omega),fQ hp,ah d9];exact⟨λes h=>(by cases h.2),λ_=>⟨_,rfl⟩⟩
def tH:List mJ->List mJ->Bool
 |_,[]=>true
 |past,e::es=>qu past e&&tH (past++[e]) es
def alN(ms:aF)(r:di):∀(past:List mJ),tG ms past r=match i9 ms r with
  |none=>none
  |some es=>if (es.all (λe=>j0 ms e.1)&&(tH past es&&decide (past.length+es.length<=2048\/es=[])))=true then some (past++es) else none:=by
 induction r with
 |nil=>
  intro past;show some past=if _ then some (past++[]) else none;rw[jv,af];simp[tH]
 |cons w r ih=>
  intro past;unfold tG i9;cases e1:iB ms w with
  |none=>
   cases i9 ms r <;> rfl
  |some e=>
   dsimp only;rw[ih (past++[e])];cases e2:i9 ms r with
   |none=>
    split <;> rfl
   |some es=>
    dsimp only;rw[rK,show tH past (e::es)=(qu past e&&tH (past++[e]) es) from rfl,rO,show[e]++es=e::es from rfl,mU,show[e].length=1 from rfl,c7 (a:=e) (as:=es)];have hd:(decide (past.length+(es.length+1)<=2048\/e::es=[]))=(decide (past.length<2048)&&decide (past.length+1+es.length<=2048\/es=[])):=by
     rw[pj,jw,og,og,og];constructor
     ·rintro (h|h)
      ·exact⟨by omega,Or.inl Æ⟩
      ·cases h
     ·rintro⟨h1,h2⟩;rcases h2 with h2|h2
      ·exact Or.inl Æ
      ·subst h2;exact Or.inl (by simp only[rJ];omega)
    rw[hd];generalize j0 ms e.1=a1;generalize es.all (λe=>j0 ms e.1)=a2;generalize qu past e=a3;generalize tH (past++[e]) es=a4;generalize decide (past.length<2048)=a5;generalize decide (past.length+1+es.length<=2048\/es=[])=a6;cases a1 <;> cases a2 <;> cases a3 <;> cases a4 <;> cases a5 <;> cases a6 <;> rfl
theorem alO(es:List mJ):∀(past:List mJ)(p:mJ),tH (past++[p]) es=((p::es).zip es).all λq=>uS q.1.1 q.2.1:=by
 induction es with
 |nil=>exact @λpast p=>rfl
 |cons e es ih=>
  intro past p;have ih:=ih (past++[p]) e;show(qu (past++[p]) e&&tH (past++[p]++[e]) es)=_;rw[ih,Dd,rK];congr 1;unfold qu;rw[List.getLast?_concat];show(!(!uS p.1 e.1))=_;rw[Pc]
theorem alP(es:List mJ):tH [] es=zX (es.map (·.1)):=by
 cases es with
 |nil=>rfl
 |cons e es=>
  show(qu [] e&&tH ([]++[e]) es)=_;rw[alO];unfold zX;rw[show qu [] e=true from rfl,lR,a0,List.drop_succ_cons,List.drop_zero,<-a0,List.zip_map,rL];rfl
theorem alQ{ms:aF}{r:di}:∀{es:List mJ},i9 ms r=some es->es.length=r.length:=by
 induction r with
 |nil=>
  intro es h;rw[<-aN h];rfl
 |cons w r ih=>
  intro es h;unfold i9 at h;cases e1:iB ms w with
  |none=>rw[e1] at h;cases i9 ms r <;> cases h
  |some e=>
   cases e2:i9 ms r with
   |none=>rw[e1,e2] at h;cases h
   |some oq=>
    rw[e1,e2] at h;rw[<-aN h,c7,c7,ih e2]
theorem alR{ms:aF}(nm:LI)(r:di):(if r.length<=2048 then FZ ms nm (i9 ms r) else none)=(tG ms [] r).map λes=>(nm,es):=by
 rw[alN];cases e:i9 ms r with
 |none=>
  show(if r.length<=2048 then none else none)=none;simp
 |some es=>
  have hl:=alQ e;dsimp only;rw[alP,show([]:List mJ).length+es.length=es.length by simp,hl];show(if r.length<=2048 then (if (zX (es.map (·.1))&&(es.map (·.1)).all (j0 ms))=true then some (nm,es) else none) else none)=Option.map _ (if _ then some ([]++es) else none);grind
def alS{L:Flags.Locker}{nm:LI}{ms:aF}(hk:L.kinds=ms.map bV)(F1:L.name=nm.map B)(h8n:a9 nm)(f:rH ms)(hn:∀m∈ms,m.role=0->iH m.name=true){b:LI}(h:a9 b):
  (∀y,j3 nm ms b=some y->L.judgeBook ϔ=.ok ⟨y.1.map B,y.2.map n9⟩)/\(j3 nm ms b=none->∃e,L.judgeBook ϔ=.error e):=by
 have oN:Flags.cutAt 10 ϔ=(aI 10 b).map ê:=xE 10 Ú b h;have h8:=pV 10 (l:=b) h;obtain⟨ls,z,ew⟩:∃ls z,aI 10 b=ls++[z]:=by
  rcases pZ (aI 10 b) with e|⟨r,x,e⟩
  ·exact absurd e (lJ 10 b)
  ·exact⟨r,x,e⟩
 have hw:jD b=if z=[] then some ls else none:=by
  unfold jD;rw[ew,show(ls++[z]).getLastD []=z by simp,apL]
 rw[ew] at oN h8;unfold j3;rw[hw]
 match ls,oN,h8 with
 |[],oN,h8=>
  have hb:book1 nm ms (if z=[] then some [] else none)=none:=by split <;> rfl
  rw[hb];refine⟨λy hy=>(by cases hy),λ_=>⟨(1,0),?_⟩⟩;unfold Flags.Locker.judgeBook;rw[oN];rfl
 |[l],oN,h8=>
  have hb:book1 nm ms (if z=[] then some [l] else none)=none:=by split <;> rfl
  rw[hb];refine⟨λy hy=>(by cases hy),λ_=>?_⟩;unfold Flags.Locker.judgeBook;rw[oN];show ∃e,(match Flags.wordName (Flags.ascii "book") Ķ with
   |none=>(Except.error (1,0):Except Flags.Fault Flags.Book)
   |some n=>Except.error (1,1))=Except.error e
  cases Flags.wordName (Flags.ascii "book") Ķ with
  |none=>exact⟨_,rfl⟩
  |some n=>exact⟨_,rfl⟩
 |l::fo::r,oN,h8=>
  have h8l:=h8 l Ä;have W8:=h8 fo Ä;have h8r:∀w∈r,a9 w:=λw hw=>h8 w (by simp[hw]);have ej:L.judgeBook ϔ=match (fg (codes "book") l).map (λn=>n.map B) with
    |none=>.error (1,0)
    |some n=>match (fg (codes "for") fo).map (λn=>n.map B) with
     |none=>.error (1,1)
     |some o=>if o≠L.name then .error (2,1) else (L.judgeEntries 2 [] ((r++[z]).map ê)).map λ(l:List Flags.Entry)=>(⟨n,l⟩:Flags.Book):=by
   rw[<-W1 "book" "book" Æg Ê h8l,<-W1 "for" "for" Æg Ê W8];unfold Flags.Locker.judgeBook;rw[oN];have aQ:((r++[z]).map ê).isEmpty=false:=by
    cases r <;> rfl
   show(match Flags.wordName (Flags.ascii "book") Ķ with
    |none=>(Except.error (1,0):Except Flags.Fault Flags.Book)
    |some n=>if ((r++[z]).map (λ(w:LI)=>w.map B)).isEmpty=true then Except.error (1,1) else match Flags.wordName (Flags.ascii "for") (fo.map B) with
     |none=>Except.error (1,1)
     |some o=>if o≠L.name then Except.error (2,1) else (L.judgeEntries 2 [] ((r++[z]).map (λ(w:LI)=>w.map B))).map λ(l:List Flags.Entry)=>(⟨n,l⟩:Flags.Book))=_
   rw[aQ];cases Flags.wordName (Flags.ascii "book") Ķ with
   |none=>rfl
   |some n=>
    dsimp only;rw[ah d9]
  have eb:book1 nm ms (if z=[] then some (l::fo::r) else none)=if z=[] then (match fg (codes "book") l with
    |none=>none
    |some n=>if fg (codes "for") fo=some nm then (tG ms [] r).map λes=>(n,es) else none) else none:=by
   by_cases hz:z=[]
   ·rw[af hz,af hz];show(if r.length<=2048 then MS nm ms (fg (codes "book") l) (fg (codes "for") fo) r else none)=_;cases fg (codes "book") l with
    |none=>
     show(if r.length<=2048 then none else none)=none;split <;> rfl
    |some n=>
     dsimp only;rw[<-alR];show(if r.length<=2048 then (if fg (codes "for") fo=some nm then FZ ms n (i9 ms r) else none) else none)=_;split <;> split <;> rfl
   ·rw[ah hz,ah hz];rfl
  rw[ej,eb];obtain⟨j1,j2⟩:=alL hk f hn z r 2 [] h8r;rw[lQ] at j1 j2;cases e1:fg (codes "book") l with
  |none=>
   refine⟨λy hy=>?_,λ_=>⟨_,rfl⟩⟩;split at hy <;> cases hy
  |some n=>
   cases e2:fg (codes "for") fo with
   |none=>
    refine⟨λy hy=>?_,λ_=>⟨_,rfl⟩⟩;split at hy
    ·dsimp only at hy;rw[ah (by intro q;cases q)] at hy;cases hy
    ·cases hy
   |some o=>
    have h8o:a9 o:=by
     unfold fg at e2;split at e2
     ·rename_i a c ec;split at e2
      ·rw[<-aN e2];exact pV 32 W8 c (by rw[ec];simp)
      ·cases e2
     ·cases e2
    dsimp only[Option.map_some];by_cases ho:o=nm
    ·subst ho;rw[ah (λq:o.map B≠L.name=>q F1.symm),af rfl];by_cases hz:z=[]
     ·rw[af hz];cases eg:tG ms [] r with
      |none=>
       obtain⟨e,ee⟩:=j2 (Or.inr eg);exact⟨λy hy=>(by cases hy),λ_=>⟨e,by rw[ee];rfl⟩⟩
      |some es=>
       have ee:=j1 es ⟨hz,eg⟩;refine⟨λy hy=>?_,λhy=>(by cases hy)⟩;have hy:(n,es)=y:=aN hy;rw[<-hy,ee];rfl
     ·rw[ah hz];obtain⟨e,ee⟩:=j2 (Or.inl hz);exact⟨λy hy=>(by cases hy),λ_=>⟨e,by rw[ee];rfl⟩⟩
    ·have aQ:o.map B≠L.name:=λq=>ho (vN h8o h8n (q.trans F1));rw[af aQ,ah (λq:some o=some nm=>ho (aN q))];refine⟨λy hy=>?_,λ_=>⟨_,rfl⟩⟩;split at hy <;> cases hy
def tI(l:LI):Prop:=∀x∈l,0<=x/\x<=16
def NG:Told->Prop
 |.side s l=>s<3/\iM l
 |.hoist k=>k<4
 |.shape k=>k<4
 |.row l=>l.length=4/\tI l
structure yj(m:fX):Prop where
 cl:m.classes=[]\/iM m.classes
 sd:m.side<3
 dc:m.ak.length<=4
 fl:∀g∈m.ak,g.flags.length<=8
 ce:∀g∈m.ak,∀f∈g.flags,f.1<4/\tI f.2
def W9(h:jB signs part=some l):l.length=part.length/\∀x∈l,0<=x/\x<signs.length:=by
 unfold jB at h;grind
theorem alX(h:jR w=some t):NG t:=by
 unfold jR at h;cases e1:dQ w with
 |some x=>
  rw[e1] at h;have h:=(aN h).symm;subst h;unfold HD.dQ at e1;split at e1
  ·rename_i a b c ec;split at e1
   ·cases e2:bw uz b with
    |none=>simp_all
    |some s=>
     cases e3:ij c with
     |none=>simp_all
     |some l=>
      rw[e2,e3] at e1;have e1:=(aN e1).symm;subst e1;refine⟨zw e2,?_⟩;unfold ij at e3;split at e3
      ·rename_i hc;obtain⟨p1,p2⟩:=W9 e3;have hl:k7.length=16:=by decide+kernel
       rw[hl] at p2;exact⟨p1.trans hc,p2⟩
      ·simp_all
   ·simp_all
  ·simp_all
 |none=>
  rw[e1] at h;cases e2:bw iu w with
  |some k=>
   rw[e2] at h;have h:=(aN h).symm;subst h;exact zw e2
  |none=>
   rw[e2] at h;cases e3:bw iw w with
   |some k=>
    rw[e3] at h;have h:=(aN h).symm;subst h;exact zw e3
   |none=>
    rw[e3] at h;cases e4:jQ w with
    |none=>simp_all
    |some l=>
     rw[e4] at h;have h:=(aN h).symm;subst h;refine⟨SY e4,λx hx=>?_⟩;unfold jQ at e4;split at e4
     ·have:=(W9 e4).2 x hx;have hl:pU.length=17:=by decide+kernel
      omega
     ·simp_all
theorem alY(h:NG t):Ua t:=by
 cases t with
 |side s l=>exact h.2.1
 |hoist k=>trivial
 |shape k=>trivial
 |row l=>exact h.1
def alZ{m:fX}(v:yj m){t:Told}(g:NG t)(h:du m t.sort=true):yj (qV m t):=by
 have upd:∀(gs:List iG)(F:iG->iG),m.ak=gs->(∀x∈m.ak.getLast?,(F x).flags.length<=8/\∀f∈(F x).flags,f.1<4/\tI f.2)->yj ⟨m.side,m.classes,m.ak.dropLast++(m.ak.getLast?.map F).toList⟩:=λgs F _ hF=>by
  have jj:∀y∈m.ak.dropLast++(m.ak.getLast?.map F).toList,y∈m.ak\/∃x,m.ak.getLast?=some x/\y=F x:=λy hy=>by
   rcases gR.mp hy with hy|hy
   ·exact Or.inl (Aw _ hy)
   ·cases e:m.ak.getLast? with
    |none=>rw[e] at hy;cases hy
    |some x=>
     rw[e] at hy;exact Or.inr ⟨x,rfl,À hy⟩
  refine⟨v.cl,v.sd,?_,λy hy=>?_,λy hy=>?_⟩
  ·show(m.ak.dropLast++(m.ak.getLast?.map F).toList).length<=4;have:=v.dc;rcases pZ m.ak with e|⟨r,x,e⟩
   ·rw[e];simp
   ·rw[e] at this⊢;simp at this⊢;exact this
  ·rcases jj y hy with h|⟨x,hx,rfl⟩
   ·exact v.fl y h
   ·exact(hF x hx).1
  ·rcases jj y hy with h|⟨x,hx,rfl⟩
   ·exact v.ce y h
   ·exact(hF x hx).2
 cases t with
 |side s l=>exact⟨Or.inr g.2,g.1,v.dc,v.fl,v.ce⟩
 |hoist k=>
  have h4:=SN h;refine⟨v.cl,v.sd,?_,λy hy=>?_,λy hy=>?_⟩
  ·show(m.ak++[_]).length<=4;rw[mU];exact h4
  ·rcases gR.mp hy with hy|hy
   ·exact v.fl y hy
   ·obtain rfl:y=_:=by simpa using hy
    exact dY _
  ·rcases gR.mp hy with hy|hy
   ·exact v.ce y hy
   ·obtain rfl:y=_:=by simpa using hy
    intro f hf;cases hf
 |shape k=>
  refine upd _ _ rfl λx hx=>?_;have hx:m.ak.getLast?=some x:=hx;have gv:=Di hx;have h8:x.flags.length<8:=by
   have h:du m 2=true:=h;unfold du at h;split at h
   ·simp at h
   ·split at h
    ·simp at h
    ·split at h
     ·rename_i hq;exact absurd hq Ú
     ·rw[hx] at h;simpa using h
  refine⟨?_,λf hf=>?_⟩
  ·show(x.flags++[(k,[])]).length<=8;rw[mU];exact h8
  ·rcases gR.mp hf with hf|hf
   ·exact v.ce x gv f hf
   ·obtain rfl:f=_:=by simpa using hf
    exact⟨g,λy hy=>absurd hy Ä⟩
 |row l=>
  refine upd _ _ rfl λx hx=>?_;have hx:m.ak.getLast?=some x:=hx;have gv:=Di hx;have gc:=v.fl x gv;have kU:=v.ce x gv;refine⟨?_,λf hf=>?_⟩
  ·show(x.flags.dropLast++(x.flags.getLast?.map λs=>(s.1,s.2++l)).toList).length<=8;rcases pZ x.flags with e|⟨r,y,e⟩
   ·rw[e];simp
   ·rw[e] at gc⊢;simp at gc⊢;exact gc
  ·rcases gR.mp hf with hf|hf
   ·exact kU f (Aw _ hf)
   ·cases e:x.flags.getLast? with
    |none=>rw[e] at hf;cases hf
    |some y=>
     rw[e] at hf;obtain rfl:f=_:=À hf
     have hy:=kU y (Di e);exact⟨hy.1,λz hz=>(gR.mp hz).elim (hy.2 z) (g.2 z)⟩
def al0{m:fX}{s:Flags.PlateState}(r:zF m s):(qd m=true->s.over=some (oO m)/\m.classes≠[]/\∀g∈m.ak,∀f∈g.flags,f.2.length=16)/\(qd m=false->s.over=none):=by
 obtain⟨hh,ho,hd⟩:=r;unfold qd Flags.PlateState.over;cases ho with
 |uJ h1 h2 h3=>
  rw[Fl h3,Bool.not_false,O8,h1,h2,LJ];unfold k8;cases e:m.ak.getLast? with
  |none=>
   have:m.ak=[]:=by
    rcases pZ m.ak with e'|⟨r,x,e'⟩
    ·exact e'
    ·rw[e',ahj] at e;cases e
   rw[this];refine⟨λz=>(by cases z),λ_=>?_⟩;cases s.head <;> rfl
  |some g=>
   have aQ:m.ak≠[]:=λz=>by rw[z] at e;cases e
   have hc:m.classes≠[]:=λz=>aQ (hd z);have e1:m.ak.isEmpty=false:=À aQ
   rw[e1,hh,ah hc,Bool.not_false,lR];dsimp only[Option.map_some];have e2:(i7 g).flags.isEmpty=g.flags.isEmpty:=by
    unfold i7;dsimp only;cases g.flags <;> rfl
   rw[e2];refine⟨λz=>⟨?_,hc,h3⟩,λz=>?_⟩
   ·have z:g.flags.isEmpty=false:=by simpa using z
    rw[z,ah d9];rfl
   ·have z:g.flags.isEmpty=true:=by simpa using z
    rw[z,af rfl]
 |opened gs a b fs k cs h1 h2 h3 h4 h5 h6 h7=>
  rw[Fm h1 h4,Bool.not_true,yr,yr,h2];refine⟨λz=>(by cases z),λ_=>?_⟩;cases s.head <;> rfl
def go_eq(z:LI)(ls:di):∀(i:Nat)(m:fX)(s:Flags.PlateState),(∀w∈ls,a9 w)->zF m s->yj m->
  (∀m',mf i m ls=.ok m'->∃s',zF m' s'/\yj m'/\Flags.plateLines i s ((ls++[z]).map ê)=Flags.plateLines (i+ls.length) s' [z.map B])/\(∀e,mf i m ls=.error e->∃e',Flags.plateLines i s ((ls++[z]).map ê)=.error e'):=by
 induction ls with
 |nil=>
  intro i m s _ r v;exact⟨λm' h=>by
   have h:m=m':=by injection h
   subst h;exact⟨s,r,v,rfl⟩,λe h=>(by cases h)⟩
 |cons w ls ih=>
  intro i m s h8 r v;obtain⟨y,r',er⟩:∃y r',(ls++[z]).map ê=y::r':=by
   cases ls with
   |nil=>exact⟨_,_,rfl⟩
   |cons a b=>exact⟨_,_,rfl⟩
  have ej:Flags.plateLines i s (((w::ls)++[z]).map ê)=match Flags.plateLine ĩ with
    |none=>.error (1,i)
    |some x=>match s.line x with
     |none=>.error (2,i)
     |some t=>Flags.plateLines (i+1) t ((ls++[z]).map ê):=by
   rw[show((w::ls)++[z]).map ê=w.map B::y::r' from cE (w.map B:: ·) er,er];rfl
  rw[ej,ahi (h8 w Ä)];unfold mf;cases e1:jR w with
  |none=>exact⟨λm' h=>(by cases h),λe _=>⟨_,rfl⟩⟩
  |some t=>
   have g:=alX e1;obtain⟨s1,s2⟩:=ahk r (alY g);dsimp only[Option.map_some];cases hm:du m t.sort with
   |false=>
    rw[ah d9,s2 hm];exact⟨λm' h=>(by cases h),λe _=>⟨_,rfl⟩⟩
   |true=>
    obtain⟨s',e2,r2⟩:=s1 hm;rw[af rfl,e2];obtain⟨j1,j2⟩:=ih (i+1) (qV m t) s' (λx hx=>h8 x (aO _ hx)) r2 (alZ v g hm);refine⟨λm' h=>?_,j2⟩;obtain⟨s3,a,b,c⟩:=j1 m' h;refine⟨s3,a,b,?_⟩;rw[c7,show i+(ls.length+1)=i+1+ls.length by omega];exact c
structure NH(m:fX):Prop where
 inv:yj m
 cl:iM m.classes
 xX:∀g∈m.ak,∀f∈g.flags,f.2.length=16
def Xa{p:LI}(h:a9 p):(∀m,gW p=.ok m->Flags.plateIn Áa=.ok (oO m)/\NH m)/\(∀e,gW p=.error e->∃e',Flags.plateIn Áa=.error e'):=by
 have oN:Flags.cutAt 10 Áa=(aI 10 p).map ê:=xE 10 Ú p h;have h8:=pV 10 (l:=p) h;obtain⟨ls,z,ew⟩:∃ls z,aI 10 p=ls++[z]:=by
  rcases pZ (aI 10 p) with e|⟨r,x,e⟩
  ·exact absurd e (lJ 10 p)
  ·exact⟨r,x,e⟩
 have qy:p=[]->ls=[]/\z=[]:=λe=>by
  rw[e] at ew;have ew:[[]]=ls++[z]:=ew;cases ls with
  |nil=>
   refine ŕ;simpa using ew.symm
  |cons a b=>
   have:=cE List.length ew;simp at this
 have oh:ls=[]->z=[]->p=[]:=λe1 e2=>by
  rw[e1,e2] at ew;cases p with
  |nil=>rfl
  |cons x r=>
   have ew:(if x=10 then []::aI 10 r else match aI 10 r with|[]=>[[x]]|w::l=>(x::w)::l)=[[]]:=ew;by_cases hx:x=10
   ·rw[af hx] at ew;injection ew with _ ew;exact absurd ew (lJ 10 r)
   ·rw[ah hx] at ew;cases e:aI 10 r with
    |nil=>exact absurd e (lJ 10 r)
    |cons w l=>rw[e] at ew;cases ew
 rw[ew] at oN h8;have em:gW p=match mf 0 ⟨0,[],[]⟩ ls with
   |.error e=>.error e
   |.ok m=>if p=[]\/z≠[] then .error (1,ls.length) else if qd m=true then .ok m else .error (2,ls.length):=by
  unfold gW;rw[ew,apL,show(ls++[z]).getLastD []=z by simp]
  try rfl
 have ei:Flags.plateIn Áa=Flags.plateLines 0 ⟨none,[],none⟩ ((ls++[z]).map ê):=by
  unfold Flags.plateIn;rw[oN]
 rw[em,ei];have r0:zF ⟨0,[],[]⟩ ⟨none,[],none⟩:=⟨rfl,.uJ rfl rfl (λg hg=>absurd hg Ä),λ_=>rfl⟩;have v0:yj ⟨0,[],[]⟩:=⟨Or.inl rfl,by decide,by decide,λg hg=>absurd hg Ä,λg hg=>absurd hg Ä⟩;obtain⟨j1,j2⟩:=go_eq z ls 0 _ _ (λw hw=>h8 w (by simp[hw])) r0 v0;cases eg:mf 0 ⟨0,[],[]⟩ ls with
 |error e=>exact⟨λm hm=>(by cases hm),λ_ _=>j2 e eg⟩
 |ok m=>
  obtain⟨s',r',v',e'⟩:=j1 m eg;rw[e',wN];have el:Flags.plateLines ls.length s' [z.map B]=if z.map B≠[]\/ls.length=0 then .error (1,ls.length) else match s'.over with
    |some z=>.ok z
    |none=>.error (2,ls.length):=rfl
  rw[el];obtain⟨o1,o2⟩:=al0 r';by_cases hc:p=[]\/z≠[]
  ·have AJ:z.map B≠[]\/ls.length=0:=by
    rcases hc with hc|hc
    ·exact Or.inr (by rw[(qy hc).1];rfl)
    ·exact Or.inl (λq=>hc (À q))
   dsimp only;rw[af hc,af AJ];exact⟨λm hm=>(by cases hm),λ_ _=>⟨_,rfl⟩⟩
  ·have AJ:¬(z.map B≠[]\/ls.length=0):=by
    rintro (q|q)
    ·exact hc (Or.inr λe=>q (by rw[e];rfl))
    ·refine hc ?_;by_cases hz:z=[]
     ·exact Or.inl (oh (O1.mp q) hz)
     ·exact Or.inr hz
   dsimp only;rw[ah hc,ah AJ];cases hw:qd m with
   |true=>
    obtain⟨a,b,c⟩:=o1 hw;rw[af rfl,a];refine⟨λm' hm=>?_,λ_ hm=>(by cases hm)⟩;have hm:m=m':=by injection hm
    subst hm;exact⟨rfl,v',v'.cl.resolve_left b,c⟩
   |false=>
    rw[ah d9,o2 hw];exact⟨λm hm=>(by cases hm),λ_ _=>⟨_,rfl⟩⟩
def Xb(h:a9 p)(e:gW p=.ok m):Gd m:=by
 obtain⟨_,f⟩:=(Xa h).1 m e;exact⟨f.cl.1,by have:=f.inv.dc;omega,λg hg=>by have:=f.inv.fl g hg;omega,f.xX⟩
def Xc(l i:Nat):Flags.cell l i<16:=Nat.mod_lt _ Ú
def al1{classes look:LI}(hc:iM classes)(h:iM look){side:Nat}(hs:side=0\/side=1){i:Nat}(hi:i<16):(sJ look classes side).getD i 0=((Flags.cell (Flags.seenFrom Ę side (eQ look)) i:Nat):Int):=by
 have hm:∀j,j<16->0<=look.getD j 0/\look.getD j 0<16:=λj hj=>h.2 _ (getD_mem (by rw[h.1];exact hj));have cm:∀j,j<16->classes.getD j 0=((Flags.cell Ę j:Nat):Int):=λj hj=>by
  have:=hc.2 _ (getD_mem (l:=classes) (i:=j) (by rw[hc.1];exact hj));rw[BN hc hj];omega
 unfold Flags.seenFrom Flags.inLight sJ;rw[Fh _ hi,Nat.mod_eq_of_lt (Xc _ _)];rcases hs with hs|hs
 ·rw[ah Æ,af hs,iV,bW,BN h hi];have e:look[i]? =some (look.getD i 0):=by
   rw[iV,dm (by rw[h.1];exact hi)];rfl
  rw[e];have:=hm i hi;exact cm _ Æ
 ·rw[af hs,ah Æ,iV,bW,O7 hi];unfold Flags.behind;have hb:=Uh hi;rw[Fh _ hi,Nat.mod_eq_of_lt (Xc _ _),show 4*(i/4)+(3-i%4)=rg i by unfold rg;omega,BN h hb];have:=hm _ hb;exact cm _ Æ
theorem al2(P:Nat->Bool):∀n,((List.range n).filter P).foldl (λ(n i:Nat)=>n+2^i) 0<2^n/\∀i,i<n->(((List.range n).filter P).foldl (λ(n i:Nat)=>n+2^i) 0).testBit i=P i:=by
 intro n;induction n with
 |zero=>exact⟨by show 0<1;decide,λi hi=>absurd hi (Nat.not_lt_zero _)⟩
 |succ n ih=>
  obtain⟨h1,h2⟩:=ih;rw[Hg,Dj,List.foldl_append];generalize ((List.range n).filter P).foldl (λ(n i:Nat)=>n+2^i) 0=m at h1 h2;have h3:2^(n+1)=2^n+2^n:=by rw[O6];omega
  cases hp:P n with
  |false=>
   rw[wQ,hp,ah d9];refine⟨by show m<_;omega,λi hi=>?_⟩;rcases apM (Nat.lt_succ_iff.mp hi) with q|q
   ·exact h2 i q
   ·rw[q,hp];exact Do h1
  |true=>
   rw[wQ,hp,af rfl];refine⟨by show m+2^n<_;omega,λi hi=>?_⟩;show(m+2^n).testBit i=_;rw[Nat.add_comm];rcases apM (Nat.lt_succ_iff.mp hi) with q|q
   ·rw[apG q];exact h2 i q
   ·rw[q,hp,apH,Do h1];rfl
def al3(qZ:s.2.length=16)(hc:tI s.2)(hi:i<16):(ip s).cells.testBit i=!decide (s.2.getD i 0=16)/\(¬s.2.getD i 0=16->((Flags.cell (ip s).look i:Nat):Int)=s.2.getD i 0):=by
 have e0:(s.2.map iO).getD i none=iO (s.2.getD i 0):=by
  simp_all
 have hr:=hc _ (getD_mem (l:=s.2) (i:=i) Æ);refine⟨?_,λhn=>?_⟩
 ·show(((List.range 16).filter λ(i:Nat)=>((s.2.map iO).getD i none).isSome).foldl (λ(n i:Nat)=>n+2^i) 0).testBit i=_;rw[(al2 _ 16).2 i hi,e0];unfold iO;grind
 ·show((Flags.cell (Flags.lookOf λ(i:Nat)=>((s.2.map iO).getD i none).getD 0) i:Nat):Int)=_;rw[Fh _ hi,e0];unfold iO;grind
def al4(hc:iM classes)(hk:iM k.look)(hd:d=0\/d=1)(qZ:s.2.length=16)(hs:tI s.2):
  wj s (oP classes d k)=(((ip s).shape==3||(ip s).shape==(bV k).shape)&&Flags.sameIn (ip s).cells (Flags.seenFrom Ę d (bV k).look) (ip s).look):=by
 have e1:((List.range s.2.length).all (wg s.2 (sJ k.look classes d)))=Flags.sameIn (ip s).cells (Flags.seenFrom Ę d (eQ k.look)) (ip s).look:=by
  rw[qZ];unfold Flags.sameIn;rw[pj,lx,lx];refine forall_congr' λi=>forall_congr' λhi=>?_;simp at hi;obtain⟨b1,b2⟩:=al3 qZ hs hi;rw[b1,Pc];unfold wg;rw[al1 hc hk hd hi];grind
 have e2:wj s (oP classes d k)=if s.1≠3/\s.1≠k.shape then false else (List.range s.2.length).all (wg s.2 (sJ k.look classes d)):=rfl;rw[e2,e1];show _=((s.1==3||s.1==k.shape)&&Flags.sameIn (ip s).cells (Flags.seenFrom Ę d (eQ k.look)) (ip s).look);grind
structure CD(L:Flags.Locker)(ms:aF)(classes:LI)(d:Nat):Prop where
 hk:L.kinds=ms.map bV
 lk:∀k∈ms,iM k.look
 cl:iM classes
 d:d=0\/d=1
section
def al5(v:Àl d)(qZ:s.2.length=16)(hs:tI s.2)(f:Nat):(sL ś s).contains f=L.flagFits Ę d f (ip s):=by
 unfold Flags.Locker.flagFits;by_cases hf:f<ms.length
 ·rw[WR v.hk hf];have hm:ms.getD f fk∈ms:=by
   simp_all
  show _=(((ip s).shape==3||(ip s).shape==(bV Èi).shape)&&Flags.sameIn (ip s).cells (Flags.seenFrom Ę d (bV Èi).look) (ip s).look);rw[<-al4 v.cl (v.lk _ hm) v.d qZ hs];have e:(ms.map (oP classes d)).getD f (0,[])=oP classes d Èi:=by
   simp_all
  rw[pj,Dl];unfold sL;simp_all
 ·have:L.kinds[f]? =none:=by
   rw[v.hk,bW,wM Æ];rfl
  rw[this,<-Bool.not_eq_true,Dl];unfold sL;grind
theorem Xd(v:Àl d):∀(fs:List (Nat×LI))(h:LN),(∀f∈fs,f.2.length=16/\tI f.2)->h.length=fs.length->L.flagsFit Ę d h (fs.map ip)=(List.range fs.length).all λi=>((fs.map (sL ś)).getD i []).contains (h.getD i 0)
 |[],[],_,_=>rfl
 |[],_::_,_,h=>by simp at h
 |_::_,[],_,h=>by simp at h
 |s::fs,f::h,hf,hl=>by
  have ih:=Xd v fs h (λx hx=>hf x (aO _ hx)) (À hl);have hs:=hf s Ä;show(L.flagFits Ę d f (ip s)&&L.flagsFit Ę d h (fs.map ip))=_;rw[ih,<-al5 v hs.1 hs.2,c7,De,rK,rL];rfl
def Xe(v:Àl d){fs:List (Nat×LI)}(hf:∀f∈fs,f.2.length=16/\tI f.2){h:LN}{a:Nat}(ha:a+fs.length<=h.length):xY a h (fs.map (sL ś))=L.flagsFit Ę d ((h.drop a).take fs.length) (fs.map ip):=by
 rw[Xd v fs _ hf (by grind)];unfold xY;grind
def al6(v:Àl d){g:iG}(hf:∀f∈g.flags,f.2.length=16/\tI f.2){h:LN}(hg:g.flags.length<=h.length):uL h g (xW ś g)=L.fits Ę d h (i7 g):=by
 unfold uL L7 Flags.Locker.fits xW;have el:(i7 g).flags.length=g.flags.length:=aA ..;rw[el,pj,vb,vb];show _↔ ∃x,x∈List.range (h.length+1)/\((x==0||g.above)&&((x+g.flags.length==h.length||(g.below&&decide (x+g.flags.length<=h.length)))&&L.flagsFit Ę d ((h.drop x).take g.flags.length) (g.flags.map ip)))=true;constructor
 ·rintro⟨i,hi,yk⟩;simp at hi;generalize ex:nQ g.below (h.length-g.flags.length)+i=x at yk;have hx:x<=sM g.above (h.length-g.flags.length):=by omega
  have sE:nQ g.below (h.length-g.flags.length)<=x:=by omega
  have zx:x+g.flags.length<=h.length:=by
   unfold sM at hx;grind
  refine⟨x,Aq.mpr Æ,?_⟩;rw[Xe v hf zx] at yk;rw[yk,O8,jw];constructor
  ·unfold sM at hx;grind
  ·unfold nQ at sE;grind
 ·rintro⟨x,hx,yk⟩;rw[jw,jw] at yk;obtain⟨h1,h2,h3⟩:=yk;have zx:x+g.flags.length<=h.length:=by
   grind
  have hla:x<=sM g.above (h.length-g.flags.length):=by
   unfold sM;grind
  have hfi:nQ g.below (h.length-g.flags.length)<=x:=by
   unfold nQ;grind
  refine⟨x-nQ g.below (h.length-g.flags.length),Aq.mpr Æ,?_⟩;rw[show nQ g.below (h.length-g.flags.length)+(x-nQ g.below (h.length-g.flags.length))=x by omega,Xe v hf zx];exact h3
theorem Xf(v:Àl d):∀(hs:bp)(iK:List iG),(∀g∈iK,∀f∈g.flags,f.2.length=16/\tI f.2)->hs.length=iK.length->(∀(i:Nat)h g,hs[i]? =some h->iK[i]? =some g->g.flags.length<=h.length)->ml hs iK (qk ms classes d iK)=L.allFit Ę d hs (iK.map i7)
 |[],[],_,_,_=>rfl
 |[],_::_,_,h,_=>by simp at h
 |_::_,[],_,h,_=>by simp at h
 |h::hs,g::iK,hf,hl,hw=>by
  have ih:=Xf v hs iK (λx hx=>hf x (aO _ hx)) (À hl) (λi a b h1 h2=>hw (i+1) a b h1 h2);show(uL h g (xW ś g)&&ml hs iK (qk ms classes d iK))=(L.fits Ę d h (i7 g)&&L.allFit Ę d hs (iK.map i7));rw[ih,al6 v (hf g Ä) (hw 0 h g rfl rfl)]
end
theorem al7:∀(cs rows:bp),cs.foldl o7 rows=rows.flatMap λr=>(Flags.rowsFrom cs).map (r++ ·):=by
 intro cs;induction cs with
 |nil=>
  intro rows;show rows=rows.flatMap λr=>[r++[]];induction rows with
  |nil=>rfl
  |cons a l ih=>rw[Dk,<-ih,jv];rfl
 |cons c cs ih=>
  intro rows;rw[Hl,ih];unfold o7;rw[List.flatMap_assoc];congr 1;funext r;rw[List.flatMap_map];show _=(c.flatMap λ(x:Nat)=>(Flags.rowsFrom cs).map λ(y:LN)=>x::y).map (r++ ·);rw[List.map_flatMap];congr 1;funext x;rw[cQ];congr 1;funext y;simp
theorem Xg:∀(cs:bp),[]∈cs->Flags.rowsFrom cs=[]
 |c::cs,h=>by
  show(c.flatMap λ(x:Nat)=>(Flags.rowsFrom cs).map λ(y:LN)=>x::y)=[];rcases ba.mp h with h|h
  ·rw[<-h];rfl
  ·rw[Xg cs h];exact List.flatMap_eq_nil_iff.mpr λ_ _=>rfl
def Xh(cs:bp):uV cs=Flags.rowsFrom cs:=by
 unfold uV;split
 ·rename_i h;rw[Xg cs (Dl.mp h)]
 ·unfold lj;rw[al7];simp
theorem Xi(cs:bp):∀(x:LN),x∈Flags.rowsFrom cs->x.length=cs.length/\∀(i:Nat)n c,x[i]? =some n->cs[i]? =some c->n∈c:=by
 induction cs with
 |nil=>
  intro x h;have h:x∈[[]]:=h;simp at h;subst h;exact⟨rfl,λi n c h=>(by simp at h)⟩
 |cons c cs ih=>
  intro x h;have h:=h;obtain⟨a,ha,h⟩:=kC.mp h;obtain⟨y,hy,rfl⟩:=cf.mp h;obtain⟨h1,h2⟩:=ih y hy;refine⟨by rw[c7,c7,h1],λi n c' e1 e2=>?_⟩;cases i with
  |zero=>
   simp at e1;simp at e2;rw[<-e1,<-e2];exact ha
  |succ i=>exact h2 i n c' (À e1) (À e2)
section
variable{L:Flags.Locker}{B:Flags.Book}{ms:aF}{rows:bp}
def al8(hb:B.entries.map Flags.Entry.row=rows)(g:iG):rB rows g=B.may (i7 g):=by
 unfold rB Flags.Book.may;have hl:rows.length=B.entries.length:=by rw[<-hb,aA]
 rw[hl];apply Yr;intro i hi;have hi:i<B.entries.length:=À hi
 have el:mx rows i=(B.entries[i]).row.length:=by
  unfold mx;rw[<-hb,iV,bW,dm hi];rfl
 have ef:(i7 g).flags.length=g.flags.length:=aA ..;rw[dm hi];dsimp only;rw[ef];unfold z6;rw[el];show _=if (g.above||g.below)=true then _ else _;cases h:(g.above||g.below) with
 |true=>
  rw[af rfl,lR,pj,Bool.or_eq_true,Pd,Pd,Pd];omega
 |false=>
  rw[ah d9,lu,Bool.or_false,pj,Pd,wJ]
def Xj(hb:B.entries.map Flags.Entry.row=rows)(iK:List iG):j4 rows iK=(iK.map i7).map B.may:=by
 unfold j4;rw[cQ];apply kq;intro g _;exact al8 hb g
def al9(hb:B.entries.map Flags.Entry.row=rows)(m:fX):tp rows m.ak=B.inDoubt (oO m):=by
 unfold tp gZ Flags.Book.inDoubt;rw[Xj hb,cQ];rfl
theorem ama(hb:B.entries.map Flags.Entry.row=rows)(x:LN):(∀n∈x,n<rows.length)->B.rowsOf x=some Áo:=by
 induction x with
 |nil=>exact @λ_=>rfl
 |cons n x ih=>
  intro h;have ih:=ih λz hz=>h z (aO _ hz);have hn:n<B.entries.length:=by
   have:=h n Ä;rw[<-hb,aA] at this;exact this
  unfold Flags.Book.rowsOf at ih⊢;rw[G9,ih,dm hn];unfold js;rw[a0,<-hb];congr 2;rw[iV,bW,dm hn];rfl
def Xk(h:n∈rB rows g):n<rows.length/\g.flags.length<=(rows.getD n []).length:=by
 unfold rB at h;obtain⟨h1,h2⟩:=j8.mp h;refine⟨by simp_all,?_⟩;unfold z6 mx at h2;grind
def amb(hk:L.kinds=ms.map bV)(g:wC ms)(lk:∀k∈ms,iM k.look)(hb:B.entries.map Flags.Entry.row=rows)(sg:Ai ms rows)(pf:NH m):(rF ms rows m).map (·.1)=L.readings B (oO m):=by
 unfold rF Flags.Locker.readings;have ec:(oO m).hoists.map B.may=j4 rows m.ak:=(Xj hb m.ak).symm;rw[ec,Xh];have gO:∀x∈Flags.rowsFrom (j4 rows m.ak),(uW ms rows m.ak (my ms m) x).map (·.1)=if ((Flags.sides (oO m).side).any λ(d:Nat)=>(L.mayFrom B (oO m) x d).isSome)=true then some x else none:=λx hx=>by
  obtain⟨nU,gv⟩:=Xi _ _ hx;have gH:(j4 rows m.ak).length=m.ak.length:=aA ..;have tF:∀(i:Nat)n,x[i]? =some n->∃gl,m.ak[i]? =some gl/\n∈rB rows gl:=λi n e=>by
   have hi:i<m.ak.length:=by
    grind
   refine⟨_,dm hi,gv i n _ e ?_⟩;unfold j4;simp_all
  have bQ:∀n∈x,n<rows.length:=λn hn=>by
   obtain⟨i,hi,e⟩:=rM hn;obtain⟨gl,_,h⟩:=tF i n (by grind);exact(Xk h).1
  have hsr:Ai ms Áo:=λr hr=>by
   obtain⟨n,hn,rfl⟩:=cf.mp hr;refine sg _ ?_;simp_all
  have hd:=Nw hk g hsr;have lN:=λhs h=>VN (ms:=ms) (rows:=js rows x) (hs:=hs) h;unfold uW;rw[hd];unfold Flags.Locker.mayFrom;rw[ama hb x bQ];show _=if ((Flags.sides (oO m).side).any λ(d:Nat)=>(if L.canShowAll Áo=true/\L.allFit Èj d (L.displayed Áo) (m.ak.map i7)=true then some (L.displayed Áo) else none).isSome)=true then some x else none;by_cases hcan:L.canShowAll Áo=true
  ·rw[af hcan] at hd;rw[af hcan];have cK:=lN _ hd;generalize L.displayed Áo=hs at cK;have yk:∀d,d=0\/d=1->ml hs m.ak Ϡ=L.allFit Èj d hs (m.ak.map i7):=λd hd=>by
    refine Xf ⟨hk,lk,pf.cl,hd⟩ hs m.ak (λgl nO f hf=>⟨pf.xX gl nO f hf,(pf.inv.ce gl nO f hf).2⟩) ?_ λi h gl h1 h2=>?_
    ·have:=cE List.length cK;rw[aA,aA] at this;unfold js at this;simp_all
    ·have e1:(hs.map List.length)[i]? =some h.length:=by rw[bW,h1];rfl
     rw[cK,bW] at e1;unfold js at e1;rw[bW] at e1;cases ex:x[i]? with
     |none=>simp_all
     |some n=>
      rw[ex] at e1;have e1:(rows.getD n []).length=h.length:=À e1
      obtain⟨gl',h3,h4⟩:=tF i n ex;rw[h2] at h3;rw[<-aN h3] at h4;have:=(Xk h4).2;omega
   have Mu:((Flags.sides (oO m).side).any λ(d:Nat)=>(if True/\L.allFit Èj d hs (m.ak.map i7)=true then some hs else none).isSome)=(Flags.sides (oO m).side).any λd=>ml hs m.ak Ϡ:=by
    rw[pj,vb,vb];refine exists_congr λd=>and_congr_right λhm=>?_;have hd:d=0\/d=1:=by
     have hs:=pf.inv.sd;have hm:d∈(if m.side=2 then [0,1] else [m.side]):=hm;grind
    grind
   have ht:=eq_true hcan;simp only[ht];rw[Mu];have es:tm (my ms m) m.ak hs=(Flags.sides (oO m).side).filter λd=>ml hs m.ak Ϡ:=by
    unfold tm my;rw[yu,cQ];exact List.map_id _
   rw[es];generalize Flags.sides (oO m).side=ss;by_cases hz:(ss.filter λd=>ml hs m.ak Ϡ)=[]
   ·simp_all
   ·simp_all
  ·simp_all
 generalize Flags.rowsFrom (j4 rows m.ak)=X at gO;induction X with
 |nil=>rfl
 |cons x X ih=>
  grind
end
def amd(h8:a9 t)(h:fZ t=some x):∀k∈x.2,iM k.look:=λk hk=>((Ny h8 h).kv k hk).lk
def ame(h8:a9 line)(h:fg w line=some n):a9 n:=by
 unfold fg at h;split at h
 ·rename_i a c ec;split at h
  ·rw[<-aN h];exact pV 32 h8 c É
  ·simp_all
 ·cases h
def amf(h8:a9 t)(h:fZ t=some x):a9 x.1:=by
 unfold fZ at h;split at h
 ·rename_i l r e;have hl:a9 l:=by
   unfold jD at e;split at e
   ·have e:=aN e;have:l∈(aI 10 t).dropLast:=by rw[e];exact gy
    exact pV 10 h8 l (Aw _ this)
   ·simp_all
  cases e1:fg (codes "locker") l with
  |none=>rw[e1,BK] at h;cases h
  |some n=>
   cases e2:gE r with
   |none=>rw[e2,BJ] at h;cases h
   |some ms=>
    rw[e1,e2] at h;have h:(if (nI ms&&oK ms)=true then some (n,ms) else none)=some x:=h;split at h
    ·rw[<-aN h];exact ame hl e1
    ·simp_all
 ·cases h
theorem amg{ms:aF}{r:di}:∀{es:List (LN×LI)},i9 ms r=some es->Ai ms (es.map (·.1)):=by
 induction r with
 |nil=>
  intro es h;rw[<-aN h];intro r hr;cases hr
 |cons l r ih=>
  intro es h;unfold i9 at h;cases e1:iB ms l with
  |none=>rw[e1] at h;cases h
  |some e=>
   cases e2:i9 ms r with
   |none=>rw[e1,e2] at h;cases h
   |some oq=>
    rw[e1,e2] at h;rw[<-aN h];intro row hr;rcases ba.mp hr with rfl|hr
    ·exact λs hs=>((MT e1).2 s hs).2
    ·exact ih e2 row hr
def amh{nm:LI}{ms:aF}{b:LI}{y:LI×List (LN×LI)}(h:j3 nm ms b=some y):Ai ms (y.2.map (·.1)):=by
 unfold j3 book1 at h;split at h
 ·split at h
  ·unfold MS at h;split at h
   ·simp_all
   ·split at h
    ·unfold FZ at h;split at h
     ·rename_i es e;split at h
      ·rw[<-aN h];exact amg e
      ·simp_all
     ·simp_all
    ·simp_all
  ·simp_all
 ·cases h
def CH(x:LI×aF):Flags.Locker:=⟨x.1.map B,x.2.map bV⟩
def CI(y:LI×List (LN×LI)):Flags.Book:=⟨y.1.map B,y.2.map n9⟩
def Xl(y:LI×List (LN×LI)):(CI y).entries.map Flags.Entry.row=y.2.map (·.1):=by
 unfold CI;rw[cQ];rfl
def ami(ht:a9 t)(hb:a9 b)(hp:a9 p)(f:Flags.Locker->Flags.Book->Flags.Plate->bp->Flags.Reply):
  (∀z,ū p=some z->FlagsK9.ofAll Àx ϔ Áa f=Flags.says z)/\
  (ū p=none->∀x y m,fZ t=some x->j3 x.1 x.2 b=some y->gW p=.ok m->NH m/\FlagsK9.ofAll Àx ϔ Áa f=f (CH x) (CI y) (oO m) ((rF x.2 (y.2.map (·.1)) m).map (·.1))):=by
 unfold refusal FlagsK9.ofAll;rw[aA,aA,aA];have h0:Flags.LOOKED=65536:=rfl;rw[h0];by_cases cK:65536<t.length\/65536<b.length\/65536<p.length
 ·rw[af cK,af cK];exact⟨λz hz=>by rw[<-aN hz];rfl,λh=>(by cases h)⟩
 ·rw[ah cK,ah cK];obtain⟨l1,l2⟩:=ag3 ht;cases el:fZ t with
  |none=>
   obtain⟨e,ee⟩:=l2 el;rw[ee];exact⟨λz hz=>by rw[<-aN hz];rfl,λh=>(by cases h)⟩
  |some x=>
   rw[l1 x el];dsimp only;have lf:=Ny ht el;obtain⟨b1,b2⟩:=alS (L:=CH x) (nm:=x.1) (ms:=x.2) rfl rfl (amf ht el) lf (alB el) hb;cases eb:j3 x.1 x.2 b with
   |none=>
    obtain⟨e,ee⟩:=b2 eb;rw[show(⟨x.1.map B,x.2.map bV⟩:Flags.Locker)=CH x from rfl,ee];exact⟨λz hz=>by rw[<-aN hz];rfl,λh=>(by cases h)⟩
   |some y=>
    rw[show(⟨x.1.map B,x.2.map bV⟩:Flags.Locker)=CH x from rfl,b1 y eb];obtain⟨p1,p2⟩:=Xa hp;cases ep:gW p with
    |error e=>
     obtain⟨e',ee⟩:=p2 e ep;rw[ee];exact⟨λz hz=>by rw[<-aN hz];rfl,λh=>(by cases h)⟩
    |ok m=>
     obtain⟨q1,q2⟩:=p1 m ep;rw[q1];dsimp only;have ed:=al9 (Xl y) m;rw[show(⟨y.1.map B,y.2.map n9⟩:Flags.Book)=CI y from rfl,<-ed,show Flags.DOUBT=1024 from rfl];by_cases hd:1024<tp (y.2.map (·.1)) m.ak
     ·rw[af hd,af hd];exact⟨λz hz=>by rw[<-aN hz];rfl,λh=>(by cases h)⟩
     ·rw[ah hd,ah hd];refine⟨λz hz=>(by cases hz),λ_ x' y' m' e1 e2 e3=>?_⟩;have e1:=aN e1;subst e1;rw[eb] at e2;have e2:=aN e2;subst e2;have e3:m=m':=by injection e3
      subst e3;refine⟨q2,?_⟩;rw[amb (L:=CH x) (B:=CI y) rfl (NA lf) (amd ht el) (Xl y) (amh eb) q2]
def amj{ms:aF}{rows:bp}{m:fX}:∀z∈rF ms rows m,z.1.length=m.ak.length:=λz hz=>by
 obtain⟨x,hx,e⟩:=GZ.mp hz;rw[Xh] at hx;have hl:=(Xi _ x hx).1;unfold uW at e;split at e
 ·split at e
  ·cases e
  ·rw[<-aN e];show x.length=_;rw[hl];unfold j4;rw[aA]
 ·cases e
def amk(i:Nat)(ht:a9 t)(hb:a9 b)(hp:a9 p):
  (∀z,ū p=some z->PyWqbada.nth ((i:Nat):Int) t b p=[z])/\
  (ū p=none->∀x y m,fZ t=some x->j3 x.1 x.2 b=some y->gW p=.ok m->PyWqbada.nth ((i:Nat):Int) t b p=Aa ((rF x.2 (y.2.map (·.1)) m).map (·.1)) i):=by
 have aml:PlateNeutral.callOf [[4,((i:Nat):Int)],t,b,p]=some (.nth Àx ϔ Áa i):=by
  show(PlateNeutral.text? t >>= λa=>PlateNeutral.text? b >>= λc=>PlateNeutral.text? p >>= λd=>PlateNeutral.nat? ((i:Nat):Int) >>= λj=>some (FlagsK9.Call.nth a c d j))=_;rw[Jx ht,Jx hb,Jx hp];unfold PlateNeutral.nat?;rw[af (Hi i)];rfl
 have ef:∀r,FlagsK9.answer (.nth Àx ϔ Áa i)=r->PyWqbada.nth ((i:Nat):Int) t b p=r.ret::((r.nums.map λ(n:Nat)=>(n:Int))++r.bytes.map λ(b:UInt8)=>(b.toNat:Int)):=λr er=>by
  unfold PyWqbada.nth PlateNeutral.f;rw[aml,<-er]
 obtain⟨a1,a2⟩:=ami ht hb hp λ_ _ _ l=>match l[i]? with
  |some y=>Flags.tells (y.length:Nat) y
  |none=>Flags.NO
 refine⟨λz hz=>?_,λh x y m e1 e2 e3=>?_⟩
 ·rw[ef _ (a1 z hz)];rfl
 ·obtain⟨_,e⟩:=a2 h x y m e1 e2 e3;rw[ef _ e];unfold Aa;cases ((rF x.2 (y.2.map (·.1)) m).map (·.1))[i]? with
  |none=>rfl
  |some ns=>
   show((ns.length:Nat):Int)::(nv ns++[])=_;rw[jv]
end HD
end
section
namespace HD
open PySem PySem.Spec PyProof.Rows L2
open PySem.W (Codec)
def Gq{K:FR}{C N:Addr}{od uO:OA}{nm qn:Str}{bs sub:LV}{sn:LS}{ab:Bool}{col:Option Bool}{e0 e1 e2 e3 e5:Option Value}{oc:Value}{es:Array DictEntry}{ep:Nat}{sl:AO}(h1:K.lookup C=some ⟨.type "type",od,.cls ⟨nm,bs,.ref C::uv,N,qn,true,sn,sub,ab,col,false⟩,#[e0,e1,e2,e3,some (.builtin "Exception.__new__"),e5]⟩) (h2:K.lookup N=some ⟨oc,uO,.dict es ep,sl⟩)(h3:(es.all λe=>match e.key with|.str _ _=>true|_=>false)=true):Ra K C N:=by
 refine⟨_,_,_,_,_,_,_,_,_,_,_,_,_,h1,?_⟩;unfold PySem.W.nsOkIn;rw[h2];exact h3
def NI{l:LI}(h:l.all Ád=true):JM.a9 l:=λx hx=>by
 have q:=lx.mp h x hx;exact Codec.inInt_iff.mp q
def amm:typeLookup (.type "Exception") ("kind":Str)=pure none:=by rw[typeLookup_type,builtinLookup_eq_fast];kernel_rfl
def amn:typeLookup (.type "Exception") ("line":Str)=pure none:=by rw[typeLookup_type,builtinLookup_eq_fast];kernel_rfl
section
variable{P:Pg}{w:Wd}{K:FR}{h base:Heap}{mg:MG}
def b7(K:FR)(g x:Str)(st:Stmt):Prop:=∃f fd,PySem.W.nsIn K mainGlobals g=some Áx/\br K x x st f fd
def ar1{R:LV->Prop}(h:∀a,R [a]):∀us,us.length=1->R us:=λus hl=>by
 obtain⟨a,rfl⟩:=Ub hl;exact h a
def ar2{R:LV->Prop}(h:∀a b,R [a,b]):∀us,us.length=2->R us:=λus hl=>by
 obtain⟨a,b,rfl⟩:=Uc hl;exact h a b
def NJ{R:LV->Prop}(h:∀a b c,R [a,b,c]):∀us,us.length=3->R us:=λus hl=>by
 obtain⟨a,b,c,rfl⟩:=Ud hl;exact h a b c
def CJ{R:LV->Prop}(h:∀a b c d,R [a,b,c,d]):∀us,us.length=4->R us:=λus hl=>by
 obtain⟨a,b,c,d,rfl⟩:=ahr hl;exact h a b c d
theorem Gr{R:LV->Prop}{n:Nat}(h:∀a us,us.length=n->R (a::us)):∀us,us.length=n+1->R us
 |a::us,hl=>h a us (À hl)
def b7.dn(P:Pg)(w:Wd)(base:Heap){CX:nh}{k:Nat}{g x:Str}{st:Stmt}{ps:LS}{sp:Sp}(D:b7 K g x st)(X:K.In h)(G:h.Ns mainGlobals mg)(hk:∀f fd,br K x x st f fd->Ì CX k f fd ps sp)(hb:∀(kV iS pm:Value)(an:OA)(aG ct:Value)(us:LV),us.length=ps.length->bindArgs (PySem.W.fnOf x x (t7 st) Åf Ϯ .none kV iS pm an aG ct) ⟨us,[]⟩=pure Ài:=by first|exact λ_ _ _ _ _ _=>ar1 λ_=>rfl|exact λ_ _ _ _ _ _=>ar2 λ_ _=>rfl|exact λ_ _ _ _ _ _=>NJ λ_ _ _=>rfl|exact λ_ _ _ _ _ _=>CJ λ_ _ _ _=>rfl):ĉ CX k g ps sp:=
 let ⟨f,fd,a,F⟩:=D
 ⟨f,fd,hk f fd F,PySem.W.mg_of X G a,F.kp,F.binds hb⟩
structure lp(K:FR)(x qn:Str)(C:Addr)(st:Stmt)(fs:LS):Prop where
 a:PySem.W.nsIn K mainGlobals x=some (some ā)
 f:∃g fd,Mk K C g/\br K "__init__" qn st g fd
 c:kO K C
 n:(fs.all λf=>match PySem.W.findIn K ā f with|some none=>true|_=>false)=true
def lp.no{x qn:Str}{C:Addr}{st:Stmt}{fs:LS}(D:lp K x qn C st fs){f:Str}(hf:f∈fs):Ϧ f:=by
 have:=lx.mp D.n f hf;unfold gB;split at this
 ·assumption
 ·cases this
def lp.t{x qn:Str}{C:Addr}{st:Stmt}{fs:LS}(D:lp K x qn C st fs):lg K C fs:=⟨D.c,λ_ hf=>D.no hf⟩
def lp.mk'(P:Pg)(w:Wd)(base:Heap){x qn:Str}{C:Addr}{st:Stmt}{fs:LS}(D:lp K x qn C st fs)(X:K.In h)(G:h.Ns mainGlobals mg)(d:∀f aG A outer s H E,kI (ύ ("self"::fs) qn Ϯ f aG A outer s H E).vm Åf (EN K 1 fs)) (S:bH ("self"::fs) ("self"::fs) Ϯ:=by exact cw rfl Ê) (hs:fs.length<=1000:=by decide)(hb:∀(kV iS pm:Value)(an:OA)(aG ct:Value)(us:LV),us.length=("self"::fs:LS).length->bindArgs (PySem.W.fnOf "__init__" qn (t7 st) Åf Ϯ .none kV iS pm an aG ct) ⟨us,[]⟩=pure (("self"::fs:LS).zip us):=by first|exact λ_ _ _ _ _ _=>NJ λ_ _ _=>rfl|exact λ_ _ _ _ _ _=>CJ λ_ _ _ _=>rfl|exact λ_ _ _ _ _ _=>Gr λ_=>CJ λ_ _ _ _=>rfl|exact λ_ _ _ _ _ _=>Gr λ_=>Gr λ_=>Gr λ_=>CJ λ_ _ _ _=>rfl):ă x C fs:=
 let ⟨g,fd,m,F⟩:=D.f
 ⟨g,fd,m,aff F D.c (λ_ h=>D.no h) S hs (d g),PySem.W.mg_of X G D.a,F.binds hb⟩
def Ci(K:FR)(x:Str)(i:Int):Prop:=∃t,PySem.W.nsIn K mainGlobals x=some (some Áq)
def Ci.cn{x:Str}{i:Int}(c:Ci K x i)(X:K.In h)(G:h.Ns mainGlobals mg):Cn mg x Âx:=let ⟨t,e⟩:=c;⟨_,PySem.W.mg_of X G e,⟨t,rfl⟩⟩
def Ct(K:FR)(x s:Str):Prop:=∃t,PySem.W.nsIn K mainGlobals x=some (some (.str s t))
def Ct.cn{x s:Str}(c:Ct K x s)(X:K.In h)(G:h.Ns mainGlobals mg):Cn mg x (.str s):=let ⟨t,e⟩:=c;⟨_,PySem.W.mg_of X G e,⟨t,rfl⟩⟩
def Tu(K:FR)(x:Str)(vs:au):Prop:=∃a o us n s,PySem.W.nsIn K mainGlobals x=some (some Ğ)/\K.lookup a=some ⟨.type "tuple",o,.seq us n,s⟩/\us.size<=100/\bc vs us.toList
def Tu.tn{x:Str}{vs:au}(c:Tu K x vs)(X:K.In h)(G:h.Ns mainGlobals mg):Tn K mg x vs:=let ⟨_,_,_,_,_,e,l,z,v⟩:=c;⟨_,PySem.W.mg_of X G e,λ_=>.inr ⟨_,_,_,l,rfl,rfl,gQ z Ú,v⟩⟩
def dfk{g x:Str}{st:Stmt}{f:Addr}{oc kV iS pm aG ct:Value}{od an:OA}{m3:AO}(a:PySem.W.nsIn K mainGlobals g=some Áx:=by k_is)(l:K.lookup f=some ⟨oc,od,.func (PySem.W.fnOf x x (t7 st) Åf Ϯ .none kV iS pm an aG ct),m3⟩:=by k_is)(c:PySem.W.codeIn K aG x=true:=by k_is)(k:PySem.W.keepIn K Ă=true:=by k_is):b7 K g x st:=⟨f,_,a,nr l c k⟩
def f7{x:Str}{i:Int}{t:Tok}(e:PySem.W.nsIn K mainGlobals x=some (some Áq):=by k_is):Ci K x i:=⟨t,e⟩
def Ab(K:FR)(x:Str):Prop:=PySem.W.nsIn K mainGlobals x=some none
def oa{x:Str}(e:PySem.W.nsIn K mainGlobals x=some none:=by k_is):Ab K x:=e
def Ab.z{x:Str}(c:Ab K x)(X:K.In h)(G:h.Ns mainGlobals mg):mg x=none:=PySem.W.mg_none_of X G c
structure Gs(K:FR)(x:Str)(C N:Addr):Prop where
 a:PySem.W.nsIn K mainGlobals x=some (some ā)
 c:XC K C N
 k:PySem.W.keepIn K ā=true
end
def all_mk{P:Pg}{w:Wd}{K:FR}{h:Heap}{mg:MG}{fa:Addr}(X:K.In h)(G:h.Ns mainGlobals mg)(hfa:mg "nth"=some (.ref fa)){CS CG CP CK CL CV CQ CE fh CR CF CN NN CB NB CT NT mG NP cM TM fM:Addr}{ocM kVM dcM pmM ctM:Value}{odM anM odC:OA}{slM slC:AO}{v0 v1 v2 v3 v4 v5 v6 v8 xD Jo Jp Jq Jr Js:Value}{fl tx:Int}{tf tt ts:Tok}{bb:Bool}{xs:Str}(amC:b7 K "cell_behind" "cell_behind" Jy)(amD:b7 K "cells_seen" "cells_seen" Jz)(amE:b7 K "spelled" "spelled" JA)(amF:b7 K "cut" "cut" JB)(amG:b7 K "whole_lines" "whole_lines" JC)(amH:b7 K "place_among" "place_among" JD)(amI:b7 K "places_in" "places_in" JE)(amJ:b7 K "read_colours" "read_colours" JF)(amK:b7 K "is_name" "is_name" JG)(amL:b7 K "name_behind" "name_behind" JH)(amM:b7 K "read_locker" "read_locker" JI)(amN:b7 K "read_name" "read_name" JJ)(amO:b7 K "read_digit" "read_digit" JK)(amP:b7 K "read_kind" "read_kind" JL)(amQ:b7 K "are_in_order_lockers" "are_in_order" JN)(amR:b7 K "may_follow" "may_follow" JO)(amS:b7 K "are_different" "are_different" JP)(amT:b7 K "has_twice" "has_twice" JQ)(amU:b7 K "read_plate" "read_plate" JS)(amV:b7 K "read_line" "read_line" JT)(amW:b7 K "read_side" "read_side" JU)(amX:b7 K "read_row" "read_row" JV)(amY:b7 K "may_stand" "may_stand" JW)(amZ:b7 K "lacks_flags" "lacks_flags" JX)(am0:b7 K "lacks_cells" "lacks_cells" JY)(am1:b7 K "has_whole_hoists" "has_whole_hoists" JZ)(am2:b7 K "put" "put" J0)(am3:b7 K "sighting_of" "sighting_of" J1)(am4:b7 K "view_of" "view_of" J2)(am5:b7 K "kinds_along" "kinds_along" J3)(am6:b7 K "kinds_that_look_so" "kinds_that_look_so" J4)(am7:b7 K "may_be" "may_be" J5)(am8:b7 K "fits" "fits" J6)(am9:b7 K "hoist_fits" "hoist_fits" J7)(ana:b7 K "fits_at" "fits_at" J8)(anb:b7 K "display_told" "display_told" J9)(anc:b7 K "copies_lacking" "copies_lacking" Ka)(ane:b7 K "sames_along" "sames_along" Kb)(anf:b7 K "bits_of_sames" "bits_of_sames" Kc)(ang:b7 K "places_of" "places_of" Kd)(anh:b7 K "plan_of" "plan_of" Ke)(ani:b7 K "places_outside" "places_outside" Kf)(anj:b7 K "copies_in" "copies_in" Kg)(ank:b7 K "hoist_told" "hoist_told" Kh)(anl:b7 K "flag_told" "flag_told" Ki)(anm:b7 K "hang" "hang" Kj)(ano:b7 K "read_book" "read_book" Kk)(anp:b7 K "numbers_of_signs" "numbers_of_signs" Kl)(anq:b7 K "read_entry" "read_entry" Km)(anr:b7 K "read_signs" "read_signs" Ko)(ans:b7 K "read_meaning" "read_meaning" Kq)(ant:b7 K "are_in_order_books" "are_in_order" Kr)(anu:b7 K "can_be_shown" "can_be_shown" Ks)(anv:b7 K "readings_of" "readings_of" Ku)(anw:b7 K "entries_in_doubt" "entries_in_doubt" Kw)(anx:b7 K "product" "product" Kx)(anz:b7 K "all_rows" "all_rows" Ky)(anA:b7 K "sides_of" "sides_of" Kz)(anB:b7 K "answered" "answered" KA)(anC:b7 K "found" "found" KB)(anD:b7 K "nth_told" "nth_told" sNthTold)(Gu:lp K "Sighting" "Sighting.__init__" CS aeQ ["shape","cells"])(CM:lp K "Glimpse" "Glimpse.__init__" CG aeR ["above","below","flags"])(CO:lp K "Plate" "Plate.__init__" CP aeS ["side","classes","glimpses"])(wH:lp K "Kind" "Kind.__init__" CK aeO ["role","name","which","copies","shape","look"])(Aj:lp K "Locker" "Locker.__init__" CL aeP ["name","kinds"])(NK:lp K "View" "View.__init__" CV aeT ["side","glimpses"])(CU:lp K "Plan" "Plan.__init__" CQ aeU ["sames","gaps","spares"])(CW:lp K "Entry" "Entry.__init__" CE aeV ["row","meaning"])(NL:lp K "Book" "Book.__init__" fh aeW ["name","entries"])(Xm:lp K "Reading" "Reading.__init__" CR aeX ["entries","hoists","sides"])(Xn:lp K "Finding" "Finding.__init__" CF aeY ["locker","book","plate","readings"])(NM:Gs K "NoLocker" CN NN)(anE:PySem.W.nsIn K NN "__init__"=some none)(NQ:Gs K "NoBook" CB NB)(anF:PySem.W.nsIn K NB "__init__"=some none)(NR:Gs K "TooMuchInDoubt" CT NT)(anG:PySem.W.nsIn K NT "__init__"=some none)(NS:Gs K "NoPlate" mG NP)(y1:PySem.W.nsIn K NP "kind"=some none)(y2:PySem.W.nsIn K NP "line"=some none)(y3:∃f fd,PySem.W.nsIn K NP "__init__"=some Áx/\PySem.W.isFn K Ă=true/\br K "__init__" "NoPlate.__init__" JR f fd)(nz:PySem.W.findCls K (.type "Exception") (.type "type") "__init__"=some (.val (.builtin "Exception.__init__")))(NU:Ci K "FRONT" 0)(Gv:Ci K "BEHIND" 1)(Gw:Ci K "CELLS" 16)(Gx:Ci K "ROW" 4)(NV:Ci K "MOST_BYTES" 65536)(Gy:Ci K "LINE_END" 10)(yl:Ci K "BLANK" 32)(NW:Ci K "LONGEST_NAME" 8)(ym:Ci K "SIGN" 0)(Gz:Ci K "SAME" 1)(NX:Ci K "MOST_COPIES" 8)(NY:Ci K "MOST_SAME" 4)(NZ:Ci K "MOST_SIGNS" 48)(N0:Ci K "DIGIT_ZERO" 48)(N5:Ci K "MOST_HOISTS" 4)(GC:Ci K "MOST_FLAGS" 8)(N6:Ci K "UNKNOWN_SIDE" 2)(N7:Ci K "UNSEEN_SHAPE" 3)(N8:Ci K "UNSEEN_CELL" 16)(GG:Ci K "SIDE_LINE" 0)(GH:Ci K "HOIST_LINE" 1)(N9:Ci K "SHAPE_LINE" 2)(Oa:Ci K "CELLS_LINE" 3)(Ob:Ci K "NO_SUCH_LINE" 1)(Oc:Ci K "WRONG_PLACE" 2)(Od:Ci K "TITLE_LINES" 2)(Oe:Ci K "MOST_ENTRIES" 2048)(Of:Ci K "LONGEST_MEANING" 64)(Og:Ci K "FULL_STOP" 46)(Oh:Ci K "LAST_PRINTED" 126)(Oi:Ci K "MOST_IN_DOUBT" 1024)(Oj:Ct K "COLOUR_SIGNS" "0123456789abcdef")(Ol:Ct K "NAME_SIGNS" "ABCDEFGHIJKLMNOPQRSTUVWXYZ0123456789")(Om:Ct K "SEEN_SIGNS" "0123456789abcdef?")(On:Tu K "SHAPES" ((["square","tails","long"]:LS).map V.str))(Oo:Tu K "ROLES" ((["sign","same","answer"]:LS).map V.str))(Oq:Tu K "SIDES" ((["front","behind","unknown"]:LS).map V.str))(Os:Tu K "HOIST_LINES" ((["hoist","hoist above","hoist below","hoist above below"]:LS).map V.str))(Ot:Tu K "SEEN_SHAPES" ((["square","tails","long","shape?"]:LS).map V.str))(Ou:Tu K "WORDS_OF_ROLES" [.int 5,.int 5,.int 4])(Ov:Ab K "ord")(jK:Ab K "enumerate")(tJ:Ab K "all")(GI:Ab K "any")(ia:Ab K "len")(yn:Ab K "range")(GJ:Ab K "sum")(GO:Ab K "dict")(Ow:Ab K "zip")(GQ:Ab K "list")(CY:Ab K "max")(GT:Ab K "min")(GU:Ab K "tuple")(Ox:Ab K "Exception")(aM:PySem.W.nsIn K mainGlobals "nth"=some (some (.ref fM))) (lM:K.lookup fM=some ⟨ocM,odM,.func (PySem.W.fnOf "nth" "nth" (t7 sNth) (iW sNth) (aV sNth) .none kVM dcM pmM anM (.ref cM) ctM),slM⟩) (oM:PySem.W.codeIn K (.ref cM) "nth"=true) (kM:PySem.W.keepIn K (.ref fM)=true)(lC:K.lookup cM=some ⟨.type "code",odC,.fields #[v0,v1,v2,v3,v4,v5,v6,.int fl tf,v8,.bool bb,.int tx tt,.ref TM,xD,Jo,Jp,Jq,Jr,Js,.str xs ts],slC⟩) (Xo:(cM==TM)=false) (nT:K.lookup TM=none) (nd:[CN,CB,mG,CT].Nodup):
  ∃(fd:FD)(o:Obj)(c T:Addr),K.lookup fa=some o/\o.data=.func fd/\fd.code=.ref c/\Bu K c T/\K.lookup T=none/\(∀(s:Sh)(us:LV),us.length=(["i","t","b","p"]:LS).length->BindsTo s fd ⟨us,[]⟩ ((["i","t","b","p"]:LS).zip us))/\
   ∀base:Heap,K.In base->base.Ns mainGlobals mg->xB mg base->Ì aE 9 fa fd ["i","t","b","p"] (Nc K T):=by
 have e:=hfa.symm.trans (PySem.W.mg_of X G aM);cases e;have NU:=NU.cn X G;have Gv:=Gv.cn X G;have Gw:=Gw.cn X G;have Gx:=Gx.cn X G;have NV:=NV.cn X G;have Gy:=Gy.cn X G;have yl:=yl.cn X G;have NW:=NW.cn X G;have ym:=ym.cn X G;have Gz:=Gz.cn X G;have NX:=NX.cn X G;have NY:=NY.cn X G;have NZ:=NZ.cn X G;have N0:=N0.cn X G;have N5:=N5.cn X G;have GC:=GC.cn X G;have N6:=N6.cn X G;have N7:=N7.cn X G;have N8:=N8.cn X G;have GG:=GG.cn X G;have GH:=GH.cn X G;have N9:=N9.cn X G;have Oa:=Oa.cn X G;have Ob:=Ob.cn X G;have Oc:=Oc.cn X G;have Od:=Od.cn X G;have Oe:=Oe.cn X G;have Of:=Of.cn X G;have Og:=Og.cn X G;have Oh:=Oh.cn X G;have Oi:=Oi.cn X G;have Oj:=Oj.cn X G;have Ol:=Ol.cn X G;have Om:=Om.cn X G;have On:=On.tn X G;have Oo:=Oo.tn X G;have Oq:=Oq.tn X G;have Os:=Os.tn X G;have Ot:=Ot.tn X G;have Ou:=Ou.tn X G;have Ov:=Ov.z X G;have jK:=jK.z X G;have tJ:=tJ.z X G;have GI:=GI.z X G;have ia:=ia.z X G;have yn:=yn.z X G;have GJ:=GJ.z X G;have GO:=GO.z X G;have Ow:=Ow.z X G;have GQ:=GQ.z X G;have CY:=CY.z X G;have GT:=GT.z X G;have GU:=GU.z X G;have Ox:=Ox.z X G;have TC:ma K ⟨CS,CG,CP⟩:=⟨Gu.c,CM.c,CO.c,Gu.no Ä,Gu.no Ä,CM.no Ä,CM.no Ä,CM.no Ä,CO.no Ä,CO.no Ä,CO.no Ä⟩;have TK:sD K CK:=⟨wH.c,wH.no Ä,wH.no Ä,wH.no Ä,wH.no Ä,wH.no Ä,wH.no Ä⟩;have TL:LkT K CL:=⟨Aj.c,Aj.no Ä,Aj.no Ä⟩;have XN:ž "NoLocker" CN NN:=⟨NM.c,anE,PySem.W.mg_of X G NM.a,NM.k⟩;have XB:ž "NoBook" CB NB:=⟨NQ.c,anF,PySem.W.mg_of X G NQ.a,NQ.k⟩;have XT:ž "TooMuchInDoubt" CT NT:=⟨NR.c,anG,PySem.W.mg_of X G NR.a,NR.k⟩;have XP:EW K mg mG NP:=⟨NS.c,⟨y1,amm⟩,⟨y2,amn⟩,PySem.W.mg_of X G NS.a,NS.k⟩;refine⟨_,_,cM,TM,lM,rfl,rfl,Sj lC Xo,nT,λs us hu=>.of_eq (CJ (R:=λus=>bindArgs _ ⟨us,[]⟩=pure (_:List (Str×Value))) (λ_ _ _ _=>rfl) us hu),λbase _ _ hb=>?_⟩;have Oy:=amE.dn P w base X G λf fd F=>ae0 F Ov;have yo:=amF.dn P w base X G λf fd F=>ae3 F;obtain⟨fS,xG,GS,mS,kS,bS⟩:=id Oy;have Oz:=amH.dn P w base X G λf fd F=>ae6 F jK GS mS kS bS;have OB:=amI.dn P w base X G λf fd F=>afa F tJ GS mS kS bS;obtain⟨fP,KI,GP,mP,kP,bP⟩:=id OB;obtain⟨uC,mC,rC⟩:=Oj;have Xp:=amJ.dn P w base X G λf fd F=>afc F ia mC rC GP mP kP bP;have Xq:=amK.dn P w base X G λf fd F=>afY F ia NW Ol OB;have Xr:=amL.dn P w base X G λf fd F=>af0 F ia yl yo Oy Xq;have Xs:=amG.dn P w base X G λf fd F=>af2 F Gy yo;have Xu:=Gu.mk' P w base X G λ_ _ _ _ _ _ _=>aB İ (aD į);have dMG:=CM.mk' P w base X G λ_ _ _ _ _ _ _=>aB İ Ÿ;have dMP:=CO.mk' P w base X G λ_ _ _ _ _ _ _=>aB İ Ÿ;have dMK:=wH.mk' P w base X G λ_ _ _ _ _ _ _=>aB İ (aB į (aB (fc Û ø rfl) (aB (fc Û Ĳ rfl) (aB (fc Û Äd rfl) (aD (fc Û Ãl rfl))))));have dML:=Aj.mk' P w base X G λ_ _ _ _ _ _ _=>aB İ (aD į);have dMV:=NK.mk' P w base X G λ_ _ _ _ _ _ _=>aB İ (aD į);have dMQ:=CU.mk' P w base X G λ_ _ _ _ _ _ _=>aB İ Ÿ;have dME:=CW.mk' P w base X G λ_ _ _ _ _ _ _=>aB İ (aD į);have dMB:=NL.mk' P w base X G λ_ _ _ _ _ _ _=>aB İ (aD į);have dMR:=Xm.mk' P w base X G λ_ _ _ _ _ _ _=>aB İ Ÿ;have dMF:=Xn.mk' P w base X G λ_ _ _ _ _ _ _=>aB İ (aB į (aB (fc Û ø rfl) (aD (fc Û Ĳ rfl))));have dRN:=amN.dn P w base X G λf fd F=>af6 F XN Xq;have dRD:=amO.dn P w base X G λf fd F=>af8 F ia XN N0;have dRK:=amP.dn P w base X G λf fd F=>agb F ia XN yl Oo Ou ym Gz NY NX On yo Oz dRN dRD Xp dMK;have dHT:=amT.dn P w base X G λf fd F=>agy F GI jK;have anW:=amR.dn P w base X G λf fd F=>agA F TK ym;have dOr:=amQ.dn P w base X G λf fd F=>agC F TK ia tJ jK ym NZ anW;have dDi:=amS.dn P w base X G λf fd F=>agF F TK ym dHT;have dRL:=amM.dn P w base X G λf fd F=>agH F XN Xs Xr dRK dOr dDi dML;have an1:=amX.dn P w base X G λf fd F=>afh F ia Gx Om OB;have an2:=amW.dn P w base X G λf fd F=>afi F ia yl Oq yo Oy Oz Xp;have an3:=amV.dn P w base X G λf fd F=>afm F jK Os Ot an2 Oz an1;have OC:=amZ.dn P w base X G λf fd F=>afs F TC;have Xv:=am0.dn P w base X G λf fd F=>afv F TC ia Gw OC;have dWh:=am1.dn P w base X G λf fd F=>afx F TC OC Xv;have an5:=amY.dn P w base X G λf fd F=>afz F TC ia GG GH Oa N5 GC OC Xv;have an6:=am2.dn P w base X G λf fd F=>afH F TC GG GH N9 dMG Xu;obtain⟨gN,SZ,n1,n2,FN⟩:=y3;have dNp:SV P w K mg base mG NP:=⟨_,_,XP,n1,n2,afP FN XP Ox nz,FN.binds λ_ _ _ _ _ _=>NJ λ_ _ _=>rfl⟩;have dRP:=amU.dn P w base X G λf fd F=>afS F TC ia jK Gy Ob Oc yo dMP dNp an3 an5 an6 dWh;have dBh:=amC.dn P w base X G λf fd F=>aht F Gx;have dCS:=amD.dn P w base X G λf fd F=>ahu F yn Gv Gw dBh;have dSO:=am3.dn P w base X G λf fd F=>ahw (C:=⟨CS,CG,CP⟩) F TK Xu dCS;have aoc:=am7.dn P w base X G λf fd F=>ahx F TC tJ jK N7 N8;have dKS:=am6.dn P w base X G λf fd F=>ahz F jK aoc;have dKA:=am5.dn P w base X G λf fd F=>ahB F TC dKS;have dVO:=am4.dn P w base X G λf fd F=>ahI F TC dMV dSO dKA;have dFA:=ana.dn P w base X G λf fd F=>ahL F tJ jK;have dHF:=am9.dn P w base X G λf fd F=>ahM F TC ia GI yn dFA;have dFi:=am8.dn P w base X G λf fd F=>ahO F TC NK.t tJ jK dHF;have dBS:=anf.dn P w base X G λf fd F=>ahR F TK GJ jK;have dSA:=ane.dn P w base X G λf fd F=>ahU F ia yn dBS;have dPO:=ani.dn P w base X G λf fd F=>ahV F ia;have dCI:=anj.dn P w base X G λf fd F=>ahW F TK GJ jK;have dLa:=anc.dn P w base X G λf fd F=>ahX F TK GO;have dPf:=ang.dn P w base X G λf fd F=>ah6 F Ow;have aop:=anh.dn P w base X G λf fd F=>aid F CU.t ia GQ yn CY dMQ dPO dCI;have dHa:=anm.dn P w base X G λf fd F=>ait F CU.t jK CY GT;have dFT:=anl.dn P w base X G λf fd F=>aiy F CU.t ia yn dHa;have aos:=ank.dn P w base X G λf fd F=>aiE F jK dFT;have Xw:=anb.dn P w base X G λf fd F=>aiP F TK CU.t GQ jK GT Gz dLa dSA dPf aop aos;have dRM:=ans.dn P w base X G λf fd F=>ai3 F ia tJ XB Of yl Oh yo;have dNu:=anp.dn P w base X G λf fd F=>ai8 F TK GO GU jK ym;have aov:=anr.dn P w base X G λf fd F=>ajc F ia GU XB GC Og yo;have aow:=anq.dn P w base X G λf fd F=>ajf F XB yl dME aov dRM;have dOB:=ant.dn P w base X G λf fd F=>ajg F CW.t ia tJ jK;have dCB:=anu.dn P w base X G λf fd F=>ajh F CW.t tJ Xw;have dRB:=ano.dn P w base X G λf fd F=>ajn F XB Aj.t ia Od Oe Xs Xr dNu aow dOB dCB dMB;have dED:=anw.dn P w base X G λf fd F=>ajt F TC NL.t CW.t ia jK;have dPr:=anx.dn P w base X G λf fd F=>aju F;have dSd:=anA.dn P w base X G λf fd F=>ajw F TC NU Gv N6;have dAR:=anz.dn P w base X G λf fd F=>ajD F;have dRe:=anv.dn P w base X G λf fd F=>ajR F XT TC Aj.t NL.t CW.t NK.t ia Oi dED dPr dVO dSd dAR Xw dFi dMR;have dFo:=anC.dn P w base X G λf fd F=>akj (k:=⟨⟨CS,CG,CP⟩,CL,CK,fh,CE,CR,CF⟩) F dRL dRB dRP dRe dMF;have dNt:=anD.dn P w base X G λf fd F=>aku (k:=⟨⟨CS,CG,CP⟩,CL,CK,fh,CE,CR,CF⟩) F Xn.t Xm.t ia;exact aky (nr (st:=sNth) lM oM kM) rfl (Sj lC Xo) hb λ_ _=>anB.dn P w base X G λf fd F=>ako (k:=⟨⟨CS,CG,CP⟩,CL,CK,fh,CE,CR,CF⟩) F XN XB XP XT nd ia CY NV dFo (akw (pm:=(mg "__name__").getD .none) dNt)
end HD
end
section
open PySem.W (Codec)
open PySem PySem.W PyProof.Rows HD
set_option maxRecDepth 100000 in
set_option maxHeartbeats 0 in
theorem PySem.Challenge.cw_halfseendesk_s04_nth_holds : PySem.Challenge.rw_halfseendesk_s04_nth.Holds := by
 refine PySem.W.holds_os (q:=kQ) (loose:=kL) (Xt:=kX) (XP:=PySem.W.XL kQ []) (Yf:=PySem.W.Hook.obs Ŕ) (Ya:=PySem.W.Hook.val Ŕ) (YP:=PySem.W.Hook.says Ŕ) (N:=11224) YD (PySem.W.Hook.of Ŕ) (PySem.W.Hook.keeps Ŕ) (λs e=>PySem.W.xl_of s (vc.mp e).1) PySem.W.XL.keeps Õ Õ Õ (λs e=>PySem.W.recFacts_of (vc.mp e).2) PySem.W.os_shapes Ê Ê ⟨rfl,rfl,rfl,rfl,rfl,by decide+kernel⟩ ⟨[.int 0,.list [],.list [],.list []],by decide+kernel,by decide+kernel⟩ ?hc
 k_fillS
 refine L2.aez (r:=PySem.Challenge.rw_halfseendesk_s04_nth) (k:=9) (CX:=L2.aE) (ps:=["i","t","b","p"]) (sp:=Nc) Ê rfl rfl ⟨rfl,by decide,by decide⟩ (λw h Y=>PySem.W.kIn_of Y) (by kernel_rfl) ?F ?S (λ_ _ _ _ z=>z)
 case F=>
  intro w mg fa h Y KX G ED;exact all_mk KX G ED dfk dfk dfk dfk dfk dfk dfk dfk dfk dfk dfk dfk dfk dfk dfk dfk dfk dfk dfk dfk dfk dfk dfk dfk dfk dfk dfk dfk dfk dfk dfk dfk dfk dfk dfk dfk dfk dfk dfk dfk dfk dfk dfk dfk dfk dfk dfk dfk dfk dfk dfk dfk dfk dfk dfk dfk dfk dfk dfk dfk dfk Å Å Å Å Å Å Å Å Å Å Å ⟨by k_is,⟨Gq (by k_is) (by k_is) Ä,by k_is,by k_is,by k_is⟩,by k_is⟩ (by k_is) ⟨by k_is,⟨Gq (by k_is) (by k_is) Ä,by k_is,by k_is,by k_is⟩,by k_is⟩ (by k_is) ⟨by k_is,⟨Gq (by k_is) (by k_is) Ä,by k_is,by k_is,by k_is⟩,by k_is⟩ (by k_is) ⟨by k_is,⟨Gq (by k_is) (by k_is) Ä,by k_is,by k_is,by k_is⟩,by k_is⟩ (by k_is) (by k_is) ⟨_,_,by k_is,by k_is,L2.nr (by k_is) (by k_is) (by k_is)⟩ (by k_is) f7 f7 f7 f7 f7 f7 f7 f7 f7 f7 f7 f7 f7 f7 f7 f7 f7 f7 f7 f7 f7 f7 f7 f7 f7 f7 f7 f7 f7 f7 f7 ⟨_,by k_is⟩ ⟨_,by k_is⟩ ⟨_,by k_is⟩ ç ç ç ç ç ç oa oa oa oa oa oa oa oa oa oa oa oa oa oa
   (by k_is) (by k_is) (by k_is) (by k_is) (by k_is) Õ (by kernel_rfl) Ú
 case S=>
  intro K T H xs a hT uj aq8 hx;obtain⟨j,t,b,p,u⟩:=a;rcases hx with _|⟨h0,hx⟩;cases h0;cases hx with
  |cons h1 h2=>
   cases h2 with
   |cons h3 h4=>
    cases h4 with
    |cons h5 h6=>
     cases h6;cases h1 with
     |lst s1 a1=>
      cases h3 with
      |lst s2 a2=>
       cases h5 with
       |lst s3 a3=>
        have e:=L2.Je t _ a1;subst e;have e:=L2.Je b _ a2;subst e;have e:=L2.Je p _ a3;subst e;have q:(Codec.inInt 0 18446744073709551615 j&&((Codec.inLen 0 66000 t&&t.all Ád)&&((Codec.inLen 0 66000 b&&b.all Ád)&&((Codec.inLen 0 66000 p&&p.all Ád)&&true))))=true:=uj;simp only[jw] at q;obtain⟨q0,⟨q1,q2⟩,⟨q3,q4⟩,⟨q5,q6⟩,_⟩:=q;have t8:JM.a9 t:=NI q2;have b8:JM.a9 b:=NI q4;have p8:JM.a9 p:=NI q6;obtain⟨i,rfl⟩:∃n:Nat,j=(n:Int):=⟨Int.toNat j,(apt (Codec.inInt_iff.mp q0).1).symm⟩;obtain⟨m1,m2⟩:=amk i t8 b8 p8;refine⟨i,_,_,_,t,b,p,rfl,hT,s1,s2,s3,(Ys.mp q1).2,(Ys.mp q3).2,(Ys.mp q5).2,λx e=>alu t8 e,λm e=>Xb p8 e,λz hz H' r hr=>?_,λhz x y m e1 e2 e3=>⟨λz hz=>(by rw[amj z hz];exact(Xb p8 e3).dc),λH' r hr=>?_⟩⟩
        ·show L2.Dw K H' _ (.list ((PyWqbada.nth (i:Int) t b p).map .int));rw[m1 z hz];exact .lst (L2.aa.of hr) (L2.R3 [z])
        ·show L2.Dw K H' _ (.list ((PyWqbada.nth (i:Int) t b p).map .int));rw[m2 hz x y m e1 e2 e3];exact .lst (L2.aa.of hr) (L2.R3 _)
#print axioms PySem.Challenge.cw_halfseendesk_s04_nth_holds
end
