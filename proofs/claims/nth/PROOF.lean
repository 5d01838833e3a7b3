import PyProof.Rows.All
import PyProof.ExcClass
import PyProof.InstLoad
import PyProof.InstStoreFacts
import PyProof.ExcAttrAll.Exception
import PyProof.RaisesMany
import PyProof.Commute
import PyProof.StationsW
import PyProof.Draws
import PyProof.EnumMake
import PyProof.TupleIter
import PyProof.WalksMore
import Wide.All
import OpenK.AllK
import Wide.FinOn
import PyProof.EqAt
import PyProof.EqKinds
import PyProof.TupleCall
import KE.BitLaws
import PyProof.ExcBaseAll.Exception
import PyProof.RulesAs
import PyProof.NsDelKeeps
import PyProof.NeKinds
import KE.KDictLaws
import Open.SpecLaws
import KE.OsHead
import KE.OsGo
import PySem.Challenge.RW_halfseendesk_s04_nth
import PyWqbada
set_option Elab.async false
set_option linter.all false
set_option maxRecDepth 100000
set_option maxHeartbeats 2000000
set_option bootstrap.genMatcherCode false
set_option genSizeOf false
set_option genSizeOfSpec false
set_option compiler.extract_closed false
namespace MP_
open Lean
def mI(s:String):Syntax:=mkIdent (s.splitOn "."|>.foldl (λn c=>.str n c) .anonymous)
def mN:Name->Array Syntax->Syntax:=.node .none
def mS(f:String)(l:List Syntax)(r:String)(k:Name):Syntax:=mN k #[mkAtom f,mkNullNode ((l.intersperse (mkAtom ",")).toArray),mkAtom r]
def nT:String->Name:=.str `Lean.Parser.Term
def nC:String->Name:=.str `Lean.Parser.Tactic
def mP(f:Syntax)(a:Array Syntax):Syntax:=mN (nT "app") #[f,mkNullNode a]
def mA:List Syntax->Syntax
|[x]=>x
|l=>match l.reverse with|f::a=>mP f a.toArray|_=>.missing
def mW(w:String):Syntax:=if w="_" then mN (nT "hole") #[mkAtom w] else if w="?_" then mN (nT "syntheticHole") #[mkAtom "?",mkAtom "_"] else if w.front.isDigit then Syntax.mkNumLit w else if w.front='.' then mN (nT "dotIdent") #[mkAtom ".",mI (w.drop 1).toString] else mI w
def mG:List String->List Syntax->List Syntax->List (List Syntax×List Syntax)->Syntax
|[],_,c,_=>mA c
|w::r,p,c,s=>if w="("||w="⟨"||w="[" then mG r [] [] ((p,c)::s)
 else if w="," then mG r (mA c::p) [] s
 else if w=")"||w="⟩"||w="]" then
  let l:=(if c.isEmpty then p else mA c::p).reverse
  match s with|(p,d)::s=>mG r p ((if w=")" then mA c else if w="⟩" then mS "⟨" l w (nT "anonymousCtor") else mS "[" l w `«term[_]»)::d) s|_=>.missing
 else mG r p (mW w::c) s
def mL(s:String):Syntax:=mG (((("( ) ⟨ ⟩ [ ] ,".splitOn " ").foldl (λs c=>s.replace c (" "++c++" ")) s).splitOn " ").filter (· ≠"")) [] [] []
def mT(t n:String):Option Syntax:=(t.splitOn ";").findSome? λe=>if e.startsWith (n++" ") then some (match (e.drop (n.length+1)).toString.splitOn "=>" with|[b,x]=>mN (nT "fun") #[mkAtom "fun",mN (nT "basicFun") #[mkNullNode ((b.splitOn " ").map mW).toArray,mkNullNode,mkAtom "=>",mL x]]|x=>mL (x.headD "")) else none
def tb:="Á rfl;Â aG A outer s H vs Q E hr h=>?_;Ã Inv X pins σ;Ç Dn P w K mg base aE;È model X.prog X.w;Ì a7 P w K mg base;Í ks.map az.m;Ï hc=>?_;Ð X.gj s H scope(compEnvC scope cl C X.env)fp;Ñ l.kinds.map az.m;Ò model prog w;Ö _ _ _ _ _=>eN;Ø _ _=>rfl;Ú pv 0;Û aD(jP hr.hd X.c(ny X.c X.nG X.keep rfl X.mC));Ü b.es.map bq.row;Þ si PySem.F.plainAttrs_list PySem.F.slot_list_append PySem.F.type_list_append yS;ß ⟨Tt,_,Á,bu.of aq,Á,_,_,Á,_,_,Á,Á,Á,eO ?_⟩;à .ListComp j6[⟨tg,iter,ju,0⟩]scope pos;á pv 1;â aa K H;ã .lst[];ä aX left;ç pv 2;ë .dK(bx V.int lacks);î ⟨Tt,_,Á,bu.of aq,Á,_,_,Á,_,_,Á,Á,Á,?_⟩;ð p.ak.map ck.m;ñ EP X pins σ;ò ae Ú ag;ó dg sames;ô starEach es X.env;õ excClassObj nm q C N bs bm true sn sub ab col dd k0 k1 k2 k3 k5 newId;ö pv 3;ø eU rows(fJ ms rows);ù a7 X.prog X.w X.K X.mg X.base;ú H' f=>?_;û c8 fU Ô tL PySem.boot_len(ae ç ag);ü c8 fU Ô tL PySem.boot_len(ae á ag);ý .lst(gD.map V.ref);þ jE.map codes;ÿ cq sames;Ā .ref C;ā .ref f;Ă nF P w K mg base;ă gh I q Ä;Ą eW X.prog X.w;ą c8 fU Ô tL PySem.boot_len ò;Ć bg Ú rfl;ć I.ok.hd hc;Ĉ Dn P w K mg base;ĉ cy.zero hD;Ċ upd H1 D ã;ċ oy P w K mg base A outer s;Č i y H' hi f=>?_;č b hb=>?_;Ď .lst(qs.map V.ref);ď .dK kvs;Đ iQ x.zs bits;đ bf lf l s;Ē excClassObj nm q C N bs bm hdct sn sub ab col dd k0 k1 k2 k3 k5 newId;ē Flags.less1 left f;Ĕ gn P w;ĕ eQ classes;Ė .inl Á;ė PySem.W.fnOf x cO(t9 st)(iW st)(aV st).none kV iS pm an aG ct;Ę hd=>?_;ę X.gj s3 H3 scope ce fp;Ě fq sames.length ÿ ä Ý D;ě aY(eE(ae(jh jM bo)ag));Ĝ .ref a;ĝ upd H s.heap.objs.size;Ğ i6 K s₁.heap;ğ dy P w H;Ġ ⟨_,Á,?_⟩;ġ compEnvC scope cl s3.heap.objs.size X.env;Ģ bg(cA cY Ć(jh jM bo)Ø)rfl;ģ .ref p;Ĥ cq sames b;ĥ .dK(bx gA tt);Ħ aZ ms;ħ w.map B;Ĩ I.ax.fresh(bJ _);ĩ .Tuple mQ kk l7;Ī xk X.N X.env.scope scope;ī lF CX P w K mg base N cO;Ĭ s2.trans s3;ĭ fc Ú ç rfl;Į fc Ú á rfl;į Ef TN.c iN EY TN.keep GN sC rfl TN.mC;İ pv 4;ı ae ö ag;Ĳ ⟨Á,_,Á,?_⟩;ĳ eE ag;Ĵ b z=>absurd z Ä;ĵ l.map B;Ķ .ref s.heap.objs.size;ķ wipe σ vs;ĸ ai.refl H';Ĺ PySem.W.instObj C s.heap.objs.size;ĺ A.deeper(envOfC cO(aV st)s.heap.objs.size f aG);Ļ σ.set i(some v);ļ bw JM.iw line;Ľ bw JM.iu line;ľ lV X pins;Ŀ Binds X.K fd ps;ŀ sames.getD i 0;Ł sames.getD b 0;ł qB C h.objs.size;Ń past.map bV;ń kp p hp;Ņ fJ ms rows;ņ aX(jt ms);Ň aD(jP hr.hd X.c(ny X.c X.nG X.keep Á X.mC));ň .lst(iv l);ŉ .int 0;Ŋ putK kvs k;ŋ i x Tt H' hi f hT=>?_;Ō ws.getD 1[];ō upd H1 pl ý;Ŏ iv p.classes;ŏ c8 fU Ô tL PySem.boot_len(ae(bg á Á)ag);Ő bg á rfl;ő exc C none .none x;Œ Builtin.bitAnd i j;œ bg Ú Á;Ŕ ae á ag;ŕ ae(cA cY á bo Ø)ag;Ŗ PySem.W.kHook kK kA kE;ŗ ay 3;Ř ay 2;ř .dK(bx gI(gu y.m.flatten));Ś y=>PyData.eqv(dataOf(aj.zip ds)y)dx;ś b o nb nf g=>?_;Ŝ ms.map(oP classes d);ŝ .ref x;Ş .int 1;ş codes x;Š h1=>?_;š ns.map V.int;Ţ ae ç ag;ţ ae(pv 5)ag;Ť bu K H;ť upd H a;Ŧ bj L.pl T.cP T.nE;ŧ w hw=>A0 rx fx r fs w É;Ũ ent(rawInt L)T;ũ .ref T;Ū upd(ť(exc C od ũ a))T Ũ;ū refusal t b;Ŭ oQ CK H pk;ŭ i4 X.env.cells scope.names;Ů ⟨Á,?_⟩;ů ⟨_,Á,Á,_,Á,?_⟩;Ű y.m.take i;ű y.m.map List.length;Ų vs.map toV;ų start N vs;Ŵ n8 ms rows;ŵ my Ñ p.m;Ŷ envOfC cO scope s.heap.objs.size f cd;ŷ ai.refl H;Ÿ aD(aY qD);Ź aB ĭ(aD(fc Ú ö rfl));ź .lst(iv(nv x.ns));Ż .cu od ë;ż .bool(lexLt ns ms);Ž .Name x p;ž wpAny M A;ſ mh K mg;ϊ m9 qy rfl;ϋ .cu od u;ό .builtin id;ύ ig K;ώ ay 0;Ϗ lF aE P w K mg base;ϐ b o hb e=>eb b o hb e;ϑ uG.map codes;ϒ ms.getD i fk;ϓ fj(iq(cZ e)(I.ok.wW x c HF hc));ϔ eval e X.env;ϕ b.map B;ϖ ay 1;ϗ .lst(iv(line.take j));Ϙ .ins C dx fs;ϙ .Compare a[op][b]pos;Ϛ upd H l;ϛ upd H T;Ϝ HT.lexLt ns ms;ϝ PE X e;Ϟ xs.map PyData.int;ϟ upd H' Tt;Ϡ pX H H' p;ϡ ql ms m.classes d m.ak;Ϣ ae İ ag;ϣ I.base.free b o e n hx;Ϥ .cu o ď;ϥ Eu cO scope s.heap.objs.size f cd;Ϧ jr x.zs p.fG bits;ϧ gB K C;Ϩ PE X a;ϩ Inv X pins σ' H';Ϫ e K q=>?_;ϫ xx hr.units;Ϭ v.gs.map cb.m;ϭ sm b;Ϯ ae(b9 cB)ag;ϯ aV st;ϰ PySem.mem_of_lookup e;ϱ .tup xs;ϲ .lst xs;ϳ .dK[];ϴ ⟨_,Á,Á,_,Á,ite_yes Á ?_⟩;ϵ keywordEach[]X.env;϶ iq(cZ e)I.ok.above;Ϸ Flags.lacks left(l.map ó)s;ϸ .lst(iv(nv sames));Ϲ .Name x pos;Ϻ b hb u hu=>?_;Àa n0 sames left;Àb ft X.prog X.w;Àc dy X.prog X.w;Àd _ _ p=>Bool.noConfusion p;Àe ī scope f aG A outer s H E;Àf ws.getD 0[];Àg importedModules P.main.body;Àh vk I hg hm;Ài ps.zip us;Àj model P w;Àk CH L ms classes;Àl y hy=>?_;Àm z.m.take i;Àn eA p.eC sg⟨D,Đ same⟩;Ào cA cY ç bo Ø;Àp .ref y.a;Àq .error e;Àr compEnvC scope cl C X.env;Às I.base.keep b o e n hb hx;Àt ft P w H h a;Àu aa X.K H;Àv upd H2 D ã;Àw t.map B;Àx s1.trans s2;Ày past.map n9;Àz p.map B;Áa nv(List.range G);Áb fs.lookup f;Ác ae(bg ç rfl)ag;Ád Codec.inInt 0 255;Áe upd H x;Áf br K x cO st f;Ág eI C p;Áh compareOp .Eq;Ái .ref D;Áj ⟨?_,?_⟩;Ák i v Tt H' hi f hT=>?_;Ál h2=>?_;Ám _ _ _ _ _=>dJ 8 oU.nd;Án r.map ó;Áo js rows x;Áp compareOp .NotEq;Áq .int i t;Ár ⟨I1.fu,?_⟩;Ás x hx=>?_;Át l x ih=>?_;Áu c v hc q=>k c v ?_ q;Áv upd H0 pl Ż;Áw t.map cont;Áx some ā;Áy ps.map V.ref;Áz fC.zero hD;Âa cA cY á(jh jM bo)Ø;Âb bf ä Ý s;Âc aD(aY yE);Âd PySem.mem_of_lookup hy;Âe Aa(iW pW);Âf .ref r;Âg .lst ys;Âh .ins C dx[];Âi i H' hi f=>?_;Âj .tup(k.map kV);Âk qB C s.heap.objs.size;Âl i=>bs.getD i false;Âm b o e nb=>?_;Ân some u;Âo kY Ô tE ò;Âp kHook kK kA kE;Âq h pins s σ H Q I hw;Âr eW P w;Âs dec lf s;Ât bh ŗ dw;Âu TP X pins σ Q;Âv PySem.W.instObj C dx;Âw Br hr.units;Âx .ref p.a;Ây .int i;Âz iv part;Ãa .ref it;Ãb .dT kvs;Ãc b=>sames.getD b 0;Ãd _ v x _=>?_;Ãe es.map bq.row;Ãf b=>pU.contains b;Ãg b=>k7.contains b;Ãh _ _ _ _=>trivial;Ãi upd H' d u;Ãj some v;Ãk sI CL CK l;Ãl pv 6;Ãm name.map B;Ãn mv rows Ņ;Ão cy.zero cJ;Ãp ay 4;Ãq I1.ax.fresh(bJ _);Ãr I.Bd hd mu;Ãs .lst(iv(nv row));Ãt l s ih=>?_;Ãu iL=>?_;Ãv b v _ q=>q;Ãw _=>rfl;Ãx _ _=>False;Ãy _ _ _ _ _=>pv 2;Ãz upd H1 c(nB c o);Äa tC ŉ;Äb setAttr ŝ name v;Äc qs.map V.ref;Äd pv 5;Äe o6 CE e;Äf ms.map PyData.int;Äg looseW kQ kL;Äh jq Í y.m.flatten;Äi g i j;Äj eval o X.env;Äk eK q hn;Äl dec ä s;Äm compareOp op;Än ae ĳ ag;Äo ae Ć ag;Äp AR X pins σ tg R;Äq .ref z.a;Är .ref lb;Äs .ref la;Ät eW prog w;Äu dec lf ϭ;Äv Builtin.bitNot i;Äw .ref l;Äx .own x;Äy .cu uP ĥ;Äz upd H0 d ϳ;Åa upd H e1 ã;Åb tC Ş;Åc s1.trans s3;Åd p.eC.map gK;Åe ls.map eG.m;Åf iW st;Åg eX Ú;Åh dX aQ;Åi b.ns.take j;Åj SP X pins D;Åk b o e=>dh _ e;Ål pv 7;Åm places.getD i 0;Ån nD p;Åo gq C;Åp cA yP Ãl bo Ø;Åq .dK(uo[]kvs);År qk CV v;Ås nB cx o;Åt jN D Nx;Åu iv line;Åv c.map B;Åw .tup ys;Åx .int 32;Åy q hq=>?_;Åz m hm=>?_;Æa b o nb g=>?_;Æb _=>aD ě;Æc H3 f=>?_;Æd H2 f=>?_;Æe upd H d ϋ;Æf ud s₁.heap H;Æg uI Ê;Æh s1.free hx;Æi rawInt L;Æj ot(qE ç);Æk oX ms rows;Æl lH x;Æm l.map ó;Æn hb 0 v0 Æ rfl;Æo gq C g;Æp eX á;Æq eU y.m z.m;Ær eT y;Æs cA cY Ú bo Ø;Æt bf lf Ý s;Æu bU r ta tb;Æv b9 cS;Æw aD(aY ç);Æx L.getD b 0;Æy K w.params;Æz I1.ax.fresh j7;Ça I.kH x c e;Çb .tup[x,y];Çc .str x;Çd .ref b.a;Çe .lst o;Çf .dT(qT[]ts);Çg y.m.getD i[];Çh tupleKind Âr;Çi iv(nv e.row);Çj exc C od ũ a;Çk compareOp .Lt;Çl .tup[kV k,v];Çm topStub P;Çn tm p.side;Ço ns.take i;Çp ms.map qZ;Çq iv(nv l);Çr fj(cZ e);Çs e.trans z;Çt cq Ħ;Çu bZ hb;Çv aL he;Çw .cu od ř;Çx .Name g p;Çy ⟨t1,t2,?_⟩;Çz j q' e=>?_;Èa xs.map V.int;Èb xI.map codes;Èc upd H2 d Äy;Èd upd H' pl ë;Èe tupleKind Ą;Èf n.map B;Èg ms.getD f fk;Èh eQ m.classes;Èi bh(ay 5)dw;Èj bf lf Ý s g;Èk ay 7;Èl List.range n;Èm .ref q;Èn .ref e;Èo .ref d;Èp .ref ap;Èq .inr Á;Èr .cu o u"
def mX(x:Syntax)(a:Array Syntax):MacroM Syntax:=let n:=x.getId.toString;if n.front.toNat>191 then match mT tb n with
|some s=>pure (if a.isEmpty then s else if s.isOfKind (nT "app") then mP s[0] (s[1].getArgs++a) else mP s a)
|_=>Macro.throwUnsupported else Macro.throwUnsupported
def mM(p:Syntax):Syntax:=mN (nC "rcasesPatMed") #[mkNullNode #[p]]
def mE(x:Syntax):Array Syntax:=if x.isOfKind (nT "tuple") then #[x[1][0],mkAtom ","]++x[1][2].getArgs else x[1].getArgs
def mD(x:Syntax):Syntax:=if x.isOfKind (nT "tuple") then mN (nT "anonymousCtor") #[mkAtom "⟨",mkNullNode (mE x),mkAtom "⟩"] else x
def mC:Nat->Syntax->Syntax
|0,x=>x
|n+1,x=>let k s a:=mN (.str (nC "rcasesPat") s) a;if x.isIdent then k "one" #[x] else if x.getArgs.size<2 then k "ignore" #[x[0]] else k "tuple" #[mkAtom "⟨",mkNullNode ((mE x).map λy=>if y.isAtom then y else mN (nC "rcasesPatLo") #[mM (mC n y),mkNullNode]),mkAtom "⟩"]
def mK(s a:String)(x:Syntax):MacroM Syntax:=pure ((x.setKind (nC s)).setArg 0 (mkAtom a))
def mH:Nat->Syntax->Bool
|0,_=>false
|n+1,x=>x.isOfKind (nT "syntheticHole")||x.getArgs.any (mH n)
end MP_
local macro_rules(kind:=ident)|x=>MP_.mX x #[]
local macro_rules(kind:=Lean.Parser.Term.app)|x=>MP_.mX x[0] x[1].getArgs
local macro_rules(kind:=Lean.Parser.Tactic.tacticLet__)|x=>let d:=x[2][0];if d.isOfKind (MP_.nT "letPatDecl") then pure (MP_.mN (MP_.nC "obtain") #[Lean.mkAtom "obtain",Lean.mkNullNode #[MP_.mM (MP_.mC 9 d[0])],Lean.mkNullNode,Lean.mkNullNode #[Lean.mkAtom ":=",Lean.mkNullNode #[d[4]]]]) else MP_.mK "tacticHave__" "have" x
local macro_rules(kind:=Lean.Parser.Tactic.apply)|x=>if MP_.mH 99 x then MP_.mK "refine" "refine" (x.setArg 1 (MP_.mD x[1])) else Lean.Macro.throwUnsupported
local macro_rules(kind:=Lean.Parser.Tactic.delta)|x=>MP_.mK "unfold" "unfold" x
local macro_rules|`(tactic|symm)=>`(tactic|simp_all)
local macro_rules(kind:=Lean.Parser.Tactic.exact)|x=>if x[1].isOfKind (MP_.nT "tuple") then pure (x.setArg 1 (MP_.mD x[1])) else Lean.Macro.throwUnsupported
set_option hygiene false
local macro_rules
|`(Ä)=>`(by simp)
|`(Å)=>`(⟨by k_is,⟨_,_,⟨by k_is,by k_is,by k_is,by k_is⟩,L2.nr (by k_is) (by k_is) (by k_is)⟩,⟨by k_is,by k_is,by k_is,by k_is⟩,by kernel_rfl⟩)
|`(Æ)=>`(by omega)
|`(É)=>`(by simp_all)
|`(Ê)=>`(by decide+kernel)
|`(Ë)=>`(c6 (by kernel_rfl))
|`(Î)=>`(s.heap.objs.size+1)
|`(Ô)=>`(by rfl)
|`(Ù)=>`(by decide)
|`(Ý)=>`((s,B)::r)
|`(å)=>`(upd (upd (upd H T0 (ent .none T0)) a (exc C od (.ref T) a)) T (ent (rawInt L) T))
|`(æ)=>`(⟨_,_,_,_,_,by k_is,by k_is,by decide,by repeat' constructor⟩)
|`(è)=>`(cellsFrom (s3.heap.objs.size+1) scope.names (i4 X.env.cells scope.names []))
|`(é)=>`((·.map B))
|`(ì)=>`(⟨rfl,rfl,rfl,by decide+kernel,rfl,by decide+kernel,by decide+kernel⟩)
|`(í)=>`(⟨λi m σ H=>m=xs.length-i/\i<=xs.length/\Pv i σ H,⟨xs.length,by simp,dY _,h0⟩,?_⟩)
|`(À $x)=>`(by simpa using $x)
local macro_rules
|`(tactic|show Ó)=>`(tactic|intro X hP hw hK hc i pins s σ H E I hf st hg)
|`(tactic|show Õ)=>`(tactic|intro pins s σ H Q I h)
|`(tactic|show ê)=>`(tactic|obtain⟨f0,f1,f2,f3,f4,f5⟩:=hf it Ä)
|`(tactic|show ï)=>`(tactic|intro pins s σ H x y v u Q I rx ry h)
namespace A_
def af:=@if_pos
def ah:=@if_neg
def aA:=@List.length_map
def aN:=@Option.some.inj
def aO:=@List.mem_cons_of_mem
def aP:=@PySem.wpAny_bind
def a0:=@List.map_cons
def ba:=@List.mem_cons
def bJ:=@Nat.le_refl
def bO:=@List.getElem?_eq_some_iff
def bW:=@List.getElem?_map
def bX:=@List.map_append
def bZ:=@List.mem_of_getElem?
def cf:=@List.mem_map
def cE:=@congrArg
def cQ:=@List.map_map
def cZ:=@PySem.Heap.lt_size
def c7:=@List.length_cons
def df:=@PySem.wpAny_pure
def dh:=@PySem.Heap.get?_push_of_some
def dm:=@List.getElem?_eq_getElem
def dX:=@Ne.symm
def dY:=@Nat.zero_le
def d9:=@Bool.false_ne_true
def eJ:=@decide_eq_true
def fj:=@Nat.ne_of_lt
def fQ:=@decide_eq_false
def gy:=@List.mem_cons_self
def gQ:=@Nat.le_trans
def gR:=@List.mem_append
def gS:=@List.sum_cons
def g7:=@List.length_range
def ib:=@PySem.Heap.get?_push_size
def iq:=@Nat.lt_of_lt_of_le
def iU:=@PySem.wpAny_mono
def iV:=@List.getD_eq_getElem?_getD
def je:=@PySem.wpAny_loadPart'
def jv:=@List.append_nil
def jw:=@Bool.and_eq_true
def j8:=@List.mem_filter
def j9:=@List.nodup_cons
def ko:=@List.find?_cons
def kq:=@List.map_congr_left
def kC:=@List.mem_flatMap
def lu:=@Bool.false_and
def lx:=@List.all_eq_true
def lQ:=@List.map_nil
def lR:=@Bool.true_and
def mT:=@List.length_take
def mU:=@List.length_append
def mV:=@List.mem_singleton
def mX:=@List.take_length
def mY:=@List.not_mem_nil
def mZ:=@or_false
def og:=@decide_eq_true_eq
def pj:=@Bool.eq_iff_iff
def pz:=@Nat.lt_of_le_of_lt
def qw:=@PySem.Heap.size_push
def qx:=@Nat.lt_irrefl
def qy:=@PySem.PassesOwn.never
def rK:=@List.length_nil
def rL:=@List.all_cons
def rM:=@List.all_map
def rN:=@List.getElem_of_mem
def rO:=@of_decide_eq_true
def rP:=@List.append_assoc
def tQ:=@PySem.wpAny_loadPart_at
def tU:=@Nat.ne_of_gt
def tV:=@Nat.le_of_lt
def tW:=@PySem.wpAny_truthy_bool
def tX:=@List.mem_append_right
def tY:=@List.size_toArray
def t7:=@List.any_cons
def u6:=@PySem.codeAny_mono
def u7:=@PySem.Obj.data_mapFields
def u9:=@PySem.wpAny_field
def va:=@PySem.sizeLine_eq
def vb:=@List.lookup_cons
def vc:=@List.any_eq_true
def vd:=@Bool.and_eq_true_iff
def wJ:=@Array.length_toList
def wK:=@beq_iff_eq
def wL:=@beq_eq_false_iff_ne
def wM:=@PySem.wpAny_Call_Name_kw
def wN:=@List.getElem?_eq_none
def wO:=@Nat.zero_add
def wQ:=@List.ext_getElem?
def wR:=@List.filter_cons
def yr:=@Option.map_eq_some_iff
def yt:=@Bool.and_false
def yu:=@PyProof.Rows.boot_all
def yw:=@List.filter_map
def yx:=@List.nil_append
def An:=@List.contains_cons
def Ao:=@PySem.wpAny_call
def Ap:=@PySem.Heap.get?_update_other
def Aq:=@Array.getElem?_eq_some_iff
def Ar:=@List.mem_range
def As:=@List.mem_append_left
def Au:=@PySem.wpAny_passesOwn
def Av:=@List.getLast?_append
def Aw:=@List.flatMap_append
def Ax:=@List.dropLast_subset
def Ay:=@List.nodup_nil
def Az:=@List.filter_cons_of_pos
def AA:=@List.filter_cons_of_neg
def C4:=@PySem.wpAny_setField
def C5:=@Nat.le_of_eq
def C6:=@PySem.Heap.get?_update_self
def C7:=@Int.toNat_natCast
def C8:=@List.filterMap_cons
def C9:=@PySem.wpAny_execs_nil
def Da:=@PyProof.Rows.callWith_type1
def Dc:=@PySem.Calls.spliced_cons
def Dd:=@List.of_mem_zip
def De:=@List.zip_cons_cons
def Df:=@List.range_succ_eq_map
def Dg:=@Option.isSome_map
def Dh:=@PySem.tupleKind_room_in1
def Di:=@PySem.call_meetsIn
def Dj:=@List.mem_of_getLast?
def Dk:=@List.filter_append
def Dl:=@List.flatMap_cons
def Dm:=@List.contains_iff_mem
def Do:=@Nat.testBit_and
def Dq:=@Nat.testBit_lt_two_pow
def Dr:=@Option.bind_some
def GZ:=@PySem.Obj.isFreed_of_fields
def G0:=@List.mem_filterMap
def G1:=@Option.isSome_iff_exists
def G2:=@List.getElem?_append_left
def G3:=@PySem.Calls.callWith_builtin
def G4:=@PySem.call_meets
def G5:=@List.take_of_length_le
def G6:=@Option.map_some
def G7:=@Nat.lt_trans
def G8:=@PySem.wpAny_Call_method
def G9:=@PySem.plainId_quiet
def Hc:=@List.mapM_cons
def Hd:=@List.mem_of_mem_take
def He:=@List.getLast?_singleton
def Hf:=@decide_eq_false_iff_not
def Hg:=@List.length_filter_le
def Hh:=@List.range_succ
def Hi:=@List.pairwise_cons
def Hj:=@Int.natCast_nonneg
def Hk:=@Nat.pow_le_pow_right
def Hl:=@List.getElem?_zip_eq_some
def Hm:=@List.foldl_cons
def Ho:=@Int.le_refl
def OG:=@PySem.wpAny_isSubtype_exc
def OI:=@PySem.wpAny_newObj_type
def OJ:=@PySem.F.slot_tuple_iterator_next
def OK:=@PySem.Heap.get?_none_of_le
def OL:=@PySem.wpAny_execs_cons
def OM:=@PySem.Calls.spliced_nil
def ON:=@List.getElem?_append_right
def OO:=@PySem.richCompare_meets_room
def OP:=@if_true
def OQ:=@PySem.Calls.evalArgs_plain
def OR:=@List.any_map
def OS:=@PySem.pushCells_keeps
def OT:=@Nat.le_of_succ_le
def OU:=@Nat.lt_succ_of_lt
def OV:=@PySem.wpAny_standAt
def OW:=@Bool.false_or
def OX:=@PySem.codeAny_builtin
def OY:=@PySem.Around.under_plainId
def OZ:=@PySem.wpAny_pyIter_enum
def O0:=@Bool.and_self
def O1:=@PySem.SeqAt.canLay_of_shaped
def O2:=@List.nodup_append
def O3:=@List.length_eq_zero_iff
def O4:=@List.map_drop
def O5:=@List.take_append_drop
def O6:=@List.take_succ_cons
def O7:=@List.findIdx?_eq_some_iff_getElem
def O8:=@Nat.pow_succ
def O9:=@List.getElem?_range
def Pa:=@Bool.and_true
def Pb:=@List.pairwise_map
def Pc:=@List.flatten_cons
def Pd:=@Classical.byContradiction
def Pe:=@Bool.not_not
def Pf:=@decide_eq_true_iff
def XI:=@PySem.wpAny_typeLookup_exc
def XJ:=@PySem.wpAny_holding
def XM:=@Bool.or_true
def XO:=@PySem.wpAny_seqItems
def XQ:=@PySem.Obj.cls_mapFields
def XS:=@PySem.wpAny_pyIter_tuple
def XU:=@List.getElem_inj
def XW:=@List.getElem?_set_self
def XX:=@List.getElem?_set_ne
def X0:=@PySem.wpAny_pyIter_list
def X2:=@Nat.lt_succ_self
def X3:=@PySem.plainObj_wpAny_Assign_Attribute
def X4:=@Nat.le_succ
def X5:=@List.getElem?_take_of_lt
def X7:=@List.length_drop
def X8:=@Array.getElem?_toList
def X9:=@List.length_dropLast
def Yb:=@PySem.Heap.DictOf.new
def Yc:=@Nat.add_le_add_left
def Yd:=@List.getElem?_drop
def Ye:=@Nat.add_zero
def Yg:=@Nat.lt_of_not_le
def Yh:=@List.mem_of_mem_drop
def Yi:=@beq_self_eq_true
def Yj:=@List.findIdx?_cons
def Yk:=@List.exists_cons_of_length_eq_add_one
def Yl:=@Nat.succ.inj
def Ym:=@List.filterMap_append
def Yn:=@List.zip_append
def Yo:=@Int.zero_add
def Yp:=@List.drop_eq_nil_of_le
def Yq:=@List.zip_map_right
def Yr:=@decide_eq_decide
def Ys:=@List.nodup_range
def Yt:=@List.filter_congr
def Yu:=@PySem.W.Codec.inNat_iff
def aoU:=@PySem.F.entry_tuple_iterator_next
def aoV:=@PySem.F.args_tuple_iterator_next_1
def ao1:=@PySem.Calls.Name_function_global
def apb:=@PySem.wpAny_newFunctionEnv_cells
def apc:=@PyProof.Rows.callWith_builtin1
def ape:=@PySem.AutoSeq1.sub_tuple_tuple
def aph:=@Option.isSome_some
def api:=@Array.getElem?_eq_none
def apk:=@List.getElem?_cons_zero
def apl:=@List.getElem?_cons_succ
def apq:=@PySem.wpAny_letOwnedTupleGo_enum
def aps:=@of_decide_eq_false
def apu:=@List.getElem_range
def apv:=@Int.toNat_of_nonneg
def apx:=@List.getLast?_eq_none_iff
def apy:=@List.mem_map_of_mem
def apz:=@Function.comp_apply
def apA:=@List.filter_eq_nil_iff
def apB:=@List.pairwise_filter
def apD:=@List.Sublist.nodup
def apE:=@Nat.eq_of_testBit_eq
def apF:=@Nat.testBit_two_pow_self
def apG:=@Classical.not_forall
def apH:=@List.mem_eraseDups
def apI:=@Nat.testBit_two_pow_add_gt
def apJ:=@Nat.testBit_two_pow_add_eq
def apK:=@List.find?_cons_of_neg
def apL:=@Nat.pos_of_ne_zero
def apM:=@List.filter_sublist
def apN:=@List.dropLast_concat
def apO:=@Nat.lt_or_eq_of_le
end A_
open A_
section
namespace OH
open PySem PySem.Calls PySem.W PyProof.Rows
def runT(j:String->Option Builtin)(P:Program)(W:World)(m:Nat)(F:Option Value):Nat->SharedT->Thread->Option SharedT
 |0,_,_=>none
 |k+1,x,y=>match through y with
  |true=>some x
  |false=>match stepOk m F y with
   |false=>none
   |true=>match stepT (denote j) P W x y with
    |some z=>runT j P W m F k z.1 z.2
    |none=>none
theorem Yv{j:String->Option Builtin}{P:Program}{W:World}{m:Nat}{F:Option Value}:∀(k:Nat)(x z:SharedT)(y:Thread),runT j P W m F k x y=some z->topRun j P W m F k x.abs y=some z.abs:=by
 intro k;induction k with
 |zero=>intro x z y h;cases h
 |succ k I=>
  intro x z y h;delta runT at h;delta topRun;cases e1:through y with
  |true=>
   rw[e1] at h;cases h;rfl
  |false=>
   rw[e1] at h;cases e2:stepOk m F y with
   |false=>rw[e2] at h;cases h
   |true=>
    rw[e2] at h;dsimp only at h⊢;cases e3:stepT (denote j) P W x y with
    |none=>rw[e3] at h;cases h
    |some v=>
     rw[e3] at h;rw[stepT_spec (s':=v.1) (t':=v.2) e3];exact I _ _ _ h
def treeOf(l:List Obj):BT:=(l.foldl (λ(x:BT×Nat)o=>(x.1.ins x.2 o,x.2+1)) (.nil,0)).1
noncomputable def startT (W:World) (O:OsState):SharedT:=⟨treeOf (boot_heap W.params).objs.toList,(boot_heap W.params).objs.toList.length,(boot_heap W.params).life,Array.mk [],boot_drawn,boot_toks,O⟩
noncomputable def yy (W:World) (O:OsState):Shared:=⟨boot_heap W.params,Array.mk [],boot_drawn,boot_toks,O⟩
def Yw(W:World)(O:OsState):(startT W O).abs=yy W O:=by
 kernel_rfl
noncomputable def keptAt (P:Program) (W:World) (x:Shared):Bool:=staticsOk Àg (boot_heap W.params) x.heap&&namesBound P x.heap&&gensDone x&&laidKept (boot_heap W.params) x.heap
noncomputable def looksAt (P Q:Program) (lo:List Str) (Xt:Shared->Bool) {α:Type} (Yf:Shared->α) (W:World) (x:Shared):=
 (keptAt P W x,openSeen Q lo Àg Xt true x,Yf x)
def Yx{P:Program}{W:World}{N m:Nat}{j:Option Value}{O:OsState}{z:Shared}(S:((boot_heap W.params).isNs mainGlobals,(boot_heap W.params).objs.size,(boot_heap W.params).nsMap mainGlobals "__annotations__")=(true,m,j))(run:topRun treeTable P W m j N (yy W O) Çm=some z) (kept:keptAt P W z=true):topFrom treeTable P W N (yy W O)=some z:=by
 let F:(boot_heap W.params).isNs mainGlobals=true:=cE Prod.fst S;let G:(boot_heap W.params).objs.size=m:=cE (λx=>x.2.1) S;let I:(boot_heap W.params).nsMap mainGlobals "__annotations__"=j:=cE (λx=>x.2.2) S;subst G;subst I;let g:((yy W O).heap.isNs mainGlobals&&(yy W O).gens.size==0)=true:=by
  show((boot_heap W.params).isNs mainGlobals&&true)=true;rw[F];rfl
 delta topFrom;rw[g];show(topRun treeTable P W (boot_heap W.params).objs.size ((boot_heap W.params).nsMap mainGlobals "__annotations__") N (yy W O) Çm).bind _=some z;rw[run];show(match keptAt P W z with|true=>some z|false=>none)=some z;rw[kept]
def Yy{P Q:Program}{lo:List Str}{Xt:Shared->Bool}{α:Type}{Yf:Shared->α}{Ya:World->α}{N:Nat}{m:Nat}{j:Option Value}{M:Nat}(e:opening P=plainProg P.main.scope.names) (Z:Nat.ble 600 N=true) (f:∀s,fenceModules? P s=some s)(S:∀W:World,((boot_heap W.params).isNs mainGlobals,(boot_heap W.params).objs.size,(boot_heap W.params).nsMap mainGlobals "__annotations__")=(true,m,j))(le:Nat.ble M N=true)(fin:∀(W:World)(O:OsState),(runT treeTable P W m j M (startT W O) Çm).map (λs=>looksAt P Q lo Xt Yf W s.abs)=some (true,openGood Q lo,Ya W)):LeftO P Q lo Xt Yf Ya N:=by
 intro W;let((h,gs,d,k,O),o1,o2):=yr.mp (boot_open e Z f W);cases o2;let(z,r1,F):=yr.mp (fin W O);let G:=Yv _ _ _ _ r1;rw[Yw] at G;let I:=topRun_mono (N-M) _ _ _ _ G;let Y:M+(N-M)=N:=Nat.add_sub_cancel' (Nat.le_of_ble_eq_true le);rw[Y] at I;let J:keptAt P W z.abs=true:=cE Prod.fst F;let U:(openSeen Q lo Àg Xt true z.abs,Yf z.abs)=(openGood Q lo,Ya W):=cE Prod.snd F;let t:topFrom treeTable P W N ⟨boot_heap W.params,Array.mk [],boot_drawn,boot_toks,O⟩=some z.abs:=Yx (S W) I J;delta openEnds;rw[o1];show Option.map _ (topFrom treeTable P W N ⟨boot_heap W.params,Array.mk [],boot_drawn,boot_toks,O⟩)=_;rw[t];exact cE some U
lay_quick OH.runT
def Yz(W:World):((boot_heap W.params).isNs mainGlobals,(boot_heap W.params).objs.size,(boot_heap W.params).nsMap mainGlobals "__annotations__")=(true,11,some (.ref 6)):=by
 kernel_rfl
def YA{P Q:Program}{lo:List Str}{Xt:Shared->Bool}{α:Type}{Yf:Shared->α}{Ya:World->α}{N:Nat}(e:opening P=plainProg P.main.scope.names) (j:Nat.ble 600 N=true) (f:∀s,fenceModules? P s=some s)(fin:∀(W:World)(O:OsState),(PySem.W.Fast.tw1264388230241321415 PySem.W.Fast.tw14364793385576792824 P W 11 (some (.ref 6)) N (startT W O) Çm).map (λs=>looksAt P Q lo Xt Yf W s.abs)=some (true,openGood Q lo,Ya W)):LeftO P Q lo Xt Yf Ya N:=
 Yy e j f Yz (Nat.ble_eq_true_of_le (bJ N)) λW O=>by
  rw[PySem.W.Fast.te1264388230241321415,PySem.W.Fast.te14364793385576792824];exact fin W O
end OH
end
section
namespace L2
open PySem PySem.Spec PyProof.Rows
def inClass(s:Stmt)(j:Nat):Stmt:=match s with
 |.ClassDef _ _ _ gM _ _ _ _ _ _ _=>gM.getD j (.Pass ⟨0,0,0,0⟩)
 |_=>.Pass ⟨0,0,0,0⟩
def t9(s:Stmt):Arguments:=match s with
 |.FunctionDef _ a _ _ _ _ _ _ _ _=>a
 |_=>{posonlyargs:=[],args:=[],vararg:=none,kwonlyargs:=[],kw_defaults:=[],kwarg:=none,defaults:=[]}
def iW(s:Stmt):List Stmt:=match s with
 |.FunctionDef _ _ b _ _ _ _ _ _ _=>b
 |_=>[]
def aV(s:Stmt):Scope:=match s with
 |.FunctionDef _ _ _ _ _ _ sc _ _ _=>sc
 |_=>{kind:=.function,names:=[],isGenerator:=false,isCoroutine:=false}
end L2
namespace HD
open PySem PySem.Spec PyProof.Rows L2
def top(i:Nat):Stmt:=PySem.Challenge.pw_halfseendesk_s04_nth.main.body.getD i (.Pass ⟨0,0,0,0⟩)
@[reducible] def kf (n q:Str) (st:Stmt) (m c:Value):Obj:=⟨.type "function",none,.func (PySem.W.fnOf n q (t9 st) Åf ϯ .none .none .none m none c .none),#[]⟩
@[reducible] def ke (P:Params) (x:Str) (t:Nat) (v:Value):DictEntry:=⟨PyData.keyHash P x,.str x t,v⟩
@[reducible] def kc (n q:Str) (t:Nat) (l c:Int) (r:Nat) (x y:Value) (e:Nat) (d:Nat):Obj:=⟨.type "code",none,.fields #[.str n t,.str q (t+1),.str "/claim/cut.py" (t+2),.int l 0,.int c 0,.int 0 0,.int 0 0,.int 3 0,.ref r,.bool true,.int 181 0,.ref (r+1),.none,x,y,.ref e,.int d 0,.int l 0,.str "/claim/cut.py" (d+1)],#[]⟩
@[reducible] def kd (n:Str) (t:Nat) (l c:Int) (r:Nat) (x y:Value) (e:Nat) (d:Nat):Obj:=kc n n t l c r x y e d
@[reducible] def km (t:Nat):Str:=if t=187 then "halfseendesk.looks" else if t=214 then "halfseendesk.texts" else if t=292 then "halfseendesk.lockers" else if t=470 then "halfseendesk.platetexts" else if t=712 then "halfseendesk.sights" else if t=796 then "halfseendesk.displays" else if t=904 then "halfseendesk.books" else if t=1044 then "halfseendesk.readings" else "halfseendesk.plates"
@[reducible] def kg (n:Str) (i t r:Nat):Obj:=kf n n (top i) (.str (km t) t) Âf
@[reducible] def kr (P:Params) (x:Str) (t r:Nat):DictEntry:=ke P x t Âf
@[reducible] def ki (P:Params) (x:Str) (v:Int) (t:Nat):DictEntry:=ke P x (t+1) (.int v t)
@[reducible] def kx (P:Params) (a m:Nat) (l:Int) (e r f:Nat):Obj:=⟨.type "dict",none,.dict #[ke P "__module__" a (.str (km m) m),ke P "__firstlineno__" (a+4) (.int l (a+3)),kr P "__init__" e r,kr P "__static_attributes__" f (r+1),kr P "__dict__" (f+2) (r+4),kr P "__weakref__" (f+4) (r+5),ke P "__doc__" (f+5) .none] 4,#[]⟩
@[reducible] def ky (P:Params) (a m:Nat) (l:Int) (r:Nat):Obj:=⟨.type "dict",none,.dict #[ke P "__module__" a (.str (km m) m),ke P "__firstlineno__" (a+4) (.int l (a+3)),kr P "__static_attributes__" (a+5) r,kr P "__weakref__" (a+7) (r+3),ke P "__doc__" (a+8) .none] 3,#[]⟩
@[reducible] def kt (n:Str) (r s t:Nat):Obj:=⟨.type "type",none,.cls ⟨n,[.type "object"],[.ref r,.type "object"],s,n,true,[],[],false,none,false⟩,#[none,none,some (.str n t),some (.str n (t+8)),some (.builtin "object.__new__"),some (.bool true)]⟩
@[reducible] def ku (n:Str) (r s x t:Nat):Obj:=⟨.type "type",none,.cls ⟨n,[.type "Exception"],[.ref r,.type "Exception",.type "BaseException",.type "object"],s,n,true,[],[],false,none,false⟩,#[some ŝ,none,some (.str n t),some (.str n (t+8)),some (.builtin "Exception.__new__"),some (.bool true)]⟩
@[reducible] def kj (q:Str) (i t r:Nat):Obj:=kf "__init__" q (inClass (top i) 0) (.str (km t) t) Âf
@[reducible] def kh (q:Str) (t:Nat) (l c:Int) (r:Nat) (x y:Value) (e:Nat) (d:Nat):Obj:=kc "__init__" q t l c r x y e d
@[reducible] def kv (n:Str) (t:Nat) (l c:Int) (r d:Nat):Obj:=kd n t l c r (.ref (r+2)) (.ref (r+3)) (r+4) d
@[reducible] def kn (n:Str) (t:Nat) (l c:Int) (r d:Nat):Obj:=kh n t l c r (.ref (r+2)) (.ref (r+3)) (r+4) d
@[reducible] def kw (n:Str) (t:Nat) (l c:Int) (r d:Nat):Obj:=kd n t l c r .none .none (r+2) d
noncomputable def kK (P:Params):PySem.W.Frag:=
 (nat_lit 3,⟨(.type "dict"),none,(.dict #[ke P "__name__" 165 (.str "halfseendesk.plates" 1135),ke P "__doc__" 166 .none,ke P "__package__" 167 .none,ke P "__loader__" 168 (.builtin "__main__.__loader__#opaque"),ke P "__spec__" 169 .none,kr P "__annotations__" 170 6,kr P "__builtins__" 171 4,ke P "__file__" 173 (.str "/claim/cut.py" 172),ke P "__cached__" 174 .none,kr P "SHAPES" 192 15,ki P "FRONT" 0 193,ki P "BEHIND" 1 195,ki P "CELLS" 16 197,ki P "ROW" 4 199,kr P "cell_behind" 207 22,kr P "cells_seen" 213 27,ki P "MOST_BYTES" 65536 216,ki P "LINE_END" 10 218,ki P "BLANK" 32 220,ke P "COLOUR_SIGNS" 223 (.str "0123456789abcdef" 222),ke P "NAME_SIGNS" 225 (.str "ABCDEFGHIJKLMNOPQRSTUVWXYZ0123456789" 224),ki P "LONGEST_NAME" 8 226,kr P "spelled" 233 32,kr P "cut" 243 39,kr P "whole_lines" 252 46,kr P "place_among" 262 53,kr P "places_in" 268 58,kr P "read_colours" 275 65,kr P "is_name" 282 72,kr P "name_behind" 291 79,ki P "SIGN" 0 294,ki P "SAME" 1 296,kr P "ROLES" 301 80,kr P "WORDS_OF_ROLES" 305 81,ki P "MOST_COPIES" 8 306,ki P "MOST_SAME" 4 308,ki P "MOST_SIGNS" 48 310,ki P "DIGIT_ZERO" 48 312,kr P "NoLocker" 333 91,kr P "Kind" 372 111,kr P "Locker" 403 132,kr P "read_locker" 409 141,kr P "read_name" 416 148,kr P "read_digit" 424 155,kr P "read_kind" 438 162,kr P "are_in_order" 444 561,kr P "are_in_order_lockers" 445 167,kr P "may_follow" 453 174,kr P "are_different" 459 179,kr P "has_twice" 465 184,ki P "MOST_HOISTS" 4 466,ki P "MOST_FLAGS" 8 468,kr P "SIDES" 475 185,ki P "UNKNOWN_SIDE" 2 476,kr P "HOIST_LINES" 482 186,kr P "SEEN_SHAPES" 487 187,ke P "SEEN_SIGNS" 489 (.str "0123456789abcdef?" 488),ki P "UNSEEN_SHAPE" 3 490,ki P "UNSEEN_CELL" 16 492,ki P "SIDE_LINE" 0 494,ki P "HOIST_LINE" 1 496,ki P "SHAPE_LINE" 2 498,ki P "CELLS_LINE" 3 500,ki P "NO_SUCH_LINE" 1 502,ki P "WRONG_PLACE" 2 504,kr P "NoPlate" 536 204,kr P "Sighting" 567 224,kr P "Glimpse" 600 245,kr P "Plate" 633 266,kr P "read_plate" 646 277,kr P "read_line" 656 284,kr P "read_side" 666 291,kr P "read_row" 673 298,kr P "may_stand" 681 305,kr P "lacks_flags" 688 312,kr P "lacks_cells" 695 319,kr P "has_whole_hoists" 702 326,kr P "put" 711 333,kr P "sighting_of" 722 340,kr P "View" 753 357,kr P "view_of" 759 366,kr P "kinds_along" 765 371,kr P "kinds_that_look_so" 771 376,kr P "may_be" 777 381,kr P "fits" 783 386,kr P "hoist_fits" 789 391,kr P "fits_at" 795 396,kr P "Plan" 830 413,kr P "display_told" 836 422,kr P "copies_lacking" 842 427,kr P "sames_along" 848 432,kr P "bits_of_sames" 854 437,kr P "places_of" 867 444,kr P "plan_of" 873 449,kr P "places_outside" 879 454,kr P "copies_in" 885 459,kr P "hoist_told" 891 464,kr P "flag_told" 897 469,kr P "hang" 903 474,ki P "TITLE_LINES" 2 906,ki P "MOST_ENTRIES" 2048 908,ki P "LONGEST_MEANING" 64 910,ki P "FULL_STOP" 46 912,ki P "LAST_PRINTED" 126 914,kr P "NoBook" 935 484,kr P "Entry" 966 504,kr P "Book" 997 525,kr P "read_book" 1003 534,kr P "numbers_of_signs" 1009 539,kr P "read_entry" 1018 546,kr P "read_signs" 1024 551,kr P "read_meaning" 1030 556,kr P "are_in_order_books" 1037 561,kr P "can_be_shown" 1043 566,ki P "MOST_IN_DOUBT" 1024 1046,kr P "TooMuchInDoubt" 1067 576,kr P "Reading" 1100 596,kr P "readings_of" 1106 605,kr P "entries_in_doubt" 1112 610,kr P "product" 1121 617,kr P "all_rows" 1127 622,kr P "sides_of" 1134 629,kr P "Finding" 1171 646,kr P "nth" 1182 657,kr P "nth_told" 1191 664,kr P "answered" 1202 671,kr P "found" 1214 678] 127),#[]⟩)::
 (nat_lit 15,⟨(.type "tuple"),none,(.seq #[(.str "square" 189),(.str "tails" 190),(.str "long" 191)] 0),#[]⟩)::
 (nat_lit 21,kv "cell_behind" 201 7 1 16 205)::
 (nat_lit 22,kg "cell_behind" 6 187 21)::
 (nat_lit 26,kw "cells_seen" 208 9 3 23 211)::
 (nat_lit 27,kg "cells_seen" 7 187 26)::
 (nat_lit 31,kw "spelled" 228 20 1 28 231)::
 (nat_lit 32,kg "spelled" 15 214 31)::
 (nat_lit 38,kv "cut" 234 22 2 33 241)::
 (nat_lit 39,kg "cut" 16 214 38)::
 (nat_lit 45,kv "whole_lines" 244 30 1 40 250)::
 (nat_lit 46,kg "whole_lines" 17 214 45)::
 (nat_lit 52,kv "place_among" 253 34 2 47 260)::
 (nat_lit 53,kg "place_among" 18 214 52)::
 (nat_lit 57,kw "places_in" 263 39 2 54 266)::
 (nat_lit 58,kg "places_in" 19 214 57)::
 (nat_lit 64,kv "read_colours" 269 44 1 59 273)::
 (nat_lit 65,kg "read_colours" 20 214 64)::
 (nat_lit 71,kv "is_name" 276 48 1 66 280)::
 (nat_lit 72,kg "is_name" 21 214 71)::
 (nat_lit 78,kv "name_behind" 283 50 2 73 289)::
 (nat_lit 79,kg "name_behind" 22 214 78)::
 (nat_lit 80,⟨(.type "tuple"),none,(.seq #[(.str "sign" 298),(.str "same" 299),(.str "answer" 300)] 0),#[]⟩)::
 (nat_lit 81,⟨(.type "tuple"),none,(.seq #[(.int 5 302),(.int 5 303),(.int 4 304)] 0),#[]⟩)::
 (nat_lit 90,ky P 321 292 64 89)::
 (nat_lit 91,ku "NoLocker" 91 90 82 314)::
 (nat_lit 107,kn "Kind.__init__" 346 68 7 102 356)::
 (nat_lit 108,kj "Kind.__init__" 33 292 107)::
 (nat_lit 110,kx P 341 292 66 358 108 365)::
 (nat_lit 111,kt "Kind" 111 110 334)::
 (nat_lit 128,kn "Locker.__init__" 385 77 3 123 391)::
 (nat_lit 129,kj "Locker.__init__" 34 292 128)::
 (nat_lit 131,kx P 380 292 75 393 129 396)::
 (nat_lit 132,kt "Locker" 132 131 373)::
 (nat_lit 140,kw "read_locker" 404 80 1 137 407)::
 (nat_lit 141,kg "read_locker" 35 292 140)::
 (nat_lit 147,kv "read_name" 410 89 1 142 414)::
 (nat_lit 148,kg "read_name" 36 292 147)::
 (nat_lit 154,kv "read_digit" 417 93 2 149 422)::
 (nat_lit 155,kg "read_digit" 37 292 154)::
 (nat_lit 161,kv "read_kind" 425 97 1 156 436)::
 (nat_lit 162,kg "read_kind" 38 292 161)::
 (nat_lit 166,kw "are_in_order" 439 110 1 163 442)::
 (nat_lit 167,kg "are_in_order" 39 292 166)::
 (nat_lit 173,kv "may_follow" 446 116 2 168 451)::
 (nat_lit 174,kg "may_follow" 41 292 173)::
 (nat_lit 178,kw "are_different" 454 120 1 175 457)::
 (nat_lit 179,kg "are_different" 42 292 178)::
 (nat_lit 183,kw "has_twice" 460 124 1 180 463)::
 (nat_lit 184,kg "has_twice" 43 292 183)::
 (nat_lit 185,⟨(.type "tuple"),none,(.seq #[(.str "front" 472),(.str "behind" 473),(.str "unknown" 474)] 0),#[]⟩)::
 (nat_lit 186,⟨(.type "tuple"),none,(.seq #[(.str "hoist" 478),(.str "hoist above" 479),(.str "hoist below" 480),(.str "hoist above below" 481)] 0),#[]⟩)::
 (nat_lit 187,⟨(.type "tuple"),none,(.seq #[(.str "square" 483),(.str "tails" 484),(.str "long" 485),(.str "shape?" 486)] 0),#[]⟩)::
 (nat_lit 200,kn "NoPlate.__init__" 518 144 3 195 524)::
 (nat_lit 201,kj "NoPlate.__init__" 60 470 200)::
 (nat_lit 203,⟨(.type "dict"),none,(.dict #[ke P "__module__" 513 (.str "halfseendesk.platetexts" 470),ke P "__firstlineno__" 517 (.int 142 516),ke P "__init__" 526 (.ref 201),ke P "__static_attributes__" 529 (.ref 202),ke P "__weakref__" 531 (.ref 205),ke P "__doc__" 532 .none] 3),#[]⟩)::
 (nat_lit 204,ku "NoPlate" 204 203 188 506)::
 (nat_lit 220,kn "Sighting.__init__" 549 150 3 215 555)::
 (nat_lit 221,kj "Sighting.__init__" 61 470 220)::
 (nat_lit 223,kx P 544 470 148 557 221 560)::
 (nat_lit 224,kt "Sighting" 224 223 537)::
 (nat_lit 241,kn "Glimpse.__init__" 580 155 4 236 587)::
 (nat_lit 242,kj "Glimpse.__init__" 62 470 241)::
 (nat_lit 244,kx P 575 470 153 589 242 593)::
 (nat_lit 245,kt "Glimpse" 245 244 568)::
 (nat_lit 262,kn "Plate.__init__" 613 161 4 257 620)::
 (nat_lit 263,kj "Plate.__init__" 63 470 262)::
 (nat_lit 265,kx P 608 470 159 622 263 626)::
 (nat_lit 266,kt "Plate" 266 265 601)::
 (nat_lit 276,kv "read_plate" 634 165 1 271 644)::
 (nat_lit 277,kg "read_plate" 64 470 276)::
 (nat_lit 283,kv "read_line" 647 181 1 278 654)::
 (nat_lit 284,kg "read_line" 65 470 283)::
 (nat_lit 290,kv "read_side" 657 187 1 285 664)::
 (nat_lit 291,kg "read_side" 66 470 290)::
 (nat_lit 297,kv "read_row" 667 196 1 292 671)::
 (nat_lit 298,kg "read_row" 67 470 297)::
 (nat_lit 304,kv "may_stand" 674 200 2 299 679)::
 (nat_lit 305,kg "may_stand" 68 470 304)::
 (nat_lit 311,kv "lacks_flags" 682 208 1 306 686)::
 (nat_lit 312,kg "lacks_flags" 69 470 311)::
 (nat_lit 318,kv "lacks_cells" 689 210 1 313 693)::
 (nat_lit 319,kg "lacks_cells" 70 470 318)::
 (nat_lit 325,kv "has_whole_hoists" 696 214 1 320 700)::
 (nat_lit 326,kg "has_whole_hoists" 71 470 325)::
 (nat_lit 332,kv "put" 703 216 3 327 709)::
 (nat_lit 333,kg "put" 72 470 332)::
 (nat_lit 339,kv "sighting_of" 714 227 3 334 720)::
 (nat_lit 340,kg "sighting_of" 74 712 339)::
 (nat_lit 353,kn "View.__init__" 735 231 3 348 741)::
 (nat_lit 354,kj "View.__init__" 75 712 353)::
 (nat_lit 356,kx P 730 712 229 743 354 746)::
 (nat_lit 357,kt "View" 357 356 723)::
 (nat_lit 365,kw "view_of" 754 234 3 362 757)::
 (nat_lit 366,kg "view_of" 76 712 365)::
 (nat_lit 370,kw "kinds_along" 760 237 2 367 763)::
 (nat_lit 371,kg "kinds_along" 77 712 370)::
 (nat_lit 375,kw "kinds_that_look_so" 766 239 2 372 769)::
 (nat_lit 376,kg "kinds_that_look_so" 78 712 375)::
 (nat_lit 380,kw "may_be" 772 241 2 377 775)::
 (nat_lit 381,kg "may_be" 79 712 380)::
 (nat_lit 385,kw "fits" 778 245 3 382 781)::
 (nat_lit 386,kg "fits" 80 712 385)::
 (nat_lit 390,kw "hoist_fits" 784 247 3 387 787)::
 (nat_lit 391,kg "hoist_fits" 81 712 390)::
 (nat_lit 395,kw "fits_at" 790 252 3 392 793)::
 (nat_lit 396,kg "fits_at" 82 712 395)::
 (nat_lit 409,kn "Plan.__init__" 810 257 4 404 817)::
 (nat_lit 410,kj "Plan.__init__" 84 796 409)::
 (nat_lit 412,kx P 805 796 255 819 410 823)::
 (nat_lit 413,kt "Plan" 413 412 798)::
 (nat_lit 421,kw "display_told" 831 261 2 418 834)::
 (nat_lit 422,kg "display_told" 85 796 421)::
 (nat_lit 426,kw "copies_lacking" 837 271 2 423 840)::
 (nat_lit 427,kg "copies_lacking" 86 796 426)::
 (nat_lit 431,kw "sames_along" 843 277 3 428 846)::
 (nat_lit 432,kg "sames_along" 87 796 431)::
 (nat_lit 436,kw "bits_of_sames" 849 279 4 433 852)::
 (nat_lit 437,kg "bits_of_sames" 88 796 436)::
 (nat_lit 443,kv "places_of" 855 282 2 438 865)::
 (nat_lit 444,kg "places_of" 89 796 443)::
 (nat_lit 448,kw "plan_of" 868 288 4 445 871)::
 (nat_lit 449,kg "plan_of" 90 796 448)::
 (nat_lit 453,kw "places_outside" 874 297 2 450 877)::
 (nat_lit 454,kg "places_outside" 91 796 453)::
 (nat_lit 458,kw "copies_in" 880 299 3 455 883)::
 (nat_lit 459,kg "copies_in" 92 796 458)::
 (nat_lit 463,kw "hoist_told" 886 301 3 460 889)::
 (nat_lit 464,kg "hoist_told" 93 796 463)::
 (nat_lit 468,kw "flag_told" 892 303 3 465 895)::
 (nat_lit 469,kg "flag_told" 94 796 468)::
 (nat_lit 473,kw "hang" 898 311 4 470 901)::
 (nat_lit 474,kg "hang" 95 796 473)::
 (nat_lit 483,ky P 923 904 327 482)::
 (nat_lit 484,ku "NoBook" 484 483 475 916)::
 (nat_lit 500,kn "Entry.__init__" 948 331 3 495 954)::
 (nat_lit 501,kj "Entry.__init__" 103 904 500)::
 (nat_lit 503,kx P 943 904 329 956 501 959)::
 (nat_lit 504,kt "Entry" 504 503 936)::
 (nat_lit 521,kn "Book.__init__" 979 336 3 516 985)::
 (nat_lit 522,kj "Book.__init__" 104 904 521)::
 (nat_lit 524,kx P 974 904 334 987 522 990)::
 (nat_lit 525,kt "Book" 525 524 967)::
 (nat_lit 533,kw "read_book" 998 339 2 530 1001)::
 (nat_lit 534,kg "read_book" 105 904 533)::
 (nat_lit 538,kw "numbers_of_signs" 1004 351 1 535 1007)::
 (nat_lit 539,kg "numbers_of_signs" 106 904 538)::
 (nat_lit 545,kv "read_entry" 1010 353 2 540 1016)::
 (nat_lit 546,kg "read_entry" 107 904 545)::
 (nat_lit 550,kw "read_signs" 1019 358 2 547 1022)::
 (nat_lit 551,kg "read_signs" 108 904 550)::
 (nat_lit 555,kw "read_meaning" 1025 363 1 552 1028)::
 (nat_lit 556,kg "read_meaning" 109 904 555)::
 (nat_lit 560,kw "are_in_order" 1031 369 1 557 1034)::
 (nat_lit 561,kg "are_in_order" 110 904 560)::
 (nat_lit 565,kw "can_be_shown" 1038 373 2 562 1041)::
 (nat_lit 566,kg "can_be_shown" 112 904 565)::
 (nat_lit 575,ky P 1055 1044 377 574)::
 (nat_lit 576,ku "TooMuchInDoubt" 576 575 567 1048)::
 (nat_lit 592,kn "Reading.__init__" 1080 381 4 587 1087)::
 (nat_lit 593,kj "Reading.__init__" 116 1044 592)::
 (nat_lit 595,kx P 1075 1044 379 1089 593 1093)::
 (nat_lit 596,kt "Reading" 596 595 1068)::
 (nat_lit 604,kw "readings_of" 1101 385 3 601 1104)::
 (nat_lit 605,kg "readings_of" 117 1044 604)::
 (nat_lit 609,kw "entries_in_doubt" 1107 397 2 606 1110)::
 (nat_lit 610,kg "entries_in_doubt" 118 1044 609)::
 (nat_lit 616,kv "product" 1113 402 1 611 1119)::
 (nat_lit 617,kg "product" 119 1044 616)::
 (nat_lit 621,kw "all_rows" 1122 407 1 618 1125)::
 (nat_lit 622,kg "all_rows" 120 1044 621)::
 (nat_lit 628,kv "sides_of" 1128 417 1 623 1132)::
 (nat_lit 629,kg "sides_of" 121 1044 628)::
 (nat_lit 642,kn "Finding.__init__" 1149 422 5 637 1157)::
 (nat_lit 643,kj "Finding.__init__" 123 1135 642)::
 (nat_lit 645,kx P 1144 1135 420 1159 643 1164)::
 (nat_lit 646,kt "Finding" 646 645 1137)::
 (nat_lit 656,kv "nth" 1172 427 4 651 1180)::
 (nat_lit 657,kg "nth" 124 1135 656)::
 (nat_lit 663,kv "nth_told" 1183 429 2 658 1189)::
 (nat_lit 664,kg "nth_told" 125 1135 663)::
 (nat_lit 670,kv "answered" 1192 434 4 665 1200)::
 (nat_lit 671,kg "answered" 126 1135 670)::
 (nat_lit 677,kv "found" 1203 448 3 672 1212)::
 (nat_lit 678,kg "found" 127 1135 677)::[]
def kA:List Addr:=[3,15,21,22,26,27,31,32,38,39,45,46,52,53,57,58,64,65,71,72,78,79,80,81,90,91,107,108,110,111,128,129,131,132,140,141,147,148,154,155,161,162,166,167,173,174,178,179,183,184,185,186,187,200,201,203,204,220,221,223,224,241,242,244,245,262,263,265,266,276,277,283,284,290,291,297,298,304,305,311,312,318,319,325,326,332,333,339,340,353,354,356,357,365,366,370,371,375,376,380,381,385,386,390,391,395,396,409,410,412,413,421,422,426,427,431,432,436,437,443,444,448,449,453,454,458,459,463,464,468,469,473,474,483,484,500,501,503,504,521,522,524,525,533,534,538,539,545,546,550,551,555,556,560,561,565,566,575,576,592,593,595,596,604,605,609,610,616,617,621,622,628,629,642,643,645,646,656,657,663,664,670,671,677,678]
noncomputable def kQ:Program:=PySem.W.view PySem.Challenge.pw_halfseendesk_s04_nth [1,2,3,4,5,6,7,9,10,11,12,13,14,15,16,17,18,19,20,21,22,24,25,26,27,28,29,30,31,32,33,34,35,36,37,38,40,41,42,43,44,45,47,48,49,50,51,52,53,54,55,56,57,58,59,60,61,62,63,64,65,66,67,68,69,70,71,72,74,75,76,77,78,79,80,81,82,84,85,86,87,88,89,90,91,92,93,94,95,97,98,99,100,101,102,103,104,105,106,107,108,109,110,111,112,114,115,116,117,118,119,120,121,123,124,125,126,127]
def kE(P:Params):kA=(kK P).map (·.1):=by kernel_rfl
abbrev kL:List Str:=["are_in_order_lockers","are_in_order_books"]
noncomputable abbrev kX:Shared->Bool:=λs=>PySem.W.xlAt kQ [] s&&PySem.W.recOk [] s
noncomputable abbrev kR (w:World) (os:OsState):=PySem.W.Fast.tw1264388230241321415 PySem.W.Fast.tw14364793385576792824 PySem.Challenge.pw_halfseendesk_s04_nth w 11 (some (.ref 6)) 11224 (OH.startT w os) (PySem.W.topStub PySem.Challenge.pw_halfseendesk_s04_nth)
section
open PySem.Calls PySem.W
def qz(w:World)(os:OsState):(kR w os).map (λs=>(s.abs.heap.bltView,plainSeenD kQ kL s.abs,clsSeenW kQ kL s.abs,(s.abs.heap.accountedOkI (importedModules PySem.Challenge.pw_halfseendesk_s04_nth.main.body),s.abs.heap.isNs mainGlobals,s.abs.heap.isNs builtinsNs),(kX s.abs,s.abs.gens.size==0),OH.keptAt PySem.Challenge.pw_halfseendesk_s04_nth w s.abs,pinSeenD kQ (drecsOf kQ) s.abs,Hook.obs Âp s.abs))=some (bltViewBooted,plainGoodD kQ kL,clsGoodW kQ kL,(true,true,true),(true,true),true,pinGoodD (drecsOf kQ),Hook.val Âp w):=by kernel_rfl
def oh(w:World)(os:OsState):(kR w os).map (λs=>(tablesOk kQ s.abs.heap,seen ((recsOf kQ).map (·.name)) (ownsOf kQ) [] {s.abs with gens:= #[]}))=some (true,expectedOf kQ):=by kernel_rfl
def qA(w:World)(os:OsState):(kR w os).map (λs=>(s.abs.heap.keysOk Äg ((recsOf kQ).map (·.name)) ((litsOf kQ).map (·.1)) ((clssOf kQ Äg).map (·.name))))=some (true):=by kernel_rfl
def Hq(w:World)(os:OsState):(kR w os).map (λs=>(tabsOk kQ s.abs))=some (true):=by kernel_rfl
def YB(w:World)(os:OsState):(kR w os).map (λs=>(plainSeenE kQ Äg s.abs))=some (plainGoodE kQ Äg):=by kernel_rfl
def Hr(w:World)(os:OsState):(kR w os).map (λs=>(wideSeen kQ s.abs))=some (wideGood kQ):=by kernel_rfl
def lS{α β:Type}{x:Option α}{z:α}{f:α->β}{b:β}(r:x=some z)(h:x.map f=some b):f z=b:=by
 rw[r] at h;exact aN h
def YC{A B C D E F G H I J K:Type}{a m:A}{b z:B}{c M:C}{d d':D}{e O:E}{f S:F}{g g':G}{h h':H}{i U:I}{j W:J}{k Y:K}(h1:a=m)(h2:b=z)(h3:c=M)(h4:d=d')(h5:e=O)(h6:f=S)(h7:g=g')(h8:h=h')(h9:i=U)(Z:j=W)(YE:k=Y):
  (a,(b,c,d,e,f,g,h,i,j),k)=(m,(z,M,d',O,S,g',h',U,W),Y):=by
 cases h1;cases h2;cases h3;cases h4;cases h5;cases h6;cases h7;cases h8;cases h9;cases Z;cases YE;rfl
def YF:LeftO PySem.Challenge.pw_halfseendesk_s04_nth kQ kL kX (Hook.obs Âp) (Hook.val Âp) 11224:=
 OH.YA (by kernel_rfl) Ô (λs=>by kernel_rfl) λw os=>by
  let(z,r,_):=yr.mp (qz w os);rw[show PySem.W.Fast.tw1264388230241321415 PySem.W.Fast.tw14364793385576792824 PySem.Challenge.pw_halfseendesk_s04_nth w 11 (some (.ref 6)) 11224 (OH.startT w os) (PySem.W.topStub PySem.Challenge.pw_halfseendesk_s04_nth)=some z from r];let G:=lS r (qz w os);let Y:=cE (λx=>x.1) G;let U:=cE (λx=>x.2.1) G;let Z:=cE (λx=>x.2.2.1) G;let j:=cE (λx=>x.2.2.2.1) G;let m:=cE (λx=>x.2.2.2.2.1) G;let YJ:=cE (λx=>x.2.2.2.2.2.1) G;let YK:=cE (λx=>x.2.2.2.2.2.2.1) G;let YL:=cE (λx=>x.2.2.2.2.2.2.2) G;let S:=lS r (oh w os);let YM:=cE (λx=>x.1) S;let YN:=cE (λx=>x.2) S;let g2:=lS r (qA w os);let YO:=g2;let g3:=lS r (Hq w os);let YQ:=g3;let g4:=lS r (YB w os);let YR:=g4;let g5:=lS r (Hr w os);let YS:=g5;dsimp only at*;apply cE some (YC YJ YN Y ?_ YQ YK YR U YS Z YL);let F:=cE (λx=>x.1) j;let I:=cE (λx=>x.2.1) j;let J:=cE (λx=>x.2.2) j;let M:=cE (λx=>x.1) m;let O:=cE (λx=>x.2) m;dsimp only at F I J M O;show(_&&_&&_&&_&&_&&_&&(z.abs.gens.size==0))=true;rw[YO,F,I,J,YM,M,O];rfl
end
end HD
end
abbrev LI:=List Int
abbrev LN:=List Nat
abbrev bp:=List (List Nat)
abbrev di:=List (List Int)
abbrev FR:=PySem.W.Frag
abbrev MG:=PySem.Str->Option PySem.Value
abbrev OA:=Option PySem.Addr
abbrev LV:=List PySem.Value
abbrev LS:=List PySem.Str
abbrev AO:=Array (Option PySem.Value)
abbrev VP:=PySem.Value->PySem.Shared->Prop
abbrev bG:=List (PySem.Addr×PySem.Obj)
abbrev cg:=List (Nat×Nat)
abbrev eV:=List (PySem.Str×PySem.Addr)
abbrev LA:=List PySem.Addr
abbrev Sh:=PySem.Shared
abbrev Pg:=PySem.Program
abbrev Wd:=PySem.World
abbrev FD:=PySem.FuncData
section
namespace PySem
namespace XL
abbrev qB(C t:Addr):Obj:={cls:=.ref C,data:=.fields #[.ref t,.none,.none,.none,.bool false,.none]}
abbrev oj(bI:LV):Obj:={cls:=.type "tuple",data:=.seq bI.toArray}
def YT(x:Addr)(R:Result->Shared->Prop)(r:Result)(s':Sh):Prop:=match r with
 |.ok (.ret v)=>v=.none/\R (.ok (.ret ŝ)) s'
 |.ok _=>False
 |.error e=>R Àq s'
section
variable{prog:Pg}{w:Wd}{A:Around}{E:VP}{h:Heap}{g:Array GenState}{d:Drawn}{t:Nat}{os:OsState}
def YU(F:ExcBaseFacts B newId initId bm)(j:h.get? C=some Ē) (S:h.Ns N mN) (W:mN "__init__"=some (.ref fI)) (O:h.get? fI=some oF) (J:oF.cls=.type "function")(U:codeAny Ò A (.call (.ref fI) ⟨.ref (h.objs.size+1)::bI,[]⟩) (λr s'=>match r with
   |.ok (.ret v)=>v=.none/\Q (.done (.ret (.ref (h.objs.size+1)))) s'
   |.ok _=>False
   |.error e=>E e s') ⟨(h.push (oj bI)).push ł,g,d,t,os⟩) (hrest:bI.length<=sizeLine:=by size_fits):
  wpAny Ò A (Builtin.«type.__call__» ⟨.ref C::bI,[]⟩) Q E ⟨h,g,d,t,os⟩:=by
 repeat (first|with_reducible apply tQ j ?_|with_reducible apply wpAny_madeBy_exc j ?_|wp_step)
 apply codeAny_call_builtin_code (Code.quiet_builtin _ F.quiet) (wpAny_check_new_sub F j ?_);apply codeAny_exc_new_sub F j ?_ hrest;let m:=dh ł (dh (oj bI) j);let G:=dh ł (dh (oj bI) O);let I:((h.push (oj bI)).push ł).Ns N mN:=
  let ⟨o,es,ep,e,r⟩:=S;⟨o,es,ep,dh _ (dh _ e),r⟩
 let Y:((h.push (oj bI)).push ł).get? (h.objs.size+1)=some ł:=by heap_get
 let M:(Value.ref C::bm).contains Ā=true:=by simp
 delta isInstance
 repeat (first|with_reducible apply tQ Y ?_|(with_reducible apply OG m ?_;rw[M])|wp_step)
 apply XI m I F.mroIs F.init.lookup ?_;rw[W];apply XJ (aP ?_);delta bindSpecial typeOf
 repeat (first|(with_reducible apply tQ G ?_;rw[J])|wp_step)
 apply u6 U λr s' z=>?_;rcases r with e|(_|v|_|_) <;> first|exact z|exact z.elim|skip
 all_goals (let(rfl,z):=z;exact df (df z))
def YW(F:ExcBaseFacts B newId initId bm)(j:h.get? C=some Ē) (I:h.Ns N mN) (W:mN "__init__"=some (.ref fI)) (G:h.get? fI=some oF) (m:oF.cls=.type "function")(J:codeAny Ò (A.under (.builtin "type.__call__" ⟨.ref C::bI,[]⟩)) (.call (.ref fI) ⟨.ref (h.objs.size+1)::bI,[]⟩) (YT (h.objs.size+1) R) ⟨(h.push (oj bI)).push ł,g,d,t,os⟩) (hrest:bI.length<=sizeLine:=by size_fits):
  codeAny Ò A (.call Ā ⟨bI,[]⟩) R ⟨h,g,d,t,os⟩:=by
 let M:=tc_lookup;let O:=tc_bind Ā;let S:(⟨h,g,d,t,os⟩:Sh).TypeIs Ā "type":=⟨_,j,rfl⟩;apply codeAny_of_tree ?_
 repeat (any_goals (first|assumption|with_reducible apply tQ j ?_|wp_step))
 refine Ů;apply codeAny_call_builtin_at (Code.quiet_builtin _ Ê) entry_typeCall (wpAny_check_type_call_sub j (YU (hrest:=hrest) F j I W G m (u6 J λr s' z=>?_)));rcases r with e|(_|v|_|_) <;> exact z
end
section
def YX(Z:bm.contains (.type "BaseException")=true)(U:A.handled=none)(h:ž x (λv S=>∃e O vs,v=.ref e/\S.heap.get? C=some Ē/\
   S.heap.get? e=some O/\O.cls=.ref C/\O.data=.fields vs/\vs[1]? =some .none/\E Èn S) E s):
  wpAny M A (raiseStmt env (some x) none) Q E s:=by
 let z:(Value.ref C::bm).contains (.type "BaseException")=true:=by rw[An,Z,XM]
 delta raiseStmt;apply aP (iU h (λv S W=>?_) λ_ _ x=>x);let(e,O,vs,rfl,j,J,m,hd,G,I):=W;let(hp,g,d,tk,os):=S;let(Y,od,F,m3):=O;obtain rfl:Y=.ref C:=m;obtain rfl:F=.fields vs:=hd
 repeat (first|with_reducible apply tQ J ?_|with_reducible apply tQ j ?_|(with_reducible apply OG j ?_;rw[z])|wp_step)
 rw[G];apply df ?_;rw[ah Ù];exact df (wpAny_raiseNew_none U I)
end
section
variable{prog:Pg}{w:Wd}{A:Around}{E:VP}{h:Heap}{g:Array GenState}{d:Drawn}{t:Nat}{os:OsState}
def YY(F:ExcBaseFacts B newId initId bm)(G:h.get? C=some õ) (m:h.get? x=some oe) (hc:oe.cls=.ref C) (hd:oe.data=.fields vs) (z:0<vs.size)(I:Q .none ⟨(h.push (oj [])).update x (Obj.mapFields (·.setIfInBounds 0 (.ref h.objs.size))),g,d,t,os⟩):
  wpAny Ò A (call (.builtin initId) [.ref x]) Q E ⟨h,g,d,t,os⟩:=by
 let j:=dh (oj []) m;apply Ao (codeAny_call_builtin F.init.plain F.initEntry (wpAny_check_init_sub F G m hc ?_));delta Builtin.«BaseException.__init__»
 repeat (any_goals (first|assumption|wp_step))
 rw[hd];apply df ?_;rw[show vs[0]? =some vs[0] from Array.getElem?_eq_getElem z];apply df (aP (C4 j hd z ?_));cases vs[0] <;> (wp_walk;exact I)
end
end XL
end PySem
end
section
namespace PySem
namespace XL
structure Hy(fr:LA)(z e T:Addr)(oe:Obj)(fl:Value)(h h':Heap):Prop where
 new:h.objs.size<=T
 ne:T≠e
 keep:∀b o,b∉fr->b≠e->b≠z->h.get? b=some o->h'.get? b=some o
 slot:∀b o,b∈fr->b≠e->b≠z->h.get? b=some o->∃sl,h'.get? b=some {o with slots:=sl}
 exc:h'.get? e=some (oe.mapFields (·.setIfInBounds 1 ũ))
 ent:∃oT ts,h'.get? T=some oT/\oT.data=.fields ts/\ts[3]? =some fl
section
def Pi{base:Heap}{env:Env}{outer:List Env}{L e z:Addr}{O:Obj}{vs:Array Value}{head:Value}{Z:Bool}{Q:Unit->Shared->Prop}(fs:A.frames=some (env::outer)) (J:s.heap.FunFrames base (env::outer)) (U:env.frame=some L) (Y:s.heap.get? e=some O) (I:O.data=.fields vs) (ze:1<vs.size)(k:∀h' T,Hy ((env::outer).filterMap (·.frame)) z e T O Æi s.heap h'->Q () {s with heap:=h'}):
  wpAny M A (do
   let a <-frameOf env
   let pl <-entryPlaceOf L Z
   let b <-EntryCells.newEntry head a .none Æi .none pl
   setField Èn 1 b) Q E s:=by
 let nf:e∉(env::outer).filterMap (·.frame):=λm=>by
  let(_,o,G,g2):=J.mem m;symm
 apply aP (wpAny_frameOf_fun fs J U λg gs=>aP (wpAny_entryPlaceOf λpl hp=>?_));delta EntryCells.newEntry newFields;apply aP (OI ?_ (hp.sizeOk5 _ _ _ _ _));let G:=(gs.2.1 e nf).trans Y;let g2:=dh (h:=g) {cls:=.type "traceback",dict:=none,data:=.fields ([head,.ref L,.none,rawInt L,.none]++(if pl.isEmpty then List.replicate 6 Value.none else pl)).toArray} G;let te:=tU (cZ G);apply C4 g2 I ze (k _ g.objs.size ⟨C5 gs.1.symm,te,λb o S F _ j=>?_,λb o S F _ j=>?_,?_,?_⟩)
 .rw[Ap _ _ (dX F)];exact dh _ ((gs.2.1 b S).trans j)
 .let(sl,W):=gs.2.2 b o j;exact(sl,by rw[Ap _ _ (dX F)];exact dh _ W)
 .exact C6 _ g2 (GZ (u7 I _))
 .apply(_,_,(Ap _ _ (dX te)).trans (ib g Á),Á,?_);rfl
def YZ{base:Heap}{env:Env}{outer:List Env}{L e z:Addr}{O:Obj}{vs:Array Value}{Q:Unit->Shared->Prop}(fs:A.frames=some (env::outer)) (I:s.heap.FunFrames base (env::outer)) (F:env.frame=some L) (G:s.heap.get? e=some O) (j:O.data=.fields vs) (m:vs[1]? =some .none)(k:∀h' T,Hy ((env::outer).filterMap (·.frame)) z e T O Æi s.heap h'->Q () {s with heap:=h'}):ž (noteFrame Èn env) Q E s:=by
 delta noteFrame;simp only[F];apply aP (u9 G j m ?_);rw[ah Ù];exact Pi fs I F G j (Aq.mp m).1 k
def Y0{base:Heap}{env:Env}{outer:List Env}{L e z:Addr}{W oz:Obj}{vs zs:Array Value}{Q:Unit->Shared->Prop}(fs:A.frames=some (env::outer)) (ff:s.heap.FunFrames base (env::outer)) (Z:env.frame=some L) (ge:s.heap.get? e=some W) (Y:W.data=.fields vs) (h1:vs[1]? =some (.ref z))(I:s.heap.get? z=some oz) (F:oz.data=.fields zs) {fl:Value} (h3:zs[3]? =some fl) (gc:(fl==rawInt L)=false) (O:z≠e)(k:∀h' T,Hy ((env::outer).filterMap (·.frame)) z e T W Æi s.heap h'->T≠z->(∃o ts,h'.get? z=some o/\o.data=.fields ts/\ts[3]? =some .none)->Q () {s with heap:=h'}):ž (noteFrame Èn env) Q E s:=by
 let zz:=(Aq.mp h3).1;delta noteFrame;simp only[Z];apply aP (u9 ge Y h1 ?_);rw[af (show(Value.ref z !=Value.none)=true by simp)];apply aP (u9 I F h3 ?_);rw[ah (show ¬((fl==rawInt L)=true) by simp_all)];apply aP (C4 I F zz ?_);let J:∀b,b≠z->(s.heap.update z (Obj.mapFields (·.setIfInBounds 3 Value.none))).get? b=s.heap.get? b:=λb n=>Ap _ _ (dX n);let Y1:(s.heap.update z (Obj.mapFields (·.setIfInBounds 3 Value.none))).get? z=_:=C6 _ I (GZ (u7 F _));let Y2:∀b o,s.heap.get? b=some o->(∀ws,o.data≠ .fields ws)->b≠z:=λb o G g2 q=>by
  symm
 let Y3:=ff.of_keeps (h':=s.heap.update z (Obj.mapFields (·.setIfInBounds 3 Value.none))) λb o G g2=>⟨o,(J b (Y2 b o G g2)).trans G,rfl⟩;let Y4:z∉(env::outer).filterMap (·.frame):=λm=>by
  let(_,o,G,g2):=ff.mem m;symm
 apply Pi (z:=e) fs Y3 Z ((J e (dX O)).trans ge) Y (Aq.mp h1).1 λh' T n=>?_;let nn:s.heap.objs.size<=T:=by
  let:=n.new;symm
 let tz:T≠z:=λq=>absurd (cZ I) É;let Ds:=n.keep z _ Y4 O O Y1;exact k h' T ⟨nn,n.ne,λb o S j U G=>n.keep b o S j j ((J b U).trans G),λb o S j U G=>n.slot b o S j j ((J b U).trans G),n.exc,n.ent⟩ tz
  ⟨_,_,Ds,u7 F _,by simp[zz]⟩
end
end XL
end PySem
end
section
namespace PySem
namespace XL
open Builtin.ObjectAttr
section
variable{prog:Pg}{w:Wd}{A:Around}{E:VP}{h:Heap}{g:Array GenState}{d:Drawn}{t:Nat}{os:OsState}
def Y5{tk:Tok}{o:Obj}{Q:Fin->Shared->Prop}(S:StoreFacts B bm sa owner)(z:h.get? C=some õ) (hn:h.Ns N mN) (ub:mN name=none) (Y:typeLookup (.type B) name=pure none)(G:h.get? x=some o) (cx:o.cls=.ref C) (nx:∀c,o.data≠ .cls c) (dx:o.dict=none)(k:∀h' ly,h'.Ns1 h.objs.size (λy=>if y=name then some v else none)->h'.get? x=some {o with dict:=some h.objs.size}->(∀b O,b≠x->h.get? b=some O->h'.get? b=some O)->Q (.done (.ret .none)) ⟨h',g,d,ly,os⟩):
  wpAny Ò A (Builtin.«object.__setattr__» ⟨[.ref x,.str name tk,v],[]⟩) Q E ⟨h,g,d,t,os⟩:=by
 let ps:=S.passes ŝ;delta Builtin.«object.__setattr__»
 repeat (first|rw[refuse_eq]|(rw[refuseLoop_ref,ps])|(with_reducible apply tQ G ?_;rw[cx])|with_reducible apply wpAny_mroOf_exc z ?_|(with_reducible apply XI z hn S.mro Y ?_;rw[ub])|wp_step)
 rw[dx,ah (by simp[typeHasDict])];split
 .symm
 split
 .symm
 .let j:(h.push {cls:=.type "dict",data:=.dict #[]}).get? x=some o:=dh _ G;let ne:=fj (cZ G);apply aP (wpAny_alloc' (aP (wpAny_update' j (df ?_))));let W:((h.push {cls:=.type "dict",data:=.dict #[]}).update x λo=>{cls:=o.cls,dict:=some h.objs.size,data:=o.data,slots:=o.slots}).get? h.objs.size=some {cls:=.type "dict",data:=.dict #[]}:=
   (Heap.get?_update_ne _ _ _ _ ne.symm).trans (Heap.get?_push_at rfl rfl)
  let nd:((h.push {cls:=.type "dict",data:=.dict #[]}).update x λo=>{cls:=o.cls,dict:=some h.objs.size,data:=o.data,slots:=o.slots}).Ns h.objs.size (λ_=>none):=
   ⟨_,#[],_,W,rfl,λe Z=>absurd Z Ä,λ_=>rfl⟩
  delta storeInDict newKeyGuard;apply aP (df (aP (wpAny_nsSet1 (Heap.Ns1.of_empty nd) λh' F I=>?_)));let(oD,eD,pD,M,g2,U):=F.count (Within.cons name v Within.nil);apply aP (wpAny_lookBehind M (by rw[g2];exact pastItsLine_dict (gQ U (by rw[c7,rK,va];omega))) ?_)
  wp_walk
  apply k h' _ F ?_ λb O nb m=>?_
  .apply(I.2 x ne).trans (C6 _ j ?_);let fr:=(Heap.get?_some_iff.mp G).2;let(oc,od,J,m3):=o;cases J <;> first|rfl|exact fr
  .exact(I.2 b (fj (cZ m))).trans ((Heap.get?_update_ne _ _ _ _ nb).trans (dh _ m))
def Y6{o:Obj}{Q:Unit->Shared->Prop}(S:StoreFacts B bm sa owner)(j:h.get? C=some õ) (z:h.Ns N mN) (I:mN "__setattr__"=none) (U:mN name=none) (F:typeLookup (.type B) name=pure none)(G:h.get? x=some o) (cx:o.cls=.ref C) (nx:∀c,o.data≠ .cls c) (dx:o.dict=none)(k:∀h' m,h'.Ns1 h.objs.size (λy=>if y=name then some v else none)->h'.get? x=some {o with dict:=some h.objs.size}->(∀b O,b≠x->h.get? b=some O->h'.get? b=some O)->Q () ⟨h',g,d,m,os⟩):
  wpAny Ò A Äb Q E ⟨h,g,d,t,os⟩:=by
 let J:=S.slot.bind ŝ;delta setAttr callSpecial? specialOf
 repeat (any_goals (first|assumption|(with_reducible apply tQ G ?_;rw[cx])|(with_reducible apply XI j z S.mro S.slot.lookup ?_;rw[I])|wp_step))
 apply codeAny_call_builtin S.slot.plain S.entry (wpAny_check_sa S j G cx (Y5 S j z U F G cx nx dx λh' m a b c=>?_))
 repeat (any_goals (first|assumption|wp_step))
 exact k h' m a b c
def Y7{o:Obj}{dx:Addr}{mA:MG}{ns:LS}{Q:Unit->Shared->Prop}(SF:StoreFacts B bm sa owner)(hC:h.get? C=some õ) (hn:h.Ns N mN) (om:mN "__setattr__"=none) (ub:mN name=none) (hB:typeLookup (.type B) name=pure none)(G:h.get? x=some o) (cx:o.cls=.ref C) (nx:∀c,o.data≠ .cls c) (hd:o.dict=some dx) (ne:dx≠x) (hm:h.Ns1 dx mA) (hw:Within mA ns) (hz:ns.length<=sizeLine) (xC:x≠C)(k:∀h' F,h'.Ns1 dx (λy=>if y=name then some v else mA y)->(∀b O,b≠dx->h.get? b=some O->h'.get? b=some O)->Q () ⟨h',g,d,F,os⟩):
  wpAny Ò A Äb Q E ⟨h,g,d,t,os⟩:=by
 apply store_attr SF hC hn om ub hB xC ⟨o,G,cx,nx,.inr ⟨dx,hd,ne,hm⟩⟩ (λh' F Z kp sm=>?_) hw hz;let(S,I,U,p2,W,m):=sm o G;let(o2,e1,_,_,e4):=Z;let eo:S=o2:=aN (I.symm.trans e1);subst eo;rcases e4 with ⟨j,_⟩|⟨d2,j,_,e6⟩
 .rw[m dx hd] at j;cases j
 .let ed:dx=d2:=aN ((m dx hd).symm.trans j);subst ed;apply k h' F e6 λb O nb J=>?_;by_cases M:b=x
  .subst M;let:O=o:=aN (J.symm.trans G);subst this;let Y:=(m dx hd).trans hd.symm;apply I.trans (cE some ?_);let(a1,a2,a3,a4):=S;let(b1,b2,b3,b4):=O;dsimp only at U p2 W Y;subst U p2 W Y;rfl
  .exact kp b O M (λo0 d0 q1 q2 z=>nb (by
    let:o0=o:=aN (q1.symm.trans G);subst this;rw[z];exact aN (q2.symm.trans hd))) J
end
end XL
end PySem
end
section
namespace PySem
namespace XL
open AutoSeq1 (wpAny_loadPart')
section
def Y8{j t:Addr}{i:Nat}{F:Array Value}{x:Value}{Q:VP}(z:s.heap.IsTupleIter j t i)(M:s.heap.IsTuple t F)(O:F[i]? =some x)(k:∀h',h'.IsTupleIter j t (i+1)->Heap.SameBut j s.heap h'->Q x {s with heap:=h'}):wpAny Ò A (Builtin.SmallTypes.nextOf (.ref j)) Q E s:=by
 let(o,G,I,m):=id z;let(p,g2,_,n,J):=M;delta Builtin.SmallTypes.nextOf;apply aP (wpAny_callSpecial?_slot (name:=Str.ofString "__next__") z.typeIs OJ (wpAny_call_entry OJ z.typeIs aoU ?_ (aoV _)));show wpAny _ _ (field (.ref j) 0 >>= _) _ _ s;apply aP (u9 G m (x:=.ref t) Á ?_);rw[ah (show ¬(Value.ref t==Value.none)=true from d9)];apply aP (u9 G m (x:=.int i 0) Á ?_);apply aP (XO g2 J ?_);simp only[C7,O];apply aP (C4 G m Ä (df ⟨x,Á,df (k _ ⟨_,C6 _ G (GZ (u7 m _)),(XQ ..).trans I,?_⟩ (Heap.SameBut.update ..))⟩));rw[u7 m];rfl
def Y9{j t:Addr}{i:Nat}{I:Array Value}{Q:VP}(J:A.handled=none)(F:s.heap.IsTupleIter j t i)(O:s.heap.IsTuple t I)(S:I[i]? =none)(k:∀h' e,Heap.ExtBut j s.heap h'->(∃o,h'.get? e=some o/\o.cls=.type "StopIteration")->E Èn {s with heap:=h'}):wpAny Ò A (Builtin.SmallTypes.nextOf (.ref j)) Q E s:=by
 let(o,G,U,z):=id F;let(p,g2,_,n,M):=O;delta Builtin.SmallTypes.nextOf;apply aP (wpAny_callSpecial?_slot (name:=Str.ofString "__next__") F.typeIs OJ (wpAny_call_entry OJ F.typeIs aoU ?_ (aoV _)));show wpAny _ _ (field (.ref j) 0 >>= _) _ _ s;apply aP (u9 G z (x:=.ref t) Á ?_);rw[ah (show ¬(Value.ref t==Value.none)=true from d9)];apply aP (u9 G z (x:=.int i 0) Á ?_);apply aP (XO g2 M ?_);simp only[C7,S];apply aP (wpAny_rule (aP (C4 G z Ä ?_)));show wpAny _ _ (newExc (.type "StopIteration") [] >>= _) _ _ _;simp only[newExc,newTuple];apply aP (aP (OI ?_ (by size_fits)));apply aP (m:=firstArgMember _ _) (wpAny_of_eq (a:=Value.none) Ô (OI ?_ (by size_fits)));simp only[raiseNew];apply aP (wpAny_handled ?_)
 first|rw[show A.in1.handled=none from J]|rw[J]
 exact aP (df (wpAny_throw (k _ _ (((Heap.SameBut.update ..).extBut.push _).push _) ⟨_,ib _ Á,Á⟩)))
end
def Pk{prog:Pg}{w:Wd}{A:Around}(J:A.handled=none)(j t:Addr)(F:t≠j)(m:Array Value):
  Draws prog w A j [j,t] m.size (λi v=>m[i]? =some v) (λi h=>h.IsTupleIter j t i/\h.IsTuple t m) where
 live:=λ_ _ st=>let ⟨o,ho,_⟩:=st.1;⟨o,ho⟩
 frame:=λ_ _ _ st hk=>⟨st.1.at λo e=>hk j Ä o e,let ⟨o,ho,r⟩:=st.2;⟨o,hk t Ä o ho,r⟩⟩
 item:=λi s Q E hi st I=>Y8 st.1 st.2 (x:=m[i]) (by simp[hi]) λh' z Y=>I _ h' s.toks (by simp[hi]) ⟨z,let ⟨o,ho,r⟩:=st.2;⟨o,(Y.2 t F).trans ho,r⟩⟩ Y
 done:=λs Q E st G=>Y9 J st.1 st.2 Ä G
def Za(t:Addr)(z:Array Value)(n:Nat)(Y:OA)(sl:AO):
  Meets (Builtin.«enumerate.__new__» ⟨[.type "enumerate",.ref t],[]⟩) (λ_ R s=>s.heap.get? t=some {cls:=.type "tuple",dict:=Y,data:=.seq z n,slots:=sl}/\
   R (.ok (.ret (.ref (s.heap.push {cls:=.type "tuple_iterator",data:=.fields #[.ref t,.int 0 0]}).objs.size)))
    {s with heap:=(s.heap.push {cls:=.type "tuple_iterator",data:=.fields #[.ref t,.int 0 0]}).push {cls:=.type "enumerate",data:=.fields #[.none,.bool false,.ref s.heap.objs.size,rawInt 0,.none,.none]}}):=
 .of_wp λprog w A R s h=>by
  let(F,g,d,tk,os):=s;let(j,h):=h;let G:=sub_enumerate;let m:Heap.IsTuple (Shared.heap ⟨F,g,d,tk,os⟩) t z:=⟨_,j,rfl,n,rfl⟩
  wp_walk using je j
  apply wpAny_stack_any λst=>df ?_;split
  .rename_i c _ _ _ _ _;cases (c==Value.type "enumerate")
   .wp_walk using je j,XS m
    exact(_,Á,h)
   .wp_walk using je j,XS m
    exact(_,Á,h)
  .wp_walk using je j,XS m
   exact(_,Á,h)
section
def Zb{t:Addr}{j:Array Value}{Q:VP}(I:s.heap.IsTuple t j)(k:∀h',IsEnum h' Î s.heap.objs.size 0 .none->h'.IsTupleIter s.heap.objs.size t 0->h'.objs.size=s.heap.objs.size+2->(∀b o,s.heap.get? b=some o->h'.get? b=some o)->Q (.ref Î) {s with heap:=h'}):
  wpAny Ò A (call (.type "enumerate") [.ref t]) Q E s:=by
 let((c,Y,G,sl),J,hc,n,hd):=I;obtain rfl:c=.type "tuple":=hc;obtain rfl:G=.seq j n:=hd;apply callType_new F.called_enumerate Ù (F.typeCall_enumerate_1 _) (F.newCall_enumerate_1 _) (λobj=>F.args_object_init_2 obj _) F.entry_enumerate_new (Za t j n Y sl) ⟨J,?_⟩;let m:(s.heap.push {cls:=.type "tuple_iterator",data:=.fields #[.ref t,.int 0 0]}).objs.size=s.heap.objs.size+1:=qw ..;show _/\_;rw[m];let z:IsEnum ((s.heap.push {cls:=.type "tuple_iterator",data:=.fields #[.ref t,.int 0 0]}).push {cls:=.type "enumerate",data:=.fields #[.none,.bool false,.ref s.heap.objs.size,rawInt 0,.none,.none]}) Î s.heap.objs.size 0 .none:=by
  let q:=ib (s.heap.push {cls:=.type "tuple_iterator",data:=.fields #[.ref t,.int 0 0]}) (o:={cls:=.type "enumerate",data:=.fields #[.none,.bool false,.ref s.heap.objs.size,rawInt 0,.none,.none]}) rfl;rw[m] at q;exact q
 exact(⟨_,z,Á⟩,k _ z ⟨_,dh _ (ib _ Á),Á,Á⟩ (by rw[qw,m]) λb o y=>dh _ (dh _ y))
end
end XL
end PySem
end
section
namespace L2
open PySem PySem.Spec PyProof.Rows
abbrev Key:=Sum Int Str
abbrev dZ:=List Key
def rQ:Key->Value->Bool
 |.inl k,v=>Value.isInt k v
 |.inr x,v=>Value.isStrOf x v
def Zc(w:Wd):Key->Int
 |.inl k=>hashInt k
 |.inr x=>hashStr w x
theorem rR:∀{k:Key}{v:Value},rQ k v=true->(∃i t,k=Sum.inl i/\v=Value.int i t)\/(∃x t,k=Sum.inr x/\v=Value.str x t)
 |.inl i,v,h=>by
  let(t,e):=Value.isInt_shape (k:=i) (v:=v) h;exact .inl ⟨i,t,Á,e⟩
 |.inr x,v,h=>by
  let(t,e):=Value.isStrOf_shape (x:=x) (v:=v) h;exact .inr ⟨x,t,Á,e⟩
def Zd(i:Int)(t:Tok):rQ (.inl i) Áq=true:=by simp[rQ,Value.isInt]
def Ze(x:Str)(t:Tok):rQ (.inr x) (.str x t)=true:=by simp[rQ,Value.isStrOf]
def Zf(a b:Int):decide ((Sum.inl a:Key)=Sum.inl b)=(a==b):=by
 grind
def Zg(a b:Str):decide ((Sum.inr a:Key)=Sum.inr b)=decide (a=b):=by
 simp
def Zh(a:Int)(b:Str):decide ((Sum.inl a:Key)=Sum.inr b)=false:=fQ (λq=>nomatch q)
def Zi(a:Str)(b:Int):decide ((Sum.inr a:Key)=Sum.inl b)=false:=fQ (λq=>nomatch q)
def eW(prog:Pg)(w:Wd):PySem.KeyKind prog w Key where
 is:=rQ
 hash:=Zc w
 inj:=λv a b F z=>by
  rcases rR F with ⟨i,t,rfl,rfl⟩|⟨x,t,rfl,rfl⟩
  .rcases rR z with ⟨j,u,rfl,e⟩|⟨y,u,rfl,e⟩
   .injection e with e1 _;rw[e1]
   .exact nomatch e
  .rcases rR z with ⟨j,u,rfl,e⟩|⟨y,u,rfl,e⟩
   .exact nomatch e
   .injection e with e1 _;rw[e1]
 byValue:=λk v h=>by
  rcases rR h with ⟨i,t,rfl,rfl⟩|⟨x,t,rfl,rfl⟩ <;> rfl
 pyHash:=λm h=>by
  rcases rR m with ⟨i,t,rfl,rfl⟩|⟨x,t,rfl,rfl⟩
  .exact wpAny_pyHash_int h
  .exact wpAny_pyHash_str h
 eqBool:=λG m h=>by
  rcases rR G with ⟨i,t,rfl,rfl⟩|⟨x,t,rfl,rfl⟩
  .rcases rR m with ⟨j,u,rfl,rfl⟩|⟨y,u,rfl,rfl⟩
   .rw[Zf] at h;exact wpAny_eqBool_int h
   .rw[Zh] at h;exact SeqAt.EqAt.int_str i t y u _ _ _ _ h
  .rcases rR m with ⟨j,u,rfl,rfl⟩|⟨y,u,rfl,rfl⟩
   .rw[Zi] at h;exact SeqAt.EqAt.str_int x t j u _ _ _ _ h
   .rw[Zg] at h;exact wpAny_eqBool_str h
 «strs»:=λk x t v h=>by
  rcases rR h with ⟨i,u,rfl,e⟩|⟨y,u,rfl,e⟩
  .exact nomatch e
  .injection e with e1 _;subst e1;cases v <;> rfl
def Zj(prog:Pg)(w:Wd)(i:Int)(t:Tok):(eW prog w).is (.inl i) Áq=true:=Zd i t
def Zk(prog:Pg)(w:Wd)(x:Str)(t:Tok):(eW prog w).is (.inr x) (.str x t)=true:=Ze x t
inductive V where
 |aJ|bl (b:Bool)|int (i:Int)|str (x:Str)|jf (b:Array UInt8)|AD (b:UInt64)|ref (a:Addr)|ty (n:String)
 deriving DecidableEq
abbrev au:=List V
def RelV:V->Value->Prop
 |.aJ,u=>u=Value.none
 |.bl b,u=>u=Value.bool b
 |.int i,u=>∃t,u=Value.int i t
 |.str x,u=>∃t,u=Value.str x t
 |.jf b,u=>∃t,u=Value.bytes b t
 |.AD b,u=>∃t,u=Value.float b t
 |.ref a,u=>u=Value.ref a
 |.ty n,u=>u=Value.type n
abbrev bc:au->LV->Prop:=Paired RelV
def bc.length{xs:au}{U:LV}(r:bc xs U):xs.length=U.length:=Paired.length r
theorem bc.get:∀{xs:au}{U:LV}{i:Nat}{x:V},bc xs U->xs[i]? =some x->∃u,U[i]? =some u/\RelV x u:=by
 intro xs U i x h;induction h generalizing i with
 |nil=>intro e;simp at e
 |cons r t I=>
  intro e;cases i with
  |zero=>simp at e;subst e;exact(_,Á,r)
  |succ i=>exact I e
theorem bc.append:∀{xs ys:au}{U W:LV},bc xs U->bc ys W->bc (xs++ys) (U++W):=by
 intro xs ys U W j;induction j with
 |nil=>exact @λs=>s
 |cons r t I=>
  intro s;exact .cons r (I s)
theorem bc.take:∀{xs:au}{U:LV}(n:Nat),bc xs U->bc (xs.take n) (U.take n):=by
 intro xs U n h;induction h generalizing n with
 |nil=>cases n <;> exact .nil
 |cons r t I=>
  cases n with
  |zero=>exact .nil
  |succ n=>exact .cons r (I n)
theorem bc.drop:∀{xs:au}{U:LV}(n:Nat),bc xs U->bc (xs.drop n) (U.drop n):=by
 intro xs U n h;induction h generalizing n with
 |nil=>cases n <;> exact .nil
 |cons r t I=>
  cases n with
  |zero=>exact .cons r t
  |succ n=>exact I n
def jL:Option V->Option Value->Prop
 |some v,some u=>RelV v u
 |none,none=>True
 |_,_=>False
def KV{κ:Type}:List (κ×V)->List (κ×Value)->Prop:=Paired λ(p:κ×V)(q:κ×Value)=>p.1=q.1/\RelV p.2 q.2
def kV:Key->V
 |.inl i=>.int i
 |.inr x=>.str x
inductive HO where
 |lst (xs:au)
 |tup (xs:au)
 |dK (kvs:List (Key×V))|dT (kvs:List (dZ×V))
 |set (S:Int->Bool) (n:Nat)
 |ins (C dx:Addr) (fs:List (Str×V))
 |own (x:Addr)
 |xd (fs:List (Str×V))
 |met (f x:Addr)
 |rS (lo hi:Int)
 |cu (o:Obj) (u:HO)
 |gG (ps:Array Value)
 |ext (φ:Heap->Prop)
abbrev Hp:=Addr->Option HO
def upd(H:Hp)(a:Addr)(o:HO):Hp:=λb=>if b=a then some o else H b
def aq{H:Hp}{a:Addr}{o:HO}:ť o a=some o:=by delta upd;rw[af rfl]
def ao{H:Hp}{a b:Addr}{o:HO}(h:b≠a):ť o b=H b:=by delta upd;rw[ah h]
def Pl{H:Hp}{a b:Addr}{o u:HO}(h:H a=some o)(h':H b=some u)(d:o≠u):a≠b:=by
 grind
def eK{H:Hp}{a b:Addr}{o:HO}(h:H a=some o)(h':H b=none):a≠b:=by
 grind
section
variable(P:Pg)(w:Wd)
def ft(H:Hp)(h:Heap)(a:Addr):HO->Prop
 |.lst xs=>xs.length<=sizeLine/\∃(j:LV)(n:Nat),bc xs j/\h.get? a=some {cls:=.type "list",data:=.seq j.toArray n}
 |.tup xs=>xs.length<=sizeLine/\∃j:LV,bc xs j/\IsTup h a j.toArray
 |.dK kvs=>kvs.length<=sizeLine/\(a==sysModules)=false/\∃vs,KV kvs vs/\h.DictOf Âr a vs
 |.dT kvs=>kvs.length<=sizeLine/\(a==sysModules)=false/\∃xs:List (dZ×Addr×Value),
   Paired (λ(p:dZ×V)(q:dZ×Addr×Value)=>p.1=q.1/\H q.2.1=some (.tup (p.1.map kV))/\RelV p.2 q.2.2) kvs xs/\
   ∃o es ep,h.get? a=some o/\o.ExactDict/\o.data=.dict es ep/\es.toList=xs.map (entryOfKey Çh)/\(xs.map (·.1)).Nodup
 |.set S n=>h.SetOf (intKind P w) a S n
 |.ins C dx fs=>H dx=some (.own a)/\fs.length<=1000/\dx≠a/\h.get? a=some Âv/\
   ∃mA,h.Ns1 dx mA/\(∀f,jL Áb (mA f))/\PySem.Within mA (fs.map (·.1))
 |.own _=>∃o,h.get? a=some o
 |.xd fs=>∃mA,h.Ns1 a mA/\∀f,jL Áb (mA f)
 |.rS lo hi=>∃t u v,h.get? a=some {cls:=.type "range",data:=.fields #[.int lo t,.int hi u,.int 1 v]}
 |.cu o u=>h.get? a=some o/\ft H h a u
 |.gG ps=>h.get? a=some {cls:=.none,data:=.fields ps}
 |.met f x=>h.get? a=some (PySem.W.methodObj ā ŝ)
 |.ext φ=>φ h/\(∃o,h.get? a=some o)/\∀m h2:Heap,φ m->(∀o,m.get? a=some o->h2.get? a=some o)->φ h2
def dy(H:Hp)(h:Heap):Prop:=∀a o,H a=some o->Àt o
end
section
theorem ft.lt(x:Àt o):a<h.objs.size:=by
 cases o with
 |lst xs=>let(_,_,_,_,e):=x;exact cZ e
 |tup xs=>let(_,_,_,p):=x;exact p.lt
 |dK kvs=>let(_,_,_,_,o,_,_,e,_):=x;exact cZ e
 |dT kvs=>let(_,_,_,_,o,_,_,e,_):=x;exact cZ e
 |set S n=>let(o,_,_,_,e,_):=x;exact cZ e
 |ins C dx fs=>let(_,_,_,e,_):=x;exact cZ e
 |own y=>let(_,e):=x;exact cZ e
 |xd fs=>let(_,(_,_,_,e,_),_):=x;exact cZ e
 |rS lo hi=>let(_,_,_,e):=x;exact cZ e
 |cu O u=>let(e,_):=x;exact cZ e
 |gG ps=>exact cZ (show h.get? a=some _ from x)
 |met f y=>exact cZ (show h.get? a=some _ from x)
 |ext φ=>let(_,(_,e),_):=x;exact cZ e
theorem Paired.lS{α β:Type}{F G:α->β->Prop}:∀{l₁:List α}{l₂:List β},Paired F l₁ l₂->(∀a b,F a b->G a b)->Paired G l₁ l₂:=by
 intro l₁ l₂ j;induction j with
 |nil=>exact @λ_=>.nil
 |cons r t I=>
  intro f;exact .cons (f _ _ r) (I f)
theorem ft.m4(x:Àt o)(k:∀b u,(b=a\/H b=some (.own a))->h.get? b=some u->h'.get? b=some u)(F:∀b,H b=some (.own a)->H' b=some (.own a)) (G:∀b xs,H b=some ϱ->H' b=some ϱ):ft P w H' h' a o:=by
 induction o with
 |lst xs=>let(z,j,n,r,e):=x;exact(z,j,n,r,k _ _ Ė e)
 |tup xs=>let(z,j,r,O,e,c):=x;exact(z,j,r,O,k _ _ Ė e,c)
 |dK kvs=>let(z,y,vs,r,O,es,ep,e,c):=x;exact(z,y,vs,r,O,es,ep,k _ _ Ė e,c)
 |dT kvs=>
  let(z,y,xs,r,O,es,ep,e,c):=x;exact(z,y,xs,Paired.lS r λp q z=>⟨z.1,G _ _ z.2.1,z.2.2⟩,O,es,ep,k _ _ Ė e,c)
 |set S n=>let(O,es,ep,t,e,c):=x;exact(O,es,ep,t,k _ _ Ė e,c)
 |ins C dx fs=>
  let(d,z,ne,e,mA,(od,es,ep,m,c),r):=x;exact(F _ d,z,ne,k _ _ Ė e,mA,⟨od,es,ep,k _ _ (.inr d) m,c⟩,r)
 |own y=>let(O,e):=x;exact(O,k _ _ Ė e)
 |xd fs=>let(mA,(od,es,ep,e,c),r):=x;exact(mA,⟨od,es,ep,k _ _ Ė e,c⟩,r)
 |rS lo hi=>let(t,u,v,e):=x;exact(t,u,v,k _ _ Ė e)
 |cu O u I=>let(e,q):=x;exact(k _ _ Ė e,I q)
 |gG ps=>
  let e:h.get? a=some {cls:=.none,data:=.fields ps}:=x;show h'.get? a=some {cls:=.none,data:=.fields ps};symm
 |met f y=>
  let e:h.get? a=some (PySem.W.methodObj ā (.ref y)):=x;show h'.get? a=some (PySem.W.methodObj ā (.ref y));symm
 |ext φ=>let(p,(o,e),st):=x;exact(st _ _ p λo q=>k _ _ Ė q,⟨o,k _ _ Ė e⟩,st)
def dy.lt(x:ğ h)(e:H a=some o):a<h.objs.size:=(x a o e).lt
theorem dy.fresh(x:ğ h)(e:h.objs.size<=a):H a=none:=by
 cases q:H a with
 |none=>rfl
 |some u=>exact absurd (iq (x.lt q) e) (qx _)
def dy.kept(x:ğ h)(k:∀b u,h.get? b=some u->h'.get? b=some u):ğ h':=λa o e=>
 (x a o e).m4 (λb u _ q=>k b u q) (λ_ q=>q) λ_ _ q=>q
def dy.laid(x:ğ h)(k:∀b u,h.get? b=some u->h'.get? b=some u)(m:h.objs.size<=a)(new:ft P w (ť o) h' a o):dy P w (ť o) h':=λb u e=>by
 let hn:=x.fresh m;by_cases j:b=a
 .subst j;rw[aq] at e;cases e;exact new
 .rw[ao j] at e;exact(x b u e).m4 (λc v _ q=>k c v q) (λc q=>by rw[ao Äk];exact q) λc xs q=>by rw[ao Äk];exact q
end
def Rd(H:Hp)(a:Addr)(u:HO):Prop:=H a=some u\/∃o,H a=some Èr
def Rd.ok(r:Rd H a u)(x:ğ h):Àt u:=by
 rcases r with r|⟨o,r⟩
 .exact x a u r
 .let(_,q):=x a _ r;exact q
def uc:Option HO->Prop
 |some (.lst _)=>True
 |some (.dK _)=>True
 |some (.dT _)=>True
 |some (.set _ _)=>True
 |some (.ins _ _ _)=>True
 |some (.ext _)=>True
 |_=>False
section
def dy.write(ok:ğ h)(m:uc (H x))(M:e=x\/H e=some Äx)(k:∀b u,b≠e->h.get? b=some u->h'.get? b=some u)(G:∃u,h'.get? e=some u)(new:ft P w (Áe o') h' x o'):dy P w (Áe o') h':=λb u q=>by
 let Z:∀c y,H c=some (.own y)->c≠x:=λc y r z=>by subst z;rw[r] at m;exact m
 let I:∀c xs,H c=some ϱ->c≠x:=λc xs r z=>by subst z;rw[r] at m;exact m
 by_cases j:b=x
 .subst j;rw[aq] at q;cases q;exact new
 .rw[ao j] at q;by_cases J:b=e
  .let F:H b=some Äx:=by
    symm
   rw[q] at F;cases F;let(v,O):=G;exact(v,by simp_all)
  .apply(ok b u q).m4 (λc v hc r=>k c v ?_ r) (λc r=>by rw[ao (Z c b r)];exact r) λc xs r=>by rw[ao (I c xs r)];exact r
   grind
end
structure Un(fs ex:LA)(H H':Hp)(h h':Heap):Prop where
 keep:∀b o,h.get? b=some o->H b=none->b∉fs->b∉ex->h'.get? b=some o
 slot:∀b o,h.get? b=some o->H b=none->b∈fs->b∉ex->∃sl,h'.get? b=some {o with slots:=sl}
 free:∀b o,h.get? b=some o->H b=none->b∉ex->H' b=none
 there:∀b o,h.get? b=some o->b∉ex->∃o',h'.get? b=some o'
 pA:∀b xs,H b=some ϱ->H' b=some ϱ
 m5:∀b o u,H b=some Èr->H' b=some Èr
 pB:∀b ps,H b=some (.gG ps)->∃jc,H' b=some (.gG (ps++jc))
section
def Un.any(u:Un fs ex H H1 h h1){b:Addr}{O:Obj}(q:h.get? b=some O)(n:H b=none)(m:b∉ex):∃sl,h1.get? b=some {O with slots:=sl}:=by
 by_cases j:b∈fs
 .exact u.slot b O q n j m
 .exact(O.slots,u.keep b O q n j m)
def Un.kept(k:∀b u,h.get? b=some u->h'.get? b=some u):Un fs ex H H h h':=
 ⟨λb O q _ _ _=>k b O q,λb O q _ _ _=>⟨O.slots,k b O q⟩,λ_ _ _ n _=>n,λb O q _=>⟨O,k b O q⟩,λ_ _ q=>q,λ_ _ _ q=>q,λ_ ps q=>⟨#[],by rw[q];simp⟩⟩
def Un.refl:Un fs ex H H h h:=Un.kept λ_ _ q=>q
def Un.laid(k:∀b u,h.get? b=some u->h'.get? b=some u)(j:h.objs.size<=a)(hn:H a=none):Un fs ex H (ť o) h h' where
 keep:=λb u q _ _ _=>k b u q
 slot:=λb u q _ _ _=>⟨u.slots,k b u q⟩
 free:=λb u q n _=>by rw[ao (fj (iq (cZ q) j))];exact n
 there:=λb u q _=>⟨u,k b u q⟩
 pA:=λb xs q=>by rw[ao Äk];exact q
 m5:=λb u xs q=>by rw[ao Äk];exact q
 pB:=λb ps q=>⟨#[],by rw[ao Äk,q];simp⟩
def Un.write(m:uc (H x))(J:e=x\/H e=some Äx)(k:∀b u,b≠e->h.get? b=some u->h'.get? b=some u)(I:∃u,h'.get? e=some u):Un fs ex H (Áe o) h h':=by
 let G:∀b,H b=none->b≠x:=λb n z=>by subst z;rw[n] at m;exact m
 let F:∀b,H b=none->b≠e:=λb n z=>by
  symm
 let j:∀b u,H b=some u->¬uc Ân->b≠x:=λb u q nm z=>by subst z;rw[q] at m;exact nm m
 apply⟨λb u q n _ _=>k b u (F b n) q,λb u q n _ _=>⟨u.slots,k b u (F b n) q⟩,λb u q n _=>by rw[ao (G b n)];exact n,λb u q _=>?_,
  λb xs q=>by rw[ao (j b _ q λz=>z)];exact q,λb u xs q=>by rw[ao (j b _ q λz=>z)];exact q,λb ps q=>⟨#[],by rw[ao (j b _ q λz=>z),q];simp⟩⟩
 grind
end
def Dt(h:Heap)(H:Hp):LA:=(List.range h.objs.size).filter λa=>(H a).isSome
def ud(h:Heap)(H:Hp):Heap:=PySem.W.hideAll h (Dt h H)
def Zn(h:Heap)(H:Hp):(ud h H).objs.size=h.objs.size:=PySem.W.hideAll_size _ _
def Zo(e:h.get? b=some o)(n:H b=none):(ud h H).get? b=some o:=
 PySem.W.hideAll_get _ e λj=>by
  let q:(H b).isSome=true:=(j8.mp j).2;rw[n] at q;simp at q
def Zp(e:(ud h H).get? b=some o):h.get? b=some o/\H b=none:=by
 let j:h.get? b=some o:=PySem.W.of_hideAll (Dt h H) e;apply(j,?_);cases q:H b with
 |none=>rfl
 |some x=>
  let m:b∈Dt h H:=j8.mpr ⟨Ar.mpr (cZ j),by simp[q]⟩;let z:(ud h H).get? b=none:=PySem.W.hideAll_none (Dt h H) m;symm
structure Mod(K:FR)(mg:MG)(base:Heap):Prop where
 rT:K.In base
 glob:base.Ns mainGlobals mg
 blt:∃mb,base.Ns builtinsNs mb/\∀x:Str,x≠"__name__"->mb x=bootBuiltins x
 nolimit:base.NoLimit
structure Cx where
 prog:Program
 w:World
 K:FR
 mg:Str->Option Value
 base:Heap
 A:Around
 N:LS
 g8:Shared
 qC:Hp
 env:Env
 outer:List Env
 stack:List Env
 ex:LA
 fn:Str->Bool
 calm:Bool
 pn:bG
 xe:VP
def m6(l:List Env):LA:=l.filterMap (·.frame)
abbrev Cx.fs(X:Cx):LA:=m6 X.outer
def wV(S:Scope)(x:Str):Prop:=S.names.lookup x=some .local\/S.names.lookup x=some .cell\/S.names.lookup x=some .free
def Loc(S:Scope)(x:Str):Prop:=S.names.lookup x=some .local\/S.names.lookup x=some .cell
def Look(env:Env)(h:Heap)(m:MG)(x:Str)(u:Value):Prop:=
 (env.kindOf x=some .local/\m x=some u)\/((env.kindOf x=some .cell\/env.kindOf x=some .free)/\∃c,env.cells.lookup x=some c/\h.IsCell c Ân)
structure Cx.Ok(X:Cx):Prop where
 mod:Mod X.K X.mg X.base
 kind:X.env.scope.kind=.function
 glob:X.env.globals=mainGlobals
 blt:X.env.builtins=builtinsNs
 above:X.g8.heap.objs.size<=X.env.locals
 inj:∀x y c,X.env.cells.lookup x=some c->X.env.cells.lookup y=some c->x=y
 has:∀x,(X.env.kindOf x=some .cell\/X.env.kindOf x=some .free)->∃c,X.env.cells.lookup x=some c
 wW:∀x c,X.fn x=true->X.env.cells.lookup x=some c->X.g8.heap.objs.size<=c
 hd:X.calm=true->X.A.handled=none
 frames:X.A.frames=some X.stack
 AG:X.stack=X.outer\/(X.stack=X.env::X.outer/\X.env.frame=some X.env.locals)
 AH:∀b∈X.ex,b≠X.env.locals/\∀x c,X.env.cells.lookup x=some c->c≠b
 bs:∀b o,X.base.get? b=some o->X.g8.heap.get? b=some o/\X.qC b=none
 m7:X.base.objs.size<=X.g8.heap.objs.size
 yB:∀b o,X.base.get? b=some o->b∉X.ex
 yC:∀b∈X.ex,b∉X.fs
 kG:X.g8.heap.FunFrames X.base X.outer
 pC:∀b∈X.fs,X.qC b=none
structure Inv(X:Cx)(pins:bG)(σ:List (Option V))(H:Hp)(s:Sh):Prop where
 ok:X.Ok
 os:s.os=X.g8.os
 bare:AllBare s.gens
 base:Un X.fs X.ex X.qC H X.g8.heap s.heap
 loc:∃m,s.heap.Ns X.env.locals m/\∀(i:Nat)(x:Str)(v:V),X.N[i]? =some x->σ[i]? =some Ãj->wV X.env.scope x->∃u,RelV v u/\Look X.env s.heap m x u
 cell:∀x c,X.env.cells.lookup x=some c->∃v,s.heap.IsCell c v
 free:H X.env.locals=none
 kH:∀x c,X.env.cells.lookup x=some c->H c=none
 pin:∀p∈X.pn++pins,s.heap.get? p.1=some p.2/\H p.1=none/\p.1≠X.env.locals/\p.1∉X.fs/\∀v,p.2.data≠ .cell v
 ax:Àc H s.heap
 len:σ.length=X.N.length
section
variable{X:Cx}{pins:bG}{σ:List (Option V)}{H H':Hp}{s:Sh}{h':Heap}
def Cx.Ok.Zq(ok:X.Ok)(e:X.base.get? b=some o):b∉X.fs:=λj=>by
 let:=(ok.kG.mem j).1;symm
def Inv.bs(I:Ã H s):∀b o,X.base.get? b=some o->s.heap.get? b=some o/\H b=none:=λb o e=>
 ⟨I.base.keep b o (I.ok.bs b o e).1 (I.ok.bs b o e).2 (I.ok.Zq e) (I.ok.yB b o e),I.base.free b o (I.ok.bs b o e).1 (I.ok.bs b o e).2 (I.ok.yB b o e)⟩
def Inv.bk(I:Ã H s):∀b o,X.base.get? b=some o->s.heap.get? b=some o:=λb o e=>(I.bs b o e).1
def Inv.mod(I:Ã H s):Mod X.K X.mg X.base:=I.ok.mod
def Inv.fu(I:Ã H s):X.K.In s.heap:=I.ok.mod.rT.keeps I.bk
def Inv.fr(I:Ã H s):∃m,Fr X.base X.env.locals s.heap m:=
 let ⟨m,hn,_⟩:=I.loc
 ⟨m,hn,I.bk,gQ I.ok.m7 I.ok.above⟩
def Inv.lt(I:Ã H s):X.env.locals<s.heap.objs.size:=let ⟨_,hn,_⟩:=I.loc;hn.lt
def Inv.sz(I:Ã H s):X.g8.heap.objs.size<=s.heap.objs.size:=gQ I.ok.above (tV I.lt)
def Inv.Zr(I:Ã H s)(h:s.heap.objs.size<=a):a∉X.fs:=λj=>by
 let(_,o,m,_):=I.ok.kG.mem j;exact absurd (iq (cZ m) (gQ I.sz h)) (qx _)
def Inv.vg(I:Ã H s):∀x c,X.env.cells.lookup x=some c->c≠X.env.locals:=λx c e z=>by
 let(v,o,j,hd):=I.cell x c e;let(m,(O,es,ep,F,G,_),_):=I.loc;symm
def Inv.kG(I:Ã H s):s.heap.FunFrames X.base X.outer:=by
 let all:∀(l:List Env),(∀b∈m6 l,b∈X.fs)->X.g8.heap.FunFrames X.base l->s.heap.FunFrames X.base l:=by
  intro l;induction l with
  |nil=>intro _ _;trivial
  |cons env r O=>
   intro hs G;let(hk,(L,o,F,J,M,hd),hr):=G;let j:L∈X.fs:=hs L (by delta m6;rw[C8,F];exact gy);let(sl,e):=I.base.slot L o M (I.ok.pC L j) j λz=>I.ok.yC L z j;exact(hk,⟨L,_,F,J,e,hd⟩,O (λb m=>hs b (by delta m6;rw[C8,F];exact aO _ m)) hr)
 exact all X.outer (λ_ m=>m) I.ok.kG
def Inv.stack(I:Ã H s):s.heap.FunFrames X.base X.stack:=by
 rcases I.ok.AG with e|⟨e,j⟩
 .rw[e];exact I.kG
 .rw[e];let(m,z,_):=I.loc;apply .cons (by rw[I.ok.kind];decide) j z ?_ I.kG;exact OK (gQ I.ok.m7 I.ok.above)
def Inv.AI(I:Ã H s):∀b∈m6 X.stack,b∈X.env.locals::X.fs:=λb j=>by
 rcases I.ok.AG with e|⟨e,m⟩
 .symm
 .rw[e] at j;delta m6 at j;rw[C8,m] at j;exact j
def Inv.Du(I:Ã H s):∀b∈m6 X.stack,H b=none:=λb j=>by
 rcases ba.mp (I.AI b j) with e|j
 .rw[e];exact I.free
 .let(_,o,m,_):=I.ok.kG.mem j;exact I.base.free b o m (I.ok.pC b j) λz=>I.ok.yC b z j
def Inv.step{g':Array GenState}{t':Nat}{d':Drawn}{ch:LA}(I:Ã H s)(O:∀b∈ch,(b∈X.ex\/X.g8.heap.objs.size<=b)/\b≠X.env.locals/\(∀x c,X.env.cells.lookup x=some c->c≠b)/\∀p∈X.pn++pins,p.1≠b)(keep:∀b o,b≠X.env.locals->b∉X.fs->b∉ch->s.heap.get? b=some o->H b=none->h'.get? b=some o)(slot:∀b o,b≠X.env.locals->b∈X.fs->b∉ch->s.heap.get? b=some o->H b=none->∃sl,h'.get? b=some {o with slots:=sl}) (free:∀b o,b∉ch->s.heap.get? b=some o->H b=none->H' b=none)(there:∀b o,b∉ch->s.heap.get? b=some o->∃J,h'.get? b=some J)(pA:∀b xs,H b=some ϱ->H' b=some ϱ) (m5:∀b o u,H b=some Èr->H' b=some Èr) (pB:∀b ps,H b=some (.gG ps)->∃jc,H' b=some (.gG (ps++jc)))(ns:∀m,s.heap.Ns X.env.locals m->h'.Ns X.env.locals m) (ax:Àc H' h') (hg:AllBare g'):
  Inv X pins σ H' {s with heap:=h',gens:=g',drawn:=d',toks:=t'}:=by
 let U:∀b o,X.g8.heap.get? b=some o->b≠X.env.locals:=λb o e=>fj ϶;let M:∀b o,X.g8.heap.get? b=some o->b∉X.ex->b∉ch:=λb o e hx hb=>by
  rcases(O b hb).1 with z|z
  .symm
  .exact absurd (iq (cZ e) z) (qx _)
 let S:∀x c,X.env.cells.lookup x=some c->∀v,s.heap.IsCell c v->h'.IsCell c v:=λx c e v ⟨o,F,hd⟩=>by
  let G:c∉ch:=λz=>(O c z).2.2.1 x c e rfl;by_cases hc:c∈X.fs
  .let(sl,q):=slot c o (I.vg x c e) hc G F Ça;exact(_,q,hd)
  .exact(o,keep c o (I.vg x c e) hc G F Ça,hd)
 apply(I.ok,I.os,hg,⟨λb o e n hb hx=>?_,λb o e n hb hx=>?_,λb o e n hx=>?_,λb o e hx=>?_,λb xs e=>pA b xs (I.base.pA b xs e),λb o xs e=>m5 b o xs (I.base.m5 b o xs e),λb ps e=>?_⟩,?_,λx c e=>?_,?_,λx c e=>?_,λp Y=>?_,ax,I.len)
 .exact keep b o (U b o e) hb (M b o e hx) Às ϣ
 .let(sl,j):=I.base.slot b o e n hb hx;let(sl',W):=slot b _ (U b o e) hb (M b o e hx) j ϣ;symm
 .let(J,j):=I.base.there b o e hx;exact free b J (M b o e hx) j ϣ
 .let(J,j):=I.base.there b o e hx;symm
 .let(m1,j):=I.base.pB b ps e;grind
 .let(m,hn,hl):=I.loc;apply(m,ns m hn,λi x v j W e3=>?_);let(u,r,l):=hl i x v j W e3;apply(u,r,?_);rcases l with l|⟨k,c,e,z⟩
  .exact .inl l
  .exact .inr ⟨k,c,e,S x c e _ z⟩
 .let(v,z):=I.cell x c e;grind
 .let(m,(o,_,_,F,_),_):=I.loc;exact free _ o (λz=>(O _ z).2.1 Á) F I.free
 .let(v,o,F,hd):=I.cell x c e;exact free c o (λz=>(O c z).2.2.1 x c e Á) F Ça
 .let(e,n,ne,Z,d):=I.pin p Y;let G:p.1∉ch:=λz=>(O p.1 z).2.2.2 p Y rfl;exact(keep p.1 p.2 ne Z G e n,free p.1 p.2 G e n,ne,Z,d)
def Inv.un{t':Nat}(I:Ã H s)(u:Un X.fs [] H H' s.heap h')(ax:Àc H' h'):Ã H' {s with heap:=h',toks:=t'}:=by
 let(m,(o,es,ep,F,r),_):=id I.loc;let(sl,J):=u.any F I.free Ä;exact I.step (g':=s.gens) (d':=s.drawn) (ch:=[]) (λ_ z=>nomatch z) (λb o _ j _ e n=>u.keep b o e n j Ä) (λb o _ j _ e n=>u.slot b o e n j Ä) (λb o _ e n=>u.free b o e n Ä) (λb o _ e=>u.there b o e Ä) u.pA u.m5 u.pB (λW M=>by
  let(Y,O,U,G,S):=M;rw[F] at G;cases G;exact(_,O,U,J,S)) ax I.bare
def Inv.call{g':Array GenState}{t':Nat}{d':Drawn}{ch:LA}(I:Ã H s)(u:Un (m6 X.stack) ch H H' s.heap h')(ax:Àc H' h')(M:AllBare g')(O:∀b∈ch,(b∈X.ex\/X.g8.heap.objs.size<=b)/\b≠X.env.locals/\(∀x c,X.env.cells.lookup x=some c->c≠b)/\∀p∈X.pn++pins,p.1≠b):
  Inv X pins σ H' {s with heap:=h',gens:=g',drawn:=d',toks:=t'}:=by
 let(m,(o,es,ep,F,r),_):=id I.loc;let(sl,j):=u.any F I.free λz=>(O _ z).2.1 rfl;exact I.step (ch:=ch) O (λb o j J hc e n=>u.keep b o e n (λz=>(ba.mp (I.AI b z)).elim j J) hc) (λb o _ _ hc e n=>u.any e n hc) (λb o hc e n=>u.free b o e n hc) (λb o hc e=>u.there b o e hc) u.pA u.m5 u.pB (λZ S=>by
  let(o',U,Y,G,W):=S;rw[F] at G;cases G;exact(_,U,Y,j,W)) ax M
def Inv.turned{t':Nat}{j:Addr}(I:Ã H s)(k:∀b o,b≠j->s.heap.get? b=some o->h'.get? b=some o)(O:H j=none)(F:j≠X.env.locals)(J:j∈X.ex\/X.g8.heap.objs.size<=j) (h2:∀x c,X.env.cells.lookup x=some c->c≠j) (M:∀p∈X.pn++pins,p.1≠j):Ã H {s with heap:=h',toks:=t'}:=by
 let G:∀b u,H b=some u->b≠j:=λb u e z=>by rw[z,O] at e;cases e
 refine I.step (g':=s.gens) (d':=s.drawn) (ch:=[j]) č (λb o _ _ hc e _=>k b o (λz=>hc (by simp[z])) e) (λb o _ _ hc e _=>⟨o.slots,k b o (λz=>hc (by simp[z])) e⟩) (λ_ _ _ _ n=>n)
  (λb o hc e=>⟨o,k b o (λz=>hc (by simp[z])) e⟩) (λ_ _ e=>e) (λ_ _ _ e=>e) (λb ps e=>⟨#[],by rw[e];simp⟩) Åz (λb u e=>?_) I.bare
 .let e:b=j:=by simpa using hb
  subst e;exact(J,F,h2,M)
 .let(o,es,ep,S,r):=hm;exact(o,es,ep,k _ o (dX F) S,r)
 .refine(I.ax b u e).m4 Áu (λ_ q=>q) λ_ _ q=>q;rcases hc with z|z
  .rw[z];exact G b u e
  .exact G c _ z
def Inv.tok(I:Ã H s)(t:Nat):Ã H {s with toks:=t}:=I.un (h':=s.heap) (t':=t) Un.refl I.ax
def Inv.kept{t':Nat}(I:Ã H s)(k:∀b u,s.heap.get? b=some u->h'.get? b=some u):Ã H {s with heap:=h',toks:=t'}:=I.un (Un.kept k) (I.ax.kept k)
def Inv.laid{a:Addr}{o:HO}{t':Nat}(I:Ã H s)(k:∀b u,s.heap.get? b=some u->h'.get? b=some u)(j:s.heap.objs.size<=a)(new:Àb (ť o) h' a o):
  Inv X pins σ (ť o) {s with heap:=h',toks:=t'}:=I.un (Un.laid k j (I.ax.fresh j)) (I.ax.laid k j new)
def Inv.write{x e:Addr}{o:HO}{t':Nat}(I:Ã H s)(M:uc (H x))(m:e=x\/H e=some Äx)(k:∀b u,b≠e->s.heap.get? b=some u->h'.get? b=some u)(j:∃u,h'.get? e=some u)(new:Àb (Áe o) h' x o):Ã (Áe o) {s with heap:=h',toks:=t'}:=I.un (Un.write M m k j) (I.ax.write M m k j new)
def Inv.weak(I:Ã H s)(G:σ'.length=σ.length)(w:∀(i:Nat)v,σ'[i]? =some Ãj->σ[i]? =some Ãj):Inv X pins σ' H s:=
 ⟨I.ok,I.os,I.bare,I.base,let ⟨m,hn,HB⟩:=I.loc;⟨m,hn,λi x v j z F=>HB i x v j (w i v z) F⟩,I.cell,I.free,I.kH,I.pin,I.ax,G.trans I.len⟩
def Inv.HC(I:Ã H s)(h:∀p∈Zs,s.heap.get? p.1=some p.2/\H p.1=none/\p.1≠X.env.locals/\p.1∉X.fs/\∀v,p.2.data≠ .cell v):Inv X Zs σ H s:=
 ⟨I.ok,I.os,I.bare,I.base,I.loc,I.cell,I.free,I.kH,λp j=>(gR.mp j).elim (λz=>I.pin p (As _ z)) (h p),I.ax,I.len⟩
def HE{N:LS}(F:N.Nodup){i j:Nat}{x:Str}(a:N[i]? =some x)(b:N[j]? =some x):i=j:=by
 let(G,m):=bO.mp a;let(h2,z):=bO.mp b;exact(XU F).mp (m.trans z.symm)
def Po{E:VP}{Q:Unit->Shared->Prop}(I:Ã H s)(hN:X.N.Nodup)(hi:X.N[i]? =some x)(hx:Loc X.env.scope x)(r:RelV v u)(h:∀s',Inv X pins Ļ H s'->(∃a,Heap.SameBut a s.heap s'.heap/\(a=X.env.locals\/X.env.cells.lookup x=some a))->Q () s') (hf:X.fn x=true\/X.env.scope.names.lookup x=some .local:=by first|exact .inl Á|exact .inr Á|assumption):ž (storeName X.env x u) Q E s:=by
 let(m,W,hl):=id I.loc;let AB:(X.env.scope.kind== .class||(X.env.scope.kind== .module&&X.env.locals !=X.env.globals))=false:=by rw[I.ok.kind];rfl
 let O:i<σ.length:=by rw[I.len];exact(bO.mp hi).1
 let vg:=I.vg;let Xz:∀{a:Addr}{h':Heap},(∃o,s.heap.get? a=some o/\H a=none)->Heap.SameBut a s.heap h'->Àc H h':=λ{a h'}ha hs b ob e=>by
  let(_,_,Dv):=ha;apply(I.ax b ob e).m4 (λc w' hc q=>(hs.2 c ?_).trans q) (λ_ q=>q) λ_ _ q=>q;grind
 rcases hx with hk|hk
 .apply wpAny_storeName_local hk W (λh' Pp hs=>?_) AB;let(oL,_,_,Zt,_):=id W;apply h _ ⟨I.ok,I.os,I.bare,⟨λb o e n hb hx=>?_,λb o e n hb hx=>?_,I.base.free,λb o e hx=>?_,I.base.pA,I.base.m5,I.base.pB⟩,⟨_,Pp,λj y v' F G U=>?_⟩,λy c e=>?_,I.free,I.kH,λp Y=>?_,Xz ⟨oL,Zt,I.free⟩ hs,by simpa using I.len⟩ ⟨_,hs,.inl Á⟩
  .exact(hs.2 b (fj ϶)).trans Às
  .let(sl,F):=I.base.slot b o e n hb hx;exact(sl,(hs.2 b (fj ϶)).trans F)
  .let(o',F):=I.base.there b o e hx;exact(o',(hs.2 b (fj ϶)).trans F)
  .by_cases J:j=i
   .subst J;rw[hi] at F;cases F;rw[XW O] at G;cases G;exact(u,r,.inl ⟨hk,by simp⟩)
   .rw[XX (dX J)] at G;let(u',r',q):=hl j y v' F G U;apply(u',r',?_);rcases q with ⟨k,e⟩|⟨k,c,e,z⟩
    .apply .inl ⟨k,?_⟩;let:y≠x:=λe=>J (HE hN F (e▸ hi));symm
    .exact .inr ⟨k,c,e,z.sameBut hs (vg y c e)⟩
  .let(w',z):=I.cell y c e;exact(w',z.sameBut hs (vg y c e))
  .let(e,n,ne,Z,d):=I.pin p Y;exact((hs.2 p.1 ne).trans e,n,ne,Z,d)
 .let HF:X.fn x=true:=by
   symm
  let(c,hc):=I.ok.has x (.inl hk);let(w',z):=I.cell x c hc;apply wpAny_storeName_cell I.ok.kind hk hc z (λh' AK hs=>?_);let(oc,Zu,apR):=id z;apply h {s with heap:=h'} ⟨I.ok,I.os,I.bare,⟨λb o e n hb hx=>?_,λb o e n hb hx=>?_,I.base.free,λb o e hx=>?_,I.base.pA,I.base.m5,I.base.pB⟩,⟨m,W.sameBut hs (dX (vg x c hc)),λj y v' F G U=>?_⟩,λy S e=>?_,I.free,I.kH,λp Y=>?_,Xz ⟨oc,Zu,I.kH x c hc⟩ hs,À I.len⟩ ⟨c,hs,.inr hc⟩
  .exact(hs.2 b ϓ).trans Às
  .let(sl,F):=I.base.slot b o e n hb hx;exact(sl,(hs.2 b ϓ).trans F)
  .let(o',F):=I.base.there b o e hx;exact(o',(hs.2 b ϓ).trans F)
  .by_cases J:j=i
   .subst J;rw[hi] at F;cases F;rw[XW O] at G;cases G;exact(u,r,.inr ⟨.inl hk,c,hc,AK⟩)
   .rw[XX (dX J)] at G;let(u',r',q):=hl j y v' F G U;apply(u',r',?_);rcases q with q|⟨k,S,e,z'⟩
    .exact .inl q
    .apply .inr ⟨k,S,e,z'.sameBut hs ?_⟩;rintro rfl;exact J (HE hN F (I.ok.inj _ _ _ e hc▸ hi))
  .by_cases jg:S=c
   .grind
   .let(w2,z2):=I.cell y S e;exact(w2,z2.sameBut hs jg)
  .let(e,n,ne,Z,d):=I.pin p Y;apply((hs.2 p.1 ?_).trans e,n,ne,Z,d);grind
def Dx(I:Ã H s)(m:X.N.Nodup)(hi:X.N[i]? =some x)(F:Loc X.env.scope x)(r:RelV v u)(h:∀s',Inv X pins Ļ H s'->Q () s') (z:X.fn x=true\/X.env.scope.names.lookup x=some .local:=by first|exact .inl Á|exact .inr Á|assumption):ž (storeName X.env x u) Q E s:=
 Po I m hi F r (λs' j _=>h s' j) z
def Inv.vi{s':Sh}{ch:LA}(I:Ã H s)(m:s'.os=s.os)(u:Un (m6 X.stack) ch H H' s.heap s'.heap)(ax:Àc H' s'.heap)(j:AllBare s'.gens)(z:∀b∈ch,(b∈X.ex\/X.g8.heap.objs.size<=b)/\b≠X.env.locals/\(∀x c,X.env.cells.lookup x=some c->c≠b)/\∀p∈X.pn++pins,p.1≠b):Ã H' s':=by
 let(h',g',d',t',O):=s';let e:O=s.os:=m;subst e;exact I.call (g':=g') (t':=t') (d':=d') u ax j z
end
abbrev XK:=Value->OA->Hp->Prop
abbrev St:=List (Option V)
abbrev VK:=V->Hp->Prop
abbrev TE:=St->Hp->VK->Prop
abbrev TT:=St->Hp->(Bool->Hp->Prop)->Prop
abbrev TA:=St->Hp->(au->Hp->Prop)->Prop
structure Ends where
 nx:St->Hp->Prop
 rt:VK
 bk:St->Hp->Prop:=λ_ _=>False
 ct:St->Hp->Prop:=λ_ _=>False
abbrev TS:=Ends->St->Hp->Prop
inductive EP(X:Cx)(pins:bG)(σ:St)(Q:VK)(u:Value)(s':Sh):Prop
 |mk (v:V) (H':Hp) (_:Ã H' s') (_:RelV v u) (_:Q v H')
inductive TP(X:Cx)(pins:bG)(σ:St)(Q:Bool->Hp->Prop)(b:Bool)(s':Sh):Prop
 |mk (H':Hp) (_:Ã H' s') (_:Q b H')
inductive AP(X:Cx)(pins:bG)(σ:St)(Q:au->Hp->Prop)(us:LV)(s':Sh):Prop
 |mk (vs:au) (H':Hp) (_:Ã H' s') (_:bc vs us) (_:Q vs H')
inductive WP(X:Cx)(pins:bG)(Q:St->Hp->Prop)(s':Sh):Prop
 |mk (σ':St) (H':Hp) (_:ϩ s') (_:Q σ' H')
def SP(X:Cx)(pins:bG)(D:Ends)(f:Flow)(s':Sh):Prop:=
 match f with
 |.next=>WP X pins D.nx s'
 |.brk=>WP X pins D.bk s'
 |.cont=>WP X pins D.ct s'
 |.ret u=>∃v σ' H',ϩ s'/\RelV v u/\D.rt v H'
def PE(X:Cx)(e:Expr)(t:TE):Prop:=
 ∀(pins:bG)(s:Sh)(σ:St)(H:Hp)(Q:VK),Ã H s->t σ H Q->wpAny È X.A ϔ (ñ Q) X.xe s
def PT(X:Cx)(e:Expr)(t:TT):Prop:=
 ∀(pins:bG)(s:Sh)(σ:St)(H:Hp)(Q:Bool->Hp->Prop),Ã H s->t σ H Q->wpAny È X.A (isTrue e X.env ϔ) Âu X.xe s
def PW(X:Cx)(e:Expr)(t:TT):Prop:=
 ∀(whole:Sem Value)(pins:bG)(s:Sh)(σ:St)(H:Hp)(Q:Bool->Hp->Prop),Ã H s->t σ H Q->wpAny È X.A (isTrue e X.env whole) Âu X.xe s
def PW.pt(h:PW X e t):PT X e t:=h _
def PA(X:Cx)(es:List Expr)(t:TA):Prop:=
 ∀(pos:Pos)(pins:bG)(s:Sh)(σ:St)(H:Hp)(Q:au->Hp->Prop),Ã H s->t σ H Q->wpAny È X.A (spliced (backTo pos ô)) (AP X pins σ Q) X.xe s
def PS(X:Cx)(st:Stmt)(t:TS):Prop:=
 ∀(pins:bG)(s:Sh)(σ:St)(H:Hp)(D:Ends),Ã H s->t D σ H->wpAny È X.A (exec st X.env) Åj X.xe s
def kI(X:Cx)(st:List Stmt)(t:TS):Prop:=
 ∀(pins:bG)(s:Sh)(σ:St)(H:Hp)(D:Ends),Ã H s->t D σ H->wpAny È X.A (execs st X.env) Åj X.xe s
def aK{α:Type}{t:Sem α}{Q j:α->Shared->Prop}{M:Model}{A:Around}{E:VP}{s:Sh}(h:ž t Q E s)(m:∀a s,Q a s->j a s):ž t j E s:=iU h m λ_ _ x=>x
section
inductive ay(i:Nat)(σ:St)(H:Hp)(Q:VK):Prop
 |mk (v:_) (_:σ[i]? =some Ãj) (_:Q v H)
def tC(v:V):TE:=λ_ H Q=>Q v H
def Pq(j:X.N[i]? =some x)(J:wV X.env.scope x)(hd:(x==("__debug__":Str))=false:=by decide)(M:(x==("__classdict__":Str))=false:=by decide):PE X Ϲ (ay i):=by
 show Õ;let(v,e,h):=h;let(m,G,z):=I.loc;let(u,r,l):=z i x v j e J;let fin:ñ Q u s:=⟨v,H,I,r,h⟩;rcases l with ⟨hk,F⟩|⟨hk,c,hc,Y⟩
 .exact wpAny_Name (wpAny_loadName_local I.ok.kind hk G F fin) hd
 .rcases hk with hk|hk
  .exact wpAny_Name (wpAny_loadName_cell I.ok.kind hk hc Y fin) hd
  .exact wpAny_Name (wpAny_loadName_free I.ok.kind hk hc Y fin M) hd
def bo{i j pos}:PE X (.Constant Ây j pos) (tC Ây):=λ_ _ _ H _ I h=>wpAny_Constant_int ⟨.int i,H,I.tok _,⟨_,rfl⟩,h⟩
def yE{b j pos}:PE X (.Constant (.bool b) j pos) (tC (.bl b)):=λ_ _ _ H _ I h=>Constant_bool ⟨.bl b,H,I,rfl,h⟩
def qD{j pos}:PE X (.Constant .none j pos) (tC .aJ):=λ_ _ _ H _ I h=>Constant_none ⟨.aJ,H,I,rfl,h⟩
def Dy{x j pos}:PE X (.Constant Çc j pos) (tC Çc):=λ_ _ _ H _ I h=>Calls.Constant_str ⟨.str x,H,I.tok _,⟨_,rfl⟩,h⟩
def Gl(X:Cx)(x:Str):Prop:=X.env.kindOf x=some .globalImplicit
def vj(I:Ã H s)(j:Gl X x)(m:X.mg x=some u)(h:Q u s)(hd:(x==("__debug__":Str))=false:=by decide):wpAny È X.A (eval Ϲ X.env) Q E s:=
 ao1 I.ok.kind j (Calls.loadGlobal_global (by rw[I.ok.glob];exact I.mod.glob.keeps I.bk) m h) hd
def vk{E:VP}{pins:bG}{s:Sh}{σ:St}{H:Hp}{x:Str}{u:Value}{pos:Pos}{Q:VP}(I:Ã H s)(m:Gl X x)(z:X.mg x=none)(G:bootBuiltins x=some u)(h:Q u s)(F:x≠"__name__":=by decide) (hd:(x==("__debug__":Str))=false:=by decide):wpAny È X.A (eval Ϲ X.env) Q E s:=by
 let(M,j,h2):=I.mod.blt;exact ao1 I.ok.kind m (Calls.loadGlobal_builtin (by rw[I.ok.glob];exact I.mod.glob.keeps I.bk) z (by rw[I.ok.blt];exact j.keeps I.bk) ((h2 x F).trans G) h) hd
def vm(j:Gl X x)(m:X.mg x=some u)(r:RelV v u)(hd:(x==("__debug__":Str))=false:=by decide):PE X Ϲ (tC v):=
 λ_ _ _ H _ I h=>vj I j m ⟨v,H,I,r,h⟩ hd
def PC(X:Cx)(op:CmpOp)(a b:Expr)(t:TE):Prop:=
 ∀(pins:bG)(s:Sh)(σ:St)(H:Hp)(Q:VK),Ã H s->t σ H Q->
  wpAny È X.A (eval a X.env) (λv S=>wpAny È X.A (eval b X.env) (λu j=>wpAny È X.A (compareOp op v u) (ñ Q) X.xe j) X.xe S) X.xe s
def Pt(b:Expr)(h:op≠ .In)(h2:op≠ .NotIn):behindInMarks op b=false:=by
 let j:(op==CmpOp.In)=false:=by cases op <;> first|rfl|exact absurd Á h
 let m:(op==CmpOp.NotIn)=false:=by cases op <;> first|rfl|exact absurd Á h2
 cases b <;> simp[behindInMarks,j,m]
def Zv(ta:TE):TE:=λσ H Q=>ta σ H λx H1=>Q (.bl (decide (x=.aJ))) H1
def Pu(ta:TE):TE:=λσ H Q=>ta σ H λx H1=>Q (.bl (!decide (x=.aJ))) H1
theorem RelV.Pw(r:RelV x v):(v==Value.none)=decide (x=.aJ):=by
 cases x with
 |aJ=>cases r;rfl
 |bl _=>cases r;rfl
 |int _=>let(t,rfl):=r;rfl
 |str _=>let(t,rfl):=r;rfl
 |jf _=>let(t,rfl):=r;rfl
 |AD _=>let(t,rfl):=r;rfl
 |ref _=>cases r;rfl
 |ty _=>cases r;rfl
def qE{j lr}(z:Ϩ ta):PC X .Is a (.Constant .none j lr) (Zv ta):=by
 show Õ;apply aK (z pins s σ H _ I h) λv S ⟨x,H1,m,G,F⟩=>?_;exact Constant_none (is_none_gen ⟨.bl _,H1,m,by rw[G.Pw];rfl,F⟩)
def HG{j lr}(z:Ϩ ta):PC X .IsNot a (.Constant .none j lr) (Pu ta):=by
 show Õ;apply aK (z pins s σ H _ I h) λv S ⟨x,H1,m,G,F⟩=>?_;exact Constant_none (isnot_none_gen ⟨.bl _,H1,m,by rw[G.Pw];rfl,F⟩)
inductive yF(x:V)(q:Bool->Prop):Prop
 |mk (c:Bool) (_:x=.bl c) (_:q c)
def tB(t:TE):TT:=λσ H Q=>t σ H λx H1=>yF x λc=>Q c H1
def Px(h:PC X op a b t)(j:behindInMarks op b=false:=by first|exact Pt _ Ù (by decide)|rfl):PE X ϙ t:=λpins s σ H Q I hw=>wpAny_Compare1 Âq j
def ot(h:PC X op a b t)(j:behindInMarks op b=false:=by first|exact Pt _ Ù (by decide)|rfl):PT X ϙ (tB t):=by
 intro pins s σ H Q I z;apply wpAny_isTrue_Compare1 (aK (h pins s σ H _ I z) λv S j=>aK j λu J h2=>aK h2 λc M ⟨x,H1,m,G,F⟩=>?_) j;let(d,rfl,q):=F;cases G;exact tW ⟨H1,m,q⟩
def jx(h:ϝ t)(m:∀whole,isTrue e X.env whole=(do let v <-whole;standAt e.pos;holding [v] (truthy v)):=by intro _;rfl):PT X e (tB t):=by
 intro pins s σ H Q I z;apply isTrue_plain (aK (h pins s σ H _ I z) λv S ⟨x,H1,j,G,F⟩=>?_) (m _);let(d,rfl,q):=F;cases G;exact tW ⟨H1,j,q⟩
def Dz(t u:TT):TT:=λσ H Q=>t σ H λc H1=>if c=true then u σ H1 Q else Q false H1
def HH(t u:TT):TT:=λσ H Q=>t σ H λc H1=>if c=true then Q true H1 else u σ H1 Q
def Zw(t:TT):TT:=λσ H Q=>t σ H λc H1=>Q (!c) H1
theorem pw_and1(j:PT X a tA):PW X (.BoolOp .And [a] pos) tA:=by
 intro W pins s σ H Q I h;apply isTrue_and (aK (j pins s σ H Q I h) λc S e=>?_);cases c with
 |true=>exact isTrue_and_nil e
 |false=>exact e
theorem pw_or1(j:PT X a tA):PW X (.BoolOp .Or [a] pos) tA:=by
 intro W pins s σ H Q I h;apply isTrue_or (aK (j pins s σ H Q I h) λc S e=>?_);cases c with
 |false=>exact isTrue_or_nil e
 |true=>exact e
theorem pw_and(z:PT X a tA)(F:PW X (.BoolOp .And (b::bI) pos) tB'):PW X (.BoolOp .And (a::b::bI) pos) (Dz tA tB'):=by
 intro W pins s σ H Q I h;apply isTrue_and (aK (z pins s σ H _ I h) λc S ⟨H1,j,m⟩=>?_);cases c with
 |true=>exact F W pins S σ H1 Q j m
 |false=>exact(H1,j,m)
theorem pw_or(z:PT X a tA)(F:PW X (.BoolOp .Or (b::bI) pos) tB'):PW X (.BoolOp .Or (a::b::bI) pos) (HH tA tB'):=by
 intro W pins s σ H Q I h;apply isTrue_or (aK (z pins s σ H _ I h) λc S ⟨H1,j,m⟩=>?_);cases c with
 |true=>exact(H1,j,m)
 |false=>exact F W pins S σ H1 Q j m
def pG(m:PT X a tA):PT X (.UnaryOp .Not a pos) (Zw tA):=by
 show Õ;exact isTrue_not (aK (m pins s σ H (λc H1=>Q (!c) H1) I h) λ_ _ ⟨H1,j,q⟩=>⟨H1,j,q⟩)
def HI(ta tb:TE):TE:=λσ H Q=>ta σ H λx H1=>yF x λc=>if c=true then tb σ H1 Q else Q (.bl false) H1
def HJ(ta tb:TE):TE:=λσ H Q=>ta σ H λx H1=>yF x λc=>if c=true then Q (.bl true) H1 else tb σ H1 Q
def Zx(ta:TE):TE:=λσ H Q=>ta σ H λx H1=>yF x λc=>Q (.bl (!c)) H1
def rW{op}(h:Ϩ t):PE X (.BoolOp op [a] pos) t:=λpins s σ H Q I hw=>BoolOp_one Âq
def ue(z:Ϩ ta)(F:PE X (.BoolOp .And (b::bI) pos) tb):PE X (.BoolOp .And (a::b::bI) pos) (HI ta tb):=by
 show Õ;apply BoolOp_and (aK (z pins s σ H _ I h) λv S ⟨x,H1,m,G,j⟩=>?_);let(c,rfl,j):=j;cases G;apply tW ?_;cases c with
 |true=>exact F pins S σ H1 Q m j
 |false=>exact(.bl false,H1,m,Á,j)
def Py(z:Ϩ ta)(F:PE X (.BoolOp .Or (b::bI) pos) tb):PE X (.BoolOp .Or (a::b::bI) pos) (HJ ta tb):=by
 show Õ;apply BoolOp_or (aK (z pins s σ H _ I h) λv S ⟨x,H1,m,G,j⟩=>?_);let(c,rfl,j):=j;cases G;apply tW ?_;cases c with
 |false=>exact F pins S σ H1 Q m j
 |true=>exact(.bl true,H1,m,Á,j)
def AL(z:Ϩ ta):PE X (.UnaryOp .Not a pos) (Zx ta):=by
 show Õ;apply UnaryOp_ (aK (z pins s σ H _ I h) λv S ⟨x,H1,m,F,j⟩=>?_);let(c,rfl,j):=j;cases F;exact not_of (tW ⟨.bl (!c),H1,m,Á,j⟩)
def wX(t:TT)(ta tb:TE):TE:=λσ H Q=>t σ H λc H1=>if c=true then ta σ H1 Q else tb σ H1 Q
theorem rX(hc:PT X c tA)(z:Ϩ ta)(F:PE X b tb):PE X (.IfExp c a b pos) (wX tA ta tb):=by
 show Õ;apply wpAny_IfExp (aK (hc pins s σ H _ I h) λd S ⟨H1,j,m⟩=>?_);cases d with
 |true=>exact z pins S σ H1 Q j m
 |false=>exact F pins S σ H1 Q j m
end
def aa(K:FR)(H:Hp)(a:Addr)(xs:au):Prop:=
 Rd H a ϲ\/
  ∃(o:Obj)(j:Array Value)(n:Nat),K.lookup a=some o/\o.cls=.type "list"/\o.dict=none/\o.data=.seq j n/\j.size<=sizeLine/\bc xs j.toList
def bu(K:FR)(H:Hp)(a:Addr)(xs:au):Prop:=
 Rd H a ϱ\/
  ∃(o:Obj)(j:Array Value)(n:Nat),K.lookup a=some o/\o.cls=.type "tuple"/\o.data=.seq j n/\j.size<=sizeLine/\bc xs j.toList
def Zy:Value->Option V
 |.none=>some .aJ
 |.bool b=>some (.bl b)
 |.int i _=>some Ây
 |.str x _=>some Çc
 |.bytes b _=>some (.jf b)
 |.float b _=>some (.AD b)
 |.ref a=>some Ĝ
 |.type n=>some (.ty n)
 |_=>none
theorem RelV.abs(r:RelV x u):Zy u=some x:=by
 cases x with
 |aJ=>cases r;rfl
 |bl _=>cases r;rfl
 |int _=>let(t,rfl):=r;rfl
 |str _=>let(t,rfl):=r;rfl
 |jf _=>let(t,rfl):=r;rfl
 |AD _=>let(t,rfl):=r;rfl
 |ref _=>cases r;rfl
 |ty _=>cases r;rfl
def RelV.inj(r:RelV x u)(q:RelV y u):x=y:=aN (r.abs.symm.trans q.abs)
theorem bc.inj:∀{xs ys:au}{U:LV},bc xs U->bc ys U->xs=ys:=by
 intro xs ys U h;induction h generalizing ys with
 |nil=>intro h';cases h';rfl
 |cons r t I=>
  intro h';cases h' with
  |cons j t'=>rw[r.inj j,I t']
section
variable{X:Cx}{pins:bG}{σ:St}{H:Hp}{s:Sh}{a:Addr}{xs ys:au}
def aa.of{K:FR}(h:H a=some ϲ):â a xs:=.inl (.inl h)
def bu.of{K:FR}(h:H a=some ϱ):Ť a xs:=.inl (.inl h)
def Inv.list(I:Ã H s)(h:Àu a xs):∃j:LV,bc xs j/\PlainL s.heap a j.toArray/\xs.length<=sizeLine:=by
 rcases h with h|⟨o,j,n,hk,hc,hd,hs,m,r⟩
 .let(z,j,n,r,e):=h.ok I.ax;exact(j,r,⟨_,n,e,Á,Á,Á⟩,z)
 .apply(j.toList,r,⟨o,n,I.fu a o hk,hc,hd,by assumption⟩,?_);let e:=r.length;symm
def Inv.tuple(I:Ã H s)(h:bu X.K H a xs):∃j:LV,bc xs j/\IsTup s.heap a j.toArray/\xs.length<=sizeLine:=by
 rcases h with h|⟨o,j,n,hk,hc,hs,m,r⟩
 .let(z,j,r,p):=h.ok I.ax;exact(j,r,p,z)
 .apply(j.toList,r,⟨o,I.fu a o hk,hc,n,À hs⟩,?_);let e:=r.length;simp only[wJ] at e;omega
def Inv.AM(I:Ã H s)(h:Àu a xs)(h':Àu a ys):xs=ys:=by
 let(m,r,(o,n,e,_,_,d),_):=I.list h;let(its',z,(O,F,j,_,_,d'),_):=I.list h';rw[e] at j;cases j;rw[d] at d';injection d' with d1 _;let:m=its':=by simpa using cE Array.toList d1
 subst this;exact r.inj z
def Inv.Pz(I:Ã H s)(h:bu X.K H a xs)(h':bu X.K H a ys):xs=ys:=by
 let(m,r,(o,e,_,n,d),_):=I.tuple h;let(its',z,(O,j,_,F,d'),_):=I.tuple h';rw[e] at j;cases j;rw[d] at d';injection d' with d1 _;let:m=its':=by simpa using cE Array.toList d1
 subst this;exact r.inj z
end
abbrev Cx.iD(X:Cx)(E:VP):Cx:={X with xe:=E}
abbrev Cx.vo(X:Cx):Cx:=X.iD λ_ _=>False
def Cx.Ok.iD{X:Cx}(ok:X.Ok)(E:VP):(X.iD E).Ok:=
 ⟨ok.mod,ok.kind,ok.glob,ok.blt,ok.above,ok.inj,ok.has,ok.wW,ok.hd,ok.frames,ok.AG,ok.AH,ok.bs,ok.m7,ok.yB,ok.yC,ok.kG,ok.pC⟩
def Cx.Ok.lU{X:Cx}{E:VP}(ok:(X.iD E).Ok):X.Ok:=
 ⟨ok.mod,ok.kind,ok.glob,ok.blt,ok.above,ok.inj,ok.has,ok.wW,ok.hd,ok.frames,ok.AG,ok.AH,ok.bs,ok.m7,ok.yB,ok.yC,ok.kG,ok.pC⟩
section
variable{X:Cx}{pins:bG}{σ:St}{H:Hp}{s:Sh}{E:VP}
def Inv.iD(I:Ã H s)(E:VP):Inv (X.iD E) pins σ H s:=⟨I.ok.iD E,I.os,I.bare,I.base,I.loc,I.cell,I.free,I.kH,I.pin,I.ax,I.len⟩
def Inv.lU(I:Inv (X.iD E) pins σ H s):Ã H s:=⟨I.ok.lU,I.os,I.bare,I.base,I.loc,I.cell,I.free,I.kH,I.pin,I.ax,I.len⟩
theorem SP.lU(h:SP (X.iD E) pins D f s'):SP X pins D f s':=by
 cases f with
 |next=>let(σ',H',I,q):=h;exact(σ',H',I.lU,q)
 |brk=>let(σ',H',I,q):=h;exact(σ',H',I.lU,q)
 |cont=>let(σ',H',I,q):=h;exact(σ',H',I.lU,q)
 |ret u=>let(v,σ',H',I,r,q):=h;exact(v,σ',H',I.lU,r,q)
def kI.vo{st:List Stmt}{t:TS}(h:kI X.vo st t):kI X st t:=λpins s σ H D I j=>
 iU (h pins s σ H D (I.iD _) j) (λ_ _ q=>q.lU) λ_ _ z=>False.elim z
end
section
variable{X:Cx}{st:Stmt}{bI:List Stmt}{t u:TS}{e:Expr}{te:TE}{pos:Pos}
def PB:TS:=λD σ H=>D.nx σ H
def HK(t u:TS):TS:=λD σ H=>t {D with nx:=u D} σ H
def d7:kI X [] PB:=λ_ _ σ H _ I h=>C9 ⟨σ,H,I,h⟩
def aB(m:PS X st t)(h2:kI X bI u):kI X (st::bI) (HK t u):=by
 intro pins s σ H D I h;apply OL (aK (m pins s σ H {D with nx:=u D} I h) λf S q=>?_);cases f with
 |next=>
  let(σ',H',j,q):=q;exact h2 pins S σ' H' D j q
 |ret v=>exact q
 |brk=>exact q
 |cont=>exact q
theorem aD(j:PS X st t):kI X [st] t:=by
 intro pins s σ H D I h;apply OL (aK (j pins s σ H D I h) λf S q=>?_);cases f with
 |next=>exact C9 q
 |ret v=>exact q
 |brk=>exact q
 |cont=>exact q
def Inv.quiet(I:Ã H s):interactive X.env=false:=by simp[interactive,I.ok.kind]
def Zz(te:TE):TS:=λD σ H=>te σ H λ_ H1=>D.nx σ H1
def rY(m:ϝ te)(hs:swapsWith e none pos.line X.env=pure false:=by rfl):PS X (.Expr e pos) (Zz te):=by
 intro pins s σ H D I h;exact wpAny_Expr_any (aK (m pins s σ H _ I h) λv S ⟨x,H1,j,F,z⟩=>⟨σ,H1,j,z⟩) I.quiet hs
def AN(te:TE):TS:=λD σ H=>te σ H D.rt
def aY(m:ϝ te):PS X (.Return (some e) pos) (AN te):=by
 intro pins s σ H D I h;exact wpAny_Return_some (aK (m pins s σ H _ I h) λv S ⟨x,H1,j,F,z⟩=>⟨x,σ,H1,j,F,z⟩)
def ZA(c:TT)(t u:TS):TS:=λD σ H=>c σ H λb H1=>if b=true then t D σ H1 else u D σ H1
theorem dq(hc:PT X c tc)(z:kI X a t)(F:kI X b u):PS X (.If c a b pos) (ZA tc t u):=by
 intro pins s σ H D I h;apply wpAny_If (aK (hc pins s σ H _ I h) λd S ⟨H1,j,m⟩=>?_);cases d with
 |true=>exact z pins S σ H1 D j m
 |false=>exact F pins S σ H1 D j m
end
abbrev TG:=V->St->Hp->(St->Hp->Prop)->Prop
abbrev AQ:=au->St->Hp->(St->Hp->Prop)->Prop
def PG(X:Cx)(j:Expr)(t:TG):Prop:=
 ∀(pins:bG)(s:Sh)(σ:St)(H:Hp)(v:V)(u:Value)(Q:St->Hp->Prop),Ã H s->RelV v u->t v σ H Q->
  wpAny È X.A (assign j X.env u) (λ_ s'=>WP X pins Q s') X.xe s
def DA(X:Cx)(ts:List Expr)(t:AQ):Prop:=
 ∀(pins:bG)(s:Sh)(σ:St)(H:Hp)(vs:au)(U:LV)(Q:St->Hp->Prop),Ã H s->bc vs U->t vs σ H Q->
  wpAny È X.A (assignInOrder ((assignEach ts X.env).map (·.2)) U) (λ_ s'=>WP X pins Q s') X.xe s
abbrev PD:=V->V->Hp->VK->Prop
def ZC(X:Cx)(op:Operator)(t:PD):Prop:=
 ∀(pins:bG)(s:Sh)(σ:St)(H:Hp)(x y:V)(v u:Value)(Q:VK),Ã H s->RelV x v->RelV y u->t x y H Q->
  wpAny È X.A (inplaceOp op v u) (ñ Q) X.xe s
section
def pH(i:Nat):TG:=λv σ H Q=>Q Ļ H
def dJ(i:Nat)(m:X.N.Nodup)(hi:X.N[i]? =some x:=by rfl)(F:Loc X.env.scope x:=by first|exact .inl Á|exact .inr Á)(z:X.fn x=true\/X.env.scope.names.lookup x=some .local:=by first|exact .inl Á|exact .inr Á|assumption):PG X Ϲ (pH i):=by
 intro pins s σ H v u Q I r h;exact wpAny_assign_Name (Dx I m hi F r (λs' j=>⟨_,H,j,h⟩) z)
def PF:AQ:=λvs σ H Q=>vs=[]/\Q σ H
inductive HL(t:TG)(u:AQ)(vs:au)(σ:St)(H:Hp)(Q:St->Hp->Prop):Prop
 |mk (v r:_) (_:vs=v::r) (_:t v σ H λσ' H'=>u r σ' H' Q)
def ZD:DA X [] PF:=by
 intro pins s σ H vs U Q I r h;let(e,h):=h;subst e;cases r;exact assignInOrder_nil ⟨σ,H,I,h⟩
def PJ(z:PG X e t)(h2:DA X es u)(hs:(assignEach (e::es) X.env).map (·.2)=assign e X.env::(assignEach es X.env).map (·.2):=by rfl):DA X (e::es) (HL t u):=by
 intro pins s σ H vs U Q I r h;let(v,J,m,h):=h;subst m;cases r with
 |cons r G=>
  rw[hs];apply assignInOrder_cons (aK (z pins s σ H _ _ _ I r h) λ_ S ⟨σ1,H1,j,F⟩=>?_);exact h2 pins S σ1 H1 _ _ Q j G F
inductive PK(K:FR)(n:Nat)(t:AQ)(v:V)(σ:St)(H:Hp)(Q:St->Hp->Prop):Prop
 |mk (a xs:_) (_:v=.ref a) (_:Ť a xs) (_:xs.length=n) (_:t xs σ H Q)
def ZE{es:List Expr}{k:Nat}{t:AQ}{n:Nat}(hc:X.calm=true)(h:DA X es t)(G:(assignEach es X.env).length=n:=by rfl) (S:(assignEach es X.env).findIdx? (·.1)=none:=by rfl):PG X (.Tuple es k pos) (PK X.K n t):=by
 intro pins s σ H v u Q I r j;let(a,xs,z,J,F,j):=j;subst z;cases r;let(W,U,M,Y):=I.tuple J;apply assign_Tuple_tuple ć M (by simp[G,<-F,U.length]) S λh' O=>?_;let m:Ã H {s with heap:=h'}:=I.kept (t':=s.toks) λb o e=>O b o Çr e;exact h pins _ σ H xs _ Q m (by assumption) j
abbrev g2(K:FR)(i j:Nat):TG:=PK K 2 (HL (pH i) (HL (pH j) PF))
def iE{k:Nat}{p q:Pos}(i j:Nat)(m:X.N.Nodup)(hc:X.calm=true:=by rfl)(hi:X.N[i]? =some x:=by rfl)(G:X.N[j]? =some y:=by rfl)(I:Loc X.env.scope x:=by first|exact .inl Á|exact .inr Á)(J:Loc X.env.scope y:=by first|exact .inl Á|exact .inr Á)(z:X.fn x=true\/X.env.scope.names.lookup x=some .local:=by first|exact .inr Á|exact .inl Á) (F:X.fn y=true\/X.env.scope.names.lookup y=some .local:=by first|exact .inr Á|exact .inl Á):PG X (.Tuple [.Name x p,.Name y q] k pos) (g2 X.K i j):=
 ZE hc (PJ (dJ i m hi I z) (PJ (dJ j m G J F) ZD))
def yG(te:TE)(g:TG):TS:=λD σ H=>te σ H λx H1=>g x σ H1 D.nx
def cj(i:Nat)(z:X.N.Nodup)(F:ϝ te)(hi:X.N[i]? =some x:=by rfl)(J:Loc X.env.scope x:=by first|exact .inl Á|exact .inr Á)(hs:swapsWith e (some (.Name x lr)) pos.line X.env=pure false:=by rfl)(G:X.fn x=true\/X.env.scope.names.lookup x=some .local:=by first|exact .inl Á|exact .inr Á|assumption):
  PS X (.Assign [.Name x lr] e pos) (yG te (pH i)):=by
 intro pins s σ H D I h;apply wpAny_Assign_Name (aK (F pins s σ H _ I h) λv S ⟨y,H1,j,O,M⟩=>?_) hs;exact Dx j z hi J O (λU m=>⟨_,H1,m,M⟩) G
def ZF(i:Nat)(te:TE)(m:PD):TS:=λD σ H=>∃x,σ[i]? =some (some x)/\te σ H λy H1=>m x y H1 λz j=>D.nx (σ.set i (some z)) j
def ZG(S:X.N.Nodup)(hi:X.N[i]? =some x)(j:Loc X.env.scope x)(U:ϝ te)(ho:ZC X op ti)(W:X.fn x=true\/X.env.scope.names.lookup x=some .local:=by first|exact .inl Á|exact .inr Á|assumption):
  PS X (.AugAssign (.Name x lr) op e pos) (ZF i te ti):=by
 intro pins s σ H D I h;let(v,O,h):=h;let(m,hn,Y):=I.loc;let Z:wV X.env.scope x:=by rcases j with k|k;exact .inl k;exact .inr (.inl k)
 let(u,r,l):=Y i x v hi O Z;apply wpAny_AugAssign_Name ?_;let go:wpAny È X.A ϔ (λw s₂=>wpAny È X.A (inplaceOp op u w) (λr s₃=>wpAny È X.A (storeName X.env x r) (λ_=>SP X pins D .next) X.xe s₃) X.xe s₂) X.xe s:=by
  apply aK (U pins s σ H _ I h) λw s1 ⟨y,H1,G,r1,q1⟩=>?_;apply aK (ho pins s1 σ H1 v y u w _ G r r1 q1) λz s2 ⟨zv,F,J,r2,q2⟩=>?_;exact Dx J S hi j r2 (λs3 M=>⟨_,F,M,q2⟩) W
 rcases l with ⟨hk,hm⟩|⟨hk,c,hc,yD⟩
 .exact wpAny_loadName_local I.ok.kind hk hn hm go
 .rcases hk with hk|hk
  .exact wpAny_loadName_cell I.ok.kind hk hc yD go
  .rcases j with k|k
   .let:X.env.scope.names.lookup x=some .free:=hk;symm
   .let:X.env.scope.names.lookup x=some .free:=hk;symm
end
section
def ZI(c:TT)(tb:TS):TS:=λD σ H=>∃W:Nat->St->Hp->Prop,(∃m,W m σ H)/\∀m σ H,W m σ H->
 c σ H λb H1=>if b=true then ∃N:St->Hp->Prop,(∀σ' H',N σ' H'->∃M,M<m/\W M σ' H')/\tb {D with nx:=N,ct:=N,bk:=D.nx} σ H1 else D.nx σ H1
def ZJ{c:Expr}{Y:List Stmt}{tc:TT}{tb:TS}(hp:PassesOwn È X.A X.env X.xe)(hc:PT X c tc)(hb:kI X Y tb):PS X (.While c Y [] pos) (ZI tc tb):=by
 intro pins s σ H D I h;let(W,(m0,w0),turn):=h;apply wpAny_While (codeAny_whileLoop (λn s'=>∃σ' H',ϩ s'/\W n σ' H') ?_ m0 ⟨σ,H,I,w0⟩);rintro n s1 ⟨σ1,H1,I1,w1⟩;apply Au hp (aK (hc pins s1 σ1 H1 _ I1 (turn n σ1 H1 w1)) λb s2 ⟨S,U,m⟩=>?_);cases b with
 |true=>
  let(N,Z,m):=m;rw[af rfl];apply Au hp (aK (hb pins s2 σ1 S _ U m) λf s3 z=>?_);cases f with
  |next=>
   let(σ3,j,F,J):=z;let(M,G,O):=Z σ3 j J;exact(M,G,σ3,j,F,O)
  |cont=>
   let(σ3,j,F,J):=z;let(M,G,O):=Z σ3 j J;exact(M,G,σ3,j,F,O)
  |brk=>exact z
  |ret v=>exact z
 |false=>
  rw[ah d9];exact C9 ⟨σ1,S,U,m⟩
end
structure It where
 go:Nat->Hp->Prop
 m8:Nat->Hp->V->Hp->Prop
 stop:Nat->Hp->Prop
def lV(X:Cx)(pins:bG)(H:Hp)(b:Addr):Prop:=
 H b=none/\b≠X.env.locals/\b∉X.fs/\(b∈X.ex\/X.g8.heap.objs.size<=b)/\(∀x c,X.env.cells.lookup x=some c->c≠b)/\∀p∈X.pn++pins,p.1≠b
def Inv.vp(I:Ã H s)(j:s.heap.objs.size<=b)(m:H' b=none):ľ H' b:=by
 apply(m,tU (iq I.lt j),I.Zr j,.inr (gQ I.sz j),λx c e z=>?_,λp F z=>?_)
 .let(v,q):=I.cell x c e;exact absurd (iq q.lt É) (qx _)
 .exact absurd (iq (cZ (I.pin p F).1) É) (qx _)
structure Turn(P:Pg)(w:Wd)(K:FR)(tg:Expr)(J:It)(fp:LA)(it:Addr)(tn:Nat->Heap->Prop):Prop where
 mem:it∈fp
 obj:∀i h,tn i h->∀b∈fp,∃o,h.get? b=some o/\∀v,o.data≠ .cell v
 keep:∀i h h',tn i h->(∀b∈fp,∀o,h.get? b=some o->h'.get? b=some o)->tn i h'
 item:∀(X:Cx),X.prog=P->X.w=w->X.K=K->X.calm=true->∀(i:Nat)(pins:bG)(s:Sh)(σ:St)(H:Hp)(E:VP),Ã H s->(∀b∈fp,ľ H b)->tn i s.heap->J.go i H->
  wpAny Àj X.A (pyNext Ãa) (λr s1=>∃u,r=some u/\
   wpAny Àj X.A (letOwnedTupleGo tg Ãa u) (λ_ s2=>∃x H',Ã H' s2/\RelV x u/\J.m8 i H x H'/\tn (i+1) s2.heap/\∀b∈fp,H' b=none) E s1) E s
 done:∀(X:Cx),X.prog=P->X.w=w->X.K=K->X.calm=true->∀(i:Nat)(pins:bG)(s:Sh)(σ:St)(H:Hp)(E:VP),Ã H s->(∀b∈fp,ľ H b)->tn i s.heap->J.stop i H->
  wpAny Àj X.A (pyNext Ãa) (λr s1=>r=none/\Ã H s1) E s
 self:∀(A:Around)(i:Nat)(s:Sh)(Q:VP)(E:VP),tn i s.heap->Q Ãa s->wpAny Àj A (pyIter Ãa) Q E s
abbrev TI:=St->Hp->(It->Hp->Prop)->Prop
def AR(X:Cx)(pins:bG)(σ:St)(tg:Expr)(R:It->Hp->Prop)(j:Value)(S:Sh):Prop:=
 ∃(I:Addr)(F:LA)(tn:Nat->Heap->Prop)(J:It)(H':Hp),j=.ref I/\Ã H' S/\Turn X.prog X.w X.K tg J F I tn/\tn 0 S.heap/\(∀b∈F,ľ H' b)/\R J H'
def PI(X:Cx)(tg iter:Expr)(W:TI):Prop:=
 ∀(pins:bG)(s:Sh)(σ:St)(H:Hp)(R:It->Hp->Prop),Ã H s->W σ H R->
  wpAny È X.A (eval iter X.env) (λv S=>wpAny È X.A (pyIter v) Äp X.xe S) X.xe s
def DB(z:s.heap.get? it=some o)(hc:o.cls=.type n)(hd:o.data=.fields vs)(m:["enumerate","zip","dict_itemiterator","dict_reverseitemiterator","odict_iterator","itertools.zip_longest","itertools.pairwise"].contains n=false) (j:Q () s):ž (letOwnedTupleGo tg Ãa u) Q E s:=by
 delta letOwnedTupleGo;cases tg <;> first
  |exact df j
  |(cases u <;> first
    |exact df j
    |(apply aP (wpAny_load z ?_)
      rw[hc,hd];show wpAny M A (if (["enumerate","zip","dict_itemiterator","dict_reverseitemiterator","odict_iterator","itertools.zip_longest","itertools.pairwise"].contains n&&vs[0]? ==some (rawInt _))=true then _ else _) Q E s;rw[ah (by intro h;rw[m,lu] at h;cases h)];exact df j))
def vq(K:FR)(a:Addr):It:=
 ⟨λi H=>∃xs x,â a xs/\xs[i]? =some x,λi H x H'=>H'=H/\∀xs,â a xs->xs[i]? =some x,λi H=>∃xs,â a xs/\xs.length<=i⟩
def wY(lo:Int)(n:Nat):It:=⟨λi _=>i<n,λi H x H'=>H'=H/\x=.int (lo+i),λi _=>n<=i⟩
def ZK{P:Pg}{w:Wd}{K:FR}{tg:Expr}(a it:Addr):Turn P w K tg (vq K a) [it] it (λi h=>h.IsListIter it a i) where
 mem:=by simp
 obj:=λi h st b hb=>by
  let e:b=it:=À hb
  subst e;let(o,e,c,d):=st;exact(o,e,λv z=>by rw[d] at z;cases z)
 keep:=λi h h' st k=>st.at λo e=>k it Ä o e
 item:=by
  show Ó;subst hP hw hK;let(xs,x,j,m):=hg;let(J,F,p,U):=I.list j;let(u,M,W):=F.get m;show ê;apply wpAny_pyNext_list_item st p.isList (x:=u) (À M) λh' O Y=>?_;let G:Ã H {s with heap:=h'}:=I.turned (t':=s.toks) (λb o hb e=>(Y.2 b hb).trans e) f0 f1 f3 f4 f5;let(o,e,c,d):=id O;exact(u,Á,DB (s:={s with heap:=h'}) e c d Ù ⟨x,H,G,W,⟨Á,λys S=>by rw[I.AM S j];exact m⟩,O,λb hb=>(hf b hb).1⟩)
 done:=by
  show Ó;subst hP hw hK;let(xs,j,m):=hg;let(J,F,p,U):=I.list j;show ê;let Z:=F.length;exact wpAny_pyNext_list_end ć st p.isList (by simp;omega) λh' eb=>⟨Á,I.turned (t':=s.toks) ϐ f0 f1 f3 f4 f5⟩
 self:=λ_ _ _ _ _ st h=>wpAny_pyIter_listiter st h
def ZL{P:Pg}{w:Wd}{K:FR}{tg:Expr}(it:Addr)(lo:Int)(n:Nat):Turn P w K tg (wY lo n) [it] it (λi h=>IsRangeIter h it (lo+(i:Nat)*1) ((n:Int)-(i:Nat)) 1) where
 mem:=by simp
 obj:=λi h st b hb=>by
  let e:b=it:=À hb
  subst e;exact⟨_,st,λv z=>by
   let Z:Data.fields _=Data.cell v:=z;cases Z⟩
 keep:=λi h h' st k=>k it Ä _ st
 item:=by
  show Ó;subst hP hw hK;show ê;let W:=Walks.range (prog:=X.prog) (w:=X.w) ć it lo 1 n;apply W.item i s _ _ hg st λv h' tk m O F=>?_;let(t,rfl):=m;let j:Ã H {s with heap:=h',toks:=tk}:=I.turned (λb o hb e=>F b o (À hb) e) f0 f1 f3 f4 f5;apply⟨_,Á,DB (s:={s with heap:=h',toks:=tk}) (n:="range_iterator") O Á Á Ù ⟨.int (lo+i),H,j,⟨t,?_⟩,⟨Á,Á⟩,O,λb hb=>(hf b hb).1⟩⟩;rw[Int.mul_one]
 done:=by
  show Ó;subst hP hw hK;show ê;exact wpAny_pyNext_range_end ć st (by let:n<=i:=hg;omega) λh' eb=>⟨Á,I.turned (t':=s.toks) ϐ f0 f1 f3 f4 f5⟩
 self:=λ_ _ _ _ _ st h=>wpAny_pyIter_rangeiter st h
section
def ZM(K:FR)(tl:TE):TI:=λσ H R=>tl σ H λx H1=>∃a,x=.ref a/\(∃xs,aa K H1 a xs)/\R (vq K a) H1
def eX{l:Expr}{tl:TE}(m:PE X l tl):PI X tg l (ZM X.K tl):=by
 intro pins s σ H R I h;apply aK (m pins s σ H _ I h) λv S ⟨x,H1,I1,G,F⟩=>?_;let(a,e,(xs,z),q):=F;subst e;cases G;let(J,O,p,M):=I1.list z;apply X0 p.isList ?_;apply(S.heap.objs.size,[S.heap.objs.size],_,_,H1,Á,I1.kept (t':=S.toks) λb o e=>dh _ e,ZK a _,⟨_,ib _ Á,Á,Á⟩,λb j=>?_,q);let e:b=S.heap.objs.size:=À j
 subst e;exact I1.vp (bJ _) Ãq
def PL{pins:bG}{σ:St}{H:Hp}{s:Sh}{R:It->Hp->Prop}{E:VP}{lo hi:Int}{t u v:Tok}{tk:Nat}(I:Ã H s)(z: -(2^62)<=lo)(h2:lo<2^62)(F: -(2^62)<=hi)(G:hi<2^62)(q:R (wY lo (hi-lo).toNat) H):wpAny È X.A (pyIter Ķ) Äp E {s with heap:=s.heap.push {cls:=.type "range",data:=.fields #[.int lo t,.int hi u,.int 1 v]},toks:=tk}:=by
 apply wpAny_pyIter_range (IsRange.new ..) (small_one z h2 F G) ?_;let I1:Ã H {s with heap:=s.heap.push {cls:=.type "range",data:=.fields #[.int lo t,.int hi u,.int 1 v]},toks:=tk}:=I.kept λb o e=>dh _ e;refine⟨(s.heap.push {cls:=.type "range",data:=.fields #[.int lo t,.int hi u,.int 1 v]}).objs.size,[(s.heap.push {cls:=.type "range",data:=.fields #[.int lo t,.int hi u,.int 1 v]}).objs.size],_,_,H,Á,
  I1.kept (t':=tk) λb o e=>dh _ e,ZL _ lo (hi-lo).toNat,?_,λb J=>?_,q⟩
 .let j:lo+((0:Nat):Int)*1=lo:=by simp
  let m:(((hi-lo).toNat:Nat):Int)-((0:Nat):Int)=Builtin.Range.rangeSize lo hi 1:=by rw[rangeSize_one];split <;> omega
  show IsRangeIter _ _ (lo+((0:Nat):Int)*1) ((((hi-lo).toNat:Nat):Int)-((0:Nat):Int)) 1;rw[j,m];exact ib _ Á
 .let e:b=(s.heap.push {cls:=.type "range",data:=.fields #[.int lo t,.int hi u,.int 1 v]}).objs.size:=by simpa using J
  subst e;exact I1.vp (bJ _) Ãq
def ZN(ta:TA):TI:=λσ H R=>ta σ H λvs H1=>∃j:Int,vs=[.int j]/\ -(2^62)<=j/\j<2^62/\R (wY 0 j.toNat) H1
def ZO(ta:TA):TI:=λσ H R=>ta σ H λvs H1=>∃i j:Int,vs=[.int i,.int j]/\(-(2^62)<=i/\i<2^62/\ -(2^62)<=j/\j<2^62)/\R (wY i (j-i).toNat) H1
def HN{a:Expr}{ta:TA}{p pos:Pos}(hg:Gl X "range")(hm:X.mg "range"=none)(F:PA X [a] ta)(hs:starEach [a] X.env=[(false,eval a X.env)]:=by rfl):PI X tg (.Call (.Name "range" p) [a] [] pos) (ZN ta):=by
 intro pins s σ H R I h;apply Call_ (Àh boot_range (Da (aK (F pos pins s σ H _ I h) λU S ⟨vs,H1,z,J,m⟩=>?_) hs Á));let(j,e,m,G,q):=m;subst e;cases J with
 |cons r M=>
  cases M;let(t,rfl):=r;exact call_range_1 (PL z Æ Æ m G É)
def ZP(hg:Gl X "range")(hm:X.mg "range"=none)(G:PA X [a,b] ta)(hs:starEach [a,b] X.env=[(false,eval a X.env),(false,eval b X.env)]:=by rfl)(W:starEach [b] X.env=[(false,eval b X.env)]:=by rfl):
  PI X tg (.Call (.Name "range" p) [a,b] [] pos) (ZO ta):=by
 intro pins s σ H R I h;apply Call_ (Àh boot_range (Da (aK (G pos pins s σ H _ I h) λZ Y ⟨vs,H1,F,U,m⟩=>?_) É (by rw[W];rfl)));let(i,j,e,(m,J,M,O),q):=m;subst e;cases U with
 |cons r z=>
  cases z with
  |cons S z=>
   cases z;let(t,rfl):=r;let(t',rfl):=S;exact call_range_2 (PL F m J M O q)
def ZQ(z:TI)(g:TG)(tb:TS):TS:=λD σ H=>z σ H λJ H1=>∃W:Nat->Nat->St->Hp->Prop,(∃m,W 0 m σ H1)/\∀i m σ H,W i m σ H->
 (J.stop i H/\D.nx σ H)\/(J.go i H/\∃N:St->Hp->Prop,(∀σ' H',N σ' H'->∃M,M<m/\W (i+1) M σ' H')/\∀x H',J.m8 i H x H'->g x σ H' λσ2 j=>tb {D with nx:=N,ct:=N,bk:=D.nx} σ2 j)
def AS(F:LA)(h:Heap):bG:=F.filterMap λb=>(h.get? b).map λo=>(b,o)
def HP(j:b∈fp)(e:h.get? b=some o):(b,o)∈AS fp h:=G0.mpr ⟨b,j,by rw[e];rfl⟩
def ZR(j:p∈AS fp h):p.1∈fp/\h.get? p.1=some p.2:=by
 let(b,m,e):=G0.mp j;cases q:h.get? b with
 |none=>symm
 |some o=>
  grind
def Inv.pinned(I:Ã H s)(M:∀b∈fp,ľ H b)(O:∀b∈fp,∃o,s.heap.get? b=some o/\∀v,o.data≠ .cell v):Inv X (pins++AS fp s.heap) σ H s:=
 I.HC λp S=>(gR.mp S).elim (λz=>I.pin p (tX _ z)) λz=>by
  let(m,e):=ZR z;let(F,G,J,_):=M p.1 m;let(o,j,d):=O p.1 m;rw[e] at j;cases j;exact(e,F,G,J,d)
def Inv.DC(I:Inv X (pins++pl) σ H s):Ã H s:=I.HC λp j=>I.pin p (tX _ (As _ j))
def m9(O:PassesOwn È X.A X.env X.xe)(hc:X.calm=true)(hi:PI X tg iter wi)(hg:PG X tg g)(F:kI X gM tb)(hs:∀x,foldedSetIterable iter X.env x=pure x:=by intro _;rfl):PS X (.For tg iter gM [] pos) (ZQ wi g tb):=by
 intro pins s σ H D I h;apply wpAny_For (aK (hi pins s σ H _ I h) λv s1 h1=>aK h1 λHM s2 h2=>?_) hs;let(it,M,tn,J,H2,e,I2,T,DE,f2,W,(m0,w0),turn):=h2;subst e;let Z:∀{H':Hp},(∀b∈M,H' b=none)->∀b∈M,ľ H' b:=λhn b F=>⟨hn b F,(f2 b F).2⟩;apply codeAny_forLoop_any (λn s'=>∃i σ' H',ϩ s'/\tn i s'.heap/\(∀b∈M,H' b=none)/\W i n σ' H') ?_ m0 ⟨0,σ,H2,I2,DE,λb F=>(f2 b F).1,w0⟩;rintro n s3 ⟨i,σ3,U,I3,DF,PM,w3⟩;rcases turn i n σ3 U w3 with ⟨stop,qn⟩|⟨go,N,hN,step⟩
 .apply Au O (aK (T.done X Á Á Á hc i pins s3 σ3 U X.xe I3 (Z PM) DF stop) λr s4 ⟨hr,I4⟩=>?_);subst hr;exact C9 ⟨σ3,U,I4,qn⟩
 .apply Au O (aK (T.item X Á Á Á hc i pins s3 σ3 U X.xe I3 (Z PM) DF go) λr s4 ⟨u,hr,h4⟩=>?_);subst hr;apply Au O (aK h4 λ_ s5 ⟨x,H5,I5,r5,y5,yH,ZS⟩=>?_);let ZT:=I5.pinned (Z ZS) (T.obj _ _ yH);apply Au O (aK (hg _ s5 σ3 H5 x u _ ZT r5 (step x H5 y5)) λ_ s6 ⟨σ6,H6,I6,q6⟩=>?_);apply Au O (aK (F _ s6 σ6 H6 _ I6 q6) λf Y G=>?_);let again:∀{σ7:St}{j:Hp},Inv X (pins++AS M s5.heap) σ7 j Y->N σ7 j->∃m,m<n/\∃i σ' H',ϩ Y/\tn i Y.heap/\(∀b∈M,H' b=none)/\W i m σ' H':=λ{σ7 j}z S=>by
   let(m',hm,w7):=hN σ7 j S;apply(m',hm,i+1,σ7,j,z.DC,T.keep _ _ _ yH λb F o e=>(z.pin (b,o) (tX _ (tX _ (HP F e)))).1,λb F=>?_,w7);let(o,e,d):=T.obj _ _ yH b F;exact(z.pin (b,o) (tX _ (tX _ (HP F e)))).2.1
  cases f with
  |next=>let(σ7,j,z,S):=G;exact again z S
  |cont=>let(σ7,j,z,S):=G;exact again z S
  |brk=>let(σ7,j,z,G):=G;exact(σ7,j,z.DC,G)
  |ret v=>let(x7,σ7,j,z,r7,G):=G;exact(x7,σ7,j,z.DC,r7,G)
end
def w6{K:FR}{a:Addr}{xs:au}{g:TG}{tb:TS}{D:Ends}{σ:St}{H:Hp}(Pv:Nat->St->Hp->Prop)(h0:Pv 0 σ H)(F:∀i σ H,i<=xs.length->Pv i σ H->â a xs)(hs:∀i x σ H,xs[i]? =some x->Pv i σ H->g x σ H λσ2 j=>tb {D with nx:=Pv (i+1),ct:=Pv (i+1),bk:=D.nx} σ2 j) (hd:∀σ H,Pv xs.length σ H->D.nx σ H):
  ∃W:Nat->Nat->St->Hp->Prop,(∃m,W 0 m σ H)/\∀i m σ H,W i m σ H->
   ((vq K a).stop i H/\D.nx σ H)\/((vq K a).go i H/\∃N:St->Hp->Prop,(∀σ' H',N σ' H'->∃M,M<m/\W (i+1) M σ' H')/\∀x H',(vq K a).m8 i H x H'->g x σ H' λσ2 j=>tb {D with nx:=N,ct:=N,bk:=D.nx} σ2 j):=by
 refine í;rintro i m σ H ⟨rfl,hi,p⟩;let q:=F i σ H hi p;by_cases z:i<xs.length
 .apply .inr ⟨⟨xs,xs[i],q,by simp[z]⟩,Pv (i+1),λσ' H' G=>⟨xs.length-(i+1),by omega,rfl,z,G⟩,λx H' y=>?_⟩;let(e,y):=y;subst e;exact hs i x σ _ (y xs q) p
 .let e:i=xs.length:=by omega
  subst e;exact .inl ⟨⟨xs,q,bJ _⟩,hd σ H p⟩
abbrev R2:=V->V->Hp->VK->Prop
def eS(X:Cx)(f:Value->Value->Sem Value)(r:R2):Prop:=
 ∀(pins:bG)(s:Sh)(σ:St)(H:Hp)(x y:V)(v u:Value)(Q:VK),Ã H s->RelV x v->RelV y u->r x y H Q->
  wpAny È X.A (f v u) (ñ Q) X.xe s
def DG(X:Cx)(f:Value->Sem Value)(r:V->Hp->VK->Prop):Prop:=
 ∀(pins:bG)(s:Sh)(σ:St)(H:Hp)(x:V)(v:Value)(Q:VK),Ã H s->RelV x v->r x H Q->
  wpAny È X.A (f v) (ñ Q) X.xe s
def lD(X:Cx)(f:Value)(r:au->Hp->VK->Prop):Prop:=
 ∀(pins:bG)(s:Sh)(σ:St)(H:Hp)(xs:au)(U:LV)(Q:VK),Ã H s->bc xs U->r xs H Q->
  wpAny È X.A (call f U) (ñ Q) X.xe s
def ZU(X:Cx)(r:V->Hp->(Bool->Hp->Prop)->Prop):Prop:=
 ∀(pins:bG)(s:Sh)(σ:St)(H:Hp)(x:V)(v:Value)(Q:Bool->Hp->Prop),Ã H s->RelV x v->r x H Q->
  wpAny È X.A (truthy v) Âu X.xe s
def bU(r:R2)(ta tb:TE):TE:=λσ H Q=>ta σ H λx H1=>tb σ H1 λy j=>r x y j Q
def DH(r:V->Hp->VK->Prop)(ta:TE):TE:=λσ H Q=>ta σ H λx H1=>r x H1 Q
inductive rI(C:Int->Int->Prop)(g:Int->Int->V)(x:V)(y:V)(H:Hp)(Q:VK):Prop
 |mk (i j:_) (_:x=.int i) (_:y=.int j) (_:C i j) (_:Q Äi H)
inductive gf(g:Int->Int->V)(x:V)(y:V)(H:Hp)(Q:VK):Prop
 |mk (i j:_) (_:x=.int i) (_:y=.int j) (_:Q Äi H)
inductive rU(g:Int->V)(x:V)(H:Hp)(Q:VK):Prop
 |mk (i:_) (_:x=.int i) (_:Q (g i) H)
section
def HQ(F:Ϩ ta)(G:PE X b tb){pins:bG}{s:Sh}{σ:St}{H:Hp}{R:V->V->Hp->Prop}(I:Ã H s)(h:ta σ H λx H1=>tb σ H1 λy j=>R x y j) {Q:VP} {f:Value->Value->Sem Value}(J:∀v u S x y j,Ã j S->RelV x v->RelV y u->R x y j->wpAny È X.A (f v u) Q X.xe S):
  wpAny È X.A (eval a X.env) (λv Z=>wpAny È X.A (eval b X.env) (λu s₂=>wpAny È X.A (f v u) Q X.xe s₂) X.xe Z) X.xe s:=by
 apply aK (F pins s σ H _ I h) λv Y ⟨x,H1,m,U,M⟩=>?_;apply aK (G pins Y σ H1 _ m M) λu S ⟨y,j,z,W,O⟩=>?_;exact J v u S x y j z U W O
def eM{op:Operator}{r:R2}(G:eS X (binaryOp op) r)(z:Ϩ ta)(F:PE X b tb):PE X (.BinOp a op b pos) Æu:=by
 show Õ;exact wpAny_BinOp (HQ z F I h λv u S x y j m J M q=>G pins S σ j x y v u Q m J M q)
def jh(z:DG X (unaryOp op) r)(m:Ϩ ta):PE X (.UnaryOp op a pos) (DH r ta):=by
 show Õ;exact UnaryOp_ (aK (m pins s σ H _ I h) λv S ⟨x,H1,j,G,F⟩=>z pins S σ H1 x v Q j G F)
def AU{f:Value->Value->Sem Value}{C:Int->Int->Prop}{g:Int->Int->Int}(rule:∀(i j:Int)(t u:Tok)(s:Sh)(Q:VP)(E:VP),C i j->Q (.int Äi s.toks) {s with toks:=s.toks+1}->wpAny È X.A (f Áq (.int j u)) Q E s):
  eS X f (rI C λi j=>.int Äi):=by
 show ï;let(i,j,rfl,rfl,hc,q):=h;let(t,rfl):=rx;let(t',rfl):=ry;exact rule i j t t' s _ _ hc ⟨.int Äi,H,I.tok _,⟨_,Á⟩,q⟩
def DI{f:Value->Value->Sem Value}{g:Int->Int->Int}(rule:∀(i j:Int)(t u:Tok)(s:Sh)(Q:VP)(E:VP),Q (.int Äi s.toks) {s with toks:=s.toks+1}->wpAny È X.A (f Áq (.int j u)) Q E s):
  eS X f (gf λi j=>.int Äi):=by
 show ï;let(i,j,rfl,rfl,q):=h;let(t,rfl):=rx;let(t',rfl):=ry;exact rule i j t t' s _ _ ⟨.int Äi,H,I.tok _,⟨_,Á⟩,q⟩
def DJ{f:Value->Value->Sem Value}{g:Int->Int->Bool}(rule:∀(i j:Int)(t u:Tok)(s:Sh)(Q:VP)(E:VP),Q (.bool Äi) s->wpAny È X.A (f Áq (.int j u)) Q E s):
  eS X f (gf λi j=>.bl Äi):=by
 show ï;let(i,j,rfl,rfl,q):=h;let(t,rfl):=rx;let(t',rfl):=ry;exact rule i j t t' s _ _ ⟨.bl Äi,H,I,Á,q⟩
def ZV(i j:Int):Prop:=0<j/\j<1073741824
def PN(i j:Int):Prop:=0<=j/\j<=1000000/\i.natAbs<2^64
def HR(i j:Int):Prop:=(-(2^64)<i/\i<2^64)\/(-(2^64)<j/\j<2^64)
def HR.ok(h:HR i j):IntMulOk i j:=by
 rcases h with ⟨m,h2⟩|⟨m,h2⟩
 .exact .of_left (intBits_le_64 m h2)
 .exact .of_right (intBits_le_64 m h2)
def ZW(k:Nat):(0:Int)<=2^k:=by
 grind
def qG:eS X (binaryOp .Add) (gf λi j=>.int (i+j)):=DI λ_ _ _ _ _ _ _ q=>add_int q
def qH:eS X (binaryOp .Sub) (gf λi j=>.int (i-j)):=DI λ_ _ _ _ _ _ _ q=>sub_int q
def ZX:eS X (binaryOp .Mult) (rI HR λi j=>.int (i*j)):=AU λ_ _ _ _ _ _ _ hc q=>mul_int q hc.ok
def ZY:eS X (binaryOp .FloorDiv) (rI ZV λi j=>.int (i/j)):=AU λi j _ _ _ _ _ hc q=>by
 let m:(0:Int)<j:=hc.1;let h2:j<1073741824:=hc.2;exact floordiv_int Æ (by grind) (.inl (PyProof.noPylong_small Æ))
def HS:eS X (binaryOp .Mod) (rI (λ_ j=>0<j) λi j=>.int (i%j)):=AU λi j _ _ _ _ _ hc q=>by
 let m:(0:Int)<j:=hc;exact mod_int' Æ (by rw[Int.fmod_eq_emod_of_nonneg i Æ];exact q)
def HU:eS X (binaryOp .LShift) (rI PN λi j=>.int (i*2^j.toNat)):=AU λ_ _ _ _ _ _ _ hc q=>lshift_int_small hc.1 hc.2.1 hc.2.2 q
def PP:eS X (binaryOp .RShift) (rI (λ_ j=>0<=j) λi j=>.int (i/2^j.toNat)):=AU λi j _ _ _ _ _ hc q=>
 rshift_int hc (by rw[Int.fdiv_eq_ediv_of_nonneg i (ZW _)];exact q)
def AV:eS X (binaryOp .BitAnd) (gf λi j=>.int Œ):=DI λ_ _ _ _ _ _ _ q=>and_int q
def ZZ:eS X (inplaceOp .Add) (gf λi j=>.int (i+j)):=DI λ_ _ _ _ _ _ _ q=>iadd_int q
def PQ{f:Value->Sem Value}{g:Int->Int}(rule:∀(i:Int)(t:Tok)(s:Sh)(Q:VP)(E:VP),Q (.int (g i) s.toks) {s with toks:=s.toks+1}->wpAny È X.A (f Áq) Q E s):
  DG X f (rU λi=>.int (g i)):=by
 intro pins s σ H x v Q I j h;let(i,rfl,q):=h;let(t,rfl):=j;exact rule i t s _ _ ⟨.int (g i),H,I.tok _,⟨_,Á⟩,q⟩
def jM:DG X (unaryOp .USub) (rU λi=>.int (-i)):=PQ λ_ _ _ _ _ q=>neg_int q
def PR:DG X (unaryOp .Invert) (rU λi=>.int Äv):=PQ λ_ _ _ _ _ q=>invert_int q
end
def PU:V->V->Bool
 |.aJ,.aJ=>true|.aJ,.int _=>true|.int _,.aJ=>true|.aJ,.bl _=>true|.bl _,.aJ=>true|.aJ,.str _=>true|.str _,.aJ=>true
 |.int _,.int _=>true|.bl _,.bl _=>true|.str _,.str _=>true|.jf _,.jf _=>true
 |.int _,.str _=>true|.str _,.int _=>true|.bl _,.str _=>true|.str _,.bl _=>true
 |_,_=>false
def ox:R2:=λx y H Q=>PU x y=true/\Q (.bl (decide (x=y))) H
def Z0:R2:=λx y H Q=>PU x y=true/\Q (.bl (!decide (x=y))) H
def lW:decide (V.int i=V.int j)=(i==j):=by
 grind
def PV:decide (V.bl i=V.bl j)=(i==j):=by
 grind
def PY:decide (V.str i=V.str j)=(i==j):=by
 grind
def PZ:decide (V.jf i=V.jf j)=(i.toList==j.toList):=by
 rw[pj];simp
section
def gh(I:Ã H s)(q:Q (.bl k) H)(e:k=k'):ñ Q (.bool k') s:=by
 subst e;exact(.bl k,H,I,Á,q)
def ic:eS X Áh ox:=by
 show ï;let(hs,q):=h;cases x with
 |aJ=>
  cases rx;cases y with
  |aJ=>cases ry;exact PySem.EqNone.eq_none_none ă
  |bl j=>cases ry;exact PySem.EqNone.eq_none_bool ă
  |int j=>let(t',rfl):=ry;exact PySem.EqNone.eq_none_int ă
  |str j=>let(t',rfl):=ry;exact PySem.EqNone.eq_none_str ă
  |_=>exact absurd (show false=true from hs) d9
 |bl i=>
  cases rx;cases y with
  |aJ=>cases ry;exact PySem.EqNone.eq_bool_none ă
  |bl j=>cases ry;exact eq_bool (gh I q PV)
  |str j=>let(t',rfl):=ry;exact PySem.EqMixed.eq_bool_str ă
  |_=>exact absurd (show false=true from hs) d9
 |int i=>
  let(t,rfl):=rx;cases y with
  |aJ=>cases ry;exact PySem.EqNone.eq_int_none ă
  |int j=>let(t',rfl):=ry;exact eq_int (gh I q lW)
  |str j=>let(t',rfl):=ry;exact PySem.EqMixed.eq_int_str ă
  |_=>exact absurd (show false=true from hs) d9
 |str i=>
  let(t,rfl):=rx;cases y with
  |aJ=>cases ry;exact PySem.EqNone.eq_str_none ă
  |bl j=>cases ry;exact PySem.EqMixed.eq_str_bool ă
  |int j=>let(t',rfl):=ry;exact PySem.EqMixed.eq_str_int ă
  |str j=>let(t',rfl):=ry;exact eq_str (gh I q PY)
  |_=>exact absurd (show false=true from hs) d9
 |jf i=>
  let(t,rfl):=rx;cases y with
  |jf j=>let(t',rfl):=ry;exact PySem.W.eq_bytes (gh I q PZ)
  |_=>exact absurd (show false=true from hs) d9
 |_=>cases y <;> exact absurd (show false=true from hs) d9
def vt:eS X Áp Z0:=by
 show ï;let(hs,q):=h;cases x with
 |aJ=>
  cases rx;cases y with
  |aJ=>cases ry;exact PySem.EqNone.ne_none_none ă
  |bl j=>cases ry;exact PySem.EqNone.ne_none_bool ă
  |int j=>let(t',rfl):=ry;exact PySem.EqNone.ne_none_int ă
  |str j=>let(t',rfl):=ry;exact PySem.EqNone.ne_none_str ă
  |_=>exact absurd (show false=true from hs) d9
 |bl i=>
  cases rx;cases y with
  |aJ=>cases ry;exact PySem.EqNone.ne_bool_none ă
  |bl j=>cases ry;exact ne_bool (gh I q (cE not PV))
  |str j=>let(t',rfl):=ry;exact PySem.EqMixed.ne_bool_str ă
  |_=>exact absurd (show false=true from hs) d9
 |int i=>
  let(t,rfl):=rx;cases y with
  |aJ=>cases ry;exact PySem.EqNone.ne_int_none ă
  |int j=>let(t',rfl):=ry;exact ne_int (gh I q (cE not lW))
  |str j=>let(t',rfl):=ry;exact PySem.EqMixed.ne_int_str ă
  |_=>exact absurd (show false=true from hs) d9
 |str i=>
  let(t,rfl):=rx;cases y with
  |aJ=>cases ry;exact PySem.EqNone.ne_str_none ă
  |bl j=>cases ry;exact PySem.EqMixed.ne_str_bool ă
  |int j=>let(t',rfl):=ry;exact PySem.EqMixed.ne_str_int ă
  |str j=>let(t',rfl):=ry;exact ne_str (gh I q (cE not PY))
  |_=>exact absurd (show false=true from hs) d9
 |jf i=>
  let(t,rfl):=rx;cases y with
  |jf j=>let(t',rfl):=ry;exact PySem.W.ne_bytes (gh I q (cE not PZ))
  |_=>exact absurd (show false=true from hs) d9
 |_=>cases y <;> exact absurd (show false=true from hs) d9
def w8:eS X Çk (gf λi j=>.bl (decide (i<j))):=DJ λ_ _ _ _ _ _ _ q=>lt_int q
def w9:eS X (compareOp .LtE) (gf λi j=>.bl (decide (i<=j))):=DJ λ_ _ _ _ _ _ _ q=>le_int q
def vw:eS X (compareOp .Gt) (gf λi j=>.bl (decide (j<i))):=DJ λ_ _ _ _ _ _ _ q=>gt_int q
def bT(b:Expr)(h:op≠ .In:=by decide)(h2:op≠ .NotIn:=by decide):behindInMarks op b=false:=by
 let j:(op==CmpOp.In)=false:=by cases op <;> first|rfl|exact absurd Á h
 let m:(op==CmpOp.NotIn)=false:=by cases op <;> first|rfl|exact absurd Á h2
 cases b <;> simp[behindInMarks,j,m]
def jy{op:CmpOp}{r:R2}(J:eS X Äm r)(z:Ϩ ta)(F:PE X b tb)(G:behindInMarks op b=false):PE X ϙ Æu:=by
 show Õ;exact wpAny_Compare1 (HQ z F I h λv u S x y j m M O q=>J pins S σ j x y v u Q m M O q) G
def ng(t:TE):TT:=λσ H Q=>t σ H λx H'=>yF x λk=>Q k H'
def cI(U:eS X Äm r)(M:Ϩ ta)(O:PE X b tb)(S:behindInMarks op b=false):PT X ϙ (ng Æu):=by
 show Õ;refine wpAny_isTrue_Compare1 (aK (M pins s σ H _ I h) λv s1 ⟨x,H1,F,r1,W⟩=>aK (O pins s1 σ H1 _ F W) λu s2 ⟨y,j,G,r2,Y⟩=>
  aK (U pins s2 σ j x y v u _ G r1 r2 Y) λc s3 ⟨z,m,J,r3,k,e,Z⟩=>?_) S
 subst e;cases r3;exact tW ⟨m,J,Z⟩
def HV(r G:R2)(ta tb I:TE):TE:=λσ H Q=>ta σ H λx H1=>tb σ H1 λy m=>r x y m λz j=>yF z λk=>
 (if k=true then I σ j λW F=>G y W F Q else Q (.bl false) j)
theorem P0(ho:eS X Äm r)(pE:eS X (compareOp op') r')(W:Ϩ ta)(Y:PE X b tb)(hc:PE X c tc)(Z:lastMarks [op,op'] [b,c]=false:=by with_unfolding_all rfl):PE X (.Compare a [op,op'] [b,c] pos) (HV r r' ta tb tc):=by
 show Õ;refine Compare_chain (aK (W pins s σ H _ I h) λv s1 ⟨x,H1,O,r1,q1⟩=>chain_link (aK (Y pins s1 σ H1 _ O q1) λu s2 ⟨y,J,S,G,q2⟩=>
  aK (ho pins s2 σ J x y v u _ S r1 G q2) λd s3 ⟨z,j,m,r3,k,e,F⟩=>?_)) Z
 subst e;cases r3;apply tW ?_;cases k with
 |false=>exact ite_ff ⟨.bl false,j,m,Á,F⟩
 |true=>exact ite_tt (chain_last (aK (hc pins s3 σ j _ m F) λw' s4 ⟨z',M,U,r4,q4⟩=>pE pins s4 σ M y z' u w' Q U G r4 q4))
theorem Z1(ho:eS X Äm r)(pE:eS X (compareOp op') r')(ha:Ϩ ta)(hb:PE X b tb)(hc:PE X c tc)(hm:lastMarks [op,op'] [b,c]=false:=by with_unfolding_all rfl):PT X (.Compare a [op,op'] [b,c] pos) (ng (HV r r' ta tb tc)):=by
 show Õ;refine isTrue_chain (aK (ha pins s σ H _ I h) λv s1 ⟨x,H1,S,r1,q1⟩=>test_link (aK (hb pins s1 σ H1 _ S q1) λu s2 ⟨y,J,U,G,q2⟩=>
  aK (ho pins s2 σ J x y v u _ U r1 G q2) λd s3 ⟨z,j,m,r3,k,e,F⟩=>?_)) hm
 subst e;cases r3;apply tW ?_;cases k with
 |false=>
  let(k',Z,q'):=F;cases Z;exact ite_ff ⟨j,m,q'⟩
 |true=>
  apply ite_tt (test_last (aK (hc pins s3 σ j _ m F) λw' s4 ⟨z',M,W,r4,q4⟩=>aK (pE pins s4 σ M y z' u w' _ W G r4 q4) λd' s5 ⟨z2,O,Y,r5,k2,e2,q5⟩=>?_));subst e2;cases r5;exact tW ⟨O,Y,q5⟩
def HW(K:FR)(x:V)(H:Hp)(k:Bool):Prop:=
 match x with
 |.aJ=>k=false
 |.bl b=>k=b
 |.int i=>k=(i !=0)
 |.str y=>y.length<=sizeLine/\k=((y.length:Int)!=0)
 |.jf y=>y.size<=sizeLine/\k=((y.size:Int)!=0)
 |.ref p=>(∃xs,â p xs/\k=!xs.isEmpty)\/(∃xs,Ť p xs/\k=!xs.isEmpty)\/∃kvs,H p=some ď/\k=!kvs.isEmpty
 |_=>False
def Z2(r:KV kvs vs):(!vs.isEmpty)=!kvs.isEmpty:=by
 cases r <;> rfl
def P1(r:bc xs aj):(!aj.toArray.isEmpty)=!xs.isEmpty:=by
 cases r <;> simp
def DK:(sizeLine:Nat)<2^63:=by rw[va];decide
def Z3:ZU X (λx H Q=>∃k,HW X.K x H k/\Q k H):=by
 intro pins s σ H x v Q I z h;let(k,e,q):=h;let U:=DK;let hs:sizeLine=16777216:=va;cases x with
 |aJ=>
  cases z;let j:k=false:=e;subst j;exact truthy_none ⟨H,I,q⟩
 |bl b=>
  cases z;let j:k=b:=e;subst j;exact tW ⟨H,I,q⟩
 |int i=>
  let(t,rfl):=z;let j:k=(i !=0):=e;subst j;exact PySem.P.truthy_int ⟨H,I,q⟩
 |str y=>
  let(t,rfl):=z;obtain⟨S,j⟩:y.length<=sizeLine/\k=((y.length:Int)!=0):=e;subst j;exact PySem.P.truthy_str Æ ⟨H,I.tok _,q⟩
 |jf y=>
  let(t,rfl):=z;obtain⟨S,j⟩:y.size<=sizeLine/\k=((y.size:Int)!=0):=e;subst j;exact PySem.W.truthy_bytes Æ ⟨H,I.tok _,q⟩
 |ref p=>
  cases z;let j:(∃xs,Àu p xs/\k=!xs.isEmpty)\/(∃xs,bu X.K H p xs/\k=!xs.isEmpty)\/∃kvs,H p=some ď/\k=!kvs.isEmpty:=e;rcases j with ⟨xs,F,j⟩|⟨xs,F,j⟩|⟨kvs,F,j⟩
  .subst j;let(M,r,pl,J):=I.list F;let G:=r.length;exact wpAny_truthy_list pl.isList (by grind) ⟨H,I.tok _,by rw[P1 r];exact q⟩
  .subst j;let(M,r,pl,J):=I.tuple F;let G:=r.length;exact truthy_tuple pl (by grind) ⟨H,I.tok _,by rw[P1 r];exact q⟩
  .subst j;obtain⟨J,O,vs,r,m⟩:kvs.length<=sizeLine/\(p==sysModules)=false/\∃vs,KV kvs vs/\s.heap.DictOf Ą p vs:=I.ax p _ F;let G:kvs.length=vs.length:=Paired.length r;exact wpAny_truthy_dict O m Æ ⟨H,I.tok _,by rw[Z2 r];exact q⟩
 |_=>exact(show False from e).elim
def yI(m:Ϩ ta)(z:∀whole,isTrue a X.env whole=(do let v <-whole;standAt a.pos;holding [v] (truthy v))):
  PT X a (λσ H Q=>ta σ H λx H'=>∃k,HW X.K x H' k/\Q k H'):=by
 show Õ;exact isTrue_plain (aK (m pins s σ H _ I h) λv S ⟨x,H1,j,G,F⟩=>Z3 pins S σ H1 x v Q j G F) (z _)
theorem vals1{x:V}{U:LV}(r:bc [x] U):∃u,U=[u]/\RelV x u:=by
 cases r with
 |cons j m=>cases m;exact(_,Á,j)
theorem vals2(r:bc [x,y] us):∃u W,us=[u,W]/\RelV x u/\RelV y W:=by
 cases r with
 |cons j m=>
  cases m with
  |cons z F=>cases F;exact(_,_,Á,j,z)
def HX(hc:X.calm=true):lD X (.builtin "max") (λxs H Q=>∃i j,xs=[.int i,.int j]/\Q (.int (if j>i then j else i)) H):=by
 intro pins s σ H xs U Q I r h;let(i,j,rfl,q):=h;let(u,W,rfl,(t,rfl),(t',rfl)):=vals2 r;apply max_two_ints ć λh' tk k=>⟨_,H,I.kept k,?_,q⟩;by_cases m:j>i
 .rw[af m,af m];exact(_,Á)
 .rw[ah m,ah m];exact(_,Á)
def Z4:lD X (.builtin "ord") (λxs H Q=>∃x,xs=[.str x]/\x.length=1/\Q (.int (x.cps.getD 0 0:Nat)) H):=by
 intro pins s σ H xs U Q I r h;let(x,rfl,j,q):=h;let(u,rfl,t,rfl):=vals1 r;exact ord_of_one j ⟨.int _,H,I.tok _,⟨_,Á⟩,q⟩
end
structure yJ(h:Heap)(x dx C:Addr)(mA:MG):Prop where
 obj:h.get? x=some Âv
 ns:h.Ns1 dx mA
 ne:dx≠x
def Z5{h:Heap}{dx:Addr}{mA:MG}(n:h.Ns1 dx mA):∃od,h.get? dx=some od/\∀name,PySem.W.lookIn name od=some (mA name):=by
 let(o,es,ep,F,hd,hk,_,m):=n;apply(o,F,λname=>?_);let e:=m name;delta nsFind findBy at e;rw[<-Array.find?_toList] at e;delta PySem.W.lookIn;rw[hd];dsimp only;split
 .symm
 .rename_i q;rw[q] at e;let a:es.toList.any (·.refKey)=false:=by
   rw[List.any_eq_false];intro y G;let(z,t,j):=hk y (Array.mem_toList_iff.mp G);simp[DictEntry.refKey,j]
  symm
def yJ.look(I:yJ h x dx C mA):∃od,PySem.W.InstAt h x Âv C (some od)/\∀name,PySem.W.lookIn name od=some (mA name):=
 let ⟨od,ho,hl⟩:=Z5 I.ns
 ⟨od,⟨I.obj,rfl,rfl,ho⟩,hl⟩
section
variable{prog:Pg}{w:Wd}{A:Around}{E:VP}{s:Sh}{K:FR}{x dx C f:Addr}{mA:MG}{name:Str}{v:Value}
def get_map{j:Bool}{Q:VP}(X:K.In s.heap)(I:yJ s.heap x dx C mA)(z:PySem.W.plainGet K C name=true)(F:PySem.W.hasDictIn K C=true)(m:PySem.W.findIn K Ā name=some none) (M:mA name=some v) (Y:PySem.W.handedIn v=true) (h:Q v {s with toks:=s.toks+1}):
  wpAny Ò A (getAttr ŝ name j) Q E s:=by
 let(od,J,G):=I.look;exact PySem.W.get_value X J (PySem.W.plainGet_of z).1 (PySem.W.findObj_own F m Á É) Y h
def Z6{ns:LS}{Q:Unit->Shared->Prop}(X:K.In s.heap)(I:yJ s.heap x dx C mA)(hs:PySem.W.findIn K Ā "__setattr__"=some (some (.builtin "object.__setattr__"))) (S:PySem.W.plainOver K C=true) (U:PySem.W.takerIn K C name=some none) (O:PySem.W.hasDictIn K C=true)(Y:PySem.Within mA ns) (hsz:ns.length<=sizeLine)(h:∀h',yJ h' x dx C (λy=>if y=name then some v else mA y)->Heap.SameBut dx s.heap h'->Q () {s with heap:=h',toks:=s.toks+2}):
  wpAny Ò A Äb Q E s:=by
 let(od,J,hl):=I.look;apply PySem.W.set_plain X J hs (PySem.W.osa_open (s:={s with toks:=s.toks+1}) (r:=none) X J S U λb=>?_);let(cd,hc,pF):=PySem.W.any_some O;let hx:s.heap.get? x=some ⟨.ref C,some dx,.plain,#[]⟩:=I.obj;apply aP (df (aP (aP (wpAny_loadPart hx (aP (PySem.W.Looks.here (s:={s with toks:=s.toks+1}) (PySem.W.looks_clsIn X hc) ?_))))));rw[pF];apply df (a:=some dx) (aP (df (aP ?_)));apply wpAny_nsSet1 (s:={s with toks:=s.toks+1}) I.ns λh' j m=>?_;let(oD,M,G,Z,z,F):=j.count (PySem.Within.cons name v Y);apply aP (wpAny_lookBehind Z (by rw[z];exact pastItsLine_dict (gQ F (by rw[c7];omega))) ?_);exact df (h _ ⟨(m.2 _ (dX I.ne)).trans I.obj,j,I.ne⟩ m)
def aaa{R:Result->Shared->Prop}{vs:LV}{kw:List (Str×Value)}(X:K.In s.heap)(m:PySem.W.makesIn K C=true)(hi:PySem.W.findIn K Ā "__init__"=some Áx) (j:PySem.W.typeIn K ā=some (.type "function"))(h:codeAny Ò (A.under (.builtin "type.__call__" ⟨.ref C::vs,kw⟩)) (.call ā ⟨.ref Î::vs,kw⟩) (PySem.W.InitBack Î R) {s with heap:=(s.heap.push PySem.W.emptyDict).push Ĺ}):
  codeAny Ò A (.call Ā ⟨vs,kw⟩) R s:=by
 let(z,g,d,t,os):=s;exact PySem.W.make_core (PySem.W.makes_of X m) (PySem.W.looks_findIn X hi) (λself=>PySem.W.bind_fn X self j) Ė h
end
def ie(f:Str)(v:V):List (Str×V)->List (Str×V)
 |[]=>[(f,v)]
 |(g,x)::r=>if g=f then (g,v)::r else (g,x)::ie f v r
theorem HZ(f g:Str)(v:V):∀fs:List (Str×V),(ie f v fs).lookup g=if g=f then some v else fs.lookup g:=by
 intro fs;induction fs with
 |nil=>
  show List.lookup g [(f,v)]=_;by_cases h:g=f
  .let j:(g==f)=true:=wK.mpr h;simp only[List.lookup,j,af h]
  .let j:(g==f)=false:=wL.mpr h;simp only[List.lookup,j,ah h]
 |cons m r I=>
  let(k,x):=m;let I:=I;rw[show ie f v ((k,x)::r)=(if k=f then (k,v)::r else (k,x)::ie f v r) from rfl];by_cases hk:k=f
  .rw[af hk];by_cases h:g=k
   .let j:(g==k)=true:=wK.mpr h;simp only[List.lookup,j,af (h.trans hk)]
   .let j:(g==k)=false:=wL.mpr h;simp only[List.lookup,j,ah (λe:g=f=>h (e.trans hk.symm))]
  .rw[ah hk];by_cases h:g=k
   .let j:(g==k)=true:=wK.mpr h;simp only[List.lookup,j,ah (λe:g=f=>hk (h.symm.trans e))]
   .let j:(g==k)=false:=wL.mpr h;simp only[List.lookup,j];exact I
theorem AW(f:Str)(v:V):∀fs:List (Str×V),f∈(ie f v fs).map (·.1)/\∀g,g∈fs.map (·.1)->g∈(ie f v fs).map (·.1):=by
 intro fs;induction fs with
 |nil=>exact(by simp[ie],λg h=>by simp at h)
 |cons j r z=>
  let(k,x):=j;let(I,m):=z;rw[show ie f v ((k,x)::r)=(if k=f then (k,v)::r else (k,x)::ie f v r) from rfl];by_cases hk:k=f
  .rw[af hk];subst hk;exact(by simp,λg h=>by simpa using h)
  .rw[ah hk];apply(?_,λg h=>?_)
   .rw[a0];exact aO _ I
   .rw[a0] at h⊢;rcases ba.mp h with e|e
    .exact ba.mpr (.inl e)
    .exact aO _ (m g e)
theorem Ia(f:Str)(v:V):∀fs:List (Str×V),(ie f v fs).length<=fs.length+1:=by
 intro fs;induction fs with
 |nil=>
  simp[ie]
 |cons j r I=>
  let(k,x):=j;let I:=I;rw[show ie f v ((k,x)::r)=(if k=f then (k,v)::r else (k,x)::ie f v r) from rfl];by_cases hk:k=f
  .rw[af hk,c7,c7];omega
  .rw[ah hk,c7,c7];omega
theorem jL.some_of(r:jL Ãj o):∃u,o=some u/\RelV v u:=by
 cases o with
 |none=>exact(show False from r).elim
 |some u=>exact(u,Á,r)
theorem aab(r:RelV v u):PySem.W.handedIn u=true:=by
 cases v with
 |aJ=>cases (show u=Value.none from r);rfl
 |bl b=>cases (show u=Value.bool b from r);rfl
 |int i=>let(t,e):=(show ∃t,u=Value.int i t from r);cases e;rfl
 |str x=>let(t,e):=(show ∃t,u=Value.str x t from r);cases e;rfl
 |jf b=>let(t,e):=(show ∃t,u=Value.bytes b t from r);cases e;rfl
 |AD b=>let(t,e):=(show ∃t,u=Value.float b t from r);cases e;rfl
 |ref a=>cases (show u=Value.ref a from r);rfl
 |ty n=>cases (show u=Value.type n from r);rfl
section
variable{P:Pg}{w:Wd}{H H':Hp}{h h':Heap}{a C dx:Addr}{fs yL:List (Str×V)}
def P2(ax:ğ h)(e:H a=some Ϙ):∃mA,yJ h a dx C mA/\(∀f,jL Áb (mA f))/\PySem.Within mA (fs.map (·.1))/\fs.length<=1000/\H dx=some (.own a):=by
 let(d,z,ne,O,mA,n,r,q):=(show ft P w H h a Ϙ from ax a _ e);exact(mA,⟨O,n,ne⟩,r,q,z,d)
end
structure kO(K:FR)(C:Addr):Prop where
 pg:PySem.W.plainGet K C Str.empty=true
 hd:PySem.W.hasDictIn K C=true
 po:PySem.W.plainOver K C=true
 sa:PySem.W.findIn K Ā "__setattr__"=some (some (.builtin "object.__setattr__"))
def kO.get{K:FR}{C:Addr}(c:kO K C)(f:Str):PySem.W.plainGet K C f=true:=c.pg
def gB(K:FR)(C:Addr)(f:Str):Prop:=PySem.W.findIn K Ā f=some none
def gB.aac{K:FR}{C:Addr}{f:Str}(n:ϧ f):PySem.W.takerIn K C f=some none:=by
 delta PySem.W.takerIn;rw[show PySem.W.findIn K Ā f=some none from n];rfl
section
variable{X:Cx}{pins:bG}{σ:St}{H:Hp}{s:Sh}{a C dx:Addr}{fs:List (Str×V)}{f:Str}{v:V}{A:Around}{E:VP}
def aad{b:Bool}{Q:VP}(I:Ã H s)(e:H a=some Ϙ)(c:kO X.K C)(n:gB X.K C f)(l:fs.lookup f=some v)(h:∀u s',Ã H s'->RelV v u->Q u s'):wpAny È A (getAttr Ĝ f b) Q E s:=by
 let(mA,O,r,_,_,_):=P2 I.ax e;let(u,m,j):=jL.some_of (v:=v) (o:=mA f) (by grind);exact get_map I.fu O (c.get f) c.hd n m (aab j) (h u _ (I.tok _) j)
def aae{y:V}{u:Value}{Q:Unit->Shared->Prop}(I:Ã H s)(e:H a=some Ϙ)(c:kO X.K C)(n:gB X.K C f)(U:fs.length<1000)(M:RelV y u)(h:∀s',Ã (ť (.ins C dx (ie f y fs))) s'->Q () s'):wpAny È A (setAttr Ĝ f u) Q E s:=by
 let(mA,O,r,W,_,m):=P2 I.ax e;let J:(fs.map (·.1)).length<=sizeLine:=by rw[aA,va];omega
 apply Z6 I.fu O c.sa c.po n.aac c.hd W J λh' j S=>h _ ?_;let hd:∃o,h'.get? dx=some o:=let ⟨o,_,_,e',_⟩:=j.ns;⟨o,e'⟩;apply I.write (x:=a) (e:=dx) (by rw[e];exact True.intro) (.inr m) (λb q F z=>(S.2 b F).trans z) hd ?_;apply(by rw[ao O.ne];exact m,?_,O.ne,j.obj,_,j.ns,λg=>?_,λg G=>?_)
 .let:=Ia f y fs;omega
 .show jL ((ie f y fs).lookup g) (if g=f then some u else mA g);rw[HZ];by_cases q:g=f
  .rw[af q,af q];exact M
  .symm
 .by_cases q:g=f
  .rw[q];exact(AW f y fs).1
  .apply(AW f y fs).2 g (W g λz=>G ?_);symm
def Inv.made(I:Ã H s):Ã (upd (ĝ (.own Î)) Î (.ins C s.heap.objs.size [])) {s with heap:=(s.heap.push PySem.W.emptyDict).push Ĺ}:=by
 let j:(s.heap.push PySem.W.emptyDict).get? s.heap.objs.size=some PySem.W.emptyDict:=ib s.heap rfl;let z:((s.heap.push PySem.W.emptyDict).push Ĺ).get? Î=some Ĺ:=by
  let:=ib (s.heap.push PySem.W.emptyDict) (o:=PySem.W.instObj C s.heap.objs.size) rfl;symm
 let F:(s.heap.push PySem.W.emptyDict).Ns s.heap.objs.size (λ_=>none):=⟨PySem.W.emptyDict,#[],_,j,rfl,(λe G=>absurd G Ä),λ_=>rfl⟩;let m:=I.laid (a:=s.heap.objs.size) (o:=.own Î) (h':=s.heap.push PySem.W.emptyDict) (t':=s.toks) (λb u q=>dh _ q) (bJ _) ⟨_,j⟩;apply m.laid (a:=s.heap.objs.size+1) (o:=.ins C s.heap.objs.size []) (t':=s.toks) (λb u q=>dh _ q) (C5 (qw _ _)) ?_;let ne:s.heap.objs.size≠s.heap.objs.size+1:=fj (X2 _);refine⟨by rw[ao ne,aq],dY _,ne,z,λ_=>none,(Heap.Ns1.of_empty F).at λo q=>dh _ q,λ_=>True.intro,λy J=>absurd rfl J⟩
def aaf(j:attributeBase e f env (eval e env)=eval e env)(h:wpAny Ò A (eval e env) (λo S=>wpAny Ò A (getAttr o f true) Q E S) E s):wpAny Ò A (eval (.Attribute e f pos) env) Q E s:=
 Attribute_any_ h (by rw[arm_eval_Attribute,j])
end
def gi(K:FR)(ta:TE)(f:Str):TE:=λσ H Q=>ta σ H λx H1=>∃a C dx fs v,x=.ref a/\H1 a=some Ϙ/\kO K C/\ϧ f/\fs.lookup f=some v/\Q v H1
def DL(K:FR)(ta m:TE)(f:Str):TS:=λD σ H=>m σ H λy H1=>ta σ H1 λx j=>∃a C dx fs,x=.ref a/\j a=some Ϙ/\kO K C/\ϧ f/\fs.length<1000/\
 D.nx σ (upd j a (.ins C dx (ie f y fs)))
section
def bg(G:ϝ ta)(F:attributeBase e f X.env ϔ=eval e X.env):PE X (.Attribute e f pos) (gi X.K ta f):=by
 show Õ;apply aaf F (aK (G pins s σ H _ I h) λu S ⟨x,H1,j,M,a,C,dx,fs,v,ex,z,c,n,l,q⟩=>?_);subst ex;obtain rfl:u=Value.ref a:=M;exact aad j z c n l λU O m J=>⟨v,H1,m,J,q⟩
def fc(G:PE X o ta)(J:PE X jd tv)(hs:swapsWith jd (some (.Attribute o f lr)) pos.line X.env=pure false):PS X (.Assign [.Attribute o f lr] jd pos) (DL X.K ta tv f):=by
 intro pins s σ H D I h;apply X3 (aK (J pins s σ H _ I h) λu W ⟨y,H1,j,U,q⟩=>aK (G pins W σ H1 _ j q) λO Z ⟨x,Y,m,S,a,C,dx,fs,ex,F,c,n,l,M⟩=>?_) hs;subst ex;obtain rfl:O=Value.ref a:=S;exact aae m F c n l U λs3 z=>⟨σ,_,z,M⟩
def aag:R2:=gf λi j=>.int (i+j)
end
section
variable{X:Cx}{pins:bG}{σ:St}{H:Hp}{s:Sh}{A:Around}{E:VP}{Q:VP}{c:Value}{b:Bool}
end
structure dv(k:Nat)(A:Around):Prop where
 hd:A.handled=none
 dp:A.depth+3*k+5<recursionLimit
 un:A.units+16*k+200<cLine
def dv.mono(r:dv k A)(h:j<=k):dv j A:=⟨r.hd,by let:=r.dp;omega,by let:=r.un;omega⟩
def dv.deeper(r:dv (k+1) A)(env:Env):dv k (A.deeper env):=
 ⟨r.hd,by let:=r.dp;show A.depth+1+3*k+5<_;omega,by let:=r.un;show A.units+3+16*k+200<_;omega⟩
def aah{A:Around}{C:Addr}{U:LV}{kw:List (Str×Value)}:(A.under (.builtin "type.__call__" ⟨.ref C::U,kw⟩)).depth=A.depth+1:=by
 rfl
def aai{A:Around}{C:Addr}{U:LV}{kw:List (Str×Value)}:(A.under (.builtin "type.__call__" ⟨.ref C::U,kw⟩)).units=A.units+1:=by
 rfl
def dv.make(r:dv (k+1) A)(C:Addr)(U:LV)(kw:List (Str×Value)):dv k (A.under (.builtin "type.__call__" ⟨.ref C::U,kw⟩)):=
 ⟨r.hd,by let:=r.dp;rw[aah];omega,by let:=r.un;rw[aai];omega⟩
def dv.depth(r:dv k A):A.depth<recursionLimit:=by let:=r.dp;omega
def dv.units(r:dv k A):A.units+64<cLine:=by let:=r.un;omega
def dv.aaj(r:dv k A):A.units<cLine:=by let:=r.un;omega
def dw:TA:=λ_ H Q=>Q [] H
def bh(ta:TE)(m:TA):TA:=λσ H Q=>ta σ H λx H1=>m σ H1 λxs j=>Q (x::xs) j
section
def ag:PA X [] dw:=λ_ _ _ _ H Q I h=>OM ⟨[],H,I,.nil,h⟩
def ae(F:ϝ te)(hr:PA X es t)(hs:starEach (e::es) X.env=(false,eval e X.env)::starEach es X.env:=by rfl):PA X (e::es) (bh te t):=by
 intro pos pins s σ H Q I h;rw[hs];show wpAny _ _ (spliced ((false,eval e X.env)::backTo pos ô)) _ _ s;apply Dc (aK (F pins s σ H _ I h) λu S ⟨x,H1,m,M,G⟩=>?_);exact aK (hr pos pins S σ H1 _ m G) λW U ⟨xs,j,z,O,J⟩=>⟨x::xs,j,z,.cons M O,J⟩
def xb(t:TA):TE:=λσ H Q=>t σ H λxs H1=>xs.length<=sizeLine/\∀p,H1 p=none->Q ģ (upd H1 p ϱ)
def yM(t:TA):TE:=λσ H Q=>t σ H λxs H1=>xs.length<=sizeLine/\∀p,H1 p=none->Q ģ (upd H1 p ϲ)
def uf{x1}(h:PA X es t):PE X (.Tuple es x1 pos) (xb t):=by
 intro pins s σ H Q I F;apply wpAny_Tuple_spliced (aK (h pos pins s σ H _ I F) λU S ⟨xs,H1,j,r,z,q⟩=>⟨by rw[<-r.length];exact z,?_⟩);let m:H1 S.heap.objs.size=none:=j.ax.fresh (bJ _);apply(.ref S.heap.objs.size,upd H1 S.heap.objs.size ϱ,j.laid (t':=S.toks) (λb u e=>dh _ e) (bJ _) ?_,Á,q _ m);exact(z,U,r,⟨_,ib _ Á,Á,_,Á⟩)
def eE(h:PA X es t):PE X (.List es pos) (yM t):=by
 intro pins s σ H Q I F;apply wpAny_List_spliced (aK (h pos pins s σ H _ I F) λU S ⟨xs,H1,j,r,z,q⟩=>⟨by rw[<-r.length];exact z,?_⟩);let m:H1 S.heap.objs.size=none:=j.ax.fresh (bJ _);apply(.ref S.heap.objs.size,upd H1 S.heap.objs.size ϲ,j.laid (t':=S.toks) (λb u e=>dh _ e) (bJ _) ?_,Á,q _ m);exact(z,U,0,r,ib _ Á)
end
abbrev Sp:=au->Hp->VK->XK->Prop
abbrev nh:=List Env->Hp->Shared->XK->VP
structure oy(P:Pg)(w:Wd)(K:FR)(mg:MG)(base:Heap)(A:Around)(outer:List Env)(s:Sh)(H:Hp):Prop where
 frames:A.frames=some outer
 mod:Mod K mg base
 bs:∀b o,base.get? b=some o->s.heap.get? b=some o/\H b=none
 m7:base.objs.size<=s.heap.objs.size
 kG:s.heap.FunFrames base outer
 pC:∀b∈m6 outer,H b=none
 ax:ğ s.heap
 bare:AllBare s.gens
def CE(outer:List Env)(P:Pg)(w:Wd)(H:Hp)(s:Sh)(Q:VK)(u:Value)(s':Sh):Prop:=
 ∃v H',s'.os=s.os/\AllBare s'.gens/\Un (m6 outer) [] H H' s.heap s'.heap/\dy P w H' s'.heap/\RelV v u/\Q v H'
def CR(CX:nh)(outer:List Env)(P:Pg)(w:Wd)(H:Hp)(s:Sh)(Q:VK)(E:XK)(r:Result)(s':Sh):Prop:=
 match r with
 |.ok (.ret u)=>CE outer P w H s Q u s'
 |.ok _=>False
 |.error e=>CX outer H s E e s'
structure a7(P:Pg)(w:Wd)(K:FR)(mg:MG)(base:Heap)(CX:nh)(k:Nat)(f:Addr)(fd:FD)(ps:LS)(sp:Sp):Prop where
 len:∀vs H Q E,sp vs H Q E->vs.length=ps.length
 run:∀(A:Around)(outer:List Env)(s:Sh)(H:Hp)(args:Args)(us:LV)(vs:au)(Q:VK)(E:XK),dv k A->ċ H->BindsTo s fd args Ài->bc vs us->sp vs H Q E->
  codeAny Àj A (.call ā args) (CR CX outer P w H s Q E) s
def oy.make{P:Pg}{w:Wd}{K:FR}{mg:MG}{base:Heap}{A:Around}{outer:List Env}{s:Sh}{H:Hp}(e:ċ H)(C:Addr)(U:LV)(kw:List (Str×Value)):
  oy P w K mg base (A.under (.builtin "type.__call__" ⟨.ref C::U,kw⟩)) outer s H:=⟨by first|exact e.frames|(simpa [Around.under,Code.envs,Code.isFrame,pushEnvs] using e.frames),e.mod,e.bs,e.m7,e.kG,e.pC,e.ax,e.bare⟩
section
variable{X:Cx}{pins:bG}{σ:St}{H:Hp}{s s':Sh}
def Inv.yN(I:Ã H s):oy X.prog X.w X.K X.mg X.base X.A X.stack s H:=
 ⟨I.ok.frames,I.ok.mod,I.bs,gQ I.ok.m7 I.sz,I.stack,I.Du,I.ax,I.bare⟩
def Inv.after(I:Ã H s)(h:CE X.stack X.prog X.w H s Q u s'):ñ Q u s':=by
 let(v,H',os,bare,un,ax,r,q):=h;let(j,g,d,t,O):=s';obtain rfl:O=s.os:=os;exact(v,H',I.call (h':=j) (g':=g) (d':=d) (t':=t) (ch:=[]) un ax bare Ĵ,r,q)
end
def g9(sp:Sp)(I:au)(E:XK)(t:TA):TE:=λσ H Q=>t σ H λvs H1=>sp (vs++I) H1 Q E
def P3(C:Addr)(sp:Sp)(I:au)(E:XK)(t:TA):TE:=λσ H Q=>t σ H λvs H1=>∀x dx,H1 x=none->H1 dx=none->dx≠x->
 sp (.ref x::(vs++I)) (upd (upd H1 dx Äx) x Âh) (λv j=>v=.aJ/\Q ŝ j) E
def Binds(K:FR)(fd:FD)(ps:LS)(j:LV):Prop:=
 ∀(s:Sh)(U:LV),K.In s.heap->(U++j).length=ps.length->BindsTo s fd ⟨U,[]⟩ (ps.zip (U++j))
def Binds.all{K:FR}{fd:FD}{ps:LS}(h:∀us:LV,us.length=ps.length->bindArgs fd ⟨us,[]⟩=pure Ài):Binds K fd ps []:=λs us _ j=>by
 rw[jv] at j⊢;exact .of_eq (h us j)
def ug(CX:nh)(X:Cx)(E:XK):Prop:=∀(pins:bG)(σ:St)(H:Hp)(s:Sh)(e:Value)(s':Sh),Ã H s->CX X.stack H s E e s'->X.xe e s'
section
def aal(F:ù CX k f fd ps sp)(hr:dv k X.A)(z:Ŀ ds)(hd:bc iX ds)(J:ug CX X E)(I:Ã H s) (r:bc vs us) (h:sp (vs++iX) H Q E):wpAny È X.A (call ā us) (ñ Q) X.xe s:=by
 let m:bc (vs++iX) (us++ds):=r.append hd;let G:(us++ds).length=ps.length:=by rw[<-m.length];exact F.len _ _ _ _ h
 apply Ao (u6 (F.run X.A X.stack s H ⟨us,[]⟩ (us++ds) (vs++iX) Q E hr I.yN (z s us I.fu G) m h) λr s' j=>?_);cases r with
 |error e=>exact J pins σ H s e s' I j
 |ok fl=>
  cases fl with
  |ret u=>exact I.after j
  |next=>exact False.elim j
  |brk=>exact False.elim j
  |cont=>exact False.elim j
def lY(F:ù CX k f fd ps sp)(hr:dv k X.A)(J:Gl X x)(M:X.mg x=some ā)(hk:PySem.W.keepIn X.K ā=true)(z:Ŀ ds)(hd:bc iX ds)(O:ug CX X E)(m:PA X (e::es) t) (S:(x==("__debug__":Str))=false:=by decide) (G:starEach (e::es) X.env=(false,eval e X.env)::starEach es X.env:=by rfl) (j:(backTo pos ô).any (·.1)=false:=by rfl):
  PE X (.Call Ž (e::es) [] pos) (g9 sp iX E t):=by
 show Õ;apply wM (vj I J M ?_ S);refine PySem.W.callWith_K (h₀:=X.base) I.ok.mod.rT hk (aK (m pos pins s σ H _ I h) λY U ⟨vs,H1,I1,r,q⟩=>Ár) G j;exact aal F hr z hd O I1 r q
structure Mk(K:FR)(C f:Addr):Prop where
 makes:PySem.W.makesIn K C=true
 init:PySem.W.findIn K Ā "__init__"=some Áx
 fn:PySem.W.isFn K ā=true
 kp:PySem.W.keepIn K Ā=true
def aam{pins:bG}{σ:St}{H:Hp}{s:Sh}{Q:VK}{U:LV}{vs:au}(M:Mk X.K C f)(F:ù CX k f fd ps sp)(hr:dv (k+1) X.A)(W:Ŀ ds)(hd:bc iX ds)(Z:ug CX X E) (I:Ã H s) (r:bc vs U)(h:∀x dx,H x=none->H dx=none->dx≠x->sp (.ref x::(vs++iX)) (upd (upd H dx Äx) x Âh) (λv J=>v=.aJ/\Q ŝ J) E):
  wpAny È X.A (call Ā U) (ñ Q) X.xe s:=by
 let z:=h Î s.heap.objs.size (I.ax.fresh (X4 _)) Ĩ (fj (X2 _));let m:=Inv.made (C:=C) I;let G:bc (V.ref Î::(vs++iX)) (Value.ref Î::(U++ds)):=.cons rfl (r.append hd);let Y:(Value.ref Î::U++ds).length=ps.length:=by
  let e:=G.length;rw[F.len _ _ _ _ z] at e;symm
 refine Ao (aaa (f:=f) I.fu M.makes M.init (wK.mp M.fn) (u6 (F.run _ X.stack _ _ ⟨Value.ref Î::U,[]⟩ (Value.ref Î::(U++ds)) _ _ E (hr.make C U [])
  (m.yN.make C U []) (W _ (Value.ref Î::U) m.fu Y) G z) λr s' j=>?_))
 cases r with
 |error e=>exact Z pins σ _ _ e s' m j
 |ok fl=>
  cases fl with
  |ret u=>
   let(v,H',O,rv,S,q3):=m.after j;subst S;exact(rv,⟨V.ref Î,H',O,Á,q3⟩)
  |next=>exact False.elim j
  |brk=>exact False.elim j
  |cont=>exact False.elim j
def aan(M:Mk X.K C f)(F:ù CX k f fd ps sp)(hr:dv (k+1) X.A)(J:Gl X x)(O:X.mg x=some Ā)(z:Ŀ ds)(hd:bc iX ds)(S:ug CX X E)(m:PA X (e::es) t) (U:(x==("__debug__":Str))=false:=by decide) (G:starEach (e::es) X.env=(false,eval e X.env)::starEach es X.env:=by rfl) (j:(backTo pos ô).any (·.1)=false:=by rfl):
  PE X (.Call Ž (e::es) [] pos) (P3 C sp iX E t):=by
 show Õ;apply wM (vj I J O ?_ U);refine PySem.W.callWith_K (h₀:=X.base) I.ok.mod.rT M.kp (aK (m pos pins s σ H _ I h) λZ Y ⟨vs,H1,I1,r,q⟩=>Ár) G j;exact aam M F hr z hd S I1 r q
end
structure bH(N P:LS)(sc:Scope):Prop where
 kind:sc.kind=.function
 co:sc.isCoroutine=false
 gen:sc.isGenerator=false
 nd:N.Nodup
 pre:N.take P.length=P
 par:∀x∈P,sc.names.lookup x=some .local\/sc.names.lookup x=some .cell
 aao:∀y∈sc.names,y.2≠ .free
theorem aap{kindOf:Str->Option NameKind}{x:Str}{binds:List (Str×Value)}:∀{m:MG},(∀v,(x,v)∉binds)->bindL kindOf binds m x=m x:=by
 induction binds with
 |nil=>exact @λ_ _=>Á
 |cons j r I=>
  let(n,v):=j;intro m h;delta bindL;rw[I λw z=>h w (aO _ z)];split
  .let:x≠n:=by rintro rfl;exact h v gy
   simp[this]
  .rfl
theorem aaq{kindOf:Str->Option NameKind}{x:Str}{binds:List (Str×Value)}:∀{m:MG},(∀v,(x,v)∉binds)->bindC kindOf binds m x=m x:=by
 induction binds with
 |nil=>exact @λ_ _=>Á
 |cons j r I=>
  let(n,v):=j;intro m h;delta bindC;rw[I λw z=>h w (aO _ z)];split
  .rfl
  .let:x≠n:=by rintro rfl;exact h v gy
   simp[this]
def aar{kindOf:Str->Option NameKind}{x:Str}{v:Value}{P:LS}:∀{vs:LV}{i:Nat}{m:MG},P.Nodup->P[i]? =some x->vs[i]? =some v->kindOf x=some .local->
  bindL kindOf (P.zip vs) m x=some v:=by
 induction P with
 |nil=>intro _ _ _ _ h;simp at h
 |cons p P I=>
  intro vs i m nd j h2 hk;cases vs with
  |nil=>simp at h2
  |cons w vs=>
   show bindL kindOf ((p,w)::P.zip vs) m x=_;delta bindL;cases i with
   |zero=>
    simp at j h2;subst j;subst h2;rw[aap λv z=>(j9.mp nd).1 (Dd z).1,af hk];simp
   |succ i=>exact I (j9.mp nd).2 j h2 hk
def aas{kindOf:Str->Option NameKind}{x:Str}{v:Value}{P:LS}:∀{vs:LV}{i:Nat}{m:MG},P.Nodup->P[i]? =some x->vs[i]? =some v->kindOf x≠some .local->
  bindC kindOf (P.zip vs) m x=some v:=by
 induction P with
 |nil=>intro _ _ _ _ h;simp at h
 |cons p P I=>
  intro vs i m nd j h2 hk;cases vs with
  |nil=>simp at h2
  |cons w vs=>
   show bindC kindOf ((p,w)::P.zip vs) m x=_;delta bindC;cases i with
   |zero=>
    simp at j h2;subst j;subst h2;rw[aaq λv z=>(j9.mp nd).1 (Dd z).1,ah hk];simp
   |succ i=>exact I (j9.mp nd).2 j h2 hk
def start(N:LS)(vs:au):St:=vs.map some++List.replicate (N.length-vs.length) none
def lF(CX:nh)(P:Pg)(w:Wd)(K:FR)(mg:MG)(base:Heap)(N:LS)(cO:Str)(scope:Scope)(f:Addr)(cd:Value)(A:Around)(outer:List Env)(s:Sh)(H:Hp)(E:XK):Cx where
 prog:=P
 w:=w
 K:=K
 mg:=mg
 base:=base
 A:=A.deeper Ŷ
 N:=N
 g8:=s
 qC:=H
 env:=envOfC cO scope s.heap.objs.size f cd
 outer:=outer
 stack:=envOfC cO scope s.heap.objs.size f cd::outer
 ex:=[]
 calm:=true
 fn:=λ_=>true
 pn:=[]
 xe:=λe s'=>wpAny Àj (A.deeper Ŷ) (leaving Ŷ e) (λ_ j=>CX outer H s E e j) (λm j=>CX outer H s E m j) s'
def P4{S:Scope}{n:Nat}{x:Str}(h:S.names.lookup x=some .cell):∃c,(cellsFrom n S.names []).lookup x=some c:=by
 let q:=PySem.W.cellsFrom_some S.names n [] (.inl h);exact G1.mp q
def P5{CX:nh}{P:Pg}{w:Wd}{K:FR}{mg:MG}{base:Heap}{N ps:LS}{cO:Str}{scope:Scope}{f:Addr}{cd:Value}{A:Around}{outer:List Env}{s J:Sh}{H:Hp}{E:XK}{us:LV}{vs:au}(S:bH N ps scope) (hd:A.handled=none) (j:ċ H) (Z:vs.length=ps.length) (r:bc vs us)(x:InCallC s s.heap.objs.size (bindL (envOfC cO scope s.heap.objs.size f cd).kindOf Ài λ_=>none) (cellsFrom Î scope.names []) (bindC (envOfC cO scope s.heap.objs.size f cd).kindOf Ài λ_=>none) J):
  Inv (ī scope f cd A outer s H E) [] ų H J:=by
 let W:ps.length<=N.length:=by let:=cE List.length S.pre;rw[mT] at this;omega
 let(F,tk,rfl,hk):=x.done;let U:∀b:Addr,b∉(ī scope f cd A outer s H E).ex:=λb z=>absurd (show b∈([]:LA) from z) Ä;apply⟨⟨j.mod,S.kind,Á,Á,bJ _,λy z c F h2=>?_,λy hy=>?_,λy c _ h=>?_,λ_=>hd,Around.frames_deeper j.frames,.inr ⟨Á,Á⟩,λb z=>absurd z (U b),j.bs,j.m7,λb _ _=>U b,λb z=>absurd z (U b),j.kG,j.pC⟩,
  rfl,j.bare,Un.kept hk,⟨_,x.toInCall.ns,λi y v F h2 Y=>?_⟩,λy c h=>⟨_,x.cell y c h⟩,j.ax.fresh (bJ _),λy c h=>?_,λp m=>absurd (show p∈([]:bG) from m) Ä,j.ax.kept hk,?_⟩
 .exact name_of_addr x.apart (PySem.mem_of_lookup F) (PySem.mem_of_lookup h2)
 .let hy:scope.names.lookup y=some .cell\/scope.names.lookup y=some .free:=hy;rcases hy with hy|hy
  .exact P4 hy
  .exact absurd Á (S.aao _ Âd)
 .exact tV (x.above y c (PySem.mem_of_lookup h))
 .let hi:i<vs.length:=by
   delta start at h2;by_cases hi:i<vs.length
   .exact hi
   .rw[ON (À hi)] at h2;rw[List.getElem?_replicate] at h2;split at h2 <;> cases h2
  let M:vs[i]? =some v:=by
   delta start at h2;rw[G2 (À hi),bW] at h2;cases e:vs[i]? with
   |none=>rw[e] at h2;cases h2
   |some a=>rw[e] at h2;cases h2;rfl
  let(u,I,O):=r.get M;let m:ps[i]? =some y:=by
   rw[<-S.pre,X5 Æ];exact F
  let G:ps.Nodup:=by rw[<-S.pre];exact S.nd.sublist (List.take_sublist _ _)
  apply(u,O,?_);rcases S.par y (bZ m) with k|k
  .exact .inl ⟨k,aar G m I k⟩
  .let(c,e):=P4 (n:=s.heap.objs.size+1) k;apply .inr ⟨.inl k,c,e,?_⟩;let q:=x.cell y c e;rw[aas G m I (by show scope.names.lookup y≠_;rw[k];decide)] at q;exact q
 .exact j.ax.fresh (tV (x.above y c (PySem.mem_of_lookup h)))
 .delta start;show _=N.length;rw[mU,aA,List.length_replicate];omega
def P7{CX:nh}{P:Pg}{w:Wd}{K:FR}{mg:MG}{base:Heap}{k:Nat}{f:Addr}{name cO:Str}{F:Arguments}{G:List Stmt}{scope:Scope}{O kV U pm aG ct oc:Value}{M od:OA}{m3:AO} {N ps:LS} {sp:Sp} (lk:K.lookup f=some ⟨oc,od,.func (PySem.W.fnOf name cO F G scope O kV U pm M aG ct),m3⟩) (kJ:PySem.W.codeIn K aG cO=true) (S:bH N ps scope)(len:∀vs H Q E,sp vs H Q E->vs.length=ps.length)(ui:∀(A:Around)(outer:List Env)(s:Sh)(H:Hp)(vs:au)(Q:VK)(E:XK),dv k (A.deeper (envOfC cO scope s.heap.objs.size f aG))->sp vs H Q E->
   ∃t,kI Àe G t/\t {nx:=λ_ H'=>Q .aJ H',rt:=Q} ų H):
  a7 P w K mg base CX (k+1) f (PySem.W.fnOf name cO F G scope O kV U pm M aG ct) ps sp:=by
 apply(len,λA outer s H args us vs Q E hr j hb r Y=>?_);let hl:=len _ _ _ _ Y;let z:K.In s.heap:=j.mod.rT.keeps λb o e=>(j.bs b o e).1;let C2:s.heap.NoLimit:=j.mod.nolimit.keeps λb o e=>(j.bs b o e).1;let Ib:∀y∈ps.zip us,scope.names.lookup y.1=some .local\/(scope.names.lookup y.1=some .cell/\((cellsFrom Î scope.names []).lookup y.1).isSome=true):=λ⟨n,v⟩ hy=>by
  rcases S.par n (Dd hy).1 with q|q
  .symm
  .exact .inr ⟨q,PySem.W.cellsFrom_some _ _ _ (.inl q)⟩
 apply codeAny_call_function hr.depth (z _ _ lk) Á S.co S.gen Á (PySem.W.codeRec_of z kJ) (hb _ _ _ _ ?_);apply apb S.kind Ib λenv he Z x=>?_;subst he;apply(C2.keeps x.toInCall.keep,codeAny_func ?_);let(t,ht,hq):=ui A outer s H vs Q E (hr.deeper _) Y;let I:Inv Àe [] ų H Z:=P5 S hr.hd j hl r x;apply iU (ht [] Z ų H _ I hq) (λfl s' hs=>?_) λe s' hs=>hs;let fin:∀{σ':St}{H':Hp}{v:V}{u:Value},Inv Àe [] σ' H' s'->RelV v u->Q v H'->CE outer P w H s Q u s':=
  λ{σ' H' v u}J m q=>⟨v,H',J.os,J.bare,J.base,J.ax,m,q⟩
 cases fl with
 |ret u=>
  let(v,σ',H',J,m,q):=hs;exact fin J m q
 |next=>
  let(σ',H',J,q):=hs;exact fin (v:=V.aJ) (u:=Value.none) J Á q
 |brk=>
  let(_,_,_,q):=hs;symm
 |cont=>
  let(_,_,_,q):=hs;symm
section
variable{X:Cx}{x:Str}{p pos:Pos}{e:Expr}{es:List Expr}{t:TA}{id T:String}{r:au->Hp->VK->Prop}
def qI(r:au->Hp->VK->Prop)(t:TA):TE:=λσ H Q=>t σ H λvs H1=>r vs H1 Q
def c8(hc:lD X ό r)(hg:Gl X x)(hm:X.mg x=none)(J:bootBuiltins x=some ό)(z:PA X (e::es) t)(G:x≠"__name__":=by decide)(M:(x==("__debug__":Str))=false:=by decide)(F:starEach (e::es) X.env=(false,eval e X.env)::starEach es X.env:=by rfl) (m:(backTo pos ô).any (·.1)=false:=by rfl):PE X (.Call Ž (e::es) [] pos) (qI r t):=by
 show Õ;apply wM (Àh J ?_ G M);exact apc (aK (z pos pins s σ H _ I h) λW U ⟨vs,H1,j,S,O⟩=>hc pins U σ H1 vs W Q j S O) F m
def xc(hc:lD X (.type T) r)(hg:Gl X x)(hm:X.mg x=none)(J:bootBuiltins x=some (.type T))(z:PA X (e::es) t)(G:x≠"__name__":=by decide)(M:(x==("__debug__":Str))=false:=by decide)(F:starEach (e::es) X.env=(false,eval e X.env)::starEach es X.env:=by rfl) (m:(backTo pos ô).any (·.1)=false:=by rfl):PE X (.Call Ž (e::es) [] pos) (qI r t):=by
 show Õ;apply wM (Àh J ?_ G M);exact Da (aK (z pos pins s σ H _ I h) λW U ⟨vs,H1,j,S,O⟩=>hc pins U σ H1 vs W Q j S O) F m
end
end L2
namespace HT
open PySem PyProof.Rows
def lexLt:LI->LI->Bool
 |[],[]=>false
 |[],_::_=>true
 |_::_,[]=>false
 |x::xs,y::ys=>if x=y then lexLt xs ys else decide (x<y)
def uj(x y:Int)(xs ys:LI):lexLt (x::xs) (y::ys)=if x=y then lexLt xs ys else decide (x<y):=rfl
def P8:lexLt [] []=false:=rfl
def P9(y:Int)(ys:LI):lexLt [] (y::ys)=true:=rfl
def Qa(x:Int)(xs:LI):lexLt (x::xs) []=false:=rfl
def Qb(A:Around)(s:Sh)(a:Int)(t:Tok)(c:Int)(u:Tok):∃e,SeqAt.EqAt A s (.int a t) (.int c u) e/\(e=true↔a=c):=
 ⟨(a==c),SeqAt.EqAt.int_int a t c u,by simp⟩
def Ic(A:Around)(s:Sh)(a:Int)(t:Tok)(c:Int)(u:Tok)(prog:Pg)(w:Wd)(E:VP)(Q:VP)(h:Q (.bool (decide (a<c))) s):
  wpAny Ò A (richCompare .Lt (.int a t) (.int c u)) Q E s:=
 (PyProof.Rows.lt_int h:wpAny Ò A (compareOp .Lt (.int a t) (.int c u)) Q E s)
section
open PySem.SeqAt
open PySem.AutoSeq1 (wpAny_loadPart')
open PySem.MeetsSeq PySem.MeetsSeq2 PySem.MeetsSeq3
def aat(l b:Addr)(items I:Array Value)(n n2:Nat)(dd lZ:OA)(sl ni:AO)(ns ms:LI)(hi:IntsAre items.toList ns)(hj:IntsAre I.toList ms):
  Meets (Builtin.«tuple.__lt__» ⟨[.ref l,.ref b],[]⟩)
   (λ_ R s=>s.heap.get? l=some {cls:=.type "tuple",dict:=dd,data:=.seq items n,slots:=sl}/\s.heap.get? b=some {cls:=.type "tuple",dict:=lZ,data:=.seq I n2,slots:=ni}/\
    R (.ok (.ret ż)) s):=
 .of_wp λprog w A R s h=>by
  let(O,g,d,tk,os):=s;let(hl,hb,h):=h;let f2:=ape;let z1:items.size=ns.length:=by rw[<-hi.length];simp
  let z2:I.size=ms.length:=by rw[<-hj.length];simp
  wp_walk using je hl,je hb,wpAny_forIn_list _ (λbI b s'=>b.1=none/\s'=⟨O,g,d,tk,os⟩/\∃(vs W:LV)(F z:LI),bI=vs.zip W/\
   IntsAre vs F/\IntsAre W z/\F.length+I.size=z.length+items.size/\R (.ok (.ret (.bool (lexLt F z)))) ⟨O,g,d,tk,os⟩) _
  case turn=>
   rintro⟨y,x⟩ bI b s' ⟨S,rfl,vs,W,F,z,j,Y,U,G,m⟩;cases Y with
   |nil=>rw[List.zip_nil_left] at j;cases j
   |cons a t J=>
    cases U with
    |nil=>rw[List.zip_nil_right] at j;cases j
    |cons c u M=>
     rw[De] at j;injection j with hyx hrest;injection hyx with hy hx;subst hy hx;rw[uj] at m;simp only[c7] at G;let(e,he,Z):=Qb A.in1 ⟨O,g,d,tk,os⟩ a t c u;apply aP (he prog w _ _ ?_);cases e with
     |true=>
      rw[af (Z.mp rfl)] at m
      wp_walk
      exact(Á,Á,_,_,_,_,hrest,J,M,by omega,m)
     |false=>
      rw[ah (λq=>absurd (Z.mpr q) d9)] at m;let qJ:=Ic A.in1 ⟨O,g,d,tk,os⟩ a t c u prog w
      wp_walk using qJ
      exact(_,Á,À m)
  case fin=>
   rintro⟨b1,b2⟩ s' ⟨S,rfl,vs,W,F,z,j,Y,U,G,m⟩;simp only at S;subst S;let hv:lexLt F z=decide (items.size<I.size):=by
    cases Y with
    |nil=>
     cases U with
     |nil=>
      simp only[rK] at G;rw[P8];exact(fQ Æ).symm
     |cons c u hw=>
      simp only[rK,c7] at G;rw[P9];exact(eJ Æ).symm
    |cons a t hv=>
     cases U with
     |nil=>
      simp only[rK,c7] at G;rw[Qa];exact(fQ Æ).symm
     |cons c u hw=>
      rw[De] at j;cases j
   rw[hv] at m
   wp_walk
   exact(_,Á,by simpa [Builtin.Tuple.tupleCompareSizes] using m)
  case h=>
   exact(Á,Á,items.toList,I.toList,ns,ms,Á,hi,hj,by omega,h)
end
section
def aau(M:IsTup s.heap l items)(G:IsTup s.heap b ir)(hi:IntsAre items.toList ns)(J:IntsAre ir.toList ms)(O:A.units<cLine) (h:Q ż s):wpAny Ò A (compareOp .Lt Äw (.ref b)) Q E s:=by
 let((cls,dd,data,sl),z,hc,n,hd):=id M;let((Y,S,data2,W),j,I,U,m):=id G;simp only at hc hd I m;subst hc hd I m;exact OO (op:=.Lt) ⟨_,z,Á⟩ ⟨_,j,Á⟩ PySem.F.slot_tuple_lt PySem.F.entry_tuple_lt (PySem.F.args_tuple_lt_2 _ _) (aat l b items ir n U dd S sl W ns ms hi J)
  ⟨z,j,show Value.bool (lexLt ns ms)≠Value.notImplemented/\Q ż s from⟨(λx=>nomatch x),h⟩⟩ O
def l6(n d:Nat):Option Int->Nat
 |none=>d
 |some v=>if v<0 then (v+(n:Int)).toNat else min v.toNat n
def Qe(n d:Nat):l6 n d none=d:=rfl
def Qg(n d k:Nat):l6 n d (some (k:Int))=min k n:=by
 rfl
end
end HT
namespace L2
open PySem PySem.Spec PyProof.Rows
abbrev TO:=St->Hp->(Option Int->Hp->Prop)->Prop
def PO(X:Cx)(e:Option Expr)(t:TO):Prop:=
 ∀(pins:bG)(s:Sh)(σ:St)(H:Hp)(Q:Option Int->Hp->Prop),Ã H s->t σ H Q->
  wpAny È X.A (evalPart e X.env) (λu s'=>∃o H',Ã H' s'/\IsPart u o/\Q o H') X.xe s
def Qh:TO:=λ_ H Q=>Q none H
def Qi(t:TE):TO:=λσ H Q=>t σ H λx H1=>∃i,x=.int i/\Q (some i) H1
theorem intsAre_of{ns:LI}:∀{U:LV},bc š U->IntsAre U ns:=by
 induction ns with
 |nil=>intro U r;rw[lQ] at r;cases r;exact .nil
 |cons n ns I=>
  intro U r;rw[a0] at r;cases r with
  |cons j m=>
   let(t,e):=j;subst e;exact .cons n t (I m)
section
variable{X:Cx}{e:Expr}{te:TE}{lo hi:Option Expr}{tl th:TO}{pos p2:Pos}
def xf:PO X none Qh:=by
 show Õ;rw[evalPart_none];exact df ⟨none,H,I,.none,h⟩
def xg(h:ϝ te):PO X (some e) (Qi te):=by
 intro pins s σ H Q I m;rw[evalPart_some];apply aK (h pins s σ H _ I m) λu S ⟨x,H1,j,F,z⟩=>?_;let(i,rfl,q):=z;let(t,rfl):=F;exact(some i,H1,j,.int i t,q)
def Qj(X:Cx)(r:V->Option Int->Option Int->Hp->VK->Prop):Prop:=
 ∀(pins:bG)(s:Sh)(σ:St)(H:Hp)(x:V)(v j m:Value)(lo hi:Option Int)(sl:Addr)(Q:VK),Ã H s->RelV x v->s.heap.IsSliceOf sl j m .none->IsPart j lo->IsPart m hi->r x lo hi H Q->
  ∃T id,typeLookup (.type T) "__getitem__"=pure (some ό)/\s.TypeIs v T/\wpAny È X.A (getItem v (.ref sl)) (ñ Q) X.xe s
def Qk(r:V->Option Int->Option Int->Hp->VK->Prop)(te:TE)(tl th:TO):TE:=λσ H Q=>te σ H λx H1=>tl σ H1 λl j=>th σ j λu m=>r x l u m Q
def xh(hr:Qj X r)(W:ϝ te)(Z:PO X lo tl)(hu:PO X hi th):PE X (.Subscript e (.Slice lo hi none p2) pos) (Qk r te tl th):=by
 show Õ;apply Subscript_ (aK (W pins s σ H _ I h) λv s1 ⟨x,H1,G,r1,q1⟩=>?_);apply wpAny_Slice (aK (Z pins s1 σ H1 _ G q1) λj s2 ⟨l,F,J,pl,q2⟩=>aK (hu pins s2 σ F _ J q2) λm S ⟨u,z,M,pu,q3⟩=>?_);rw[evalPart_none];apply df ?_;let O:Ã z {S with heap:=S.heap.push {cls:=.type "slice",data:=.fields #[j,m,.none]}}:=M.kept (t':=S.toks) λb ob q=>dh _ q;let(T,id,U,ht,Y):=hr pins {S with heap:=S.heap.push {cls:=.type "slice",data:=.fields #[j,m,.none]}} σ z x v j m l u S.heap.objs.size Q O r1 (Heap.IsSliceOf.new ..) pl pu q3;show wpAny È X.A (subscriptTail e (.Slice lo hi none p2) v (.ref S.heap.objs.size)) (ñ Q) X.xe {S with heap:=S.heap.push {cls:=.type "slice",data:=.fields #[j,m,.none]}};exact tail_any (ops:=[.ref S.heap.objs.size,v]) ht U Y Ô
def oA(xs:au)(lo hi:Option Int):au:=(xs.drop (HT.l6 xs.length 0 lo)).take (HT.l6 xs.length xs.length hi-HT.l6 xs.length 0 lo)
def aav(xs:au)(lo hi:Option Int):(oA xs lo hi).length<=xs.length:=by
 delta oA;rw[mT,X7];omega
inductive Ql(K:FR)(x:V)(y:V)(H:Hp)(Q:VK):Prop
 |mk (a b ns ms:_) (_:x=.ref a) (_:y=.ref b) (_:Ť a š) (_:Ť b (ms.map V.int)) (_:Q (.bl Ϝ) H)
def aaw(F:X.A.units<cLine):eS X Çk (Ql X.K):=by
 show ï;let(a,b,ns,ms,rfl,rfl,m,z,q):=h;cases rx;cases ry;let(j,S,O,_):=I.tuple m;let(M,U,p2,_):=I.tuple z;let G:IntsAre j.toArray.toList ns:=intsAre_of S;let J:IntsAre M.toArray.toList ms:=intsAre_of U;exact HT.aau O p2 G J F ⟨.bl Ϝ,H,I,Á,q⟩
end
def r9(n:Nat)(i:Int):Option Nat:=if 0<=i then (if i<n then some i.toNat else none) else if-(n:Int)<=i then some (i+n).toNat else none
def pI{α:Type}(xs:List α)(i:Int):Option α:=(r9 xs.length i).bind λj=>xs[j]?
def aax(h:r9 n i=some j):seqIndex? i n=some j/\j<n/\ -(n:Int)<=i/\i<n:=by
 delta r9 at h;by_cases z:0<=i
 .rw[af z] at h;by_cases m:i<n
  .rw[af m] at h;let e:i.toNat=j:=aN h;exact(by rw[seqIndex_of z m,e],by omega,by omega,m)
  .symm
 .rw[ah z] at h;by_cases m: -(n:Int)<=i
  .rw[af m] at h;let e:(i+n).toNat=j:=aN h;exact(by rw[seqIndex_neg Æ m,e],by omega,m,by omega)
  .symm
theorem Qm(h:pI xs i=some v):∃j,seqIndex? i xs.length=some j/\xs[j]? =some v/\j<xs.length/\ -(xs.length:Int)<=i/\i<xs.length:=by
 delta pI at h;cases e:r9 xs.length i with
 |none=>symm
 |some j=>
  rw[e] at h;let(m,h2,z,F):=aax e;symm
def fT{α:Type}{xs:List α}{j:Nat}{v:α}(h:xs[j]? =some v):pI xs (j:Int)=some v:=by
 let m:j<xs.length:=(bO.mp h).1;let e:r9 xs.length (j:Int)=some j:=by
  delta r9;symm
 delta pI;rw[e];exact h
def vx(xs:List α)(v:α):pI (xs++[v]) (-1)=some v:=by
 let j:(xs++[v]).length=xs.length+1:=by simp
 let e:r9 (xs++[v]).length (-1)=some xs.length:=by
  delta r9;grind
 delta pI;symm
def aay(b:Expr):Prop:=∀o i,subscripted b false o i=operate [o,i] (getItem o i)
def Ie(X:Cx)(r:R2):Prop:=
 ∀(j U:Expr)(pins:bG)(s:Sh)(σ:St)(H:Hp)(x y:V)(v u:Value)(Q:VK),Ã H s->RelV x v->RelV y u->r x y H Q->
  subscripted U false v u=operate [v,u] (getItem v u)->wpAny È X.A (subscriptTail j U v u) (ñ Q) X.xe s
def Ig(X:Cx)(id:String)(r:V->au->Hp->VK->Prop):Prop:=
 ∀(pins:bG)(s:Sh)(σ:St)(H:Hp)(x:V)(xs:au)(v:Value)(U:LV)(Q:VK),Ã H s->RelV x v->bc xs U->r x xs H Q->
  wpAny È X.A (call ό (v::U)) (ñ Q) X.xe s
section
variable{X:Cx}{a b:Expr}{ta tb:TE}{pos:Pos}
def cA(hr:Ie X r)(z:Ϩ ta)(F:PE X b tb)(hs:aay b):PE X (.Subscript a b pos) Æu:=by
 show Õ;exact Subscript_ (HQ z F I h λv u S x y j m G J q=>hr a b pins S σ j x y v u Q m G J q (hs _ _))
inductive ig(K:FR)(x:V)(y:V)(H:Hp)(Q:VK):Prop
 |mk (p xs i v:_) (_:x=.ref p) (_:y=.int i) (_:â p xs) (_:pI xs i=some v) (_:Q v H)
inductive aaz(K:FR)(x:V)(y:V)(H:Hp)(Q:VK):Prop
 |mk (p xs i v:_) (_:x=.ref p) (_:y=.int i) (_:Ť p xs) (_:pI xs i=some v) (_:Q v H)
def cY:Ie X (ig X.K):=by
 intro jd u0 pins s σ H x y v u Q I Z ry h hs;let(p,xs,i,z,rfl,rfl,W,U,q):=h;cases Z;let(t,rfl):=ry;let(J,r,pl,hz):=I.list W;let(j,F,h2,h3,O,S):=Qm U;let(w,M,Y):=r.get h2;let hl:=r.length;let hn:=DK;let fin:ñ Q w s:=⟨z,H,I,Y,q⟩;by_cases m:0<=i
 .let G:i.toNat=j:=by
   rw[seqIndex_of m S] at F;symm
  exact item_listR pl.isList m Æ É fin hs
 .let G:(i+(J.toArray.size:Int)).toNat=j:=by
   rw[seqIndex_neg Æ O] at F;symm
  exact subscriptTail_builtinR (x:=w) pl.isList.typeIs slot_list_getitem.lookup
   (wpAny_getItem_list_neg (Q:=λr s'=>r=w/\ñ Q r s') pl.isList Æ (by rw[tY] <;> omega) Æ (by rw[G];simpa using M) ⟨rfl,fin⟩) hs
def yP:Ie X (aaz X.K):=by
 intro jd u0 pins s σ H x y v u Q I S U h hs;let(p,xs,i,z,rfl,rfl,M,G,q):=h;cases S;let(t,rfl):=U;let(W,r,pl,hz):=I.tuple M;let(j,F,h2,Y,Z,h5):=Qm G;let(w,m,O):=r.get h2;let J:=r.length;let hn:=DK;let fin:ñ Q w s:=⟨z,H,I,O,q⟩;exact subscriptTail_builtinR (x:=w) pl.typeIs slot_tuple_getitem.lookup
  (getItem_tuple (j:=j) (Q:=λr s'=>r=w/\ñ Q r s') pl Æ Æ (by rw[tY,<-J];exact F) (À m) ⟨rfl,fin⟩) hs
def aaA(lo hi:Option Int)(n:Nat):(sliceBounds lo hi none n).1=((HT.l6 n 0 lo:Nat):Int)/\(sliceBounds lo hi none n).2.1=((HT.l6 n n hi:Nat):Int)/\(sliceBounds lo hi none n).2.2=1:=by
 apply(?_,?_,Á)
 .cases lo with
  |none=>rfl
  |some i=>
   simp only[sliceBounds,HT.l6,Option.getD_none,show(1:Int)>0 by decide,OP];grind
 .cases hi with
  |none=>rfl
  |some i=>
   simp only[sliceBounds,HT.l6,Option.getD_none,show(1:Int)>0 by decide,OP];grind
def aaB(j:LV)(lo hi:Option Int):slicePick j.toArray lo hi none=((j.drop (HT.l6 j.length 0 lo)).take (HT.l6 j.length j.length hi-HT.l6 j.length 0 lo)).toArray:=by
 let(m,h2,z):=aaA lo hi j.toArray.size;delta slicePick;rw[m,h2,z];simp only[sliceRange_one,pick_run,tY] <;> rfl
inductive Qn(K:FR)(x:V)(lo:Option Int)(hi:Option Int)(H:Hp)(Q:VK):Prop
 |mk (a xs:_) (_:x=.ref a) (_:â a xs) (_:∀p,H p=none->Q ģ (upd H p (.lst (oA xs lo hi))))
def xi:Qj X (Qn X.K):=by
 intro pins s σ H x v S U lo hi sl Q I J hs pl G h;let(a,xs,rfl,z,q):=h;cases J;let(M,r,j,F):=I.list z;let m:=r.length;apply⟨"list",_,slot_list_getitem.lookup,j.isList.typeIs,?_⟩;apply wpAny_getItem_list_slice j.isList hs pl G .none Ä ?_ É;rw[aaB,<-m];apply(.ref s.heap.objs.size,_,I.laid (t':=s.toks) (o:=.lst (oA xs lo hi)) (λb O q=>dh _ q) (bJ _) ?_,Á,q _ Ĩ);exact(gQ (aav xs lo hi) F,_,0,(r.drop (HT.l6 xs.length 0 lo)).take (HT.l6 xs.length xs.length hi-HT.l6 xs.length 0 lo),ib _ Á)
def lG:V->Bool
 |.aJ=>true
 |.bl _=>true
 |.int _=>true
 |.str _=>true
 |_=>false
def pJ:V->V->Bool
 |.aJ,.aJ=>true
 |.bl a,.bl b=>a==b
 |.bl a,.int b=>(if a then 1 else 0)==b
 |.int a,.bl b=>a==(if b then 1 else 0)
 |.int a,.int b=>a==b
 |.str a,.str b=>a==b
 |_,_=>false
theorem aaC(m:RelV y u)(j:RelV x v)(z:lG y=true)(F:lG x=true):SeqAt.EqAt A s u v (pJ y x):=by
 cases y with
 |aJ=>
  cases m;cases x with
  |aJ=>cases j;exact SeqAt.EqAt.same _
  |bl b=>cases j;exact SeqAt.EqAt.none_bool b
  |int b=>let(t,rfl):=j;exact SeqAt.EqAt.none_int b t
  |str b=>let(t,rfl):=j;exact SeqAt.EqAt.none_str b t
  |_=>exact absurd (show false=true from F) d9
 |bl a=>
  cases m;cases x with
  |aJ=>cases j;exact SeqAt.EqAt.bool_none a
  |bl b=>cases j;exact SeqAt.EqAt.bool_bool a b
  |int b=>let(t,rfl):=j;exact SeqAt.EqAt.bool_int a b t
  |str b=>let(t,rfl):=j;exact SeqAt.EqAt.bool_str a b t
  |_=>exact absurd (show false=true from F) d9
 |int a=>
  let(t',rfl):=m;cases x with
  |aJ=>cases j;exact SeqAt.EqAt.int_none a t'
  |bl b=>cases j;exact SeqAt.EqAt.int_bool a t' b
  |int b=>let(t,rfl):=j;exact SeqAt.EqAt.int_int a t' b t
  |str b=>let(t,rfl):=j;exact SeqAt.EqAt.int_str a t' b t
  |_=>exact absurd (show false=true from F) d9
 |str a=>
  let(t',rfl):=m;cases x with
  |aJ=>cases j;exact SeqAt.EqAt.str_none a t'
  |bl b=>cases j;exact SeqAt.EqAt.str_bool a t' b
  |int b=>let(t,rfl):=j;exact SeqAt.EqAt.str_int a t' b t
  |str b=>let(t,rfl):=j;exact SeqAt.EqAt.str_str a t' b t
  |_=>exact absurd (show false=true from F) d9
 |_=>exact absurd (show false=true from z) d9
def lH(x:V)(u:Value):Bool:=match u with
 |.none=>pJ .aJ x
 |.bool b=>pJ (.bl b) x
 |.int i _=>pJ Ây x
 |.str z _=>pJ (.str z) x
 |_=>false
theorem DM{x y:V}{u:Value}(r:RelV y u)(f:lG y=true):lH x u=pJ y x:=by
 cases y with
 |aJ=>cases r;rfl
 |bl b=>cases r;rfl
 |int i=>let(t,rfl):=r;rfl
 |str z=>let(t,rfl):=r;rfl
 |_=>exact absurd (show false=true from f) d9
theorem DN{x:V}:∀{xs:au}{U:LV},bc xs U->xs.all lG=true->U.any Æl=xs.any λy=>pJ y x:=by
 intro xs U h;induction h with
 |nil=>exact λ_=>Á
 |cons r t I=>
  intro f;rw[rL,jw] at f;rw[t7,t7,DM r f.1,I f.2]
theorem A0{A:Around}{s:Sh}{x:V}{v:Value}(m:RelV x v)(F:lG x=true):∀{xs:au}{U:LV},bc xs U->xs.all lG=true->∀u∈U,SeqAt.EqAt A s u v (lH x u):=by
 intro xs U h;induction h with
 |nil=>intro _ u j;cases j
 |cons r t I=>
  intro f z j;rw[rL,jw] at f;rcases ba.mp j with rfl|j
  .rw[DM r f.1];exact aaC r m f.1 F
  .exact I f.2 z j
def vy(x:V)(xs:au):Bool:=xs.any λy=>pJ y x
inductive DO(K:FR)(neg:Bool)(x:V)(y:V)(H:Hp)(Q:VK):Prop
 |mk (p xs:_) (_:y=.ref p) (_:(â p xs\/bu K H p xs)) (_:lG x=true) (_:xs.all lG=true) (_:Q (.bl (if neg then !vy x xs else vy x xs)) H)
def Ih:eS X (compareOp .In) (DO X.K false):=by
 show ï;let(p,xs,rfl,m,fx,fs,q):=h;cases ry;rcases m with m|m
 .let(j,r,pl,z):=I.list m;apply SeqAt.in_listAt Æl pl.isList ŧ ⟨.bl _,H,I,Á,?_⟩;rw[show j.toArray.any Æl=j.any Æl by simp,DN r fs];exact q
 .let(j,r,pl,z):=I.tuple m;apply SeqAt.in_tupleAt Æl pl ŧ ⟨.bl _,H,I,Á,?_⟩;rw[show j.toArray.any Æl=j.any Æl by simp,DN r fs];exact q
def aaD:eS X (compareOp .NotIn) (DO X.K true):=by
 show ï;let(p,xs,rfl,m,fx,fs,q):=h;cases ry;rcases m with m|m
 .let(j,r,pl,z):=I.list m;apply SeqAt.notIn_listAt Æl pl.isList ŧ ⟨.bl _,H,I,Á,?_⟩;rw[show j.toArray.any Æl=j.any Æl by simp,DN r fs];exact q
 .let(j,r,pl,z):=I.tuple m;apply SeqAt.notIn_tupleAt Æl pl ŧ ⟨.bl _,H,I,Á,?_⟩;rw[show j.toArray.any Æl=j.any Æl by simp,DN r fs];exact q
def fU:lD X (.builtin "len") (λxs H Q=>∃p ys,xs=[.ref p]/\(Àu p ys\/bu X.K H p ys)/\Q (.int ys.length) H):=by
 intro pins s σ H xs U Q I r h;let(p,ys,rfl,j,q):=h;let(u,rfl,J):=vals1 r;cases J;let M:=DK;rcases j with j|j
 .let(z,m,pl,G):=I.list j;let F:=m.length;exact Calls.call_len_list pl.isList (by grind) ⟨.int ys.length,H,I.tok _,⟨s.toks+1,by simp_all⟩,q⟩
 .let(z,m,pl,G):=I.tuple j;let F:=m.length;exact len_tuple pl (by grind) ⟨.int ys.length,H,I.tok _,⟨s.toks+1,by simp_all⟩,q⟩
def aaE:lD X (.type "list") (λxs H Q=>∃p ys,xs=[.ref p]/\(Àu p ys\/bu X.K H p ys)/\∀l,H l=none->Q Äw (Ϛ Âg)):=by
 intro pins s σ H xs U Q I r h;let(p,ys,rfl,F,q):=h;let(u,rfl,S):=vals1 r;cases S;let fin:∀(j:LV),bc ys j->ys.length<=sizeLine->∀(h':Heap)(m:Nat),(∀b O,s.heap.get? b=some O->h'.get? b=some O)->
   h'.get? s.heap.objs.size=some {cls:=.type "list",dict:=none,data:=.seq j.toArray m,slots:= #[]}->ñ Q Ķ {s with heap:=h'}:=λj z G h' m kp e=>
  ⟨.ref s.heap.objs.size,_,I.laid (t':=s.toks) kp (bJ _) (show ft X.prog X.w _ h' _ Âg from⟨G,j,m,z,e⟩),rfl,q _ Ĩ⟩
 rcases F with F|F
 .let(j,z,pl,G):=I.list F;let M:=z.length;let(o,J,hc,n,hd):=pl.isList;exact call_list_seq p Ė J hc hd (λh' m kp e=>fin j z G h' m kp e) É
 .let(j,z,pl,G):=I.tuple F;let M:=z.length;let(o,J,hc,n,hd):=pl;exact call_list_seq p Èq J hc hd (λh' m kp e=>fin j z G h' m kp e) É
def Qo:lD X (.type "tuple") (λxs H Q=>∃p ys,xs=[.ref p]/\((Àu p ys/\∀l,H l=none->Q Äw (Ϛ Åw))\/(bu X.K H p ys/\Q ģ H))):=by
 intro pins s σ H xs U Q I r h;let(p,ys,rfl,h):=h;let(u,rfl,J):=vals1 r;cases J;rcases h with ⟨m,q⟩|⟨m,q⟩
 .let(j,z,pl,F):=I.list m;let M:=z.length;apply call_tuple_list pl.isList (λh' kp=>?_) É;let I1:Ã H {s with heap:=h'}:=I.kept (t':=s.toks) kp;let G:Ã (upd H h'.objs.size Åw) {s with heap:=h'.push {cls:=.type "tuple",data:=.seq j.toArray}}:=
   I1.laid (t':=s.toks) Åk (bJ _) (show ft X.prog X.w _ _ _ Åw from⟨F,j,z,IsTup.new _ _⟩)
  exact(.ref h'.objs.size,_,G,Á,q _ Ãq)
 .let(j,z,pl,F):=I.tuple m;exact call_tuple_same pl ⟨.ref p,H,I,Á,q⟩
def Ii(K:FR)(T:String)(x:V)(H:Hp):Prop:=match x with
 |.str _=>T="str"
 |.int _=>T="int"
 |.ref p=>(T="list"/\∃xs,â p xs)\/(T="tuple"/\∃o,K.lookup p=some o/\o.cls=.type "tuple"/\o.dict=none)\/
   (T="dict"/\((∃kvs,H p=some ď)\/∃kvs,H p=some Ãb))\/(T="set"/\∃S n,H p=some (.set S n))
 |_=>False
def Qp(I:Ã H s)(r:RelV x v)(j:Ii X.K T x H):
  s.TypeIs v T/\∀a,v=.ref a->∃O,s.heap.get? a=some O/\O.dict=none:=by
 cases x with
 |str z=>
  let(t,rfl):=r;cases (show T="str" from j);exact(typeIs_str s z t,λ_ e=>nomatch e)
 |int i=>
  let(t,rfl):=r;cases (show T="int" from j);exact(typeIs_int s i t,λ_ e=>nomatch e)
 |ref p=>
  cases r;rcases j with ⟨rfl,xs,F⟩|⟨rfl,o,hk,hc,hd⟩|⟨rfl,hk⟩|⟨rfl,S,n,hk⟩
  .let(G,_,pl,_):=I.list F;apply(pl.isList.typeIs,λa e=>?_);cases e;let(o,n,e,c,hd,_):=pl;symm
  .apply(⟨o,I.fu p o hk,hc⟩,λa e=>?_);cases e;exact(o,I.fu _ o hk,hd)
  .let z:∃o,s.heap.get? p=some o/\o.ExactDict:=by
    rcases hk with ⟨kvs,hk⟩|⟨kvs,hk⟩
    .let(_,_,_,_,o,_,_,e,ex,_):=I.ax p _ hk;symm
    .let(_,_,_,_,o,_,_,e,ex,_):=I.ax p _ hk;symm
   let(o,e,ex):=z;apply(⟨o,e,ex.1⟩,λa m=>?_);cases m;exact(o,e,ex.2.1)
  .let(o,_,_,_,e,ex,_):=I.ax p _ hk;apply(⟨o,e,ex.1⟩,λa m=>?_);cases m;exact(o,e,ex.2.1)
 |_=>exact False.elim j
def aaF(K:FR)(T:String)(r:V->au->Hp->VK->Prop)(to:TE):TE:=λσ H Q=>to σ H λx H1=>Ii K T x H1/\r x [] H1 Q
def Qq(K:FR)(T:String)(r:V->au->Hp->VK->Prop)(to:TE)(t:TA):TE:=λσ H Q=>to σ H λx H1=>Ii K T x H1/\t σ H1 λxs j=>r x xs j Q
variable{o e:Expr}{es:List Expr}{to:TE}{t:TA}{name:Str}{iT fV:Pos}{T id:String}{r:V->au->Hp->VK->Prop}
def Qr(J:PlainAttrs T)(slot:Slot T name id)(O:typeOf ό=pure (.type "method_descriptor"))(F:Ig X id r)(G:PE X o to)(W:attributeBase o name X.env Äj=eval o X.env:=by rfl) (Y:(iT.endLine==fV.line)=true:=by rfl):PE X (.Call (.Attribute o name iT) [] [] fV) (aaF X.K T r to):=by
 show Õ;apply wpAny_Call_method0_late W Y (aK (G pins s σ H _ I h) λv S ⟨x,H1,j,m,U,M⟩=>?_);let(z,h2):=Qp j m U;exact(T,id,J,slot,O,z,h2,G3 Á (PySem.evalArgs_none (F pins S σ H1 x [] v [] Q j m .nil M)))
def si(W:PlainAttrs T)(slot:Slot T name id)(sf:typeOf ό=pure (.type "method_descriptor"))(S:Ig X id r)(U:PE X o to)(O:PA X (e::es) t)(ua:attributeBase o name X.env Äj=eval o X.env:=by rfl)(yQ:((backTo fV (starEach (e::es) X.env)).all (λx=>!x.1)&&(backToKw fV ϵ).all (λx=>x.1.isSome)
   &&decide ((e::es).length+([]:List Keyword).length+(if ([]:List Keyword).isEmpty then 0 else 1)<30))=true:=by rfl)
  (xj:(iT.endLine==fV.line)=true:=by rfl) (hs:starEach (e::es) X.env=(false,eval e X.env)::starEach es X.env:=by rfl) (J:(backTo fV ô).any (·.1)=false:=by rfl):
  PE X (.Call (.Attribute o name iT) (e::es) [] fV) (Qq X.K T r to t):=by
 show Õ;apply wpAny_Call_method_late ua yQ xj Á (aK (U pins s σ H _ I h) λv s1 ⟨x,H1,j,z,ty,Y⟩=>?_);let(M,h2):=Qp j z ty;apply(T,id,W,slot,sf,M,h2,?_);let m:=O fV pins s1 σ H1 _ j Y;rw[hs] at m⊢;apply G3 (by assumption) (OQ ?_);exact aK m λus s2 ⟨vs,F,G,r2,Z⟩=>S pins s2 σ F x vs v us Q G z r2 Z
end
def Ij(X:Cx)(id:String)(r:V->au->Hp->VK->Prop):Prop:=
 ∀(pins:bG)(s:Sh)(σ:St)(H:Hp)(x:V)(xs:au)(v:Value)(U:LV)(Q:VK),Ã H s->RelV x v->bc xs U->r x xs H Q->
  wpAny È X.A (call ό (v::U)) (ñ Q) X.xe s
theorem bc.one:∀{x:V}{U:LV},bc [x] U->∃u,U=[u]/\RelV x u:=by
 intro x U h;cases h with
 |cons r t=>cases t;exact(_,Á,r)
def bc.zero:∀{U:LV},bc [] U->U=[]:=by
 intro U h;cases h;rfl
theorem bc.dropLast(h:bc xs us):bc xs.dropLast us.dropLast:=by
 induction h with
 |nil=>exact .nil
 |cons r t I=>
  cases t with
  |nil=>exact .nil
  |cons q t'=>exact .cons r I
def aaG(l:List α):l.eraseIdx (l.length-1)=l.dropLast:=by
 simp
section
variable{X:Cx}{pins:bG}{σ:St}{H:Hp}{s:Sh}{l b:Addr}{xs ys zs:au}
def Inv.Ik{j its':LV}{n:Nat}{f:Array Value->Array Value}{t':Nat}(I:Ã H s)(m:H l=some ϲ)(e:s.heap.get? l=some {cls:=.type "list",data:=.seq j.toArray n}) (F:f j.toArray=its'.toArray) (J:bc ys its') (M:ys.length<=sizeLine):
  Inv X pins σ (Ϛ Âg) {s with heap:=s.heap.update l (Obj.mapSeq f),toks:=t'}:=by
 let q:=PySem.IsL.update e f;rw[F] at q;apply I.write (x:=l) (e:=l) (by rw[m];exact trivial) Ė (λO u z G=>(Ap s.heap (Obj.mapSeq f) (dX z)).trans G) ⟨_,q⟩ ?_;exact(M,its',_,J,q)
def Inv.aaH{j:LV}{t':Nat}(I:Ã H s)(m:bc ys j)(z:ys.length<=sizeLine):
  Inv X pins σ (ĝ Âg) {s with heap:=s.heap.push {cls:=.type "list",data:=.seq j.toArray},toks:=t'}:=
 I.laid (λ_ _ q=>dh _ q) (bJ _) ⟨z,j,0,m,ib _ rfl⟩
def Inv.fresh(I:Ã H s):H s.heap.objs.size=none:=I.ax.fresh (bJ _)
def Inv.yR(I:Ã H s)(m:H l=some ϲ):xs.length<=sizeLine/\∃(j:LV)(n:Nat),bc xs j/\xs.length=j.length/\s.heap.get? l=some {cls:=.type "list",data:=.seq j.toArray n}:=by
 let(z,j,n,r,e):=I.ax l _ m;exact(z,j,n,r,r.length,e)
def aaI{n:Nat}(h:n<=sizeLine):Builtin.List.listTooLong n=false:=by
 delta Builtin.List.listTooLong;symm
end
section
inductive aaJ(x:V)(vs:au)(H:Hp)(Q:VK):Prop
 |mk (l xs y:_) (_:x=.ref l) (_:vs=[y]) (_:H l=some ϲ) (_:xs.length<sizeLine) (_:Q .aJ (Ϛ (.lst (xs++[y]))))
def yS:Ij X "list.append" aaJ:=by
 intro pins s σ H x vs v U Q I M J h;let(l,xs,y,rfl,rfl,m,S,q):=h;cases M;let(u,rfl,G):=J.one;let(z,j,n,r,O,e):=I.yR m;apply G4 F.slot_list_append ⟨_,e,Á⟩ F.entry_list_append (F.args_list_append_2 _ _) (PySem.list_append l j.toArray n u É) ⟨e,?_⟩;apply(.aJ,_,I.Ik (its':=j++[u]) m e Ä (r.append (.cons G .nil)) ?_,Á,q);grind
inductive aaK(x:V)(vs:au)(H:Hp)(Q:VK):Prop
 |mk (l b xs zs:_) (_:x=.ref l) (_:vs=[.ref b]) (_:H l=some ϲ) (_:H b=some (.lst zs)) (_:xs.length+zs.length<=sizeLine) (_:Q .aJ (Ϛ (.lst (xs++zs))))
def Qs:Ij X "list.extend" aaK:=by
 intro pins s σ H x vs v us Q I Z Y h;let(l,b,xs,zs,rfl,rfl,J,O,hz,q):=h;cases Z;let(u,rfl,W):=Y.one;cases W;let(z,j,n,r,hl,e):=I.yR J;let(z2,m,S,U,ji,M):=I.yR O;let hsz:j.toArray.size+m.toArray.size<=sizeLine:=by rw[tY,tY];omega
 let G:¬(!j.toArray.isEmpty&&Builtin.List.listTooLong (j.toArray.size+m.toArray.size))=true:=by
  rw[aaI hsz,yt];simp
 refine G4 F.slot_list_extend ⟨_,e,Á⟩ F.entry_list_extend (F.args_list_extend_2 _ _)
  (AutoSeq1.list_extend_list_list_0 l j.toArray n b m.toArray S G (by rw[tY];omega) Æ) ⟨e,M,?_⟩
 apply(.aJ,_,I.Ik (its':=j++m) J e Ä (r.append U) ?_,Á,q);symm
inductive aaM(x:V)(vs:au)(H:Hp)(Q:VK):Prop
 |mk (l xs y:_) (_:x=.ref l) (_:vs=[]) (_:H l=some ϲ) (_:xs[xs.length-1]? =some y) (_:Q y (Ϛ (.lst xs.dropLast)))
def Qt:Ij X "list.pop" aaM:=by
 intro pins s σ H x vs v Z Q I Y W h;let(l,xs,y,rfl,rfl,G,S,q):=h;cases Y;let m:=W.zero;subst m;let(z,j,n,r,M,e):=I.yR G;let(u,O,U):=r.get S;let J:j.toArray[j.toArray.size-1]? =some u:=by
  show j.toArray[j.length-1]? =some u;rw[<-X8,<-M];exact O
 apply G4 F.slot_list_pop ⟨_,e,Á⟩ F.entry_list_pop (F.args_list_pop_1 _) (MeetsSeq.list_pop_last l j.toArray n u J (by rw[tY];omega)) ⟨e,?_⟩;apply(y,_,I.Ik (its':=j.dropLast) G e ?_ r.dropLast ?_,U,q)
 .show j.toArray.eraseIdxIfInBounds (j.toArray.size-1)=j.dropLast.toArray;rw[tY,List.eraseIdxIfInBounds_toArray,aaG]
 .rw[X9];omega
inductive Qu(x:V)(y:V)(H:Hp)(Q:VK):Prop
 |mk (l b xs zs:_) (_:x=.ref l) (_:y=.ref b) (_:H l=some ϲ) (_:H b=some (.lst zs)) (_:xs.length+zs.length<=sizeLine) (_:∀p,H p=none->Q ģ (upd H p (.lst (xs++zs))))
def Qv:eS X (binaryOp .Add) Qu:=by
 show ï;let(l,b,xs,zs,rfl,rfl,M,J,U,q):=h;cases rx;cases ry;let(z,j,n,r,S,e):=I.yR M;let(Z,m,Y,O,W,F):=I.yR J;apply PySem.P.add_list e F ?_ É;let G:j.toArray++m.toArray=(j++m).toArray:=by simp
 rw[G];exact(.ref _,_,I.aaH (t':=s.toks) (r.append O) É,Á,q _ I.fresh)
end
theorem bc.ints{ns:LI}:∀{U:LV},bc š U->IntsAre U ns:=by
 induction ns with
 |nil=>
  intro U h;rw[lQ] at h;cases h;exact IntsAre.nil
 |cons n ns I=>
  intro U h;rw[a0] at h;cases h with
  |cons r t=>
   let(k,rfl):=r;exact IntsAre.cons n k (I t)
theorem bc.Qw{bs:List Bool}:∀{U:LV},bc (bs.map V.bl) U->U=bs.map Value.bool:=by
 induction bs with
 |nil=>
  intro U h;rw[lQ] at h;cases h;rfl
 |cons b bs I=>
  intro U h;rw[a0] at h;cases h with
  |cons r t=>
   cases r;rw[I t,a0]
theorem bc.DP{a:Addr}{U:LV}(r:bc [V.ref a] U):U=[Value.ref a]:=by
 cases r with
 |cons r t=>
  cases t;cases r;rfl
section
def aaO(z:A.handled=none)(j:s.heap.IsList l aj.toArray)(hi:IntsAre aj ns)(h:∀h' tk t',(∀b o,s.heap.get? b=some o->h'.get? b=some o)->Q (.int ns.sum t') {s with heap:=h',toks:=tk}):wpAny Ò A (call (.builtin "sum") [.ref l]) Q E s:=by
 let(xs,e):=hi.allInts.items;let m:numsOf (intItems xs).toList=ns:=by rw[<-e];exact hi.numsOf
 rw[nums_intItems] at m;rw[e] at j;apply PySem.sum_intListG z j λh' tk t' hk=>?_;let:=h h' tk t' hk;rw[preSum_eq,G5 Ä,m];exact this
def aaP(I:A.handled=none)(m:s.heap.IsList l aj.toArray)(hi:IntsAre aj ns)(F:0<ns.length)(h:∀h' tk M t',(∀b o,s.heap.get? b=some o->h'.get? b=some o)->M∈ns->(∀a,a∈ns->M<=a)->Q (.int M t') {s with heap:=h',toks:=tk}):wpAny Ò A (call (.builtin "min") [.ref l]) Q E s:=by
 let(xs,e):=hi.allInts.items;let z:numsOf (intItems xs).toList=ns:=by rw[<-e];exact hi.numsOf
 rw[nums_intItems] at z;subst z;rw[e] at m;let hsz:0<xs.size:=À F
 apply PySem.min_intList I m hsz λv h' tk O hk=>?_;let(t,rfl):=intItems_at O;let(S,h2):=argBest_lt (numAt xs) (xs.size-1);apply h h' tk _ t hk ?_ λa G=>?_
 .rw[numAt_eq];exact PySem.getD_mem (by rw[aA,wJ];omega)
 .let(j,J,rfl):=mem_getD G;rw[aA,wJ] at J;rw[<-numAt_eq];exact h2 j Æ
end
section
inductive aaQ(K:FR)(vs:au)(H:Hp)(Q:VK):Prop
 |mk (a:Addr) (ns:LI) (_:vs=[V.ref a]) (_:â a š) (_:Q (.int ns.sum) H)
def aaR(K:FR):au->Hp->VK->Prop:=λvs H Q=>∃(a:Addr)(ns:LI),vs=[V.ref a]/\â a š/\0<ns.length/\∀m,m∈ns->(∀y,y∈ns->m<=y)->Q (.int m) H
def Qx(hc:X.calm=true):lD X (.builtin "sum") (aaQ X.K):=by
 intro pins s σ H vs U Q I r h;let(a,ns,rfl,hs,q):=h;let(z,m,j,_):=I.list hs;rw[bc.DP r];exact aaO ć j.isList m.ints λh' tk t' hk=>⟨.int _,H,I.kept hk,⟨_,Á⟩,q⟩
def Qy(hc:X.calm=true):lD X (.builtin "min") (aaR X.K):=by
 intro pins s σ H vs U Q I r h;let(a,ns,rfl,hs,j,q):=h;let(J,G,F,_):=I.list hs;rw[bc.DP r];exact aaP ć F.isList G.ints j λh' tk m t' hk z h2=>⟨.int _,H,I.kept hk,⟨_,Á⟩,q m z h2⟩
end
section
inductive Qz(K:FR)(x:V)(xs:au)(H:Hp)(Q:VK):Prop
 |mk (a:Addr) (ys:au) (y:V) (j:Nat) (z:V) (_:x=V.ref a) (_:xs=[y]) (_:â a ys) (_:lG y=true) (_:ys.all lG=true) (_:ys[j]? =some z) (_:pJ z y=true) (_:(∀(m:Nat)(z':V),m<j->ys[m]? =some z'->pJ z' y=false)) (_:Q (.int (j:Nat)) H)
def QA{ys:au}(f:ys.all lG=true){j:Nat}{z:V}(h:ys[j]? =some z):lG z=true:=lx.mp f z (bZ h)
def QB:Ig X "list.index" (Qz X.K):=by
 intro pins s σ H x xs v us Q I rx rxs h;let(a,ys,y,j,z,rfl,rfl,hs,fy,O,hz,hzj,A2,q):=h;cases rx;cases rxs with
 |cons ry rt=>
  rename_i uy ut;cases rt;let(G,J,((cls,dd,data,sl),n,ho,hc,hdn,hd),cK):=I.list hs;simp only at hc hd;subst hc hd;let(u,hu,ru):=J.get hz;let(vz,U):=bO.mp hu;let Im:=J.length;let hj:j<G.toArray.size:=À vz
  let A3:=va;refine G4 PySem.F.slot_list_index ⟨_,ho,Á⟩ PySem.F.entry_list_index (PySem.F.args_list_index_2 _ _)
   (SeqAt.list_indexAt a G.toArray n dd sl uy (lH y) j hj Æ ?_ ?_) ⟨ho,λu' hu'=>A0 ry fy J O u' (À hu'),?_⟩
  .let S:G.toArray[j]=u:=by simpa using U
   rw[S,DM ru (QA O hz)];exact hzj
  .intro m hm Y;let A4:m<G.length:=by simpa using hm
   let Z:m<ys.length:=by omega
   let M:ys[m]? =some ys[m]:=dm Z;let(u2,Io,Ip):=J.get M;let(_,W):=bO.mp Io;let S:G.toArray[m]=u2:=À W
   rw[S,DM Ip (QA O M)];exact A2 m _ Y M
  .exact(.int (j:Nat),H,I.tok _,⟨_,Á⟩,q)
end
def QC{prog:Pg}{w:Wd}{A:Around}{E:VP}{s:Sh}{l:Addr}{items:Array Value}{Q:VP}(j:s.heap.IsList l items)(h:∀S:Sh,S={s with heap:=s.heap.push {cls:=.type "list_iterator",data:=.fields #[.ref l,.int 0 0]}}->
   (S.heap.IsListIter s.heap.objs.size l 0/\S.heap.IsList l items)->l≠s.heap.objs.size->Q Ķ S):wpAny Ò A (pyIter Äw) Q E s:=by
 let m:l<s.heap.objs.size:=by let(_,e,_):=j;exact cZ e
 exact X0 j (h _ Á ⟨⟨_,ib _ Á,Á,Á⟩,j.push _⟩ (fj m))
def QD{prog:Pg}{w:Wd}{A:Around}{bs:List Bool}{j:LV}(e:j=bs.map Value.bool):
  TruthOf prog w A (λi v=>j.toArray[i]? =some v) Âl:=λi v s Q E I G=>by
 let Y:j[i]? =some v:=À I
 rw[e,bW] at Y;let(b,z,rfl):=yr.mp Y;let F:bs.getD i false=b:=by rw[iV,z] <;> rfl
 let m:Q (bs.getD i false) s:=G;rw[F] at m;exact tW m
theorem any_range:∀bs:List Bool,(List.range bs.length).any Âl=bs.any id:=by
 intro bs;induction bs with
 |nil=>exact Á
 |cons b bs I=>
  rw[c7,Df,t7,OR,t7,<-I]
  all_goals rfl
theorem all_range:∀bs:List Bool,(List.range bs.length).all Âl=bs.all id:=by
 intro bs;induction bs with
 |nil=>exact Á
 |cons b bs I=>
  rw[c7,Df,rL,rM,rL,<-I]
  all_goals rfl
section
inductive aaZ(K:FR)(vs:au)(H:Hp)(Q:VK):Prop
 |mk (a:Addr) (bs:List Bool) (_:vs=[V.ref a]) (_:â a (bs.map V.bl)) (_:Q (.bl (bs.any id)) H)
inductive aa0(K:FR)(vs:au)(H:Hp)(Q:VK):Prop
 |mk (a:Addr) (bs:List Bool) (_:vs=[V.ref a]) (_:â a (bs.map V.bl)) (_:Q (.bl (bs.all id)) H)
def QE(hc:X.calm=true):lD X (.builtin "any") (aaZ X.K):=by
 intro pins s σ H vs W Q I r h;let(a,bs,rfl,hs,q):=h;let(F,S,O,_):=I.list hs;rw[bc.DP r];let m:=S.Qw;apply call_any_walk (QC O.isList λU M st z=>?_);subst M;apply(_,_,_,_,_,_,_,Á,Walks.list (A:=X.A.in1) ć _ a z F.toArray,st,QD m,λh' tk hk=>?_);apply(.bl _,H,I.kept λb o j=>hk b o (λJ=>?_) (dh _ j),?_,q)
 .rcases ba.mp J with G|J
  .exact absurd (G▸ cZ j) (qx _)
  .symm
 .show Value.bool _=Value.bool _;rw[<-any_range,m,tY,aA]
def vA(hc:X.calm=true):lD X (.builtin "all") (aa0 X.K):=by
 intro pins s σ H vs W Q I r h;let(a,bs,rfl,hs,q):=h;let(F,S,O,_):=I.list hs;rw[bc.DP r];let m:=S.Qw;apply call_all_walk (QC O.isList λU M st z=>?_);subst M;apply(_,_,_,_,_,_,_,Á,Walks.list (A:=X.A.in1) ć _ a z F.toArray,st,QD m,λh' tk hk=>?_);apply(.bl _,H,I.kept λb o j=>hk b o (λJ=>?_) (dh _ j),?_,q)
 .rcases ba.mp J with G|J
  .exact absurd (G▸ cZ j) (qx _)
  .symm
 .show Value.bool _=Value.bool _;rw[<-all_range,m,tY,aA]
end
mutual
inductive Dp(K:FR)(H:Hp):V->PyData->Prop
 |aJ:Dp K H .aJ .none
 |bl (b:Bool):Dp K H (.bl b) (.bool b)
 |int (i:Int):Dp K H Ây Ây
 |str (x:Str):Dp K H Çc Çc
 |lst {a:Addr} {xs:au} {ds:List PyData}:â a xs->i3 K H xs ds->Dp K H Ĝ (.list ds)
 |tup {a:Addr} {xs:au} {ds:List PyData}:Ť a xs->i3 K H xs ds->Dp K H Ĝ (.tuple ds)
inductive i3(K:FR)(H:Hp):au->List PyData->Prop
 |nil:i3 K H [] []
 |cons {v:V} {vs:au} {d:PyData} {ds:List PyData}:Dp K H v d->i3 K H vs ds->i3 K H (v::vs) (d::ds)
end
section
variable{X:Cx}{pins:bG}{σ:St}{H:Hp}{s:Sh}
def Dp.reads(I:Ã H s)(d:PyData)(v:V)(u:Value)(h:Dp X.K H v d):RelV v u->∃as,Reads s.heap u d as:=
 Dp.rec (motive_1:=λv d _=>∀u,RelV v u->∃as,Reads s.heap u d as) (motive_2:=λvs G _=>∀U,bc vs U->∃as,ReadsAll s.heap U G as)
  (λu r=>by cases r;exact(_,Reads.none)) (λb u r=>by cases r;exact(_,Reads.bool b)) (λi u r=>by let(t,rfl):=r;exact(_,Reads.int i t)) (λx u r=>by let(t,rfl):=r;exact(_,Reads.str x t))
  (λhs _ z u r=>by
   cases r;let(j,F,(o,n,m,hc,_,hd),_):=I.list hs;let(as,hr):=z j F;exact(_,Reads.list m hc hd hr))
  (λhs _ z u r=>by
   cases r;let(j,F,(o,m,hc,n,hd),_):=I.tuple hs;let(as,hr):=z j F;exact(_,Reads.tuple m hc hd hr))
  (λU r=>by cases r;exact(_,ReadsAll.nil))
  (λ_ _ J M U r=>by
   cases r with
   |cons W Y=>
    let(as,O):=J _ W;let(bs,S):=M _ Y;exact(_,ReadsAll.cons O S)) h u
end
section
def aa1(K:FR):R2:=λx y H Q=>∃d e,Dp K H x d/\Dp K H y e/\SeqAt.shaped d=true/\SeqAt.shaped e=true/\Q (.bl (PyData.eqv d e)) H
def aa2(K:FR):R2:=λx y H Q=>∃d e,Dp K H x d/\Dp K H y e/\SeqAt.shaped d=true/\SeqAt.shaped e=true/\Q (.bl (!PyData.eqv d e)) H
def QF(m:X.A.units+64<cLine):eS X Áh (aa1 X.K):=by
 show ï;let(d,e,hd,j,sd,S,q):=h;let(as,z):=Dp.reads I d x v hd rx;let(bs,F):=Dp.reads I e y u j ry;exact SeqAt.compareEq_shaped z F sd S m ⟨.bl _,H,I,Á,q⟩
def Iq(m:X.A.units+64<cLine):eS X Áp (aa2 X.K):=by
 show ï;let(d,e,hd,j,sd,S,q):=h;let(as,z):=Dp.reads I d x v hd rx;let(bs,F):=Dp.reads I e y u j ry;exact SeqAt.compareNe_shaped z F sd S m ⟨.bl _,H,I,Á,q⟩
end
end L2
namespace L2
open PySem PySem.Spec PyProof.Rows
abbrev QG(h:Heap)(c:Addr)(v:Option Value):Prop:=h.IsCell c v
def aa3(scope S:Scope):Scope:=
 {scope with names:=scope.names.map λ(n,k)=>if (k== .free&&S.kind== .function&&S.names.lookup n==some .cell) then (n,.cell) else (n,k)}
def i4(cells:eV):List (Str×NameKind)->eV->eV
 |[],acc=>acc
 |(n,k)::r,acc=>if k== .free then i4 cells r ((n,(cells.lookup n).getD 0)::acc) else i4 cells r acc
def aa4(env:Env)(f:Str×NameKind->eV->Sem (ForInStep eV))(z:∀n k c,f (n,k) c=if k== .free then (do let a <-cellOf env n;pure (.yield ((n,a)::c))) else pure (.yield c)):
  ∀(names:List (Str×NameKind))(acc:eV),(∀y∈names,y.2=.free->∃c,env.cells.lookup y.1=some c)->forIn names acc f=pure (i4 env.cells names acc):=by
 intro names;induction names with
 |nil=>
  intro acc _;rw[List.forIn_nil];rfl
 |cons j r I=>
  let(n,k):=j;intro acc h;rw[List.forIn_cons,z];let I:=λacc=>I acc λy F=>h y (aO _ F);delta i4;by_cases hk:(k==NameKind.free)=true
  .rw[af hk,af hk];let(c,hc):=h (n,k) gy (À hk);let e:cellOf env n=pure c:=by delta cellOf;rw[hc]
   rw[e];let m:(env.cells.lookup n).getD 0=c:=by rw[hc];rfl
   rw[m];exact I _
  .rw[ah hk,ah hk];exact I _
def aa5(h:∀y∈scope.names,y.2=.free->∃c,env.cells.lookup y.1=some c):closureFor scope env=pure (i4 env.cells scope.names []):=by
 simp only[closureFor];rw[aa4 env _ (λn k c=>rfl) scope.names [] h];rfl
theorem mem_lookup{α:Type}{l:List (Str×α)}:∀{n:Str}{c:α},(n,c)∈l->∃j,l.lookup n=some j:=by
 induction l with
 |nil=>intro n c h;cases h
 |cons p r I=>
  intro n c h;let(k,v):=p;rw[vb];cases hb:n==k with
  |true=>exact(_,Á)
  |false=>
   rcases ba.mp h with e|h
   .cases e;simp at hb
   .exact I h
theorem QH{cells:eV}{names:List (Str×NameKind)}:∀{acc:eV}{n:Str}{c:Addr},(n,c)∈i4 cells names acc->(n,c)∈acc\/((n,.free)∈names/\c=(cells.lookup n).getD 0):=by
 induction names with
 |nil=>exact @λ_ _ _ h=>.inl h
 |cons z r I=>
  let(m,k):=z;intro acc n c h;delta i4 at h;split at h
  .rename_i hk;let hk:k=.free:=by simpa using hk
   rcases I h with h|⟨j,h2⟩
   .rcases ba.mp h with e|h
    .cases e;exact .inr ⟨hk▸ gy,Á⟩
    .exact .inl h
   .exact .inr ⟨aO _ j,h2⟩
  .rcases I h with h|⟨j,h2⟩
   .exact .inl h
   .exact .inr ⟨aO _ j,h2⟩
theorem aa6{cells:eV}{names:List (Str×NameKind)}:∀{acc:eV}{p:Str×Addr},p∈acc->p∈i4 cells names acc:=by
 induction names with
 |nil=>exact @λ_ _ h=>h
 |cons j r I=>
  let(m,k):=j;intro acc p h;delta i4;split
  .exact I (aO _ h)
  .exact I h
theorem aa7{cells:eV}{names:List (Str×NameKind)}:∀{acc:eV}{n:Str},(n,.free)∈names->(n,(cells.lookup n).getD 0)∈i4 cells names acc:=by
 induction names with
 |nil=>intro acc n h;cases h
 |cons p r I=>
  intro acc n h;delta i4;rcases ba.mp h with e|h
  .cases e;exact aa6 gy
  .split
   .exact I h
   .exact I h
def Ir{names:List (Str×NameKind)}:∀{h:Heap}{acc:eV}{x:Str}{c:Addr},(x,c)∈cellsFrom h.objs.size names acc->
  (x,c)∈acc\/((x,.cell)∈names/\h.objs.size<=c/\QG (pushCells h names) c none):=by
 induction names with
 |nil=>exact @λ_ _ _ _ h=>.inl h
 |cons F r I=>
  let(n,k):=F;intro h acc x c j;delta cellsFrom at j;delta pushCells;split at j
  .rename_i hk;rw[af hk];let hk:k=.cell:=by simpa using hk
   rw[<-qw h {cls:=.type "cell",data:=.cell none}] at j;rcases I j with j|⟨m,h2,z⟩
   .rcases ba.mp j with e|j
    .cases e;exact .inr ⟨hk▸ gy,bJ _,_,OS r _ _ _ (ib _ Á),Á⟩
    .exact .inl j
   .rw[qw] at h2;exact .inr ⟨aO _ m,OT h2,z⟩
  .rename_i hk;rw[ah hk];rcases I j with j|⟨m,h2,z⟩
   .exact .inl j
   .exact .inr ⟨aO _ m,h2,z⟩
theorem QI{names:List (Str×NameKind)}:∀{n:Nat}{acc:eV}{p:Str×Addr},p∈acc->p∈cellsFrom n names acc:=by
 induction names with
 |nil=>exact @λ_ _ _ h=>h
 |cons j r I=>
  let(m,k):=j;intro n acc p h;delta cellsFrom;split
  .exact I (aO _ h)
  .exact I h
theorem aa8{names:List (Str×NameKind)}:∀{n:Nat}{acc:eV}{x:Str},(x,.cell)∈names->∃c,(x,c)∈cellsFrom n names acc:=by
 induction names with
 |nil=>intro n acc x h;cases h
 |cons p r I=>
  intro n acc x h;delta cellsFrom;rcases ba.mp h with e|h
  .cases e;exact(n,QI gy)
  .split
   .exact I h
   .exact I h
def aa9{names:List (Str×NameKind)}:∀{h:Heap}{acc:eV}{x y:Str}{c:Addr},(∀p∈acc,p.2<h.objs.size)->(∀x y c,(x,c)∈acc->(y,c)∈acc->x=y)->
  (x,c)∈cellsFrom h.objs.size names acc->(y,c)∈cellsFrom h.objs.size names acc->x=y:=by
 induction names with
 |nil=>exact @λ_ _ _ _ _ _ hi j h2=>hi _ _ _ j h2
 |cons z r I=>
  let(n,k):=z;intro h acc x y c m hi j h2;delta cellsFrom at j h2;split at j
  .rename_i hk;rw[af hk] at h2;rw[<-qw h {cls:=.type "cell",data:=.cell none}] at j h2;apply I (h:=h.push _) (λp F=>?_) (λx y c a b=>?_) j h2
   .rw[qw];rcases ba.mp F with rfl|F
    .exact X2 _
    .exact OU (m p F)
   .rcases ba.mp a with e|a <;> rcases ba.mp b with G|b
    .cases e;cases G;rfl
    .cases e;exact absurd (m _ b) (qx _)
    .cases G;exact absurd (m _ a) (qx _)
    .exact hi _ _ _ a b
  .rename_i hk;rw[ah hk] at h2;exact I m hi j h2
def aba{M:Model}{A:Around}{E:VP}{s:Sh}{scope:Scope}{globals:Addr}{O:eV}{F:Str}{j:OA}{code:Value}{m:Env}{z:Addr}{Q:Env->Shared->Prop}(h:Q (newEnv scope s.heap.objs.size globals (cellsFrom Î scope.names O) F j code (some m) z) {s with heap:=pushCells (s.heap.push {cls:=.type "dict",data:=.dict #[]}) scope.names}):
  wpAny M A (newFunctionEnv scope globals O [] F j code (some m) z) Q E s:=by
 simp only[newFunctionEnv,aph,OP];apply aP (wpAny_alloc ?_);apply aP (wpAny_layCells _ (λn k c=>Á) scope.names O _ _ ?_);rw[show({s with heap:=s.heap.push {cls:=.type "dict",data:=.dict #[]}}:Sh).heap.objs.size=s.heap.objs.size+1 from qw ..];rw[List.forIn_nil];exact aP (df (df h))
def QJ{S:Scope}{names:List (Str×NameKind)}:∀{x:Str}{k:NameKind},
  (names.map λ(n,k)=>if (k==NameKind.free&&S.kind== .function&&S.names.lookup n==some .cell) then (n,NameKind.cell) else (n,k)).lookup x=some k->
  ∃z,names.lookup x=some z/\(k=z\/(z=.free/\k=.cell)):=by
 induction names with
 |nil=>
  intro _ _ h;simp at h
 |cons m r I=>
  let(n,j):=m;intro x k h;let I:=@I x k;let h':List.lookup x ((if (j==NameKind.free&&S.kind== .function&&S.names.lookup n==some .cell)=true then (n,NameKind.cell) else (n,j))::(r.map _))=some k:=h;cases hx:x==n with
  |true=>
   simp only[vb,hx];by_cases hc:(j==NameKind.free&&S.kind== .function&&S.names.lookup n==some .cell)=true
   .rw[af hc] at h';simp only[vb,hx] at h';cases h';simp only[jw,wK] at hc;exact(j,Á,.inr ⟨hc.1.1,Á⟩)
   .rw[ah hc] at h';simp only[vb,hx] at h';cases h';exact(_,Á,.inl Á)
  |false=>
   simp only[vb,hx];by_cases hc:(j==NameKind.free&&S.kind== .function&&S.names.lookup n==some .cell)=true
   .rw[af hc] at h';simp only[vb,hx] at h';exact I h'
   .rw[ah hc] at h';simp only[vb,hx] at h';exact I h'
structure xk(N:LS)(sc scope:Scope)(own:List (Str×Nat)):Prop where
 kind:scope.kind=.function
 uniq:∀y∈scope.names,scope.names.lookup y.1=some y.2
 ix:∀p∈own,N[p.2]? =some p.1
 free:∀y∈scope.names,y.2=.free->sc.names.lookup y.1=some .cell\/sc.names.lookup y.1=some .free
 own:∀y∈scope.names,y.2=.local\/y.2=.cell->y.1∈own.map (·.1)\/y.1∉N
def wipe(σ:St):LN->St
 |[]=>σ
 |v::vs=>(wipe σ vs).set v none
theorem QK(σ:St):∀vs:LN,(wipe σ vs).length=σ.length:=by
 intro vs;induction vs with
 |nil=>exact Á
 |cons v vs I=>
  delta wipe;rw[List.length_set,I]
theorem QL{σ:St}{i:Nat}{x:V}{vs:LN}:ķ[i]? =some (some x)->σ[i]? =some (some x)/\i∉vs:=by
 induction vs with
 |nil=>exact @λh=>⟨h,by simp⟩
 |cons v vs I=>
  intro h;delta wipe at h;by_cases hi:v=i
  .subst hi;by_cases j:v<(wipe σ vs).length
   .rw[XW j] at h;cases h
   .rw[wN (À j)] at h;cases h
  .rw[XX hi] at h;let(m,h2):=I h;exact(m,by simp only[ba,not_or];exact(λe=>hi e.symm,h2))
abbrev Cx.gj(X:Cx)(s:Sh)(H:Hp)(scope:Scope)(F:Env)(j:LA):Cx:={X with g8:=s,qC:=H,env:=F,outer:=X.stack,ex:=j,fn:=λx=>scope.names.lookup x==some .cell,pn:=[],xe:=λ_ _=>False}
section
variable{X:Cx}{pins:bG}{σ:St}{H:Hp}{s:Sh}
def abb{scope:Scope}{own:List (Str×Nat)}{fp:LA}(I:Ã H s)(ok:Ī own)(hN:X.N.Nodup)(yT:∀b∈fp,ľ H b/\b<s.heap.objs.size):
  Inv (X.gj s H scope (compEnvC scope (cellsFrom Î scope.names (ŭ [])) s.heap.objs.size X.env) fp) [] (wipe σ (own.map (·.2))) H {s with heap:=pushCells (s.heap.push {cls:=.type "dict",data:=.dict #[]}) scope.names}:=by
 let Dv:∀y∈scope.names,y.2=.free->∃c,X.env.cells.lookup y.1=some c:=λy O e=>by
  rcases ok.free y O e with k|k
  .exact I.ok.has _ (.inl k)
  .exact I.ok.has _ (.inr k)
 generalize hcenv:compEnvC scope (cellsFrom Î scope.names (ŭ [])) s.heap.objs.size X.env=F;let kp:∀b o,s.heap.get? b=some o->(pushCells (s.heap.push {cls:=.type "dict",data:=.dict #[]}) scope.names).get? b=some o:=λb o e=>OS _ _ _ _ (dh _ e);let hL:F.locals=s.heap.objs.size:=by rw[<-hcenv];rfl
 let Z:F.cells=cellsFrom Î scope.names (ŭ []):=by rw[<-hcenv];rfl
 let Iu:F.scope=aa3 scope X.env.scope:=by rw[<-hcenv];rfl
 rw[<-qw s.heap {cls:=.type "dict",data:=.dict #[]}] at Z;let cm:∀{y c},(y,c)∈i4 X.env.cells scope.names []->X.env.cells.lookup y=some c/\c<s.heap.objs.size:=λ{y c}J=>by
  rcases QH J with J|⟨j,rfl⟩
  .cases J
  .let(c,hc):=Dv _ j rfl;rw[hc];let(w,z):=I.cell _ _ hc;exact(Á,z.lt)
 let mem:∀{y c},F.cells.lookup y=some c->(X.env.cells.lookup y=some c/\c<s.heap.objs.size)\/(s.heap.objs.size+1<=c/\QG (pushCells (s.heap.push {cls:=.type "dict",data:=.dict #[]}) scope.names) c none):=λ{y c}e=>by
  rw[Z] at e;rcases Ir ϰ with J|⟨_,h2,h3⟩
  .exact .inl (cm J)
  .rw[qw] at h2;exact .inr ⟨h2,h3⟩
 let look:∀{y},scope.names.lookup y=some .free->∃c,F.cells.lookup y=some c/\X.env.cells.lookup y=some c:=λ{y}hl=>by
  let O:(y,NameKind.free)∈scope.names:=PySem.mem_of_lookup hl;let(c',G):=mem_lookup (QI (names:=scope.names) (n:=(s.heap.push {cls:=.type "dict",data:=.dict #[]}).objs.size) (aa7 (cells:=X.env.cells) (acc:=[]) O));rw[<-Z] at G;apply(c',G,?_);rw[Z] at G;rcases Ir (PySem.mem_of_lookup G) with J|⟨j,_,_⟩
  .exact(cm J).1
  .let:=ok.uniq _ j;rw[hl] at this;cases this
 let okB:(X.gj s H scope F fp).Ok:=by
  refine⟨I.ok.mod,by show F.scope.kind=_;rw[Iu];exact ok.kind,by show F.globals=_;rw[<-hcenv];exact I.ok.glob,by show F.builtins=_;rw[<-hcenv];exact I.ok.blt,by show s.heap.objs.size<=F.locals;rw[hL];exact bJ _,
   λy z c S U=>?_,λy O=>?_,λy c z e=>?_,I.ok.hd,I.ok.frames,.inl rfl,λb W=>⟨?_,λy c e z=>?_⟩,I.bs,gQ I.ok.m7 I.sz,λb o e W=>?_,λb W z=>?_,I.stack,I.Du⟩
  .let S:F.cells.lookup y=some c:=S;let U:F.cells.lookup z=some c:=U;rw[Z] at S U;apply aa9 (λp hp=>?_) (λy z c a b=>I.ok.inj y z c (cm a).1 (cm b).1) (PySem.mem_of_lookup S) (PySem.mem_of_lookup U);rw[qw];exact OU (cm (y:=p.1) (c:=p.2) hp).2
  .show ∃c,F.cells.lookup y=some c;let gO:∀k,F.kindOf y=some k->(k=.cell\/k=.free)->∃c,F.cells.lookup y=some c:=λk hk kT=>by
    delta Env.kindOf at hk;rw[Iu] at hk;let(Y,e,r):=QJ hk;let:Y=.cell\/Y=.free:=by
     rcases r with rfl|⟨rfl,_⟩
     .exact kT
     .exact .inr Á
    rcases this with rfl|rfl
    .let(c,J):=aa8 (n:=(s.heap.push {cls:=.type "dict",data:=.dict #[]}).objs.size) (acc:=ŭ []) ϰ;let(c',G):=mem_lookup J;exact(c',by rw[Z];exact G)
    .let(c,j,_):=look e;exact(c,j)
   rcases O with O|O
   .exact gO _ O Ė
   .exact gO _ O Èq
  .let z:(scope.names.lookup y==some NameKind.cell)=true:=z;let z:scope.names.lookup y=some .cell:=by simpa using z
   let e:F.cells.lookup y=some c:=e;rw[Z] at e;rcases Ir ϰ with J|⟨_,h2,_⟩
   .rcases QH J with J|⟨j,_⟩
    .cases J
    .let q:=ok.uniq _ j;rw[z] at q;cases q
   .rw[qw] at h2;exact OT h2
  .show b≠F.locals;rw[hL];exact fj (yT b W).2
  .let e:F.cells.lookup y=some c:=e;rcases mem e with ⟨j,_⟩|⟨j,_⟩
   .exact(yT b W).1.2.2.2.2.1 y c j z
   .let h2:s.heap.objs.size+1<=b:=by rw[<-z];exact j
    exact absurd (iq (yT b W).2 (OT h2)) (qx _)
  .rcases(yT b W).1.2.2.2.1 with z|z
   .exact I.ok.yB b o e z
   .exact absurd (iq (cZ e) (gQ I.ok.m7 z)) (qx _)
  .rcases ba.mp (I.AI b z) with z|z
   .exact(yT b W).1.2.1 z
   .exact(yT b W).1.2.2.1 z
 apply(okB,Á,I.bare,Un.kept kp,⟨λ_=>none,?_,λi y av S U M=>?_⟩,λy c e=>?_,?_,λy c e=>?_,λp hp=>?_,I.ax.kept kp,by rw[QK];exact I.len)
 .show Heap.Ns _ F.locals _;rw[hL];exact Heap.Ns.keeps (Heap.Ns.new ..) λb o e=>OS _ _ _ _ e
 .let(U,aQ):=QL U;let pK:scope.names.lookup y=some .free/\(F.kindOf y=some .cell\/F.kindOf y=some .free):=by
   let gO:∀k,F.scope.names.lookup y=some k->k=.local\/k=.cell\/k=.free->scope.names.lookup y=some .free/\(F.kindOf y=some .cell\/F.kindOf y=some .free):=λk hk kT=>by
    let QM:=hk;rw[Iu] at hk;let(Y,e,r):=QJ hk;let no:¬(Y=.local\/Y=.cell):=λhh=>by
     rcases ok.own _ ϰ hh with G|G
     .let(p,hp,hpy):=cf.mp G;let M:=ok.ix p hp;let:p.1=y:=hpy;rw[this] at M;exact aQ (cf.mpr ⟨p,hp,HE hN M S⟩)
     .exact G (bZ S)
    rcases r with rfl|⟨rfl,rfl⟩
    .rcases kT with rfl|rfl|rfl
     .exact absurd Ė no
     .exact absurd Èq no
     .exact(e,.inr QM)
    .exact(e,.inl QM)
   let M:wV F.scope y:=M;rcases M with M|M|M
   .exact gO _ M Ė
   .exact gO _ M (.inr Ė)
   .exact gO _ M (.inr Èq)
  let(m,hn,hl):=I.loc;let abe:wV X.env.scope y:=(ok.free _ (PySem.mem_of_lookup pK.1) rfl).elim (λk=>.inr (.inl k)) (λk=>.inr (.inr k));let(w,r,q):=hl i y av S U abe;apply(w,r,.inr ⟨pK.2,?_⟩);let(c,j,h2):=look pK.1;rcases q with ⟨k,_⟩|⟨_,c',G,z⟩
  .let k:X.env.scope.names.lookup y=some .local:=k;rcases ok.free _ (PySem.mem_of_lookup pK.1) rfl with Y|Y <;> rw[show X.env.scope.names.lookup y=_ from Y] at k <;> cases k
  .rw[h2] at G;cases G;exact(c,j,z.keeps kp)
 .let e:F.cells.lookup y=some c:=e;rcases mem e with ⟨j,_⟩|⟨_,z⟩
  .let(w,z):=I.cell y c j;exact(w,z.keeps kp)
  .exact(_,z)
 .show H F.locals=none;rw[hL];exact I.ax.fresh (bJ _)
 .let e:F.cells.lookup y=some c:=e;rcases mem e with ⟨j,_⟩|⟨j,_⟩
  .exact I.kH y c j
  .exact I.ax.fresh (OT j)
 .exact absurd (show p∈([]:bG)++[] from hp) Ä
def abf(I:Ã H s)(j:H D=some ϲ)(O:xs.length<sizeLine)(r:RelV y v)(h:∀s',Ã (upd H D (.lst (xs++[y]))) s'->Q .none s'):wpAny È X.A (call (.builtin "list.append") [.ref D,v]) Q E s:=by
 let(J,z,n,m,e):=I.ax D _ j;let M:=m.length;apply append_at (hsz:=by simp_all) e λh' S G=>?_;apply h {s with heap:=h'} (I.write (t':=s.toks) (by rw[j];trivial) Ė (λb u F q=>(S.2 b F).trans q) ⟨_,G⟩ ⟨by grind,z++[v],n+1,m.append (.cons r .nil),?_⟩);symm
def xl(X:Cx)(j:List Expr)(t:TT):Prop:=
 ∀(pins:bG)(s:Sh)(σ:St)(H:Hp)(Q:Bool->Hp->Prop),Ã H s->t σ H Q->
  wpAny È X.A (forIn j true λc r=>if r=true then do let ok <-isTrue c X.env (eval c X.env);pure (ForInStep.yield ok) else pure (ForInStep.yield r)) Âu X.xe s
def A5:TT:=λ_ H Q=>Q true H
def eN:xl X [] A5:=λ_ _ _ H _ I h=>wpAny_tests_nil ⟨H,I,h⟩
def pL(h:PT X c t):xl X [c] t:=λpins s σ H Q I hw=>wpAny_tests_one Âq
end
def A6(h:ž t Q Ãx s)(j:∀a s,Q a s->Q' a s):ž t Q' E s:=iU h j λ_ _ z=>False.elim z
def abg(I:Nat->Shared->Prop)(turn:∀n s,I n s->wpAny Ò A (pyNext it) (λr z=>match r with
   |none=>R (.ok .next) z
   |some v=>wpAny Ò A (letOwnedTupleGo C0 it v) (λ_ S=>wpAny Ò A (assign C0 env v) (λ_ M=>
     wpAny Ò A (forIn ju true λc r=>if r=true then do let ok <-isTrue c env (eval c env);pure (ForInStep.yield ok) else pure (ForInStep.yield r)) (λok F=>
      if ok=true then wpAny Ò A (eval j6 env) (λx O=>
       wpAny Ò A (call (.builtin "list.append") [acc,x]) (λ_ U=>∃m,m<n/\I m U) (notedBy Ò A env λe s'=>R Àq s') O) (notedBy Ò A env λe s'=>R Àq s') F
      else ∃m,m<n/\I m F) (notedBy Ò A env λe s'=>R Àq s') M) (notedBy Ò A env λe s'=>R Àq s') S) (notedBy Ò A env λe s'=>R Àq s') z) (notedBy Ò A env λe s'=>R Àq s') s)
  (n:Nat) (h:I n s):
  codeAny Ò A (.compLoop (.ListComp j6 [⟨C0,iter,ju,0⟩] scope pos) 0 it acc env) R s:=by
 apply codeAny_loop Á I (λn s W=>?_) n h;show wpAny _ A ((compTurn (.ListComp j6 [⟨C0,iter,ju,0⟩] scope pos) 0 it acc env).onRaise (λx=>do noteFrame x env;theTreesLotGoes x)) _ _ s;apply wpAny_noted ?_;rw[compTurn_list];apply aP (OV (aP (iU (turn n s W) (λr z G=>?_) λ_ _ h'=>h')));cases r with
 |none=>exact df G
 |some v=>
  apply aP (iU G (λ_ S j=>?_) λ_ _ h'=>h');apply aP (iU j (λ_ M Y=>aP (iU Y (λok F J=>?_) λ_ _ h'=>h')) λ_ _ h'=>h');cases ok with
  |false=>exact df ⟨Á,J⟩
  |true=>
   exact aP (aP (iU J (λx O Z=>aP (iU Z (λ_ U h₅=>df (df ⟨Á,h₅⟩)) λ_ _ h'=>h')) λ_ _ h'=>h'))
section
inductive jN(D:Addr)(N:Hp->Prop)(y:V)(H:Hp):Prop
 |mk (acc:au) (_:H D=some (.lst acc)) (_:acc.length<sizeLine) (_:N (upd H D (.lst (acc++[y]))))
def A7(F:TI)(g:TG)(tt:TT)(te:TE)(vs:LN):TE:=λσ H Q=>F σ H λJ H1=>∀D,H1 D=none->∃W:Nat->Nat->Hp->Prop,(∃m,W 0 m Ċ)/\∀i m H,W i m H->
 (J.stop i H/\Q Ái H)\/(J.go i H/\∃Nx:Hp->Prop,(∀H',Nx H'->∃M,M<m/\W (i+1) M H')/\∀x H',J.m8 i H x H'->g x ķ H' λσ2 z=>wipe σ2 vs=wipe σ vs/\tt σ2 z λb j=>
  if b=true then te σ2 j Åt else Nx j)
def QN{Ex:VP}{Eb:Cx->VP}(hc:X.calm=true) (hN:X.N.Nodup) (I:Ã H s) (hi:PI (X.iD Ex) tg iter wi) (ok:Ī own)(hg:∀(s:Sh)(H:Hp)(C:Addr)(cl:eV)(fp:LA),PG Ð tg g) (ht:∀(s:Sh)(H:Hp)(C:Addr)(cl:eV)(fp:LA),xl Ð ju tt)(he:∀(s:Sh)(H:Hp)(C:Addr)(cl:eV)(fp:LA),PE ((X.gj s H scope Àr fp).iD (Eb Ð)) j6 te) (hs:∀x,foldedSetIterable iter X.env x=pure x)(h:A7 wi g tt te (own.map (·.2)) σ H Q)(hRR:∀D C s' m H',Ã H' s'->Q Ái H'->s'.heap.Ns C m->ľ H' C->compPost È X.A Ex use Qf Ái C (.ok .next) s')(hX:∀s3 H3 cl fp D e s',Ã H3 s3->(∀b∈fp,ľ H3 b/\b<s3.heap.objs.size)->Eb (X.gj s3 H3 scope ġ fp) e s'->notedBy È X.A ġ (λe=>compPost È X.A Ex use Qf Ái s3.heap.objs.size Àq) e s'):
  wpAny È X.A (comprehension à scope X.env lr (newList []) false (eval iter X.env) use) Qf Ex s:=by
 let Dv:∀y∈scope.names,y.2=.free->∃c,X.env.cells.lookup y.1=some c:=λy hy e=>by
  rcases ok.free y hy e with k|k
  .exact I.ok.has _ (.inl k)
  .exact I.ok.has _ (.inr k)
 refine wpAny_comprehension_free (use:=use) Á hs (aa5 Dv) ok.kind (λy hy e=>by rw[ok.uniq y hy,e])
  (aK (hi pins s σ H _ (I.iD _) h) λxv s1 hx=>aK hx λHM Y h2=>?_)
 let(it,fp,tn,J,H2,e,I2,T,DE,f2,q):=h2;let I2:=I2.lU;subst e;apply OI (aba ?_) (by show 0<=sizeLine;decide);generalize hD:Y.heap.objs.size=D;let hDn:H2 D=none:=I2.ax.fresh (C5 hD);let(W,(m0,w0),turn):=q D hDn;generalize Iv:({Y with heap:=Y.heap.push {cls:=.type "list",data:=.seq ([]:LV).toArray}}:Sh)=s3;let Z:Ã Àv s3:=by
  rw[<-Iv];apply I2.laid (t':=Y.toks) Åk (C5 hD) ⟨dY _,[],0,.nil,?_⟩;rw[<-hD];exact ib _ Á
 let h3:s3.heap=Y.heap.push {cls:=.type "list",data:=.seq ([]:LV).toArray}:=by rw[<-Iv]
 let sz:∀b∈fp,b<Y.heap.objs.size:=λb F=>by
  let(o,e,_):=T.obj _ _ DE b F;exact cZ e
 let G:∀b∈fp,ľ Àv b/\b<s3.heap.objs.size:=λb F=>by
  let bQ:=sz b F;apply(⟨?_,(f2 b F).2⟩,by rw[h3,qw];exact OU bQ);rw[ao (by grind)];exact(f2 b F).1
 let DF:tn 0 s3.heap:=T.keep _ _ _ DE λb _ o e=>by rw[h3];exact dh _ e
 let I4:=abb Z ok hN G;let pg:=hg s3 Àv s3.heap.objs.size è fp;let pt:=ht s3 Àv s3.heap.objs.size è fp;let pe:=he s3 Àv s3.heap.objs.size è fp;show codeAny _ _ (.compStart à 0 Ãa Ái (compEnvC scope è s3.heap.objs.size X.env)) (compPost È X.A Ex use Qf Ái s3.heap.objs.size) {s3 with heap:=pushCells (s3.heap.push {cls:=.type "dict",data:=.dict #[]}) scope.names};let QO:∀b∈fp,(Àv) b=none:=λb F=>(G b F).1.1;generalize kU:compEnvC scope è s3.heap.objs.size X.env=ce at I4 pg pt pe⊢;let cL:ce.locals=s3.heap.objs.size:=by subst kU;rfl
 generalize hH3:upd H2 D ã=H3 at Z I4 pg pt pe w0 QO G;generalize hs4:({s3 with heap:=pushCells (s3.heap.push {cls:=.type "dict",data:=.dict #[]}) scope.names}:Sh)=s4 at I4⊢;let QP:tn 0 s4.heap:=T.keep _ _ _ DF λb _ o e=>by rw[<-hs4];exact OS _ _ _ _ (dh _ e)
 let wZ:∀{σ':St}{H':Hp}{s':Sh},Inv ę [] σ' H' s'->(∀b∈fp,H' b=none)->∀b∈fp,lV ę [] H' b:=λ{σ' H' s'}O U b F=>
  ⟨U b F,(O.ok.AH b F).1,O.ok.yC b F,.inl F,λx c e=>(O.ok.AH b F).2 x c e,λp hp=>absurd (show p∈([]:bG)++[] from hp) Ä⟩
 let XG:codeAny È X.A (.compLoop à 0 Ãa Ái ce) (compPost È X.A Ex use Qf Ái s3.heap.objs.size) s4:=by
  apply abg (λn s'=>∃i H',Inv ę [] (wipe σ (own.map (·.2))) H' s'/\tn i s'.heap/\(∀b∈fp,H' b=none)/\W i n H') ?_ m0 ⟨0,H3,I4,QP,QO,w0⟩;rintro n s5 ⟨i,M,I5,yH,n5,w5⟩;rcases turn i n M w5 with ⟨stop,qq⟩|⟨go,Nx,hNx,step⟩
  .let td:=T.done ę rfl rfl rfl hc i [] s5 _ M Ãx I5 (wZ I5 n5) yH stop;apply A6 td λr s6 ⟨hr,S⟩=>?_;subst hr;let I7:Ã M s6:=Z.vi (ch:=fp) S.os S.base S.ax S.bare λb F=>⟨(G b F).1.2.2.2.1,(G b F).1.2.1,(G b F).1.2.2.2.2.1,(G b F).1.2.2.2.2.2⟩;let nC:M s3.heap.objs.size=none:=by
    let z:M ce.locals=none:=S.free;rw[cL] at z;exact z
   let(m,U,_):=S.loc;let U:s6.heap.Ns ce.locals m:=U;rw[cL] at U;exact hRR D s3.heap.objs.size s6 m M I7 qq U (Z.vp (bJ _) nC)
  .let ti:=T.item ę rfl rfl rfl hc i [] s5 _ M Ãx I5 (wZ I5 n5) yH go;apply A6 ti λr s6 ⟨u,hr,h6⟩=>?_;subst hr;apply A6 h6 λ_ s7 ⟨x,H7,I7,r7,y7,Iw,n7⟩=>?_;let I7':=I7.pinned (wZ I7 n7) (T.obj _ _ Iw);apply A6 (pg _ s7 _ H7 x u _ I7' r7 (step x H7 y7)) λ_ s8 ⟨σ8,H8,I8,DQ,q8⟩=>?_;apply A6 (pt _ s8 σ8 H8 _ I8 q8) λb s9 ⟨H9,I9,q9⟩=>?_;let fin:∀{s':Sh}{H':Hp},Inv ę ([]++AS fp s7.heap) σ8 H' s'->Nx H'->∃m,m<n/\∃i H',Inv ę [] (wipe σ (own.map (·.2))) H' s'/\tn i s'.heap/\(∀b∈fp,H' b=none)/\W i m H':=λ{s' H'}O nx=>by
    let(m',hm,w'):=hNx H' nx;let QQ:∀b∈fp,∀o,s7.heap.get? b=some o->s'.heap.get? b=some o/\H' b=none:=λb F o e=>
     let z:=O.pin (b,o) (tX _ (tX _ (HP F e)))
     ⟨z.1,z.2.1⟩
    let hl:(wipe σ (own.map (·.2))).length=σ8.length:=by rw[<-DQ,QK]
    apply(m',hm,i+1,H',(O.DC (pins:=[])).weak hl (λj v e=>?_),T.keep _ _ _ Iw λb F o e=>(QQ b F o e).1,λb F=>?_,w')
    .rw[<-DQ] at e;exact(QL e).1
    .let(o,e,_):=T.obj _ _ Iw b F;exact(QQ b F o e).2
   cases b with
   |false=>
    simp only[Bool.false_eq_true,if_false] at q9⊢;exact fin I9 q9
   |true=>
    simp only[OP] at q9⊢;exact iU (pe _ s9 σ8 H9 _ (I9.iD _) q9) (λz oB ⟨yv,DR,I10,r10,acc,abo,abp,nx⟩=>abf (X:=X.gj s3 H3 scope ce fp) I10.lU abo abp r10 λkW vB=>fin vB nx) λe oB hz=>kU▸ hX s3 H3 _ fp D e oB Z G (kU▸ hz)
 exact codeAny_compStart_list XG (T.self X.A 0 _ _ _ QP XG)
def eF(hc:X.calm=true)(S:X.N.Nodup)(hi:PI X tg iter wi)(ok:Ī own)(Y:∀(s:Sh)(H:Hp)(C:Addr)(cl:eV)(fp:LA),PG Ð tg g) (ht:∀(s:Sh)(H:Hp)(C:Addr)(cl:eV)(fp:LA),xl Ð ju tt)(W:∀(s:Sh)(H:Hp)(C:Addr)(cl:eV)(fp:LA),PE Ð j6 te) (hs:∀x,foldedSetIterable iter X.env x=pure x:=by intro _;rfl):
  PE X à (A7 wi g tt te (own.map (·.2))):=by
 show Õ;rw[eval_ListComp];apply QN (Ex:=X.xe) (Eb:=λ_ _ _=>False) hc S I hi ok Y ht W hs h (λD C s' m H' j q Z f=>⟨m,Z,λpN sb=>?_⟩) λ_ _ _ _ _ _ _ _ _ z=>z.elim;let(F,G,f2,J,M,O):=f;exact(.ref D,H',j.turned (t':=s'.toks) (λb o U e=>(sb.2 b U).trans e) F G J M O,Á,q)
def QR{Ex:VP}{Eb:Cx->VP}(hc:X.calm=true)(z:X.N.Nodup)(hy:X.N[i]? =some y)(F:X.env.scope.names.lookup y=some .local)(G:swapsWith à (some (.Name y py)) vC.line X.env=pure true) (hi:PI (X.iD Ex) tg iter wi) (ok:Ī own)(hg:∀(s:Sh)(H:Hp)(C:Addr)(cl:eV)(fp:LA),PG Ð tg g) (ht:∀(s:Sh)(H:Hp)(C:Addr)(cl:eV)(fp:LA),xl Ð ju tt)(he:∀(s:Sh)(H:Hp)(C:Addr)(cl:eV)(fp:LA),PE ((X.gj s H scope Àr fp).iD (Eb Ð)) j6 te) (hs:∀x,foldedSetIterable iter X.env x=pure x) (hX:∀{use:Option (Value->Sem Unit)}{Qf:VP}pins σ s3 H3 cl fp D e s',Ã H3 s3->(∀b∈fp,ľ H3 b/\b<s3.heap.objs.size)->Eb (X.gj s3 H3 scope ġ fp) e s'->notedBy È X.A ġ (λe=>compPost È X.A Ex use Qf Ái s3.heap.objs.size Àq) e s'):
  PS (X.iD Ex) (.Assign [.Name y py] à vC) (yG (A7 wi g tt te (own.map (·.2))) (pH i)):=by
 intro pins s σ H D I h;rw[exec_Assign_Name_used _ _ _ _ G];apply aP (OV (aP ?_));let h:=h;apply aP (aK (QN (X:=X) (Eb:=Eb) (Qf:=λ_ s'=>SP (X.iD Ex) pins D .next s') hc z I.lU hi ok hg ht he hs h (λL C s' m H' J q hn f=>?_) (hX pins σ)) λ_ s' hq=>df (df hq));apply wpAny_assign_Name (Po (v:=V.ref L) J z hy (.inl F) Á (λs2 M ⟨a,sb,ha⟩=>?_) (.inr F));let(O,U,f2,W,Y,Z):=f;let j:C≠a:=by
  grind
 apply(m,hn.sameBut sb j,λh3 S=>?_);exact(_,H',(M.turned (t':=s2.toks) (λb o hb e=>(S.2 b hb).trans e) O U W Y Z).iD _,q)
def um(hc:X.calm=true)(m:X.N.Nodup)(J:X.N[i]? =some y)(S:X.env.scope.names.lookup y=some .local)(j:swapsWith à (some (.Name y py)) vC.line X.env=pure true) (hi:PI X tg iter wi) (ok:Ī own)(G:∀(s:Sh)(H:Hp)(C:Addr)(cl:eV)(fp:LA),PG Ð tg g) (I:∀(s:Sh)(H:Hp)(C:Addr)(cl:eV)(fp:LA),xl Ð ju tt)(F:∀(s:Sh)(H:Hp)(C:Addr)(cl:eV)(fp:LA),PE Ð j6 te) (hs:∀x,foldedSetIterable iter X.env x=pure x:=by intro _;rfl):
  PS X (.Assign [.Name y py] à vC) (yG (A7 wi g tt te (own.map (·.2))) (pH i)):=by
 exact QR (Ex:=X.xe) (Eb:=λ_ _ _=>False) hc m J S j hi ok G I F hs λ_ _ _ _ _ _ _ _ _ _ _ z=>z.elim
end
def DS{lo:Int}{n:Nat}{g:TG}{tt:TT}{te:TE}{vs:LN}{σ:St}{H1:Hp}{D:Addr}{Qd:Hp->Prop}(j:Nat->Hp->Prop)(I:j 0 Ċ)(hs:∀i H,i<n->j i H->g (.int (lo+i)) ķ H λσ2 F=>wipe σ2 vs=wipe σ vs/\tt σ2 F λb z=>
   if b=true then te σ2 z (jN D (j (i+1))) else j (i+1) z) (hd:∀H,j n H->Qd H):
  ∃W:Nat->Nat->Hp->Prop,(∃m,W 0 m Ċ)/\∀i m H,W i m H->
   ((wY lo n).stop i H/\Qd H)\/((wY lo n).go i H/\∃Nx:Hp->Prop,(∀H',Nx H'->∃M,M<m/\W (i+1) M H')/\∀x H',(wY lo n).m8 i H x H'->g x ķ H' λσ2 F=>wipe σ2 vs=wipe σ vs/\tt σ2 F λb z=>
    if b=true then te σ2 z Åt else Nx z):=by
 apply(λi m H=>m=n-i/\i<=n/\j i H,⟨n,by simp,dY _,I⟩,?_);rintro i m H ⟨rfl,hi,p⟩;by_cases G:i<n
 .apply .inr ⟨G,j (i+1),λH' J=>⟨n-(i+1),by omega,rfl,G,J⟩,λx H' y=>?_⟩;let(e,y):=y;symm
 .let e:i=n:=by omega
  subst e;exact .inl ⟨bJ _,hd H p⟩
def gC{K:FR}{a:Addr}{xs:au}{g:TG}{tt:TT}{te:TE}{vs:LN}{σ:St}{H1:Hp}{D:Addr}{Qd:Hp->Prop}(j:Nat->Hp->Prop)(I:j 0 Ċ)(J:∀i H,i<=xs.length->j i H->â a xs)(hs:∀i x H,xs[i]? =some x->j i H->g x ķ H λσ2 F=>wipe σ2 vs=wipe σ vs/\tt σ2 F λb z=>
   if b=true then te σ2 z (jN D (j (i+1))) else j (i+1) z) (hd:∀H,j xs.length H->Qd H):
  ∃W:Nat->Nat->Hp->Prop,(∃m,W 0 m Ċ)/\∀i m H,W i m H->
   ((vq K a).stop i H/\Qd H)\/((vq K a).go i H/\∃Nx:Hp->Prop,(∀H',Nx H'->∃M,M<m/\W (i+1) M H')/\∀x H',(vq K a).m8 i H x H'->g x ķ H' λσ2 F=>wipe σ2 vs=wipe σ vs/\tt σ2 F λb z=>
    if b=true then te σ2 z Åt else Nx z):=by
 apply(λi m H=>m=xs.length-i/\i<=xs.length/\j i H,⟨xs.length,by simp,dY _,I⟩,?_);rintro i m H ⟨rfl,hi,p⟩;let q:=J i H hi p;by_cases G:i<xs.length
 .apply .inr ⟨⟨xs,xs[i],q,by simp[G]⟩,j (i+1),λH' O=>⟨xs.length-(i+1),by omega,rfl,G,O⟩,λx H' y=>?_⟩;let(e,y):=y;subst e;exact hs i x _ (y xs q) p
 .let e:i=xs.length:=by omega
  subst e;exact .inl ⟨⟨xs,q,bJ _⟩,hd H p⟩
def QS(N:LS)(S scope:Scope)(own:List (Str×Nat)):Bool:=
 (match scope.kind with|.function=>true|_=>false)&&(scope.names.all λy=>decide (scope.names.lookup y.1=some y.2))&&(own.all λp=>decide (N[p.2]? =some p.1))&&
  (scope.names.all λy=>match y.2 with
   |.free=>(match S.names.lookup y.1 with|some .cell=>true|some .free=>true|_=>false)
   |.local=>decide (y.1∈own.map (·.1))||decide (y.1∉N)
   |.cell=>decide (y.1∈own.map (·.1))||decide (y.1∉N)
   |_=>true)
def c6{N:LS}{S scope:Scope}{own:List (Str×Nat)}(h:QS N S scope own=true):xk N S scope own:=by
 delta QS at h;simp only[jw,lx,og] at h;let(((m,h2),F),z):=h;apply(?_,h2,F,λy j e=>?_,λy j e=>?_)
 .split at m
  .assumption
  .cases m
 .let q:=z y j;simp only[e] at q;split at q <;> first|exact .inl (by assumption)|exact .inr (by assumption)|cases q
 .let q:=z y j;rcases e with e|e <;> (simp only[e,Bool.or_eq_true,og] at q;exact q)
section
variable{κ:Type}[DecidableEq κ]
def fW(kvs:List (κ×V))(k:κ):Option V:=(kvs.find? λkv=>decide (kv.1=k)).map (·.2)
def putK(kvs:List (κ×V))(k:κ)(v:V):List (κ×V):=
 if (kvs.any λkv=>decide (kv.1=k))=true then kvs.map (λkv=>if kv.1=k then (kv.1,v) else kv) else kvs++[(k,v)]
def qK{p:κ×V}{r:List (κ×V)}{k:κ}(e:p.1=k):fW (p::r) k=some p.2:=by simp[fW,ko,e]
def qL{p:κ×V}{r:List (κ×V)}{k:κ}(e:¬p.1=k):fW (p::r) k=fW r k:=by simp[fW,ko,e]
theorem Iy(k:κ):∀kvs:List (κ×V),(kvs.any λkv=>decide (kv.1=k))=(fW kvs k).isSome:=by
 intro kvs;induction kvs with
 |nil=>exact Á
 |cons p r I=>
  rw[t7];by_cases e:p.1=k
  .simp only[qK e,eJ e,Bool.true_or,aph]
  .rw[qL e,fQ e,OW];exact I
theorem abt(k j:κ)(y:V):∀kvs:List (κ×V),fW (kvs.map λkv=>if kv.1=k then (kv.1,y) else kv) j=(fW kvs j).map λx=>if j=k then y else x:=by
 intro kvs;induction kvs with
 |nil=>exact Á
 |cons p r I=>
  let I:=I;rw[a0];by_cases h:p.1=k
  .rw[af h];by_cases e:p.1=j
   .rw[qK (p:=(p.1,y)) e,qK e,G6,af (e.symm.trans h)]
   .rw[qL (p:=(p.1,y)) e,qL e,I]
  .rw[ah h];by_cases e:p.1=j
   .rw[qK (p:=p) e,qK e,G6,ah (λz=>h Çs)]
   .rw[qL (p:=p) e,qL e,I]
theorem abu(k j:κ)(y:V):∀kvs:List (κ×V),fW kvs k=none->fW (kvs++[(k,y)]) j=if j=k then some y else fW kvs j:=by
 intro kvs;induction kvs with
 |nil=>
  intro _;by_cases e:k=j
  .rw[af e.symm];exact qK (p:=(k,y)) e
  .rw[ah (λz=>e z.symm)];exact qL (p:=(k,y)) e
 |cons p r I=>
  intro m;rw[List.cons_append];let hk:¬p.1=k:=λz=>by rw[qK z] at m;cases m
  rw[qL hk] at m;let I:=I m;by_cases e:p.1=j
  .rw[qK e,qK e,ah (λz=>hk Çs)]
  .rw[qL e,qL e,I]
def abv(kvs:List (κ×V))(k j:κ)(y:V):fW (Ŋ y) j=if j=k then some y else fW kvs j:=by
 delta putK;by_cases a:(kvs.any λkv=>decide (kv.1=k))=true
 .rw[af a,abt];rw[Iy] at a;by_cases e:j=k
  .let(x,m):=G1.mp a;symm
  .symm
 .rw[ah a];apply abu k j y kvs ?_;rw[Iy] at a;symm
def A9(kvs:List (κ×V))(k:κ)(v:V):(Ŋ v).length<=kvs.length+1:=by
 delta putK;grind
theorem jL.Iz(r:jL o u):o.isSome=u.isSome:=by
 cases o with
 |none=>cases u with
  |none=>rfl
  |some _=>exact(show False from r).elim
 |some _=>cases u with
  |none=>exact(show False from r).elim
  |some _=>rfl
theorem jL.getD(r:jL o u)(j:RelV d d'):RelV (o.getD d) (u.getD d'):=by
 cases o with
 |none=>cases u with
  |none=>exact j
  |some _=>exact(show False from r).elim
 |some _=>cases u with
  |none=>exact(show False from r).elim
  |some _=>exact r
theorem KV.val{kvs:List (κ×V)}{vs:List (κ×Value)}(r:KV kvs vs)(k:κ):jL (fW kvs k) (valueAt vs k):=by
 delta KV at r;induction r with
 |nil=>exact True.intro
 | @cons p q ps qs h t ih=>
  let(m,h2):=h;by_cases e:p.1=k
  .let j:q.1=k:=m.symm.trans e;let b:valueAt (q::qs) k=some q.2:=by simp[valueAt,ko,j]
   rw[qK e,b];exact h2
  .let j:¬q.1=k:=λz=>e (m.trans z);let b:valueAt (q::qs) k=valueAt qs k:=by simp[valueAt,ko,j]
   rw[qL e,b];exact ih
theorem KV.any(r:KV kvs vs)(k:κ):(kvs.any λkv=>decide (kv.1=k))=vs.any λkv=>decide (kv.1=k):=by
 delta KV at r;induction r with
 |nil=>rfl
 |cons h t I=>symm
def KV.IA(r:KV kvs vs)(k:κ)(j:RelV y u):
  KV (kvs.map λkv=>if kv.1=k then (kv.1,y) else kv) (vs.map λkv=>if kv.1=k then (kv.1,u) else kv):=by
 delta KV at r⊢;induction r with
 |nil=>exact .nil
 | @cons p q ps qs h t ih=>
  rw[a0,a0];apply .cons ?_ ih;grind
def KV.put(r:KV kvs vs)(k:κ)(j:RelV y u):KV (Ŋ y) (stored vs k u):=by
 delta putK stored;rw[r.any k];by_cases e:(vs.any λkv=>decide (kv.1=k))=true
 .rw[af e,af e];exact r.IA k j
 .rw[ah e,ah e];exact Paired.snoc r ⟨Á,j⟩
def KV.length{kvs:List (κ×V)}{vs:List (κ×Value)}(r:KV kvs vs):kvs.length=vs.length:=Paired.length r
end
theorem vD(r:RelV (kV k) u):(eW P w).is k u=true:=by
 cases k with
 |inl i=>let(t,e):=(show ∃t,u=Value.int i t from r);subst e;exact Zj P w i t
 |inr x=>let(t,e):=(show ∃t,u=Value.str x t from r);subst e;exact Zk P w x t
theorem abw{P:Pg}{w:Wd}{ks:dZ}:∀{U:LV},bc (ks.map kV) U->ItemsAre Âr ks U:=by
 induction ks with
 |nil=>
  intro _ r;rw[lQ] at r;cases r;exact .nil
 |cons k ks I=>
  intro _ r;rw[a0] at r;cases r with
  |cons h t=>exact .cons (vD h) (I t)
abbrev KT(H:Hp):List (dZ×V)->List (dZ×Addr×Value)->Prop:=Paired λp q=>p.1=q.1/\H q.2.1=some (.tup (p.1.map kV))/\RelV p.2 q.2.2
theorem KT.val{H:Hp}{kvs:List (dZ×V)}{xs:List (dZ×Addr×Value)}(r:KT H kvs xs)(k:dZ):jL (fW kvs k) ((atKey xs k).map (·.2)):=by
 induction r with
 |nil=>exact True.intro
 | @cons p q ps qs h t ih=>
  let(m,_,h2):=h;by_cases e:p.1=k
  .let j:q.1=k:=m.symm.trans e;let b:atKey (q::qs) k=some q.2:=by simp[atKey,ko,j]
   rw[qK e,b];exact h2
  .let j:¬q.1=k:=λz=>e (m.trans z);let b:atKey (q::qs) k=atKey qs k:=by simp[atKey,ko,j]
   rw[qL e,b];exact ih
def KT.IA{H:Hp}{kvs:List (dZ×V)}{xs:List (dZ×Addr×Value)}(r:KT H kvs xs)(k:dZ){y:V}{u:Value}(F:RelV y u):
  KT H (kvs.map λkv=>if kv.1=k then (kv.1,y) else kv) (xs.map (putAt k u)):=by
 induction r with
 |nil=>exact .nil
 | @cons p q ps qs h t ih=>
  rw[a0,a0];apply .cons ?_ ih;let(j,h2,m):=h;delta putAt;by_cases e:p.1=k
  .rw[af e,af (j.symm.trans e)];exact(j,h2,F)
  .rw[ah e,ah (λz=>e (j.trans z))];exact(j,h2,m)
def KT.put(r:KT H kvs xs)(k:dZ)(m:H b=some Âj)(j:RelV y u):
  KT H (Ŋ y) (storedH xs k b u):=by
 let e:(kvs.any λkv=>decide (kv.1=k))=(atKey xs k).isSome:=by
  rw[Iy,(r.val k).Iz,Dg]
 delta putK storedH;rw[e];by_cases q:(atKey xs k).isSome=true
 .rw[af q,af q];exact r.IA k j
 .rw[ah q,ah q];exact Paired.snoc r ⟨Á,m,j⟩
def KT.keeps(r:KT H kvs xs)(j:∀b ys,H b=some Åw->H' b=some Åw):KT H' kvs xs:=
 Paired.lS r λ_ _ z=>⟨z.1,j _ _ z.2.1,z.2.2⟩
section
def QT(ok:ğ h)(e:Rd H a u):Àt u:=e.ok ok
def xm(ok:ğ h)(e:Rd H a ď):kvs.length<=sizeLine/\(a==sysModules)=false/\∃vs,KV kvs vs/\h.DictOf Âr a vs:=
 show ft P w H h a ď from QT ok e
def DT(ok:ğ h)(e:H a=some ď):kvs.length<=sizeLine/\(a==sysModules)=false/\∃vs,KV kvs vs/\h.DictOf Âr a vs:=xm ok (.inl e)
def xn{ks:dZ}(ok:ğ h)(e:H a=some (.tup (ks.map kV))):(tupleKind Âr).is h ks a:=by
 let(_,j,r,o,m,h2,n,z):=(show ft P w H h a (.tup (ks.map kV)) from ok a _ e);exact(o,j.toArray,n,m,h2,z,by simpa using abw r)
def xo{kvs:List (dZ×V)}(ok:ğ h)(e:Rd H a Ãb):kvs.length<=sizeLine/\(a==sysModules)=false/\
  ∃xs,KT H kvs xs/\h.DictOfH Çh a xs:=by
 let(z,y,xs,r,o,es,ep,F,h2,G,I,J):=(show ft P w H h a Ãb from QT ok e);apply(z,y,xs,r,o,es,ep,F,h2,G,I,λx j=>?_,J);let all:∀{l:List (dZ×V)}{m:List (dZ×Addr×Value)},KT H l m->∀x∈m,(tupleKind Âr).is h x.1 x.2.1:=by
  intro l m q;induction q with
  |nil=>intro x j;exact nomatch j
  | @cons p q ps qs hq t ih=>
   intro x j;rcases ba.mp j with e|j
   .subst e;exact xn ok (by rw[<-hq.1];exact hq.2.1)
   .exact ih x j
 exact all r x j
def abx(ok:ğ h)(e:H a=some Ãb):kvs.length<=sizeLine/\(a==sysModules)=false/\
  ∃xs,KT H kvs xs/\h.DictOfH Çh a xs:=xo ok (.inl e)
end
def jO(H:Hp)(a:Addr)(y:V)(r:Option V):Prop:=
 (∃kvs k,Rd H a ď/\y=kV k/\r=fW kvs k)\/∃kvs k b,Rd H a Ãb/\y=.ref b/\H b=some Âj/\r=fW kvs k
def xp(H:Hp)(a:Addr)(y v:V)(H':Hp):Prop:=
 (∃kvs k,H a=some ď/\y=kV k/\kvs.length<sizeLine/\H'=upd H a (.dK (Ŋ v)))\/
 ∃kvs k b,H a=some Ãb/\y=.ref b/\H b=some Âj/\kvs.length<sizeLine/\H'=upd H a (.dT (Ŋ v))
def jO.k{H:Hp}{a:Addr}{kvs:List (Key×V)}{k:Key}(e:H a=some ď):jO H a (kV k) (fW kvs k):=.inl ⟨kvs,k,.inl e,rfl,rfl⟩
def jO.t{H:Hp}{a b:Addr}{kvs:List (dZ×V)}{k:dZ}(e:H a=some Ãb)(j:H b=some Âj):jO H a (.ref b) (fW kvs k):=.inr ⟨kvs,k,b,.inl e,rfl,j,rfl⟩
def xp.k{H:Hp}{a:Addr}{kvs:List (Key×V)}{k:Key}{v:V}(e:H a=some ď)(j:kvs.length<sizeLine):xp H a (kV k) v (ť (.dK (Ŋ v))):=.inl ⟨kvs,k,e,rfl,j,rfl⟩
section
variable{X:Cx}{pins:bG}{σ:St}{H:Hp}{s:Sh}{a:Addr}{y v:V}{u r:Value}{o:Option V}{A:Around}{E:VP}
def Inv.big(I:Ã H s):sysModules<s.heap.objs.size:=by
 let h:mainGlobals<s.heap.objs.size:=(I.mod.glob.keeps I.bk).lt;exact G7 Ù h
def aby(S:A.units+1<cLine)(I:Ã H s)(g:jO H a y Ãj)(J:RelV y u)(h:∀W s',Ã H s'->RelV v W->Q W s'):
  wpAny È A (getItem Ĝ u) Q E s:=by
 rcases g with ⟨kvs,k,e,j,l⟩|⟨kvs,k,b,e,j,M,l⟩
 .subst j;let(z,hd,vs,F,dd):=xm I.ax e;let(W,m,G):=jL.some_of (v:=v) (o:=valueAt vs k) (by rw[l];exact F.val k);exact wpAny_getItem_of (vD J) dd.mapOf m (h W _ (I.tok _) G)
 .subst j;cases (show u=Value.ref b from J);let(z,hd,xs,F,dd):=xo I.ax e;let(W,m,G):=jL.some_of (v:=v) (o:=(atKey xs k).map (·.2)) (by rw[l];exact F.val k);let(p,O,qA):=yr.mp m;apply wpAny_getItem_heap (Dh S) (xn I.ax M) dd O ?_;rw[qA];exact h W _ (I.tok _) G
def abz(J:A.units+1<cLine)(I:Ã H s)(g:jO H a y o)(m:RelV y u)(h:∀s',Ã H s'->Q (.bool (!o.isSome)) s'):
  wpAny È A (compareOp .NotIn u Ĝ) Q E s:=by
 rcases g with ⟨kvs,k,e,j,l⟩|⟨kvs,k,b,e,j,G,l⟩
 .subst j;let(z,hd,vs,F,dd):=xm I.ax e;apply wpAny_notIn_of (vD m) hd dd.mapOf ?_;rw[<-(F.val k).Iz,<-l];exact h _ (I.tok _)
 .subst j;cases (show u=Value.ref b from m);let(z,hd,xs,F,dd):=xo I.ax e;apply wpAny_notIn_heap (Dh J) (xn I.ax G) hd dd ?_;let q:=(F.val k).Iz;rw[Dg] at q;rw[<-q,<-l];exact h _ (I.tok _)
def IB{h':Heap}{t':Nat}{O:HO}(I:Ã H s)(M:uc (H a))(hs:Heap.SameBut a s.heap h')(m:∃q,h'.get? a=some q)(new:Àb (ť O) h' a O):
  Inv X pins σ (ť O) {s with heap:=h',toks:=t'}:=
 I.write (x:=a) (e:=a) M (.inl rfl) (λb q j z=>(hs.2 b j).trans z) m new
def QU(z:kvs.length<=sizeLine)(hd:(a==sysModules)=false)(F:KV kvs vs)(dd:h'.DictOf Âr a vs):
  ft P w H' h' a ď:=⟨z,hd,vs,F,dd⟩
def abA{H':Hp}{Q:Unit->Shared->Prop}(hu:A.units+1<cLine)(I:Ã H s)(g:xp H a y v H')(Y:RelV y u)(W:RelV v r)(h:∀s',Ã H' s'->Q () s'):
  wpAny È A (setItem Ĝ u r) Q E s:=by
 rcases g with ⟨kvs,k,e,G,l,m⟩|⟨kvs,k,b,e,G,O,l,m⟩
 .subst G m;let(z,hd,vs,F,dd):=DT I.ax e;let M:vs.length<=sizeLine:=by rw[<-F.length];exact z
  let J:(Ŋ v).length<=sizeLine:=by let:=A9 kvs k v;omega
  apply wpAny_setItem_pairs (hsz:=M) (vD Y) dd λh' S hs=>h _ ?_;let he:∃q,h'.get? a=some q:=let ⟨q,_,_,j,_⟩:=S;⟨q,j⟩;exact IB I (by rw[e];exact True.intro) hs he (QU J hd (F.put k W) S)
 .subst G m;cases (show u=Value.ref b from Y);let(z,hd,xs,F,dd):=abx I.ax e;let M:xs.length<=sizeLine:=by rw[<-Paired.length F];exact z
  let J:(Ŋ v).length<=sizeLine:=by let:=A9 kvs k v;omega
  apply wpAny_setItem_heap (hsz:=M) (Dh hu) (xn I.ax O) dd λh' S hs=>h _ ?_;let(q,es,ep,j,h2,Z,h4,_,h5):=S;apply IB I (by rw[e];exact True.intro) hs ⟨q,j⟩ ⟨J,hd,_,(F.put k O W).keeps λc ys U=>?_,q,es,ep,j,h2,Z,h4,h5⟩;rw[ao (Pl U e (λz=>nomatch z))];exact U
end
section
variable{X:Cx}{pins:bG}{σ:St}{H:Hp}{s:Sh}{a:Addr}{kvs:List (Key×V)}{k:Key}{u:Value}{A:Around}{E:VP}
end
def QV(i:Expr):Prop:=∀O iv,subscripted i false O iv=operate [O,iv] (getItem O iv)
def abB{prog:Pg}{w:Wd}{A:Around}{E:VP}{s:Sh}{env:Env}{J U:Expr}{pos:Pos}{T id:String}{Q:VP}(G:typeLookup (.type T) "__getitem__"=pure (some ό)) (hs:QV U)(h:wpAny Ò A (eval J env) (λo z=>wpAny Ò A (eval U env) (λi S=>S.TypeIs o T/\wpAny Ò A (getItem o i) Q E S) E z) E s):
  wpAny Ò A (eval (.Subscript J U pos) env) Q E s:=by
 apply Subscript_ (iU h (λo z I=>iU I (λi S j=>?_) λ_ _ x=>x) λ_ _ x=>x);let(m,j):=j;delta subscriptTail;apply aP ?_;rw[getitemInPython_of_ne m.not_modules];apply aP (wpAny_specialOf m G ?_);let fin:wpAny Ò A (subscripted U false o i) (λr F=>wpAny Ò A (letTemporaryGo J o r >>= λ_=>pure r) Q E F) E S:=by
  rw[hs o i];exact wpAny_operating (iU j (λr F M=>aP (wpAny_letTemporaryGo (df M))) λ_ _ x=>x)
 first
  |exact df (aP fin)
  |exact aP (df (aP fin))
  |exact aP fin
def abC(I:Ã H s)(g:jO H a y o):s.TypeIs Ĝ "dict":=by
 rcases g with ⟨kvs,k,e,_,_⟩|⟨kvs,k,b,e,_,_,_⟩
 .let(_,_,vs,_,dd):=xm I.ax e;exact dd.typeIs
 .let(_,_,xs,_,dd):=xo I.ax e;exact dd.typeIs
def QW(td m:TE):TE:=λσ H Q=>td σ H λx H1=>m σ H1 λy j=>∃a v,x=.ref a/\jO j a y Ãj/\Q v j
def abD(m td:TE):TE:=λσ H Q=>m σ H λy H1=>td σ H1 λx j=>∃a o,x=.ref a/\jO j a y o/\Q (.bl (!o.isSome)) j
def abE(td G F:TE):TS:=λD σ H=>F σ H λv H1=>td σ H1 λx m=>G σ m λy z=>∃a j,x=.ref a/\xp z a y v j/\D.nx σ j
section
def QX(M:X.A.units+1<cLine)(J:PE X o td)(hi:PE X i ty)(hs:QV i):PE X (.Subscript o i pos) (QW td ty):=by
 show Õ;apply abB PySem.F.slot_dict_getitem.lookup hs (aK (J pins s σ H _ I h) λu Z ⟨x,H1,z,W,S⟩=>aK (hi pins Z σ H1 _ z S) λiv s2 ⟨y,m,j,Y,a,v,ex,g,U⟩=>?_);subst ex;obtain rfl:u=Value.ref a:=W;exact(abC j g,aby M j g Y λw' s3 G O=>⟨v,m,G,O,U⟩)
def abF(J:X.A.units+1<cLine)(hi:PE X i ty)(G:PE X o td):PC X .NotIn i o (abD ty td):=by
 show Õ;apply aK (hi pins s σ H _ I h) λiv Y ⟨y,H1,m,W,M⟩=>aK (G pins Y σ H1 _ m M) λu Z ⟨x,j,z,U,a,O,ex,g,S⟩=>?_;subst ex;obtain rfl:u=Value.ref a:=U;exact abz J z g W λs3 F=>⟨.bl (!O.isSome),j,F,Á,S⟩
def IC(O:X.A.units+1<cLine)(M:PE X o td)(hi:PE X i ty)(S:PE X jd tv)(hs:swapsWith jd (some (.Subscript o i lr)) pos.line X.env=pure false):
  PS X (.Assign [.Subscript o i lr] jd pos) (abE td ty tv):=by
 intro pins s σ H D I h;apply wpAny_Assign_Subscript (aK (S pins s σ H _ I h) λr s1 ⟨v,H1,z,Z,U⟩=>aK (M pins s1 σ H1 _ z U) λu s2 ⟨x,j,F,rx,W⟩=>aK (hi pins s2 σ j _ F W) λiv s3 ⟨y,H3,G,ry,a,m,ex,g,Y⟩=>?_) hs;subst ex;obtain rfl:u=Value.ref a:=rx;exact abA O G g ry Z λs4 J=>⟨σ,m,J,Y⟩
end
def abG{P:Pg}{w:Wd}{H:Hp}(h:Heap)(j:sysModules<h.objs.size):ft P w H (h.push {cls:=.type "dict",data:=.dict #[]}) h.objs.size ϳ:=
 ⟨dY _,wL.mpr (dX (fj j)),[],.nil,Yb h⟩
def abH:TE:=λ_ H Q=>∀p,H p=none->Q ģ (upd H p ϳ)
section
def DU:PE X (.Dict [] [] pos) abH:=λpins s σ H Q I h=>
 wpAny_Dict_empty ⟨.ref s.heap.objs.size,_,I.laid (a:=s.heap.objs.size) (o:=.dK []) (t':=s.toks) (λ_ _ q=>dh _ q) (bJ _) (abG s.heap I.big),rfl,h _ Ĩ⟩
end
def uo(kvs j:List (Key×V)):List (Key×V):=j.foldl (λacc kv=>putK acc kv.1 kv.2) kvs
theorem KV.merge:∀{j:List (Key×V)}{rs:List (Key×Value)}{kvs:List (Key×V)}{vs:List (Key×Value)},KV j rs->KV kvs vs->KV (uo kvs j) (merged vs rs):=by
 intro j rs kvs vs r;delta KV at r;induction r generalizing kvs vs with
 |nil=>intro q;exact q
 | @cons p q ps qs h t ih=>
  intro m;let e:KV (putK kvs p.1 p.2) (stored vs q.1 q.2):=by
   let:=m.put p.1 h.2;symm
  exact ih e
theorem abI:∀(j kvs:List (Key×V)),(uo kvs j).length<=kvs.length+j.length:=by
 intro j;induction j with
 |nil=>
  intro kvs;show kvs.length<=kvs.length+0;omega
 |cons p r I=>
  intro kvs;let m:=I (putK kvs p.1 p.2);let h2:=A9 kvs p.1 p.2;show(uo (putK kvs p.1 p.2) r).length<=_;rw[c7];omega
structure M1(X:Cx)(o:Expr)(m:Str)(iT:Pos)(e:Expr)(fV:Pos):Prop where
 base:attributeBase o m X.env Äj=eval o X.env
 dc:((backTo fV (starEach [e] X.env)).all (λx=>!x.1)&&(backToKw fV ϵ).all (λx=>x.1.isSome)
  &&decide (([e]:List Expr).length+([]:List Keyword).length+(if ([]:List Keyword).isEmpty then 0 else 1)<30))=true
 line:(iT.endLine==fV.line)=true
 trees:backTo fV (starEach [e] X.env)=[(false,eval e X.env)]
structure M2(X:Cx)(o:Expr)(m:Str)(iT:Pos)(e f:Expr)(fV:Pos):Prop where
 base:attributeBase o m X.env Äj=eval o X.env
 dc:((backTo fV (starEach [e,f] X.env)).all (λx=>!x.1)&&(backToKw fV ϵ).all (λx=>x.1.isSome)
  &&decide (([e,f]:List Expr).length+([]:List Keyword).length+(if ([]:List Keyword).isEmpty then 0 else 1)<30))=true
 line:(iT.endLine==fV.line)=true
 trees:backTo fV (starEach [e,f] X.env)=[(false,eval e X.env),(false,eval f X.env)]
def DV(H:Hp)(a:Addr):Prop:=(∃kvs,Rd H a ď)\/∃kvs,Rd H a Ãb
def ID(I:Ã H s)(d:DV H a):
  s.TypeIs Ĝ "dict"/\(∀b,Value.ref a=.ref b->∃O,s.heap.get? b=some O/\O.dict=none)/\(a==sysModules)=false:=by
 rcases d with ⟨kvs,e⟩|⟨kvs,e⟩
 .let(_,hd,vs,_,dd):=xm I.ax e;apply(dd.typeIs,λb q=>?_,hd);cases q;let(O,_,_,j,h2,_):=dd;exact(O,j,h2.2.1)
 .let(_,hd,xs,_,dd):=xo I.ax e;apply(dd.typeIs,λb q=>?_,hd);cases q;let(O,_,_,j,h2,_):=dd;exact(O,j,h2.2.1)
section
variable{X:Cx}{pins:bG}{σ:St}{H:Hp}{s:Sh}{a:Addr}{y d:V}{u r:Value}{o:Option V}{A:Around}{E:VP}
def abJ(M:A.units+1<cLine)(I:Ã H s)(g:jO H a y o)(G:RelV y u)(h:∀W s',Ã H s'->RelV (o.getD .aJ) W->Q W s'):
  wpAny È A (call (.builtin "dict.get") [.ref a,u]) Q E s:=by
 rcases g with ⟨kvs,k,e,j,l⟩|⟨kvs,k,b,e,j,J,l⟩
 .subst j;let(z,hd,vs,m,dd):=xm I.ax e;apply Di PySem.F.slot_dict_get dd.typeIs PySem.F.entry_dict_get (PySem.F.args_dict_get_2 _ _) (meets_dict_get Ą a (vD G) hd) ⟨_,dd.mapOf,h _ _ (I.tok _) ?_⟩;rw[l];exact(m.val k).getD Á
 .subst j;cases (show u=Value.ref b from G);let(z,hd,xs,m,dd):=xo I.ax e;apply Di PySem.F.slot_dict_get dd.typeIs PySem.F.entry_dict_get (PySem.F.args_dict_get_2 _ _) (meetsH_dict_get Èe a b hd) ⟨Dh M,k,xs,xn I.ax J,dd,h _ _ (I.tok _) ?_⟩;rw[l];exact(m.val k).getD Á
def abK(O:A.units+1<cLine)(I:Ã H s)(g:jO H a y o)(J:RelV y u)(G:RelV d r)(h:∀W s',Ã H s'->RelV (o.getD d) W->Q W s'):
  wpAny È A (call (.builtin "dict.get") [.ref a,u,r]) Q E s:=by
 rcases g with ⟨kvs,k,e,j,l⟩|⟨kvs,k,b,e,j,M,l⟩
 .subst j;let(z,hd,vs,m,dd):=xm I.ax e;apply Di PySem.F.slot_dict_get dd.typeIs PySem.F.entry_dict_get (PySem.F.args_dict_get_3 _ _ _) (meets_dict_get_default Ą a (vD J) hd r) ⟨_,dd.mapOf,h _ _ (I.tok _) ?_⟩;rw[l];exact(m.val k).getD G
 .subst j;cases (show u=Value.ref b from J);let(z,hd,xs,m,dd):=xo I.ax e;apply Di PySem.F.slot_dict_get dd.typeIs PySem.F.entry_dict_get (PySem.F.args_dict_get_3 _ _ _) (meetsH_dict_get_default Èe a b hd r) ⟨Dh O,k,xs,xn I.ax M,dd,h _ _ (I.tok _) ?_⟩;rw[l];exact(m.val k).getD G
end
def QY(td m:TE):TE:=λσ H Q=>td σ H λx H1=>∃a,x=.ref a/\DV H1 a/\m σ H1 λy j=>∃o,jO j a y o/\Q (o.getD .aJ) j
def abL(td G F:TE):TE:=λσ H Q=>td σ H λx H1=>∃a,x=.ref a/\DV H1 a/\G σ H1 λy m=>F σ m λz j=>∃o,jO j a y o/\Q (o.getD z) j
section
def abM(S:X.A.units+1<cLine)(O:PE X o td)(M:ϝ ty)(m:M1 X o "get" iT e fV):PE X (.Call (.Attribute o "get" iT) [e] [] fV) (QY td ty):=by
 show Õ;apply G8 m.base m.dc m.line PySem.F.plainAttrs_dict PySem.F.slot_dict_get PySem.F.type_dict_get (aK (O pins s σ H _ I h) λu s1 ⟨x,H1,j,Z,a,ex,d,W⟩=>?_);subst ex;obtain rfl:u=Value.ref a:=Z;let(t1,t2,_):=ID j d;refine Çy;rw[m.trees];apply G3 Á (OQ (Dc (aK (M pins s1 σ H1 _ j W) λiv s2 ⟨y,z,G,ry,ov,g,Y⟩=>OM ?_)));exact abJ S G g ry λw' s3 J U=>⟨_,z,J,U,Y⟩
def abN(Z:X.A.units+1<cLine)(Y:PE X o td)(U:ϝ ty)(W:PE X f tx)(m:M2 X o "get" iT e f fV):PE X (.Call (.Attribute o "get" iT) [e,f] [] fV) (abL td ty tx):=by
 show Õ;apply G8 m.base m.dc m.line PySem.F.plainAttrs_dict PySem.F.slot_dict_get PySem.F.type_dict_get (aK (Y pins s σ H _ I h) λu s1 ⟨x,H1,j,rx,a,ex,d,q1⟩=>?_);subst ex;obtain rfl:u=Value.ref a:=rx;let(t1,t2,_):=ID j d;refine Çy;rw[m.trees];refine G3 Á (OQ (Dc (aK (U pins s1 σ H1 _ j q1) λiv s2 ⟨y,G,M,ry,q2⟩=>
  Dc (aK (W pins s2 σ G _ M q2) λfv s3 ⟨z,J,O,rz,ov,g,q3⟩=>OM ?_))))
 exact abK Z O g ry rz λw' s4 S i0=>⟨_,J,S,i0,q3⟩
end
section
variable{X:Cx}{pins:bG}{σ:St}{H:Hp}{s:Sh}{a:Addr}{kvs:List (Key×V)}{A:Around}{E:VP}
end
section
variable{X:Cx}{pins:bG}{σ:St}{H:Hp}{s:Sh}{a:Addr}{y:V}{u:Value}{A:Around}{E:VP}
end
def abO:typeLookup (.type "list") "keys"=pure none:=am_miss_of_fast (by first|decide+kernel|rfl)
def QZ:entryFor table "dict.update.loop"=some Builtin.«dict.update.loop»:=entryFor_of_tree (by kernel_rfl)
def Ba:plainId "dict.update.loop"=true:=by decide+kernel
section
def abP{s:Sh}{a:Addr}{o:Obj}{xs:Array Value}{k:Nat}{Q:Option Value->Shared->Prop}(I:s.heap.get? a=some o)(hc:o.cls=.type "list")(U:o.data=.seq xs k)(hd:o.dict=none)(S:A.handled=none)(h:∀h' tk,(∀b O,s.heap.get? b=some O->h'.get? b=some O)->Q none {s with heap:=h',toks:=tk}):wpAny Ò A (getAttr? Ĝ "keys") Q E s:=by
 let(c,yA,M,sl):=o;simp only at hc U hd;subst hc U hd;let(W,g,d,tk,os):=s;let G:∀J,(⟨W,g,d,J,os⟩:Sh).TypeIs Ĝ "list":=λ_=>⟨_,I,rfl⟩;let j:=abO;let m:(["__module__","__name__","__qualname__","__doc__","__annotations__"]:LS).contains "keys"=false:=by decide+kernel
 let hsz:("keys":Str).length+100<=sizeLine:=by first|size_fits|decide+kernel
 let Y:=sub_AttributeError;let Z:=PySem.F.slot_list_getattribute.lookup;let f4:=PySem.F.slot_list_getattribute.bind Ĝ;let f5:=am_list_getattr_none;delta getAttr? getAttrBy? getAttrBy
 repeat (any_goals (first|assumption|exact G _|((with_reducible show wpAny _ _ (call (Value.builtin "list.__getattribute__") _ _) _ _ _);apply G4 PySem.F.slot_list_getattribute (G _) am_entry_list_getattribute (PySem.F.args_list_getattribute_2 _ _) (meets_getattribute_miss_list a xs k sl "keys" _ j m hsz) ⟨I,S,λh' J e z=>?_⟩)|wp_step))
 let(t',u',he):=z.there;show wpAny _ _ (getattributeRaised _ _ _ _ _ _ _) _ _ _;delta getattributeRaised
 repeat (any_goals (first|assumption|wp_step))
 all_goals first|exact h _ _ z.keeps|(dsimp only;repeat (any_goals (first|assumption|exact h _ _ z.keeps|wp_step)))
theorem abS{α:Type}{R:Result->Shared->Prop}{S I l:Addr}{items:Array Value}{res:Value}{DD:Heap->List α->Prop}{G:Heap->α->Value->Value->Prop}{st:List α->α->List α}(hh:A.handled=none)(hlI:l≠I)(F:S<I)(hSl:S≠l)(dk:∀h h' acc,DD h acc->(∀b o,b<=S->h.get? b=some o->h'.get? b=some o)->DD h' acc) (gk:∀h h' q u y,G h q u y->(∀b o,b<S->h.get? b=some o->h'.get? b=some o)->G h' q u y)(ds:∀(s:Sh)acc q u y(Q:Unit->Shared->Prop)E,G s.heap q u y->DD s.heap acc->acc.length<=sizeLine->(∀h' tk,DD h' (st acc q)->Heap.SameBut S s.heap h'->Q () {s with heap:=h',toks:=tk})->wpAny Ò A.in1 (dictSet S u y) Q E s)(sl:∀acc q,(st acc q).length<=acc.length+1):
  ∀(bI:List α)(i:Nat)(acc:List α)(ix:Int)(t:Tok)(s:Sh),items.size=i+bI.length->acc.length+bI.length<=sizeLine->
   (∀(j:Nat)(q:α),bI[j]? =some q->∃(b:Addr)(u y:Value),items[i+j]? =some (.ref b)/\b<S/\IsTup s.heap b #[u,y]/\G s.heap q u y)->
   s.heap.IsListIter I l i->s.heap.IsList l items->DD s.heap acc->
   (∀h' tk,DD h' (bI.foldl st acc)->(∀b o,b≠S->b≠I->s.heap.get? b=some o->h'.get? b=some o)->R (.ok (.ret res)) {s with heap:=h',toks:=tk})->
   codeAny Ò A (.builtin "dict.update.loop" ⟨[.ref S,.ref I,.int ix t,res],[]⟩) R s:=by
 intro bI;induction bI with
 |nil=>
  intro i acc ix t s hsz DW ht mO O hm hR;apply OX QZ ?_;rw[OY Ba _];apply aP (wpAny_pyNext_list_end (A:=A.in1) hh mO O (by first|exact api (C5 hsz)|(simp at hsz;simp;omega)) λh' he=>?_);exact aP (df (df (hR h' s.toks (dk _ _ _ hm λb o m e=>he b o (fj (pz m F)) e) λb o _ m e=>he b o m e)))
 |cons q bI ih=>
  intro i acc ix t s hsz DW ht mO O hm hR;let(b,u,y,m,hbS,W,hk):=ht 0 q rfl;rw[c7] at hsz DW;apply OX QZ ?_;rw[OY Ba _];apply aP (wpAny_pyNext_list_item (x:=.ref b) mO O (À m) λh1 Y J=>?_);let k1:∀b o,b<=S->s.heap.get? b=some o->h1.get? b=some o:=λb o m e=>J.extBut b o (fj (pz m F)) e;let(o,ho,hc,n,hd):=W.extBut J.extBut (fj (G7 hbS F));apply aP (XJ ?_);apply aP (wpAny_tryCatch ?_);delta Builtin.Dict.pairItems;apply aP (wpAny_typeOf (T:="tuple") ⟨o,ho,hc⟩ ?_);rw[af (by first|decide|rfl|simp)];apply aP (XO ho hd (df ?_));apply XJ (ds _ _ _ _ _ _ _ (gk _ _ _ _ _ hk λb o m e=>k1 b o (tV m) e) (dk _ _ _ hm k1) Æ λh2 tk2 DX M=>?_);let z:=sl acc q;refine df ⟨G9 Ba _,ih (i+1) (st acc q) (ix+1) 0 _ (show items.size=i+1+bI.length by omega) Æ Çz (Y.at λo' e=>M.extBut I o' (tU F) e) ((O.extBut J.extBut hlI).extBut M.extBut (dX hSl)) DX λh' tk pF k=>hR h' tk pF λc oc h3 h4 e=>k c oc h3 h4 (M.extBut c oc h3 (J.extBut c oc h4 e))⟩;let(b',u',y',nj,U,Z,kT):=ht (j+1) q' (À e);exact(b',u',y',by rw[show i+1+j=i+(j+1) by omega];exact nj,U,(Z.extBut J.extBut (fj (G7 U F))).extBut M.extBut (fj U),gk _ _ _ _ _ kT λb o m e=>M.extBut b o (fj m) (k1 b o (tV m) e))
def Q0{s:Sh}{l:Addr}{O:Obj}{items:Array Value}{n:Nat}{α:Type}{prs:List α}{Q:VP}{DD:Heap->List α->Prop}{G:Heap->α->Value->Value->Prop}{st:List α->α->List α}(hh:A.handled=none)(U:s.heap.get? l=some O)(hc:O.cls=.type "list")(hd:O.dict=none)(uq:O.data=.seq items n) (hsz:items.size=prs.length) (DW:prs.length<=sizeLine)(d0:DD (s.heap.push {cls:=.type "dict",data:=.dict #[]}) [])(dk:∀h h' acc,DD h acc->(∀b o,b<=s.heap.objs.size->h.get? b=some o->h'.get? b=some o)->DD h' acc) (gk:∀h h' q u y,G h q u y->(∀b o,b<s.heap.objs.size->h.get? b=some o->h'.get? b=some o)->G h' q u y)(ds:∀(J:Sh)acc q u y(Q:Unit->Shared->Prop)E,G J.heap q u y->DD J.heap acc->acc.length<=sizeLine->(∀h' tk,DD h' (st acc q)->Heap.SameBut s.heap.objs.size J.heap h'->Q () {J with heap:=h',toks:=tk})->wpAny Ò A.in1.in1 (dictSet s.heap.objs.size u y) Q E J)(sl:∀acc q,(st acc q).length<=acc.length+1)(ht:∀(j:Nat)(q:α),prs[j]? =some q->∃(b:Addr)(u y:Value),items[j]? =some (.ref b)/\IsTup s.heap b #[u,y]/\G s.heap q u y)(h:∀h' tk,DD h' (prs.foldl st [])->(∀b o,s.heap.get? b=some o->h'.get? b=some o)->Q Ķ {s with heap:=h',toks:=tk}):
  wpAny Ò A (call (.type "dict") [.ref l]) Q E s:=by
 apply callType_codes (Q₁:=λobj s₁=>obj=.ref s.heap.objs.size/\s₁={s with heap:=s.heap.push {cls:=.type "dict",data:=.dict #[]}}) PySem.F.kt_called_dict (PySem.F.kt_typeCall_dict_1 _) PySem.F.entry_dict_init (kt_code_dict_new _ ⟨Á,Á⟩) ?_;rintro obj s₁ ⟨rfl,rfl⟩;let Q1:(s.heap.push {cls:=.type "dict",data:=.dict #[]}).DictOf Ät s.heap.objs.size []:=Yb s.heap;let k0:∀b o,s.heap.get? b=some o->(s.heap.push {cls:=.type "dict",data:=.dict #[]}).get? b=some o:=λb o e=>dh _ e;apply(Q1.typeIs,PySem.F.args_dict_init_2 _ _,?_);delta Builtin.«dict.__init__»;apply aP ?_;delta Builtin.Dict.selfAndRest;apply aP (wpAny_notOrdered_dict Q1.typeIs ?_);show wpAny _ _ (pure (s.heap.objs.size,[Value.ref l])) _ _ _;apply df ?_;show wpAny _ _ (Builtin.Dict.updateFrom "dict.__init__" s.heap.objs.size Äw [] .none) _ _ _;delta Builtin.Dict.updateFrom;apply aP (wpAny_typeOf (T:="list") ⟨O,k0 _ _ U,hc⟩ ?_);rw[af Ô];apply aP (abP (k0 _ _ U) hc uq hd hh λm tk1 M=>?_);rw[af (show(none:Option Value).isNone=true from rfl)];apply aP (wpAny_rule ?_);let eY:m.IsList l items:=⟨O,M _ _ (k0 _ _ U),hc,n,uq⟩;let W:s.heap.objs.size<m.objs.size:=by
  let e:(s.heap.push {cls:=.type "dict",data:=.dict #[]}).get? s.heap.objs.size=some {cls:=.type "dict",data:=.dict #[]}:=ib _ rfl;exact cZ (M _ _ e)
 apply aP (X0 eY ?_);let k2:∀b o,m.get? b=some o->(m.push {cls:=.type "list_iterator",data:=.fields #[.ref l,.int 0 0]}).get? b=some o:=λb o e=>dh _ e;let bQ:l<s.heap.objs.size:=cZ U;let Y:=G7 bQ W;let Z:∀b o,s.heap.get? b=some o->(m.push {cls:=.type "list_iterator",data:=.fields #[.ref l,.int 0 0]}).get? b=some o:=λb o e=>k2 _ _ (M _ _ (k0 _ _ e));let gO:=abS (prog:=prog) (w:=w) (A:=A.in1) (R:=wants (λr s₂=>r=.none/\Q Ķ s₂) E) (S:=s.heap.objs.size) (I:=m.objs.size) (l:=l) (items:=items) (res:=Value.none) hh
  (fj Y) W (tU bQ) dk gk ds sl prs 0 [] 0 0
  {s with heap:=m.push {cls:=.type "list_iterator",data:=.fields #[.ref l,.int 0 0]},toks:=tk1} (by rw[hsz,wO]) (by rw[rK,wO];exact DW)
  (λj q e=>by
   let(b,u,y,e1,e2,e3):=ht j q e;exact(b,u,y,by rw[wO];exact e1,e2.lt,e2.keeps λc o z=>Z _ _ z,gk _ _ _ _ _ e3 λc o _ z=>Z _ _ z))
  ⟨_,ib _ rfl,rfl,rfl⟩ (eY.at λo e=>k2 _ _ e) (dk _ _ _ d0 λb o _ e=>k2 _ _ (M _ _ e))
  (λh' tk pF k=>⟨rfl,h h' tk pF λb o e=>k b o Çr (fj (G7 (cZ e) W)) (Z _ _ e)⟩)
 first
  |exact df ⟨G9 Ba _,gO⟩
  |exact aP (df (df ⟨G9 Ba _,gO⟩))
end
section
def ab1{pins:bG}{σ:St}{H:Hp}{s:Sh}(I:Ã H s):∀{ps:LA}{kvs:List (Key×V)},Paired (λp kv=>bu X.K H p [kV kv.1,kv.2]) ps kvs->
  ∃prs:List (Key×Value),KV kvs prs/\prs.length=ps.length/\∀(j:Nat)(q:Key×Value),prs[j]? =some q->∃(b:Addr)(u:Value),ps[j]? =some b/\IsTup s.heap b #[u,q.2]/\rQ q.1 u=true:=by
 intro ps kvs M;induction M with
 |nil=>exact([],.nil,Á,λj q e=>by simp at e)
 | @cons p kv ps kvs h t ih=>
  let(prs,r,O,S):=ih;let(aj,Y,U,_):=I.tuple h;let(u,y,J,W,Z):=vals2 Y;subst J;apply((kv.1,y)::prs,.cons ⟨Á,Z⟩ r,by rw[c7,c7,O],λj q e=>?_);cases j with
  |zero=>
   let m:(kv.1,y)=q:=aN e;subst m;exact(p,u,Á,U,vD (P:=X.prog) (w:=X.w) W)
  |succ j=>
   let(b,u',z,F,G):=S j q (À e);exact(b,u',À z,F,G)
theorem Q2{ps:LA}:∀{U:LV},bc Áy U->U=ps.map Value.ref:=by
 induction ps with
 |nil=>
  intro U r;rw[lQ] at r;cases r;rfl
 |cons p ps I=>
  intro U r;rw[a0] at r;cases r with
  |cons h t=>
   cases h;rw[a0,<-I t]
def ab2(J:X.calm=true):lD X (.type "dict") (λxs H Q=>∃(a:Addr)(ps:LA)(kvs:List (Key×V)),xs=[.ref a]/\Àu a Áy/\Paired (λp kv=>bu X.K H p [kV kv.1,kv.2]) ps kvs/\
  ∀p,H p=none->Q ģ (upd H p Åq)):=by
 intro pins s σ H xs us Q I r q;let(a,ps,kvs,ex,hq,hp,q):=q;subst ex;let(u,W,rx):=vals1 r;subst W;cases rx;let(aj,rv,pl,m):=I.list hq;let U:=Q2 rv;subst U;rw[aA] at m;let(prs,F,z,Y):=ab1 I hp;let(o,n,ho,hc,hd,uq):=pl;apply Q0 (prs:=prs) (DD:=λh=>h.DictOf Ą s.heap.objs.size) (G:=λ_ q u y=>y=q.2/\rQ q.1 u=true) (st:=λa q=>stored a q.1 q.2) (I.ok.hd J) ho hc hd uq (by simp[z]) Æ (Yb s.heap) (λ_ _ _ d k=>d.at λo e=>k _ o (bJ _) e) (λ_ _ _ _ _ g _=>g) (λ_ _ _ _ _ _ _ g d m k=>g.1▸ wpAny_dictSet_pairs (knd:=eW X.prog X.w) g.2 d (λh'=>k h' _) m) (λa q=>stored_length_le a q.1 q.2) Çz λh' tk pF k=>?_
 .let(b,u,e1,O,S):=Y j q' e;exact(b,u,_,by simp_all,O,rfl,S)
 .let Z:(s.heap.objs.size==sysModules)=false:=wL.mpr (tU I.big);let M:(uo [] kvs).length<=sizeLine:=by
   apply gQ (abI kvs []) ?_;rw[rK,wO,F.length,z];omega
  exact(.ref s.heap.objs.size,ĝ Åq,I.laid (t':=tk) k (bJ _) (show ft X.prog X.w _ _ _ Åq from⟨M,Z,merged [] prs,KV.merge F .nil,pF⟩),Á,q _ Ĩ)
end
section
variable{X:Cx}{pins:bG}{σ:St}{H:Hp}{s:Sh}{h':Heap}
def Inv.ab3{t':Nat}{ch:LA}(I:Ã H s)(k:∀b o,b∉ch->s.heap.get? b=some o->h'.get? b=some o)(j:∀b∈ch,ľ H b):Ã H {s with heap:=h',toks:=t'}:=by
 let G:∀b u,H b=some u->b∉ch:=λb u e z=>by
  let q:=(j b z).1;symm
 refine I.step (g':=s.gens) (d':=s.drawn) (ch:=ch) (λb F=>⟨(j b F).2.2.2.1,(j b F).2.1,(j b F).2.2.2.2.1,(j b F).2.2.2.2.2⟩) (λb o _ _ hc e _=>k b o hc e) (λb o _ _ hc e _=>⟨o.slots,k b o hc e⟩)
  (λ_ _ _ _ n=>n) (λb o hc e=>⟨o,k b o hc e⟩) (λ_ _ e=>e) (λ_ _ _ e=>e) (λb ps e=>⟨#[],by rw[e];simp⟩) Åz (λb u e=>?_) I.bare
 .let(o,es,ep,J,r):=hm;exact(o,es,ep,k _ o (λz=>(j _ z).2.1 Á) J,r)
 .refine(I.ax b u e).m4 Áu (λ_ q=>q) λ_ _ q=>q;rcases hc with z|z
  .rw[z];exact G b u e
  .exact G c _ z
def Inv.ab4{t':Nat}{ch:LA}{T:Addr}{O:HO}(I:Ã H s)(k:∀b o,b∉ch->s.heap.get? b=some o->h'.get? b=some o)(F:∀b∈ch,ľ H b)(G:s.heap.objs.size<=T)(new:Àb (ϛ O) h' T O):Ã (ϛ O) {s with heap:=h',toks:=t'}:=by
 let hn:H T=none:=I.ax.fresh G;let J:∀b u,H b=some u->b∉ch:=λb u e z=>by
  let q:=(F b z).1;symm
 refine I.step (g':=s.gens) (d':=s.drawn) (ch:=ch) (λb j=>⟨(F b j).2.2.2.1,(F b j).2.1,(F b j).2.2.2.2.1,(F b j).2.2.2.2.2⟩) (λb o _ _ hc e _=>k b o hc e) (λb o _ _ hc e _=>⟨o.slots,k b o hc e⟩)
  (λb o _ e n=>?_) (λb o hc e=>⟨o,k b o hc e⟩) (λb xs e=>?_) (λb o u e=>?_) (λb ps e=>⟨#[],?_⟩) Åz (λb u e=>?_) I.bare
 .rw[ao (fj (iq (cZ e) G))];exact n
 .rw[ao (eK e hn)];exact e
 .rw[ao (eK e hn)];exact e
 .rw[ao (eK e hn),e];simp
 .let(o,es,ep,M,r):=hm;exact(o,es,ep,k _ o (λz=>(F _ z).2.1 Á) M,r)
 .by_cases j:b=T
  .subst j;rw[aq] at e;cases e;exact new
  .rw[ao j] at e;refine(I.ax b u e).m4 Áu (λc q=>by rw[ao Äk];exact q) λc xs q=>by rw[ao Äk];exact q
   rcases hc with z|z
   .rw[z];exact J b u e
   .exact J c _ z
def Inv.lock(I:Ã H s)(h:H d=some u)(m:uc Ân):∃od,Ã Æe s:=by
 let x:=I.ax d u h;let ex:∃od,s.heap.get? d=some od:=by
  cases u with
  |lst xs=>let(_,_,_,_,e):=x;exact(_,e)
  |dK kvs=>let(_,_,_,_,o,_,_,e,_):=x;exact(o,e)
  |dT kvs=>let(_,_,_,_,o,_,_,e,_):=x;exact(o,e)
  |set S n=>let(o,_,_,_,e,_):=x;exact(o,e)
  |ins C dx fs=>let(_,_,_,e,_):=x;exact(_,e)
  |ext φ=>let(_,(_,e),_):=x;exact(_,e)
  |_=>exact False.elim m
 let(od,e):=ex;let new:Àb Æe s.heap d ϋ:=by
  apply(e,x.m4 Ãv (λb q=>?_) λb xs q=>?_)
  .rw[ao (λz=>by rw[z,h] at q;cases q;exact m)];exact q
  .rw[ao (λz=>by rw[z,h] at q;cases q;exact m)];exact q
 exact(od,I.write (x:=d) (e:=d) (t':=s.toks) (h':=s.heap) É Ė Ãv ⟨od,e⟩ new)
def Inv.Bd(I:Ã H s)(h:H d=some u)(m:uc Ân):∀O U,X.qC d≠some (.cu O U):=λO U e=>by
 let q:=I.base.m5 d O U e;rw[h] at q;cases q;exact m
def Inv.unlock(I:Ã H s)(h:H d=some ϋ)(J:∀O U,X.qC d≠some (.cu O U)):Ã (upd H d u) s:=by
 let Y:∀b o,H b=some o->(∀O U,o≠ .cu O U)->b≠d:=λb o e G z=>by
  grind
 let neN:∀b,H b=none->b≠d:=λb e z=>by rw[z,h] at e;cases e
 apply(I.ok,I.os,I.bare,⟨I.base.keep,I.base.slot,λb o e n hx=>?_,I.base.there,λb xs e=>?_,λb o x e=>?_,λb ps e=>?_⟩,I.loc,I.cell,?_,λx c e=>?_,λp F=>?_,λb o e=>?_,I.len)
 .rw[ao (neN b ϣ)];exact I.base.free b o e n hx
 .let q:=I.base.pA b xs e;rw[ao (Y b _ q (λ_ _ z=>nomatch z))];exact q
 .let q:=I.base.m5 b o x e;rw[ao (λz=>by simp_all)];exact q
 .let(m,q):=I.base.pB b ps e;exact(m,by rw[ao (Y b _ q (λ_ _ z=>nomatch z))];exact q)
 .rw[ao (neN _ I.free)];exact I.free
 .rw[ao (neN c Ça)];exact I.kH x c e
 .let(e,n,r):=I.pin p F;exact(e,by rw[ao (neN _ n)];exact n,r)
 .by_cases j:b=d
  .rw[j,aq] at e;cases e;rw[j];let(_,x):=I.ax d _ h;exact x.m4 (λc v _ q=>q) (λc q=>by rw[ao (Y c _ q (λ_ _ z=>nomatch z))];exact q) λc xs q=>by rw[ao (Y c _ q (λ_ _ z=>nomatch z))];exact q
  .rw[ao j] at e;exact(I.ax b o e).m4 (λc v _ q=>q) (λc q=>by rw[ao (Y c _ q (λ_ _ z=>nomatch z))];exact q) λc xs q=>by rw[ao (Y c _ q (λ_ _ z=>nomatch z))];exact q
end
def ab5(t:TS):TS:=λD σ H=>∃d u,H d=some u/\uc Ân/\∀od,t ⟨λσ' H'=>H' d=some ϋ/\D.nx σ' Ãi,λv H'=>H' d=some ϋ/\D.rt v Ãi,λσ' H'=>H' d=some ϋ/\D.bk σ' Ãi,λσ' H'=>H' d=some ϋ/\D.ct σ' Ãi⟩ σ Æe
def ab6(t:TE):TE:=λσ H Q=>∃d u,H d=some u/\uc Ân/\∀od,t σ Æe λv H'=>H' d=some ϋ/\Q v Ãi
section
def Q3{st:Stmt}{t:TS}(h:PS X st t):PS X st (ab5 t):=by
 intro pins s σ H D I m;let(d,u,hd,mu,m):=m;let(od,z):=I.lock hd mu;apply aK (h pins s σ _ _ z (m od)) λf S q=>?_;cases f with
 |next=>let(σ',H',j,e,q):=q;exact(σ',_,j.unlock e Ãr,q)
 |brk=>let(σ',H',j,e,q):=q;exact(σ',_,j.unlock e Ãr,q)
 |cont=>let(σ',H',j,e,q):=q;exact(σ',_,j.unlock e Ãr,q)
 |ret v=>let(x,σ',H',j,r,e,q):=q;exact(x,σ',_,j.unlock e Ãr,r,q)
def ab7(h:ϝ t):ϝ (ab6 t):=by
 intro pins s σ H Q I j;let(d,u,hd,mu,j):=j;let(od,m):=I.lock hd mu;apply aK (h pins s σ _ _ m (j od)) λv S ⟨x,H1,z,r,F,q⟩=>?_;exact(x,_,z.unlock F Ãr,r,q)
def DZ{tg:Expr}{pins:bG}{σ:St}{H:Hp}{s:Sh}{R:It->Hp->Prop}{J:It}{tn:Nat->Heap->Prop}{tk:Nat}(I:Ã H s)(o:Obj)(T:Turn X.prog X.w X.K tg J [s.heap.objs.size] s.heap.objs.size tn) (st:tn 0 (s.heap.push o)) (q:R J H):AR X pins σ tg R Ķ {s with heap:=s.heap.push o,toks:=tk}:=by
 apply(s.heap.objs.size,[s.heap.objs.size],tn,J,H,Á,I.kept λb O e=>dh _ e,T,st,λb j=>?_,q);let e:b=s.heap.objs.size:=À j
 subst e;exact I.vp (bJ _) Ĩ
end
def Be(x:Str):It:=⟨λi _=>i<x.cps.size,λi H v H'=>H'=H/\∃c,x.cps[i]? =some c/\v=.str ⟨#[c]⟩,λi _=>x.cps.size<=i⟩
def Q4{P:Pg}{w:Wd}{K:FR}{tg:Expr}(it:Addr)(x:Str)(t:Tok)(j:String)(S:j="str_ascii_iterator"\/j="str_iterator"):
  Turn P w K tg (Be x) [it] it (λi h=>h.IsStrIter it j x t i) where
 mem:=by simp
 obj:=λi h st b hb=>by
  let e:b=it:=À hb
  subst e;let(o,e,c,d):=st;exact(o,e,λv z=>by rw[d] at z;cases z)
 keep:=λi h h' st k=>let ⟨o,ho,r⟩:=st;⟨o,k it Ä o ho,r⟩
 item:=by
  show Ó;subst hP hw hK;show ê;let W:Walks X.prog X.w X.A it [it] [it] x.cps.size (SignAt x) (λi h=>h.IsStrIter it j x t i):=by
   rcases S with e|e
   .rw[e];exact Walks.strAscii ć it x t
   .rw[e];exact Walks.strWide ć it x t
  let F:["enumerate","zip","dict_itemiterator","dict_reverseitemiterator","odict_iterator","itertools.zip_longest","itertools.pairwise"].contains j=false:=by
   rcases S with e|e
   .rw[e];decide
   .rw[e];decide
  apply W.item i s _ _ hg st λv h' tk M O Y=>?_;let(c,u,U,rfl):=M;let G:Ã H {s with heap:=h',toks:=tk}:=I.turned (λb o hb e=>Y b o (À hb) e) f0 f1 f3 f4 f5;let(Z,e,J,dd):=id O;exact(_,Á,DB (s:={s with heap:=h',toks:=tk}) e J dd F ⟨.str ⟨#[c]⟩,H,G,⟨u,Á⟩,⟨Á,c,U,Á⟩,O,λb hb=>(hf b hb).1⟩)
 done:=by
  show Ó;subst hP hw hK;show ê;let m:x.cps[i]? =none:=api hg;rcases S with e|e
  .rw[e] at st;exact wpAny_pyNext_ascii_end ć st m λh' eb=>⟨Á,I.turned (t':=s.toks) ϐ f0 f1 f3 f4 f5⟩
  .rw[e] at st;exact wpAny_pyNext_wide_end ć st m λh' eb=>⟨Á,I.turned (t':=s.toks) ϐ f0 f1 f3 f4 f5⟩
 self:=λA i s Q E st h=>by
  rcases S with e|e
  .rw[e] at st;exact wpAny_pyIter_striter_ascii st h
  .rw[e] at st;exact wpAny_pyIter_striter_wide st h
def ab8(te:TE):TI:=λσ H R=>te σ H λv H1=>∃x,v=.str x/\R (Be x) H1
def ab9{X:Cx}{tg e:Expr}{te:TE}(m:ϝ te):PI X tg e (ab8 te):=by
 intro pins s σ H R I h;apply aK (m pins s σ H _ I h) λv S ⟨y,H1,j,z,x,ex,q⟩=>?_;subst ex;let(t,rfl):=z;cases ha:x.cps.all (· <128)
 .exact wpAny_pyIter_wide ha (DZ (tk:=S.toks) j _ (Q4 _ x t "str_iterator" Èq) ⟨_,ib _ Á,Á,Á⟩ q)
 .exact wpAny_pyIter_ascii ha (DZ (tk:=S.toks) j _ (Q4 _ x t "str_ascii_iterator" Ė) ⟨_,ib _ Á,Á,Á⟩ q)
theorem Q5{κ:Type}{kvs:List (κ×V)}{vs:List (κ×Value)}(h:KV kvs vs):∀{i:Nat}{k:κ}{v:V},kvs[i]? =some (k,v)->∃u,vs[i]? =some (k,u)/\RelV v u:=by
 delta KV at h;induction h with
 |nil=>intro i k v e;simp at e
 | @cons a b l₁ l₂ r t ih=>
  intro i k v e;cases i with
  |zero=>
   simp only[apk,Option.some.injEq] at e;subst e;apply(b.2,?_,r.2);simp only[apk];exact cE some (Prod.ext r.1.symm Á)
  |succ j=>
   simp only[apl] at e⊢;exact ih e
def aca(h:rQ k u=true):RelV (kV k) u:=by
 rcases rR h with ⟨i,t,rfl,rfl⟩|⟨x,t,rfl,rfl⟩
 .exact(t,Á)
 .exact(t,Á)
section
variable{X:Cx}{pins:bG}{σ:St}{H:Hp}{s:Sh}{d:Addr}{o:Obj}
def Inv.yV(I:Ã H s)(h:H d=some Ϥ):
  (d==sysModules)=false/\s.heap.get? d=some o/\o.ExactDict/\∃(es:Array DictEntry)(ep:Nat)(vs:List (Key×Value)),o.data=.dict es ep/\es.size=kvs.length/\KV kvs vs/\s.heap.DictAt Ą d vs ep:=by
 let(hd,z,hs,vs,kv,O,es,ep,j,m,F,r):=I.ax d _ h;rw[hd] at j;cases j;apply(hs,hd,m,es,ep,vs,F,?_,kv,o,es,hd,m,F,r);let G:=r.2.1.length;let J:kvs.length=vs.length:=Paired.length kv;symm
end
def Bf(d:Addr)(o:Obj)(kvs:List (Key×V)):It:=
 ⟨λi H=>H d=some Ϥ/\i<kvs.length,λi H x H'=>H'=H/\∃k,kvs[i]? =some (k,x),λi H=>H d=some Ϥ/\kvs.length<=i⟩
def vF(d:Addr)(o:Obj)(kvs:List (Key×V)):It:=
 ⟨λi H=>H d=some Ϥ/\i<kvs.length,λi H x H'=>∃T k v,kvs[i]? =some (k,v)/\x=.ref T/\H T=none/\H'=upd H T Çl,λi H=>H d=some Ϥ/\kvs.length<=i⟩
def D0{o:Obj}{es O:Array DictEntry}{ep j:Nat}(h:o.data=.dict es ep)(h':o.data=.dict O j):O=es/\j=ep:=by
 symm
section
variable{P:Pg}{w:Wd}{K:FR}{tg:Expr}{d:Addr}{o:Obj}{es:Array DictEntry}{ep:Nat}
def acb{kvs:List (Key×V)}(it:Addr)(J:o.data=.dict es ep):Turn P w K tg (Bf d o kvs) [it] it (λi h=>h.IsValIter it d i kvs.length ep) where
 mem:=by simp
 obj:=λi h st b j=>by
  let e:b=it:=À j
  subst e;let(O,e,c,dd):=st;exact(O,e,λv z=>by rw[dd] at z;cases z)
 keep:=λi h h' st k=>st.at λO e=>k it Ä O e
 item:=by
  show Ó;subst hP hw hK;let(hd,hi):=hg;show ê;let(hs,W,hx,oq,rV,vs,G,hsz,kv,F):=I.yV hd;let(rfl,rfl):=D0 J G;obtain⟨⟨k,v⟩,M⟩:∃p,kvs[i]? =some p:=⟨kvs[i],dm hi⟩;let(u,hu,ru):=Q5 kv M;let m:kvs.length=vs.length:=Paired.length kv;rw[m] at st;apply wpAny_pyNext_values_item st F hu λh' U sb=>?_;let Y:Ã H {s with heap:=h'}:=I.turned (t':=s.toks) (λb S j e=>(sb.2 b j).trans e) f0 f1 f3 f4 f5;let(O,e,c,dd):=id U;apply(u,Á,DB (s:={s with heap:=h'}) e c dd Ù ⟨v,H,Y,ru,⟨Á,k,M⟩,?_,λb j=>(hf b j).1⟩);show h'.IsValIter it d (i+1) kvs.length _;rw[m];exact U
 done:=by
  show Ó;subst hP hw hK;let(hd,hi):=hg;show ê;let(hs,W,hx,oq,rV,vs,G,hsz,kv,F):=I.yV hd;let(rfl,rfl):=D0 J G;let m:kvs.length=vs.length:=Paired.length kv;rw[m] at st;exact wpAny_pyNext_values_end ć st F (wN Æ) λh' Z=>⟨Á,I.turned (t':=s.toks) (λb S j e=>Z b S j e) f0 f1 f3 f4 f5⟩
 self:=λA i s Q E st h=>wpAny_pyIter_valiter st h
def D1{X:Cx}{F:LA}(st:∀b∈F,∃o,s.heap.get? b=some o/\∀v,o.data≠ .cell v)(z:∀b∈F,ľ H b){j:Heap}{t':Nat}{x y:V}{u v:Value}(k:∀b o,b∉F->s.heap.get? b=some o->j.get? b=some o)(I:Ã H s)(G:j.get? s.heap.objs.size=some {cls:=.type "tuple",data:=.seq #[u,v]}) (J:RelV x u) (M:RelV y v):Ã (ĝ Çb) {s with heap:=j,toks:=t'}/\∀b∈F,(ĝ Çb) b=none:=
 ⟨I.ab4 k z (bJ _) ⟨by show 2<=sizeLine;decide,[u,v],.cons J (.cons M .nil),_,G,rfl,_,rfl⟩,λb m=>by
  let(o,e,_):=st b m;rw[ao Çr];exact(z b m).1⟩
def Q6(st:∃ok O,IsItemIter h it d i n ep ok O):∀b∈[it],∃o,h.get? b=some o/\∀v,o.data≠ .cell v:=λb j=>by
 obtain rfl:b=it:=À j
 let(ok,O,e):=st;exact(_,e,λv z=>nomatch z)
def acd{kvs:List (Key×V)}{mQ:List Expr}{kk:Nat}{l7:Pos}(it:Addr)(S:o.data=.dict es ep):
  Turn P w K ĩ (vF d o kvs) [it] it (λi h=>∃ok m,IsItemIter h it d i kvs.length ep ok m) where
 mem:=by simp
 obj:=λi h=>Q6
 keep:=λi h h' st k=>let ⟨ok,m,e⟩:=st;⟨ok,m,k it Ä _ e⟩
 item:=by
  show Ó;subst hP hw hK;let(hd,hi):=hg;let(hs,Z,hx,oq,rV,vs,M,hsz,kv,J):=I.yV hd;let(rfl,rfl):=D0 S M;obtain⟨⟨k,v⟩,U⟩:∃p,kvs[i]? =some p:=⟨kvs[i],dm hi⟩;let(u,hu,ru):=Q5 kv U;let F:kvs.length=vs.length:=Paired.length kv;let O:=Q6 st;let(ok,m,j):=st;rw[F] at j;let bQ:it<s.heap.objs.size:=cZ j;apply wpAny_pyNext_items_item j J hu λG h' HY ho hT hz hk=>?_;apply(_,Á,wpAny_letOwnedTupleGo_items (s:={s with heap:=h'}) ho λpN Bj Y=>?_);let ur:pN.get? s.heap.objs.size=some {cls:=.type "tuple",data:=.seq #[G,u]}:=(Y.2 _ (tU bQ)).trans hT;let ⟨I1,n1⟩:=D1 (t':=s.toks) O hf (λb O z e=>(Y.2 b (À z)).trans (hk b O (À z) e)) I ur (aca (show rQ k G=true from HY)) ru;exact(.ref s.heap.objs.size,_,I1,Á,⟨_,k,v,U,Á,I.ax.fresh (bJ _),Á⟩,⟨G,u,by rw[F];exact Bj⟩,n1)
 done:=by
  show Ó;subst hP hw hK;let(hd,hi):=hg;show ê;let(hs,Z,hx,oq,rV,vs,M,hsz,kv,J):=I.yV hd;let(rfl,rfl):=D0 S M;let F:kvs.length=vs.length:=Paired.length kv;let(ok,m,j):=st;rw[F] at j;exact wpAny_pyNext_items_end ć j J (wN Æ) λh' eb=>⟨Á,I.turned (t':=s.toks) (λb O z e=>eb b O z e) f0 f1 f3 f4 f5⟩
 self:=λA i s Q E st h=>let ⟨_,_,e⟩:=st;PySem.W.kcp_self e h
end
def ace(td:TE):TI:=λσ H R=>td σ H λx H1=>∃d o kvs,x=.ref d/\H1 d=some Ϥ/\R (Bf d o kvs) H1
def acf(td:TE):TI:=λσ H R=>td σ H λx H1=>∃d o kvs,x=.ref d/\H1 d=some Ϥ/\R (vF d o kvs) H1
section
variable{X:Cx}{tg e:Expr}{td:TE}{iT fV:Pos}
def acg(G:ϝ td)(U:attributeBase e "values" X.env ϔ=eval e X.env:=by rfl)(O:(iT.endLine==fV.line)=true:=by rfl):PI X tg (.Call (.Attribute e "values" iT) [] [] fV) (ace td):=by
 intro pins s σ H R I h;apply G8 (T:="dict") (id:="dict.values") U Á O F.plainAttrs_dict F.slot_dict_values F.type_dict_values (aK (G pins s σ H _ I h) λu S ⟨x,H1,m,M,d,o,kvs,ex,hd,q⟩=>?_);subst ex;obtain rfl:u=Value.ref d:=M;let(hs,W,Z,es,ep,vs,J,hsz,kv,j):=m.yV hd;let Y:kvs.length=vs.length:=Paired.length kv;apply(j.dictOf.typeIs,j.dictOf.mapOf.noDict,?_);let z:Ã H1 {S with heap:=S.heap.push {cls:=.type "dict_values",data:=.fields #[.ref d]}}:=m.kept (t':=S.toks) λb ob q=>dh _ q;let fin:wpAny È X.A (pyIter (.ref S.heap.objs.size)) Äp X.xe {S with heap:=S.heap.push {cls:=.type "dict_values",data:=.fields #[.ref d]}}:=by
  apply wpAny_pyIter_values (d:=d) (knd:=eW X.prog X.w) ⟨_,ib _ Á,Á,Á⟩ (j.push _) (DZ (tk:=S.toks) z _ (acb _ J) ⟨_,ib _ Á,Á,?_⟩ q);symm
 show wpAny _ _ (callWith fV (.builtin "dict.values") [.ref d] [] []) _ X.xe S;exact method_meetsIn F.slot_dict_values F.entry_dict_values Á (PySem.evalArgs_none ⟨Á,j.dictOf.typeIs,F.args_dict_values_1 _,_,meets_dict_values Ą d hs,⟨vs,j.dictOf⟩,fin⟩)
def Q7{mQ:List Expr}{kk:Nat}{l7:Pos}(G:ϝ td)(U:attributeBase e "items" X.env ϔ=eval e X.env:=by rfl)(W:(iT.endLine==fV.line)=true:=by rfl):
  PI X ĩ (.Call (.Attribute e "items" iT) [] [] fV) (acf td):=by
 intro pins s σ H R I h;apply G8 (T:="dict") (id:="dict.items") U Á W F.plainAttrs_dict F.slot_dict_items F.type_dict_items (aK (G pins s σ H _ I h) λu S ⟨x,H1,m,O,d,o,kvs,ex,hd,q⟩=>?_);subst ex;obtain rfl:u=Value.ref d:=O;let(hs,Y,Z,es,ep,vs,M,hsz,kv,j):=m.yV hd;let J:kvs.length=vs.length:=Paired.length kv;apply(j.dictOf.typeIs,j.dictOf.mapOf.noDict,?_);let z:Ã H1 {S with heap:=S.heap.push {cls:=.type "dict_items",data:=.fields #[.ref d]}}:=m.kept (t':=S.toks) λb ob q=>dh _ q;let fin:wpAny È X.A (pyIter (.ref S.heap.objs.size)) (AR X pins σ ĩ R) X.xe {S with heap:=S.heap.push {cls:=.type "dict_items",data:=.fields #[.ref d]}}:=by
  apply wpAny_pyIter_items (d:=d) (knd:=eW X.prog X.w) ⟨_,ib _ Á,Á,Á⟩ (j.push _) (DZ (tk:=S.toks) z _ (acd _ M) ⟨.none,.none,?_⟩ q);rw[J];exact ib _ Á
 show wpAny _ _ (callWith fV (.builtin "dict.items") [.ref d] [] []) _ X.xe S;exact method_meetsIn F.slot_dict_items F.entry_dict_items Á (PySem.evalArgs_none ⟨Á,j.dictOf.typeIs,F.args_dict_items_1 _,_,meets_dict_items Ą d hs,⟨vs,j.dictOf⟩,fin⟩)
end
def vG(K:FR)(a:Addr):It:=
 ⟨λi H=>∃(xs:au)(x:V),â a xs/\xs[i]? =some x,λi H v H'=>∃T x,v=.ref T/\H T=none/\H'=upd H T (.tup [.int (i:Nat),x])/\∀xs,â a xs->xs[i]? =some x,λi H=>∃xs:au,â a xs/\xs.length<=i⟩
def D4{e I:Addr}{Z:Prop}(st:(∃j,IsEnum h e I c j)/\(∃o,h.get? I=some o/\o.cls=C/\o.data=.fields vs)/\Z):∀b∈[e,I],∃o,h.get? b=some o/\∀v,o.data≠ .cell v:=λb z=>by
 let((j,F),(o,G,hc,hd),_):=st;let m:b=e\/b=I:=À z
 rcases m with rfl|rfl
 .exact(_,F,λv q=>nomatch q)
 .exact(o,G,λv q=>by rw[hd] at q;cases q)
def ach{P:Pg}{w:Wd}{K:FR}{mQ:List Expr}{kk:Nat}{l7:Pos}(a e it:Addr):
  Turn P w K ĩ (vG K a) [e,it] e (λi h=>(∃F,IsEnum h e it ((i:Nat):Int) F)/\h.IsListIter it a i/\e≠it) where
 mem:=by simp
 obj:=λi h=>D4
 keep:=λi h h' st k=>let ⟨⟨F,j⟩,hi,aQ⟩:=st;⟨⟨F,k e Ä _ j⟩,hi.at λo q=>k it Ä o q,aQ⟩
 item:=by
  show Ó;subst hP hw hK;let O:=D4 st;let((F,j),M,aQ):=st;let(xs,x,G,J):=hg;let(aj,S,p,hz):=I.list G;let(u,hu,ru):=S.get J;let Z:e<s.heap.objs.size:=cZ j;apply wpAny_pyNext_enum_item j M p.isList (x:=u) (À hu) aQ λh' ho Y hT hsz hk=>?_;apply(_,Á,apq (s:={s with heap:=h',toks:=s.toks+1}) ho λpN W U=>?_);let ur:pN.get? s.heap.objs.size=some {cls:=.type "tuple",data:=.seq #[.int i s.toks,u]}:=(U.2 _ (tU Z)).trans hT;let ⟨I1,n1⟩:=D1 (x:=.int (i:Nat)) (t':=s.toks+1) O hf (λb O m q=>(U.2 b (λz=>m (by simp[z]))).trans (hk b O (λz=>m (by simp[z])) (λz=>m (by simp[z])) q)) I ur ⟨_,rfl⟩ ru;exact(.ref s.heap.objs.size,_,I1,Á,⟨_,x,Á,I.ax.fresh (bJ _),Á,λys hy=>by rw[I.AM hy G];exact J⟩,⟨⟨u,by rw[show((i+1:Nat):Int)=(i:Int)+1 by omega];exact W⟩,Y.at λo q=>(U.2 it Åh).trans q,aQ⟩,n1)
 done:=by
  show Ó;subst hP hw hK;let((F,j),M,aQ):=st;let(xs,G,J):=hg;let(aj,S,p,hz):=I.list G;show ê;let hl:=S.length;exact wpAny_pyNext_enum_end ć j M p.isList (by simp;omega) λh' eb=>⟨Á,I.turned (t':=s.toks) (λb o m q=>eb b o m q) f0 f1 f3 f4 f5⟩
 self:=λA i s Q E st h=>let ⟨⟨_,j⟩,_⟩:=st;OZ j h
def aci(K:FR)(ta:TA):TI:=λσ H R=>ta σ H λvs H1=>∃a xs,vs=[.ref a]/\aa K H1 a xs/\R (vG K a) H1
def kY(hg:Gl X "enumerate")(hm:X.mg "enumerate"=none)(z:PA X [e] ta)(hs:starEach [e] X.env=[(false,eval e X.env)]:=by rfl):
  PI X ĩ (.Call (.Name "enumerate" p) [e] [] pos) (aci X.K ta):=by
 intro pins s σ H R I h;apply Call_ (Àh boot_enumerate (Da (aK (z pos pins s σ H _ I h) λus S ⟨vs,H1,I1,U,O⟩=>?_) hs Á));let(a,xs,ex,G,q):=O;subst ex;cases U with
 |cons r W=>
  cases W;cases r;let(Y,rv,J,hz):=I1.list G;apply call_enumerate_list J.isList λh' j M hsz hk=>OZ j ?_;let m:Ã H1 {S with heap:=h'}:=I1.kept (t':=S.toks) hk;apply(S.heap.objs.size+1,[S.heap.objs.size+1,S.heap.objs.size],_,_,H1,Á,m,ach a (S.heap.objs.size+1) S.heap.objs.size,⟨⟨.none,j⟩,M,Nat.succ_ne_self _⟩,λb F=>?_,q);let Z:b=S.heap.objs.size+1\/b=S.heap.objs.size:=À F
  let j7:S.heap.objs.size<=b:=by
   grind
  exact I1.vp j7 Æz
def acj:bootBuiltins "zip"=some (.type "zip"):=by decide+kernel
def Bk(K:FR)(a b:Addr):It:=
 ⟨λi H=>∃(xs ys:au)(x y:V),â a xs/\â b ys/\xs[i]? =some x/\ys[i]? =some y,
  λi H v H'=>∃T x y,v=.ref T/\H T=none/\H'=upd H T Çb/\(∀xs,â a xs->xs[i]? =some x)/\∀ys,â b ys->ys[i]? =some y,
  λi H=>∃xs ys:au,â a xs/\â b ys/\(xs.length<=i\/ys.length<=i)⟩
def Q8{z TI TO I j:Addr}(st:IsZip h z TI TO .none/\IsPair h TI (.ref I) (.ref j)/\(∃x y,IsPair h TO x y)/\h.IsListIter I a i/\h.IsListIter j b i):∀b∈[z,TI,TO,I,j],∃o,h.get? b=some o/\∀v,o.data≠ .cell v:=λc hc=>by
 let(O,W,(x,y,Y),(S,J,_,m),(U,M,_,F)):=st;let G:c=z\/c=TI\/c=TO\/c=I\/c=j:=À hc
 rcases G with rfl|rfl|rfl|rfl|rfl
 .exact(_,O,λv q=>nomatch q)
 .exact(_,W,λv q=>nomatch q)
 .exact(_,Y,λv q=>nomatch q)
 .exact(S,J,λv q=>by rw[m] at q;cases q)
 .exact(U,M,λv q=>by rw[F] at q;cases q)
def ack{P:Pg}{w:Wd}{K:FR}{mQ:List Expr}{kk:Nat}{l7:Pos}{a b z TI TO G J:Addr}(D:ZipApart z TI TO G J a b):
  Turn P w K ĩ (Bk K a b) [z,TI,TO,G,J] z (λi h=>IsZip h z TI TO .none/\IsPair h TI (.ref G) (.ref J)/\(∃x y,IsPair h TO x y)/\h.IsListIter G a i/\h.IsListIter J b i) where
 mem:=by simp
 obj:=λi h=>Q8
 keep:=λi h h' st k=>by
  let(F,M,(x,y,U),O,h2):=st;exact(k z Ä _ F,k TI Ä _ M,⟨x,y,k TO Ä _ U⟩,O.at λo q=>k G Ä o q,h2.at λo q=>k J Ä o q)
 item:=by
  show Ó;subst hP hw hK;let ob:=Q8 st;let(F,M,(x0,y0,U),O,h2):=st;let(xs,ys,x,y,Y,W,hx,hy):=hg;let(aj,rv,p,_):=I.list Y;let(nk,yY,p2,_):=I.list W;let(u,hu,ru):=rv.get hx;let(u2,Io,Ip):=yY.get hy;let qM:z<s.heap.objs.size:=cZ F;apply wpAny_pyNext_zip_item D F M U O h2 p.isList p2.isList (x:=u) (y:=u2) (À hu) (À Io) λh' z' Z h1' h2' hT hsz hk=>?_;apply(_,Á,wpAny_letOwnedTupleGo_zip (s:={s with heap:=h'}) z' λpN z'' S=>?_);let ur:pN.get? s.heap.objs.size=some {cls:=.type "tuple",data:=.seq #[u,u2]}:=(S.2 _ (tU qM)).trans hT;let ⟨I1,n1⟩:=D1 (t':=s.toks) ob hf (λc o m q=>(S.2 c (λj=>m (by simp[j]))).trans (hk c o (λj=>m (by simp[j])) (λj=>m (by simp[j])) (λj=>m (by simp[j])) (λj=>m (by simp[j])) q)) I ur ru Ip;exact(.ref s.heap.objs.size,_,I1,Á,⟨_,x,y,Á,I.ax.fresh (bJ _),Á,λl hl=>by rw[I.AM hl Y];exact hx,λl hl=>by rw[I.AM hl W];exact hy⟩,⟨z'',(S.2 _ D.TIz).trans (hk _ _ D.TIz D.TITO D.TIi1 D.TIi2 M),⟨u,u2,(S.2 _ D.TOz).trans Z⟩,h1'.at λo q=>(S.2 _ D.i1z).trans q,h2'.at λo q=>(S.2 _ D.i2z).trans q⟩,n1)
 done:=by
  show Ó;subst hP hw hK;let(F,M,(x0,y0,U),O,h2):=st;let(xs,ys,Y,W,acq):=hg;let(aj,rv,p,_):=I.list Y;let(nk,yY,p2,_):=I.list W;let l1:=rv.length;let l2:=yY.length;let he:aj.toArray[i]? =none\/nk.toArray[i]? =none:=by
   rcases acq with q|q
   .exact .inl (by simp;omega)
   .exact .inr (by simp;omega)
  exact wpAny_pyNext_zip_end ć D F M U O h2 p.isList p2.isList he λh' hk=>⟨Á,I.ab3 (t':=s.toks) (ch:=[z,TI,TO,G,J]) (λc o m q=>
   hk c o (λj=>m (by simp[j])) (λj=>m (by simp[j])) (λj=>m (by simp[j])) (λj=>m (by simp[j])) q) hf⟩
 self:=λA i s Q E st h=>wpAny_pyIter_zip st.1 h
def acr(K:FR)(ta:TA):TI:=λσ H R=>ta σ H λvs H1=>∃a b xs ys,vs=[.ref a,.ref b]/\aa K H1 a xs/\aa K H1 b ys/\R (Bk K a b) H1
def Q9{X:Cx}{e j:Expr}{ta:TA}{p pos l7:Pos}{mQ:List Expr}{kk:Nat}(hg:Gl X "zip")(hm:X.mg "zip"=none)(O:PA X [e,j] ta)(hs:starEach [e,j] X.env=(false,eval e X.env)::starEach [j] X.env:=by rfl) (J:(backTo pos (starEach [j] X.env)).any (·.1)=false:=by rfl):
  PI X ĩ (.Call (.Name "zip" p) [e,j] [] pos) (acr X.K ta):=by
 intro pins s σ H R I h;apply Call_ (Àh acj (Da (aK (O pos pins s σ H _ I h) λus S ⟨vs,H1,I1,r1,Z⟩=>?_) hs J));let(a,b,xs,ys,ex,yW,yX,q):=Z;subst ex;cases r1 with
 |cons r m=>
  cases m with
  |cons r' m=>
   cases m;cases r;cases r';let(aj,rv,F,_):=I1.list yW;let(nk,yY,p2,_):=I1.list yX;let U:a<S.heap.objs.size:=F.lt;let Y:b<S.heap.objs.size:=p2.lt;apply call_zip_2 F.isList p2.isList λh' z so uu M h2 hsz hk=>wpAny_pyIter_zip z ?_;let G:Ã H1 {S with heap:=h'}:=I1.kept (t':=S.toks) hk;apply(S.heap.objs.size+4,[S.heap.objs.size+4,S.heap.objs.size+2,S.heap.objs.size+3,S.heap.objs.size,S.heap.objs.size+1],_,_,H1,Á,G,ack (PySem.W.ktu_apart S.heap.objs.size a b U Y),⟨z,so,⟨_,_,uu⟩,M,h2⟩,λc yZ=>?_,q);let e':c=S.heap.objs.size+4\/c=S.heap.objs.size+2\/c=S.heap.objs.size+3\/c=S.heap.objs.size\/c=S.heap.objs.size+1:=À yZ
   let j7:S.heap.objs.size<=c:=by
    grind
   exact I1.vp j7 Æz
end L2
section
namespace Bits
open PySem PyProof.Rows
end Bits
end
section
namespace TL
open PySem PySem.Builtin PySem.Builtin.Str PySem.StrLaws
end TL
end
namespace L2
open PySem PySem.Spec PyProof.Rows
section
variable{X:Cx}{pins:bG}{σ:St}{H:Hp}{s:Sh}{Q:VK}
end
end L2
namespace Att
open PySem PySem.W PySem.Calls PyProof.Rows
end Att
namespace L2
open PySem PySem.Spec PyProof.Rows
abbrev aE:nh:=λ_ _ _ _ _ _=>False
abbrev E0:XK:=λ_ _ _=>False
def sr:ug aE X E0:=λ_ _ _ _ _ _ _ h=>h.elim
structure br(K:FR)(x cO:Str)(st:Stmt)(f:Addr)(fd:FD):Prop where
 ex:∃(oc:Value)(od:OA)(kV iS pm:Value)(an:OA)(aG ct:Value)(m3:AO),
  fd=PySem.W.fnOf x cO (t9 st) Åf ϯ .none kV iS pm an aG ct/\K.lookup f=some ⟨oc,od,.func fd,m3⟩/\PySem.W.codeIn K aG cO=true
 kp:PySem.W.keepIn K ā=true
section
variable{P:Pg}{w:Wd}{K:FR}{mg:MG}{base:Heap}
def br.ok{x cO:Str}{st:Stmt}{f:Addr}{fd:FD}{N ps:LS}{k:Nat}{sp:Sp}(F:Áf fd)(S:bH N ps ϯ)(U:∀(aG:Value)(A:Around)(outer:List Env)(s:Sh)(H:Hp)(vs:au)(Q:VK)(E:XK),dv k ĺ->sp vs H Q E->
   ∃t,kI (Ϗ N cO ϯ f aG A outer s H E).vo Åf t/\t {nx:=λ_ H'=>Q .aJ H',rt:=Q} ų H) (len:∀vs H Q E,sp vs H Q E->vs.length=ps.length:=by intro _ _ _ _ h;first|(cases h;subst_vars;rfl)|(repeat first|(let(rfl,_):=h;rfl)|let(_,h):=h)):Ì aE (k+1) f fd ps sp:=by
 let(O,od,kV,z,pm,m,aG,ct,M,rfl,lk,j):=F.ex;apply P7 lk j S len λA outer s H vs Q E hr I=>?_;let(t,h,q):=U aG A outer s H vs Q E hr I;exact(t,h.vo,q)
def br.binds{x cO:Str}{st:Stmt}{f:Addr}{fd:FD}{ps:LS}(F:Áf fd)(h:∀(kV iS pm:Value)(an:OA)(aG ct:Value)(us:LV),us.length=ps.length->bindArgs ė ⟨us,[]⟩=pure Ài):Binds K fd ps []:=by
 let(O,od,kV,iS,pm,an,aG,ct,m,rfl,lk,j):=F.ex;exact .all (h kV iS pm an aG ct)
def nr{x cO:Str}{st:Stmt}{f:Addr}{O:Value}{od an:OA}{m:AO}{kV iS pm aG ct:Value}(l:K.lookup f=some ⟨O,od,.func ė,m⟩)(c:PySem.W.codeIn K aG cO=true) (k:PySem.W.keepIn K ā=true):Áf ė:=⟨⟨O,od,kV,iS,pm,an,aG,ct,m,rfl,l,c⟩,k⟩
end
def y4(hr:dv k A):A.units+1<cLine:=pz (Yc (by decide:1<=64) _) hr.units
section
def pv(i:Nat)(j:X.N[i]? =some x:=by rfl)(m:wV X.env.scope x:=by first|exact Or.inl Á|exact Or.inr (Or.inl Á)|exact Or.inr (Or.inr Á))(hd:(x==("__debug__":Str))=false:=by decide)(z:(x==("__classdict__":Str))=false:=by decide):PE X Ϲ (ay i):=Pq j m hd z
end
def nu{A B:Prop}(h:B):if false=true then A else B:=by
 symm
def kZ{A B:Prop}(h:A):if true=true then A else B:=by
 symm
def a8{c A B:Prop}[Decidable c](j:c->A)(h2:¬c->B):if c then A else B:=by
 symm
def ai(H H':Hp):Prop:=∀b o,H b=some o->H' b=some o
def ai.refl(H:Hp):ai H H:=λ_ _ h=>h
def ai.trans(a:ai H H1)(b:ai H1 H2):ai H H2:=λc o h=>b c o (a c o h)
theorem ai.free(e:ai H H')(h:H' l=Option.none):H l=Option.none:=by
 cases q:H l with
 |none=>rfl
 |some o=>
  rw[e l o q] at h;cases h
def ai.seq{K:FR}{H H':Hp}{a:Addr}{xs:au}(e:ai H H')(h:â a xs):aa K H' a xs:=by
 rcases h with (h|⟨o,h⟩)|h
 .exact .inl (.inl (e _ _ h))
 .exact .inl (.inr ⟨o,e _ _ h⟩)
 .exact .inr h
section
variable{κ:Type}[DecidableEq κ]
theorem II{l:List κ}:∀{k:κ},l.Nodup->¬k∈l->(l++[k]).Nodup:=by
 induction l with
 |nil=>
  intro k _ _;simp
 |cons a r I=>
  intro k h hk;let(j,h2):=j9.mp h;show(a::(r++[k])).Nodup;apply j9.mpr ⟨λm=>?_,I h2 λm=>hk (ba.mpr (Or.inr m))⟩;rcases gR.mp m with q|q
  .exact j q
  .exact hk (ba.mpr (Or.inl (mV.mp q).symm))
end
def ai.made(nx:H x=Option.none)(nd:H dx=Option.none)(k:∀b o,(upd (upd H dx Äx) x Âh) b=some o->b≠x->H1 b=some o):ai H H1:=λb o e=>
 k b o (by rw[ao (eK e nx),ao (eK e nd)];exact e) (eK e nx)
end L2
end
section
namespace L2
open PySem PySem.Spec PyProof.Rows PySem.XL
def one(x:Addr)(P:Obj->Prop):HO:=.ext λh=>∃o,h.get? x=some o/\P o
def su(e:h.get? x=some o)(p:P o):ft Pr w H h x (one x P):=
 ⟨⟨o,e,p⟩,⟨o,e⟩,λ_ _ ⟨o,e,p⟩ k=>⟨o,k o e,p⟩⟩
def pO(ax:dy Pr w H h)(e:H x=some (one x P)):∃o,h.get? x=some o/\P o:=(ax x _ e).1
def IJ(C:Addr)(od:OA)(j:Value)(o:Obj):Prop:=o.cls=.ref C/\o.dict=od/\∃vs,o.data=.fields vs/\vs[1]? =some j
def exc(C:Addr)(od:OA)(j:Value)(x:Addr):HO:=one x (IJ C od j)
def Ra(fl:Value)(o:Obj):Prop:=∃ts,o.data=.fields ts/\ts[3]? =some fl
def ent(fl:Value)(T:Addr):HO:=one T (Ra fl)
def uv(d:Addr)(fs:List (Str×V)):HO:=.ext λh=>∃mA,h.Ns1 d mA/\(∀f,jL Áb (mA f))/\Within mA (fs.map (·.1))/\fs.length<=1000
def Rb(n:h.Ns1 d mA)(r:∀f,jL Áb (mA f))(W:Within mA (fs.map (·.1)))(l:fs.length<=1000):ft Pr w H h d (uv d fs):=by
 apply(⟨mA,n,r,W,l⟩,?_,λj h2 ⟨m,n,r⟩ k=>⟨m,n.at k,r⟩);let(o,_,_,e,_):=n;symm
def acs(ax:dy Pr w H h)(e:H d=some (uv d fs)):∃mA,h.Ns1 d mA/\(∀f,jL Áb (mA f))/\Within mA (fs.map (·.1))/\fs.length<=1000:=(ax d _ e).1
abbrev uw:LV:=[.type "Exception",.type "BaseException",.type "object"]
inductive Rc(K:FR)(C N:Addr):Prop
 |mk (od:OA) (nm qn:Str) (bs sub:LV) (sn:LS) (ab:Bool) (col:Option Bool) (e0 e1 e2 e3 e5:Option Value) (_:K.lookup C=some ⟨.type "type",od,.cls ⟨nm,bs,.ref C::uw,N,qn,true,sn,sub,ab,col,false⟩,#[e0,e1,e2,e3,some (.builtin "Exception.__new__"),e5]⟩) (_:PySem.W.nsOkIn K N=true)
structure XC(K:FR)(C N:Addr):Prop where
 cl:Rc K C N
 ga:PySem.W.nsIn K N "__getattribute__"=some none
 gt:PySem.W.nsIn K N "__getattr__"=some none
 sa:PySem.W.nsIn K N "__setattr__"=some none
structure D5(K:FR)(N:Addr)(f:Str):Prop where
 own:PySem.W.nsIn K N f=some none
 base:typeLookup (.type "Exception") f=pure none
def acu{K:FR}{h:Heap}{N:Addr}{mg:MG}{n:Str}{v:Value}(X:K.In h)(G:h.Ns N mg)(e:PySem.W.nsIn K N n=some Ãj):mg n=some v:=by
 let(o,es,ep,m,hd,_,j):=G;delta PySem.W.nsIn at e;split at e
 .rename_i c d O F sl q;let:=X _ _ q;rw[m] at this;cases this;cases hd;split at e
  .rename_i y z;rw[<-j];delta nsFind findBy;symm
  .symm
 .cases e
def XC.obj{K:FR}{C N:Addr}(c:XC K C N):∃nm q bs sn sub ab col dd k0 k1 k2 k3 k5,∀h:Heap,K.In h->h.get? C=some (excClassObj nm q C N bs uw true sn sub ab col dd k0 k1 k2 k3 k5 "Exception.__new__")/\h.Ns N (h.nsMap N)/\
  h.nsMap N "__getattribute__"=none/\h.nsMap N "__getattr__"=none/\h.nsMap N "__setattr__"=none:=by
 let(dd,nm,m,bs,sub,sn,ab,col,k0,k1,k2,k3,k5,j,ax):=c.cl;exact(nm,m,bs,sn,sub,ab,col,dd,k0,k1,k2,k3,k5,λh X=>⟨X _ _ j,.of_isNs (PySem.W.isNs_of_in X ax),PySem.W.nsMap_none_of_in X ax c.ga,PySem.W.nsMap_none_of_in X ax c.gt,PySem.W.nsMap_none_of_in X ax c.sa⟩)
def Re(p:IJ C od tv o)(T:Addr):IJ C od ũ (o.mapFields (·.setIfInBounds 1 ũ)):=by
 let(F,h2,vs,j,G):=p;let z:=(Aq.mp G).1;apply((XQ _ _).trans F,?_,_,u7 j _,by simp[z]);let(c,d,m,sl):=o;cases m <;> first|exact h2|cases j
def D6(S:LA)(ax:ğ h)(same:∀b,b∉S->H2 b=H b)(I:∀b,b∈S->H b=none\/∃φ,H b=some (.ext φ)) (new:∀b,b∈S->∀u,H2 b=some u->ft P w H2 h2 b u)(keep:∀b o u,H b=some u->b∉S->h.get? b=some o->h2.get? b=some o):dy P w H2 h2:=λb u q=>by
 by_cases j:b∈S
 .symm
 .rw[same b j] at q;let m:∀c v,H c=some v->(∀φ,v≠ .ext φ)->c∉S:=λc v e ne z=>by
   grind
  apply(ax b u q).m4 (λc v hc g=>?_) (λc e=>?_) λc xs e=>?_
  .grind
  .symm
  .symm
def D7{fs:LA}{H F:Hp}{h h2:Heap}(S:LA)(same:∀b,b∉S->F b=H b)(J:∀b,b∈S->(H b=none/\h.get? b=none)\/∃φ,H b=some (.ext φ))(keep:∀b o,b∉S->b∉fs->h.get? b=some o->h2.get? b=some o) (slot:∀b o,b∉S->b∈fs->h.get? b=some o->∃sl,h2.get? b=some {o with slots:=sl})(there:∀b,b∈S->∀o,h.get? b=some o->∃O,h2.get? b=some O):Un fs [] H F h h2:=by
 let j:∀b o,h.get? b=some o->H b=none->b∉S:=λb o e n z=>by
  grind
 let I:∀c v,H c=some v->(∀φ,v≠ .ext φ)->c∉S:=λc v e ne z=>by
  grind
 apply⟨λb o e n m _=>keep b o (j b o e n) m e,λb o e n m _=>slot b o (j b o e n) m e,λb o e n _=>by rw[same b (j b o e n)];exact n,λb o e _=>?_,
  λb xs e=>by rw[same b (I b _ e (λφ z=>by cases z))];exact e,λb o u e=>by rw[same b (I b _ e (λφ z=>by cases z))];exact e,λb ps e=>⟨#[],by rw[same b (I b _ e (λφ z=>by cases z)),e];simp⟩⟩
 by_cases G:b∈S
 .symm
 .grind
def Kp(a:Addr)(H0 H:Hp):Prop:=∀b o,H0 b=some o->b≠a->H b=some o
def IL(H0:Hp)(a C:Addr)(od:OA)(H:Hp):Prop:=∃j,H a=some (exc C od j a)/\Kp a H0 H/\(j=.none\/∃T fl,j=.ref T/\T≠a/\H0 T=none/\H T=some (ent fl T))
def qN(fl:Value)(H0:Hp)(a C:Addr)(od:OA)(H:Hp):Prop:=∃T,H a=some Çj/\Kp a H0 H/\T≠a/\H0 T=none/\H T=some (ent fl T)
def qN.at_(f:qN fl H0 a C od H):IL H0 a C od H:=
 let ⟨T,h1,h2,h3,h4,h5⟩:=f
 ⟨_,h1,h2,.inr ⟨T,fl,rfl,h3,h4,h5⟩⟩
def acv(h:e.frame=e'.frame):noteFrame x e=noteFrame x e':=by
 delta noteFrame PySem.frameOf;rw[h]
def sv{x:Addr}{P:Obj->Prop}{H:Hp}(e:H x=some (one x P)):∃φ,H x=some (.ext φ):=⟨_,e⟩
section
variable{X:Cx}{pins:bG}{σ:St}{H H0:Hp}{s:Sh}{A:Around}{E:VP}{a C:Addr}{od:OA}
def Ea{Q:Unit->Shared->Prop}{env en:Env}{outer:List Env}{L:Addr}(qF:X.stack=env::outer)(O:env.frame=some L)(IM:en.frame=some L)(hA:A.frames=some X.stack)(I:Ã H s)(f:IL H0 a C od H)(k:∀s' H',Ã H' s'->qN Æi H0 a C od H'->Q () s'):wpAny È A (noteFrame Ĝ en) Q E s:=by
 rw[acv (IM.trans O.symm)];let(tv,j,kp,f):=f;let(o,Y,pe):=pO I.ax j;let(q1,q2,vs,q3,q4):=id pe;let ff:s.heap.FunFrames X.base (env::outer):=by rw[<-qF];exact I.stack
 let yL:A.frames=some (env::outer):=by rw[<-qF];exact hA
 let Rf:m6 X.stack=(env::outer).filterMap (·.frame):=by rw[qF];rfl
 rcases f with rfl|⟨T0,fl,rfl,h1,h2,F⟩
 .apply YZ (z:=a) yL ff O Y q3 q4 λh' T n=>?_;rw[<-Rf] at n;let J:=I.ax.fresh n.new;let gT:=OK n.new;let U:=Re pe T;let G:∀b,b∉[a,T]->(Ū) b=H b:=λb nb=>by
   let:b≠a/\b≠T:=À nb
   rw[ao this.2,ao this.1]
  let M:(Ū) T=some Ũ:=aq;let m:(Ū) a=some Çj:=by rw[ao (dX n.ne),aq]
  let(oT,ts,t1,t2,t3):=n.ent;let xq:H0 T=none:=by
   cases e:H0 T with
   |none=>rfl
   |some u=>rw[kp T u e n.ne] at J;cases J
  apply k {s with heap:=h'} Ū (I.vi (s':={s with heap:=h'}) (ch:=[]) Á (D7 [a,T] G č ś ś λb hb o g=>?_) (D6 [a,T] I.ax G č Ϻ λb o u hb nb g=>?_) I.bare Ĵ)
   ⟨T,m,λb o e nb=>?_,n.ne,xq,M⟩
  .let:b=a\/b=T:=by simpa using hb
   rcases this with rfl|rfl
   .exact .inr (sv j)
   .symm
  .let:b≠a/\b≠T:=by simpa using nb
   exact n.keep b o nf this.1 this.1 g
  .let:b≠a/\b≠T:=by simpa using nb
   exact n.slot b o nf this.1 this.1 g
  .let:b=a\/b=T:=by simpa using hb
   rcases this with rfl|rfl
   .exact(_,n.exc)
   .symm
  .let:b=a\/b=T:=by simpa using hb
   rcases this with rfl|rfl
   .exact .inr (sv j)
   .symm
  .let:b=a\/b=T:=by simpa using hb
   rcases this with rfl|rfl
   .rw[m] at hu;cases hu;exact su n.exc U
   .rw[M] at hu;cases hu;exact su t1 ⟨ts,t2,t3⟩
  .let:b≠a/\b≠T:=by simpa using nb
   exact n.keep b o (λz=>by rw[I.Du b z] at hb;cases hb) this.1 this.1 g
  .rw[ao (λz=>by simp_all),ao nb];exact kp b o e nb
 .cases S:(fl==rawInt L) with
  |false=>
   let(oz,Z,zs,W,z3):=pO I.ax F;apply Y0 yL ff O Y q3 q4 Z W z3 S h1 λh' T n tz kz=>?_;rw[<-Rf] at n;let J:=I.ax.fresh n.new;let gT:=OK n.new;let U:=Re pe T;let G:∀b,b∉[a,T,T0]->(å) b=H b:=λb nb=>by
    let:b≠a/\b≠T/\b≠T0:=À nb
    rw[ao this.2.1,ao this.1,ao this.2.2]
   let M:(å) T=some Ũ:=aq;let m:(å) a=some Çj:=by rw[ao (dX n.ne),aq]
   let hT0:(å) T0=some (ent .none T0):=by rw[ao (dX tz),ao h1];exact aq
   let(oT,ts,t1,t2,t3):=n.ent;let(oz',zs',z1',z2',z3'):=kz;let xq:H0 T=none:=by
    cases e:H0 T with
    |none=>rfl
    |some u=>rw[kp T u e n.ne] at J;cases J
   apply k {s with heap:=h'} å (I.vi (s':={s with heap:=h'}) (ch:=[]) Á (D7 [a,T,T0] G č ś ś λb hb o g=>?_) (D6 [a,T,T0] I.ax G č Ϻ λb o u hb nb g=>?_) I.bare Ĵ)
    ⟨T,m,λb o e nb=>?_,n.ne,xq,M⟩
   .let:b=a\/b=T\/b=T0:=by simpa using hb
    rcases this with rfl|rfl|rfl
    .exact .inr (sv j)
    .symm
    .exact .inr (sv F)
   .let:b≠a/\b≠T/\b≠T0:=by simpa using nb
    exact n.keep b o nf this.1 this.2.2 g
   .let:b≠a/\b≠T/\b≠T0:=by simpa using nb
    exact n.slot b o nf this.1 this.2.2 g
   .let:b=a\/b=T\/b=T0:=by simpa using hb
    rcases this with rfl|rfl|rfl
    .exact(_,n.exc)
    .symm
    .symm
   .let:b=a\/b=T\/b=T0:=by simpa using hb
    rcases this with rfl|rfl|rfl
    .exact .inr (sv j)
    .symm
    .exact .inr (sv F)
   .let:b=a\/b=T\/b=T0:=by simpa using hb
    rcases this with rfl|rfl|rfl
    .rw[m] at hu;cases hu;exact su n.exc U
    .rw[M] at hu;cases hu;exact su t1 ⟨ts,t2,t3⟩
    .rw[hT0] at hu;cases hu;exact su z1' ⟨zs',z2',z3'⟩
   .let:b≠a/\b≠T/\b≠T0:=by simpa using nb
    exact n.keep b o (λz=>by rw[I.Du b z] at hb;cases hb) this.1 this.2.2 g
   .rw[ao (λz=>by simp_all),ao nb,ao (λz=>by simp_all)];exact kp b o e nb
  |true=>
   let S:=eq_of_beq S;subst S;let(oz,Z,zs,W,z3):=pO I.ax F;exact wpAny_noteFrame_inFlight O Y q3 q4 Z W z3 (k s H I ⟨T0,j,kp,h1,h2,F⟩)
def Bm{Q:Unit->Shared->Prop}{fl:Value}(fr:OA)(I:Ã H s)(f:qN fl H0 a C od H)(k:∀s' H',Ã H' s'->qN (fr.elim .none λf=>rawInt f) H0 a C od H'->Q () s'):wpAny È A (setFlight Ĝ fr) Q E s:=by
 let(T,O,kp,aQ,S,m):=f;let(o,U,q1,q2,vs,q3,q4):=pO I.ax O;let(W,J,zs,j,z3):=pO I.ax m;let Z:3<zs.size:=(Aq.mp z3).1;delta setFlight;apply aP (u9 U q3 q4 ?_);rw[af (show(Value.ref T !=Value.none)=true by simp)];apply C4 J j Z ?_;let F:∀b,b≠T->(s.heap.update T (Obj.mapFields (·.setIfInBounds 3 (fr.elim .none λf=>rawInt f)))).get? b=s.heap.get? b:=λb n=>Ap _ _ (dX n);let G:(s.heap.update T (Obj.mapFields (·.setIfInBounds 3 (fr.elim .none λf=>rawInt f)))).get? T=_:=C6 _ J (GZ (u7 j _));let Y:Ra (fr.elim .none λf=>rawInt f) (W.mapFields (·.setIfInBounds 3 (fr.elim .none λf=>rawInt f))):=⟨_,u7 j _,by simp[Z]⟩;let M:∀b,b∉[T]->(ϛ (ent (fr.elim .none λf=>rawInt f) T)) b=H b:=λb nb=>by
  let:b≠T:=À nb
  rw[ao this]
 apply k {s with heap:=s.heap.update T (Obj.mapFields (·.setIfInBounds 3 (fr.elim .none λf=>rawInt f)))} (ϛ (ent (fr.elim .none λf=>rawInt f) T)) (I.vi (s':={s with heap:=s.heap.update T (Obj.mapFields (·.setIfInBounds 3 (fr.elim .none λf=>rawInt f)))}) (ch:=[]) Á (D7 [T] M č ś ś λb hb o g=>?_) (D6 [T] I.ax M č Ϻ λb o u hb nb g=>?_) I.bare Ĵ)
   ⟨T,?_,λb o e nb=>?_,aQ,S,aq⟩
 .let:b=T:=by simpa using hb
  subst this;exact .inr (sv m)
 .let:b≠T:=by simpa using nb
  exact(F b this).trans g
 .let:b≠T:=by simpa using nb
  exact(o.slots,(F b this).trans g)
 .let:b=T:=by simpa using hb
  subst this;exact(_,G)
 .let:b=T:=by simpa using hb
  subst this;exact .inr (sv m)
 .let:b=T:=by simpa using hb
  subst this;rw[aq] at hu;cases hu;exact su G Y
 .let:b≠T:=by simpa using nb
  exact(F b this).trans g
 .rw[ao Åh];exact O
 .rw[ao (λz=>by rw[z,S] at e;cases e)];exact kp b o e nb
end
def gn(P:Pg)(w:Wd):nh:=λouter H s E e s'=>∃a C od H0 H',e=.ref a/\s'.os=s.os/\AllBare s'.gens/\Un (m6 outer) [] H H' s.heap s'.heap/\dy P w H' s'.heap/\qN .none H0 a C od H'/\(∀d,od=some d->d≠a)/\E Ā od H0
def y6(X:Cx)(E:XK)(e:Value)(s:Sh):Prop:=∃a C od H0 H σ,e=.ref a/\Inv X [] σ H s/\IL H0 a C od H/\(∀d,od=some d->d≠a)/\E Ā od H0
abbrev Cx.xt(X:Cx)(E:XK):Cx:=X.iD (y6 X E)
def Cx.Ed(X:Cx):Prop:=X.stack=X.env::X.outer/\X.env.frame=some X.env.locals
def Inv.IQ(I:Ã H s):Inv X [] σ H s:=I.HC λp j=>absurd j Ä
def qO{X:Cx}{E:XK}:ug (gn X.prog X.w) (X.xt E) E:=λpins σ H s e s' I h=>by
 let(a,C,od,H0,H',j,m,F,G,J,M,O,S):=h;exact(a,C,od,H0,H',σ,j,(I.lU.vi (ch:=[]) m G J F Ĵ).IQ,M.at_,O,S)
def Rg(O:X.Ed):PassesOwn È X.A X.env (y6 X E):=λe s h=>by
 let(a,C,od,H0,H,σ,rfl,I,f,z,G):=h;apply Ea O.1 O.2 O.2 I.ok.frames I f λs' H' j F=>?_;let(T,M,_):=id F;let(o,J,q1,q2,vs,U,W):=pO j.ax M;apply aP (u9 J U W ?_);rw[ah (show ¬(Value.ref T==Value.none)=true from d9)];apply Bm X.env.frame j F λZ S Y m=>?_;exact(a,C,od,H0,S,σ,Á,Y,m.at_,z,G)
def xu{CX:nh}{P:Pg}{w:Wd}{K:FR}{mg:MG}{base:Heap}{N:LS}{cO:Str}{scope:Scope}{f:Addr}{cd:Value}{A:Around}{outer:List Env}{s:Sh}{H:Hp}{E:XK}:
  (ī scope f cd A outer s H E).Ed:=⟨rfl,rfl⟩
def acB{P:Pg}{w:Wd}{K:FR}{mg:MG}{base:Heap}{N:LS}{j:Str}{scope:Scope}{f:Addr}{cd:Value}{A:Around}{outer:List Env}{s:Sh}{H:Hp}{E:XK}{e:Value}{S:Sh}(h:y6 (lF Ĕ P w K mg base N j scope f cd A outer s H E) E e S):(lF Ĕ P w K mg base N j scope f cd A outer s H E).xe e S:=by
 let(a,C,od,H0,H1,σ,rfl,I,f,F,G):=h;show wpAny _ _ (leaving _ _) _ _ S;delta leaving;apply aP (Ea (X:=lF Ĕ P w K mg base N j scope _ cd A outer s H E) xu.1 xu.2 xu.2 I.ok.frames I f λs' H' m J=>?_);apply Bm (X:=lF Ĕ P w K mg base N j scope _ cd A outer s H E) none m J λM O Y z=>?_;exact(a,C,od,H0,O,Á,Y.os,Y.bare,Y.base,Y.ax,z,F,G)
def br.qP{P:Pg}{w:Wd}{K:FR}{mg:MG}{base:Heap}{x cO:Str}{st:Stmt}{f:Addr}{fd:FD}{N ps:LS}{k:Nat}{sp:Sp}(F:Áf fd)(S:bH N ps ϯ)(U:∀(aG:Value)(A:Around)(outer:List Env)(s:Sh)(H:Hp)(vs:au)(Q:VK)(E:XK),dv k ĺ->sp vs H Q E->
   ∃t,kI ((lF Ĕ P w K mg base N cO ϯ f aG A outer s H E).xt E) Åf t/\t {nx:=λ_ H'=>Q .aJ H',rt:=Q} ų H) (len:∀vs H Q E,sp vs H Q E->vs.length=ps.length:=by intro _ _ _ _ h;first|(cases h;subst_vars;rfl)|(repeat first|(let(rfl,_):=h;rfl)|let(_,h):=h)):Ì Ĕ (k+1) f fd ps sp:=by
 let(Y,od,kV,O,pm,M,aG,ct,W,rfl,lk,G):=F.ex;apply P7 lk G S len λA outer s H vs Q E hr m=>?_;let(t,h,q):=U aG A outer s H vs Q E hr m;exact(t,λpins J σ H1 D I j=>iU (h pins J σ H1 D (I.iD _) j) (λ_ _ q=>q.lU) λe Z z=>acB z,q)
def acC(E:XK)(C:Addr)(te:TE):TS:=λ_ σ H=>te σ H λv H1=>∃a od,v=.ref a/\H1 a=some (exc C od .none a)/\(∀d,od=some d->d≠a)/\E Ā od H1
def jP{X:Cx}{E:XK}{e:Expr}{te:TE}{C N:Addr}{pos:Pos}(J:X.A.handled=none)(c:XC X.K C N)(F:PE (X.xt E) e te):PS (X.xt E) (.Raise (some e) none pos) (acC E C te):=by
 intro pins s σ H D I h;let(nm,q,bs,sn,sub,ab,col,dd,k0,k1,k2,k3,k5,cls):=c.obj;rw[arm_exec_Raise];refine aP (OV (YX (C:=C) (nm:=nm) (q:=q) (N:=N) (bs:=bs) (bm:=uw) (hdct:=true) (sn:=sn) (sub:=sub) (ab:=ab) (col:=col) (dd:=dd) (k0:=k0) (k1:=k1) (k2:=k2) (k3:=k3) (k5:=k5) (newId:="Exception.__new__") Ù J
  (aP (aK (F pins s σ H _ I h) λu Z ⟨v,H1,j,U,a,od,z,m,hd,W⟩=>aP (OV (df ?_))))))
 subst z;obtain rfl:u=Value.ref a:=U;let(o,G,M,Y,vs,O,S):=pO j.ax m;exact(a,o,vs,Á,(cls _ j.fu).1,G,M,O,S,a,C,od,H1,H1,σ,Á,j.lU.IQ,⟨.none,m,λb o e _=>e,.inl Á⟩,hd,W)
def Inv.Ee{X:Cx}{pins:bG}{σ:St}{H m:Hp}{s:Sh}{h2:Heap}{t2:Nat}(S:LA)(I:Ã H s)(same:∀b,b∉S->m b=H b)(F:∀b,b∈S->(H b=none/\s.heap.get? b=none)\/∃φ,H b=some (.ext φ)) (new:∀b,b∈S->∀u,m b=some u->Àb m h2 b u)(keep:∀b o,b∉S->s.heap.get? b=some o->h2.get? b=some o) (there:∀b,b∈S->∀o,s.heap.get? b=some o->∃O,h2.get? b=some O):Ã m {s with heap:=h2,toks:=t2}:=
 I.vi (s':={s with heap:=h2,toks:=t2}) (ch:=[]) rfl (D7 S same F (λb o j _ g=>keep b o j g) (λb o j _ g=>⟨o.slots,keep b o j g⟩) there)
  (D6 S I.ax same (λb G=>(F b G).imp (·.1) id) new λb o u _ j g=>keep b o j g) I.bare Ĵ
def IS{K:FR}{C N:Addr}(c:XC K C N):PySem.W.nsOkIn K N=true:=by
 let(_,_,_,_,_,_,_,_,_,_,_,_,_,_,h):=c.cl;exact h
section
def acD{K:FR}{h:Heap}{f:Addr}(XK:K.In h)(j:PySem.W.isFn K ā=true):∃o,h.get? f=some o/\o.cls=.type "function":=by
 let e:=wK.mp j;delta PySem.W.typeIn at e;cases q:K.lookup f with
 |none=>
  symm
 |some o=>
  simp only[q] at e;exact(o,XK _ _ q,aN e)
def acE(C:Addr)(sp:Sp)(I:au)(E:XK)(t:TA):TE:=λσ H Q=>t σ H λvs H1=>vs.length<=sizeLine/\∀x,H1 x=none->
 sp (.ref x::(vs++I)) (upd H1 x ő) (λv j=>v=.aJ/\Q ŝ j) E
def acF{pins:bG}{σ:St}{H:Hp}{s:Sh}{Q:VK}{U:LV}{vs:au}(c:XC X.K C N)(mI:PySem.W.nsIn X.K N "__init__"=some Áx)(fn:PySem.W.isFn X.K ā=true)(F:ù CX k f fd ps sp)(hr:dv (k+1) X.A)(hb:Ŀ ds)(hd:bc iX ds)(hx:ug CX X E) (I:Ã H s) (r:bc vs U) (ux:vs.length<=sizeLine)(h:∀x,H x=none->sp (.ref x::(vs++iX)) (Áe ő) (λv S=>v=.aJ/\Q ŝ S) E):
  wpAny È X.A (call Ā U) (ñ Q) X.xe s:=by
 let(nm,q,bs,sn,sub,ab,col,dd,k0,k1,k2,k3,k5,cls):=c.obj;let(Z,J,_):=cls s.heap I.fu;let(oF,gF,cF):=acD I.fu fn;let wU:=acu I.fu J mI;let M:=h Î (I.ax.fresh (X4 _));let g2:((s.heap.push (oj U)).push Âk).get? Î=some Âk:=by
  let z:=ib (s.heap.push (oj U)) (o:=qB C s.heap.objs.size) rfl;symm
 let m:Ã (upd H Î (exc C none .none Î)) {s with heap:=(s.heap.push (oj U)).push Âk}:=
  I.laid (t':=s.toks) (λb u q=>dh _ (dh _ q)) (X4 _) (su g2 ⟨rfl,rfl,_,rfl,rfl⟩)
 let O:bc (V.ref Î::(vs++iX)) (Value.ref Î::(U++ds)):=.cons rfl (r.append hd);let hl:(Value.ref Î::U++ds).length=ps.length:=by
  let e:=O.length;rw[F.len _ _ _ _ M] at e;symm
 let(G,g,d,tk,os):=s;refine Ao (YW PySem.F.excBase_Exception Z J wU gF cF (u6 (F.run _ X.stack _ _ ⟨Value.ref (G.objs.size+1)::U,[]⟩ (Value.ref (G.objs.size+1)::(U++ds)) _ _ E (hr.make C U [])
  (m.yN.make C U []) (hb _ (Value.ref (G.objs.size+1)::U) m.fu hl) O M) λr s' j=>?_) (by rw[<-r.length];exact ux))
 cases r with
 |error e=>exact hx pins σ _ _ e s' m j
 |ok fl=>
  cases fl with
  |ret u=>
   let(v,H',Y,rv,ev,q3):=m.after j;subst ev;exact(rv,⟨V.ref (G.objs.size+1),H',Y,Á,q3⟩)
  |next=>exact False.elim j
  |brk=>exact False.elim j
  |cont=>exact False.elim j
def Ef(c:XC X.K C N)(U:PySem.W.nsIn X.K N "__init__"=some Áx)(fn:PySem.W.isFn X.K ā=true)(kp:PySem.W.keepIn X.K Ā=true)(F:ù CX k f fd ps sp)(hr:dv (k+1) X.A)(J:Gl X x)(M:X.mg x=some Ā)(z:Ŀ ds)(hd:bc iX ds)(O:ug CX X E)(m:PA X (e::es) t) (S:(x==("__debug__":Str))=false:=by decide) (G:starEach (e::es) X.env=(false,eval e X.env)::starEach es X.env:=by rfl) (j:(backTo pos ô).any (·.1)=false:=by rfl):
  PE X (.Call Ž (e::es) [] pos) (acE C sp iX E t):=by
 show Õ;apply wM (vj I J M ?_ S);refine PySem.W.callWith_K (h₀:=X.base) I.ok.mod.rT kp (aK (m pos pins s σ H _ I h) λZ Y ⟨vs,H1,I1,r,q⟩=>Ár) G j;exact acF c U fn F hr z hd O I1 r q.1 q.2
def acG(K:FR)(t:TA):TE:=λσ H Q=>t σ H λvs H1=>∃a C N od j,vs=[.ref a]/\H1 a=some (exc C od j a)/\XC K C N/\Q .aJ H1
def acH{pl:Sem Bool}(hg:Gl X "Exception")(hm:X.mg "Exception"=none)(hf:PySem.W.findCls X.K (.type "Exception") (.type "type") "__init__"=some (.val (.builtin "Exception.__init__")))(ha:PA X (e::es) t)(sf:typeOf (.type "Exception")=pure (.type "type")) (qF:Manifest.isStub "Exception"=false) (J:bootBuiltins "Exception"=some (.type "Exception"))(he:starEach (e::es) X.env=(false,eval e X.env)::starEach es X.env:=by rfl) (c9:(backTo pos ô).any (·.1)=false:=by rfl)(ht:eval (.Call (.Attribute (.Name "Exception" p) "__init__" iT) (e::es) [] pos) X.env=(do
   let S <-eval (.Name "Exception" p) X.env
   standAt iT.atName
   let (f,first) <-holding [S] (getMethod S "__init__" pl)
   callWith pos f first (backTo pos (starEach (e::es) X.env)) (backToKw pos ϵ)):=by rfl):
  PE X (.Call (.Attribute (.Name "Exception" p) "__init__" iT) (e::es) [] pos) (acG X.K t):=by
 show Õ;apply PySem.W.methodCall_KW (pl:=pl) (Àh J ?_) ht;let(m,F):=I.fr;apply PySem.W.method_type F I.ok.mod.rT sf qF hf Ô ?_;apply apc (aK (ha pos pins _ σ H _ (I.tok _) h) λus Y ⟨vs,H1,G,r1,a,C,N,od,tv,ev,z,c,q⟩=>?_) he c9;subst ev;let(u,rfl,ru):=vals1 r1;cases ru;let(nm,qn,bs,sn,sub,ab,col,dd,k0,k1,k2,k3,k5,cls):=c.obj;let(Z,c2,_):=cls Y.heap G.fu;let(o,O,U,q2,vI,j,q4):=pO G.ax z;let zz:=(Aq.mp q4).1;let(M,g,d,tk,os):=Y;apply YY PySem.F.excBase_Exception Z O U j Æ ?_;let gp:=dh (h:=M) (oj []) O;let gx:((M.push (oj [])).update a (Obj.mapFields (·.setIfInBounds 0 (.ref M.objs.size)))).get? a=_:=C6 _ gp (GZ (u7 j _));apply(.aJ,H1,G.Ee (t2:=tk) [a] (λb _=>Á) č Ϻ Æa λb hb o g=>?_,Á,q)
 .let:b=a:=by simpa using hb
  subst this;exact .inr (sv z)
 .let:b=a:=by simpa using hb
  subst this;rw[z] at hu;cases hu;apply su gx ⟨(XQ _ _).trans U,?_,_,u7 j _,?_⟩
  .let(cc,cd,dt,sl):=o;cases dt <;> first|exact q2|cases j
  .symm
 .let:b≠a:=by simpa using nb
  rw[Ap _ _ (dX this)];exact dh _ g
 .symm
def acJ(K:FR)(ta m:TE)(g:Str):TS:=λD σ H=>m σ H λy H1=>ta σ H1 λv j=>∃a C N te,v=.ref a/\j a=some (exc C none te a)/\XC K C N/\D5 K N g/\
 ∀d,j d=none->d≠a->D.nx σ (upd (upd j a (exc C (some d) te a)) d (uv d (ie g y [])))
def acK{g:Str}{J:Expr}{lr:Pos}(ha:PE X o ta)(hv:PE X J tv)(hs:swapsWith J (some (.Attribute o g lr)) pos.line X.env=pure false):PS X (.Assign [.Attribute o g lr] J pos) (acJ X.K ta tv g):=by
 intro pins s σ H D I h;apply X3 (aK (hv pins s σ H _ I h) λu s1 ⟨y,H1,I1,ry,q⟩=>aK (ha pins s1 σ H1 _ I1 q) λov S ⟨x,M,m,rx,a,C,N,te,ex,U,c,n,q2⟩=>?_) hs;subst ex;obtain rfl:ov=Value.ref a:=rx;let(nm,qn,bs,sn,sub,ab,col,dd,k0,k1,k2,k3,k5,cls):=c.obj;let(c1,c2,c3,c4,c5):=cls S.heap m.fu;let(o,Y,p1,p2,vI,p3,p4):=pO m.ax U;let ub:S.heap.nsMap N g=none:=PySem.W.nsMap_none_of_in m.fu (IS c) n.own;let(j,gg,dr,tk,os):=S;apply Y6 PySem.F.store_Exception c1 c2 c5 ub n.base Y p1 (λc z=>(by rw[p3] at z;cases z)) p2 λh' ly w1 w2 w3=>?_;let dn:M j.objs.size=none:=m.ax.fresh (bJ _);let O:j.objs.size≠a:=tU (cZ Y);let e1:(upd (upd M a (exc C (some j.objs.size) te a)) j.objs.size (uv j.objs.size (ie g y []))) a=some (exc C (some j.objs.size) te a):=by rw[ao (dX O),aq]
 apply(σ,_,m.Ee (h2:=h') (t2:=ly) [a,j.objs.size] (λb nb=>?_) č (λb hb u' G=>?_) Æa (λb hb o g=>?_),q2 j.objs.size dn O)
 .let:b≠a/\b≠j.objs.size:=by simpa using nb
  rw[ao this.2,ao this.1]
 .let:b=a\/b=j.objs.size:=by simpa using hb
  rcases this with rfl|rfl
  .exact .inr (sv U)
  .exact .inl ⟨dn,OK (bJ _)⟩
 .let:b=a\/b=j.objs.size:=by simpa using hb
  rcases this with rfl|rfl
  .rw[e1] at G;cases G;exact su w2 ⟨p1,Á,vI,p3,p4⟩
  .rw[aq] at G;cases G;apply Rb w1 (λf=>?_) (λz Z=>?_) (by show 1<=1000;decide)
   .rw[HZ];by_cases e:f=g
    .rw[af e,af e];exact ry
    .rw[ah e,ah e];exact True.intro
   .by_cases e:z=g
    .rw[e];exact(AW g y []).1
    .rw[ah e] at Z;exact absurd Á Z
 .let:b≠a/\b≠j.objs.size:=by simpa using nb
  exact w3 b o this.1 g
 .let:b=a\/b=j.objs.size:=by simpa using hb
  rcases this with rfl|rfl
  .exact(_,w2)
  .exact absurd (cZ g) (qx _)
def acL(K:FR)(ta m:TE)(g:Str):TS:=λD σ H=>m σ H λy H1=>ta σ H1 λv j=>∃a C N d te fs,v=.ref a/\j a=some (exc C (some d) te a)/\d≠a/\j d=some (uv d fs)/\fs.length<1000/\XC K C N/\D5 K N g/\
 D.nx σ (upd j d (uv d (ie g y fs)))
def acM{g:Str}{J:Expr}{O:Pos}(ha:PE X o ta)(hv:PE X J tv)(hs:swapsWith J (some (.Attribute o g O)) pos.line X.env=pure false):PS X (.Assign [.Attribute o g O] J pos) (acL X.K ta tv g):=by
 intro pins s σ H D I h;apply X3 (aK (hv pins s σ H _ I h) λu s1 ⟨y,H1,Y,ry,q⟩=>aK (ha pins s1 σ H1 _ Y q) λov S ⟨x,H2,j,rx,a,C,N,d,te,fs,ex,ea,ne,m,fl,c,n,q2⟩=>?_) hs;subst ex;obtain rfl:ov=Value.ref a:=rx;let(nm,qn,bs,sn,sub,ab,col,dd,k0,k1,k2,k3,k5,cls):=c.obj;let(c1,c2,c3,c4,c5):=cls S.heap j.fu;let(o,ge,p1,p2,vI,p3,p4):=pO j.ax ea;let(mA,nA,rA,U,lA):=acs j.ax m;let ub:=PySem.W.nsMap_none_of_in j.fu (IS c) n.own;let Z:a≠C:=λz=>by
  grind
 let(hh,gg,dr,tk,os):=S;let lz:(fs.map (·.1)).length<=sizeLine:=by rw[aA,va];omega
 apply Y7 PySem.F.store_Exception c1 c2 c5 ub n.base ge p1 (λc z=>É) p2 ne nA U lz Z λh' ly w1 w3=>?_;apply(σ,_,j.Ee (h2:=h') (t2:=ly) [d] (λb nb=>?_) č (λb hb u' G=>?_) Æa (λb hb o g=>?_),q2)
 .let:b≠d:=by simpa using nb
  rw[ao this]
 .let:b=d:=by simpa using hb
  subst this;exact .inr ⟨_,m⟩
 .let:b=d:=by simpa using hb
  subst this;rw[aq] at G;cases G;apply Rb w1 (λf=>?_) (λz M=>?_) (gQ (Ia g y fs) fl)
  .rw[HZ];by_cases e:f=g
   .rw[af e,af e];exact ry
   .symm
  .by_cases e:z=g
   .rw[e];exact(AW g y fs).1
   .rw[ah e] at M;exact(AW g y fs).2 z (U z M)
 .symm
 .let:b=d:=by simpa using hb
  subst this;let(o',_,_,e',_):=w1;symm
end
abbrev Cx.qQ(X:Cx)(a:Addr):Cx:={X with A:=X.A.mark (some Ĝ),calm:=false,xe:=λ_ _=>False}
def Cx.Ok.qQ{X:Cx}(ok:X.Ok)(a:Addr):(X.qQ a).Ok:=
 ⟨ok.mod,ok.kind,ok.glob,ok.blt,ok.above,ok.inj,ok.has,ok.wW,λh=>(by cases h),ok.frames,ok.AG,ok.AH,ok.bs,ok.m7,ok.yB,ok.yC,ok.kG,ok.pC⟩
def Inv.qQ{X:Cx}{pins:bG}{σ:St}{H:Hp}{s:Sh}(I:Ã H s)(a:Addr):Inv (X.qQ a) pins σ H s:=⟨I.ok.qQ a,I.os,I.bare,I.base,I.loc,I.cell,I.free,I.kH,I.pin,I.ax,I.len⟩
def Inv.y9(ok:X.Ok)(I:Inv (X.qQ a) pins σ H s):Ã H s:=⟨ok,I.os,I.bare,I.base,I.loc,I.cell,I.free,I.kH,I.pin,I.ax,I.len⟩
def acN{M:Model}{A:Around}{E:VP}{nm q S q':Str}{C N C1 N1:Addr}{bs U:LV}{hdct j:Bool}{sn W:LS}{sub Y:LV}{ab Z:Bool}{col Rm:Option Bool}{dd sk:OA}{k0 k1 k2 k3 k5 Rn Ro Rp Rq Rr:Option Value}{newId m:String}{h:Heap} {g:Array GenState} {d:Drawn} {t:Nat} {os:OsState} {e:Addr} {O:Obj} {Q:Bool->Shared->Prop}(F:h.get? C=some (excClassObj nm q C N bs uw hdct sn sub ab col dd k0 k1 k2 k3 k5 newId)) (z:h.get? C1=some (excClassObj S q' C1 N1 U uw j W Y Z Rm sk Rn Ro Rp Rq Rr m))(he:h.get? e=some O) (G:O.cls=.ref C) (ne:C≠C1)(hq:Q false ⟨h,g,d,t,os⟩):ž (excMatches Èn (.ref C1)) Q E ⟨h,g,d,t,os⟩:=by
 let J:(Value.ref C1::uw).contains (.type "BaseException")=true:=by rw[An,show uw.contains (.type "BaseException")=true by decide,XM]
 let I:(Value.ref C::uw).contains (.ref C1)=false:=by
  grind
 let f:=tc_notTuple;delta excMatches
 repeat (first|(with_reducible apply tQ he ?_;rw[G])|with_reducible apply tQ z ?_|with_reducible apply tQ F ?_|(with_reducible apply OG z ?_;rw[J])|(with_reducible apply OG F ?_;rw[I])|wp_step)
 exact hq
abbrev TH:=Hp->Addr->Addr->OA->TS
def PH(X:Cx)(j:List ExceptHandler)(th:TH):Prop:=
 ∀(pins:bG)(s:Sh)(σ:St)(H H0:Hp)(a C N:Addr)(od:OA)(D:Ends),Ã H s->XC X.K C N->qN .none H0 a C od H->th H0 a C od D σ H->
  wpAny È X.A (handleBy Ĝ X.env j) Åj X.xe s
def acQ:TH:=λ_ _ _ _ _ _ _=>False
def acR:PH X [] acQ:=λ_ _ _ _ _ _ _ _ _ _ _ _ _ h=>h.elim
def acS(C1:Addr)(ts:TS)(th:TH):TH:=λH0 a C od D σ H=>(C=C1->∀H',qN .none H0 a C od H'->ts D σ H')/\(C≠C1->th H0 a C od D σ H)
theorem SP.y9(ok:X.Ok)(h:SP (X.qQ a) pins D f s'):SP X pins D f s':=by
 cases f with
 |next=>let(σ',H',I,q):=h;exact(σ',H',I.y9 ok,q)
 |brk=>let(σ',H',I,q):=h;exact(σ',H',I.y9 ok,q)
 |cont=>let(σ',H',I,q):=h;exact(σ',H',I.y9 ok,q)
 |ret u=>let(v,σ',H',I,r,q):=h;exact(v,σ',H',I.y9 ok,r,q)
section
variable{X:Cx}{C1 N1:Addr}{x:Str}{p pos:Pos}{b0:Stmt}{Ru:List Stmt}{bI:List ExceptHandler}{ts:TS}{th:TH}
def Eh(M:XC X.K C1 N1)(W:Gl X x)(Z:X.mg x=some (.ref C1))(hs:∀a,kI (X.qQ a) (b0::Ru) ts)(hr:PH X bI th)(iY:(x==("__debug__":Str))=false:=by decide):
  PH X (.ExceptHandler (some Ž) none (b0::Ru) pos::bI) (acS C1 ts th):=by
 intro pins s σ H H0 a C N od D I c f h;apply wpAny_handleBy_cons (codeAny_handlers_test (vj (X:=X.qQ a) (I.qQ a) W Z ?_ iY)) (by intro q;cases q);let(nm,qn,bs,sn,sub,ab,col,dd,k0,k1,k2,k3,k5,cls):=c.obj;let(Rh,qn',Ri,Rj,Rk,Rl,Rm,sk,Rn,Ro,Rp,Rq,Rr,j):=M.obj;let(F,_):=cls s.heap I.fu;let(O,_):=j s.heap I.fu;let(T,U,kp,ne,xq,hT):=id f;let(o,G,J,q2,vI,q3,q4):=pO I.ax U;by_cases e:C=C1
 .subst e;let(Y,g,d,tk,os):=s;apply wpAny_excMatches_sub_self F G J Ù ?_;apply codeAny_handlers_suite ?_;apply Bm (X:=X) none I f λs' H' m S=>?_;refine iU (hs a pins s' σ H' D (m.qQ a) (h.1 Á H' S)) (λfl s2 q=>q.y9 m.ok) λ_ _ z=>False.elim z
 .let(Y,g,d,tk,os):=s;apply acN F O G J e ?_;exact hr pins _ σ H H0 a C N od D I c f (h.2 e)
end
def Rv(X:Cx)(G:List Stmt)(tb:XK->TS):Prop:=
 ∀(pins:bG)(s:Sh)(σ:St)(H:Hp)(D:Ends)(E:XK),Ã H s->tb E D σ H->wpAny È X.A (execs G X.env) Åj
  (λe s'=>∃a C od H0 H',e=.ref a/\Ã H' s'/\qN .none H0 a C od H'/\(∀d,od=some d->d≠a)/\E Ā od H0) s
def acU(K:FR)(th:TH)(D:Ends)(σ:St):XK:=λj od H0=>∃C N,j=.ref C/\XC K C N/\∀a H',(∀d,od=some d->d≠a)->qN .none H0 a C od H'->th H0 a C od D σ H'
def acV(K:FR)(tb:XK->TS)(th:TH):TS:=λD σ H=>tb (acU K th D σ) D σ H
def acW(O:X.Ed)(W:Rv X gM tb)(Y:PH X (U::hs) th):PS X (.Try gM (U::hs) [] [] pos) (acV X.K tb th):=by
 intro pins s σ H D I h;apply wpAny_Try_except (iU (W pins s σ H D _ I h) (λf Z q=>?_) λe Z q=>?_)
 .cases f with
  |next=>exact C9 q
  |brk=>exact q
  |cont=>exact q
  |ret v=>exact q
 .let(a,C,od,H0,H1,rfl,m,M,hd,C',N,J,c,hk):=q;cases J;apply Ea O.1 O.2 O.2 m.ok.frames m M.at_ λs2 H2 z S=>?_;apply Bm none z S λs3 j G F=>?_;exact Y pins s3 σ j H0 a C N od D G c F (hk a j hd F)
section
def acX(hN:X.N.Nodup)(hi:X.N[i]? =some x)(hx:Loc X.env.scope x)(F:ù (gn X.prog X.w) k f fd ps sp)(hr:dv k X.A)(hg:Gl X g)(hm:X.mg g=some ā)(hk:PySem.W.keepIn X.K ā=true)(hb:Ŀ [])(ha:PA X.vo (e::es) t)(hs:swapsWith (.Call Çx (e::es) [] pos) (some (.Name x px)) vC.line X.env=pure false:=by rfl) (hf:X.fn x=true\/X.env.scope.names.lookup x=some .local:=by first|exact .inl Á|exact .inr Á|assumption)(iY:(g==("__debug__":Str))=false:=by decide) (he:starEach (e::es) X.env=(false,eval e X.env)::starEach es X.env:=by rfl) (J:(backTo pos ô).any (·.1)=false:=by rfl):
  Rv X [.Assign [.Name x px] (.Call Çx (e::es) [] pos) vC] (λE=>yG (g9 sp [] E t) (pH i)):=by
 intro pins s σ H D E I h;let gO:wpAny È X.A (eval (.Call Çx (e::es) [] pos) X.env) (ñ λv H1=>D.nx Ļ H1) (λe s'=>∃a C od H0 H',e=.ref a/\Ã H' s'/\qN .none H0 a C od H'/\(∀d,od=some d->d≠a)/\E Ā od H0) s:=by
  apply wM (vj I hg hm ?_ iY);refine PySem.W.callWith_K (h₀:=X.base) I.ok.mod.rT hk (iU (ha pos pins s σ H _ (I.iD _) h) (λU S ⟨vs,H1,I1,r,q⟩=>Ár) λ_ _ z=>False.elim z) he J;let I1:=I1.lU;let q:sp (vs++[]) H1 (λv H1=>D.nx Ļ H1) E:=q;rw[jv] at q;let hl:U.length=ps.length:=by rw[<-r.length];exact F.len _ _ _ _ q
  let m:=hb S U I1.fu É;rw[jv] at m;apply Ao (u6 (F.run X.A X.stack S H1 ⟨U,[]⟩ U vs _ E hr I1.yN m r q) λr s' j=>?_);cases r with
  |error e=>
   let(a,C,od,H0,H',M,O,Y,Z,e5,e6,e7,e8):=j;exact(a,C,od,H0,H',M,I1.vi (ch:=[]) O Z e5 Y Ĵ,e6,e7,e8)
  |ok fl=>
   cases fl with
   |ret u=>exact I1.after j
   |next=>exact False.elim j
   |brk=>exact False.elim j
   |cont=>exact False.elim j
 apply OL (wpAny_Assign_Name (iU gO (λv S ⟨y,H1,I1,r1,q1⟩=>?_) λ_ _ z=>z) hs);exact Dx I1 hN hi hx r1 (λs2 G=>C9 ⟨_,H1,G,q1⟩) hf
end
def Bo(K:FR)(a:Addr):It:=
 ⟨λi H=>∃(xs:au)(x:V),Ť a xs/\xs[i]? =some x,λi H v H'=>∃T x,v=.ref T/\H T=none/\H'=upd H T (.tup [.int (i:Nat),x])/\∀xs,Ť a xs->xs[i]? =some x,λi H=>∃xs:au,Ť a xs/\xs.length=i⟩
def IT(x:IsTup h a aj):h.IsTuple a aj:=x
def acY{P:Pg}{w:Wd}{K:FR}{mQ:List Expr}{kk:Nat}{l7:Pos}(a e it:Addr):
  Turn P w K ĩ (Bo K a) [e,it] e (λi h=>(∃F,IsEnum h e it ((i:Nat):Int) F)/\h.IsTupleIter it a i/\e≠it/\a≠it/\a≠e) where
 mem:=by simp
 obj:=λi h=>D4
 keep:=λi h h' st k=>let ⟨⟨F,j⟩,hi,aQ⟩:=st;⟨⟨F,k e Ä _ j⟩,hi.at λo q=>k it Ä o q,aQ⟩
 item:=by
  show Ó;subst hP hw hK;let Z:=D4 st;let((F,j),Y,aQ,G,O):=st;let(xs,x,M,U):=hg;let(J,rv,p,hz):=I.tuple M;let(u,hu,ru):=rv.get U;let IH:=cZ j;let S:X.A.in1.handled=none:=I.ok.hd hc;apply wpAny_pyNext_enum_itemD (Pk S it a G J.toArray) j ⟨Y,IT p⟩ (by simpa using (bO.mp hu).1) aQ (by simp;exact(aQ,dX O)) λy h' tk W ho ou hT hsz hk=>?_;let ey:y=u:=by
   let q:=hu.symm.trans (À W);exact(aN q).symm
  subst ey;apply(_,Á,apq (s:={s with heap:=h',toks:=tk+1}) ho λpN Bj sb=>?_);let ur:pN.get? s.heap.objs.size=some {cls:=.type "tuple",data:=.seq #[.int i tk,y]}:=(sb.2 _ (tU IH)).trans hT;let ⟨I1,n1⟩:=D1 (x:=.int (i:Nat)) (t':=tk+1) Z hf (λb Z m q=>(sb.2 b (λz=>m (by simp[z]))).trans (hk b Z (λz=>m (by simp[z])) (λz=>m (by simp[z])) q)) I ur ⟨_,rfl⟩ ru;exact(.ref s.heap.objs.size,_,I1,Á,⟨_,x,Á,I.ax.fresh (bJ _),Á,λys W=>by rw[I.Pz W M];exact U⟩,⟨⟨y,by rw[show((i+1:Nat):Int)=(i:Int)+1 by omega];exact Bj⟩,ou.1.at λo q=>(sb.2 it Åh).trans q,aQ,G,O⟩,n1)
 done:=by
  show Ó;subst hP hw hK;let((F,j),Y,aQ,G,O):=st;let(xs,M,U):=hg;let(J,rv,p,hz):=I.tuple M;show ê;let hl:=rv.length;let S:X.A.in1.handled=none:=I.ok.hd hc;let en:i=J.toArray.size:=by
   rw[tY];omega
  subst en;exact wpAny_pyNext_enum_endD (Pk S it a G J.toArray) j ⟨Y,IT p⟩ λh' eb=>⟨Á,I.turned (t':=s.toks) (λb o m q=>eb b o m q) f0 f1 f3 f4 f5⟩
 self:=λA i s Q E st h=>let ⟨⟨_,j⟩,_⟩:=st;OZ j h
def acZ(K:FR)(ta:TA):TI:=λσ H R=>ta σ H λvs H1=>∃a xs,vs=[.ref a]/\bu K H1 a xs/\R (Bo K a) H1
def Rw{X:Cx}{e:Expr}{ta:TA}{p pos l7:Pos}{mQ:List Expr}{kk:Nat}(hg:Gl X "enumerate")(hm:X.mg "enumerate"=none)(G:PA X [e] ta)(hs:starEach [e] X.env=[(false,eval e X.env)]:=by rfl):
  PI X ĩ (.Call (.Name "enumerate" p) [e] [] pos) (acZ X.K ta):=by
 intro pins s σ H R I h;apply Call_ (Àh boot_enumerate (Da (aK (G pos pins s σ H _ I h) λus S ⟨vs,H1,I1,W,U⟩=>?_) hs Á));let(a,xs,ex,M,q):=U;subst ex;cases W with
 |cons r Y=>
  cases Y;cases r;let(Z,rv,z,hz):=I1.tuple M;let j:=z.lt;apply Zb (IT z) λh' m O hsz hk=>OZ m ?_;let F:Ã H1 {S with heap:=h'}:=I1.kept (t':=S.toks) hk;apply(S.heap.objs.size+1,[S.heap.objs.size+1,S.heap.objs.size],_,_,H1,Á,F,acY a (S.heap.objs.size+1) S.heap.objs.size,⟨⟨.none,m⟩,O,Nat.succ_ne_self _,fj j,fj (OU j)⟩,λb J=>?_,q);let e':b=S.heap.objs.size+1\/b=S.heap.objs.size:=À J
  let j7:S.heap.objs.size<=b:=by
   grind
  exact I1.vp j7 Æz
def ac0{K:FR}{a:Addr}{xs:au}{g:TG}{tb:TS}{D:Ends}{σ:St}{H:Hp}(Pv:Nat->St->Hp->Prop)(h0:Pv 0 σ H)(S:∀i σ H,i<=xs.length->Pv i σ H->â a xs)(hs:∀i x T σ H,xs[i]? =some x->Pv i σ H->H T=none->g ũ σ (ϛ (.tup [.int (i:Nat),x])) λσ2 j=>tb {D with nx:=Pv (i+1),ct:=Pv (i+1),bk:=D.nx} σ2 j) (hd:∀σ H,Pv xs.length σ H->D.nx σ H):
  ∃W:Nat->Nat->St->Hp->Prop,(∃m,W 0 m σ H)/\∀i m σ H,W i m σ H->
   ((vG K a).stop i H/\D.nx σ H)\/((vG K a).go i H/\∃N:St->Hp->Prop,(∀σ' H',N σ' H'->∃M,M<m/\W (i+1) M σ' H')/\∀x H',(vG K a).m8 i H x H'->g x σ H' λσ2 j=>tb {D with nx:=N,ct:=N,bk:=D.nx} σ2 j):=by
 refine í;rintro i m σ H ⟨rfl,hi,p⟩;let q:=S i σ H hi p;by_cases F:i<xs.length
 .apply .inr ⟨⟨xs,xs[i],q,by simp[F]⟩,Pv (i+1),λσ' H' U=>⟨xs.length-(i+1),by omega,rfl,F,U⟩,λx H' y=>?_⟩;let(T,z,G,I,J,O):=y;subst G J;exact hs i z T σ _ (O xs q) p I
 .let e:i=xs.length:=by omega
  subst e;exact .inl ⟨⟨xs,q,bJ _⟩,hd σ H p⟩
def Rx{K:FR}{a:Addr}{xs:au}{g:TG}{tb:TS}{D:Ends}{σ:St}{H:Hp}(Pv:Nat->St->Hp->Prop)(h0:Pv 0 σ H)(S:∀i σ H,i<=xs.length->Pv i σ H->Ť a xs)(hs:∀i x T σ H,xs[i]? =some x->Pv i σ H->H T=none->g ũ σ (ϛ (.tup [.int (i:Nat),x])) λσ2 j=>tb {D with nx:=Pv (i+1),ct:=Pv (i+1),bk:=D.nx} σ2 j) (hd:∀σ H,Pv xs.length σ H->D.nx σ H):
  ∃W:Nat->Nat->St->Hp->Prop,(∃m,W 0 m σ H)/\∀i m σ H,W i m σ H->
   ((Bo K a).stop i H/\D.nx σ H)\/((Bo K a).go i H/\∃N:St->Hp->Prop,(∀σ' H',N σ' H'->∃M,M<m/\W (i+1) M σ' H')/\∀x H',(Bo K a).m8 i H x H'->g x σ H' λσ2 j=>tb {D with nx:=N,ct:=N,bk:=D.nx} σ2 j):=by
 refine í;rintro i m σ H ⟨rfl,hi,p⟩;let q:=S i σ H hi p;by_cases F:i<xs.length
 .apply .inr ⟨⟨xs,xs[i],q,by simp[F]⟩,Pv (i+1),λσ' H' U=>⟨xs.length-(i+1),by omega,rfl,F,U⟩,λx H' y=>?_⟩;let(T,z,G,I,J,O):=y;subst G J;exact hs i z T σ _ (O xs q) p I
 .let e:i=xs.length:=by omega
  subst e;exact .inl ⟨⟨xs,q,Á⟩,hd σ H p⟩
def ac1{x:Str}{g:TG}{tt:TT}{te:TE}{vs:LN}{σ:St}{H1:Hp}{D:Addr}{Qd:Hp->Prop}(j:Nat->Hp->Prop)(I:j 0 Ċ)(hs:∀i c H,x.cps[i]? =some c->j i H->g (.str ⟨#[c]⟩) ķ H λσ2 F=>wipe σ2 vs=wipe σ vs/\tt σ2 F λb z=>
   if b=true then te σ2 z (jN D (j (i+1))) else j (i+1) z) (hd:∀H,j x.cps.size H->Qd H):
  ∃W:Nat->Nat->Hp->Prop,(∃m,W 0 m Ċ)/\∀i m H,W i m H->
   ((Be x).stop i H/\Qd H)\/((Be x).go i H/\∃Nx:Hp->Prop,(∀H',Nx H'->∃M,M<m/\W (i+1) M H')/\∀y H',(Be x).m8 i H y H'->g y ķ H' λσ2 F=>wipe σ2 vs=wipe σ vs/\tt σ2 F λb z=>
    if b=true then te σ2 z Åt else Nx z):=by
 apply(λi m H=>m=x.cps.size-i/\i<=x.cps.size/\j i H,⟨x.cps.size,by simp,dY _,I⟩,?_);rintro i m H ⟨rfl,hi,p⟩;by_cases G:i<x.cps.size
 .apply .inr ⟨G,j (i+1),λH' J=>⟨x.cps.size-(i+1),by omega,rfl,G,J⟩,λy H' q=>?_⟩;let(e,c,O,S):=q;symm
 .let e:i=x.cps.size:=by omega
  subst e;exact .inl ⟨bJ _,hd H p⟩
section
variable{X:Cx}
def Ry{E:XK}{i:Nat}{y:Str}{py:Pos}{j6 tg iter:Expr}{ju:List Expr}{scope:Scope}{own:List (Str×Nat)}{pos vC:Pos}{wi:TI}{g:TG}{tt:TT}{te:TE}(hc:X.calm=true)(ow:X.Ed)(hN:X.N.Nodup)(hy:X.N[i]? =some y)(sj:X.env.scope.names.lookup y=some .local)(A8:swapsWith à (some (.Name y py)) vC.line X.env=pure true) (hi:PI (X.xt E) tg iter wi) (ok:Ī own)(hg:∀(s:Sh)(H:Hp)(C:Addr)(cl:eV)(fp:LA),PG Ð tg g) (ht:∀(s:Sh)(H:Hp)(C:Addr)(cl:eV)(fp:LA),xl Ð ju tt)(he:∀(s:Sh)(H:Hp)(C:Addr)(cl:eV)(fp:LA),PE ((X.gj s H scope Àr fp).xt E) j6 te) (hs:∀x,foldedSetIterable iter X.env x=pure x:=by intro _;rfl):
  PS (X.xt E) (.Assign [.Name y py] à vC) (yG (A7 wi g tt te (own.map (·.2))) (pH i)):=by
 apply QR (Ex:=y6 X E) (Eb:=λB=>y6 B E) hc hN hy sj A8 hi ok hg ht he hs λ{use Qf}pins σ S H3 cl fp D e oB Z J hz=>?_;generalize kU:compEnvC scope cl S.heap.objs.size X.env=ce at hz;let cL:ce.locals=S.heap.objs.size:=by subst kU;rfl
 let(xa,xC,od,H0,Hx,σx,rfl,Ix,fx,i5,hE):=hz;apply Ea (X:=X.gj S H3 scope ce fp) (en:=ce) ow.1 ow.2 (by rw[<-kU];exact ow.2) Z.ok.frames Ix fx λj I G Rz=>?_;let(m,O,_):=id G.loc;let O:=O;rw[cL] at O;let nC:I S.heap.objs.size=none:=by
  let z:=G.free;rw[cL] at z;exact z
 let gO:∃m,j.heap.Ns S.heap.objs.size m/\∀h',Heap.SameBut S.heap.objs.size j.heap h'->∀M:Env,M.locals=S.heap.objs.size->wpAny È X.A (passOn "comprehension.variables-let-go" (.ref xa) M:Sem Value) Ãx (y6 X E) {j with heap:=h'}:=by
  apply(m,O,λh' sb M _=>?_);let W:Ã I j:=Z.vi (ch:=fp) G.os G.base G.ax G.bare λb F=>⟨(J b F).1.2.2.2.1,(J b F).1.2.1,(J b F).1.2.2.2.2.1,(J b F).1.2.2.2.2.2⟩;let(g0,g1,g2,g3,g4,g5):=Z.vp (H':=I) (bJ _) nC;let RA:Ã I {j with heap:=h',toks:=j.toks}:=W.turned (t':=j.toks) (λb o F e=>(sb.2 b F).trans e) g0 g1 g3 g4 g5;let(T',Bn,_):=id Rz;let(o',ge',q1',q2',vI,q3',q4'):=pO RA.ax Bn;delta PySem.passOn;apply aP (u9 ge' q3' q4' ?_);rw[ah (show ¬(Value.ref T'==Value.none)=true from d9)];apply aP (Bm M.frame RA Rz λoE U Y f14=>wpAny_throw ?_);exact(xa,xC,od,H0,U,σ,Á,Y.IQ,f14.at_,i5,hE)
 cases use <;> exact gO
end
end L2
end
section
namespace L2
open PySem PySem.Spec PyProof.Rows
theorem xw:∀xs ys:LI,PyData.eqvAll Ϟ (ys.map PyData.int)=decide (xs=ys)
 |[],[]=>by simp[PyData.eqvAll]
 |[],y::ys=>by simp[PyData.eqvAll]
 |x::xs,[]=>by simp[PyData.eqvAll]
 |x::xs,y::ys=>by
  simp only[a0,PyData.eqvAll,PyData.eqv,xw xs ys];by_cases h:x=y
  .subst h;simp
  .simp[h]
theorem RB:∀xs:LI,PyData.canLayAll0 Ϟ=true:=by
 intro xs;induction xs with
 |nil=>exact Á
 |cons x xs I=>
  simp only[a0,PyData.canLayAll0,PyData.canLay0,I,O0]
theorem RC:∀xs:LI,PyData.depthAll Ϟ<=1:=by
 intro xs;induction xs with
 |nil=>
  simp[PyData.depthAll]
 |cons x xs I=>
  let:=I;simp only[a0,PyData.depthAll,PyData.depth];omega
def shaped_ints(xs:LI):SeqAt.shaped (.list Ϟ)=true:=by
 delta SeqAt.shaped;rw[jw,og];apply(RB xs,?_);let:=RC xs;simp only[PyData.depth];omega
theorem qR{K:FR}{H:Hp}:∀xs:LI,i3 K H Èa Ϟ:=by
 intro xs;induction xs with
 |nil=>exact .nil
 |cons x xs I=>
  exact .cons (.int x) I
inductive ac9(K:FR)(x:V)(y:V)(H:Hp)(Q:VK):Prop
 |mk (a b:Addr) (xs ys:LI) (_:x=.ref a) (_:y=.ref b) (_:â a Èa) (_:â b (ys.map V.int)) (_:Q (.bl (decide (xs=ys))) H)
inductive ada(K:FR)(x:V)(y:V)(H:Hp)(Q:VK):Prop
 |mk (a b:Addr) (xs ys:LI) (_:x=.ref a) (_:y=.ref b) (_:â a Èa) (_:â b (ys.map V.int)) (_:Q (.bl (!decide (xs=ys))) H)
section
def adb(F:X.A.units+64<cLine):eS X Áh (ac9 X.K):=by
 intro pins s σ H x y v u Q I G J ⟨a,b,xs,ys,j,m,z,h2,q⟩;subst j m;apply QF F pins s σ H _ _ v u Q I G J ⟨_,_,.lst z (qR xs),.lst h2 (qR ys),shaped_ints _,shaped_ints _,?_⟩;show Q (.bl (PyData.eqvAll _ _)) H;rw[xw];exact q
def RD(F:X.A.units+64<cLine):eS X Áp (ada X.K):=by
 intro pins s σ H x y v u Q I G J ⟨a,b,xs,ys,j,m,z,h2,q⟩;subst j m;apply Iq F pins s σ H _ _ v u Q I G J ⟨_,_,.lst z (qR xs),.lst h2 (qR ys),shaped_ints _,shaped_ints _,?_⟩;show Q (.bl (!PyData.eqvAll _ _)) H;rw[xw];exact q
inductive RE(K:FR)(x:V)(y:V)(H:Hp)(Q:VK):Prop
 |mk (a b xs:_) (_:x=.ref a) (_:y=.ref b) (_:â a xs) (_:â b []) (_:Q (.bl xs.isEmpty) H)
inductive ade(K:FR)(x:V)(y:V)(H:Hp)(Q:VK):Prop
 |mk (a b xs:_) (_:x=.ref a) (_:y=.ref b) (_:â a xs) (_:â b []) (_:Q (.bl (!xs.isEmpty)) H)
def RF(r:bc xs aj)(j:bc [] its')(h:xs≠[]):(aj.toArray.size !=its'.toArray.size)=true:=by
 cases j;let:=r.length;grind
def xx(Y:X.A.units+64<cLine):eS X Áh (RE X.K):=by
 intro pins s σ H x y v u Q I z F ⟨a,b,xs,S,U,j,h2,q⟩;subst S U;by_cases m:xs=[]
 .subst m;apply QF Y pins s σ H _ _ v u Q I z F ⟨_,_,.lst j .nil,.lst h2 .nil,by rfl,by rfl,?_⟩;exact q
 .cases z;cases F;let(aj,r1,(o1,Z,W,G,_,M),_):=I.list j;let(its',r2,(o2,n2,g2,J,_,O),_):=I.list h2;apply SeqAt.eq_list_lengthsAt ⟨o1,W,G,Z,M⟩ ⟨o2,g2,J,n2,O⟩ (RF r1 r2 m) Æ ⟨.bl false,H,I,Á,?_⟩;grind
def Br(hu:X.A.units+64<cLine):eS X Áp (ade X.K):=by
 intro pins s σ H x y v u Q I S U ⟨a,b,xs,Y,Z,M,h2,q⟩;subst Y Z;by_cases O:xs=[]
 .subst O;apply Iq hu pins s σ H _ _ v u Q I S U ⟨_,_,.lst M .nil,.lst h2 .nil,by rfl,by rfl,?_⟩;exact q
 .cases S;cases U;let(W,r1,(o1,n1,J,j,_,z),_):=I.list M;let(its',r2,(o2,n2,g2,m,_,G),_):=I.list h2;let(cls,dd,data,sl):=o1;let(Qc,lZ,data2,ni):=o2;simp only at j z m G;subst j z m G;refine OO (op:=.NotEq) ⟨_,J,Á⟩ ⟨_,g2,Á⟩ F.slot_list_ne F.entry_list_ne (F.args_list_ne_2 _ _) (SeqAt.list_ne_lengthsAt a b W.toArray its'.toArray n1 n2 dd lZ sl ni (RF r1 r2 O))
   ⟨J,g2,(λx=>nomatch x),⟨.bl true,H,I,rfl,?_⟩⟩ Æ
  grind
end
end L2
end
section
namespace L2
open PySem PySem.Spec PyProof.Rows PySem.XL
theorem adf(x:Àt o):∃O,h.get? a=some O:=by
 cases o with
 |lst xs=>let(_,_,_,_,e):=x;exact(_,e)
 |tup xs=>let(_,_,_,O,e,_):=x;exact(O,e)
 |dK kvs=>let(_,_,_,_,o,_,_,e,_):=x;exact(o,e)
 |dT kvs=>let(_,_,_,_,o,_,_,e,_):=x;exact(o,e)
 |set S n=>let(o,_,_,_,e,_):=x;exact(o,e)
 |ins C dx fs=>let(_,_,_,e,_):=x;exact(_,e)
 |own y=>let(O,e):=x;exact(O,e)
 |xd fs=>let(_,(O,_,_,e,_),_):=x;exact(O,e)
 |rS lo hi=>let(_,_,_,e):=x;exact(_,e)
 |cu O u=>let(e,_):=x;exact(O,e)
 |gG ps=>exact(_,x)
 |met f y=>exact(_,x)
 |ext φ=>let(_,(O,e),_):=x;exact(O,e)
section
def adg(C:Addr):TE:=λ_ H Q=>∀x,H x=none->Q ŝ (Áe ő)
def ny(c:XC X.K C N)(Z:PySem.W.nsIn X.K N "__init__"=some none)(kp:PySem.W.keepIn X.K Ā=true)(S:Gl X x)(U:X.mg x=some Ā)(Y:(x==("__debug__":Str))=false:=by decide):
  PE X (.Call Ž [] [] pos) (adg C):=by
 show Õ;apply wM (vj I S U ?_ Y);apply PySem.W.callWith_K0 I.fu kp ?_;let(nm,q,bs,sn,sub,ab,col,dd,k0,k1,k2,k3,k5,cls):=c.obj;let(J,M,_):=cls s.heap I.fu;let wU:=PySem.W.nsMap_none_of_in I.fu (IS c) Z;let j:=I;let(hh,g,d,tk,os):=s;apply wpAny_call_exc_sub PySem.F.excBase_Exception J M wU (λh' e m=>?_) Ä;let(t,O,_):=m.there;let ne:H e=none:=by
  cases z:H e with
  |none=>rfl
  |some u=>
   let(o,eo):=adf (j.ax e u z);let nn:=m.new;symm
 apply(.ref e,_,j.Ee (h2:=h') (t2:=tk) [e] (λb G=>?_) č Ϻ (λb o G g=>m.keeps b o g) (λb hb o g=>⟨_,m.keeps b o g⟩),Á,h e ne)
 .let:b≠e:=by simpa using G
  rw[ao this]
 .let:b=e:=by simpa using hb
  subst this;exact .inl ⟨ne,m.new⟩
 .let:b=e:=by simpa using hb
  subst this;rw[aq] at hu;cases hu;exact su O ⟨Á,Á,_,Á,Á⟩
end
section
def Dp.inj{pins:bG}{σ:St}{H:Hp}{s:Sh}(I:Ã H s){d d':PyData}{v:V}(h:Dp X.K H v d):Dp X.K H v d'->d=d':=by
 let no:∀{a xs ys},Àu a xs->bu X.K H a ys->False:=λj S=>by
  let(_,_,(o1,n1,W,M,_,_),_):=I.list j;let(_,_,(o2,g2,G,_,_),_):=I.tuple S;rw[W] at g2;cases g2;rw[M] at G;exact absurd G Ê
 refine Dp.rec (motive_1:=λv d _=>∀d',Dp X.K H v d'->d=d') (motive_2:=λvs U _=>∀F,i3 X.K H vs F->U=F)
  (λd' h=>by cases h;rfl) (λb d' h=>by cases h;rfl) (λi d' h=>by cases h;rfl) (λx d' h=>by cases h;rfl) (λj J z d' h=>?_) (λj J z d' h=>?_) (λd' h=>by cases h;rfl) (λ_ _ Y Z d' h=>?_) h d'
 .cases h with
  |lst S m=>
   let e:=I.AM j S;subst e;rw[z _ m]
  |tup S m=>exact(no j S).elim
 .cases h with
  |tup S m=>
   let e:=I.Pz j S;subst e;rw[z _ m]
  |lst S m=>exact(no S j).elim
 .cases h with
  |cons O r2=>rw[Y _ O,Z _ r2]
def dataOf:List (Value×PyData)->Value->PyData
 |[],_=>.none
 |(u,d)::r,x=>if u=x then d else dataOf r x
inductive RH(K:FR)(x:V)(y:V)(H:Hp)(Q:VK):Prop
 |mk (p:Addr) (xs:au) (ds:List PyData) (dx:PyData) (_:y=.ref p) (_:â p xs) (_:i3 K H xs ds) (_:Dp K H x dx) (_:(∀d∈ds,SeqAt.shaped d=true)) (_:SeqAt.shaped dx=true) (_:Q (.bl (ds.any λd=>PyData.eqv d dx)) H)
def RI{pins:bG}{σ:St}{H:Hp}{s:Sh}(I:Ã H s){xs:au}:∀{j:List PyData}{U:LV},i3 X.K H xs j->bc xs U->
  ∀(i:Nat)(u:Value)(d:PyData),U[i]? =some u->j[i]? =some d->dataOf (U.zip j) u=d/\∃v,Dp X.K H v d/\RelV v u:=by
 induction xs with
 |nil=>
  intro j U hd m i u d h _;cases m;simp at h
 |cons x xs S=>
  intro j U hd m i u d F h2;cases hd with
  | @cons _ _ e j d1 r1=>
  cases m with
  | @cons _ w _ U v1 r2=>
  show(if w=u then e else dataOf (U.zip j) u)=d/\_;cases i with
  |zero=>
   let M:=aN F;let O:=aN h2;subst M O;exact(af Á,x,d1,v1)
  |succ i=>
   let(W,v,G,J):=S r1 r2 i u d F h2;apply(?_,v,G,J);by_cases z:w=u
   .subst z;rw[af rfl];let:x=v:=v1.inj J;subst this;exact Dp.inj I d1 G
   .rw[ah z];exact W
theorem RJ{K:FR}{H:Hp}{xs:au}:∀{j:List PyData},i3 K H xs j->xs.length=j.length:=by
 induction xs with
 |nil=>intro j h;cases h;rfl
 |cons x xs I=>
  intro j h;cases h with
  |cons _ r=>rw[c7,c7,I r]
theorem adh{α β:Type}{f:α->Bool}{g:β->Bool}{xs:List α}:∀{ys:List β},xs.length=ys.length->(∀(i:Nat)x y,xs[i]? =some x->ys[i]? =some y->f x=g y)->xs.any f=ys.any g:=by
 induction xs with
 |nil=>
  intro ys h _;cases ys with
  |nil=>rfl
  |cons _ _=>simp at h
 |cons x xs I=>
  intro ys h k;cases ys with
  |nil=>simp at h
  |cons y ys=>rw[t7,t7,k 0 x y rfl rfl,I (À h) λi a b j h2=>k (i+1) a b j h2]
def IV(hu:X.A.units+128<cLine):eS X (compareOp .In) (RH X.K):=by
 intro pins s σ H x y v u Q I W Y ⟨p,xs,ds,dx,z,hs,hd,J,sd,Z,q⟩;subst z;cases Y;let(aj,r,pl,hz):=I.list hs;let(as,m):=Dp.reads I dx x v J W;let F:aj.length=ds.length:=by rw[<-r.length,RJ hd]
 apply SeqAt.in_listAt Ś pl.isList (λw G=>?_) ⟨.bl _,H,I,Á,?_⟩
 .let(i,hi,e):=rN (show w∈aj by simpa using G);let j:aj[i]? =some w:=by rw[dm hi,e]
  let h2:ds[i]? =some ds[i]:=dm Æ;let(M,v',O,S):=RI I hd r i w _ j h2;rw[M];let(bs,U):=Dp.reads I _ v' w O S;let sh:=sd _ (bZ h2);apply SeqAt.eqAt_reads _ dx X.A.in1 s w v bs as U m (O1 sh) (O1 Z) ?_;let:=SeqAt.depth_of_shaped sh;show X.A.units+1+_<_;omega
 .rw[show aj.toArray.any Ś=aj.any Ś by simp];rw[adh (g:=λd=>PyData.eqv d dx) F λi a b j h2=>by rw[(RI I hd r i a b j h2).1]];exact q
end
end L2
end
section
namespace L2
open PySem PySem.Spec PyProof.Rows
def bj{K:FR}{H:Hp}{a C dx:Addr}{fs:List (Str×V)}{f:Str}{v:V}{Q:V->Prop}(h:H a=some Ϙ)(c:kO K C)(n:ϧ f)(l:fs.lookup f=some v)(q:Q v):∃z j m yL F,V.ref a=.ref z/\H z=some (.ins j m yL)/\kO K j/\gB K j f/\yL.lookup f=some F/\Q F:=⟨a,C,dx,fs,v,rfl,h,c,n,l,q⟩
def cw{N P:LS}{S:Scope}(k:S.kind=.function:=by rfl)(h:S.isCoroutine=false/\S.isGenerator=false/\N.Nodup/\N.take P.length=P/\(∀x∈P,S.names.lookup x=some .local\/S.names.lookup x=some .cell)/\∀y∈S.names,y.2≠ .free:=by decide+kernel):bH N P S:=⟨k,h.1,h.2.1,h.2.2.1,h.2.2.2.1,h.2.2.2.2.1,h.2.2.2.2.2⟩
abbrev jl:=List (Addr×HO)
def aU(H:Hp)(ns:jl):Prop:=∀x∈ns,H x.1=some x.2
def aU.same(h:aU H ns)(s:ai H H'):aU H' ns:=λx j=>s _ _ (h x j)
def aU.upd(h:aU H ns)(n:∀x∈ns,x.1≠D):aU (upd H D o) ns:=λx j=>by rw[ao (n x j)];exact h x j
def aU.nil:aU H []:=λx j=>absurd j Ä
def IW(Z:Nat->V->jl->Prop)(H:Hp)(ys:au):Prop:=∀i y,ys[i]? =some y->∃ns,Z i y ns/\aU H ns
def za(D:Addr)(Z:Nat->V->jl->Prop)(H:Hp)(ys:au):Prop:=∀i y,ys[i]? =some y->∃ns,Z i y ns/\aU H ns/\∀x∈ns,x.1≠D
def za.fill(h:za D Z H ys):IW Z H ys:=λi y e=>let ⟨ns,a,b,_⟩:=h i y e;⟨ns,a,b⟩
def za.snoc{D:Addr}{Z:Nat->V->jl->Prop}{H j:Hp}{ys:au}{y:V}{o:HO}{ns:jl}(h:za D Z H ys)(s:ai H j)(z:Z ys.length y ns)(l:aU j ns)(n:∀x∈ns,x.1≠D):za D Z (upd j D o) (ys++[y]):=λi v e=>by
 by_cases hi:i<ys.length
 .rw[G2 hi] at e;let(F,a,b,c):=h i v e;exact(F,a,(b.same s).upd c,c)
 .rw[ON Æ] at e;let m:i-ys.length=0:=by
   cases z:i-ys.length with
   |zero=>rfl
   |succ k=>rw[z] at e;simp at e
  rw[m] at e;let:y=v:=À e
  subst this;let:i=ys.length:=by omega
  subst this;exact(ns,z,l.upd n,n)
def qS(s:ai H H1)(h:H p=none):ai H (L2.upd H1 p o):=λb u e=>by rw[ao (eK e h)];exact s b u e
section
variable{K:FR}{g:TG}{tt:TT}{te:TE}{vs:LN}{σ:St}{H1:Hp}{D:Addr}{Qd:Hp->Prop}
def cy(H1:Hp)(D:Addr)(Z:Nat->V->jl->Prop)(i:Nat)(H:Hp):Prop:=∃ys,ai H1 H/\H D=some Âg/\ys.length=i/\za D Z H ys
def cy.zero(j:H1 D=none):cy H1 D Z 0 Ċ:=⟨[],qS (λ_ _ e=>e) j,aq,rfl,λi y e=>by simp at e⟩
def cy.step(j:H1 D=none)(hi:i<1000000)(f:cy H1 D Z i H)(s:ai H H4)(z:Z i y ns)(l:aU H4 ns)(n:∀x∈ns,x.1≠D):
  jN D (cy H1 D Z (i+1)) y H4:=by
 let(ys,S,hd,m,fd):=f;subst m;refine⟨ys,s _ _ hd,iq hi (by rw[va];decide),ys++[y],qS (S.trans s) j,aq,by simp,fd.snoc s z l n⟩
def cy.same(f:cy H1 D Z i H):ai H1 H:=let ⟨_,s,_⟩:=f;s
def cy.has(f:cy H1 D Z i H):H D≠none:=let ⟨_,_,e,_⟩:=f;by rw[e];simp
def cy.end(f:cy H1 D Z i H):∃ys,ai H1 H/\H D=some Âg/\ys.length=i/\IW Z H ys:=let ⟨ys,a,b,c,d⟩:=f;⟨ys,a,b,c,d.fill⟩
def lI{a:Addr}{xs:au}(j:Nat->Hp->Prop)(Y:j 0 Ċ)(Z:∀i H,i<=xs.length->j i H->â a xs)(hs:∀i x T H,xs[i]? =some x->j i H->H T=none->g ũ ķ (ϛ (.tup [.int (i:Nat),x])) λσ2 G=>wipe σ2 vs=wipe σ vs/\tt σ2 G λb F=>
   if b=true then te σ2 F (jN D (j (i+1))) else j (i+1) F) (hd:∀H,j xs.length H->Qd H):
  ∃W:Nat->Nat->Hp->Prop,(∃m,W 0 m Ċ)/\∀i m H,W i m H->
   ((vG K a).stop i H/\Qd H)\/((vG K a).go i H/\∃Nx:Hp->Prop,(∀H',Nx H'->∃M,M<m/\W (i+1) M H')/\∀x H',(vG K a).m8 i H x H'->g x ķ H' λσ2 G=>wipe σ2 vs=wipe σ vs/\tt σ2 G λb F=>
    if b=true then te σ2 F Åt else Nx F):=by
 apply(λi m H=>m=xs.length-i/\i<=xs.length/\j i H,⟨xs.length,by simp,dY _,Y⟩,?_);rintro i m H ⟨rfl,hi,p⟩;let q:=Z i H hi p;by_cases I:i<xs.length
 .apply .inr ⟨⟨xs,xs[i],q,by simp[I]⟩,j (i+1),λH' p'=>⟨xs.length-(i+1),by omega,rfl,I,p'⟩,λx H' y=>?_⟩;let(T,z,J,O,S,U):=y;subst J S;exact hs i z T _ (U xs q) p O
 .let e:i=xs.length:=by omega
  subst e;exact .inl ⟨⟨xs,q,bJ _⟩,hd H p⟩
end
def and_val{z tB:TT}{σ:St}{H:Hp}{Q:Bool->Hp->Prop}(j m:Bool)(F:∀K:Bool->Hp->Prop,K j H->z σ H K)(G:j=true->∀K:Bool->Hp->Prop,K m H->tB σ H K)(h:Q (j&&m) H):Dz z tB σ H Q:=
 F _ (by
  cases j with
  |false=>exact h
  |true=>exact G Á _ h)
def or_val{z tB:TT}{σ:St}{H:Hp}{Q:Bool->Hp->Prop}(j m:Bool)(F:∀K:Bool->Hp->Prop,K j H->z σ H K)(G:j=false->∀K:Bool->Hp->Prop,K m H->tB σ H K)(h:Q (j||m) H):HH z tB σ H Q:=
 F _ (by
  cases j with
  |true=>exact h
  |false=>exact G Á _ h)
def RK{z tB:TE}{σ:St}{H:Hp}{Q:VK}(j m:Bool)(F:∀K:VK,K (.bl j) H->z σ H K)(G:j=false->∀K:VK,K (.bl m) H->tB σ H K)(h:Q (.bl (j||m)) H):HJ z tB σ H Q:=
 F _ ⟨j,rfl,by
  cases j with
  |true=>exact h
  |false=>exact G Á _ h⟩
def Ek(c:Bool)(v:V)(m:∀K:Bool->Hp->Prop,K c H->tA σ H K)(j:c=true->∀K:VK,K v H->ta σ H K)(h2:c=false->∀K:VK,K v H->tb σ H K)(h:Q v H):wX tA ta tb σ H Q:=
 m _ (by
  cases c with
  |true=>exact j Á _ h
  |false=>exact h2 Á _ h)
def RL{D}(c:Bool)(v:V)(m:∀K:Bool->Hp->Prop,K c H->tA σ H K)(j:c=true->∀K:VK,K v H->ta σ H K)(h2:c=false->∀K:VK,K v H->tb σ H K)(h:D.nx Ļ H):yG (wX tA ta tb) (pH i) D σ H:=
 Ek c v m j h2 h
def RM{i:Nat}{v:V}{σ:St}{H:Hp}{t u:TS}{D}(h:t {D with nx:=u D} Ļ H):pH i v σ H (HK t u D):=h
section
variable{K:FR}{g:TG}{tt:TT}{te:TE}{vs:LN}{σ:St}{H1:Hp}{D:Addr}{Qd:Hp->Prop}
def adj(j:Nat->Hp->Prop)(I:j 0 Ċ)(J:∀i H,i<=kvs.length->j i H->H d=some Ϥ)(hs:∀i k v T H,kvs[i]? =some (k,v)->j i H->H T=none->g ũ ķ (ϛ Çl) λσ2 F=>wipe σ2 vs=wipe σ vs/\tt σ2 F λb z=>
   if b=true then te σ2 z (jN D (j (i+1))) else j (i+1) z) (hd:∀H,j kvs.length H->Qd H):
  ∃W:Nat->Nat->Hp->Prop,(∃m,W 0 m Ċ)/\∀i m H,W i m H->
   ((vF d o kvs).stop i H/\Qd H)\/((vF d o kvs).go i H/\∃Nx:Hp->Prop,(∀H',Nx H'->∃M,M<m/\W (i+1) M H')/\∀x H',(vF d o kvs).m8 i H x H'->g x ķ H' λσ2 F=>wipe σ2 vs=wipe σ vs/\tt σ2 F λb z=>
    if b=true then te σ2 z Åt else Nx z):=by
 apply(λi m H=>m=kvs.length-i/\i<=kvs.length/\j i H,⟨kvs.length,by simp,dY _,I⟩,?_);rintro i m H ⟨rfl,hi,p⟩;let q:=J i H hi p;by_cases G:i<kvs.length
 .apply .inr ⟨⟨q,G⟩,j (i+1),λH' O=>⟨kvs.length-(i+1),by omega,rfl,G,O⟩,λx H' y=>?_⟩;let(T,k,v,S,U,Y,Z):=y;symm
 .let e:i=kvs.length:=by omega
  subst e;exact .inl ⟨⟨q,bJ _⟩,hd H p⟩
end
section
variable{K:FR}{g:TG}{tb:TS}{D:Ends}{σ:St}{H:Hp}
def adk{d:Addr}{o:Obj}{kvs:List (Key×V)}(j:Nat->St->Hp->Prop)(G:j 0 σ H)(I:∀i σ H,i<=kvs.length->j i σ H->H d=some Ϥ)(hs:∀i k v T σ H,kvs[i]? =some (k,v)->j i σ H->H T=none->g ũ σ (ϛ Çl) λσ2 z=>tb {D with nx:=j (i+1),ct:=j (i+1),bk:=D.nx} σ2 z) (hd:∀σ H,j kvs.length σ H->D.nx σ H):
  ∃W:Nat->Nat->St->Hp->Prop,(∃m,W 0 m σ H)/\∀i m σ H,W i m σ H->
   ((vF d o kvs).stop i H/\D.nx σ H)\/((vF d o kvs).go i H/\∃N:St->Hp->Prop,(∀σ' H',N σ' H'->∃M,M<m/\W (i+1) M σ' H')/\∀x H',(vF d o kvs).m8 i H x H'->g x σ H' λσ2 z=>tb {D with nx:=N,ct:=N,bk:=D.nx} σ2 z):=by
 apply(λi m σ H=>m=kvs.length-i/\i<=kvs.length/\j i σ H,⟨kvs.length,by simp,dY _,G⟩,?_);rintro i m σ H ⟨rfl,hi,p⟩;let q:=I i σ H hi p;by_cases F:i<kvs.length
 .apply .inr ⟨⟨q,F⟩,j (i+1),λσ' H' J=>⟨kvs.length-(i+1),by omega,rfl,F,J⟩,λx H' y=>?_⟩;let(T,k,v,O,S,U,Y):=y;symm
 .let e:i=kvs.length:=by omega
  subst e;exact .inl ⟨⟨q,bJ _⟩,hd σ H p⟩
def adl{d:Addr}{o:Obj}{kvs:List (Key×V)}(j:Nat->St->Hp->Prop)(G:j 0 σ H)(I:∀i σ H,i<=kvs.length->j i σ H->H d=some Ϥ)(hs:∀i k v σ H,kvs[i]? =some (k,v)->j i σ H->g v σ H λσ2 z=>tb {D with nx:=j (i+1),ct:=j (i+1),bk:=D.nx} σ2 z) (hd:∀σ H,j kvs.length σ H->D.nx σ H):
  ∃W:Nat->Nat->St->Hp->Prop,(∃m,W 0 m σ H)/\∀i m σ H,W i m σ H->
   ((Bf d o kvs).stop i H/\D.nx σ H)\/((Bf d o kvs).go i H/\∃N:St->Hp->Prop,(∀σ' H',N σ' H'->∃M,M<m/\W (i+1) M σ' H')/\∀x H',(Bf d o kvs).m8 i H x H'->g x σ H' λσ2 z=>tb {D with nx:=N,ct:=N,bk:=D.nx} σ2 z):=by
 apply(λi m σ H=>m=kvs.length-i/\i<=kvs.length/\j i σ H,⟨kvs.length,by simp,dY _,G⟩,?_);rintro i m σ H ⟨rfl,hi,p⟩;let q:=I i σ H hi p;by_cases F:i<kvs.length
 .apply .inr ⟨⟨q,F⟩,j (i+1),λσ' H' J=>⟨kvs.length-(i+1),by omega,rfl,F,J⟩,λx H' y=>?_⟩;let(O,k,S):=y;symm
 .let e:i=kvs.length:=by omega
  subst e;exact .inl ⟨⟨q,bJ _⟩,hd σ H p⟩
def RN{a b:Addr}{xs ys:au}(I:xs.length=ys.length)(Pv:Nat->St->Hp->Prop)(h0:Pv 0 σ H)(Z:∀i σ H,i<=xs.length->Pv i σ H->â a xs/\â b ys)(hs:∀i x y T σ H,xs[i]? =some x->ys[i]? =some y->Pv i σ H->H T=none->g ũ σ (ϛ Çb) λσ2 j=>tb {D with nx:=Pv (i+1),ct:=Pv (i+1),bk:=D.nx} σ2 j) (hd:∀σ H,Pv xs.length σ H->D.nx σ H):
  ∃W:Nat->Nat->St->Hp->Prop,(∃m,W 0 m σ H)/\∀i m σ H,W i m σ H->
   ((Bk K a b).stop i H/\D.nx σ H)\/((Bk K a b).go i H/\∃N:St->Hp->Prop,(∀σ' H',N σ' H'->∃M,M<m/\W (i+1) M σ' H')/\∀x H',(Bk K a b).m8 i H x H'->g x σ H' λσ2 j=>tb {D with nx:=N,ct:=N,bk:=D.nx} σ2 j):=by
 refine í;rintro i m σ H ⟨rfl,hi,p⟩;let(F,G):=Z i σ H hi p;by_cases z:i<xs.length
 .apply .inr ⟨⟨xs,ys,xs[i],ys[i],F,G,by simp[z],by simp[<-I,z]⟩,Pv (i+1),λσ' H' p'=>⟨xs.length-(i+1),by omega,rfl,z,p'⟩,λx H' y=>?_⟩;let(T,x1,y1,J,O,S,U,Y):=y;subst J S;exact hs i x1 y1 T σ _ (U xs F) (Y ys G) p O
 .let e:i=xs.length:=by omega
  subst e;exact .inl ⟨⟨xs,ys,F,G,.inl (bJ _)⟩,hd σ H p⟩
end
section
variable{β:Type}(g:β->V)
def bx(t:List (Nat×β)):List (Key×V):=t.map λp=>((Sum.inl ((p.1:Nat):Int):Key),g p.2)
def bY(t:List (Nat×β))(s:Nat):Option β:=(t.find? λp=>decide (p.1=s)).map (·.2)
def eA(t:List (Nat×β))(s:Nat)(v:β):List (Nat×β):=if (t.any λp=>decide (p.1=s))=true then t.map (λp=>if p.1=s then (p.1,v) else p) else t++[(s,v)]
def RO(a b:Nat):decide ((Sum.inl ((a:Nat):Int):Key)=Sum.inl ((b:Nat):Int))=decide (a=b):=by
 grind
theorem zb(t:List (Nat×β)):∀(s:Nat),fW (bx g t) (Sum.inl ((s:Nat):Int))=(bY t s).map g:=by
 induction t with
 |nil=>exact @λs=>Á
 |cons p t I=>
  intro s;let I:=I s;delta bx bY fW at I⊢;rw[a0,ko,ko];rw[RO];cases decide (p.1=s) with
  |true=>rfl
  |false=>exact I
def adm(t:List (Nat×β))(s:Nat):((bx g t).any λkv=>decide (kv.1=Sum.inl ((s:Nat):Int)))=t.any λp=>decide (p.1=s):=by
 delta bx;rw[OR];congr 1;funext p;exact RO p.1 s
def Bs(t:List (Nat×β))(s:Nat)(v:β):putK (bx g t) (Sum.inl ((s:Nat):Int)) (g v)=bx g (eA t s v):=by
 delta putK eA;rw[adm];split
 .delta bx;rw[cQ,cQ];apply kq λp _=>?_;grind
 .delta bx;simp
def xy(t:List (Nat×β)):(bx g t).length=t.length:=by delta bx;rw[aA]
theorem IX{t:List (Nat×β)}{i:Nat}{k:Key}{v:V}(h:(bx g t)[i]? =some (k,v)):∃s b,t[i]? =some (s,b)/\k=Sum.inl ((s:Nat):Int)/\v=g b:=by
 delta bx at h;rw[bW] at h;cases e:t[i]? with
 |none=>rw[e] at h;cases h
 |some p=>
  rw[e] at h;let h:=aN h;apply(p.1,p.2,Á,?_,?_)
  .exact(cE Prod.fst h).symm
  .exact(cE Prod.snd h).symm
theorem pP(t:List (Nat×β))(s:Nat):(t.any λp=>decide (p.1=s))=(bY t s).isSome:=by
 induction t with
 |nil=>rfl
 |cons p t I=>
  delta bY at I⊢;rw[t7,ko];cases e:decide (p.1=s) with
  |true=>rfl
  |false=>rw[OW];exact I
theorem El(s j:Nat)(v:β):∀t:List (Nat×β),bY (t.map λp=>if p.1=s then (p.1,v) else p) j=(bY t j).map λx=>if j=s then v else x:=by
 intro t;induction t with
 |nil=>exact Á
 |cons p t I=>
  let I:=I;delta bY at I⊢;rw[a0,ko,ko];let m:(if p.1=s then (p.1,v) else p).1=p.1:=by split <;> rfl
  rw[m];cases e:decide (p.1=j) with
  |false=>exact I
  |true=>
   let e:=rO e;show some ((if p.1=s then (p.1,v) else p).2)=some (if j=s then v else p.2);rw[<-e];by_cases h:p.1=s
   .rw[af h,af h]
   .rw[ah h,ah h]
theorem adn(t:List (Nat×β))(s j:Nat)(v:β)(h:bY t s=none):bY (t++[(s,v)]) j=if j=s then some v else bY t j:=by
 induction t with
 |nil=>
  show((([(s,v)]:List (Nat×β)).find? λp=>decide (p.1=j)).map (·.2))=_;rw[ko];by_cases e:s=j
  .dsimp only;rw[eJ e,af e.symm];rfl
  .dsimp only;rw[fQ e,ah λz=>e z.symm];rfl
 |cons p t I=>
  delta bY at I h⊢;rw[ko] at h;rw[List.cons_append,ko,ko];cases es:decide (p.1=s) with
  |true=>rw[es] at h;cases h
  |false=>
   rw[es] at h;cases m:decide (p.1=j) with
   |false=>exact I h
   |true=>
    let m:=rO m;let es:=aps es;rw[ah λz=>es (m.trans z)]
theorem Em(t:List (Nat×β))(s j:Nat)(v:β):bY (eA t s v) j=if j=s then some v else bY t j:=by
 delta eA;rw[pP];cases e:bY t s with
 |none=>
  exact adn t s j v e
 |some x=>
  rw[af (show(some x).isSome=true from rfl),El];by_cases h:j=s
  .symm
  .symm
def RP(t:List (Nat×β))(s:Nat)(v:β):(eA t s v).length<=t.length+1:=by
 delta eA;grind
def RQ(t:List (Nat×β))(s:Nat)(v:β):(eA t s v).map (·.1)=if (bY t s).isSome=true then t.map (·.1) else t.map (·.1)++[s]:=by
 delta eA;rw[pP];split
 .rw[cQ];apply kq λp _=>?_;grind
 .simp
def ado{t:List (Nat×β)}{s:Nat}(h:bY t s=none):s∉t.map (·.1):=by
 intro m;let(p,j,e):=cf.mp m;let q:(t.any λp=>decide (p.1=s))=true:=vc.mpr ⟨p,j,eJ e⟩;rw[pP,h] at q;cases q
theorem En{t:List (Nat×β)}{s:Nat}{v:β}(h:(t.map (·.1)).Nodup):((eA t s v).map (·.1)).Nodup:=by
 rw[RQ];cases e:bY t s with
 |some x=>exact h
 |none=>exact II h (ado e)
theorem zc{t:List (Nat×β)}(h:(t.map (·.1)).Nodup){s:Nat}{v:β}(j:(s,v)∈t):bY t s=some v:=by
 induction t with
 |nil=>symm
 |cons p t I=>
  rw[a0,j9] at h;delta bY at I⊢;grind
def xA(h:bY t s=some v):(s,v)∈t:=by
 delta bY at h;let(p,j,e):=yr.mp h;grind
theorem adp(g:β->V):∀(t j:List (Nat×β)),((j++t).map (·.1)).Nodup->uo (bx g j) (bx g t)=bx g (j++t):=by
 intro t;induction t with
 |nil=>
  intro j _;rw[jv];rfl
 |cons p t I=>
  intro j h;let h2:p.1∉j.map (·.1):=by
   rw[bX,a0] at h;let:=(O2.mp h).2.2;exact λm=>this _ m _ gy Á
  let e:bY j p.1=none:=by
   cases e:bY j p.1 with
   |none=>rfl
   |some x=>exact absurd (cf.mpr ⟨_,xA e,Á⟩) h2
  let I:=I (j++[p]) (by rw[rP];exact h);let ep:putK (bx g j) (Sum.inl ((p.1:Nat):Int)) (g p.2)=bx g (j++[p]):=by
   rw[Bs];delta eA;rw[pP,e];rfl
  show uo (putK (bx g j) (Sum.inl ((p.1:Nat):Int)) (g p.2)) (bx g t)=_;rw[ep,I,rP];rfl
end
section
variable{X:Cx}{pins:bG}{σ:St}{H:Hp}{s:Sh}{a:Addr}{kvs:List (Key×V)}{k:Key}{d:V}{u r:Value}{A:Around}{E:VP}
def adq(I:Ã H s)(e:H a=some ď)(hl:kvs.length<sizeLine)(ry:RelV (kV k) u)(Z:RelV d r)(G:∀v,fW kvs k=some v->∀W s',Ã H s'->RelV v W->Q W s')(h2:fW kvs k=none->∀s',Ã (ť (.dK (Ŋ d))) s'->Q r s'):wpAny È A (call (.builtin "dict.setdefault") [.ref a,u,r]) Q E s:=by
 let(z,hd,vs,m,dd):=DT I.ax e;let U:vs.length<=sizeLine:=by rw[<-m.length];exact z
 let Y:(Ŋ d).length<=sizeLine:=by let:=A9 kvs k d;omega
 apply Di PySem.F.slot_dict_setdefault dd.typeIs PySem.F.entry_dict_setdefault (PySem.F.args_dict_setdefault_3 _ _ _) (kt_meets_setdefault Ą a (vD ry) hd r) ⟨vs,dd,U,λv O=>?_,λM h' S hs=>?_⟩
 .let q:=m.val k;rw[O] at q;cases j:fW kvs k with
  |none=>rw[j] at q;exact q.elim
  |some y=>
   rw[j] at q;exact G y j v _ (I.tok _) q
 .let q:=m.val k;rw[M] at q;let j:fW kvs k=none:=by
   cases j:fW kvs k with
   |none=>rfl
   |some y=>rw[j] at q;exact q.elim
  apply h2 j _ ?_;let J:∃q,h'.get? a=some q:=let ⟨q,_,_,hq,_⟩:=S;⟨q,hq⟩;exact IB I (by rw[e];exact True.intro) hs J (QU Y hd (m.put k Z) S)
end
def ads(td G F:TE):TE:=λσ H Q=>td σ H λx H1=>∃a,x=.ref a/\DV H1 a/\G σ H1 λy m=>F σ m λz j=>∃kvs k,j a=some ď/\y=kV k/\kvs.length<sizeLine/\(∀v,fW kvs k=some v->Q v j)/\(fW kvs k=none->Q z (upd j a (.dK (Ŋ z))))
section
def adt(ho:PE X o td)(he:ϝ ty)(hf:PE X f tx)(m:M2 X o "setdefault" iT e f fV):PE X (.Call (.Attribute o "setdefault" iT) [e,f] [] fV) (ads td ty tx):=by
 show Õ;apply G8 m.base m.dc m.line PySem.F.plainAttrs_dict PySem.F.slot_dict_setdefault PySem.F.type_dict_setdefault (aK (ho pins s σ H _ I h) λu s1 ⟨x,H1,G,rx,a,ex,d,q1⟩=>?_);subst ex;obtain rfl:u=Value.ref a:=rx;let(t1,t2,_):=ID G d;refine Çy;rw[m.trees];refine G3 Á (OQ (Dc (aK (he pins s1 σ H1 _ G q1) λiv s2 ⟨y,M,S,ry,q2⟩=>
  Dc (aK (hf pins s2 σ M _ S q2) λfv s3 ⟨z,O,U,J,kvs,k,W,Z,hl,q3,q4⟩=>OM ?_))))
 subst Z;exact adq U W hl ry J (λv Y w' s4 j i0=>⟨_,O,j,i0,q3 v Y⟩) λen s4 j=>⟨_,_,j,J,q4 en⟩
end
section
variable{prog:Pg}{w:Wd}{Kt:Type}[DecidableEq Kt]
def adu(knd:KeyKind prog w Kt)(a b:Addr)(M:(a==sysModules)=false)(O:(b==sysModules)=false):
  MeetsIn prog w (Builtin.«dict.__eq__» ⟨[.ref a,.ref b],[]⟩) (λ_ R s=>∃vs:List (Kt×Value),s.heap.DictOf knd a vs/\s.heap.DictOf knd b []/\R (.ok (.ret (.bool vs.isEmpty))) s):=
 .of_wp λA R s ⟨vs,F,m,h⟩=>by
  show wpAny _ _ (Builtin.Dict.dictSlotArgs "__eq__" ⟨[.ref a,.ref b],[]⟩ >>= _) _ _ s;apply aP ?_;delta Builtin.Dict.dictSlotArgs;apply aP (wpAny_notOrdered_dict F.typeIs ?_);show wpAny _ _ (pure (Value.ref a,Value.ref b)) _ _ s;apply df ?_;apply aP (wpAny_isInstance (b:=true) m.typeIs Ô ?_);show wpAny _ _ (Builtin.Dict.samePairs "dict.__eq__" a b >>= _) _ _ s;let(o,es,ep,G,g2,z,Y,J,Z):=F;let(o2,j,W,k1,k2,k3,k4,k5,k6):=m;let S:es.size=vs.length:=by
   let:=J.length
   rwa [wJ] at this
  let U:j.size=0:=by
   let:=k5.length
   rwa [wJ] at this
  apply aP ?_;delta Builtin.Dict.samePairs;delta Builtin.Dict.showsAll;rw[ah (by rw[M];exact d9),ah (by rw[O];exact d9)];apply aP (df (aP (df (aP (wpAny_dictEntries G z ?_)))));dsimp only;apply aP (wpAny_dictEntries k1 k3 ?_);rw[S,U];cases vs with
  |nil=>
   rw[ah Ä];let fin:wpAny Ò A.in1 (pure true) (λa s'=>wpAny Ò A.in1 (ret (Value.bool (a==true))) (λfin s'=>∃v,fin=Fin.done (Flow.ret v)/\R (Except.ok (Flow.ret v)) s') (λe s'=>R (Except.error e) s') s') (λe s'=>R (Except.error e) s') s:=df (df ⟨_,rfl,h⟩);apply aP (wpAny_dictEpoch G z ?_);rw[show(([]:List (Kt×Value)).length)=0 from rfl];let I:∀(f:Nat->Option Bool×Unit->Sem (ForInStep (Option Bool×Unit))),(forIn [:0] ((none,()):Option Bool×Unit) f:Sem _)=pure (none,()):=λf=>by
    simp
   rw[I];exact aP (df fin)
  |cons p r=>
   rw[af Ä];exact aP (wpAny_rule (df (df ⟨_,Á,h⟩)))
end
section
inductive adw(x:V)(y:V)(H:Hp)(Q:VK):Prop
 |mk (a b kvs:_) (_:x=.ref a) (_:y=.ref b) (_:H a=some ď) (_:H b=some ϳ) (_:Q (.bl kvs.isEmpty) H)
def adx(hu:X.A.units+64<cLine):eS X Áh adw:=by
 intro pins s σ H x y v u Q I Y Z ⟨a,b,kvs,J,M,W,h2,q⟩;subst J M;cases Y;cases Z;let(z,hd,vs,U,dd):=DT I.ax W;let(z2,S,vs2,j,G):=DT I.ax h2;cases j;let O:vs.isEmpty=kvs.isEmpty:=by cases U <;> rfl
 show wpAny È X.A (richCompare .Eq Ĝ (.ref b)) _ _ s;let m:s.TypeIs Ĝ "dict":=dd.typeIs;let hc:wpAny È X.A (call (.builtin "dict.__eq__") [.ref a,.ref b]) (λv s'=>v≠ .notImplemented/\(ñ Q v s')) X.xe s:=
  Di PySem.F.slot_dict_eq m PySem.F.entry_dict_eq (PySem.F.args_dict_eq_2 _ _) (adu Ą a b hd S) ⟨vs,dd,G,(λz=>(by cases z)),.bl vs.isEmpty,H,I,rfl,by rw[O];exact q⟩
 exact wpAny_richCompare_same_room m G.typeIs PySem.F.slot_dict_eq hc Æ
end
theorem adA{α β:Type}{R:α->β->Prop}{m:List α}:∀{j:List β},m.length=j.length->(∀(i:Nat)(a:α)(b:β),m[i]? =some a->j[i]? =some b->R a b)->Paired R m j:=by
 induction m with
 |nil=>
  intro j z _;cases j with
  |nil=>exact .nil
  |cons _ _=>cases z
 |cons a m I=>
  intro j z h;cases j with
  |nil=>cases z
  |cons b j=>exact .cons (h 0 a b Á Á) (I (À z) λi x y F h2=>h (i+1) x y F h2)
section
def adB:lD X (.type "range") (λxs H Q=>∃n:Nat,xs=[.int ((n:Nat):Int)]/\∀p,H p=none->Q ģ (upd H p (.rS 0 n))):=by
 intro pins s σ H xs U Q I r h;let(n,rfl,q):=h;let(u,rfl,j):=vals1 r;let(t,rfl):=j;apply call_range_1 ?_;exact(.ref s.heap.objs.size,_,I.laid Åk (bJ _) (show ft X.prog X.w _ _ _ (.rS 0 ((n:Nat):Int)) from⟨_,_,_,ib _ rfl⟩),Á,q _ Ĩ)
def adC(hc:X.calm=true):lD X (.type "list") (λxs H Q=>∃(p:Addr)(n:Nat),xs=[.ref p]/\H p=some (.rS 0 ((n:Nat):Int))/\n<=1000000/\∀l,H l=none->Q Äw (Ϛ (.lst ((List.range n).map λi=>V.int ((i:Nat):Int))))):=by
 intro pins s σ H xs us Q I r h;let(p,n,rfl,O,Z,q):=h;let(u,rfl,W):=vals1 r;cases W;let(t,u,v,e):=(I.ax p _ O);apply call_list_range (n:=n) ć e (small_one Ù Ù Æ Æ) (by rw[rangeSize_one];split <;> omega) Æ λh' tk z J hk M F=>?_;let U:bc ((List.range n).map λi=>V.int ((i:Nat):Int)) z.toList:=by
  apply adA (by rw[aA,g7,wJ,F.1]) λi a b m h2=>?_;rw[X8] at h2;let(t',S):=F.2 i b h2;rw[bW] at m;cases er:Èl[i]? with
  |none=>symm
  |some j=>
   rw[er] at m;let(Y,G):=bO.mp er;rw[apu] at G;subst G;cases m;subst S;apply(t',?_);simp
 apply(.ref s.heap.objs.size,_,I.laid (t':=tk) hk (bJ _) (show ft X.prog X.w _ h' _ (.lst ((List.range n).map λi=>V.int ((i:Nat):Int))) from⟨?_,z.toList,J,U,M⟩),Á,q _ Ĩ);rw[aA,g7,va];omega
end
abbrev pQ:=dZ×Addr×Value
def IY(acc bI:List pQ):List pQ:=bI.foldl (λa q=>storedH a q.1 q.2.1 q.2.2) acc
section
variable{prog:Pg}{w:Wd}
def RU{h h':Heap}{k:dZ}{a:Addr}(i:(tupleKind Ät).is h k a)(e:∀o,h.get? a=some o->h'.get? a=some o):(tupleKind Ät).is h' k a:=by
 let(o,j,n,m,h2,z,F):=i;exact(o,j,n,e o m,h2,z,F)
def adD{h h':Heap}{S:Addr}{xs:List pQ}(d:h.DictOfH (tupleKind Ät) S xs)(e:∀o,h.get? S=some o->h'.get? S=some o)(M:∀x∈xs,∀o,h.get? x.2.1=some o->h'.get? x.2.1=some o):h'.DictOfH (tupleKind Ät) S xs:=by
 let(o,es,ep,m,z,F,G,I,J):=d;exact(o,es,ep,e o m,z,F,G,λx j=>RU (I x j) (M x j),J)
def adE{xs:List pQ}{k:dZ}{a:Addr}{v:Value}{x:pQ}(h:x∈storedH xs k a v):x.2.1=a\/∃y∈xs,x.2.1=y.2.1:=by
 delta storedH at h;split at h
 .let(y,j,e):=cf.mp h;apply .inr ⟨y,j,?_⟩;delta putAt at e;split at e <;> rw[<-e]
 .rcases gR.mp h with h|h
  .exact .inr ⟨x,h,Á⟩
  .let:x=(k,a,v):=by simpa using h
   exact .inl (by rw[this])
def adF(xs:List pQ)(k:dZ)(a:Addr)(v:Value):(storedH xs k a v).length<=xs.length+1:=by
 delta storedH;grind
end
def qT(kvs:List (dZ×V))(ts:List (dZ×Addr×V)):List (dZ×V):=ts.foldl (λacc t=>putK acc t.1 t.2.2) kvs
theorem adG(ts:List (dZ×Addr×V)):∀(kvs:List (dZ×V)),(qT kvs ts).length<=kvs.length+ts.length:=by
 induction ts with
 |nil=>exact @λkvs=>bJ _
 |cons t ts I=>
  intro kvs;let j:=I (putK kvs t.1 t.2.2);let h2:=A9 kvs t.1 t.2.2;show(qT (putK kvs t.1 t.2.2) ts).length<=_;rw[c7];omega
theorem adH{H:Hp}:∀{ts:List (dZ×Addr×V)}{prs:List pQ}{kvs:List (dZ×V)}{xs:List pQ},Paired (λ(t:dZ×Addr×V)(q:pQ)=>t.1=q.1/\t.2.1=q.2.1/\H t.2.1=some (.tup (t.1.map kV))/\RelV t.2.2 q.2.2) ts prs->KT H kvs xs->KT H (qT kvs ts) (IY xs prs):=by
 intro ts prs kvs xs j;induction j generalizing kvs xs with
 |nil=>exact λk=>k
 | @cons t q ts prs h r ih=>
  intro k;let(m,h2,z,F):=h;apply ih (kvs:=putK kvs t.1 t.2.2) (xs:=storedH xs q.1 q.2.1 q.2.2) ?_;rw[<-m,<-h2];exact k.put t.1 z F
section
variable{X:Cx}
def adI(hu:X.A.units+3<cLine)(IG:X.calm=true):lD X (.type "dict") (λxs H Q=>∃(a:Addr)(ps:LA)(ts:List (dZ×Addr×V)),xs=[.ref a]/\Àu a Áy/\Paired (λp(t:dZ×Addr×V)=>H p=some (.tup [.ref t.2.1,t.2.2])/\H t.2.1=some (.tup (t.1.map kV))) ps ts/\
  ∀p,H p=none->Q ģ (upd H p Çf)):=by
 intro pins s σ H xs us Q I r q;let(a,ps,ts,ex,hq,M,q):=q;subst ex;let(u,eu,rx):=vals1 r;subst eu;cases rx;let(aj,U,pl,S):=I.list hq;let F:=Q2 U;subst F;rw[aA] at S;let m:∀{ps:LA}{ts:List (dZ×Addr×V)},Paired (λp(t:dZ×Addr×V)=>H p=some (.tup [.ref t.2.1,t.2.2])/\H t.2.1=some (.tup (t.1.map kV))) ps ts->
   ∃prs:List pQ,Paired (λ(t:dZ×Addr×V)(q:pQ)=>t.1=q.1/\t.2.1=q.2.1/\H t.2.1=some (.tup (t.1.map kV))/\RelV t.2.2 q.2.2) ts prs/\prs.length=ps.length/\∀(j:Nat)(q:pQ),prs[j]? =some q->∃b:Addr,ps[j]? =some b/\IsTup s.heap b #[.ref q.2.1,q.2.2]/\(tupleKind Ą).is s.heap q.1 q.2.1:=by
  intro ps ts M;induction M with
  |nil=>exact([],.nil,Á,λj q e=>by simp at e)
  | @cons p t ps ts h _ ih=>
   let(prs,r1,r2,r3):=ih;let(_,aj,U,ob,o1,o2,n,o3):=(I.ax p _ h.1);let(u,y,F,ru,ry):=vals2 U;subst F;cases ru;apply((t.1,t.2.1,y)::prs,.cons ⟨Á,Á,h.2,ry⟩ r1,by rw[c7,c7,r2],λj q e=>?_);cases j with
   |zero=>
    let e':=aN e;subst e';exact(p,Á,⟨ob,o1,o2,n,o3⟩,xn I.ax h.2)
   |succ j=>
    let(b,W,z):=r3 j q (À e);exact(b,À W,z)
 let(prs,Z,hl,gU):=m M;let(o,n,ho,hc,hd,uq):=pl;refine Q0 (prs:=prs) (DD:=λh acc=>h.DictOfH Èe s.heap.objs.size acc/\∀x∈acc,x.2.1<s.heap.objs.size) (G:=λh q u y=>u=.ref q.2.1/\y=q.2.2/\q.2.1<s.heap.objs.size/\(tupleKind Ą).is h q.1 q.2.1) (st:=λa q=>storedH a q.1 q.2.1 q.2.2) (I.ok.hd IG) ho hc hd uq (by simp[hl]) Æ ⟨Heap.DictOfH.new s.heap,by simp⟩ (λ_ _ _ d k=>⟨adD d.1 (λo e=>k _ o (bJ _) e) λx O o e=>k _ o (tV (d.2 x O)) e,d.2⟩) (λ_ _ _ _ _ g k=>⟨g.1,g.2.1,g.2.2.1,RU g.2.2.2 λo e=>k _ o g.2.2.1 e⟩)
  (λ_ acc q _ _ _ _ g d S k=>by
   let(rfl,rfl,g1,g2):=g;apply wpAny_dictSet_heap (knd:=tupleKind Ą) (Dh (pz (show X.A.units+1+1<=X.A.units+3 by omega) hu)) g2 d.1 (λh' J=>k h' _ ⟨J,λx O=>?_⟩) S;rcases adE O with e|⟨y,hy,e⟩
   .rw[e];exact g1
   .rw[e];exact d.2 y hy) (λa q=>adF a q.1 q.2.1 q.2.2) Çz λh' tk pF k=>?_
 .let(b,W,z,Y):=gU j q' e;exact(b,_,_,by simp_all,z,rfl,rfl,by let(o,_,_,g,_):=Y;exact cZ g,Y)
 .let J:=wL.mpr (tU I.big);let cK:(qT [] ts).length<=sizeLine:=by
   apply gQ (adG ts []) ?_;rw[rK,wO,Paired.length Z,hl];omega
  let pK:=I.ax.fresh (bJ _);let((q2,es,ep,xB,g2,g3,g4,g5,g6),_):=pF;let kt:KT (ĝ Çf) (qT [] ts) (IY [] prs):=(adH Z (kvs:=[]) (xs:=[]) .nil).keeps λb ys e=>by
   rw[ao (eK e pK)];omega
  exact(.ref s.heap.objs.size,ĝ Çf,I.laid (t':=tk) k (bJ _) (⟨cK,J,IY [] prs,kt,q2,es,ep,xB,g2,g3,g4,g6⟩),Á,q _ pK)
end
end L2
end
section
namespace HT
open PySem PyProof.Rows
section
open PySem.SeqAt
open PySem.AutoSeq1 (wpAny_loadPart')
open PySem.MeetsSeq PySem.MeetsSeq2 PySem.MeetsSeq3
def RV{items:Array Value}{i:Nat}{v:Value}{r:LV}(h:items.toList.drop i=v::r):items[i]? =some v/\items.toList.drop (i+1)=r:=by
 let j:(items.toList.drop i)[0]? =some v:=by rw[h];rfl
 rw[Yd,Ye,X8] at j;apply(j,?_);let:(items.toList.drop i).drop 1=r:=by rw[h];rfl
 rw[List.drop_drop] at this;exact this
theorem adK(l b:Addr)(items I:Array Value)(n n2:Nat)(dd lZ:OA)(sl ni:AO)(k:Nat):∀(i:Nat)(ns ms:LI),IntsAre (items.toList.drop i) ns->IntsAre (I.toList.drop i) ms->ns.length=k->i<=items.size->i<=I.size->
  Meets (Builtin.«list.__eq__.loop» ⟨[.ref l,.ref b,rawInt i,rawInt 0],[]⟩)
   (λ_ R s=>s.heap.get? l=some {cls:=.type "list",dict:=dd,data:=.seq items n,slots:=sl}/\s.heap.get? b=some {cls:=.type "list",dict:=lZ,data:=.seq I n2,slots:=ni}/\
    R (.ok (.ret ż)) s):=by
 induction k with
 |zero=>
  intro i ns ms hi J hk Y h2 prog w A R s h;let(O,g,d,tk,os):=s;let(m,j,h):=h;let M:ns=[]:=O3.mp hk;subst M;let F:=hi.length;let z:=J.length;rw[X7,wJ] at F z;simp only[rK] at F;let G:items[((i:Nat):Int).toNat]? =none:=by simp;omega
  wp_walk using je m,je j
  rw[G]
  wp_walk using je m,je j
  show R (.ok (.ret (.bool (decide (items.size<I.size))))) _;let e:lexLt [] ms=decide (items.size<I.size):=by
   cases ms with
   |nil=>
    rw[P8];simp only[rK] at z;exact(fQ Æ).symm
   |cons c ms=>
    rw[P9];simp only[c7] at z;exact(eJ Æ).symm
  rw[<-e];exact h
 |succ k ih=>
  intro i ns ms hi J hk Y h2 prog w A R s h;let(O,g,d,tk,os):=s;let(m,j,h):=h;let F:=hi.length;let z:=J.length;rw[X7,wJ] at F z;generalize ed1:items.toList.drop i=d1 at hi;generalize ed2:I.toList.drop i=d2 at J;cases hi with
  |nil=>cases hk
  | @cons a t vI r6 hi'=>
   let(S,g2):=RV ed1;let G:items[((i:Nat):Int).toNat]? =some (.int a t):=À S
   cases J with
   |nil=>
    let Z:I[((i:Nat):Int).toNat]? =none:=by simp only[rK] at z;simp;omega
    wp_walk using je m,je j
    rw[G,Z]
    wp_walk using je m,je j
    show R (.ok (.ret (.bool (decide (items.size<I.size))))) _;rw[Qa] at h;simp only[rK,c7] at F z;rw[fQ Æ];exact h
   | @cons c u ws' l5 Eo=>
    let(U,W):=RV ed2;let Z:I[((i:Nat):Int).toNat]? =some (.int c u):=À U
    let hc:((i:Int)+1)=((i+1:Nat):Int):=by push_cast;rfl
    let z1:i<items.size:=by simp only[c7] at F;omega
    let z2:i<I.size:=by simp only[c7] at z;omega
    rw[uj] at h
    wp_walk using je m,je j
    rw[G,Z];apply aP (EqGives.int a c t u prog w _ _ _ _ ?_);cases nj:(a==c) with
    |true=>
     rw[af (À nj)] at h
     wp_walk
     rw[hc];exact⟨G9 plain_eq_loop _,OX entry_eq_loop (by
      rw[OY plain_eq_loop _];exact ih (i+1) r6 l5 (by rw[g2];exact hi') (by rw[W];exact Eo) (À hk) z1 z2 prog w A R _ ⟨m,j,h⟩)⟩
    |false=>
     rw[ah (À nj)] at h
     wp_walk using je m,je j
     rw[G,Z];let qJ:=Ic A.in1 ⟨O,g,d,tk,os⟩ a t c u prog w
     wp_walk using qJ
     exact h
def adM(l b:Addr)(items I:Array Value)(n F:Nat)(dd z:OA)(sl G:AO)(ns ms:LI)(hi:IntsAre items.toList ns)(J:IntsAre I.toList ms):
  Meets (Builtin.«list.__lt__» ⟨[.ref l,.ref b],[]⟩)
   (λ_ R s=>s.heap.get? l=some {cls:=.type "list",dict:=dd,data:=.seq items n,slots:=sl}/\s.heap.get? b=some {cls:=.type "list",dict:=z,data:=.seq I F,slots:=G}/\
    R (.ok (.ret ż)) s):=by
 intro prog w A R s h;let(O,g,d,tk,os):=s;let(m,j,h):=h;let M:=AutoSeq1.sub_list_list
 wp_walk using je m,je j
 exact⟨G9 plain_eq_loop _,OX entry_eq_loop (by
  rw[OY plain_eq_loop _];exact adK l b items I n F dd z sl G _ 0 ns ms hi J Á (dY _) (dY _) prog w A R _ ⟨m,j,h⟩)⟩
end
end HT
end
section
namespace HT
open PySem PyProof.Rows
section
open PySem.SeqAt
open PySem.AutoSeq1 (wpAny_loadPart')
open PySem.MeetsSeq PySem.MeetsSeq2 PySem.MeetsSeq3
def adN(l b la lb:Addr)(n n2:Nat)(dd lZ:OA)(sl ni:AO)(a c:Int)(t u:Tok)(e r:Bool)(O:e=true->r=false):
  Meets (Builtin.«tuple.__lt__» ⟨[.ref l,.ref b],[]⟩)
   (λA R s=>s.heap.get? l=some {cls:=.type "tuple",dict:=dd,data:=.seq #[.int a t,.ref la] n,slots:=sl}/\s.heap.get? b=some {cls:=.type "tuple",dict:=lZ,data:=.seq #[.int c u,.ref lb] n2,slots:=ni}/\
    EqAt A.in1 s Äs Är e/\(∀(prog:Pg)(w:Wd)(E:VP)(Q:VP),Q (.bool r) s->wpAny Ò A.in1 (richCompare .Lt Äs Är) Q E s)/\
    R (.ok (.ret (.bool (if a=c then r else decide (a<c))))) s):=
 .of_wp λprog w A R s h=>by
  let(z,g,d,tk,os):=s;let(Z,W,M,S,h):=h;let f2:=ape
  wp_walk using je Z,je W,wpAny_forIn_list _ (λbI b s'=>b.1=none/\s'=⟨z,g,d,tk,os⟩/\(bI=[(Value.int a t,Value.int c u),(Value.ref la,Value.ref lb)]\/(bI=[(Value.ref la,Value.ref lb)]/\a=c)\/(bI=[]/\a=c/\e=true))) _
  case turn=>
   rintro⟨y,x⟩ bI b s' ⟨F,rfl,j⟩;rcases j with j|⟨j,m⟩|⟨j,_⟩
   .injection j with hyx hrest;injection hyx with hy hx;subst hy hx;let(U,J,I):=Qb A.in1 ⟨z,g,d,tk,os⟩ a t c u;apply aP (J prog w _ _ ?_);cases U with
    |true=>
     wp_walk
     exact(Á,Á,.inr (.inl ⟨hrest,I.mp Á⟩))
    |false=>
     rw[ah (λq=>absurd (I.mpr q) d9)] at h;let G:=Ic A.in1 ⟨z,g,d,tk,os⟩ a t c u prog w
     wp_walk using G
     exact(_,Á,À h)
   .injection j with hyx hrest;injection hyx with hy hx;subst hy hx;apply aP (M prog w _ _ ?_);cases e with
    |true=>
     wp_walk
     exact(Á,Á,.inr (.inr ⟨hrest,m,Á⟩))
    |false=>
     rw[af m] at h;let G:=S prog w
     wp_walk using G
     exact(_,Á,À h)
   .cases j
  case fin=>
   rintro⟨b1,b2⟩ s' ⟨F,rfl,j⟩;simp only at F;subst F;rcases j with j|⟨j,m⟩|⟨j,m,Y⟩
   .cases j
   .cases j
   .rw[af m,O Y] at h
    wp_walk
    exact(_,Á,by simpa [Builtin.Tuple.tupleCompareSizes] using h)
  case h=>
   exact(Á,Á,.inl Á)
end
end HT
namespace L2
open PySem PySem.Spec PyProof.Rows
section
inductive RW(K:FR)(x:V)(y:V)(H:Hp)(Q:VK):Prop
 |mk (p q la lb:Addr) (a c:Int) (ns ms:LI) (_:x=.ref p) (_:y=.ref q) (_:Ť p [.int a,.ref la]) (_:Ť q [.int c,.ref lb]) (_:â la š) (_:â lb (ms.map V.int)) (_:Q (.bl (if a=c then HT.lexLt ns ms else decide (a<c))) H)
theorem adO:∀ns:LI,HT.lexLt ns ns=false:=by
 intro ns;induction ns with
 |nil=>exact Á
 |cons x ns I=>
  rw[HT.uj,af rfl];exact I
theorem RX{ns:LI}:∀{U:LV},bc š U->IntsAre U ns:=by
 induction ns with
 |nil=>
  intro _ r;cases r;exact .nil
 |cons n ns I=>
  intro _ r;cases r with
  |cons h t=>
   let(tk,rfl):=h;exact .cons n tk (I t)
def adP(hu:X.A.units+128<cLine):eS X Çk (RW X.K):=by
 intro pins s σ H x y v u Q I rx ry ⟨p,q,la,lb,a,c,ns,ms,e1,e2,hp,hq,h1,h2,k⟩;subst e1 e2;cases rx;cases ry;let(aj,rv,(o,ho,hc,n,hd),_):=I.tuple hp;let(nk,yY,(o2,U,iL,n2,fO),_):=I.tuple hq;let(u1,u2,ei,r1,r2):=vals2 rv;let(w1,w2,m,r3,r4):=vals2 yY;subst ei m;let(t,rfl):=r1;let(t2,rfl):=r3;cases r2;cases r4;let(z,J,(p1,m1,g1,Y,d1,f1),_):=I.list h1;let(G,M,(p2,m2,g2,Z,d2,f2),_):=I.list h2;let i1:=RX J;let i2:=RX M;let(cls,yA,data,sl):=o;let(Qc,j,data2,ni):=o2;let(ap2,ap4,data3,S):=p1;let(ap5,ap6,ap7,O):=p2;simp only at hc hd iL fO Y d1 f1 Z d2 f2;subst hc hd iL fO Y d1 f1 Z d2 f2;let(as,ra):=Dp.reads I (.list (ns.map PyData.int)) Äs Äs (.lst h1 (qR ns)) rfl;let(bs,rb):=Dp.reads I (.list Äf) Är Är (.lst h2 (qR ms)) rfl;let W:SeqAt.EqAt X.A.in1 s Äs Är (PyData.eqvAll (ns.map PyData.int) Äf):=by
  apply SeqAt.eqAt_reads _ (.list Äf) X.A.in1 s Äs Är as bs ra rb (O1 (shaped_ints ns)) (O1 (shaped_ints ms)) ?_;let:=SeqAt.depth_of_shaped (shaped_ints ns);grind
 rw[xw] at W;let bQ:∀(prog:Pg)(w:Wd)(E:VP)(Q:VP),Q (.bool Ϝ) s->wpAny Ò X.A.in1 (richCompare .Lt Äs Är) Q E s:=λprog w E Q h=>
  OO (op:=.Lt) ⟨_,g1,rfl⟩ ⟨_,g2,rfl⟩ PySem.F.slot_list_lt PySem.F.entry_list_lt (PySem.F.args_list_lt_2 _ _) (HT.adM la lb z.toArray G.toArray m1 m2 none none S O ns ms (by simpa using i1) (by simpa using i2))
   ⟨g1,g2,show Value.bool Ϝ≠Value.notImplemented/\Q (.bool Ϝ) s from⟨(λx=>nomatch x),h⟩⟩ (by show X.A.units+1<cLine;omega)
 let IZ:decide (ns=ms)=true->HT.lexLt ns ms=false:=λe=>by
  let:ns=ms:=rO e;rw[this];exact adO ms
 exact OO (op:=.Lt) ⟨_,ho,Á⟩ ⟨_,U,Á⟩ PySem.F.slot_tuple_lt PySem.F.entry_tuple_lt (PySem.F.args_tuple_lt_2 _ _) (HT.adN p q la lb n n2 yA j sl ni a c t t2 (decide (ns=ms)) Ϝ IZ)
  ⟨ho,U,W,bQ,(λx=>nomatch x),.bl _,H,I,rfl,k⟩ Æ
end
end L2
end
section
namespace L2
open PySem PySem.Spec PyProof.Rows
abbrev Ja(fd:FD):Obj:={cls:=.type "function",data:=.func fd}
def zf(f:Addr)(fd:FD):HO:=.ext λh=>h.get? f=some (Ja fd)
def zg(c:Addr)(q:Str):HO:=.ext λh=>∃o vs t,h.get? c=some o/\o.data=.fields vs/\vs[1]? =some (.str q t)
def Bv(K:FR)(c T:Addr):Prop:=∀h:Heap,K.In h->PySem.W.CodeHd h c T
def xD(mg:MG)(base:Heap):Prop:=∃bm O,mg "__builtins__"=some (.ref bm)/\bm≠builtinsNs/\base.get? bm=some O/\O.cls=.type "module"/\O.dict=some builtinsNs/\O.data=.plain
abbrev sy(q:Str)(args:Arguments)(G:Expr)(scope:Scope)(cl:eV)(pm:Value)(c:Addr)(I:Value):FuncData:=PySem.W.kla_fn "<lambda>" q args G scope cl pm (.ref c) I
def adY(T:Addr)(q:Str)(args:Arguments)(G:Expr)(scope:Scope)(cl:eV)(pm:Value):TE:=λσ H Q=>H T=some (.gG #[])/\∀(f c:Addr)(I:Value)(j:Array Value),H f=none->H c=none->c≠f->
 Q ā (upd (upd (ϛ (.gG j)) c (zg c q)) f (zf f (sy q args G scope cl pm c I)))
section
variable{X:Cx}
def adZ(hK:Bv X.K c T)(F:xD X.mg X.base)(kJ:X.env.code=.ref c)(hq:X.env.qual++"<lambda>"=q)(gH:closureFor scope X.env=pure cl)(hd:defaultsOf args X.env=([],[]):=by rfl):
  PE X (.Lambda args gM scope pos) (adY T q args gM scope cl ((X.mg "__name__").getD .none)):=by
 show Õ;let(hT,h):=h;subst hq;let S:s.heap.get? T=some (PySem.W.tabObj #[]):=I.ax T _ hT;let keep:=I.bs;let ns:∀{b:Addr}{m:MG},X.base.Ns b m->s.heap.Ns b m:=λ{b m} ⟨o,es,ep,e,d,r⟩=>⟨o,es,ep,(keep _ _ e).1,d,r⟩;let(bm,ob,b1,b2,b3,b4,b5,b6):=F;let qU:bm≠T:=λz=>by
  symm
 let hgN:∃o es ep,X.base.get? mainGlobals=some o/\o.data=.dict es ep:=by
  let(o,es,ep,e,d,r):=I.ok.mod.glob;symm
 let hgT:mainGlobals≠T:=λz=>by
  grind
 let Y:bm≠mainGlobals:=λz=>by
  symm
 apply PySem.W.kla_eval hd (PySem.W.kla_makeFunction gH I.ok.glob (ns I.ok.mod.glob) kJ (hK _ I.fu) S trivial Á hgT ⟨bm,ob,b1,b2,Y,qU,(keep _ _ b3).1,b4,b5,b6⟩ λj G h' tk ext U iL Jb RY=>?_);let J:∀b o,b≠T->s.heap.get? b=some o->(h'.push (Ja (sy (X.env.qual++"<lambda>") args gM scope cl ((X.mg "__name__").getD .none) j G))).get? b=some o:=λb o F e=>dh _ (ext b o F e);let hcf:=fj iL;let O:∀b o,H b=some o->b≠j/\b≠h'.objs.size:=λb o e=>by
  let vJ:b<s.heap.objs.size:=by
   apply Yg λz=>?_;rw[I.ax.fresh z] at e;symm
  grind
 let RZ:=O _ _ hT;let Z:=I.ax.fresh U;let hfN:=I.ax.fresh (gQ U (tV iL));apply(.ref h'.objs.size,_,?_,Á,h h'.objs.size j G (#[]++ #[rawInt pos.line,rawInt pos.col,.ref j]) hfN Z hcf);let M:∀b o,H b=some o->b≠T->(upd (upd (ϛ (.gG (#[]++ #[rawInt pos.line,rawInt pos.col,.ref j]))) j (zg j (X.env.qual++"<lambda>"))) h'.objs.size (zf h'.objs.size (sy (X.env.qual++"<lambda>") args gM scope cl ((X.mg "__name__").getD .none) j G))) b=some o:=λb o e F=>by
  rw[ao (O b o e).2,ao (O b o e).1,ao F];exact e
 let atT:(upd (upd (ϛ (.gG (#[]++ #[rawInt pos.line,rawInt pos.col,.ref j]))) j (zg j (X.env.qual++"<lambda>"))) h'.objs.size (zf h'.objs.size (sy (X.env.qual++"<lambda>") args gM scope cl ((X.mg "__name__").getD .none) j G))) T=some (.gG (#[]++ #[rawInt pos.line,rawInt pos.col,.ref j])):=by
  rw[ao RZ.2,ao RZ.1,aq]
 apply I.step (g':=s.gens) (d':=s.drawn) (t':=tk) (ch:=[]) (λ_ z=>nomatch z) (λb o _ _ _ e n=>J b o (λz=>by simp_all) e) (λb o _ _ _ e n=>⟨o.slots,J b o (λz=>by simp_all) e⟩) (λb o _ e n=>?_) (λb o _ e=>?_) (λb xs e=>M b _ e (λz=>by simp_all)) (λb o u e=>M b _ e (λz=>by simp_all)) (λb ps e=>?_) Åz (λb o e=>?_) I.bare
 .let vJ:=cZ e;rw[ao (fj (iq vJ (gQ U (tV iL)))),ao (fj (iq vJ U)),ao (λz=>by simp_all)];exact n
 .by_cases F:b=T
  .rw[F];exact(_,dh _ RY)
  .symm
 .by_cases F:b=T
  .symm
  .symm
 .let(o,es,ep,e,d,r):=hm;exact(o,es,ep,J _ _ (λz=>by grind) e,d,r)
 .by_cases hf:b=h'.objs.size
  .subst hf;rw[aq] at e;cases e;exact(ib _ Á,⟨_,ib _ Á⟩,λh1 h2 p k=>k _ p)
  .rw[ao hf] at e;by_cases hc:b=j
   .subst hc;rw[aq] at e;cases e;let(c2,o,vs,t,ec,e1,e2,e3):=Jb;cases ec;let R1:=dh (Ja (sy (X.env.qual++"<lambda>") args gM scope cl ((X.mg "__name__").getD .none) b G)) e1;exact(⟨o,vs,t,R1,e2,e3⟩,⟨_,R1⟩,λh1 h2 ⟨o,vs,t,p1,p2,p3⟩ k=>⟨o,vs,t,k _ p1,p2,p3⟩)
   .rw[ao hc] at e;by_cases F:b=T
    .subst F;rw[aq] at e;cases e;exact dh _ RY
    .rw[ao F] at e;apply(I.ax b o e).m4 (λa u ha q=>J a u (λz=>?_) q) (λa q=>M a _ q (λz=>by simp_all)) (λa xs q=>M a _ q (λz=>by simp_all));symm
def Es(P:Pg)(w:Wd)(K:FR)(mg:MG)(base:Heap)(k:Nat)(q:Str)(fdOf:Addr->Value->FuncData)(ps:LS)(sp:Sp):Prop:=
 ∀(f c:Addr)(I:Value)(A:Around)(outer:List Env)(s:Sh)(H:Hp)(U:LV)(vs:au)(Q:VK),dv k A->ċ H->H f=some (zf f (fdOf c I))->H c=some (zg c q)->bc vs U->vs.length=ps.length->sp vs H Q E0->
  codeAny Àj A (.call ā ⟨U,[]⟩) (CR aE outer P w H s Q E0) s
def Bw(H:Hp)(f:Addr)(q:Str)(fdOf:Addr->Value->FuncData):Prop:=∃c I,H f=some (zf f (fdOf c I))/\H c=some (zg c q)
def ad6(i:Nat)(q:Str)(fdOf:Addr->Value->FuncData)(ps:LS)(sp:Sp)(t:TA):TE:=λσ H Q=>∃f,σ[i]? =some Áx/\Bw H f q fdOf/\t σ H λvs H1=>Bw H1 f q fdOf/\vs.length=ps.length/\sp vs H1 Q E0
variable{x:Str}{i:Nat}{p pos:Pos}{e:Expr}{es:List Expr}{t:TA}{k:Nat}{q:Str}{fdOf:Addr->Value->FuncData}{ps:LS}{sp:Sp}
def ad7(L:Es X.prog X.w X.K X.mg X.base k q fdOf ps sp)(hr:dv k X.A)(hN:X.N[i]? =some x)(hv:wV X.env.scope x)(ha:PA X (e::es) t)(hd:(x==("__debug__":Str))=false:=by decide)(kJ:(x==("__classdict__":Str))=false:=by decide)(he:starEach (e::es) X.env=(false,eval e X.env)::starEach es X.env:=by rfl) (U:(backTo pos ô).any (·.1)=false:=by rfl):PE X (.Call Ž (e::es) [] pos) (ad6 i q fdOf ps sp t):=by
 show Õ;let(f,hf,(c,iF,l1,l2),h):=h;let lv:=Pq (X:=X) (pos:=p) hN hv hd kJ pins s σ H (λv H1=>v=.ref f/\H1=H) I ⟨_,hf,rfl,rfl⟩;apply wM (iU lv (λu s1 ⟨v,H1,J,rv,Z,Y⟩=>?_) λ_ _ z=>z);subst Z Y;cases rv;apply PySem.W.callWith_F ⟨_,_,_,_,(J.ax f _ l1).1⟩ (aK (ha pos pins s1 σ H1 _ J h) λus S ⟨vs,G,m,r,⟨O,F,M,m2⟩,hl,j⟩=>⟨⟨_,_,_,_,(m.ax f _ M).1⟩,?_⟩) he U;apply Ao (u6 (L f O F X.A X.stack S G us vs Q hr m.yN M m2 r hl j) λr s' j=>?_);cases r with
 |error e=>exact sr pins σ G S e s' m j
 |ok fl=>
  cases fl with
  |ret u=>exact m.after j
  |next=>exact False.elim j
  |brk=>exact False.elim j
  |cont=>exact False.elim j
end
def nB(c:Addr)(o:Obj):HO:=.ext λh=>h.get? c=some o
def del(H:Hp)(a:Addr):Hp:=λb=>if b=a then none else H b
def Et{H:Hp}{a:Addr}:del H a a=none:=af rfl
def vK{H:Hp}{a b:Addr}(h:b≠a):del H a b=H b:=ah h
def Bx{H:Hp}{a b:Addr}(h:H b=none):del H a b=none:=by
 by_cases e:b=a
 .rw[e,Et]
 .rw[vK e,h]
def dy.del{P:Pg}{w:Wd}{H:Hp}{h:Heap}{c:Addr}{o:Obj}(x:ğ h)(hc:H c=some (nB c o)):dy P w (del H c) h:=λa u e=>by
 let j:a≠c:=λz=>by rw[z,Et] at e;cases e
 rw[vK j] at e;apply(x a u e).m4 Ãv (λb q=>?_) (λb xs q=>?_)
 .rw[vK (λz=>by rw[z,hc] at q;cases q)];exact q
 .rw[vK (λz=>by rw[z,hc] at q;cases q)];exact q
def dy.put{P:Pg}{w:Wd}{H:Hp}{h:Heap}{c:Addr}{o:Obj}(x:ğ h)(j:H c=none)(hc:h.get? c=some o):dy P w (upd H c (nB c o)) h:=λa u e=>by
 by_cases m:a=c
 .subst m;rw[aq] at e;cases e;exact(hc,⟨_,hc⟩,λF h2 p k=>k _ p)
 .rw[ao m] at e;apply(x a u e).m4 Ãv (λb q=>?_) (λb xs q=>?_)
  .rw[ao (λz=>by rw[z,j] at q;cases q)];exact q
  .rw[ao (λz=>by rw[z,j] at q;cases q)];exact q
structure Jc(p x:Str)(sc:Scope):Prop where
 kind:sc.kind=.function
 co:sc.isCoroutine=false
 gen:sc.isGenerator=false
 loc:sc.names.lookup p=some .local
 fr:sc.names.lookup x=some .free
 R3:∀y∈sc.names,y.2≠ .cell
 only:∀y∈sc.names,y.2=.free->y.1=x
abbrev Eu(q:Str)(scope:Scope)(L f:Addr)(cd:Value)(cl:eV):Env:=newEnv scope L mainGlobals cl (q++".<locals>.") (some f) cd none builtinsNs
def Ew(P:Pg)(w:Wd)(K:FR)(mg:MG)(base:Heap)(N:LS)(cO:Str)(scope:Scope)(f:Addr)(cd:Value)(cl:eV)(A:Around)(outer:List Env)(s:Sh)(H:Hp):Cx where
 prog:=P
 w:=w
 K:=K
 mg:=mg
 base:=base
 A:=A.deeper (ϥ cl)
 N:=N
 g8:=s
 qC:=H
 env:=ϥ cl
 outer:=outer
 stack:=ϥ cl::outer
 ex:=[]
 calm:=true
 fn:=λ_=>false
 pn:=[]
 xe:=λ_ _=>False
theorem Ey{x y:Str}{cx c:Addr}(h:List.lookup y [(x,cx)]=some c):y=x/\c=cx:=by
 rw[vb] at h;cases e:y==x with
 |true=>rw[e] at h;exact(wK.mp e,(aN h).symm)
 |false=>rw[e] at h;cases h
section
variable{P:Pg}{w:Wd}{K:FR}{mg:MG}{base:Heap}{q p x:Str}{scope:Scope}{f cx:Addr}{cd:Value}{A:Around}{outer:List Env}{s:Sh}{H:Hp}{v1 v:V}{u1 u:Value}{o:Obj}{h':Heap}{tk:Nat}
def ad9(S:Jc p x scope)(hd:A.handled=none)(j:ċ H)(M:RelV v1 u1)(J:s.heap.get? cx=some o)(F:o.data=.cell Ân)(W:RelV v u)(G:H cx=none)(O:h'.Ns s.heap.objs.size (λy=>[(p,u1)].reverse.lookup y)) (hk:∀b o,s.heap.get? b=some o->h'.get? b=some o):
  Inv (Ew P w K mg base [p,x] q scope f cd [(x,cx)] A outer s H) [] (start [p,x] [v1,v]) H {s with heap:=h',toks:=tk}:=by
 let U:∀b:Addr,b∉(Ew P w K mg base [p,x] q scope f cd [(x,cx)] A outer s H).ex:=λb z=>absurd (show b∈([]:LA) from z) Ä;apply⟨⟨j.mod,S.kind,Á,Á,bJ _,λy z c m h2=>(Ey m).1.trans (Ey h2).1.symm,λy hy=>?_,λy c z _=>Bool.noConfusion z,λ_=>hd,Around.frames_deeper j.frames,.inr ⟨Á,Á⟩,λb z=>absurd z (U b),j.bs,j.m7,λb _ _=>U b,λb z=>absurd z (U b),j.kG,j.pC⟩,
  rfl,j.bare,Un.kept hk,⟨_,O,λi y Z m h2 Y=>?_⟩,λy c h=>?_,j.ax.fresh (bJ _),λy c h=>?_,λp I=>absurd (show p∈([]:bG) from I) Ä,j.ax.kept hk,rfl⟩
 .let hy:scope.names.lookup y=some .cell\/scope.names.lookup y=some .free:=hy;rcases hy with hy|hy
  .exact absurd Á (S.R3 _ Âd)
  .apply(cx,?_);rw[show y=x from S.only _ Âd rfl];show List.lookup x [(x,cx)]=some cx;simp
 .match i with
  |0=>
   cases m;cases h2;exact(u1,M,.inl ⟨S.loc,by show List.lookup p [(p,u1)]=some u1;simp⟩)
  |1=>
   cases m;cases h2;exact(u,W,.inr ⟨.inr S.fr,cx,by show List.lookup x [(x,cx)]=some cx;simp,o,hk _ _ J,F⟩)
  |i+2=>cases m
 .let(rfl,rfl):=Ey h;exact(_,o,hk _ _ J,F)
 .let(rfl,rfl):=Ey h;exact G
def oy.del(j:ċ H)(hc:H cx=some Ås):ċ (del H cx):=
 ⟨j.frames,j.mod,λb o e=>⟨(j.bs b o e).1,Bx (j.bs b o e).2⟩,j.m7,j.kG,λb m=>Bx (j.pC b m),j.ax.del hc,j.bare⟩
inductive Jd(cx:Addr)(v:V)(u4:Sp)(vs:au)(H:Hp)(Q:VK)(E':XK):Prop
 |mk (o:Obj) (u:Value) (_:H cx=some Ås) (_:o.data=.cell Ân) (_:RelV v u) (_:vs.length=1) (_:u4 vs (del H cx) (λr H'=>H' cx=none->Q r (upd H' cx Ås)) E')
def Un.put{fs:LA}{H H':Hp}{h h2:Heap}(un:Un fs [] (del H cx) H' h h2)(hc:H cx=some Ås):Un fs [] H (upd H' cx Ås) h h2:=by
 let ne:∀{b:Addr},H b=none->b≠cx:=λn z=>by rw[z,hc] at n;cases n
 apply(λb O q n m j=>un.keep b O q (Bx n) m j,λb O q n m j=>un.slot b O q (Bx n) m j,λb O q n j=>?_,un.there,λb xs q=>?_,λb O u q=>?_,λb ps q=>?_)
 .rw[ao (ne n)];exact un.free b O q (Bx n) j
 .let z:b≠cx:=λz=>by rw[z,hc] at q;cases q
  rw[ao z];exact un.pA b xs (by rw[vK z];exact q)
 .let z:b≠cx:=λz=>by rw[z,hc] at q;cases q
  rw[ao z];exact un.m5 b O u (by rw[vK z];exact q)
 .let z:b≠cx:=λz=>by rw[z,hc] at q;cases q
  rw[ao z];exact un.pB b ps (by rw[vK z];exact q)
def aea{k:Nat}{args:Arguments}{G:Expr}{pm:Value}{u4:Sp}(S:Jc p x scope)(Je:∀(c:Addr)(Y u:Value),bindArgs (sy q args G scope [(x,cx)] pm c Y) ⟨[u],[]⟩=pure [(p,u)])(ui:∀(f c:Addr)(A:Around)(outer:List Env)(s:Sh)(H:Hp)(y:V)(Q:VK),dv k (A.deeper (Eu q scope s.heap.objs.size f (.ref c) [(x,cx)]))->u4 [y] H Q E0->
   ∃t,PE (Ew P w K mg base [p,x] q scope f (.ref c) [(x,cx)] A outer s H) G t/\t (start [p,x] [y,v]) H Q):Es P w K mg base (k+1) q (sy q args G scope [(x,cx)] pm) [p] (Jd cx v u4):=by
 intro f c Y A outer s H us vs Q hr j hf hc r O iZ;let(o,u,m,ho,ru,_,ht):=iZ;let M:s.heap.get? cx=some o:=(j.ax cx _ m).1;let KX:=j.mod.rT.keeps λb o e=>(j.bs b o e).1;let Z:=j.mod.nolimit.keeps λb o e=>(j.bs b o e).1;let(o',vI,t',c1,c2,c3):=(j.ax c _ hc).1;apply PySem.W.kla_callFunE hr.depth (j.ax f _ hf).1 Á S.co S.gen Á ⟨c,o',vI,t',Á,c1,c2,c3⟩ ?_;cases r with
 |nil=>cases O
 |cons r1 r2=>
 cases r2 with
 |cons _ _=>cases O
 |nil=>
 rw[Je];apply df ?_;apply wpAny_newFunctionEnv S.R3 Àl (λh' om F=>?_) S.kind
 .rw[mV.mp hy];exact S.loc
 let hk:∀b o,s.heap.get? b=some o->h'.get? b=some o:=λb o e=>by
  rw[F.2 b Çr];exact dh _ e
 apply(Z.keeps hk,PySem.W.kla_codeExpr ?_);let(t,hp,hq):=ui f c A outer s (del H cx) _ _ (hr.deeper _) ht;let I:=ad9 (q:=q) (f:=f) (cd:=.ref c) (tk:=s.toks+1) S hr.hd (j.del m) r1 M ho ru Et om hk;apply iU (hp [] _ _ _ _ I hq) (λv' s' h=>?_) λ_ _ z=>False.elim z;let(y,H',J,rv,qq):=h;let hJ:s'.heap.get? cx=some o:=J.base.keep cx o M Et (λz=>by let:=j.pC cx z;rw[m] at this;cases this) (by simp[Ew]);let U:=J.kH x cx (by show List.lookup x [(x,cx)]=some cx;simp);exact(y,upd H' cx Ås,J.os,J.bare,Un.put J.base m,J.ax.put U hJ,rv,qq U)
end
section
def Un.tail{X:Cx}{pins:bG}{σ:St}{H1 G:Hp}{S:Sh}{h2:Heap}{c:Addr}{o:Obj}(I:Ã H1 S)(hex:X.ex=[])(hc:X.g8.heap.objs.size<=c)(J:H1 c=none)(un:Un (m6 X.stack) [] Ãz G S.heap h2):Un X.fs [] X.qC G X.g8.heap h2:=by
 let nx:∀b:Addr,b∉X.ex:=λb=>by rw[hex];simp
 let ne:∀{b:Addr}{O:Obj},X.g8.heap.get? b=some O->b≠c:=λe=>fj (iq (cZ e) hc);let fr:∀{b:Addr}{O:Obj},X.g8.heap.get? b=some O->X.qC b=none->upd H1 c (nB c o) b=none:=λe n=>by
  rw[ao (ne e)];exact I.base.free _ _ e n (nx _)
 let F:∀{b:Addr}{u:HO},H1 b=some u->b≠c:=λe z=>by rw[z,J] at e;cases e
 apply(λb O q n j _=>?_,λb O q n j _=>?_,λb O q n _=>?_,λb O q _=>?_,λb xs q=>?_,λb O u q=>?_,λb ps q=>?_)
 .apply un.keep b O (I.base.keep b O q n j (nx b)) (fr q n) (λz=>?_) Ä;rcases ba.mp (I.AI b z) with z|z
  .let:=cZ q;rw[z] at this;exact absurd (iq this I.ok.above) (qx _)
  .exact j z
 .let(sl,e):=I.base.slot b O q n j (nx b);let(Y,m):=un.any e (fr q n) Ä;exact(Y,m)
 .let(sl,e):=I.base.any q n (nx b);exact un.free b _ e (fr q n) Ä
 .let(W,e):=I.base.there b O q (nx b);exact un.there b W e Ä
 .let e:=I.base.pA b xs q;exact un.pA b xs (by rw[ao (F e)];exact e)
 .let e:=I.base.m5 b O u q;exact un.m5 b O u (by rw[ao (F e)];exact e)
 .let(M,e):=I.base.pB b ps q;let(U,m):=un.pB b _ (by rw[ao (F e)];exact e);exact(M++U,by rw[m,Array.append_assoc])
def PX(X:Cx)(e:Expr)(t:TE):Prop:=
 ∀(pins:bG)(s:Sh)(σ:St)(H:Hp)(Q:VK),Ã H s->t σ H Q->wpAny È X.A ϔ (CE X.outer X.prog X.w X.qC X.g8 Q) X.xe s
def aec(c:Addr)(i:Nat)(sp:Sp)(t:TA):TE:=λσ H Q=>∃v,σ[i]? =some Ãj/\t σ H λvs H1=>∀(o:Obj)(u:Value),o.data=.cell Ân->RelV v u->H1 c=none->sp vs Ãz Q E0
variable{X:Cx}{g x:Str}{c f:Addr}{fd:FD}{k i:Nat}{ps:LS}{sp:Sp}{p pos:Pos}{e:Expr}{es:List Expr}{t:TA}
def aed(F:ù aE k f fd ps sp)(hr:dv k X.A)(hg:Gl X g)(hm:X.mg g=some ā)(hk:PySem.W.keepIn X.K ā=true)(G:Ŀ [])(hN:X.N[i]? =some x)(Z:X.env.scope.names.lookup x=some .cell)(hc:X.env.cells.lookup x=some c)(hf:X.fn x=true)(hex:X.ex=[])(ha:PA X (e::es) t) (iY:(g==("__debug__":Str))=false:=by decide) (he:starEach (e::es) X.env=(false,eval e X.env)::starEach es X.env:=by rfl) (c9:(backTo pos ô).any (·.1)=false:=by rfl):
  PX X (.Call Çx (e::es) [] pos) (aec c i sp t):=by
 show Õ;let(v,hv,h):=h;apply wM (vj I hg hm ?_ iY);apply PySem.W.callWith_K (h₀:=X.base) I.ok.mod.rT hk (aK (ha pos pins s σ H _ I h) λU S h1=>?_) he c9;let(vs,H1,I1,r,q):=h1;refine Ár;let(m,_,lo):=I1.loc;let(u,ru,lk):=lo i x v hN hv (.inr (.inl Z));obtain⟨o,ho,hd⟩:S.heap.IsCell c Ân:=by
  rcases lk with ⟨z,_⟩|⟨_,c',e,yD⟩
  .let z:X.env.scope.names.lookup x=some .local:=z;rw[Z] at z;cases z
  .rw[hc] at e;cases e;exact yD
 let O:=I1.kH x c hc;let q:=q o u hd ru O;let M:=I1.ok.wW x c hf hc;let j:=I1.yN;let e1:oy X.prog X.w X.K X.mg X.base X.A X.stack S Ãz:=⟨j.frames,j.mod,λb Y e=>⟨(j.bs b Y e).1,by
   rw[ao (fj (iq (cZ (I1.ok.bs b Y e).1) M))];exact(j.bs b Y e).2⟩,j.m7,j.kG,λb G=>by
   let nb:b≠c:=by
    rcases ba.mp (I1.AI b G) with z|z
    .rw[z];exact(I1.vg x c hc).symm
    .let(_,o',h',_):=I1.ok.kG.mem z;exact fj (iq (cZ h') M)
   rw[ao nb];exact j.pC b G,j.ax.put O ho,j.bare⟩
 let hl:(U++[]).length=ps.length:=by rw[jv,<-r.length];exact F.len _ _ _ _ q
 let G:=G S U I1.fu hl;rw[jv] at G;apply Ao (u6 (F.run X.A X.stack S _ ⟨U,[]⟩ U vs _ E0 hr e1 G r q) λr s' J=>?_);cases r with
 |error e=>exact False.elim J
 |ok fl=>
  cases fl with
  |ret u'=>
   let(y,H2,os,bare,un,ax,ry,qq):=J;exact(y,H2,os.trans I1.os,bare,Un.tail I1 hex M O un,ax,ry,qq)
  |next=>exact False.elim J
  |brk=>exact False.elim J
  |cont=>exact False.elim J
def br.okt{P:Pg}{w:Wd}{K:FR}{mg:MG}{base:Heap}{x cO:Str}{st:Stmt}{f:Addr}{fd:FD}{N ps:LS}{k:Nat}{sp:Sp}{e:Expr}{pos:Pos}(F:Áf fd)(S:bH N ps ϯ)(Y:iW st=[.Return (some e) pos])(ui:∀(aG:Value)(A:Around)(outer:List Env)(s:Sh)(H:Hp)(vs:au)(Q:VK)(E:XK),fd.code=aG->dv k ĺ->sp vs H Q E->
   ∃t,PX (Ϗ N cO ϯ f aG A outer s H E).vo e t/\t ų H Q) (len:∀vs H Q E,sp vs H Q E->vs.length=ps.length:=by intro _ _ _ _ h;cases h;subst_vars;rfl):Ì aE (k+1) f fd ps sp:=by
 let(oc,od,kV,iS,pm,an,aG,ct,m3,rfl,lk,kJ):=F.ex;apply(len,λA outer s H args us vs Q E hr j nj r G=>?_);let hl:=len _ _ _ _ G;let m:K.In s.heap:=j.mod.rT.keeps λb o e=>(j.bs b o e).1;let M:s.heap.NoLimit:=j.mod.nolimit.keeps λb o e=>(j.bs b o e).1;let O:∀y∈ps.zip us,(aV st).names.lookup y.1=some .local\/((aV st).names.lookup y.1=some .cell/\((cellsFrom Î (aV st).names []).lookup y.1).isSome=true):=λ⟨n,v⟩ hy=>by
  rcases S.par n (Dd hy).1 with q|q
  .exact .inl q
  .exact .inr ⟨q,PySem.W.cellsFrom_some _ _ _ (.inl q)⟩
 apply codeAny_call_function hr.depth (m _ _ lk) Á S.co S.gen Á (PySem.W.codeRec_of m kJ) (nj _ _ _ _ ?_);apply apb S.kind O λenv Z J x=>?_;subst Z;apply(M.keeps x.toInCall.keep,codeAny_func ?_);let(t,hp,hq):=ui aG A outer s H vs Q E rfl (hr.deeper _) G;let I:Inv (Ϗ N cO ϯ f aG A outer s H E) [] ų H J:=P5 S hr.hd j hl r x;let U:=hp [] J ų H Q (I.iD _) hq;show wpAny _ _ (execs Åf _) _ _ _;rw[Y];exact OL (wpAny_Return_some (iU U (λv s' hs=>hs) λ_ _ z=>False.elim z))
end
def zh(i j:Int):Int:=if j>i then j else i
section
def aef(hc:X.calm=true):lD X (.builtin "max") (λxs H Q=>∃i j k,xs=[.int i,.int j,.int k]/\Q (.int (zh (zh i j) k)) H):=by
 intro pins s σ H xs U Q I r h;let(i,j,k,rfl,q):=h;cases r with
 |cons z r=>cases r with
  |cons F r=>cases r with
   |cons G r=>
    cases r;let(J,rfl):=z;let(t2,rfl):=F;let(M,rfl):=G;apply max_three_ints ć λh' tk kp=>⟨_,H,I.kept kp,?_,q⟩;delta zh;by_cases m:j>i
    .rw[af m,af m];by_cases h2:k>j
     .rw[af h2,af h2];exact(_,Á)
     .rw[ah h2,ah h2];exact(_,Á)
    .rw[ah m,ah m];by_cases h2:k>i
     .rw[af h2,af h2];exact(_,Á)
     .rw[ah h2,ah h2];exact(_,Á)
end
end L2
end
section
namespace L2
open PySem PySem.Spec PyProof.Rows
open PySem.W (WData Codec OpenSpec Well WellAll ReadsW ReadsAllW)
mutual
inductive Dw(K:FR)(H:Hp):V->WData->Prop
 |aJ:Dw K H .aJ .none
 |bl (b:Bool):Dw K H (.bl b) (.bool b)
 |int (i:Int):Dw K H Ây Ây
 |str (x:Str):Dw K H Çc Çc
 |jf (b:Array UInt8):Dw K H (.jf b) (.bytes b.toList)
 |lst {a:Addr} {xs:au} {ds:List WData}:â a xs->l8 K H xs ds->Dw K H Ĝ (.list ds)
 |tup {a:Addr} {xs:au} {ds:List WData}:Ť a xs->l8 K H xs ds->Dw K H Ĝ (.tuple ds)
inductive l8(K:FR)(H:Hp):au->List WData->Prop
 |nil:l8 K H [] []
 |cons {v:V} {vs:au} {d:WData} {ds:List WData}:Dw K H v d->l8 K H vs ds->l8 K H (v::vs) (d::ds)
end
theorem R7{K:FR}{H:Hp}:∀ns:LI,l8 K H š (ns.map WData.int):=by
 intro ns;induction ns with
 |nil=>exact .nil
 |cons n r I=>
  exact .cons (.int n) I
theorem Jf{K:FR}{H:Hp}(ns:LI):∀(xs:au),l8 K H xs (ns.map WData.int)->xs=ns.map V.int:=by
 induction ns with
 |nil=>
  intro xs h;cases h;rfl
 |cons n r I=>
  intro xs h;cases h with
  |cons j h2=>
   cases j;rw[I _ h2] <;> rfl
section
variable{P:Pg}{w:Wd}{K:FR}{H:Hp}{h:Heap}{R:PySem.W.WRecords}{cl:Str->OA}
def aeg{a:Addr}{xs:au}(ax:ğ h)(z:K.In h)(q:â a xs):∃(j:LV)(o:Obj)(n:Nat),bc xs j/\h.get? a=some o/\o.cls=.type "list"/\o.data=.seq j.toArray n:=by
 rcases q with q|⟨o,j,n,e,hc,_,hd,_,m⟩
 .let(_,j,n,m,e):=(q.ok ax);symm
 .exact(j.toList,o,n,m,z _ _ e,hc,by simp[hd])
def aeh{a:Addr}{xs:au}(ax:ğ h)(z:K.In h)(q:Ť a xs):∃(j:LV)(o:Obj)(n:Nat),bc xs j/\h.get? a=some o/\o.cls=.type "tuple"/\o.data=.seq j.toArray n:=by
 rcases q with q|⟨o,j,n,e,hc,hd,_,m⟩
 .let(_,j,m,o,e,hc,n,hd):=(q.ok ax);symm
 .exact(j.toList,o,n,m,z _ _ e,hc,by simp[hd])
def Dw.reads(ax:ğ h)(F:K.In h)(d:WData)(v:V)(u:Value)(x:Dw K H v d):RelV v u->∃as,ReadsW R cl h u d as:=
 Dw.rec (motive_1:=λv d _=>∀u,RelV v u->∃as,ReadsW R cl h u d as) (motive_2:=λvs G _=>∀U,bc vs U->∃as,ReadsAllW R cl h U G as)
  (λu r=>by cases r;exact(_,ReadsW.none)) (λb u r=>by cases r;exact(_,ReadsW.bool b)) (λi u r=>by let(t,rfl):=r;exact(_,ReadsW.int i t)) (λx u r=>by let(t,rfl):=r;exact(_,ReadsW.str x t))
  (λb u r=>by let(t,rfl):=r;exact(_,ReadsW.bytes _ t))
  (λhs _ I u r=>by
   cases r;let(j,o,n,z,m,hc,hd):=aeg ax F hs;let(as,hr):=I j z;exact(_,ReadsW.list m hc hd hr))
  (λhs _ I u r=>by
   cases r;let(j,o,n,z,m,hc,hd):=aeh ax F hs;let(as,hr):=I j z;exact(_,ReadsW.tuple m hc hd hr))
  (λU r=>by cases r;exact(_,ReadsAllW.nil))
  (λ_ _ J M U r=>by
   cases r with
   |cons W Y=>
    let(as,O):=J _ W;let(bs,S):=M _ Y;exact(_,ReadsAllW.cons O S)) x u
end
mutual
def qV:WData->Bool
 |.none=>true
 |.bool _=>true
 |.int _=>true
 |.str _=>true
 |.bytes _=>true
 |.list xs=>pR xs
 |.tuple xs=>pR xs
 |_=>false
def pR:List WData->Bool
 |[]=>true
 |x::r=>qV x&&pR r
end
theorem aei{α:Type}{f:α->WData}(h:∀a,qV (f a)=true):∀l:List α,pR (l.map f)=true:=by
 intro l;induction l with
 |nil=>exact Á
 |cons x r I=>
  show(qV (f x)&&pR (r.map f))=true;rw[h x,I] <;> rfl
theorem vL:∀(c:Codec)(a:c.denote),qV (c.enc a)=true
 |.unit,_=>rfl
 |.bool,_=>rfl
 |.int _ _,_=>rfl
 |.nat _ _,_=>rfl
 |.u8,_=>rfl
 |.bytes _ _,_=>rfl
 |.text _ _ _ _,_=>rfl
 |.list _ _ c,a=>aei (λx=>vL c x) a
 |.pair c d,a=>by
  show(qV (c.enc a.1)&&(qV (d.enc a.2)&&true))=true;rw[vL c a.1,vL d a.2] <;> rfl
 |.triple c d e,a=>by
  show(qV (c.enc a.1)&&(qV (d.enc a.2.1)&&(qV (e.enc a.2.2)&&true)))=true;rw[vL c a.1,vL d a.2.1,vL e a.2.2] <;> rfl
 |.option c,none=>rfl
 |.option c,some x=>vL c x
theorem aej(cs:List Codec):∀(a:Codec.denoteAll cs),pR (Codec.encAll cs a)=true:=by
 induction cs with
 |nil=>exact @λ_=>Á
 |cons c cs I=>
  intro a;show(qV (c.enc a.1)&&pR (Codec.encAll cs a.2))=true;rw[vL c a.1,I a.2] <;> rfl
theorem R8{xs:List WData}:∀{d:WData},d∈xs->d.weight<=WData.weightAll xs:=by
 induction xs with
 |nil=>exact @λd h=>absurd h Ä
 |cons x r I=>
  intro d h;show d.weight<=x.weight+1+WData.weightAll r;rcases ba.mp h with e|m
  .rw[e];omega
  .let z:=I m;omega
def toV:Value->V
 |.none=>.aJ
 |.bool b=>.bl b
 |.int i _=>.int i
 |.str x _=>.str x
 |.bytes b _=>.jf b
 |.ref a=>.ref a
 |_=>.aJ
def jz(A:LA):Value->Prop
 |.none=>True
 |.bool _=>True
 |.int _ _=>True
 |.str _ _=>True
 |.bytes _ _=>True
 |.ref a=>a∈A
 |_=>False
theorem jz.mono{A B:LA}(h:∀a∈A,a∈B):∀{u:Value},jz A u->jz B u:=λ{u}x=>by
 cases u with
 |ref a=>exact h a x
 |none=>trivial
 |bool b=>trivial
 |int i t=>trivial
 |str s t=>trivial
 |bytes b t=>trivial
 |_=>exact False.elim x
theorem aek{A:LA}{u:Value}(x:jz A u):RelV (toV u) u:=by
 cases u with
 |ref a=>rfl
 |none=>rfl
 |bool b=>rfl
 |int i t=>exact(t,Á)
 |str s t=>exact(t,Á)
 |bytes b t=>exact(t,Á)
 |_=>exact False.elim x
theorem Bz{A:LA}{vs:LV}:(∀u∈vs,jz A u)->bc Ų vs:=by
 induction vs with
 |nil=>exact @λ_=>.nil
 |cons u r I=>
  intro h;exact .cons (aek (h u (gy ..))) (I λx j=>h x (aO _ j))
def oG(h:Heap)(A:LA)(a:Addr):Prop:=∃vs:LV,vs.length<=sizeLine/\(∀u∈vs,jz A u)/\
 (h.get? a=some {cls:=.type "list",data:=.seq vs.toArray}\/h.get? a=some {cls:=.type "tuple",data:=.seq vs.toArray})
def oG.mono{h:Heap}{A B:LA}{a:Addr}(k:∀a∈A,a∈B)(x:oG h A a):oG h B a:=by
 let(vs,j,h2,m):=x;exact(vs,j,λu z=>(h2 u z).mono k,m)
theorem Jg{P:Params}{h:Heap}{vs:LV}:∀{j:List WData},WellAll P h vs j->vs.length=j.length:=by
 induction vs with
 |nil=>intro j h;cases h;rfl
 |cons v vs I=>
  intro j h;cases h with
  |cons _ b=>
   show _+1=_+1;rw[I b]
theorem R9{P:Params}{h:Heap}{v:Value}{j:List WData}(x:Well P h v (.list j)):∃(a:Addr)(vs:LV),v=.ref a/\h.get? a=some {cls:=.type "list",data:=.seq vs.toArray}/\WellAll P h vs j:=by
 cases x with
 |list m J=>symm
theorem Sa{P:Params}{h:Heap}{v:Value}{j:List WData}(x:Well P h v (.tuple j)):∃(a:Addr)(vs:LV),v=.ref a/\h.get? a=some {cls:=.type "tuple",data:=.seq vs.toArray}/\WellAll P h vs j:=by
 cases x with
 |tuple m J=>symm
theorem Sb{P:Params}{h:Heap}{U:LV}{d:WData}{j:List WData}(x:WellAll P h U (d::j)):∃(v:Value)(vs:LV),U=v::vs/\Well P h v d/\WellAll P h vs j:=by
 cases x with
 |cons a b=>grind
def ael{n:Nat}(h:n<=1048576):n<=sizeLine:=gQ h Ù
section
variable{P:Params}{h:Heap}
def Sd{M:WData->Prop}(n:M .none)(b:∀b,M (.bool b))(i:∀i,M Ây)(s:∀s,M (.str s))(y:∀b,M (.bytes b))(l:∀xs,(∀d∈xs,M d)->M (.list xs))(t:∀xs,(∀d∈xs,M d)->M (.tuple xs)):∀j,pR j=true->∀d∈j,M d:=
 WData.rec_1 (motive_1:=λd=>qV d=true->M d) (motive_2:=λj=>pR j=true->∀d∈j,M d) (motive_3:=λ_=>True) (motive_4:=λ_=>True) (motive_5:=λ_=>True) (motive_6:=λ_=>True)
  (λ_=>n) (λx _=>b x) (λx _=>i x) (λx _=>s x) (λxs I p=>l xs (I p)) (λxs I p=>t xs (I p)) Àd (λ_ p=>Bool.noConfusion p) (λx _=>y x) (λ_ p=>Bool.noConfusion p) Àd Àd (λ_ _ _ p=>Bool.noConfusion p)
  (λ_ d m=>by cases m) (λx xs z F p d m=>by
   let q:=vd.mp p;cases m with
   |head=>exact z q.1
   |tail _ m=>exact F q.2 d m) trivial Ãh trivial Ãh Ãh (λ_ _ _=>trivial)
theorem Jh:∀j:List WData,(∀d∈j,∀v,Well P h v d->d.weight<=1048576->∃A:LA,jz A v/\∀a∈A,oG h A a)->∀vs:LV,WellAll P h vs j->(∀d∈j,d.weight<=1048576)->∃A:LA,(∀u∈vs,jz A u)/\∀a∈A,oG h A a:=by
 intro j;induction j with
 |nil=>
  intro _ vs x _;cases x;exact([],λu m=>absurd m Ä,λa m=>absurd m Ä)
 |cons d j U=>
  intro one vs x z;let(v,vs,rfl,W,Y):=Sb x;let(A,I,J):=one d gy v W (z d gy);let(B,M,O):=U (λe G=>one e (aO _ G)) vs Y λe G=>z e (aO _ G);let kA:∀b∈A,b∈A++B:=λb F=>gR.mpr (.inl F);let kB:∀b∈B,b∈A++B:=λb F=>gR.mpr (.inr F);apply(A++B,λu S=>?_,λb F=>?_)
  .rcases ba.mp S with e|m
   .rw[e];exact I.mono kA
   .exact(M u m).mono kB
  .rcases gR.mp F with m|m
   .exact(J b m).mono kA
   .exact(O b m).mono kB
def aem(j:List WData)(vs:LV)(x:WellAll P h vs j)(p:pR j=true)(z:∀d∈j,d.weight<=1048576):∃A:LA,(∀u∈vs,jz A u)/\∀a∈A,oG h A a:=by
 let G:∀v,jz [] v->∃A:LA,jz A v/\∀a∈A,oG h A a:=λv o=>⟨[],o,λa m=>absurd m Ä⟩;let S:∀(a:Addr)(vs:LV)(j:List WData),vs.length=j.length->WData.weightAll j<=1048576->(h.get? a=some {cls:=.type "list",data:=.seq vs.toArray}\/h.get? a=some {cls:=.type "tuple",data:=.seq vs.toArray})->(∃A:LA,(∀u∈vs,jz A u)/\∀a∈A,oG h A a)->∃A:LA,jz A Ĝ/\∀a∈A,oG h A a:=by
  intro a vs j e z F U;let(A,Y,h2):=U;let k:∀b∈A,b∈a::A:=λb I=>aO _ I;apply(a::A,gy ..,λb I=>?_);rcases ba.mp I with O|m
  .rw[O];exact(vs,ael (by rw[e];exact gQ (PySem.W.length_le_weightAllW j) z),λu hu=>(Y u hu).mono k,F)
  .exact(h2 b m).mono k
 apply Jh j (Sd (λv x _=>?_) Ãd Ãd Ãd Ãd (λxs M v x z=>?_) (λxs M v x z=>?_) j p) vs x z
 .cases x;exact G _ trivial
 .cases x;exact G _ trivial
 .cases x;exact G _ trivial
 .cases x;exact G _ trivial
 .cases x;exact G _ trivial
 .let(a,vs,rfl,F,J):=R9 x;let Z:=z;exact S a vs xs (Jg J) Z (.inl F) (Jh xs M vs J λd hd=>gQ (R8 hd) Z)
 .let(a,vs,rfl,F,J):=Sa x;let Z:=z;exact S a vs xs (Jg J) Z (.inr F) (Jh xs M vs J λd hd=>gQ (R8 hd) Z)
end
def Ez(o:Obj):Option HO:=match o.data with
 |.seq vs _=>if (o.cls==Value.type "list")=true then some (.cu o (.lst (vs.toList.map toV))) else some (.cu o (.tup (vs.toList.map toV)))
 |_=>none
def i6(K:FR)(h:Heap)(A:LA):Hp:=λb=>if b∈A then (if (K.lookup b).isNone=true then (h.get? b).bind Ez else none) else none
def Se(vs:LV):Ez {cls:=.type "list",data:=.seq vs.toArray}=some (.cu {cls:=.type "list",data:=.seq vs.toArray} (.lst Ų)):=by
 rfl
def Sf(vs:LV):Ez {cls:=.type "tuple",data:=.seq vs.toArray}=some (.cu {cls:=.type "tuple",data:=.seq vs.toArray} (.tup Ų)):=by
 rfl
section
variable{P:Pg}{w:Wd}{K:FR}{h:Heap}{A:LA}
def EA{b:Addr}{o:Obj}(j:b∈A)(hk:K.lookup b=none)(e:h.get? b=some o):i6 K h A b=Ez o:=by
 delta i6;grind
def aen{b:Addr}{u:HO}(q:i6 K h A b=some u):b∈A/\K.lookup b=none:=by
 delta i6 at q;by_cases j:b∈A
 .rw[af j] at q;cases hk:K.lookup b with
  |none=>symm
  |some o=>
   symm
 .symm
def EB(m:∀a∈A,oG h A a){b:Addr}{u:HO}(q:i6 K h A b=some u):K.lookup b=none/\∃vs:LV,vs.length<=sizeLine/\(∀u∈vs,jz A u)/\
  ((h.get? b=some {cls:=.type "list",data:=.seq vs.toArray}/\u=.cu {cls:=.type "list",data:=.seq vs.toArray} (.lst Ų))\/
   (h.get? b=some {cls:=.type "tuple",data:=.seq vs.toArray}/\u=.cu {cls:=.type "tuple",data:=.seq vs.toArray} (.tup Ų))):=by
 let(j,hk):=aen q;let(vs,z,h2,F):=m b j;apply(hk,vs,z,h2,?_);rcases F with e|e
 .rw[EA j hk e,Se] at q;exact .inl ⟨e,(aN q).symm⟩
 .rw[EA j hk e,Sf] at q;exact .inr ⟨e,(aN q).symm⟩
def aeo(z:K.In h)(F:∀a∈A,oG h A a){a:Addr}{vs:LV}(m:a∈A)(e:h.get? a=some {cls:=.type "list",data:=.seq vs.toArray}):(∀u∈vs,jz A u)/\aa K (i6 K h A) a Ų:=by
 let(U,I,h2,J):=F a m;let G:U=vs:=by
  symm
 subst G;apply(h2,?_);cases hk:K.lookup a with
 |none=>exact .inl (.inr ⟨_,by rw[EA m hk e,Se]⟩)
 |some o=>
  let j:=z a o hk;rw[e] at j;obtain rfl:=aN j;exact .inr ⟨_,U.toArray,_,hk,Á,Á,Á,by assumption,by simpa using Bz h2⟩
def aep(z:K.In h)(F:∀a∈A,oG h A a){a:Addr}{vs:LV}(m:a∈A)(e:h.get? a=some {cls:=.type "tuple",data:=.seq vs.toArray}):(∀u∈vs,jz A u)/\bu K (i6 K h A) a Ų:=by
 let(U,I,h2,J):=F a m;let G:U=vs:=by
  symm
 subst G;apply(h2,?_);cases hk:K.lookup a with
 |none=>exact .inl (.inr ⟨_,by rw[EA m hk e,Sf]⟩)
 |some o=>
  let j:=z a o hk;rw[e] at j;obtain rfl:=aN j;exact .inr ⟨_,U.toArray,_,hk,Á,Á,by assumption,by simpa using Bz h2⟩
theorem Ji{z:Params}{B:Hp}:∀j:List WData,(∀d∈j,∀v,Well z h v d->jz A v->Dw K B (toV v) d)->∀vs:LV,WellAll z h vs j->(∀u∈vs,jz A u)->l8 K B Ų j:=by
 intro j;induction j with
 |nil=>
  intro _ vs x _;cases x;exact .nil
 |cons d j I=>
  intro one vs x F;let(v,vs,rfl,J,M):=Sb x;exact .cons (one d gy v J (F _ gy)) (I (λe G=>one e (aO _ G)) vs M λu m=>F u (aO _ m))
def aeq{O:Params}(G:K.In h)(M:∀a∈A,oG h A a)(j:List WData)(vs:LV)(x:WellAll O h vs j)(p:pR j=true)(m:∀u∈vs,jz A u):l8 K (i6 K h A) Ų j:=by
 apply Ji j (Sd (λv x _=>?_) (λb v x _=>?_) (λi v x _=>?_) (λs v x _=>?_) (λb v x _=>?_) (λxs I v x m=>?_) (λxs I v x m=>?_) j p) vs x m
 .cases x;exact .aJ
 .cases x;exact .bl b
 .cases x;exact .int i
 .cases x;exact .str s
 .cases x;let z:=Dw.jf (K:=K) (H:=i6 K h A) b.toArray;exact z
 .let(a,vs,rfl,F,J):=R9 x;let(h2,hs):=aeo G M m F;exact .lst hs (Ji xs I _ J h2)
 .let(a,vs,rfl,F,J):=Sa x;let(h2,hs):=aep G M m F;exact .tup hs (Ji xs I _ J h2)
end
def aer{j:List WData}(h:WData.layableAll j=true):∀d∈j,d.weight<=1048576:=λd hd=>
 (PySem.W.layableW_iff.mp (lx.mp h d hd)).2.2
theorem aes(cs:List Codec):∀(a:Codec.denoteAll cs),(Codec.encAll cs a).length=cs.length:=by
 induction cs with
 |nil=>exact @λ_=>Á
 |cons c cs I=>
  intro a;show(Codec.encAll cs a.2).length+1=cs.length+1;rw[I a.2]
section
variable{K:FR}{H H':Hp}
def aet(s:ai H H')(h:Ť a xs):bu K H' a xs:=by
 rcases h with (h|⟨o,h⟩)|h
 .exact .inl (.inl (s _ _ h))
 .exact .inl (.inr ⟨o,s _ _ h⟩)
 .exact .inr h
def aeu(s:ai H H')(j:List WData)(vs:au)(x:l8 K H vs j):l8 K H' vs j:=
 l8.rec (motive_1:=λv d _=>Dw K H' v d) (motive_2:=λvs j _=>l8 K H' vs j) .aJ .bl .int .str .jf (λh _ r=>.lst (s.seq h) r) (λh _ r=>.tup (aet s h) r) .nil (λ_ _ h r=>.cons h r) x
end
def aev{P:Pg}{w:Wd}{K:FR}{mg mb:MG}{CX:nh}{k:Nat}{fa:Addr}{fd:FD}{ps:LS}{sp:Sp}{s₁:Sh}{G:LV}{I:List WData}{R:PySem.W.WRecords}{cl:Str->OA}{d0:WData}{c T:Addr}(KX:K.In s₁.heap) (om:s₁.heap.Ns mainGlobals mg) (J:s₁.heap.Ns builtinsNs mb) (hbb:∀x:Str,x≠"__name__"->mb x=bootBuiltins x) (aex:s₁.heap.NoLimit) (hg:s₁.gens= #[])(Y:WellAll w.params s₁.heap G I) (c9:pR I=true) (hwt:∀d∈I,d.weight<=1048576) (hr:dv k callerA) (hT:s₁.heap.TableAt c T #[]) (Sg:K.lookup T=none) (vM:xD mg s₁.heap)(F:∀base:Heap,K.In base->base.Ns mainGlobals mg->xD mg base->Ì CX k fa fd ps sp) (Je:∀(s:Sh)(us:LV),us.length=ps.length->BindsTo s fd ⟨us,[]⟩ Ài) (cK:I.length=ps.length)(iZ:∀(H:Hp)(xs:au),H T=some (.gG #[])->l8 K H xs I->sp xs H (λv H'=>Dw K H' v d0) λ_ _ _=>False)(Jj:∀H e s',CX [] H s₁ (λ_ _ _=>False) e s'->False):
  codeAny Àj callerA (.call (.ref fa) ⟨G,[]⟩) (λr s'=>∃u as,r=.ok (.ret u)/\ReadsW R cl s'.heap u d0 as/\OldK s₁.heap s'.heap/\s'.os=s₁.os/\AllBare s'.gens) s₁:=by
 let(A,ho,M):=aem I G Y c9 hwt;let Z:s₁.heap.get? T=some {cls:=.none,data:=.fields #[]}:=hT.2;let uh:∀{b:Addr}{o:Obj},s₁.heap.get? b=some o->(∀vs n,o.data≠ .seq vs n)->Ğ A b=none:=λ{b o}e d=>by
  cases q:Ğ A b with
  |none=>rfl
  |some u=>
   obtain⟨_,vs,_,_,⟨U,_⟩|⟨U,_⟩⟩:=EB M q
   .grind
   .grind
 let aT:=uh Z λvs n z=>by cases z
 let sm:ai (Ğ A) (upd (Ğ A) T (.gG #[])):=λb o e=>by
  rw[ao (eK e aT)];exact e
 let hS:=aeu sm _ _ (aeq KX M I G Y c9 ho);let hV:=Bz ho;let O:upd (Ğ A) T (.gG #[]) T=some (.gG #[]):=aq;let hN:∀b,b≠T->upd (Ğ A) T (.gG #[]) b=i6 K s₁.heap A b:=λb J=>ao J;let hO:∀b u,b≠T->upd (Ğ A) T (.gG #[]) b=some u->∃o u',u=.cu o u':=λb u J e=>by
  rw[hN b J] at e;obtain⟨_,vs,_,_,⟨_,e⟩|⟨_,e⟩⟩:=EB M e
  .symm
  .symm
 let ax:dy P w (upd (Ğ A) T (.gG #[])) s₁.heap:=λb u q=>by
  by_cases j:b=T
  .subst j;rw[O] at q;cases q;exact Z
  .rw[hN b j] at q;obtain⟨_,vs,h1,h2,⟨e,rfl⟩|⟨e,rfl⟩⟩:=EB M q
   .exact(e,by simp_all,vs,_,Bz h2,e)
   .exact(e,by simp_all,vs,Bz h2,_,e,rfl,_,rfl)
 let hK:∀b u,upd (Ğ A) T (.gG #[]) b=some u->K.lookup b=none:=λb u q=>by
  by_cases j:b=T
  .grind
  .rw[hN b j] at q;exact(EB M q).1
 let Jl:∀{b:Addr}{o:Obj},s₁.heap.get? b=some o->(∀vs n,o.data≠ .seq vs n)->(∀vs,o.data≠ .fields vs)->upd (Ğ A) T (.gG #[]) b=none:=λ{b o}e d1 d2=>by
  grind
 generalize upd (Ğ A) T (.gG #[])=H at hS O hO ax hK Jl;let Jm:∀{b:Addr}{o:Obj},s₁.heap.get? b=some o->H b=none->(ud s₁.heap H).get? b=some o:=λe n=>Zo e n;let S:∀{b:Addr}{m:MG},s₁.heap.Ns b m->(ud s₁.heap H).Ns b m:=λ{b m} ⟨o,es,ep,e,d,r⟩=>⟨o,es,ep,Jm e (Jl e (λvs n z=>by simp_all) λvs z=>by simp_all),d,r⟩;let nK:∀b o,K.lookup b=some o->H b=none:=λb o e=>by
  cases q:H b with
  |none=>rfl
  |some u=>
   grind
 let Si:=λb o e=>Jm (KX b o e) (nK b o e);let hM:Mod K mg Æf:=⟨Si,S om,⟨mb,S J,hbb⟩,let ⟨mc,h1,h2⟩:=aex;⟨mc,S h1,h2⟩⟩;let hBm:xD mg Æf:=by
  let(bm,ob,b1,b2,b3,b4,b5,b6):=vM;exact(bm,ob,b1,b2,Jm b3 (Jl b3 (λvs n z=>by simp_all) λvs z=>by simp_all),b4,b5,b6)
 let e0:oy P w K mg Æf callerA [] s₁ H:=⟨rfl,hM,λb o e=>Zp e,C5 (Zn _ _),trivial,λb J=>absurd (show b∈([]:LA) from J) Ä,ax,.of_eq hg⟩;let hl:G.length=ps.length:=by rw[Jg Y];exact cK
 apply u6 ((F _ Si (S om) hBm).run callerA [] s₁ H ⟨G,[]⟩ G (G.map toV) _ _ hr e0 (Je s₁ G hl) hV (iZ H _ O hS)) λr s' x=>?_;cases r with
 |error e=>exact(Jj H e s' x).elim
 |ok fl=>
  cases fl with
  |next=>exact False.elim x
  |brk=>exact False.elim x
  |cont=>exact False.elim x
  |ret u=>
   let(v,H',os,bare,un,Jn,r',q):=x;let kept:=λb o j e=>by
    cases q2:H b with
    |none=>exact un.keep b o e q2 (by intro z;exact absurd (show b∈([]:LA) from z) Ä) Ä
    |some u2=>
     let(ob,u3,rfl):=hO b u2 j q2;let z2:=un.m5 b ob _ q2;let(e1,_):=ax b _ q2;let(U,_):=Jn b _ z2;symm
   let KX':=λb o e=>kept b o (λz=>by simp_all) (KX b o e);let(as,Sj):=Dw.reads (R:=R) (cl:=cl) Jn KX' d0 v u q r';let(jc,e1):=un.pB T #[] O;let U:s'.heap.get? T=some {cls:=.none,data:=.fields (#[]++jc)}:=Jn T _ e1;apply(u,as,Á,Sj,⟨λb o e=>?_,λb o e=>?_⟩,os,bare)
   .by_cases j:b=T
    .subst j;rw[Z] at e;cases e;exact .inr (.inl ⟨hT.isCodeTable,Á,#[],jc,Á,U⟩)
    .exact .inl (kept b o j e)
   .grind
def aeB{r:OpenSpec}{k:Nat}{q:Pg}{loose:LS}{XP:MG->Heap->Prop}{YP:Wd->Heap->Prop}{d:DefRec}{K:Params->FR}{CX:nh}{ps:LS}{sp:FR->Addr->Sp}(I:r.wellSaid=true) (Jo:d.params.defaults=[]) (cK:r.args.length=ps.length) (hr:dv k callerA)(hY:∀(w:Wd)(h:Heap),YP w h->(K w.params).In h) (Jb:((recsOf q).any λd'=>d'.name==d.name)=true)(F:∀(w:Wd)(mg:MG)(j:Addr)(h:Heap),YP w h->(K w.params).In h->h.Ns mainGlobals mg->mg d.name=some (.ref j)->
   ∃(fd:FD)(o:Obj)(c T:Addr),(K w.params).lookup j=some o/\o.data=.func fd/\fd.code=.ref c/\Bv Æy c T/\(K w.params).lookup T=none/\(∀(s:Sh)(us:LV),us.length=ps.length->BindsTo s fd ⟨us,[]⟩ Ài)/\
    ∀base:Heap,(K w.params).In base->base.Ns mainGlobals mg->xD mg base->a7 r.prog w Æy mg base CX k j fd ps (sp Æy T))
  (iZ:∀(K:FR)(T:Addr)(H:Hp)(xs:au)(a:Codec.denoteAll r.args),H T=some (.gG #[])->Codec.withinAll r.args a=true->Codec.app r.args r.asked a=true->l8 K H xs (Codec.encAll r.args a)->
   sp K T xs H (λv H'=>Dw K H' v (r.ret.enc (Codec.app r.args r.f a))) λ_ _ _=>False)
  (Jj:∀(H:Hp)(s:Sh)(e:Value)(s':Sh),CX [] H s (λ_ _ _=>False) e s'->False):
  PySem.W.WalkOS q loose XP YP r d [] (λf vs=>PySem.call f vs):=by
 intro w g8 s₁ mg mb G Y j o pm cd iS dV kV ho hd kJ hD U hg args tO as Sk J Sj BA hlo;let(a,e1,e2):=PySem.W.os_pre_some Sk;let(e3,uk):=Codec.encAll_of_decAll r.args args a e1;subst e3;let m:=hY w _ Y;let(fd,o',c,T,k1,k2,k3,hC,Sg,hb,hF):=F w mg j _ Y m G.T.g U;let(d',pF,S):=vc.mp Jb;let S:=wK.mp S;let(a',o2,fd',c',Z,t1,t2,t3,t4,t5,t6):=G.T.tab d' pF;rw[S,U] at t1;cases t1;rw[m _ _ k1] at t2;cases t2;rw[k2] at t3;cases t3;rw[k3] at t4;cases t4;let O:Z=T:=by
  let((ob,vs,f1,f2,f3,f4),_):=t6;let(ob2,vs2,_,_,_,_,_,_,_,g1,g2,g3,g4,_):=hC _ m;symm
 subst O;refine PySem.W.enter_call (u6 (aev (R:=[]) (cl:=classAt g8.heap) (d0:=r.ret.enc (Codec.app r.args r.f a)) m G.T.g G.T.b G.T.builtins G.T.nolimit hg BA (aej _ _) (aer J) hr t6 Sg G.T.bmain hF hb (by rw[aes];exact cK)
  (λH xs hO hS=>iZ Æy Z H xs a hO uk e2 hS) λH e s'=>Jj H s₁ e s') λr' s' hq=>?_)
 let(u,M,rfl,h1,h2,h3,h4):=hq;exact(.inl ⟨u,_,M,Á,λ_=>Á,h1,(OpenSpec.post_iff I uk _ _).mpr Á,λz=>Bool.noConfusion z⟩,h2,h3,h4)
def Sl{K:FR}{c T:Addr}{od:OA}{sl:AO}{O v1 S U W Y Z v8 xE J j m F G:Value}{fl M:Int}{I tt:Tok}{b:Bool}{x:Str}{ts:Tok}(l:K.lookup c=some ⟨.type "code",od,.fields #[O,v1,S,U,W,Y,Z,.int fl I,v8,.bool b,.int M tt,.ref T,xE,J,j,m,F,G,.str x ts],sl⟩) (ne:(c==T)=false):Bv K c T:=λh X=>
 ⟨_,_,_,_,_,_,_,_,_,X _ _ l,rfl,rfl,rfl,rfl,rfl,rfl,rfl,rfl,λz=>by rw[z] at ne;simp at ne⟩
end L2
end
section
namespace JM
open Flags
def aI(m:Int):LI->di
 |[]=>[[]]
 |x::r=>if x=m then []::aI m r else match aI m r with
  |[]=>[[x]]
  |w::l=>(x::w)::l
def vN(m:Int)(ps:di)(x:Int):di:=
 if x=m then ps++[[]] else ps.dropLast++[ps.getLastD []++[x]]
theorem lJ(m:Int):∀l,aI m l≠[]:=by
 intro l;induction l with
 |nil=>
  simp[aI]
 |cons x r I=>
  delta aI;split
  .simp
  .split <;> simp
def Ju(m x:Int)(w:LI)(l:di)(h:l≠[]):vN m (w::l) x=w::vN m l x:=by
 delta vN;split
 .rfl
 .cases l with
  |nil=>symm
  |cons a l=>rfl
theorem aeG(m x:Int):∀l,aI m (l++[x])=vN m (aI m l) x:=by
 intro l;induction l with
 |nil=>
  by_cases h:x=m <;> simp[aI,vN,h]
 |cons y r I=>
  let I:=I;let j:=lJ m r;show aI m (y::(r++[x]))=_;delta aI;split
  .rw[I,Ju _ _ _ _ j]
  .rw[I];cases e:aI m r with
   |nil=>exact absurd e j
   |cons w l=>
    cases l with
    |nil=>by_cases z:x=m <;> simp[vN,z]
    |cons a l=>
     rw[Ju m x w (a::l) Ä];rw[Ju m x (y::w) (a::l) Ä]
def k7:LI:=[48,49,50,51,52,53,54,55,56,57,97,98,99,100,101,102]
def pU:LI:=k7++[63]
def jA:LI:=[115,101,101,110]
def uA:di:=[[102,114,111,110,116],[98,101,104,105,110,100],[117,110,107,110,111,119,110]]
def iu:di:=[[104,111,105,115,116],[104,111,105,115,116,32,97,98,111,118,101],[104,111,105,115,116,32,98,101,108,111,119],[104,111,105,115,116,32,97,98,111,118,101,32,98,101,108,111,119]]
def iw:di:=[[115,113,117,97,114,101],[116,97,105,108,115],[108,111,110,103],[115,104,97,112,101,63]]
def B(n:Int):UInt8:=UInt8.ofNat n.toNat
def a9(l:LI):Prop:=∀x∈l,0<=x/\x<=255
def Jv(h:0<=x/\x<=255):(B x).toNat=x.toNat:=by
 delta B;rw[UInt8.toNat_ofNat'];omega
def Sm(j:0<=x/\x<=255)(m:0<=y/\y<=255)(e:B x=B y):x=y:=by
 let:=cE UInt8.toNat e;rw[Jv j,Jv m] at this;omega
theorem vO:∀{a b:LI},a9 a->a9 b->a.map B=b.map B->a=b
 |[],[],_,_,_=>rfl
 |[],_::_,_,_,e=>by simp at e
 |_::_,[],_,_,e=>by simp at e
 |x::a,y::b,ha,hb,e=>by
  simp only[a0,List.cons.injEq] at e;rw[Sm (ha x gy) (hb y gy) e.1,vO (λz j=>ha z (aO _ j)) (λz j=>hb z (aO _ j)) e.2]
theorem xF(m:Int)(j:0<=m/\m<=255):∀l,a9 l->cutAt (B m) ĵ=(aI m l).map é:=by
 intro l;induction l with
 |nil=>exact @λ_=>Á
 |cons x r I=>
  intro h;let F:=h x gy;let I:=I λz G=>h z (aO _ G);show(if B x=B m then []::cutAt (B m) (r.map B) else match cutAt (B m) (r.map B) with
   |[]=>[[B x]]
   |w::l=>(B x::w)::l)=(aI m (x::r)).map é
  delta aI;by_cases e:x=m
  .rw[af e,af (by rw[e]),I];rfl
  .rw[ah e,ah λq=>e (Sm F j q),I];cases aI m r with
   |nil=>rfl
   |cons w l=>rfl
theorem pV(m:Int):∀{l},a9 l->∀w∈aI m l,a9 w:=by
 intro l;induction l with
 |nil=>
  intro _ w j;simp[aI] at j;subst j;intro z F;cases F
 |cons x r I=>
  intro h w j;let I:=I λz F=>h z (aO _ F);delta aI at j;split at j
  .rcases ba.mp j with rfl|j
   .intro z F;cases F
   .exact I w j
  .cases e:aI m r with
   |nil=>exact absurd e (lJ m r)
   |cons a l=>
    rw[e] at j I;rcases ba.mp j with rfl|j
    .intro z F;rcases ba.mp F with rfl|F
     .exact h _ gy
     .exact I a gy z F
    .exact I w (aO _ j)
theorem aeH(m:Int){l:LI}:m∉l->aI m l=[l]:=by
 induction l with
 |nil=>exact @λ_=>Á
 |cons x r I=>
  intro h;let j:¬x=m:=λe=>h (by rw[e];exact gy);let h2:=I λq=>h (aO _ q);delta aI;rw[ah j,h2]
theorem Sn(m:Int)(r:LI){l:LI}:m∉l->aI m (l++m::r)=l::aI m r:=by
 induction l with
 |nil=>
  intro _;show aI m (m::r)=_;delta aI;rw[af rfl];split <;> rfl
 |cons x l I=>
  intro h;let j:¬x=m:=λe=>h (by rw[e];exact gy);let h2:=I λq=>h (aO _ q);show(if x=m then []::aI m (l++m::r) else match aI m (l++m::r) with
   |[]=>[[x]]
   |w::l=>(x::w)::l)=_
  rw[ah j,h2]
def glue(m:Int):di->LI
 |[]=>[]
 |[w]=>w
 |w::r=>w++m::glue m r
theorem aeI(m:Int)(w:LI)(h:r≠[]):glue m (w::r)=w++m::glue m r:=by
 cases r with
 |nil=>symm
 |cons a r=>rfl
theorem aeJ(m:Int):∀l,glue m (aI m l)=l:=by
 intro l;induction l with
 |nil=>exact Á
 |cons x r I=>
  let I:=I;let j:=lJ m r;delta aI;split
  .rename_i e;rw[aeI m [] j,I,e];rfl
  .cases e:aI m r with
   |nil=>exact absurd e j
   |cons w l=>
    rw[e] at I;cases l with
    |nil=>
     show x::w=x::r;rw[show w=r from I]
    |cons a l=>
     rw[<-I];rfl
def vP(c:LI):Bool:=c.length==16&&c.all k7.contains
def EF(h:l.all (λx=>decide (0<=x)&&decide (x<=255))=true):a9 l:=λx j=>by
 symm
def aeK(h:0<=x/\x<=255):(hexValue (B x)).isSome=k7.contains x:=by
 let e:=(by decide+kernel:∀n<256,(hexValue (B (n:Nat))).isSome=k7.contains ((n:Nat):Int)) x.toNat Æ
 rwa [apv h.1] at e
theorem mapM_some(f:α->Option β):∀l:List α,(l.mapM f).isSome=l.all (λx=>(f x).isSome):=by
 intro l;induction l with
 |nil=>exact Á
 |cons x r I=>
  let I:=I;rw[Hc,rL,<-I];cases f x with
  |none=>rfl
  |some y=>
   cases r.mapM f with
   |none=>rfl
   |some z=>rfl
def Jw(h:a9 l)(e:∀x,0<=x/\x<=255->f x=g x):l.all f=l.all g:=by
 rw[pj,lx,lx];exact(λq x j=>by rw[<-e x (h x j)];exact q x j,λq x j=>by rw[e x (h x j)];exact q x j)
def So(h:a9 c):(lookIn Åv).isSome=vP c:=by
 delta lookIn vP;rw[aA];by_cases e:c.length=16
 .rw[ah (λq=>q e),Dg,mapM_some,rM];rw[show c.all ((λx=>(hexValue x).isSome)∘B)=c.all k7.contains from Jw h (λx j=>aeK j),e];rfl
 .symm
def preOf(b:LI):LI:=jA++32::(b++[32])
def aeL{b:LI}(h:a9 b):a9 (preOf b):=λx j=>by
 delta preOf at j;rcases gR.mp j with q|q
 .exact EF (l:=jA) Ù x q
 .rcases ba.mp q with q|q
  .subst q;decide
  .rcases gR.mp q with q|q
   .exact h x q
   .let:x=32:=by simpa using q
    subst this;decide
def aeM(m:a9 w)(S:a9 b):
  ((ascii "seen"++32::(b.map B++[32])).isPrefixOf ħ &&(lookIn ((w.map B).drop (6+(b.map B).length))).isSome)=true↔ ∃c,w=jA++32::(b++32::c)/\vP c=true:=by
 let G:ascii "seen"++32::(b.map B++[32])=(preOf b).map B:=by
  delta preOf;rw[bX,a0,bX];rfl
 let el:(preOf b).length=6+b.length:=by
  delta preOf;rw[mU,c7,mU];show 4+(b.length+1+1)=_;omega
 rw[G,jw,List.isPrefixOf_iff_prefix,aA,<-O4];constructor
 .rintro⟨⟨t,U⟩,F⟩;let hd:a9 (w.drop (6+b.length)):=λx j=>m x (Yh j);rw[So hd] at F;apply(w.drop (6+b.length),?_,F);let O:(w.take (6+b.length)).map B=(preOf b).map B:=by
   let:=cE (List.take (6+b.length)) U;rw[<-List.map_take] at this;grind
  let h2:=vO (λx j=>m x (Hd j)) (aeL S) O;let z:=O5 (6+b.length) w;rw[h2] at z;apply z.symm.trans ?_;delta preOf;simp
 .rintro⟨c,rfl,hc⟩;let I:jA++32::(b++32::c)=preOf b++c:=by
   delta preOf;simp
  rw[I] at m⊢;let J:=λx j=>m x (tX _ j);let M:(preOf b++c).drop (6+b.length)=c:=by
   symm
  rw[M,So J];symm
def dQ(s:Nat):LI:=uA.getD s []
def Sq:∀s∈[0,1,2],sideWord s=(dQ s).map B/\a9 (dQ s)/\uA.contains (dQ s)=true:=by
 intro s hs;let:s=0\/s=1\/s=2:=À hs
 rcases this with rfl|rfl|rfl <;> exact(by decide,EF Ù,by decide)
def pS(l:Bytes)(s:Nat):Bool:=(ascii "seen"++32::(sideWord s++[32])).isPrefixOf l&&(lookIn (l.drop (6+(sideWord s).length))).isSome
def Sr(m:a9 w)(hs:s∈[0,1,2]):pS ħ s=true↔ ∃c,w=jA++32::(dQ s++32::c)/\vP c=true:=by
 let(e,j,_):=Sq s hs;delta pS;rw[e];exact aeM m j
def Ss{w:LI}(z:a9 w){l:di}(m:∀x∈l,a9 x):w.map B∈l.map é↔w∈l:=by
 rw[cf];constructor
 .rintro⟨x,j,e⟩;rw[<-vO (m x j) z e];exact j
 .grind
def fH(l:Bytes):Option (Bool×Bool):=[(false,false),(true,false),(false,true),(true,true)].find? λ(x:Bool×Bool)=>(Glimpse.lines ⟨x.1,x.2,[]⟩).head?==some l
def fF(l:Bytes):Option Nat:=[0,1,2,3].find? λ(s:Nat)=>shapeSeen s==l
def Su(l:di)(h:l.all (λw=>w.all (λx=>decide (0<=x)&&decide (x<=255)))=true):∀x∈l,a9 x:=λx j=>EF (lx.mp h x j)
def aeN{w:LI}(z:a9 w):(fH ħ).isSome=iu.contains w:=by
 let e:iu.map é=[(false,false),(true,false),(false,true),(true,true)].map (λ(x:Bool×Bool)=>((Glimpse.lines ⟨x.1,x.2,[]⟩).head?).getD []):=by decide
 let m:∀x∈[(false,false),(true,false),(false,true),(true,true)],(Glimpse.lines ⟨x.1,x.2,[]⟩).head?=some (((Glimpse.lines ⟨x.1,x.2,[]⟩).head?).getD []):=by decide
 rw[pj];delta fH;rw[List.find?_isSome];rw[show(iu.contains w=true↔w∈iu) from by simp,<-Ss z (Su iu Ù),e,cf];constructor
 .rintro⟨x,j,h⟩;apply(x,j,?_);rw[eq_of_beq h];rfl
 .rintro⟨x,j,h⟩;apply(x,j,?_);rw[m x j,h];exact Yi _
def aeO{w:LI}(j:a9 w):(fF ħ).isSome=iw.contains w:=by
 let e:iw.map é=[0,1,2,3].map shapeSeen:=by decide
 rw[pj];delta fF;rw[List.find?_isSome];rw[show(iw.contains w=true↔w∈iw) from by simp,<-Ss j (Su iw Ù),e,cf];simp
def aeP(l:Bytes):plateLine l=match [0,1,2].find? (pS l) with
  |some s=>(lookIn (l.drop (6+(sideWord s).length))).map λ(x:Nat)=>.seen s x
  |none=>match fH l with
   |some x=>some (.hoist x.1 x.2)
   |none=>match fF l with
    |some s=>some (.flag s)
    |none=>if l.length=4 then (l.mapM cellIn).map .cells else none:=rfl
def Jy{p:LI}(h:a9 p):PlateNeutral.text? p=some Àz:=by
 delta PlateNeutral.text?;rw[af ?_]
 .rfl
 .delta NeutralIO.bytes;rw[lx];intro x j;let:=h x j;symm
end JM
end
section
namespace HD
open PySem PySem.Spec PyProof.Rows L2
abbrev Jz:Stmt:=top 6
abbrev JA:Stmt:=top 7
abbrev JB:Stmt:=top 15
abbrev JC:Stmt:=top 16
abbrev JD:Stmt:=top 17
abbrev JE:Stmt:=top 18
abbrev JF:Stmt:=top 19
abbrev JG:Stmt:=top 20
abbrev JH:Stmt:=top 21
abbrev JI:Stmt:=top 22
abbrev aeQ:Stmt:=inClass (top 33) 0
abbrev aeR:Stmt:=inClass (top 34) 0
abbrev JJ:Stmt:=top 35
abbrev JK:Stmt:=top 36
abbrev JL:Stmt:=top 37
abbrev JN:Stmt:=top 38
abbrev JO:Stmt:=top 39
abbrev JP:Stmt:=top 41
abbrev JQ:Stmt:=top 42
abbrev JR:Stmt:=top 43
abbrev JS:Stmt:=inClass (top 60) 0
abbrev aeS:Stmt:=inClass (top 61) 0
abbrev aeT:Stmt:=inClass (top 62) 0
abbrev aeU:Stmt:=inClass (top 63) 0
abbrev JT:Stmt:=top 64
abbrev JU:Stmt:=top 65
abbrev JV:Stmt:=top 66
abbrev JW:Stmt:=top 67
abbrev JX:Stmt:=top 68
abbrev JY:Stmt:=top 69
abbrev JZ:Stmt:=top 70
abbrev J0:Stmt:=top 71
abbrev J1:Stmt:=top 72
abbrev J2:Stmt:=top 74
abbrev aeV:Stmt:=inClass (top 75) 0
abbrev J3:Stmt:=top 76
abbrev J4:Stmt:=top 77
abbrev J5:Stmt:=top 78
abbrev J6:Stmt:=top 79
abbrev J7:Stmt:=top 80
abbrev J8:Stmt:=top 81
abbrev J9:Stmt:=top 82
abbrev aeW:Stmt:=inClass (top 84) 0
abbrev Ka:Stmt:=top 85
abbrev Kb:Stmt:=top 86
abbrev Kc:Stmt:=top 87
abbrev Kd:Stmt:=top 88
abbrev Ke:Stmt:=top 89
abbrev Kf:Stmt:=top 90
abbrev Kg:Stmt:=top 91
abbrev Kh:Stmt:=top 92
abbrev Ki:Stmt:=top 93
abbrev Kj:Stmt:=top 94
abbrev Kk:Stmt:=top 95
abbrev aeX:Stmt:=inClass (top 103) 0
abbrev aeY:Stmt:=inClass (top 104) 0
abbrev Kl:Stmt:=top 105
abbrev Km:Stmt:=top 106
abbrev Ko:Stmt:=top 107
abbrev Kq:Stmt:=top 108
abbrev Kr:Stmt:=top 109
abbrev Ks:Stmt:=top 110
abbrev Ku:Stmt:=top 112
abbrev aeZ:Stmt:=inClass (top 116) 0
abbrev Kw:Stmt:=top 117
abbrev Kx:Stmt:=top 118
abbrev Ky:Stmt:=top 119
abbrev Kz:Stmt:=top 120
abbrev KA:Stmt:=top 121
abbrev ae0:Stmt:=inClass (top 123) 0
abbrev pW:Stmt:=top 124
abbrev KB:Stmt:=top 125
abbrev KC:Stmt:=top 126
abbrev KD:Stmt:=top 127
abbrev ae1:Str:="are_in_order_lockers"
end HD
end
section
namespace HD
open PySem PySem.Spec PyProof.Rows L2
open PySem.W (Codec)
def pX(H H':Hp)(p:Addr)(o:HO):Prop:=ai H H'/\H p=none/\H' p=some o
def aL{H:Hp}{p:Addr}{o:HO}(h:H p=none):ai H (upd H p o):=λb u e=>by rw[ao (eK e h)];exact e
def fm{H H1:Hp}{p:Addr}{o:HO}(s:ai H H1)(h:H p=none):ai H (upd H1 p o):=λb u e=>by rw[ao (eK e h)];exact s b u e
def codes(x:Str):LI:=x.cps.toList.map λn=>((n:Nat):Int)
abbrev iv(l:LI):au:=l.map V.int
def Sv(l:LI)(z:Int):iv (l++[z])=iv l++[.int z]:=by
 simp
def eO{A B:Hp->Prop}(h:A H):A5 σ H (λb j=>if b=true then A j else B j):=by
 delta A5;symm
def take_snoc{α:Type}{l:List α}{i:Nat}{x:α}(h:l[i]? =some x):l.take (i+1)=l.take i++[x]:=by
 rw[List.take_succ,h];rfl
def gV{n:Nat}(h:n<=1000000):n<sizeLine:=pz h (by rw[va];decide)
inductive BB(vs:au)(H:Hp)(Q:VK)(E':XK):Prop
 |mk (x:Str) (_:vs=[.str x]) (_:x.cps.size<=100000) (_:∀H' p,Ϡ (.lst (iv ş))->Q ģ H')
section
variable{P:Pg}{w:Wd}{K:FR}{mg:MG}{base:Heap}
def KF:bH ["written","sign"] ["written"] (aV JB):=ì
def ae2{f:Addr}{fd:FD}(F:br K "spelled" "spelled" JB f fd)(j:mg "ord"=none):Ì aE 1 f fd ["written"] BB:=by
 refine F.ok KF Â;let(x,rfl,G,k):=h;refine⟨_,aD (aY (eF (own:=[("sign",1)]) Á KF.nd (ab9 Ú) Ë (λ_ _ _ _ _=>dJ 1 KF.nd) Ö
  (λ_ _ _ _ _=>c8 Z4 Ô j boot_ord Ŕ))),?_⟩
 apply(_,Á,x,Á,λD m=>ac1 (λi H'=>ai H H'/\H' D=some (.lst (iv ((codes x).take i)))) ⟨aL m,aq⟩ (λi c H' hc ⟨S,hd⟩=>⟨Á,eO ?_⟩) (λH' ⟨S,hd⟩=>?_))
 .let z:=(Aq.mp hc).1;let J:ş[i]? =some (c:Int):=by
   delta codes;symm
  apply(_,Á,_,Á,Á,_,hd,?_,fm S m,?_)
  .rw[aA,mT];exact pz (Nat.min_le_left _ _) (gV Æ)
  .rw[aq,take_snoc J,Sv];rfl
 .apply k H' D ⟨S,m,?_⟩;rw[hd];let:(codes x).length=x.cps.size:=by delta codes;rw[aA,wJ]
  grind
abbrev eB(H:Hp)(j:LA)(L:di):Prop:=Paired (λq l=>H q=some ň) j L
inductive vQ(K:FR)(vs:au)(H:Hp)(Q:VK)(E':XK):Prop
 |mk (a:Addr) (m:Int) (ns:LI) (_:vs=[.ref a,.int m]) (_:â a (iv ns)) (_:ns.length<=100000) (_:∀H' p qs,Ϡ Ď->eB H' qs (JM.aI m ns)->qs.Nodup->p∉qs->(∀q∈qs,H q=none)->Q ģ H')
def eB.same(h:eB H qs L)(s:ai H H'):eB H' qs L:=Paired.lS h λq l e=>s _ _ e
def eB.len(h:eB H qs L):qs.length=L.length:=Paired.length h
theorem eB.upd(h:eB H qs L)(n:p∉qs):eB (upd H p o) qs L:=by
 induction h with
 |nil=>exact .nil
 |cons r t I=>exact .cons (by rw[ao (λz=>n (by rw[z];exact gy))];exact r) (I λz=>n (aO _ z))
theorem eB.mem(h:eB H qs L):∀q∈qs,∃l∈L,H q=some ň:=by
 induction h with
 |nil=>intro q h;cases h
 |cons r t I=>
  intro q h;rcases ba.mp h with rfl|h
  .exact(_,gy,r)
  .let(l,j,e):=I q h;exact(l,aO _ j,e)
theorem eB.snoc(e:H q=some ň)(h:eB H qs L):eB H (qs++[q]) (L++[l]):=by
 induction h with
 |nil=>exact .cons e .nil
 |cons r t I=>exact .cons r I
theorem eB.last(h:eB H qs L):L≠[]->∃G q,qs=G++[q]/\eB H G L.dropLast/\H q=some (.lst (iv (L.getLastD []))):=by
 induction h with
 |nil=>exact λh=>absurd Á h
 |cons r t I=>
  intro _;cases t with
  |nil=>exact([],_,Á,.nil,r)
  |cons z t=>
   let(G,j,e,t',m):=I Ä;exact(_::G,j,by rw[e];rfl,.cons r t',m)
def KG:bH ["text","mark","parts","byte"] ["text","mark"] (aV JC):=ì
theorem EG(m:Int):∀l:LI,(JM.aI m l).length<=l.length+1:=by
 intro l;induction l with
 |nil=>
  simp[JM.aI]
 |cons x r I=>
  let I:=I;delta JM.aI;split
  .simp only[c7];omega
  .split
   .simp
   .rename_i w l e;rw[e] at I;simp only[c7] at I⊢;omega
theorem xG(m:Int)(l:LI):∀(w:LI),w∈JM.aI m l->w.length<=l.length:=by
 induction l with
 |nil=>
  intro w h;simp[JM.aI] at h;simp[h]
 |cons x r I=>
  intro w h;let I:=I;delta JM.aI at h;split at h
  .rcases ba.mp h with rfl|h
   .simp
   .let:=I w h;simp only[c7];omega
  .cases e:JM.aI m r with
   |nil=>exact absurd e (JM.lJ m r)
   |cons W l=>
    rw[e] at h I;rcases ba.mp h with rfl|h
    .let:=I W gy;simp only[c7];omega
    .let:=I w (aO _ h);simp only[c7];omega
inductive CtI(a p:Addr)(m:Int)(ns:LI)(H:Hp)(i:Nat)(σ:L2.St)(H':Hp):Prop
 |mk (v:Option V) (qs:LA) (_:σ=[some Ĝ,some (.int m),some ģ,v]) (_:ai H H') (_:H' p=some Ď) (_:eB H' qs (JM.aI m Ço)) (_:qs.Nodup) (_:p∉qs) (_:∀q∈qs,H q=none)
def ae5{f:Addr}{fd:FD}(F:br K "cut" "cut" JC f fd):Ì aE 1 f fd ["text","mark"] (vQ K):=by
 refine F.ok KG Â;let(a,m,ns,rfl,hS,hl,k):=h;refine⟨_,aB (cj 2 KG.nd (eE Än))
  (aB (ϊ Åg (dJ 3 KG.nd)
   (aD (dq (cI ic ö á (bT _))
    (aD (rY (Þ ç Än)))
    (aD (rY (Þ (cA cY ç (jh jM bo) Ø) ı))))))
  Æw),?_⟩
 apply(dY _,λq0 U=>⟨(by show 1<=sizeLine;decide),λp W=>?_⟩);let qz:=(aL U).free W;let pq:p≠q0:=λz=>by rw[z,aq] at W;cases W
 refine⟨_,Á,a,Á,⟨_,(fm (aL U) qz).seq hS⟩,w6 (K:=K) (a:=a) (xs:=iv ns) (CtI a p m ns H)
  ⟨none,[q0],rfl,fm (aL U) qz,aq,.cons (by rw[ao (dX pq)];exact aq) .nil,by simp,À pq,À U⟩ (λi σ H' _ h=>(by let(_,_,_,S):=h;exact S.seq hS)) ?_ ?_⟩
 .rintro i y σ H' hi ⟨v,O,rfl,S,j,h2,J,G,M⟩;obtain⟨z,hz,rfl⟩:∃z,ns[i]? =some z/\y=V.int z:=by
   rw[bW] at hi;cases e:ns[i]? with
   |none=>rw[e] at hi;cases hi
   |some z=>rw[e] at hi;exact(z,Á,(aN hi).symm)
  let d8:=(bO.mp hz).1;let et:=take_snoc hz;let ec:=JM.aeG m z Ço;let lq:O.length<=i+1:=by
   rw[h2.len];apply gQ (EG m _) ?_;rw[mT];omega
  refine⟨_,Á,_,Á,Á,_,Á,a8 Ï Ï⟩
  .simp at hc;apply(_,Á,.inl ⟨Á,_,aa.of j⟩,dY _,λq I=>⟨p,_,_,Á,Á,(by rw[ao (eK j I)];exact j),(by rw[aA];exact gV Æ),?_⟩);let Z:=S.free I;let Sw:q∉O:=λhm=>by
    let(l,_,r):=eB.mem h2 q hm;rw[r] at I;cases I
   apply(_,O++[q],Á,fm (fm S Z) qz,?_,?_,?_,?_,?_)
   .rw[aq,bX];rfl
   .rw[et,ec];delta JM.vN;rw[af hc];exact eB.upd (eB.snoc (l:=[]) aq (eB.upd h2 Sw)) (λz=>by
     rcases gR.mp z with z|z
     .exact G z
     .exact eK j I (À z))
   .exact II J Sw
   .intro z;rcases gR.mp z with z|z
    .exact G z
    .exact eK j I (À z)
   .intro q' z;rcases gR.mp z with z|z
    .exact M q' z
    .rw[show q'=q by simpa using z];exact Z
  .simp at hc;let(gD,q,rfl,t',r'):=eB.last h2 (JM.lJ m _);let Y:=λz=>by
    let:=(O2.mp J).2.2 q z q Ä;exact this Á
   apply(_,Á,_,Á,p,_,_,V.ref q,Á,Á,aa.of j,?_,.inl ⟨Á,_,aa.of r'⟩,_,Á,q,_,_,Á,Á,r',?_,?_)
   .rw[bX];exact vx _ _
   .rw[aA];let:((JM.aI m Ço).getLastD []).length<=(ns.take i).length:=by
     apply xG m _ _ ?_;rw[List.getLastD_eq_getLast?];cases e:(JM.aI m Ço).getLast? with
     |none=>exact absurd (apx.mp e) (JM.lJ m _)
     |some l=>exact Dj e
    rw[mT] at this;exact gV Æ
   .let np:p≠q:=λz=>G (by rw[z];simp);apply(_,gD++[q],Á,fm S (M q Ä),by rw[ao np];exact j,?_,J,G,M);rw[et,ec];delta JM.vN;rw[ah hc];apply eB.snoc ?_ (eB.upd t' Y);rw[aq];exact cE (λz=>some (HO.lst z)) (Sv _ _).symm
 .rintro σ H' ⟨v,O,rfl,S,j,h2,J,G,M⟩;rw[aA,mX] at h2;exact(_,Á,k H' p O ⟨S,qz,j⟩ h2 J G M)
end
def oI:Option Nat->V
 |some i=>.int (i:Nat)
 |none=>.aJ
def bw(j:di)(part:LI):Option Nat:=j.findIdx? λw=>decide (w=part)
inductive EI(K:FR)(vs:au)(H:Hp)(Q:VK)(E':XK):Prop
 |mk (aw ap:Addr) (ph:LS) (part:LI) (_:vs=[.ref aw,.ref ap]) (_:Ť aw (ph.map V.str)) (_:(∀x∈ph,x.cps.size<=100000)) (_:â ap Âz) (_:∀H',ai H H'->Q (oI (bw (ph.map codes) part)) H')
def find_none{α:Type}{p:α->Bool}{l:List α}(h:∀x∈l,p x=false):l.findIdx? p=none:=by
 symm
theorem ae7{α:Type}{p:α->Bool}{l:List α}:∀{i:Nat}{x:α},l[i]? =some x->(∀y∈l.take i,p y=false)->p x=true->l.findIdx? p=some i:=by
 induction l with
 |nil=>intro i x h _ _;simp at h
 |cons a l I=>
  intro i x h j m;rw[Yj];cases i with
  |zero=>
   let e:=aN h;subst e;rw[m];rfl
  |succ i=>
   rw[j a Ä,I (i:=i) (x:=x) h (λy z=>j y (by rw[O6];exact aO _ z)) m];rfl
def ai.tup{K:FR}{H H':Hp}{a:Addr}{xs:au}(e:ai H H')(h:Ť a xs):bu K H' a xs:=by
 rcases h with (h|⟨o,h⟩)|h
 .exact .inl (.inl (e _ _ h))
 .exact .inl (.inr ⟨o,e _ _ h⟩)
 .exact .inr h
section
variable{P:Pg}{w:Wd}{K:FR}{mg:MG}{base:Heap}
def Sx:bH ["words","part","place","word"] ["words","part"] (aV JE):=ì
def ae8{f G:Addr}{fd xH:FD}(F:br K "place_among" "place_among" JE f fd)(tE:mg "enumerate"=none)(GS:Ì aE 1 G xH ["written"] BB)(mS:mg "spelled"=some (.ref G))(kS:PySem.W.keepIn K (.ref G)=true)(bS:Binds K xH ["written"] []):
  a7 P w K mg base aE 2 f fd ["words","part"] (EI K):=by
 refine F.ok Sx Â;let(z,ap,m,part,rfl,Y,hw,hP,k):=h;refine⟨_,aB (m9 qy Á (Rw Ô tE ò) (iE 2 3 Sx.nd)
   (aD (dq (cI (adb hr.units) (lY GS hr rfl mS kS bS .nil sr ı) á (bT _)) Æw d7)))
  Ÿ,?_⟩
 refine⟨_,Á,z,_,Á,Y,Rx (K:=K) (a:=z) (xs:=m.map V.str) (λi σ H'=>∃M O:Option V,σ=[some (.ref z),some Èp,M,O]/\ai H H'/\∀y∈(m.map codes).take i,decide (y=part)=false)
  ⟨none,none,rfl,ai.refl H,by simp⟩ (λi σ H' _ ⟨_,_,_,S,_⟩=>ai.tup S Y) ?_ ?_⟩
 .rintro i y T σ H' hi ⟨M,O,rfl,S,j⟩ hT;obtain⟨x,Z,rfl⟩:∃x,m[i]? =some x/\y=V.str x:=by
   grind
  let s2:=fm (o:=.tup [.int (i:Nat),.str x]) S (S.free hT);apply(T,_,Á,bu.of aq,Á,_,_,Á,_,_,Á,Á,_,Á,x,Á,hw x (bZ Z),λH2 p U=>?_);let J:=s2.trans U.1;let jk:(m.map codes)[i]? =some ş:=by rw[bW,Z];rfl
  refine⟨_,Á,p,ap,codes x,part,Á,Á,aa.of U.2.2,J.seq hP,_,Á,a8 Ï Ï⟩
  .refine Ġ;let e:=ae7 jk j hc;let q:=k H2 J;delta bw at q;rw[e] at q;exact q
  .apply(_,_,Á,J,λy I=>?_);rw[take_snoc jk] at I;grind
 .rintro σ H' ⟨M,O,rfl,S,j⟩;let q:=k H' S;rw[aA] at j;delta bw at q;rw[find_none (λy I=>j y (by rw[<-aA (f:=codes),mX];exact I))] at q;exact q
def jB(signs part:LI):Option LI:=if part.all (λb=>signs.contains b)=true then some (part.map λb=>((signs.idxOf b:Nat):Int)) else none
inductive EJ(K:FR)(vs:au)(H:Hp)(Q:VK)(E':XK):Prop
 |mk (x:Str) (ap:Addr) (part:LI) (_:vs=[.str x,.ref ap]) (_:x.cps.size<=100000) (_:â ap Âz) (_:part.length<=100000) (_:(jB ş part=none->∀H',ai H H'->Q .aJ H')) (_:∀l,jB ş part=some l->∀H' p,Ϡ ň->Q ģ H')
theorem KH(b:Int):∀l:LI,vy (.int b) (iv l)=l.contains b:=by
 intro l;induction l with
 |nil=>exact Á
 |cons x l I=>
  let I:=I;delta vy iv at I⊢;rw[a0,t7,I,An];congr 1;show(x==b)=(b==x);by_cases h:x=b
  .subst h;rfl
  .let h2:¬b=x:=λz=>h z.symm;rw[wL.mpr h,wL.mpr h2]
theorem BD:∀l:LI,(iv l).all lG=true:=by
 intro l;induction l with
 |nil=>exact Á
 |cons x l I=>
  show(lG (.int x)&&(iv l).all lG)=true;rw[I];rfl
theorem sA{l:LI}{i:Nat}{y:V}(h:(iv l)[i]? =some y):∃z,l[i]? =some z/\y=V.int z:=by
 delta iv at h;rw[bW] at h;cases e:l[i]? with
 |none=>rw[e] at h;cases h
 |some z=>rw[e] at h;exact(z,Á,(aN h).symm)
def ae9(l:List Bool)(b:Bool):(l++[b]).map V.bl=l.map V.bl++[.bl b]:=by
 simp
def Sy{l:LI}{b:Int}(h:l.contains b=true):∃j z,l.idxOf b=j/\(iv l)[j]? =some z/\pJ z (.int b)=true/\∀(m:Nat)(Z:V),m<j->(iv l)[m]? =some Z->pJ Z (.int b)=false:=by
 let J:b∈l:=À h
 let I:l.idxOf b<l.length:=List.idxOf_lt_length_of_mem J;apply(_,.int b,Á,?_,?_,λm Z F M=>?_)
 .delta iv;rw[bW,dm I,List.getElem_idxOf];rfl
 .show(b==b)=true;exact Yi b
 .let(z,G,rfl):=sA M;show(z==b)=false;let:=List.not_of_lt_findIdx (p:=(· ==b)) (xs:=l) (i:=m) F;let(O,e):=bO.mp G;rw[e] at this;simpa using this
def zi:bH ["signs","part","known","byte"] ["signs","part"] (aV JF):=ì
def afc{f S:Addr}{fd xH:FD}(F:br K "places_in" "places_in" JF f fd)(tA:mg "all"=none)(GS:Ì aE 1 S xH ["written"] BB)(mS:mg "spelled"=some (.ref S))(kS:PySem.W.keepIn K (.ref S)=true)(bS:Binds K xH ["written"] []):
  a7 P w K mg base aE 2 f fd ["signs","part"] (EJ K):=by
 refine F.ok zi Â;let(x,G,part,rfl,hx,I,hl,k0,k1):=h;refine⟨_,aB (cj 2 zi.nd (lY GS hr Á mS kS bS .nil sr ò))
  (aB (dq (pG (jx (c8 (vA rfl) Ô tA yu (ae (eF (own:=[("byte",3)]) (te:=bU (DO K false) ŗ Ř) rfl zi.nd Æp Ë (λ_ _ _ _ _=>dJ 3 zi.nd) Ö
     (λ_ _ _ _ _=>jy Ih ö ç (by with_unfolding_all rfl))) ag)))) Ÿ d7)
  (aD (aY (eF (own:=[("byte",3)]) (te:=Qq K "list" (Qz K) Ř Ât) rfl zi.nd Æp Ë (λ_ _ _ _ _=>dJ 3 zi.nd) Ö
     (λ_ _ _ _ _=>si PySem.F.plainAttrs_list PySem.F.slot_list_index PySem.F.type_list_index QB ç ı))))),?_⟩
 apply(_,Á,x,Á,hx,λH1 pk U=>?_);let s1:=U.1;refine⟨_,Á,G,Á,⟨_,s1.seq I⟩,λD Z=>gC (K:=K) (a:=G) (xs:=iv part) (λi H'=>ai H1 H'/\H' D=some (.lst (((part.take i).map λb=>(codes x).contains b).map V.bl))) ⟨aL Z,aq⟩
  (λi H' _ ⟨s2,_⟩=>(s1.trans s2).seq I) (λi y H' hi ⟨s2,hd⟩=>?_) (λH' ⟨s2,hd⟩=>?_)⟩
 .let(z,m,rfl):=sA hi;let d8:=(bO.mp m).1;apply(Á,eO ⟨_,Á,_,Á,pk,_,Á,.inl (aa.of (s2 _ _ U.2.2)),Á,BD _,_,hd,?_,fm s2 Z,?_⟩)
  .rw[aA,aA,mT];exact gV Æ
  .rw[aq,take_snoc m,bX];show some (HO.lst (_++[V.bl (vy (.int z) (iv ş))]))=some (HO.lst ((_++[_]).map V.bl));rw[ae9,KH]
 .rw[show(iv part).length=part.length by simp,mX] at hd;apply(D,_,Á,aa.of hd,_,Á,?_);let ea:(part.map λb=>(codes x).contains b).all id=part.all λb=>(codes x).contains b:=by
   simp
  rw[ea];refine a8 Ï Ï
  .simp at hc;apply k0 ?_ H' Àx;delta jB;symm
  .let hc:part.all (λb=>(codes x).contains b)=true:=by simpa using hc
   let e1:jB ş part=some (part.map λb=>(((codes x).idxOf b:Nat):Int)):=by
    delta jB;symm
   refine⟨_,Á,G,Á,⟨_,(s1.trans s2).seq I⟩,λY M=>gC (K:=K) (a:=G) (xs:=iv part) (λi O=>ai H' O/\O Y=some (.lst (iv ((part.take i).map λb=>(((codes x).idxOf b:Nat):Int))))) ⟨aL M,aq⟩
    (λi O _ ⟨s3,_⟩=>((s1.trans s2).trans s3).seq I) (λi y O hi ⟨s3,J⟩=>?_) (λO ⟨s3,J⟩=>?_)⟩
   .let(z,m,rfl):=sA hi;let d8:=(bO.mp m).1;let(j,zz,ej,hj,KI,BE):=Sy (lx.mp hc z (bZ m));let hk:=(Ĭ) _ _ U.2.2;apply(Á,eO ⟨_,Á,.inl ⟨Á,_,aa.of hk⟩,_,Á,pk,_,_,j,zz,Á,Á,aa.of hk,Á,BD _,hj,KI,BE,_,J,?_,fm s3 M,?_⟩)
    .delta iv;rw[aA,aA,mT];exact gV Æ
    .rw[aq,take_snoc m,bX,<-ej];simp
   .rw[show(iv part).length=part.length by simp,mX] at J;exact k1 _ e1 O Y ⟨(s1.trans s2).trans s3,(s1.trans s2).free M,J⟩
def ij(part:LI):Option LI:=if part.length=16 then jB JM.k7 part else none
inductive KJ(K:FR)(vs:au)(H:Hp)(Q:VK)(E':XK):Prop
 |mk (ap:Addr) (part:LI) (_:vs=[.ref ap]) (_:â ap Âz) (_:part.length<=100000) (_:(ij part=none->∀H',ai H H'->Q .aJ H')) (_:∀l,ij part=some l->∀H' p,Ϡ ň->Q ģ H')
def afd:bH ["part"] ["part"] (aV JG):=ì
def eZ(l:LI):(iv l).length=l.length:=by delta iv;rw[aA]
def afe(F:br K "read_colours" "read_colours" JG f fd)(tL:mg "len"=none)(mC:mg "COLOUR_SIGNS"=some uC)(U:RelV (.str "0123456789abcdef") uC)(G:Ì aE 2 fP KL ["signs","part"] (EJ K)) (S:mg "places_in"=some (.ref fP)) (O:PySem.W.keepIn K (.ref fP)=true) (I:Binds K KL ["signs","part"] []):
  a7 P w K mg base aE 3 f fd ["part"] (KJ K):=by
 refine F.ok afd Â;let(j,part,rfl,m,M,k0,k1):=h;refine⟨_,aB (dq (cI vt ą bo (bT _)) Ÿ d7)
  (aD (aY (lY G hr rfl S O I .nil sr (ae (vm Ô mC U) ò)))),?_⟩
 refine⟨_,Á,j,_,Á,.inl m,Á,_,Á,a8 Ï Ï⟩
 .let hc:¬part.length=16:=by
   grind
  apply k0 ?_ H ŷ;delta ij;symm
 .let hc:part.length=16:=by
   grind
  let e:ij part=jB (codes "0123456789abcdef") part:=by
   delta ij;rw[af hc];rfl
  exact(_,Á,_,j,part,Á,by decide,m,M,λz H' Y=>k0 Çs H' Y,λl z H' p J=>k1 l Çs H' p J)
end
def Dn(P:Pg)(w:Wd)(K:FR)(mg:MG)(base:Heap)(CX:nh)(k:Nat)(x:Str)(ps:LS)(sp:Sp):Prop:=
 ∃f fd,Ì CX k f fd ps sp/\mg x=some ā/\PySem.W.keepIn K ā=true/\L2.Binds K fd ps []
def Cn(mg:MG)(x:Str)(v:V):Prop:=∃u,mg x=some u/\RelV v u
def Tn(K:FR)(mg:MG)(x:Str)(xs:au):Prop:=∃a,mg x=some Ĝ/\∀H,Ť a xs
def LstAt(H H':Hp):Option LI->V->Prop
 |none,v=>v=.aJ
 |some l,v=>∃c,v=.ref c/\H c=none/\H' c=some ň
section
variable{X:Cx}
def bz{CX:nh}{k m:Nat}{x:Str}{ps:LS}{sp:Sp}{e:Expr}{es:List Expr}{t:TA}{p pos:Pos}{E:XK}(d:Dn X.prog X.w X.K X.mg X.base CX k x ps sp)(z:PA X (e::es) t)(hr:dv m X.A:=by assumption)(I:ug CX X E:=by exact sr)(hk:k<=m:=by decide)(G:Gl X x:=by rfl)(J:(x==("__debug__":Str))=false:=by decide)(F:starEach (e::es) X.env=(false,eval e X.env)::starEach es X.env:=by rfl)(j:(backTo pos ô).any (·.1)=false:=by rfl):PE X (.Call Ž (e::es) [] pos) (g9 sp [] E t):=
 let ⟨_,_,g,a,b,c⟩:=d
 lY g (hr.mono hk) G a b c .nil I z J F j
def b9{x:Str}{v:V}{pos:Pos}(c:Cn X.mg x v)(j:Gl X x:=by rfl)(hd:(x==("__debug__":Str))=false:=by decide):PE X Ϲ (tC v):=let ⟨_,m,r⟩:=c;vm j m r hd
end
structure eG where
 a:Addr
 dx:Addr
 l:Addr
 shape:Nat
 cells:LI
structure ck where
 a:Addr
 dx:Addr
 l:Addr
 above:Bool
 below:Bool
 flags:List eG
structure eP where
 a:Addr
 dx:Addr
 cl:Addr
 gl:Addr
 side:Nat
 classes:LI
 ak:List ck
structure Cs where
 S:Addr
 G:Addr
 P:Addr
abbrev Nd:=Addr×HO
def vR(s:eG):List (Str×V):=[("shape",.int (s.shape:Nat)),("cells",.ref s.l)]
def pZ(g:ck):List (Str×V):=[("above",.bl g.above),("below",.bl g.below),("flags",.ref g.l)]
def l9(p:eP):List (Str×V):=[("side",.int (p.side:Nat)),("classes",.ref p.cl),("glimpses",.ref p.gl)]
def ik(C:Cs)(s:eG):List Nd:=[(s.a,.ins C.S s.dx (vR s)),(s.l,.lst (iv s.cells))]
def gq(C:Cs)(g:ck):List Nd:=(g.a,.ins C.G g.dx (pZ g))::(g.l,.lst (g.flags.map λs=>V.ref s.a))::g.flags.flatMap (ik C)
def eI(C:Cs)(p:eP):List Nd:=(p.a,.ins C.P p.dx (l9 p))::(p.cl,.lst Ŏ)::(p.gl,.lst (p.ak.map λg=>V.ref g.a))::p.ak.flatMap Åo
def Lies(H:Hp)(ns:List Nd):Prop:=∀x∈ns,H x.1=some x.2
def Lies.same{H H':Hp}{ns:List Nd}(h:Lies H ns)(s:ai H H'):Lies H' ns:=λx j=>s _ _ (h x j)
structure iG where
 above:Bool
 below:Bool
 flags:List (Nat×LI)
structure fX where
 side:Nat
 classes:LI
 ak:List iG
def eG.m(s:eG):Nat×LI:=(s.shape,s.cells)
def ck.m(g:ck):iG:=⟨g.above,g.below,g.flags.map eG.m⟩
def eP.m(p:eP):fX:=⟨p.side,p.classes,p.ak.map ck.m⟩
section
variable{C:Cs}{H:Hp}{p:eP}
def Lies.pl(h:Lies H Ág):H p.a=some (.ins C.P p.dx (l9 p)):=h (p.a,_) (by delta eI;simp)
def Lies.cl(h:Lies H Ág):H p.cl=some (.lst Ŏ):=h (p.cl,_) (by delta eI;simp)
def Lies.gl(h:Lies H Ág):H p.gl=some (.lst (p.ak.map λg=>V.ref g.a)):=h (p.gl,_) (by delta eI;simp)
def Lies.sub(h:Lies H Ág){g:ck}(j:g∈p.ak):Lies H Æo:=λx m=>h x (by
 delta eI;exact aO _ (aO _ (aO _ (kC.mpr ⟨g,j,m⟩))))
def Lies.ga{g:ck}(h:Lies H Æo):H g.a=some (.ins C.G g.dx (pZ g)):=h (g.a,_) (by delta gq;simp)
def Lies.fl{g:ck}(h:Lies H Æo):H g.l=some (.lst (g.flags.map λs=>V.ref s.a)):=h (g.l,_) (by delta gq;simp)
def Lies.zj{g:ck}(h:Lies H Æo){s:eG}(hs:s∈g.flags):Lies H (ik C s):=λx j=>h x (by
 delta gq;exact aO _ (aO _ (kC.mpr ⟨s,hs,j⟩)))
def Lies.sa{s:eG}(h:Lies H (ik C s)):H s.a=some (.ins C.S s.dx (vR s)):=h (s.a,_) (by delta ik;simp)
def Lies.sl{s:eG}(h:Lies H (ik C s)):H s.l=some (.lst (iv s.cells)):=h (s.l,_) (by delta ik;simp)
end
def il{f:Str}{v:V}{r:List (Str×V)}:((f,v)::r).lookup f=some v:=by
 rw[vb,Yi]
def fY{f g:Str}{v:V}{r:List (Str×V)}(h:(f==g)=false):((g,v)::r).lookup f=r.lookup f:=by
 rw[vb,h]
def Sz(p:eP):(l9 p).lookup ("side":Str)=some (.int (p.side:Nat)):=il
def KM(p:eP):(l9 p).lookup ("classes":Str)=some (.ref p.cl):=(fY Ê).trans il
def nD(p:eP):(l9 p).lookup ("glimpses":Str)=some (.ref p.gl):=(fY Ê).trans ((fY Ê).trans il)
def SA(g:ck):(pZ g).lookup ("above":Str)=some (.bl g.above):=il
def SB(g:ck):(pZ g).lookup ("below":Str)=some (.bl g.below):=(fY Ê).trans il
def vS(g:ck):(pZ g).lookup ("flags":Str)=some (.ref g.l):=(fY Ê).trans ((fY Ê).trans il)
def KN(s:eG):(vR s).lookup ("shape":Str)=some (.int (s.shape:Nat)):=il
def EK(s:eG):(vR s).lookup ("cells":Str)=some (.ref s.l):=(fY Ê).trans il
structure ma(K:FR)(C:Cs):Prop where
 cS:kO K C.S
 cG:kO K C.G
 cP:kO K C.P
 zk:gB K C.S "shape"
 EL:gB K C.S "cells"
 SC:gB K C.G "above"
 SD:gB K C.G "below"
 vT:gB K C.G "flags"
 KO:gB K C.P "side"
 EM:gB K C.P "classes"
 nE:gB K C.P "glimpses"
theorem p7{α:Type}(l:List α):l=[]\/∃r x,l=r++[x]:=by
 cases e:l.getLast? with
 |none=>exact .inl (apx.mp e)
 |some x=>
  right;let(r,hr):=List.getLast?_eq_some_iff.mp e;exact(r,x,hr)
inductive EN(C:Addr)(ns:LS)(vs:au)(H:Hp)(Q:VK)(E':XK):Prop
 |mk (x dx:Addr) (as:au) (_:vs=.ref x::as) (_:as.length=ns.length) (_:H x=some Âh) (_:∀H',H' x=some (.ins C dx (ns.zip as))->(∀b o,H b=some o->b≠x->H' b=some o)->Q .aJ H')
def nF(P:Pg)(w:Wd)(K:FR)(mg:MG)(base:Heap)(x:Str)(C:Addr)(ns:LS):Prop:=
 ∃f fd,Mk K C f/\Ì aE 1 f fd ("self"::ns) (EN C ns)/\mg x=some Ā/\L2.Binds K fd ("self"::ns) []
def aff{f g:Str}{v x:V}{r:List (Str×V)}(h:¬g=f):ie f v ((g,x)::r)=(g,x)::ie f v r:=by
 show(if g=f then (g,v)::r else (g,x)::ie f v r)=_;rw[ah h]
section
variable{P:Pg}{w:Wd}{K:FR}{mg:MG}{base:Heap}{C:Cs}
end
def ite_yes{c A B:Prop}[Decidable c](hc:c)(h:A):if decide c=true then A else B:=by
 rw[af (eJ hc)];exact h
def ite_no{c A B:Prop}[Decidable c](hc:¬c)(h:B):if decide c=true then A else B:=by
 rw[ah (À hc)];exact h
section
variable{X:Cx}
def p9{m:Nat}{x:Str}{C:Addr}{ns:LS}{e:Expr}{es:List Expr}{t:TA}{p pos:Pos}(d:nF X.prog X.w X.K X.mg X.base x C ns)(hr:dv m X.A)(z:PA X (e::es) t)(hk:2<=m:=by decide)(G:Gl X x:=by rfl)(I:(x==("__debug__":Str))=false:=by decide)(F:starEach (e::es) X.env=(false,eval e X.env)::starEach es X.env:=by rfl)(j:(backTo pos ô).any (·.1)=false:=by rfl):PE X (.Call Ž (e::es) [] pos) (P3 C (EN C ns) [] E0 t):=
 let ⟨_,_,M,g,a,c⟩:=d
 aan M g (hr.mono hk) G a c .nil sr z I F j
end
end HD
end
section
namespace HD
open PySem PySem.Spec PyProof.Rows L2
theorem afg{f:Str}{v:V}{fs:List (Str×V)}:(∀x∈fs.map (·.1),¬x=f)->ie f v fs=fs++[(f,v)]:=by
 induction fs with
 |nil=>exact @λ_=>Á
 |cons j r I=>
  let(g,x):=j;intro h;rw[aff (h g Ä),I λy m=>h y (aO _ m)];rfl
def EO(K:FR):Nat->LS->TS
 |_,[]=>PB
 |k,[n]=>DL K ώ (ay k) n
 |k,n::ns=>HK (DL K ώ (ay k) n) (EO K (k+1) ns)
theorem SE{K:FR}{C x dx:Addr}(c:kO K C){σ:L2.St}(G:σ[0]? =some (some (V.ref x))){D:Ends}:∀(ns:LS)(as:au)(done:List (Str×V))(k:Nat)(H:Hp),as.length=ns.length->(∀(i:Nat)a,as[i]? =some a->σ[k+i]? =some (some a))->H x=some (.ins C dx done)->done.length+ns.length<=1000->
  (∀n∈ns,n∉done.map (·.1))->ns.Nodup->(∀n∈ns,ϧ n)->(∀H',H' x=some (.ins C dx (done++ns.zip as))->(∀b o,H b=some o->b≠x->H' b=some o)->D.nx σ H')->EO K k ns D σ H
 |[],as,done,k,H,hl,ha,hx,hs,hf,hd,hn,q=>by
  obtain rfl:as=[]:=À hl
  exact q H (À hx) λb o e _=>e
 |n::ns,a::as,done,k,H,hl,ha,hx,hs,hf,hd,hn,q=>by
  rw[c7] at hs;let(O,M):=j9.mp hd;let J:ie n a done=done++[(n,a)]:=afg λy z e=>hf n Ä (by rw[<-e];exact z);let step:∀F:Ends,F.nx σ (Áe (.ins C dx (done++[(n,a)])))->DL K ώ (ay k) n F σ H:=λF h=>by
   apply(a,ha 0 a Á,_,G,x,C,dx,done,Á,hx,c,hn n Ä,by omega,?_);rw[J];exact h
  let bI:∀H',H' x=some (.ins C dx ((done++[(n,a)])++ns.zip as))->(∀b o,Áe (.ins C dx (done++[(n,a)])) b=some o->b≠x->H' b=some o)->D.nx σ H':=λH' S h2=>by
   apply q H' (by rw[S,rP];rfl) λb o e I=>h2 b o ?_ I;rw[ao I];exact e
  cases ns with
  |nil=>
   obtain rfl:as=[]:=À hl
   exact step D (bI _ (by rw[aq];simp) λb o e _=>e)
  |cons m ms=>
   apply step _ (SE c G (m::ms) as (done++[(n,a)]) (k+1) _ (À hl) (λi b e=>?_) aq (by simp at hs⊢;omega) (λy z j=>?_) M (λy z=>hn y (aO _ z)) bI)
   .rw[show k+1+i=k+(i+1) by omega];exact ha (i+1) b e
   .rw[bX] at j;rcases gR.mp j with j|j
    .exact hf y (aO _ z) j
    .obtain rfl:y=n:=by simpa using j
     exact O z
def afh{P:Pg}{w:Wd}{K:FR}{mg:MG}{base:Heap}{C:Addr}{ns:LS}{m:Str}{st:Stmt}{f:Addr}{fd:FD}(F:br K "__init__" m st f fd)(c:kO K C)(n:∀n∈ns,ϧ n)(S:bH ("self"::ns) ("self"::ns) ϯ)(hs:ns.length<=1000)(d:∀aG A outer s H E,kI (Ϗ ("self"::ns) m ϯ f aG A outer s H E).vo Åf (EO K 1 ns)):Ì aE 1 f fd ("self"::ns) (EN C ns):=by
 refine F.ok S (len:=λvs H Q E h=>(by let(x,dx,as,rfl,j,_):=h;exact cE (· +1) j)) Â;let(x,dx,as,rfl,j,z,k):=h;apply(_,d aG A outer s H E,SE c (by delta L2.start;rfl) ns as [] 1 H j (λi a e=>?_) z (À hs) Ä (j9.mp S.nd).2 n λH' h2 G=>k H' h2 G);delta L2.start;let hi:=(bO.mp e).1;rw[G2 (by simp;omega),bW,show 1+i=i+1 by omega,apl,e];rfl
end HD
end
section
namespace HD
open PySem PySem.Spec PyProof.Rows L2
open PySem.W (Codec)
def jQ(line:LI):Option LI:=if line.length=4 then jB JM.pU line else none
inductive SG(K:FR)(vs:au)(H:Hp)(Q:VK)(E':XK):Prop
 |mk (ap:Addr) (line:LI) (_:vs=[.ref ap]) (_:â ap Åu) (_:line.length<=100000) (_:∀H' v,ai H H'->LstAt H H' (jQ line) v->Q v H')
section
variable{P:Pg}{w:Wd}{K:FR}{mg:MG}{base:Heap}
def afi:bH ["line"] ["line"] (aV JW):=cw
def afj(F:br K "read_row" "read_row" JW f fd)(tL:mg "len"=none)(I:Cn mg "ROW" (.int 4))(cS:Cn mg "SEEN_SIGNS" (.str "0123456789abcdef?"))(J:Ç 2 "places_in" ["signs","part"] (EJ K)):Ì aE 3 f fd ["line"] (SG K):=by
 refine F.ok afi Â;let(m,part,rfl,G,M,k):=h;refine⟨_,aB (dq (cI vt ą (b9 I) (bT _)) Ÿ d7)
  (aD (aY (bz (hr:=hr) J (ae Æv ò)))),?_⟩
 refine⟨_,Á,m,_,Á,.inl G,Á,_,Á,a8 Ï Ï⟩
 .let hc:¬part.length=4:=by
   grind
  apply k H .aJ ŷ ?_;delta jQ;rw[ah hc];rfl
 .let hc:part.length=4:=by
   grind
  let e:jQ part=jB (codes "0123456789abcdef?") part:=by
   delta jQ;rw[af hc];rfl
  exact(_,Á,_,m,part,Á,by decide,G,M,λz H' S=>k H' _ S (by rw[e,z];rfl),λl z H' p j=>k H' _ j.1 (by rw[e,z];exact(p,rfl,j.2.1,j.2.2)))
def dQ(line:LI):Option (Nat×LI):=match JM.aI 32 line with
 |[a,b,c]=>if a=JM.jA then (match bw JM.uA b,ij c with
  |some s,some l=>some (s,l)
  |_,_=>none) else none
 |_=>none
def zl(H H':Hp):Option (Nat×LI)->V->Prop
 |none,v=>v=.aJ
 |some (s,l),v=>∃t c,v=.ref t/\H t=none/\H c=none/\H' t=some (.tup [.int (s:Nat),.ref c])/\H' c=some ň
inductive SH(K:FR)(vs:au)(H:Hp)(Q:VK)(E':XK):Prop
 |mk (ap:Addr) (line:LI) (_:vs=[.ref ap]) (_:â ap Åu) (_:line.length<=100000) (_:∀H' v,ai H H'->zl H H' (dQ line) v->Q v H')
def ER:bH ["line","words","side","classes"] ["line"] (aV JV):=cw
def xI:LS:=["front","behind","unknown"]
def afk(F:br K "read_side" "read_side" JV f fd)(tL:mg "len"=none)(cB:Cn mg "BLANK" Åx)(cS:Tn K mg "SIDES" (xI.map V.str))(dC:Ç 1 "cut" ["text","mark"] (vQ K)) (dS:Ç 1 "spelled" ["written"] BB) (dA:Ç 2 "place_among" ["words","part"] (EI K)) (dR:Ç 3 "read_colours" ["part"] (KJ K)):
  a7 P w K mg base aE 4 f fd ["line"] (SH K):=by
 let(aS,mS,hS):=cS;refine F.ok ER Â;let(ap,line,rfl,hP,hl,k):=h;let uB:dv 1 _:=hr.mono Ù;let sC:dv 2 _:=hr.mono Ù;refine⟨_,aB (cj 1 ER.nd (bz (hr:=uB) dC (ae Ú Ϯ)))
  (aB (dq (PW.pt (pw_or (cI vt ü bo (bT _))
    (pw_or1 (cI (RD hr.units) (cA cY á bo Ø) (bz (hr:=uB) dS (ae Dy ag)) (bT _))))) Ÿ d7)
  (aB (cj 2 ER.nd (bz (hr:=sC) dA (ae (vm (v:=.ref aS) Ô mS rfl) ŕ)))
  (aB (cj 3 ER.nd (bz (hr:=hr) dR ŕ))
  (aB (dq (PW.pt (pw_or Æj (pw_or1 (ot (qE ö))))) Ÿ d7)
  (aD (aY (uf (ae ç ı)))))))),?_⟩
 apply(_,Á,ap,32,line,Á,hP,hl,λH1 p Z J j nd np hf=>?_);let cK:((Z.map V.ref).length:Int)=((JM.aI 32 line).length:Nat):=by rw[aA,j.len]
 let s1:=J.1;refine⟨_,Á,p,_,Á,.inl (aa.of J.2.2),Á,_,Á,a8 Ï Ï⟩
 .apply k H1 .aJ s1 ?_;let:dQ line=none:=by
   delta dQ;grind
  rw[this];rfl
 .let h3:(JM.aI 32 line).length=3:=by
   grind
  obtain⟨a,b,c,I⟩:∃a b c,JM.aI 32 line=[a,b,c]:=by
   match JM.aI 32 line,h3 with
   |[a,b,c],_=>exact(a,b,c,Á)
  rw[I] at j;let KP:∀w∈[a,b,c],w.length<=100000:=λw hw=>gQ (xG 32 line w É) hl;obtain⟨qa,qb,qc,rfl⟩:∃x y z,Z=[x,y,z]:=by
   let:=j.len
   match Z,this with
   |[x,y,z],_=>exact(x,y,z,Á)
  cases j with
  |cons ha j=>
   cases j with
   |cons hb j=>
    cases j with
    |cons jg j=>
     apply⟨_,Á,p,_,0,V.ref qa,Á,Á,aa.of J.2.2,Á,"seen",Á,by decide,λH2 p2 M=>?_⟩;let G:=s1.trans M.1;refine⟨qa,p2,a,codes "seen",Á,Á,aa.of (M.1 _ _ ha),aa.of M.2.2,_,Á,a8 Ę Ę⟩
     .apply k H2 .aJ G ?_;let:dQ line=none:=by
       delta dQ;rw[I];show(if a=JM.jA then _ else none)=none;simp at hd;rw[ah (λz=>hd (z.trans rfl))]
      rw[this];rfl
     .simp at hd;apply(_,Á,p,_,1,V.ref qb,Á,Á,aa.of (M.1 _ _ J.2.2),Á,aS,qb,xI,b,Á,hS H2,by decide,aa.of (M.1 _ _ hb),λH3 S=>?_);apply(_,Á,p,_,2,V.ref qc,Á,Á,aa.of (S _ _ (M.1 _ _ J.2.2)),Á,qc,c,Á,aa.of (S _ _ (M.1 _ _ jg)),KP c Ä,λz W O=>?_,λl z W p4 U=>?_)
      .
       let en:dQ line=none:=by
        delta dQ;rw[I];show(if a=JM.jA then _ else none)=none;rw[af (show a=JM.jA from hd),z];cases bw JM.uA b <;> rfl
       apply(_,Á,_,Á,a8 (λ_=>?_) (λ_=>⟨_,Á,_,Á,kZ ?_⟩))
       .exact k W .aJ ((G.trans S).trans O) (by rw[en];rfl)
       .exact k W .aJ ((G.trans S).trans O) (by rw[en];rfl)
      .let O:=U.1;apply(_,Á,_,Á,a8 (λm=>?_) (λm=>⟨_,Á,_,Á,nu ?_⟩))
       .simp at m;let en:dQ line=none:=by
         delta dQ;rw[I];show(if a=JM.jA then _ else none)=none;rw[af (show a=JM.jA from hd),show JM.uA=xI.map codes from rfl];cases e:bw Èb b with
         |none=>rfl
         |some i=>rw[e] at m;cases m
        exact k W .aJ ((G.trans S).trans O) (by rw[en];rfl)
       .simp at m;obtain⟨i,ei⟩:∃i,bw Èb b=some i:=by
         cases e:bw Èb b with
         |none=>rw[e] at m;exact absurd Á m
         |some i=>simp
        let en:dQ line=some (i,l):=by
         delta dQ;rw[I];show(if a=JM.jA then _ else none)=_;rw[af (show a=JM.jA from hd),z,show JM.uA=xI.map codes from rfl,ei]
        apply(_,Á,_,Á,(by show 2<=sizeLine;decide),λt Y=>?_);let s5:=(G.trans S).trans O;apply k _ (.ref t) (fm s5 (s5.free Y)) ?_;rw[en];apply(t,p4,Á,s5.free Y,(G.trans S).free U.2.1,?_,?_)
        .rw[aq,ei];rfl
        .rw[ao (eK U.2.2 Y)];exact U.2.2
end
inductive Told where
 |side (s:Nat) (l:LI)
 |hoist (k:Nat)
 |shape (k:Nat)
 |row (l:LI)
def Told.sort:Told->Nat
 |.side _ _=>0
 |.hoist _=>1
 |.shape _=>2
 |.row _=>3
def jR(line:LI):Option Told:=match dQ line with
 |some x=>some (.side x.1 x.2)
 |none=>match bw JM.iu line with
  |some k=>some (.hoist k)
  |none=>match bw JM.iw line with
   |some k=>some (.shape k)
   |none=>(jQ line).map .row
def zm(H H':Hp):Told->V->Prop
 |.side s l,v=>∃t c,v=.ref t/\H c=none/\H' t=some (.tup [.int (s:Nat),.ref c])/\H' c=some ň
 |.hoist k,v=>v=.int (k:Nat)
 |.shape k,v=>v=.int (k:Nat)
 |.row l,v=>∃c,v=.ref c/\H c=none/\H' c=some ň
def afl(H H':Hp):Option Told->V->Prop
 |none,v=>v=.aJ
 |some t,v=>∃q y,v=.ref q/\H q=none/\H' q=some (.tup [.int (t.sort:Nat),y])/\zm H H' t y
inductive SJ(K:FR)(vs:au)(H:Hp)(Q:VK)(E':XK):Prop
 |mk (ap:Addr) (line:LI) (_:vs=[.ref ap]) (_:â ap Åu) (_:line.length<=100000) (_:∀H' v,ai H H'->afl H H' (jR line) v->Q v H')
def SK:LS:=["hoist","hoist above","hoist below","hoist above below"]
def SL:LS:=["square","tails","long","shape?"]
theorem zm.same(h:zm H H1 t v)(s:ai H1 H2):zm H H2 t v:=by
 cases t with
 |side a l=>let(t,c,j,h2,m,z):=h;exact(t,c,j,h2,s _ _ m,s _ _ z)
 |hoist k=>exact h
 |shape k=>exact h
 |row l=>let(c,j,h2,m):=h;exact(c,j,h2,s _ _ m)
def afm(F:zl H H' (dQ line) v0)(G:LstAt H H' (jQ line) v3)(m:[v0,oI Ľ,oI ļ,v3][i]? =some x) (J:x≠ .aJ) (hb:∀j y,j<i->[v0,oI Ľ,oI ļ,v3][j]? =some y->y=.aJ):
  ∃t,jR line=some t/\t.sort=i/\zm H H' t x:=by
 let M:v0=.aJ->dQ line=none:=λz=>by
  cases e:dQ line with
  |none=>rfl
  |some p=>
   rw[e] at F;let(t,c,I,_):=F;symm
 let O:∀o:Option Nat,oI o=.aJ->o=none:=λo z=>by
  cases o with
  |none=>rfl
  |some k=>cases z
 match i,m with
 |0,m=>
  let ex:=aN m;subst ex;cases e:dQ line with
  |none=>rw[e] at F;exact absurd F J
  |some p=>
   rw[e] at F;let(t,c,I,h2,G,S,W):=F;refine⟨.side p.1 p.2,by delta jR;rw[e],rfl,t,c,I,G,S,W⟩
 |1,m=>
  let ex:=aN m;let Z:=M Æn;cases e:bw JM.iu line with
  |none=>rw[e] at ex;exact absurd ex.symm J
  |some k=>
   rw[e] at ex;exact(.hoist k,by delta jR;rw[Z,e],rfl,ex.symm)
 |2,m=>
  let ex:=aN m;let Z:=M Æn;let U:=O _ (hb 1 _ Æ rfl);cases e:bw JM.iw line with
  |none=>rw[e] at ex;exact absurd ex.symm J
  |some k=>
   rw[e] at ex;exact(.shape k,by delta jR;rw[Z,U,e],rfl,ex.symm)
 |3,m=>
  let ex:=aN m;subst ex;let Z:=M Æn;let U:=O _ (hb 1 _ Æ rfl);let Y:=O _ (hb 2 _ Æ rfl);cases e:jQ line with
  |none=>rw[e] at G;exact absurd G J
  |some l=>
   rw[e] at G;let(c,I,h2,S):=G;exact(.row l,by delta jR;rw[Z,U,Y,e];rfl,rfl,c,I,h2,S)
 |i+4,m=>simp at m
def afn(z:zl H H' (dQ line) v0)(F:LstAt H H' (jQ line) v3)(m:∀j y,j<4->[v0,oI Ľ,oI ļ,v3][j]? =some y->y=.aJ):jR line=none:=by
 let J:=m 0 v0 Æ rfl;let Z:=m 1 _ Æ rfl;let G:=m 2 _ Æ rfl;let M:=m 3 v3 Æ rfl;delta jR;cases e:dQ line with
 |some p=>
  rw[e] at z;let(t,c,I,_):=z;symm
 |none=>
  cases e1:bw JM.iu line with
  |some k=>rw[e1] at Z;cases Z
  |none=>
   cases e2:bw JM.iw line with
   |some k=>rw[e2] at G;cases G
   |none=>
    cases e3:jQ line with
    |some l=>
     rw[e3] at F;let(c,I,_):=F;symm
    |none=>rfl
theorem zl.same(h:zl H H1 o v)(S:ai H0 H)(s:ai H1 H2):zl H0 H2 o v:=by
 cases o with
 |none=>exact h
 |some p=>let(t,c,j,h2,m,z,F):=h;exact(t,c,j,S.free h2,S.free m,s _ _ z,s _ _ F)
theorem LstAt.same(h:LstAt H H1 o v)(S:ai H0 H)(s:ai H1 H2):LstAt H0 H2 o v:=by
 cases o with
 |none=>exact h
 |some p=>let(c,j,h2,m):=h;exact(c,j,S.free h2,s _ _ m)
section
variable{P:Pg}{w:Wd}{K:FR}{mg:MG}{base:Heap}
def KQ:bH ["line","readings","sort","told"] ["line"] (aV JU):=cw
def afo(F:br K "read_line" "read_line" JU f fd)(tE:mg "enumerate"=none)(cH:Tn K mg "HOIST_LINES" (SK.map V.str))(cS:Tn K mg "SEEN_SHAPES" (SL.map V.str))(dS:Ç 4 "read_side" ["line"] (SH K)) (dA:Ç 2 "place_among" ["words","part"] (EI K)) (dR:Ç 3 "read_row" ["line"] (SG K)):
  a7 P w K mg base aE 5 f fd ["line"] (SJ K):=by
 let(aH,mH,hH):=cH;let(aS,mS,hS):=cS;refine F.ok KQ Â;let(ap,line,rfl,I,hl,k):=h;let sC:dv 2 _:=hr.mono Ù;let KR:dv 3 _:=hr.mono Ù;refine⟨_,aB (cj 1 KQ.nd (uf (ae (bz (hr:=hr) dS ò)
   (ae (bz (hr:=sC) dA (ae (vm (v:=.ref aH) Ô mH rfl) ò))
   (ae (bz (hr:=sC) dA (ae (vm (v:=.ref aS) Ô mS rfl) ò))
   (ae (bz (hr:=KR) dR ò) ag))))))
  (aB (ϊ (Rw Ô tE Ŕ) (iE 2 3 KQ.nd)
   (aD (dq (ot (HG ö)) (aD (aY (uf (ae ç ı)))) d7)))
  Ÿ),?_⟩
 apply(_,Á,ap,line,Á,I,hl,λH1 m s1 h0=>?_);apply(_,Á,aH,ap,SK,line,Á,hH H1,by decide,s1.seq I,λH2 W=>?_);let e9:=s1.trans W;apply(_,Á,aS,ap,SL,line,Á,hS H2,by decide,e9.seq I,λH3 Y=>?_);let J:=e9.trans Y;apply(_,Á,ap,line,Á,J.seq I,hl,λO G Z h3=>?_);let oE:=J.trans Z;apply((by show 4<=sizeLine;decide),λtt SM=>?_);let s5:=fm (o:=.tup [m,oI Ľ,oI ļ,G]) oE (oE.free SM);let sl:∀{H':Hp},ai (upd O tt (.tup [m,oI Ľ,oI ļ,G])) H'->ai O H':=λz=>(aL SM).trans z;refine⟨_,Á,tt,[m,oI Ľ,oI ļ,G],Á,bu.of aq,Rx (K:=K) (a:=tt) (xs:=[m,oI Ľ,oI ļ,G])
  (λi σ H'=>∃u2 u3:Option V,σ=[some Èp,some (.ref tt),u2,u3]/\ai (upd O tt (.tup [m,oI Ľ,oI ļ,G])) H'/\∀j y,j<i->[m,oI Ľ,oI ļ,G][j]? =some y->y=.aJ)
  ⟨none,none,rfl,ai.refl _,λj y hj _=>absurd hj Æ⟩ (λi σ H' _ ⟨_,_,_,S,_⟩=>ai.tup S (bu.of aq)) ?_ ?_⟩
 .rintro i x T σ H' hi ⟨u2,u3,rfl,S,U⟩ hT;let M:=fm (o:=.tup [.int (i:Nat),x]) S (S.free hT);refine⟨T,_,Á,bu.of aq,Á,_,_,Á,_,_,Á,Á,_,Á,_,Á,a8 Ï Ï⟩
  .simp at hc;apply(_,Á,_,Á,(by show 2<=sizeLine;decide),λq hq=>?_);let s8:=fm (o:=.tup [.int (i:Nat),x]) M (M.free hq);let s9:=s5.trans s8;let(t,et,es,ta):=afm (h0.same ŷ (((W.trans Y).trans Z).trans (sl s8))) (h3.same J (sl s8)) hi hc U;apply k _ Èm s9 ?_;rw[et];apply(q,x,Á,(s5.trans M).free hq,?_,ta);rw[aq,es]
  .simp at hc;apply(_,_,Á,M,λj y hj hy=>?_);grind
 .rintro σ H' ⟨u2,u3,rfl,S,U⟩;let en:=afn (h0.same ŷ (((W.trans Y).trans Z).trans (sl S))) (h3.same J (sl S)) U;exact k H' .aJ (s5.trans S) (by rw[en];rfl)
end
def k8(m:fX):Bool:=match m.ak.getLast? with
 |some g=>g.flags.isEmpty
 |none=>false
def jC(m:fX):Bool:=match m.ak.getLast? with
 |some g=>(match g.flags.getLast? with
  |some s=>decide (s.2.length<16)
  |none=>false)
 |none=>false
def qe(m:fX):Bool:=!m.ak.isEmpty&&(!k8 m&& !jC m)
def du(m:fX)(k:Nat):Bool:=
 if (m.classes.isEmpty||decide (k=0))=true then m.classes.isEmpty&&decide (k=0)
 else if (decide (k=3)||jC m)=true then decide (k=3)&&jC m
 else if decide (k=1)=true then decide (m.ak.length<4)&& !k8 m
 else match m.ak.getLast? with
  |some g=>decide (g.flags.length<8)
  |none=>false
inductive qf(C:Cs)(b:fX->Bool)(vs:au)(H:Hp)(Q:VK)(E':XK):Prop
 |mk (p:eP) (_:vs=[.ref p.a]) (_:Lies H Ág) (_:∀H',ai H H'->Q (.bl (b p.m)) H')
def qf.len:∀vs H Q E,qf C b vs H Q E->vs.length=(["plate"]:LS).length:=λvs H Q E h=>by
 let(p,rfl,_):=h;rfl
def afp(h:m.ak=[]):k8 m=false:=by delta k8;rw[h];rfl
def SN{p:eP}{gs:List ck}{g:ck}(h:p.ak=gs++[g]):k8 p.m=g.flags.isEmpty:=by
 delta k8 eP.m;rw[h,bX,a0,lQ,Av,He];show(g.flags.map eG.m).isEmpty=_;simp
def afq(h:m.ak=[]):jC m=false:=by delta jC;rw[h];rfl
def afr{p:eP}{gs:List ck}{g:ck}(h:p.ak=gs++[g])(j:g.flags=[]):jC p.m=false:=by
 delta jC eP.m;rw[h,bX,a0,lQ,Av,He];show(match (g.flags.map eG.m).getLast? with
  |some s=>decide (s.2.length<16)
  |none=>false)=_
 symm
def afs{p:eP}{gs:List ck}{g:ck}{ss:List eG}{s:eG}(h:p.ak=gs++[g])(j:g.flags=ss++[s]):jC p.m=decide (s.cells.length<16):=by
 delta jC eP.m;rw[h,bX,a0,lQ,Av,He];show(match (g.flags.map eG.m).getLast? with
  |some s=>decide (s.2.length<16)
  |none=>false)=_
 rw[j,bX,a0,lQ,Av,He];rfl
section
variable{P:Pg}{w:Wd}{K:FR}{mg:MG}{base:Heap}{C:Cs}
def aft:bH ["plate"] ["plate"] (aV JY):=cw
def afu(F:br K "lacks_flags" "lacks_flags" JY f fd)(T:ma K C):Ì aE 1 f fd ["plate"] (qf C k8):=by
 refine F.ok aft Â;let(p,rfl,L,k):=h;refine⟨_,aD (aY (ue (jy Âw œ ĳ (bT _))
  (rW (jy ϫ Ģ ĳ (bT _))))),?_⟩
 apply(_,Á,Ŧ Ån ⟨dY _,λe1 M=>?_⟩);let S:ai H Åa:=aL M;apply(p.gl,e1,_,Á,Á,aa.of (S _ _ L.gl),aa.of aq,_,Á,?_);rcases p7 p.ak with e|⟨gs,g,e⟩
 .rw[e];apply nu ?_;let q:=k _ S;rw[afp (by delta eP.m;rw[e];rfl)] at q;exact q
 .let G:g∈p.ak:=by rw[e];simp
  let j:=L.same S;let ne:(!(p.ak.map λg=>V.ref g.a).isEmpty)=true:=by rw[e,bX];simp
  rw[ne];apply kZ ⟨_,Á,bj j.pl T.cP T.nE Ån ⟨_,Á,p.gl,_,_,V.ref g.a,Á,Á,aa.of j.gl,?_,bj ((j.sub G).ga) T.cG T.vT (vS g) ⟨dY _,λJ O=>?_⟩⟩⟩
  .rw[e,bX];exact vx _ _
  .let I:=fm (o:=.lst []) S (S.free O);let z:=L.same I;apply(g.l,J,_,Á,Á,aa.of (z.sub G).fl,aa.of aq,?_);let q:=k _ I;rw[SN e] at q;symm
def afw:bH ["plate"] ["plate"] (aV JZ):=cw
def afx(F:br K "lacks_cells" "lacks_cells" JZ f fd)(T:ma K C)(tL:mg "len"=none)(W:Cn mg "CELLS" (.int 16))(Y:Ç 1 "lacks_flags" ["plate"] (qf C k8)):
  a7 P w K mg base aE 2 f fd ["plate"] (qf C jC):=by
 refine F.ok afw Â;let(p,rfl,L,k):=h;refine⟨_,aB (dq (PW.pt (pw_or (cI ϫ œ ĳ (bT _)) (pw_or1 (jx (bz Y ò))))) Âc d7)
  (aD (aY (jy w8 (c8 fU Ô tL PySem.boot_len (ae (bg (cA cY Ģ (jh jM bo) Ø) rfl) ag)) (b9 W) (bT _)))),?_⟩
 apply(_,Á,Ŧ Ån ⟨dY _,λe1 Z=>?_⟩);let S:ai H Åa:=aL Z;let O:=L.same S;apply(p.gl,e1,_,Á,Á,aa.of O.gl,aa.of aq,_,Á,?_);rcases p7 p.ak with e|⟨gs,g,e⟩
 .rw[e];apply kZ ?_;let q:=k _ S;rw[afq (by delta eP.m;rw[e];rfl)] at q;exact q
 .let I:g∈p.ak:=by rw[e];simp
  let ne:(p.ak.map λg=>V.ref g.a).isEmpty=false:=by rw[e,bX];simp
  rw[ne];refine nu ⟨_,Á,p,Á,O,λU s2=>Ġ⟩;let M:=S.trans s2;let G:=L.same M;rw[SN e];rcases p7 g.flags with j|⟨ss,sg,j⟩
  .rw[j];apply kZ ?_;let q:=k _ M;rw[afr e j] at q;exact q
  .let hs:sg∈g.flags:=by rw[j];simp
   let J:g.flags.isEmpty=false:=by rw[j];simp
   rw[J];apply nu ⟨_,Á,bj G.pl T.cP T.nE Ån ⟨_,Á,p.gl,_,_,V.ref g.a,Á,Á,aa.of G.gl,?_,bj ((G.sub I).ga) T.cG T.vT (vS g) ⟨_,Á,g.l,_,_,V.ref sg.a,Á,Á,aa.of (G.sub I).fl,?_,bj (((G.sub I).zj hs).sa) T.cS T.EL (EK sg) ⟨sg.l,_,Á,.inl (aa.of ((G.sub I).zj hs).sl),_,_,Á,Á,?_⟩⟩⟩⟩
   .rw[e,bX];exact vx _ _
   .rw[j,bX];exact vx _ _
   .let q:=k _ M;rw[afs e j] at q;show Q (V.bl (decide ((((iv sg.cells).length:Nat):Int)<16))) U;rw[eZ,show decide (((sg.cells.length:Nat):Int)<16)=decide (sg.cells.length<16) by
     by_cases z:sg.cells.length<16
     .rw[eJ z,eJ Æ]
     .rw[fQ z,fQ Æ]]
    exact q
def afy:bH ["plate"] ["plate"] (aV J0):=cw
def afz(F:br K "has_whole_hoists" "has_whole_hoists" J0 f fd)(T:ma K C)(G:Ç 1 "lacks_flags" ["plate"] (qf C k8))(z:Ç 2 "lacks_cells" ["plate"] (qf C jC)):
  a7 P w K mg base aE 3 f fd ["plate"] (qf C qe):=by
 refine F.ok afy Â;let(p,rfl,L,k):=h;refine⟨_,aD (aY (ue (jy Âw œ ĳ (bT _))
  (ue (AL (bz G ò)) (rW (AL (bz z ò)))))),?_⟩
 apply(_,Á,Ŧ Ån ⟨dY _,λe1 I=>?_⟩);let s1:ai H Åa:=aL I;let j:=L.same s1;apply(p.gl,e1,_,Á,Á,aa.of j.gl,aa.of aq,_,Á,?_);let O:p.m.ak.isEmpty=p.ak.isEmpty:=by delta eP.m;cases p.ak <;> rfl
 rw[show(p.ak.map λg=>V.ref g.a).isEmpty=p.ak.isEmpty by simp];refine a8 Ï Ï
 .refine⟨_,Á,p,Á,j,λJ s2=>⟨_,Á,_,Á,a8 Ę Ę⟩⟩
  .refine⟨_,Á,p,Á,j.same s2,λM S=>Ġ⟩;let q:=k _ ((s1.trans s2).trans S);delta qe at q;grind
  .let q:=k _ Àx;delta qe at q;symm
 .let q:=k _ s1;delta qe at q;symm
inductive SO(C:Cs)(vs:au)(H:Hp)(Q:VK)(E':XK):Prop
 |mk (p:eP) (n:Nat) (_:vs=[.ref p.a,.int (n:Nat)]) (_:Lies H Ág) (_:∀H',ai H H'->Q (.bl (du p.m n)) H')
def afA:bH ["plate","sort"] ["plate","sort"] (aV JX):=cw
def ET(a b:Nat):decide (V.int (a:Nat)=V.int (b:Nat))=decide (a=b):=by
 grind
def dec_lt(a b:Nat):decide (((a:Nat):Int)<((b:Nat):Int))=decide (a<b):=by
 simp
def afB(F:br K "may_stand" "may_stand" JX f fd)(T:ma K C)(tL:mg "len"=none)(W:Cn mg "SIDE_LINE" ŉ)(c1:Cn mg "HOIST_LINE" Ş)(Y:Cn mg "CELLS_LINE" (.int 3))(cH:Cn mg "MOST_HOISTS" (.int 4))(cF:Cn mg "MOST_FLAGS" (.int 8))(dF:Ç 1 "lacks_flags" ["plate"] (qf C k8)) (Z:Ç 2 "lacks_cells" ["plate"] (qf C jC)):
  a7 P w K mg base aE 3 f fd ["plate","sort"] (SO C):=by
 refine F.ok afA Â;let(p,n,rfl,L,k):=h;refine⟨_,aB (dq (PW.pt (pw_or (cI ϫ œ ĳ (bT _)) (pw_or1 (cI ic á (b9 W) (bT _)))))
   (aD (aY (ue (jy ϫ Ć ĳ (bT _)) (rW (jy ic á (b9 W) (bT _)))))) d7)
  (aB (dq (PW.pt (pw_or (cI ic á (b9 Y) (bT _)) (pw_or1 (jx (bz Z ò)))))
   (aD (aY (ue (jy ic á (b9 Y) (bT _)) (rW (bz Z ò))))) d7)
  (aB (dq (cI ic á (b9 c1) (bT _))
   (aD (aY (ue (jy w8 (c8 fU Ô tL PySem.boot_len Äo) (b9 cH) (bT _)) (rW (AL (bz dF ò)))))) d7)
  (aD (aY (ue (jy Âw Ć ĳ (bT _)) (rW (jy w8 (c8 fU Ô tL PySem.boot_len (ae Ģ ag)) (b9 cF) (bT _)))))))),?_⟩
 let ec:p.m.classes.isEmpty=(iv p.classes).isEmpty:=by delta eP.m iv;cases p.classes <;> rfl
 apply(_,Á,bj L.pl T.cP T.EM (KM p) ⟨dY _,λe1 n1=>?_⟩);let s1:ai H Åa:=aL n1;let O:=L.same s1;apply(p.cl,e1,_,Á,Á,aa.of O.cl,aa.of aq,_,Á,?_);rw[<-ec];let first:∀H1,ai H H1->(p.m.classes.isEmpty||decide (n=0))=true->AN (HI (bU (RE K) (gi K ώ "classes") (yM dw)) (bU ox ϖ Äa)) {nx:=λ_ H'=>Q .aJ H',rt:=Q} [some Âx,some (.int (n:Nat))] H1:=λH1 z hc=>by
  let M1:=L.same z;apply(_,Á,bj M1.pl T.cP T.EM (KM p) ⟨dY _,λe2 n2=>?_⟩);let t2:=fm (o:=.lst []) z (z.free n2);apply(p.cl,e2,_,Á,Á,aa.of (L.same t2).cl,aa.of aq,_,Á,?_);rw[<-ec];let q:=k _ t2;delta du at q;rw[af hc] at q;refine a8 Ę Ę
  .apply(_,Á,Á,?_);symm
  .symm
 refine a8 (λhc=>first _ s1 É) Ï;let hc:p.m.classes.isEmpty=false:=À hc
 refine ů;rw[show V.int 0=V.int ((0:Nat):Int) from rfl,ET];refine a8 (λhd=>first _ s1 É) Ę;let hd:decide (n=0)=false:=À hd
 let U:∀H1,ai H H1->(decide (n=3)||jC p.m)=true->AN (HI (bU ox ϖ (tC (.int 3))) (g9 (qf C jC) [] E0 (bh ώ dw))) {nx:=λ_ H'=>Q .aJ H',rt:=Q} [some Âx,some (.int (n:Nat))] H1:=λH1 z h2=>by
  refine ů;rw[show V.int 3=V.int ((3:Nat):Int) from rfl,ET];apply a8 (λj=>⟨_,Á,p,Á,L.same z,λH2 t2=>?_⟩) (λj=>?_)
  .let q:=k _ (z.trans t2);delta du at q;symm
  .simp at j;let q:=k _ z;delta du at q;symm
 refine ů;rw[show V.int 3=V.int ((3:Nat):Int) from rfl,ET];apply a8 (λj=>U _ s1 É) (λj=>⟨_,Á,p,Á,O,λH2 s2=>⟨_,Á,a8 (λJ=>U _ Àx É) (λJ=>?_)⟩⟩);let j:decide (n=3)=false:=À j
 simp at J;let S:=s1.trans s2;let bI:∀H',ai H H'->Q (.bl (if decide (n=1)=true then decide (p.m.ak.length<4)&& !k8 p.m else match p.m.ak.getLast? with
  |some g=>decide (g.flags.length<8)
  |none=>false)) H':=λH' t=>by
  let q:=k _ t;delta du at q;rw[hc,hd,Bool.or_self,ah d9,j,J,Bool.or_self,ah d9] at q;exact q
 let I:=L.same S;refine ů;rw[show V.int 1=V.int ((1:Nat):Int) from rfl,ET];refine a8 Š Š
 .apply(_,Á,bj I.pl T.cP T.nE Ån ⟨p.gl,_,Á,.inl (aa.of I.gl),_,_,Á,Á,_,Á,?_⟩);let e4:decide ((((p.ak.map λg=>V.ref g.a).length:Nat):Int)<4)=decide (p.m.ak.length<4):=by
   rw[show(4:Int)=((4:Nat):Int) from rfl,dec_lt];delta eP.m;simp
  rw[e4];apply a8 (λh5=>⟨_,Á,p,Á,I,λH3 s4=>Ġ⟩) (λh5=>?_)
  .let q:=bI _ (S.trans s4);symm
  .symm
 .apply(_,Á,bj I.pl T.cP T.nE Ån ⟨dY _,λe5 n5=>?_⟩);let M:=fm (o:=.lst []) S (S.free n5);let G:=L.same M;apply(p.gl,e5,_,Á,Á,aa.of G.gl,aa.of aq,_,Á,?_);rcases p7 p.ak with e|⟨gs,g,e⟩
  .rw[e];apply nu ?_;let q:=bI _ M;rw[ah h1,show p.m.ak=[] by delta eP.m;rw[e];rfl] at q;symm
  .let hg:g∈p.ak:=by rw[e];simp
   let ne:(!(p.ak.map λg=>V.ref g.a).isEmpty)=true:=by rw[e,bX];simp
   rw[ne];apply kZ ⟨_,Á,bj G.pl T.cP T.nE Ån ⟨_,Á,p.gl,_,_,V.ref g.a,Á,Á,aa.of G.gl,?_,bj ((G.sub hg).ga) T.cG T.vT (vS g) ⟨g.l,_,Á,.inl (aa.of (G.sub hg).fl),_,_,Á,Á,?_⟩⟩⟩
   .rw[e,bX];exact vx _ _
   .let q:=bI _ M;let eg:p.m.ak.getLast?=some g.m:=by
     delta eP.m;symm
    rw[ah h1,eg] at q;show Q (V.bl (decide ((((g.flags.map λs=>V.ref s.a).length:Nat):Int)<((8:Nat):Int)))) _;rw[dec_lt,aA];let e6:g.m.flags.length=g.flags.length:=by delta ck.m;simp only[aA]
    symm
end
def qW(m:fX):Told->fX
 |.side s l=>⟨s,l,m.ak⟩
 |.hoist k=>⟨m.side,m.classes,m.ak++[⟨decide (k%2=1),decide (k/2=1),[]⟩]⟩
 |.shape k=>⟨m.side,m.classes,m.ak.dropLast++(m.ak.getLast?.map λg=>(⟨g.above,g.below,g.flags++[(k,[])]⟩:iG)).toList⟩
 |.row l=>⟨m.side,m.classes,m.ak.dropLast++(m.ak.getLast?.map λg=>(⟨g.above,g.below,g.flags.dropLast++(g.flags.getLast?.map λs=>(s.1,s.2++l)).toList⟩:iG)).toList⟩
structure Rep(C:Cs)(H:Hp)(p:eP):Prop where
 lies:Lies H Ág
 nd:((eI C p).map (·.1)).Nodup
def SQ(h:du m 1=true):m.ak.length<4:=by
 delta du at h;symm
def afC{m:fX}(h:du m 2=true):∃g,m.ak.getLast?=some g/\g.flags.length<8:=by
 delta du at h;split at h
 .simp at h
 .split at h
  .simp at h
  .split at h
   .rename_i z;exact absurd z Ù
   .split at h
    .rename_i g e;exact(g,e,À h)
    .cases h
def afD{m:fX}(h:du m 3=true):∃g s,m.ak.getLast?=some g/\g.flags.getLast?=some s/\s.2.length<16:=by
 delta du at h;split at h
 .simp at h
 .split at h
  .simp at h;delta jC at h;split at h
   .rename_i g e;split at h
    .rename_i s j;exact(g,s,e,j,À h)
    .cases h
   .cases h
  .rename_i z h2;exact absurd Ä h2
def KS{α β:Type}{f:α->β}{l:List α}{y:β}(h:(l.map f).getLast?=some y):∃r x,l=r++[x]/\f x=y:=by
 rcases p7 l with e|⟨r,x,e⟩
 .rw[e] at h;cases h
 .apply(r,x,e,?_);rw[e,bX,a0,lQ,Av,He] at h;exact aN h
inductive SR(C:Cs)(vs:au)(H:Hp)(Q:VK)(E':XK):Prop
 |mk (p:eP) (t:Told) (v:V) (H0:Hp) (_:vs=[.ref p.a,.int (t.sort:Nat),v]) (_:Rep C H p) (_:ai H0 H) (_:Lies H0 Ág) (_:zm H0 H t v) (_:(∀l,t=.row l->l.length=4)) (_:du p.m t.sort=true) (_:∀H' p',p'.a=p.a->p'.m=qW p.m t->Rep C H' p'->(∀b o,H b=some o->b∉(eI C p).map (·.1)->H' b=some o)->(∀b,b∈(eI C p').map (·.1)->b∈(eI C p).map (·.1)\/H0 b=none)->Q .aJ H')
def afE(h:Lies H ns)(j:b∈ns.map (·.1)):∃o,H b=some o:=by
 let(x,m,rfl):=cf.mp j;exact(_,h x m)
def BF(h:Lies H ns)(j:H b=none):b∉ns.map (·.1):=λz=>by
 let(o,e):=afE h z;symm
def KU(L:Lies H (A++(b,o)::B))(nd:((A++(b,o)::B).map (·.1)).Nodup)(keep:∀c u,H c=some u->c≠b->H2 c=some u)(J:H2 b=some o')(m:Lies H2 N):
  Lies H2 (A++(b,o')::(B++N)):=λx j=>by
 rw[bX,a0] at nd;let(M,F,G):=O2.mp nd;let(I,O):=j9.mp F;rcases gR.mp j with j|j
 .exact keep _ _ (L x (As _ j)) (G x.1 (cf.mpr ⟨x,j,Á⟩) b gy)
 .rcases ba.mp j with rfl|j
  .omega
  .rcases gR.mp j with j|j
   .exact keep _ _ (L x (tX _ (aO _ j))) λz=>I (by grind)
   .exact m x j
def KW{A B N:List Nd}{b:Addr}{o O:HO}(nd:((A++(b,o)::B).map (·.1)).Nodup)(j:(N.map (·.1)).Nodup)(hd:∀c,c∈N.map (·.1)->c∉(A++(b,o)::B).map (·.1)):((A++(b,O)::(B++N)).map (·.1)).Nodup:=by
 let e:(A++(b,O)::(B++N)).map (·.1)=(A++(b,o)::B).map (·.1)++N.map (·.1):=by simp
 rw[e];exact O2.mpr ⟨nd,j,λx m y F z=>hd y F (by rw[<-z];exact m)⟩
def KY{A B N:List Nd}{b:Addr}{o O:HO}{c:Addr}(h:c∈(A++(b,O)::(B++N)).map (·.1)):c∈(A++(b,o)::B).map (·.1)\/c∈N.map (·.1):=by
 grind
def SS{gs:List ck}{g g':ck}(h:g.a=g'.a):((gs++[g]).map λg=>V.ref g.a)=(gs++[g']).map λg=>V.ref g.a:=by
 symm
def afF{ss:List eG}{s s':eG}(h:s.a=s'.a):((ss++[s]).map λs=>V.ref s.a)=(ss++[s']).map λs=>V.ref s.a:=by
 symm
section
variable{P:Pg}{w:Wd}{K:FR}{mg:MG}{base:Heap}{C:Cs}
def afG:bH ["plate","sort","told"] ["plate","sort","told"] (aV J1):=cw
def afH(k:Nat):decide (V.int (((k:Nat):Int)%2)=V.int 1)=decide (k%2=1):=by
 grind
def afI(k:Nat):decide (V.int (((k:Nat):Int)/2)=V.int 1)=decide (k/2=1):=by
 grind
def afJ{f:Addr}{fd:FD}(F:br K "put" "put" J1 f fd)(T:ma K C)(c0:Cn mg "SIDE_LINE" ŉ)(c1:Cn mg "HOIST_LINE" Ş)(c2:Cn mg "SHAPE_LINE" (.int 2))(dG:Ă "Glimpse" C.G ["above","below","flags"]) (dS:Ă "Sighting" C.S ["shape","cells"]):Ì aE 3 f fd ["plate","sort","told"] (SR C):=by
 refine F.ok afG Â;let(p,t,v,H0,rfl,R,s0,L0,ta,h4,W,k):=h;refine⟨_,aD (dq (cI ic á (b9 c0) (bT _))
   (aB (fc Ú (cA yP ç bo Ø) rfl) (aD (fc Ú (cA yP ç bo Ø) rfl)))
  (aD (dq (cI ic á (b9 c1) (bT _))
   (aD (rY (Þ Ć (ae (p9 dG hr
    (ae (jy ic (eM HS ç bo) bo (bT _)) (ae (jy ic (eM ZY ç bo) bo (bT _)) Än))) ag))))
  (aD (dq (cI ic á (b9 c2) (bT _))
   (aD (rY (Þ Ģ (ae (p9 dS hr
    (ae ç Än)) ag))))
   (aD (rY (si PySem.F.plainAttrs_list PySem.F.slot_list_extend PySem.F.type_list_extend Qs (bg (cA cY Ģ (jh jM bo) Ø) rfl) Ţ)))))))),?_⟩
 let L:=R.lies;cases t with
 |side sd l=>
  let(tt,c,rfl,SU,ht,hc):=ta;refine ϴ;apply(_,Á,tt,_,0,_,Á,Á,bu.of ht,Á,_,Á,p.a,C.P,p.dx,_,Á,L.pl,T.cP,T.KO,(by show 3<1000;decide),?_);let nta:=Pl ht L.pl Ä;apply(_,Á,tt,_,1,_,Á,Á,bu.of (by rw[ao nta];exact ht),Á,_,Á,p.a,C.P,p.dx,_,Á,aq,T.cP,T.EM,?_,?_)
  .exact pz (Ia _ _ _) (by show 4<1000;decide)
  .let SV:=BF L0 SU;let zo:p.a∈(eI C p).map (·.1):=by delta eI;simp
   let EU:c≠p.a:=λz=>SV É;let nd:=R.nd;let SW:=(j9.mp nd);let nd2:=(j9.mp SW.2);let sub:∀b,b∈((p.gl,HO.lst (p.ak.map λg=>V.ref g.a))::p.ak.flatMap Åo).map (·.1)->b∈(eI C p).map (·.1):=λb hb=>aO _ (aO _ hb);apply k _ {p with cl:=c,side:=sd,classes:=l} Á Á ⟨λx hx=>?_,?_⟩ Âm č
   .let hx:x∈(p.a,HO.ins C.P p.dx (l9 {p with cl:=c,side:=sd,classes:=l}))::(c,HO.lst (iv l))::((p.gl,HO.lst (p.ak.map λg=>V.ref g.a))::p.ak.flatMap Åo):=hx;rcases ba.mp hx with rfl|hx
    .rw[aq];rfl
    .rcases ba.mp hx with rfl|hx
     .rw[ao EU,ao EU];omega
     .let jS:x.1≠p.a:=λz=>SW.1 (by grind);rw[ao jS,ao jS];exact L x (aO _ (aO _ hx))
   .apply j9.mpr ⟨λz=>?_,j9.mpr ⟨λz=>SV (sub c z),nd2.2⟩⟩;grind
   .rw[ao (λz=>nb É),ao (λz=>nb É)];omega
   .rcases ba.mp hb with z|z
    .symm
    .grind
 |hoist n=>
  obtain rfl:v=V.int (n:Nat):=ta;let M:=SQ W;refine⟨_,Á,Á,_,Á,ite_no (show ¬V.int ((1:Nat):Int)=V.int 0 by decide) ϴ⟩;apply(_,Á,Ŧ Ån ⟨.inl ⟨Á,_,aa.of L.gl⟩,_,Á,_,_,Á,Á,Æ,Á,_,Á,_,_,Á,Á,⟨by decide,by decide⟩,Á,dY _,λl O=>?_⟩);intro x dx hx i5 aQ;refine⟨x,dx,_,Á,Á,aq,λH2 h2 k2=>Ů⟩;let s1:ai H (Ϛ ã):=aL O;let Z:=ai.made hx i5 k2;let Y:=s1.trans Z;let hlx:l≠x:=λz=>by rw[<-z,aq] at hx;cases hx
  let ji:=Z _ _ aq;apply(p.gl,_,_,Á,Á,Y _ _ L.gl,?_,?_)
  .rw[aA];delta eP.m at M;simp only[aA] at M;exact gV Æ
  .let j:eI C p=[(p.a,.ins C.P p.dx (l9 p)),(p.cl,.lst Ŏ)]++(p.gl,.lst (p.ak.map λg=>V.ref g.a))::p.ak.flatMap Åo:=rfl;let I:eI C {p with ak:=p.ak++[⟨x,dx,l,decide (n%2=1),decide (n/2=1),[]⟩]}=[(p.a,.ins C.P p.dx (l9 p)),(p.cl,.lst Ŏ)]++(p.gl,.lst ((p.ak++[(⟨x,dx,l,decide (n%2=1),decide (n/2=1),[]⟩:ck)]).map λg=>V.ref g.a))::(p.ak.flatMap Åo++[(x,.ins C.G dx (pZ ⟨x,dx,l,decide (n%2=1),decide (n/2=1),[]⟩)),(l,.lst [])]):=by
    show(p.a,HO.ins C.P p.dx (l9 p))::(p.cl,HO.lst Ŏ)::(p.gl,_)::(p.ak++[_]).flatMap Åo=_;rw[Aw];rfl
   let KZ:=BF L Æh;let K0:=BF L O;let EV:p.gl∈(eI C p).map (·.1):=by delta eI;simp
   let K1:x≠p.gl:=λz=>KZ É;let zp:l≠p.gl:=λz=>K0 É;apply k _ {p with ak:=p.ak++[⟨x,dx,l,decide (n%2=1),decide (n/2=1),[]⟩]} Á ?_ Áj Âm č
   .delta eP.m qW;rw[bX];rfl
   .rw[I];apply KU (H:=H) (by assumption) (by rw[<-j];exact R.nd) (λc u e hc=>by rw[ao hc];exact Y _ _ e) ?_ Àl
    .rw[aq,bX];rfl
    .rcases ba.mp hy with rfl|hy;rotate_left;obtain rfl:=mV.mp hy;rotate_left
     .rw[ao K1,h2];apply cE (λz=>some (HO.ins C.G dx z)) ?_;rw[afH,afI];rfl
     .rw[ao zp];omega
   .rw[I];apply KW (by rw[<-j];exact R.nd) (by grind) (λc hc=>?_);grind
   .rw[ao (λz=>nb É)];exact Y _ _ e
   .rw[I] at hb;rcases KY hb with hb|hb
    .exact .inl hb
    .simp at hb;rcases hb with rfl|rfl
     .exact .inr (s0.free Æh)
     .exact .inr (s0.free O)
 |shape n=>
  obtain rfl:v=V.int (n:Nat):=ta;let(gm,eg,M):=afC W;let(gs,g,U,rfl):=KS eg;let J:g∈p.ak:=by rw[U];simp
  refine⟨_,Á,Á,_,Á,ite_no (show ¬V.int ((2:Nat):Int)=V.int 0 by decide) ⟨_,Á,Á,_,Á,ite_no (show ¬V.int ((2:Nat):Int)=V.int 1 by decide) ϴ⟩⟩;apply(_,Á,Ŧ Ån ⟨_,Á,p.gl,_,_,V.ref g.a,Á,Á,aa.of L.gl,?_,bj ((L.sub J).ga) T.cG T.vT (vS g) ⟨.inl ⟨Á,_,aa.of (L.sub J).fl⟩,_,Á,dY _,λl O=>?_⟩⟩)
  .rw[U,bX];exact vx _ _
  intro x dx hx i5 aQ;refine⟨x,dx,_,Á,Á,aq,λH2 h2 k2=>Ů⟩;let s1:ai H (Ϛ ã):=aL O;let Z:=ai.made hx i5 k2;let Y:=s1.trans Z;let hlx:l≠x:=λz=>by rw[<-z,aq] at hx;cases hx
  let ji:=Z _ _ aq;apply(g.l,_,_,Á,Á,Y _ _ (L.sub J).fl,?_,?_)
  .rw[aA];delta ck.m at M;simp only[aA] at M;exact gV Æ
  .let j:eI C p=((p.a,.ins C.P p.dx (l9 p))::(p.cl,.lst Ŏ)::(p.gl,.lst (p.ak.map λg=>V.ref g.a))::(gs.flatMap Åo++[(g.a,.ins C.G g.dx (pZ g))]))++(g.l,.lst (g.flags.map λs=>V.ref s.a))::g.flags.flatMap (ik C):=by
    delta eI;rw[show p.ak.flatMap Åo=gs.flatMap Åo++gq C g by simp_all];delta gq;simp
   let I:eI C {p with ak:=gs++[{g with flags:=g.flags++[⟨x,dx,l,n,[]⟩]}]}=((p.a,.ins C.P p.dx (l9 p))::(p.cl,.lst Ŏ)::(p.gl,.lst (p.ak.map λg=>V.ref g.a))::(gs.flatMap Åo++[(g.a,.ins C.G g.dx (pZ g))]))++(g.l,.lst ((g.flags++[(⟨x,dx,l,n,[]⟩:eG)]).map λs=>V.ref s.a))::(g.flags.flatMap (ik C)++[(x,.ins C.S dx (vR ⟨x,dx,l,n,[]⟩)),(l,.lst [])]):=by
    delta eI;rw[Aw,U,SS (gs:=gs) (g:=g) (g':={g with flags:=g.flags++[⟨x,dx,l,n,[]⟩]}) rfl];simp[gq,Aw,l9,pZ,ik,iv]
   let KZ:=BF L Æh;let K0:=BF L O;let EV:g.l∈(eI C p).map (·.1):=by rw[j];simp
   let K1:x≠g.l:=λz=>KZ É;let zp:l≠g.l:=λz=>K0 É;apply k _ {p with ak:=gs++[{g with flags:=g.flags++[⟨x,dx,l,n,[]⟩]}]} Á ?_ Áj Âm č
   .delta eP.m qW;simp[ck.m,eG.m,U,Av]
   .rw[I];apply KU (H:=H) (by rw[<-j];exact L) (by rw[<-j];exact R.nd) (λc u e hc=>by rw[ao hc];exact Y _ _ e) ?_ Àl
    .rw[aq,bX];rfl
    .rcases ba.mp hy with rfl|hy;rotate_left;obtain rfl:=mV.mp hy;rotate_left
     .rw[ao K1,h2];rfl
     .rw[ao zp];omega
   .rw[I];apply KW (by rw[<-j];exact R.nd) (by grind) (λc hc=>?_);simp at hc;rw[<-j];rcases hc with rfl|rfl
    .omega
    .omega
   .rw[ao (λz=>nb (by rw[z];exact EV))];exact Y _ _ e
   .rw[I] at hb;rcases KY hb with hb|hb
    .exact .inl (by rw[j];exact hb)
    .simp at hb;rcases hb with rfl|rfl
     .exact .inr (s0.free Æh)
     .exact .inr (s0.free O)
 |row l=>
  let(c,rfl,SU,hc):=ta;let(gm,sm,eg,es,M):=afD W;let(gs,g,U,rfl):=KS (show(p.ak.map ck.m).getLast?=some gm from eg);let(ss,sg,EW,rfl):=KS (show(g.flags.map eG.m).getLast?=some sm from es);let J:g∈p.ak:=by rw[U];simp
  let hs:sg∈g.flags:=by rw[EW];simp
  let K2:=h4 l rfl;apply(_,Á,Á,_,Á,ite_no (show ¬V.int ((3:Nat):Int)=V.int 0 by decide) ⟨_,Á,Á,_,Á,ite_no (show ¬V.int ((3:Nat):Int)=V.int 1 by decide) ⟨_,Á,Á,_,Á,ite_no (show ¬V.int ((3:Nat):Int)=V.int 2 by decide) ?_⟩⟩);apply(_,Á,Ŧ Ån ⟨_,Á,p.gl,_,_,V.ref g.a,Á,Á,aa.of L.gl,?_,bj ((L.sub J).ga) T.cG T.vT (vS g) ⟨_,Á,g.l,_,_,V.ref sg.a,Á,Á,aa.of (L.sub J).fl,?_,bj (((L.sub J).zj hs).sa) T.cS T.EL (EK sg) ⟨.inl ⟨Á,_,aa.of ((L.sub J).zj hs).sl⟩,_,Á,sg.l,c,_,_,Á,Á,((L.sub J).zj hs).sl,hc,?_,?_⟩⟩⟩)
  .rw[U,bX];exact vx _ _
  .rw[EW,bX];exact vx _ _
  .let:sg.cells.length<16:=M;rw[eZ,eZ,K2];exact tV (gV Æ)
  .let j:eI C p=((p.a,.ins C.P p.dx (l9 p))::(p.cl,.lst Ŏ)::(p.gl,.lst (p.ak.map λg=>V.ref g.a))::(gs.flatMap Åo++((g.a,.ins C.G g.dx (pZ g))::(g.l,.lst (g.flags.map λs=>V.ref s.a))::(ss.flatMap (ik C)++[(sg.a,.ins C.S sg.dx (vR sg))]))))++(sg.l,.lst (iv sg.cells))::[]:=by
    delta eI;rw[show p.ak.flatMap Åo=gs.flatMap Åo++gq C g by simp_all];delta gq;rw[show g.flags.flatMap (ik C)=ss.flatMap (ik C)++ik C sg by simp_all];simp[ik]
   let I:eI C {p with ak:=gs++[{g with flags:=ss++[{sg with cells:=sg.cells++l}]}]}=((p.a,.ins C.P p.dx (l9 p))::(p.cl,.lst Ŏ)::(p.gl,.lst (p.ak.map λg=>V.ref g.a))::(gs.flatMap Åo++((g.a,.ins C.G g.dx (pZ g))::(g.l,.lst (g.flags.map λs=>V.ref s.a))::(ss.flatMap (ik C)++[(sg.a,.ins C.S sg.dx (vR sg))]))))++(sg.l,.lst (iv (sg.cells++l)))::([]++[]):=by
    delta eI;dsimp only;rw[Aw,U,SS (gs:=gs) (g:=g) (g':={g with flags:=ss++[{sg with cells:=sg.cells++l}]}) rfl,EW,afF (ss:=ss) (s:=sg) (s':={sg with cells:=sg.cells++l}) rfl];simp[gq,Aw,l9,pZ,ik,vR]
   let EV:sg.l∈(eI C p).map (·.1):=by rw[j];simp
   apply k _ {p with ak:=gs++[{g with flags:=ss++[{sg with cells:=sg.cells++l}]}]} Á ?_ Áj Âm č
   .delta eP.m qW;dsimp only;simp[ck.m,eG.m,U,EW,Av]
   .rw[I];apply KU (H:=H) (by rw[<-j];exact L) (by rw[<-j];exact R.nd) (λc u e hc=>by rw[ao hc];exact e) ?_ (λy hy=>absurd hy Ä);rw[aq];simp
   .rw[I];exact KW (by rw[<-j];exact R.nd) Ä Ä
   .rw[ao (λz=>nb (by rw[z];exact EV))];omega
   .rw[I] at hb;rcases KY hb with hb|hb
    .exact .inl (by rw[j];exact hb)
    .exact absurd hb Ä
end
def K3(k l:Nat):List (Str×V):=[("kind",.int (k:Nat)),("line",.int (l:Nat))]
structure EX(K:FR)(mg:MG)(C N:Addr):Prop where
 c:XC K C N
 afN:D5 K N "kind"
 afO:D5 K N "line"
 mC:mg "NoPlate"=some Ā
 keep:PySem.W.keepIn K Ā=true
inductive K4(C:Addr)(vs:au)(H:Hp)(Q:VK)(E':XK):Prop
 |mk (x:Addr) (k l:Nat) (_:vs=[.ref x,.int (k:Nat),.int (l:Nat)]) (_:H x=some ő) (_:∀H' d,H' x=some (exc C (some d) .none x)->d≠x->H' d=some (uv d (K3 k l))->(∀b o,H b=some o->b≠x->H' b=some o)->Q .aJ H')
def SX(P:Pg)(w:Wd)(K:FR)(mg:MG)(base:Heap)(C N:Addr):Prop:=
 ∃f fd,EX K mg C N/\PySem.W.nsIn K N "__init__"=some Áx/\PySem.W.isFn K ā=true/\Ì aE 1 f fd ["self","kind","line"] (K4 C)/\L2.Binds K fd ["self","kind","line"] []
section
variable{P:Pg}{w:Wd}{K:FR}{mg:MG}{base:Heap}{C:Cs}{CN N:Addr}
def afP:typeOf (.type "Exception")=pure (.type "type"):=by rfl
def afQ:bH ["self","kind","line"] ["self","kind","line"] (aV JS):=cw
def afR(F:br K "__init__" "NoPlate.__init__" JS f fd)(T:EX K mg CN N)(G:mg "Exception"=none)(z:PySem.W.findCls K (.type "Exception") (.type "type") "__init__"=some (.val (.builtin "Exception.__init__"))):
  a7 P w K mg base aE 1 f fd ["self","kind","line"] (K4 CN):=by
 refine F.ok afQ Â;let(x,n,l,rfl,j,k):=h;apply(_,aB (rY (acH Ô G z ò afP Ê Ê)) (aB (acK Ú á Á) (aD (acM Ú ç Á))),?_);apply(_,Á,x,CN,N,_,_,Á,j,T.c,_,Á,_,Á,x,CN,N,_,Á,j,T.c,T.afN,λd hd aQ=>?_);apply(_,Á,_,Á,x,CN,N,d,_,_,Á,(by rw[ao Åh];exact aq),aQ,aq,(by show 1<1000;decide),T.c,T.afO,?_);apply k _ d (by rw[ao Åh,ao Åh];exact aq) aQ ?_ λb o e m=>?_
 .rw[aq];rfl
 .let S:=eK e hd;rw[ao S,ao S,ao m];exact e
def mf:Nat->fX->di->Except (Nat×Nat) fX
 |_,m,[]=>.ok m
 |i,m,w::r=>match jR w with
  |none=>.error (1,i)
  |some t=>if du m t.sort=true then mf (i+1) (qW m t) r else .error (2,i)
def gW(j:LI):Except (Nat×Nat) fX:=match mf 0 ⟨0,[],[]⟩ (JM.aI 10 j).dropLast with
 |.error e=>.error e
 |.ok m=>if j=[]\/(JM.aI 10 j).getLastD []≠[] then .error (1,(JM.aI 10 j).dropLast.length) else if qe m=true then .ok m else .error (2,(JM.aI 10 j).dropLast.length)
inductive SZ(K:FR)(C:Cs)(CN:Addr)(vs:au)(H:Hp)(Q:VK)(E:XK):Prop
 |mk (ap:Addr) (bC:LI) (_:vs=[.ref ap]) (_:â ap (iv bC)) (_:bC.length<=66000) (_:(∀m,gW bC=.ok m->∀H' p,ai H H'->Lies H' Ág->p.m=m->Q Âx H')) (_:∀e,gW bC=.error e->∀H' d,ai H H'->H' d=some (uv d (K3 e.1 e.2))->E (.ref CN) (some d) H')
def S2{w l:LI}(h:jQ w=some l):l.length=4:=by
 delta jQ at h;split at h
 .rename_i e;delta jB at h;grind
 .cases h
def afS{w l:LI}(h:jR w=some (.row l)):l.length=4:=by
 delta jR at h;split at h
 .cases h
 .split at h
  .symm
  .split at h
   .symm
   .cases e:jQ w with
    |none=>symm
    |some j=>
     rw[e] at h;let z:=aN h;injection z with z;subst z;exact S2 e
def drop_cons{α:Type}{l:List α}{i:Nat}{x:α}(h:l[i]? =some x):l.drop i=x::l.drop (i+1):=by
 let(j,e):=bO.mp h;rw[List.drop_eq_getElem_cons j,e]
theorem eB.get{H:Hp}:∀{j:LA}{L:di}{i:Nat}{q:Addr},eB H j L->j[i]? =some q->∃l,L[i]? =some l/\H q=some ň:=by
 intro j L i q m;induction m generalizing i with
 |nil=>intro h;simp at h
 |cons r t I=>
  intro h;cases i with
  |zero=>
   let e:=aN h;subst e;exact(_,Á,r)
  |succ i=>exact I h
def zq:bH ["text","lines","rest","plate","number","line","told"] ["text"] (aV JT):=cw
inductive RpI(C:Cs)(ap pl qr x:Addr)(Hb:Hp)(L:di)(i:Nat)(σ:L2.St)(H':Hp):Prop
 |mk (p:eP) (v4 v5 v6:Option V) (_:σ=[some Èp,some (.ref pl),some (.ref qr),some ŝ,v4,v5,v6]) (_:ai Hb H') (_:Rep C H' p) (_:p.a=x) (_:(∀b,b∈(eI C p).map (·.1)->Hb b=none)) (_:mf 0 ⟨0,[],[]⟩ L=mf i p.m (L.drop i))
def afU{f:Addr}{fd:FD}(F:br K "read_plate" "read_plate" JT f fd)(T:ma K C)(tL:mg "len"=none)(tE:mg "enumerate"=none)(cL:Cn mg "LINE_END" (.int 10))(cN:Cn mg "NO_SUCH_LINE" Ş)(cW:Cn mg "WRONG_PLACE" (.int 2))(dC:Ç 1 "cut" ["text","mark"] (vQ K)) (dP:Ă "Plate" C.P ["side","classes","glimpses"]) (dN:SX P w K mg base CN N) (dR:Ç 5 "read_line" ["line"] (SJ K)) (dM:Ç 3 "may_stand" ["plate","sort"] (SO C))(dU:Ç 3 "put" ["plate","sort","told"] (SR C)) (dW:Ç 3 "has_whole_hoists" ["plate"] (qf C qe)):Ì Ĕ 6 f fd ["text"] (SZ K C CN):=by
 let(fN,S3,TN,iN,EY,GN,bN):=dN;refine F.qP zq Â;let(ap,j,rfl,hT,hl,k1,k2):=h;let sC:dv 2 _:=hr.mono Ù;refine⟨_,aB (cj 1 zq.nd (bz (hr:=hr) dC (ae Ú (ae (b9 cL) ag))))
  (aB (cj 2 zq.nd (Qr PySem.F.plainAttrs_list PySem.F.slot_list_pop PySem.F.type_list_pop Qt á))
  (aB (cj 3 zq.nd (p9 dP hr (ae bo (ae ĳ Än))))
  (aB (m9 (Rg xu) rfl (kY Ô tE Ŕ) (iE 4 5 zq.nd)
   (aB (cj 6 zq.nd (bz (hr:=hr) dR ţ))
   (aB (dq (ot (qE Ãl)) (aD (jP hr.hd TN.c (į bN .nil sr (ae (b9 cN) Ϣ)))) d7)
   (aB (dq (pG (jx (bz (hr:=hr) dM (ae ö (ae Åp ag))))) (aD (jP hr.hd TN.c (į bN .nil sr (ae (b9 cW) Ϣ)))) d7)
   (aD (rY (bz (hr:=hr) dU (ae ö (ae Åp (ae Åp ag))))))))))
  (aB (dq (PW.pt (pw_or (cI ϫ Ú ĳ (bT _)) (pw_or1 (cI Âw ç ĳ (bT _)))))
   (aD (jP hr.hd TN.c (į bN .nil sr (ae (b9 cN) (ae ü ag))))) d7)
  (aB (dq (pG (jx (bz (hr:=hr) dW ı)))
   (aD (jP hr.hd TN.c (į bN .nil sr (ae (b9 cW) (ae ü ag))))) d7)
  (aD (aY ö))))))),?_⟩
 apply(_,Á,ap,10,j,Á,hT,gQ hl Ù,λH1 pl qs hN hp nd np hf=>?_);let(gD,qr,rfl,uE,xJ):=eB.last hp (JM.lJ 10 j);let s1:=hN.1;apply(_,Á,.inl ⟨Á,_,aa.of hN.2.2⟩,pl,_,V.ref qr,Á,Á,hN.2.2,?_,?_)
 .simp
 let eL:(((gD++[qr]).map V.ref).dropLast)=gD.map V.ref:=by rw[bX];simp
 rw[eL];let K5:=λz=>np (As _ z);let K6:qr≠pl:=λz=>np É;generalize hL:(JM.aI 10 j).dropLast=L at uE;generalize hRest:(JM.aI 10 j).getLastD []=I at xJ;let sb:ai H ō:=fm s1 hN.2.1;let zr:eB ō gD L:=eB.upd uE K5;let rb:(ō) qr=some (.lst (iv I)):=by rw[ao K6];exact xJ
 let lb:(ō) pl=some ý:=aq;generalize ō=Hb at sb zr rb lb;let aqc:L.length<=66000:=by
  rw[<-hL,X9];let:=EG 10 j;omega
 let S4:=zr.len;let afV:∀w∈L,w.length<=100000:=λw G=>by
  let:=xG 10 j w (by rw[<-hL] at G;exact Ax _ G);omega
 let J:gW j=match mf 0 ⟨0,[],[]⟩ L with
   |.error e=>.error e
   |.ok m=>if j=[]\/I≠[] then .error (1,L.length) else if qe m=true then .ok m else .error (2,L.length):=by
  delta gW;rw[hL,hRest]
 let BG:∀(kk ll:Nat)(Hx:Hp),gW j=.error (kk,ll)->ai H Hx->([V.int (kk:Nat),V.int (ll:Nat)]:au).length<=sizeLine/\∀x,Hx x=none->
   K4 CN (V.ref x::([V.int (kk:Nat),V.int (ll:Nat)]++[])) (upd Hx x (exc CN none .none x)) (λv H2=>v=.aJ/\∃a od,V.ref x=V.ref a/\H2 a=some (exc CN od .none a)/\(∀d,od=some d->d≠a)/\E (.ref CN) od H2) E0:=λkk ll Hx e S=>
  ⟨(by show 2<=sizeLine;decide),λx O=>⟨x,kk,ll,rfl,aq,λH5 d h1 aQ h2 kp=>⟨rfl,x,some d,rfl,h1,λd' e'=>(by cases e';exact aQ),k2 _ e H5 d (λb o eb=>kp b o (by rw[ao (eK (S _ _ eb) O)];exact S _ _ eb) (eK (S _ _ eb) O)) h2⟩⟩⟩
 apply(dY _,λU eY=>⟨dY _,λY ji=>?_⟩);intro x dx O i5 S5;refine⟨x,dx,_,Á,Á,aq,λH4 h4 k4=>Ů⟩;let t1:ai Hb (upd Hb U ã):=aL eY;let t2:ai Hb (upd (upd Hb U ã) Y ã):=fm t1 (t1.free ji);let t4:=ai.made O i5 k4;let t5:=t2.trans t4;let S6:U≠Y:=λz=>by rw[<-z,aq] at ji;cases ji
 let nx2:Y≠x:=λz=>by rw[<-z,aq] at O;cases O
 let nx1:U≠x:=λz=>by rw[<-z,ao S6,aq] at O;cases O
 let R0:Rep C H4 ⟨x,dx,U,Y,0,[],[]⟩:=by
  apply(λy hy=>?_,?_)
  .let hy:=hy;rcases ba.mp hy with rfl|hy
   .exact h4
   .rcases ba.mp hy with rfl|hy
    .exact t4 _ _ (by rw[ao S6];exact aq)
    .obtain rfl:=mV.mp hy;exact t4 _ _ aq
  .show([x,U,Y]:LA).Nodup;grind
 let F0:∀b,b∈(eI C ⟨x,dx,U,Y,0,[],[]⟩).map (·.1)->Hb b=none:=λb hb=>by
  let hb:b=x\/b=U\/b=Y:=by simpa [eI] using hb
  rcases hb with rfl|rfl|rfl
  .exact t2.free O
  .omega
  .exact t1.free ji
 refine⟨_,Á,pl,_,Á,aa.of (t5 _ _ lb),ac0 (K:=K) (a:=pl) (xs:=gD.map V.ref)
  (RpI C ap pl qr x Hb L)
  ⟨⟨x,dx,U,Y,0,[],[]⟩,none,none,none,rfl,t5,R0,rfl,F0,rfl⟩ (λi σ H' _ h=>(by let(_,_,_,_,_,S):=h;exact aa.of (S _ _ lb))) ?_ ?_⟩
 .rintro i y TT σ H' hi ⟨p,v4,v5,v6,rfl,S,R,zo,pK,W⟩ vH;obtain⟨q,hq,rfl⟩:∃q,gD[i]? =some q/\y=V.ref q:=by
   grind
  let(wd,G,hqw):=eB.get zr hq;let sT:=fm (o:=.tup [.int (i:Nat),.ref q]) S (S.free vH);let S7:ai H' (upd H' TT (.tup [.int (i:Nat),.ref q])):=aL vH;rw[drop_cons G] at W;apply(TT,_,Á,bu.of aq,Á,_,_,Á,_,_,Á,Á,_,Á,q,wd,Á,aa.of (sT _ _ hqw),afV wd (bZ G),λH3 v Z EZ=>?_);let S8:=sT.trans Z;let s3H:=sb.trans S8;cases zt:jR wd with
  |none=>
   rw[zt] at EZ;obtain rfl:v=.aJ:=EZ;let M:gW j=.error (1,i):=by
    rw[J,W];delta mf;symm
   exact(_,Á,_,Á,ite_yes Á ⟨_,Á,BG 1 i H3 M s3H⟩)
  |some t=>
   rw[zt] at EZ;let(q2,y2,rfl,xB,K7,ta):=EZ;let L3:=R.lies.same (S7.trans Z);refine⟨_,Á,_,Á,ite_no Ä ⟨_,Á,_,Á,q2,_,0,_,Á,Á,bu.of K7,Á,p,t.sort,É,L3,λH5 s5=>Ġ⟩⟩;let S9:=S8.trans s5;let s5H:=sb.trans S9;apply a8 (λhm=>?_) (λhm=>?_)
   .simp at hm;let M:gW j=.error (2,i):=by
     rw[J,W];delta mf;symm
    exact(_,Á,BG 2 i H5 M s5H)
   .simp at hm;let R5:Rep C H5 p:=⟨L3.same s5,R.nd⟩;refine⟨_,Á,_,Á,q2,_,0,_,Á,Á,bu.of (s5 _ _ K7),Á,_,Á,q2,_,1,_,Á,Á,bu.of (s5 _ _ K7),Á,p,t,y2,upd H' TT (.tup [.int (i:Nat),.ref q]),(by rw[zo];rfl),R5,Z.trans s5,R.lies.same S7,ta.same s5,
     λl e=>afS (by rw[zt,e]),hm,λH6 p' e1 e2 R6 kf kn=>?_⟩
    apply(p',_,_,_,Á,λb o eb=>kf b o (S9 _ _ eb) (λz=>by grind),R6,e1.trans zo,λb hb=>?_,?_)
    .rcases kn b hb with z|z
     .grind
     .exact sT.free z
    .rw[W,e2];rw[show mf i p.m (wd::L.drop (i+1))=(match jR wd with
      |none=>.error (1,i)
      |some t=>if du p.m t.sort=true then mf (i+1) (qW p.m t) (L.drop (i+1)) else .error (2,i)) from rfl,zt]
     symm
 .rintro σ H' ⟨p,v4,v5,v6,rfl,S,R,zo,pK,W⟩;let sH:=sb.trans S;rw[aA,S4,List.drop_length] at W;let W:mf 0 ⟨0,[],[]⟩ L=.ok p.m:=W;rw[W] at J;dsimp only at J;let K8:(((gD.map V.ref).length:Nat):Int)=((L.length:Nat):Int):=by rw[aA,S4]
  apply(_,Á,dY _,λe1 n1=>?_);let E1:=fm (o:=.lst []) sH (sH.free n1);let K9:=fm (o:=.lst []) S (S.free n1);refine⟨ap,e1,_,Á,Á,E1.seq hT,aa.of aq,_,Á,a8 Ï Ï⟩
  .let hc:j=[]:=by
    symm
   let M:gW j=.error (1,L.length):=by rw[J,af (.inl hc)]
   apply(_,Á,pl,_,Á,.inl (aa.of (K9 _ _ lb)),?_);rw[K8];exact BG 1 L.length _ M E1
  .let hc:¬j=[]:=λz=>hc É;apply(_,Á,dY _,λe2 n2=>?_);let La:=fm (o:=.lst []) E1 (E1.free n2);let Lb:=fm (o:=.lst []) K9 (K9.free n2);refine⟨qr,e2,_,Á,Á,aa.of (Lb _ _ rb),aa.of aq,_,Á,a8 Ę Ę⟩
   .let hd:I≠[]:=λz=>by rw[z] at hd;exact absurd hd Ù
    let M:gW j=.error (1,L.length):=by rw[J,af (.inr hd)]
    apply(_,Á,pl,_,Á,.inl (aa.of (Lb _ _ lb)),?_);rw[K8];exact BG 1 L.length _ M La
   .let hd:I=[]:=by
     symm
    let A2:¬(j=[]\/I≠[]):=λz=>z.elim hc (λz=>z hd);rw[ah A2] at J;let Lx:Lies _ Ág:=(R.lies.same (aL (o:=.lst []) n1)).same (aL (o:=.lst []) n2);refine⟨_,Á,p,É,Lx,λH3 Z=>Ġ⟩;apply a8 (λG=>?_) (λG=>?_)
    .simp at G;let M:gW j=.error (2,L.length):=by rw[J,G];rfl
     apply(_,Á,pl,_,Á,.inl (aa.of (Z _ _ (Lb _ _ lb))),?_);rw[K8];exact BG 2 L.length _ M (La.trans Z)
    .simp at G;rw[af G] at J;refine Ġ;let q:=k1 p.m J H3 p (La.trans Z) (Lx.same Z) rfl;symm
end
def zu:Str:="ABCDEFGHIJKLMNOPQRSTUVWXYZ0123456789"
def iH(part:LI):Bool:=decide (1<=part.length)&&(decide (part.length<=8)&&part.all λb=>(codes zu).contains b)
inductive Lc(K:FR)(vs:au)(H:Hp)(Q:VK)(E':XK):Prop
 |mk (ap:Addr) (part:LI) (_:vs=[.ref ap]) (_:â ap Âz) (_:part.length<=100000) (_:∀H',ai H H'->Q (.bl (iH part)) H')
section
variable{P:Pg}{w:Wd}{K:FR}{mg:MG}{base:Heap}
def afZ:bH ["part"] ["part"] (aV JH):=cw
def af0(F:br K "is_name" "is_name" JH f fd)(tL:mg "len"=none)(G:Cn mg "LONGEST_NAME" (.int 8))(I:Cn mg "NAME_SIGNS" (.str zu))(J:Ç 2 "places_in" ["signs","part"] (EJ K)):Ì aE 3 f fd ["part"] (Lc K):=by
 refine F.ok afZ Â;let(j,part,rfl,m,U,k):=h;refine⟨_,aD (aY (ue (P0 w9 w9 bo ą (b9 G))
  (rW (Px (HG (bz (hr:=hr) J (ae (b9 I) ò))))))),?_⟩
 let M:decide ((1:Int)<=(((iv part).length:Nat):Int))=decide (1<=part.length):=by
  grind
 let O:decide ((((iv part).length:Nat):Int)<=8)=decide (part.length<=8):=by
  grind
 let q:=k;delta iH at q;apply(_,Á,j,_,Á,.inl m,_,_,Á,Á,_,Á,?_);rw[M];refine a8 Ï Ï
 .apply(_,_,Á,Á,_,Á,?_);rw[O];refine a8 Ę Ę
  .rw[hc,hd,lR,lR] at q;apply(_,Á,zu,j,part,Á,by decide,m,U,λz H' W=>?_,λl z H' p S=>?_)
   .let q:=q _ W;delta jB at z;grind
   .let q:=q _ S.1;delta jB at z;grind
  .let hd:decide (part.length<=8)=false:=by simpa using hd
   rw[hd,lu,yt] at q;exact q _ ŷ
 .let hc:decide (1<=part.length)=false:=by simpa using hc
  rw[hc,lu] at q;exact(_,Á,q _ ŷ)
def fg(t:LI)(line:LI):Option LI:=match JM.aI 32 line with
 |[a,b]=>if a=t/\iH b=true then some b else none
 |_=>none
inductive Ld(K:FR)(vs:au)(H:Hp)(Q:VK)(E':XK):Prop
 |mk (x:Str) (ap:Addr) (line:LI) (_:vs=[.str x,.ref ap]) (_:x.cps.size<=100000) (_:â ap Åu) (_:line.length<=100000) (_:∀H' v,ai H H'->LstAt H H' (fg ş line) v->Q v H')
theorem af1(h:l.length=2):∃a b,l=[a,b]:=by
 match l,h with
 |[a,b],_=>exact(a,b,Á)
def Ta:bH ["title","line","words"] ["title","line"] (aV JI):=cw
def af2(F:br K "name_behind" "name_behind" JI f fd)(tL:mg "len"=none)(cB:Cn mg "BLANK" Åx)(dC:Ç 1 "cut" ["text","mark"] (vQ K)) (dS:Ç 1 "spelled" ["written"] BB) (dN:Ç 3 "is_name" ["part"] (Lc K)):
  a7 P w K mg base aE 4 f fd ["title","line"] (Ld K):=by
 refine F.ok Ta Â;let(x,ap,line,rfl,hx,hP,W,k):=h;let uB:dv 1 _:=hr.mono Ù;refine⟨_,aB (cj 2 Ta.nd (bz (hr:=uB) dC (ae á Ϯ)))
  (aB (dq (PW.pt (pw_or (cI vt û bo (bT _))
    (pw_or (cI (RD hr.units) Ào (bz (hr:=uB) dS ò) (bT _))
    (pw_or1 (pG (jx (bz (hr:=hr) dN (ae Ào ag)))))))) Ÿ d7)
  (aD (aY Ào))),?_⟩
 apply(_,Á,ap,32,line,Á,hP,W,λH1 p M J j nd np hf=>?_);let cK:((M.map V.ref).length:Int)=((JM.aI 32 line).length:Nat):=by rw[aA,j.len]
 let Z:=J.1;refine⟨_,Á,p,_,Á,.inl (aa.of J.2.2),Á,_,Á,a8 Ï Ï⟩
 .apply k H1 .aJ Z ?_;let:fg ş line=none:=by
   delta fg;grind
  rw[this];rfl
 .let h2:(JM.aI 32 line).length=2:=by
   grind
  let(a,b,S):=af1 h2;rw[S] at j;let en:fg ş line=if a=codes x/\iH b=true then some b else none:=by delta fg;rw[S]
  let KP:∀w∈[a,b],w.length<=100000:=λw hw=>gQ (xG 32 line w É) W;obtain⟨Y,I,rfl⟩:∃x y,M=[x,y]:=by
   let:=j.len
   match M,this with
   |[x,y],_=>exact(x,y,Á)
  cases j with
  |cons ha j=>
   cases j with
   |cons U j=>
    apply(_,Á,p,_,0,V.ref Y,Á,Á,aa.of J.2.2,Á,_,Á,x,Á,hx,λH2 p2 m=>?_);let s2:=Z.trans m.1;refine⟨Y,p2,a,codes x,Á,Á,aa.of (m.1 _ _ ha),aa.of m.2.2,_,Á,a8 Ę Ę⟩
    .apply k H2 .aJ s2 ?_;simp at hd;rw[en,ah (λz=>hd z.1)];rfl
    .simp at hd;refine⟨_,Á,p,_,1,V.ref I,Á,Á,aa.of (m.1 _ _ J.2.2),Á,I,b,Á,aa.of (m.1 _ _ U),KP b Ä,λO s3=>Ġ⟩;apply a8 (λG=>?_) (λG=>?_)
     .let G:¬iH b=true:=by simpa using G
      apply k O .aJ Ĭ ?_;rw[en,ah (λz=>G z.2)];rfl
     .simp at G;apply(_,Á,p,_,1,V.ref I,Á,Á,aa.of (s3 _ _ (m.1 _ _ J.2.2)),Á,?_);apply k O (.ref I) Ĭ ?_;rw[en,af ⟨hd,G⟩];exact(I,Á,hf I Ä,s3 _ _ (m.1 _ _ U))
def jD(j:LI):Option di:=if (JM.aI 10 j).getLastD []=[] then some (JM.aI 10 j).dropLast else none
def af3(H H':Hp):Option di->V->Prop
 |none,v=>v=.aJ
 |some L,v=>∃p qs,v=.ref p/\H p=none/\H' p=some Ď/\eB H' qs L/\(∀q∈qs,H q=none)
inductive Le(K:FR)(vs:au)(H:Hp)(Q:VK)(E':XK):Prop
 |mk (ap:Addr) (bC:LI) (_:vs=[.ref ap]) (_:â ap (iv bC)) (_:bC.length<=100000) (_:∀H' v,ai H H'->af3 H H' (jD bC) v->Q v H')
def Lf:bH ["text","lines","rest"] ["text"] (aV JD):=cw
def af4(F:br K "whole_lines" "whole_lines" JD f fd)(cL:Cn mg "LINE_END" (.int 10))(dC:Ç 1 "cut" ["text","mark"] (vQ K)):
  a7 P w K mg base aE 2 f fd ["text"] (Le K):=by
 refine F.ok Lf Â;let(ap,j,rfl,hP,hl,k):=h;refine⟨_,aB (cj 1 Lf.nd (bz (hr:=hr) dC (ae Ú (ae (b9 cL) ag))))
  (aB (cj 2 Lf.nd (Qr PySem.F.plainAttrs_list PySem.F.slot_list_pop PySem.F.type_list_pop Qt á))
  (aD (aY (rX (cI ϫ ç ĳ (bT _)) á qD)))),?_⟩
 apply(_,Á,ap,10,j,Á,hP,hl,λH1 pl qs m hp nd W hf=>?_);let(gD,G,rfl,uE,xJ):=eB.last hp (JM.lJ 10 j);let s1:=m.1;apply(_,Á,.inl ⟨Á,_,aa.of m.2.2⟩,pl,_,V.ref G,Á,Á,m.2.2,?_,?_)
 .simp
 let eL:(((gD++[G]).map V.ref).dropLast)=gD.map V.ref:=by rw[bX];simp
 rw[eL];let K5:=λz=>W (As _ z);let K6:G≠pl:=λz=>W É;let S:ai H ō:=fm s1 m.2.1;let zr:=eB.upd (o:=.lst (gD.map V.ref)) uE K5;let Y:(ō) G=some (.lst (iv ((JM.aI 10 j).getLastD []))):=by rw[ao K6];exact xJ
 let O:(ō) pl=some ý:=aq;generalize ō=J at S zr Y O;apply(_,Á,dY _,λM U=>?_);let Z:=fm (o:=.lst []) S (S.free U);let I:ai J (upd J M ã):=aL U;refine⟨G,M,_,Á,Á,aa.of (I _ _ Y),aa.of aq,_,Á,a8 Ï Ï⟩
 .let hc:(JM.aI 10 j).getLastD []=[]:=by simpa using hc
  apply(_,Á,k _ _ Z ?_);delta jD;rw[af hc];exact(pl,gD,Á,m.2.1,I _ _ O,zr.same I,λq hq=>hf q (As _ hq))
 .let hc:¬(JM.aI 10 j).getLastD []=[]:=by simpa using hc
  apply k _ _ Z ?_;delta jD;rw[ah hc];rfl
end
structure gX where
 role:Nat
 name:LI
 jT:Int
 copies:Int
 shape:Nat
 look:LI
abbrev aF:=List gX
structure az where
 a:Addr
 dx:Addr
 nm:Addr
 lk:Addr
 m:gX
def vU(k:az):List (Str×V):=[("role",.int (k.m.role:Nat)),("name",.ref k.nm),("which",.int k.m.jT),("copies",.int k.m.copies),("shape",.int (k.m.shape:Nat)),("look",.ref k.lk)]
def jU(C:Addr)(k:az):jl:=[(k.a,.ins C k.dx (vU k)),(k.nm,.lst (iv k.m.name)),(k.lk,.lst (iv k.m.look))]
def vV(k:az):(vU k).lookup ("role":Str)=some (.int (k.m.role:Nat)):=il
def Tb(k:az):(vU k).lookup ("name":Str)=some (.ref k.nm):=(fY Ê).trans il
def Lh(k:az):(vU k).lookup ("which":Str)=some (.int k.m.jT):=(fY Ê).trans ((fY Ê).trans il)
def Li(k:az):(vU k).lookup ("copies":Str)=some (.int k.m.copies):=(fY Ê).trans ((fY Ê).trans ((fY Ê).trans il))
def Tc(k:az):(vU k).lookup ("shape":Str)=some (.int (k.m.shape:Nat)):=(fY Ê).trans ((fY Ê).trans ((fY Ê).trans ((fY Ê).trans il)))
def Td(k:az):(vU k).lookup ("look":Str)=some (.ref k.lk):=(fY Ê).trans ((fY Ê).trans ((fY Ê).trans ((fY Ê).trans ((fY Ê).trans il))))
structure uF where
 a:Addr
 dx:Addr
 nm:Addr
 kl:Addr
 name:LI
 kinds:List az
def E2(l:uF):List (Str×V):=[("name",.ref l.nm),("kinds",.ref l.kl)]
def zw(C:Addr)(ks:List az):jl:=ks.flatMap (jU C)
def af5(l:uF):(E2 l).lookup ("name":Str)=some (.ref l.nm):=il
def E3(l:uF):(E2 l).lookup ("kinds":Str)=some (.ref l.kl):=(fY Ê).trans il
structure sE(K:FR)(C:Addr):Prop where
 c:kO K C
 vW:ϧ "role"
 nName:ϧ "name"
 Lj:ϧ "which"
 Lk:ϧ "copies"
 zk:ϧ "shape"
 Te:ϧ "look"
structure LkT(K:FR)(C:Addr):Prop where
 c:kO K C
 nName:ϧ "name"
 aqf:ϧ "kinds"
structure mh(K:FR)(mg:MG)(x:Str)(C N:Addr):Prop where
 c:XC K C N
 nG:PySem.W.nsIn K N "__init__"=some none
 mC:mg x=some Ā
 keep:PySem.W.keepIn K Ā=true
section
variable{P:Pg}{w:Wd}{K:FR}{mg:MG}{base:Heap}{C CN N:Addr}
abbrev No(E:XK)(C:Addr)(H:Hp):Prop:=∀H',ai H H'->E Ā none H'
def No.go(h:No E C H)(s:ai H H1):No E C H1:=λj S=>h j (s.trans S)
def gJ(h:No E C H):∀x,H x=none->∃(a:Addr)(od:OA),V.ref x=V.ref a/\Áe ő a=some (exc C od .none a)/\(∀d,od=some d->d≠a)/\E Ā od (Áe ő):=
 λx j=>⟨x,none,rfl,aq,λd z=>(by cases z),h _ (aL j)⟩
inductive Ll(K:FR)(CN:Addr)(vs:au)(H:Hp)(Q:VK)(E:XK):Prop
 |mk (ap:Addr) (part:LI) (_:vs=[.ref ap]) (_:â ap Âz) (_:part.length<=100000) (_:(iH part=true->∀H',ai H H'->Q Èp H')) (_:(iH part=false->No E CN H))
def af7:bH ["word"] ["word"] (aV JK):=cw
def af8(F:br K "read_name" "read_name" JK f fd)(X:ſ "NoLocker" CN N)(m:Ç 3 "is_name" ["part"] (Lc K)):
  a7 P w K mg base Ĕ 4 f fd ["word"] (Ll K CN):=by
 refine F.qP af7 Â;let(j,part,rfl,z,G,k1,k2):=h;apply(_,aB (dq (pG (jx (bz m ò))) Ň d7) (aD (aY Ú)),?_);refine⟨_,Á,j,part,Á,z,G,λH1 S=>⟨_,Á,a8 Ï Ï⟩⟩
 .exact gJ ((k2 É).go S)
 .exact(_,Á,k1 É H1 S)
def iy(w:LI)(m:Int):Option Int:=match w with
 |[d]=>if d<49\/d>48+m then none else some (d-48)
 |_=>none
inductive Lm(K:FR)(CN:Addr)(vs:au)(H:Hp)(Q:VK)(E:XK):Prop
 |mk (ap:Addr) (part:LI) (most:Int) (_:vs=[.ref ap,.int most]) (_:â ap Âz) (_:part.length<=100000) (_:(∀d,iy part most=some d->∀H',ai H H'->Q (.int d) H')) (_:(iy part most=none->No E CN H))
def af9:bH ["word","most"] ["word","most"] (aV JL):=cw
def aga(F:br K "read_digit" "read_digit" JL f fd)(tL:mg "len"=none)(X:ſ "NoLocker" CN N)(G:Cn mg "DIGIT_ZERO" (.int 48)):
  a7 P w K mg base Ĕ 1 f fd ["word","most"] (Lm K CN):=by
 refine F.qP af9 Â;let(j,part,m,rfl,z,J,k1,k2):=h;refine⟨_,aB (dq (PW.pt (pw_or (cI vt ą bo (bT _))
   (pw_or (cI w8 Æs (eM qG (b9 G) bo) (bT _)) (pw_or1 (cI vw Æs (eM qG (b9 G) á) (bT _))))))
   (Û) d7) (aD (aY (eM qH Æs (b9 G)))),?_⟩
 refine⟨_,Á,j,_,Á,.inl z,Á,_,Á,a8 Ï Ï⟩
 .let e:iy part m=none:=by
   delta iy;grind
  exact gJ (k2 e)
 .obtain⟨d,rfl⟩:∃d,part=[d]:=by
   match part with
   |[d]=>exact(d,Á)
   |[]=>exact absurd (by simp[iv]) hc
   |a::b::r=>
    exfalso;apply hc;simp only[iv,aA,c7,Bool.not_eq_true',Hf];intro q;injection q with q;omega
  let I:iy [d] m=if d<49\/d>48+m then none else some (d-48):=rfl;refine⟨_,Á,j,_,0,V.int d,Á,Á,z,Á,_,_,Á,Á,_,_,Á,Á,_,Á,a8 Š Š⟩
  .simp at h1;exact gJ (k2 É)
  .simp at h1;refine⟨_,Á,j,_,0,V.int d,Á,Á,z,Á,_,Á,_,_,Á,Á,_,_,Á,Á,_,Á,a8 Ál Ál⟩
   .simp at h2;exact gJ (k2 É)
   .simp at h2;exact(_,Á,j,_,0,V.int d,Á,Á,z,Á,_,_,Á,Á,(k1 _ É H ŷ))
end
def vX{C:Addr}{ns:LS}{as:au}{H1:Hp}{Q:VK}{E:XK}(J:as.length=ns.length)(h:∀x dx H',H1 x=none->H1 dx=none->dx≠x->H' x=some (.ins C dx (ns.zip as))->ai H1 H'->Q ŝ H'):
  ∀x dx,H1 x=none->H1 dx=none->dx≠x->EN C ns (.ref x::(as++[])) (upd (upd H1 dx Äx) x Âh) (λv z=>v=.aJ/\Q ŝ z) E:=λx dx m hd F=>
 ⟨x,dx,as,by rw[jv],J,aq,λH' G I=>⟨rfl,h x dx H' m hd F G λb o j=>I b o (by rw[ao (eK j m),ao (eK j hd)];exact j) (eK j m)⟩⟩
theorem eB.at{H:Hp}{qs:LA}{L:di}(h:eB H qs L){j:Nat}(m:j<L.length):∃q,q∈qs/\Äc[j]? =some Èm/\H q=some (.lst (iv (L.getD j []))):=by
 induction h generalizing j with
 |nil=>exact absurd m Ä
 |cons r t I=>
  cases j with
  |zero=>exact(_,by simp,rfl,r)
  |succ j=>
   let(q,a,b,c):=I (j:=j) (À m);exact(q,aO _ a,b,c)
def Ln{α:Type}{xs:List α}{k:Nat}{v:α}(hk:0<k)(h:xs[xs.length-k]? =some v)(j:k<=xs.length):pI xs (-(k:Int))=some v:=by
 let e:r9 xs.length (-(k:Int))=some (xs.length-k):=by
  delta r9;grind
 delta pI;symm
def uG:LS:=["sign","same","answer"]
def jE:LS:=["square","tails","long"]
def lK(r:Nat)(w:LI):Option LI:=if r=0 then (if iH w=true then some w else none) else some []
def qX(r:Nat)(w:LI):Option Int:=if r=1 then iy w 4 else some 0
def qY(r:Nat):Option LI->Option Int->Option Int->Option Nat->Option LI->Option gX
 |some n,some h,some c,some s,some l=>some ⟨r,n,h,c,s,l⟩
 |_,_,_,_,_=>none
def oH(ws:di):Option gX:=match bw ϑ Àf with
 |none=>none
 |some r=>if ws.length=(if r=2 then 4 else 5) then qY r (lK r Ō) (qX r Ō) (iy (ws.getD (ws.length-3) []) 8) (bw þ (ws.getD (ws.length-2) [])) (ij (ws.getD (ws.length-1) [])) else none
def iI(line:LI):Option gX:=oH (JM.aI 32 line)
def E4{b c d e}:qY r none b c d e=none:=by cases b <;> cases c <;> cases d <;> cases e <;> rfl
def E5{a c d e}:qY r a none c d e=none:=by cases a <;> cases c <;> cases d <;> cases e <;> rfl
def Lo{a b d e}:qY r a b none d e=none:=by cases a <;> cases b <;> cases d <;> cases e <;> rfl
def E6{a b c e}:qY r a b c none e=none:=by cases a <;> cases b <;> cases c <;> cases e <;> rfl
def E7{a b c d}:qY r a b c d none=none:=by cases a <;> cases b <;> cases c <;> cases d <;> rfl
def zx{j:di}{part:LI}{r:Nat}(h:bw j part=some r):r<j.length:=by
 delta bw at h;let(m,_):=O7.mp h;exact m
inductive Lp(K:FR)(CK CN:Addr)(vs:au)(H:Hp)(Q:VK)(E:XK):Prop
 |mk (ap:Addr) (line:LI) (_:vs=[.ref ap]) (_:â ap Åu) (_:line.length<=100000) (_:(∀m,iI line=some m->∀H' k,ai H H'->k.m=m->aU H' (jU CK k)->(∀x∈jU CK k,H x.1=none)->Q (.ref k.a) H')) (_:(iI line=none->No E CN H))
section
variable{P:Pg}{w:Wd}{K:FR}{mg:MG}{base:Heap}{CK CN N:Addr}
def vY:bH ["line","words","role","name","which","copies","shape","look"] ["line"] (aV JN):=cw
def agb(h2:σ[2]? =some (some (.int (r:Nat))))(G:σ[1]? =some (some ģ))(J:â p xs)(m:xs[1]? =some (.ref q1))(F:H q1=some (.lst (iv w1)))(M:w1.length<=100000)(no:lK r w1=none->No E CN H) (yes:∀n,lK r w1=some n->∀z a,ai H z->z a=some (.lst (iv n))->(a=q1\/H a=none)->Q Ĝ z):
  wX (ng (bU ox Ř Äa)) (g9 (Ll K CN) [] E (bh (bU ύ ϖ Åb) dw)) (yM dw) σ H Q:=by
 refine⟨_,h2,Á,_,Á,a8 Ï Ï⟩
 .let e:r=0:=by
   symm
  delta lK at no yes;rw[af e] at no;apply(_,G,p,xs,1,.ref q1,Á,Á,J,fT (j:=1) m,q1,w1,Á,aa.of F,M,λI H' s'=>?_,λI=>no É);apply yes w1 ?_ H' q1 s' (s' _ _ F) Ė;symm
 .let e:¬r=0:=by
   symm
  exact(dY _,λx m=>(yes [] (by delta lK;rw[ah e]) _ x (aL m) aq (.inr m)))
def agc{K:FR}{CN:Addr}{E:XK}{σ:L2.St}{H:Hp}{Q:VK}{p:Addr}{xs:au}{r:Nat}{m:Addr}{w1:LI}(h2:σ[2]? =some (some (.int (r:Nat))))(G:σ[1]? =some (some ģ))(J:â p xs)(S:xs[1]? =some (.ref m))(M:H m=some (.lst (iv w1)))(O:w1.length<=100000)(no:qX r w1=none->No E CN H) (yes:∀n,qX r w1=some n->∀F,ai H F->Q (.int n) F):
  wX (ng (bU ox Ř Åb)) (g9 (Lm K CN) [] E (bh (bU ύ ϖ Åb) (bh (tC (.int 4)) dw))) Äa σ H Q:=by
 refine⟨_,h2,Á,_,Á,a8 Ï Ï⟩
 .let e:r=1:=by
   let:V.int (r:Nat)=V.int 1:=À hc
   injection this with this;omega
  delta qX at no yes;rw[af e] at no yes;exact(_,G,p,xs,1,.ref m,Á,Á,J,fT (j:=1) S,m,w1,4,Á,aa.of M,O,λd hd H' s'=>yes d hd H' s',λI=>no I)
 .let e:¬r=1:=by
   intro z;apply hc;rw[z];simp
  exact yes 0 (by delta qX;rw[ah e]) H ŷ
def agd{f:Addr}{fd:FD}(F:br K "read_kind" "read_kind" JN f fd)(tL:mg "len"=none)(X:ſ "NoLocker" CN N)(cB:Cn mg "BLANK" Åx)(cR:Tn K mg "ROLES" (uG.map V.str))(cW:Tn K mg "WORDS_OF_ROLES" [.int 5,.int 5,.int 4])(cS:Cn mg "SIGN" ŉ) (cSa:Cn mg "SAME" Ş) (cMS:Cn mg "MOST_SAME" (.int 4)) (cMC:Cn mg "MOST_COPIES" (.int 8)) (cSh:Tn K mg "SHAPES" (jE.map V.str))(dC:Ç 1 "cut" ["text","mark"] (vQ K)) (dA:Ç 2 "place_among" ["words","part"] (EI K)) (dN:Ĉ Ĕ 4 "read_name" ["word"] (Ll K CN)) (dD:Ĉ Ĕ 1 "read_digit" ["word","most"] (Lm K CN))(dR:Ç 3 "read_colours" ["part"] (KJ K)) (dK:Ă "Kind" CK ["role","name","which","copies","shape","look"]):Ì Ĕ 5 f fd ["line"] (Lp K CK CN):=by
 let(aR,mR,hR):=cR;let(aW,mW,hW):=cW;let(Tf,mSh,hSh):=cSh;let(fN,S3,GN,mN,kN,bN):=dN;let(fD,fdD,GD,mD,kD,bD):=dD;refine F.qP vY Â;let(ap,line,rfl,hP,hl,k1,k2):=h;let uB:dv 1 _:=hr.mono Ù;refine⟨_,aB (cj 1 vY.nd (bz (hr:=hr) dC (ae Ú Ϯ)))
  (aB (cj 2 vY.nd (bz (hr:=hr) dA (ae (vm (v:=.ref aR) Ô mR rfl) ŕ)))
  (aB (dq (PW.pt (pw_or Æj (pw_or1 (cI vt ü (cA yP (vm (v:=.ref aW) Ô mW rfl) ç Ø) (bT _)))))
   (Û) d7)
  (aB (cj 3 vY.nd (rX (cI ic ç Æv (bT _)) (lY GN hr rfl mN kN bN .nil qO ŕ) ĳ))
  (aB (cj 4 vY.nd (rX (cI ic ç (b9 cSa) (bT _)) (lY GD uB rfl mD kD bD .nil qO (ae (cA cY á bo Ø) (ae (b9 cMS) ag))) bo))
  (aB (cj 5 vY.nd (lY GD uB rfl mD kD bD .nil qO (ae Âa (ae (b9 cMC) ag))))
  (aB (cj 6 vY.nd (bz (hr:=hr) dA (ae (vm (v:=.ref Tf) Ô mSh rfl) (ae Âa ag))))
  (aB (cj 7 vY.nd (bz (hr:=hr) dR (ae Âa ag)))
  (aB (dq (PW.pt (pw_or (ot (qE Ãl)) (pw_or1 (ot (qE Ål))))) Û d7)
  (aD (aY (p9 dK hr (ae ç (ae ö (ae İ (ae Äd (ae Ãl (ae Ål ag))))))))))))))))),?_⟩
 apply(_,Á,ap,32,line,Á,hP,hl,λH1 p qs O U nd np hf=>?_);let s1:=O.1;let hws:=λw hw=>gQ (xG 32 line w hw) hl;let ek:iI line=oH (JM.aI 32 line):=rfl;let aQ:=JM.lJ 32 line;generalize JM.aI 32 line=ws at U hws ek aQ;let cK:(qs.map V.ref).length=ws.length:=by rw[aA,U.len]
 let J:∀j,(ws.getD j []).length<=100000:=λj=>by
  grind
 let(q0,BC,sG,hh0):=U.at (j:=0) (by grind);apply(_,Á,p,_,0,_,Á,Á,aa.of O.2.2,fT (j:=0) sG,aR,q0,uG,ws.getD 0 [],Á,hR H1,by decide,aa.of hh0,λH2 W=>?_);let G:=s1.trans W;refine⟨_,Á,_,Á,a8 Ï Ï⟩
 .let hc:oI (bw ϑ Àf)=V.aJ:=by simpa using hc
  let e:iI line=none:=by
   rw[ek];delta oH;cases z:bw ϑ Àf with
   |none=>rfl
   |some i=>rw[z] at hc;cases hc
  exact gJ ((k2 e).go G)
 .let hc:¬oI (bw ϑ Àf)=V.aJ:=by simpa using hc
  obtain⟨r,er⟩:∃r,bw ϑ Àf=some r:=by
   cases z:bw ϑ Àf with
   |none=>rw[z] at hc;exact absurd Á hc
   |some i=>simp
  let agm:=zx er;rw[er];let m:iI line=if ws.length=(if r=2 then 4 else 5) then qY r (lK r Ō) (qX r Ō) (iy (ws.getD (ws.length-3) []) 8) (bw þ (ws.getD (ws.length-2) [])) (ij (ws.getD (ws.length-1) [])) else none:=by
   rw[ek];delta oH;symm
  let eat:pI [V.int 5,V.int 5,V.int 4] (r:Int)=some (.int ((if r=2 then 4 else 5:Nat):Int)):=by
   match r,agm with
   |0,_=>rfl
   |1,_=>rfl
   |2,_=>rfl
  refine⟨_,Á,p,_,Á,.inl (aa.of (W _ _ O.2.2)),_,Á,aW,_,(r:Int),_,Á,Á,hW H2,eat,Á,_,Á,a8 Ę Ę⟩
  .let hd:¬ws.length=(if r=2 then 4 else 5):=by
    grind
   exact gJ ((k2 É).go G)
  .let hd:ws.length=(if r=2 then 4 else 5):=by
    grind
   rw[af hd] at m;let h4:4<=ws.length:=by rw[hd];split <;> decide
   let qA:=U.same W;let M:=W _ _ O.2.2;let(q1,Lq,zy,Tg):=qA.at (j:=1) Æ;let(q5,hq5,hx5,hh5):=qA.at (j:=ws.length-3) Æ;let(q6,hq6,Th,hh6):=qA.at (j:=ws.length-2) Æ;let(q7,hq7,hx7,hh7):=qA.at (j:=ws.length-1) Æ;apply agb (r:=r) (w1:=ws.getD 1 []) Á Á (aa.of M) zy Tg (J 1) (λz=>(k2 (by rw[m,z,E4])).go G) λnm enm H3 an S hn3 han=>?_;apply agc (r:=r) (w1:=ws.getD 1 []) Á Á (aa.of (S _ _ M)) zy (S _ _ Tg) (J 1) (λz=>(k2 (by rw[m,z,E5])).go (G.trans S)) λwh ewh H4 s4=>?_;let oE:=(G.trans S).trans s4;let Z:=S.trans s4;apply(_,Á,_,Á,p,_,_,_,Á,Á,aa.of (Z _ _ M),Ln (k:=3) Ù É Æ,q5,ws.getD (ws.length-3) [],8,Á,aa.of (Z _ _ hh5),J _,λcp ecp H5 s5=>?_,λz=>(k2 (by rw[m,z,Lo])).go oE);let vZ:=oE.trans s5;let Ls:=Z.trans s5;apply(_,Á,_,Á,p,_,_,_,Á,Á,aa.of (Ls _ _ M),Ln (k:=2) Ù É Æ,Tf,q6,jE,ws.getD (ws.length-2) [],Á,hSh H5,by decide,aa.of (Ls _ _ hh6),λH6 s6=>?_);let Y:=vZ.trans s6;let Ti:=Ls.trans s6;apply(_,Á,_,Á,p,_,_,_,Á,Á,aa.of (Ti _ _ M),Ln (k:=1) Ù É Æ,q7,ws.getD (ws.length-1) [],Á,aa.of (Ti _ _ hh7),J _,λz H7 I=>?_,λlk elk H7 al Lu=>?_)
   .let no:=(k2 (by rw[m,z,E7])).go (Y.trans I);exact(_,Á,_,Á,a8 (λ_=>gJ no) (λ_=>⟨_,Á,_,Á,kZ (gJ no)⟩))
   .let I:=Lu.1;apply(_,Á,_,Á,a8 (λhs=>?_) (λhs=>⟨_,Á,_,Á,nu ?_⟩))
    .let hs:oI (bw þ (ws.getD (ws.length-2) []))=V.aJ:=by simpa using hs
     let z:bw þ (ws.getD (ws.length-2) [])=none:=by
      cases z:bw þ (ws.getD (ws.length-2) []) with
      |none=>rfl
      |some i=>rw[z] at hs;cases hs
     exact gJ ((k2 (by rw[m,z,E6])).go (Y.trans I))
    .let hs:¬oI (bw þ (ws.getD (ws.length-2) []))=V.aJ:=by simpa using hs
     obtain⟨sh,Tj⟩:∃i,bw þ (ws.getD (ws.length-2) [])=some i:=by
      cases z:bw þ (ws.getD (ws.length-2) []) with
      |none=>rw[z] at hs;exact absurd Á hs
      |some i=>simp
     rw[Tj];apply(_,Á,_,Á,_,Á,_,Á,_,Á,_,Á,vX Á λx dx H8 hx i5 aQ e8 s8=>?_);let zA:=Y.trans I;let BH:iI line=some ⟨r,nm,wh,cp,sh,lk⟩:=by rw[m,enm,ewh,ecp,Tj,elk];rfl
     apply k1 _ BH H8 ⟨x,dx,an,al,⟨r,nm,wh,cp,sh,lk⟩⟩ (zA.trans s8) Á Àl λy hy=>?_
     .simp only[jU,ba,mY,mZ] at hy;rcases hy with rfl|rfl|rfl
      .exact e8
      .exact s8 _ _ (I _ _ (s6 _ _ (s5 _ _ (s4 _ _ hn3))))
      .exact s8 _ _ Lu.2.2
     .simp only[jU,ba,mY,mZ] at hy;rcases hy with rfl|rfl|rfl
      .exact zA.free hx
      .rcases han with rfl|z
       .symm
       .exact G.free z
      .exact Y.free Lu.2.1
end
def To{K:FR}{H H':Hp}(s:ai H H'){vs:au}{j:List PyData}(x:i3 K H vs j):i3 K H' vs j:=
 i3.rec (motive_1:=λv d _=>Dp K H' v d) (motive_2:=λvs j _=>i3 K H' vs j) .aJ .bl .int .str (λh _ r=>.lst (s.seq h) r) (λh _ r=>.tup (ai.tup s h) r) .nil (λ_ _ h r=>.cons h r) x
def agx{K:FR}{H H':Hp}(s:ai H H'){v:V}{d:PyData}(x:Dp K H v d):Dp K H' v d:=by
 cases To s (.cons x .nil);assumption
theorem agy{K:FR}{H:Hp}{vs:au}:∀{j:List PyData}(n:Nat),i3 K H vs j->i3 K H (vs.take n) (j.take n):=by
 induction vs with
 |nil=>intro j n h;cases h;cases n <;> exact .nil
 |cons v vs I=>
  intro j n h;cases h with
  |cons h r=>cases n with
   |zero=>exact .nil
   |succ n=>exact .cons h (I n r)
theorem agz{K:FR}{H:Hp}{vs:au}:∀{j:List PyData}{i:Nat}{v:V},i3 K H vs j->vs[i]? =some v->∃d,j[i]? =some d/\Dp K H v d:=by
 induction vs with
 |nil=>intro j i v _ e;simp at e
 |cons v vs I=>
  intro j i v h e;cases h with
  |cons h r=>cases i with
   |zero=>
    let:=aN e;subst this;exact(_,Á,h)
   |succ i=>have q:=I (i:=i) r e;exact q
def Tp(xs:au){i:Nat}(h:i<=xs.length):oA xs none (some (i:Int))=xs.take i:=by
 delta oA;rw[HT.Qe,HT.Qg,List.drop_zero,Nat.sub_zero,Nat.min_eq_left h]
def BI(xs:au)(h:i<=xs.length):oA xs (some (i:Int)) none=xs.drop i:=by
 delta oA;rw[HT.Qe,HT.Qg,Nat.min_eq_left h];exact G5 Ä
def uH{α:Type}{ys:au}{L:List α}{g:α->V}(j:ys.length=L.length)(h:∀(i:Nat)(y:V)(x:α),ys[i]? =some y->L[i]? =some x->y=g x):ys=L.map g:=by
 apply wQ;grind
def xN{n i:Nat}{x:Nat}(h:Èl[i]? =some x):x=i:=by
 let(j,h2):=bO.mp h;rw[apu] at h2;exact h2.symm
def xO(j:List PyData)(i:Nat):Bool:=(j.take i).any λd=>PyData.eqv d (j.getD i .none)
def oJ(j:List PyData):Bool:=(List.range j.length).any (xO j)
inductive Tq(K:FR)(vs:au)(H:Hp)(Q:VK)(E':XK):Prop
 |mk (p:Addr) (xs:au) (ds:List PyData) (_:vs=[.ref p]) (_:â p xs) (_:i3 K H xs ds) (_:(∀d∈ds,SeqAt.shaped d=true)) (_:xs.length<=100000) (_:∀H',ai H H'->Q (.bl (oJ ds)) H')
section
variable{P:Pg}{w:Wd}{K:FR}{mg:MG}{base:Heap}{CK CN N:Addr}
def Lv:bH ["things","place","thing"] ["things"] (aV JR):=cw
def agA{f:Addr}{fd:FD}(F:br K "has_twice" "has_twice" JR f fd)(Y:mg "any"=none)(tE:mg "enumerate"=none):Ì aE 1 f fd ["things"] (Tq K):=by
 refine F.ok Lv Â;let(p,xs,j,rfl,G,hd,I,hl,k):=h;let W:A.units+3+128<cLine:=by let:=hr.un;exact pz Ä this
 refine⟨_,aD (aY (c8 (QE Á) Ô Y boot_any (ae (eF (own:=[("place",1),("thing",2)]) (g:=g2 K 1 2) (te:=bU (RH K) Ř (Qk (Qn K) ώ Qh (Qi ϖ))) Á Lv.nd Âo Ë
  (λ_ _ _ _ _=>iE 1 2 Lv.nd) Ö
  (λ_ _ _ _ _=>jy (IV W) ç (xh xi Ú xf (xg á)) (by with_unfolding_all rfl))) ag))),?_⟩
 apply(_,Á,p,xs,Á,G,λD hD=>lI (K:=K) (a:=p) (xs:=xs) (cy H D λi y ns=>ns=[]/\y=.bl (xO j i)) ĉ (λi H' _ f=>f.same.seq G) (λi x T H' hi f U=>?_) ú)
 .let Z:=(bO.mp hi).1;apply(T,_,Á,bu.of aq,Á,_,_,Á,_,_,Á,Á,Á,eO ?_);let s1:ai H' (upd H' T (.tup [.int (i:Nat),x])):=aL U;let s2:=f.same.trans s1;apply(_,Á,_,Á,_,Á,_,Á,p,xs,Á,s2.seq G,λc hc=>?_);let s3:=aL (o:=.lst (oA xs none (some (i:Int)))) hc;let(d,m,O):=agz hd hi;apply(c,_,j.take i,d,Á,aa.of aq,?_,agx Ĭ O,λd hd=>I d (Hd hd),I d (bZ m),?_)
  .let z:=To Ĭ (agy i hd);rw[Tp xs Æ] at z⊢;omega
  .refine f.step hD Æ Åc Ů aU.nil Ä;delta xO;symm
 .let(ys,s1,m,J,fl):=f.end;let M:ys=((List.range j.length).map (xO j)).map V.bl:=by
   rw[cQ];apply uH (by rw[J,g7,RJ hd]) λi y x S h2=>?_;let(ns,(_,e),_):=fl i y S;grind
  apply(D,(List.range j.length).map (xO j),Á,?_,?_)
  .rw[<-M];exact aa.of m
  .let q:=k H' s1;delta oJ at q;symm
def iJ(a b:gX):Bool:=if a.role=0/\b.role=0 then true else HT.lexLt [(a.role:Nat),a.jT] [(b.role:Nat),b.jT]
inductive Lw(CK:Addr)(vs:au)(H:Hp)(Q:VK)(E':XK):Prop
 |mk (a b:az) (_:vs=[.ref a.a,.ref b.a]) (_:aU H (jU CK a)) (_:aU H (jU CK b)) (_:∀H',ai H H'->Q (.bl (iJ a.m b.m)) H')
def jn(h:aU H (jU C k)):H k.a=some (.ins C k.dx (vU k)):=h (k.a,_) (by simp[jU])
def Tr(h:aU H (jU C k)):H k.nm=some (.lst (iv k.m.name)):=h (k.nm,_) (by simp[jU])
def Ts(h:aU H (jU C k)):H k.lk=some (.lst (iv k.m.look)):=h (k.lk,_) (by simp[jU])
def lW(n m:Nat):decide (V.int (n:Nat)=V.int (m:Nat))=decide (n=m):=by
 grind
def agB:bH ["before","kind"] ["before","kind"] (aV JP):=cw
def agC(F:br K "may_follow" "may_follow" JP f fd)(T:sE K CK)(cS:Cn mg "SIGN" ŉ):Ì aE 1 f fd ["before","kind"] (Lw CK):=by
 refine F.ok agB Â;let(a,b,rfl,j,G,k):=h;refine⟨_,aB (dq (PW.pt (pw_and (cI ic œ Æv (bT _)) (pw_and1 (cI ic (bg á Á) Æv (bT _))))) Âc d7)
  (aD (aY (jy (aaw hr.aaj) (uf (ae Ć Äo)) (uf (ae Ő (ae Ő ag))) (bT _)))),?_⟩
 let bI:¬(a.m.role=0/\b.m.role=0)->AN (bU (Ql K) (xb (bh (gi K ώ "role") (bh (gi K ώ "which") dw))) (xb (bh (gi K ϖ "role") (bh (gi K ϖ "which") dw)))) {nx:=λ_ H'=>Q .aJ H',rt:=Q} [some (.ref a.a),some Çd] H:=λJ=>by
  apply(_,Á,bj (jn j) T.c T.vW (vV a) ⟨_,Á,bj (jn j) T.c T.Lj (Lh a) ⟨(by show 2<=sizeLine;decide),λI h1=>?_⟩⟩);let s1:=aL (o:=.tup [.int (a.m.role:Nat),.int a.m.jT]) h1;apply(_,Á,bj (s1 _ _ (jn G)) T.c T.vW (vV b) ⟨_,Á,bj (s1 _ _ (jn G)) T.c T.Lj (Lh b) ⟨(by show 2<=sizeLine;decide),λt2 h2=>?_⟩⟩);let s2:=aL (o:=.tup [.int (b.m.role:Nat),.int b.m.jT]) h2;apply(I,t2,[(a.m.role:Nat),a.m.jT],[(b.m.role:Nat),b.m.jT],Á,Á,bu.of (s2 _ _ aq),bu.of aq,?_);let q:=k _ Àx;delta iJ at q;grind
 refine⟨_,Á,bj (jn j) T.c T.vW (vV a) Ĳ⟩;rw[show V.int 0=V.int ((0:Nat):Int) from rfl,lW];refine a8 Š Š
 .simp at h1;refine⟨_,Á,bj (jn G) T.c T.vW (vV b) Ĳ⟩;rw[lW];refine a8 Ál Ál
  .simp at h2;let q:=k H ŷ;delta iJ at q;rw[af ⟨h1,h2⟩] at q;exact q
  .simp at h2;exact bI λz=>h2 z.2
 .simp at h1;exact bI λz=>h1 z.1
end
def nH{C:Addr}{H:Hp}{ks:List az}(h:aU H (zw C ks)){k:az}(hk:k∈ks):aU H (jU C k):=λx j=>h x (kC.mpr ⟨k,hk,j⟩)
def agD(h:∀k∈ks,aU H (jU C k)):aU H (zw C ks):=λx j=>by
 let(k,hk,j):=kC.mp j;exact h k hk x j
theorem Fb{l:List az}{i:Nat}{y:V}(h:(l.map λk=>V.ref k.a)[i]? =some y):∃z,l[i]? =some z/\y=V.ref z.a:=by
 rw[bW] at h;cases e:l[i]? with
 |none=>rw[e] at h;cases h
 |some z=>rw[e] at h;exact(z,Á,(aN h).symm)
def isSign(m:gX):Bool:=decide (m.role=0)
def nI(ms:aF):Bool:=if (ms.filter isSign).length<1\/(ms.filter isSign).length>48 then false else (ms.zip (ms.drop 1)).all λp=>iJ p.1 p.2
inductive Fc(CK:Addr)(b:aF->Bool)(vs:au)(H:Hp)(Q:VK)(E':XK):Prop
 |mk (p:Addr) (ks:List az) (_:vs=[.ref p]) (_:H p=some (.lst (ks.map λk=>V.ref k.a))) (_:aU H (zw CK ks)) (_:ks.length<=100000) (_:∀H',ai H H'->Q (.bl (b Í)) H')
def Fd{α:Type}{p:α->Bool}{l:List α}{i:Nat}{x:α}(h:l[i]? =some x):(l.take (i+1)).filter p=(l.take i).filter p++(if p x=true then [x] else []):=by
 rw[take_snoc h,Dk];congr 1;by_cases z:p x=true
 .rw[af z];simp[z]
 .rw[ah z];simp[z]
section
variable{P:Pg}{w:Wd}{K:FR}{mg:MG}{base:Heap}{CK CL CN N:Addr}
def zB:bH ["kinds","signs","kind","place"] ["kinds"] (aV JO):=cw
def agE{f:Addr}{fd:FD}(F:br K "are_in_order" "are_in_order" JO f fd)(T:sE K CK)(tL:mg "len"=none)(tA:mg "all"=none)(tE:mg "enumerate"=none)(cS:Cn mg "SIGN" ŉ)(cM:Cn mg "MOST_SIGNS" (.int 48))(dF:Ç 1 "may_follow" ["before","kind"] (Lw CK)):Ì aE 2 f fd ["kinds"] (Fc CK nI):=by
 refine F.ok zB Â;let(p,ks,rfl,I,hk,hl,k):=h;refine⟨_,aB (cj 1 zB.nd (c8 fU Ô tL PySem.boot_len (ae (eF (own:=[("kind",2)]) (tt:=ng (bU ox (gi K Ř "role") Äa)) (te:=ay 2) Á zB.nd Åg Ë
   (λ_ _ _ _ _=>dJ 2 zB.nd) (λ_ _ _ _ _=>pL (cI ic (bg ç rfl) Æv (bT _))) Ãy) ag)))
  (aB (dq (PW.pt (pw_or (cI w8 á bo (bT _)) (pw_or1 (cI vw á (b9 cM) (bT _))))) Âc d7)
  (aD (aY (c8 (vA rfl) Ô tA yu (ae (eF (own:=[("place",3),("kind",2)]) (g:=g2 K 3 2) (te:=g9 (Lw CK) [] E0 (bh (bU ύ ώ ŗ) (bh Ř dw))) rfl zB.nd
   (kY Ô tE (ae (xh xi Ú (xg bo) xf) ag)) Ë
   (λ_ _ _ _ _=>iE 3 2 zB.nd) Ö
   (λ_ _ _ _ _=>bz dF (ae (cA cY Ú ö Ø) Ţ))) ag))))),?_⟩
 let G:nI Í=if (ks.filter λk=>isSign k.m).length<1\/(ks.filter λk=>isSign k.m).length>48 then false else ((ks.map az.m).zip ((ks.map az.m).drop 1)).all λp=>iJ p.1 p.2:=by
  delta nI;rw[yw,aA];rfl
 refine⟨_,Á,p,Á,⟨_,aa.of I⟩,λD W=>gC (K:=K) (a:=p) (xs:=ks.map λk=>V.ref k.a) (λi H'=>ai H H'/\H' D=some (.lst (((ks.take i).filter λk=>isSign k.m).map λk=>V.ref k.a))) ⟨aL W,aq⟩
  (λi H' _ ⟨S,_⟩=>aa.of (S _ _ I)) (λi y H' hi ⟨S,hd⟩=>?_) (λH' ⟨S,hd⟩=>?_)⟩
 .let(z,j,rfl):=Fb hi;let d8:=(bO.mp j).1;let xP:=(nH hk (bZ j)).same S;refine⟨Á,_,Á,bj (jn xP) T.c T.vW (vV z) Ĳ⟩;rw[show V.int 0=V.int ((0:Nat):Int) from rfl,lW];let U:=Fd (p:=λk:az=>isSign k.m) j;refine a8 Ï Ï
  .apply(_,Á,_,hd,?_,fm S W,?_)
   .rw[aA];let:=Hg (λk:az=>isSign k.m) (ks.take i);rw[mT] at this;exact gV Æ
   .rw[aq,U,af (show isSign z.m=true from hc),bX];rfl
  .apply(S,?_);rw[U,ah (show ¬isSign z.m=true from hc),jv];omega
 .rw[aA,mX] at hd;apply(D,_,Á,.inl (aa.of hd),?_);rw[aA];generalize (ks.filter λk=>isSign k.m).length=n at G;refine⟨_,Á,_,_,Á,Á,_,Á,a8 Š Š⟩
  .let h1:n<1:=by
    grind
   let q:=k H' S;rw[G,af (Or.inl h1)] at q;exact q
  .let h1:¬n<1:=by
    grind
   refine⟨_,Á,_,_,Á,Á,_,Á,a8 Ál Ál⟩
   .let h2:n>48:=by
     grind
    let q:=k H' S;rw[G,af (Or.inr h2)] at q;exact q
   .let h2:¬n>48:=by
     grind
    rw[ah (λz=>z.elim h1 h2)] at G;apply(_,Á,_,Á,p,_,Á,aa.of (S _ _ I),λc hc=>?_);let ex:oA (ks.map λk=>V.ref k.a) (some 1) none=(ks.drop 1).map λk=>V.ref k.a:=by
     by_cases j:1<=ks.length
     .rw[show(1:Int)=((1:Nat):Int) from rfl,BI _ É,O4]
     .let:ks=[]:=by
       symm
      rw[this];rfl
    rw[ex];let s2:=S.trans (aL (o:=.lst ((ks.drop 1).map λk=>V.ref k.a)) hc);let J:(upd H' c (.lst ((ks.drop 1).map λk=>V.ref k.a))) c=some (.lst ((ks.drop 1).map λk=>V.ref k.a)):=aq;generalize upd H' c (.lst ((ks.drop 1).map λk=>V.ref k.a))=Z at s2 J;apply(c,_,Á,aa.of J,λO cJ=>lI (K:=K) (a:=c) (xs:=(ks.drop 1).map λk=>V.ref k.a) (cy Z O λi y ns=>ns=[]/\∃a b,ks[i]? =some a/\ks[i+1]? =some b/\y=.bl (iJ a.m b.m)) Ão (λi H3 _ f=>aa.of (f.same _ _ J)) (λi y Tt H3 hi f hT=>?_) Æc)
    .let(b,hb,rfl):=Fb hi;rw[Yd] at hb;let hb:ks[i+1]? =some b:=by rw[<-hb];congr 1;omega
     let hib:=(bO.mp hb).1;obtain⟨a,Y⟩:∃a,ks[i]? =some a:=⟨_,dm Æ⟩;let s3:ai H3 (upd H3 Tt (.tup [.int (i:Nat),.ref b.a])):=aL hT;let M:=(s2.trans f.same).trans s3;refine ß;exact(_,Á,_,Á,p,_,(i:Int),.ref a.a,Á,Á,aa.of (M _ _ I),fT É,_,Á,a,b,Á,(nH hk (bZ Y)).same M,(nH hk Çu).same M,λH5 s5=>(f.step cJ Æ (s3.trans s5) ⟨Á,a,b,Y,hb,Á⟩ aU.nil Ä))
    .let(ys,s3,pY,Fe,fl):=f.end;let j:((ks.map az.m).zip ((ks.map az.m).drop 1)).length=ys.length:=by
      symm
     let ey:ys=(((ks.map az.m).zip ((ks.map az.m).drop 1)).map λp=>iJ p.1 p.2).map V.bl:=by
      rw[cQ];apply uH j.symm λi y x h1 h2=>?_;let(ns,(_,a,b,ea,eb,e),_):=fl i y h1;grind
     apply(O,_,Á,by rw[<-ey];exact aa.of pY,?_);let q:=k H3 Ĭ;symm
end
theorem xQ{β:Type}{v:β->V}{nd:β->jl}{H:Hp}{ys:au}:∀{R:Nat->β->Prop},IW (λi y ns=>∃b,R i b/\y=v b/\ns=nd b) H ys->∃bs:List β,ys=bs.map v/\(∀(i:Nat)(b:β),bs[i]? =some b->R i b)/\∀b∈bs,aU H (nd b):=by
 induction ys with
 |nil=>exact @λR _=>⟨[],Á,λi b h=>by simp at h,by simp⟩
 |cons y ys I=>
  intro R h;let(ns,(b,r,e,en),l):=h 0 y rfl;let(bs,j,G,F):=I (R:=λi b=>R (i+1) b) λi z m=>h (i+1) z m;apply(b::bs,by rw[j,e];rfl,λi c hc=>?_,λc hc=>?_)
  .cases i with
   |zero=>
    let:=aN hc;subst this;exact r
   |succ i=>exact G i c hc
  .rcases ba.mp hc with rfl|hc
   .rw[<-en];exact l
   .exact F c hc
theorem Tv{α:Type}{K:FR}{H:Hp}{v:α->V}{d:α->PyData}{l:List α}:(∀x∈l,Dp K H (v x) (d x))->i3 K H (l.map v) (l.map d):=by
 induction l with
 |nil=>exact @λ_=>.nil
 |cons x l I=>
  intro h;exact .cons (h x Ä) (I λy j=>h y (aO _ j))
def wa(m:gX):PyData:=.list (m.name.map PyData.int)
def qZ(m:gX):PyData:=.tuple [.int (m.shape:Nat),.list (m.look.map PyData.int)]
def oK(ms:aF):Bool:=!oJ ((ms.filter isSign).map wa)&& !oJ Çp
def agG(m:gX):SeqAt.shaped (qZ m)=true:=by
 delta SeqAt.shaped qZ;rw[jw,og];refine Áj
 .simp only[PyData.canLay0,PyData.canLayAll0,RB,O0]
 .let:=RC m.look;simp only[PyData.depth,PyData.depthAll];omega
section
variable{P:Pg}{w:Wd}{K:FR}{mg:MG}{base:Heap}{CK CL CN N:Addr}
def BJ:bH ["kinds","names","faces","kind"] ["kinds"] (aV JQ):=cw
def agH{f:Addr}{fd:FD}(F:br K "are_different" "are_different" JQ f fd)(T:sE K CK)(cS:Cn mg "SIGN" ŉ)(Y:Ç 1 "has_twice" ["things"] (Tq K)):Ì aE 2 f fd ["kinds"] (Fc CK oK):=by
 refine F.ok BJ Â;let(p,ks,rfl,U,hk,hl,k):=h;refine⟨_,aB (um (i:=1) (own:=[("kind",3)]) (tt:=ng (bU ox (gi K ŗ "role") Äa)) (te:=gi K ŗ "name") Á BJ.nd Á Á Ô Åg Ë
   (λ_ _ _ _ _=>dJ 3 BJ.nd) (λ_ _ _ _ _=>pL (cI ic (bg ö rfl) Æv (bT _))) (λ_ _ _ _ _=>bg ö rfl))
  (aB (um (i:=2) (own:=[("kind",3)]) (te:=xb (bh (gi K ŗ "shape") (bh (gi K ŗ "look") dw))) rfl BJ.nd rfl rfl Ô Åg Ë
   (λ_ _ _ _ _=>dJ 3 BJ.nd) Ö (λ_ _ _ _ _=>uf (ae (bg ö rfl) (ae (bg ö rfl) ag))))
  (aD (aY (ue (AL (bz Y Ŕ)) (rW (AL (bz Y Ţ))))))),?_⟩
 refine⟨_,Á,p,Á,⟨_,aa.of U⟩,λD hD=>gC (K:=K) (a:=p) (xs:=ks.map λk=>V.ref k.a) (λi H'=>ai H H'/\H' D=some (.lst (((ks.take i).filter λk=>isSign k.m).map λk=>V.ref k.nm))) ⟨aL hD,aq⟩
  (λi H' _ ⟨S,_⟩=>aa.of (S _ _ U)) (λi y H' hi ⟨S,hd⟩=>?_) (λH' ⟨S,hd⟩=>?_)⟩
 .let(z,j,rfl):=Fb hi;let d8:=(bO.mp j).1;let J:=(nH hk (bZ j)).same S;refine⟨Á,_,Á,bj (jn J) T.c T.vW (vV z) Ĳ⟩;rw[show V.int 0=V.int ((0:Nat):Int) from rfl,lW];let et:=Fd (p:=λk:az=>isSign k.m) j;refine a8 Ï Ï
  .apply(_,Á,bj (jn J) T.c T.nName (Tb z) ⟨_,hd,?_,fm S hD,?_⟩)
   .rw[aA];let:=Hg (λk:az=>isSign k.m) (ks.take i);rw[mT] at this;exact gV Æ
   .rw[aq,et,af (show isSign z.m=true from hc),bX];rfl
  .apply(S,?_);rw[et,ah (show ¬isSign z.m=true from hc),jv];omega
 .rw[aA,mX] at hd;refine⟨_,Á,p,Á,⟨_,aa.of (S _ _ U)⟩,λW cJ=>gC (K:=K) (a:=p) (xs:=ks.map λk=>V.ref k.a) (cy H' W λi y ns=>∃b:Addr×az,ks[i]? =some b.2/\y=.ref b.1/\ns=[(b.1,.tup [.int (b.2.m.shape:Nat),.ref b.2.lk])]) Ão
   (λi H2 _ f=>aa.of (f.same _ _ (S _ _ U))) (λi y H2 hi f=>?_) Æd⟩
  .let(z,j,rfl):=Fb hi;let d8:=(bO.mp j).1;let J:=(nH hk (bZ j)).same (S.trans f.same);apply(Á,eO ⟨_,Á,bj (jn J) T.c T.zk (Tc z) ⟨_,Á,bj (jn J) T.c T.Te (Td z) ⟨(by show 2<=sizeLine;decide),λt ht=>?_⟩⟩⟩);apply f.step cJ Æ (aL ht) ⟨(t,z),j,Á,Á⟩ Ás λx hx=>?_
   .let:x=(t,_):=mV.mp hx;subst this;exact aq
   .let:x=(t,_):=mV.mp hx;subst this;exact λe=>f.has É
  .let(ys,s2,fO,ji,fl):=f.end;rw[aA] at ji;let(bs,e1,r1,l1):=xQ (v:=λb:Addr×az=>V.ref b.1) (nd:=λb:Addr×az=>[(b.1,.tup [.int (b.2.m.shape:Nat),.ref b.2.lk])]) (R:=λi b=>ks[i]? =some b.2) fl;let M:=S.trans s2;let Z:bs.map (·.2)=ks:=by
    apply wQ;grind
   let gO:∀{I:Hp},ai H2 I->i3 K I ys ((ks.map az.m).map qZ):=λ{I}G=>by
    rw[e1,<-Z,cQ,cQ];apply Tv λb O=>?_;let wb:b.2∈ks:=by rw[<-Z];exact apy O
    refine .tup (bu.of (G _ _ (l1 b O (b.1,_) (mV.mpr Á)))) (.cons (.int _) (.cons (.lst (aa.of (G _ _ (M _ _ (Ts (nH hk wb))))) (qR _)) .nil))
   let ef:(ks.map az.m).filter isSign=(ks.filter λk=>isSign k.m).map az.m:=by
    rw[yw];rfl
   apply(_,Á,D,_,((ks.filter λk=>isSign k.m).map az.m).map wa,Á,aa.of (s2 _ _ hd),?_,?_,?_,λI G=>⟨_,Á,_,Á,?_⟩)
   .rw[cQ];exact Tv λb O=>(.lst (aa.of (M _ _ (Tr (nH hk ((j8.mp O).1))))) (qR _))
   .intro d hd;let(m,_,rfl):=cf.mp hd;exact shaped_ints _
   .grind
   .let q:=k;delta oK at q;rw[ef] at q;refine a8 Ï Ï
    .rw[hc] at q;apply(_,Á,W,_,(ks.map az.m).map qZ,Á,aa.of (G _ _ fO),gO G,λd hd=>?_,by omega,λH4 s4=>⟨_,rfl,q H4 ((M.trans G).trans s4)⟩);let(m,_,rfl):=cf.mp hd;exact agG m
    .let hc:(!oJ (((ks.filter λk=>isSign k.m).map az.m).map wa))=false:=by simpa using hc
     rw[hc,lu] at q;exact q I (M.trans G)
end
def gE:di->Option aF
 |[]=>some []
 |l::r=>match iI l,gE r with
  |some m,some ms=>some (m::ms)
  |_,_=>none
theorem Tw{r:di}:∀{l:LI},l∈r->iI l=none->gE r=none:=by
 induction r with
 |nil=>intro l h;cases h
 |cons x r I=>
  intro l h e;delta gE;rcases ba.mp h with rfl|h
  .rw[e]
  .rw[I h e];cases iI x <;> rfl
theorem agI{r:di}:∀{ms:aF},ms.length=r.length->(∀(i:Nat)l m,r[i]? =some l->ms[i]? =some m->iI l=some m)->gE r=some ms:=by
 induction r with
 |nil=>
  intro ms h _;cases ms with
  |nil=>rfl
  |cons _ _=>cases h
 |cons l r I=>
  intro ms h k;cases ms with
  |nil=>cases h
  |cons m ms=>
   delta gE;rw[k 0 l m rfl rfl,I (ms:=ms) (À h) λi l m j h2=>k (i+1) l m j h2]
def zC(n:Option LI)(ks:Option aF):Option (LI×aF):=match n,ks with
 |some n,some ms=>if (nI ms&&oK ms)=true then some (n,ms) else none
 |_,_=>none
def fZ(j:LI):Option (LI×aF):=match jD j with
 |some (l::r)=>zC (fg (codes "locker") l) (gE r)
 |_=>none
def BK:zC n none=none:=by cases n <;> rfl
def BL:zC none ks=none:=by cases ks <;> rfl
def sI(CL CK:Addr)(l:uF):jl:=(l.a,.ins CL l.dx (E2 l))::(l.nm,.lst (iv l.name))::(l.kl,.lst (l.kinds.map λk=>V.ref k.a))::zw CK l.kinds
inductive Tx(K:FR)(CL CK CN:Addr)(vs:au)(H:Hp)(Q:VK)(E:XK):Prop
 |mk (ap:Addr) (bC:LI) (_:vs=[.ref ap]) (_:â ap (iv bC)) (_:bC.length<=66000) (_:(∀x,fZ bC=some x->∀H' l,ai H H'->l.name=x.1->l.kinds.map az.m=x.2->aU H' Ãk->l.kinds.length<=66000->Q (.ref l.a) H')) (_:(fZ bC=none->No E CN H))
section
variable{P:Pg}{w:Wd}{K:FR}{mg:MG}{base:Heap}{CK CL CN N:Addr}
def BM:bH ["text","lines","name","kinds","line"] ["text"] (aV JJ):=cw
def agJ{f:Addr}{fd:FD}(F:br K "read_locker" "read_locker" JJ f fd)(X:ſ "NoLocker" CN N)(dW:Ç 2 "whole_lines" ["text"] (Le K)) (dN:Ç 4 "name_behind" ["title","line"] (Ld K)) (dK:Ĉ Ĕ 5 "read_kind" ["line"] (Lp K CK CN))(dO:Ç 2 ae1 ["kinds"] (Fc CK nI)) (dD:Ç 2 "are_different" ["kinds"] (Fc CK oK)) (dL:Ă "Locker" CL ["name","kinds"]):
  a7 P w K mg base Ĕ 6 f fd ["text"] (Tx K CL CK CN):=by
 let(fK,fdK,GK,mK,kK,bK):=dK;refine F.qP BM Â;let(ap,z,rfl,hP,hl,k1,k2):=h;refine⟨_,aB (cj 1 BM.nd (bz dW ò))
  (aB (dq (PW.pt (pw_or (ot (qE á)) (pw_or1 (cI ϫ á ĳ (bT _))))) Û d7)
  (aB (cj 2 BM.nd (bz dN (ae Dy ŕ)))
  (aB (Ry (i:=3) (own:=[("line",4)]) (g:=pH 4) (tt:=A5) (te:=g9 (Lp K CK CN) [] E (bh Ãp dw)) rfl xu BM.nd rfl rfl Ô (eX (xh xi á (xg bo) xf)) Ë
   (λ_ _ _ _ _=>dJ 4 BM.nd) Ö (λ_ _ _ _ _=>lY GK hr rfl mK kK bK .nil qO Ϣ))
  (aB (dq (PW.pt (pw_or Æj (pw_or (pG (jx (bz dO ı))) (pw_or1 (pG (jx (bz dD ı)))))))
   (Û) d7)
  (aD (aY (p9 dL hr (ae ç ı)))))))),?_⟩
 apply(_,Á,ap,z,Á,hP,by omega,λH1 v s1 M=>?_);let Ly:∀L,jD z=some L->L.length<=66000/\∀w∈L,w.length<=100000:=λL e=>by
  delta jD at e;split at e
  .let e:=aN e;subst e;apply(?_,λw hw=>?_)
   .rw[X9];let:=EG 10 z;omega
   .let:=xG 10 z w (Ax _ hw);omega
  .symm
 let el:fZ z=match jD z with
   |some (l::r)=>zC (fg (codes "locker") l) (gE r)
   |_=>none:=rfl
 cases ew:jD z with
 |none=>
  rw[ew] at M el;let M:=M;subst M;exact(_,Á,_,Á,kZ (gJ ((k2 el).go s1)))
 |some L=>
  let(hL1,mi):=Ly L ew;rw[ew] at M el;let(p,qs,rfl,qz,hp,qg,fr):=M;apply(_,Á,_,Á,nu ⟨_,Á,dY _,λI n1=>?_⟩);let W:=aL (o:=.lst []) n1;let uE:=W _ _ hp;let Lz:=qg.same W;let e9:=s1.trans W;let Ep:(upd H1 I ã) I=some ã:=aq;generalize upd H1 I ã=H2 at W uE Lz e9 Ep;refine⟨p,I,_,Á,Á,aa.of uE,aa.of Ep,_,Á,a8 Ï Ï⟩
  .let hq:qs=[]:=by
    symm
   subst hq;cases Lz;exact gJ ((k2 el).go e9)
  .cases Lz with
   |nil=>symm
   | @cons q l qs r hq u5=>
    let u5:eB H2 qs r:=u5;let el:fZ z=zC (fg (codes "locker") l) (gE r):=el;let xJ:r.length<=66000:=by simp only[c7] at hL1;omega
    let wc:=u5.len;apply⟨_,Á,p,_,0,V.ref q,Á,Á,aa.of uE,fT (j:=0) Á,"locker",q,l,Á,by decide,aa.of hq,mi l Ä,λH3 vn s3 J=>?_⟩;let qd:=e9.trans s3;apply(_,Á,_,Á,p,_,Á,aa.of (s3 _ _ uE),λc hc=>?_);rw[show oA ((q::qs).map V.ref) (some 1) none=qs.map V.ref from(BI _ (i:=1) Ä).trans rfl];let Y:=aL (o:=.lst Äc) hc;let jg:(upd H3 c Ď) c=some Ď:=aq;generalize upd H3 c Ď=H4 at Y jg;let oE:=qd.trans Y;let agL:=u5.same (s3.trans Y);refine⟨c,Á,⟨_,aa.of jg⟩,λD hD=>gC (K:=K) (a:=c) (xs:=qs.map V.ref) (cy H4 D λi y ns=>∃b:az,(∀l,r[i]? =some l->iI l=some b.m)/\y=.ref b.a/\ns=jU CK b) ĉ
     (λi H5 _ f=>aa.of (f.same _ _ jg)) (λi y H5 hi f=>?_) (λH5 f=>?_)⟩
    .rw[bW] at hi;cases eq:qs[i]? with
     |none=>symm
     |some qi=>
      rw[eq] at hi;let ey:=aN hi;subst ey;let d8:=(bO.mp eq).1;let(q',_,G,h'):=agL.at (j:=i) Æ;rw[bW,eq] at G;let G:=aN G;injection G with G;subst G;let qJ:r[i]? =some (r.getD i []):=by
       symm
      let we:=bZ qJ;apply(Á,eO ⟨_,Á,qi,r.getD i [],Á,aa.of (f.same _ _ h'),mi _ (aO _ we),λm em H6 kd S ek hkd pK=>?_,λen=>?_⟩)
      .apply f.step hD Æ S ⟨kd,λl hl=>?_,Á,Á⟩ hkd λx hx e=>f.has (by grind);symm
      .exact(k2 (by rw[el,Tw we en,BK])).go (oE.trans f.same)
    .let(ys,s5,LB,Tz,fl):=f.end;rw[aA] at Tz;let(ks,I,r1,l1):=xQ (v:=λb:az=>V.ref b.a) (nd:=jU CK) (R:=λi b=>∀l,r[i]? =some l->iI l=some b.m) fl;subst I;rw[aA] at Tz;let LC:gE r=some Í:=agI É λi l m h1 h2=>by
      grind
     rw[LC] at el;let vZ:=oE.trans s5;let LD:=agD l1;cases en:fg (codes "locker") l with
     |none=>
      rw[en,BL] at el;rw[en] at J;let J:=J;subst J;exact(_,Á,_,Á,kZ (gJ ((k2 el).go vZ)))
     |some nm=>
      rw[en] at J el;let(an,rfl,Ff,lX):=J;let el:fZ z=if (nI Í &&oK Í)=true then some (nm,ks.map az.m) else none:=el;apply(_,Á,_,Á,nu ⟨_,Á,D,ks,Á,LB,LD,by omega,λH6 S=>⟨_,rfl,a8 (λO=>?_) (λO=>?_)⟩⟩)
      .simp at O;rw[O,lu,ah Ù] at el;exact gJ ((k2 el).go (vZ.trans S))
      .simp at O;refine⟨_,Á,D,ks,Á,S _ _ LB,LD.same S,by omega,λH7 s7=>⟨_,rfl,a8 Ę Ę⟩⟩
       .simp at hd;rw[hd,yt,ah Ù] at el;exact gJ ((k2 el).go ((vZ.trans S).trans s7))
       .simp at hd;rw[O,hd,O0,af rfl] at el;let U:=S.trans s7;apply(_,Á,_,Á,vX Á λx dx H8 hx i5 aQ e8 Z=>?_);refine k1 _ el H8 ⟨x,dx,an,D,nm,ks⟩ ((vZ.trans U).trans Z) Á Á Àl É;simp only[sI,ba] at hy;rcases hy with rfl|rfl|rfl|hy
        .exact e8
        .exact Z _ _ (U _ _ (s5 _ _ (Y _ _ lX)))
        .exact Z _ _ (U _ _ LB)
        .exact(LD.same (U.trans Z)) y hy
end
end HD
end
section
namespace HD
open PySem PySem.Spec PyProof.Rows L2
def getD_map{α β:Type}{f:α->β}{l:List α}{i:Nat}{a:α}{d:β}(h:l[i]? =some a):(l.map f).getD i d=f a:=by
 symm
def getD_at{α:Type}{l:List α}{i:Nat}{a d:α}(h:l[i]? =some a):l.getD i d=a:=by
 symm
def iM(look:LI):Prop:=look.length=16/\∀x∈look,0<=x/\x<16
def getD_mem{l:LI}{i:Nat}(h:i<l.length):l.getD i 0∈l:=by
 symm
def agN{signs part l:LI}(h:jB signs part=some l):l.length=part.length/\∀x∈l,0<=x/\x<signs.length:=by
 delta jB at h;grind
def agO(h:iI line=some m):m.shape<3/\iM m.look:=by
 delta iI oH at h;split at h
 .cases h
 .rename_i r M;by_cases G:(JM.aI 32 line).length=(if r=2 then 4 else 5)
  .rw[af G] at h;generalize lK r _=j at h;generalize qX r _=z at h;generalize iy _ 8=F at h;cases e4:bw þ ((JM.aI 32 line).getD ((JM.aI 32 line).length-2) []) with
   |none=>rw[e4,E6] at h;cases h
   |some sh=>
    rw[e4] at h;cases e5:ij ((JM.aI 32 line).getD ((JM.aI 32 line).length-1) []) with
    |none=>rw[e5,E7] at h;cases h
    |some lk=>
     rw[e5] at h
     match j,z,F,h with
     |some n,some w,some c,h=>
      let:=aN h;subst this;apply(zx e4,?_);delta ij at e5;split at e5
      .rename_i J;let(I,p2):=agN e5;exact(I.trans J,p2)
      .cases e5
  .symm
end HD
end
section
namespace HD
open PySem JM
def BN{p:Int->Bool}(h:((List.range 256).all λn=>p ((n:Nat):Int))=true)(j:0<=x/\x<=255):p x=true:=by
 let:=lx.mp h x.toNat (Ar.mpr Æ);grind
def eqB(j:a9 a)(m:a9 ş)(e:(codes x).map B=Flags.ascii s):(a.map B=Flags.ascii s)↔a=codes x:=by
 rw[<-e];exact(λz=>vO j m z,λz=>by rw[z])
def uI(h:(codes x).all (λx=>decide (0<=x)&&decide (x<=255))=true):a9 ş:=EF h
def hexVal(h:0<=x/\x<=255):Flags.hexValue (B x)=if k7.contains x=true then some (k7.idxOf x) else none:=by
 let:=BN (p:=λx=>decide (Flags.hexValue (B x)=if k7.contains x=true then some (k7.idxOf x) else none)) Ê h;symm
def agP(h:0<=x/\x<=255):Flags.isSign (B x)=(codes zu).contains x:=by
 let:=BN (p:=λx=>decide (Flags.isSign (B x)=(codes zu).contains x)) Ê h;symm
theorem agQ{l:LI}:a9 l->(l.map B).mapM Flags.hexValue=if l.all Ãg=true then some (l.map λb=>k7.idxOf b) else none:=by
 induction l with
 |nil=>exact @λ_=>Á
 |cons x r I=>
  intro h;let I:=I λz m=>h z (aO _ m);rw[a0,Hc,hexVal (h x gy),I,rL];by_cases j:k7.contains x=true
  .rw[af j,j,lR];by_cases h2:r.all Ãg=true
   .rw[af h2,af h2];rfl
   .rw[ah h2,ah h2];rfl
  .rw[ah j];let j:k7.contains x=false:=by simpa using j
   rw[j,lu,ah d9];rfl
def eQ(l:LI):Nat:=Flags.lookOf λi=>(l.getD i 0).toNat
def TF{l:LI}(h:a9 l):Flags.lookIn ĵ=(ij l).map eQ:=by
 delta Flags.lookIn ij;rw[aA];by_cases e:l.length=16
 .rw[ah (λq=>q e),af e,agQ h];delta jB;by_cases h2:l.all Ãg=true
  .rw[af h2,af h2];apply cE (λf=>some (Flags.lookOf f)) (funext λi=>?_);rw[iV,iV,bW,bW];cases l[i]? with
   |none=>rfl
   |some x=>rfl
  .rw[ah h2,ah h2];rfl
 .rw[af e,ah e];rfl
def Fh(h:a9 l):Flags.isName ĵ=iH l:=by
 delta Flags.isName iH;rw[aA,rM,show l.all (Flags.isSign∘B)=l.all λb=>(codes zu).contains b from Jw h λx j=>agP j]
theorem digit_eq(h:a9 l)(m:Nat):Flags.digitOf m ĵ=(iy l (m:Int)).map Int.toNat:=by
 delta Flags.digitOf iy
 match l,h with
 |[],_=>rfl
 |[d],h=>
  let hd:=h d gy;show(if 49<=(B d).toNat/\(B d).toNat<=48+m then some ((B d).toNat-48) else none)=Option.map Int.toNat (if d<49\/d>48+(m:Int) then none else some (d-48));rw[Jv hd];by_cases c:d<49\/d>48+(m:Int)
  .rw[af c,ah Æ];rfl
  .rw[ah c,af Æ];congr 1;omega
 |a::b::r,_=>rfl
def TJ(a b c w:LI):bw [a,b,c] w=if a=w then some 0 else if b=w then some 1 else if c=w then some 2 else none:=by
 delta bw;grind
def agR(h:a9 w):Flags.shapeOf ħ=bw þ w:=by
 delta Flags.shapeOf;show _=bw [codes "square",codes "tails",codes "long"] w;rw[TJ];let j:=eqB (a:=w) (x:="square") (s:="square") h Æg Ê;let m:=eqB (a:=w) (x:="tails") (s:="tails") h Æg Ê;let z:=eqB (a:=w) (x:="long") (s:="long") h Æg Ê;grind
def qh(m:gX):Flags.Role:=if m.role=0 then .sign (m.name.map B) else if m.role=1 then .same m.jT.toNat else .answer
def bV(m:gX):Flags.Kind:=⟨qh m,m.copies.toNat,m.shape,eQ m.look⟩
def LF(hc:a9 c)(hs:a9 s)(j:a9 l)(R:Flags.Role)(m:∀a b d,qh ⟨r,n,wh,a,b,d⟩=R):
  Flags.kindOf R Åv (s.map B) ĵ=(qY r (some n) (some wh) (iy c 8) (bw þ s) (ij l)).map bV:=by
 delta Flags.kindOf;rw[show Flags.digitOf 8 Åv=(iy c 8).map Int.toNat from digit_eq hc 8,agR hs,TF j];cases e1:iy c 8 with
 |none=>rfl
 |some a=>
  cases e2:bw þ s with
  |none=>rfl
  |some b=>
   cases e3:ij l with
   |none=>rfl
   |some d=>
    show some _=some (bV ⟨r,n,wh,a,b,d⟩);delta bV;symm
def agS{line:LI}(h:a9 line):Flags.kindIn (line.map B)=(iI line).map bV:=by
 delta Flags.kindIn iI;rw[show Flags.cutAt 32 (line.map B)=(aI 32 line).map é from xF 32 Ù line h];let m:=pV 32 (l:=line) h;generalize aI 32 line=ws at m;let Z:∀w:LI,bw ϑ w=if codes "sign"=w then some 0 else if codes "same"=w then some 1 else if codes "answer"=w then some 2 else none:=λw=>TJ _ _ _ w;let d1:¬codes "sign"=codes "same":=by decide+kernel
 let d2:¬codes "sign"=codes "answer":=by decide+kernel
 let d3:¬codes "same"=codes "answer":=by decide+kernel
 let short:∀v:di,v.length≠4->v.length≠5->oH v=none:=λv h4 h5=>by
  delta oH;split
  .rfl
  .rename_i r _;rw[ah];by_cases z:r=2
   .rw[af z];exact h4
   .rw[ah z];exact h5
 match ws,m with
 |[],_=>rw[short [] Ù Ù];rfl
 |[a],_=>rw[short [a] Ä Ä];rfl
 |[a,b],_=>rw[short [a,b] Ä Ä];rfl
 |[a,b,c],_=>rw[short [a,b,c] Ä Ä];rfl
 |[a,c,s,l],m=>
  let M:=m a Ä;let W:=eqB (a:=a) (x:="answer") (s:="answer") M Æg Ê;show(if a.map B=Flags.ascii "answer" then Flags.kindOf .answer Åv (s.map B) ĵ else none)=_;let S:oH [a,c,s,l]=if codes "answer"=a then qY 2 (some []) (some 0) (iy c 8) (bw þ s) (ij l) else none:=by
   delta oH;rw[show([a,c,s,l]:di).getD 0 []=a from rfl,Z a];by_cases F:codes "sign"=a
   .rw[af F,ah (λz=>d2 (F.trans z.symm))];rfl
   .rw[ah F];by_cases G:codes "same"=a
    .rw[af G,ah (λz=>d3 (G.trans z.symm))];rfl
    .rw[ah G];by_cases I:codes "answer"=a
     .rw[af I,af I];rfl
     .rw[ah I,ah I]
  rw[S];by_cases I:a=codes "answer"
  .rw[af (W.mpr I),af I.symm];exact LF (m c Ä) (m s Ä) (m l Ä) .answer λ_ _ _=>Á
  .rw[ah (λz=>I (W.mp z)),ah (λz:codes "answer"=a=>I z.symm)];rfl
 |[a,n,c,s,l],m=>
  let M:=m a Ä;let Y:=m n Ä;let U:=eqB (a:=a) (x:="sign") (s:="sign") M Æg Ê;let O:=eqB (a:=a) (x:="same") (s:="same") M Æg Ê;show(if a.map B=Flags.ascii "sign"/\Flags.isName Èf=true then Flags.kindOf (.sign Èf) Åv (s.map B) ĵ else if a.map B=Flags.ascii "same" then (Flags.digitOf 4 Èf).bind (λ(j:Nat)=>Flags.kindOf (.same j) Åv (s.map B) ĵ) else none)=_;let S:oH [a,n,c,s,l]=if codes "sign"=a then qY 0 (lK 0 n) (some 0) (iy c 8) (bw þ s) (ij l) else if codes "same"=a then qY 1 (some []) (iy n 4) (iy c 8) (bw þ s) (ij l) else none:=by
   delta oH;rw[show([a,n,c,s,l]:di).getD 0 []=a from rfl,Z a];by_cases F:codes "sign"=a
   .rw[af F,af F];rfl
   .rw[ah F,ah F];by_cases G:codes "same"=a
    .rw[af G,af G];rfl
    .rw[ah G,ah G];by_cases I:codes "answer"=a
     .rw[af I];rfl
     .rw[ah I]
  rw[S,Fh Y];by_cases F:a=codes "sign"
  .rw[af F.symm];by_cases J:iH n=true
   .rw[af ⟨U.mpr F,J⟩,show lK 0 n=some n by delta lK;rw[af rfl,af J]];exact LF (m c Ä) (m s Ä) (m l Ä) (.sign Èf) λ_ _ _=>Á
   .rw[ah (λz=>J z.2),ah (λz=>d1 (F.symm.trans (O.mp z))),show lK 0 n=none by delta lK;rw[af rfl,ah J],E4];rfl
  .rw[ah (λz:_/\_=>F (U.mp z.1)),ah (λz:codes "sign"=a=>F z.symm)];by_cases G:a=codes "same"
   .rw[af (O.mpr G),af G.symm,show Flags.digitOf 4 Èf=(iy n 4).map Int.toNat from digit_eq Y 4];cases e:iy n 4 with
    |none=>rw[E5];rfl
    |some j=>
     exact LF (m c Ä) (m s Ä) (m l Ä) (.same j.toNat) λ_ _ _=>Á
   .rw[ah (λz=>G (O.mp z)),ah (λz:codes "same"=a=>G z.symm)];rfl
 |a::b::c::d::e::g::r,_=>rw[short _ Ä Ä];rfl
def nJ:LN->Nat
 |[]=>0
 |d::r=>d%16+16*nJ r
theorem agT(x:Nat):∀l:LN,nJ (l++[x])=nJ l+16^l.length*(x%16):=by
 intro l;induction l with
 |nil=>
  simp[nJ]
 |cons d r I=>
  show d%16+16*nJ (r++[x])=d%16+16*nJ r+16^(r.length+1)*(x%16);rw[I,Nat.mul_add,O8,<-Nat.mul_assoc,Nat.mul_comm 16 (16^r.length)];omega
theorem agU(f:Nat->Nat):∀n,((List.range n).map λi=>f i%16*16^i).sum=nJ ((List.range n).map f):=by
 intro n;induction n with
 |zero=>exact Á
 |succ n I=>
  rw[Hh,bX,bX,List.sum_append,I];show _+(f n%16*16^n+0)=nJ (_++[f n]);rw[agT,aA,g7,Nat.mul_comm (16^n)];omega
theorem TQ:∀(i:Nat)(l:LN),nJ l/16^i%16=l.getD i 0%16
 |i,[]=>by simp[nJ]
 |0,d::r=>by
  show(d%16+16*nJ r)/16^0%16=d%16;rw[Nat.pow_zero,Nat.div_one];omega
 |i+1,d::r=>by
  show(d%16+16*nJ r)/16^(i+1)%16=r.getD i 0%16;rw[Nat.pow_succ',<-Nat.div_div_eq_div_mul,show(d%16+16*nJ r)/16=nJ r by omega];exact TQ i r
def Fi(f:Nat->Nat)(h:i<16):Flags.cell (Flags.lookOf f) i=f i%16:=by
 delta Flags.cell Flags.lookOf;rw[agU,TQ,iV,bW,O9 h];rfl
def BO(h:iM l)(hi:i<16):Flags.cell (eQ l) i=(l.getD i 0).toNat:=by
 delta eQ;rw[Fi _ hi];let(j,m):=h.2 _ (getD_mem (l:=l) (i:=i) (by rw[h.1];exact hi));omega
def agV{a b:LI}(j:iM a)(m:iM b)(e:eQ a=eQ b):a=b:=by
 apply wQ;intro i;by_cases hi:i<16
 .let z:=BO j hi;let h2:=BO m hi;rw[e,h2] at z;let ga:=j.2 _ (getD_mem (l:=a) (i:=i) (by rw[j.1];exact hi));let G:=m.2 _ (getD_mem (l:=b) (i:=i) (by rw[m.1];exact hi));let:a.getD i 0=b.getD i 0:=by omega
  rw[iV,iV,dm (by rw[j.1];exact hi),dm (by rw[m.1];exact hi)] at this;rw[dm (by rw[j.1];exact hi),dm (by rw[m.1];exact hi)];exact cE some this
 .rw[wN (by rw[j.1];omega),wN (by rw[m.1];omega)]
structure Kv(m:gX):Prop where
 role:m.role<3
 TU:m.role≠1->m.jT=0
 BP:m.role=1->1<=m.jT/\m.jT<=4
 nm:a9 m.name
 lk:iM m.look
 sh:m.shape<3
 cp:1<=m.copies/\m.copies<=8
def TX(h:iy w most=some d):1<=d/\d<=most:=by
 delta iy at h;grind
def TY{line:LI}(O:a9 line){m:gX}(h:iI line=some m):Kv m:=by
 let(J,S):=agO h;delta iI oH at h;let G:=pV 32 (l:=line) O;generalize aI 32 line=ws at h G;split at h
 .cases h
 .rename_i r M;let hr:r<3:=zx M;by_cases I:ws.length=(if r=2 then 4 else 5)
  .rw[af I] at h;let j:a9 Ō:=by
    rw[iV];cases e:ws[1]? with
    |none=>exact λx F=>absurd F Ä
    |some w=>exact G w (bZ e)
   cases e1:lK r Ō with
   |none=>rw[e1,E4] at h;cases h
   |some n=>
    cases e2:qX r Ō with
    |none=>rw[e2,E5] at h;cases h
    |some W=>
     cases e3:iy (ws.getD (ws.length-3) []) 8 with
     |none=>rw[e3,Lo] at h;cases h
     |some c=>
      cases e4:bw þ (ws.getD (ws.length-2) []) with
      |none=>rw[e4,E6] at h;cases h
      |some sh=>
       cases e5:ij (ws.getD (ws.length-1) []) with
       |none=>rw[e5,E7] at h;cases h
       |some lk=>
        rw[e1,e2,e3,e4,e5] at h;let:=aN h;subst this;apply(hr,λz=>?_,λz=>?_,?_,S,J,TX e3)
        .delta qX at e2;rw[ah z] at e2;exact(aN e2).symm
        .delta qX at e2;rw[af z] at e2;exact TX e2
        .delta lK at e1;split at e1
         .split at e1
          .rw[<-aN e1];exact j
          .cases e1
         .rw[<-aN e1];exact λx F=>absurd F Ä
  .rw[ah I] at h;cases h
theorem LG{r:di}:∀{ms:aF},(∀l∈r,a9 l)->gE r=some ms->∀m∈ms,Kv m:=by
 induction r with
 |nil=>
  intro ms _ h m j;let:=aN h;subst this;exact absurd j Ä
 |cons l r I=>
  intro ms F h m j;delta gE at h;cases e1:iI l with
  |none=>rw[e1] at h;cases gE r <;> cases h
  |some k=>
   rw[e1] at h;cases e2:gE r with
   |none=>rw[e2] at h;cases h
   |some ks=>
    rw[e2] at h;let:=aN h;subst this;rcases ba.mp j with rfl|j
    .exact TY (F l Ä) e1
    .exact I (λz G=>F z (aO _ G)) e2 m j
def sJ(kp:Kv p)(kx:Kv x)(h:x.role=0):iJ p x=true↔p.role=0:=by
 delta iJ;by_cases c:p.role=0/\x.role=0
 .symm
 .rw[ah c,HT.uj];symm
def wg(kp:Kv p)(kx:Kv x)(h:x.role=1):iJ p x=true↔p.role=0\/(p.role=1/\p.jT<x.jT):=by
 delta iJ;rw[ah (λz=>by omega),HT.uj];by_cases c:((p.role:Nat):Int)=((x.role:Nat):Int)
 .rw[af c,HT.uj];by_cases d:p.jT=x.jT
  .rw[af d];constructor
   .intro z;cases z
   .omega
  .grind
 .grind
def Fj{p x:gX}(kp:Kv p)(kx:Kv x)(h:x.role=2):iJ p x=true↔ ¬p.role=2:=by
 delta iJ;let j:=kx.TU Æ;rw[ah (λz=>by omega),HT.uj];by_cases c:((p.role:Nat):Int)=((x.role:Nat):Int)
 .let h2:=kp.TU Æ;rw[af c,HT.uj,af (by rw[j,h2])];constructor
  .intro z;cases z
  .intro z;omega
 .rw[ah c,og];let:=kp.role;omega
def agX{a b c:gX}(F:Kv a)(z:Kv b)(kc:Kv c)(j:iJ a b=true)(h2:iJ b c=true):iJ a c=true:=by
 let M:=z.role;let hc:=kc.role;let G:b.role=0\/b.role=1\/b.role=2:=by omega
 let m:c.role=0\/c.role=1\/c.role=2:=by omega
 rcases m with m|m|m
 .rw[sJ z kc m] at h2;rw[sJ F z h2] at j;rw[sJ F kc m];exact j
 .rw[wg z kc m] at h2;rw[wg F kc m];rcases h2 with h2|⟨h2,I⟩
  .rw[sJ F z h2] at j;exact .inl j
  .rw[wg F z h2] at j;rcases j with j|⟨j,J⟩
   .exact .inl j
   .exact .inr ⟨j,by omega⟩
 .rw[Fj z kc m] at h2;rw[Fj F kc m];rcases G with G|G|G
  .rw[sJ F z G] at j;omega
  .rw[wg F z G] at j;omega
  .exact absurd G h2
theorem LH:∀{ms:aF},(∀m∈ms,Kv m)->(((ms.zip (ms.drop 1)).all λp=>iJ p.1 p.2)=true↔ms.Pairwise λp x=>iJ p x=true)
 |[],_=>by simp
 |[a],_=>by simp
 |a::b::r,h=>by
  let I:=LH (ms:=b::r) λm G=>h m (aO _ G);let F:(a::b::r).zip ((a::b::r).drop 1)=(a,b)::(b::r).zip ((b::r).drop 1):=rfl;rw[F,rL,jw,I,Hi (a:=a)];constructor
  .rintro⟨j,h2⟩;apply(λy z=>?_,h2);rcases ba.mp z with rfl|z
   .exact j
   .exact agX (h a Ä) (h b Ä) (h y (by simp[z])) j ((Hi.mp h2).1 y z)
  .rintro⟨j,h2⟩;exact(j b Ä,h2)
theorem pw_place{α:Type}{R:α->α->Prop}{l:List α}:l.Pairwise R↔ ∀(i:Nat)x,l[i]? =some x->∀p∈l.take i,R p x:=by
 induction l with
 |nil=>
  simp
 |cons a r I=>
  rw[Hi,I];constructor
  .rintro⟨z,h2⟩ i x m p j;cases i with
   |zero=>simp at j
   |succ i=>
    rw[O6] at j;rcases ba.mp j with rfl|j
    .exact z x (bZ m)
    .exact h2 i x m p j
  .intro h;apply(λx m=>?_,λi x m p j=>h (i+1) x m p (by rw[O6];exact aO _ j));let(i,hi,e):=rN m;exact h (i+1) x (by show r[i]? =some x;rw[dm hi,e]) a (by rw[O6];simp)
def LJ{j:List PyData}:oJ j=false↔j.Pairwise λd e=>PyData.eqv d e=false:=by
 rw[pw_place];delta oJ;rw[List.any_eq_false];constructor
 .intro h i x m p z;let hi:=(bO.mp m).1;let:=h i (Ar.mpr hi);delta xO at this;symm
 .intro h i hi;let hi:=Ar.mp hi;obtain⟨x,m⟩:∃x,j[i]? =some x:=⟨_,dm hi⟩;let:=h i x m;delta xO;symm
def LK(a b:gX):PyData.eqv (wa a) (wa b)=decide (a.name=b.name):=L2.xw _ _
def TZ(a b:gX):PyData.eqv (qZ a) (qZ b)=(decide (a.shape=b.shape)&&decide (a.look=b.look)):=by
 delta qZ;simp only[PyData.eqv,PyData.eqvAll,L2.xw,Pa];grind
def T3(p x:gX):Prop:=p.role=0/\x.role=0/\p.name=x.name
def Fk(p x:gX):Prop:=p.shape=x.shape/\p.look=x.look
def xR(ps:aF)(x:gX):Prop:=(∀p∈ps,iJ p x=true/\¬T3 p x/\¬Fk p x)/\(x.role=0->ps.length<48)
def four{A B C D:Bool}{w x y z:Nat}:(if A=true then some w else if B=true then some x else if C=true then some y else if D=true then some z else none)=none↔A=false/\B=false/\C=false/\D=false:=by
 grind
def xS(m:gX):(bV m).isSign=decide (m.role=0):=by
 delta bV Flags.Kind.isSign qh;grind
def xT(h:m.role=0):(bV m).role=.sign (m.name.map B):=by show qh m=_;delta qh;rw[af h]
def zD(h:m.role=1):(bV m).role=.same m.jT.toNat:=by show qh m=_;delta qh;rw[ah Æ,af h]
def Fl(k:Kv m)(h:m.role=2):(bV m).role=.answer:=by show qh m=_;delta qh;rw[ah Æ,ah Æ]
def zE{ps:aF}{f:Flags.Kind->Bool}:((ps.map bV).any f=false)↔ ∀p∈ps,f (bV p)=false:=by
 simp
def zF(kp:Kv p)(kx:Kv x):((bV p).shape==(bV x).shape&&(bV p).look==(bV x).look)=false↔ ¬Fk p x:=by
 show(p.shape==x.shape&&eQ p.look==eQ x.look)=false↔_;delta Fk;by_cases h:p.shape=x.shape
 .by_cases h2:p.look=x.look
  .symm
  .let j:=λz=>h2 (agV kp.lk kx.lk z);symm
 .simp[h]
def T4{ps:aF}{x:gX}(kp:∀p∈ps,Kv p)(kx:Kv x):Flags.wrongBehind (ps.map bV) (bV x)=none↔xR ps x:=by
 delta Flags.wrongBehind;rw[four,zE];let hr:=kx.role;let j:x.role=0\/x.role=1\/x.role=2:=by omega
 rcases j with j|j|j
 .rw[xT j,xS,zE,zE,aA,eJ j,lR];delta xR;constructor
  .rintro⟨m,h2,I,G⟩;apply(λp hp=>⟨?_,λz=>?_,(zF ń kx).mp (G p hp)⟩,λ_=>?_)
   .rw[sJ ń kx j];let:=m p hp;rw[xS] at this;symm
   .let:=h2 p hp;rw[xT z.1,z.2.2] at this;symm
   .let:¬Flags.SIGNS<=ps.length:=by simpa using I
    let e:Flags.SIGNS=48:=rfl;omega
  .rintro⟨m,h2⟩;apply(λp hp=>?_,λp hp=>?_,?_,λp hp=>(zF ń kx).mpr (m p hp).2.2)
   .let:=(sJ ń kx j).mp (m p hp).1;rw[xS,this];rfl
   .let J:=(sJ ń kx j).mp (m p hp).1;rw[xT J];let M:=(m p hp).2.1;rw[wL];intro z;injection z with z;exact M ⟨J,j,vO (kp p hp).nm kx.nm z⟩
   .let:=h2 j;let e:Flags.SIGNS=48:=rfl;symm
 .rw[zD j,xS,zE,zE,fQ Æ,lu];delta xR;let O:=kx.BP j;constructor
  .rintro⟨m,h2,I,G⟩;apply(λp hp=>⟨?_,λz=>?_,(zF ń kx).mp (G p hp)⟩,λz=>?_)
   .rw[wg ń kx j];let Hq:=(kp p hp).role;let F:p.role=0\/p.role=1\/p.role=2:=by omega
    rcases F with F|F|F
    .exact .inl F
    .apply .inr ⟨F,?_⟩;let:=h2 p hp;rw[zD F] at this;let:=aps this;let:=(kp p hp).BP F;omega
    .let:=m p hp;rw[Fl ń F] at this;simp at this
   .let:=z.2.1;omega
   .omega
  .rintro⟨m,h2⟩;apply(λp hp=>?_,λp hp=>?_,Á,λp hp=>(zF ń kx).mpr (m p hp).2.2)
   .rcases(wg ń kx j).mp (m p hp).1 with z|z
    .rw[xT z];rfl
    .rw[zD z.1];rfl
   .rcases(wg ń kx j).mp (m p hp).1 with z|z
    .rw[xT z]
    .rw[zD z.1];let:=(kp p hp).BP z.1;exact fQ Æ
 .rw[Fl kx j,xS,zE,fQ (by omega:¬x.role=0),lu];delta xR;constructor
  .rintro⟨m,h2,I,G⟩;apply(λp hp=>⟨?_,λz=>?_,(zF ń kx).mp (G p hp)⟩,λz=>?_)
   .rw[Fj ń kx j];intro F;let:=m p hp;rw[Fl ń F] at this;simp at this
   .let:=z.2.1;omega
   .omega
  .rintro⟨m,h2⟩;apply(λp hp=>?_,Á,Á,λp hp=>(zF ń kx).mpr (m p hp).2.2);let z:=(Fj ń kx j).mp (m p hp).1;let Hq:=(kp p hp).role;let F:p.role=0\/p.role=1:=by omega
   rcases F with F|F
   .rw[xT F];rfl
   .rw[zD F];rfl
def xU:aF->aF->Prop
 |_,[]=>True
 |past,x::r=>xR past x/\xU (past++[x]) r
def xV(ms:aF):Prop:=∃m∈ms,m.role=0
def T5:((ms.map bV).all λ(k:Flags.Kind)=>!k.isSign)=true↔ ¬xV ms:=by
 rw[rM,lx];delta xV;constructor
 .rintro h ⟨m,j,e⟩;let:=h m j;simp only[apz,xS,e] at this;symm
 .intro h m j;let:¬m.role=0:=λe=>h ⟨m,j,e⟩;simp only[apz,xS];symm
def agY(j:aF)(ls:di)(z:LI):Prop:=z=[]/\∃ms,gE ls=some ms/\xU j ms/\xV (j++ms)
def agZ(ls:di):∀(z:LI)(i:Nat)(past:aF),(∀l∈ls,a9 l)->(∀p∈past,Kv p)->
  (∀ms,z=[]->gE ls=some ms->xU past ms->xV (past++ms)->Flags.judgeLines i Ń ((ls++[z]).map é)=.ok ((past++ms).map bV))/\(¬agY past ls z->∃e,Flags.judgeLines i Ń ((ls++[z]).map é)=.error e):=by
 induction ls with
 |nil=>
  intro z i past _ kp;let e:Flags.judgeLines i Ń (([]++[z]:di).map é)=if z.map B≠[]\/((past.map bV).all λ(k:Flags.Kind)=>!k.isSign)=true then .error (1,i) else .ok Ń:=rfl;rw[e];constructor
  .intro ms j hk _ hs;let:=aN hk;subst this;rw[jv] at hs⊢;rw[ah];rintro (h|h)
   .exact h (by rw[j];rfl)
   .exact(T5.mp h) hs
  .intro h;rw[af]
   .exact(_,Á)
   .by_cases j:z=[]
    .right;rw[T5];intro hs;exact h ⟨j,[],Á,trivial,by rw[jv];exact hs⟩
    .left;intro q;exact j (List.map_eq_nil_iff.mp q)
 |cons w r ih=>
  intro z i past G kp;obtain⟨y,U,Y⟩:∃y U,(r++[z]).map é=y::U:=by
   cases r with
   |nil=>exact(_,_,Á)
   |cons a b=>exact(_,_,Á)
  let e:Flags.judgeLines i Ń (((w::r)++[z]).map é)=match Flags.kindIn ħ with
    |none=>.error (1,i)
    |some x=>match Flags.wrongBehind Ń x with
     |some e=>.error (e,i)
     |none=>Flags.judgeLines (i+1) (past.map bV++[x]) ((r++[z]).map é):=by
   show Flags.judgeLines i Ń (w.map B::(r++[z]).map é)=_;rw[Y];rfl
  rw[e,agS (G w Ä)];let uJ:=λl Z=>G l (aO _ Z);cases ek:iI w with
  |none=>
   apply(λms _ hk=>?_,λ_=>⟨_,Á⟩);rw[Tw (l:=w) Ä ek] at hk;cases hk
  |some x=>
   let kx:=TY (G w Ä) ek;let M:∀p∈past++[x],Kv p:=λp F=>by
    rcases gR.mp F with F|F
    .exact kp p F
    .rw[mV.mp F];exact kx
   let(O,S):=ih z (i+1) (past++[x]) uJ M;rw[bX] at O S;let W:∀ms,gE (w::r)=some ms->∃m,gE r=some m/\ms=x::m:=λms hk=>by
    delta gE at hk;rw[ek] at hk;cases e2:gE r with
    |none=>rw[e2] at hk;cases hk
    |some ks=>
     rw[e2] at hk;exact(ks,Á,(aN hk).symm)
   show(∀ms,z=[]->_->_->_->(match Flags.wrongBehind Ń (bV x) with
     |some e=>.error (e,i)
     |none=>Flags.judgeLines (i+1) (past.map bV++[bV x]) ((r++[z]).map é):Except Flags.Fault (List Flags.Kind))=_)/\(_->∃e,(match Flags.wrongBehind Ń (bV x) with
     |some e=>.error (e,i)
     |none=>Flags.judgeLines (i+1) (past.map bV++[bV x]) ((r++[z]).map é):Except Flags.Fault (List Flags.Kind))=_)
   constructor
   .intro ms j hk hs J;let(m,I,rfl):=W ms hk;rw[(T4 kp kx).mpr hs.1];let:=O m j I hs.2 (by rw[rP];exact J);apply this.trans ?_;rw[rP];rfl
   .intro h;cases ew:Flags.wrongBehind Ń (bV x) with
    |some e=>exact(_,Á)
    |none=>
     apply S λg=>h ?_;let(j,m,I,yz,J):=g;apply(j,x::m,?_,⟨(T4 kp kx).mp ew,yz⟩,by rw[rP] at J;exact J);delta gE;rw[ek,I]
theorem ag1:∀{ms j:aF},xU j ms↔ ∀(i:Nat)x,ms[i]? =some x->xR (j++ms.take i) x:=by
 intro ms;induction ms with
 |nil=>
  intro j;simp[xU]
 |cons a r I=>
  intro j;show xR j a/\xU (j++[a]) r↔_;rw[I];constructor
  .rintro⟨z,h2⟩ i x m;cases i with
   |zero=>
    let:=aN m;subst this;simpa using z
   |succ i=>
    let:=h2 i x m;rw[rP] at this;exact this
  .intro h;apply(by simpa using h 0 a rfl,λi x m=>?_);let:=h (i+1) x m;rw[rP];exact this
theorem ag2{ms:aF}:(∀m∈ms,Kv m)->(ms.Pairwise λp x=>iJ p x=true)->0<(ms.filter isSign).length->∃x,ms[(ms.filter isSign).length-1]? =some x/\x.role=0:=by
 induction ms with
 |nil=>
  intro _ _ h;simp at h
 |cons a r O=>
  intro kv J h;let(U,p2):=Hi.mp J;let kr:=λm I=>kv m (aO _ I);by_cases z:a.role=0
  .let F:(a::r).filter isSign=a::r.filter isSign:=by
    rw[wR,af (show isSign a=true by delta isSign;simpa using z)]
   rw[F,c7,Nat.add_sub_cancel];by_cases M:0<(r.filter isSign).length
   .let(x,j,S):=O kr p2 M;apply(x,?_,S);obtain⟨k,G⟩:∃k,(r.filter isSign).length=k+1:=⟨(r.filter isSign).length-1,by omega⟩;rw[G] at j⊢;exact j
   .rw[show(r.filter isSign).length=0 by omega];exact(a,Á,z)
  .exfalso;let:(a::r).filter isSign=[]:=by
    rw[apA];intro x j hs;let S:x.role=0:=by delta isSign at hs;simpa using hs
    rcases ba.mp j with rfl|j
    .exact z S
    .exact z ((sJ (kv a Ä) (kr x j) S).mp (U x j))
   rw[this] at h;simp at h
def ag3{ms:aF}(kv:∀m∈ms,Kv m)(G:ms.Pairwise λp x=>iJ p x=true){i:Nat}{x:gX}(z:ms[i]? =some x)(F:x.role=0):i+1<=(ms.filter isSign).length:=by
 let hi:=(bO.mp z).1;let J:∀p∈ms.take (i+1),isSign p=true:=λp j=>by
  rw[take_snoc z] at j;delta isSign;rw[og];rcases gR.mp j with j|j
  .exact(sJ (kv p (Hd j)) (kv x (bZ z)) F).mp (pw_place.mp G i x z p j)
  .symm
 let I:((ms.take (i+1)).filter isSign).length=i+1:=by
  rw[List.filter_eq_self.mpr J,mT];omega
 let M:ms.filter isSign=(ms.take (i+1)).filter isSign++(ms.drop (i+1)).filter isSign:=by
  rw[<-Dk,O5]
 symm
def T8{ms:aF}(kv:∀m∈ms,Kv m):(nI ms&&oK ms)=true↔xU [] ms/\xV ms:=by
 let W:=LH kv;rw[ag1,jw];delta nI oK;rw[jw];let tn:((!oJ ((ms.filter isSign).map wa))=true)↔ms.Pairwise λp x=>¬T3 p x:=by
  rw[show((!oJ ((ms.filter isSign).map wa))=true)↔oJ ((ms.filter isSign).map wa)=false by simp,LJ,Pb,apB];constructor
  .intro h;apply h.imp λ{a b}I z=>?_;let:=I (by delta isSign;simpa using z.1) (by delta isSign;simpa using z.2.1);rw[LK,z.2.2] at this;simp at this
  .intro h;apply h.imp λ{a b}I O S=>?_;rw[LK,Hf];exact λz=>I ⟨by delta isSign at O;simpa using O,by delta isSign at S;simpa using S,z⟩
 let tf:((!oJ Çp)=true)↔ms.Pairwise λp x=>¬Fk p x:=by
  rw[show((!oJ Çp)=true)↔oJ Çp=false by simp,LJ,Pb];constructor
  .intro h;apply h.imp λ{a b}I z=>?_;rw[TZ,z.1,z.2] at I;simp at I
  .intro h;apply h.imp λ{a b}I=>?_;rw[TZ,Bool.and_eq_false_iff];by_cases c:a.shape=b.shape
   .right;rw[Hf];exact λz=>I ⟨c,z⟩
   .left;rw[Hf];exact c
 rw[tn,tf];let U:1<=(ms.filter isSign).length↔xV ms:=by
  delta xV;constructor
  .intro h;obtain⟨x,j⟩:∃x,x∈ms.filter isSign:=by
    cases e:ms.filter isSign with
    |nil=>rw[e] at h;simp at h
    |cons x r=>exact(x,by simp)
   exact(x,(j8.mp j).1,by let:=(j8.mp j).2;delta isSign at this;simpa using this)
  .rintro⟨m,Z,M⟩;let:m∈ms.filter isSign:=j8.mpr ⟨Z,by delta isSign;simpa using M⟩;exact List.length_pos_of_mem this
 constructor
 .rintro⟨G,h2,Y⟩;split at G
  .cases G
  .rename_i hc;let J:=W.mp G;apply(λi x j=>⟨λp F=>?_,λM=>?_⟩,U.mp Æ)
   .rw[yx] at F;exact(pw_place.mp J i x j p F,pw_place.mp h2 i x j p F,pw_place.mp Y i x j p F)
   .let:=ag3 kv J j M;rw[yx,mT];omega
 .rintro⟨G,h2⟩;let J:ms.Pairwise λp x=>iJ p x=true:=pw_place.mpr λi x j p F=>((G i x j).1 p (by rw[yx];exact F)).1;apply(?_,pw_place.mpr λi x j p F=>((G i x j).1 p (by rw[yx];exact F)).2.1,pw_place.mpr λi x j p F=>((G i x j).1 p (by rw[yx];exact F)).2.2);let n1:=U.mpr h2;rw[ah,W]
  .exact J
  .rintro (z|z)
   .omega
   .let(x,j,sG):=ag2 kv J Æ;let:=(G _ x j).2 sG;let hl:=(bO.mp j).1;rw[yx,mT] at this;omega
def ag4(h:a9 l):Flags.nameIn ĵ=(fg (codes "locker") l).map λn=>n.map B:=by
 delta Flags.nameIn fg;rw[show Flags.cutAt 32 ĵ=(aI 32 l).map é from xF 32 Ù l h];let j:=pV 32 (l:=l) h;generalize aI 32 l=W at j
 match W,j with
 |[],_=>rfl
 |[a],_=>rfl
 |[a,b],j=>
  let m:=eqB (a:=a) (x:="locker") (s:="locker") (j a Ä) Æg Ê;show(if a.map B=Flags.ascii "locker"/\Flags.isName ϕ=true then some ϕ else none)=Option.map _ (if a=codes "locker"/\iH b=true then some b else none);rw[Fh (j b Ä)];by_cases c:a=codes "locker"/\iH b=true
  .rw[af c,af ⟨m.mpr c.1,c.2⟩];rfl
  .rw[ah c,ah (λz:_/\_=>c ⟨m.mp z.1,z.2⟩)];rfl
 |a::b::c::r,_=>rfl
def ag5(h:a9 t):(∀x,fZ t=some x->Flags.judge Àw=.ok ⟨x.1.map B,x.2.map bV⟩)/\(fZ t=none->∃e,Flags.judge Àw=.error e):=by
 let oN:Flags.cutAt 10 Àw=(aI 10 t).map é:=xF 10 Ù t h;let I:=pV 10 (l:=t) h;obtain⟨ls,z,ew⟩:∃ls z,aI 10 t=ls++[z]:=by
  rcases p7 (aI 10 t) with e|⟨r,x,e⟩
  .exact absurd e (lJ 10 t)
  .symm
 let hw:jD t=if z=[] then some ls else none:=by
  delta jD;symm
 rw[ew] at oN I;cases ls with
 |nil=>
  let G:fZ t=none:=by
   delta fZ;symm
  let F:Flags.judge Àw=.error (1,0):=by
   delta Flags.judge;symm
  symm
 |cons w r=>
  let Y:=I w Ä;let U:∀l∈r,a9 l:=λl G=>I l (by simp[G]);obtain⟨y,W,er⟩:∃y W,(r++[z]).map é=y::W:=by
   cases r with
   |nil=>simp
   |cons a b=>simp
  let F:∀n,Flags.nameIn ħ=some n->Flags.judge Àw=(Flags.judgeLines 1 [] ((r++[z]).map é)).map λ(l:List Flags.Kind)=>(⟨n,l⟩:Flags.Locker):=λn m=>by
   delta Flags.judge;symm
  let J:Flags.nameIn ħ=none->Flags.judge Àw=.error (1,0):=λm=>by
   delta Flags.judge;symm
  let G:fZ t=if z=[] then zC (fg (codes "locker") w) (gE r) else none:=by
   delta fZ;grind
  rw[G];let m:=ag4 Y;let(O,S):=agZ r z 1 [] U Ä;simp only[lQ,yx] at O S;cases en:fg (codes "locker") w with
  |none=>
   rw[en] at m;apply(λx j=>?_,λ_=>⟨(1,0),J m⟩);rw[BL] at j;symm
  |some n=>
   rw[en] at m;let F:=F _ m;rw[F];constructor
   .intro x j;split at j
    .rename_i M;cases ek:gE r with
     |none=>rw[ek,BK] at j;cases j
     |some ms=>
      rw[ek] at j;let j:(if (nI ms&&oK ms)=true then some (n,ms) else none)=some x:=j;split at j
      .rename_i ho;let:=aN j;subst this;let(o1,o2):=(T8 (LG U ek)).mp ho;rw[O ms M ek o1 o2];rfl
      .symm
    .symm
   .intro j;let(e,Z):=S λg=>by
     let(M,ms,hk,hs,jV):=g;rw[af M,hk] at j;let j:(if (nI ms&&oK ms)=true then some (n,ms) else none)=none:=j;rw[af ((T8 (LG U hk)).mpr ⟨hs,by assumption⟩)] at j;symm
    exact(e,by rw[Z];rfl)
def iO(c:Int):Option Nat:=if c=16 then none else some c.toNat
def BQ:Told->Flags.PlateLine
 |.side s l=>.seen s (eQ l)
 |.hoist k=>.hoist (decide (k%2=1)) (decide (k/2=1))
 |.shape k=>.flag k
 |.row l=>.cells (l.map iO)
def ag7(h:0<=x/\x<=255):Flags.cellIn (B x)=if pU.contains x=true then some (iO ((pU.idxOf x:Nat):Int)) else none:=by
 let:=BN (p:=λx=>decide (Flags.cellIn (B x)=if pU.contains x=true then some (iO ((pU.idxOf x:Nat):Int)) else none)) Ê h;symm
theorem ag8{l:LI}:a9 l->(l.map B).mapM Flags.cellIn=if l.all Ãf=true then some (l.map λb=>iO ((pU.idxOf b:Nat):Int)) else none:=by
 induction l with
 |nil=>exact @λ_=>Á
 |cons x r I=>
  intro h;let I:=I λz m=>h z (aO _ m);rw[a0,Hc,ag7 (h x gy),I,rL];by_cases j:pU.contains x=true
  .rw[af j,j,lR];by_cases h2:r.all Ãf=true
   .rw[af h2,af h2];rfl
   .rw[ah h2,ah h2];rfl
  .rw[ah j];let j:pU.contains x=false:=by simpa using j
   rw[j,lu,ah d9];rfl
def ag9{w:LI}(j:a9 w):(if (w.map B).length=4 then ((w.map B).mapM Flags.cellIn).map Flags.PlateLine.cells else none)=(jQ w).map λl=>BQ (.row l):=by
 delta jQ;rw[aA];by_cases h:w.length=4
 .rw[af h,af h,ag8 j];delta jB;by_cases h2:w.all Ãf=true
  .rw[af h2,af h2];show some (Flags.PlateLine.cells _)=some (Flags.PlateLine.cells _);rw[cQ];rfl
  .rw[ah h2,ah h2];rfl
 .rw[ah h,ah h];rfl
def T9(h:ws.contains w=false):bw ws w=none:=by
 delta bw;grind
def aha(j:a9 w):fH ħ=(bw iu w).map λk=>(decide (k%2=1),decide (k/2=1)):=by
 let hs:=aeN j;by_cases h:iu.contains w=true
 .let h':w∈iu:=by simpa using h
  simp only[iu,ba,mY,mZ] at h';rcases h' with rfl|rfl|rfl|rfl <;> decide+kernel
 .let h:iu.contains w=false:=by simpa using h
  rw[T9 h];symm
def ahb(j:a9 w):fF ħ=bw iw w:=by
 let hs:=aeO j;by_cases h:iw.contains w=true
 .let h':w∈iw:=by simpa using h
  simp only[iw,ba,mY,mZ] at h';rcases h' with rfl|rfl|rfl|rfl <;> decide+kernel
 .let h:iw.contains w=false:=by simpa using h
  rw[T9 h];symm
def ahc(h:vP c=true):(32:Int)∉c:=λj=>by
 delta vP at h;let:=lx.mp (vd.mp h).2 32 j;exact absurd this Ù
def Ua:vP c=(ij c).isSome:=by
 delta vP ij jB;grind
def ahd(hs:s∈[0,1,2]):(32:Int)∉JM.dQ s:=by
 let:s=0\/s=1\/s=2:=À hs
 rcases this with rfl|rfl|rfl <;> decide+kernel
def ahe(hs:s∈[0,1,2])(hc:(32:Int)∉c):aI 32 (jA++32::(JM.dQ s++32::c))=[jA,JM.dQ s,c]:=by
 rw[Sn 32 _ (show(32:Int)∉jA by decide),Sn 32 _ (ahd hs),aeH 32 hc]
def ahf(hs:s∈[0,1,2]):bw uA (JM.dQ s)=some s:=by
 let:s=0\/s=1\/s=2:=À hs
 rcases this with rfl|rfl|rfl <;> decide+kernel
def ahg(h:bw ws w=some i):ws[i]? =some w:=by
 delta bw at h;let(j,h2,_):=O7.mp h;symm
def ahh(G:a9 w):(match [0,1,2].find? (pS ħ) with
  |some s=>(Flags.lookIn ((w.map B).drop (6+(Flags.sideWord s).length))).map λ(x:Nat)=>Flags.PlateLine.seen s x
  |none=>none)=(HD.dQ w).map (λx=>BQ (.side x.1 x.2))/\([0,1,2].find? (pS ħ)=none↔HD.dQ w=none):=by
 let Z:∀s∈[0,1,2],pS ħ s=true->∃c l,w=jA++32::(JM.dQ s++32::c)/\ij c=some l/\HD.dQ w=some (s,l):=λs hs M=>by
  let(c,e,hc):=(Sr G hs).mp M;let F:=ahc hc;rw[Ua] at hc;let(l,j):=G1.mp hc;apply(c,l,e,j,?_);delta HD.dQ;rw[e,ahe hs F];dsimp only;rw[af rfl,ahf hs,j]
 cases ef:[0,1,2].find? (pS ħ) with
 |some s=>
  let hs:=List.mem_of_find?_eq_some ef;let(c,l,e,j,es):=Z s hs (List.find?_some ef);apply(?_,⟨λz=>(by cases z),λz=>É⟩);rw[es];show Option.map _ _=some (Flags.PlateLine.seen s (eQ l));let(m,_,_):=Sq s hs;let W:(w.map B).drop (6+(Flags.sideWord s).length)=c.map B:=by
   rw[m,aA,<-O4];congr 1;let J:w=preOf (JM.dQ s)++c:=by
    rw[e];delta preOf;simp
   let el:(preOf (JM.dQ s)).length=6+(JM.dQ s).length:=by
    delta preOf;simp[jA];omega
   grind
  let O:a9 c:=λx hx=>G x É;rw[W,TF O,j];rfl
 |none=>
  let hn:HD.dQ w=none:=by
   cases es:HD.dQ w with
   |none=>rfl
   |some x=>
    exfalso;delta HD.dQ at es;split at es
    .rename_i a b c U;split at es
     .rename_i S;cases J:bw uA b with
      |none=>symm
      |some s=>
       cases m:ij c with
       |none=>symm
       |some l=>
        let Y:=ahg J;let Iv:s<3:=(bO.mp Y).1;let hs:s∈[0,1,2]:=by
         grind
        let vJ:b=JM.dQ s:=by
         delta JM.dQ;symm
        let I:w=jA++32::(JM.dQ s++32::c):=by
         let g:=aeJ 32 w;rw[U,S,vJ] at g;exact g.symm
        let M:=(Sr G hs).mpr ⟨c,I,by rw[Ua,m];rfl⟩;grind
     .symm
    .symm
  symm
def ahk{w:LI}(j:a9 w):Flags.plateLine ħ=(jR w).map BQ:=by
 rw[aeP,aha j,ahb j,ag9 j];let(S,m):=ahh j;delta jR;cases ef:[0,1,2].find? (pS ħ) with
 |some s=>
  rw[ef] at S m;dsimp only at S⊢;cases es:HD.dQ w with
  |none=>exact absurd (m.mpr es) Ä
  |some x=>
   rw[es] at S;exact S
 |none=>
  rw[m.mp ef];dsimp only;cases e1:bw iu w with
  |some k=>rfl
  |none=>
   cases e2:bw iw w with
   |some k=>rfl
   |none=>
    show(jQ w).map _=_;cases jQ w <;> rfl
def ip(s:Nat×LI):Flags.Seen:=Flags.seenOf s.1 (s.2.map iO)
def i7(g:iG):Flags.Glimpse:=⟨g.above,g.below,g.flags.map ip⟩
def oO(m:fX):Flags.Plate:=⟨eQ m.classes,m.side,m.ak.map i7⟩
inductive Open:fX->Flags.PlateState->Prop
 |uK {m:fX} {s:Flags.PlateState}:s.flag=none->s.hoists=m.ak.map i7->(∀g∈m.ak,∀f∈g.flags,f.2.length=16)->Open m s
 |opened {m:fX} {s:Flags.PlateState} (gs:List iG) (a b:Bool) (fs:List (Nat×LI)) (k:Nat) (cs:LI):m.ak=gs++[⟨a,b,fs++[(k,cs)]⟩]->s.flag=some (k,cs.map iO)->s.hoists=gs.map i7++[⟨a,b,fs.map ip⟩]->
   cs.length<16->cs.length%4=0->(∀g∈gs,∀f∈g.flags,f.2.length=16)->(∀f∈fs,f.2.length=16)->Open m s
structure zG(m:fX)(s:Flags.PlateState):Prop where
 head:s.head=if m.classes=[] then none else some (m.side,eQ m.classes)
 op:Open m s
 hd:m.classes=[]->m.ak=[]
theorem Fm{m:fX}(h:∀g∈m.ak,∀f∈g.flags,f.2.length=16):jC m=false:=by
 delta jC;cases e:m.ak.getLast? with
 |none=>rfl
 |some g=>
  dsimp only;cases e2:g.flags.getLast? with
  |none=>rfl
  |some f=>
   dsimp only;rw[h g (Dj e) f (Dj e2)];rfl
def ahl(l:List α)(x:α):(l++[x]).getLast?=some x:=by simp
def Fn(h:m.ak=gs++[⟨a,b,fs++[(k,cs)]⟩])(j:cs.length<16):jC m=true:=by
 delta jC;symm
def LL(f:α->β)(l:List α):(l.map f).getLast?=l.getLast?.map f:=by
 simp
theorem Ub(s:Flags.Seen)(g:Flags.Glimpse):∀l:List Flags.Glimpse,Flags.putFlag s (l++[g])=l++[{g with flags:=g.flags++[s]}]
 |[]=>rfl
 |[x]=>rfl
 |x::y::r=>by
  show x::Flags.putFlag s (y::r++[g])=_;rw[Ub s g (y::r)];rfl
def Uc:Told->Prop
 |.side _ l=>l.length=16
 |.row l=>l.length=4
 |_=>True
def ahm{m:fX}{s:Flags.PlateState}(r:zG m s){t:Told}(ht:Uc t):
  (du m t.sort=true->∃s',s.line (BQ t)=some s'/\zG (qW m t) s')/\(du m t.sort=false->s.line (BQ t)=none):=by
 let(J,W,hd):=r;let Y:m.classes≠[]->s.head.isSome=true:=λhc=>by rw[J,ah hc];rfl
 let Z:m.classes=[]->s.head=none:=λhc=>by rw[J,af hc]
 let emp:m.classes.isEmpty=true↔m.classes=[]:=by simp
 let U:m.classes.isEmpty=false↔m.classes≠[]:=by simp
 let opn:m.classes=[]->s.flag=none/\s.hoists=[]:=λhc=>by
  let I:=hd hc;cases W with
  |uK j h2 _=>symm
  |opened gs a b fs k cs j=>symm
 let e4:Flags.MOST=4:=rfl;let e8:Flags.LONG=8:=rfl;cases t with
 |side sd l=>
  show(du m 0=true->_)/\(du m 0=false->_);let F:du m 0=m.classes.isEmpty:=by delta du;simp
  rw[F];show(_->∃s',(if s.head=none then some {s with head:=some (sd,eQ l)} else none)=some s'/\_)/\(_->(if s.head=none then some {s with head:=some (sd,eQ l)} else none)=none);constructor
  .intro h;let hc:=emp.mp h;let(o1,o2):=opn hc;apply(_,af (Z hc),?_);let hl:l≠[]:=λz=>by
    let J:l.length=16:=ht;symm
   apply(?_,.uK o1 (by show s.hoists=m.ak.map i7;rw[o2,hd hc];rfl) (λg I=>by rw[show(qW m (.side sd l)).ak=m.ak from rfl,hd hc] at I;simp at I),λz=>absurd z hl);show some (sd,eQ l)=if l=[] then none else some (sd,eQ l);symm
  .symm
 |hoist k=>
  show(du m 1=true->∃s',(if s.head.isSome=true/\s.flag=none/\s.hoists.length<Flags.MOST/\(match s.hoists.getLast? with
   |some g=>!g.flags.isEmpty
   |none=>true)=true then some {s with hoists:=s.hoists++[(⟨decide (k%2=1),decide (k/2=1),[]⟩:Flags.Glimpse)]} else none)=some s'/\_)/\(du m 1=false->(if s.head.isSome=true/\s.flag=none/\s.hoists.length<Flags.MOST/\(match s.hoists.getLast? with
   |some g=>!g.flags.isEmpty
   |none=>true)=true then some {s with hoists:=s.hoists++[(⟨decide (k%2=1),decide (k/2=1),[]⟩:Flags.Glimpse)]} else none)=none)
  by_cases hc:m.classes=[]
  .let F:du m 1=false:=by delta du;simp[hc]
   symm
  .let S:=U.mpr hc;cases W with
   |opened gs a b fs M cs j h2 G O h5 h6 h7=>
    let F:du m 1=false:=by delta du;simp[S,Fn j O]
    symm
   |uK j h2 G=>
    let F:du m 1=(decide (m.ak.length<4)&& !k8 m):=by delta du;simp[S,Fm G]
    let el:(match s.hoists.getLast? with
     |some g=>!g.flags.isEmpty
     |none=>true)=!k8 m:=by
     delta k8;rw[h2,LL];cases m.ak.getLast? with
     |none=>rfl
     |some g=>
      show(!(g.flags.map ip).isEmpty)=!g.flags.isEmpty;cases g.flags <;> rfl
    rw[F,el];let ahq:(s.head.isSome=true/\s.flag=none/\s.hoists.length<Flags.MOST/\(!k8 m)=true)↔(decide (m.ak.length<4)&& !k8 m)=true:=by
     symm
    constructor
    .intro h;apply(_,af (ahq.mpr h),?_);apply(?_,.uK j ?_ ?_,λz=>absurd z hc)
     .show s.head=if m.classes=[] then none else some (m.side,eQ m.classes);omega
     .show s.hoists++_=(m.ak++[_]).map i7;rw[h2,bX];rfl
     .intro g I;rcases gR.mp I with I|I
      .grind
      .symm
    .symm
 |shape k=>
  show(du m 2=true->∃s',(if s.head.isSome=true/\s.flag=none/\(match s.hoists.getLast? with
   |some g=>decide (g.flags.length<Flags.LONG)
   |none=>false)=true then some {s with flag:=some (k,[])} else none)=some s'/\_)/\(du m 2=false->(if s.head.isSome=true/\s.flag=none/\(match s.hoists.getLast? with
   |some g=>decide (g.flags.length<Flags.LONG)
   |none=>false)=true then some {s with flag:=some (k,[])} else none)=none)
  by_cases hc:m.classes=[]
  .let F:du m 2=false:=by delta du;simp[hc]
   symm
  .let S:=U.mpr hc;cases W with
   |opened gs a b fs M cs j h2 G O h5 h6 h7=>
    let F:du m 2=false:=by delta du;simp[S,Fn j O]
    symm
   |uK j h2 G=>
    let F:du m 2=(match m.ak.getLast? with
     |some g=>decide (g.flags.length<8)
     |none=>false):=by
     delta du;rw[S,Fm G];rfl
    let el:(match s.hoists.getLast? with
     |some g=>decide (g.flags.length<Flags.LONG)
     |none=>false)=(match m.ak.getLast? with
     |some g=>decide (g.flags.length<8)
     |none=>false):=by
     rw[h2,LL];cases m.ak.getLast? with
     |none=>rfl
     |some g=>
      show decide ((g.flags.map ip).length<8)=decide (g.flags.length<8);rw[aA]
    rw[F,el];constructor
    .intro h;apply(_,af ⟨Y hc,j,h⟩,?_);rcases p7 m.ak with e|⟨gs,g,e⟩
     .symm
     .apply(J,.opened gs g.above g.below g.flags k [] ?_ Á ?_ Ù Ù ?_ ?_,λz=>absurd z hc)
      .show m.ak.dropLast++(m.ak.getLast?.map _).toList=_;symm
      .rw[h2,e,bX];rfl
      .grind
      .grind
    .symm
 |row l=>
  let K2:l.length=4:=ht;show(du m 3=true->∃s',(match s.flag with
   |some (k,mm)=>if (mm++l.map iO).length=16 then some {s with hoists:=Flags.putFlag (Flags.seenOf k (mm++l.map iO)) s.hoists,flag:=none} else some {s with flag:=some (k,mm++l.map iO)}
   |none=>none)=some s'/\_)/\(du m 3=false->(match s.flag with
   |some (k,mm)=>if (mm++l.map iO).length=16 then some {s with hoists:=Flags.putFlag (Flags.seenOf k (mm++l.map iO)) s.hoists,flag:=none} else some {s with flag:=some (k,mm++l.map iO)}
   |none=>none)=none)
  cases W with
  |uK j h2 G=>
   let F:du m 3=false:=by
    delta du;by_cases hc:m.classes=[]
    .symm
    .simp[U.mpr hc,Fm G]
   symm
  |opened gs a b fs M cs j h2 G O h5 h6 h7=>
   let hc:m.classes≠[]:=λz=>by let:=hd z;rw[j] at this;simp at this
   let F:du m 3=true:=by delta du;simp[U.mpr hc,Fn j O]
   rw[F,h2];apply(λ_=>?_,λz=>(by cases z));dsimp only;let ep:(qW m (.row l)).ak=gs++[⟨a,b,fs++[(M,cs++l)]⟩]:=by
    show m.ak.dropLast++(m.ak.getLast?.map _).toList=_;symm
   let ec:cs.map iO++l.map iO=(cs++l).map iO:=by rw[bX]
   rw[ec,aA,mU,K2];by_cases rg:cs.length+4=16
   .rw[af rg];apply(_,Á,J,.uK Á ?_ ?_,λz=>absurd z hc)
    .let eg:i7 ⟨a,b,fs++[(M,cs++l)]⟩=⟨a,b,fs.map ip++[Flags.seenOf M ((cs++l).map iO)]⟩:=by
      delta i7;rw[bX];rfl
     rw[G,Ub,ep,bX (f:=i7),a0,lQ,eg]
    .grind
   .rw[ah rg];apply(_,Á,J,.opened gs a b fs M (cs++l) ep Á G ?_ ?_ h6 h7,λz=>absurd z hc)
    .grind
    .symm
end HD
end
section
namespace HD
open PySem PySem.Spec PyProof.Rows L2
open PySem.W (Codec)
abbrev nv(l:LN):LI:=l.map λn=>((n:Nat):Int)
def fk:gX:=⟨0,[],0,0,0,[]⟩
def nN{l:LN}{i:Nat}{y:V}(h:Çq[i]? =some y):∃z,l[i]? =some z/\y=V.int (z:Nat):=by
 let(z,j,e):=sA h;rw[bW] at j;cases q:l[i]? with
 |none=>rw[q] at j;cases j
 |some n=>
  rw[q] at j;let:=aN j;subst this;exact(n,Á,e)
def jF(l:LN):(nv l).length=l.length:=by delta nv;rw[aA]
def BR(h:aU H Ãk):H l.a=some (.ins CL l.dx (E2 l)):=h (l.a,_) (by simp[sI])
def ahr(h:aU H Ãk):H l.kl=some (.lst (l.kinds.map λk=>V.ref k.a)):=h (l.kl,_) (by simp[sI])
def ahs(h:aU H Ãk):aU H (zw CK l.kinds):=λx j=>h x (by delta sI;exact aO _ (aO _ (aO _ j)))
def Ud{α:Type}{l:List α}(h:l.length=1):∃a,l=[a]:=List.length_eq_one_iff.mp h
def Ue{α:Type}{l:List α}(h:l.length=2):∃a b,l=[a,b]:=by
 let(a,l,rfl):=Yk h;let(b,rfl):=Ud (Yl h);exact(a,b,Á)
def Ug{α:Type}{l:List α}(h:l.length=3):∃a b c,l=[a,b,c]:=by
 let(a,l,rfl):=Yk h;let(b,c,rfl):=Ue (Yl h);exact(a,b,c,Á)
def aht{α:Type}{l:List α}(h:l.length=4):∃a b c d,l=[a,b,c,d]:=by
 let(a,l,rfl):=Yk h;let(b,c,d,rfl):=Ug (Yl h);exact(a,b,c,d,Á)
def lg(K:FR)(C:Addr)(fs:LS):Prop:=kO K C/\∀f∈fs,ϧ f
def rh(c:Nat):Nat:=c-c%4+4-1-c%4
inductive LM(vs:au)(H:Hp)(Q:VK)(E':XK):Prop
 |mk (c:Nat) (_:vs=[.int (c:Nat)]) (_:Q (.int (rh c:Nat)) H)
def sL(look classes:LI)(side:Nat):LI:=if side=1 then (List.range 16).map (λc=>classes.getD (look.getD (rh c) 0).toNat 0) else look.map λx=>classes.getD x.toNat 0
inductive Uh(K:FR)(vs:au)(H:Hp)(Q:VK)(E':XK):Prop
 |mk (al ac:Addr) (look classes:LI) (side:Nat) (_:vs=[.ref al,.ref ac,.int (side:Nat)]) (_:â al (iv look)) (_:iM look) (_:â ac (iv classes)) (_:classes.length=16) (_:∀H' p,Ϡ (.lst (iv (sL look classes side)))->Q ģ H')
def Ui{D:Addr}{ys:au}{H:Hp}{α:Type}{L:List α}{g:α->Int}(hd:H D=some Âg)(e:ys=L.map λx=>V.int (g x)):H D=some (.lst (iv (L.map g))):=by
 symm
def xW{l:LI}{i:Nat}(h:i<l.length):(iv l)[i]? =some (.int (l.getD i 0)):=by
 symm
section
variable{P:Pg}{w:Wd}{K:FR}{mg:MG}{base:Heap}{CK CL CS N CV:Addr}{C:Cs}
def ahu:bH ["cell"] ["cell"] (aV Jz):=cw
def ahv(F:br K "cell_behind" "cell_behind" Jz f fd)(j:Cn mg "ROW" (.int 4)):Ì aE 1 f fd ["cell"] LM:=by
 refine F.ok ahu Â;let(c,rfl,k):=h;apply(_,aD (aY (eM qH (eM qH (eM qG (eM qH Ú (eM HS Ú (b9 j))) (b9 j)) bo) (eM HS Ú (b9 j)))),?_);apply(_,Á,_,Á,_,_,Á,Á,Æ,_,_,Á,Á,_,_,Á,Á,_,_,Á,Á,_,Á,_,_,Á,Á,Æ,_,_,Á,Á,?_);let e:((c:Int)-(c:Int)%4+4-1-(c:Int)%4)=((rh c:Nat):Int):=by delta rh;omega
 symm
def Uj{c:Nat}(h:c<16):rh c<16:=by delta rh;omega
def BS:bH ["look","classes","side","cell","colour"] ["look","classes","side"] (aV JA):=cw
def ahw{f:Addr}{fd:FD}(F:br K "cells_seen" "cells_seen" JA f fd)(tR:mg "range"=none)(cB:Cn mg "BEHIND" Ş)(cC:Cn mg "CELLS" (.int 16))(dB:Ç 1 "cell_behind" ["cell"] LM):Ì aE 2 f fd ["look","classes","side"] (Uh K):=by
 refine F.ok BS Â;let(G,Z,look,classes,side,rfl,S,j,hC,Uk,k):=h;refine⟨_,aB (dq (cI ic ç (b9 cB) (bT _)) (aD (aY (eF (own:=[("cell",3)]) (te:=bU ύ ϖ (bU ύ ώ (g9 LM [] E0 Ât))) Á BS.nd (HN Ô tR (ae (b9 cC) ag)) Ë
   (λ_ _ _ _ _=>dJ 3 BS.nd) Ö (λ_ _ _ _ _=>cA cY á (cA cY Ú (bz dB ı) Ø) Ø)))) d7)
  (aD (aY (eF (own:=[("colour",4)]) (te:=bU ύ ϖ Ãp) rfl BS.nd Åg Ë
   (λ_ _ _ _ _=>dJ 4 BS.nd) Ö (λ_ _ _ _ _=>cA cY á İ Ø)))),?_⟩
 let q:=k;delta sL at q;refine ů;rw[show V.int 1=V.int ((1:Nat):Int) from rfl,lW];let Y:∀x,0<=x->x<16->pI (iv classes) x=some (.int (classes.getD x.toNat 0)):=λx h0 m=>by
  obtain⟨n,rfl⟩:∃n:Nat,x=(n:Int):=⟨x.toNat,by omega⟩;exact fT (xW Æ)
 refine a8 Ï Ï
 .simp at hc;rw[af hc] at q;refine⟨16,Á,by decide,by decide,λD hD=>DS (lo:=0) (n:=16) (cy H D λi y ns=>ns=[]/\y=.int (classes.getD (look.getD (rh i) 0).toNat 0)) ĉ Âi ú⟩
  .let hb:=Uj hi;let(M,O):=j.2 _ (getD_mem (l:=look) (i:=rh i) (by rw[j.1];exact hb));apply(Á,eO ⟨_,Á,_,Á,_,Á,i,?_,?_⟩)
   .simp
   .exact(G,_,_,.int (look.getD (rh i) 0),Á,Á,f.same.seq S,fT (xW (by rw[j.1];exact hb)),Z,_,_,_,Á,Á,f.same.seq hC,Y _ M O,(f.step hD Æ ĸ ⟨Á,Á⟩ aU.nil Ä))
  .let(ys,W,J,I,fl):=f.end;apply q H' D ⟨W,hD,Ui J (uH (by assumption) λi y x m h2=>?_)⟩;let(ns,(_,e),_):=fl i y m;grind
 .simp at hc;rw[ah hc] at q;refine⟨_,Á,G,Á,⟨_,S⟩,λD hD=>gC (K:=K) (a:=G) (xs:=iv look) (cy H D λi y ns=>ns=[]/\∃x,look[i]? =some x/\y=.int (classes.getD x.toNat 0)) ĉ (λi H' _ f=>f.same.seq S) Č ú⟩
  .let(z,U,rfl):=sA hi;let d8:=(bO.mp U).1;let rg:=j.1;let(M,O):=j.2 z (bZ U);exact(Á,eO ⟨_,Á,_,Á,Z,_,_,_,Á,Á,f.same.seq hC,Y z M O,(f.step hD Æ ĸ ⟨Á,z,U,Á⟩ aU.nil Ä)⟩)
  .let(ys,W,J,I,fl):=f.end;rw[eZ] at I;apply q H' D ⟨W,hD,Ui J (uH I λi y x m h2=>?_)⟩;let(ns,(_,z,e1,e),_):=fl i y m;symm
inductive LO(K:FR)(C:Cs)(CK:Addr)(vs:au)(H:Hp)(Q:VK)(E':XK):Prop
 |mk (k:az) (ac:Addr) (classes:LI) (side:Nat) (_:vs=[.ref k.a,.ref ac,.int (side:Nat)]) (_:aU H (jU CK k)) (_:iM k.m.look) (_:â ac (iv classes)) (_:classes.length=16) (_:∀H' s,ai H H'->s.shape=k.m.shape->s.cells=sL k.m.look classes side->aU H' (ik C s)->(∀x∈ik C s,H x.1=none)->Q (.ref s.a) H')
def ahx:bH ["kind","classes","side"] ["kind","classes","side"] (aV J2):=cw
def ahy(F:br K "sighting_of" "sighting_of" J2 f fd)(T:sE K CK)(W:Ă "Sighting" C.S ["shape","cells"])(O:Ç 2 "cells_seen" ["look","classes","side"] (Uh K)):
  a7 P w K mg base aE 3 f fd ["kind","classes","side"] (LO K C CK):=by
 refine F.ok ahx Â;let(z,M,classes,side,rfl,G,qj,Z,U,k):=h;apply(_,aD (aY (p9 W hr (ae œ (ae (bz O (ae œ (ae á Ţ))) ag)))),?_);apply(_,Á,bj (jn G) T.c T.zk (Tc z) ⟨_,Á,bj (jn G) T.c T.Te (Td z) ⟨_,Á,_,Á,z.lk,M,z.m.look,classes,side,Á,aa.of (Ts G),qj,Z,U,λH1 pc j=>?_⟩⟩);apply vX Á λx dx J hx i5 aQ Y I=>?_;apply k J ⟨x,dx,pc,z.m.shape,_⟩ (j.1.trans I) Á Á Àl λy hy=>?_
 .simp only[ik,ba,mY,mZ] at hy;rcases hy with rfl|rfl
  .exact Y
  .exact I _ _ j.2.2
 .simp only[ik,ba,mY,mZ] at hy;rcases hy with rfl|rfl
  .exact j.1.free hx
  .exact j.2.1
end
def Fp{D:Addr}{ys:au}{H:Hp}{n:Nat}{b:Nat->Bool}(hd:H D=some Âg)(m:ys.length=n)(h:∀(i:Nat)(y:V),ys[i]? =some y->y=.bl (b i)):H D=some (.lst (((List.range n).map b).map V.bl)):=by
 let e:ys=(List.range n).map (V.bl∘b):=uH (by rw[m,g7]) λi y x j h2=>by
  rw[h i y j,xN h2];rfl
 rw[hd,cQ,e]
def wj(h w:LI)(i:Nat):Bool:=decide (h.getD i 0=16)||decide (h.getD i 0=w.getD i 0)
def wk(h w:Nat×LI):Bool:=if h.1≠3/\h.1≠w.1 then false else (List.range h.2.length).all (wj h.2 w.2)
inductive LP(C:Cs)(vs:au)(H:Hp)(Q:VK)(E':XK):Prop
 |mk (a b:eG) (_:vs=[.ref a.a,.ref b.a]) (_:Lies H (ik C a)) (_:Lies H (ik C b)) (_:a.cells.length<=b.cells.length) (_:a.cells.length<=100) (_:∀H',ai H H'->Q (.bl (wk a.m b.m)) H')
section
variable{P:Pg}{w:Wd}{K:FR}{mg:MG}{base:Heap}{CK CL CS N CV:Addr}{C:Cs}
def LQ:bH ["half","whole","cell","seen"] ["half","whole"] (aV J6):=cw
def ahz{f:Addr}{fd:FD}(F:br K "may_be" "may_be" J6 f fd)(T:ma K C)(tA:mg "all"=none)(tE:mg "enumerate"=none)(O:Cn mg "UNSEEN_SHAPE" (.int 3))(U:Cn mg "UNSEEN_CELL" (.int 16)):
  a7 P w K mg base aE 1 f fd ["half","whole"] (LP C):=by
 refine F.ok LQ Â;let(a,b,rfl,j,G,hl,ji,k):=h;refine⟨_,aB (dq (PW.pt (pw_and (cI vt œ (b9 O) (bT _)) (pw_and1 (cI vt œ (bg á Á) (bT _))))) Âc d7)
  (aD (aY (c8 (vA rfl) Ô tA yu (ae (eF (own:=[("cell",2),("seen",3)]) (g:=g2 K 2 3) (te:=HJ (bU ox ŗ (tC (.int 16))) (bU ox ŗ (bU ύ (gi K ϖ "cells") Ř))) rfl LQ.nd
   (kY Ô tE Äo) Ë
   (λ_ _ _ _ _=>iE 2 3 LQ.nd) Ö
   (λ_ _ _ _ _=>Py (jy ic ö (b9 U) (bT _)) (rW (jy ic ö (cA cY Ő ç Ø) (bT _))))) ag)))),?_⟩
 let W:wk a.m b.m=if a.shape≠3/\a.shape≠b.shape then false else (List.range a.cells.length).all (wj a.cells b.cells):=rfl;rw[W] at k;refine and_val (!decide (a.shape=3)) (!decide (a.shape=b.shape)) (λK h=>⟨_,Á,bj j.sa T.cS T.zk (KN a) Ĳ⟩) (λ_ K h=>⟨_,Á,bj j.sa T.cS T.zk (KN a) ⟨_,Á,bj G.sa T.cS T.zk (KN b) Ĳ⟩⟩) (a8 Ï Ï)
 .rw[show V.int 3=V.int ((3:Nat):Int) from rfl,lW];exact h
 .rw[lW];exact h
 .rw[af É] at k;exact k H ŷ
 .rw[ah (by grind)] at k;let J:=j.sl;refine⟨_,Á,bj j.sa T.cS T.EL (EK a) ⟨a.l,_,Á,aa.of J,λD hD=>lI (K:=K) (a:=a.l) (xs:=iv a.cells) (cy H D λi y ns=>ns=[]/\y=.bl (wj a.cells b.cells i)) ĉ (λi H' _ f=>aa.of (f.same _ _ J)) ŋ ú⟩⟩
  .let(z,Z,rfl):=sA hi;let d8:=(bO.mp Z).1;let S:ai H' (ϟ (.tup [.int (i:Nat),.int z])):=aL hT;let M:=f.same.trans S;refine ß;apply RK (decide (z=16)) (decide (z=b.cells.getD i 0)) (λK h=>⟨_,Á,Á,?_⟩) (λ_ K h=>⟨_,Á,_,Á,bj (M _ _ G.sa) T.cS T.EL (EK b) ⟨_,Á,b.l,_,_,.int (b.cells.getD i 0),Á,Á,aa.of (M _ _ G.sl),fT (xW Æ),Á,?_⟩⟩) ?_
   .symm
   .symm
   .refine f.step hD Æ S Ů aU.nil Ä;delta wj;symm
  .let(ys,S,Y,I,fl):=f.end;rw[eZ] at I;apply(D,(List.range a.cells.length).map (wj a.cells b.cells),Á,aa.of (Fp Y I λi y e=>?_),?_)
   .let(ns,(_,e),_):=fl i y e;omega
   .symm
end
structure cV where
 a:Addr
 ns:LN
structure cb where
 a:Addr
 ls:List cV
def lsN(x:cV):jl:=[(x.a,.lst (iv (nv x.ns)))]
def eT(y:cb):jl:=(y.a,.lst (y.ls.map λx=>V.ref x.a))::y.ls.flatMap lsN
def cb.m(y:cb):bp:=y.ls.map cV.ns
def i8(H:Hp)(ns:jl):Prop:=∀x∈ns,H x.1=none
def BU(h:aU H (lsN x)):H x.a=some ź:=h (x.a,_) (by simp[lsN])
def jG(h:aU H Ær):H y.a=some (.lst (y.ls.map λx=>V.ref x.a)):=h (y.a,_) (by simp[eT])
def mj(h:aU H Ær)(j:x∈y.ls):H x.a=some ź:=BU λz m=>h z (by delta eT;exact aO _ (kC.mpr ⟨x,j,m⟩))
def Um{H:Hp}{a:Addr}{ls:List cV}(h:H a=some (.lst (ls.map λx=>V.ref x.a)))(h2:∀x∈ls,aU H (lsN x)):aU H (eT ⟨a,ls⟩):=λz j=>by
 rcases ba.mp j with rfl|j
 .exact h
 .let(x,m,j):=kC.mp j;exact h2 x m z j
def BV{H:Hp}{a:Addr}{ls:List cV}(h:H a=none)(h2:∀x∈ls,i8 H (lsN x)):i8 H (eT ⟨a,ls⟩):=λz j=>by
 rcases ba.mp j with rfl|j
 .exact h
 .let(x,m,j):=kC.mp j;exact h2 x m z j
theorem iz{α:Type}{a:α->Addr}{l:List α}{i:Nat}{y:V}(h:(l.map λk=>V.ref (a k))[i]? =some y):∃z,l[i]? =some z/\y=V.ref (a z):=by
 rw[bW] at h;cases e:l[i]? with
 |none=>rw[e] at h;cases h
 |some z=>rw[e] at h;exact(z,Á,(aN h).symm)
def LR{α β:Type}{bs:List α}{m:α->β}{l:List β}(j:bs.length=l.length)(h:∀(i:Nat)(b:α)(x:β),bs[i]? =some b->l[i]? =some x->m b=x):bs.map m=l:=by
 apply wQ;grind
def BW(i:Nat):(List.range (i+1)).filter p=(List.range i).filter p++(if p i=true then [i] else []):=by
 rw[Hh,Dk];grind
def ahA(i:Nat):((List.range i).filter p).length<=i:=by
 grind
def lL(H1:Hp)(D:Addr)(p:Nat->Bool)(i:Nat)(H:Hp):Prop:=ai H1 H/\H D=some (.lst (iv (nv ((List.range i).filter p))))
def lL.zero{H1:Hp}{D:Addr}{p:Nat->Bool}(j:H1 D=none):lL H1 D p 0 Ċ:=⟨aL j,aq⟩
def lL.yes(j:H1 D=none)(hi:i<1000000)(f:lL H1 D p i H)(s:ai H H4)(h:p i=true):jN D (lL H1 D p (i+1)) (V.int (i:Nat)) H4:=by
 apply(_,s _ _ f.2,?_,fm (f.1.trans s) j,?_)
 .rw[eZ,jF];let:=ahA (p:=p) i;exact gV Æ
 .rw[aq,BW,af h];simp
def lL.no(f:lL H1 D p i H)(s:ai H H4)(h:¬p i=true):lL H1 D p (i+1) H4:=by
 apply(f.1.trans s,?_);rw[BW,ah h,jv];exact s _ _ f.2
def jo(H:Hp)(D:Addr)(g:Nat->LN):Nat->Hp->Prop:=cy H D λi y ns=>∃b:cV,(b.ns=g i/\i8 H (lsN b))/\y=.ref b.a/\ns=lsN b
def jo.step{H H' m:Hp}{D r:Addr}{g:Nat->LN}{i:Nat}(z:H D=none)(hi:i<1000000)(f:jo H D g i H')(s:ai H' m)(hr:H' r=none)(e:m r=some (.lst (iv (nv (g i))))):
  jN D (jo H D g (i+1)) (V.ref r) m:=
 cy.step z hi f s (ns:=lsN ⟨r,g i⟩) ⟨⟨r,g i⟩,⟨rfl,λx j=>by
  simp only[lsN,ba,mY,mZ] at j;subst j;exact f.same.free hr⟩,rfl,rfl⟩ (λx j=>by
  simp only[lsN,ba,mY,mZ] at j;subst j;exact e) (λx j e=>by
  simp only[lsN,ba,mY,mZ] at j;subst j;exact f.has (by rw[<-e];exact hr))
def jo.end{H H':Hp}{D:Addr}{g:Nat->LN}{n:Nat}(M:H D=none)(f:jo H D g n H'):∃y:cb,y.a=D/\ai H H'/\y.m=(List.range n).map g/\aU H' Ær/\i8 H Ær:=by
 let(ys,U,I,z,fl):=cy.end f;let(bs,G,F,S):=xQ (v:=λb:cV=>V.ref b.a) (nd:=lsN) (R:=λi b=>b.ns=g i/\i8 H (lsN b)) fl;subst G;rw[aA] at z;apply(⟨D,bs⟩,Á,U,?_,Um I S,BV M λb O=>?_)
 .apply LR (by rw[aA,g7];exact z) λi b x J h2=>?_;rw[bW] at h2;cases e:Èl[i]? with
  |none=>rw[e] at h2;cases h2
  |some j=>
   rw[e] at h2;cases h2;rw[xN e];exact(F i b J).1
 .let(i,hi,e):=rN O;exact(F i b (by rw[dm hi,e])).2
theorem wm{α β:Type}{l:List α}{g:α->β}{d:α}:(List.range l.length).map (λi=>g (l.getD i d))=l.map g:=by
 apply LR (by rw[g7,aA]) λi b x j h2=>?_;rw[bW] at h2;cases e:l[i]? with
 |none=>rw[e] at h2;cases h2
 |some z=>
  rw[e] at h2;cases h2;rw[xN j,getD_at e]
def sM(ls:List (Nat×LI))(h:Nat×LI):LN:=(List.range ls.length).filter λi=>wk h (ls.getD i (0,[]))
def xX(ls:List (Nat×LI))(g:iG):bp:=g.flags.map (sM ls)
def zH(C:Cs)(H:Hp)(p:Addr)(ls:List eG):Prop:=H p=some (.lst (ls.map λl=>V.ref l.a))/\(∀l∈ls,Lies H (ik C l))/\∀l∈ls,l.cells.length=16
def zH.same{C:Cs}{H H':Hp}{p:Addr}{ls:List eG}(h:zH C H p ls)(s:ai H H'):zH C H' p ls:=⟨s _ _ h.1,λl j=>(h.2.1 l j).same s,h.2.2⟩
inductive LU(C:Cs)(vs:au)(H:Hp)(Q:VK)(E':XK):Prop
 |mk (p:Addr) (ls:List eG) (h:eG) (_:vs=[.ref p,.ref h.a]) (_:zH C H p ls) (_:ls.length<=100000) (_:Lies H (ik C h)) (_:h.cells.length=16) (_:∀H' r,pX H H' r (.lst (iv (nv (sM Åe h.m))))->Q Âf H')
inductive LW(C:Cs)(vs:au)(H:Hp)(Q:VK)(E':XK):Prop
 |mk (p:Addr) (ls:List eG) (g:ck) (_:vs=[.ref p,.ref g.a]) (_:zH C H p ls) (_:ls.length<=100000) (_:Lies H Æo) (_:g.flags.length<=100) (_:(∀s∈g.flags,s.cells.length=16)) (_:∀H' y,ai H H'->cb.m y=xX Åe g.m->aU H' Ær->i8 H Ær->Q Àp H')
section
variable{P:Pg}{w:Wd}{K:FR}{mg:MG}{base:Heap}{CK CL CS N CV:Addr}{C:Cs}
def LX:bH ["looks","half","number","whole"] ["looks","half"] (aV J5):=cw
def ahB{f:Addr}{fd:FD}(F:br K "kinds_that_look_so" "kinds_that_look_so" J5 f fd)(tE:mg "enumerate"=none)(O:Ç 1 "may_be" ["half","whole"] (LP C)):Ì aE 2 f fd ["looks","half"] (LU C):=by
 refine F.ok LX Â;let(p,ls,z,rfl,j,Z,U,G,k):=h;refine⟨_,aD (aY (eF (own:=[("number",2),("whole",3)]) (g:=g2 K 2 3) (tt:=tB (g9 (LP C) [] E0 (bh ϖ Ât))) (te:=ay 2) Á LX.nd
   (Âo) Ë
   (λ_ _ _ _ _=>iE 2 3 LX.nd)
   (λ_ _ _ _ _=>pL (jx (bz O (ae á ı)))) Ãy)),?_⟩
 refine⟨_,Á,p,_,Á,aa.of j.1,λD J=>lI (K:=K) (a:=p) (xs:=ls.map λl=>V.ref l.a) (lL H D λi=>wk z.m ((ls.map eG.m).getD i (0,[]))) (lL.zero J) (λi H' _ f=>aa.of (f.1 _ _ j.1)) ŋ ú⟩
 .let(l,I,rfl):=iz hi;let M:=bZ I;let Y:=(bO.mp I).1;let s1:ai H' (ϟ (.tup [.int (i:Nat),.ref l.a])):=aL hT;let S:=f.1.trans s1;refine î;apply(_,Á,_,Á,z,l,Á,U.same S,(j.2.1 l M).same S,by rw[G,j.2.2 l M];exact bJ _,by omega,λW s3=>⟨_,rfl,?_⟩);let e:wk z.m ((ls.map eG.m).getD i (0,[]))=wk z.m l.m:=by rw[getD_map I]
  refine a8 Ï Ï
  .exact(_,Á,f.yes J Æ Åc (e.trans hc))
  .exact f.no Åc É
 .let e:=f.2;rw[aA] at e;apply k H' D ⟨f.1,J,?_⟩;delta sM;symm
def LY:bH ["looks","glimpse","flag"] ["looks","glimpse"] (aV J4):=cw
def ahD{f:Addr}{fd:FD}(F:br K "kinds_along" "kinds_along" J4 f fd)(T:ma K C)(O:Ç 2 "kinds_that_look_so" ["looks","half"] (LU C)):Ì aE 3 f fd ["looks","glimpse"] (LW C):=by
 refine F.ok LY Â;let(p,ls,g,rfl,W,U,G,nO,j,k):=h;let J:=G.fl;refine⟨_,aD (aY (eF (own:=[("flag",2)]) (te:=g9 (LU C) [] E0 (bh ώ (bh Ř dw))) Á LY.nd (eX (bg á Á)) Ë
   (λ_ _ _ _ _=>dJ 2 LY.nd) Ö (λ_ _ _ _ _=>bz O (ae Ú Ţ)))),?_⟩
 refine⟨_,Á,bj G.ga T.cG T.vT (vS g) ⟨g.l,Á,⟨_,aa.of J⟩,λD hD=>gC (K:=K) (a:=g.l) (xs:=g.flags.map λs=>V.ref s.a) (jo H D λi=>sM Åe ((g.flags.map eG.m).getD i (0,[]))) ĉ (λi H' _ f=>aa.of (f.same _ _ J)) Č ú⟩⟩
 .let(sg,z,rfl):=iz hi;let M:=bZ z;let d8:=(bO.mp z).1;exact(Á,eO ⟨_,Á,_,Á,p,ls,sg,Á,W.same f.same,U,(G.zj M).same f.same,j sg M,λH3 r I=>(jo.step hD Æ f I.1 I.2.1 (by rw[getD_map z];exact I.2.2))⟩)
 .let(y,rfl,Z,S,Y,fr):=jo.end hD f;apply k H' y Z ?_ Y fr;rw[S,aA];let:=wm (l:=g.flags.map eG.m) (g:=sM Åe) (d:=(0,[]));rw[aA] at this;exact this
end
def nP{β:Type}(nd:β->jl)(ad:β->Addr)(R:Nat->β->Prop)(H:Hp)(D:Addr):Nat->Hp->Prop:=cy H D λi y ns=>∃b:β,(R i b/\i8 H (nd b))/\y=.ref (ad b)/\ns=nd b
def nP.step{β:Type}{nd:β->jl}{ad:β->Addr}{R:Nat->β->Prop}{H H' j:Hp}{D:Addr}{i:Nat}(z:H D=none)(hi:i<1000000)(f:nP nd ad R H D i H')(s:ai H' j)(b:β)(r:R i b)(l:aU j (nd b))(fr:i8 H' (nd b)):
  jN D (nP nd ad R H D (i+1)) (V.ref (ad b)) j:=
 cy.step z hi f s (ns:=nd b) ⟨b,⟨r,λx m=>f.same.free (fr x m)⟩,rfl,rfl⟩ l (λx m e=>f.has (by rw[<-e];exact fr x m))
def nP.end{β:Type}{nd:β->jl}{ad:β->Addr}{R:Nat->β->Prop}{H H':Hp}{D:Addr}{n:Nat}(f:nP nd ad R H D n H'):∃bs:List β,bs.length=n/\ai H H'/\H' D=some (.lst (bs.map λb=>V.ref (ad b)))/\(∀(i:Nat)(b:β),bs[i]? =some b->R i b)/\(∀b∈bs,aU H' (nd b))/\∀b∈bs,i8 H (nd b):=by
 let(ys,S,F,j,fl):=cy.end f;let(bs,z,m,I):=xQ (v:=λb:β=>V.ref (ad b)) (nd:=nd) (R:=λi b=>R i b/\i8 H (nd b)) fl;subst z;rw[aA] at j;apply(bs,j,S,F,λi b e=>(m i b e).1,I,λb G=>?_);let(i,hi,e):=rN G;exact(m i b (by rw[dm hi,e])).2
def i8.back(h:i8 H' ns)(s:ai H H'):i8 H ns:=λx j=>s.free (h x j)
def Fq{α β γ:Type}{bs:List β}{l:List α}{m:β->γ}{g:α->γ}(z:bs.length=l.length)(h:∀(i:Nat)(b:β)(x:α),bs[i]? =some b->l[i]? =some x->m b=g x):bs.map m=l.map g:=
 LR (by rw[aA];exact z) λi b y j h2=>by
  rw[bW] at h2;cases e:l[i]? with
  |none=>rw[e] at h2;cases h2
  |some x=>
   rw[e] at h2;cases h2;exact h i b x j e
structure uL where
 a:Addr
 dx:Addr
 gl:Addr
 side:Nat
 gs:List cb
def Fs(v:uL):List (Str×V):=[("side",.int (v.side:Nat)),("glimpses",.ref v.gl)]
def qk(CV:Addr)(v:uL):jl:=(v.a,.ins CV v.dx (Fs v))::(v.gl,.lst (v.gs.map λg=>V.ref g.a))::v.gs.flatMap eT
def ahF(v:uL):(Fs v).lookup ("side":Str)=some (.int (v.side:Nat)):=il
def ahG(v:uL):(Fs v).lookup ("glimpses":Str)=some (.ref v.gl):=(fY Ê).trans il
def Uo(h:aU H År):H v.a=some (.ins CV v.dx (Fs v)):=h (v.a,_) (by simp[qk])
def ahH(h:aU H År):H v.gl=some (.lst (v.gs.map λg=>V.ref g.a)):=h (v.gl,_) (by simp[qk])
def ahI(h:aU H År)(j:g∈v.gs):aU H (eT g):=λx m=>h x (by
 delta qk;exact aO _ (aO _ (kC.mpr ⟨g,j,m⟩)))
def oP(classes:LI)(side:Nat)(k:gX):Nat×LI:=(k.shape,sL k.look classes side)
def ql(ms:aF)(classes:LI)(side:Nat)(gs:List iG):List bp:=gs.map (xX (ms.map (oP classes side)))
structure wo(C:Cs)(H:Hp)(p:eP):Prop where
 l:Lies H Ág
 xY:p.classes.length=16
 dc:p.ak.length<=100
 flags:∀g∈p.ak,g.flags.length<=100
 cells:∀g∈p.ak,∀s∈g.flags,s.cells.length=16
def wo.same{C:Cs}{H H':Hp}{p:eP}(h:wo C H p)(s:ai H H'):wo C H' p:=⟨h.l.same s,h.xY,h.dc,h.flags,h.cells⟩
structure oQ(CK:Addr)(H:Hp)(pk:Addr)(ks:List az):Prop where
 a:H pk=some (.lst (ks.map λk=>V.ref k.a))
 l:aU H (zw CK ks)
 dc:ks.length<=100000
 look:∀k∈ks,iM k.m.look
def oQ.same{CK:Addr}{H H':Hp}{pk:Addr}{ks:List az}(h:Ŭ ks)(s:ai H H'):oQ CK H' pk ks:=⟨s _ _ h.a,h.l.same s,h.dc,h.look⟩
inductive LZ(C:Cs)(CK CV:Addr)(vs:au)(H:Hp)(Q:VK)(E':XK):Prop
 |mk (pk:Addr) (ks:List az) (p:eP) (side:Nat) (_:vs=[.ref pk,.ref p.a,.int (side:Nat)]) (_:Ŭ ks) (_:wo C H p) (_:∀H' v,ai H H'->v.side=side->v.gs.map cb.m=ql Í p.classes side ð->aU H' År->i8 H År->Q (.ref v.a) H')
section
variable{P:Pg}{w:Wd}{K:FR}{mg:MG}{base:Heap}{CK CL CS N CV:Addr}{C:Cs}
def zI:bH ["kinds","plate","side","looks","kind","glimpse"] ["kinds","plate","side"] (aV J3):=cw
def ahJ{look classes:LI}{side:Nat}(h:iM look):(sL look classes side).length=16:=by
 delta sL;split
 .rfl
 .rw[aA,h.1]
def ahK{f:Addr}{fd:FD}(F:br K "view_of" "view_of" J3 f fd)(T:ma K C)(dV:Ă "View" CV ["side","glimpses"])(dS:Ç 3 "sighting_of" ["kind","classes","side"] (LO K C CK))(dA:Ç 3 "kinds_along" ["looks","glimpse"] (LW C)):
  a7 P w K mg base aE 4 f fd ["kinds","plate","side"] (LZ C CK CV):=by
 refine F.ok zI Â;let(pk,ks,p,side,rfl,hk,J,k):=h;refine⟨_,aB (cj 3 zI.nd (eF (own:=[("kind",4)]) (te:=g9 (LO K C CK) [] E0 (bh Ãp (bh (gi K ϖ "classes") (bh Ř dw)))) Á zI.nd Åg Ë
   (λ_ _ _ _ _=>dJ 4 zI.nd) Ö (λ_ _ _ _ _=>bz dS (ae İ (ae Ő Ţ)))))
  (aD (aY (p9 dV hr (ae ç (ae (eF (own:=[("glimpse",5)]) (te:=g9 (LW C) [] E0 (bh ŗ Èi)) rfl zI.nd (eX Ő) Ë
   (λ_ _ _ _ _=>dJ 5 zI.nd) Ö (λ_ _ _ _ _=>bz dA (ae ö ţ))) ag))))),?_⟩
 refine⟨_,Á,pk,Á,⟨_,aa.of hk.a⟩,λD hD=>gC (K:=K) (a:=pk) (xs:=ks.map λk=>V.ref k.a) (nP (ik C) eG.a (λi b=>∀k,ks[i]? =some k->b.m=oP p.classes side k.m/\b.cells.length=16) H D) ĉ (λi H' _ f=>aa.of (f.same _ _ hk.a)) Č ú⟩
 .let(z,j,rfl):=iz hi;let I:=bZ j;let d8:=(bO.mp j).1;let hf:=hk.dc;apply(Á,eO ⟨_,Á,_,Á,bj (f.same _ _ J.l.pl) T.cP T.EM (KM p) ⟨_,Á,z,p.cl,p.classes,side,Á,(nH hk.l I).same f.same,hk.look z I,aa.of (f.same _ _ J.l.cl),J.xY,λM sg s3 e1 e2 ls fr=>?_⟩⟩);apply nP.step hD Æ f s3 sg (λk' W=>?_) ls fr;rw[j] at W;cases W;apply(?_,by rw[e2];exact ahJ (hk.look z I));delta eG.m oP;symm
 .let(bs,Z,S,fw,r1,l1,fr1):=nP.end f;rw[aA] at Z;let O:zH C H' D bs:=⟨fw,λb G=>l1 b G,λb G=>by
   let(i,hi,e):=rN G;exact(r1 i b (by grind) ks[i] (dm Æ)).2⟩
  let em:bs.map eG.m=(ks.map az.m).map (oP p.classes side):=by
   rw[cQ];exact Fq Z λi b x j h2=>(r1 i b j x h2).1
  let oh:=J.same S;let hf:=hk.dc;apply(_,Á,_,Á,bj oh.l.pl T.cP T.nE Ån ⟨p.gl,Á,⟨_,aa.of oh.l.gl⟩,λY cJ=>gC (K:=K) (a:=p.gl) (xs:=p.ak.map λg=>V.ref g.a) (nP eT cb.a (λi b=>∀g,p.ak[i]? =some g->b.m=xX (bs.map eG.m) g.m) H' Y) Ão (λi H2 _ f=>aa.of (f.same _ _ oh.l.gl)) (λi y H2 hi f=>?_) Æd⟩)
  .let(g,j,rfl):=iz hi;let I:=bZ j;let d8:=(bO.mp j).1;let L6:=J.dc;apply(Á,eO ⟨_,Á,_,Á,D,bs,g,Á,O.same f.same,by omega,(oh.l.sub I).same f.same,J.flags g I,J.cells g I,λM y s3 e1 ls fr=>?_⟩);apply nP.step cJ Æ f s3 y (λk' W=>?_) ls fr;symm
  .let(gs,nO,s2,fO,r2,l2,U):=nP.end f;rw[aA] at nO;apply vX Á λx dx M hx i5 aQ e3 s3=>?_;apply k M ⟨x,dx,Y,side,gs⟩ (S.trans Ĭ) Á ?_ Àl λy hy=>?_
   .delta ql;rw[cQ,<-em];exact Fq nO λi b x j h2=>r2 i b j x h2
   .simp only[qk,ba] at hy;rcases hy with rfl|rfl|hy
    .exact e3
    .exact s3 _ _ fO
    .let(b,G,hy):=kC.mp hy;exact s3 _ _ (l2 b G y hy)
   .simp only[qk,ba] at hy;rcases hy with rfl|rfl|hy
    .exact(S.trans s2).free hx
    .exact S.free cJ
    .let(b,G,hy):=kC.mp hy;exact S.free (U b G y hy)
end
def in_nums(x:Nat)(l:LN):vy (.int (x:Nat)) Çq=l.contains x:=by
 rw[KH];grind
def Ft(h:i<l.length):Çq[i]? =some (.int ((l.getD i 0:Nat):Int)):=by
 symm
def iA(y:cb):y.m.length=y.ls.length:=by delta cb.m;rw[aA]
def BX{y:cb}{i:Nat}{x:cV}(h:y.ls[i]? =some x):y.m.getD i []=x.ns:=by delta cb.m;rw[getD_map h]
def xZ(j:Nat)(h:LN)(seen:bp):Bool:=(List.range seen.length).all λi=>(seen.getD i []).contains (h.getD (j+i) 0)
inductive L7(vs:au)(H:Hp)(Q:VK)(E':XK):Prop
 |mk (tP:Nat) (h:cV) (y:cb) (_:vs=[.int (tP:Nat),.ref h.a,.ref y.a]) (_:aU H (lsN h)) (_:aU H Ær) (_:tP+y.ls.length<=h.ns.length) (_:y.ls.length<=100) (_:∀H',ai H H'->Q (.bl (xZ tP h.ns y.m)) H')
section
variable{P:Pg}{w:Wd}{K:FR}{mg:MG}{base:Heap}{CK CL CS N CV:Addr}{C:Cs}
def L9:bH ["place","hoist","kinds_seen","number","kinds"] ["place","hoist","kinds_seen"] (aV J9):=cw
def ahN{f:Addr}{fd:FD}(F:br K "fits_at" "fits_at" J9 f fd)(Y:mg "all"=none)(Z:mg "enumerate"=none):Ì aE 1 f fd ["place","hoist","kinds_seen"] L7:=by
 refine F.ok L9 Â;let(z,h,y,rfl,U,I,j7,yQ,k):=h;refine⟨_,aD (aY (c8 (vA Á) Ô Y yu (ae (eF (own:=[("number",3),("kinds",4)]) (g:=g2 K 3 4) (te:=bU (DO K false) (bU ύ ϖ (bU aag ώ ŗ)) Ãp) Á L9.nd
   (kY Ô Z Ţ) Ë
   (λ_ _ _ _ _=>iE 3 4 L9.nd) Ö
   (λ_ _ _ _ _=>jy Ih (cA cY á (eM qG Ú ö) Ø) İ (by with_unfolding_all rfl))) ag))),?_⟩
 refine⟨_,Á,y.a,_,Á,aa.of (jG I),λD hD=>lI (K:=K) (a:=y.a) (xs:=y.ls.map λx=>V.ref x.a) (cy H D λi v ns=>ns=[]/\v=.bl ((y.m.getD i []).contains (h.ns.getD (z+i) 0))) ĉ (λi H' _ f=>aa.of (f.same _ _ (jG I))) ŋ ú⟩
 .let(l,G,rfl):=iz hi;let W:=bZ G;let d8:=(bO.mp G).1;let S:ai H' (ϟ (.tup [.int (i:Nat),.ref l.a])):=aL hT;let M:=f.same.trans S;refine ß;apply(_,Á,_,Á,_,Á,_,_,Á,Á,h.a,_,_,.int ((h.ns.getD (z+i) 0:Nat):Int),Á,Á,aa.of (M _ _ (BU U)),fT (j:=z+i) (Ft Æ),_,Á,l.a,_,Á,.inl (aa.of (M _ _ (mj I W))),Á,BD _,?_);refine f.step hD Æ S Ů aU.nil Ä;rw[BX G,<-in_nums];rfl
 .let(ys,S,O,J,fl):=f.end;rw[aA] at J;apply(D,(List.range y.ls.length).map λi=>(y.m.getD i []).contains (h.ns.getD (z+i) 0),Á,aa.of (Fp O J λi v e=>?_),?_)
  .let(ns,(_,e),_):=fl i v e;omega
  .let q:=k H' S;delta xZ at q;rw[iA] at q;symm
def nQ(below:Bool)(u:Nat):Nat:=if below=true then 0 else u
def sN(above:Bool)(u:Nat):Nat:=if above=true then u else 0
def Ma(a b:Bool)(u:Nat)(h:LN)(seen:bp):Bool:=(List.range (sN a u+1-nQ b u)).any λi=>xZ (nQ b u+i) h seen
def uM(h:LN)(g:iG)(seen:bp):Bool:=Ma g.above g.below (h.length-g.flags.length) h seen
inductive Mb(C:Cs)(vs:au)(H:Hp)(Q:VK)(E':XK):Prop
 |mk (h:cV) (g:ck) (y:cb) (_:vs=[.ref h.a,.ref g.a,.ref y.a]) (_:aU H (lsN h)) (_:Lies H Æo) (_:aU H Ær) (_:y.ls.length=g.flags.length) (_:g.flags.length<=h.ns.length) (_:h.ns.length<=100) (_:∀H',ai H H'->Q (.bl (uM h.ns g.m y.m)) H')
def zJ:bH ["hoist","glimpse","kinds_seen","unseen","first","last","place"] ["hoist","glimpse","kinds_seen"] (aV J8):=cw
def ahO(F:br K "hoist_fits" "hoist_fits" J8 f fd)(T:ma K C)(tL:mg "len"=none)(tA:mg "any"=none)(tR:mg "range"=none)(O:Ç 1 "fits_at" ["place","hoist","kinds_seen"] L7):Ì aE 2 f fd ["hoist","glimpse","kinds_seen"] (Mb C):=by
 refine F.ok zJ Â;let(h,g,y,rfl,I,G,Y,sj,j7,yQ,k):=h;refine⟨_,aB (cj 3 zJ.nd (eM qH ą ŏ))
  (aB (cj 4 zJ.nd (rX (jx Ő) bo ö))
  (aB (cj 5 zJ.nd (rX (jx Ő) ö bo))
  (aD (aY (c8 (QE rfl) Ô tA boot_any (ae (eF (own:=[("place",6)]) (te:=g9 L7 [] E0 (bh (ay 6) (bh ώ (bh Ř dw)))) rfl zJ.nd (ZP Ô tR (ae İ (ae (eM qG Äd bo) ag))) Ë
   (λ_ _ _ _ _=>dJ 6 zJ.nd) Ö (λ_ _ _ _ _=>bz O (ae Ãl (ae Ú Ţ)))) ag)))))),?_⟩
 let U:((h.ns.length:Nat):Int)-((g.flags.length:Nat):Int)=((h.ns.length-g.flags.length:Nat):Int):=by omega
 apply(_,Á,h.a,_,Á,.inl (aa.of (BU I)),_,Á,bj G.ga T.cG T.vT (vS g) ⟨g.l,_,Á,.inl (aa.of G.fl),_,_,Á,Á,?_⟩);dsimp only;rw[eZ,jF,aA,U];let k:=k;delta uM at k;rw[show g.m.flags.length=g.flags.length by delta ck.m;rw[aA],show g.m.above=g.above from rfl,show g.m.below=g.below from rfl] at k;generalize hu:h.ns.length-g.flags.length=u at k;delta Ma at k;apply Ek g.below (.int ((nQ g.below u:Nat):Int)) (λK q=>⟨_,Á,bj G.ga T.cG T.SD (SB g) ⟨_,Á,q⟩⟩) Ϫ (λe K q=>Ġ) ?_
 .rw[e] at q;exact q
 .rw[e] at q;exact q
 .dsimp only;apply RM (RL g.above (.int ((sN g.above u:Nat):Int)) (λK q=>⟨_,Á,bj G.ga T.cG T.SC (SA g) ⟨_,Á,q⟩⟩) (λe K q=>Ġ) Ϫ ?_)
  .rw[e] at q;exact q
  .rw[e] at q;exact q
  .let J:nQ g.below u<=u:=by delta nQ;split <;> omega
   let M:sN g.above u<=u:=by delta sN;split <;> omega
   generalize nQ g.below u=j at J k;generalize sN g.above u=z at M k;apply(_,Á,_,Á,_,_,Á,Á,(j:Int),((z:Int)+1),Á,⟨by omega,by omega,by omega,by omega⟩,λD hD=>?_);rw[show(((z:Nat):Int)+1-(j:Nat)).toNat=z+1-j by omega];refine DS (lo:=(j:Int)) (n:=z+1-j) (cy H D λi v ns=>ns=[]/\v=.bl (xZ (j+i) h.ns y.m)) ĉ Âi ú
   .apply(Á,eO ⟨_,Á,_,Á,_,Á,j+i,h,y,?_,aU.same I f.same,aU.same Y f.same,by omega,by omega,λH3 Z=>?_⟩)
    .rfl
    .exact f.step hD Æ Z ⟨Á,Á⟩ aU.nil Ä
   .let(ys,s1,W,S,fl):=f.end;apply(D,(List.range (z+1-j)).map λi=>xZ (j+i) h.ns y.m,Á,aa.of (Fp W S λi v e=>?_),?_)
    .let(ns,(_,e),_):=fl i v e;omega
    .symm
def ml:bp->List iG->List bp->Bool
 |h::hs,g::gs,s::ss=>uM h g s&&ml hs gs ss
 |_,_,_=>true
inductive Mc(C:Cs)(CV:Addr)(vs:au)(H:Hp)(Q:VK)(E':XK):Prop
 |mk (y:cb) (p:eP) (v:uL) (_:vs=[.ref y.a,.ref p.a,.ref v.a]) (_:aU H Ær) (_:wo C H p) (_:aU H År) (_:y.ls.length=p.ak.length) (_:v.gs.length=p.ak.length) (_:(∀(i:Nat)(h:cV)(g:ck)(s:cb),y.ls[i]? =some h->p.ak[i]? =some g->v.gs[i]? =some s->s.ls.length=g.flags.length/\g.flags.length<=h.ns.length/\h.ns.length<=100)) (_:∀H',ai H H'->Q (.bl (ml y.m ð Ϭ)) H')
theorem ahP(hs:bp):∀(gs:List iG)(ss:List bp),hs.length=gs.length->ss.length=gs.length->ml hs gs ss=(List.range hs.length).all λi=>uM (hs.getD i []) (gs.getD i ⟨false,false,[]⟩) (ss.getD i []):=by
 induction hs with
 |nil=>
  intro gs ss j h2;cases gs with
  |nil=>cases ss with
   |nil=>rfl
   |cons _ _=>cases h2
  |cons _ _=>cases j
 |cons h hs I=>
  intro gs ss j h2;cases gs with
  |nil=>cases j
  |cons g gs=>cases ss with
   |nil=>cases h2
   |cons s ss=>
    let I:=I gs ss (À j) (À h2);delta ml;rw[I,c7,Df,rL,rM];rfl
def Md:bH ["hoists","plate","view","j","hoist"] ["hoists","plate","view"] (aV J7):=cw
def ahQ{f:Addr}{fd:FD}(F:br K "fits" "fits" J7 f fd)(T:ma K C)(W:lg K CV ["side","glimpses"])(tA:mg "all"=none)(tE:mg "enumerate"=none)(dF:Ç 2 "hoist_fits" ["hoist","glimpse","kinds_seen"] (Mb C)):Ì aE 3 f fd ["hoists","plate","view"] (Mc C CV):=by
 refine F.ok Md Â;let(y,p,v,rfl,U,I,O,eY,ji,ax,k):=h;refine⟨_,aD (aY (c8 (vA Á) Ô tA yu (ae (eF (own:=[("j",3),("hoist",4)]) (g:=g2 K 3 4) (te:=g9 (Mb C) [] E0 (bh Ãp (bh (bU ύ (gi K ϖ "glimpses") ŗ) (bh (bU ύ (gi K Ř "glimpses") ŗ) dw)))) Á Md.nd
   (Âo) Ë
   (λ_ _ _ _ _=>iE 3 4 Md.nd) Ö
   (λ_ _ _ _ _=>bz dF (ae İ (ae (cA cY Ő ö Ø) (ae (cA cY (bg ç rfl) ö Ø) ag))))) ag))),?_⟩
 let yQ:=I.dc;rw[ahP _ _ _ (by rw[iA,aA];exact eY) É,iA] at k;refine⟨_,Á,y.a,_,Á,aa.of (jG U),λD hD=>lI (K:=K) (a:=y.a) (xs:=y.ls.map λx=>V.ref x.a) (cy H D λi u ns=>ns=[]/\u=.bl (uM Çg ((p.ak.map ck.m).getD i ⟨false,false,[]⟩) ((v.gs.map cb.m).getD i []))) ĉ (λi H' _ f=>aa.of (f.same _ _ (jG U))) ŋ ú⟩
 .let(l,j,rfl):=iz hi;let hm:=bZ j;let d8:=(bO.mp j).1;let s1:ai H' (ϟ (.tup [.int (i:Nat),.ref l.a])):=aL hT;let S:=f.same.trans s1;obtain⟨g,G⟩:∃g,p.ak[i]? =some g:=⟨_,dm Æ⟩;obtain⟨z,J⟩:∃z,v.gs[i]? =some z:=⟨_,dm Æ⟩;let(o1,o2,o3):=ax i l g z j G J;let M:=bZ G;let Z:=bZ J;refine ß;refine⟨_,Á,_,Á,bj (S _ _ I.l.pl) T.cP T.nE Ån ⟨_,Á,p.gl,_,_,.ref g.a,Á,Á,aa.of (S _ _ I.l.gl),fT (by rw[bW,G];rfl),
   _,rfl,bj (S _ _ (Uo O)) W.1 (W.2 _ Ä) (ahG v) ⟨_,rfl,v.gl,_,_,.ref z.a,rfl,rfl,aa.of (S _ _ (ahH O)),fT (by rw[bW,J];rfl),l,g,z,rfl,λx hx=>?_,(I.l.sub M).same S,(ahI O Z).same S,o1,o2,o3,λH3 s3=>?_⟩⟩⟩
  .exact S _ _ (U x (by delta eT;exact aO _ (kC.mpr ⟨l,hm,hx⟩)))
  .refine f.step hD Æ Åc Ů aU.nil Ä;rw[BX j,getD_map G,getD_map J]
 .let(ys,s1,fw,Y,fl):=f.end;rw[aA] at Y;apply(D,_,Á,aa.of (Fp (b:=λi=>uM Çg ((p.ak.map ck.m).getD i ⟨false,false,[]⟩) ((v.gs.map cb.m).getD i [])) fw Y λi v e=>?_),?_)
  .let(ns,(_,e),_):=fl i v e;omega
  .symm
end
def rj(p:Nat->Bool)(g:Nat->Int)(n:Nat):LI:=((List.range n).filter p).map g
def nR(H1:Hp)(D:Addr)(p:Nat->Bool)(g:Nat->Int)(i:Nat)(H:Hp):Prop:=ai H1 H/\H D=some (.lst (iv (rj p g i)))
def nR.zero(j:H1 D=none):nR H1 D p g 0 Ċ:=⟨aL j,aq⟩
def ahS(p:Nat->Bool)(g:Nat->Int)(i:Nat):(rj p g i).length<=i:=by
 delta rj;grind
def nR.yes(j:H1 D=none)(hi:i<1000000)(f:nR H1 D p g i H)(s:ai H H4)(h:p i=true)(m:v=V.int (g i)):jN D (nR H1 D p g (i+1)) v H4:=by
 subst m;apply(_,s _ _ f.2,?_,fm (f.1.trans s) j,?_)
 .rw[eZ];let:=ahS p g i;exact gV Æ
 .delta rj;rw[aq,BW,af h,bX];simp
def nR.no(f:nR H1 D p g i H)(s:ai H H4)(h:¬p i=true):nR H1 D p g (i+1) H4:=by
 apply(f.1.trans s,?_);delta rj;rw[BW,ah h,jv];exact s _ _ f.2
def fC(H1:Hp)(D:Addr)(g:Nat->Int)(i:Nat)(H:Hp):Prop:=ai H1 H/\H D=some (.lst (iv ((List.range i).map g)))
def fC.zero(j:H1 D=none):fC H1 D g 0 Ċ:=⟨aL j,aq⟩
def fC.step(j:H1 D=none)(hi:i<1000000)(f:fC H1 D g i H)(s:ai H H4)(m:v=V.int (g i)):jN D (fC H1 D g (i+1)) v H4:=by
 subst m;apply(_,s _ _ f.2,?_,fm (f.1.trans s) j,?_)
 .rw[eZ,aA,g7];exact gV Æ
 .rw[aq,Hh,bX];simp
def lh(ms:aF)(s:Nat):Int:=(ms.getD s fk).jT
def zK(ms:aF)(sames row:LN)(above b:Nat):Bool:=decide (lh ms Ł<=(above:Int))&&decide (row.getD ((lh ms Ł).toNat-1) 0=row.getD above 0)
def Fu(ms:aF)(sames row:LN)(above:Nat):Int:=(rj (zK ms sames row above) (λb=>2^b) sames.length).sum
structure BZ(ms:aF)(sames:LN):Prop where
 dc:sames.length<=1000
 lt:∀s∈sames,s<ms.length
 pos:∀s∈sames,1<=lh ms s
inductive Me(CK:Addr)(vs:au)(H:Hp)(Q:VK)(E':XK):Prop
 |mk (pk ps pr:Addr) (ks:List az) (sames row:LN) (above:Nat) (_:vs=[.ref pk,.ref ps,.ref pr,.int (above:Nat)]) (_:Ŭ ks) (_:H ps=some ϸ) (_:BZ Í sames) (_:H pr=some Ãs) (_:above<row.length) (_:∀H',ai H H'->Q (.int (Fu Í sames row above)) H')
section
variable{P:Pg}{w:Wd}{K:FR}{mg:MG}{base:Heap}{CK CL CS N CV:Addr}{C:Cs}
def B0:bH ["kinds","sames","row","above","whiches","number","bit","which"] ["kinds","sames","row","above"] (aV Kd):=cw
def boot_sum:bootBuiltins "sum"=some (.builtin "sum"):=by decide+kernel
def ahT(F:br K "bits_of_sames" "bits_of_sames" Kd f fd)(T:sE K CK)(tS:mg "sum"=none)(tE:mg "enumerate"=none):Ì aE 1 f fd ["kinds","sames","row","above"] (Me CK):=by
 refine F.ok B0 Â;let(pk,ps,pr,ks,sames,row,above,rfl,hk,jX,M,gU,nM,k):=h;refine⟨_,aB (um (i:=4) (own:=[("number",5)]) (te:=gi K (bU ύ ώ (ay 5)) "which") Á B0.nd Á Á Ô Æp Ë
   (λ_ _ _ _ _=>dJ 5 B0.nd) Ö (λ_ _ _ _ _=>bg (cA cY Ú Äd Ø) rfl))
  (aD (aY (c8 (Qx rfl) Ô tS boot_sum (ae (eF (own:=[("bit",6),("which",7)]) (g:=g2 K 6 7) (tt:=Dz (ng (bU (gf λi j=>.bl (decide (i<=j))) Èk ŗ)) (ng (bU ox (bU ύ Ř (bU (gf λi j=>.int (i-j)) Èk Åb)) (bU ύ Ř ŗ)))) (te:=bU (rI PN λi j=>.int (i*2^j.toNat)) Åb (ay 6)) rfl B0.nd
   (kY Ô tE Ϣ) Ë
   (λ_ _ _ _ _=>iE 6 7 B0.nd)
   (λ_ _ _ _ _=>pL (PW.pt (pw_and (cI w9 Ål ö (bT _)) (pw_and1 (cI ic (cA cY ç (eM qH Ål bo) Ø) (cA cY ç ö Ø) (bT _))))))
   (λ_ _ _ _ _=>eM HU bo Ãl)) ag)))),?_⟩
 refine⟨_,Á,ps,Á,⟨_,aa.of jX⟩,λD hD=>gC (K:=K) (a:=ps) (xs:=iv (nv sames)) (fC H D λi=>lh Í ŀ) Áz (λi H' _ f=>aa.of (f.1 _ _ jX)) Č ú⟩
 .let(z,G,rfl):=nN hi;let d8:=(bO.mp G).1;let BY:=bZ G;let Y:=M.lt z BY;let Uq:=M.dc;rw[aA] at Y;obtain⟨b,hb⟩:∃b,ks[z]? =some b:=⟨_,dm Y⟩;apply(Á,eO ⟨_,Á,_,Á,pk,_,_,.ref b.a,Á,Á,aa.of (f.1 _ _ hk.a),fT É,bj (jn ((nH hk.l Çu).same f.1)) T.c T.Lj (Lh b) ?_⟩);apply fC.step hD Æ f ĸ ?_;delta lh;symm
 .let hd:=f.2;let s1:=f.1;rw[eZ,jF] at hd;apply(_,Á,D,_,Á,aa.of hd,λU Z=>lI (K:=K) (a:=D) (xs:=iv ((List.range sames.length).map λi=>lh Í ŀ)) (nR H' U (zK Í sames row above) (λb=>2^b)) (nR.zero Z) (λi J _ f=>aa.of (f.1 _ _ hd)) (λi x Tt J hi I hT=>?_) (λJ I=>?_))
  .let(z,G,rfl):=sA hi;rw[bW] at G;cases er:(List.range sames.length)[i]? with
   |none=>symm
   |some j=>
    rw[er] at G;let d8:=(bO.mp er).1;rw[g7] at d8;cases xN er;let G:lh Í ŀ=z:=aN G;subst G;let Uq:=M.dc;let Ur:=M.pos ŀ É;let S:ai J (upd J Tt (.tup [.int (i:Nat),.int (lh Í ŀ)])):=aL hT;let O:=(s1.trans I.1).trans S;refine î;let eb:zK Í sames row above i=(decide (lh Í ŀ<=(above:Int))&&decide (row.getD ((lh Í ŀ).toNat-1) 0=row.getD above 0)):=rfl;generalize lh Í ŀ=W at Ur eb S O;apply and_val (decide (W<=(above:Int))) (decide (row.getD (W.toNat-1) 0=row.getD above 0)) (λK q=>⟨_,Á,_,Á,_,_,Á,Á,_,Á,q⟩) (λhc K q=>?_) (a8 Ï Ï)
    .let j7:=rO hc;apply(_,Á,_,Á,_,_,Á,Á,pr,_,_,.int ((row.getD (W.toNat-1) 0:Nat):Int),Á,Á,aa.of (O _ _ gU),?_,_,Á,_,Á,pr,_,_,.int ((row.getD above 0:Nat):Int),Á,Á,aa.of (O _ _ gU),fT (Ft nM),Á,_,Á,?_)
     .rw[show W-1=((W.toNat-1:Nat):Int) by omega];exact fT (Ft Æ)
     .rw[lW];omega
    .apply(_,Á,_,_,Á,Á,⟨by omega,by omega,by decide⟩,?_);apply I.yes Z Æ S (eb.trans hc) ?_;simp
    .exact I.no S É
  .let e:=I.2;rw[eZ,aA,g7] at e;exact(U,_,Á,aa.of e,k J (s1.trans I.1))
end
def B1(K:FR)(t:TE):TT:=λσ H Q=>t σ H λx H'=>∃k,HW K x H' k/\Q k H'
def sO(ms:aF)(sames row:LN)(above:Nat):Nat:=(((List.range sames.length).filter (zK ms sames row above)).map (2^ ·)).sum
theorem ahU(l:LN):(nv l).sum=((l.sum:Nat):Int):=by
 induction l with
 |nil=>rfl
 |cons a l I=>
  symm
def ahV(ms:aF)(sames row:LN)(above:Nat):Fu ms sames row above=((sO ms sames row above:Nat):Int):=by
 delta Fu sO rj;rw[<-ahU];delta nv;rw[cQ];congr 1
def qm(ms:aF)(sames row:LN):LN:=(List.range row.length).map (sO ms sames row)
inductive Mf(CK:Addr)(vs:au)(H:Hp)(Q:VK)(E':XK):Prop
 |mk (pk ps pr:Addr) (ks:List az) (sames row:LN) (_:vs=[.ref pk,.ref ps,.ref pr]) (_:Ŭ ks) (_:H ps=some ϸ) (_:BZ Í sames) (_:H pr=some Ãs) (_:row.length<=1000) (_:∀H' p,Ϡ (.lst (iv (nv (qm Í sames row))))->Q ģ H')
def gY(g b:Nat):Bool:=Builtin.bitAnd (b:Int) (Builtin.bitNot (g:Int))!=0
def rk(g:Nat)(j:LN):Nat:=(j.filter (gY g)).length
inductive Mg(K:FR)(vs:au)(H:Hp)(Q:VK)(E':XK):Prop
 |mk (g:Nat) (pp:Addr) (places:LN) (_:vs=[.int (g:Nat),.ref pp]) (_:â pp (iv (nv places))) (_:places.length<=1000) (_:∀H',ai H H'->Q (.int ((rk g places:Nat):Int)) H')
def x3(g b:Nat):Bool:=Builtin.bitAnd ((g:Int)/2^b) 1!=0
def rl(ms:aF)(sames:LN)(g:Nat):Int:=(rj (x3 g) (λb=>(ms.getD Ł fk).copies) sames.length).sum
inductive Mh(CK:Addr)(vs:au)(H:Hp)(Q:VK)(E':XK):Prop
 |mk (g:Nat) (pk ps:Addr) (ks:List az) (sames:LN) (_:vs=[.int (g:Nat),.ref pk,.ref ps]) (_:Ŭ ks) (_:H ps=some ϸ) (_:BZ Í sames) (_:∀H',ai H H'->Q (.int (rl Í sames g)) H')
section
variable{P:Pg}{w:Wd}{K:FR}{mg:MG}{base:Heap}{CK CL CS N CV:Addr}{C:Cs}
def Mi:bH ["kinds","sames","row","above"] ["kinds","sames","row"] (aV Kc):=cw
def ahW(F:br K "sames_along" "sames_along" Kc f fd)(tL:mg "len"=none)(O:mg "range"=none)(z:Ç 1 "bits_of_sames" ["kinds","sames","row","above"] (Me CK)):Ì aE 2 f fd ["kinds","sames","row"] (Mf CK):=by
 refine F.ok Mi Â;let(M,ps,j,ks,sames,row,rfl,hk,J,I,G,U,k):=h;refine⟨_,aD (aY (eF (own:=[("above",3)]) (te:=g9 (Me CK) [] E0 (bh ώ (bh ϖ (bh Ř Ât)))) Á Mi.nd (HN Ô O (ae û ag)) Ë
  (λ_ _ _ _ _=>dJ 3 Mi.nd) Ö (λ_ _ _ _ _=>bz z (ae Ú (ae á (ae ç ı)))))),?_⟩
 apply(_,Á,j,_,Á,.inl (aa.of G),(row.length:Int),by simp,by omega,by omega,λD hD=>?_);rw[C7];refine DS (lo:=0) (n:=row.length) (fC H D λi=>Fu Í sames row i) Áz Âi ú
 .apply(Á,eO ⟨_,Á,_,Á,_,Á,_,Á,M,ps,j,ks,sames,row,i,?_,hk.same f.1,f.1 _ _ J,I,f.1 _ _ G,hi,λW S=>?_⟩)
  .simp
  .exact fC.step hD Æ f S Á
 .apply k H' D ⟨f.1,hD,?_⟩;rw[f.2];delta qm nv;rw[cQ];congr 3;exact kq λi _=>ahV _ _ _ i
def Mj:bH ["group","places","bits"] ["group","places"] (aV Kg):=cw
def ahX(F:br K "places_outside" "places_outside" Kg f fd)(O:mg "len"=none):Ì aE 1 f fd ["group","places"] (Mg K):=by
 refine F.ok Mj Â;let(g,I,places,rfl,J,S,k):=h;refine⟨_,aD (aY (c8 fU Ô O PySem.boot_len (ae (eF (own:=[("bits",2)]) (tt:=B1 K (bU (gf λi j=>.int Œ) Ř (DH (rU λi=>.int Äv) ώ))) (te:=ay 2) Á Mj.nd Æp Ë
  (λ_ _ _ _ _=>dJ 2 Mj.nd) (λ_ _ _ _ _=>pL (yI (eM AV ç (jh PR Ú)) Ãw)) Ãy) ag))),?_⟩
 refine⟨_,Á,I,Á,⟨_,J⟩,λD G=>gC (K:=K) (a:=I) (xs:=iv (nv places)) (nR H D (λi=>gY g Åm) (λi=>((places.getD i 0:Nat):Int))) (nR.zero G) (λi H' _ f=>f.1.seq J) Č ú⟩
 .let(z,m,rfl):=nN hi;let U:=(bO.mp m).1;refine⟨Á,_,Á,_,Á,_,Á,_,_,Á,Á,_,Á,a8 Ï Ï⟩
  .exact(_,Á,f.yes G Æ ĸ (by rw[getD_at m];exact hc) É)
  .exact f.no ĸ (by rw[getD_at m];exact hc)
 .let e:=f.2;rw[eZ,jF] at e;apply(D,_,Á,.inl (aa.of e),?_);let el:(iv (rj (λi=>gY g Åm) (λi=>((places.getD i 0:Nat):Int)) places.length)).length=rk g places:=by
   rw[eZ];delta rj rk;rw[aA];let M:((List.range places.length).filter λi=>gY g Åm).length=(((List.range places.length).map λi=>places.getD i 0).filter (gY g)).length:=by
    rw[yw,aA];rfl
   rw[M];let h2:=wm (l:=places) (g:=λx=>x) (d:=0);symm
  rw[el];exact k H' f.1
def Ml:bH ["group","kinds","sames","bit","number"] ["group","kinds","sames"] (aV Kh):=cw
def ahY(F:br K "copies_in" "copies_in" Kh f fd)(T:sE K CK)(tS:mg "sum"=none)(Z:mg "enumerate"=none):Ì aE 1 f fd ["group","kinds","sames"] (Mh CK):=by
 refine F.ok Ml Â;let(g,Y,ps,ks,sames,rfl,hk,O,I,k):=h;refine⟨_,aD (aY (c8 (Qx Á) Ô tS boot_sum (ae (eF (own:=[("bit",3),("number",4)]) (g:=g2 K 3 4) (tt:=B1 K (bU (gf λi j=>.int Œ) (bU (rI (λ_ j=>0<=j) λi j=>.int (i/2^j.toNat)) ώ ŗ) Åb)) (te:=gi K (bU ύ ϖ Ãp) "copies") Á Ml.nd
  (kY Ô Z Ţ) Ë
  (λ_ _ _ _ _=>iE 3 4 Ml.nd)
  (λ_ _ _ _ _=>pL (yI (eM AV (eM PP Ú ö) bo) Ãw)) (λ_ _ _ _ _=>bg (cA cY á İ Ø) rfl)) ag))),?_⟩
 refine⟨_,Á,ps,_,Á,aa.of O,λD J=>lI (K:=K) (a:=ps) (xs:=iv (nv sames)) (nR H D (x3 g) (λb=>((ks.map az.m).getD Ł fk).copies)) (nR.zero J) (λi H' _ f=>aa.of (f.1 _ _ O)) ŋ ú⟩
 .let(z,M,rfl):=nN hi;let d8:=(bO.mp M).1;let W:=bZ M;let G:=I.lt z W;let Uq:=I.dc;rw[aA] at G;obtain⟨b,hb⟩:∃b,ks[z]? =some b:=⟨_,dm G⟩;let S:ai H' (ϟ (.tup [.int (i:Nat),.int (z:Nat)])):=aL hT;let U:=f.1.trans S;refine î;refine⟨_,Á,_,Á,_,_,Á,Á,Hj i,_,_,Á,Á,_,Á,a8 Ï Ï⟩
  .exact(_,Á,_,Á,Y,_,_,.ref b.a,Á,Á,aa.of (U _ _ hk.a),fT É,bj (jn ((nH hk.l Çu).same U)) T.c T.Lk (Li b) (f.yes J Æ S hc É))
  .exact f.no S hc
 .let e:=f.2;rw[eZ,jF] at e;exact(D,_,Á,aa.of e,k H' f.1)
end
def gI(n:Nat):V:=.int (n:Nat)
def oneMore(t:cg)(s:Nat):cg:=eA t s ((bY t s).getD 0+1)
def gu(F:LN):cg:=F.foldl oneMore []
def B3(l:LN)(s:Nat):gu (l++[s])=oneMore (gu l) s:=by
 delta gu;simp
def snoc_ind{α:Type}{P:List α->Prop}(j:P [])(hs:∀l a,P l->P (l++[a]))(l:List α):P l:=by
 let h:∀m:List α,P m.reverse:=λm=>by
  induction m with
  |nil=>exact j
  |cons a m I=>symm
 let:=h l.reverse;symm
def Mm(l:LN):(gu l).length<=l.length:=by
 refine snoc_ind (P:=λl=>(gu l).length<=l.length) (bJ _) Ãt l;rw[B3,mU];let:=RP (gu l) s ((bY (gu l) s).getD 0+1);delta oneMore;grind
def Fw(l:LN):((gu l).map (·.1)).Nodup:=by
 refine snoc_ind (P:=λl=>((gu l).map (·.1)).Nodup) Ay Ãt l;rw[B3];exact En ih
def Us(l:LN)(s:Nat):(bY (gu l) s).getD 0=l.count s:=by
 refine snoc_ind (P:=λl=>(bY (gu l) s).getD 0=l.count s) Á Át l;rw[B3];delta oneMore;rw[Em,List.count_append];by_cases h:s=x
 .subst h;rw[af rfl,ih,List.count_singleton_self];rfl
 .rw[ah h,ih,List.count_eq_zero_of_not_mem (l:=[x]) (À h)];rfl
def Ut(l:LN)(s:Nat):(bY (gu l) s).isSome=l.contains s:=by
 refine snoc_ind (P:=λl=>(bY (gu l) s).isSome=l.contains s) Á Át l;rw[B3];delta oneMore;rw[Em];by_cases h:s=x
 .subst h;rw[af rfl];simp
 .rw[ah h,ih];simp[h]
def Uu(h:p∈gu l):p.1∈l:=by
 let j:=zc (Fw l) (s:=p.1) (v:=p.2) h;let h2:=Ut l p.1;symm
def sP(ms:aF)(s:Nat):Int:=(ms.getD s fk).copies
def oR(ms:aF)(p:Nat×Nat):Option (Nat×Int):=if (p.2:Int)>sP ms p.1 then some (p.1,(p.2:Int)-sP ms p.1) else none
def jq(ms:aF)(F:LN):List (Nat×Int):=(gu F).filterMap (oR ms)
theorem Fx(ms:aF):∀t:cg,((t.filterMap (oR ms)).map (·.1)).Sublist (t.map (·.1)):=by
 intro t;induction t with
 |nil=>exact List.Sublist.refl _
 |cons p t I=>
  let I:=I;rw[C8,a0];let j:oR ms p=none\/∃z,oR ms p=some (p.1,z):=by
   delta oR;split
   .exact .inr ⟨_,Á⟩
   .exact .inl Á
  rcases j with e|⟨z,e⟩
  .rw[e];exact List.Sublist.cons _ I
  .rw[e];exact List.Sublist.cons₂ _ I
structure Mn(H:Hp)(y:cb)(n:Nat):Prop where
 l:aU H Ær
 dc:y.ls.length<=1000
 short:∀x∈y.ls,x.ns.length<=1000
 lt:∀x∈y.ls,∀s∈x.ns,s<n
inductive Uv(CK:Addr)(vs:au)(H:Hp)(Q:VK)(E':XK):Prop
 |mk (pk:Addr) (ks:List az) (y:cb) (_:vs=[.ref pk,.ref y.a]) (_:Ŭ ks) (_:Mn H y ks.length) (_:∀H' p,Ϡ (.dK (bx V.int Äh))->Q ģ H')
section
variable{P:Pg}{w:Wd}{K:FR}{mg:MG}{base:Heap}{CK CL CS N CV CP:Addr}{C:Cs}
def Uw:bootBuiltins "dict"=some (.type "dict"):=by decide+kernel
def zL:bH ["kinds","rows","used","row","sign","times"] ["kinds","rows"] (aV Kb):=cw
def ahZ(F:br K "copies_lacking" "copies_lacking" Kb f fd)(T:sE K CK)(tD:mg "dict"=none):Ì aE 1 f fd ["kinds","rows"] (Uv CK):=by
 refine F.ok zL Â;let(pk,ks,y,rfl,hk,Y,k):=h;refine⟨_,aB (cj 2 zL.nd DU)
  (aB (ϊ Æp (dJ 3 zL.nd) (aD (ϊ (eX ö) (dJ 4 zL.nd)
   (aD (IC (y4 hr) ç İ (eM qG (abN (y4 hr) ç İ bo ⟨rfl,rfl,rfl,rfl⟩) bo) rfl)))))
  (aD (aY (xc (ab2 rfl) Ô tD Uw (ae (ab7 (eF (own:=[("sign",4),("times",5)]) (g:=g2 K 4 5) (tt:=ng (bU (gf λi j=>.bl (decide (j<i))) (ay 5) (gi K (bU ύ ώ Ãp) "copies")))
   (te:=xb (bh Ãp (bh (bU (gf λi j=>.int (i-j)) (ay 5) (gi K (bU ύ ώ Ãp) "copies")) dw))) rfl zL.nd (Q7 ç) Ë
   (λ_ _ _ _ _=>iE 4 5 zL.nd)
   (λ_ _ _ _ _=>pL (cI vw Äd (bg (cA cY Ú İ Ø) rfl) (bT _)))
   (λ_ _ _ _ _=>uf (ae İ (ae (eM qH Äd (bg (cA cY Ú İ Ø) rfl)) ag))))) ag))))),?_⟩
 intro d hd;let sQ:ai H (upd H d ϳ):=aL hd;let Ux:∀i,(y.ls.take i |>.map cV.ns).flatten.length<=1000000:=λi=>by
  let I:∀(l:List cV),(∀x∈l,x.ns.length<=1000)->(l.map cV.ns).flatten.length<=1000*l.length:=by
   intro l;induction l with
   |nil=>simp
   |cons a l ih=>
    grind
  let h2:=I (y.ls.take i) λx hx=>Y.short x (Hd hx);let h3:=Y.dc;grind
 refine⟨_,Á,y.a,Á,⟨_,aa.of (sQ _ _ (jG Y.l))⟩,w6 (K:=K) (a:=y.a) (xs:=y.ls.map λx=>V.ref x.a) (λi σ H'=>∃v3 U,σ=[some (.ref pk),some Àp,some Èo,v3,U,none]/\ai H H'/\H' d=some (.dK (bx gI (gu (y.ls.take i |>.map cV.ns).flatten))))
  ⟨none,none,rfl,sQ,aq⟩ (λi σ H' _ ⟨_,_,_,s1,_⟩=>aa.of (s1 _ _ (jG Y.l))) ?_ ?_⟩
 .rintro i x σ H' hi ⟨v3,U,rfl,s1,uN⟩;let(r,I,rfl):=iz hi;let hm:=bZ I;let et:=take_snoc I;let Fy:=mj Y.l hm;let O:=Ux (i+1);rw[et,bX,List.flatten_append] at O;let O:((y.ls.take i |>.map cV.ns).flatten++r.ns).length<=1000000:=by simpa using O
  refine⟨_,Á,r.a,Á,⟨_,aa.of (s1 _ _ Fy)⟩,w6 (K:=K) (a:=r.a) (xs:=iv (nv r.ns)) (λj σ H'=>∃U,σ=[some (.ref pk),some Àp,some Èo,some (.ref r.a),U,none]/\ai H H'/\H' d=some (.dK (bx gI (gu ((y.ls.take i |>.map cV.ns).flatten++r.ns.take j)))))
   ⟨U,rfl,s1,by rw[List.take_zero,jv];exact uN⟩ (λj σ H' _ ⟨_,_,S,_⟩=>aa.of (S _ _ Fy)) ?_ ?_⟩
  .rintro j x σ G hj ⟨U,rfl,S,M⟩;let(z,hz,rfl):=nN hj;let vz:=(bO.mp hz).1;let sR:=take_snoc hz;generalize hF:(y.ls.take i |>.map cV.ns).flatten=F0 at M O⊢;let gH:=Mm (F0++r.ns.take j);rw[mU,mT] at gH;rw[mU] at O;generalize hT:gu (F0++r.ns.take j)=J at M gH;apply(_,Á,d,Á,.inl ⟨_,.inl M⟩,_,Á,(bY J z).map gI,?_,((bY J z).getD 0:Nat),1,?_,Á,_,Á,_,Á,d,_,Á,xp.k (k:=Sum.inl ((z:Nat):Int)) M (by rw[xy];exact gV Æ),?_)
   .let q:=jO.k (k:=(Sum.inl ((z:Nat):Int):Key)) M;rw[zb] at q;exact q
   .cases bY J z <;> rfl
   .apply(_,Á,qS S hd,?_);rw[aq,sR,<-rP,B3,hT];delta oneMore;rw[<-Bs];rfl
  .symm
 .rintro σ H' ⟨v3,U,rfl,s1,uN⟩;rw[aA,mX] at uN;let ef:(y.ls.map cV.ns).flatten=y.m.flatten:=rfl;rw[ef] at uN;let hmu:=True.intro;apply(d,_,uN,hmu,λod=>?_);let sl:ai H (upd H' d Çw):=qS s1 hd;let Z:(upd H' d Çw) d=some Çw:=aq;generalize upd H' d Çw=H1 at sl Z;let gH:=Mm y.m.flatten;let O:=Ux y.ls.length;rw[mX,ef] at O;let bQ:∀p∈gu y.m.flatten,p.1<ks.length:=λp hp=>by
   let I:=Uu hp;let(l,hl,h2):=List.mem_flatten.mp I;delta cb.m at hl;let(x,hx,rfl):=cf.mp hl;exact Y.lt x hx _ h2
  let B4:=Fw y.m.flatten;let Mo:jq Í y.m.flatten=(gu y.m.flatten).filterMap (oR Í):=rfl;generalize gu y.m.flatten=J at Z gH bQ B4 Mo;refine⟨_,Á,d,od,_,Á,Z,λD hD=>adj (d:=d) (o:=od) (kvs:=bx gI J) (λi G=>∃ps:LA,ai H1 G/\G D=some (.lst Áy)/\ps.length<=i/\Paired (λp kv=>G p=some (.tup [kV kv.1,kv.2])) ps (bx V.int ((J.take i).filterMap (oR Í))))
   ⟨[],aL hD,aq,bJ _,.nil⟩ (λi G _ ⟨_,S,_⟩=>S _ _ Z) ?_ ?_⟩
  .rintro i kk vv Tt G hi ⟨ps,S,cJ,c9,W⟩ hT;let(sg,n,I,rfl,rfl):=IX gI hi;let d8:=(bO.mp I).1;let et:=take_snoc I;let A3:=bQ _ (bZ I);obtain⟨b,hb⟩:∃b,ks[sg]? =some b:=⟨_,dm A3⟩;let vM:=bZ hb;let s3:ai G (upd G Tt (.tup [.int (sg:Nat),.int (n:Nat)])):=aL hT;let s4:=(sl.trans S).trans s3;let ec:sP Í sg=b.m.copies:=by delta sP;rw[getD_map hb]
   refine î;refine⟨_,Á,_,Á,_,Á,pk,_,_,.ref b.a,Á,Á,aa.of (s4 _ _ hk.a),fT É,bj (jn ((nH hk.l vM).same s4)) T.c T.Lk (Li b) ⟨_,_,Á,Á,_,Á,a8 Ï Ï⟩⟩
   .simp at hc;apply(_,Á,_,Á,_,Á,_,Á,pk,_,_,.ref b.a,Á,Á,aa.of (s4 _ _ hk.a),fT É,bj (jn ((nH hk.l vM).same s4)) T.c T.Lk (Li b) ⟨_,_,Á,Á,(by show 2<=sizeLine;decide),λt ht=>?_⟩);let B5:=s3.free ht;let s5:=s3.trans (aL (o:=.tup [.int (sg:Nat),.int (((n:Nat):Int)-b.m.copies)]) ht);let Mp:D≠t:=λz=>by rw[<-z,cJ] at B5;cases B5
    apply(_,s5 _ _ cJ,?_,ps++[t],?_,?_,?_,?_)
    .rw[aA];exact gV Æ
    .exact qS (S.trans s5) hD
    .rw[aq,bX];rfl
    .symm
    .rw[et,Ym];let e1:([(sg,n)]:cg).filterMap (oR Í)=[(sg,((n:Nat):Int)-b.m.copies)]:=by
      rw[C8];delta oR;symm
     rw[e1];delta bx;rw[bX];apply Paired.snoc (Paired.lS W λp kv e=>?_) ?_
     .rw[ao (λz=>by simp_all)];exact s5 _ _ e
     .rw[ao (dX Mp)];exact aq
   .simp at hc;apply(ps,S.trans s3,s3 _ _ cJ,Nat.le_succ_of_le c9,?_);rw[et,Ym];let e1:([(sg,n)]:cg).filterMap (oR Í)=[]:=by
     rw[C8];delta oR;grind
    rw[e1,jv];exact Paired.lS W λp kv e=>s3 _ _ e
  .rintro G ⟨ps,S,cJ,c9,W⟩;rw[xy,mX] at W;rw[<-Mo] at W;let M:=S _ _ Z;let hDd:D≠d:=λz=>by rw[z,Z] at hD;cases hD
   let s5:ai H (upd G d (.dK (bx gI J))):=qS (sl.trans S) hd;apply(M,D,ps,_,Á,aa.of (by rw[ao hDd];exact cJ),Paired.lS W λp kv e=>bu.of (by rw[ao (λz=>by rw[z,M] at e;cases e)];exact e),λp hp=>?_);let ah2:((jq Í y.m.flatten).map (·.1)).Nodup:=by
    rw[Mo];exact apD (Fx _ J) B4
   let em:=adp V.int Äh [] ah2;rw[yx] at em;apply k _ p ⟨s5.trans (aL hp),s5.free hp,?_⟩;rw[aq];exact cE (λz=>some (HO.dK z)) em
end
def gL(x:cV):V:=.ref x.a
def oneAt(t:List (Nat×LN))(p:Nat×Nat):List (Nat×LN):=eA t p.1 ((bY t p.1).getD []++[p.2])
def iP(ps:cg):List (Nat×LN):=ps.foldl oneAt []
def B6(l:cg)(p:Nat×Nat):iP (l++[p])=oneAt (iP l) p:=by
 delta iP;simp
def places_len(l:cg):(iP l).length<=l.length:=by
 refine snoc_ind (P:=λl=>(iP l).length<=l.length) (bJ _) Ãt l;rw[B6,mU];let:=RP (iP l) s.1 ((bY (iP l) s.1).getD []++[s.2]);delta oneAt;grind
def Uy(l:cg)(s:Nat):(bY (iP l) s).getD []=(l.filter λp=>decide (p.1=s)).map (·.2):=by
 refine snoc_ind (P:=λl=>(bY (iP l) s).getD []=(l.filter λp=>decide (p.1=s)).map (·.2)) Á Át l;rw[B6,Dk,bX,<-ih];delta oneAt;rw[Em];by_cases h:s=x.1
 .rw[af h,wR,af (by simp[h]),h];rfl
 .rw[ah h,wR,ah (by simpa using λe=>h e.symm)];simp
def Uz(l:cg){s:Nat}{x:LN}(h:bY (iP l) s=some x):x.length<=l.length:=by
 let:=Uy l s;grind
def cont(p:Nat×cV):Nat×LN:=(p.1,p.2.ns)
structure B7(H0 H:Hp)(d:Addr)(t:List (Nat×cV)):Prop where
 d:H d=some (.dK (bx gL t))
 l:∀p∈t,H p.2.a=some (.lst (iv (nv p.2.ns)))
 nd:(t.map λp=>p.2.a).Nodup
 fr:∀p∈t,H0 p.2.a=none
theorem zM(t:List (Nat×cV))(s:Nat):bY Áw s=(bY t s).map cV.ns:=by
 induction t with
 |nil=>rfl
 |cons p t I=>
  delta bY at I⊢;rw[a0,ko,ko,show(cont p).1=p.1 from rfl];cases decide (p.1=s) with
  |true=>rfl
  |false=>exact I
def UA(t:List (Nat×cV))(s:Nat)(x:cV):(eA t s x).map cont=eA Áw s x.ns:=by
 delta eA;rw[pP,pP,zM,Dg];split
 .rw[cQ,cQ];apply kq λp _=>?_;show cont (if p.1=s then (p.1,x) else p)=if p.1=s then (p.1,x.ns) else cont p;split <;> rfl
 .rw[bX];rfl
def ah3{t:List (Nat×cV)}{s:Nat}{x y:cV}(h:bY t s=some x)(e:y.a=x.a)(j:(t.map (·.1)).Nodup):bx gL (eA t s y)=bx gL t:=by
 delta eA;rw[pP,h,af (show(some x).isSome=true from rfl)];delta bx;rw[cQ];apply kq λp m=>?_;show((Sum.inl (((if p.1=s then (p.1,y) else p).1:Nat):Int):Key),gL (if p.1=s then (p.1,y) else p).2)=(Sum.inl ((p.1:Nat):Int),gL p.2);by_cases c:p.1=s
 .rw[af c];let:=zc j (s:=s) (v:=p.2) (by grind);rw[h] at this;cases this;delta gL;rw[e]
 .symm
def ah4{t:List (Nat×cV)}{s:Nat}{x y:cV}(h:bY t s=some x)(e:y.a=x.a)(j:(t.map (·.1)).Nodup):((eA t s y).map λp=>p.2.a)=t.map λp=>p.2.a:=by
 delta eA;rw[pP,h,af (show(some x).isSome=true from rfl),cQ];apply kq λp m=>?_;show(if p.1=s then (p.1,y) else p).2.a=p.2.a;by_cases c:p.1=s
 .rw[af c];let:=zc j (s:=s) (v:=p.2) (by grind);symm
 .symm
def x5{β:Type}{t:List (Nat×β)}{s:Nat}{v:β}{p:Nat×β}(h:p∈eA t s v):p=(s,v)\/(p∈t/\p.1≠s):=by
 delta eA at h;grind
def ah5{t:List (Nat×cV)}(h:(t.map λp=>p.2.a).Nodup){p q:Nat×cV}(z:p∈t)(F:q∈t)(I:p.1≠q.1):p.2.a≠q.2.a:=by
 intro e;let(i,hi,J):=rN z;let(j,O,M):=rN F;let G:i=j:=by
  let m:(t.map λp=>p.2.a)[i]' É=(t.map λp=>p.2.a)[j]' É:=by
   symm
  exact(XU h).mp m
 symm
def zN{α:Type}{l:List α}{i:Nat}{a:α}(h:l[i]? =some a):l.drop i=a::l.drop (i+1):=by
 let(j,h2):=bO.mp h;rw[<-h2];simp
def eU(rows j:bp):cg:=(rows.zip j).flatMap λp=>p.1.zip p.2
inductive UB(vs:au)(H:Hp)(Q:VK)(E':XK):Prop
 |mk (y z:cb) (_:vs=[.ref y.a,.ref z.a]) (_:aU H Ær) (_:aU H (eT z)) (_:y.ls.length=z.ls.length) (_:(∀(i:Nat)(a b:cV),y.ls[i]? =some a->z.ls[i]? =some b->a.ns.length=b.ns.length)) (_:(eU y.m z.m).length<=100000) (_:∀H' p t,ai H H'->H p=none->B7 H H' p t->t.map cont=iP Æq->Q ģ H')
section
variable{P:Pg}{w:Wd}{K:FR}{mg:MG}{base:Heap}{CK CL CS N CV CP:Addr}{C:Cs}
def FA:bH ["rows","stands","places","row","bits","sign","here"] ["rows","stands"] (aV Ke):=cw
inductive PcI(y z:cb)(d:Addr)(H:Hp)(i:Nat)(σ:L2.St)(H':Hp):Prop
 |mk (v3 v4 v5 v6 t:_) (_:σ=[some Àp,some Äq,some Èo,v3,v4,v5,v6]) (_:ai H H') (_:B7 H H' d t) (_:(t.map (·.1)).Nodup) (_:t.map cont=iP (eU Ű Àm))
inductive PcJ(y z:cb)(d:Addr)(H:Hp)(a b:cV)(i:Nat)(j:Nat)(σ:L2.St)(H':Hp):Prop
 |mk (v5 v6 t:_) (_:σ=[some Àp,some Äq,some Èo,some (.ref a.a),some Çd,v5,v6]) (_:ai H H') (_:B7 H H' d t) (_:(t.map (·.1)).Nodup) (_:t.map cont=iP (eU Ű Àm++(a.ns.take j).zip Åi))
def ah8{f:Addr}{fd:FD}(F:br K "places_of" "places_of" Ke f fd)(tZ:mg "zip"=none):Ì aE 1 f fd ["rows","stands"] UB:=by
 refine F.ok FA Â;let(y,z,rfl,hy,hz,cK,ah9,yQ,k):=h;refine⟨_,aB (cj 2 FA.nd DU)
  (aB (ϊ (Q9 Ô tZ (ae Ú Ŕ)) (iE 3 4 FA.nd)
   (aD (ϊ (Q9 Ô tZ (ae ö Ϣ)) (iE 5 6 FA.nd)
    (aD (rY (Þ (adt ç Äd ĳ ⟨rfl,rfl,rfl,rfl⟩) (ae Ãl ag)))))))
  Æw),?_⟩
 intro d hd;let sQ:ai H (upd H d ϳ):=aL hd;let qo:=jG hy;let sS:=jG hz;refine⟨_,Á,_,Á,y.a,z.a,_,_,Á,aa.of (sQ _ _ qo),aa.of (sQ _ _ sS),RN (K:=K) (a:=y.a) (b:=z.a) (xs:=y.ls.map λx=>V.ref x.a) (ys:=z.ls.map λx=>V.ref x.a) (by rw[aA,aA];exact cK)
  (PcI y z d H)
  ⟨none,none,none,none,[],rfl,sQ,⟨aq,by simp,Ay,by simp⟩,Ay,rfl⟩ (λi σ H' _ h=>(by let(_,_,_,_,_,_,Y):=h;exact(aa.of (Y _ _ qo),aa.of (Y _ _ sS)))) ?_ ?_⟩
 .rintro i x1 x2 T1 σ H' hi hj ⟨v3,v4,v5,v6,t,rfl,Y,tb,hn,et⟩ hT1;let(a,ha,rfl):=iz hi;let(b,hb,rfl):=iz hj;let Bp:=mj hy (bZ ha);let jW:=mj hz Çu;let nM:=ah9 i a b ha hb;let UC:y.m[i]? =some a.ns:=by delta cb.m;rw[bW,ha];rfl
  let UD:z.m[i]? =some b.ns:=by delta cb.m;rw[bW,hb];rfl
  let eta:=take_snoc UC;let etb:=take_snoc UD;let s2:ai H' (upd H' T1 (.tup [.ref a.a,.ref b.a])):=aL hT1;let UE:B7 H (upd H' T1 (.tup [.ref a.a,.ref b.a])) d t:=⟨s2 _ _ tb.d,λp G=>s2 _ _ (tb.l p G),tb.nd,tb.fr⟩;let bQ:(y.m.take i).length=(z.m.take i).length:=by rw[mT,mT,iA,iA,cK]
  apply(T1,_,Á,bu.of aq,Á,_,_,Á,_,_,Á,Á,?_);let s3:=Y.trans s2;generalize upd H' T1 (.tup [.ref a.a,.ref b.a])=Hx at s3 UE;let Sk:∀j,(eU Ű Àm++(a.ns.take j).zip Åi).length<=100000:=λj=>by
   let e1:eU y.m z.m=eU Ű Àm++(a.ns.zip b.ns++eU (y.m.drop (i+1)) (z.m.drop (i+1))):=by
    let ey:y.m=y.m.take i++(a.ns::y.m.drop (i+1)):=by
     rw[<-zN UC];simp
    let ez:z.m=z.m.take i++(b.ns::z.m.drop (i+1)):=by
     rw[<-zN UD];simp
    delta eU
    conv=>lhs;rw[ey,ez,Yn bQ,De,Aw,Dl]
   grind
  refine⟨_,Á,_,Á,a.a,b.a,_,_,Á,aa.of (s3 _ _ Bp),aa.of (s3 _ _ jW),RN (K:=K) (a:=a.a) (b:=b.a) (xs:=iv (nv a.ns)) (ys:=iv (nv b.ns)) (by rw[eZ,eZ,jF,jF];exact nM)
   (PcJ y z d H a b i)
   ⟨v5,v6,t,rfl,s3,UE,hn,by rw[et];simp⟩ (λj σ H' _ h=>(by let(_,_,_,_,Z):=h;exact(aa.of (Z _ _ Bp),aa.of (Z _ _ jW)))) ?_ ?_⟩
  .rintro j x1 x2 T2 σ H2 zd BE ⟨v5',v6',t2,rfl,Z,zO,W,U⟩ ur;let(sg,jV,rfl):=nN zd;let(I,UF,rfl):=nN BE;let e1:=take_snoc jV;let e2:=take_snoc UF;let vz:=(bO.mp jV).1;let s5:ai H2 (upd H2 T2 (.tup [.int (sg:Nat),.int (I:Nat)])):=aL ur;let s6:=Z.trans s5;let J:B7 H (upd H2 T2 (.tup [.int (sg:Nat),.int (I:Nat)])) d t2:=⟨s5 _ _ zO.d,λp G=>s5 _ _ (zO.l p G),zO.nd,zO.fr⟩;let UG:iP (eU Ű Àm++(a.ns.take (j+1)).zip (b.ns.take (j+1)))=oneAt (iP (eU Ű Àm++(a.ns.take j).zip Åi)) (sg,I):=by
    rw[e1,e2,Yn É,<-rP,<-B6];rfl
   let UH:t2.length<=100000:=by
    let h1:(t2.map cont).length<=(eU Ű Àm++(a.ns.take j).zip Åi).length:=by
     rw[U];exact places_len _
    grind
   apply(T2,_,Á,bu.of aq,Á,_,_,Á,_,_,Á,Á,?_);generalize upd H2 T2 (.tup [.int (sg:Nat),.int (I:Nat)])=H3 at s6 J;apply(_,Á,d,Á,.inl ⟨_,.inl J.d⟩,_,Á,dY _,λq M=>⟨_,Sum.inl ((sg:Nat):Int),(aL M) _ _ J.d,Á,(by rw[xy];exact gV Æ),λv hv=>?_,λhv=>?_⟩)
   .rw[zb] at hv;let(x,O,rfl):=yr.mp hv;let gv:=xA O;let nU:=J.l _ gv;let S:ai H3 (upd H3 q ã):=aL M;let hxq:=eK nU M;let S5:x.a≠d:=λe=>by rw[e,J.d] at nU;cases nU
    let hxb:x.ns.length<=1000000:=by
     let h1:=zM t2 sg;rw[O,U] at h1;let h2:=Uz _ h1;grind
    apply(.inl ⟨Á,_,aa.of (S _ _ nU)⟩,_,Á,x.a,_,_,Á,Á,S _ _ nU,(by rw[eZ,jF];exact gV Æ),?_);apply(_,_,eA t2 sg ⟨x.a,x.ns++[I]⟩,Á,qS (s6.trans S) (J.fr _ gv),⟨?_,λp G=>?_,?_,λp G=>?_⟩,En W,?_)
    .rw[ao (dX S5),ah3 (y:=⟨x.a,x.ns++[I]⟩) O rfl W];exact S _ _ J.d
    .rcases x5 G with rfl|⟨G,aQ⟩
     .rw[aq];simp
     .rw[ao (ah5 J.nd G gv aQ)];exact S _ _ (J.l p G)
    .rw[ah4 (y:=⟨x.a,x.ns++[I]⟩) O rfl W];exact J.nd
    .rcases x5 G with rfl|⟨G,aQ⟩
     .exact J.fr (sg,x) gv
     .exact J.fr p G
    .rw[UA,U,UG];delta oneAt;rw[<-U,zM,O];rfl
   .rw[zb] at hv;let O:bY t2 sg=none:=by
     symm
    let S:ai H3 (upd H3 q ã):=aL M;let UI:q≠d:=λe=>by rw[e,J.d] at M;cases M
    let EH:=s6.free M;let Lq:(upd (upd H3 q ã) d (.dK (putK (bx gL t2) (Sum.inl ((sg:Nat):Int)) Èm))) q=some ã:=by rw[ao UI];exact aq
    apply(.inl ⟨Á,_,aa.of Lq⟩,_,Á,q,_,_,Á,Á,Lq,(by show 0<sizeLine;exact gV Æ),?_);apply(_,_,eA t2 sg ⟨q,[I]⟩,Á,qS (qS (s6.trans S) hd) EH,⟨?_,λp G=>?_,?_,λp G=>?_⟩,En W,?_)
    .rw[ao (dX UI),aq];exact cE (λz=>some (HO.dK z)) (Bs gL t2 sg ⟨q,[I]⟩)
    .rcases x5 G with rfl|⟨G,aQ⟩
     .rw[aq];rfl
     .let c9:=J.l p G;rw[ao (eK c9 M),ao (λe=>by rw[e,J.d] at c9;cases c9)];exact S _ _ c9
    .delta eA;rw[pP,O];show((t2++[(sg,(⟨q,[I]⟩:cV))]).map λp=>p.2.a).Nodup;rw[bX];apply II J.nd λm=>?_;let(p,G,e):=cf.mp m;let c9:=J.l p G;symm
    .rcases x5 G with rfl|⟨G,aQ⟩
     .omega
     .exact J.fr p G
    .rw[UA,U,UG];delta oneAt;rw[<-U,zM,O];rfl
  .rintro σ H2 ⟨v5,v6,t2,rfl,Z,zO,W,U⟩;apply(_,_,_,_,t2,Á,Z,zO,W,?_);rw[U,eta,etb,eZ,jF,mX,G5 (l:=b.ns) (i:=a.ns.length) Æ];delta eU;rw[Yn bQ,Aw];simp
 .rintro σ H' ⟨v3,v4,v5,v6,t,rfl,Y,tb,hn,et⟩;rw[aA,G5 (by rw[iA];exact bJ _),G5 (by rw[iA];omega)] at et;exact(_,Á,k H' d t Y hd tb et)
end
structure sU where
 a:Addr
 zs:LI
structure gw where
 a:Addr
 dx:Addr
 sm:Addr
 gp:Addr
 sp:Addr
 sames:LN
 eC:List (Nat×sU)
 fG:LI
def gA(x:sU):V:=.ref x.a
def gK(p:Nat×sU):Nat×LI:=(p.1,p.2.zs)
def uO(p:gw):List (Str×V):=[("sames",.ref p.sm),("gaps",.ref p.gp),("spares",.ref p.sp)]
def UJ(p:gw):(uO p).lookup ("sames":Str)=some (.ref p.sm):=il
def Mq(p:gw):(uO p).lookup ("gaps":Str)=some (.ref p.gp):=(fY Ê).trans il
def UK(p:gw):(uO p).lookup ("spares":Str)=some (.ref p.sp):=(fY Ê).trans ((fY Ê).trans il)
structure oS(CP:Addr)(H:Hp)(p:gw):Prop where
 a:H p.a=some (.ins CP p.dx (uO p))
 sm:H p.sm=some (.lst (iv (nv p.sames)))
 gp:H p.gp=some (.dK (bx gA p.eC))
 gl:∀q∈p.eC,H q.2.a=some (.lst (iv q.2.zs))
 sp:H p.sp=some (.lst (iv p.fG))
def cz(z:Int):Int:=if z>0 then z else 0
def FB(G:Nat)(l:Int)(j:LN):LI:=(List.range G).map λg=>l-((rk g j:Nat):Int)
def nV(G:Nat)(lacks:List (Nat×Int))(F:List (Nat×LN)):List (Nat×LI):=lacks.map λp=>(p.1,FB G p.2 ((bY F p.1).getD []))
def x6(G:Nat)(sp own:LI):LI:=(List.range G).map λg=>sp.getD g 0-cz (own.getD g 0)
def rn(G:Nat)(sp:LI)(eC:List (Nat×LI)):LI:=eC.foldl (λsp p=>x6 G sp p.2) sp
def aic(G:Nat)(sp own:LI):(x6 G sp own).length=G:=by delta x6;rw[aA,g7]
theorem UL(G:Nat)(eC:List (Nat×LI)):∀(sp:LI),sp.length=G->(rn G sp eC).length=G:=by
 induction eC with
 |nil=>exact @λsp h=>h
 |cons p eC I=>
  intro sp h;exact I _ (aic G sp p.2)
def aid(G:Nat)(sp:LI)(eC:List (Nat×LI))(p:Nat×LI):rn G sp (eC++[p])=x6 G (rn G sp eC) p.2:=by
 delta rn;simp
def UM(h:p∈nV G lacks FC):p.2.length=G:=by
 delta nV at h;let(q,_,rfl):=cf.mp h;delta FB;simp
inductive UN(CK CP:Addr)(vs:au)(H:Hp)(Q:VK)(E':XK):Prop
 |mk (pk ps pl pp:Addr) (ks:List az) (sames:LN) (lacks:List (Nat×Int)) (t:List (Nat×cV)) (_:vs=[.ref pk,.ref ps,.ref pl,.ref pp]) (_:Ŭ ks) (_:H ps=some ϸ) (_:BZ Í sames) (_:sames.length<=10) (_:H pl=some ë) (_:(lacks.map (·.1)).Nodup) (_:lacks.length<=1000) (_:H pp=some (.dK (bx gL t))) (_:(∀p∈t,H p.2.a=some (.lst (iv (nv p.2.ns))))) (_:(∀p∈t,p.2.ns.length<=1000)) (_:(∀p∈lacks,(bY t p.1).isSome=true)) (_:pp≠pl) (_:∀H' p,ai H H'->oS CP H' p->H p.a=none->H p.gp=none->p.a≠p.gp->p.sm=ps->p.sames=sames->p.eC.map gK=nV (2^sames.length) lacks Áw->p.fG=rn (2^sames.length) ((List.range (2^sames.length)).map (rl Í sames)) Åd->Q Âx H')
section
variable{P:Pg}{w:Wd}{K:FR}{mg:MG}{base:Heap}{CK CL CS N CV CP:Addr}{C:Cs}
def UO:bootBuiltins "list"=some (.type "list"):=by decide+kernel
def FE:bootBuiltins "max"=some (.builtin "max"):=by decide+kernel
def oU:bH ["kinds","sames","lacks","places","groups","gaps","sign","lack","group","spares","own"] ["kinds","sames","lacks","places"] (aV Kf):=cw
inductive PnI(pk ps pl pp gl d:Addr)(B:Hp)(G:Nat)(lacks:List (Nat×Int))(t:List (Nat×cV))(i:Nat)(σ:L2.St)(H':Hp):Prop
 |mk (v6 v7 tt:_) (_:σ=[some (.ref pk),some (.ref ps),some (.ref pl),some (.ref pp),some (.ref gl),some Èo,v6,v7,none,none,none]) (_:ai B H') (_:H' d=some ĥ) (_:(∀q∈tt,H' q.2.a=some (.lst (iv q.2.zs)))) (_:(∀q∈tt,B q.2.a=none)) (_:tt.map gK=nV G (lacks.take i) Áw)
def aif(F:br K "plan_of" "plan_of" Kf f fd)(TP:lg K CP ["sames","gaps","spares"])(tL:mg "len"=none)(Mr:mg "list"=none)(tR:mg "range"=none)(tM:mg "max"=none)(dP:Ă "Plan" CP ["sames","gaps","spares"]) (dO:Ç 1 "places_outside" ["group","places"] (Mg K)) (dC:Ç 1 "copies_in" ["group","kinds","sames"] (Mh CK)):Ì aE 3 f fd ["kinds","sames","lacks","places"] (UN CK CP):=by
 refine F.ok oU Â;let(pk,ps,pl,pp,ks,sames,lacks,t,rfl,hk,jX,gr,aih,c9,zP,UP,x4,UH,Ms,hJ,aQ,k):=h;let hu:A.units+3+1<cLine:=pz Ä hr.un;refine⟨_,aB (cj 4 oU.nd (xc (adC Á) Ô Mr UO (ae (xc adB Ô tR boot_range (ae (eM HU bo ü) ag)) ag)))
  (aB (cj 5 oU.nd DU)
  (aB (Q3 (ϊ (Q7 ç) (iE 6 7 oU.nd)
   (aD (IC (y4 hr) Äd Ãl (eF (own:=[("group",8)]) (te:=bU (gf λi j=>.int (i-j)) Èk (g9 (Mg K) [] E0 (bh (ay 8) (bh (QW ŗ (ay 6)) dw)))) rfl oU.nd (eX İ) Ë
    (Ám) Ö (λ_ _ _ _ _=>eM qH Ål (bz dO (ae (pv 8) (ae (QX hu ö Ãl Ø) ag))))) rfl))))
  (aB (cj 9 oU.nd (eF (own:=[("group",8)]) (te:=g9 (Mh CK) [] E0 (bh (ay 8) (bh ώ (bh ϖ dw)))) rfl oU.nd (eX İ) Ë
    (Ám) Ö (λ_ _ _ _ _=>bz dC (ae (pv 8) (ae Ú Ŕ)))))
  (aB (Q3 (ϊ (acg Äd) (dJ 10 oU.nd)
   (aD (cj 9 oU.nd (eF (own:=[("group",8)]) (te:=bU (gf λi j=>.int (i-j)) (bU ύ (ay 9) (ay 8)) (qI (λxs H Q=>∃i j,xs=[.int i,.int j]/\Q (.int (if j>i then j else i)) H) (bh Äa (bh (bU ύ (ay 10) (ay 8)) dw)))) rfl oU.nd (eX İ) Ë
    (Ám) Ö (λ_ _ _ _ _=>eM qH (cA cY (pv 9) (pv 8) Ø) (c8 (HX rfl) Ô tM FE (ae bo (ae (cA cY (pv 10) (pv 8) Ø) ag)))))))))
  (aD (aY (p9 dP hr (ae á (ae Äd (ae (pv 9) ag)))))))))),?_⟩
 let hG:2^sames.length<=1024:=Hk Ù aih;let hG0:0<2^sames.length:=Nat.pow_pos Ù;apply(_,Á,ps,_,Á,.inl (aa.of jX),_,_,Á,Á,⟨by omega,by grind,by decide⟩,2^sames.length,?_,λr zQ=>⟨r,2^sames.length,Á,aq,by omega,λgl nO=>?_⟩)
 .simp
 generalize hGG:2^sames.length=G at hG hG0 nO⊢;let S:ai H (upd (upd H r (.rS 0 ((G:Nat):Int))) gl (.lst ((List.range G).map λi=>V.int ((i:Nat):Int)))):=(aL zQ).trans (aL nO);let B8:(upd (upd H r (.rS 0 ((G:Nat):Int))) gl (.lst ((List.range G).map λi=>V.int ((i:Nat):Int)))) gl=some (.lst (iv Áa)):=by
  rw[aq];simp
 generalize upd (upd H r (.rS 0 ((G:Nat):Int))) gl (.lst ((List.range G).map λi=>V.int ((i:Nat):Int)))=H0 at S B8;intro d hd;let lN:d≠pl:=λe=>by rw[e,S _ _ c9] at hd;cases hd
 let aij:(Äz) pl=some ë:=by rw[ao (dX lN)];exact S _ _ c9
 apply(pl,_,aij,True.intro,λod=>?_);let UQ:(Áv) d=none:=by rw[ao lN];exact hd
 let FF:(Áv) pl=some Ż:=aq;let B9:∀b o,H0 b=some o->b≠pl->(Áv) b=some o:=λb o e I=>by rw[ao I];exact e
 let hB0:∀b,(Áv) b=none->H0 b=none:=λb e=>by
  by_cases I:b=pl
  .symm
  .rw[ao I] at e;exact e
 let FG:ai Áv (upd Äz pl Ż):=λb o e=>by
  by_cases I:b=pl
  .subst I;rw[aq] at e⊢;exact e
  .rw[ao I] at e⊢;rw[ao (eK e hd)];exact e
 let UR:(upd Äz pl Ż) d=some (.dK (bx gA [])):=by rw[ao lN];exact aq
 generalize qF:upd Äz pl Ż=S1 at FG UR;generalize hB:upd H0 pl Ż=B at UQ FF B9 hB0 FG;let bpp:=B9 _ _ (S _ _ x4) aQ;let btl:=λp hp=>B9 _ _ (S _ _ (UH p hp)) (λe=>by grind);let US:=B9 _ _ B8 (λe=>by rw[e,S _ _ c9] at B8;cases B8);refine⟨_,Á,pl,od,_,Á,FG _ _ FF,adk (d:=pl) (o:=od) (kvs:=bx V.int lacks) (PnI pk ps pl pp gl d B G lacks t)
  ⟨none,none,[],rfl,FG,UR,by simp,by simp,rfl⟩ (λi σ H' _ h=>(by let(_,_,_,_,Y):=h;exact Y _ _ FF)) ?_ ?_⟩
 .rintro i kk vv Tt σ H' hi ⟨v6,v7,tt,rfl,Y,uN,wc,hqf,qp⟩ hT;let(sg,l,W,rfl,rfl):=IX V.int hi;let d8:=(bO.mp W).1;let et:=take_snoc W;let jj:=bZ W;let(x,O):=G1.mp (hJ _ jj);let O:=O;let gv:=xA O;let s2:ai H' (ϟ (.tup [kV (Sum.inl ((sg:Nat):Int)),V.int l])):=aL hT;let s3:=Y.trans s2;apply(Tt,_,Á,bu.of aq,Á,_,_,Á,_,_,Á,Á,?_);generalize hHx:ϟ (.tup [kV (Sum.inl ((sg:Nat):Int)),V.int l])=Hx at s2 s3⊢;apply(_,Á,gl,Á,⟨_,aa.of (s3 _ _ US)⟩,λD hD=>gC (K:=K) (a:=gl) (xs:=iv Áa) (fC Hx D λg=>l-((rk g x.ns:Nat):Int)) Áz (λj H2 _ f=>aa.of (f.1 _ _ (s3 _ _ US))) (λj y H2 hj f=>?_) Æd)
  .let(z,U,rfl):=nN hj;let qM:=(bO.mp U).1;rw[g7] at qM;cases xN U;let s4:=s3.trans f.1;let sV:=jO.k (k:=(Sum.inl ((sg:Nat):Int):Key)) (s4 _ _ bpp);rw[zb,O] at sV;exact(Á,eO ⟨_,Á,_,Á,_,Á,_,Á,pp,_,Á,sV,j,x.a,x.ns,Á,aa.of (s4 _ _ (btl _ gv)),Ms _ gv,λH3 s5=>⟨_,_,Á,Á,(fC.step hD Æ f s5 Á)⟩⟩)
  .let fO:=f.2;rw[eZ,jF,g7] at fO;let s4:=s2.trans f.1;let hDB:=s3.free hD;let aio:=s4 _ _ uN;let htn:bY tt sg=none:=by
    cases e:bY tt sg with
    |none=>rfl
    |some u=>
     let h2:=xA e;let h3:sg∈(tt.map gK).map (·.1):=cf.mpr ⟨gK (sg,u),cf.mpr ⟨_,h2,rfl⟩,rfl⟩;rw[qp] at h3;delta nV at h3;rw[cQ] at h3;let(q,J,e2):=cf.mp h3;let e2:=e2;exfalso;let B4:=zP;let e3:lacks.map (·.1)=(lacks.take i).map (·.1)++sg::(lacks.drop (i+1)).map (·.1):=by
      conv=>lhs;rw[<-O5 i lacks,zN W,bX,a0]
     grind
   let cK:tt.length<=1000:=by
    let:(tt.map gK).length=(nV G (lacks.take i) Áw).length:=by rw[qp]
    delta nV at this;grind
   apply(_,Á,_,Á,d,_,Á,xp.k (k:=Sum.inl ((sg:Nat):Int)) aio (by rw[xy];exact gV Æ),?_);let UT:putK (bx gA tt) (Sum.inl ((sg:Nat):Int)) Ái=bx gA (tt++[(sg,⟨D,(List.range G).map λg=>l-((rk g x.ns:Nat):Int)⟩)]):=by
    let:=Bs gA tt sg ⟨D,(List.range G).map λg=>l-((rk g x.ns:Nat):Int)⟩;delta eA at this;rw[pP,htn] at this;exact this
   apply(_,_,tt++[(sg,⟨D,(List.range G).map λg=>l-((rk g x.ns:Nat):Int)⟩)],Á,qS (Y.trans s4) UQ,?_,λq J=>?_,λq J=>?_,?_)
   .rw[aq];symm
   .rcases gR.mp J with J|J
    .let h2:=s4 _ _ (wc q J);rw[ao (λe=>by simp_all)];omega
    .let:q=(sg,⟨D,(List.range G).map λg=>l-((rk g x.ns:Nat):Int)⟩):=by simpa using J
     subst this;rw[ao (λe=>by simp_all)];omega
   .grind
   .rw[et,bX,qp];delta nV;rw[bX];congr 1;show[gK _]=[(sg,FB G l ((bY Áw sg).getD []))];rw[zM,O];rfl
 .rintro σ H' ⟨v6,v7,tt,rfl,Y,uN,wc,hqf,qp⟩;rw[xy,mX] at qp;apply(Y _ _ FF,?_);let s5:ai H0 Èd:=λb o e=>by
   by_cases I:b=pl
   .subst I;rw[aq];rw[S _ _ c9] at e;omega
   .rw[ao I];exact Y _ _ (B9 _ _ e I)
  let UU:(Èd) d=some ĥ:=by rw[ao lN];exact uN
  let UV:∀q∈tt,(Èd) q.2.a=some (.lst (iv q.2.zs)):=λq J=>by
   let h2:=wc q J;rw[ao (λe=>by grind)];omega
  generalize upd H' pl ë=H5 at s5 UU UV;let s6:=S.trans s5;let hdH:=S.free hd;let Mt:=s5 _ _ B8;apply(_,Á,gl,Á,⟨_,aa.of Mt⟩,λD hD=>gC (K:=K) (a:=gl) (xs:=iv Áa) (fC H5 D λg=>rl Í sames g) Áz (λj H2 _ f=>aa.of (f.1 _ _ Mt)) (λj y H2 hj f=>?_) Æd)
  .let(z,U,rfl):=nN hj;let qM:=(bO.mp U).1;rw[g7] at qM;cases xN U;let Z:=s6.trans f.1;exact(Á,eO ⟨_,Á,_,Á,_,Á,j,pk,ps,ks,sames,Á,hk.same Z,Z _ _ jX,gr,λH3 s8=>(fC.step hD Æ f s8 Á)⟩)
  .let iZ:=f.2;let Z:=f.1;rw[eZ,jF,g7] at iZ;let Mu:=Z _ _ UU;let air:=Z _ _ Mt;let UW:=λq J=>Z _ _ (UV q J);let s8:=s6.trans Z;let hDH:=s6.free hD;apply(d,_,Mu,True.intro,λuP=>?_);let b1:(Èc) d=some Äy:=aq;let b2:∀b o,H2 b=some o->b≠d->(Èc) b=some o:=λb o e I=>by rw[ao I];exact e
   let b3:∀b o,H2 b=some Çe->(Èc) b=some Çe:=λb o e=>b2 b _ e (λz=>by simp_all);generalize upd H2 d Äy=B2 at b1 b2 b3;let ais:((List.range G).map λg=>rl Í sames g).length=G:=by rw[aA,g7]
   refine⟨_,Á,d,uP,_,Á,b1,adl (d:=d) (o:=uP) (kvs:=bx gA tt) (λi σ H'=>∃yq sp,σ=[some (.ref pk),some (.ref ps),some (.ref pl),some (.ref pp),some (.ref gl),some Èo,v6,v7,none,some (.ref sp),yq]/\ai B2 H'/\H' sp=some (.lst (iv (rn G ((List.range G).map λg=>rl Í sames g) ((tt.map gK).take i)))))
    ⟨none,D,rfl,ai.refl B2,b3 _ _ iZ⟩ (λi σ H' _ ⟨_,_,_,M,_⟩=>M _ _ b1) ?_ ?_⟩
   .rintro i kk vv σ H' hi ⟨yq,sp,rfl,M,zR⟩;let(sg,x,W,rfl,rfl):=IX gA hi;let jj:=bZ W;let nU:=M _ _ (b3 _ _ (UW _ jj));let uz:(tt.map gK)[i]? =some (sg,x.zs):=by rw[bW,W];rfl
    let et:=take_snoc uz;let hxG:x.zs.length=G:=UM (p:=(sg,x.zs)) (by rw[<-qp];exact bZ uz);let hcG:=UL G ((tt.map gK).take i) _ ais;let UX:=M _ _ (b3 _ _ air);rw[et,aid];generalize rn G ((List.range G).map λg=>rl Í sames g) ((tt.map gK).take i)=cur at zR hcG;apply(_,Á,gl,Á,⟨_,aa.of UX⟩,λD2 cJ=>gC (K:=K) (a:=gl) (xs:=iv Áa) (fC H' D2 λg=>cur.getD g 0-cz (x.zs.getD g 0)) (fC.zero cJ) (λj H3 _ f=>aa.of (f.1 _ _ UX)) (λj y H3 hj f3=>?_) (λH3 f3=>?_))
    .let(z,U,rfl):=nN hj;let qM:=(bO.mp U).1;rw[g7] at qM;cases xN U;exact(Á,eO ⟨_,Á,_,Á,sp,_,_,.int (cur.getD j 0),Á,Á,aa.of (f3.1 _ _ zR),fT (xW Æ),_,Á,_,Á,x.a,_,_,.int (x.zs.getD j 0),Á,Á,aa.of (f3.1 _ _ nU),fT (xW É),_,_,Á,_,_,Á,Á,(fC.step cJ Æ f3 (ai.refl H3) Á)⟩)
    .let e3:=f3.2;rw[eZ,jF,g7] at e3;exact(_,D2,Á,M.trans f3.1,e3)
   .rintro σ H' ⟨yq,sp,rfl,M,zR⟩;rw[xy,<-aA (f:=gK),mX] at zR;apply(M _ _ b1,?_);let oB:ai H2 (upd H' d ĥ):=λb o e=>by
     by_cases I:b=d
     .subst I;rw[aq];symm
     .rw[ao I];exact M _ _ (b2 _ _ e I)
    let UY:(upd H' d ĥ) sp=some (.lst (iv (rn G ((List.range G).map λg=>rl Í sames g) (tt.map gK)))):=by
     rw[ao (λe=>by rw[e,M _ _ b1] at zR;cases zR)];omega
    let kW:=s8.trans oB;generalize upd H' d ĥ=H7 at oB UY kW;apply(_,Á,_,Á,_,Á,vX Á λx dx H8 O i5 aqv e8 e9=>?_);apply k H8 ⟨x,dx,ps,d,sp,sames,tt,_⟩ (kW.trans e9) ⟨e8,(kW.trans e9) _ _ jX,(oB.trans e9) _ _ Mu,λq J=>(oB.trans e9) _ _ (UW q J),e9 _ _ UY⟩ (kW.free O) hdH ?_ Á Á É (by rw[hGG];rfl);intro e;let e:x=d:=e;rw[e,oB _ _ Mu] at O;symm
end
def uQ(g same:Nat):Bool:=Builtin.bitAnd (g:Int) (same:Int)!=0
def sW(same:Nat):Int:=if ((same:Nat):Int)!=0 then-1 else 0
def jZ(b:Bool):Int:=if b=true then 1 else 0
def iQ(before:LI)(bits same:Nat):LI:=(List.range before.length).map λg=>before.getD g 0+sW same+jZ (gY g bits)
def jr(before fG:LI)(bits same:Nat):LI:=(List.range fG.length).map λg=>fG.getD g 0+cz (before.getD g 0)-cz ((iQ before bits same).getD g 0)-jZ (uQ g same)
def uR(x y:Addr)(H H':Hp):Prop:=∀b o,H b=some o->b≠x->b≠y->H' b=some o
def uR.refl:uR x y H H:=λ_ _ e _ _=>e
def ai.x{x y:Addr}{H H':Hp}(s:ai H H'):uR x y H H':=λb o e _ _=>s b o e
def gw.own(p:gw):LA:=p.sm::p.sp::p.eC.map λq=>q.2.a
def sX(H:Hp)(p j:gw):Prop:=∀a∈j.own,a∈p.own\/H a=none
inductive UZ(CP:Addr)(vs:au)(H:Hp)(Q:VK)(E':XK):Prop
 |mk (p:gw) (sg bits same:Nat) (x:sU) (_:vs=[.ref p.a,.int (sg:Nat),.int (bits:Nat),.int (same:Nat)]) (_:oS CP H p) (_:p.a≠p.gp) (_:bY p.eC sg=some x) (_:x.zs.length=p.fG.length) (_:0<p.fG.length) (_:p.fG.length<=2000) (_:p.eC.length<=2000) (_:(p.eC.map (·.1)).Nodup) (_:((Ϧ same).any (λz=>decide (z<0))=true->∀H',ai H H'->Q (.bl false) H')) (_:((Ϧ same).any (λz=>decide (z<0))=false->∀H' p',oS CP H' p'->p'.a=p.a->p'.gp=p.gp->p'.sm=p.sm->p'.sames=p.sames->p'.eC.map gK=eA Åd sg (Đ same)->p'.fG=jr x.zs p.fG bits same->uR p.a p.gp H H'->sX H p p'->Q (.bl true) H'))
theorem Mv(t:List (Nat×sU))(s:Nat):bY (t.map gK) s=(bY t s).map sU.zs:=by
 induction t with
 |nil=>rfl
 |cons p t I=>
  delta bY at I⊢;rw[a0,ko,ko,show(gK p).1=p.1 from rfl];cases decide (p.1=s) with
  |true=>rfl
  |false=>exact I
def aiu(t:List (Nat×sU))(s:Nat)(x:sU):(eA t s x).map gK=eA (t.map gK) s x.zs:=by
 delta eA;rw[pP,pP,Mv,Dg];split
 .rw[cQ,cQ];apply kq λp _=>?_;show gK (if p.1=s then (p.1,x) else p)=if p.1=s then (p.1,x.zs) else gK p;split <;> rfl
 .rw[bX];rfl
section
variable{P:Pg}{w:Wd}{K:FR}{mg:MG}{base:Heap}{CK CL CS N CV CP:Addr}{C:Cs}
def U0:bootBuiltins "min"=some (.builtin "min"):=by decide+kernel
abbrev U1:au->Hp->VK->Prop:=λxs H Q=>∃i j,xs=[.int i,.int j]/\Q (.int (if j>i then j else i)) H
def wq:bH ["plan","sign","bits","same","before","needs","gaps","group","gap","spares","spare"] ["plan","sign","bits","same"] (aV Kk):=cw
def aiv(F:br K "hang" "hang" Kk f fd)(TP:lg K CP ["sames","gaps","spares"])(tE:mg "enumerate"=none)(tM:mg "max"=none)(tN:mg "min"=none):Ì aE 1 f fd ["plan","sign","bits","same"] (UZ CP):=by
 refine F.ok wq Â;let(p,sg,bits,same,x,rfl,G,FH,hx,nU,Ur,A3,nO,B4,k1,k2):=h;refine⟨_,aB (cj 4 wq.nd (QX (y4 hr) œ á (λ_ _=>Á)))
  (aB (cj 5 wq.nd (rX (yI ö Ãw) (jh jM bo) bo))
  (aB (cj 6 wq.nd (eF (own:=[("group",7),("gap",8)]) (g:=g2 K 7 8)
   (te:=bU (gf λi j=>.int (i+j)) (bU (gf λi j=>.int (i+j)) (ay 8) (ay 5)) (wX (B1 K (bU (gf λi j=>.int Œ) Ř (DH (rU λi=>.int Äv) Èk))) Åb Äa)) rfl wq.nd
   (kY Ô tE Ϣ) Ë
   (λ_ _ _ _ _=>iE 7 8 wq.nd) Ö
   (λ_ _ _ _ _=>eM qG (eM qG (pv 8) Äd) (rX (yI (eM AV ç (jh PR Ål)) Ãw) bo bo))))
  (aB (um (i:=9) (own:=[("group",7),("spare",10)]) (g:=g2 K 7 10)
   (te:=bU (gf λi j=>.int (i-j)) (bU (gf λi j=>.int (i-j)) (bU (gf λi j=>.int (i+j)) (ay 10) (qI U1 (bh Äa (bh (bU ύ Ãp Èk) dw)))) (qI U1 (bh Äa (bh (bU ύ (ay 6) Èk) dw)))) (wX (B1 K (bU (gf λi j=>.int Œ) Èk ŗ)) Åb Äa)) rfl wq.nd rfl rfl Ô
   (kY Ô tE Äo) Ë
   (λ_ _ _ _ _=>iE 7 10 wq.nd) Ö
   (λ_ _ _ _ _=>eM qH (eM qH (eM qG (pv 10) (c8 (HX rfl) Ô tM FE (ae bo (ae (cA cY İ Ål Ø) ag)))) (c8 (HX rfl) Ô tM FE (ae bo (ae (cA cY Ãl Ål Ø) ag)))) (rX (yI (eM AV Ål ö) Ãw) bo bo)))
  (aB (dq (cI w8 (c8 (Qy rfl) Ô tN U0 (ae (pv 9) ag)) bo (bT _)) Âc d7)
  (aB (IC (y4 hr) Ć á Ãl rfl)
  (aB (fc Ú (pv 9) rfl)
  Âc)))))),?_⟩
 let gv:=xA hx;let jS:=G.gl _ gv;let sV:=jO.k (k:=(Sum.inl ((sg:Nat):Int):Key)) G.gp;rw[zb,hx] at sV;apply(_,Á,bj G.a TP.1 (TP.2 _ Ä) (Mq p) ⟨_,Á,p.gp,_,Á,sV,?_⟩);dsimp only;apply RM (RL (((same:Nat):Int)!=0) (.int (sW same)) (λK q=>⟨_,Á,_,Á,q⟩) (λe K q=>Ġ) Ϫ ?_)
 .delta sW at q;symm
 .delta sW at q;rw[ah É] at q;exact q
 refine⟨_,Á,x.a,_,Á,aa.of jS,λD hD=>lI (K:=K) (a:=x.a) (xs:=iv x.zs) (fC H D λg=>x.zs.getD g 0+sW same+jZ (gY g bits)) Áz (λi H' _ f=>aa.of (f.1 _ _ jS)) Ák ú⟩
 .let(z,hz,rfl):=sA hi;let d8:=(bO.mp hz).1;let O:ai H' (ϟ (.tup [.int (i:Nat),.int z])):=aL hT;refine ß;apply(_,Á,_,Á,_,_,Á,Á,Ek (gY i bits) (.int (jZ (gY i bits))) (λK q=>⟨_,Á,_,Á,_,Á,_,_,Á,Á,_,Á,q⟩) Ϫ Ϫ ⟨_,_,Á,Á,?_⟩)
  .rw[e] at q;exact q
  .rw[e] at q;exact q
  .apply fC.step hD Æ f O ?_;symm
 .let wt:=f.2;let O:=f.1;rw[eZ] at wt;let wt:H' D=some (.lst (iv (Đ same))):=wt;let aqw:(Đ same).length=x.zs.length:=by delta iQ;rw[aA,g7]
  let aiw:=O _ _ jS;let aix:=O _ _ G.a;let U2:=O _ _ G.sp;apply(_,Á,bj aix TP.1 (TP.2 _ Ä) (UK p) ⟨p.sp,_,Á,aa.of U2,λI cJ=>lI (K:=K) (a:=p.sp) (xs:=iv p.fG) (fC H' I λg=>p.fG.getD g 0+cz (x.zs.getD g 0)-cz ((Đ same).getD g 0)-jZ (uQ g same)) (fC.zero cJ) (λi J _ f=>aa.of (f.1 _ _ U2)) (λi v Tt J hi Z hT=>?_) (λJ Z=>?_)⟩)
  .let(z,hz,rfl):=sA hi;let d8:=(bO.mp hz).1;let s2:ai J (upd J Tt (.tup [.int (i:Nat),.int z])):=aL hT;let M:=Z.1.trans s2;refine ß;refine⟨_,Á,_,Á,_,Á,x.a,_,_,.int (x.zs.getD i 0),Á,Á,aa.of (M _ _ aiw),fT (xW (by show i<x.zs.length;omega)),_,_,Á,_,_,Á,Á,
    _,rfl,_,rfl,D,_,_,.int ((Đ same).getD i 0),rfl,rfl,aa.of (M _ _ wt),fT (xW Æ),_,_,rfl,_,_,rfl,rfl,
    Ek (uQ i same) (.int (jZ (uQ i same))) (λK q=>⟨_,rfl,_,rfl,_,_,rfl,rfl,_,rfl,q⟩) Ϫ Ϫ ⟨_,_,rfl,rfl,?_⟩⟩
   .rw[e] at q;exact q
   .rw[e] at q;exact q
   .apply fC.step cJ Æ Z s2 ?_;rw[getD_at hz];rfl
  .let U:=Z.2;let s2:=Z.1;rw[eZ] at U;let U:J I=some (.lst (iv (Ϧ same))):=U;let aiy:(Ϧ same).length=p.fG.length:=by delta jr;rw[aA,g7]
   let M:=O.trans s2;generalize jr x.zs p.fG bits same=S at U aiy k1 k2;refine⟨_,Á,I,S,Á,aa.of U,by omega,λm hm j7=>⟨_,_,rfl,rfl,_,rfl,a8 Ï Ï⟩⟩
   .simp at hc;exact k1 (vc.mpr ⟨m,hm,eJ hc⟩) J M
   .simp at hc;let Mw:S.any (λz=>decide (z<0))=false:=by
     grind
    let k3:=k2 Mw;let U3:=M _ _ G.a;let aiz:=M _ _ G.gp;let aqx:=s2 _ _ wt;let FI:=hD;let FJ:=O.free cJ;let aqy:D≠p.gp:=λe=>by rw[e,G.gp] at FI;cases FI
    let aqz:D≠p.a:=λe=>by rw[e,G.a] at FI;cases FI
    let aqA:I≠p.gp:=λe=>by rw[e,G.gp] at FJ;cases FJ
    let aqB:I≠p.a:=λe=>by rw[e,G.a] at FJ;cases FJ
    apply(_,Á,_,Á,bj U3 TP.1 (TP.2 _ Ä) (Mq p) ⟨_,Á,p.gp,_,Á,xp.k (k:=Sum.inl ((sg:Nat):Int)) aiz (by rw[xy];exact gV Æ),?_⟩);let UT:putK (bx gA p.eC) (Sum.inl ((sg:Nat):Int)) Ái=bx gA Àn:=Bs gA p.eC sg ⟨D,Đ same⟩;rw[UT];apply(_,Á,_,Á,p.a,CP,p.dx,uO p,Á,(by rw[ao FH];exact U3),TP.1,TP.2 _ Ä,(by show 3<1000;decide),?_);let ef:ie ("spares":Str) (.ref I) (uO p)=uO ⟨p.a,p.dx,p.sm,p.gp,I,p.sames,eA p.eC sg ⟨D,Đ same⟩,S⟩:=by
     rfl
    rw[ef];let hx:∀b o,J b=some o->b≠p.a->b≠p.gp->(upd (upd J p.gp (.dK (bx gA Àn))) p.a (.ins CP p.dx (uO ⟨p.a,p.dx,p.sm,p.gp,I,p.sames,eA p.eC sg ⟨D,Đ same⟩,S⟩))) b=some o:=λb o e h1 h2=>by
     rw[ao h1,ao h2];omega
    let nU:∀b o,J b=some Çe->(upd (upd J p.gp (.dK (bx gA Àn))) p.a (.ins CP p.dx (uO ⟨p.a,p.dx,p.sm,p.gp,I,p.sames,eA p.eC sg ⟨D,Đ same⟩,S⟩))) b=some Çe:=λb o e=>hx b _ e (λz=>by simp_all) (λz=>by simp_all);apply k3 _ ⟨p.a,p.dx,p.sm,p.gp,I,p.sames,eA p.eC sg ⟨D,Đ same⟩,S⟩ ⟨aq,nU _ _ (M _ _ G.sm),?_,λq Y=>?_,nU _ _ U⟩ Á Á Á Á (aiu _ _ _) Á (λb o e h1 h2=>hx b o (M _ _ e) h1 h2) (λa W=>?_)
    .rw[ao (dX FH),aq]
    .rcases x5 Y with rfl|⟨Y,_⟩
     .symm
     .exact nU _ _ (M _ _ (G.gl q Y))
    .delta gw.own at W⊢;rcases ba.mp W with rfl|W
     .simp
     .rcases ba.mp W with rfl|W
      .symm
      .let(q,Y,rfl):=cf.mp W;rcases x5 Y with rfl|⟨Y,_⟩
       .symm
       .grind
end
abbrev hZ:=List (Nat×LI)×LI
def nW(l:LI):Bool:=!l.any λz=>decide (z<0)
def rq(st:hZ)(sg bits same:Nat)(row:LI):hZ:=(eA st.1 sg (iQ row bits same),jr row st.2 bits same)
def uS(sames:LN)(st:hZ)(sg bits:Nat)(row:LI):LN->Option (Nat×hZ)
 |[]=>none
 |b::r=>if nW (jr row st.2 bits (2^b))=true then some (sames.getD b 0,rq st sg bits (2^b) row) else uS sames st sg bits row r
def oW(n bits:Nat):LN:=(List.range n).filter (x3 bits)
def nX(sames:LN)(st:hZ)(sg bits:Nat):Option (Nat×hZ):=match bY st.1 sg with
 |none=>some (sg,st)
 |some row=>if nW (jr row st.2 bits 0)=true then some (sg,rq st sg bits 0 row) else uS sames st sg bits row (oW sames.length bits)
def gw.st(p:gw):hZ:=(p.eC.map gK,p.fG)
structure mq(CP:Addr)(H:Hp)(p:gw):Prop where
 ok:oS CP H p
 ne:p.a≠p.gp
 row:∀q∈p.eC,q.2.zs.length=p.fG.length
 pos:0<p.fG.length
 dc:p.fG.length<=2000
 Ca:p.eC.length<=2000
 nd:(p.eC.map (·.1)).Nodup
 FK:p.sames.length<=10
def oS.same(h:oS CP H p)(s:ai H H'):oS CP H' p:=⟨s _ _ h.a,s _ _ h.sm,s _ _ h.gp,λq j=>s _ _ (h.gl q j),s _ _ h.sp⟩
def mq.same(h:mq CP H p)(s:ai H H'):mq CP H' p:=⟨h.ok.same s,h.ne,h.row,h.pos,h.dc,h.Ca,h.nd,h.FK⟩
def Mx(l:List (Nat×sU)):(l.map gK).map (·.1)=l.map (·.1):=by rw[cQ];rfl
def U4{CP:Addr}{H H':Hp}{p j:gw}{sg bits same:Nat}{x:sU}(g:mq CP H p)(F:bY p.eC sg=some x)(ok:oS CP H' j)(J:j.a=p.a)(M:j.gp=p.gp)(es:j.sames=p.sames)(z:j.eC.map gK=eA Åd sg (Đ same)) (I:j.fG=jr x.zs p.fG bits same):mq CP H' j:=by
 let m:j.fG.length=p.fG.length:=by rw[I];delta jr;rw[aA,g7]
 let hk:j.eC.map (·.1)=p.eC.map (·.1):=by
  rw[<-Mx,z,RQ,Mv,F,Mx];rfl
 apply(ok,by rw[J,M];exact g.ne,λq S=>?_,by rw[m];exact g.pos,by rw[m];exact g.dc,?_,by rw[hk];exact g.nd,by rw[es];exact g.FK)
 .let O:gK q∈eA Åd sg (Đ same):=by rw[<-z];exact cf.mpr ⟨q,S,Á⟩
  rcases x5 O with e|⟨h2,_⟩
  .let:q.2.zs=iQ x.zs bits same:=cE Prod.snd e;rw[this,m,<-g.row _ (xA F)];delta iQ;simp
  .let(G,U,e):=cf.mp h2;let:q.2.zs=G.2.zs:=(cE Prod.snd e).symm;rw[this,m];exact g.row G U
 .let:=cE List.length hk;rw[aA,aA] at this;rw[this];exact g.Ca
inductive My(CP:Addr)(vs:au)(H:Hp)(Q:VK)(E':XK):Prop
 |mk (p:gw) (sg bits:Nat) (r:Nat×hZ) (_:vs=[.ref p.a,.int (sg:Nat),.int (bits:Nat)]) (_:mq CP H p) (_:nX p.sames p.st sg bits=some r) (_:∀H' p',mq CP H' p'->p'.a=p.a->p'.gp=p.gp->p'.sames=p.sames->p'.st=r.2->uR p.a p.gp H H'->sX H p p'->Q (.int ((r.1:Nat):Int)) H')
section
variable{P:Pg}{w:Wd}{K:FR}{mg:MG}{base:Heap}{CK CL CS N CV CP:Addr}{C:Cs}
def Cb:bH ["plan","sign","bits","places","place","tried"] ["plan","sign","bits"] (aV Kj):=cw
def aiA{f:Addr}{fd:FD}(F:br K "flag_told" "flag_told" Kj f fd)(TP:lg K CP ["sames","gaps","spares"])(tL:mg "len"=none)(tR:mg "range"=none)(dH:Ç 1 "hang" ["plan","sign","bits","same"] (UZ CP)):Ì aE 2 f fd ["plan","sign","bits"] (My CP):=by
 refine F.ok Cb Â;let(p,sg,bits,r,rfl,G,J,k):=h;refine⟨_,aB (dq (PW.pt (pw_or (ot (abF (y4 hr) á œ) (by with_unfolding_all rfl)) (pw_or1 (jx (bz dH (ae Ú (ae á (ae ç (ae bo ag))))))))) (aD (aY á)) d7)
  (aB (um (i:=3) (own:=[("place",4)]) (tt:=B1 K (bU (gf λi j=>.int Œ) (bU (rI (λ_ j=>0<=j) λi j=>.int (i/2^j.toNat)) Ř Ãp) Åb)) (te:=ay 4) rfl Cb.nd rfl rfl Ô (HN Ô tR (ae (c8 fU Ô tL PySem.boot_len Äo) ag)) Ë
   (λ_ _ _ _ _=>dJ 4 Cb.nd) (λ_ _ _ _ _=>pL (yI (eM AV (eM PP ç İ) bo) Ãw)) (λ_ _ _ _ _=>pv 4))
  (aB (cj 5 Cb.nd bo)
  (aB (ZJ qy (pG (jx (bz dH (ae Ú (ae á (ae ç (ae (eM HU bo (cA cY ö Äd Ø)) ag))))))) (aD (ZG (i:=5) Cb.nd rfl (Or.inl rfl) bo ZZ)))
  (aD (aY (cA cY Ć (cA cY ö Äd Ø) Ø)))))),?_⟩
 let sV:=jO.k (k:=(Sum.inl ((sg:Nat):Int):Key)) G.ok.gp;rw[zb] at sV;apply(_,Á,_,Á,bj G.ok.a TP.1 (TP.2 _ Ä) (Mq p) ⟨p.gp,_,Á,sV,_,Á,?_⟩);let eg:=Mv p.eC sg;cases e:bY p.eC sg with
 |none=>
  rw[e] at eg;let ef:nX p.sames p.st sg bits=some (sg,p.st):=by
   delta nX gw.st;symm
  rw[ef] at J;cases J;exact a8 (λ_=>kZ ⟨_,Á,k H p G Á Á Á Á uR.refl λa ha=>.inl ha⟩) (λhc=>absurd Á hc)
 |some x=>
  rw[e] at eg;let gv:=xA e;let Cc:=G.row _ gv;let ef:nX p.sames p.st sg bits=if nW (Ϧ 0)=true then some (sg,rq p.st sg bits 0 x.zs) else uS p.sames p.st sg bits x.zs (oW p.sames.length bits):=by
   delta nX gw.st;symm
  rw[ef] at J;apply a8 (λhc=>absurd hc Ä) (λ_=>?_);apply(_,Á,_,Á,_,Á,p,sg,bits,0,x,Á,G.ok,G.ne,e,Cc,G.pos,G.dc,G.Ca,G.nd,λh H1 s1=>⟨_,Á,nu ?_⟩,λh H1 W S Z U em1 O Mz MA Y MB=>⟨_,Á,kZ ?_⟩)
  .rw[ah (by delta nW;rw[h];decide)] at J;let oh:=G.same s1;let yQ:=G.FK;apply(_,Á,bj oh.ok.a TP.1 (TP.2 _ Ä) (UJ p) ⟨p.sm,_,Á,.inl (aa.of oh.ok.sm),(p.sames.length:Int),by simp,by omega,by omega,λD M=>?_⟩);rw[C7];refine DS (lo:=0) (n:=p.sames.length) (lL H1 D (x3 bits)) (lL.zero M) Âi ú
   .rw[Yo];refine⟨Á,_,Á,_,Á,_,_,Á,Á,Hj i,_,_,Á,Á,_,Á,a8 Ï Ï⟩
    .exact(_,Á,f.yes M Æ ĸ hc)
    .exact f.no ĸ hc
   .let wt:H' D=some (.lst (iv (nv (oW p.sames.length bits)))):=f.2;let s2:=s1.trans f.1;let bQ:∀b∈oW p.sames.length bits,b<p.sames.length:=λb hb=>by
     delta oW at hb;symm
    let hDa:D≠p.a:=λz=>by rw[z,oh.ok.a] at M;cases M
    let hDg:D≠p.gp:=λz=>by rw[z,oh.ok.gp] at M;cases M
    generalize oW p.sames.length bits=pl at wt bQ J;refine⟨λm σ H2=>∃j:Nat,σ=[some Âx,some (.int (sg:Nat)),some (.int (bits:Nat)),some Ái,none,some (.int (j:Nat))]/\m=pl.length-j/\ai H H2/\H2 D=some (.lst (iv (nv pl)))/\uS p.sames p.st sg bits x.zs (pl.drop j)=some r,
     ⟨_,0,rfl,rfl,s2,wt,J⟩,?_⟩
    rintro m σ H2 ⟨j,rfl,rfl,s3,cJ,I⟩;let vz:j<pl.length:=by
     cases Nat.lt_or_ge j pl.length with
     |inl h=>exact h
     |inr h=>rw[Yp h] at I;cases I
    obtain⟨b,hb⟩:∃b,pl[j]? =some b:=⟨_,dm vz⟩;let jW:=bQ b Çu;rw[zN hb] at I;let qA:=G.same s3;let FM:(iv (nv pl))[j]? =some (.int ((b:Nat):Int)):=by
     symm
    apply(_,Á,_,Á,_,Á,_,Á,_,Á,D,_,_,.int ((b:Nat):Int),Á,Á,aa.of cJ,fT FM,_,_,Á,Á,⟨Hj b,by omega,by decide⟩,p,sg,bits,2^b,x,?_,qA.ok,G.ne,e,Cc,G.pos,G.dc,G.Ca,G.nd,λh H3 s4=>⟨_,Á,kZ ?_⟩,λh H3 W S Z U em1 O Mz MA Y MB=>⟨_,Á,nu ?_⟩)
    .simp
    .delta uS at I;rw[ah (by delta nW;rw[show p.st.2=p.fG from rfl,h];decide)] at I;apply(_,λσ' H' q=>⟨_,?_,q⟩,_,Á,_,_,Á,Á,j+1,Á,Á,s3.trans s4,s4 _ _ cJ,I);omega
    .delta uS at I;rw[af (by delta nW;rw[show p.st.2=p.fG from rfl,h];rfl)] at I;cases I;let rB:=Y _ _ cJ hDa hDg;apply(_,Á,bj (by rw[<-Z];exact S.a) TP.1 (TP.2 _ Ä) (UJ W) ⟨_,Á,_,Á,D,_,_,.int ((b:Nat):Int),Á,Á,aa.of rB,fT FM,W.sm,_,_,.int ((p.sames.getD b 0:Nat):Int),Á,Á,aa.of S.sm,?_,?_⟩)
     .rw[O];exact fT (Ft jW)
     .apply k H3 W (U4 G e S Z U O Mz MA) Z U O ?_ (λb o e1 h1 h2=>Y b o (s3 _ _ e1) h1 h2) (λa ha=>(MB a ha).imp id λz=>s3.free z);delta gw.st rq;symm
  .rw[af (by delta nW;rw[h];rfl)] at J;cases J;apply(_,Á,k H1 W (U4 G e S Z U O Mz MA) Z U O ?_ Y MB);delta gw.st rq;symm
end
def nY(sames:LN):hZ->cg->Option (LN×hZ)
 |st,[]=>some ([],st)
 |st,p::r=>match nX sames st p.1 p.2 with
  |none=>none
  |some x=>match nY sames x.2 r with
   |none=>none
   |some y=>some (x.1::y.1,y.2)
def sX.refl:sX H p p:=λ_ h=>.inl h
def Apart(D:Addr)(p:gw):Prop:=D≠p.a/\D≠p.gp/\D∉p.own
def aiE(h:oS CP H p)(j:a∈p.own):∃l,H a=some (.lst l):=by
 delta gw.own at j;rcases ba.mp j with rfl|j
 .exact(_,h.sm)
 .rcases ba.mp j with rfl|j
  .exact(_,h.sp)
  .let(q,m,rfl):=cf.mp j;exact(_,h.gl q m)
def apart_new(h:oS CP H p)(j:H D=none):Apart D p:=by
 apply(λe=>?_,λe=>?_,λe=>?_)
 .rw[e,h.a] at j;cases j
 .rw[e,h.gp] at j;cases j
 .let(l,m):=aiE h e;symm
def MC(h:Apart D p)(j:p'.a=p.a)(m:p'.gp=p.gp)(O:sX H p p')(z:H D≠none):Apart D p':=⟨by rw[j];exact h.1,by rw[m];exact h.2.1,λe=>(O D e).elim h.2.2 z⟩
def oS.upd(h:oS CP H p)(j:Apart D p):oS CP (upd H D o) p:=by
 let n:∀a∈p.own,a≠D:=λa z e=>j.2.2 É;apply(?_,?_,?_,λq m=>?_,?_)
 .rw[ao (dX j.1)];exact h.a
 .rw[ao (n _ (by delta gw.own;simp))];exact h.sm
 .rw[ao (dX j.2.1)];exact h.gp
 .rw[ao (n _ (by delta gw.own;exact aO _ (aO _ (cf.mpr ⟨q,m,Á⟩))))];exact h.gl q m
 .rw[ao (n _ (by delta gw.own;simp))];exact h.sp
def mq.upd(h:mq CP H p)(j:Apart D p):mq CP (upd H D o) p:=⟨h.ok.upd j,h.ne,h.row,h.pos,h.dc,h.Ca,h.nd,h.FK⟩
inductive MD(CP:Addr)(vs:au)(H:Hp)(Q:VK)(E':XK):Prop
 |mk (p:gw) (x z:cV) (r:LN×hZ) (_:vs=[.ref p.a,.ref x.a,.ref z.a]) (_:mq CP H p) (_:aU H (lsN x)) (_:aU H (lsN z)) (_:x.ns.length=z.ns.length) (_:x.ns.length<=1000) (_:nY p.sames p.st (x.ns.zip z.ns)=some r) (_:∀H' p' q,mq CP H' p'->p'.a=p.a->p'.gp=p.gp->p'.sames=p.sames->p'.st=r.2->uR p.a p.gp H H'->sX H p p'->H q=none->H' q=some (.lst (iv (nv r.1)))->Apart q p'->Q Èm H')
section
variable{P:Pg}{w:Wd}{K:FR}{mg:MG}{base:Heap}{CK CL CS N CV CP:Addr}{C:Cs}
def ME:bH ["plan","row","stands","place","sign"] ["plan","row","stands"] (aV Ki):=cw
inductive HtI(CP D:Addr)(p:gw)(H:Hp)(x z:cV)(r:LN×hZ)(i:Nat)(H2:Hp):Prop
 |mk (p2:gw) (fs:LN) (r2:LN×hZ) (_:uR p.a p.gp H H2) (_:mq CP H2 p2) (_:p2.a=p.a) (_:p2.gp=p.gp) (_:p2.sames=p.sames) (_:sX H p p2) (_:Apart D p2) (_:H2 D=some (.lst (iv (nv fs)))) (_:fs.length=i) (_:nY p.sames p2.st ((x.ns.zip z.ns).drop i)=some r2) (_:fs++r2.1=r.1) (_:r2.2=r.2)
def aiG(F:br K "hoist_told" "hoist_told" Ki f fd)(tE:mg "enumerate"=none)(dF:Ç 2 "flag_told" ["plan","sign","bits"] (My CP)):Ì aE 3 f fd ["plan","row","stands"] (MD CP):=by
 refine F.ok ME Â;let(p,x,z,r,rfl,I,hx,hz,hl,ji,hh,k):=h;let J:=BU hx;let M:=BU hz;refine⟨_,aD (aY (eF (own:=[("place",3),("sign",4)]) (g:=g2 K 3 4) (te:=g9 (My CP) [] E0 (bh ώ (bh Ãp (bh (bU ύ Ř ŗ) dw)))) Á ME.nd
   (kY Ô tE Ŕ) Ë
   (λ_ _ _ _ _=>iE 3 4 ME.nd) Ö
   (λ_ _ _ _ _=>bz dF (ae Ú (ae İ (ae (cA cY ç ö Ø) ag)))))),?_⟩
 let aiH:x.a≠p.a:=λe=>by rw[e,I.ok.a] at J;cases J
 let aiI:x.a≠p.gp:=λe=>by rw[e,I.ok.gp] at J;cases J
 let aiJ:z.a≠p.a:=λe=>by rw[e,I.ok.a] at M;cases M
 let aiK:z.a≠p.gp:=λe=>by rw[e,I.ok.gp] at M;cases M
 apply(_,Á,x.a,_,Á,aa.of J,λD W=>?_);let FO:=eK J W;let hzD:=eK M W;let Cf:=apart_new I.ok W;refine lI (K:=K) (a:=x.a) (xs:=iv (nv x.ns)) (HtI CP D p H x z r)
  ⟨p,[],r,ai.x (aL W),I.upd Cf,rfl,rfl,rfl,sX.refl,Cf,aq,rfl,hh,rfl,rfl⟩ (λi U _ h=>(by let(p2,fs,r2,O):=h;exact aa.of (O _ _ J aiH aiI))) ?_ ?_
 .rintro i v Tt U hi ⟨p2,fs,r2,O,g2,ea,eg,es,ow,Y,cJ,gc,j,wu,FP⟩ hT;let(sg,jV,rfl):=nN hi;let d8:=(bO.mp jV).1;obtain⟨m,UF⟩:∃m,z.ns[i]? =some m:=⟨_,dm Æ⟩;let gU:(x.ns.zip z.ns)[i]? =some (sg,m):=by
   symm
  rw[zN gU] at j;let S:ai U (upd U Tt (.tup [.int (i:Nat),.int (sg:Nat)])):=aL hT;let FM:(iv (nv z.ns))[i]? =some (.int ((m:Nat):Int)):=by
   symm
  delta nY at j;cases e1:nX p.sames p2.st sg m with
  |none=>symm
  |some y1=>
   rw[e1] at j;dsimp only at j;cases e2:nY p.sames y1.2 ((x.ns.zip z.ns).drop (i+1)) with
   |none=>symm
   |some y2=>
    rw[e2] at j;let j:=aN j;subst j;refine ß;generalize hHx:upd U Tt (.tup [.int (i:Nat),.int (sg:Nat)])=Hx at S;let g3:=g2.same S;apply(_,Á,_,Á,_,Á,_,Á,z.a,_,_,.int ((m:Nat):Int),Á,Á,aa.of (S _ _ (O _ _ M aiJ aiK)),fT FM,p2,sg,m,y1,by simp_all,g3,by simp_all,λH3 p3 g4 zU zV MF U5 zW zX=>?_);let Cg:=S _ _ cJ;let rB:=zW _ _ Cg Y.1 Y.2.1;let Cj:=MC Y zU zV zX É;apply(_,rB,by rw[eZ,jF];exact gV Æ,p3,fs++[y1.1],y2,λb o e Z h2=>?_,g4.upd Cj,zU.trans ea,zV.trans eg,MF.trans es,λa ha=>?_,Cj,?_,by simp_all,by simp_all,by simp_all,FP)
    .rw[ao (eK e W)];exact zW _ _ (S _ _ (O b o e Z h2)) É É
    .rcases zX a ha with h|h
     .exact ow a h
     .apply .inr ?_;cases e:H a with
      |none=>rfl
      |some o=>
       exfalso;let G:=S.free h;by_cases Z:a=p.a
       .rw[Z,<-ea,g2.ok.a] at G;cases G
       .by_cases h2:a=p.gp
        .rw[h2,<-eg,g2.ok.gp] at G;cases G
        .rw[O a o e Z h2] at G;cases G
    .rw[aq];simp
 .rintro U ⟨p2,fs,r2,O,g2,ea,eg,es,ow,Y,cJ,gc,j,wu,FP⟩;rw[eZ,jF] at gc j;rw[Yp É] at j;cases j;grind
end
def aZ(ms:aF):LN:=(List.range ms.length).filter λi=>decide ((ms.getD i fk).role=1)
def fJ(ms:aF)(rows:bp):bp:=rows.map (qm ms Ħ)
def Ck(ms:aF)(rows:bp):List (Nat×LI):=nV (2^(aZ ms).length) (jq ms rows.flatten) (iP ø)
def oX(ms:aF)(rows:bp):hZ:=(Ck ms rows,rn (2^(aZ ms).length) ((List.range (2^(aZ ms).length)).map (rl ms Ħ)) (Ck ms rows))
def mr(sames:LN):hZ->List cg->Option (bp×hZ)
 |st,[]=>some ([],st)
 |st,p::r=>match nY sames st p with
  |none=>none
  |some x=>match mr sames x.2 r with
   |none=>none
   |some y=>some (x.1::y.1,y.2)
def mv(rows j:bp):List cg:=(rows.zip j).map λp=>p.1.zip p.2
def nZ(ms:aF)(rows:bp):Option (Option bp):=
 if jq ms rows.flatten=[] then some (some rows) else if (oX ms rows).2.any (λz=>decide (z<0))=true then some none else (mr Ħ Æk Ãn).map λx=>some x.1
structure wx(ms:aF):Prop where
 dc:(aZ ms).length<=10
 pos:∀s∈aZ ms,1<=lh ms s
inductive FQ(CK:Addr)(vs:au)(H:Hp)(Q:VK)(E':XK):Prop
 |mk (pk:Addr) (ks:List az) (y:cb) (r:Option bp) (_:vs=[.ref pk,.ref y.a]) (_:Ŭ ks) (_:wx Í) (_:Mn H y ks.length) (_:(y.m.flatten).length<=1000) (_:nZ Í y.m=some r) (_:(∀hs,r=some hs->∀H' z,ai H H'->cb.m z=hs->aU H' (eT z)->i8 H (eT z)->Q Äq H')) (_:(r=none->∀H',ai H H'->Q .aJ H'))
def aiL(l:cg)(s:Nat):(bY (iP l) s).isSome=(l.map (·.1)).contains s:=by
 refine snoc_ind (P:=λl=>(bY (iP l) s).isSome=(l.map (·.1)).contains s) Á Át l;rw[B6,bX];delta oneAt;rw[Em];by_cases h:s=x.1
 .rw[af h];simp[h]
 .rw[ah h,ih];simp[h]
def aiM(l:cg):((iP l).map (·.1)).Nodup:=by
 refine snoc_ind (P:=λl=>((iP l).map (·.1)).Nodup) Ay Ãt l;rw[B6];exact En ih
theorem U6:∀(rows j:bp),rows.length=j.length->(∀(i:Nat)(a b:LN),rows[i]? =some a->j[i]? =some b->a.length=b.length)->(eU rows j).map (·.1)=rows.flatten:=by
 intro rows;induction rows with
 |nil=>
  intro j m _;cases j with
  |nil=>rfl
  |cons _ _=>cases m
 |cons a rows I=>
  intro j m h2;cases j with
  |nil=>cases m
  |cons b j=>
   let I:=I j (À m) λi x y z F=>h2 (i+1) x y z F;delta eU at I⊢;rw[De,Dl,bX,I,Pc];congr 1;let:=h2 0 a b rfl rfl;exact List.map_fst_zip (by show a.length<=b.length;omega)
def U7(ms:aF)(rows:bp):rows.length=(fJ ms rows).length:=by delta fJ;rw[aA]
def MH(ms:aF)(rows:bp):∀(i:Nat)(a b:LN),rows[i]? =some a->Ņ[i]? =some b->a.length=b.length:=λi a b j h2=>by
 delta fJ at h2;rw[bW,j] at h2;cases h2;delta qm;simp
def aiN(G:Nat)(lacks:List (Nat×Int))(F:List (Nat×LN)):(nV G lacks F).map (·.1)=lacks.map (·.1):=by
 delta nV;simp
def MI(ms:aF)(F:LN):((jq ms F).map (·.1)).Nodup:=apD (Fx ms (gu F)) (Fw F)
def aiO(ms:aF)(F:LN):(jq ms F).length<=F.length:=by
 let j:=(Fx ms (gu F)).length_le;let h2:=Mm F;rw[aA,aA] at j;delta jq;omega
def U8(h:p∈jq ms flat):p.1∈flat:=by
 let j:p.1∈(jq ms flat).map (·.1):=cf.mpr ⟨p,h,rfl⟩;let h2:=(Fx ms (gu flat)).subset j;let(q,m,e):=cf.mp h2;rw[<-e];exact Uu m
def aiP(h:wx ms):BZ ms Ħ:=⟨by let:=h.dc;omega,λs hs=>by
 delta aZ at hs;simpa using (j8.mp hs).1,h.pos⟩
section
variable{P:Pg}{w:Wd}{K:FR}{mg:MG}{base:Heap}{CK CL CS N CV CP:Addr}{C:Cs}
def oY:bH ["kinds","rows","lacks","row","sames","number","kind","stands","plan"] ["kinds","rows"] (aV Ka):=cw
inductive DsI(CP D3:Addr)(p:gw)(H6:Hp)(y z:cb)(r0:bp×hZ)(i:Nat)(H7:Hp):Prop
 |mk (p2:gw) (zs:List cV) (r2:bp×hZ) (_:uR p.a p.gp H6 H7) (_:mq CP H7 p2) (_:p2.a=p.a) (_:p2.gp=p.gp) (_:p2.sames=p.sames) (_:sX H6 p p2) (_:Apart D3 p2) (_:H7 D3=some (.lst (zs.map λx=>V.ref x.a))) (_:zs.length=i) (_:(∀x∈zs,H7 x.a=some ź/\Apart x.a p2/\H6 x.a=none/\x.a≠D3)) (_:mr p.sames p2.st ((mv y.m z.m).drop i)=some r2) (_:zs.map cV.ns++r2.1=r0.1)
def aiR(F:br K "display_told" "display_told" Ka f fd)(T:sE K CK)(TP:lg K CP ["sames","gaps","spares"])(Mr:mg "list"=none)(tE:mg "enumerate"=none)(tN:mg "min"=none)(cS:Cn mg "SAME" Ş)(dL:Ç 1 "copies_lacking" ["kinds","rows"] (Uv CK)) (dA:Ç 2 "sames_along" ["kinds","sames","row"] (Mf CK)) (dP:Ç 1 "places_of" ["rows","stands"] UB)(dO:Ç 3 "plan_of" ["kinds","sames","lacks","places"] (UN CK CP)) (dH:Ç 3 "hoist_told" ["plan","row","stands"] (MD CP)):Ì aE 4 f fd ["kinds","rows"] (FQ CK):=by
 refine F.ok oY Â;let(pk,ks,y,r,rfl,hk,FS,M,gc,O,k1,k2):=h;refine⟨_,aB (cj 2 oY.nd (bz dL (ae Ú Ŕ)))
  (aB (dq (cI (adx hr.units) ç DU (bT _)) (aD (aY (eF (own:=[("row",3)]) (te:=qI (λxs H Q=>∃p ys,xs=[.ref p]/\(â p ys\/bu K H p ys)/\∀l,H l=none->Q Äw (Ϛ Âg)) Ât) rfl oY.nd Æp Ë
   (λ_ _ _ _ _=>dJ 3 oY.nd) Ö (λ_ _ _ _ _=>xc aaE Ô Mr UO ı)))) d7)
  (aB (cj 4 oY.nd (eF (own:=[("number",5),("kind",6)]) (g:=g2 K 5 6) (tt:=ng (bU ox (gi K (ay 6) "role") Åb)) (te:=ay 5) rfl oY.nd
   (Âo) Ë
   (λ_ _ _ _ _=>iE 5 6 oY.nd)
   (λ_ _ _ _ _=>pL (cI ic (bg Ãl rfl) Æv (bT _))) (λ_ _ _ _ _=>pv 5)))
  (aB (cj 7 oY.nd (eF (own:=[("row",3)]) (te:=g9 (Mf CK) [] E0 (bh ώ (bh Ãp Ât))) rfl oY.nd Æp Ë
   (λ_ _ _ _ _=>dJ 3 oY.nd) Ö (λ_ _ _ _ _=>bz dA (ae Ú (ae İ ı)))))
  (aB (cj 8 oY.nd (bz dO (ae Ú (ae İ (ae ç (ae (bz dP (ae á (ae Ål ag))) ag))))))
  (aB (dq (cI w8 (c8 (Qy rfl) Ô tN U0 (ae (bg (pv 8) rfl) ag)) bo (bT _)) Ÿ d7)
  (aD (aY (eF (own:=[("number",5),("row",3)]) (g:=g2 K 5 3) (te:=g9 (MD CP) [] E0 (bh (ay 8) (bh ŗ (bh (bU ύ Èk (ay 5)) dw)))) rfl oY.nd
   (kY Ô tE Ŕ) Ë
   (λ_ _ _ _ _=>iE 5 3 oY.nd) Ö
   (λ_ _ _ _ _=>bz dH (ae (pv 8) (ae ö (ae (cA cY Ål Äd Ø) ag)))))))))))),?_⟩
 let qo:=jG M.l;let U9:=M.dc;apply(_,Á,_,Á,pk,ks,y,Á,hk,M,λH1 pl nL=>?_);let s1:=nL.1;let c9:=nL.2.2;let aiS:=O;delta nZ at O;let zP:=MI Í y.m.flatten;let UP:=aiO Í y.m.flatten;let qj:∀p∈jq Í y.m.flatten,p.1∈y.m.flatten:=λp hp=>U8 hp;let hG:Ck Í y.m=nV (2^(aZ Í).length) Äh (iP (eU y.m (fJ Í y.m))):=rfl;generalize jq Í y.m.flatten=lacks at c9 O zP UP qj hG;refine⟨_,Á,λe he=>⟨pl,e,_,Á,Á,(Çv) _ _ c9,aq,_,Á,a8 Ï Ï⟩⟩
 .let hc:lacks=[]:=by
   cases lacks with
   |nil=>rfl
   |cons a b=>exact absurd hc (by delta bx;simp)
  rw[af hc] at O;let s2:ai H (upd H1 e ϳ):=s1.trans Çv;generalize upd H1 e ϳ=H2 at s2;apply(_,Á,y.a,Á,⟨_,aa.of (s2 _ _ qo)⟩,λD hD=>gC (K:=K) (a:=y.a) (xs:=y.ls.map λx=>V.ref x.a) (jo H2 D λi=>y.m.getD i []) ĉ (λi H' _ f=>aa.of (f.same _ _ (s2 _ _ qo))) (λi v H' hi f=>?_) ú)
  .let(x,G,rfl):=iz hi;let U:=bZ G;let d8:=(bO.mp G).1;exact(Á,eO ⟨_,Á,x.a,_,Á,.inl (aa.of (f.same _ _ (s2 _ _ (mj M.l U)))),λl hl=>(jo.step hD Æ f (aL hl) hl (by rw[aq,BX G]))⟩)
  .let(z,rfl,s3,em,l1,fr):=jo.end hD f;apply k1 _ (aN O).symm H' z Ĭ ?_ l1 (i8.back fr s2);rw[em,aA];let:=wm (l:=y.m) (g:=λx=>x) (d:=[]);rw[iA,List.map_id'] at this;exact this
 .let hc:¬lacks=[]:=λz=>hc (by rw[z];rfl);rw[ah hc] at O;let s2:ai H (upd H1 e ϳ):=s1.trans Çv;let Va:=(aL (o:=.dK []) he) _ _ c9;generalize upd H1 e ϳ=H2 at s2 Va;let wb:=hk.same s2;let hkf:=hk.dc;refine⟨_,Á,pk,_,Á,aa.of wb.a,λD hD=>lI (K:=K) (a:=pk) (xs:=ks.map λk=>V.ref k.a) (lL H2 D λi=>decide (((ks.map az.m).getD i fk).role=1)) (lL.zero hD) (λi H' _ f=>aa.of (f.1 _ _ wb.a)) Ák Æc⟩
  .let(b,hb,rfl):=iz hi;let d8:=(bO.mp hb).1;let s3:ai H' (ϟ (.tup [.int (i:Nat),.ref b.a])):=aL hT;refine î;refine⟨_,Á,bj (jn ((nH wb.l Çu).same (f.1.trans s3))) T.c T.vW (vV b) Ĳ⟩;rw[show V.int 1=V.int ((1:Nat):Int) from rfl,lW];refine a8 Ï Ï
   .exact(_,Á,f.yes hD Æ s3 (by rw[getD_map hb];exact hc))
   .exact f.no s3 (by rw[getD_map hb];exact hc)
  .let gr:H3 D=some (.lst (iv (nv (aZ Í)))):=by
    let:=f.2;rw[aA] at this;delta aZ;rw[aA];exact this
   let s3:=s2.trans f.1;let aiU:=f.1 _ _ Va;let hk3:=hk.same s3;let Vb:=aiP FS;apply(_,Á,y.a,Á,⟨_,aa.of (s3 _ _ qo)⟩,λD2 cJ=>gC (K:=K) (a:=y.a) (xs:=y.ls.map λx=>V.ref x.a) (jo H3 D2 λi=>qm Í (aZ Í) Çg) Ão (λi H' _ f=>aa.of (f.same _ _ (s3 _ _ qo))) (λi v H' hi f2=>?_) (λH4 f2=>?_))
   .let(x,G,rfl):=iz hi;let U:=bZ G;let d8:=(bO.mp G).1;exact(Á,eO ⟨_,Á,_,Á,_,Á,pk,D,x.a,ks,aZ Í,x.ns,Á,hk3.same f2.same,f2.same _ _ gr,Vb,f2.same _ _ (s3 _ _ (mj M.l U)),M.short x U,λH5 q n5=>(jo.step cJ Æ f2 n5.1 n5.2.1 (by rw[BX G];exact n5.2.2))⟩)
   .let(z,rfl,s4,em,l4,fr4):=jo.end cJ f2;let mw:z.m=fJ Í y.m:=by
     rw[em,aA];let:=wm (l:=y.m) (g:=qm Í (aZ Í)) (d:=[]);rw[iA] at this;exact this
    let qM:y.ls.length=z.ls.length:=by rw[<-iA,<-iA,mw];exact U7 _ _
    let Vc:∀(i:Nat)(a b:cV),y.ls[i]? =some a->z.ls[i]? =some b->a.ns.length=b.ns.length:=λi a b J h2=>MH Í y.m i a.ns b.ns (by delta cb.m;rw[bW,J];rfl) (by rw[<-mw];delta cb.m;rw[bW,h2];rfl);let L6:=U6 y.m z.m (by rw[iA,iA];exact qM) (by rw[mw];exact MH _ _);let aqE:(eU y.m z.m).length<=1000:=by
     let:=cE List.length L6;rw[aA] at this;omega
    let s5:=s3.trans s4;let aiW:=s4 _ _ gr;let Vd:=s4 _ _ aiU;apply(_,Á,_,Á,_,Á,_,Á,_,Á,y,z,Á,aU.same M.l s5,l4,qM,Vc,by omega,λH5 pp t s6 x4 tb et=>?_);let s7:=s5.trans s6;let Ms:∀p∈t,p.2.ns.length<=1000:=λp hp=>by
     let(i,hi,ei):=rN hp;let J:cont p∈iP Æq:=by rw[<-et];exact cf.mpr ⟨p,hp,Á⟩
     let h2:=zc (aiM Æq) (s:=p.1) (v:=p.2.ns) J;let:=Uz _ h2;omega
    let hJ:∀p∈lacks,(bY t p.1).isSome=true:=λp hp=>by
     let J:=zM t p.1;rw[et] at J;let h2:=aiL Æq p.1;rw[J,L6,Dg] at h2;rw[h2];simpa using qj p hp
    let aiX:pp≠pl:=λe=>by rw[e,Vd] at x4;cases x4
    apply(pk,D,pl,pp,ks,aZ Í,lacks,t,Á,hk.same s7,s6 _ _ aiW,Vb,FS.dc,s6 _ _ Vd,zP,by omega,tb.d,tb.l,Ms,hJ,aiX,λS p s8 ok zo FH aQ aqF jX FT iZ=>?_);let s9:=s7.trans s8;let Ve:p.st=oX Í y.m:=by
     delta gw.st oX;rw[iZ,FT,hG,et,mw]
    let aiY:p.fG.length=2^(aZ Í).length:=by
     rw[iZ];exact UL _ _ _ (by rw[aA,g7])
    let h2k:2^(aZ Í).length<=1024:=Hk Ù FS.dc;let h2p:0<2^(aZ Í).length:=Nat.pow_pos Ù;let nO:p.eC.length=lacks.length:=by
     let:=cE List.length FT;delta nV at this;rw[aA,aA] at this;exact this
    let Am:mq CP S p:=⟨ok,aQ,λq I=>by rw[aiY];exact UM (p:=gK q) (by rw[<-FT];exact cf.mpr ⟨q,I,rfl⟩),by omega,by omega,by omega,by rw[<-Mx,FT,aiN];exact zP,by rw[jX];exact FS.dc⟩;let RR:p.fG=(oX Í y.m).2:=cE Prod.snd Ve;rw[<-RR] at O;refine⟨_,Á,bj ok.a TP.1 (TP.2 _ Ä) (UK p) ⟨p.sp,p.fG,Á,aa.of ok.sp,by omega,λm hm j7=>⟨_,_,rfl,rfl,_,rfl,a8 Ãu Ãu⟩⟩⟩
    .simp at iL;rw[af (vc.mpr ⟨m,hm,eJ iL⟩)] at O;exact k2 (aN O).symm S s9
    .simp at iL;rw[ah (λe=>by
      let(z',Ds,h2):=vc.mp e;let:=rO h2;let:=j7 z' Ds;omega)] at O
     rw[<-Ve,<-jX,<-mw] at O;let(r0,sY,er):=yr.mp O;let k3:=k1 r0.1 er.symm;clear O aiS k1 k2;let FU:=s9 _ _ qo;let Vf:=l4.same (s6.trans s8);let aiZ:=jG Vf;let ai0:=aU.same M.l s9;let FV:∀b o,S b=some Çe->b≠p.a/\b≠p.gp:=λb o e=>⟨λz=>(by rw[z,ok.a] at e;cases e),λz=>(by rw[z,ok.gp] at e;cases e)⟩;apply(_,Á,y.a,_,Á,aa.of FU,λD3 rB=>?_);let Cf:=apart_new ok rB;refine lI (K:=K) (a:=y.a) (xs:=y.ls.map λx=>V.ref x.a) (DsI CP D3 p S y z r0)
      ⟨p,[],r0,ai.x (aL rB),Am.upd Cf,rfl,rfl,rfl,sX.refl,Cf,aq,rfl,by simp,sY,rfl⟩ (λi Z _ h=>(by let(p2,zs,r2,W):=h;exact aa.of (W _ _ FU (FV _ _ FU).1 (FV _ _ FU).2))) ?_ ?_
     .rintro i v Tt Z hi ⟨p2,zs,r2,W,g2,ea,eg,es,ow,ap,MJ,MK,x8,j,wu⟩ hT;let(x,G,rfl):=iz hi;let d8:=(bO.mp G).1;obtain⟨u,hu⟩:∃u,z.ls[i]? =some u:=⟨_,dm Æ⟩;let U:=bZ G;let hum:=bZ hu;let Th:=mj ai0 U;let hu6:=mj Vf hum;let gU:(mv y.m z.m)[i]? =some (x.ns.zip u.ns):=by
       delta mv cb.m;rw[bW,(Hl (i:=i) (l₁:=y.ls.map cV.ns) (l₂:=z.ls.map cV.ns) (z:=(x.ns,u.ns))).mpr ⟨by rw[bW,G];rfl,by rw[bW,hu];rfl⟩];rfl
      rw[zN gU] at j;delta mr at j;cases e1:nY p.sames p2.st (x.ns.zip u.ns) with
      |none=>rw[e1] at j;cases j
      |some y1=>
       rw[e1] at j;dsimp only at j;cases e2:mr p.sames y1.2 ((mv y.m z.m).drop (i+1)) with
       |none=>rw[e2] at j;cases j
       |some y2=>
        rw[e2] at j;let j:=aN j;subst j;let Y:ai Z (upd Z Tt (.tup [.int (i:Nat),.ref x.a])):=aL hT;refine ß;generalize hHx:upd Z Tt (.tup [.int (i:Nat),.ref x.a])=Hx at Y;let kept:∀b o,S b=some Çe->Hx b=some Çe:=λb o e=>Y _ _ (W _ _ e (FV _ _ e).1 (FV _ _ e).2);apply(_,Á,_,Á,_,Á,_,Á,z.a,_,_,.ref u.a,Á,Á,aa.of (kept _ _ aiZ),fT (by rw[bW,hu];rfl),p2,x,u,y1,by rw[ea];rfl,g2.same Y,λq I=>?_,λq I=>?_,Vc i x u G hu,M.short x U,by rw[es];exact e1,λH8 p3 q g3 zU zV MF U5 zW zX ML ai3 ai4=>?_)
        .simp only[lsN,ba,mY,mZ] at I;subst I;exact kept _ _ Th
        .simp only[lsN,ba,mY,mZ] at I;subst I;exact kept _ _ hu6
        .let Cg:=Y _ _ MJ;let FW:=zW _ _ Cg ap.1 ap.2.1;let Cj:=MC ap zU zV zX (by rw[Cg];exact λz=>by cases z);let Vg:q≠D3:=λe=>by rw[e,Cg] at ML;cases ML
         let Vh:∀a,Hx a=none->S a=none:=λa h=>by
          cases e:S a with
          |none=>rfl
          |some o=>
           exfalso;let hn:=Y.free h;by_cases J:a=p.a
           .rw[J,<-ea,g2.ok.a] at hn;cases hn
           .by_cases h2:a=p.gp
            .rw[h2,<-eg,g2.ok.gp] at hn;cases hn
            .rw[W a o e J h2] at hn;cases hn
         apply(_,FW,by rw[aA];exact gV Æ,p3,zs++[⟨q,y1.1⟩],y2,λb o e J h2=>?_,g3.upd Cj,zU.trans ea,zV.trans eg,MF.trans es,λa ha=>?_,Cj,?_,by rw[mU,MK];rfl,λw hw=>?_,by rw[U5];exact e2,?_)
         .rw[ao (eK e rB)];exact zW _ _ (Y _ _ (W b o e J h2)) (by rw[ea];exact J) (by rw[eg];exact h2)
         .exact(zX a ha).elim (ow a) λh=>.inr (Vh a h)
         .rw[aq,bX];rfl
         .rcases gR.mp hw with hw|hw
          .let(w1,w2,w3,w5):=x8 w hw;let w4:=Y _ _ w1;apply(?_,MC w2 zU zV zX (by rw[w4];exact λz=>by cases z),w3,w5);rw[ao w5];exact zW _ _ w4 w2.1 w2.2.1
          .let:w=⟨q,y1.1⟩:=by simpa using hw
           subst this;apply(?_,ai4,Vh _ ML,Vg);rw[ao Vg];exact ai3
         .rw[bX,rP];exact wu
     .rintro Z ⟨p2,zs,r2,W,g2,ea,eg,es,ow,ap,MJ,MK,x8,j,wu⟩;rw[aA] at MK j;rw[Yp (by delta mv;rw[aA,List.length_zip,iA];omega)] at j;cases j;rw[jv] at wu;let sF:=λb o e=>W b o (s9 _ _ e) (λz=>(by rw[z,s7.free zo] at e;cases e)) (λz=>(by rw[z,s7.free FH] at e;cases e));apply k3 Z ⟨D3,zs⟩ sF wu (Um MJ λx G q I=>?_) (BV (s9.free rB) λx G q I=>?_)
      .simp only[lsN,ba,mY,mZ] at I;subst I;exact(x8 x G).1
      .simp only[lsN,ba,mY,mZ] at I;subst I;exact s9.free (x8 x G).2.2.1
end
def sZ(part:LI):Bool:=!(decide (part.length>64)||(JM.aI 32 part).contains [])&&part.all λb=>decide (32<=b)&&decide (b<=126)
inductive Vi(K:FR)(CB:Addr)(vs:au)(H:Hp)(Q:VK)(E:XK):Prop
 |mk (ap:Addr) (part:LI) (_:vs=[.ref ap]) (_:â ap Âz) (_:part.length<=100000) (_:(sZ part=true->∀H',ai H H'->Q Èp H')) (_:(sZ part=false->No E CB H))
theorem Vj{K:FR}{H:Hp}:∀{qs:LA}{L:di},eB H qs L->i3 K H Äc (L.map λl=>PyData.list (l.map PyData.int)):=by
 intro qs L j;induction j with
 |nil=>exact .nil
 |cons h t I=>
  exact .cons (.lst (aa.of h) (qR _)) I
theorem any_empty(L:di):((L.map λl=>PyData.list (l.map PyData.int)).any λd=>PyData.eqv d (.list []))=L.contains []:=by
 induction L with
 |nil=>rfl
 |cons l L I=>
  rw[a0,t7,I,An];congr 1;cases l <;> rfl
section
variable{P:Pg}{w:Wd}{K:FR}{mg:MG}{base:Heap}{CK CL CS N CV CP CB:Addr}{C:Cs}
def MM:bH ["part","byte"] ["part"] (aV Kr):=cw
def ai5{f:Addr}{fd:FD}(F:br K "read_meaning" "read_meaning" Kr f fd)(tL:mg "len"=none)(tA:mg "all"=none)(X:ſ "NoBook" CB N)(S:Cn mg "LONGEST_MEANING" (.int 64))(cB:Cn mg "BLANK" Åx)(cP:Cn mg "LAST_PRINTED" (.int 126))(W:Ç 1 "cut" ["text","mark"] (vQ K)):Ì Ĕ 2 f fd ["part"] (Vi K CB):=by
 refine F.qP MM Â;let(m,part,rfl,G,hl,k1,k2):=h;refine⟨_,aB (dq (PW.pt (pw_or (cI vw ą (b9 S) (bT _)) (pw_or1 (cI (IV (pz (Yc Ù _) hr.un)) ĳ (bz W (ae Ú Ϯ)) (by with_unfolding_all rfl))))) Ň d7)
  (aB (dq (pG (jx (c8 (vA rfl) Ô tA yu (ae (eF (own:=[("byte",1)]) (te:=HV (gf λi j=>.bl (decide (i<=j))) (gf λi j=>.bl (decide (i<=j))) (tC Åx) ϖ (tC (.int 126))) rfl MM.nd Åg Ë
   (λ_ _ _ _ _=>dJ 1 MM.nd) Ö (λ_ _ _ _ _=>P0 w9 w9 (b9 cB) á (b9 cP))) ag)))) Û d7)
  (aD (aY Ú))),?_⟩
 let em:sZ part=(!(decide (part.length>64)||(JM.aI 32 part).contains [])&&part.all λb=>decide (32<=b)&&decide (b<=126)):=rfl;refine⟨_,Á,m,_,Á,.inl G,_,_,Á,Á,_,Á,a8 Ï Ï⟩
 .let hc:part.length>64:=by
   grind
  apply kZ (gJ (k2 ?_));symm
 .let hc:¬part.length>64:=by
   grind
  apply(dY _,λl U=>⟨_,Á,m,32,part,Á,L2.ai.seq (aL U) G,hl,λO p qs J qg nd aQ fr=>?_⟩);let s1:ai H (Ϛ ã):=aL U;let s2:=s1.trans J.1;let ji:=J.1 _ _ aq;apply(p,_,_,.list [],Á,aa.of J.2.2,Vj qg,.lst (aa.of ji) .nil,λd hd=>?_,Á,_,Á,?_)
  .let(x,_,rfl):=cf.mp hd;exact shaped_ints x
  rw[any_empty];refine a8 Ãu Ãu
  .apply gJ ((k2 ?_).go s2);symm
  .let Y:sZ part=part.all λb=>decide (32<=b)&&decide (b<=126):=by
    symm
   refine⟨_,Á,m,Á,⟨_,s2.seq G⟩,λD hD=>gC (K:=K) (a:=m) (xs:=iv part) (cy O D λi v ns=>ns=[]/\∀b,part[i]? =some b->v=.bl (decide (32<=b)&&decide (b<=126))) ĉ (λi H' _ f=>(s2.trans f.same).seq G) Č ú⟩
   .let(z,hz,rfl):=sA hi;let d8:=(bO.mp hz).1;refine⟨Á,eO ⟨_,Á,_,_,Á,Á,_,Á,a8 Š Š⟩⟩
    .apply(_,_,Á,Á,?_);apply f.step hD Æ ĸ ⟨Á,λb hb=>?_⟩ aU.nil Ä;symm
    .apply f.step hD Æ ĸ ⟨Á,λb hb=>?_⟩ aU.nil Ä;grind
   .let(ys,s3,pY,M,fl):=f.end;rw[eZ] at M;let ey:ys=(part.map λb=>decide (32<=b)&&decide (b<=126)).map V.bl:=by
     rw[cQ];apply uH M λi y x h1 h2=>?_;let(ns,(_,e),_):=fl i y h1;symm
    apply(D,part.map λb=>decide (32<=b)&&decide (b<=126),Á,by rw[<-ey];exact aa.of pY,_,rfl,?_);rw[rM];let Z:part.all (id∘ λb=>decide (32<=b)&&decide (b<=126))=sZ part:=by rw[Y];rfl
    rw[Z];apply a8 (λI=>?_) (λI=>?_)
    .exact gJ ((k2 É).go Ĭ)
    .exact(_,Á,k1 É H' Ĭ)
end
abbrev keyOf(name:LI):dZ:=name.map Sum.inl
def Vk(name:LI):iv name=(keyOf name).map kV:=by
 delta iv keyOf;rw[cQ];rfl
theorem ai7(h:keyOf a=keyOf b):a=b:=by
 induction a generalizing b with
 |nil=>
  symm
 |cons x a I=>
  cases b with
  |nil=>cases h
  |cons y b=>
   grind
def jH(ms:aF)(i:Nat):Bool:=decide ((ms.getD i fk).role=0)
def tj(ms:aF)(n:Nat):List (LI×Nat):=((List.range n).filter (jH ms)).map λj=>((ms.getD j fk).name,j)
def jI(ms:aF)(name:LI):Option Nat:=(tj ms ms.length).foldl (λacc p=>if p.1=name then some p.2 else acc) none
def x9(ms:aF):List (dZ×V):=(tj ms ms.length).foldl (λacc p=>putK acc (keyOf p.1) (V.int ((p.2:Nat):Int))) []
def ai8(ms:aF)(name:LI):fW (x9 ms) (keyOf name)=(jI ms name).map λn=>V.int ((n:Nat):Int):=by
 delta x9 jI;let gen:∀(l:List (LI×Nat))(kvs:List (dZ×V))(acc:Option Nat),fW kvs (keyOf name)=acc.map (λn=>V.int ((n:Nat):Int))->
   fW (l.foldl (λacc p=>putK acc (keyOf p.1) (V.int ((p.2:Nat):Int))) kvs) (keyOf name)=(l.foldl (λacc p=>if p.1=name then some p.2 else acc) acc).map λn=>V.int ((n:Nat):Int):=by
  intro l;induction l with
  |nil=>intro kvs acc h;exact h
  |cons p l I=>
   intro kvs acc h;rw[Hm,Hm];apply I _ _ ?_;rw[abv];by_cases e:p.1=name
   .rw[af e,af (by rw[e])];rfl
   .rw[ah e,ah (λz=>e (ai7 z).symm)];exact h
 exact gen _ [] none Á
def Vl(ms:aF)(i:Nat):tj ms (i+1)=tj ms i++(if jH ms i=true then [((ms.getD i fk).name,i)] else []):=by
 delta tj;rw[BW,bX];grind
inductive Vm(CK:Addr)(vs:au)(H:Hp)(Q:VK)(E':XK):Prop
 |mk (pk:Addr) (ks:List az) (_:vs=[.ref pk]) (_:Ŭ ks) (_:∀H' p,Ϡ (.dT (x9 Í))->Q ģ H')
section
variable{P:Pg}{w:Wd}{K:FR}{mg:MG}{base:Heap}{CK CL CS N CV CP CB:Addr}{C:Cs}
def MN:bH ["kinds","number","kind"] ["kinds"] (aV Km):=cw
abbrev Vn(K:FR):au->Hp->VK->Prop:=λxs H Q=>∃p ys,xs=[.ref p]/\((â p ys/\∀l,H l=none->Q Äw (Ϛ Åw))\/(Ť p ys/\Q ģ H))
inductive NoI(D:Addr)(H:Hp)(ks:List az)(i:Nat)(H2:Hp):Prop
 |mk (ps:LA) (ts:List (dZ×Addr×V)) (_:ai H H2) (_:H2 D=some (.lst Áy)) (_:ps.length<=i) (_:Paired (λp(t:dZ×Addr×V)=>H2 p=some (.tup [.ref t.2.1,t.2.2])/\H2 t.2.1=some (.tup (t.1.map kV))) ps ts) (_:ts.map (λt=>(t.1,t.2.2))=(tj Í i).map λp=>(keyOf p.1,V.int ((p.2:Nat):Int)))
def aja(F:br K "numbers_of_signs" "numbers_of_signs" Km f fd)(T:sE K CK)(tD:mg "dict"=none)(tT:mg "tuple"=none)(tE:mg "enumerate"=none)(cS:Cn mg "SIGN" ŉ):Ì aE 1 f fd ["kinds"] (Vm CK):=by
 refine F.ok MN Â;let(pk,ks,rfl,hk,k):=h;let hkf:=hk.dc;refine⟨_,aD (aY (xc (adI (pz (Yc Ù _) hr.un) Á) Ô tD Uw (ae (eF (own:=[("number",1),("kind",2)]) (g:=g2 K 1 2) (tt:=ng (bU ox (gi K Ř "role") Äa))
   (te:=xb (bh (qI (Vn K) (bh (gi K Ř "name") dw)) (bh ϖ dw))) rfl MN.nd
   (Âo) Ë
   (λ_ _ _ _ _=>iE 1 2 MN.nd)
   (λ_ _ _ _ _=>pL (cI ic (bg ç rfl) Æv (bT _)))
   (λ_ _ _ _ _=>uf (ae (xc Qo Ô tT boot_tuple Ác) Ŕ))) ag))),?_⟩
 refine⟨_,Á,pk,_,Á,aa.of hk.a,λD hD=>lI (K:=K) (a:=pk) (xs:=ks.map λk=>V.ref k.a) (NoI D H ks)
  ⟨[],[],aL hD,aq,bJ _,.nil,rfl⟩ (λi I _ h=>(by let(_,_,j):=h;exact aa.of (j _ _ hk.a))) ?_ ?_⟩
 .rintro i v Tt I hi ⟨ps,ts,j,G,c9,M,J⟩ hT;let(b,hb,rfl):=iz hi;let d8:=(bO.mp hb).1;let S:ai I (upd I Tt (.tup [.int (i:Nat),.ref b.a])):=aL hT;let s3:=j.trans S;let U:=(nH hk.l Çu).same s3;let Y:(ks.map az.m).getD i fk=b.m:=getD_map hb;refine î;refine⟨_,Á,bj (jn U) T.c T.vW (vV b) Ĳ⟩;rw[show V.int 0=V.int ((0:Nat):Int) from rfl,lW];generalize hHx:upd I Tt (.tup [.int (i:Nat),.ref b.a])=Hx at S s3 U;refine a8 Ï Ï
  .apply(_,Á,bj (jn U) T.c T.nName (Tb b) ⟨b.nm,_,Á,.inl ⟨aa.of (Tr U),λl hl=>⟨_,Á,(by show 2<=sizeLine;decide),λt O=>?_⟩⟩⟩);let s4:=aL (o:=.tup (iv b.m.name)) hl;let W:=S.trans (s4.trans (aL (o:=.tup [.ref l,.int (i:Nat)]) O));let bQ:l≠t:=λz=>by rw[<-z,aq] at O;cases O
   let B5:=S.free (s4.free O);let Z:l≠D:=λz=>by rw[z,S _ _ G] at hl;cases hl
   let Mp:t≠D:=λz=>by rw[z,G] at B5;cases B5
   apply(_,W _ _ G,by rw[aA];exact gV Æ,ps++[t],ts++[(keyOf b.m.name,l,V.int ((i:Nat):Int))],qS (j.trans W) hD,?_,?_,?_,?_)
   .rw[aq,bX];rfl
   .symm
   .refine Paired.snoc (Paired.lS M λp t' e=>Áj) Áj
    .rw[ao (λz=>by simp_all)];exact W _ _ e.1
    .rw[ao (λz=>by simp_all)];exact W _ _ e.2
    .rw[ao Mp];exact aq
    .rw[ao Z,ao bQ,aq,Vk]
   .rw[bX,J,Vl,af (show jH Í i=true by delta jH;rw[Y];exact hc),bX,Y];rfl
  .apply(ps,ts,j.trans S,S _ _ G,Nat.le_succ_of_le c9,Paired.lS M λp t e=>⟨S _ _ e.1,S _ _ e.2⟩,?_);rw[J,Vl,ah (show ¬jH Í i=true by delta jH;rw[Y];exact hc),jv]
 .rintro I ⟨ps,ts,j,G,c9,M,J⟩;rw[aA] at J;apply(D,ps,ts,Á,aa.of G,M,λp hp=>?_);apply k _ p ⟨j.trans (aL hp),j.free hp,?_⟩;rw[aq];let em:qT [] ts=x9 Í:=by
   let e1:qT [] ts=(ts.map λt=>(t.1,t.2.2)).foldl (λacc p=>putK acc p.1 p.2) []:=by
    delta qT;rw[List.foldl_map]
   rw[e1,J,List.foldl_map];delta x9;simp
  rw[em]
end
def oV:Option Nat->V
 |none=>.aJ
 |some n=>.int ((n:Nat):Int)
def o5(ms:aF)(part:LI):List (Option Nat):=(JM.aI 46 part).map (jI ms)
def wy(ms:aF)(part:LI):Option LN:=if (o5 ms part).length>8\/(o5 ms part).contains none=true then none else some ((o5 ms part).map λo=>o.getD 0)
inductive Vo(K:FR)(CB:Addr)(vs:au)(H:Hp)(Q:VK)(E:XK):Prop
 |mk (ap pn:Addr) (ms:aF) (part:LI) (_:vs=[.ref ap,.ref pn]) (_:â ap Âz) (_:part.length<=100000) (_:H pn=some (.dT (x9 ms))) (_:(∀row,wy ms part=some row->∀H' p,Ϡ Ãs->Q ģ H')) (_:(wy ms part=none->No E CB H))
def ajc(l:List (Option Nat)):(l.map oV).all lG=true:=by
 rw[rM];exact lx.mpr λo _=>by cases o <;> rfl
theorem ajd(l:List (Option Nat)):vy .aJ (l.map oV)=l.contains none:=by
 delta vy;rw[OR];induction l with
 |nil=>rfl
 |cons o l I=>
  rw[t7,An,I];congr 1;cases o <;> rfl
section
variable{P:Pg}{w:Wd}{K:FR}{mg:MG}{base:Heap}{CK CL CS N CV CP CB:Addr}{C:Cs}
def MO:bH ["part","numbers","row","name"] ["part","numbers"] (aV Kq):=cw
def aje(F:br K "read_signs" "read_signs" Kq f fd)(tL:mg "len"=none)(tT:mg "tuple"=none)(X:ſ "NoBook" CB N)(cF:Cn mg "MOST_FLAGS" (.int 8))(cS:Cn mg "FULL_STOP" (.int 46))(dC:Ç 1 "cut" ["text","mark"] (vQ K)):Ì Ĕ 2 f fd ["part","numbers"] (Vo K CB):=by
 refine F.qP MO Â;let(Z,pn,ms,part,rfl,hP,hl,Y,k1,k2):=h;let hu:A.units+3+1<cLine:=pz Ä hr.un;refine⟨_,aB (um (i:=2) (own:=[("name",3)]) (te:=QY ϖ (qI (Vn K) Ât)) Á MO.nd Á Á Ô (eX (bz dC (ae Ú (ae Æv ag)))) Ë
   (λ_ _ _ _ _=>dJ 3 MO.nd) Ö (λ_ _ _ _ _=>abM hu á (xc Qo Ô tT boot_tuple ı) ⟨rfl,rfl,rfl,rfl⟩))
  (aB (dq (PW.pt (pw_or (cI vw û (b9 cF) (bT _)) (pw_or1 (cI Ih qD ç (by with_unfolding_all rfl))))) Û d7)
  Æw),?_⟩
 refine⟨_,Á,Z,46,part,Á,hP,hl,λH1 p O j G nd aQ fr=>⟨p,Á,⟨_,aa.of j.2.2⟩,λD hD=>gC (K:=K) (a:=p) (xs:=O.map V.ref) (cy H1 D λi v ns=>ns=[]/\∀x,(JM.aI 46 part)[i]? =some x->v=oV (jI ms x)) ĉ (λi H' _ f=>aa.of (f.same _ _ j.2.2)) Č ú⟩⟩
 .rw[bW] at hi;cases eq:O[i]? with
  |none=>symm
  |some q=>
   rw[eq] at hi;cases hi;let(x,hx,hq):=eB.get G eq;let d8:=(bO.mp eq).1;let gH:=EG 46 part;let wc:=G.len;let I:=f.same _ _ (j.1 _ _ Y);apply(Á,eO ⟨_,Á,pn,Á,.inr ⟨_,.inl I⟩,_,Á,q,_,Á,.inl ⟨aa.of (f.same _ _ hq),λl U=>⟨_,jO.t (k:=keyOf x) ((aL U) _ _ I) (by rw[aq,Vk]),?_⟩⟩⟩);rw[ai8];apply f.step hD Æ (aL U) ⟨Á,λx' W=>?_⟩ aU.nil Ä;rw[hx] at W;cases W;cases jI ms x <;> rfl
 .let(ys,s1,m,J,fl):=f.end;rw[aA,G.len] at J;let ey:ys=(o5 ms part).map oV:=by
   delta o5;rw[cQ];apply uH J λi y x h1 h2=>?_;let(ns,(_,e),_):=fl i y h1;symm
  subst ey;let S:=j.1.trans s1;let M:wy ms part=if (o5 ms part).length>8\/(o5 ms part).contains none=true then none else some ((o5 ms part).map λo=>o.getD 0):=rfl;generalize o5 ms part=L at m M;refine⟨_,Á,D,_,Á,.inl (aa.of m),_,_,Á,Á,_,Á,a8 Ï Ï⟩
  .let hc:L.length>8:=by
    grind
   apply kZ (gJ ((k2 ?_).go S));symm
  .let hc:¬L.length>8:=by
    grind
   apply(_,Á,D,_,Á,.inl (aa.of m),Á,ajc L,_,Á,?_);rw[ajd];refine a8 Ãu Ãu
   .apply gJ ((k2 ?_).go S);symm
   .apply(_,Á,k1 _ (by rw[M,ah (λz=>z.elim hc iL)]) H' D ⟨S,j.1.free hD,?_⟩);rw[m];congr 2;delta iv nv;rw[cQ,cQ];apply kq λo ho=>?_;cases o with
    |none=>symm
    |some n=>rfl
end
structure bq where
 a:Addr
 dx:Addr
 rw:Addr
 mn:Addr
 row:LN
 MQ:LI
def FX(e:bq):List (Str×V):=[("row",.ref e.rw),("meaning",.ref e.mn)]
def o6(CE:Addr)(e:bq):jl:=[(e.a,.ins CE e.dx (FX e)),(e.rw,.lst Çi),(e.mn,.lst (iv e.MQ))]
def bq.m(e:bq):LN×LI:=(e.row,e.MQ)
def Cm(e:bq):(FX e).lookup ("row":Str)=some (.ref e.rw):=il
def Co{CE:Addr}{H:Hp}{e:bq}(h:aU H Äe):H e.a=some (.ins CE e.dx (FX e)):=h (e.a,_) (by simp[o6])
def Cp{CE:Addr}{H:Hp}{e:bq}(h:aU H Äe):H e.rw=some (.lst Çi):=h (e.rw,_) (by simp[o6])
def ajf{CE:Addr}{H:Hp}{e:bq}(m:H e.a=some (.ins CE e.dx (FX e)))(h2:H e.rw=some (.lst Çi))(F:H e.mn=some (.lst (iv e.MQ))):aU H Äe:=λz j=>by
 simp only[o6,ba,mY,mZ] at j;rcases j with rfl|rfl|rfl
 .exact m
 .exact h2
 .exact F
def ajg{CE:Addr}{H:Hp}{e:bq}(m:H e.a=none)(h2:H e.rw=none)(F:H e.mn=none):i8 H Äe:=λz j=>by
 simp only[o6,ba,mY,mZ] at j;rcases j with rfl|rfl|rfl
 .exact m
 .exact h2
 .exact F
def iB(ms:aF)(line:LI):Option (LN×LI):=if line.contains 32=true then
  match wy ms (line.take (line.idxOf 32)) with
  |none=>none
  |some row=>if sZ (line.drop (line.idxOf 32+1))=true then some (row,line.drop (line.idxOf 32+1)) else none
 else none
inductive MR(K:FR)(CB CE:Addr)(vs:au)(H:Hp)(Q:VK)(E:XK):Prop
 |mk (ap pn:Addr) (ms:aF) (line:LI) (_:vs=[.ref ap,.ref pn]) (_:â ap Åu) (_:line.length<=100000) (_:H pn=some (.dT (x9 ms))) (_:(∀x,iB ms line=some x->∀H' e,ai H H'->bq.m e=x->aU H' Äe->i8 H Äe->Q (.ref e.a) H')) (_:(iB ms line=none->No E CB H))
section
variable{P:Pg}{w:Wd}{K:FR}{mg:MG}{base:Heap}{CK CL CS N CV CP CB CE fh:Addr}{C:Cs}
def Vq:bH ["line","numbers","end"] ["line","numbers"] (aV Ko):=cw
def ajh{f:Addr}{fd:FD}(F:br K "read_entry" "read_entry" Ko f fd)(X:ſ "NoBook" CB N)(cB:Cn mg "BLANK" Åx)(dE:Ă "Entry" CE ["row","meaning"])(dS:Ĉ Ĕ 2 "read_signs" ["part","numbers"] (Vo K CB)) (dM:Ĉ Ĕ 2 "read_meaning" ["part"] (Vi K CB)):Ì Ĕ 3 f fd ["line","numbers"] (MR K CB CE):=by
 let(fS,xH,GS,mS,kS,bS):=dS;let(fM,fdM,GM,mM,kM,bM):=dM;refine F.qP Vq Â;let(M,pn,ms,line,rfl,I,hl,MP,k1,k2):=h;refine⟨_,aB (dq (cI aaD (b9 cB) Ú (by with_unfolding_all rfl)) Ň d7)
  (aB (cj 2 Vq.nd (si PySem.F.plainAttrs_list PySem.F.slot_list_index PySem.F.type_list_index QB Ú Ϯ))
  (aD (aY (p9 dE hr (ae (lY GS hr rfl mS kS bS .nil qO (ae (xh xi Ú xf (xg ç)) Ŕ)) (ae (lY GM hr rfl mM kM bM .nil qO (ae (xh xi Ú (xg (eM qG ç bo)) xf) ag)) ag)))))),?_⟩
 let m:iB ms line=if line.contains 32=true then (match wy ms (line.take (line.idxOf 32)) with
  |none=>none
  |some row=>if sZ (line.drop (line.idxOf 32+1))=true then some (row,line.drop (line.idxOf 32+1)) else none) else none:=rfl
 apply(_,Á,M,_,Á,.inl I,Á,BD _,_,Á,?_);rw[KH];refine a8 Ï Ï
 .let hc:¬line.contains 32=true:=by simpa using hc
  exact gJ (k2 É)
 .let hc:line.contains 32=true:=by simpa using hc
  rw[af hc] at m;let(j,zz,ej,hj,KI,BE):=Sy hc;let vz:j<line.length:=by
   grind
  apply(_,Á,.inl ⟨Á,_,I⟩,M,_,_,j,zz,Á,Á,I,Á,BD _,hj,KI,BE,?_);let ej:line.idxOf 32=j:=by omega
  rw[ej] at m;apply(_,Á,_,Á,_,Á,M,_,Á,I,λG uz=>?_);rw[Tp _ (show j<=(iv line).length by grind),show(iv line).take j=iv (line.take j) by simp];let S:ai H (upd H G ϗ):=aL uz;let Vr:(upd H G ϗ) G=some ϗ:=aq;generalize upd H G ϗ=H1 at S Vr;apply(_,Á,G,pn,ms,line.take j,Á,aa.of Vr,by grind,S _ _ MP,λrow U J p W=>?_,λU=>?_)
  .rw[U] at m;dsimp only at m;let s2:=S.trans W.1;apply(_,Á,_,Á,_,_,Á,Á,_,Á,M,_,Á,s2.seq I,λz iL=>?_);rw[show((j:Int)+1)=((j+1:Nat):Int) from rfl,BI _ (show j+1<=(iv line).length by grind),show(iv line).drop (j+1)=iv (line.drop (j+1)) by simp];let s3:ai J (upd J z (.lst (iv (line.drop (j+1))))):=aL iL;let O:(upd J z (.lst (iv (line.drop (j+1))))) z=some (.lst (iv (line.drop (j+1)))):=aq;generalize upd J z (.lst (iv (line.drop (j+1))))=H3 at s3 O;apply(z,line.drop (j+1),Á,aa.of O,by grind,λem H4 Y=>?_,λem=>?_)
   .rw[af em] at m;apply vX Á λx dx H5 hx i5 aQ e5 Z=>?_;let s6:=s2.trans (s3.trans Y);refine k1 _ m H5 ⟨x,dx,p,z,row,line.drop (j+1)⟩ (s6.trans Z) Á (ajf e5 (Z _ _ (Y _ _ (s3 _ _ W.2.2))) (Z _ _ (Y _ _ O))) (ajg (s6.free hx) (S.free W.2.1) (s2.free iL))
   .rw[ah É] at m;exact(k2 m).go Ĭ
  .rw[U] at m;exact(k2 m).go S
end
def uT(r s:LN):Bool:=if ((r.length:Nat):Int)=((s.length:Nat):Int) then HT.lexLt (nv r) (nv s) else decide (((r.length:Nat):Int)<((s.length:Nat):Int))
def zY(rows:bp):Bool:=(rows.zip (rows.drop 1)).all λp=>uT p.1 p.2
structure ya(CE:Addr)(H:Hp)(p:Addr)(es:List bq):Prop where
 a:H p=some (.lst (es.map λe=>V.ref e.a))
 l:∀e∈es,aU H Äe
 dc:es.length<=2048
def ya.same{CE:Addr}{H H':Hp}{p:Addr}{es:List bq}(h:ya CE H p es)(s:ai H H'):ya CE H' p es:=⟨s _ _ h.a,λe j=>(h.l e j).same s,h.dc⟩
inductive Vs(CE:Addr)(vs:au)(H:Hp)(Q:VK)(E':XK):Prop
 |mk (p:Addr) (es:List bq) (_:vs=[.ref p]) (_:ya CE H p es) (_:∀H',ai H H'->Q (.bl (zY Ãe)) H')
def Cq(row:LN)(rw p:Addr):jl:=[(p,.tup [.int ((row.length:Nat):Int),.ref rw])]
section
variable{P:Pg}{w:Wd}{K:FR}{mg:MG}{base:Heap}{CK CL CS N CV CP CB CE fh:Addr}{C:Cs}
def zZ:bH ["entries","places","entry","before","place"] ["entries"] (aV Ks):=cw
def aji(F:br K "are_in_order" "are_in_order" Ks f fd)(T:lg K CE ["row","meaning"])(tL:mg "len"=none)(tA:mg "all"=none)(tE:mg "enumerate"=none):Ì aE 1 f fd ["entries"] (Vs CE):=by
 refine F.ok zZ Â;let(p,es,rfl,G,k):=h;let hu:A.units+3+128<cLine:=by let:=hr.un;exact pz Ä this
 refine⟨_,aB (cj 1 zZ.nd (eF (own:=[("entry",2)]) (te:=xb (bh (qI (λxs H Q=>∃p ys,xs=[.ref p]/\(â p ys\/bu K H p ys)/\Q (.int ((ys.length:Nat):Int)) H) (bh (gi K Ř "row") dw)) (bh (gi K Ř "row") dw))) Á zZ.nd Åg Ë
   (λ_ _ _ _ _=>dJ 2 zZ.nd) Ö (λ_ _ _ _ _=>uf (ae (c8 fU Ô tL PySem.boot_len Ác) Ác))))
  (aD (aY (c8 (vA rfl) Ô tA yu (ae (eF (own:=[("before",3),("place",4)]) (g:=g2 K 3 4) (te:=bU (RW K) (bU ύ ϖ ŗ) Ãp) rfl zZ.nd
   (kY Ô tE (ae (xh xi á (xg bo) xf) ag)) Ë
   (λ_ _ _ _ _=>iE 3 4 zZ.nd) Ö
   (λ_ _ _ _ _=>jy (adP hu) (cA cY á ö Ø) İ (bT _))) ag)))),?_⟩
 let hf:=G.dc;refine⟨_,Á,p,Á,⟨_,aa.of G.a⟩,λD hD=>gC (K:=K) (a:=p) (xs:=es.map λe=>V.ref e.a) (cy H D λi y ns=>∃b:bq×Addr,es[i]? =some b.1/\y=.ref b.2/\ns=Cq b.1.row b.1.rw b.2) ĉ (λi H' _ f=>aa.of (f.same _ _ G.a)) Č ú⟩
 .let(e,I,rfl):=iz hi;let d8:=(bO.mp I).1;let m:=(G.l e (bZ I)).same f.same;apply(Á,eO ⟨_,Á,bj (Co m) T.1 (T.2 _ Ä) (Cm e) ⟨e.rw,_,Á,.inl (aa.of (Cp m)),_,Á,bj (Co m) T.1 (T.2 _ Ä) (Cm e) ⟨(by show 2<=sizeLine;decide),λt ht=>?_⟩⟩⟩);apply f.step hD Æ (aL ht) ⟨(e,t),I,Á,Á⟩ ?_ ?_
  .intro z j;simp only[Cq,mV] at j;subst j;rw[aq];simp
  .intro z j;simp only[Cq,mV] at j;subst j;let(ys,_,hd,_):=f.end;grind
 .let(ys,Z,hd,m,fl):=f.end;let(bs,rfl,r1,l1):=xQ (v:=λb:bq×Addr=>V.ref b.2) (nd:=λb=>Cq b.1.row b.1.rw b.2) (R:=λi b=>es[i]? =some b.1) fl;rw[aA,aA] at m;let M:∀(i:Nat)(b:bq×Addr),bs[i]? =some b->H' b.2=some (.tup [.int ((b.1.row.length:Nat):Int),.ref b.1.rw])/\H' b.1.rw=some (.lst (iv (nv b.1.row))):=λi b hb=>⟨l1 b Çu (b.2,.tup [.int ((b.1.row.length:Nat):Int),.ref b.1.rw]) (by simp[Cq]),Z _ _ (Cp (G.l b.1 (bZ (r1 i b hb))))⟩;let ebs:bs.map Prod.fst=es:=by
   apply wQ;grind
  apply(_,Á,_,Á,D,_,Á,aa.of hd,λc hc=>?_);let ex:oA (bs.map λb=>V.ref b.2) (some 1) none=(bs.drop 1).map λb=>V.ref b.2:=by
   by_cases j:1<=bs.length
   .rw[show(1:Int)=((1:Nat):Int) from rfl,BI _ É,O4]
   .let:bs=[]:=by
     symm
    rw[this];rfl
  rw[ex];let s2:=aL (o:=.lst ((bs.drop 1).map λb=>V.ref b.2)) hc;let J:(upd H' c (.lst ((bs.drop 1).map λb=>V.ref b.2))) c=some (.lst ((bs.drop 1).map λb=>V.ref b.2)):=aq;generalize upd H' c (.lst ((bs.drop 1).map λb=>V.ref b.2))=H2 at s2 J;apply(c,_,Á,aa.of J,λO cJ=>lI (K:=K) (a:=c) (xs:=(bs.drop 1).map λb=>V.ref b.2) (cy H2 O λi y ns=>ns=[]/\∃a b,bs[i]? =some a/\bs[i+1]? =some b/\y=.bl (uT a.1.row b.1.row)) Ão (λi H3 _ f=>aa.of (f.same _ _ J)) (λi y Tt H3 hi f hT=>?_) Æc)
  .let(b,hb,rfl):=iz hi;rw[Yd] at hb;let hb:bs[i+1]? =some b:=by rw[<-hb];congr 1;omega
   let hib:=(bO.mp hb).1;obtain⟨a,Y⟩:∃a,bs[i]? =some a:=⟨_,dm Æ⟩;let s3:ai H3 (upd H3 Tt (.tup [.int (i:Nat),.ref b.2])):=aL hT;let S:=(s2.trans f.same).trans s3;let W:=M i a Y;let U:=M _ b hb;refine ß;apply(_,Á,_,Á,D,_,(i:Int),.ref a.2,Á,Á,aa.of (S _ _ hd),fT É,_,Á,a.2,b.2,a.1.rw,b.1.rw,_,_,nv a.1.row,nv b.1.row,Á,Á,bu.of (S _ _ W.1),bu.of (S _ _ U.1),aa.of (S _ _ W.2),aa.of (S _ _ U.2),?_);exact f.step cJ Æ s3 ⟨Á,a,b,Y,hb,Á⟩ aU.nil Ä
  .let(ys,s3,pY,Fe,fl):=f.end;let j:((es.map bq.row).zip ((es.map bq.row).drop 1)).length=ys.length:=by
    symm
   let ey:ys=(((es.map bq.row).zip ((es.map bq.row).drop 1)).map λp=>uT p.1 p.2).map V.bl:=by
    rw[cQ];apply uH j.symm λi y x h1 h2=>?_;let(ns,(_,a,b,ea,eb,e),_):=fl i y h1;grind
   apply(O,_,Á,by rw[<-ey];exact aa.of pY,?_);let q:=k H3 (Z.trans Ĭ);rw[rM];exact q
end
def z4(h:H y.a=some (.lst (y.ls.map λx=>V.ref x.a)))(h2:∀x∈y.ls,H x.a=some ź):aU H Ær:=λz j=>by
 rcases ba.mp j with rfl|j
 .exact h
 .let(x,m,j):=kC.mp j;simp only[lsN,mV] at j;symm
def j0(ms:aF)(row:LN):Bool:=match nZ ms [row] with
 |some (some _)=>true
 |_=>false
structure FZ(ms:aF)(rows:bp):Prop where
 short:∀r∈rows,r.length<=8
 lt:∀r∈rows,∀s∈r,s<ms.length
 sg:∀r∈rows,∀s∈r,jH ms s=true
inductive Vu(CK CE:Addr)(vs:au)(H:Hp)(Q:VK)(E':XK):Prop
 |mk (pk:Addr) (ks:List az) (p:Addr) (es:List bq) (_:vs=[.ref pk,.ref p]) (_:Ŭ ks) (_:wx Í) (_:ya CE H p es) (_:FZ Í Ãe) (_:(∀e∈es,nZ Í [e.row]≠none)) (_:∀H',ai H H'->Q (.bl ((es.map bq.row).all (j0 Í))) H')
section
variable{P:Pg}{w:Wd}{K:FR}{mg:MG}{base:Heap}{CK CL CS N CV CP CB CE fh:Addr}{C:Cs}
def MT:bH ["kinds","entries","entry"] ["kinds","entries"] (aV Ku):=cw
def ajj(F:br K "can_be_shown" "can_be_shown" Ku f fd)(T:lg K CE ["row","meaning"])(tA:mg "all"=none)(Y:Ç 4 "display_told" ["kinds","rows"] (FQ CK)):Ì aE 5 f fd ["kinds","entries"] (Vu CK CE):=by
 refine F.ok MT Â;let(pk,ks,p,es,rfl,hk,hm,I,O,hd,k):=h;refine⟨_,aD (aY (c8 (vA Á) Ô tA yu (ae (eF (own:=[("entry",2)]) (te:=Pu (g9 (FQ CK) [] E0 (bh ώ (bh (yM (bh (gi K Ř "row") dw)) dw)))) Á MT.nd Æp Ë
   (λ_ _ _ _ _=>dJ 2 MT.nd) Ö (λ_ _ _ _ _=>Px (HG (bz Y (ae Ú (ae (eE Ác) ag)))))) ag))),?_⟩
 let hf:=I.dc;refine⟨_,Á,p,Á,⟨_,aa.of I.a⟩,λD hD=>gC (K:=K) (a:=p) (xs:=es.map λe=>V.ref e.a) (cy H D λi y ns=>ns=[]/\∃e,es[i]? =some e/\y=.bl (j0 Í e.row)) ĉ (λi H' _ f=>aa.of (f.same _ _ I.a)) Č ú⟩
 .let(e,G,rfl):=iz hi;let d8:=(bO.mp G).1;let J:=bZ G;let j:=(I.l e J).same f.same;apply(Á,eO ⟨_,Á,_,Á,bj (Co j) T.1 (T.2 _ Ä) (Cm e) ⟨(by show 1<=sizeLine;decide),λl W=>?_⟩⟩);let s1:ai H' (upd H' l (.lst [.ref e.rw])):=aL W;let S:(upd H' l (.lst [.ref e.rw])) l=some (.lst [.ref e.rw]):=aq;generalize upd H' l (.lst [.ref e.rw])=H1 at s1 S;cases ed:nZ Í [e.row] with
  |none=>symm
  |some r=>
   let hrw:=O.short e.row (cf.mpr ⟨e,J,rfl⟩);apply(pk,ks,⟨l,[⟨e.rw,e.row⟩]⟩,r,Á,(hk.same f.same).same s1,hm,⟨z4 S Ás,Ä,Ás,Ás⟩,(by simp[cb.m];omega),ed,λhs M U z s2 ez lz fz=>?_,λM U s2=>?_)
   .obtain rfl:x=_:=by simpa using hx
    exact s1 _ _ (Cp j)
   .grind
   .obtain rfl:x=_:=by simpa using hx
    intro s hs;let:=O.lt e.row (cf.mpr ⟨e,J,rfl⟩) s hs;symm
   .exact f.step hD Æ Àx ⟨Á,e,G,by delta j0;rw[ed,M];rfl⟩ aU.nil Ä
   .exact f.step hD Æ Àx ⟨Á,e,G,by delta j0;rw[ed,M];rfl⟩ aU.nil Ä
 .let(ys,s1,fw,j,fl):=f.end;rw[aA] at j;let Z:ys=((es.map bq.row).map (j0 Í)).map V.bl:=by
   rw[cQ,cQ];apply uH j λi y x h1 h2=>?_;let(ns,(_,e,ee,rfl),_):=fl i y h1;symm
  apply(D,_,Á,by rw[<-Z];exact aa.of fw,?_);symm
end
def i9(ms:aF):di->Option (List (LN×LI))
 |[]=>some []
 |l::r=>match iB ms l,i9 ms r with
  |some e,some es=>some (e::es)
  |_,_=>none
theorem ajk{ms:aF}{r:di}:∀{l:LI},l∈r->iB ms l=none->i9 ms r=none:=by
 induction r with
 |nil=>intro l h;cases h
 |cons x r I=>
  intro l h e;delta i9;rcases ba.mp h with rfl|h
  .rw[e]
  .rw[I h e];cases iB ms x <;> rfl
theorem ajl{ms:aF}{r:di}:∀{es:List (LN×LI)},es.length=r.length->(∀(i:Nat)l e,r[i]? =some l->es[i]? =some e->iB ms l=some e)->i9 ms r=some es:=by
 induction r with
 |nil=>
  intro ms h _;cases ms with
  |nil=>rfl
  |cons _ _=>cases h
 |cons l r I=>
  intro es h k;cases es with
  |nil=>cases h
  |cons m es=>
   delta i9;rw[k 0 l m rfl rfl,I (es:=es) (À h) λi l m j h2=>k (i+1) l m j h2]
def F1(ms:aF)(nm:LI):Option (List (LN×LI))->Option (LI×List (LN×LI))
 |some es=>if (zY (es.map (·.1))&&(es.map (·.1)).all (j0 ms))=true then some (nm,es) else none
 |none=>none
def MU(name:LI)(ms:aF)(j m:Option LI)(r:di):Option (LI×List (LN×LI)):=match j with
 |none=>none
 |some nm=>if m=some name then F1 ms nm (i9 ms r) else none
def book1(name:LI)(ms:aF):Option di->Option (LI×List (LN×LI))
 |some (l::f::r)=>if r.length<=2048 then MU name ms (fg (codes "book") l) (fg (codes "for") f) r else none
 |_=>none
def j3(name:LI)(ms:aF)(j:LI):Option (LI×List (LN×LI)):=book1 name ms (jD j)
theorem ajm(p:α->β->Prop)[∀x y,Decidable (p x y)](y:β)(f:α->Nat)(R:Nat->Prop)(l:List α):∀(acc:Option Nat),(∀x∈l,R (f x))->(∀m,acc=some m->R m)->∀m,l.foldl (λacc x=>if p x y then some (f x) else acc) acc=some m->R m:=by
 induction l with
 |nil=>exact @λacc _ h m e=>h m e
 |cons x l I=>
  intro acc F h m e;apply I _ (λz G=>F z (aO _ G)) (λM j=>?_) m e;dsimp only at j;split at j
  .cases j;exact F x Ä
  .exact h M j
def ajn{ms:aF}{name:LI}{n:Nat}(h:jI ms name=some n):n<ms.length/\jH ms n=true:=by
 delta jI at h;refine ajm (λ(p:LI×Nat)(nm:LI)=>p.1=nm) name (λp=>p.2) (λn=>n<ms.length/\jH ms n=true) (tj ms ms.length) none Ás (λm e=>(by cases e)) n h;delta tj at hx;let(j,F,rfl):=cf.mp hx;let(z,h2):=j8.mp F;exact(À z,h2)
def ajo{ms:aF}{part:LI}{row:LN}(h:wy ms part=some row):row.length<=8/\∀s∈row,s<ms.length/\jH ms s=true:=by
 delta wy at h;by_cases hc:(o5 ms part).length>8\/(o5 ms part).contains none=true
 .grind
 .rw[ah hc] at h;let h:=(aN h).symm;subst h;apply(?_,λs hs=>?_)
  .symm
  .let(o,j,rfl):=cf.mp hs;cases o with
   |none=>symm
   |some n=>
    delta o5 at j;let(x,_,e):=cf.mp j;exact ajn e
def MV(h:iB ms line=some e):e.1.length<=8/\∀s∈e.1,s<ms.length/\jH ms s=true:=by
 delta iB at h;split at h
 .split at h
  .symm
  .rename_i row j;split at h
   .let h:=(aN h).symm;subst h;exact ajo j
   .symm
 .cases h
structure qu where
 a:Addr
 dx:Addr
 nm:Addr
 el:Addr
 name:LI
 es:List bq
def Vw(b:qu):List (Str×V):=[("name",.ref b.nm),("entries",.ref b.el)]
def Vx(b:qu):(Vw b).lookup ("entries":Str)=some (.ref b.el):=(fY Ê).trans il
structure yb(fh CE:Addr)(H:Hp)(b:qu):Prop where
 a:H b.a=some (.ins fh b.dx (Vw b))
 n:H b.nm=some (.lst (iv b.name))
 e:ya CE H b.el b.es
def yb.same{fh CE:Addr}{H H':Hp}{b:qu}(h:yb fh CE H b)(s:ai H H'):yb fh CE H' b:=⟨s _ _ h.a,s _ _ h.n,h.e.same s⟩
def qu.m(b:qu):LI×List (LN×LI):=(b.name,b.es.map bq.m)
structure uU(CL CK:Addr)(H:Hp)(l:uF):Prop where
 lies:aU H Ãk
 dc:l.kinds.length<=66000
 look:∀k∈l.kinds,iM k.m.look
 ms:wx Ñ
 sh:∀rows,(∀r∈rows,∀s∈r,jH Ñ s=true)->nZ Ñ rows≠none
def uU.same(h:uU CL CK H l)(s:ai H H'):uU CL CK H' l:=⟨h.lies.same s,h.dc,h.look,h.ms,h.sh⟩
def uU.ks(h:uU CL CK H l):oQ CK H l.kl l.kinds:=⟨ahr h.lies,ahs h.lies,by let:=h.dc;omega,h.look⟩
inductive Vy(K:FR)(CL CK CB CE fh:Addr)(vs:au)(H:Hp)(Q:VK)(E:XK):Prop
 |mk (l:uF) (ap:Addr) (bC:LI) (_:vs=[.ref l.a,.ref ap]) (_:uU CL CK H l) (_:â ap (iv bC)) (_:bC.length<=66000) (_:(∀x,j3 l.name Ñ bC=some x->∀H' b,ai H H'->qu.m b=x->yb fh CE H' b->FZ Ñ Ü->Q Çd H')) (_:(j3 l.name Ñ bC=none->No E CB H))
section
variable{P:Pg}{w:Wd}{K:FR}{mg:MG}{base:Heap}{CK CL CS N CV CP CB CE fh:Addr}{C:Cs}
def z5:bH ["locker","text","lines","name","numbers","entries","line"] ["locker","text"] (aV Kl):=cw
def ajp{f:Addr}{fd:FD}(F:br K "read_book" "read_book" Kl f fd)(X:ſ "NoBook" CB N)(TL:lg K CL ["name","kinds"])(tL:mg "len"=none)(cT:Cn mg "TITLE_LINES" (.int 2))(cM:Cn mg "MOST_ENTRIES" (.int 2048))(dW:Ç 2 "whole_lines" ["text"] (Le K)) (dN:Ç 4 "name_behind" ["title","line"] (Ld K)) (dU:Ç 1 "numbers_of_signs" ["kinds"] (Vm CK)) (dE:Ĉ Ĕ 3 "read_entry" ["line","numbers"] (MR K CB CE))(dO:Ç 1 "are_in_order_books" ["entries"] (Vs CE)) (dC:Ç 5 "can_be_shown" ["kinds","entries"] (Vu CK CE)) (dB:Ă "Book" fh ["name","entries"]):
  a7 P w K mg base Ĕ 6 f fd ["locker","text"] (Vy K CL CK CB CE fh):=by
 let(fE,fdE,GE,mE,kE,bE):=dE;refine F.qP z5 Â;let(l,ap,I,rfl,hL,hP,hl,k1,k2):=h;let KR:dv 3 _:=hr.mono Ù;refine⟨_,aB (cj 2 z5.nd (bz (hr:=hr) dW Ŕ))
  (aB (dq (PW.pt (pw_or Æj (pw_or1 (pG (Z1 w9 w9 (b9 cT) û (eM qG (b9 cT) (b9 cM))))))) Û d7)
  (aB (cj 3 z5.nd (bz (hr:=hr) dN (ae Dy (ae Ào ag))))
  (aB (dq (PW.pt (pw_or (ot (qE ö)) (pw_or1 (cI (Iq hr.units) (bz (hr:=hr) dN (ae Dy (ae Ào ag))) Ć (bT _))))) Û d7)
  (aB (cj 4 z5.nd (bz (hr:=hr) dU Äo))
  (aB (Ry (i:=5) (own:=[("line",6)]) (g:=pH 6) (tt:=A5) (te:=g9 (MR K CB CE) [] E (bh (ay 6) (bh Ãp dw))) rfl xu z5.nd rfl rfl Ô (eX (xh xi ç (xg (b9 cT)) xf)) Ë
   (λ_ _ _ _ _=>dJ 6 z5.nd) Ö (λ_ _ _ _ _=>lY GE KR rfl mE kE bE .nil qO (ae Ãl Ϣ)))
  (aB (dq (PW.pt (pw_or (pG (jx (bz (hr:=hr) dO ţ))) (pw_or1 (pG (jx (bz (hr:=hr) dC (ae Ć ţ)))))))
   (Û) d7)
  (aD (aY (p9 dB hr (ae ö ţ)))))))))),?_⟩
 apply(_,Á,ap,I,Á,hP,by omega,λH1 v s1 J=>?_);let Ly:∀L,jD I=some L->∀w∈L,w.length<=100000:=λL e=>by
  delta jD at e;split at e
  .let e:=aN e;subst e;apply λw hw=>?_;let:=xG 10 I w (Ax _ hw);omega
  .symm
 let el:j3 l.name Ñ I=book1 l.name Ñ (jD I):=rfl;generalize j3 l.name Ñ I=bk at el k1 k2;cases ew:jD I with
 |none=>
  rw[ew] at J el;let J:=J;subst J;exact(_,Á,_,Á,kZ (gJ ((k2 el).go s1)))
 |some L=>
  let mi:=Ly L ew;rw[ew] at J el;let(p,qs,rfl,qz,hp,qg,fr):=J;let wc:=qg.len;apply(_,Á,_,Á,nu ⟨_,Á,p,_,Á,.inl (aa.of hp),?_⟩);rw[aA,wc];refine⟨_,_,Á,Á,_,Á,a8 Š Š⟩
  case' refine_2=>
   let h1:¬(2:Int)<=((L.length:Nat):Int):=À h1
   apply(_,Á,kZ (gJ ((k2 (el.trans ?_)).go s1)))
   match L,h1 with
   |[],_=>rfl
   |[_],_=>rfl
   |a::b::c,h1=>exact absurd (by simp only[c7];omega) h1
  simp at h1;obtain⟨la,lb,r,rfl⟩:∃a b c,L=a::b::c:=by
   match L,h1 with
   |[],h1=>exact absurd h1 Ä
   |[_],h1=>exact absurd h1 Ä
   |a::b::c,_=>exact(a,b,c,Á)
  cases qg with
  | @cons q l0 qs0 r0 hq qg=>
  cases qg with
  | @cons q2 l2 qs r2 xB u5=>
  let u5:eB H1 qs r:=u5;let wc:=u5.len;refine⟨_,_,Á,Á,_,_,Á,Á,_,Á,a8 Ál Ál⟩
  .let h2:¬r.length<=2048:=by
    grind
   exact gJ ((k2 (el.trans (ah h2))).go s1)
  let h2:r.length<=2048:=by
   grind
  let el:=el.trans (af h2);apply⟨_,Á,p,_,0,V.ref q,Á,Á,aa.of hp,fT (j:=0) Á,"book",q,la,Á,by decide,aa.of hq,mi la Ä,λH3 vn Z U=>?_⟩;let qd:=s1.trans Z;generalize fg (codes "book") la=nb at U el;cases nb with
  |none=>
   let U:=U;subst U;exact(_,Á,_,Á,kZ (gJ ((k2 el).go qd)))
  |some nm=>
  let(an,rfl,Ff,lX):=U;apply⟨_,Á,_,Á,nu ⟨_,Á,p,_,1,V.ref q2,Á,Á,aa.of (Z _ _ hp),fT (j:=1) Á,"for",q2,lb,Á,by decide,aa.of (Z _ _ xB),mi lb Ä,λH4 vf s4 O=>?_⟩⟩;let oE:=qd.trans s4;let L4:=hL.same oE;apply(_,Á,bj (BR L4.lies) TL.1 (TL.2 _ Ä) (af5 l) ?_);let F2:H4 l.nm=some (.lst (iv l.name)):=L4.lies (l.nm,_) (by simp[sI]);generalize fg (codes "for") lb=nf at O el;obtain⟨d,fw,fO,pY⟩:∃d,Dp K H4 vf d/\SeqAt.shaped d=true/\PyData.eqv d (.list (l.name.map PyData.int))=decide (nf=some l.name):=by
   cases nf with
   |none=>
    let O:=O;subst O;exact(_,.aJ,Á,Á)
   |some x=>
    let(c,rfl,_,hc):=O;apply(_,.lst (aa.of hc) (qR x),shaped_ints _,?_);show PyData.eqvAll _ _=_;rw[xw];simp
  apply(d,_,fw,.lst (aa.of F2) (qR _),fO,shaped_ints _,_,Á,?_);rw[pY];apply a8 (λM=>?_) (λM=>?_)
  .simp at M;exact gJ ((k2 (el.trans (ah M))).go oE)
  simp at M;let el:=el.trans (af M);apply(_,Á,bj (BR L4.lies) TL.1 (TL.2 _ Ä) (E3 l) ⟨l.kl,l.kinds,Á,L4.ks,λH5 pn Y=>?_⟩);let vZ:=oE.trans Y.1;let Hr:=Y.1 _ _ (s4 _ _ (Z _ _ hp));apply(_,Á,_,Á,p,_,Á,aa.of Hr,λc hc=>?_);rw[show oA ((q::q2::qs).map V.ref) (some 2) none=qs.map V.ref from(BI _ (i:=2) Ä).trans rfl];let s6:=aL (o:=.lst Äc) hc;let jg:(upd H5 c Ď) c=some Ď:=aq;generalize upd H5 c Ď=H6 at s6 jg;let xM:=vZ.trans s6;let ajq:=u5.same (((Z.trans s4).trans Y.1).trans s6);let ajr:=s6 _ _ Y.2.2;refine⟨c,Á,⟨_,aa.of jg⟩,λD hD=>gC (K:=K) (a:=c) (xs:=qs.map V.ref) (cy H6 D λi y ns=>∃b:bq,(∀z,r[i]? =some z->iB Ñ z=some b.m)/\y=.ref b.a/\ns=o6 CE b) ĉ
     (λi H7 _ f=>aa.of (f.same _ _ jg)) (λi y H7 hi f=>?_) (λH7 f=>?_)⟩
  .rw[bW] at hi;cases eq:qs[i]? with
   |none=>symm
   |some qi=>
    rw[eq] at hi;let ey:=aN hi;subst ey;let d8:=(bO.mp eq).1;let(q',_,G,h'):=ajq.at (j:=i) Æ;rw[bW,eq] at G;let G:=aN G;injection G with G;subst G;let qJ:r[i]? =some (r.getD i []):=by
     symm
    let we:=bZ qJ;apply(Á,eO ⟨_,Á,_,Á,qi,pn,l.kinds.map az.m,r.getD i [],Á,aa.of (f.same _ _ h'),mi _ (aO _ (aO _ we)),f.same _ _ ajr,λm em H8 en S ek IM pK=>?_,λen=>?_⟩)
    .apply f.step hD Æ S ⟨en,λz hl=>?_,Á,Á⟩ IM λx hx e=>f.has (by rw[<-e];exact pK x hx);symm
    .exact(k2 (by rw[el,ajk we en];rfl)).go (xM.trans f.same)
  .let(ys,s7,hd7,Vz,fl):=f.end;rw[aA] at Vz;let(es,e1,r1,l1):=xQ (v:=λb:bq=>V.ref b.a) (nd:=o6 CE) (R:=λi b=>∀z,r[i]? =some z->iB Ñ z=some b.m) fl;subst e1;rw[aA] at Vz;let zQ:∀(i:Nat)(b:bq),es[i]? =some b->∃z,iB Ñ z=some b.m:=λi b hb=>by
    grind
   let ees:i9 Ñ r=some (es.map bq.m):=ajl É λi z m h1 h2=>by
    grind
   rw[ees] at el;let emr:(es.map bq.m).map (·.1)=es.map bq.row:=by
    rw[cQ];rfl
   let el:bk=if (zY Ãe &&(es.map bq.row).all (j0 Ñ))=true then some (nm,es.map bq.m) else none:=by
    rw[<-emr];exact el
   let zA:=xM.trans s7;let MW:ya CE H7 D es:=⟨hd7,l1,by omega⟩;let uV:FZ Ñ Ãe:=by
    apply(λrow z6=>?_,λrow z6 s hs=>?_,λrow z6 s hs=>?_)
    all_goals
     let(b,hb,rfl):=cf.mp z6;let(i,hi,e):=rN hb;let(z,G):=zQ i b (by rw[<-e];exact dm hi);let:=MV G
    .symm
    .symm
    .symm
   apply(_,Á,D,es,Á,MW,λH8 S=>⟨_,Á,a8 (λW=>?_) (λW=>?_)⟩)
   .simp at W;rw[W,lu,ah Ù] at el;exact gJ ((k2 el).go (zA.trans S))
   simp at W;let VA:=zA.trans S;let L8:=hL.same VA;refine⟨_,Á,bj (BR L8.lies) TL.1 (TL.2 _ Ä) (E3 l) ⟨_,Á,l.kl,l.kinds,D,es,Á,L8.ks,L8.ms,MW.same S,uV,λe he=>L8.sh [e.row] (λr hr s hs=>by
     obtain rfl:r=e.row:=À hr
     exact uV.sg _ (cf.mpr ⟨e,he,Á⟩) s hs),λH9 s9=>⟨_,rfl,a8 Ę Ę⟩⟩⟩
   .let hd:(es.map bq.row).all (j0 Ñ)=false:=by simpa using hd
    rw[hd,yt,ah Ù] at el;exact gJ ((k2 el).go (VA.trans s9))
   let hd:(es.map bq.row).all (j0 Ñ)=true:=À hd
   rw[W,hd,O0,af rfl] at el;let MX:=S.trans s9;exact(_,Á,_,Á,vX Á λx dx Ha hx i5 aQ ea sa=>(k1 _ el Ha ⟨x,dx,an,D,nm,es⟩ ((zA.trans MX).trans sa) Á ⟨ea,sa _ _ (MX _ _ (s7 _ _ (s6 _ _ (Y.1 _ _ (s4 _ _ lX))))),MW.same (MX.trans sa)⟩ uV))
end
def mx(rows:bp)(i:Nat):Nat:=(rows.getD i []).length
def z7(rows:bp)(a b:Bool)(n:Nat)(i:Nat):Bool:=decide (mx rows i=n)||((a||b)&&decide (n<mx rows i))
def rD(rows:bp)(g:iG):LN:=(List.range rows.length).filter (z7 rows g.above g.below g.flags.length)
inductive MY(C:Cs)(fh CE:Addr)(vs:au)(H:Hp)(Q:VK)(E':XK):Prop
 |mk (b:qu) (g:ck) (_:vs=[.ref b.a,.ref g.a]) (_:yb fh CE H b) (_:Lies H Æo) (_:∀H' p,Ϡ (.lst (iv (nv (rD Ü g.m))))->Q ģ H')
abbrev VB(K:FR):au->Hp->VK->Prop:=λxs H Q=>∃p ys,xs=[.ref p]/\(â p ys\/bu K H p ys)/\Q (.int ((ys.length:Nat):Int)) H
section
variable{P:Pg}{w:Wd}{K:FR}{mg:MG}{base:Heap}{CK CL CS N CV CP CB CE fh:Addr}{C:Cs}
def yc:bH ["book","glimpse","seen","may_be_longer","lengths","entry","number","length"] ["book","glimpse"] (aV Kx):=cw
def ajv(F:br K "entries_in_doubt" "entries_in_doubt" Kx f fd)(z:ma K C)(O:lg K fh ["name","entries"])(TE:lg K CE ["row","meaning"])(tL:mg "len"=none)(tE:mg "enumerate"=none):Ì aE 1 f fd ["book","glimpse"] (MY C fh CE):=by
 refine F.ok yc Â;let(b,g,rfl,G,I,k):=h;refine⟨_,aB (cj 2 yc.nd ŏ)
  (aB (cj 3 yc.nd (Py Ő (rW Ő)))
  (aB (um (i:=4) (own:=[("entry",5)]) (te:=qI (VB K) (bh (gi K (ay 5) "row") dw)) rfl yc.nd rfl rfl Ô (eX Ć) Ë
   (λ_ _ _ _ _=>dJ 5 yc.nd) Ö (λ_ _ _ _ _=>c8 fU Ô tL PySem.boot_len (ae (bg Äd rfl) ag)))
  (aD (aY (eF (own:=[("number",6),("length",7)]) (g:=g2 K 6 7) (tt:=HH (ng (bU ox Èk Ř)) (Dz (tB ŗ) (ng (bU (gf λi j=>.bl (decide (i>j))) Èk Ř)))) (te:=ay 6) rfl yc.nd
   (kY Ô tE Ϣ) Ë
   (λ_ _ _ _ _=>iE 6 7 yc.nd)
   (λ_ _ _ _ _=>pL (PW.pt (pw_or (cI ic Ål ç (bT _)) (pw_or1 (PW.pt (pw_and (jx ö) (pw_and1 (cI vw Ål ç (bT _))))))))) (λ_ _ _ _ _=>pv 6)))))),?_⟩
 let hf:=G.e.dc;apply(_,Á,bj I.ga z.cG z.vT (vS g) ⟨g.l,_,Á,.inl (aa.of I.fl),?_⟩);dsimp only;rw[aA];apply RK g.above g.below (λK q=>⟨_,Á,bj I.ga z.cG z.SC (SA g) q⟩) (λ_ K q=>⟨_,Á,bj I.ga z.cG z.SD (SB g) q⟩) ?_;apply(_,Á,bj G.a O.1 (O.2 _ Ä) (Vx b) ⟨b.el,Á,⟨_,aa.of G.e.a⟩,λD hD=>gC (K:=K) (a:=b.el) (xs:=b.es.map λe=>V.ref e.a) (fC H D λi=>((mx Ü i:Nat):Int)) Áz (λi H' _ f=>aa.of (f.1 _ _ G.e.a)) Č (λH1 f=>?_)⟩)
 .let(e,Y,rfl):=iz hi;let U:=(bO.mp Y).1;let Z:=(G.e.l e (bZ Y)).same f.1;apply(Á,eO ⟨_,Á,bj (Co Z) TE.1 (TE.2 _ Ä) (Cm e) ⟨e.rw,_,Á,.inl (aa.of (Cp Z)),?_⟩⟩);apply fC.step hD Æ f ĸ ?_;delta mx;symm
 .let hd:=f.2;rw[aA] at hd;let s1:=f.1;refine⟨_,Á,D,_,Á,aa.of hd,λM J=>lI (K:=K) (a:=D) (xs:=iv ((List.range b.es.length).map λi=>((mx Ü i:Nat):Int))) (lL H1 M (z7 Ü g.above g.below g.flags.length)) (lL.zero J) (λi H' _ f=>aa.of (f.1 _ _ hd)) Ák Æc⟩
  .let U:=(bO.mp hi).1;rw[eZ,aA,g7] at U;let ev:v=.int ((mx Ü i:Nat):Int):=by
    symm
   subst ev;let S:ai H' (ϟ (.tup [.int (i:Nat),.int ((mx Ü i:Nat):Int)])):=aL hT;refine î;generalize upd H' Tt (.tup [.int (i:Nat),.int ((mx Ü i:Nat):Int)])=H4 at S;refine or_val (decide (mx Ü i=g.flags.length)) ((g.above||g.below)&&decide (g.flags.length<mx Ü i)) (λK q=>⟨_,Á,_,Á,Á,_,Á,by rw[lW];exact q⟩)
    (λ_ K q=>and_val (g.above||g.below) (decide (g.flags.length<mx Ü i)) (λK q=>⟨_,rfl,_,rfl,q⟩) (λ_ K q=>⟨_,rfl,_,rfl,_,_,rfl,rfl,_,rfl,?_⟩) q) (a8 Ï Ï)
   .symm
   .exact(_,Á,f.yes J Æ S hc)
   .exact f.no S hc
  .let W:=f.2;rw[eZ,aA,g7] at W;apply k H3 M ⟨s1.trans f.1,s1.free J,?_⟩;rw[W];delta rD ck.m;simp
end
def gZ(l:LN):Nat:=l.foldl (λa b=>a*b) 1
inductive VC(vs:au)(H:Hp)(Q:VK)(E':XK):Prop
 |mk (p:Addr) (l:LN) (_:vs=[.ref p]) (_:H p=some (.lst Çq)) (_:(∀n∈l,n<=100000)) (_:Q (.int ((gZ l:Nat):Int)) H)
def tm(s:Nat):LN:=if s=2 then [0,1] else [s]
inductive VD(C:Cs)(vs:au)(H:Hp)(Q:VK)(E':XK):Prop
 |mk (p:eP) (_:vs=[.ref p.a]) (_:Lies H Ág) (_:∀H' q,pX H H' q (.lst (iv (nv Çn)))->Q Èm H')
section
variable{P:Pg}{w:Wd}{K:FR}{mg:MG}{base:Heap}{CK CL CS N CV CP CB CE fh:Addr}{C:Cs}
def F3:bH ["numbers","whole","number"] ["numbers"] (aV Ky):=cw
def ajw(F:br K "product" "product" Ky f fd):Ì aE 1 f fd ["numbers"] VC:=by
 refine F.ok F3 Â;let(p,l,rfl,j,G,k):=h;refine⟨_,aB (cj 1 F3.nd bo)
  (aB (ϊ Åg (dJ 2 F3.nd) (aD (cj 1 F3.nd (eM ZX á ç))))
  (aD (aY á))),?_⟩
 apply(_,Á,p,Á,⟨_,aa.of j⟩,w6 (K:=K) (a:=p) (xs:=iv (nv l)) (λi σ H'=>∃v,σ=[some ģ,some (.int ((gZ (l.take i):Nat):Int)),v]/\H'=H) ⟨none,Á,Á⟩ (λi σ H' _ ⟨_,_,e⟩=>by rw[e];exact aa.of j) ?_ ?_)
 .rintro i x σ H' hi ⟨v,rfl,rfl⟩;let(z,m,rfl):=nN hi;let I:=G z (bZ m);apply(_,Á,_,Á,_,_,Á,Á,.inr ⟨by omega,by omega⟩,some (.int ((z:Nat):Int)),?_,Á);rw[take_snoc m];delta gZ;simp
 .rintro σ H' ⟨v,rfl,rfl⟩;refine Ġ;symm
def ajx:bH ["plate"] ["plate"] (aV KA):=cw
def ajy(F:br K "sides_of" "sides_of" KA f fd)(T:ma K C)(z:Cn mg "FRONT" ŉ)(cB:Cn mg "BEHIND" Ş)(G:Cn mg "UNKNOWN_SIDE" (.int 2)):Ì aE 1 f fd ["plate"] (VD C):=by
 refine F.ok ajx Â;let(p,rfl,m,k):=h;apply(_,aD (aY (rX (cI ic œ (b9 G) (bT _)) (eE (ae (b9 z) Ϯ)) (eE (ae œ ag)))),?_);refine⟨_,Á,bj m.pl T.cP T.KO (Sz p) Ĳ⟩;rw[show V.int 2=V.int ((2:Nat):Int) from rfl,lW];let k:=k;delta tm at k;refine a8 Ï Ï
 .rw[af É] at k;exact(by show 2<=sizeLine;decide,λq j=>k _ q ⟨aL j,j,aq⟩)
 .rw[ah É] at k;exact(_,Á,bj m.pl T.cP T.KO (Sz p) ⟨by show 1<=sizeLine;decide,λq j=>k _ q ⟨aL j,j,aq⟩⟩)
end
def o7(rows:bp)(c:LN):bp:=rows.flatMap λrow=>c.map λn=>row++[n]
def lj(cs:bp):bp:=cs.foldl o7 [[]]
def uW(cs:bp):bp:=if cs.contains []=true then [] else lj cs
theorem ajz(l:LN)(a:Nat):l.foldl (λa b=>a*b) a=a*gZ l:=by
 induction l generalizing a with
 |nil=>simp[gZ]
 |cons x l I=>
  delta gZ;grind
def MZ(a b:LN):gZ (a++b)=gZ a*gZ b:=by
 rw[<-ajz];delta gZ;simp
theorem ajA(h:∀n∈l,1<=n):1<=gZ l:=by
 induction l with
 |nil=>exact bJ _
 |cons x l I=>
  let j:=h x Ä;let h2:=I λn m=>h n (aO _ m);show 1<=gZ ([x]++l);rw[MZ];let e:gZ [x]=x:=Nat.one_mul x;rw[e];exact Nat.mul_pos j h2
theorem M0(rows:bp)(c:LN):(o7 rows c).length=rows.length*c.length:=by
 delta o7;induction rows with
 |nil=>simp
 |cons r rows I=>rw[Dl,mU,I,aA,c7,Nat.succ_mul,Nat.add_comm]
def F4(cs:bp)(c:LN):lj (cs++[c])=o7 (lj cs) c:=by
 delta lj;simp
def VE(cs:bp):(lj cs).length=gZ (cs.map List.length):=by
 refine snoc_ind (P:=λcs=>(lj cs).length=gZ (cs.map List.length)) Á Át cs;rw[F4,M0,ih,bX,MZ];congr 1;exact(Nat.one_mul _).symm
def ajB(h:∀n∈l,1<=n)(i:Nat):gZ (l.take i)<=gZ l:=by
 let j:1<=gZ (l.drop i):=ajA λn m=>h n (Yh m);let h2:gZ l=gZ (l.take i)*gZ (l.drop i):=by rw[<-MZ,O5]
 rw[h2];exact Nat.le_mul_of_pos_right _ j
theorem ajC{H:Hp}{ls:List cV}:(∀x∈ls,H x.a=some ź)->eB H (ls.map cV.a) (ls.map λx=>nv x.ns):=by
 induction ls with
 |nil=>exact @λ_=>.nil
 |cons x ls I=>
  intro h;exact .cons (h x Ä) (I λz j=>h z (aO _ j))
def M3(cs:bp):∀row∈lj cs,row.length=cs.length:=by
 apply snoc_ind (P:=λcs=>∀row∈lj cs,row.length=cs.length) (λrow h=>?_) (λl x I row h=>?_) cs
 .let:row=[]:=by simpa [lj] using h
  rw[this];rfl
 .rw[F4] at h;delta o7 at h;let(r,hr,h):=kC.mp h;let(n,_,rfl):=cf.mp h;rw[mU,I r hr,mU];rfl
inductive VF(vs:au)(H:Hp)(Q:VK)(E':XK):Prop
 |mk (y:cb) (_:vs=[.ref y.a]) (_:aU H Ær) (_:y.ls.length<=100) (_:(∀x∈y.ls,x.ns.length<=100000)) (_:(y.m.contains []=false->gZ ű<=1024)) (_:∀H' z,ai H H'->cb.m z=uW y.m->aU H' (eT z)->i8 H (eT z)->Q Äq H')
section
variable{P:Pg}{w:Wd}{K:FR}{mg:MG}{base:Heap}{CK CL CS N CV CP CB CE fh:Addr}{C:Cs}
def wz:bH ["choices","rows","choice","longer","row","number"] ["choices"] (aV Kz):=cw
inductive RwI(y:cb)(H:Hp)(i:Nat)(σ:L2.St)(H':Hp):Prop
 |mk (z:cb) (v2 v3 v4:Option V) (_:σ=[some Àp,some Äq,v2,v3,v4,none]) (_:ai H H') (_:aU H' (eT z)) (_:i8 H (eT z)) (_:z.m=lj Ű)
inductive RwJ(y z:cb)(c:cV)(g:Addr)(H3 H:Hp)(j:Nat)(σ:L2.St)(H':Hp):Prop
 |mk (v4:Option V) (ls:List cV) (_:σ=[some Àp,some Äq,some (.ref c.a),some (.ref g),v4,none]) (_:ai H3 H') (_:aU H' (eT ⟨g,ls⟩)) (_:(∀x∈ls,x.a≠g)) (_:(∀x∈ls,i8 H (lsN x))) (_:ls.map cV.ns=o7 (z.m.take j) c.ns)
def ajF{f:Addr}{fd:FD}(F:br K "all_rows" "all_rows" Kz f fd):Ì aE 1 f fd ["choices"] VF:=by
 refine F.ok wz Â;let(y,rfl,hy,U9,sj,gU,k):=h;let hu:A.units+3+128<cLine:=by let:=hr.un;exact pz Ä this
 refine⟨_,aB (dq (cI (IV hu) ĳ Ú (by with_unfolding_all rfl)) (aD (aY ĳ)) d7)
  (aB (cj 1 wz.nd (eE Än))
  (aB (ϊ Åg (dJ 2 wz.nd) (aB (cj 3 wz.nd ĳ)
   (aB (ϊ Æp (dJ 4 wz.nd) (aD (rY (si PySem.F.plainAttrs_list PySem.F.slot_list_extend PySem.F.type_list_extend Qs ö (ae
    (eF (own:=[("number",5)]) (te:=bU Qu Ãp (yM Èi)) rfl wz.nd (eX ç) Ë
     (λ_ _ _ _ _=>dJ 5 wz.nd) Ö (λ_ _ _ _ _=>eM Qv İ (eE ţ))) ag)))))
   (aD (cj 1 wz.nd ö)))))
  (aD (aY á)))),?_⟩
 let qo:=jG hy;apply(dY _,λl ux=>?_);let S:ai H (Ϛ ã):=aL ux;let ji:(Ϛ ã) l=some ã:=aq;generalize upd H l ã=H1 at S ji;let ajG:=ajC λx hx=>S _ _ (mj hy hx);let ajH:H1 y.a=some (.lst ((y.ls.map cV.a).map V.ref)):=by
  rw[cQ];exact S _ _ qo
 apply(_,Á,y.a,_,_,.list [],Á,aa.of ajH,Vj ajG,.lst (aa.of ji) .nil,λd hd=>?_,Á,_,Á,?_)
 .let(x,_,rfl):=cf.mp hd;exact shaped_ints x
 rw[any_empty];let kU:(y.ls.map λx=>nv x.ns).contains []=y.m.contains []:=by
  rw[pj,Dm,Dm];delta cb.m;simp
 rw[kU];refine a8 Ï Ï
 .apply(dY _,λp hp=>?_);apply k _ ⟨p,[]⟩ (S.trans (aL hp)) ?_ (z4 aq Ä) (BV (S.free hp) Ä);delta uW;rw[af hc];rfl
 let hc:y.m.contains []=false:=À hc
 let ajI:=gU hc;let ajJ:∀n∈y.m.map List.length,1<=n:=λn hn=>by
  grind
 let Fv:∀i,(lj Ű).length<=1024:=λi=>by
  rw[VE,List.map_take];exact gQ (ajB ajJ i) ajI
 let ek:uW y.m=lj y.m:=by delta uW;rw[ah (by assumption)]
 rw[ek] at k;apply(dY _,λe he=>⟨by show 1<=sizeLine;decide,λr sY=>?_⟩);let hre:r≠e:=λz=>by rw[z,aq] at sY;cases sY
 let s2:ai H1 (upd (upd H1 e ã) r (.lst [.ref e])):=(aL he).trans (aL sY);let VG:aU (upd (upd H1 e ã) r (.lst [.ref e])) (eT ⟨r,[⟨e,[]⟩]⟩):=z4 aq λx hx=>by
  obtain rfl:x=_:=À hx
  rw[ao hre.symm,aq];rfl
 generalize upd (upd H1 e ã) r (.lst [.ref e])=H2 at s2 VG;let e9:=S.trans s2;refine⟨_,Á,y.a,Á,⟨_,aa.of (e9 _ _ qo)⟩,w6 (K:=K) (a:=y.a) (xs:=y.ls.map λx=>V.ref x.a) (RwI y H)
  ⟨⟨r,[⟨e,[]⟩]⟩,none,none,none,rfl,e9,VG,BV (S.free ((aL he).free sY)) Ás,rfl⟩ (λi σ H' _ h=>(by let(_,_,_,_,_,G):=h;exact aa.of (G _ _ qo))) ?_ ?_⟩
 .obtain rfl:x=_:=by simpa using hx
  exact λw Z=>(by simp only[lsN,mV] at Z;subst Z;exact S.free he)
 .rintro i x σ J hi ⟨z,v2,v3,v4,rfl,G,O,Cr,U⟩;let(c,jk,rfl):=iz hi;let yZ:=bZ jk;let EU:=G _ _ (mj hy yZ);let gH:=sj c yZ;let rE:y.m[i]? =some c.ns:=by delta cb.m;rw[bW,jk];rfl
  let VH:lj (y.m.take (i+1))=o7 z.m c.ns:=by rw[take_snoc rE,F4,U]
  let A4:=Fv (i+1);rw[VH] at A4;apply(dY _,λg M4=>?_);let s4:ai J (upd J g ã):=aL M4;let hgg:(upd J g ã) g=some ã:=aq;refine⟨_,Á,z.a,Á,⟨_,aa.of (s4 _ _ (jG O))⟩,w6 (K:=K) (a:=z.a) (xs:=z.ls.map λx=>V.ref x.a) (RwJ y z c g J H)
   ⟨v4,[],rfl,s4,z4 hgg Ä,by simp,by simp,by rw[List.take_zero];rfl⟩ (λj σ H' _ h=>(by let(_,_,_,I):=h;exact aa.of (I _ _ (jG O)))) ?_ ?_⟩
  .rintro j x σ H4 hj ⟨v4,ls,rfl,I,W,zp,VI,Y⟩;let(r,VJ,rfl):=iz hj;let we:=bZ VJ;let aqM:r.ns.length<=1000:=by
    let M:r.ns∈z.m:=by delta cb.m;exact cf.mpr ⟨r,we,Á⟩
    rw[U] at M;let h2:=M3 _ _ M;grind
   let Fy:=I _ _ (mj O we);let VL:=I _ _ EU;let VM:=jG W;apply(_,Á,.inl ⟨Á,_,aa.of VM⟩,_,Á,c.a,Á,⟨_,aa.of VL⟩,λD hD=>gC (K:=K) (a:=c.a) (xs:=iv (nv c.ns)) (jo H4 D λi=>r.ns++[c.ns.getD i 0]) ĉ (λi H' _ f=>aa.of (f.same _ _ VL)) (λn v H' hi f=>?_) (λH5 f=>?_))
   .let(m,hm,rfl):=nN hi;let zP:=(bO.mp hm).1;apply(Á,eO ⟨_,Á,_,Á,(by show 1<=sizeLine;decide),λq hq=>⟨r.a,q,_,_,Á,Á,(aL hq) _ _ (f.same _ _ Fy),aq,?_,λq2 xB=>?_⟩⟩)
    .rw[eZ,jF];exact tV (gV (by grind))
    .apply jo.step hD Æ f ((aL hq).trans (aL xB)) ((aL hq).free xB) ?_;rw[aq,getD_at hm];simp
   .let(d,hda,s6,VN,lN,Jo):=jo.end hD f;rw[eZ,jF] at VN;let hg5:=s6 _ _ VM;let sV:∀x∈d.ls,x.a≠g:=λx hx z=>by
     let M:=Jo (x.a,_) (by delta eT;exact aO _ (kC.mpr ⟨x,hx,by simp[lsN];rfl⟩));symm
    let ajO:d.m=c.ns.map λn=>r.ns++[n]:=by
     rw[VN];exact wm (l:=c.ns) (g:=λn=>r.ns++[n]) (d:=0)
    let et:o7 (z.m.take (j+1)) c.ns=ls.map cV.ns++d.m:=by
     let e1:z.m[j]? =some r.ns:=by delta cb.m;rw[bW,VJ];rfl
     rw[take_snoc e1,Y,ajO];delta o7;simp
    apply(g,D,_,_,Á,Á,hg5,(by rw[<-hda];exact jG lN),?_,_,ls++d.ls,Á,fm (I.trans s6) M4,z4 ?_ ?_,?_,?_,?_)
    .let M:=cE List.length et;rw[mU,aA,iA] at M;let h2:(o7 (z.m.take (j+1)) c.ns).length<=1024:=by
      rw[M0];rw[M0] at A4;apply gQ (Nat.mul_le_mul_right _ ?_) A4;grind
     rw[aA,aA];exact tV (gV (by grind))
    .rw[aq,bX]
    .intro x hx;rcases gR.mp hx with hx|hx
     .rw[ao (zp x hx)];exact s6 _ _ (mj W hx)
     .rw[ao (sV x hx)];exact mj lN hx
    .grind
    .intro x hx;rcases gR.mp hx with hx|hx
     .symm
     .exact λw Z=>(G.trans I).free (Jo w (by delta eT;exact aO _ (kC.mpr ⟨x,hx,Z⟩)))
    .rw[bX,et];rfl
  .rintro σ H4 ⟨v4,ls,rfl,I,W,zp,VI,Y⟩;apply(_,Á,⟨g,ls⟩,_,_,_,Á,G.trans I,W,BV (G.free M4) VI,?_);rw[aA,<-iA,mX] at Y;rw[VH];exact Y
 .rintro σ J ⟨z,v2,v3,v4,rfl,G,O,Cr,U⟩;rw[aA,<-iA,mX] at U;exact(_,Á,k J z G U O Cr)
end
theorem ajP(sames:LN)(l:cg):∀(st:hZ)(x:LN×hZ),nY sames st l=some x->x.1.length=l.length:=by
 induction l with
 |nil=>
  intro st x h;delta nY at h;rw[<-aN h];rfl
 |cons p r I=>
  intro st x h;delta nY at h;split at h
  .cases h
  .split at h
   .cases h
   .rename_i y e;rw[<-aN h];show y.1.length+1=r.length+1;rw[I _ _ e]
theorem VO(sames:LN)(l:List cg):∀(st:hZ)(x:bp×hZ),mr sames st l=some x->x.1.map List.length=l.map List.length:=by
 induction l with
 |nil=>
  intro st x h;delta mr at h;rw[<-aN h];rfl
 |cons p r I=>
  intro st x h;delta mr at h;split at h
  .cases h
  .rename_i z j;split at h
   .cases h
   .rename_i y e;rw[<-aN h,a0,a0,I _ _ e,ajP sames p _ _ j]
def VQ{ms:aF}{rows hs:bp}(h:nZ ms rows=some (some hs)):hs.map List.length=rows.map List.length:=by
 delta nZ at h;split at h
 .symm
 .split at h
  .symm
  .cases e:mr Ħ Æk Ãn with
   |none=>symm
   |some x=>
    rw[e] at h;let h:=aN (aN h);rw[<-h,VO _ _ _ _ e];delta mv fJ;rw[cQ];apply wQ;intro i;rw[bW,bW,Yq,bW];cases er:rows[i]? with
    |none=>symm
    |some r=>
     rw[Hl.mpr (show rows[i]? =some (r,r).1/\rows[i]? =some (r,r).2 from⟨er,er⟩)];delta qm;simp
def ajQ(cs:bp):∀nums∈lj cs,∀(i n:Nat)(c:LN),nums[i]? =some n->cs[i]? =some c->n∈c:=by
 apply snoc_ind (P:=λcs=>∀nums∈lj cs,∀(i n:Nat)(c:LN),nums[i]? =some n->cs[i]? =some c->n∈c) (λnums h i n c j h2=>?_) (λl x I nums h i n c j h2=>?_) cs
 .simp at h2
 .rw[F4] at h;delta o7 at h;let(r,hr,h):=kC.mp h;let(m,G,rfl):=cf.mp h;let F:=M3 l r hr;by_cases hi:i<l.length
  .rw[G2 Æ] at j;rw[G2 hi] at h2;exact I r hr i n c j h2
  .rw[ON Æ] at j;rw[ON Æ] at h2;let z:i-l.length=0:=by
    let:=(bO.mp h2).1;simpa using this
   rw[F,z] at j;rw[z] at h2;cases j;cases h2;exact G
def ajR{hs rows:bp}(e:hs.map List.length=rows.map List.length){i:Nat}{h r:LN}(j:hs[i]? =some h)(h2:rows[i]? =some r):h.length=r.length:=by
 let:=cE (λl=>l[i]?) e;simp only[bW,j,h2] at this;simpa using this
def rF{α:Type}(H1:Hp)(D:Addr)(l:List α)(q:α->Bool)(g:α->V)(i:Nat)(H:Hp):Prop:=ai H1 H/\H D=some (.lst (((l.take i).filter q).map g))
def rF.zero{α:Type}{H1:Hp}{D:Addr}{l:List α}{q:α->Bool}{g:α->V}(j:H1 D=none):rF H1 D l q g 0 Ċ:=⟨aL j,aq⟩
def rF.yes{α:Type}{H1 H j:Hp}{D:Addr}{l:List α}{q:α->Bool}{g:α->V}{i:Nat}{x:α}{v:V}(m:H1 D=none)(hi:i<1000000)(f:rF H1 D l q g i H)(s:ai H j)(F:l[i]? =some x)(h:q x=true)(z:v=g x):jN D (rF H1 D l q g (i+1)) v j:=by
 subst z;apply(_,s _ _ f.2,?_,fm (f.1.trans s) m,?_)
 .rw[aA];let:=Hg q (l.take i);rw[mT] at this;exact gV Æ
 .rw[aq,Fd F,af h,bX];rfl
def rF.no(f:rF H1 D l q g i H)(s:ai H H4)(j:l[i]? =some x)(h:¬q x=true):rF H1 D l q g (i+1) H4:=by
 apply(f.1.trans s,?_);rw[Fd j,ah h,jv];exact s _ _ f.2
theorem ajS{α β:Type}{q:α->Option β}{l:List α}{i:Nat}{x:α}(h:l[i]? =some x):(l.take (i+1)).filterMap q=(l.take i).filterMap q++(match q x with|some y=>[y]|none=>[]):=by
 rw[take_snoc h,Ym];congr 1;cases e:q x with
 |none=>simp[e]
 |some y=>simp[e]
structure o8 where
 a:Addr
 dx:Addr
 nums:cV
 hs:cb
 sd:cV
def F7(r:o8):List (Str×V):=[("entries",.ref r.nums.a),("hoists",.ref r.hs.a),("sides",.ref r.sd.a)]
def z8(CR:Addr)(r:o8):jl:=(r.a,.ins CR r.dx (F7 r))::(lsN r.nums++(eT r.hs++lsN r.sd))
def VR{CR:Addr}{r:o8}{p:Addr×HO->Prop}(m:p (r.a,.ins CR r.dx (F7 r)))(h2:∀x∈lsN r.nums,p x)(z:∀x∈eT r.hs,p x)(F:∀x∈lsN r.sd,p x):∀x∈z8 CR r,p x:=λx j=>by
 rcases ba.mp j with rfl|j
 .exact m
 .grind
def o8.m(r:o8):LN×bp×LN:=(r.nums.ns,r.hs.m,r.sd.ns)
abbrev Views:=List (Nat×List bp)
def my(ms:aF)(p:fX):Views:=(tm p.side).map λs=>(s,ql ms p.classes s p.ak)
def tp(G:Views)(I:List iG)(hs:bp):LN:=(G.filter λv=>ml hs I v.2).map (·.1)
def js(rows:bp)(nums:LN):bp:=nums.map λn=>rows.getD n []
def uX(ms:aF)(rows:bp)(I:List iG)(G:Views)(nums:LN):Option (LN×bp×LN):=match nZ ms (js rows nums) with
 |some (some hs)=>if tp G I hs=[] then none else some (nums,hs,tp G I hs)
 |_=>none
def j4(rows:bp)(I:List iG):bp:=I.map (rD rows)
def tq(rows:bp)(I:List iG):Nat:=gZ ((j4 rows I).map List.length)
def rG(ms:aF)(rows:bp)(p:fX):List (LN×bp×LN):=(uW (j4 rows p.ak)).filterMap (uX ms rows p.ak (my ms p))
def Cu(CR:Addr)(H:Hp)(q:Addr)(rs:List o8):Prop:=H q=some (.lst (rs.map λr=>V.ref r.a))/\∀r∈rs,aU H (z8 CR r)
inductive VS(C:Cs)(CL CK fh CE CR CT:Addr)(vs:au)(H:Hp)(Q:VK)(E:XK):Prop
 |mk (l:uF) (b:qu) (p:eP) (_:vs=[.ref l.a,.ref b.a,.ref p.a]) (_:uU CL CK H l) (_:yb fh CE H b) (_:wo C H p) (_:FZ Ñ Ü) (_:(tq Ü p.m.ak<=1024->∀H' q rs,ai H H'->rs.map o8.m=rG Ñ Ü p.m->Cu CR H' q rs->Q Èm H')) (_:(1024<tq Ü p.m.ak->No E CT H))
section
variable{P:Pg}{w:Wd}{K:FR}{mg:MG}{base:Heap}{CK CL CS N CV CP CB CE fh CR CT:Addr}{C:Cs}
def mz:bH ["locker","book","plate","choices","glimpse","choice","views","side","readings","numbers","hoists","number","sides","view"] ["locker","book","plate"] (aV Kw):=cw
inductive VT(CR:Addr)(l:uF)(b:qu)(p:eP)(y:cb)(D3 r:Addr)(H4:Hp)(z:cb)(i:Nat)(σ:L2.St)(H':Hp):Prop
 |mk (v9 yq xE:Option V) (rs:List o8) (_:σ=[some (.ref l.a),some Çd,some Âx,some Àp,none,none,some (.ref D3),none,some Âf,v9,yq,none,xE,none]) (_:ai H4 H') (_:aU H' (eT z)) (_:H' r=some (.lst (rs.map λx=>V.ref x.a))) (_:(∀x∈rs,aU H' (z8 CR x)/\∀y∈z8 CR x,y.1≠r)) (_:rs.length<=i) (_:rs.map o8.m=(z.m.take i).filterMap (uX Ñ Ü ð ŵ))
def ajT{f:Addr}{fd:FD}(F:br K "readings_of" "readings_of" Kw f fd)(X:ſ "TooMuchInDoubt" CT N)(TC:ma K C)(TL:lg K CL ["name","kinds"])(TB:lg K fh ["name","entries"])(TE:lg K CE ["row","meaning"])(TV:lg K CV ["side","glimpses"])(tL:mg "len"=none)(cM:Cn mg "MOST_IN_DOUBT" (.int 1024))(dI:Ç 1 "entries_in_doubt" ["book","glimpse"] (MY C fh CE)) (dP:Ç 1 "product" ["numbers"] VC) (dV:Ç 4 "view_of" ["kinds","plate","side"] (LZ C CK CV)) (dS:Ç 1 "sides_of" ["plate"] (VD C))(dA:Ç 1 "all_rows" ["choices"] VF) (dD:Ç 4 "display_told" ["kinds","rows"] (FQ CK)) (dF:Ç 3 "fits" ["hoists","plate","view"] (Mc C CV)) (dR:Ă "Reading" CR ["entries","hoists","sides"]):
  a7 P w K mg base Ĕ 5 f fd ["locker","book","plate"] (VS C CL CK fh CE CR CT):=by
 refine F.qP mz Â;let(l,b,p,rfl,hL,hB,W,uV,k1,k2):=h;refine⟨_,aB (um (i:=3) (own:=[("glimpse",4)]) (te:=g9 (MY C fh CE) [] E0 (bh ϖ (bh Ãp dw))) Á mz.nd Á Á Ô (eX (bg ç Á)) Ë
   (λ_ _ _ _ _=>dJ 4 mz.nd) Ö (λ_ _ _ _ _=>bz dI (ae á Ϣ)))
  (aB (dq (cI vw (bz dP (ae (eF (own:=[("choice",5)]) (te:=qI (VB K) Èi) rfl mz.nd (eX ö) Ë
   (λ_ _ _ _ _=>dJ 5 mz.nd) Ö (λ_ _ _ _ _=>c8 fU Ô tL PySem.boot_len ţ)) ag)) (b9 cM) (bT _)) Û d7)
  (aB (um (i:=6) (own:=[("side",7)]) (te:=g9 (LZ C CK CV) [] E0 (bh (gi K ώ "kinds") (bh Ř (bh Èk dw)))) rfl mz.nd rfl rfl Ô (eX (bz dS Ţ)) Ë
   (λ_ _ _ _ _=>dJ 7 mz.nd) Ö (λ_ _ _ _ _=>bz dV (ae Ć (ae ç (ae Ål ag)))))
  (aB (cj 8 mz.nd ĳ)
  (aB (m9 (Rg xu) rfl (eX (bz dA ı)) (dJ 9 mz.nd)
   (aB (cj 10 mz.nd (bz dD (ae Ć (ae (eF (own:=[("number",11)]) (te:=gi K (bU ύ (gi K ϖ "entries") (ay 11)) "row") rfl mz.nd (eX (pv 9)) Ë
    (λ_ _ _ _ _=>dJ 11 mz.nd) Ö (λ_ _ _ _ _=>bg (cA cY Ő (pv 11) Ø) rfl)) ag))))
   (aB (cj 12 mz.nd (rX (ot (qE (pv 10))) ĳ (eF (own:=[("view",13)]) (tt:=ng (g9 (Mc C CV) [] E0 (bh (ay 10) (bh Ř (bh (ay 13) dw))))) (te:=gi K (ay 13) "side") rfl mz.nd (eX Ãl) Ë
    (λ_ _ _ _ _=>dJ 13 mz.nd) (λ_ _ _ _ _=>pL (jx (bz dF (ae (pv 10) (ae ç (ae (pv 13) ag)))))) (λ_ _ _ _ _=>bg (pv 13) rfl))))
   (aD (dq (cI Âw (pv 12) ĳ (bT _)) (aD (rY (Þ (pv 8) (ae (p9 dR hr (ae (pv 9) (ae (pv 10) (ae (pv 12) ag)))) ag)))) d7)))))
  (aD (aY (pv 8))))))),?_⟩
 let hgf:=W.dc;apply(_,Á,bj W.l.pl TC.cP TC.nE Ån ⟨p.gl,Á,⟨_,aa.of W.l.gl⟩,λD hD=>gC (K:=K) (a:=p.gl) (xs:=p.ak.map λg=>V.ref g.a) (jo H D λi=>(j4 Ü ð).getD i []) ĉ (λi H' _ f=>aa.of (f.same _ _ W.l.gl)) (λi v H' hi f=>?_) (λH1 f=>?_)⟩)
 .let(g,hg,rfl):=iz hi;let d8:=(bO.mp hg).1;apply(Á,eO ⟨_,Á,_,Á,b,g,Á,hB.same f.same,(W.l.sub (bZ hg)).same f.same,λH3 q n=>jo.step hD Æ f n.1 n.2.1 ?_⟩);rw[n.2.2];delta j4;symm
 let(y,eya,s1,U,hy,U9):=jo.end hD f;subst eya;rw[aA] at U;let gH:(j4 Ü ð).length=p.ak.length:=by
  delta j4;simp
 let U:y.m=j4 Ü ð:=by
  rw[U,<-gH];let:=wm (l:=j4 Ü ð) (g:=λx=>x) (d:=[]);symm
 let sj:y.ls.length=p.ak.length:=by rw[<-iA,U,gH]
 let yZ:∀c∈y.m,c.length<=2048:=λc hc=>by
  rw[U] at hc;delta j4 at hc;let(g,_,rfl):=cf.mp hc;delta rD;let I:=Hg (z7 Ü g.above g.below g.flags.length) (List.range (b.es.map bq.row).length);rw[g7,aA] at I;let:=hB.e.dc;grind
 apply(_,Á,y.a,Á,⟨_,aa.of (jG hy)⟩,λD2 cJ=>gC (K:=K) (a:=y.a) (xs:=y.ls.map λx=>V.ref x.a) (fC H1 D2 λi=>(((y.m.getD i []).length:Nat):Int)) (fC.zero cJ) (λi H' _ f=>aa.of (f.1 _ _ (jG hy))) (λi v H' hi f2=>?_) (λH2 f2=>?_))
 .let(x,J,rfl):=iz hi;let d8:=(bO.mp J).1;apply(Á,eO ⟨_,Á,x.a,_,Á,.inl (aa.of (f2.1 _ _ (mj hy (bZ J)))),fC.step cJ Æ f2 ĸ ?_⟩);rw[eZ,jF,BX J]
 let s2:=s1.trans f2.1;let fO:=f2.2;rw[aA,<-iA] at fO;let zt:(List.range y.m.length).map (λi=>(((y.m.getD i []).length:Nat):Int))=nv ű:=by
  delta nv;rw[cQ];exact wm (l:=y.m) (g:=λc=>((c.length:Nat):Int)) (d:=[])
 rw[zt] at fO;let edd:tq Ü p.m.ak=gZ ű:=by
  rw[U];rfl
 rw[edd] at k1 k2;apply(D2,_,Á,fO,λn hn=>?_,_,_,Á,Á,_,Á,a8 Ï Ï)
 .grind
 .let hc:1024<gZ ű:=by
   grind
  exact gJ ((k2 hc).go s2)
 let hc:gZ ű<=1024:=by
  grind
 let k1:=k1 hc;let VU:=W.same s2;let mi:=hL.same s2;apply(_,Á,p,Á,VU.l,λH3 q n3=>⟨q,Á,⟨_,aa.of n3.2.2⟩,λD3 rB=>gC (K:=K) (a:=q) (xs:=iv (nv Çn)) (nP (qk CV) uL.a (λi v=>∀s,Çn[i]? =some s->v.side=s/\v.gs.map cb.m=ql Ñ p.classes s ð) H3 D3) (cy.zero rB) (λi H' _ f=>aa.of (f.same _ _ n3.2.2)) (λi v H' hi f3=>?_) (λH4 f3=>?_)⟩)
 .let(sd,sQ,rfl):=nN hi;let d8:=(bO.mp sQ).1;let A3:(tm p.side).length<=2:=by
   delta tm;grind
  let s3:=n3.1.trans f3.same;apply(Á,eO ⟨_,Á,bj (BR (mi.same s3).lies) TL.1 (TL.2 _ Ä) (E3 l) ⟨_,Á,_,Á,l.kl,l.kinds,p,sd,Á,(mi.same s3).ks,VU.same s3,λH5 v s5 e1 e2 lv fv=>?_⟩⟩);apply nP.step rB Æ f3 s5 v (λs hs=>?_) lv fv;grind
 let(vs,Im,s3,ajW,VV,hvL,hvF):=nP.end f3;rw[eZ,jF] at Im;let s4:=s2.trans (n3.1.trans s3);apply(dY _,λr sY=>?_);let s5:ai H4 (upd H4 r ã):=aL sY;let zQ:(upd H4 r ã) r=some ã:=aq;let aqP:∀b o,H4 b=some o->b≠r:=λb o e z=>by rw[z,sY] at e;cases e
 generalize upd H4 r ã=H5 at s5 zQ;let hy5:=(hy.same f2.1).same ((n3.1.trans s3).trans s5);apply(_,Á,y,Á,hy5,by omega,λx J=>?_,λ_=>hc,λH6 z s6 mw hz Cr=>?_)
 .let:=yZ x.ns (by delta cb.m;exact cf.mpr ⟨x,J,Á⟩);omega
 let sS:z.a≠r:=λe=>by
  let I:=Cr (z.a,_) (gy ..);grind
 let VW:∀x∈eT z,x.1≠r:=λx J e=>by
  let I:=Cr x J;grind
 let s46:=s5.trans s6;let hr6:=s6 _ _ zQ;let eR:rG Ñ Ü p.m=z.m.filterMap (uX Ñ Ü ð ŵ):=by
  rw[mw,U];rfl
 rw[eR] at k1;let aqQ:z.ls.length<=1024:=by
  rw[<-iA,mw];delta uW;split
  .simp
  .rw[VE];omega
 refine⟨z.a,Á,⟨_,aa.of (jG hz)⟩,w6 (K:=K) (a:=z.a) (xs:=z.ls.map λx=>V.ref x.a) (VT CR l b p y D3 r H4 z)
  ⟨none,none,none,[],rfl,s46,hz,hr6,by simp,bJ _,rfl⟩ (λi σ H' _ h=>(by let(_,_,_,_,_,_,h):=h;exact aa.of (jG h))) ?_ ?_⟩
 .rintro i v σ H7 hi ⟨v9,yq,xE,rs,rfl,s7,F8,M5,yd,aj1,F9⟩;let(x,J,rfl):=iz hi;let gv:=bZ J;let d8:=(bO.mp J).1;let VX:x.ns∈z.m:=by delta cb.m;exact cf.mpr ⟨x,gv,Á⟩
  let hzi:z.m[i]? =some x.ns:=by delta cb.m;rw[bW,J];rfl
  let Cc:x.ns∈lj y.m:=by
   rw[mw] at VX;delta uW at VX;grind
  let nU:x.ns.length=p.ak.length:=by rw[M3 _ _ Cc,U,gH]
  let jS:=mj F8 gv;let VY:∀(j n:Nat)(g:ck),x.ns[j]? =some n->p.ak[j]? =some g->∃e,b.es[n]? =some e/\g.flags.length<=e.row.length:=λj n g I h2=>by
   let h3:=ajQ y.m x.ns Cc j n (rD Ü g.m) I (by rw[U];delta j4;rw[bW,bW,h2];rfl);delta rD at h3;let(h4,h5):=j8.mp h3;simp at h4;apply(b.es[n],dm h4,?_);delta z7 mx at h5;rw[getD_map (dm h4)] at h5;let eg:g.m.flags.length=g.flags.length:=by delta ck.m;rw[aA]
   grind
  let hes:∀n∈x.ns,∃e,b.es[n]? =some e:=λn hn=>by
   let(j,hj,e):=rN hn;let(e',h',_):=VY j n p.ak[j] (by grind) (dm Æ);grind
  let Ga:=s4.trans s7;let hL7:=hL.same Ga;let hB7:=hB.same Ga;let hP7:=W.same Ga;apply(_,Á,bj (BR hL7.lies) TL.1 (TL.2 _ Ä) (E3 l) ⟨_,Á,x.a,Á,⟨_,aa.of jS⟩,λD8 FW=>gC (K:=K) (a:=x.a) (xs:=iv (nv x.ns)) (cy H7 D8 λi v ns=>∃e:bq,(∀n,x.ns[i]? =some n->b.es[n]? =some e)/\v=.ref e.rw/\ns=[]) (cy.zero FW) (λi H' _ f=>aa.of (f.same _ _ jS)) (λj v H' hi f8=>?_) (λH8 f8=>?_)⟩)
  .let(n,hn,rfl):=nN hi;let vz:=(bO.mp hn).1;let(e,he):=hes n (bZ hn);let Cv:=hB7.same f8.same;let j7:=Cv.e.l e (bZ he);apply(Á,eO ⟨_,Á,bj Cv.a TB.1 (TB.2 _ Ä) (Vx b) ⟨_,Á,b.el,_,(n:Int),.ref e.a,Á,Á,aa.of Cv.e.a,fT (by grind),bj (Co j7) TE.1 (TE.2 _ Ä) (Cm e) ?_⟩⟩);apply f8.step FW Æ ĸ ⟨e,λn' Pp=>?_,Á,Á⟩ aU.nil Ä;grind
  let(ys,Y,hd8,VZ,fl):=f8.end;let(bs,rfl,r8,_):=xQ (v:=λe:bq=>V.ref e.rw) (nd:=λ_=>[]) (R:=λi e=>∀n,x.ns[i]? =some n->b.es[n]? =some e) fl;rw[aA,eZ,jF] at VZ;let AF:∀(j:Nat)(e:bq),bs[j]? =some e->∃n,x.ns[j]? =some n/\b.es[n]? =some e:=λj e he=>by
   let I:=(bO.mp he).1;exact(x.ns[j]' Æ,dm _,r8 j e he _ (dm _))
  let vM:∀e∈bs,e∈b.es:=λe he=>by
   let(j,hj,rfl):=rN he;let(n,_,h2):=AF j _ (dm hj);grind
  let M6:=Ga.trans Y;let M7:=hL.same M6;let Cv:=hB.same M6;let hP8:=W.same M6;let uJ:=Y _ _ M5;let e2m:(⟨D8,bs.map λe=>⟨e.rw,e.row⟩⟩:cb).m=js Ü x.ns:=by
   delta cb.m js;rw[cQ];apply Fq VZ λj e n I h2=>?_;grind
  let z6:∀i0∈js Ü x.ns,i0∈b.es.map bq.row:=λi0 h=>by
   rw[<-e2m] at h;delta cb.m at h;grind
  let hy2:Mn H8 ⟨D8,bs.map λe=>⟨e.rw,e.row⟩⟩ l.kinds.length:=by
   apply(z4 (by rw[cQ];exact hd8) λw G=>?_,by grind,λw G=>?_,λw G=>?_)
   all_goals let(e,he,rfl):=cf.mp G
   .exact Cp (Cv.e.l e (vM e he))
   .let:=uV.short e.row (cf.mpr ⟨e,vM e he,rfl⟩);grind
   .intro s hs;let:=uV.lt e.row (cf.mpr ⟨e,vM e he,rfl⟩) s hs;grind
  let gc:((⟨D8,bs.map λe=>⟨e.rw,e.row⟩⟩:cb).m.flatten).length<=1000:=by
   let I:∀(L:bp),(∀w∈L,w.length<=8)->L.flatten.length<=8*L.length:=by
    intro L;induction L with
    |nil=>simp
    |cons a L ih=>
     grind
   let h2:=I (⟨D8,bs.map λe=>⟨e.rw,e.row⟩⟩:cb).m λw G=>uV.short w (z6 w (by grind));rw[iA] at h2;grind
  let V0:=ajS (q:=uX Ñ Ü ð ŵ) hzi;let M:uX Ñ Ü ð ŵ x.ns=match nZ Ñ (js Ü x.ns) with
   |some (some hs)=>if tp ŵ ð hs=[] then none else some (x.ns,hs,tp ŵ ð hs)
   |_=>none:=rfl
  generalize uX Ñ Ü ð ŵ x.ns=Ej at V0 M;let skip:Ej=none->∀(H':Hp)(V1 V2:Option V),ai H8 H'->VT CR l b p y D3 r H4 z (i+1) [some (.ref l.a),some Çd,some Âx,some Àp,none,none,some (.ref D3),none,some Âf,some (.ref x.a),V1,none,V2,none] H':=λen H' V1 V2 s'=>by
   apply(_,_,_,rs,Á,(s7.trans Y).trans s',F8.same (Y.trans s'),s' _ _ uJ,λw G=>⟨(yd w G).1.same (Y.trans s'),(yd w G).2⟩,by omega,?_);grind
  cases ed:nZ Ñ (js Ü x.ns) with
  |none=>exact absurd ed (M7.sh _ λi0 hr s hs=>uV.sg i0 (z6 i0 hr) s hs)
  |some ro=>
  rw[ed] at M;apply(l.kl,l.kinds,_,ro,Á,M7.ks,M7.ms,hy2,gc,by grind,λhs eh H9 zz Z M8 x8 fzz=>?_,λeh H9 Z=>?_)
  .subst eh;let M:Ej=if tp ŵ ð hs=[] then none else some (x.ns,hs,tp ŵ ð hs):=M;let V3:∀w∈eT zz,w.1≠r:=λw G e=>by
    let I:=fzz w G;grind
   let hr9:=Z _ _ uJ;let evs:vs.map (λv=>(v.side,v.gs.map cb.m))=my Ñ p.m:=Fq Im λi v sd I h2=>by
    let(h3,h4):=VV i v I sd h2;rw[h3,h4];rfl
   let esf:tp ŵ ð hs=(vs.filter λv=>ml hs ð Ϭ).map uL.side:=by
    rw[<-evs];delta tp;rw[yw,cQ];rfl
   rw[esf] at M;let V4:=λv hv=>(hvL v hv).same ((s7.trans Y).trans Z);let V5:=((s7.trans Y).trans Z) _ _ ajW;let cK:=VQ ed;let hhl:hs.length=p.ak.length:=by
    let:=cE List.length cK;rw[aA,aA] at this;rw[this];delta js;grind
   let akf:zz.ls.length=p.ak.length:=by rw[<-iA,M8,hhl]
   apply(_,Á,_,Á,nu ⟨_,Á,D3,Á,⟨_,aa.of V5⟩,λD9 Gb=>gC (K:=K) (a:=D3) (xs:=vs.map λv=>V.ref v.a) (rF H9 D9 vs (λv=>ml hs ð Ϭ) λv=>V.int (v.side:Nat)) (rF.zero Gb) (λi H' _ f=>aa.of (f.1 _ _ V5)) (λj v H' hi O=>?_) (λDR O=>?_)⟩)
   .let(v,hv,rfl):=iz hi;let V6:=bZ hv;let vz:=(bO.mp hv).1;let A3:(tm p.side).length<=2:=by
     delta tm;grind
    obtain⟨sd,sQ⟩:∃sd,Çn[j]? =some sd:=⟨_,dm Æ⟩;let yO:=(VV j v hv sd sQ).2;let akg:v.gs.length=p.ak.length:=by
     let:=cE List.length yO;delta ql at this;grind
    apply(Á,_,Á,_,Á,_,Á,zz,p,v,Á,x8.same O.1,(hP8.same Z).same O.1,(V4 v V6).same O.1,akf,akg,λm h g s I h2 h3=>?_,λH' s'=>Ġ)
    .let e1:hs[m]? =some h.ns:=by rw[<-M8];delta cb.m;rw[bW,I];rfl
     let A4:=(bO.mp h2).1;obtain⟨n,hn⟩:∃n,x.ns[m]? =some n:=⟨_,dm Æ⟩;let(e,he,hfe):=VY m n g hn h2;let e2:(js Ü x.ns)[m]? =some e.row:=by
      delta js;grind
     let e3:=ajR cK e1 e2;let e4:=uV.short e.row (cf.mpr ⟨e,bZ he,rfl⟩);apply(?_,by omega,by omega);let e5:Ϭ[m]? =some s.m:=by rw[bW,h3];rfl
     rw[yO] at e5;delta ql at e5;rw[bW,bW,h2] at e5;let e5:=aN e5;let e6:=cE List.length e5;delta xX ck.m at e6;rw[aA,aA,iA] at e6;omega
    .rw[M8];refine a8 Ï Ï
     .let yK:=(V4 v V6).same (O.1.trans s');exact(_,Á,bj (Uo yK) TV.1 (TV.2 _ Ä) (ahF v) (rF.yes Gb Æ O s' hv hc Á))
     .exact O.no s' hv hc
   .let oB:=O.1;let z9:=O.2;rw[aA,mX] at z9;let z9:DR D9=some (.lst (iv (nv ((vs.filter λv=>ml hs ð Ϭ).map uL.side)))):=by
     rw[z9];simp
    generalize ((vs.filter λv=>ml hs ð Ϭ).map uL.side)=S at M z9;apply(_,Á,dY _,λe he=>⟨D9,e,_,Á,Á,aa.of ((Çv) _ _ z9),aa.of aq,_,Á,a8 (λaQ=>?_) (λaQ=>?_)⟩)
    .let aQ:¬S=[]:=λz=>by
      grind
     rw[ah aQ] at M;let kW:ai H8 (upd DR e ã):=(Z.trans oB).trans Çv;let V7:=(aL (o:=.lst []) he) _ _ z9;let V8:=(x8.same oB).same (aL (o:=.lst []) he);generalize upd DR e ã=Bq at kW V7 V8;let M9:=kW _ _ uJ;apply(_,Á,.inl ⟨Á,_,aa.of M9⟩,_,Á,_,Á,_,Á,?_);intro a dx ha i5 aqT;refine⟨a,dx,[.ref x.a,.ref zz.a,.ref D9],Á,Á,aq,λH12 e12 e2=>Ů⟩;let e9:=λb o eb=>e2 b o (by rw[ao (eK eb ha),ao (eK eb i5)];exact eb) (eK eb ha);let akj:=e9 _ _ M9;let V9:a≠r:=λz=>by rw[z,M9] at ha;cases ha
     let hDr:D9≠r:=λz=>by rw[z,hr9] at Gb;cases Gb
     let Gc:=Y.trans (kW.trans e9);let aqU:=Gc _ _ jS;let Wa:=λw G=>VW w (by delta eT;exact aO _ (kC.mpr ⟨x,gv,G⟩));apply(r,_,_,Á,Á,akj,by rw[aA];exact gV Æ,_,_,_,rs++[⟨a,dx,x,zz,⟨D9,S⟩⟩],rfl,fm (s7.trans Gc) sY,λw G=>?_,?_,λw G=>?_,by grind,?_)
     .rw[ao (VW w G)];exact(F8.same Gc) w G
     .rw[aq,bX];rfl
     .rcases gR.mp G with G|G
      .exact(λq hq=>by rw[ao ((yd w G).2 q hq)];exact((yd w G).1.same Gc) q hq,(yd w G).2)
      .obtain rfl:w=_:=by simpa using G
       refine⟨VR (by show upd H12 r _ a=_;rw[ao V9];exact e12) Åy Åy Åy,VR V9 Wa V3 Åy⟩
       .rw[ao (Wa q hq)];simp only[lsN,mV] at hq;grind
       .rw[ao (V3 q hq)];exact(V8.same e9) q hq
       .simp only[lsN,mV] at hq;subst hq;rw[ao hDr];exact e9 _ _ V7
       .simp only[lsN,mV] at hq;grind
     .rw[V0,M,bX,F9];show _++[(x.ns,zz.m,S)]=_;grind
    .let aQ:S=[]:=by
      cases S with
      |nil=>rfl
      |cons a b=>grind
     rw[af aQ] at M;exact skip M _ _ _ ((Z.trans oB).trans Çv)
  .subst eh;refine⟨_,Á,_,Á,kZ ⟨dY _,λd hd=>⟨_,Á,dY _,λe he=>⟨d,e,_,Á,Á,aa.of ((Çv) _ _ aq),aa.of aq,_,Á,nu (skip M _ _ _ (Z.trans ((aL hd).trans Çv)))⟩⟩⟩⟩
 .rintro σ H7 ⟨v9,yq,xE,rs,rfl,s7,F8,M5,yd,aj1,F9⟩;rw[aA,<-iA,mX] at F9;exact(_,Á,k1 H7 r rs (s4.trans s7) F9 ⟨M5,λx J=>(yd x J).1⟩)
end
structure Gd(ms:aF):Prop where
 look:∀k∈ms,iM k.look
 mo:wx ms
 sh:∀rows,(∀r∈rows,∀s∈r,jH ms s=true)->nZ ms rows≠none
structure Ge(m:fX):Prop where
 xY:m.classes.length=16
 dc:m.ak.length<=100
 flags:∀g∈m.ak,g.flags.length<=100
 cells:∀g∈m.ak,∀s∈g.flags,s.2.length=16
structure Cw where
 a:Addr
 dx:Addr
 q:Addr
 l:uF
 b:qu
 p:eP
 rs:List o8
def Na(f:Cw):List (Str×V):=[("locker",.ref f.l.a),("book",.ref f.b.a),("plate",.ref f.p.a),("readings",.ref f.q)]
def Wb(f:Cw):(Na f).lookup ("readings":Str)=some (.ref f.q):=(fY Ê).trans ((fY Ê).trans ((fY Ê).trans il))
structure Kn where
 C:Cs
 CL:Addr
 CK:Addr
 fh:Addr
 CE:Addr
 CR:Addr
 CF:Addr
structure Wc(k:Kn)(H:Hp)(f:Cw):Prop where
 a:H f.a=some (.ins k.CF f.dx (Na f))
 l:uU k.CL k.CK H f.l
 b:yb k.fh k.CE H f.b
 p:wo k.C H f.p
 rs:Cu k.CR H f.q f.rs
def Cu.same{CR:Addr}{H H':Hp}{q:Addr}{rs:List o8}(h:Cu CR H q rs)(s:ai H H'):Cu CR H' q rs:=⟨s _ _ h.1,λr hr=>(h.2 r hr).same s⟩
structure We(f:Cw)(x:LI×aF)(y:LI×List (LN×LI))(m:fX):Prop where
 n:f.l.name=x.1
 k:f.l.kinds.map az.m=x.2
 b:f.b.m=y
 p:f.p.m=m
 r:f.rs.map o8.m=rG x.2 (y.2.map (·.1)) m
inductive Wf(K:FR)(k:Kn)(CN CB mG CT:Addr)(vs:au)(H:Hp)(Q:VK)(E:XK):Prop
 |mk (at_ ab ap:Addr) (t b p:LI) (_:vs=[.ref at_,.ref ab,.ref ap]) (_:â at_ (iv t)) (_:â ab (iv b)) (_:â ap (iv p)) (_:t.length<=66000) (_:b.length<=66000) (_:p.length<=66000) (_:(∀x,fZ t=some x->Gd x.2)) (_:(∀m,gW p=.ok m->Ge m)) (_:(fZ t=none->No E CN H)) (_:∀x,fZ t=some x->(j3 x.1 x.2 b=none->No E CB H)/\∀y,j3 x.1 x.2 b=some y->(∀e,gW p=.error e->∀H' d,ai H H'->H' d=some (uv d (K3 e.1 e.2))->E (.ref mG) (some d) H')/\∀m,gW p=.ok m->(1024<tq (y.2.map (·.1)) m.ak->No E CT H)/\(tq (y.2.map (·.1)) m.ak<=1024->∀H' f,ai H H'->Wc k H' f->We f x y m->Q (.ref f.a) H'))
section
variable{P:Pg}{w:Wd}{K:FR}{mg:MG}{base:Heap}{CN CB mG CT CF:Addr}{k:Kn}
def Gf:bH ["t","b","p","locker","book","plate"] ["t","b","p"] (aV KD):=cw
def akl(F:br K "found" "found" KD f fd)(dL:Ĉ Ĕ 6 "read_locker" ["text"] (Tx K k.CL k.CK CN))(dB:Ĉ Ĕ 6 "read_book" ["locker","text"] (Vy K k.CL k.CK CB k.CE k.fh))(dP:Ĉ Ĕ 6 "read_plate" ["text"] (SZ K k.C mG))(dR:Ĉ Ĕ 5 "readings_of" ["locker","book","plate"] (VS k.C k.CL k.CK k.fh k.CE k.CR CT)) (dF:Ă "Finding" k.CF ["locker","book","plate","readings"]):Ì Ĕ 7 f fd ["t","b","p"] (Wf K k CN CB mG CT):=by
 let(fL,fdL,GL,mL,kL,bL):=dL;let(fB,fdB,GB,mB,kB,bB):=dB;let(fP,KL,GP,mP,kP,bP):=dP;let(fR,fdR,GR,mR,kR,bR):=dR;refine F.qP Gf Â;let(at_,ab,ap,t,b,p,rfl,hT,hB,hP,lT,lB,lP,gL,gP,k1,k2):=h;let hr5:dv 5 _:=hr.mono Ù;refine⟨_,aB (cj 3 Gf.nd (lY GL hr Á mL kL bL .nil qO ò))
  (aB (cj 4 Gf.nd (lY GB hr rfl mB kB bB .nil qO (ae ö Ŕ)))
  (aB (cj 5 Gf.nd (lY GP hr rfl mP kP bP .nil qO Ţ))
  (aD (aY (p9 dF hr (ae ö (ae İ (ae Äd (ae (lY GR hr5 rfl mR kR bR .nil qO (ae ö (ae İ ţ))) ag))))))))),?_⟩
 apply(_,Á,at_,t,Á,hT,lT,λx ex H1 l s1 U j hl lk=>?_,k1);let(k2,k3):=k2 x ex;let I:=gL x ex;let Y:uU k.CL k.CK H1 l:=by
  rw[<-j] at I;exact(hl,lk,λq hq=>I.look q.m (cf.mpr ⟨q,hq,Á⟩),I.mo,I.sh)
 apply(_,Á,_,Á,l,ab,b,Á,Y,s1.seq hB,lB,λy ey H2 bk s2 e3 hb rs=>?_,λen=>?_)
 .rw[U,j] at ey;let(k3,k4):=k3 y ey;let W:=s1.trans s2;apply(_,Á,ap,p,Á,W.seq hP,lP,λm em M pl S hp z=>?_,λe ee M d S hd=>k3 e ee M d (W.trans S) hd);let(k4,k5):=k4 m em;let gp:=gP m em;let qd:=W.trans S;let Wg:wo k.C M pl:=by
   subst z;exact(hp,gp.xY,by let:=gp.dc;delta eP.m at this;rw[aA] at this;exact this,λg Z=>(by let:=gp.flags g.m (cf.mpr ⟨g,Z,rfl⟩);delta ck.m at this;rw[aA] at this;exact this),λg Z s hs=>gp.cells g.m (cf.mpr ⟨g,Z,rfl⟩) s.m (cf.mpr ⟨s,hs,rfl⟩))
  let O:bk.es.map bq.row=y.2.map (·.1):=by
   rw[<-e3];delta qu.m;rw[cQ];rfl
  apply(_,Á,_,Á,_,Á,_,Á,_,Á,_,Á,l,bk,pl,Á,(Y.same s2).same S,hb.same S,Wg,rs,λhd H4 q rds J e5 hr4=>?_,λhd=>?_)
  .rw[O,z] at hd;rw[O,j,z] at e5;apply vX Á λa dx H5 ha i5 aQ e6 G=>?_;refine k5 hd H5 ⟨a,dx,q,l,bk,pl,rds⟩ ((qd.trans J).trans G) ⟨e6,(((Y.same s2).same S).same J).same G,((hb.same S).same J).same G,(Wg.same J).same G,hr4.same G⟩ ⟨U,j,e3,z,e5⟩
  .rw[O,z] at hd;exact(k4 hd).go qd
 .rw[U,j] at en;exact(k2 en).go s1
end
def refusal(t b p:LI):Option Int:=if 65536<t.length\/65536<b.length\/65536<p.length then some (-2) else match fZ t with
 |none=>some (-6)
 |some x=>match j3 x.1 x.2 b with
  |none=>some (-9)
  |some y=>match gW p with
   |.error _=>some (-8)
   |.ok m=>if 1024<tq (y.2.map (·.1)) m.ak then some (-7) else none
def mx3(a b c:Nat):decide (zh (zh ((a:Nat):Int) ((b:Nat):Int)) ((c:Nat):Int)>65536)=decide (65536<a\/65536<b\/65536<c):=by
 rw[Yr];delta zh;split <;> split <;> omega
inductive Wh(K:FR)(k:Kn)(q:Str)(fdOf:Addr->Value->FuncData)(u4:Sp)(vs:au)(H:Hp)(Q:VK)(E':XK):Prop
 |mk (at_ ab ap f:Addr) (t b p:LI) (_:vs=[.ref at_,.ref ab,.ref ap,.ref f]) (_:Bw H f q fdOf) (_:â at_ (iv t)) (_:â ab (iv b)) (_:â ap (iv p)) (_:t.length<=66000) (_:b.length<=66000) (_:p.length<=66000) (_:(∀x,fZ t=some x->Gd x.2)) (_:(∀m,gW p=.ok m->Ge m)) (_:(∀z,ū p=some z->∀H' r,H' r=some (.lst [.int z])->Q Âf H')) (_:(ū p=none->∀x y m,fZ t=some x->j3 x.1 x.2 b=some y->gW p=.ok m->∀H' f,ai H H'->Wc k H' f->We f x y m->u4 [.ref f.a] H' Q E0))
def Wi{fdOf:Addr->Value->FuncData}(h:Bw H f q fdOf)(s:ai H H'):Bw H' f q fdOf:=let ⟨c,iF,a,b⟩:=h;⟨c,iF,s _ _ a,s _ _ b⟩
abbrev Cy(n:Int):TS:=AN (yM (bh (DH (rU λi=>.int (-i)) (tC (.int n))) dw))
section
variable{P:Pg}{w:Wd}{K:FR}{mg:MG}{base:Heap}{CN CB mG CT CF N1 N2 N3 N4:Addr}{k:Kn}{q:Str}{fdOf:Addr->Value->FuncData}{u4:Sp}
def Wj:bH ["t","b","p","told","finding"] ["t","b","p","told"] (aV KC):=cw
def akq(F:br K "answered" "answered" KC f fd)(W:ſ "NoLocker" CN N1)(U:ſ "NoBook" CB N2)(XP:EX K mg mG N3)(Y:ſ "TooMuchInDoubt" CT N4)(nd:[CN,CB,mG,CT].Nodup)(tL:mg "len"=none)(tM:mg "max"=none)(cM:Cn mg "MOST_BYTES" (.int 65536))(dF:Ĉ Ĕ 7 "found" ["t","b","p"] (Wf K k CN CB mG CT)) (L:Es P w K mg base 7 q fdOf ["finding"] u4):Ì aE 8 f fd ["t","b","p","told"] (Wh K k q fdOf u4):=by
 let(fF,aqY,GF,mF,kF,bF):=dF;refine F.ok Wj Â;let(at_,ab,ap,lf,t,b,p,rfl,Wk,hT,hB,hP,lT,lB,lP,gL,gP,k1,k2):=h;simp only[j9,ba,mY,mZ,not_or,not_false_eq_true,Ay,and_true] at nd;let((n1,n2,n3),(n4,n5),n6):=nd;refine⟨_,aB (dq (cI vw (c8 (aef Á) Ô tM FE (ae ą (ae ü (ae û ag)))) (b9 cM) (bT _)) (aD ě) d7)
  (aB (acW ⟨rfl,rfl⟩ (acX (i:=4) Wj.nd rfl (Or.inl rfl) GF hr rfl mF kF bF (ae Ú (ae á Ţ)))
   (Eh (ts:=Cy 6) W.c rfl W.mC Æb
   (Eh (ts:=Cy 9) U.c rfl U.mC Æb
   (Eh (ts:=Cy 8) XP.c rfl XP.mC Æb
   (Eh (ts:=Cy 7) Y.c rfl Y.mC Æb acR)))))
  (aD (aY (ad7 (i:=3) L hr rfl (Or.inl rfl) Ϣ)))),?_⟩
 apply(_,Á,at_,_,Á,.inl hT,_,Á,ab,_,Á,.inl hB,_,Á,ap,_,Á,.inl hP,_,_,_,Á,_,_,Á,Á,_,Á,?_);rw[eZ,eZ,eZ,mx3];let j:ū p=if 65536<t.length\/65536<b.length\/65536<p.length then some (-2) else match fZ t with
  |none=>some (-6)
  |some x=>match j3 x.1 x.2 b with
   |none=>some (-9)
   |some y=>match gW p with
    |.error _=>some (-8)
    |.ok m=>if 1024<tq (y.2.map (·.1)) m.ak then some (-7) else none:=rfl
 generalize refusal t b p=rf at j k1 k2;let G:∀(z n:Int),rf=some z->z= -n->∀(D:Ends)(σ:L2.St)(H':Hp),(∀r oC,oC r=some (.lst [.int z])->D.rt Âf oC)->Cy n D σ H':=λz n _ e2 D σ H' hD=>by
  subst e2;exact(_,Á,(by show 1<=sizeLine;decide),λr hr=>hD r _ aq)
 refine a8 Ï Ï
 .let hc:65536<t.length\/65536<b.length\/65536<p.length:=by simpa using hc
  rw[af hc] at j;exact G _ _ j Á _ _ _ λr H' e=>k1 _ j H' r e
 .let hc:¬(65536<t.length\/65536<b.length\/65536<p.length):=by simpa using hc
  rw[ah hc] at j;apply(_,Á,_,Á,_,Á,at_,ab,ap,t,b,p,Á,hT,hB,hP,lT,lB,lP,gL,gP,λen H1 S=>?_,λx ex=>⟨λen H1 S=>?_,λy I=>⟨λe ee H1 d S hd=>?_,λm Z=>⟨λhd H1 S=>?_,λhd H1 fd S ok is=>?_⟩⟩⟩)
  .rw[en] at j;exact(CN,N1,Á,W.c,λa J i5 fl=>⟨λ_ M O=>G _ _ j Á _ _ _ λr H' e=>k1 _ j H' r e,λz=>absurd Á z⟩)
  .rw[ex] at j;dsimp only at j;rw[en] at j;exact(CB,N2,Á,U.c,λa J i5 fl=>⟨λz=>absurd z.symm n1,λ_=>⟨λ_ M O=>G _ _ j Á _ _ _ λr H' e=>k1 _ j H' r e,λz=>absurd Á z⟩⟩)
  .rw[ex] at j;dsimp only at j;rw[I] at j;dsimp only at j;rw[ee] at j;exact(mG,N3,Á,XP.c,λa J i5 fl=>⟨λz=>absurd z.symm n2,λ_=>⟨λz=>absurd z.symm n4,λ_=>⟨λ_ M O=>G _ _ j Á _ _ _ λr H' e=>k1 _ j H' r e,λz=>absurd Á z⟩⟩⟩)
  .rw[ex] at j;dsimp only at j;rw[I] at j;dsimp only at j;rw[Z] at j;dsimp only at j;rw[af hd] at j;exact(CT,N4,Á,Y.c,λa J i5 fl=>⟨λz=>absurd z.symm n3,λ_=>⟨λz=>absurd z.symm n5,λ_=>⟨λz=>absurd z.symm n6,λ_=>⟨λ_ M O=>G _ _ j Á _ _ _ λr H' e=>k1 _ j H' r e,λz=>absurd Á z⟩⟩⟩⟩)
  .rw[ex] at j;dsimp only at j;rw[I] at j;dsimp only at j;rw[Z] at j;dsimp only at j;rw[ah Æ] at j;exact(lf,Á,Wi Wk S,_,Á,Wi Wk S,Á,k2 j x y m ex I Z H1 fd S ok is)
end
end HD
end
section
namespace L2
open PySem PySem.Spec PyProof.Rows
def akr{X:Cx}:eS X (compareOp .GtE) (gf λi j=>.bl (decide (j<=i))):=DJ λ_ _ _ _ _ _ _ q=>ge_int q
end L2
namespace HD
open PySem PySem.Spec PyProof.Rows L2
open PySem.W (Codec)
def Aa:List Stmt->Option Expr
 |[.Return (some (.Call _ [_,_,_,e] _ _)) _]=>some e
 |_=>none
def Wl:Option Expr->Option Arguments
 |some (.Lambda a _ _ _)=>some a
 |_=>none
def Wm:Option Expr->Option Expr
 |some (.Lambda _ b _ _)=>some b
 |_=>none
def Wn:Option Expr->Option Scope
 |some (.Lambda _ _ s _)=>some s
 |_=>none
def aks:(Wl Âe).isSome=true:=by rfl
def akt:(Wm Âe).isSome=true:=by rfl
def aku:(Wn Âe).isSome=true:=by rfl
abbrev mA:Arguments:=(Wl Âe).get aks
abbrev mB:Expr:=(Wm Âe).get akt
abbrev mS:Scope:=(Wn Âe).get aku
abbrev ye:Str:="nth.<locals>.<lambda>"
def Ac(rs:bp)(i:Nat):LI:=match rs[i]? with
 |none=>[-4]
 |some ns=>((ns.length:Nat):Int)::nv ns
inductive Nf(k:Kn)(vs:au)(H:Hp)(Q:VK)(E':XK):Prop
 |mk (f:Cw) (i:Nat) (_:vs=[.int ((i:Nat):Int),.ref f.a]) (_:H f.a=some (.ins k.CF f.dx (Na f))) (_:H f.q=some (.lst (f.rs.map λr=>V.ref r.a))) (_:∀r∈f.rs,r.nums.ns.length<=100/\H r.a=some (.ins k.CR r.dx (F7 r))/\H r.nums.a=some (.lst (iv (nv r.nums.ns)))) (_:∀H' r,H' r=some (.lst (iv (Ac (f.rs.map λr=>r.nums.ns) i)))->Q Âf H')
section
variable{P:Pg}{w:Wd}{K:FR}{mg:MG}{base:Heap}{CN CB mG CT CF N1 N2 N3 N4:Addr}{k:Kn}
def Wo:bH ["i","finding","numbers"] ["i","finding"] (aV KB):=cw
def akv(r:o8):(F7 r).lookup ("entries":Str)=some (.ref r.nums.a):=il
def akw{f:Addr}{fd:FD}(F:br K "nth_told" "nth_told" KB f fd)(T:lg K k.CF ["locker","book","plate","readings"])(m:lg K k.CR ["entries","hoists","sides"])(tL:mg "len"=none):Ì aE 6 f fd ["i","finding"] (Nf k):=by
 refine F.ok Wo Â;let(fd,i,rfl,z,G,M,q):=h;refine⟨_,aB (dq (cI akr Ú ŏ (bT _)) (aD ě) d7)
  (aB (cj 2 Wo.nd (bg (cA cY Ő Ú Ø) rfl))
  (aD (aY (eM Qv (eE (ae û ag)) ç)))),?_⟩
 apply(_,Á,_,Á,bj z T.1 (T.2 _ Ä) (Wb fd) ⟨fd.q,_,Á,.inl (aa.of G),_,_,Á,Á,_,Á,?_⟩);rw[aA];refine a8 Ï Ï
 .let hc:fd.rs.length<=i:=by simpa using hc
  apply(_,Á,(by show 1<=sizeLine;decide),λr hr=>q _ r ?_);rw[aq];delta Ac;rw[wN (by rw[aA];exact hc)];rfl
 .let hc:i<fd.rs.length:=by simpa using hc
  let hi:fd.rs[i]? =some fd.rs[i]:=dm hc;let(O,J,j):=M _ (bZ hi);apply(_,Á,bj z T.1 (T.2 _ Ä) (Wb fd) ⟨_,Á,fd.q,_,_,_,Á,Á,aa.of G,fT (by rw[bW,hi];rfl),bj J m.1 (m.2 _ Ä) (akv _) ?_⟩);apply(_,Á,fd.rs[i].nums.a,_,Á,.inl (aa.of j),(by show 1<=sizeLine;decide),λp I=>⟨_,Á,p,fd.rs[i].nums.a,_,_,Á,Á,aq,(by rw[ao (eK j I)];exact j),?_,λp2 qA=>q _ p2 ?_⟩)
  .show 1+(iv (nv fd.rs[i].nums.ns)).length<=sizeLine;rw[aA,aA];exact gQ (show _<=101 by omega) (by rw[va];decide)
  .rw[aq];delta Ac;rw[bW,hi];show some (HO.lst ([.int _]++_))=some (.lst (iv (((fd.rs[i].nums.ns.length:Nat):Int)::nv fd.rs[i].nums.ns)));rw[aA,aA];rfl
def akx:Jc "finding" "i" mS:=⟨rfl,rfl,rfl,rfl,rfl,by decide+kernel,by decide+kernel⟩
abbrev Wp(k:Kn)(i:Nat):Sp:=λvs H Q E=>Nf k (.int ((i:Nat):Int)::vs) H Q E
def aky{cx:Addr}{i:Nat}{pm:Value}(j:Ç 6 "nth_told" ["i","finding"] (Nf k)):Es P w K mg base 7 ye (sy ye mA mB mS [("i",cx)] pm) ["finding"] (Jd cx (.int ((i:Nat):Int)) (Wp k i)):=
 aea akx (λc I u=>rfl) λf c A outer s H y Q hr h=>⟨_,bz j (ae á ò),⟨_,rfl,_,rfl,h⟩⟩
def aa.put{H:Hp}{a x:Addr}{xs:au}{o:HO}(h:â a xs)(j:∀u,H x=some u->∃ps,u=.gG ps):aa K (Áe o) a xs:=by
 rcases h with (h|⟨o,h⟩)|h
 .exact .inl (.inl (by rw[ao (λz=>by rw[z] at h;let(ps,e):=j _ h;cases e)];exact h))
 .exact .inl (.inr ⟨o,by rw[ao (λz=>by rw[z] at h;let(ps,e):=j _ h;cases e)];exact h⟩)
 .exact .inr h
inductive Ng(K:FR)(T:Addr)(vs:au)(H:Hp)(Q:VK)(E':XK):Prop
 |mk (i:Nat) (at_ ab ap:Addr) (t b p:LI) (_:vs=[.int ((i:Nat):Int),.ref at_,.ref ab,.ref ap]) (_:H T=some (.gG #[])) (_:â at_ (iv t)) (_:â ab (iv b)) (_:â ap (iv p)) (_:t.length<=66000) (_:b.length<=66000) (_:p.length<=66000) (_:(∀x,fZ t=some x->Gd x.2)) (_:(∀m,gW p=.ok m->Ge m)) (_:(∀z,ū p=some z->∀H' r,H' r=some (.lst [.int z])->Q Âf H')) (_:(ū p=none->∀x y m,fZ t=some x->j3 x.1 x.2 b=some y->gW p=.ok m->(∀z∈rG x.2 (y.2.map (·.1)) m,z.1.length<=100)/\∀H' r,H' r=some (.lst (iv (Ac ((rG x.2 (y.2.map (·.1)) m).map (·.1)) i)))->Q Âf H'))
def akz:bH ["i","t","b","p"] ["i","t","b","p"] (aV pW):=cw
def akA{f:Addr}{fd:FD}{T c:Addr}(F:br K "nth" "nth" pW f fd)(hc:fd.code=.ref c)(hK:Bv K c T)(hb:xD mg base)(dA:∀(cx:Addr)(i:Nat),Ç 8 "answered" ["t","b","p","told"] (Wh K k ye (sy ye mA mB mS [("i",cx)] ((mg "__name__").getD .none)) (Jd cx (.int ((i:Nat):Int)) (Wp k i)))):Ì aE 9 f fd ["i","t","b","p"] (Ng K T):=by
 apply F.okt akz Á (λaG A outer s H vs Q E I hr h=>?_);let(i,at_,ab,ap,t,b,p,rfl,J,h1,h2,h3,l1,l2,l3,g1,g2,k1,k2):=h;let I:=I.symm.trans hc;let(fA,fdA,GA,gA,kA,bA):=dA Î i;apply⟨_,aed (i:=0) (x:="i") (c:=s.heap.objs.size+1) GA hr Á gA kA bA Á Á Á Á Á (ae á (ae ç (ae ö (ae (adZ (q:=ye) (cl:=[("i",s.heap.objs.size+1)]) hK hb I Á Á) ag)))),?_⟩;apply(_,Á,_,Á,_,Á,_,Á,J,λlf j Y jc M O S o u ho ru G=>?_);let nT:∀u,H T=some u->∃ps,u=.gG ps:=λu e=>by
  symm
 let U:j≠T:=λz=>by rw[z,J] at O;cases O
 let W:lf≠T:=λz=>by rw[z,J] at M;cases M
 let nf:lf≠s.heap.objs.size+1:=λz=>by rw[<-z,aq] at G;cases G
 let nc:j≠s.heap.objs.size+1:=λz=>by rw[<-z,ao S,aq] at G;cases G
 let seq:∀{a:Addr}{xs:au},â a xs->aa K (upd (upd (upd (ϛ (.gG jc)) j (zg j ye)) lf (zf lf (sy ye mA mB mS [("i",s.heap.objs.size+1)] ((mg "__name__").getD .none) j Y))) Î (nB Î o)) a xs:=λh=>
  aa.put (aa.put (aa.put (aa.put h nT) (λu e=>by rw[ao U,O] at e;cases e)) (λu e=>by rw[ao S.symm,ao W,M] at e;cases e)) (λu e=>by let e:=G.symm.trans e;cases e)
 apply(at_,ab,ap,lf,t,b,p,Á,⟨j,Y,(ao nf).trans aq,(ao nc).trans ((ao S).trans aq)⟩,seq h1,seq h2,seq h3,l1,l2,l3,g1,g2,k1,λer x y m ex ey em H' fd s' ok Z=>?_);let(q1,q2):=k2 er x y m ex ey em;let jk:H' Î=some (nB Î o):=s' _ _ aq;let nd:∀{a:Addr}{u:HO},H' a=some u->(∀φ,u≠ .ext φ)->del H' Î a=some u:=λe n=>by
  rw[vK (λz=>by rw[z,jk] at e;cases e;exact n _ Á)];exact e
 apply(o,u,jk,ho,ru,Á,fd,i,Á,nd ok.a Ä,nd ok.rs.1 Ä,λr hr=>⟨?_,nd (ok.rs.2 r hr (r.a,_) (by simp[z8])) Ä,nd (ok.rs.2 r hr (r.nums.a,_) (by simp[z8,lsN])) Ä⟩,λH2 r e n=>q2 _ r ?_)
 .let:=q1 r.m (by rw[<-Z.r];exact apy hr);exact this
 .rw[ao (λz=>by rw[z,n] at e;cases e),e,<-Z.r,cQ];rfl
end
end HD
end
section
namespace HD
open PySem
def bitAnd_nn(a b:Nat):Builtin.bitAnd (a:Int) (b:Int)=((a&&& b:Nat):Int):=by
 rfl
def yf(g b:Nat):x3 g b=g.testBit b:=by
 delta x3;let e:((g:Nat):Int)/2^b=((g/2^b:Nat):Int):=by
  rfl
 rw[e,show(1:Int)=((1:Nat):Int) from rfl,bitAnd_nn,Nat.testBit_eq_decide_div_mod_eq,Nat.and_one_is_mod];grind
def Cz(g b:Nat):gY g b=false↔ ∀i,b.testBit i=true->g.testBit i=true:=by
 let j:gY g b=decide (b&&& g≠b):=by
  delta gY Builtin.bitAnd Builtin.bitNot;rw[eJ (Hj b),fQ (by omega:¬(0:Int)<= -((g:Nat):Int)-1)];dsimp only;rw[show-(-((g:Nat):Int)-1)-1=((g:Nat):Int) by omega,C7,C7];let J:b&&& g<=b:=Nat.and_le_left;by_cases h:b&&& g=b
  .rw[h];simp
  .rw[eJ h];let:((b:Nat):Int)-((b&&& g:Nat):Int)≠0:=by omega
   simpa using this
 rw[j,Hf,Decidable.not_not];apply(λh i hi=>?_,λh=>apE λi=>?_)
 .rw[<-h,Do,jw] at hi;exact hi.2
 .rw[Do];cases hb:b.testBit i with
  |false=>rfl
  |true=>rw[h i hb];rfl
def Gg:gY g b=true↔ ∃i,b.testBit i=true/\g.testBit i=false:=by
 constructor
 .intro h;apply Pd λm=>?_;let:gY g b=false:=(Cz g b).mpr λi hi=>by
   symm
  symm
 .rintro⟨i,j,h2⟩;cases e:gY g b with
  |true=>rfl
  |false=>
   rw[(Cz g b).mp e i j] at h2;symm
theorem akD(g b:Nat):uQ g (2^b)=g.testBit b:=by
 delta uQ;rw[bitAnd_nn];cases e:g.testBit b with
 |true=>
  let h:g&&& 2^b≠0:=λz=>by
   let j:(g&&& 2^b).testBit b=true:=by rw[Do,e,apF];rfl
   symm
  symm
 |false=>
  let h:g&&& 2^b=0:=apE λi=>by
   grind
  symm
def akE(g:Nat):uQ g 0=false:=by
 delta uQ;rw[bitAnd_nn,Nat.and_zero];rfl
abbrev oZ(g b:Nat):Int:=jZ (gY g b)
def tu(g b:Nat):oZ g b=0\/oZ g b=1:=by
 delta oZ jZ;split <;> simp
theorem Gh(hs:∀i,g.testBit i=true->h.testBit i=true):oZ h b<=oZ g b:=by
 delta oZ jZ;cases e:gY h b with
 |false=>
  let:=tu g b;delta oZ jZ at this;rw[ah d9];omega
 |true=>
  let(i,j,h2):=Gg.mp e;let:gY g b=true:=Gg.mpr ⟨i,j,by
   cases e2:g.testBit i with
   |false=>rfl
   |true=>rw[hs i e2] at h2;cases h2⟩
  rw[this];exact Ho _
def Gi(a c:Nat):∀i,a.testBit i=true->(a|||c).testBit i=true:=λi h=>by rw[Nat.testBit_or,h];rfl
def Wq(a c:Nat):∀i,c.testBit i=true->(a|||c).testBit i=true:=λi h=>by rw[Nat.testBit_or,h,XM]
def Wr(a c:Nat):∀i,(a&&& c).testBit i=true->a.testBit i=true:=λi h=>by rw[Do,jw] at h;exact h.1
def akF(a c:Nat):∀i,(a&&& c).testBit i=true->c.testBit i=true:=λi h=>by rw[Do,jw] at h;exact h.2
def akG(a c b:Nat):oZ (a|||c) b+oZ (a&&& c) b<=oZ a b+oZ c b:=by
 let M:=Gh (b:=b) (Gi a c);let h2:=Gh (b:=b) (Wq a c);let O:=tu (a|||c) b;let S:=tu (a&&& c) b;let G:=tu a b;let I:=tu c b;rcases G with j|j
 .rcases I with m|m
  .let F:gY a b=false:=by
    cases e:gY a b with
    |false=>rfl
    |true=>delta oZ jZ at j;rw[e] at j;cases j
   let z:gY c b=false:=by
    cases e:gY c b with
    |false=>rfl
    |true=>delta oZ jZ at m;rw[e] at m;cases m
   let J:gY (a&&& c) b=false:=(Cz _ _).mpr λi hi=>by
    rw[Do,(Cz _ _).mp F i hi,(Cz _ _).mp z i hi];rfl
   grind
  .omega
 .omega
def ja(l:cg)(s:Nat):Nat:=(l.filter λp=>decide (p.1=s)).length
def jJ(l:cg)(s g:Nat):Int:=((l.filter λp=>decide (p.1=s)).map λp=>oZ g p.2).sum
def bf(lf:Nat->Int)(l:cg)(s g:Nat):Int:=(ja l s:Int)-lf s-jJ l s g
def jb(n:Nat)(sm:Nat->Nat)(lf:Nat->Int)(g:Nat):Int:=((List.range n).map λb=>if g.testBit b=true then lf ϭ else 0).sum
def iR(lf:Nat->Int)(l:cg)(g:Nat)(D:LN):Int:=(D.map λs=>cz (đ g)).sum
def dj(n:Nat)(sm:Nat->Nat)(lf:Nat->Int)(l:cg)(D:LN)(g:Nat):Int:=jb n sm lf g-iR lf l g D
theorem akH(hs:∀i,g.testBit i=true->h.testBit i=true)(l:cg)(s:Nat):jJ l s h<=jJ l s g:=by
 delta jJ;generalize l.filter (λp=>decide (p.1=s))=L;induction L with
 |nil=>simp
 |cons p L I=>
  let:=Gh (b:=p.2) hs;grind
theorem akI(a c:Nat)(l:cg)(s:Nat):jJ l s (a|||c)+jJ l s (a&&& c)<=jJ l s a+jJ l s c:=by
 delta jJ;generalize l.filter (λp=>decide (p.1=s))=L;induction L with
 |nil=>simp
 |cons p L I=>
  let:=akG a c p.2;grind
theorem CA(l:cg)(s g:Nat):0<=jJ l s g/\jJ l s g<=ja l s:=by
 delta jJ ja;generalize l.filter (λp=>decide (p.1=s))=L;induction L with
 |nil=>exact(Ho _,Ho _)
 |cons p L I=>
  let:=tu g p.2;simp only[a0,gS,c7];omega
theorem akJ(n:Nat)(sm:Nat->Nat)(lf:Nat->Int)(a c:Nat):jb n sm lf (a|||c)+jb n sm lf (a&&& c)=jb n sm lf a+jb n sm lf c:=by
 delta jb;generalize List.range n=L;induction L with
 |nil=>rfl
 |cons b L I=>
  let h:(if (a|||c).testBit b=true then lf ϭ else 0)+(if (a&&& c).testBit b=true then lf ϭ else 0)=(if a.testBit b=true then lf ϭ else 0)+(if c.testBit b=true then lf ϭ else 0):=by
   grind
  grind
def akK(h:x+y<=u+i)(j:x<=u)(h2:y<=u)(m:i<=x)(z:i<=y):cz x+cz y<=cz u+cz i:=by
 delta cz;omega
def Ad(hs:∀i,g.testBit i=true->h.testBit i=true)(lf:Nat->Int)(l:cg)(s:Nat):đ g<=bf lf l s h:=by
 let:=akH hs l s;delta bf;omega
def Ws(a c:Nat)(lf:Nat->Int)(l:cg)(s:Nat):đ a+bf lf l s c<=bf lf l s (a|||c)+bf lf l s (a&&& c):=by
 let:=akI a c l s;delta bf;omega
def Nh(a c:Nat)(lf:Nat->Int)(l:cg)(s:Nat):cz (đ a)+cz (đ c)<=cz (đ (a|||c))+cz (đ (a&&& c)):=
 akK (Ws a c lf l s) (Ad (Gi a c) lf l s) (Ad (Wq a c) lf l s) (Ad (Wr a c) lf l s) (Ad (akF a c) lf l s)
theorem akL(a c:Nat)(lf:Nat->Int)(l:cg):∀D:LN,iR lf l a D+iR lf l c D<=iR lf l (a|||c) D+iR lf l (a&&& c) D:=by
 intro D;induction D with
 |nil=>exact Ho _
 |cons s D I=>
  let j:=I;let h2:=Nh a c lf l s;delta iR at j⊢;simp only[a0,gS];omega
theorem akM(a c:Nat)(lf:Nat->Int)(l:cg){s:Nat}{D:LN}:s∈D->(iR lf l a D+iR lf l c D)+(cz (đ (a|||c))+cz (đ (a&&& c))-cz (đ a)-cz (đ c))<=iR lf l (a|||c) D+iR lf l (a&&& c) D:=by
 induction D with
 |nil=>exact @λh=>absurd h Ä
 |cons x D I=>
  intro h;rcases ba.mp h with rfl|h
  .let j:=akL a c lf l D;delta iR at j⊢;simp only[a0,gS];omega
  .let j:=I h;let h2:=Nh a c lf l x;delta iR at j⊢;simp only[a0,gS];omega
def akN{h b c:Nat}(j:h.testBit b=false)(h2:c.testBit b=true):h<h|||c:=by
 let J:h<=h|||c:=Nat.left_le_or;grind
def uY(lf:Nat->Int)(l:cg)(s b g:Nat):bf lf ((s,b)::l) s g=bf lf l s g+1-oZ g b:=by
 delta bf ja jJ;grind
def Ae(lf:Nat->Int)(l:cg)(b g:Nat)(h:s≠s'):bf lf ((s,b)::l) s' g=bf lf l s' g:=by
 delta bf ja jJ;symm
def akO(n:Nat)(sm:Nat->Nat)(lf:Nat->Int)(l:cg){D:LN}{s:Nat}(hs:s∈D)(a c:Nat):dj n sm lf l D (a|||c)+dj n sm lf l D (a&&& c)+(cz (đ (a|||c))+cz (đ (a&&& c))-cz (đ a)-cz (đ c))<=dj n sm lf l D a+dj n sm lf l D c:=by
 let j:=akJ n sm lf a c;let h2:=akM a c lf l hs;delta dj;omega
def Ni(n:Nat)(sm:Nat->Nat)(lf:Nat->Int)(l:cg)(D:LN)(s B:Nat):Prop:=∀g,g<2^n->0<=dj n sm lf l D g+cz (đ g)-cz (đ g+oZ g B)
def Wt(n:Nat)(sm:Nat->Nat)(lf:Nat->Int)(l:cg)(D:LN)(s B b:Nat):Prop:=∀g,g<2^n->0<=dj n sm lf l D g+cz (đ g)-cz (đ g-1+oZ g B)-(if g.testBit b=true then 1 else 0)
def akP(n:Nat)(sm:Nat->Nat)(lf:Nat->Int)(r:cg){D:LN}{s B:Nat}(hs:s∈D)(h:∀g,g<2^n->0<=dj n sm lf Ý D g):
  Ni n sm lf Ý D s B\/∃b,B.testBit b=true/\Wt n sm lf Ý D s B b:=by
 apply Pd λhn=>?_;let Z:=λz=>hn (Or.inl z);let lX:=λb hb z=>hn (Or.inr ⟨b,hb,z⟩);let gO:∀(m g:Nat),2^n-g<=m->g<2^n->oZ g B=1->dj n sm lf Ý D g=0->0<=bf lf Ý s g->False:=by
  intro m;induction m with
  |zero=>omega
  |succ m ih=>
   intro g hm j U h0 aq0;let W:gY g B=true:=by
    cases e:gY g B with
    |true=>rfl
    |false=>delta oZ jZ at U;rw[e] at U;cases U
   let(b,S,FY):=Gg.mp W;let om:=lX b S;delta Wt at om;let ⟨c,hc⟩:=apG.mp om;let J:=Pd λz=>hc λy=>absurd y z;let hc:¬0<=dj n sm lf Ý D c+cz (bf lf Ý s c)-cz (bf lf Ý s c-1+oZ c B)-(if c.testBit b=true then 1 else 0):=λz=>hc λ_=>z;let By:=h c J;let hco:=tu c B;let Wu:c.testBit b=true:=by
    cases e:c.testBit b with
    |true=>rfl
    |false=>
     rw[e,ah d9] at hc;exfalso;apply hc;delta cz;omega
   rw[Wu,af rfl] at hc;let O:=Nat.or_lt_two_pow j J;let M:=Nat.and_lt_two_pow g J;let hU:=h _ O;let hI:=h _ M;let F:=akO n sm lf Ý hs g c;let I:=Nh g c lf Ý s;let hgU:=Ad (Gi g c) lf Ý s;let G:=tu (g|||c) B;let hIo:=Gh (b:=B) (Wr g c);let aq4:=tu (g&&& c) B;let uB:=Ad (Gi g c) lf r s;let sC:=Ws g c lf r s;let e1:=uY lf r s B g;let e2:=uY lf r s B c;let e3:=uY lf r s B (g|||c);let e4:=uY lf r s B (g&&& c);generalize hS0:dj n sm lf Ý D c=S0 at By hc F;generalize dj n sm lf Ý D (g&&& c)=SI at hI F;rw[h0] at F;let Wv:S0=0/\(oZ c B=1\/bf lf Ý s c<=0):=by
    delta cz at hc;omega
   let(Wv,jg):=Wv;rcases G with G|G
   .exfalso;delta cz at F I;omega
   .let hSU:dj n sm lf Ý D (g|||c)=0:=by omega
    let:=akN FY Wu;grind
 delta Ni at Z;let ⟨g,j⟩:=apG.mp Z;let nO:=Pd λz=>j λy=>absurd y z;let j:¬0<=dj n sm lf Ý D g+cz Èj-cz (bf lf Ý s g+oZ g B):=λz=>j λ_=>z;let hgs:=h g nO;let sD:=tu g B;let Y:oZ g B=1/\dj n sm lf Ý D g=0/\0<=bf lf Ý s g:=by
  delta cz at j;omega
 exact gO _ g (bJ _) nO Y.1 Y.2.1 Y.2.2
theorem akV(f:Nat->Int){a b:LN}(h:a.Perm b):(a.map f).sum=(b.map f).sum:=by
 induction h with
 |nil=>rfl
 |cons x _ I=>rw[a0,a0,gS,gS,I]
 |swap x y l=>
  simp only[a0,gS];omega
 |trans _ _ j h2=>exact j.trans h2
theorem Nk(f:Nat->Int){D:LN}:(∀s∈D,f s=0)->(D.map f).sum=0:=by
 induction D with
 |nil=>exact @λ_=>Á
 |cons x D I=>
  intro h;rw[a0,gS,h x Ä,I λs hs=>h s (aO _ hs)];rfl
theorem akW(f:Nat->Int):∀{A D:LN},A.Nodup->D.Nodup->(∀s∈A,s∉D->f s=0)->(∀s∈D,s∉A->f s=0)->(A.map f).sum=(D.map f).sum:=by
 intro A;induction A with
 |nil=>exact @λD _ _ _ h=>(Nk f λs hs=>h s hs Ä).symm
 |cons x A J=>
  intro D m F I h2;let(O,m):=j9.mp m;by_cases G:x∈D
  .let M:=List.perm_cons_erase G;rw[akV f M,a0,a0,gS,gS];congr 1;apply J m (F.erase x) (λs hs j=>?_) (λs hs j=>?_)
   .exact I s (aO _ hs) λz=>j ((F.mem_erase_iff).mpr ⟨λe=>O (e▸ hs),z⟩)
   .let(Z,S):=(F.mem_erase_iff).mp hs;exact h2 s S λz=>(ba.mp z).elim Z j
  .rw[a0,gS,I x Ä G,Yo];exact J m F (λs hs=>I s (aO _ hs)) λs hs j=>h2 s hs λz=>(ba.mp z).elim (λe=>G (e▸ hs)) j
theorem Ww:∀(n:Nat)(l:LN),l.length<=n->l.eraseDups.Nodup
 |0,l,h=>by
  let:l=[]:=O3.mp Æ;rw[this];exact Ay
 |n+1,[],_=>Ay
 |n+1,a::l,h=>by
  rw[List.eraseDups_cons];apply j9.mpr ⟨λz=>?_,Ww n _ ?_⟩
  .let:=apH.mp z;simp at this
  .let:=Hg (λb=>!b==a) l;simp only[c7] at h;omega
def uZ(q:Nat->Bool)(n:Nat):Nat:=(((List.range n).filter q).map (2^ ·)).sum
def Wx(q:Nat->Bool)(n:Nat):uZ q (n+1)=(if q n=true then 2^n else 0)+uZ q n:=by
 delta uZ;rw[Hh,Dk,bX,List.sum_append];grind
theorem Nl(q:Nat->Bool):∀n,uZ q n<2^n:=by
 intro n;induction n with
 |zero=>
  simp[uZ]
 |succ n I=>
  rw[Wx];let:=I;let e:2^(n+1)=2^n+2^n:=by rw[O8];omega
  split <;> omega
theorem Wy(q:Nat->Bool):∀n b,(uZ q n).testBit b=(decide (b<n)&&q b):=by
 intro n;induction n with
 |zero=>
  intro b;simp[uZ]
 |succ n I=>
  intro b;rw[Wx];let z:=Nl q n;let I:=I b;by_cases h:q n=true
  .rw[af h];by_cases j:b<n
   .rw[apI j,I,eJ j,eJ Æ]
   .by_cases m:b=n
    .subst m;rw[apJ,Dq z,h,eJ Æ];rfl
    .rw[fQ Æ,lu];apply Dq ?_;let F:2^(n+1)=2^n+2^n:=by rw[O8];omega
     let G:2^(n+1)<=2^b:=Hk Ù Æ;omega
  .rw[ah h,wO,I];by_cases j:b<n
   .rw[eJ j,eJ Æ]
   .by_cases m:b=n
    .subst m;let:q b=false:=by simpa using h
     rw[this,yt,yt]
    .rw[fQ j,fQ Æ]
theorem akX(q:Nat->Bool):∀l:LN,l.filter q∈Flags.choices l:=by
 intro l;induction l with
 |nil=>
  simp[Flags.choices]
 |cons x l I=>
  let I:=I;delta Flags.choices;by_cases h:q x=true
  .rw[Az h];exact tX _ (cf.mpr ⟨_,I,Á⟩)
  .rw[AA h];exact As _ I
def dg(sames:LN)(p:Nat×Nat):Flags.Spot:=⟨p.1,(oW sames.length p.2).map λb=>sames.getD b 0⟩
def aX(left:LN):Nat->Int:=λk=>((left.getD k 0:Nat):Int)
def Wz(sames left:LN)(l:cg)(s:Nat):Flags.lacks left Æm s=ja l s-left.getD s 0:=by
 delta Flags.lacks ja;rw[yw,aA];congr 2
def akY(sames:LN)(l:cg)(s g:Nat)(y:LN)(S:∀b,b<sames.length->g.testBit b=!y.contains Ł)(F:∀p∈l,p.2<2^sames.length):
  (((l.map ó).filter λp=>p.sign==s&&p.may.any λk=>y.contains k).length:Int)=jJ l s g:=by
 rw[yw,aA];delta jJ;induction l with
 |nil=>rfl
 |cons p l I=>
  let I:=I λx M=>F x (aO _ M);let J:=F p Ä;let O:(dg sames p).may.any (λk=>y.contains k)=gY g p.2:=by
   delta dg;rw[OR,pj,vc,Gg];delta oW;constructor
   .rintro⟨b,m,h⟩;let(j,h2):=j8.mp m;simp at j;apply(b,by rw[<-yf];exact h2,?_);symm
   .rintro⟨b,j,h2⟩;let m:b<sames.length:=by
     apply Yg λz=>?_;let:p.2.testBit b=false:=Dq (iq J (Hk Ù z));symm
    apply(b,j8.mpr ⟨by simp_all,by rw[yf];exact j⟩,?_);symm
  by_cases hs:p.1=s
  .rw[Az (l:=l) (p:=λp=>decide (p.1=s)) É,a0,gS,<-I];let G:((dg sames p).sign==s)=true:=by simpa [dg] using hs
   cases eb:gY g p.2 with
   |true=>
    rw[Az É,c7];delta oZ jZ;grind
   |false=>
    rw[AA É];delta oZ jZ;symm
  .rw[AA (l:=l) (p:=λp=>decide (p.1=s)) É,<-I];let G:((dg sames p).sign==s)=false:=by simpa [dg] using hs
   symm
theorem sum_nat(f:Nat->Nat):∀l:LN,(((l.map f).sum:Nat):Int)=(l.map λs=>((f s:Nat):Int)).sum:=by
 intro l;induction l with
 |nil=>exact Á
 |cons x l I=>
  rw[a0,a0,gS,gS,Int.natCast_add,I]
theorem sum_add(f g h:Nat->Int){l:LN}:(∀s∈l,f s=g s+h s)->(l.map f).sum=(l.map g).sum+(l.map h).sum:=by
 induction l with
 |nil=>exact @λ_=>Á
 |cons x l I=>
  intro e;rw[a0,a0,a0,gS,gS,gS,e x Ä,I λs hs=>e s (aO _ hs)];omega
def akZ(sames left:LN)(g:Nat)(y:LN)(G:∀b,b<sames.length->g.testBit b=!y.contains Ł):
  ((((sames.filter λk=>!y.contains k).map λk=>left.getD k 0).sum:Nat):Int)=jb sames.length Ãc ä g:=by
 let gen:∀(L:LN)(o:Nat),(∀b,b<L.length->g.testBit (o+b)=!y.contains Æx)->((((L.filter λk=>!y.contains k).map λk=>left.getD k 0).sum:Nat):Int)=((List.range L.length).map λb=>if g.testBit (o+b)=true then aX left Æx else 0).sum:=by
  intro L;induction L with
  |nil=>intro o _;rfl
  |cons x L I=>
   intro o h;let m:=h 0 Ä;rw[Ye] at m;let m:g.testBit o=!y.contains x:=m;let I:=I (o+1) λb z=>by
    let:=h (b+1) (À z);rw[show o+1+b=o+(b+1) by omega,this];rfl
   rw[c7,Df,a0,gS,cQ];let F:(List.range L.length).map ((λb=>if g.testBit (o+b)=true then aX left ((x::L).getD b 0) else 0)∘Nat.succ)=(List.range L.length).map λb=>if g.testBit (o+1+b)=true then aX left Æx else 0:=by
    apply kq;intro b _;show(if g.testBit (o+(b+1))=true then aX left Æx else 0)=_;rw[show o+(b+1)=o+1+b by omega]
   rw[F,<-I,Ye];show _=(if g.testBit o=true then aX left x else 0)+_;rw[m];by_cases j:y.contains x=true
   .rw[j,AA (by rw[j];decide)];simp
   .let j:y.contains x=false:=by simpa using j
    rw[j,Az (by rw[j];rfl),a0,gS,Int.natCast_add];rfl
 let:=gen sames 0 λb z=>by rw[wO];exact G b z
 simp only[wO] at this;exact this
def yg(lf:Nat->Int)(l:cg)(D:LN):Prop:=∀s,s∉D->(ja l s:Int)<=lf s
def Nm(h:s∉l.map (·.1)):ja l s=0:=by
 delta ja;rw[O3,apA];grind
def WA(sames left:LN)(l:cg)(y:LN)(g:Nat)(I:∀b,b<sames.length->g.testBit b=!y.contains Ł)(S:∀p∈l,p.2<2^sames.length){D:LN}(O:D.Nodup)(J:yg ä l D):
  ((((l.map ó).map λp=>p.sign).eraseDups.map (Flags.lacks left Æm)).sum<=((sames.filter λk=>!y.contains k).map λk=>left.getD k 0).sum+(((l.map ó).map λp=>p.sign).eraseDups.map λs=>min Ϸ (((l.map ó).filter λp=>p.sign==s&&p.may.any λk=>y.contains k).length)).sum)↔
   0<=dj sames.length Ãc ä l D g:=by
 let j:(l.map ó).map (λp=>p.sign)=l.map (·.1):=by
  rw[cQ];rfl
 rw[j];let W:=akZ sames left g y I;let h2:=sum_nat (Flags.lacks left Æm) (l.map (·.1)).eraseDups;let Y:=sum_nat (λs=>min Ϸ (((l.map ó).filter λp=>p.sign==s&&p.may.any λk=>y.contains k).length)) (l.map (·.1)).eraseDups;let Z:=sum_add (λs=>((Flags.lacks left Æm s:Nat):Int)) (λs=>((min Ϸ (((l.map ó).filter λp=>p.sign==s&&p.may.any λk=>y.contains k).length):Nat):Int)) (λs=>cz (bf ä l s g)) (l:=(l.map (·.1)).eraseDups) λs _=>by
  let F:=akY sames l s g y I S;let M:=Wz sames left l s;let G:=CA l s g;generalize ((l.map ó).filter λp=>p.sign==s&&p.may.any λk=>y.contains k).length=o at F;rw[M];delta bf cz aX;omega
 let h5:=akW (λs=>cz (bf ä l s g)) (A:=(l.map (·.1)).eraseDups) (D:=D) (Ww _ _ (bJ _)) O (λs _ m=>?_) (λs _ m=>?_)
 .delta dj iR;omega
 .let F:=J s m;let G:=CA l s g;delta bf cz;omega
 .let U:=Nm λz=>m (apH.mpr z);let G:=CA l s g;delta bf cz aX;omega
def WB{L:Flags.Locker}{sames:LN}(hs:L.sameKinds=sames)(F:sames.Nodup)(left:LN)(l:cg)(m:∀p∈l,p.2<2^sames.length){D:LN}(j:D.Nodup)(G:yg ä l D):
  L.enough left Æm=true↔ ∀g,g<2^sames.length->0<=dj sames.length Ãc ä l D g:=by
 delta Flags.Locker.enough;rw[hs,lx];constructor
 .intro h g I;let z:=h _ (akX (λk=>!g.testBit (sames.idxOf k)) sames);rw[og] at z;refine(WA sames left l _ g č m j G).mp z;symm
 .intro h y _;rw[og];refine(WA sames left l y (uZ (λb=>!y.contains Ł) sames.length) č m j G).mpr (h _ (Nl _ _));rw[Wy,eJ hb,lR]
end HD
end
section
namespace HD
open PySem L2
def fq(n:Nat)(sm:Nat->Nat)(lf:Nat->Int)(l:cg)(D:LN):hZ:=(D.map λs=>(s,(List.range (2^n)).map (bf lf l s)),(List.range (2^n)).map (dj n sm lf l D))
def dec(lf:Nat->Int)(k:Nat):Nat->Int:=λj=>if j=k then lf j-1 else lf j
def WC(f:Nat->Int)(h:g<G):((List.range G).map f).getD g 0=f g:=by
 symm
def o9{G:Nat}{f h:Nat->Int}(e:∀g,g<G->f g=h g):(List.range G).map f=(List.range G).map h:=by
 symm
def CC(f:Nat->Int)(G:Nat):nW ((List.range G).map f)=true↔ ∀g,g<G->0<=f g:=by
 delta nW;simp
theorem El(f:Nat->β)(s:Nat):∀D:LN,bY (D.map λx=>(x,f x)) s=if s∈D then some (f s) else none:=by
 intro D;induction D with
 |nil=>exact Á
 |cons x D I=>
  let I:=I;delta bY at I⊢;rw[a0];by_cases h:x=s
  .subst h;rw[List.find?_cons_of_pos Ä,af Ä];rfl
  .rw[apK (À h),I];by_cases h2:s∈D
   .rw[af h2,af (aO _ h2)]
   .rw[ah h2,ah (λz=>(ba.mp z).elim (λe=>h e.symm) h2)]
def WD{β:Type}(f:Nat->β){s:Nat}(v:β){D:LN}(h:s∈D):eA (D.map λx=>(x,f x)) s v=D.map λx=>(x,if x=s then v else f x):=by
 delta eA;let j:((D.map λx=>(x,f x)).any λp=>decide (p.1=s))=true:=by
  symm
 rw[af j,cQ];apply kq;grind
theorem Gk(f h:Nat->Int){s:Nat}{D:LN}:D.Nodup->s∈D->(∀x∈D,x≠s->h x=f x)->(D.map h).sum=(D.map f).sum-f s+h s:=by
 induction D with
 |nil=>exact @λ_ hs _=>absurd hs Ä
 |cons x D I=>
  intro nd hs e;let(F,nd):=j9.mp nd;rw[a0,a0,gS,gS];by_cases m:x=s
  .subst m;let:(D.map h).sum=(D.map f).sum:=by
    congr 1;apply kq;intro y j;exact e y (aO _ j) λz=>F (z▸ j)
   rw[this];omega
  .let Y:=(ba.mp hs).elim (λz=>absurd z.symm m) id;rw[I nd Y λy j=>e y (aO _ j),e x Ä m];omega
def WE{n:Nat}{sm:Nat->Nat}{lf:Nat->Int}{k:Nat}(h:∀b,b<n->sm b≠k)(g:Nat):jb n sm (dec lf k) g=jb n sm lf g:=by
 delta jb;congr 1;apply kq;intro b j;delta dec;symm
def ak1{sm:Nat->Nat}{lf:Nat->Int}(m:b<n)(hi:∀a,a<n->sm a=sm b->a=b)(g:Nat):jb n sm Äu g=jb n sm lf g-(if g.testBit b=true then 1 else 0):=by
 delta jb;let:=Gk (λa=>if g.testBit a=true then lf (sm a) else 0) (λa=>if g.testBit a=true then dec lf ϭ (sm a) else 0) (s:=b) (D:=List.range n) Ys É λx z j=>by
  delta dec;grind
 rw[this];let e:dec lf ϭ ϭ=lf ϭ-1:=by delta dec;rw[af rfl]
 grind
def Nn(lf:Nat->Int)(l:cg)(s g:Nat):bf Âs l s g=bf lf l s g+1:=by
 delta bf dec;rw[af rfl];omega
def wB(lf:Nat->Int)(l:cg){s k:Nat}(h:s≠k)(g:Nat):bf (dec lf k) l s g=bf lf l s g:=by
 delta bf dec;rw[ah h]
section
variable{n:Nat}{sm:Nat->Nat}{lf:Nat->Int}{r:cg}{D:LN}{s B:Nat}
def WG(j:s∈D)(nd:D.Nodup)(G:∀b,b<n->sm b≠s)(g:Nat):dj n sm Âs r D g=dj n sm lf Ý D g+cz Èj-cz (bf lf Ý s g+oZ g B):=by
 delta dj;rw[WE G];let:=Gk (λx=>cz (bf lf Ý x g)) (λx=>cz (bf Âs r x g)) nd j λx _ aQ=>by
  rw[wB _ _ aQ,Ae _ _ _ _ Åh]
 delta iR;rw[this,Nn,uY];grind
def WH{b:Nat}(j:b<n)(hi:∀a,a<n->sm a=sm b->a=b)(J:s∈D)(nd:D.Nodup)(Y:sm b∉D)(g:Nat):dj n sm Äu r D g=dj n sm lf Ý D g+cz Èj-cz (bf lf Ý s g-1+oZ g B)-(if g.testBit b=true then 1 else 0):=by
 delta dj;rw[ak1 j hi];let:=Gk (λx=>cz (bf lf Ý x g)) (λx=>cz (bf Äu r x g)) nd J λx m aQ=>by
  rw[wB _ _ (λz=>Y É),Ae _ _ _ _ Åh]
 delta iR;rw[this,wB _ _ (λz=>Y É),uY];grind
def WI(J:s∉D)(G:∀b,b<n->sm b≠s)(g:Nat):dj n sm Âs r D g=dj n sm lf Ý D g:=by
 delta dj iR;rw[WE G];congr 2;apply kq;intro x j;let aQ:x≠s:=λz=>J (z▸ j);rw[wB _ _ aQ,Ae _ _ _ _ Åh]
def ak2(j:s∉D)(G:∀b,b<n->sm b≠s):fq n sm lf Ý D=fq n sm Âs r D:=by
 delta fq;congr 1
 .apply kq;intro x m;let aQ:x≠s:=λz=>j (z▸ m);congr 1;exact o9 λg _=>by rw[wB _ _ aQ,Ae _ _ _ _ Åh]
 .exact o9 λg _=>(WI j G g).symm
def WJ:sW 0=0:=rfl
def WK(b:Nat):sW (2^b)= -1:=by
 delta sW;let:0<2^b:=Nat.two_pow_pos b;grind
def Np(f:Nat->Int)(G B same:Nat):iQ ((List.range G).map f) B same=(List.range G).map λg=>f g+sW same+oZ g B:=by
 delta iQ;symm
def WL(f h:Nat->Int)(G B same:Nat):jr ((List.range G).map f) ((List.range G).map h) B same=(List.range G).map λg=>h g+cz (f g)-cz (f g+sW same+oZ g B)-jZ (uQ g same):=by
 delta jr;rw[aA,g7,Np];symm
def WM(j:s∈D)(nd:D.Nodup)(G:∀b,b<n->sm b≠s):jr ((List.range (2^n)).map Æt) (fq n sm lf Ý D).2 B 0=(List.range (2^n)).map (dj n sm Âs r D):=by
 delta fq;rw[WL];exact o9 λg _=>by
  rw[WG (B:=B) j nd G,WJ,akE,show jZ false=0 from rfl,Int.add_zero,Int.sub_zero]
def Nq(j:b<n)(hi:∀a,a<n->sm a=sm b->a=b)(J:s∈D)(nd:D.Nodup)(Y:sm b∉D):jr ((List.range (2^n)).map Æt) (fq n sm lf Ý D).2 B (2^b)=(List.range (2^n)).map (dj n sm Äu r D):=by
 delta fq;rw[WL];exact o9 λg _=>by
  rw[WH (B:=B) j hi J nd Y,WK,akD];rfl
def ak3(j:s∈D)(nd:D.Nodup)(G:∀b,b<n->sm b≠s):rq (fq n sm lf Ý D) s B 0 ((List.range (2^n)).map Æt)=fq n sm Âs r D:=by
 delta rq;rw[WM j nd G];delta fq;rw[WD _ _ j,Np];congr 1;apply kq;intro x m;congr 1;by_cases h:x=s
 .rw[af h,h];exact o9 λg _=>by rw[Nn,uY,WJ];omega
 .rw[ah h];exact o9 λg _=>by rw[wB _ _ h,Ae _ _ _ _ (dX h)]
def ak4{b:Nat}(F:b<n)(hi:∀a,a<n->sm a=sm b->a=b)(j:s∈D)(nd:D.Nodup)(Y:sm b∉D):rq (fq n sm lf Ý D) s B (2^b) ((List.range (2^n)).map Æt)=fq n sm Äu r D:=by
 delta rq;rw[Nq F hi j nd Y];delta fq;rw[WD _ _ j,Np];congr 1;apply kq;intro x G;congr 1;let m:x≠sm b:=λz=>Y (z▸ G);by_cases h:x=s
 .rw[af h,h];exact o9 λg _=>by rw[wB _ _ (h▸ m),uY,WK];omega
 .rw[ah h];exact o9 λg _=>by rw[wB _ _ m,Ae _ _ _ _ (dX h)]
end
abbrev cq(sames:LN):Nat->Nat:=λb=>sames.getD b 0
structure n0(sames left:LN)(l:cg)(D:LN):Prop where
 nd:D.Nodup
 Af:yg ä l D
 bits:∀p∈l,p.2<2^sames.length
 sgn:∀p∈l,∀b,b<sames.length->cq sames b≠p.1
 sd:∀b,b<sames.length->cq sames b∉D
 all:∀g,g<2^sames.length->0<=dj sames.length ÿ ä l D g
def tF(h:0<left.getD f 0):aX ē=dec ä f:=by
 let m:f<left.length:=by
  grind
 funext j;delta aX dec Flags.less1;grind
def Gm(nd:sames.Nodup)(m:b<sames.length):∀a,a<sames.length->cq sames a=cq sames b->a=b:=λa j e=>by
 delta cq at e;rw[iV,iV,dm j,dm m] at e;exact(XU nd).mp e
def cnt_cons(r:cg)(s B:Nat):ja Ý s=ja r s+1:=by
 delta ja;simp
def Gn(r:cg)(B:Nat)(h:s≠x):ja Ý x=ja r x:=by
 delta ja;symm
def ak5(n:Nat)(sm:Nat->Nat)(lf:Nat->Int):jb n sm lf 0=0:=by
 delta jb;exact Nk _ λb _=>by rw[Nat.zero_testBit,ah d9]
def ak6(m:b<n):jb n sm lf (2^b)=lf ϭ:=by
 delta jb;let:=Gk (λ_=>(0:Int)) (λa=>if (2^b).testBit a=true then lf (sm a) else 0) (s:=b) (D:=List.range n) Ys É λx z j=>by
  grind
 rw[this,Nk _ λ_ _=>rfl,apF,af rfl];omega
def Nr(z:Int):0<=cz z:=by delta cz;split <;> omega
theorem WN(lf:Nat->Int)(l:cg)(g:Nat):∀D:LN,0<=iR lf l g D:=by
 intro D;induction D with
 |nil=>exact Ho _
 |cons s D I=>
  let j:=I;let h2:=Nr (đ g);delta iR at j⊢;rw[a0,gS];omega
theorem ak7(lf:Nat->Int)(l:cg)(g:Nat){s:Nat}{D:LN}:s∈D->cz (đ g)<=iR lf l g D:=by
 induction D with
 |nil=>exact @λh=>absurd h Ä
 |cons x D I=>
  intro h;let j:=WN lf l g D;let h2:=Nr (bf lf l x g);rcases ba.mp h with rfl|h
  .delta iR at j⊢;rw[a0,gS];omega
  .let m:=I h;delta iR at j m⊢;rw[a0,gS];omega
def ak8{sm:Nat->Nat}(hs:s∈D)(h:0<=dj n sm Äl r D 0):0<left.getD s 0:=by
 apply apL λz=>?_;let j:=ak7 Äl r 0 hs;let h2:=CA r s 0;let m:=Nn ä r s 0;delta dj at h;rw[ak5] at h;let F:bf ä r s 0=(ja r s:Int)-jJ r s 0:=by delta bf aX;rw[z];omega
 delta cz at j;omega
def ak9(j:b<n)(h:0<=dj n sm (dec ä ϭ) r D (2^b)):0<left.getD ϭ 0:=by
 let m:=WN (dec ä ϭ) r (2^b) D;delta dj at h;rw[ak6 j] at h;let:dec ä ϭ ϭ=((left.getD ϭ 0:Nat):Int)-1:=by delta dec aX;rw[af rfl]
 omega
section
variable{L:Flags.Locker}{sames left:LN}{r:cg}{D:LN}{s B:Nat}
def n0.sign(c:Àa Ý D)(z:0<left.getD s 0)(h:∀g,g<2^sames.length->0<=dj sames.length ÿ Äl r D g):n0 sames (Flags.less1 left s) r D:=by
 apply(c.nd,λx F=>?_,λp j=>c.bits p (aO _ j),λp j=>c.sgn p (aO _ j),c.sd,by rw[tF z];exact h);rw[tF z];let:=c.Af x F;delta dec;by_cases m:x=s
 .subst m;rw[cnt_cons] at this;rw[af rfl];omega
 .rw[Gn _ _ (dX m)] at this;rw[ah m];exact this
def n0.same(c:Àa Ý D){b:Nat}(J:b<sames.length)(F:0<left.getD Ĥ 0)(hs:s∈D)(h:∀g,g<2^sames.length->0<=dj sames.length ÿ (dec ä Ĥ) r D g):n0 sames (Flags.less1 left Ĥ) r D:=by
 apply(c.nd,λx G=>?_,λp j=>c.bits p (aO _ j),λp j=>c.sgn p (aO _ j),c.sd,by rw[tF F];exact h);rw[tF F];let:=c.Af x G;let M:x≠s:=λz=>G (z▸ hs);rw[Gn _ _ (dX M)] at this;delta dec;by_cases m:x=cq sames b
 .rw[af m];let I:ja r x=0:=Nm λz=>by
   let(p,j,e):=cf.mp z;exact c.sgn p (aO _ j) b J (by rw[<-m];exact e.symm)
  rw[I];let:aX left x=((left.getD Ĥ 0:Nat):Int):=by rw[m];rfl
  omega
 .rw[ah m];exact this
def Ag(m:L.sameKinds=sames)(nd:sames.Nodup)(c:Àa Ý D)(j:0<left.getD f 0)(hd:yg (dec ä f) r D):L.enough ē Án=true↔ ∀g,g<2^sames.length->0<=dj sames.length ÿ (dec ä f) r D g:=by
 let:=WB m nd ē r (λp z=>c.bits p (aO _ z)) c.nd (by rw[tF j];exact hd);rw[tF j] at this;exact this
def Ah(L:Flags.Locker)(sames left:LN)(s B:Nat)(r:cg):Nat:=(((dg sames (s,B)).sign::if 0<Flags.lacks left (((s,B)::r).map ó) (dg sames (s,B)).sign then (dg sames (s,B)).may else []).filter λ(f:Nat)=>decide (0<left.getD f 0)&&L.enough ē Án).headD 0
def WO(h:(decide (0<left.getD s 0)&&L.enough (Flags.less1 left s) Án)=true):Ah L sames left s B r=s:=by
 delta Ah;rw[wR,af (show(decide (0<left.getD (dg sames (s,B)).sign 0)&&L.enough (Flags.less1 left (dg sames (s,B)).sign) Án)=true from h)];rfl
def ala:L.fill (((s,B)::r).map ó) left=Ah L sames left s B r::L.fill Án (Flags.less1 left (Ah L sames left s B r)):=rfl
def alb(sames:LN)(st:hZ)(s B:Nat)(row:LI)(P:Nat->Bool):∀bs:LN,(∀b∈bs,nW (jr row st.2 B (2^b))=P Ĥ)->(∃b∈bs,P Ĥ=true)->
  ∃b∈bs,uS sames st s B row bs=some (cq sames b,rq st s B (2^b) row)/\P Ĥ=true/\((bs.map ÿ).filter P).headD 0=cq sames b:=by
 intro bs;induction bs with
 |nil=>
  intro _ h;let(b,M,_):=h;cases M
 |cons b bs Y=>
  intro F h;let m:=F b Ä;delta uS;by_cases j:P Ĥ=true
  .rw[m,af j];apply(b,by simp,rfl,j,?_);rw[a0,Az j];rfl
  .rw[m,ah j];let(x,O,W):=h;let Z:=(ba.mp O).elim (λz=>absurd (z▸ W) j) id;let(y,S,G,I,J):=Y (λz U=>F z (aO _ U)) ⟨x,Z,W⟩;apply(y,aO _ S,G,I,?_);rw[a0,AA j];exact J
def alc(I:L.sameKinds=sames)(nd:sames.Nodup)(c:Àa Ý D):
  ∃f,nX sames Ě s B=some (f,fq sames.length ÿ (aX ē) r D)/\n0 sames ē r D/\Ah L sames left s B r=f:=by
 let J:=c.sgn (s,B) Ä;by_cases hs:s∈D
 .let Y:nX sames Ě s B=if nW (jr ((List.range (2^sames.length)).map Âb) (fq sames.length ÿ ä Ý D).2 B 0)=true then some (s,rq Ě s B 0 ((List.range (2^sames.length)).map Âb))
    else uS sames Ě s B ((List.range (2^sames.length)).map Âb) (oW sames.length B):=by
   delta nX;let:bY (fq sames.length ÿ ä Ý D).1 s=some ((List.range (2^sames.length)).map Âb):=(El (λx=>(List.range (2^sames.length)).map (bf ä Ý x)) s D).trans (af hs);rw[this]
  rw[WM hs c.nd J,ak3 hs c.nd J] at Y;let Eg:yg Äl r D:=λx M=>by
   let:=c.Af x M;let pb:x≠s:=λz=>M (z▸ hs);rw[Gn _ _ (dX pb)] at this;delta dec;omega
  by_cases ax:nW ((List.range (2^sames.length)).map (dj sames.length ÿ Äl r D))=true
  .rw[af ax] at Y;let ax:=(CC _ _).mp ax;let j:=ak8 hs (ax 0 (Nat.two_pow_pos _));apply(s,by rw[Y,tF j],c.sign j ax,WO ?_);rw[eJ j,(Ag I nd c j Eg).mpr ax];rfl
  .rw[ah ax] at Y;let ax:=λz=>ax ((CC _ _).mpr z);let WR:¬Ni sames.length ÿ ä Ý D s B:=λz=>ax λg F=>by
    rw[WG (B:=B) hs c.nd J];exact z g F
   let hex:=(akP _ _ _ r hs c.all).resolve_left WR;let vJ:∀b∈oW sames.length B,b<sames.length/\B.testBit b=true:=λb m=>by
    delta oW at m;let(h1,h2):=j8.mp m;rw[yf] at h2;symm
   let U:∀b,b<sames.length->0<left.getD Ĥ 0->yg (dec ä Ĥ) r D:=λb m j x M=>by
    let:=c.Af x M;let pb:x≠s:=λz=>M (z▸ hs);rw[Gn _ _ (dX pb)] at this;delta dec;by_cases tw:x=cq sames b
    .rw[af tw];let e0:ja r x=0:=Nm λz=>by
      let(p,hp,e):=cf.mp z;exact c.sgn p (aO _ hp) b m Æ
     rw[e0];let:aX left x=((left.getD Ĥ 0:Nat):Int):=by rw[tw];rfl
     omega
    .omega
   let hP:∀b,b<sames.length->nW (jr ((List.range (2^sames.length)).map Âb) (fq sames.length ÿ ä Ý D).2 B (2^b))=(decide (0<left.getD Ĥ 0)&&L.enough (Flags.less1 left Ĥ) Án):=λb m=>by
    rw[Nq m (Gm nd m) hs c.nd (c.sd b m),pj,CC,jw,og];constructor
    .intro h;let j:=ak9 m (h (2^b) (Nat.pow_lt_pow_right Ù m));exact(j,(Ag I nd c j (U b m j)).mpr h)
    .rintro⟨j,h⟩;exact(Ag I nd c j (U b m j)).mp h
   let(b0,hb0,Z):=hex;let W:b0<sames.length:=by
    apply Yg λz=>?_;let hB:=c.bits (s,B) Ä;let:B.testBit b0=false:=Dq (iq hB (Hk Ù z));symm
   let(b,m,e1,e2,e3):=alb sames Ě s B ((List.range (2^sames.length)).map Âb) (λf=>decide (0<left.getD f 0)&&L.enough ē Án) (oW sames.length B) (λb m=>hP b (vJ b m).1)
    ⟨b0,j8.mpr ⟨À W,by rw[yf];exact hb0⟩,by
     rw[<-hP b0 W,Nq W (Gm nd W) hs c.nd (c.sd b0 W),CC];intro g F;rw[WH (B:=B) W (Gm nd W) hs c.nd (c.sd b0 W)];exact Z g F⟩
   let O:=(vJ b m).1;let e2:=e2;let G:=e2;rw[jw,og] at G;let S:=(Ag I nd c G.1 (U b O G.1)).mp G.2;apply(cq sames b,?_,c.same O G.1 hs S,?_)
   .rw[Y,e1,ak4 O (Gm nd O) hs c.nd (c.sd b O),tF G.1]
   .let hnp:¬(decide (0<left.getD (dg sames (s,B)).sign 0)&&L.enough (Flags.less1 left (dg sames (s,B)).sign) Án)=true:=λz=>by
     let z:=z;rw[jw,og] at z;exact ax ((Ag I nd c z.1 Eg).mp z.2)
    let alg:0<Flags.lacks left (((s,B)::r).map ó) (dg sames (s,B)).sign:=by
     apply apL λz=>WR λg F=>?_;let z:Flags.lacks left (((s,B)::r).map ó) s=0:=z;rw[Wz] at z;let h1:=CA r s g;let h2:=uY ä r s B g;let h3:=c.all g F;let h4:bf ä r s g+1<=0:=by
      rw[cnt_cons] at z;delta bf aX;omega
     let h5:=Nr (bf ä Ý s g);rw[h2] at h5⊢;rw[show bf ä r s g+1-oZ g B+oZ g B=bf ä r s g+1 by omega];let h6:cz (bf ä r s g+1)=0:=by delta cz;rw[ah Æ]
     omega
    delta Ah;rw[wR,ah hnp,af alg];exact e3
 .let Y:nX sames Ě s B=some (s,fq sames.length ÿ ä Ý D):=by
   delta nX;let:bY (fq sames.length ÿ ä Ý D).1 s=none:=(El (λx=>(List.range (2^sames.length)).map (bf ä Ý x)) s D).trans (ah hs);symm
  let j:0<left.getD s 0:=by
   let:=c.Af s hs;rw[cnt_cons] at this;delta aX at this;omega
  let S:∀g,g<2^sames.length->0<=dj sames.length ÿ Äl r D g:=λg F=>by
   rw[WI (B:=B) hs J];exact c.all g F
  let cs:=c.sign j S;apply(s,by rw[Y,tF j,ak2 hs J],cs,WO ?_);let hd:=cs.Af;rw[tF j] at hd;rw[eJ j,(Ag I nd c j hd).mpr S];rfl
end
section
variable{L:Flags.Locker}{sames:LN}{D:LN}
def alh(M:L.sameKinds=sames)(nd:sames.Nodup)(l:cg):∀(bI:cg)(left:LN),Àa (l++bI) D->
  ∃fs Y,nY sames (fq sames.length ÿ ä (l++bI) D) l=some (fs,fq sames.length ÿ (aX Y) bI D)/\n0 sames Y bI D/\L.fill ((l++bI).map ó) left=fs++L.fill (bI.map ó) Y:=by
 induction l with
 |nil=>exact @λbI left c=>⟨[],left,Á,c,Á⟩
 |cons m l O=>
  let(s,B):=m;intro bI left c;let(f,j,z,G):=alc M nd (show n0 sames left ((s,B)::(l++bI)) D from c);let(fs,Y,I,F,J):=O bI ē z;apply(f::fs,Y,?_,F,?_)
  .delta nY;let j:nX sames (fq sames.length ÿ ä ((s,B)::l++bI) D) (s,B).1 (s,B).2=some (f,fq sames.length ÿ (aX ē) (l++bI) D):=j;rw[j];dsimp only;rw[I]
  .let:=ala (L:=L) (sames:=sames) (left:=left) (r:=l++bI) (s:=s) (B:=B);rw[G,J] at this;exact this
def ali(I:L.sameKinds=sames)(nd:sames.Nodup)(ps:List cg):∀(left:LN),Àa ps.flatten D->
  ∃x,mr sames (fq sames.length ÿ ä ps.flatten D) ps=some x/\L.fill (ps.flatten.map ó) left=x.1.flatten:=by
 induction ps with
 |nil=>exact @λleft c=>⟨_,Á,Á⟩
 |cons p ps J=>
  intro left c;let(fs,Y,m,j,z):=alh I nd p ps.flatten left c;let(x,F,G):=J Y j;apply((fs::x.1,x.2),?_,?_)
  .delta mr;rw[Pc,m];dsimp only;rw[F]
  .rw[Pc,z,G];rfl
end
theorem alj:∀hs:bp,Flags.pieces (hs.map List.length) hs.flatten=hs:=by
 intro hs;induction hs with
 |nil=>exact Á
 |cons h hs I=>
  rw[a0,Pc];delta Flags.pieces;rw[List.take_left,List.drop_left,I]
theorem zc{β:Type}{t:List (Nat×β)}(nd:(t.map (·.1)).Nodup){p:Nat×β}(h:p∈t):bY t p.1=some p.2:=by
 induction t with
 |nil=>cases h
 |cons x t I=>
  let(j,nd):=j9.mp nd;delta bY;rcases ba.mp h with rfl|h
  .simp
  .let:x.1≠p.1:=λz=>j É;rw[apK É];exact I nd h
theorem alk(l:cg)(s g:Nat):((rk g ((l.filter λp=>decide (p.1=s)).map (·.2)):Nat):Int)=jJ l s g:=by
 delta rk jJ;generalize l.filter (λp=>decide (p.1=s))=M;induction M with
 |nil=>rfl
 |cons p M I=>
  rw[a0,a0,gS,<-I];delta oZ jZ;grind
theorem WS(l:cg)(s:Nat):ja l s=(l.map (·.1)).count s:=by
 delta ja;induction l with
 |nil=>rfl
 |cons p l I=>
  rw[a0,List.count_cons];by_cases h:p.1=s
  .rw[Az (À h),c7,I];simp[h]
  .rw[AA (À h),I];simp[h]
theorem alm(G:Nat)(h:Nat->Nat->Int)(D:LN):∀(f:Nat->Int),rn G ((List.range G).map f) (D.map λs=>(s,(List.range G).map (h s)))=(List.range G).map λg=>f g-(D.map λs=>cz (h s g)).sum:=by
 induction D with
 |nil=>exact @λf=>o9 λg _=>by rw[lQ,List.sum_nil];omega
 |cons s D I=>
  intro f;let e:x6 G ((List.range G).map f) ((List.range G).map (h s))=(List.range G).map λg=>f g-cz (h s g):=by
   delta x6;exact o9 λg j=>by rw[WC f j,WC _ j]
  rw[a0];show rn G (x6 G ((List.range G).map f) ((List.range G).map (h s))) _=_;rw[e,I];exact o9 λg _=>by rw[a0,gS];omega
abbrev jt(ms:aF):LN:=ms.map λm=>m.copies.toNat
theorem Gp{ms:aF}(hc:∀m∈ms,0<=m.copies)(s:Nat):sP ms s=aX (jt ms) s:=by
 delta sP aX jt;cases e:ms[s]? with
 |none=>
  rw[iV,iV,bW,e];rfl
 |some m=>
  rw[iV,iV,bW,e];let:=hc m (bZ e);show m.copies=((m.copies.toNat:Nat):Int);omega
theorem aln(hc:∀m∈ms,0<=m.copies)(sames:LN)(g:Nat):rl ms sames g=jb sames.length ÿ ņ g:=by
 delta rl rj jb;generalize List.range sames.length=M;induction M with
 |nil=>rfl
 |cons b M I=>
  let e:=Gp hc Ĥ;delta sP at e;rw[a0,gS,<-I];by_cases h:x3 g b=true
  .rw[Az h,a0,gS,af (by rw[<-yf];exact h),e]
  .rw[AA h,ah (by rw[<-yf];exact h),Yo]
def Nu(rows j:bp):(mv rows j).flatten=eU rows j:=by
 rfl
def n8(ms:aF)(rows:bp):LN:=(jq ms rows.flatten).map (·.1)
def Nv(ms:aF)(rows:bp):(eU rows Ņ).map (·.1)=rows.flatten:=U6 rows Ņ (U7 ms rows) (MH ms rows)
def alo(h:p∈jq ms flat):p.2=(flat.count p.1:Int)-sP ms p.1:=by
 delta jq at h;let(q,j,e):=G0.mp h;delta oR at e;split at e
 .let e:=(aN e).symm;subst e;let m:=zc (Fw flat) j;let h2:=Us flat q.1;symm
 .cases e
def alp(hc:∀m∈ms,0<=m.copies)(h:s∉(jq ms flat).map (·.1)):(flat.count s:Int)<=sP ms s:=by
 by_cases hs:flat.contains s=true
 .let j:=Ut flat s;rw[hs] at j;let(n,F):=G1.mp j;let h2:=Us flat s;rw[F] at h2;let h2:=h2;let G:(s,n)∈gu flat:=by
   delta bY at F;cases e:(gu flat).find? λp=>decide (p.1=s) with
   |none=>symm
   |some q=>
    grind
  apply Int.not_lt.mp λz=>h ?_;apply cf.mpr ⟨(s,(n:Int)-sP ms s),?_,Á⟩;delta jq;apply G0.mpr ⟨(s,n),G,?_⟩;delta oR;symm
 .let:flat.count s=0:=List.count_eq_zero.mpr (λz=>hs É);rw[this,Gp hc];delta aX;omega
def Nw(hc:∀m∈ms,0<=m.copies)(rows:bp):oX ms rows=fq (aZ ms).length Çt ņ ø Ŵ:=by
 let z:Ck ms rows=(n8 ms rows).map λs=>(s,(List.range (2^(aZ ms).length)).map (bf ņ ø s)):=by
  delta Ck nV n8;rw[cQ];apply kq;intro p F;congr 1;delta FB;apply o9 λg _=>?_;rw[Uy,alk,alo F,Gp hc];delta bf;rw[WS,Nv]
 delta oX;rw[z];delta fq;congr 1;let j:(List.range (2^(aZ ms).length)).map (rl ms Ħ)=(List.range (2^(aZ ms).length)).map (jb (aZ ms).length Çt ņ):=o9 λg _=>aln hc _ g;rw[j,alm];rfl
end HD
end
section
namespace HD
open PySem L2 JM
def WT{L:Flags.Locker}{ms:aF}(hk:L.kinds=ms.map bV){i:Nat}(hi:i<ms.length):L.kinds[i]? =some (bV ϒ):=by
 symm
def WU{L:Flags.Locker}{ms:aF}(hk:L.kinds=ms.map bV){i:Nat}(hi:i<ms.length):(L.kinds[i]?).map Flags.Kind.role=some (qh ϒ):=by
 rw[WT hk hi];rfl
def Ny{L:Flags.Locker}{ms:aF}(hk:L.kinds=ms.map bV):L.sameKinds=aZ ms:=by
 delta Flags.Locker.sameKinds aZ;let z:L.kinds.length=ms.length:=by rw[hk,aA]
 rw[z];apply Yt;intro i hi;let hi:i<ms.length:=À hi
 rw[WU hk hi];delta qh;by_cases m:(ms.getD i fk).role=0
 .rw[af m,m];rfl
 .rw[ah m];by_cases j:(ms.getD i fk).role=1
  .rw[af j,j];rfl
  .rw[ah j,fQ j]
def alq{L:Flags.Locker}{ms:aF}(hk:L.kinds=ms.map bV){s:Nat}(hs:s∈aZ ms):L.points s=(lh ms s).toNat:=by
 delta aZ at hs;let(j,h2):=j8.mp hs;simp at j;let h2:(ms.getD s fk).role=1:=À h2
 delta Flags.Locker.points;rw[WU hk j];delta qh;rw[ah Æ,af h2];rfl
theorem alr(P:Nat->Bool)(l:LN):l.filter P=((List.range l.length).filter λb=>P (l.getD b 0)).map λb=>l.getD b 0:=by
 induction l with
 |nil=>exact Á
 |cons x l I=>
  let I:=I;rw[c7,Df,wR,wR,yw];let e:((λb=>P ((x::l).getD b 0))∘Nat.succ)=λb=>P (l.getD b 0):=rfl;rw[e];by_cases h:P x=true
  .rw[af h,af (show P ((x::l).getD 0 0)=true from h),a0,cQ,I];rfl
  .rw[ah h,ah (show ¬P ((x::l).getD 0 0)=true from h),cQ,I];rfl
def WV(ms:aF)(sames row:LN)(i:Nat):sO ms sames row i=uZ (zK ms sames row i) sames.length:=rfl
def als{L:Flags.Locker}{ms:aF}(hk:L.kinds=ms.map bV)(mo:wx ms)(row:LN)(i:Nat):
  dg Ħ (row.getD i 0,sO ms Ħ row i)=⟨row.getD i 0,L.sameKinds.filter λ(f:Nat)=>decide (L.points f<=i)&&row.getD (L.points f-1) 0==row.getD i 0⟩:=by
 delta dg;dsimp only;congr 1;rw[Ny hk,alr];congr 1;delta oW;apply Yt;intro b j;let j:b<(aZ ms).length:=À j
 let m:(aZ ms).getD b 0∈aZ ms:=by
  rw[iV,dm j];exact List.getElem_mem j
 rw[yf,WV,Wy,eJ j,lR,alq hk m];let F:=mo.pos _ m;delta zK;let z:decide (lh ms ((aZ ms).getD b 0)<=(i:Int))=decide ((lh ms ((aZ ms).getD b 0)).toNat<=i):=by
  rw[Yr];omega
 rw[z,Bool.beq_eq_decide_eq]
theorem WW{L:Flags.Locker}{ms:aF}(hk:L.kinds=ms.map bV)(mo:wx ms):∀rows:bp,L.spots rows=(eU rows Ņ).map (dg Ħ):=by
 intro rows;induction rows with
 |nil=>exact Á
 |cons r rows I=>
  let I:=I;delta Flags.Locker.spots eU fJ at I⊢;rw[Dl,I,a0,De,Dl,bX];congr 1;delta qm;let e:r=(List.range r.length).map λi=>r.getD i 0:=by
   let:=wm (l:=r) (g:=λx=>x) (d:=0);rw[List.map_id'] at this;exact this.symm
  let j:r.zip ((List.range r.length).map (sO ms Ħ r))=(List.range r.length).map λi=>(r.getD i 0,sO ms Ħ r i):=by
   apply wQ;intro i;by_cases hi:i<r.length
   .rw[bW,O9 hi,Hl.mpr (show r[i]? =some (r.getD i 0,sO ms Ħ r i).1/\((List.range r.length).map (sO ms Ħ r))[i]? =some (r.getD i 0,sO ms Ħ r i).2 from Áj)]
    .rfl
    .rw[iV,dm hi];rfl
    .rw[bW,O9 hi];rfl
   .rw[wN (by rw[List.length_zip];omega),wN (by rw[aA,g7];omega)]
  rw[j,cQ];apply kq;intro i _;exact(als hk mo r i).symm
def WX(ms:aF):(aZ ms).Nodup:=List.Nodup.sublist apM Ys
structure wD(ms:aF):Prop where
 mo:wx ms
 cp:∀m∈ms,0<=m.copies
def Aj(ms:aF)(rows:bp):Prop:=∀r∈rows,∀s∈r,jH ms s=true
def WY(h:jH ms s=true):s∉aZ ms:=λz=>by
 delta aZ at z;let z:(ms.getD s fk).role=1:=by simpa using (j8.mp z).2
 let h:(ms.getD s fk).role=0:=by delta jH at h;simpa using h
 omega
def WZ(ms:aF)(rows:bp):∀p∈eU rows Ņ,p.2<2^(aZ ms).length:=λp j=>by
 delta eU fJ at j;let(q,F,j):=kC.mp j;let z:=(Dd F).2;let(r,_,e):=cf.mp z;let h2:=(Dd j).2;rw[<-e] at h2;delta qm at h2;let(i,_,m):=cf.mp h2;rw[<-m,WV];exact Nl _ _
def W0(g:wD ms)(rows:bp):yg ņ ø Ŵ:=λs hs=>by
 rw[WS,Nv,<-Gp g.cp];exact alp g.cp hs
def alu(g:wD ms)(sg:Aj ms rows)(h:∀q,q<2^(aZ ms).length->0<=dj (aZ ms).length Çt ņ ø Ŵ q):n0 Ħ (jt ms) ø Ŵ:=by
 let F:∀b,b<(aZ ms).length->cq Ħ b∈aZ ms:=λb j=>by
  symm
 let J:∀s∈rows.flatten,jH ms s=true:=λs hs=>by
  let(r,hr,hs):=List.mem_flatten.mp hs;exact sg r hr s hs
 apply(MI _ _,W0 g rows,WZ ms rows,λp G b j e=>?_,λb j m=>?_,h)
 .let z:p.1∈rows.flatten:=by rw[<-Nv ms rows];exact cf.mpr ⟨p,G,Á⟩
  exact WY (J _ z) (e▸ F b j)
 .delta n8 at m;let(q,I,e):=cf.mp m;exact WY (J _ (U8 I)) É
def Gq{L:Flags.Locker}{ms:aF}(hk:L.kinds=ms.map bV)(g:wD ms)(rows:bp):L.enough L.allCopies (L.spots rows)=true↔ ∀q,q<2^(aZ ms).length->0<=dj (aZ ms).length Çt ņ ø Ŵ q:=by
 rw[WW hk g.mo,show L.allCopies=jt ms by delta Flags.Locker.allCopies jt;rw[hk,cQ];rfl];exact WB (Ny hk) (WX ms) _ _ (WZ ms rows) (MI _ _) (W0 g rows)
def W1(g:wD ms)(rows:bp):(oX ms rows).2.any (λz=>decide (z<0))=false↔ ∀q,q<2^(aZ ms).length->0<=dj (aZ ms).length Çt ņ ø Ŵ q:=by
 rw[Nw g.cp];let:=CC (dj (aZ ms).length Çt ņ ø Ŵ) (2^(aZ ms).length);rw[<-this];delta nW fq;simp
def Nz{L:Flags.Locker}{ms:aF}(hk:L.kinds=ms.map bV)(g:wD ms){rows:bp}(sg:Aj ms rows):nZ ms rows=some (if L.canShowAll rows=true then some (L.displayed rows) else none):=by
 let I:(∀q,q<2^(aZ ms).length->0<=dj (aZ ms).length Çt ņ ø Ŵ q)->∃x,mr Ħ Æk Ãn=some x/\x.1.map List.length=rows.map List.length/\L.displayed rows=x.1:=λh=>by
  let c:=alu g sg h;rw[<-Nu] at c;let(x,j,m):=ali (L:=L) (Ny hk) (WX ms) Ãn (jt ms) c;rw[Nu,<-Nw g.cp] at j;rw[Nu,<-WW hk g.mo] at m;let F:x.1.map List.length=rows.map List.length:=by
   rw[VO _ _ _ _ j];delta mv fJ;rw[cQ];apply wQ;intro i;rw[bW,bW,Yq,bW];cases er:rows[i]? with
   |none=>symm
   |some r=>
    rw[Hl.mpr (show rows[i]? =some (r,r).1/\rows[i]? =some (r,r).2 from⟨er,er⟩)];delta qm;simp
  apply(x,j,F,?_);let W:=(Gq hk g rows).mpr h;delta Flags.Locker.displayed Flags.Locker.display;rw[af W,show L.allCopies=jt ms by delta Flags.Locker.allCopies jt;rw[hk,cQ];rfl,m,<-F];exact alj x.1
 let G:L.canShowAll rows=L.enough L.allCopies (L.spots rows):=rfl;delta nZ;by_cases F:jq ms rows.flatten=[]
 .rw[af F];let J:n8 ms rows=[]:=by delta n8;rw[F];rfl
  let h:∀q,q<2^(aZ ms).length->0<=dj (aZ ms).length Çt ņ ø Ŵ q:=λq _=>by
   rw[J];delta dj iR jb;rw[lQ,List.sum_nil,Int.sub_zero];generalize List.range (aZ ms).length=M;induction M with
   |nil=>simp
   |cons b M S=>
    rw[a0,gS];let:(0:Int)<=if q.testBit b=true then aX (jt ms) (cq Ħ b) else 0:=by
     delta aX;omega
    omega
  let(x,j,_,m):=I h;let en:mr Ħ Æk Ãn=some ((mv rows Ņ).map (λp=>p.map (·.1)),oX ms rows):=by
   let Y:∀(l:cg)(st:hZ),st.1=[]->nY Ħ st l=some (l.map (·.1),st):=by
    intro l;induction l with
    |nil=>intro st _;rfl
    |cons p l S=>
     intro st U;delta nY nX;rw[U,show bY ([]:List (Nat×LI)) p.1=none from rfl];grind
   let h2:∀(ps:List cg)(st:hZ),st.1=[]->mr Ħ st ps=some (ps.map (λp=>p.map (·.1)),st):=by
    intro ps;induction ps with
    |nil=>intro st _;rfl
    |cons p ps S=>
     intro st U;delta mr;grind
   apply h2 _ _ ?_;rw[Nw g.cp,J];rfl
  let ex:x.1=rows:=by
   rw[en] at j;rw[<-aN j];delta mv fJ;rw[cQ];apply wQ;intro i;rw[bW,Yq,bW];cases er:rows[i]? with
   |none=>symm
   |some r=>
    rw[Hl.mpr (show rows[i]? =some (r,r).1/\rows[i]? =some (r,r).2 from⟨er,er⟩)];show some ((r.zip (qm ms Ħ r)).map (·.1))=some r;rw[List.map_fst_zip (by delta qm;rw[aA,g7];exact bJ _)]
  rw[G,af ((Gq hk g rows).mpr h),m,ex]
 .rw[ah F];by_cases O:(oX ms rows).2.any (λz=>decide (z<0))=true
  .rw[af O,G,ah (λz=>?_)];let:=(W1 g rows).mpr ((Gq hk g rows).mp z);symm
  .rw[ah O];let h:=(W1 g rows).mp É;let(x,j,_,m):=I h;rw[j,G,af ((Gq hk g rows).mpr h),m];rfl
structure rJ(ms:aF):Prop where
 kv:∀m∈ms,Kv m
 pw:ms.Pairwise λp x=>iJ p x=true
 nm:(ms.filter isSign).Pairwise λa b=>a.name≠b.name
def NA(m:a9 t)(h:fZ t=some x):rJ x.2:=by
 delta fZ at h;split at h
 .rename_i l r e;cases e1:fg (codes "locker") l with
  |none=>rw[e1,BL] at h;cases h
  |some n=>
   cases e2:gE r with
   |none=>rw[e2,BK] at h;cases h
   |some ms=>
    rw[e1,e2] at h;let h:(if (nI ms&&oK ms)=true then some (n,ms) else none)=some x:=h;split at h
    .rename_i j;let:=aN h;subst this;let hr:=λw z=>by
      delta jD at e;split at e
      .let e:=aN e;let:w∈(aI 10 t).dropLast:=by rw[e];exact aO _ z
       exact pV 10 m w (Ax _ this)
      .symm
     let kv:=LG hr e2;let(j,hd):=vd.mp j;apply(kv,?_,?_)
     .delta nI at j;split at j
      .symm
      .exact(LH kv).mp j
     .delta oK at hd;let(hd,_):=vd.mp hd;simp at hd;let:=LJ.mp hd;rw[Pb] at this;apply this.imp λ{a b}F e=>?_;rw[LK,eJ e] at F;symm
    .symm
 .cases h
theorem W2:∀{l:LI}{lo hi:Int},l.Pairwise (· < ·)->(∀x∈l,lo<=x/\x<=hi)->l≠[]->(l.length:Int)<=hi-lo+1
 |[],_,_,_,_,h=>absurd rfl h
 |[x],lo,hi,_,h,_=>by
  let:=h x Ä;simp only[List.length_singleton];omega
 |x::y::l,lo,hi,pw,h,_=>by
  let(m,h2):=Hi.mp pw;let F:=h x Ä;let:=W2 (l:=y::l) (lo:=x+1) (hi:=hi) h2 (λz j=>⟨by let:=m z j;omega,(h z (aO _ j)).2⟩) Ä;rw[c7];omega
def alv{ms:aF}(f:rJ ms):(aZ ms).length<=4:=by
 by_cases G:aZ ms=[]
 .rw[G];decide
 let m:∀i∈aZ ms,i<ms.length/\(ms.getD i fk).role=1:=λi hi=>by
  delta aZ at hi;let(W,h2):=j8.mp hi;exact(À W,À h2)
 let F:∀i,i<ms.length->ms[i]? =some ϒ:=λi hi=>by
  rw[iV,dm hi];rfl
 let J:=λi hi=>bZ (F i hi);let U:(aZ ms).Pairwise (· < ·):=by
  delta aZ;exact List.Pairwise.sublist apM List.pairwise_lt_range
 let hw:((aZ ms).map (lh ms)).Pairwise (· < ·):=by
  rw[Pb];apply List.Pairwise.imp_of_mem (λ{i j}hi Z S=>?_) U;let(I,M):=m i hi;let(O,j2):=m j Z;let Y:=(pw_place.mp f.pw) j _ (F j O) ϒ (by
   apply bZ (i:=i) ?_;rw[X5 S,F i I])
  let:=(wg (f.kv _ (J i I)) (f.kv _ (J j O)) j2).mp Y;delta lh;rcases this with h|h
  .omega
  .exact h.2
 let:=W2 (lo:=1) (hi:=4) hw (λz hz=>by
  let(i,hi,rfl):=cf.mp hz;let(I,M):=m i hi;exact(f.kv _ (J i I)).BP M) (À G)
 rw[aA] at this;omega
def ND(f:rJ ms):wD ms:=by
 apply(⟨by let:=alv f;omega,λs hs=>?_⟩,λm j=>by let:=(f.kv m j).cp;omega);delta aZ at hs;let(z,h2):=j8.mp hs;simp at z;simp at h2;let j:ms.getD s fk∈ms:=by
  symm
 exact((f.kv _ j).BP h2).1
def alw(j:a9 t)(h:fZ t=some x):Gd x.2:=by
 let f:=NA j h;let g:=ND f;apply(λk hk=>(f.kv k hk).lk,g.mo,λrows sg=>?_);rw[Nz (L:=⟨[],x.2.map bV⟩) rfl g sg];simp
def W3(x:Str)(s:String)(F:a9 ş)(hs:(codes x).map B=Flags.ascii s)(h:a9 l):Flags.wordName (Flags.ascii s) ĵ=(fg ş l).map λn=>n.map B:=by
 delta Flags.wordName fg;rw[show Flags.cutAt 32 ĵ=(aI 32 l).map é from xF 32 Ù l h];let j:=pV 32 (l:=l) h;generalize aI 32 l=W at j
 match W,j with
 |[],_=>rfl
 |[a],_=>rfl
 |[a,b],j=>
  let m:a.map B=Flags.ascii s↔a=codes x:=by
   rw[<-hs];exact(λe=>vO (j a Ä) F e,λe=>by rw[e])
  show(if a.map B=Flags.ascii s/\Flags.isName ϕ=true then some ϕ else none)=Option.map _ (if a=codes x/\iH b=true then some b else none);rw[Fh (j b Ä)];by_cases c:a=codes x/\iH b=true
  .rw[af c,af ⟨m.mpr c.1,c.2⟩];rfl
  .rw[ah c,ah (λz:_/\_=>c ⟨m.mp z.1,z.2⟩)];rfl
 |a::b::c::r,_=>rfl
def wF(l:LI):Bool:=!(aI 32 l).contains []
def wG(l:LI):Bool:=!((aI 32 l).drop 1).contains []
def W4(x:Int)(r:LI):wF (x::r)=(decide (x≠32)&&wG r):=by
 delta wF wG;show(!(if x=32 then []::aI 32 r else match aI 32 r with|[]=>[[x]]|w::l=>(x::w)::l).contains [])=_;by_cases h:x=32
 .rw[af h,fQ (λz=>z h),lu];simp
 .rw[ah h,eJ h,lR];cases e:aI 32 r with
  |nil=>exact absurd e (lJ 32 r)
  |cons w l=>
   simp
def alx(y:Int)(r:LI):wG (y::r)=if y=32 then wF r else wG r:=by
 delta wF wG;show(!((if y=32 then []::aI 32 r else match aI 32 r with|[]=>[[y]]|w::l=>(y::w)::l).drop 1).contains [])=_;by_cases h:y=32
 .rw[af h,af h];rfl
 .rw[ah h,ah h];cases e:aI 32 r with
  |nil=>exact absurd e (lJ 32 r)
  |cons w l=>rfl
def kB(l:List UInt8):Bool:=l.getLast? !=some 32&&Flags.noTwoBlanks l
def CD(h:0<=x/\x<=255):(B x==32)=decide (x=32):=by
 let:=BN (p:=λx=>decide ((B x==32)=decide (x=32))) Ê h;symm
def W5(x y:Int)(j:0<=x/\x<=255)(m:0<=y/\y<=255)(r:List UInt8):kB (B x::B y::r)=(!(decide (x=32)&&decide (y=32))&&kB (B y::r)):=by
 delta kB;rw[show Flags.noTwoBlanks (B x::B y::r)=(!(B x==32&&B y==32)&&Flags.noTwoBlanks (B y::r)) from rfl,CD j,CD m,List.getLast?_cons_cons];cases (decide (x=32)&&decide (y=32)) <;> cases ((B y::r).getLast? !=some 32) <;> simp
def W6(x:Int)(j:0<=x/\x<=255):kB [B x]=decide (x≠32):=by
 delta kB;rw[show Flags.noTwoBlanks [B x]=true from rfl,Pa];let:=CD j;show(some (B x)!=some 32)=_;by_cases h:x=32
 .rw[h];decide
 .rw[eJ h];rw[fQ h] at this;let h2:B x≠32:=by simpa using this
  simpa using h2
theorem NF:∀(n:Nat)(r:LI)(x:Int),r.length<=n->a9 (x::r)->x≠32->kB ((x::r).map B)=wG r
 |_,[],x,_,h,hx=>by
  rw[a0,lQ,W6 x (h x Ä),eJ hx];rfl
 |0,y::r,x,hl,_,_=>absurd hl Ä
 |n+1,y::r,x,hl,h,hx=>by
  let G:=h x Ä;let F:=h y Ä;simp at hl;rw[a0,a0,W5 x y G F,fQ hx,lu,alx];by_cases j:y=32
  .rw[af j];cases r with
   |nil=>
    rw[lQ,W6 y F,fQ (λz=>z j)];rfl
   |cons z r=>
    let I:=h z Ä;rw[a0,W5 y z F I,eJ j,lR,W4];by_cases m:z=32
    .rw[eJ m,fQ (λw=>w m)];rfl
    .rw[fQ m,eJ m,lR];exact NF n r z (by simp only[c7] at hl;omega) (λw J=>h w (aO _ (aO _ J))) m
  .rw[ah j];exact NF n r y hl (λw J=>h w (aO _ J)) j
def alA{l:LI}(h:a9 l):Flags.isMeaning ĵ=sZ l:=by
 let O:sZ l=(!(decide (l.length>64)||(aI 32 l).contains [])&&l.all λb=>decide (32<=b)&&decide (b<=126)):=rfl;let S:(aI 32 l).contains []=!wF l:=by delta wF;rw[Pe]
 rw[O,S];delta Flags.isMeaning;rw[aA,rM];let M:l.all ((λ(c:UInt8)=>decide (32<=c.toNat)&&decide (c.toNat<=126))∘B)=l.all λb=>decide (32<=b)&&decide (b<=126):=Jw h λx j=>by
  let:=BN (p:=λx=>decide ((decide (32<=(B x).toNat)&&decide ((B x).toNat<=126))=(decide (32<=x)&&decide (x<=126)))) Ê j;simpa using this
 rw[M];cases l with
 |nil=>rfl
 |cons x r=>
  rw[W4];let hk:(((x::r).map B).head? !=some 32)=decide (x≠32):=by
   let:=CD (h x Ä);show(some (B x)!=some 32)=_;by_cases j:x=32
   .rw[j];decide
   .rw[eJ j];rw[fQ j] at this;let h2:B x≠32:=by simpa using this
    simpa using h2
  let I:decide (1<=(x::r).length)=true:=eJ Ä;let J:decide ((x::r).length>64)=!decide ((x::r).length<=64):=by
   generalize (x::r).length=n;by_cases m:n<=64
   .rw[eJ m,fQ Æ];rfl
   .rw[fQ m,eJ Æ];rfl
  rw[hk,I,J,lR];let W:decide (x≠32)=true->kB ((x::r).map B)=wG r:=λj=>NF r.length r x (bJ _) h (rO j);delta kB at W;generalize (((x::r).map B).getLast? !=some 32)=z at W⊢;generalize Flags.noTwoBlanks ((x::r).map B)=p2 at W⊢;generalize (x::r).all (λb=>decide (32<=b)&&decide (b<=126))=F;generalize decide ((x::r).length<=64)=G;generalize wG r=U at W⊢;generalize decide (x≠32)=Y at W⊢;cases Y
  .cases z <;> cases p2 <;> cases F <;> cases G <;> cases U <;> rfl
  .let W:=W rfl;subst W;cases z <;> cases p2 <;> cases F <;> cases G <;> rfl
def alB(h:iI line=some m)(j:m.role=0):iH m.name=true:=by
 delta iI oH at h;generalize aI 32 line=ws at h;split at h
 .cases h
 .rename_i r F;by_cases z:ws.length=(if r=2 then 4 else 5)
  .rw[af z] at h;cases e1:lK r Ō with
   |none=>rw[e1,E4] at h;cases h
   |some n=>
    cases e2:qX r Ō with
    |none=>rw[e2,E5] at h;cases h
    |some W=>
     cases e3:iy (ws.getD (ws.length-3) []) 8 with
     |none=>rw[e3,Lo] at h;cases h
     |some c=>
      cases e4:bw þ (ws.getD (ws.length-2) []) with
      |none=>rw[e4,E6] at h;cases h
      |some sh=>
       cases e5:ij (ws.getD (ws.length-1) []) with
       |none=>rw[e5,E7] at h;cases h
       |some lk=>
        rw[e1,e2,e3,e4,e5] at h;let:=aN h;subst this;let j:=j;delta lK at e1;grind
  .symm
theorem alC{r:di}:∀{ms:aF},gE r=some ms->∀m∈ms,m.role=0->iH m.name=true:=by
 induction r with
 |nil=>
  intro ms h m j;let:=aN h;subst this;exact absurd j Ä
 |cons l r I=>
  intro ms h m j;delta gE at h;cases e1:iI l with
  |none=>rw[e1] at h;cases gE r <;> cases h
  |some k=>
   rw[e1] at h;cases e2:gE r with
   |none=>rw[e2] at h;cases h
   |some ks=>
    rw[e2] at h;let:=aN h;subst this;rcases ba.mp j with rfl|j
    .exact alB e1
    .exact I e2 m j
def alD{t:LI}{x:LI×aF}(h:fZ t=some x):∀m∈x.2,m.role=0->iH m.name=true:=by
 delta fZ at h;split at h
 .rename_i l r e;cases e1:fg (codes "locker") l with
  |none=>rw[e1,BL] at h;cases h
  |some n=>
   cases e2:gE r with
   |none=>rw[e2,BK] at h;cases h
   |some ms=>
    rw[e1,e2] at h;let h:(if (nI ms&&oK ms)=true then some (n,ms) else none)=some x:=h;split at h
    .let:=aN h;subst this;exact alC e2
    .symm
 .cases h
def pd(name:LI)(m:gX):Bool:=decide (m.role=0)&&decide (m.name=name)
def alE{L:Flags.Locker}{ms:aF}(hk:L.kinds=ms.map bV)(f:rJ ms){name:LI}(I:a9 name):L.find Ãm=ms.findIdx? (pd name):=by
 delta Flags.Locker.find;rw[hk,List.findIdx?_map];let:∀l:aF,(∀m∈l,Kv m)->l.findIdx? ((λ(k:Flags.Kind)=>k.role== .sign Ãm)∘bV)=l.findIdx? (pd name):=by
  intro l;induction l with
  |nil=>intro _;rfl
  |cons m l M=>
   intro kv;let km:=kv m Ä;let e:((λ(k:Flags.Kind)=>k.role== .sign Ãm)∘bV) m=pd name m:=by
    show((bV m).role== .sign Ãm)=_;delta pd;by_cases j:m.role=0
    .rw[xT j,eJ j,lR];by_cases F:m.name=name
     .rw[F,eJ rfl];simp
     .rw[fQ F];let:m.name.map B≠name.map B:=λz=>F (vO km.nm I z);simpa using this
    .rw[fQ j,lu];by_cases G:m.role=1
     .rw[zD G];rfl
     .let:=km.role;rw[Fl km Æ];rfl
   rw[Yj,Yj,e,M λx J=>kv x (aO _ J)]
 exact this ms f.kv
theorem alF(name:LI)(l:List (LI×Nat)):∀(acc:Option Nat),(∀p∈l,p.1≠name)->l.foldl (λacc p=>if p.1=name then some p.2 else acc) acc=acc:=by
 induction l with
 |nil=>exact @λacc _=>Á
 |cons p l I=>
  intro acc h;rw[Hm,ah (h p Ä)];exact I acc λq j=>h q (aO _ j)
theorem alG(name:LI)(k:Nat)(l:List (LI×Nat)):∀(acc:Option Nat),(∀p∈l,p.1=name->p.2=k)->((∃p∈l,p.1=name)\/acc=some k)->l.foldl (λacc p=>if p.1=name then some p.2 else acc) acc=some k:=by
 induction l with
 |nil=>exact @λacc _ h=>h.elim (λ⟨p,j,_⟩=>absurd j Ä) id
 |cons p l I=>
  intro acc z h2;rw[Hm];apply I _ (λq m=>z q (aO _ m)) ?_;by_cases j:p.1=name
  .rw[af j,z p Ä j];exact Or.inr Á
  .rw[ah j];rcases h2 with ⟨q,m,e⟩|h2
   .rcases ba.mp m with rfl|m
    .exact absurd e j
    .exact Or.inl ⟨q,m,e⟩
   .exact Or.inr h2
def W7(f:rJ ms)(name:LI):jI ms name=ms.findIdx? (pd name):=by
 let O:∀i,i<ms.length->ms[i]? =some ϒ:=λi hi=>by
  rw[iV,dm hi];rfl
 let J:∀p,p∈tj ms ms.length↔ ∃j,j<ms.length/\(ms.getD j fk).role=0/\p=((ms.getD j fk).name,j):=λp=>by
  delta tj jH;simp only[cf,j8,Ar,og];exact(λ⟨j,⟨m,h2⟩,e⟩=>⟨j,m,h2,e.symm⟩,λ⟨j,m,h2,e⟩=>⟨j,⟨m,h2⟩,e.symm⟩)
 let U:∀i j,i<j->j<ms.length->pd name ϒ=true->pd name (ms.getD j fk)=true->False:=λi j Y F m h2=>by
  let G:=apB.mp f.nm;let:=(pw_place.mp G) j _ (O j F) ϒ (by
   apply bZ (i:=i) ?_;rw[X5 Y,O i Æ])
  delta pd at m h2;let(Z,a2):=vd.mp m;let(b1,b2):=vd.mp h2;exact this Z b1 ((rO a2).trans (rO b2).symm)
 delta jI;cases e:ms.findIdx? (pd name) with
 |none=>
  rw[List.findIdx?_eq_none_iff] at e;apply alF name _ none λp G z=>?_;let(j,F,I,rfl):=(J p).mp G;let:=e _ (bZ (O j F));delta pd at this;rw[eJ I,eJ z] at this;cases this
 |some k=>
  let(hk,m,_):=O7.mp e;let M:pd name (ms.getD k fk)=true:=by
   rw[iV,dm hk];exact m
  let W:=vd.mp M;apply alG name k _ none (λp G z=>?_) (Or.inl ⟨((ms.getD k fk).name,k),(J _).mpr ⟨k,hk,rO W.1,Á⟩,rO W.2⟩);let(j,F,I,rfl):=(J p).mp G;let S:pd name (ms.getD j fk)=true:=by
   delta pd;rw[eJ I,eJ z];rfl
  rcases Nat.lt_trichotomy j k with h|h|h
  .exact(U j k h hk S M).elim
  .exact h
  .exact(U k j h F M S).elim
def alH{L:Flags.Locker}{ms:aF}(hk:L.kinds=ms.map bV)(f:rJ ms){name:LI}(j:a9 name):L.find Ãm=jI ms name:=(alE hk f j).trans (W7 f name).symm
def alI{ms:aF}(f:rJ ms)(z:∀m∈ms,m.role=0->iH m.name=true){name:LI}{k:Nat}(h:jI ms name=some k):iH name=true:=by
 rw[W7 f] at h;let(hk,j,_):=O7.mp h;let j:=vd.mp j;let:=z _ (List.getElem_mem hk) (rO j.1);rw[rO j.2] at this;exact this
theorem alJ{l:LI}:a9 l->Flags.partAt 32 ĵ=if l.contains 32=true then some ((l.take (l.idxOf 32)).map B,(l.drop (l.idxOf 32+1)).map B) else none:=by
 induction l with
 |nil=>exact @λ_=>Á
 |cons x r I=>
  intro h;let I:=I λw G=>h w (aO _ G);let j:=CD (h x Ä);rw[a0];delta Flags.partAt;rw[List.idxOf_cons,An];by_cases e:x=32
  .rw[af (by rw[eJ e] at j;simpa using j),af (by rw[e];rfl)];subst e;rfl
  .let F:¬B x=32:=by rw[fQ e] at j;simpa using j
   let m:(x==32)=false:=À e
   let z:((32:Int)==x)=false:=by simpa using dX e
   rw[ah F,I,m,z,OW];by_cases hc:r.contains 32=true
   .rw[af hc,af hc];rfl
   .rw[ah hc,ah hc];rfl
theorem alK{L:Flags.Locker}{ms:aF}(hk:L.kinds=ms.map bV)(f:rJ ms){ps:di}:(∀p∈ps,a9 p)->L.rowIn (ps.map é)=if (ps.map (jI ms)).contains none=true then none else some ((ps.map (jI ms)).map λo=>o.getD 0):=by
 induction ps with
 |nil=>exact @λ_=>Á
 |cons p ps I=>
  intro h;let I:=I λq m=>h q (aO _ m);delta Flags.Locker.rowIn at I⊢;rw[a0,Hc,alH hk f (h p Ä),I,a0,An];cases e:jI ms p with
  |none=>rfl
  |some k=>
   let j:((none:Option Nat)==some k)=false:=rfl;rw[j,OW];by_cases hc:(ps.map (jI ms)).contains none=true
   .rw[af hc,af hc];rfl
   .rw[ah hc,ah hc];rfl
def entry_eq{L:Flags.Locker}{ms:aF}(hk:L.kinds=ms.map bV)(f:rJ ms)(Z:∀m∈ms,m.role=0->iH m.name=true){w:LI}(M:a9 w):
  ((Flags.entryIn ħ).bind λx=>(L.rowIn x.1).map λr=>(r,x.2))=(iB ms w).map λe=>(e.1,e.2.map B):=by
 delta Flags.entryIn iB;rw[alJ M];by_cases hc:w.contains 32=true
 .rw[af hc,af hc];let J:a9 (w.take (w.idxOf 32)):=λx O=>M x (Hd O);let W:a9 (w.drop (w.idxOf 32+1)):=λx O=>M x (Yh O);generalize w.take (w.idxOf 32)=G at J;generalize w.drop (w.idxOf 32+1)=p2 at W;rw[Dr];dsimp only;delta Flags.namesIn;rw[show Flags.cutAt 46 (G.map B)=(aI 46 G).map é from xF 46 Ù G J,alA W];let S:=pV 46 (l:=G) J;let F:=alK hk f S;delta wy o5;rw[aA];generalize aI 46 G=ps at S F;dsimp only;rw[aA];by_cases U:ps.length<=8
  .by_cases j:(ps.map (jI ms)).contains none=true
   .rw[af (Or.inr j)];rw[af j] at F;dsimp only;split
    .rw[Dr];split
     .rw[Dr,F];rfl
     .rfl
    .rfl
   .let jm:(ps.map é).all Flags.isName=true:=by
     rw[rM,lx];intro p Y;show Flags.isName Àz=true;rw[Fh (S p Y)];cases e:jI ms p with
     |none=>exact absurd (by rw[Dm];exact cf.mpr ⟨p,Y,e⟩) j
     |some k=>exact alI f Z e
    rw[af (show ps.length<=Flags.LONG/\(ps.map é).all Flags.isName=true from⟨U,jm⟩),ah (λz:ps.length>8\/(ps.map (jI ms)).contains none=true=>z.elim (λy=>by omega) j),Dr];rw[ah j] at F;dsimp only;by_cases I:sZ p2=true
    .rw[af I,af I,Dr,F];rfl
    .rw[ah I,ah I];rfl
  .rw[ah (λz:ps.length<=Flags.LONG/\(ps.map é).all Flags.isName=true=>U z.1),af (show ps.length>8\/(ps.map (jI ms)).contains none=true from Or.inl Æ)];rfl
 .rw[ah hc,ah hc];rfl
theorem W9:∀r s:LN,r.length=s.length->HT.lexLt (nv r) (nv s)=Flags.before r s
 |[],[],_=>rfl
 |[],_::_,h=>by simp at h
 |_::_,[],h=>by simp at h
 |x::r,y::s,h=>by
  let I:=W9 r s (À h);show HT.lexLt (((x:Nat):Int)::nv r) (((y:Nat):Int)::nv s)=(decide (x<y)||(x==y&&Flags.before r s));rw[HT.uj,I];by_cases e:x=y
  .subst e;rw[af rfl,fQ Æ];simp
  .rw[ah Æ,show(x==y)=false by simpa using e,lu,Bool.or_false,Yr];omega
def alL(r s:LN):uT r s=Flags.rowBefore r s:=by
 delta uT Flags.rowBefore;by_cases e:r.length=s.length
 .rw[af Æ,W9 r s e,fQ Æ,show(r.length==s.length)=true by simp_all];simp
 .grind
def alM{L:Flags.Locker}{ms:aF}(hk:L.kinds=ms.map bV)(g:wD ms){row:LN}(sg:∀s∈row,jH ms s=true):j0 ms row=L.canShow row:=by
 delta j0;rw[Nz hk g (rows:=[row]) (λr hr=>by
  obtain rfl:r=row:=À hr
  exact sg),show L.canShowAll [row]=L.canShow row from rfl]
 cases L.canShow row <;> rfl
abbrev mJ:=LN×LI
def n9(e:mJ):Flags.Entry:=⟨e.1,e.2.map B⟩
def qv(j:List mJ)(e:mJ):Bool:=!(j.getLast?.any λp=>!uT p.1 e.1)
def tH(ms:aF):List mJ->di->Option (List mJ)
 |past,[]=>some past
 |past,w::r=>match iB ms w with
  |none=>none
  |some e=>if (j0 ms e.1&&(qv past e&&decide (past.length<2048)))=true then tH ms (past++[e]) r else none
def alN{L:Flags.Locker}{ms:aF}(hk:L.kinds=ms.map bV)(f:rJ ms)(hn:∀m∈ms,m.role=0->iH m.name=true)(z:LI)(r:di):∀(i:Nat)(past:List mJ),(∀w∈r,a9 w)->
  (∀es,(z=[]/\tH ms past r=some es)->L.judgeEntries i Ày ((r++[z]).map é)=.ok (es.map n9))/\((¬z=[]\/tH ms past r=none)->∃e,L.judgeEntries i Ày ((r++[z]).map é)=.error e):=by
 induction r with
 |nil=>
  intro i past _;let G:L.judgeEntries i Ày ((([]:di)++[z]).map é)=if z.map B=[] then .ok Ày else .error (1,i):=rfl;rw[G];apply(λes h=>?_,λh=>?_)
  .rw[af (by rw[h.1];rfl),show past=es from aN h.2]
  .rcases h with h|h
   .exact(_,ah (λq=>h (À q)))
   .cases h
 |cons w r ih=>
  intro i past O;let I:=O w Ä;let g:=ND f;obtain⟨y,J,M⟩:∃y J,(r++[z]).map é=y::J:=by
   cases r with
   |nil=>exact(_,_,Á)
   |cons a b=>exact(_,_,Á)
  let G:L.judgeEntries i Ày (((w::r)++[z]).map é)=match Flags.entryIn ħ with
    |none=>.error (1,i)
    |some (n,m)=>match L.entryRow Ày n with
     |.error k=>.error (k,i)
     |.ok row=>L.judgeEntries (i+1) (past.map n9++[⟨row,m⟩]) ((r++[z]).map é):=by
   rw[show((w::r)++[z]).map é=w.map B::y::J from cE (w.map B:: ·) M,M];rfl
  let j:=entry_eq hk f hn I;let eg:tH ms past (w::r)=match iB ms w with
   |none=>none
   |some e=>if (j0 ms e.1&&(qv past e&&decide (past.length<2048)))=true then tH ms (past++[e]) r else none:=rfl
  rw[G,eg];cases e1:Flags.entryIn ħ with
  |none=>
   rw[e1] at j;let F:iB ms w=none:=by
    cases e:iB ms w with
    |none=>rfl
    |some x=>rw[e] at j;cases j
   rw[F];exact(λes h=>(by cases h.2),λ_=>⟨_,Á⟩)
  |some x=>
   let(n,m):=x;rw[e1,Dr] at j;dsimp only at j⊢;delta Flags.Locker.entryRow;cases e3:L.rowIn n with
   |none=>
    rw[e3] at j;let F:iB ms w=none:=by
     cases e:iB ms w with
     |none=>rfl
     |some x=>rw[e] at j;cases j
    rw[F];exact(λes h=>(by cases h.2),λ_=>⟨_,Á⟩)
   |some row=>
    rw[e3] at j;cases F:iB ms w with
    |none=>rw[F] at j;cases j
    |some e=>
     rw[F] at j;let j:=aN j;let wu:=cE Prod.fst j;let Y:=cE Prod.snd j;subst wu Y;let jV:=(MV F).2;let Z:=alM hk g (row:=e.1) λs hs=>(jV s hs).2;let el:((past.map n9).getLast?.any λ(p:Flags.Entry)=>!Flags.rowBefore p.row e.1)=!qv past e:=by
      delta qv;rw[Pe,List.getLast?_map];cases past.getLast? with
      |none=>rfl
      |some p=>
       show(!Flags.rowBefore p.1 e.1)=!uT p.1 e.1;rw[alL]
     let em:(past.map n9).length=past.length:=aA ..;dsimp only;rw[<-Z,el,em];let(U,W):=ih (i+1) (past++[e]) λv hv=>O v (aO _ hv);rw[bX,show[e].map n9=[⟨e.1,e.2.map B⟩] from rfl] at U W;cases hcan:j0 ms e.1 with
     |false=>
      rw[af (rfl:false=false),lu,ah d9];exact(λes h=>(by cases h.2),λ_=>⟨_,Á⟩)
     |true=>
      rw[ah (by decide:¬(true=false)),lR];cases hnx:qv past e with
      |false=>
       rw[af (by decide:(!false)=true),lu,ah d9];exact(λes h=>(by cases h.2),λ_=>⟨_,Á⟩)
      |true=>
       rw[ah (by decide:¬(!true)=true),lR];by_cases S:past.length<2048
       .rw[ah (show ¬Flags.ENTRIES<=past.length from λq=>by let:(2048:Nat)<=past.length:=q;omega),eJ S,af rfl];exact(U,W)
       .rw[af (show Flags.ENTRIES<=past.length from by show(2048:Nat)<=past.length;omega),fQ S,ah d9];exact(λes h=>(by cases h.2),λ_=>⟨_,Á⟩)
def tI:List mJ->List mJ->Bool
 |_,[]=>true
 |past,e::es=>qv past e&&tI (past++[e]) es
def alP(ms:aF)(r:di):∀(j:List mJ),tH ms j r=match i9 ms r with
  |none=>none
  |some es=>if (es.all (λe=>j0 ms e.1)&&(tI j es&&decide (j.length+es.length<=2048\/es=[])))=true then some (j++es) else none:=by
 induction r with
 |nil=>
  intro j;show some j=if _ then some (j++[]) else none;rw[jv,af];simp[tI]
 |cons w r M=>
  intro j;delta tH i9;cases e1:iB ms w with
  |none=>
   cases i9 ms r <;> rfl
  |some e=>
   dsimp only;rw[M (j++[e])];cases e2:i9 ms r with
   |none=>
    split <;> rfl
   |some es=>
    dsimp only;rw[rL,show tI j (e::es)=(qv j e&&tI (j++[e]) es) from rfl,rP,show[e]++es=e::es from rfl,mU,show[e].length=1 from rfl,c7 (a:=e) (as:=es)];let hd:(decide (j.length+(es.length+1)<=2048\/e::es=[]))=(decide (j.length<2048)&&decide (j.length+1+es.length<=2048\/es=[])):=by
     rw[pj,jw,og,og,og];constructor
     .rintro (h|h)
      .exact(by omega,Or.inl Æ)
      .cases h
     .rintro⟨O,h2⟩;rcases h2 with h2|h2
      .exact Or.inl Æ
      .subst h2;exact Or.inl (by simp only[rK];omega)
    rw[hd];generalize j0 ms e.1=m;generalize es.all (λe=>j0 ms e.1)=z;generalize qv j e=F;generalize tI (j++[e]) es=G;generalize decide (j.length<2048)=I;generalize decide (j.length+1+es.length<=2048\/es=[])=J;cases m <;> cases z <;> cases F <;> cases G <;> cases I <;> cases J <;> rfl
theorem alQ(es:List mJ):∀(j:List mJ)(p:mJ),tI (j++[p]) es=((p::es).zip es).all λq=>uT q.1.1 q.2.1:=by
 induction es with
 |nil=>exact @λj p=>Á
 |cons e es I=>
  intro j p;let I:=I (j++[p]) e;show(qv (j++[p]) e&&tI (j++[p]++[e]) es)=_;rw[I,De,rL];congr 1;delta qv;rw[List.getLast?_concat];show(!(!uT p.1 e.1))=_;rw[Pe]
theorem alR(es:List mJ):tI [] es=zY (es.map (·.1)):=by
 cases es with
 |nil=>rfl
 |cons e es=>
  show(qv [] e&&tI ([]++[e]) es)=_;rw[alQ];delta zY;rw[show qv [] e=true from rfl,lR,a0,List.drop_succ_cons,List.drop_zero,<-a0,List.zip_map,rM];rfl
theorem alS{ms:aF}{r:di}:∀{es:List mJ},i9 ms r=some es->es.length=r.length:=by
 induction r with
 |nil=>
  intro es h;rw[<-aN h];rfl
 |cons w r I=>
  intro es h;delta i9 at h;cases e1:iB ms w with
  |none=>rw[e1] at h;cases i9 ms r <;> cases h
  |some e=>
   cases e2:i9 ms r with
   |none=>rw[e1,e2] at h;cases h
   |some O=>
    rw[e1,e2] at h;rw[<-aN h,c7,c7,I e2]
theorem alT{ms:aF}(nm:LI)(r:di):(if r.length<=2048 then F1 ms nm (i9 ms r) else none)=(tH ms [] r).map λes=>(nm,es):=by
 rw[alP];cases e:i9 ms r with
 |none=>
  show(if r.length<=2048 then none else none)=none;simp
 |some es=>
  let j:=alS e;dsimp only;rw[alR,show([]:List mJ).length+es.length=es.length by simp,j];show(if r.length<=2048 then (if (zY (es.map (·.1))&&(es.map (·.1)).all (j0 ms))=true then some (nm,es) else none) else none)=Option.map _ (if _ then some ([]++es) else none);grind
def alU{L:Flags.Locker}{nm:LI}{ms:aF}(hk:L.kinds=ms.map bV)(F2:L.name=nm.map B)(S:a9 nm)(f:rJ ms)(hn:∀m∈ms,m.role=0->iH m.name=true){b:LI}(h:a9 b):
  (∀y,j3 nm ms b=some y->L.judgeBook ϕ=.ok ⟨y.1.map B,y.2.map n9⟩)/\(j3 nm ms b=none->∃e,L.judgeBook ϕ=.error e):=by
 let O:Flags.cutAt 10 ϕ=(aI 10 b).map é:=xF 10 Ù b h;let G:=pV 10 (l:=b) h;obtain⟨ls,z,ew⟩:∃ls z,aI 10 b=ls++[z]:=by
  rcases p7 (aI 10 b) with e|⟨r,x,e⟩
  .exact absurd e (lJ 10 b)
  .exact(r,x,e)
 let hw:jD b=if z=[] then some ls else none:=by
  delta jD;rw[ew,show(ls++[z]).getLastD []=z by simp,apN]
 rw[ew] at O G;delta j3;rw[hw]
 match ls,O,G with
 |[],O,G=>
  let Y:book1 nm ms (if z=[] then some [] else none)=none:=by split <;> rfl
  rw[Y];apply(λy j=>(by cases j),λ_=>⟨(1,0),?_⟩);delta Flags.Locker.judgeBook;rw[O];rfl
 |[l],O,G=>
  let Y:book1 nm ms (if z=[] then some [l] else none)=none:=by split <;> rfl
  rw[Y];apply(λy j=>(by cases j),λ_=>?_);delta Flags.Locker.judgeBook;rw[O];show ∃e,(match Flags.wordName (Flags.ascii "book") ĵ with
   |none=>(Except.error (1,0):Except Flags.Fault Flags.Book)
   |some n=>Except.error (1,1))=Except.error e
  cases Flags.wordName (Flags.ascii "book") ĵ with
  |none=>exact(_,Á)
  |some n=>exact(_,Á)
 |l::fo::r,O,G=>
  let M:=G l Ä;let Xa:=G fo Ä;let W:∀w∈r,a9 w:=λw hw=>G w (by simp[hw]);let ej:L.judgeBook ϕ=match (fg (codes "book") l).map (λn=>n.map B) with
    |none=>.error (1,0)
    |some n=>match (fg (codes "for") fo).map (λn=>n.map B) with
     |none=>.error (1,1)
     |some o=>if o≠L.name then .error (2,1) else (L.judgeEntries 2 [] ((r++[z]).map é)).map λ(l:List Flags.Entry)=>(⟨n,l⟩:Flags.Book):=by
   rw[<-W3 "book" "book" Æg Ê M,<-W3 "for" "for" Æg Ê Xa];delta Flags.Locker.judgeBook;rw[O];let J:((r++[z]).map é).isEmpty=false:=by
    cases r <;> rfl
   show(match Flags.wordName (Flags.ascii "book") ĵ with
    |none=>(Except.error (1,0):Except Flags.Fault Flags.Book)
    |some n=>if ((r++[z]).map (λ(w:LI)=>w.map B)).isEmpty=true then Except.error (1,1) else match Flags.wordName (Flags.ascii "for") (fo.map B) with
     |none=>Except.error (1,1)
     |some o=>if o≠L.name then Except.error (2,1) else (L.judgeEntries 2 [] ((r++[z]).map (λ(w:LI)=>w.map B))).map λ(l:List Flags.Entry)=>(⟨n,l⟩:Flags.Book))=_
   rw[J];cases Flags.wordName (Flags.ascii "book") ĵ with
   |none=>rfl
   |some n=>
    dsimp only;rw[ah d9]
  let eb:book1 nm ms (if z=[] then some (l::fo::r) else none)=if z=[] then (match fg (codes "book") l with
    |none=>none
    |some n=>if fg (codes "for") fo=some nm then (tH ms [] r).map λes=>(n,es) else none) else none:=by
   by_cases F:z=[]
   .rw[af F,af F];show(if r.length<=2048 then MU nm ms (fg (codes "book") l) (fg (codes "for") fo) r else none)=_;cases fg (codes "book") l with
    |none=>
     show(if r.length<=2048 then none else none)=none;split <;> rfl
    |some n=>
     dsimp only;rw[<-alT];show(if r.length<=2048 then (if fg (codes "for") fo=some nm then F1 ms n (i9 ms r) else none) else none)=_;split <;> split <;> rfl
   .rw[ah F,ah F];rfl
  rw[ej,eb];let(j1,j2):=alN hk f hn z r 2 [] W;rw[lQ] at j1 j2;cases e1:fg (codes "book") l with
  |none=>
   apply(λy j=>?_,λ_=>⟨_,Á⟩);split at j <;> cases j
  |some n=>
   cases e2:fg (codes "for") fo with
   |none=>
    apply(λy j=>?_,λ_=>⟨_,Á⟩);split at j
    .dsimp only at j;rw[ah (by intro q;cases q)] at j;cases j
    .cases j
   |some o=>
    let U:a9 o:=by
     delta fg at e2;split at e2
     .rename_i a c ec;split at e2
      .rw[<-aN e2];exact pV 32 Xa c (by rw[ec];simp)
      .cases e2
     .cases e2
    dsimp only[Option.map_some];by_cases Z:o=nm
    .subst Z;rw[ah (λq:o.map B≠L.name=>q F2.symm),af rfl];by_cases F:z=[]
     .rw[af F];cases eg:tH ms [] r with
      |none=>
       let(e,I):=j2 (Or.inr eg);exact(λy j=>(by cases j),λ_=>⟨e,by rw[I];rfl⟩)
      |some es=>
       let I:=j1 es ⟨F,eg⟩;apply(λy j=>?_,λj=>(by cases j));let j:(n,es)=y:=aN j;rw[<-j,I];rfl
     .rw[ah F];let(e,I):=j2 (Or.inl F);exact(λy j=>(by cases j),λ_=>⟨e,by rw[I];rfl⟩)
    .let J:o.map B≠L.name:=λq=>Z (vO U S (q.trans F2));rw[af J,ah (λq:some o=some nm=>Z (aN q))];apply(λy j=>?_,λ_=>⟨_,Á⟩);split at j <;> cases j
def tJ(l:LI):Prop:=∀x∈l,0<=x/\x<=16
def NI:Told->Prop
 |.side s l=>s<3/\iM l
 |.hoist k=>k<4
 |.shape k=>k<4
 |.row l=>l.length=4/\tJ l
structure yk(m:fX):Prop where
 cl:m.classes=[]\/iM m.classes
 sd:m.side<3
 dc:m.ak.length<=4
 fl:∀g∈m.ak,g.flags.length<=8
 ce:∀g∈m.ak,∀f∈g.flags,f.1<4/\tJ f.2
def Xb(h:jB signs part=some l):l.length=part.length/\∀x∈l,0<=x/\x<signs.length:=by
 delta jB at h;grind
theorem alZ(h:jR w=some t):NI t:=by
 delta jR at h;cases j:dQ w with
 |some x=>
  rw[j] at h;let h:=(aN h).symm;subst h;delta HD.dQ at j;split at j
  .rename_i a b c G;split at j
   .cases e2:bw uA b with
    |none=>symm
    |some s=>
     cases e3:ij c with
     |none=>symm
     |some l=>
      rw[e2,e3] at j;let j:=(aN j).symm;subst j;apply(zx e2,?_);delta ij at e3;split at e3
      .rename_i hc;let(F,p2):=Xb e3;let m:k7.length=16:=by decide+kernel
       rw[m] at p2;exact(F.trans hc,p2)
      .symm
   .symm
  .symm
 |none=>
  rw[j] at h;cases e2:bw iu w with
  |some k=>
   rw[e2] at h;let h:=(aN h).symm;subst h;exact zx e2
  |none=>
   rw[e2] at h;cases e3:bw iw w with
   |some k=>
    rw[e3] at h;let h:=(aN h).symm;subst h;exact zx e3
   |none=>
    rw[e3] at h;cases e4:jQ w with
    |none=>symm
    |some l=>
     rw[e4] at h;let h:=(aN h).symm;subst h;apply(S2 e4,λx z=>?_);delta jQ at e4;split at e4
     .let:=(Xb e4).2 x z;let m:pU.length=17:=by decide+kernel
      omega
     .symm
theorem al0(h:NI t):Uc t:=by
 cases t with
 |side s l=>exact h.2.1
 |hoist k=>trivial
 |shape k=>trivial
 |row l=>exact h.1
def al1{m:fX}(v:yk m){t:Told}(g:NI t)(h:du m t.sort=true):yk (qW m t):=by
 let upd:∀(gs:List iG)(F:iG->iG),m.ak=gs->(∀x∈m.ak.getLast?,(F x).flags.length<=8/\∀f∈(F x).flags,f.1<4/\tJ f.2)->yk ⟨m.side,m.classes,m.ak.dropLast++(m.ak.getLast?.map F).toList⟩:=λgs F _ O=>by
  let S:∀y∈m.ak.dropLast++(m.ak.getLast?.map F).toList,y∈m.ak\/∃x,m.ak.getLast?=some x/\y=F x:=λy j=>by
   rcases gR.mp j with j|j
   .exact Or.inl (Ax _ j)
   .cases e:m.ak.getLast? with
    |none=>rw[e] at j;cases j
    |some x=>
     rw[e] at j;exact Or.inr ⟨x,Á,À j⟩
  apply(v.cl,v.sd,?_,λy j=>?_,λy j=>?_)
  .show(m.ak.dropLast++(m.ak.getLast?.map F).toList).length<=4;let:=v.dc;rcases p7 m.ak with e|⟨r,x,e⟩
   .rw[e];simp
   .rw[e] at this⊢;simp at this⊢;exact this
  .rcases S y j with h|⟨x,I,rfl⟩
   .exact v.fl y h
   .exact(O x I).1
  .rcases S y j with h|⟨x,I,rfl⟩
   .exact v.ce y h
   .exact(O x I).2
 cases t with
 |side s l=>exact(Or.inr g.2,g.1,v.dc,v.fl,v.ce)
 |hoist k=>
  let W:=SQ h;apply(v.cl,v.sd,?_,λy j=>?_,λy j=>?_)
  .show(m.ak++[_]).length<=4;rw[mU];exact W
  .rcases gR.mp j with j|j
   .exact v.fl y j
   .obtain rfl:y=_:=by simpa using j
    exact dY _
  .rcases gR.mp j with j|j
   .exact v.ce y j
   .obtain rfl:y=_:=by simpa using j
    intro f G;cases G
 |shape k=>
  apply upd _ _ Á λx I=>?_;let I:m.ak.getLast?=some x:=I;let J:=Dj I;let Y:x.flags.length<8:=by
   let h:du m 2=true:=h;delta du at h;split at h
   .simp at h
   .split at h
    .simp at h
    .split at h
     .rename_i Z;exact absurd Z Ù
     .rw[I] at h;simpa using h
  apply(?_,λf G=>?_)
  .show(x.flags++[(k,[])]).length<=8;rw[mU];exact Y
  .rcases gR.mp G with G|G
   .exact v.ce x J f G
   .obtain rfl:f=_:=by simpa using G
    exact(g,λy j=>absurd j Ä)
 |row l=>
  apply upd _ _ Á λx I=>?_;let I:m.ak.getLast?=some x:=I;let J:=Dj I;let M:=v.fl x J;let U:=v.ce x J;apply(?_,λf G=>?_)
  .show(x.flags.dropLast++(x.flags.getLast?.map λs=>(s.1,s.2++l)).toList).length<=8;rcases p7 x.flags with e|⟨r,y,e⟩
   .rw[e];simp
   .rw[e] at M⊢;simp at M⊢;exact M
  .rcases gR.mp G with G|G
   .exact U f (Ax _ G)
   .cases e:x.flags.getLast? with
    |none=>rw[e] at G;cases G
    |some y=>
     rw[e] at G;obtain rfl:f=_:=À G
     let j:=U y (Dj e);exact(j.1,λz hz=>(gR.mp hz).elim (j.2 z) (g.2 z))
def al2{m:fX}{s:Flags.PlateState}(r:zG m s):(qe m=true->s.over=some (oO m)/\m.classes≠[]/\∀g∈m.ak,∀f∈g.flags,f.2.length=16)/\(qe m=false->s.over=none):=by
 let(S,U,hd):=r;delta qe Flags.PlateState.over;cases U with
 |uK F h2 G=>
  rw[Fm G,Bool.not_false,Pa,F,h2,LL];delta k8;cases e:m.ak.getLast? with
  |none=>
   let:m.ak=[]:=by
    rcases p7 m.ak with j|⟨r,x,j⟩
    .exact j
    .rw[j,ahl] at e;cases e
   rw[this];apply(λz=>(by cases z),λ_=>?_);cases s.head <;> rfl
  |some g=>
   let I:m.ak≠[]:=λz=>by rw[z] at e;cases e
   let hc:m.classes≠[]:=λz=>I (hd z);let J:m.ak.isEmpty=false:=À I
   rw[J,S,ah hc,Bool.not_false,lR];dsimp only[Option.map_some];let M:(i7 g).flags.isEmpty=g.flags.isEmpty:=by
    delta i7;dsimp only;cases g.flags <;> rfl
   rw[M];apply(λz=>⟨?_,hc,G⟩,λz=>?_)
   .let z:g.flags.isEmpty=false:=by simpa using z
    rw[z,ah d9];rfl
   .let z:g.flags.isEmpty=true:=by simpa using z
    rw[z,af rfl]
 |opened gs a b fs k cs F h2 G O W Y Z=>
  rw[Fn F O,Bool.not_true,yt,yt,h2];apply(λz=>(by cases z),λ_=>?_);cases s.head <;> rfl
def go_eq(z:LI)(ls:di):∀(i:Nat)(m:fX)(s:Flags.PlateState),(∀w∈ls,a9 w)->zG m s->yk m->
  (∀M,mf i m ls=.ok M->∃s',zG M s'/\yk M/\Flags.plateLines i s ((ls++[z]).map é)=Flags.plateLines (i+ls.length) s' [z.map B])/\(∀e,mf i m ls=.error e->∃I,Flags.plateLines i s ((ls++[z]).map é)=.error I):=by
 induction ls with
 |nil=>
  intro i m s _ r v;exact⟨λM h=>by
   let h:m=M:=by injection h
   subst h;exact(s,r,v,Á),λe h=>(by cases h)⟩
 |cons w ls U=>
  intro i m s G r v;obtain⟨y,j,F⟩:∃y j,(ls++[z]).map é=y::j:=by
   cases ls with
   |nil=>exact(_,_,Á)
   |cons a b=>exact(_,_,Á)
  let O:Flags.plateLines i s (((w::ls)++[z]).map é)=match Flags.plateLine ħ with
    |none=>.error (1,i)
    |some x=>match s.line x with
     |none=>.error (2,i)
     |some t=>Flags.plateLines (i+1) t ((ls++[z]).map é):=by
   rw[show((w::ls)++[z]).map é=w.map B::y::j from cE (w.map B:: ·) F,F];rfl
  rw[O,ahk (G w Ä)];delta mf;cases e1:jR w with
  |none=>exact(λM h=>(by cases h),λe _=>⟨_,Á⟩)
  |some t=>
   let g:=alZ e1;let(s1,s2):=ahm r (al0 g);dsimp only[Option.map_some];cases hm:du m t.sort with
   |false=>
    rw[ah d9,s2 hm];exact(λM h=>(by cases h),λe _=>⟨_,Á⟩)
   |true=>
    let(s',J,Z):=s1 hm;rw[af rfl,J];let(W,Y):=U (i+1) (qW m t) s' (λx S=>G x (aO _ S)) Z (al1 v g hm);apply(λM h=>?_,Y);let(s3,a,b,c):=W M h;apply(s3,a,b,?_);rw[c7,show i+(ls.length+1)=i+1+ls.length by omega];exact c
structure NJ(m:fX):Prop where
 inv:yk m
 cl:iM m.classes
 xY:∀g∈m.ak,∀f∈g.flags,f.2.length=16
def Xc{p:LI}(h:a9 p):(∀m,gW p=.ok m->Flags.plateIn Àz=.ok (oO m)/\NJ m)/\(∀e,gW p=.error e->∃M,Flags.plateIn Àz=.error M):=by
 let W:Flags.cutAt 10 Àz=(aI 10 p).map é:=xF 10 Ù p h;let O:=pV 10 (l:=p) h;obtain⟨ls,z,j⟩:∃ls z,aI 10 p=ls++[z]:=by
  rcases p7 (aI 10 p) with e|⟨r,x,e⟩
  .exact absurd e (lJ 10 p)
  .exact(r,x,e)
 let qz:p=[]->ls=[]/\z=[]:=λe=>by
  rw[e] at j;let j:[[]]=ls++[z]:=j;cases ls with
  |nil=>
   refine Ů;simpa using j.symm
  |cons a b=>
   let:=cE List.length j;simp at this
 let oh:ls=[]->z=[]->p=[]:=λZ e2=>by
  rw[Z,e2] at j;cases p with
  |nil=>rfl
  |cons x r=>
   let j:(if x=10 then []::aI 10 r else match aI 10 r with|[]=>[[x]]|w::l=>(x::w)::l)=[[]]:=j;by_cases S:x=10
   .rw[af S] at j;injection j with _ j;exact absurd j (lJ 10 r)
   .rw[ah S] at j;cases e:aI 10 r with
    |nil=>exact absurd e (lJ 10 r)
    |cons w l=>rw[e] at j;cases j
 rw[j] at W O;let em:gW p=match mf 0 ⟨0,[],[]⟩ ls with
   |.error e=>.error e
   |.ok m=>if p=[]\/z≠[] then .error (1,ls.length) else if qe m=true then .ok m else .error (2,ls.length):=by
  delta gW;rw[j,apN,show(ls++[z]).getLastD []=z by simp]
  try rfl
 let ei:Flags.plateIn Àz=Flags.plateLines 0 ⟨none,[],none⟩ ((ls++[z]).map é):=by
  delta Flags.plateIn;rw[W]
 rw[em,ei];let r0:zG ⟨0,[],[]⟩ ⟨none,[],none⟩:=⟨rfl,.uK rfl rfl (λg G=>absurd G Ä),λ_=>rfl⟩;let v0:yk ⟨0,[],[]⟩:=⟨Or.inl rfl,by decide,by decide,λg G=>absurd G Ä,λg G=>absurd G Ä⟩;let(j1,j2):=go_eq z ls 0 _ _ (λw I=>O w (by simp[I])) r0 v0;cases eg:mf 0 ⟨0,[],[]⟩ ls with
 |error e=>exact(λm F=>(by cases F),λ_ _=>j2 e eg)
 |ok m=>
  let(s',r',Y,M):=j1 m eg;rw[M,wO];let el:Flags.plateLines ls.length s' [z.map B]=if z.map B≠[]\/ls.length=0 then .error (1,ls.length) else match s'.over with
    |some z=>.ok z
    |none=>.error (2,ls.length):=rfl
  rw[el];let(o1,o2):=al2 r';by_cases hc:p=[]\/z≠[]
  .let J:z.map B≠[]\/ls.length=0:=by
    rcases hc with hc|hc
    .exact Or.inr (by rw[(qz hc).1];rfl)
    .exact Or.inl (λq=>hc (À q))
   dsimp only;rw[af hc,af J];exact(λm F=>(by cases F),λ_ _=>⟨_,Á⟩)
  .let J:¬(z.map B≠[]\/ls.length=0):=by
    rintro (q|q)
    .exact hc (Or.inr λe=>q (by rw[e];rfl))
    .apply hc ?_;by_cases U:z=[]
     .exact Or.inl (oh (O3.mp q) U)
     .exact Or.inr U
   dsimp only;rw[ah hc,ah J];cases I:qe m with
   |true=>
    let(a,b,c):=o1 I;rw[af rfl,a];apply(λm' F=>?_,λ_ F=>(by cases F));let F:m=m':=by injection F
    subst F;exact(Á,Y,Y.cl.resolve_left b,c)
   |false=>
    rw[ah d9,o2 I];exact(λm F=>(by cases F),λ_ _=>⟨_,Á⟩)
def Xd(h:a9 p)(e:gW p=.ok m):Ge m:=by
 let(_,f):=(Xc h).1 m e;exact(f.cl.1,by let:=f.inv.dc;omega,λg j=>by let:=f.inv.fl g j;omega,f.xY)
def Xe(l i:Nat):Flags.cell l i<16:=Nat.mod_lt _ Ù
def al3{classes look:LI}(hc:iM classes)(h:iM look){side:Nat}(hs:side=0\/side=1){i:Nat}(hi:i<16):(sL look classes side).getD i 0=((Flags.cell (Flags.seenFrom ĕ side (eQ look)) i:Nat):Int):=by
 let G:∀j,j<16->0<=look.getD j 0/\look.getD j 0<16:=λj m=>h.2 _ (getD_mem (by rw[h.1];exact m));let z:∀j,j<16->classes.getD j 0=((Flags.cell ĕ j:Nat):Int):=λj m=>by
  let:=hc.2 _ (getD_mem (l:=classes) (i:=j) (by rw[hc.1];exact m));rw[BO hc m];omega
 delta Flags.seenFrom Flags.inLight sL;rw[Fi _ hi,Nat.mod_eq_of_lt (Xe _ _)];rcases hs with hs|hs
 .rw[ah Æ,af hs,iV,bW,BO h hi];let e:look[i]? =some (look.getD i 0):=by
   rw[iV,dm (by rw[h.1];exact hi)];rfl
  rw[e];let:=G i hi;exact z _ Æ
 .rw[af hs,ah Æ,iV,bW,O9 hi];delta Flags.behind;let F:=Uj hi;rw[Fi _ hi,Nat.mod_eq_of_lt (Xe _ _),show 4*(i/4)+(3-i%4)=rh i by delta rh;omega,BO h F];let:=G _ F;exact z _ Æ
theorem al4(P:Nat->Bool):∀n,((List.range n).filter P).foldl (λ(n i:Nat)=>n+2^i) 0<2^n/\∀i,i<n->(((List.range n).filter P).foldl (λ(n i:Nat)=>n+2^i) 0).testBit i=P i:=by
 intro n;induction n with
 |zero=>exact(by show 0<1;decide,λi hi=>absurd hi (Nat.not_lt_zero _))
 |succ n I=>
  let(j,h2):=I;rw[Hh,Dk,List.foldl_append];generalize ((List.range n).filter P).foldl (λ(n i:Nat)=>n+2^i) 0=m at j h2;let z:2^(n+1)=2^n+2^n:=by rw[O8];omega
  cases hp:P n with
  |false=>
   rw[wR,hp,ah d9];apply(by show m<_;omega,λi hi=>?_);rcases apO (Nat.lt_succ_iff.mp hi) with q|q
   .exact h2 i q
   .rw[q,hp];exact Dq j
  |true=>
   rw[wR,hp,af rfl];apply(by show m+2^n<_;omega,λi hi=>?_);show(m+2^n).testBit i=_;rw[Nat.add_comm];rcases apO (Nat.lt_succ_iff.mp hi) with q|q
   .rw[apI q];exact h2 i q
   .rw[q,hp,apJ,Dq j];rfl
def al5(z:s.2.length=16)(hc:tJ s.2)(hi:i<16):(ip s).cells.testBit i=!decide (s.2.getD i 0=16)/\(¬s.2.getD i 0=16->((Flags.cell (ip s).look i:Nat):Int)=s.2.getD i 0):=by
 let j:(s.2.map iO).getD i none=iO (s.2.getD i 0):=by
  symm
 let hr:=hc _ (getD_mem (l:=s.2) (i:=i) Æ);apply(?_,λm=>?_)
 .show(((List.range 16).filter λ(i:Nat)=>((s.2.map iO).getD i none).isSome).foldl (λ(n i:Nat)=>n+2^i) 0).testBit i=_;rw[(al4 _ 16).2 i hi,j];delta iO;grind
 .show((Flags.cell (Flags.lookOf λ(i:Nat)=>((s.2.map iO).getD i none).getD 0) i:Nat):Int)=_;rw[Fi _ hi,j];delta iO;grind
def al6(hc:iM classes)(hk:iM k.look)(hd:d=0\/d=1)(j:s.2.length=16)(hs:tJ s.2):
  wk s (oP classes d k)=(((ip s).shape==3||(ip s).shape==(bV k).shape)&&Flags.sameIn (ip s).cells (Flags.seenFrom ĕ d (bV k).look) (ip s).look):=by
 let z:((List.range s.2.length).all (wj s.2 (sL k.look classes d)))=Flags.sameIn (ip s).cells (Flags.seenFrom ĕ d (eQ k.look)) (ip s).look:=by
  rw[j];delta Flags.sameIn;rw[pj,lx,lx];apply forall_congr' λi=>forall_congr' λhi=>?_;simp at hi;let(m,G):=al5 j hs hi;rw[m,Pe];delta wj;rw[al3 hc hk hd hi];grind
 let F:wk s (oP classes d k)=if s.1≠3/\s.1≠k.shape then false else (List.range s.2.length).all (wj s.2 (sL k.look classes d)):=rfl;rw[F,z];show _=((s.1==3||s.1==k.shape)&&Flags.sameIn (ip s).cells (Flags.seenFrom ĕ d (eQ k.look)) (ip s).look);grind
structure CH(L:Flags.Locker)(ms:aF)(classes:LI)(d:Nat):Prop where
 hk:L.kinds=ms.map bV
 lk:∀k∈ms,iM k.look
 cl:iM classes
 d:d=0\/d=1
section
def al7(v:Àk d)(z:s.2.length=16)(hs:tJ s.2)(f:Nat):(sM Ŝ s).contains f=L.flagFits ĕ d f (ip s):=by
 delta Flags.Locker.flagFits;by_cases j:f<ms.length
 .rw[WT v.hk j];let m:ms.getD f fk∈ms:=by
   symm
  show _=(((ip s).shape==3||(ip s).shape==(bV Èg).shape)&&Flags.sameIn (ip s).cells (Flags.seenFrom ĕ d (bV Èg).look) (ip s).look);rw[<-al6 v.cl (v.lk _ m) v.d z hs];let e:(ms.map (oP classes d)).getD f (0,[])=oP classes d Èg:=by
   symm
  rw[pj,Dm];delta sM;symm
 .let:L.kinds[f]? =none:=by
   rw[v.hk,bW,wN Æ];rfl
  rw[this,<-Bool.not_eq_true,Dm];delta sM;grind
theorem Xf(v:Àk d):∀(fs:List (Nat×LI))(h:LN),(∀f∈fs,f.2.length=16/\tJ f.2)->h.length=fs.length->L.flagsFit ĕ d h (fs.map ip)=(List.range fs.length).all λi=>((fs.map (sM Ŝ)).getD i []).contains (h.getD i 0)
 |[],[],_,_=>rfl
 |[],_::_,_,h=>by simp at h
 |_::_,[],_,h=>by simp at h
 |s::fs,f::h,hf,hl=>by
  let I:=Xf v fs h (λx j=>hf x (aO _ j)) (À hl);let hs:=hf s Ä;show(L.flagFits ĕ d f (ip s)&&L.flagsFit ĕ d h (fs.map ip))=_;rw[I,<-al7 v hs.1 hs.2,c7,Df,rL,rM];rfl
def Xg(v:Àk d){fs:List (Nat×LI)}(j:∀f∈fs,f.2.length=16/\tJ f.2){h:LN}{a:Nat}(m:a+fs.length<=h.length):xZ a h (fs.map (sM Ŝ))=L.flagsFit ĕ d ((h.drop a).take fs.length) (fs.map ip):=by
 rw[Xf v fs _ j (by grind)];delta xZ;grind
def al8(v:Àk d){g:iG}(m:∀f∈g.flags,f.2.length=16/\tJ f.2){h:LN}(M:g.flags.length<=h.length):uM h g (xX Ŝ g)=L.fits ĕ d h (i7 g):=by
 delta uM Ma Flags.Locker.fits xX;let el:(i7 g).flags.length=g.flags.length:=aA ..;rw[el,pj,vc,vc];show _↔ ∃x,x∈List.range (h.length+1)/\((x==0||g.above)&&((x+g.flags.length==h.length||(g.below&&decide (x+g.flags.length<=h.length)))&&L.flagsFit ĕ d ((h.drop x).take g.flags.length) (g.flags.map ip)))=true;constructor
 .rintro⟨i,hi,Y⟩;simp at hi;generalize ex:nQ g.below (h.length-g.flags.length)+i=x at Y;let j:x<=sN g.above (h.length-g.flags.length):=by omega
  let S:nQ g.below (h.length-g.flags.length)<=x:=by omega
  let z:x+g.flags.length<=h.length:=by
   delta sN at j;grind
  apply(x,Ar.mpr Æ,?_);rw[Xg v m z] at Y;rw[Y,Pa,jw];constructor
  .delta sN at j;grind
  .delta nQ at S;grind
 .rintro⟨x,j,Y⟩;rw[jw,jw] at Y;let(J,h2,F):=Y;let z:x+g.flags.length<=h.length:=by
   grind
  let I:x<=sN g.above (h.length-g.flags.length):=by
   delta sN;grind
  let G:nQ g.below (h.length-g.flags.length)<=x:=by
   delta nQ;grind
  apply(x-nQ g.below (h.length-g.flags.length),Ar.mpr Æ,?_);rw[show nQ g.below (h.length-g.flags.length)+(x-nQ g.below (h.length-g.flags.length))=x by omega,Xg v m z];exact F
theorem Xh(v:Àk d):∀(hs:bp)(I:List iG),(∀g∈I,∀f∈g.flags,f.2.length=16/\tJ f.2)->hs.length=I.length->(∀(i:Nat)h g,hs[i]? =some h->I[i]? =some g->g.flags.length<=h.length)->ml hs I (ql ms classes d I)=L.allFit ĕ d hs (I.map i7)
 |[],[],_,_,_=>rfl
 |[],_::_,_,h,_=>by simp at h
 |_::_,[],_,h,_=>by simp at h
 |h::hs,g::I,hf,hl,hw=>by
  let z:=Xh v hs I (λx m=>hf x (aO _ m)) (À hl) (λi a b j h2=>hw (i+1) a b j h2);show(uM h g (xX Ŝ g)&&ml hs I (ql ms classes d I))=(L.fits ĕ d h (i7 g)&&L.allFit ĕ d hs (I.map i7));rw[z,al8 v (hf g Ä) (hw 0 h g rfl rfl)]
end
theorem al9:∀(cs rows:bp),cs.foldl o7 rows=rows.flatMap λr=>(Flags.rowsFrom cs).map (r++ ·):=by
 intro cs;induction cs with
 |nil=>
  intro rows;show rows=rows.flatMap λr=>[r++[]];induction rows with
  |nil=>rfl
  |cons a l I=>rw[Dl,<-I,jv];rfl
 |cons c cs I=>
  intro rows;rw[Hm,I];delta o7;rw[List.flatMap_assoc];congr 1;funext r;rw[List.flatMap_map];show _=(c.flatMap λ(x:Nat)=>(Flags.rowsFrom cs).map λ(y:LN)=>x::y).map (r++ ·);rw[List.map_flatMap];congr 1;funext x;rw[cQ];congr 1;funext y;simp
theorem Xi:∀(cs:bp),[]∈cs->Flags.rowsFrom cs=[]
 |c::cs,h=>by
  show(c.flatMap λ(x:Nat)=>(Flags.rowsFrom cs).map λ(y:LN)=>x::y)=[];rcases ba.mp h with h|h
  .rw[<-h];rfl
  .rw[Xi cs h];exact List.flatMap_eq_nil_iff.mpr λ_ _=>Á
def Xj(cs:bp):uW cs=Flags.rowsFrom cs:=by
 delta uW;split
 .rename_i h;rw[Xi cs (Dm.mp h)]
 .delta lj;rw[al9];simp
theorem Xk(cs:bp):∀(x:LN),x∈Flags.rowsFrom cs->x.length=cs.length/\∀(i:Nat)n c,x[i]? =some n->cs[i]? =some c->n∈c:=by
 induction cs with
 |nil=>
  intro x h;let h:x∈[[]]:=h;simp at h;subst h;exact(Á,λi n c h=>(by simp at h))
 |cons c cs J=>
  intro x h;let h:=h;let(a,G,h):=kC.mp h;let(y,I,rfl):=cf.mp h;let(F,h2):=J y I;apply(by rw[c7,c7,F],λi n z j m=>?_);cases i with
  |zero=>
   simp at j;simp at m;rw[<-j,<-m];exact G
  |succ i=>exact h2 i n z (À j) (À m)
section
variable{L:Flags.Locker}{B:Flags.Book}{ms:aF}{rows:bp}
def ama(j:B.entries.map Flags.Entry.row=rows)(g:iG):rD rows g=B.may (i7 g):=by
 delta rD Flags.Book.may;let z:rows.length=B.entries.length:=by rw[<-j,aA]
 rw[z];apply Yt;intro i hi;let hi:i<B.entries.length:=À hi
 let el:mx rows i=(B.entries[i]).row.length:=by
  delta mx;rw[<-j,iV,bW,dm hi];rfl
 let m:(i7 g).flags.length=g.flags.length:=aA ..;rw[dm hi];dsimp only;rw[m];delta z7;rw[el];show _=if (g.above||g.below)=true then _ else _;cases h:(g.above||g.below) with
 |true=>
  rw[af rfl,lR,pj,Bool.or_eq_true,Pf,Pf,Pf];omega
 |false=>
  rw[ah d9,lu,Bool.or_false,pj,Pf,wK]
def Xl(j:B.entries.map Flags.Entry.row=rows)(I:List iG):j4 rows I=(I.map i7).map B.may:=by
 delta j4;rw[cQ];apply kq;intro g _;exact ama j g
def amb(j:B.entries.map Flags.Entry.row=rows)(m:fX):tq rows m.ak=B.inDoubt (oO m):=by
 delta tq gZ Flags.Book.inDoubt;rw[Xl j,cQ];rfl
theorem amc(j:B.entries.map Flags.Entry.row=rows)(x:LN):(∀n∈x,n<rows.length)->B.rowsOf x=some Áo:=by
 induction x with
 |nil=>exact @λ_=>Á
 |cons n x I=>
  intro h;let I:=I λz F=>h z (aO _ F);let m:n<B.entries.length:=by
   let:=h n Ä;rw[<-j,aA] at this;exact this
  delta Flags.Book.rowsOf at I⊢;rw[Hc,I,dm m];delta js;rw[a0,<-j];congr 2;rw[iV,bW,dm m];rfl
def Xm(h:n∈rD rows g):n<rows.length/\g.flags.length<=(rows.getD n []).length:=by
 delta rD at h;let(j,h2):=j8.mp h;apply(by simp_all,?_);delta z7 mx at h2;grind
def amd(hk:L.kinds=ms.map bV)(g:wD ms)(lk:∀k∈ms,iM k.look)(O:B.entries.map Flags.Entry.row=rows)(sg:Aj ms rows)(F:NJ m):(rG ms rows m).map (·.1)=L.readings B (oO m):=by
 delta rG Flags.Locker.readings;let ec:(oO m).hoists.map B.may=j4 rows m.ak:=(Xl O m.ak).symm;rw[ec,Xj];let gO:∀x∈Flags.rowsFrom (j4 rows m.ak),(uX ms rows m.ak (my ms m) x).map (·.1)=if ((Flags.sides (oO m).side).any λ(d:Nat)=>(L.mayFrom B (oO m) x d).isSome)=true then some x else none:=λx hx=>by
  let(nU,gv):=Xk _ _ hx;let gH:(j4 rows m.ak).length=m.ak.length:=aA ..;let Z:∀(i:Nat)n,x[i]? =some n->∃gl,m.ak[i]? =some gl/\n∈rD rows gl:=λi n e=>by
   let hi:i<m.ak.length:=by
    grind
   apply(_,dm hi,gv i n _ e ?_);delta j4;symm
  let bQ:∀n∈x,n<rows.length:=λn W=>by
   let(i,hi,e):=rN W;let(gl,_,h):=Z i n (by grind);exact(Xm h).1
  let I:Aj ms Áo:=λr hr=>by
   let(n,W,rfl):=cf.mp hr;apply sg _ ?_;symm
  let hd:=Nz hk g I;let lN:=λhs h=>VQ (ms:=ms) (rows:=js rows x) (hs:=hs) h;delta uX;rw[hd];delta Flags.Locker.mayFrom;rw[amc O x bQ];show _=if ((Flags.sides (oO m).side).any λ(d:Nat)=>(if L.canShowAll Áo=true/\L.allFit Èh d (L.displayed Áo) (m.ak.map i7)=true then some (L.displayed Áo) else none).isSome)=true then some x else none;by_cases j:L.canShowAll Áo=true
  .rw[af j] at hd;rw[af j];let G:=lN _ hd;generalize L.displayed Áo=hs at G;let yl:∀d,d=0\/d=1->ml hs m.ak ϡ=L.allFit Èh d hs (m.ak.map i7):=λd hd=>by
    apply Xh ⟨hk,lk,F.cl,hd⟩ hs m.ak (λgl Y f S=>⟨F.xY gl Y f S,(F.inv.ce gl Y f S).2⟩) ?_ λi h gl h1 h2=>?_
    .let:=cE List.length G;rw[aA,aA] at this;delta js at this;symm
    .let z:(hs.map List.length)[i]? =some h.length:=by rw[bW,h1];rfl
     rw[G,bW] at z;delta js at z;rw[bW] at z;cases ex:x[i]? with
     |none=>symm
     |some n=>
      rw[ex] at z;let z:(rows.getD n []).length=h.length:=À z
      let(gl',J,M):=Z i n ex;rw[h2] at J;rw[<-aN J] at M;let:=(Xm M).2;omega
   let Mw:((Flags.sides (oO m).side).any λ(d:Nat)=>(if True/\L.allFit Èh d hs (m.ak.map i7)=true then some hs else none).isSome)=(Flags.sides (oO m).side).any λd=>ml hs m.ak ϡ:=by
    rw[pj,vc,vc];apply exists_congr λd=>and_congr_right λU=>?_;let hd:d=0\/d=1:=by
     let hs:=F.inv.sd;let U:d∈(if m.side=2 then [0,1] else [m.side]):=U;grind
    grind
   let ht:=eq_true j;simp only[ht];rw[Mw];let es:tp (my ms m) m.ak hs=(Flags.sides (oO m).side).filter λd=>ml hs m.ak ϡ:=by
    delta tp my;rw[yw,cQ];exact List.map_id _
   rw[es];generalize Flags.sides (oO m).side=ss;by_cases hz:(ss.filter λd=>ml hs m.ak ϡ)=[]
   .symm
   .symm
  .symm
 generalize Flags.rowsFrom (j4 rows m.ak)=X at gO;induction X with
 |nil=>rfl
 |cons x X ih=>
  grind
end
def amf(j:a9 t)(h:fZ t=some x):∀k∈x.2,iM k.look:=λk hk=>((NA j h).kv k hk).lk
def amg(j:a9 line)(h:fg w line=some n):a9 n:=by
 delta fg at h;split at h
 .rename_i a c m;split at h
  .rw[<-aN h];exact pV 32 j c É
  .symm
 .cases h
def amh(j:a9 t)(h:fZ t=some x):a9 x.1:=by
 delta fZ at h;split at h
 .rename_i l r e;let m:a9 l:=by
   delta jD at e;split at e
   .let e:=aN e;let:l∈(aI 10 t).dropLast:=by rw[e];exact gy
    exact pV 10 j l (Ax _ this)
   .symm
  cases e1:fg (codes "locker") l with
  |none=>rw[e1,BL] at h;cases h
  |some n=>
   cases e2:gE r with
   |none=>rw[e2,BK] at h;cases h
   |some ms=>
    rw[e1,e2] at h;let h:(if (nI ms&&oK ms)=true then some (n,ms) else none)=some x:=h;split at h
    .rw[<-aN h];exact amg m e1
    .symm
 .cases h
theorem ami{ms:aF}{r:di}:∀{es:List (LN×LI)},i9 ms r=some es->Aj ms (es.map (·.1)):=by
 induction r with
 |nil=>
  intro es h;rw[<-aN h];intro r hr;cases hr
 |cons l r I=>
  intro es h;delta i9 at h;cases e1:iB ms l with
  |none=>rw[e1] at h;cases h
  |some e=>
   cases e2:i9 ms r with
   |none=>rw[e1,e2] at h;cases h
   |some O=>
    rw[e1,e2] at h;rw[<-aN h];intro row hr;rcases ba.mp hr with rfl|hr
    .exact λs hs=>((MV e1).2 s hs).2
    .exact I e2 row hr
def amj{nm:LI}{ms:aF}{b:LI}{y:LI×List (LN×LI)}(h:j3 nm ms b=some y):Aj ms (y.2.map (·.1)):=by
 delta j3 book1 at h;split at h
 .split at h
  .delta MU at h;split at h
   .symm
   .split at h
    .delta F1 at h;split at h
     .rename_i es e;split at h
      .rw[<-aN h];exact ami e
      .symm
     .symm
    .symm
  .symm
 .cases h
def CI(x:LI×aF):Flags.Locker:=⟨x.1.map B,x.2.map bV⟩
def CJ(y:LI×List (LN×LI)):Flags.Book:=⟨y.1.map B,y.2.map n9⟩
def Xn(y:LI×List (LN×LI)):(CJ y).entries.map Flags.Entry.row=y.2.map (·.1):=by
 delta CJ;rw[cQ];rfl
def amk(J:a9 t)(hb:a9 b)(hp:a9 p)(f:Flags.Locker->Flags.Book->Flags.Plate->bp->Flags.Reply):
  (∀z,ū p=some z->FlagsK9.ofAll Àw ϕ Àz f=Flags.says z)/\
  (ū p=none->∀x y m,fZ t=some x->j3 x.1 x.2 b=some y->gW p=.ok m->NJ m/\FlagsK9.ofAll Àw ϕ Àz f=f (CI x) (CJ y) (oO m) ((rG x.2 (y.2.map (·.1)) m).map (·.1))):=by
 delta refusal FlagsK9.ofAll;rw[aA,aA,aA];let Z:Flags.LOOKED=65536:=rfl;rw[Z];by_cases G:65536<t.length\/65536<b.length\/65536<p.length
 .rw[af G,af G];exact(λz j=>by rw[<-aN j];rfl,λh=>(by cases h))
 .rw[ah G,ah G];let(l1,l2):=ag5 J;cases el:fZ t with
  |none=>
   let(e,F):=l2 el;rw[F];exact(λz j=>by rw[<-aN j];rfl,λh=>(by cases h))
  |some x=>
   rw[l1 x el];dsimp only;let lf:=NA J el;let(U,W):=alU (L:=CI x) (nm:=x.1) (ms:=x.2) rfl rfl (amh J el) lf (alD el) hb;cases eb:j3 x.1 x.2 b with
   |none=>
    let(e,F):=W eb;rw[show(⟨x.1.map B,x.2.map bV⟩:Flags.Locker)=CI x from rfl,F];exact(λz j=>by rw[<-aN j];rfl,λh=>(by cases h))
   |some y=>
    rw[show(⟨x.1.map B,x.2.map bV⟩:Flags.Locker)=CI x from rfl,U y eb];let(p1,p2):=Xc hp;cases ep:gW p with
    |error e=>
     let(e',F):=p2 e ep;rw[F];exact(λz j=>by rw[<-aN j];rfl,λh=>(by cases h))
    |ok m=>
     let(q1,S):=p1 m ep;rw[q1];dsimp only;let Y:=amb (Xn y) m;rw[show(⟨y.1.map B,y.2.map n9⟩:Flags.Book)=CJ y from rfl,<-Y,show Flags.DOUBT=1024 from rfl];by_cases hd:1024<tq (y.2.map (·.1)) m.ak
     .rw[af hd,af hd];exact(λz j=>by rw[<-aN j];rfl,λh=>(by cases h))
     .rw[ah hd,ah hd];apply(λz j=>(by cases j),λ_ x' y' m' M I O=>?_);let M:=aN M;subst M;rw[eb] at I;let I:=aN I;subst I;let O:m=m':=by injection O
      subst O;apply(S,?_);rw[amd (L:=CI x) (B:=CJ y) rfl (ND lf) (amf J el) (Xn y) (amj eb) S]
def aml{ms:aF}{rows:bp}{m:fX}:∀z∈rG ms rows m,z.1.length=m.ak.length:=λz G=>by
 let(x,j,e):=G0.mp G;rw[Xj] at j;let F:=(Xk _ x j).1;delta uX at e;split at e
 .split at e
  .cases e
  .rw[<-aN e];show x.length=_;rw[F];delta j4;rw[aA]
 .cases e
def amm(i:Nat)(M:a9 t)(I:a9 b)(J:a9 p):
  (∀z,ū p=some z->PyWqbada.nth ((i:Nat):Int) t b p=[z])/\
  (ū p=none->∀x y m,fZ t=some x->j3 x.1 x.2 b=some y->gW p=.ok m->PyWqbada.nth ((i:Nat):Int) t b p=Ac ((rG x.2 (y.2.map (·.1)) m).map (·.1)) i):=by
 let F:PlateNeutral.callOf [[4,((i:Nat):Int)],t,b,p]=some (.nth Àw ϕ Àz i):=by
  show(PlateNeutral.text? t >>= λa=>PlateNeutral.text? b >>= λc=>PlateNeutral.text? p >>= λd=>PlateNeutral.nat? ((i:Nat):Int) >>= λj=>some (FlagsK9.Call.nth a c d j))=_;rw[Jy M,Jy I,Jy J];delta PlateNeutral.nat?;rw[af (Hj i)];rfl
 let G:∀r,FlagsK9.answer (.nth Àw ϕ Àz i)=r->PyWqbada.nth ((i:Nat):Int) t b p=r.ret::((r.nums.map λ(n:Nat)=>(n:Int))++r.bytes.map λ(b:UInt8)=>(b.toNat:Int)):=λr Z=>by
  delta PyWqbada.nth PlateNeutral.f;rw[F,<-Z]
 let(O,S):=amk M I J λ_ _ _ l=>match l[i]? with
  |some y=>Flags.tells (y.length:Nat) y
  |none=>Flags.NO
 apply(λz hz=>?_,λh x y m U W Y=>?_)
 .rw[G _ (O z hz)];rfl
 .let(_,e):=S h x y m U W Y;rw[G _ e];delta Ac;cases ((rG x.2 (y.2.map (·.1)) m).map (·.1))[i]? with
  |none=>rfl
  |some ns=>
   show((ns.length:Nat):Int)::(nv ns++[])=_;rw[jv]
end HD
end
section
namespace HD
open PySem PySem.Spec PyProof.Rows L2
open PySem.W (Codec)
def Gr{K:FR}{C N:Addr}{od U:OA}{nm M:Str}{bs sub:LV}{sn:LS}{ab:Bool}{col:Option Bool}{j m z F G:Option Value}{O:Value}{es:Array DictEntry}{ep:Nat}{sl:AO}(I:K.lookup C=some ⟨.type "type",od,.cls ⟨nm,bs,.ref C::uw,N,M,true,sn,sub,ab,col,false⟩,#[j,m,z,F,some (.builtin "Exception.__new__"),G]⟩) (h2:K.lookup N=some ⟨O,U,.dict es ep,sl⟩)(J:(es.all λe=>match e.key with|.str _ _=>true|_=>false)=true):Rc K C N:=by
 apply(_,_,_,_,_,_,_,_,_,_,_,_,_,I,?_);delta PySem.W.nsOkIn;rw[h2];exact J
def NK{l:LI}(h:l.all Ád=true):JM.a9 l:=λx j=>by
 let q:=lx.mp h x j;exact Codec.inInt_iff.mp q
def amo:typeLookup (.type "Exception") ("kind":Str)=pure none:=by rw[typeLookup_type,builtinLookup_eq_fast];kernel_rfl
def amq:typeLookup (.type "Exception") ("line":Str)=pure none:=by rw[typeLookup_type,builtinLookup_eq_fast];kernel_rfl
section
variable{P:Pg}{w:Wd}{K:FR}{h base:Heap}{mg:MG}
def b7(K:FR)(g x:Str)(st:Stmt):Prop:=∃f fd,PySem.W.nsIn K mainGlobals g=some Áx/\br K x x st f fd
def ar1{R:LV->Prop}(h:∀a,R [a]):∀U,U.length=1->R U:=λU j=>by
 let(a,rfl):=Ud j;exact h a
def ar2{R:LV->Prop}(h:∀a b,R [a,b]):∀U,U.length=2->R U:=λU j=>by
 let(a,b,rfl):=Ue j;exact h a b
def NL{R:LV->Prop}(h:∀a b c,R [a,b,c]):∀U,U.length=3->R U:=λU j=>by
 let(a,b,c,rfl):=Ug j;exact h a b c
def CM{R:LV->Prop}(h:∀a b c d,R [a,b,c,d]):∀U,U.length=4->R U:=λU j=>by
 let(a,b,c,d,rfl):=aht j;exact h a b c d
theorem Gs{R:LV->Prop}{n:Nat}(h:∀a U,U.length=n->R (a::U)):∀U,U.length=n+1->R U
 |a::U,hl=>h a U (À hl)
def b7.dn(P:Pg)(w:Wd)(base:Heap){CX:nh}{k:Nat}{g x:Str}{st:Stmt}{ps:LS}{sp:Sp}(D:b7 K g x st)(X:K.In h)(G:h.Ns mainGlobals mg)(hk:∀f fd,br K x x st f fd->Ì CX k f fd ps sp)(z:∀(kV I pm:Value)(m:OA)(j ct:Value)(us:LV),us.length=ps.length->bindArgs (PySem.W.fnOf x x (t9 st) Åf ϯ .none kV I pm m j ct) ⟨us,[]⟩=pure Ài:=by first|exact λ_ _ _ _ _ _=>ar1 λ_=>Á|exact λ_ _ _ _ _ _=>ar2 λ_ _=>Á|exact λ_ _ _ _ _ _=>NL λ_ _ _=>Á|exact λ_ _ _ _ _ _=>CM λ_ _ _ _=>Á):Ĉ CX k g ps sp:=
 let ⟨f,fd,a,F⟩:=D
 ⟨f,fd,hk f fd F,PySem.W.mg_of X G a,F.kp,F.binds z⟩
structure lp(K:FR)(x qn:Str)(C:Addr)(st:Stmt)(fs:LS):Prop where
 a:PySem.W.nsIn K mainGlobals x=some (some Ā)
 f:∃g fd,Mk K C g/\br K "__init__" qn st g fd
 c:kO K C
 n:(fs.all λf=>match PySem.W.findIn K Ā f with|some none=>true|_=>false)=true
def lp.no{x m:Str}{C:Addr}{st:Stmt}{fs:LS}(D:lp K x m C st fs){f:Str}(j:f∈fs):ϧ f:=by
 let:=lx.mp D.n f j;delta gB;split at this
 .assumption
 .cases this
def lp.t{x m:Str}{C:Addr}{st:Stmt}{fs:LS}(D:lp K x m C st fs):lg K C fs:=⟨D.c,λ_ j=>D.no j⟩
def lp.mk'(P:Pg)(w:Wd)(base:Heap){x z:Str}{C:Addr}{st:Stmt}{fs:LS}(D:lp K x z C st fs)(X:K.In h)(G:h.Ns mainGlobals mg)(d:∀f j A outer s H E,kI (Ϗ ("self"::fs) z ϯ f j A outer s H E).vo Åf (EO K 1 fs)) (S:bH ("self"::fs) ("self"::fs) ϯ:=by exact cw Á Ê) (hs:fs.length<=1000:=by decide)(J:∀(kV M pm:Value)(I:OA)(j ct:Value)(U:LV),U.length=("self"::fs:LS).length->bindArgs (PySem.W.fnOf "__init__" z (t9 st) Åf ϯ .none kV M pm I j ct) ⟨U,[]⟩=pure (("self"::fs:LS).zip U):=by first|exact λ_ _ _ _ _ _=>NL λ_ _ _=>Á|exact λ_ _ _ _ _ _=>CM λ_ _ _ _=>Á|exact λ_ _ _ _ _ _=>Gs λ_=>CM λ_ _ _ _=>Á|exact λ_ _ _ _ _ _=>Gs λ_=>Gs λ_=>Gs λ_=>CM λ_ _ _ _=>Á):Ă x C fs:=
 let ⟨g,fd,m,F⟩:=D.f
 ⟨g,fd,m,afh F D.c (λ_ h=>D.no h) S hs (d g),PySem.W.mg_of X G D.a,F.binds J⟩
def Ci(K:FR)(x:Str)(i:Int):Prop:=∃t,PySem.W.nsIn K mainGlobals x=some (some Áq)
def Ci.cn{x:Str}{i:Int}(c:Ci K x i)(X:K.In h)(G:h.Ns mainGlobals mg):Cn mg x Ây:=let ⟨t,e⟩:=c;⟨_,PySem.W.mg_of X G e,⟨t,rfl⟩⟩
def Ct(K:FR)(x s:Str):Prop:=∃t,PySem.W.nsIn K mainGlobals x=some (some (.str s t))
def Ct.cn{x s:Str}(c:Ct K x s)(X:K.In h)(G:h.Ns mainGlobals mg):Cn mg x (.str s):=let ⟨t,e⟩:=c;⟨_,PySem.W.mg_of X G e,⟨t,rfl⟩⟩
def Tu(K:FR)(x:Str)(vs:au):Prop:=∃a o U n s,PySem.W.nsIn K mainGlobals x=some (some Ĝ)/\K.lookup a=some ⟨.type "tuple",o,.seq U n,s⟩/\U.size<=100/\bc vs U.toList
def Tu.tn{x:Str}{vs:au}(c:Tu K x vs)(X:K.In h)(G:h.Ns mainGlobals mg):Tn K mg x vs:=let ⟨_,_,_,_,_,e,l,z,v⟩:=c;⟨_,PySem.W.mg_of X G e,λ_=>.inr ⟨_,_,_,l,rfl,rfl,gQ z Ù,v⟩⟩
def dfk{g x:Str}{st:Stmt}{f:Addr}{O kV I pm j ct:Value}{od m:OA}{M:AO}(a:PySem.W.nsIn K mainGlobals g=some Áx:=by k_is)(l:K.lookup f=some ⟨O,od,.func (PySem.W.fnOf x x (t9 st) Åf ϯ .none kV I pm m j ct),M⟩:=by k_is)(c:PySem.W.codeIn K j x=true:=by k_is)(k:PySem.W.keepIn K ā=true:=by k_is):b7 K g x st:=⟨f,_,a,nr l c k⟩
def f7{x:Str}{i:Int}{t:Tok}(e:PySem.W.nsIn K mainGlobals x=some (some Áq):=by k_is):Ci K x i:=⟨t,e⟩
def Ab(K:FR)(x:Str):Prop:=PySem.W.nsIn K mainGlobals x=some none
def oa{x:Str}(e:PySem.W.nsIn K mainGlobals x=some none:=by k_is):Ab K x:=e
def Ab.z{x:Str}(c:Ab K x)(X:K.In h)(G:h.Ns mainGlobals mg):mg x=none:=PySem.W.mg_none_of X G c
structure Gu(K:FR)(x:Str)(C N:Addr):Prop where
 a:PySem.W.nsIn K mainGlobals x=some (some Ā)
 c:XC K C N
 k:PySem.W.keepIn K Ā=true
end
def all_mk{P:Pg}{w:Wd}{K:FR}{h:Heap}{mg:MG}{fa:Addr}(X:K.In h)(G:h.Ns mainGlobals mg)(hfa:mg "nth"=some (.ref fa)){CS CG CP CK CL CV CQ CE fh CR CF CN NN CB NB CT NT mG NP cM TM fM:Addr}{ocM kVM dcM pmM ctM:Value}{odM anM odC:OA}{slM slC:AO}{v0 v1 v2 v3 v4 v5 v6 v8 xE Jp Jq Jr Js Jt:Value}{fl tx:Int}{tf tt ts:Tok}{bb:Bool}{xs:Str}(amE:b7 K "cell_behind" "cell_behind" Jz)(amF:b7 K "cells_seen" "cells_seen" JA)(amG:b7 K "spelled" "spelled" JB)(amH:b7 K "cut" "cut" JC)(amI:b7 K "whole_lines" "whole_lines" JD)(amJ:b7 K "place_among" "place_among" JE)(amK:b7 K "places_in" "places_in" JF)(amL:b7 K "read_colours" "read_colours" JG)(amM:b7 K "is_name" "is_name" JH)(amN:b7 K "name_behind" "name_behind" JI)(amO:b7 K "read_locker" "read_locker" JJ)(amP:b7 K "read_name" "read_name" JK)(amQ:b7 K "read_digit" "read_digit" JL)(amR:b7 K "read_kind" "read_kind" JN)(amS:b7 K "are_in_order_lockers" "are_in_order" JO)(amT:b7 K "may_follow" "may_follow" JP)(amU:b7 K "are_different" "are_different" JQ)(amV:b7 K "has_twice" "has_twice" JR)(amW:b7 K "read_plate" "read_plate" JT)(amX:b7 K "read_line" "read_line" JU)(amY:b7 K "read_side" "read_side" JV)(amZ:b7 K "read_row" "read_row" JW)(am0:b7 K "may_stand" "may_stand" JX)(am1:b7 K "lacks_flags" "lacks_flags" JY)(am2:b7 K "lacks_cells" "lacks_cells" JZ)(am3:b7 K "has_whole_hoists" "has_whole_hoists" J0)(am4:b7 K "put" "put" J1)(am5:b7 K "sighting_of" "sighting_of" J2)(am6:b7 K "view_of" "view_of" J3)(am7:b7 K "kinds_along" "kinds_along" J4)(am8:b7 K "kinds_that_look_so" "kinds_that_look_so" J5)(am9:b7 K "may_be" "may_be" J6)(ana:b7 K "fits" "fits" J7)(anb:b7 K "hoist_fits" "hoist_fits" J8)(anc:b7 K "fits_at" "fits_at" J9)(ane:b7 K "display_told" "display_told" Ka)(anf:b7 K "copies_lacking" "copies_lacking" Kb)(ang:b7 K "sames_along" "sames_along" Kc)(anh:b7 K "bits_of_sames" "bits_of_sames" Kd)(ani:b7 K "places_of" "places_of" Ke)(anj:b7 K "plan_of" "plan_of" Kf)(ank:b7 K "places_outside" "places_outside" Kg)(anl:b7 K "copies_in" "copies_in" Kh)(anm:b7 K "hoist_told" "hoist_told" Ki)(ano:b7 K "flag_told" "flag_told" Kj)(anp:b7 K "hang" "hang" Kk)(anq:b7 K "read_book" "read_book" Kl)(anr:b7 K "numbers_of_signs" "numbers_of_signs" Km)(ans:b7 K "read_entry" "read_entry" Ko)(ant:b7 K "read_signs" "read_signs" Kq)(anu:b7 K "read_meaning" "read_meaning" Kr)(anv:b7 K "are_in_order_books" "are_in_order" Ks)(anw:b7 K "can_be_shown" "can_be_shown" Ku)(anx:b7 K "readings_of" "readings_of" Kw)(anz:b7 K "entries_in_doubt" "entries_in_doubt" Kx)(anA:b7 K "product" "product" Ky)(anB:b7 K "all_rows" "all_rows" Kz)(anC:b7 K "sides_of" "sides_of" KA)(anD:b7 K "answered" "answered" KC)(anE:b7 K "found" "found" KD)(anF:b7 K "nth_told" "nth_told" KB)(Gv:lp K "Sighting" "Sighting.__init__" CS aeS ["shape","cells"])(CO:lp K "Glimpse" "Glimpse.__init__" CG aeT ["above","below","flags"])(CU:lp K "Plate" "Plate.__init__" CP aeU ["side","classes","glimpses"])(O:lp K "Kind" "Kind.__init__" CK aeQ ["role","name","which","copies","shape","look"])(Ak:lp K "Locker" "Locker.__init__" CL aeR ["name","kinds"])(NM:lp K "View" "View.__init__" CV aeV ["side","glimpses"])(CW:lp K "Plan" "Plan.__init__" CQ aeW ["sames","gaps","spares"])(CY:lp K "Entry" "Entry.__init__" CE aeX ["row","meaning"])(NQ:lp K "Book" "Book.__init__" fh aeY ["name","entries"])(Xo:lp K "Reading" "Reading.__init__" CR aeZ ["entries","hoists","sides"])(Xp:lp K "Finding" "Finding.__init__" CF ae0 ["locker","book","plate","readings"])(NR:Gu K "NoLocker" CN NN)(anG:PySem.W.nsIn K NN "__init__"=some none)(NS:Gu K "NoBook" CB NB)(anH:PySem.W.nsIn K NB "__init__"=some none)(NU:Gu K "TooMuchInDoubt" CT NT)(anI:PySem.W.nsIn K NT "__init__"=some none)(NV:Gu K "NoPlate" mG NP)(y1:PySem.W.nsIn K NP "kind"=some none)(y2:PySem.W.nsIn K NP "line"=some none)(y3:∃f fd,PySem.W.nsIn K NP "__init__"=some Áx/\PySem.W.isFn K ā=true/\br K "__init__" "NoPlate.__init__" JS f fd)(nz:PySem.W.findCls K (.type "Exception") (.type "type") "__init__"=some (.val (.builtin "Exception.__init__")))(NW:Ci K "FRONT" 0)(Gw:Ci K "BEHIND" 1)(Gx:Ci K "CELLS" 16)(Gy:Ci K "ROW" 4)(NX:Ci K "MOST_BYTES" 65536)(Gz:Ci K "LINE_END" 10)(Y:Ci K "BLANK" 32)(NY:Ci K "LONGEST_NAME" 8)(S:Ci K "SIGN" 0)(GC:Ci K "SAME" 1)(NZ:Ci K "MOST_COPIES" 8)(N0:Ci K "MOST_SAME" 4)(N5:Ci K "MOST_SIGNS" 48)(N6:Ci K "DIGIT_ZERO" 48)(N7:Ci K "MOST_HOISTS" 4)(GG:Ci K "MOST_FLAGS" 8)(N8:Ci K "UNKNOWN_SIDE" 2)(N9:Ci K "UNSEEN_SHAPE" 3)(Oa:Ci K "UNSEEN_CELL" 16)(GH:Ci K "SIDE_LINE" 0)(GI:Ci K "HOIST_LINE" 1)(Ob:Ci K "SHAPE_LINE" 2)(Oc:Ci K "CELLS_LINE" 3)(Od:Ci K "NO_SUCH_LINE" 1)(Oe:Ci K "WRONG_PLACE" 2)(Of:Ci K "TITLE_LINES" 2)(Og:Ci K "MOST_ENTRIES" 2048)(Oh:Ci K "LONGEST_MEANING" 64)(Oi:Ci K "FULL_STOP" 46)(Oj:Ci K "LAST_PRINTED" 126)(Ol:Ci K "MOST_IN_DOUBT" 1024)(Om:Ct K "COLOUR_SIGNS" "0123456789abcdef")(On:Ct K "NAME_SIGNS" "ABCDEFGHIJKLMNOPQRSTUVWXYZ0123456789")(Oo:Ct K "SEEN_SIGNS" "0123456789abcdef?")(Oq:Tu K "SHAPES" ((["square","tails","long"]:LS).map V.str))(Os:Tu K "ROLES" ((["sign","same","answer"]:LS).map V.str))(Ot:Tu K "SIDES" ((["front","behind","unknown"]:LS).map V.str))(Ou:Tu K "HOIST_LINES" ((["hoist","hoist above","hoist below","hoist above below"]:LS).map V.str))(Ov:Tu K "SEEN_SHAPES" ((["square","tails","long","shape?"]:LS).map V.str))(Ow:Tu K "WORDS_OF_ROLES" [.int 5,.int 5,.int 4])(Ox:Ab K "ord")(j:Ab K "enumerate")(J:Ab K "all")(GJ:Ab K "any")(I:Ab K "len")(Z:Ab K "range")(GO:Ab K "sum")(GQ:Ab K "dict")(Oy:Ab K "zip")(GT:Ab K "list")(CZ:Ab K "max")(GU:Ab K "min")(GV:Ab K "tuple")(Oz:Ab K "Exception")(aM:PySem.W.nsIn K mainGlobals "nth"=some (some (.ref fM))) (lM:K.lookup fM=some ⟨ocM,odM,.func (PySem.W.fnOf "nth" "nth" (t9 pW) (iW pW) (aV pW) .none kVM dcM pmM anM (.ref cM) ctM),slM⟩) (oM:PySem.W.codeIn K (.ref cM) "nth"=true) (kM:PySem.W.keepIn K (.ref fM)=true)(lC:K.lookup cM=some ⟨.type "code",odC,.fields #[v0,v1,v2,v3,v4,v5,v6,.int fl tf,v8,.bool bb,.int tx tt,.ref TM,xE,Jp,Jq,Jr,Js,Jt,.str xs ts],slC⟩) (Xq:(cM==TM)=false) (nT:K.lookup TM=none) (nd:[CN,CB,mG,CT].Nodup):
  ∃(fd:FD)(o:Obj)(c T:Addr),K.lookup fa=some o/\o.data=.func fd/\fd.code=.ref c/\Bv K c T/\K.lookup T=none/\(∀(s:Sh)(U:LV),U.length=(["i","t","b","p"]:LS).length->BindsTo s fd ⟨U,[]⟩ ((["i","t","b","p"]:LS).zip U))/\
   ∀base:Heap,K.In base->base.Ns mainGlobals mg->xD mg base->Ì aE 9 fa fd ["i","t","b","p"] (Ng K T):=by
 let e:=hfa.symm.trans (PySem.W.mg_of X G aM);cases e;let NW:=NW.cn X G;let Gw:=Gw.cn X G;let Gx:=Gx.cn X G;let Gy:=Gy.cn X G;let NX:=NX.cn X G;let Gz:=Gz.cn X G;let Y:=Y.cn X G;let NY:=NY.cn X G;let S:=S.cn X G;let GC:=GC.cn X G;let NZ:=NZ.cn X G;let N0:=N0.cn X G;let N5:=N5.cn X G;let N6:=N6.cn X G;let N7:=N7.cn X G;let GG:=GG.cn X G;let N8:=N8.cn X G;let N9:=N9.cn X G;let Oa:=Oa.cn X G;let GH:=GH.cn X G;let GI:=GI.cn X G;let Ob:=Ob.cn X G;let Oc:=Oc.cn X G;let Od:=Od.cn X G;let Oe:=Oe.cn X G;let Of:=Of.cn X G;let Og:=Og.cn X G;let Oh:=Oh.cn X G;let Oi:=Oi.cn X G;let Oj:=Oj.cn X G;let Ol:=Ol.cn X G;let Om:=Om.cn X G;let On:=On.cn X G;let Oo:=Oo.cn X G;let Oq:=Oq.tn X G;let Os:=Os.tn X G;let Ot:=Ot.tn X G;let Ou:=Ou.tn X G;let Ov:=Ov.tn X G;let Ow:=Ow.tn X G;let Ox:=Ox.z X G;let j:=j.z X G;let J:=J.z X G;let GJ:=GJ.z X G;let I:=I.z X G;let Z:=Z.z X G;let GO:=GO.z X G;let GQ:=GQ.z X G;let Oy:=Oy.z X G;let GT:=GT.z X G;let CZ:=CZ.z X G;let GU:=GU.z X G;let GV:=GV.z X G;let Oz:=Oz.z X G;let m:ma K ⟨CS,CG,CP⟩:=⟨Gv.c,CO.c,CU.c,Gv.no Ä,Gv.no Ä,CO.no Ä,CO.no Ä,CO.no Ä,CU.no Ä,CU.no Ä,CU.no Ä⟩;let M:sE K CK:=⟨O.c,O.no Ä,O.no Ä,O.no Ä,O.no Ä,O.no Ä,O.no Ä⟩;let TL:LkT K CL:=⟨Ak.c,Ak.no Ä,Ak.no Ä⟩;let XN:ſ "NoLocker" CN NN:=⟨NR.c,anG,PySem.W.mg_of X G NR.a,NR.k⟩;let XB:ſ "NoBook" CB NB:=⟨NS.c,anH,PySem.W.mg_of X G NS.a,NS.k⟩;let XT:ſ "TooMuchInDoubt" CT NT:=⟨NU.c,anI,PySem.W.mg_of X G NU.a,NU.k⟩;let XP:EX K mg mG NP:=⟨NV.c,⟨y1,amo⟩,⟨y2,amq⟩,PySem.W.mg_of X G NV.a,NV.k⟩;apply(_,_,cM,TM,lM,Á,Á,Sl lC Xq,nT,λs U hu=>.of_eq (CM (R:=λU=>bindArgs _ ⟨U,[]⟩=pure (_:List (Str×Value))) (λ_ _ _ _=>Á) U hu),λbase _ _ hb=>?_);let OB:=amG.dn P w base X G λf fd F=>ae2 F Ox;let yp:=amH.dn P w base X G λf fd F=>ae5 F;let(fS,xH,GS,mS,kS,bS):=id OB;let OC:=amJ.dn P w base X G λf fd F=>ae8 F j GS mS kS bS;let OD:=amK.dn P w base X G λf fd F=>afc F J GS mS kS bS;let(fP,KL,GP,mP,kP,bP):=id OD;let(uC,mC,rC):=Om;let Xr:=amL.dn P w base X G λf fd F=>afe F I mC rC GP mP kP bP;let Xs:=amM.dn P w base X G λf fd F=>af0 F I NY On OD;let Xu:=amN.dn P w base X G λf fd F=>af2 F I Y yp OB Xs;let Xv:=amI.dn P w base X G λf fd F=>af4 F Gz yp;let Xw:=Gv.mk' P w base X G λ_ _ _ _ _ _ _=>aB Į (aD ĭ);let dMG:=CO.mk' P w base X G λ_ _ _ _ _ _ _=>aB Į Ź;let dMP:=CU.mk' P w base X G λ_ _ _ _ _ _ _=>aB Į Ź;let dMK:=O.mk' P w base X G λ_ _ _ _ _ _ _=>aB Į (aB ĭ (aB (fc Ú ö rfl) (aB (fc Ú İ rfl) (aB (fc Ú Äd rfl) (aD (fc Ú Ãl rfl))))));let dML:=Ak.mk' P w base X G λ_ _ _ _ _ _ _=>aB Į (aD ĭ);let dMV:=NM.mk' P w base X G λ_ _ _ _ _ _ _=>aB Į (aD ĭ);let dMQ:=CW.mk' P w base X G λ_ _ _ _ _ _ _=>aB Į Ź;let dME:=CY.mk' P w base X G λ_ _ _ _ _ _ _=>aB Į (aD ĭ);let dMB:=NQ.mk' P w base X G λ_ _ _ _ _ _ _=>aB Į (aD ĭ);let dMR:=Xo.mk' P w base X G λ_ _ _ _ _ _ _=>aB Į Ź;let dMF:=Xp.mk' P w base X G λ_ _ _ _ _ _ _=>aB Į (aB ĭ (aB (fc Ú ö rfl) (aD (fc Ú İ rfl))));let dRN:=amP.dn P w base X G λf fd F=>af8 F XN Xs;let dRD:=amQ.dn P w base X G λf fd F=>aga F I XN N6;let dRK:=amR.dn P w base X G λf fd F=>agd F I XN Y Os Ow S GC N0 NZ Oq yp OC dRN dRD Xr dMK;let dHT:=amV.dn P w base X G λf fd F=>agA F GJ j;let anZ:=amT.dn P w base X G λf fd F=>agC F M S;let dOr:=amS.dn P w base X G λf fd F=>agE F M I J j S N5 anZ;let dDi:=amU.dn P w base X G λf fd F=>agH F M S dHT;let dRL:=amO.dn P w base X G λf fd F=>agJ F XN Xv Xu dRK dOr dDi dML;let an3:=amZ.dn P w base X G λf fd F=>afj F I Gy Oo OD;let an4:=amY.dn P w base X G λf fd F=>afk F I Y Ot yp OB OC Xr;let an5:=amX.dn P w base X G λf fd F=>afo F j Ou Ov an4 OC an3;let OE:=am1.dn P w base X G λf fd F=>afu F m;let Xx:=am2.dn P w base X G λf fd F=>afx F m I Gx OE;let dWh:=am3.dn P w base X G λf fd F=>afz F m OE Xx;let an7:=am0.dn P w base X G λf fd F=>afB F m I GH GI Oc N7 GG OE Xx;let an8:=am4.dn P w base X G λf fd F=>afJ F m GH GI Ob dMG Xw;let(gN,S3,n1,n2,FN):=y3;let dNp:SX P w K mg base mG NP:=⟨_,_,XP,n1,n2,afR FN XP Oz nz,FN.binds λ_ _ _ _ _ _=>NL λ_ _ _=>rfl⟩;let dRP:=amW.dn P w base X G λf fd F=>afU F m I j Gz Od Oe yp dMP dNp an5 an7 an8 dWh;let dBh:=amE.dn P w base X G λf fd F=>ahv F Gy;let dCS:=amF.dn P w base X G λf fd F=>ahw F Z Gw Gx dBh;let dSO:=am5.dn P w base X G λf fd F=>ahy (C:=⟨CS,CG,CP⟩) F M Xw dCS;let aoe:=am9.dn P w base X G λf fd F=>ahz F m J j N9 Oa;let dKS:=am8.dn P w base X G λf fd F=>ahB F j aoe;let dKA:=am7.dn P w base X G λf fd F=>ahD F m dKS;let dVO:=am6.dn P w base X G λf fd F=>ahK F m dMV dSO dKA;let dFA:=anc.dn P w base X G λf fd F=>ahN F J j;let dHF:=anb.dn P w base X G λf fd F=>ahO F m I GJ Z dFA;let dFi:=ana.dn P w base X G λf fd F=>ahQ F m NM.t J j dHF;let dBS:=anh.dn P w base X G λf fd F=>ahT F M GO j;let dSA:=ang.dn P w base X G λf fd F=>ahW F I Z dBS;let dPO:=ank.dn P w base X G λf fd F=>ahX F I;let dCI:=anl.dn P w base X G λf fd F=>ahY F M GO j;let dLa:=anf.dn P w base X G λf fd F=>ahZ F M GQ;let dPf:=ani.dn P w base X G λf fd F=>ah8 F Oy;let aor:=anj.dn P w base X G λf fd F=>aif F CW.t I GT Z CZ dMQ dPO dCI;let dHa:=anp.dn P w base X G λf fd F=>aiv F CW.t j CZ GU;let dFT:=ano.dn P w base X G λf fd F=>aiA F CW.t I Z dHa;let aou:=anm.dn P w base X G λf fd F=>aiG F j dFT;let Xy:=ane.dn P w base X G λf fd F=>aiR F M CW.t GT j GU GC dLa dSA dPf aor aou;let dRM:=anu.dn P w base X G λf fd F=>ai5 F I J XB Oh Y Oj yp;let dNu:=anr.dn P w base X G λf fd F=>aja F M GQ GV j S;let aox:=ant.dn P w base X G λf fd F=>aje F I GV XB GG Oi yp;let aoy:=ans.dn P w base X G λf fd F=>ajh F XB Y dME aox dRM;let dOB:=anv.dn P w base X G λf fd F=>aji F CY.t I J j;let dCB:=anw.dn P w base X G λf fd F=>ajj F CY.t J Xy;let dRB:=anq.dn P w base X G λf fd F=>ajp F XB Ak.t I Of Og Xv Xu dNu aoy dOB dCB dMB;let dED:=anz.dn P w base X G λf fd F=>ajv F m NQ.t CY.t I j;let dPr:=anA.dn P w base X G λf fd F=>ajw F;let dSd:=anC.dn P w base X G λf fd F=>ajy F m NW Gw N8;let dAR:=anB.dn P w base X G λf fd F=>ajF F;let dRe:=anx.dn P w base X G λf fd F=>ajT F XT m Ak.t NQ.t CY.t NM.t I Ol dED dPr dVO dSd dAR Xy dFi dMR;let dFo:=anE.dn P w base X G λf fd F=>akl (k:=⟨⟨CS,CG,CP⟩,CL,CK,fh,CE,CR,CF⟩) F dRL dRB dRP dRe dMF;let dNt:=anF.dn P w base X G λf fd F=>akw (k:=⟨⟨CS,CG,CP⟩,CL,CK,fh,CE,CR,CF⟩) F Xp.t Xo.t I;exact akA (nr (st:=pW) lM oM kM) Á (Sl lC Xq) hb λ_ _=>anD.dn P w base X G λf fd F=>akq (k:=⟨⟨CS,CG,CP⟩,CL,CK,fh,CE,CR,CF⟩) F XN XB XP XT nd I CZ NX dFo (aky (pm:=(mg "__name__").getD .none) dNt)
end HD
end
section
open PySem.W (Codec)
open PySem PySem.W PyProof.Rows HD
set_option maxRecDepth 100000 in
set_option maxHeartbeats 0 in
theorem PySem.Challenge.cw_halfseendesk_s04_nth_holds : PySem.Challenge.rw_halfseendesk_s04_nth.Holds := by
 refine PySem.W.holds_os (q:=kQ) (loose:=kL) (Xt:=kX) (XP:=PySem.W.XL kQ []) (Yf:=PySem.W.Hook.obs Ŗ) (Ya:=PySem.W.Hook.val Ŗ) (YP:=PySem.W.Hook.says Ŗ) (N:=11224) YF (PySem.W.Hook.of Ŗ) (PySem.W.Hook.keeps Ŗ) (λs e=>PySem.W.xl_of s (vd.mp e).1) PySem.W.XL.keeps Ô Ô Ô (λs e=>PySem.W.recFacts_of (vd.mp e).2) PySem.W.os_shapes Ê Ê ⟨Á,Á,Á,Á,Á,by decide+kernel⟩ ⟨[.int 0,.list [],.list [],.list []],by decide+kernel,by decide+kernel⟩ ?hc
 k_fillS
 refine L2.aeB (r:=PySem.Challenge.rw_halfseendesk_s04_nth) (k:=9) (CX:=L2.aE) (ps:=["i","t","b","p"]) (sp:=Ng) Ê Á Á ⟨Á,by decide,by decide⟩ (λw h Y=>PySem.W.kIn_of Y) (by kernel_rfl) ?F ?S (λ_ _ _ _ z=>z)
 case F=>
  intro w mg fa h Y KX G EE;exact all_mk KX G EE dfk dfk dfk dfk dfk dfk dfk dfk dfk dfk dfk dfk dfk dfk dfk dfk dfk dfk dfk dfk dfk dfk dfk dfk dfk dfk dfk dfk dfk dfk dfk dfk dfk dfk dfk dfk dfk dfk dfk dfk dfk dfk dfk dfk dfk dfk dfk dfk dfk dfk dfk dfk dfk dfk dfk dfk dfk dfk dfk dfk dfk Å Å Å Å Å Å Å Å Å Å Å ⟨by k_is,⟨Gr (by k_is) (by k_is) Ä,by k_is,by k_is,by k_is⟩,by k_is⟩ (by k_is) ⟨by k_is,⟨Gr (by k_is) (by k_is) Ä,by k_is,by k_is,by k_is⟩,by k_is⟩ (by k_is) ⟨by k_is,⟨Gr (by k_is) (by k_is) Ä,by k_is,by k_is,by k_is⟩,by k_is⟩ (by k_is) ⟨by k_is,⟨Gr (by k_is) (by k_is) Ä,by k_is,by k_is,by k_is⟩,by k_is⟩ (by k_is) (by k_is) ⟨_,_,by k_is,by k_is,L2.nr (by k_is) (by k_is) (by k_is)⟩ (by k_is) f7 f7 f7 f7 f7 f7 f7 f7 f7 f7 f7 f7 f7 f7 f7 f7 f7 f7 f7 f7 f7 f7 f7 f7 f7 f7 f7 f7 f7 f7 f7 ⟨_,by k_is⟩ ⟨_,by k_is⟩ ⟨_,by k_is⟩ æ æ æ æ æ æ oa oa oa oa oa oa oa oa oa oa oa oa oa oa
   (by k_is) (by k_is) (by k_is) (by k_is) (by k_is) Ô (by kernel_rfl) Ù
 case S=>
  intro K T H xs a hT uk ara hx;let(j,t,b,p,u):=a;rcases hx with _|⟨h0,hx⟩;cases h0;cases hx with
  |cons h1 h2=>
   cases h2 with
   |cons h3 h4=>
    cases h4 with
    |cons h5 h6=>
     cases h6;cases h1 with
     |lst s1 a1=>
      cases h3 with
      |lst s2 a2=>
       cases h5 with
       |lst s3 a3=>
        let e:=L2.Jf t _ a1;subst e;let e:=L2.Jf b _ a2;subst e;let e:=L2.Jf p _ a3;subst e;let q:(Codec.inInt 0 18446744073709551615 j&&((Codec.inLen 0 66000 t&&t.all Ád)&&((Codec.inLen 0 66000 b&&b.all Ád)&&((Codec.inLen 0 66000 p&&p.all Ád)&&true))))=true:=uk;simp only[jw] at q;let(q0,(q1,q2),(q3,q4),(q5,q6),_):=q;let t8:JM.a9 t:=NK q2;let b8:JM.a9 b:=NK q4;let p8:JM.a9 p:=NK q6;obtain⟨i,rfl⟩:∃n:Nat,j=(n:Int):=⟨Int.toNat j,(apv (Codec.inInt_iff.mp q0).1).symm⟩;let(m1,m2):=amm i t8 b8 p8;apply(i,_,_,_,t,b,p,Á,hT,s1,s2,s3,(Yu.mp q1).2,(Yu.mp q3).2,(Yu.mp q5).2,λx e=>alw t8 e,λm e=>Xd p8 e,λz hz H' r hr=>?_,λhz x y m e1 e2 e3=>⟨λz hz=>(by rw[aml z hz];exact(Xd p8 e3).dc),λH' r hr=>?_⟩)
        .show L2.Dw K H' _ (.list ((PyWqbada.nth (i:Int) t b p).map .int));rw[m1 z hz];exact .lst (L2.aa.of hr) (L2.R7 [z])
        .show L2.Dw K H' _ (.list ((PyWqbada.nth (i:Int) t b p).map .int));rw[m2 hz x y m e1 e2 e3];exact .lst (L2.aa.of hr) (L2.R7 _)
#print axioms PySem.Challenge.cw_halfseendesk_s04_nth_holds
end
