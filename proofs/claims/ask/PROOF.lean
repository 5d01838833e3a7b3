import PyProof.Rows.All
import KE.KPairComp
import OpenK.KOwn
import Open.SpecLaws
import KE.KDictOf
import KE.KNest
import KE.OsHead
import PySem.Challenge.RW_halfseendesk_s06_ask
import PyWqbada
set_option Elab.async false
set_option linter.all false
set_option maxRecDepth 100000
set_option maxHeartbeats 2000000
set_option bootstrap.genMatcherCode false
set_option genSizeOf false
set_option genSizeOfSpec false
set_option compiler.extract_closed false
namespace MP_
open Lean
def mI(s:String):Syntax:=mkIdent (s.splitOn "."|>.foldl (λn c=>.str n c) .anonymous)
def mN:Name->Array Syntax->Syntax:=.node .none
def mS(f:String)(l:List Syntax)(r:String)(k:Name):Syntax:=mN k #[mkAtom f,mkNullNode ((l.intersperse (mkAtom ",")).toArray),mkAtom r]
def nT:String->Name:=.str `Lean.Parser.Term
def nC:String->Name:=.str `Lean.Parser.Tactic
def mP(f:Syntax)(a:Array Syntax):Syntax:=mN (nT "app") #[f,mkNullNode a]
def mA:List Syntax->Syntax
|[x]=>x
|l=>match l.reverse with|f::a=>mP f a.toArray|_=>.missing
def mW(w:String):Syntax:=if w="_" then mN (nT "hole") #[mkAtom w] else if w="?_" then mN (nT "syntheticHole") #[mkAtom "?",mkAtom "_"] else if w.front.isDigit then Syntax.mkNumLit w else if w.front='.' then mN (nT "dotIdent") #[mkAtom ".",mI (w.drop 1).toString] else mI w
def mG:List String->List Syntax->List Syntax->List (List Syntax×List Syntax)->Syntax
|[],_,c,_=>mA c
|w::r,p,c,s=>if w="("||w="⟨"||w="[" then mG r [] [] ((p,c)::s)
 else if w="," then mG r (mA c::p) [] s
 else if w=")"||w="⟩"||w="]" then
  let l:=(if c.isEmpty then p else mA c::p).reverse
  match s with|(p,d)::s=>mG r p ((if w=")" then mA c else if w="⟩" then mS "⟨" l w (nT "anonymousCtor") else mS "[" l w `«term[_]»)::d) s|_=>.missing
 else mG r p (mW w::c) s
def mL(s:String):Syntax:=mG (((("( ) ⟨ ⟩ [ ] ,".splitOn " ").foldl (λs c=>s.replace c (" "++c++" ")) s).splitOn " ").filter (· ≠"")) [] [] []
def mT(t n:String):Option Syntax:=(t.splitOn ";").findSome? λe=>if e.startsWith (n++" ") then some (match (e.drop (n.length+1)).toString.splitOn "=>" with|[b,x]=>mN (nT "fun") #[mkAtom "fun",mN (nT "basicFun") #[mkNullNode ((b.splitOn " ").map mW).toArray,mkNullNode,mkAtom "=>",mL x]]|x=>mL (x.headD "")) else none
def tb:="Æ ⟨Γ,⟨_,_,⟨Γ,Γ,Γ,Γ⟩,L2.nP Γ Γ Γ ⟩,⟨Γ,Γ,Γ,Γ⟩,Δ⟩;Ê cZ Δ;Ø ⟨Γ,⟨yc Γ Γ Ä,Γ,Γ,Γ⟩,Γ⟩;ç upd (upd (upd H T0 (ent .none T0)) a (exc C od (.ref T) a)) T (ent (rawInt L) T);é ⟨_,_,_,_,_,Γ,Γ,Ð,Ε⟩;î ⟨rfl,rfl,rfl,É,rfl,É,É⟩;Ô X hP hw hK hc i pins s σ H E I hf st hg;Ú pins s σ H Q I h;ð pins s σ H x y v u Q I rx ry h;Α some;Β none;Á rfl;Â aK A outer s H vs Q E hr h=>?_;Ã Inv X pins σ;Ç Dn P w K mg base aF;È model X.prog X.w;Ë a0 P w K mg base aF;Ì ks.map ax.m;Í model prog w;Î hc=>?_;Ñ _ _ _ _ _=>eI;Ò X.gU s H scope(compEnvC scope cl C X.env)fp;Ó l.kinds.map ax.m;Õ _ _=>rfl;Ö pv 0;Ü pP PySem.F.plainAttrs_list PySem.F.slot_list_append PySem.F.type_list_append yE;Ý aB(i8 hr.hd X.c(lu X.c X.lJ X.keep rfl X.mC));Þ b.es.map bJ.row;à ⟨Tt,_,Á,bx.of au,Á,_,_,Á,_,_,Á,Á,Á,eK ?_⟩;á pv 1;â .ListComp lX[⟨tg,iter,j3,0⟩]scope pos;ã .lst[];ä aa K H;å pv 2;æ bh left;è ⟨Tt,_,Á,bx.of au,Á,_,_,Á,_,_,Á,Á,Á,?_⟩;í .dK(bX V.int lacks);ñ _=>aB(aX(dw(ae(iV jk bf)ag)));ò p.aq.map cA.m;ó pP PySem.F.plainAttrs_list PySem.F.slot_list_extend PySem.F.type_list_extend F1;ô EP X pins σ;õ ae Ö ag;ö pv 3;ø dJ sames;ù excClassObj nm q C N bs bm true sn sub ab col dd k0 k1 k2 k3 k5 newId;ú .ref s.heap.objs.size;û starEach es X.env;ü fu rows(gC ms rows);ý a0 X.prog X.w X.K X.mg X.base;þ H' f=>?_;ÿ aY Ö rfl;Ā nV P w K mg base;ā c9 gw Ï tL PySem.boot_len(ae å ag);Ă c9 gw Ï tL PySem.boot_len(ae á ag);ă I.ok.hd hc;Ą .lst(hJ.map V.ref);ą i y H' hi f=>?_;Ć kJ.map codes;ć cO sames;Ĉ .ref C;ĉ c8 classes;Ċ Dn P w K mg base;ċ gS I q Ä;Č fA X.prog X.w;č c9 gw Ï tL PySem.boot_len õ;Ď cz.zero hD;ď .ref f;Đ upd H1 D ã;đ .dK kvs;Ē gy P w;ē b hb=>?_;Ĕ .lst(qs.map V.ref);ĕ upd H s.heap.objs.size;Ė jc x.zs bits;ė bw lf l s;Ę ⟨_,Á,?_⟩;ę pv 4;Ě excClassObj nm q C N bs bm hdct sn sub ab col dd k0 k1 k2 k3 k5 newId;ě Flags.less1 left f;Ĝ .ref p;ĝ .inl Á;Ğ iu K mg;ğ s2.trans s3;Ġ PySem.W.fnOf x d9(ve st)(pA st)(bc st).none kV jC pm an aK ct;ġ I.aE.fresh(bC _);Ģ a0 P w K mg base;ģ hd=>?_;Ĥ aj.refl H';ĥ X.gU s3 H3 scope ce fp;Ħ gi sames.length ć æ ß D;ħ .ref a;Ĩ dw ag;ĩ fm Ö å rfl;Ī fm Ö á rfl;ī jr K s₁.heap;Ĭ compEnvC scope cl s3.heap.objs.size X.env;ĭ aY(cK dc ÿ(iV jk bf)Õ)rfl;Į i7 jJ rfl;į cO sames b;İ .dK(bX gA tt);ı bj ms;Ĳ w.map B;ĳ ae ö ag;Ĵ .Tuple oq kk nO;ĵ yF X.N X.env.scope scope;Ķ oA CX P w K mg base N d9;ķ fc P w H;ĸ Gn TN.c iN G9 TN.keep GN uc rfl TN.mC;Ĺ ae á ag;ĺ aY Ö Á;Ļ ⟨Á,_,Á,?_⟩;ļ b z=>absurd z Ä;Ľ l.map B;ľ wipe σ vs;Ŀ ay 3;ŀ ae(pv 5)ag;Ł PySem.W.instObj C s.heap.objs.size;ł ae å ag;Ń ni CK H pk;ń σ.set i(some v);Ņ bW JM.iK line;ņ bW JM.iJ line;Ň aY á rfl;ň nF X pins;ŉ Binds X.K fd ps;Ŋ sames.getD i 0;ŋ sames.getD b 0;Ō rM C h.objs.size;ō past.map bO;Ŏ kp p hp;ŏ gC ms rows;Ő bh(jY ms);ő aB(i8 hr.hd X.c(lu X.c X.lJ X.keep Á X.mC));Œ .lst(iv l);œ .int 0;Ŕ putK kvs k;ŕ i x Tt H' hi f hT=>?_;Ŗ ws.getD 1[];ŗ upd H1 pl Ą;Ř iv p.classes;ř ay 2;Ś exc C none .none x;ś Builtin.bitAnd i j;Ŝ .int 1;ŝ ae ę ag;Ş ae(cK dc á bf Õ)ag;ş PySem.W.kHook kK kA kE;Š .dK(bX gI(gY y.m.flatten));š bx K H;Ţ ⟨Á,?_⟩;ţ y=>PyData.eqv(dataOf(ak.zip ds)y)dx;Ť b o nb nf g=>?_;ť vJ hr.units;Ŧ ms.map(jU classes d);ŧ .ref x;Ũ ic K;ũ codes x;Ū upd H2 Tt;ū h1=>?_;Ŭ ns.map V.int;ŭ upd H a;Ů m7 H H';ů aZ L.pl T.cP T.m9;Ű w hw=>CI rx fx r fs w Å;ű ent(rawInt L)T;Ų ay 0;ų .ref T;Ŵ upd(ŭ(exc C od ų a))T ű;ŵ refusal t b;Ŷ jo X.env.cells scope.names;ŷ ⟨_,Á,Á,_,Á,?_⟩;Ÿ y.m.take i;Ź y.m.map List.length;ź vs.map toV;Ż o9 ms rows;ż mx Ó p.m;Ž envOfC d9 scope s.heap.objs.size f cd;ž ay 1;ſ aj.refl H;ϊ aD ĩ(aB(fm Ö ö rfl));ϋ aB(aX rR);ό .lst(iv(nv x.ns));ύ .cQ od í;ώ .bool(lexLt ns ms);Ϗ .Name x p;ϐ wpAny M A;ϑ upd H l;ϒ rs.map eM.m;ϓ bits.take i;ϔ .ref D;ϕ .cQ od u;ϖ .builtin id;ϗ fY m;Ϙ l x ih=>?_;ϙ b o hb e=>eb b o hb e;Ϛ vQ.map codes;ϛ ms.getD i eX;Ϝ ms.getD f eX;ϝ fV(j4(di e)(I.ok.Ad x c Ka hc));Ϟ b.map B;ϟ .lst(iv(line.take j));Ϡ .ins C dx fs;ϡ .Compare a[op][b]pos;Ϣ HT.lexLt ns ms;ϣ .ref r;Ϥ .dK[];ϥ PE X e;Ϧ ⟨?_,?_⟩;ϧ xs.map PyData.int;Ϩ upd H' Tt;ϩ x hx=>?_;Ϫ pv 6;ϫ aB(aX vp);Ϭ I.base.free b o e n hx;ϭ .ref p.a;Ϯ .error e;ϯ .cQ o đ;ϰ jW x.zs p.gB bits;ϱ g8 K C;ϲ PE X a;ϳ Inv X pins σ' H';ϴ PySem.mem_of_lookup e;ϵ ⟨_,Á,Á,_,Á,ite_yes Á ?_⟩;϶ v.gs.map cE.m;Ϸ ae(cw cB)ag;ϸ e K q=>?_;Ϲ keywordEach[]X.env;Ϻ j4(di e)I.ok.above;Àa Flags.lacks left(l.map ø)s;Àb .lst(iv(nv sames));Àc .Name x pos;Àd b hb u hu=>?_;Àe o8 sames left;Àf gv X.prog X.w;Àg fc X.prog X.w;Àh _ _ p=>Bool.noConfusion p;Ài Ķ scope f aK A outer s H E;Àj ws.getD 0[];Àk ps.map V.ref;Àl importedModules P.main.body;Àm eval e X.env;Àn c8 m.classes;Ào .tup xs;Àp .lst xs;Àq wO I hg hm;Àr jd ms rows;Às ps.zip us;Àt aY å rfl;Àu oQ look classes;Àv EK L ms classes;Àw h2=>?_;Àx H3 f=>?_;Ày z.m.take i;Àz hs.map List.length;Áa fg.zero hD;Áb eU p.eY sg⟨D,Ė same⟩;Ác cz.zero cq;Ád cK dc å bf Õ;Áe .ref y.a;Áf .ref d;Ág yC P w K mg base A outer s;Áh compEnvC scope cl C X.env;Ái I.base.keep b o e n hb hx;Áj gv P w H h a;Ák aa X.K H;Ál Dp K H;Ám upd H2 D ã;Án t.map B;Áo s1.trans s2;Áp past.map ph;Áq p.map B;Ár nv(List.range G);Ás jP Ï tE õ;Át fs.lookup f;Áu fh.map i4.m;Áv fU(eG p.m);Áw Codec.inInt 0 255;Áx eZ C p;Áy dec lf(sm b);Áz compareOp .Eq;Âa .ref l;Âb i v Tt H' hi f hT=>?_;Âc _ _ _ _ _=>c6 8 qf.nd;Âd r.map ø;Âe model P w;Âf jX rows x;Âg iV jk bf;Âh fU(eG p);Âi compareOp .NotEq;Âj bc st;Âk ba Ŀ du;Âl .int i t;Âm y hy=>?_;Ân c v hc q=>k c v ?_ q;Âo upd H0 pl ύ;Âp t.map cont;Âq start N vs;Âr some ď;Âs sJ ms m.classes d m.aq;Ât bw æ ß s;Âu ae(pv 7)ag;Âv aB(aX á);Âw .lst ys;Âx .ins C dx[];Ây i H' hi f=>?_;Âz .tup(k.map kV);Ãa rM C s.heap.objs.size;Ãb i=>bs.getD i false;Ãc b o e nb=>?_;Ãd pv 5;Ãe kHook kK kA kE;Ãf h pins s σ H Q I hw;Ãg fA P w;Ãh dec lf s;Ãi ae ÿ ag;Ãj TP X pins σ Q;Ãk PySem.W.instObj C dx;Ãl Do hr.units;Ãm .int i;Ãn jA(eG m);Ão iv part;Ãp aY ö rfl;Ãq .ref it;Ãr .dT kvs;Ãs b=>sames.getD b 0;Ãt ay 4;Ãu .lst(iv(nv bits));Ãv _ v x _=>?_;Ãw es.map bJ.row;Ãx b=>qS.contains b;Ãy b=>ml.contains b;Ãz _ _ _ _=>trivial;Äa upd H' d u;Äb uj CL CK l;Äc og rows ŏ;Äd name.map B;Äe j0 Ì p.classes ϒ;Äf j0 ms p.classes rs;Äg I1.aE.fresh(bC _);Äh I.Da hd mu;Äi .lst(iv(nv row));Äj ⟨I1.gE,?_⟩;Äk lh=>?_;Äl l s ih=>?_;Äm j y H' hj f=>?_;Än _=>rfl;Äo _ _=>False;Äp _ _ _ _ _=>pv 2;Äq tC Ŝ;Är tC œ;Äs sm b;Ät setAttr ŧ name v;Äu qs.map V.ref;Äv qm CE e;Äw ms.map PyData.int;Äx m8 p;Äy jV Ì y.m.flatten;Äz g i j;Åa eval o X.env;Åb eS q hn;Åc dec æ s;Åd dY á;Åe dY Ö;Åf compareOp op;Åg ba(ay 5)du;Åh ae Ĩ ag;Åi aY á Á;Åj Cr X pins σ tg R;Åk .ref z.a;Ål .ref lb;Åm .ref la;Ån yb L(c8 cl)d f;Åo some v;Åp fA prog w;Åq Flags.numberOf p;År DY K C CK;Ås Builtin.bitNot i;Åt .ref q;Åu .own x;Åv .cQ wa İ;Åw H2 f2=>?_;Åx upd H0 d Ϥ;Åy upd H e1 ã;Åz s1.trans s3;Æa p.eY.map ij;Æb ls.map eC.m;Æc eF aN;Æd b.ns.take j;Æe SP X pins D;Æf b o e=>dv _ e;Æg places.getD i 0;Æh gX C;Æi cK dc á Âg Õ;Æj ay 7;Æk .dK(vB[]kvs);Æl rj CV v;Æm qp CR r;Æn lj D Nx;Æo iv line;Æp c.map B;Æq .tup ys;Ær .ref pk;Æs .int 32;Æt q hq=>?_;Æu hn=>?_;Æv b o nb g=>?_;Æw H2 f=>?_;Æx vo s₁.heap H;Æy vS É;Æz upd H d ϕ;Ça s1.free hx;Çb rawInt L;Çc qh ms rows;Çd pI(rS å);Çe pA st;Çf m4 x;Çg l.map ø;Çh hb 0 v0 Å rfl;Çi gX C g;Çj fu y.m z.m;Çk fg.zero cq;Çl fb y;Çm cw cS;Çn cK dc Ö bf Õ;Ço cK Ap Ϫ bf Õ;Çp bw lf ß s;Çq bU r ta tb;Çr aB(aX å);Çs Or.inl rfl;Çt L.getD b 0;Çu K w.params;Çv I1.aE.fresh lY;Çw I.ny x c e;Çx .tup[x,y];Çy .str x;Çz .ref b.a;Èa .lst o;Èb .dT(sv[]ts);Èc y.m.getD i[];Èd tupleKind Ãg;Èe pv 7;Èf iv(nv e.row);Èg exc C od ų a;Èh compareOp .Lt;Èi .tup[kV k,v];Èj xl hr;Èk upd H D o;Èl uI p.side;Èm topStub P;Èn ns.take i;Èo ms.map sE;Èp iv(nv l);Èq fV(di e);Èr e.trans z;Ès cO ı;Èt bo hb;Èu ae Àt ag;Èv aI he;Èw .cQ od Š;Èx ⟨t1,t2,?_⟩;Èy j q' e=>?_;Èz _=>?_;Éa yW.map codes;Éb xs.map V.int;Éc upd H2 d Åv;Éd upd H' pl í;Ée tupleKind Č;Éf some u;Ég n.map B;Éh lS rows m.aq;Éi jP Ï tE Ãi;Éj bw lf ß s g;Ék argBest bt j;Él List.range n;Ém .ref e;Én .ref ap;Éo .int 8;Ép .inr Á;Éq .cQ o u"
def mX(x:Syntax)(a:Array Syntax):MacroM Syntax:=let n:=x.getId.toString;if n.front.toNat>191 then match mT tb n with
|some s=>pure (if a.isEmpty then s else if s.isOfKind (nT "app") then mP s[0] (s[1].getArgs++a) else mP s a)
|_=>Macro.throwUnsupported else Macro.throwUnsupported
def mM(p:Syntax):Syntax:=mN (nC "rcasesPatMed") #[mkNullNode #[p]]
def mE(x:Syntax):Array Syntax:=if x.isOfKind (nT "tuple") then #[x[1][0],mkAtom ","]++x[1][2].getArgs else x[1].getArgs
def mD(x:Syntax):Syntax:=if x.isOfKind (nT "tuple") then mN (nT "anonymousCtor") #[mkAtom "⟨",mkNullNode (mE x),mkAtom "⟩"] else x
def mC:Nat->Syntax->Syntax
|0,x=>x
|n+1,x=>let k s a:=mN (.str (nC "rcasesPat") s) a;if x.isIdent then k "one" #[x] else if x.getArgs.size<2 then k "ignore" #[x[0]] else k "tuple" #[mkAtom "⟨",mkNullNode ((mE x).map λy=>if y.isAtom then y else mN (nC "rcasesPatLo") #[mM (mC n y),mkNullNode]),mkAtom "⟩"]
def mK(s a:String)(x:Syntax):MacroM Syntax:=pure ((x.setKind (nC s)).setArg 0 (mkAtom a))
def mH:Nat->Syntax->Bool
|0,_=>false
|n+1,x=>x.isOfKind (nT "syntheticHole")||x.getArgs.any (mH n)
def sf:List (String×String):=[("Z","heap.objs.size"),("O","objs.size"),("U","heap.get?"),("o","heap.push"),("L","length"),("M","map"),("R","trans"),("Q","lookup"),("I","get?"),("D","getD"),("Y","contains"),("E","same"),("J","filter"),("H","heap"),("X","range"),("u","size")]
def mQ(z:Bool):Name->Name
|.str p s=>if p.isAnonymous&&z then .str p s else match sf.lookup s with|some t=>(t.splitOn ".").foldl .str (mQ z p)|_=>.str (mQ z p) s
|n=>n
def mV:Nat->Syntax->Syntax
|0,x=>x
|n+1,x=>if x.isIdent then let m:=mQ true x.getId;if m==x.getId then x else mkIdent m else if x.isOfKind (nT "proj")&&x[2].isIdent then (x.setArg 0 (mV n x[0])).setArg 2 (mkIdent (mQ false x[2].getId)) else x
def mY(x:Syntax)(a:Array Syntax):MacroM Syntax:=let y:=mV 9 x;if y==x then (if x.isIdent then mX x a else Macro.throwUnsupported) else pure (if a.isEmpty then y else mP y a)
end MP_
local macro_rules(kind:=ident)|x=>MP_.mY x #[]
local macro_rules(kind:=Lean.Parser.Term.proj)|x=>MP_.mY x #[]
local macro_rules(kind:=Lean.Parser.Term.app)|x=>MP_.mY x[0] x[1].getArgs
local macro_rules(kind:=Lean.Parser.Tactic.tacticLet__)|x=>let d:=x[2][0];if d.isOfKind (MP_.nT "letPatDecl") then pure (MP_.mN (MP_.nC "obtain") #[Lean.mkAtom "obtain",Lean.mkNullNode #[MP_.mM (MP_.mC 9 d[0])],Lean.mkNullNode,Lean.mkNullNode #[Lean.mkAtom ":=",Lean.mkNullNode #[d[4]]]]) else MP_.mK "tacticHave__" "have" x
local macro_rules(kind:=Lean.Parser.Tactic.apply)|x=>if MP_.mH 99 x then MP_.mK "refine" "refine" (x.setArg 1 (MP_.mD x[1])) else Lean.Macro.throwUnsupported
local macro_rules(kind:=Lean.Elab.Tactic.Ext.ext)|x=>pure (MP_.mN (MP_.nC "unfold") #[Lean.mkAtom "unfold",Lean.mkNullNode (x[1].getArgs.map λy=>y[0][0]),Lean.mkNullNode])
local macro_rules(kind:=Lean.Parser.Tactic.delta)|x=>MP_.mK "unfold" "unfold" x
local macro_rules|`(tactic|symm)=>`(tactic|simp_all)
local macro_rules(kind:=Lean.Parser.Tactic.exact)|x=>if x[1].isOfKind (MP_.nT "tuple") then pure (x.setArg 1 (MP_.mD x[1])) else Lean.Macro.throwUnsupported
local macro_rules(kind:=Lean.Parser.Tactic.show)|x=>match MP_.mT MP_.tb x[1].getId.toString with|some s=>pure (MP_.mN (MP_.nC "intro") #[Lean.mkAtom "intro",Lean.mkNullNode (#[s[0]]++s[1].getArgs)])|_=>Lean.Macro.throwUnsupported
set_option hygiene false
local macro_rules
|`(Γ)=>`(by k_is)
|`(Δ)=>`(by kernel_rfl)
|`(Ε)=>`(by repeat' constructor)
|`(Ä)=>`(by simp)
|`(Å)=>`(by simp_all)
|`(É)=>`(by decide+kernel)
|`(Ï)=>`(by rfl)
|`(Ð)=>`(by decide)
|`(Ù)=>`(by af)
|`(Û)=>`(s.Z+1)
|`(ß)=>`((s,B)::r)
|`(ê)=>`(cellsFrom (s3.Z+1) scope.names (jo X.env.cells scope.names []))
|`(ë)=>`((·.map B))
|`(ï)=>`(⟨λi m σ H=>m=xs.L-i/\i<=xs.L/\Pv i σ H,⟨xs.L,by simp,dj _,h0⟩,?_⟩)
|`(À $x)=>`(by simpa using $x)
local macro_rules
|`(tactic|show ì)=>`(tactic|obtain⟨f0,f1,f2,f3,f4,f5⟩:=hf it Ä)
noncomputable section
local macro_rules(kind:=Lean.Parser.Command.declaration)|x=>if (x[1][0].getAtomVal="def"||x[1][0].getAtomVal="abbrev")&&x[0].getArgs.all (·.isNone) then pure (x.setArg 0 (x[0].setArg 4 (Lean.mkNullNode #[MP_.mN `Lean.Parser.Command.noncomputable #[Lean.mkAtom "noncomputable"]]))) else Lean.Macro.throwUnsupported
namespace A_
def ah:=@if_neg
def ai:=@if_pos
def ao:=@List.length_map
def aG:=@PySem.wpAny_bind
def aL:=@List.mem_cons_of_mem
def aU:=@Option.some.inj
def a8:=@List.map_cons
def a9:=@List.mem_cons
def bo:=@List.mem_of_getElem?
def bp:=@List.getElem?_eq_some_iff
def bA:=@List.getElem?_map
def bC:=@Nat.le_refl
def bH:=@List.mem_map
def bI:=@List.map_append
def cb:=@congrArg
def ck:=@List.map_map
def cJ:=@List.getElem?_eq_getElem
def cY:=@PySem.wpAny_pure
def dh:=@List.length_cons
def di:=@PySem.Heap.lt_size
def dj:=@Nat.zero_le
def dv:=@PySem.Heap.get?_push_of_some
def eF:=@Ne.symm
def eO:=@Bool.false_ne_true
def eP:=@List.mem_cons_self
def eQ:=@decide_eq_true
def fw:=@List.mem_append
def fV:=@Nat.ne_of_lt
def gq:=@Nat.le_trans
def gr:=@List.sum_cons
def gD:=@decide_eq_false
def ib:=@PySem.Heap.get?_push_size
def ik:=@List.getD_eq_getElem?_getD
def il:=@List.length_range
def iA:=@List.mem_filter
def iS:=@List.length_take
def iT:=@List.mem_singleton
def iU:=@List.map_congr_left
def i5:=@List.take_length
def jh:=@List.mem_flatMap
def jE:=@PySem.wpAny_mono
def jF:=@PySem.wpAny_loadPart'
def jG:=@List.append_nil
def jH:=@Bool.and_eq_true
def jI:=@List.all_eq_true
def jJ:=@PySem.PassesOwn.never
def j4:=@Nat.lt_of_lt_of_le
def j5:=@List.length_append
def kY:=@PySem.Heap.get?_update_other
def kZ:=@List.nodup_cons
def k7:=@List.not_mem_nil
def k8:=@or_false
def lZ:=@decide_eq_true_eq
def l5:=@List.find?_cons
def mJ:=@Bool.false_and
def mO:=@List.map_nil
def mQ:=@of_decide_eq_true
def nr:=@Nat.lt_irrefl
def nt:=@List.getElem_of_mem
def nu:=@Bool.true_and
def qx:=@PySem.Heap.size_push
def qy:=@Bool.eq_iff_iff
def qz:=@Nat.lt_of_le_of_lt
def rH:=@List.mem_append_right
def rJ:=@List.all_map
def rK:=@List.append_assoc
def rL:=@List.filter_cons
def tm:=@List.length_nil
def tp:=@Nat.le_of_lt
def tq:=@PySem.wpAny_truthy_bool
def tu:=@List.all_cons
def tw:=@List.any_eq_true
def tF:=@Bool.and_eq_true_iff
def u4:=@Option.map_eq_some_iff
def u5:=@PySem.wpAny_loadPart_at
def u6:=@Nat.ne_of_gt
def u7:=@PySem.Heap.get?_update_self
def u9:=@List.mem_range
def va:=@List.size_toArray
def vb:=@List.any_cons
def vc:=@PySem.plainId_quiet
def vd:=@Nat.zero_add
def wC:=@PySem.Obj.data_mapFields
def wD:=@PySem.wpAny_field
def wH:=@List.mem_append_left
def wI:=@List.flatMap_append
def wJ:=@List.filter_map
def yg:=@PySem.codeAny_mono
def yh:=@PySem.sizeLine_eq
def yi:=@Array.length_toList
def yj:=@beq_eq_false_iff_ne
def yk:=@List.lookup_cons
def yl:=@List.getElem?_eq_none
def ym:=@List.ext_getElem?
def yn:=@Nat.pow_le_pow_right
def zT:=@beq_iff_eq
def zU:=@PySem.wpAny_Call_Name_kw
def zV:=@List.zip_cons_cons
def zW:=@Bool.and_false
def zX:=@List.range_succ_eq_map
def zY:=@List.mem_of_mem_take
def zZ:=@PyProof.Rows.boot_all
def z4:=@List.mem_map_of_mem
def z5:=@Nat.pow_succ
def z6:=@List.nil_append
def z7:=@List.nodup_nil
def z8:=@List.flatMap_cons
def z9:=@Nat.testBit_and
def BR:=@List.contains_cons
def BS:=@Array.getElem?_eq_some_iff
def BU:=@PySem.wpAny_seqItems
def BV:=@Int.toNat_natCast
def BW:=@List.filterMap_cons
def BX:=@PySem.wpAny_passesOwn
def BY:=@PySem.codeAny_builtin
def BZ:=@PySem.Around.under_plainId
def B0:=@PySem.F.plain_min_loop
def B1:=@List.getLast?_append
def B3:=@List.dropLast_subset
def B4:=@List.length_filter_le
def B5:=@List.contains_iff_mem
def B6:=@Nat.testBit_lt_two_pow
def B7:=@List.filter_cons_of_pos
def B8:=@List.filter_cons_of_neg
def Fc:=@PySem.wpAny_holding
def Fd:=@PySem.wpAny_call
def Fe:=@PySem.wpAny_setField
def Ff:=@Nat.le_of_eq
def Fg:=@PySem.wpAny_execs_nil
def Fh:=@PyProof.Rows.callWith_type1
def Fi:=@PySem.Calls.spliced_cons
def Fj:=@Nat.le_succ
def Fk:=@List.getElem?_append_left
def Fl:=@if_true
def Fm:=@Nat.lt_succ_of_lt
def Fn:=@Option.isSome_map
def Fo:=@PySem.tupleKind_room_in1
def Fp:=@PySem.call_meetsIn
def Fq:=@PySem.wpAny_updateSeq
def Fs:=@List.mem_of_getLast?
def Ft:=@List.filter_append
def Fu:=@List.sum_append
def Fv:=@List.foldl_cons
def Fw:=@Classical.byContradiction
def Fx:=@Option.bind_some
def Jy:=@PySem.wpAny_newObj_type
def Jz:=@PySem.Obj.isFreed_of_fields
def JA:=@List.mem_filterMap
def JB:=@List.of_mem_zip
def JC:=@Option.isSome_iff_exists
def JD:=@PySem.Calls.callWith_builtin
def JE:=@PySem.call_meets
def JF:=@List.take_of_length_le
def JG:=@List.any_map
def JH:=@Option.map_some
def JI:=@Nat.lt_trans
def JJ:=@PySem.wpAny_Call_method
def JK:=@PySem.wpAny_tryCatch
def JL:=@Bool.and_self
def JN:=@PySem.wpAny_letGo
def JO:=@List.mapM_cons
def JP:=@List.getLast?_singleton
def JQ:=@decide_eq_false_iff_not
def JR:=@List.range_succ
def JS:=@List.pairwise_cons
def JT:=@List.pairwise_map
def JU:=@List.getElem?_zip_eq_some
def JV:=@decide_eq_decide
def JW:=@Int.le_refl
def JX:=@List.filter_congr
def Rw:=@PySem.wpAny_isSubtype_exc
def Rx:=@PySem.F.slot_tuple_iterator_next
def Ry:=@PySem.wpAny_rule
def Rz:=@PySem.Heap.get?_none_of_le
def RA:=@PySem.wpAny_pyIter_list
def RB:=@Nat.lt_succ_self
def RC:=@PySem.Calls.spliced_nil
def RD:=@List.getElem?_append_right
def RE:=@PySem.richCompare_meets_room
def RF:=@PySem.Calls.evalArgs_plain
def RG:=@PySem.pushCells_keeps
def RH:=@Nat.le_of_succ_le
def RI:=@PySem.wpAny_standAt
def RJ:=@Bool.false_eq_true
def RK:=@if_false
def RL:=@Bool.false_or
def RM:=@PySem.wpAny_typeOf
def RN:=@PySem.wpAny_pyIter_enum
def RO:=@PySem.SeqAt.canLay_of_shaped
def RP:=@List.nodup_append
def RQ:=@Nat.add_zero
def RR:=@List.length_eq_zero_iff
def RS:=@List.map_drop
def RT:=@List.take_append_drop
def RU:=@List.take_succ_cons
def RV:=@List.findIdx?_eq_some_iff_getElem
def RW:=@Nat.min_eq_left
def RX:=@List.getElem?_range
def RY:=@Bool.and_true
def RZ:=@List.map_eq_nil_iff
def R1:=@Int.natCast_nonneg
def R3:=@List.mem_flatten
def R4:=@Int.zero_add
def R7:=@List.flatten_cons
def R8:=@List.nodup_range
def R9:=@Bool.not_not
def Sa:=@List.flatMap_map
def Sb:=@List.map_flatMap
def Sd:=@decide_eq_true_iff
def Se:=@List.length_flatten
def aaT:=@PySem.wpAny_typeLookup_exc
def aaU:=@Bool.or_true
def aaV:=@PySem.Obj.cls_mapFields
def aaW:=@PySem.wpAny_pyIter_tuple
def aaX:=@List.getElem_inj
def aaY:=@List.getElem?_set_self
def aaZ:=@List.getElem?_set_ne
def aa2:=@PySem.wpAny_execs_cons
def aa4:=@PySem.plainObj_wpAny_Assign_Attribute
def aa5:=@List.getElem?_take_of_lt
def aa7:=@List.length_drop
def aa8:=@Array.getElem?_toList
def aa9:=@List.length_dropLast
def abb:=@PySem.Heap.DictOf.new
def abc:=@Nat.add_le_add_left
def abd:=@List.getElem_range
def abe:=@List.getElem?_drop
def abf:=@PySem.wpAny_ite_split
def abg:=@Bool.or_false
def abh:=@PySem.F.entry_min_loop
def abj:=@List.mem_of_mem_drop
def abl:=@List.map_take
def abm:=@beq_self_eq_true
def abn:=@List.findIdx?_cons
def abo:=@List.drop_zero
def abp:=@Function.comp_apply
def abq:=@List.exists_cons_of_length_eq_add_one
def abr:=@Nat.succ.inj
def abt:=@List.Sublist.refl
def abu:=@List.filterMap_append
def abv:=@List.zip_append
def abw:=@List.drop_eq_nil_of_le
def abx:=@List.map_id'
def aby:=@Nat.add_comm
def abz:=@List.zip_map_right
def abA:=@Nat.eq_of_testBit_eq
def abB:=@List.mem_eraseDups
def abC:=@Nat.testBit_two_pow_add_gt
def abD:=@Nat.testBit_two_pow_add_eq
def abE:=@Nat.two_pow_pos
def abF:=@List.filter_sublist
def abG:=@List.length_singleton
def abH:=@Nat.lt_trichotomy
def abI:=@Function.comp_def
def abJ:=@PySem.W.Codec.inNat_iff
def atm:=@PySem.F.entry_tuple_iterator_next
def atn:=@PySem.F.args_tuple_iterator_next_1
def att:=@PySem.Calls.Name_function_global
def atA:=@PyProof.Rows.callWith_builtin1
def atD:=@PySem.AutoSeq1.sub_tuple_tuple
def atG:=@Option.isSome_some
def atH:=@Array.getElem?_eq_none
def atL:=@List.getElem?_cons_zero
def atN:=@List.getElem?_cons_succ
def atR:=@PySem.wpAny_letOwnedTupleGo_enum
def atV:=@of_decide_eq_false
def atZ:=@List.getLast?_eq_none_iff
def at0:=@List.filter_eq_nil_iff
def at1:=@List.pairwise_filter
def at3:=@List.flatten_append
def at5:=@List.Sublist.nodup
def at6:=@Nat.mul_le_mul_right
def at8:=@Nat.and_one_is_mod
def at9:=@Nat.testBit_two_pow_self
def aua:=@Classical.not_forall
def aub:=@List.find?_cons_of_neg
def auc:=@Nat.pos_of_ne_zero
def aud:=@List.pairwise_lt_range
def aue:=@List.dropLast_concat
def auh:=@Nat.lt_or_eq_of_le
def aui:=@List.filterMap_eq_nil_iff
def auj:=@List.zipIdx_append
def auk:=@List.length_flatMap
def aul:=@List.sublist_cons_iff
def aum:=@List.pairwise_append
end A_
open A_
namespace OH
open PySem PySem.Calls PySem.W PyProof.Rows
def runT(j:String->Option Builtin)(P:Program)(W:World)(m:Nat)(q:Option Value):Nat->SharedT->Thread->Option SharedT
 |0,_,_=>none
 |k+1,x,y=>match through y with
  |true=>some x
  |false=>match stepOk m q y with
   |false=>none
   |true=>match stepT (denote j) P W x y with
    |some z=>runT j P W m q k z.1 z.2
    |none=>none
theorem abK{j:String->Option Builtin}{P:Program}{W:World}{m:Nat}{q:Option Value}:∀(k:Nat)(x z:SharedT)(y:Thread),runT j P W m q k x y=Α z->topRun j P W m q k x.abs y=Α z.abs:=by
 intro k;induction k with
 |zero=>intro x z y h;cases h
 |succ k F=>
  intro x z y h;delta runT at h;ext topRun;cases e1:through y with
  |true=>
   rw[e1] at h;cases h;rfl
  |false=>
   rw[e1] at h;cases e2:stepOk m q y with
   |false=>rw[e2] at h;cases h
   |true=>
    rw[e2] at h;dsimp only at h⊢;cases e3:stepT (denote j) P W x y with
    |none=>rw[e3] at h;cases h
    |some v=>
     rw[e3] at h;rw[stepT_spec (s':=v.1) (t':=v.2) e3];exact F _ _ _ h
def treeOf(l:List Obj):BT:=(l.foldl (λ(x:BT×Nat)o=>(x.1.ins x.2 o,x.2+1)) (.nil,0)).1
def startT (W:World) (O:OsState):SharedT:=⟨treeOf (boot_heap W.params).objs.toList,(boot_heap W.params).objs.toList.length,(boot_heap W.params).life,Array.mk [],boot_drawn,boot_toks,O⟩
def Aa (W:World) (O:OsState):Shared:=⟨boot_heap W.params,Array.mk [],boot_drawn,boot_toks,O⟩
def abL(W:World)(O:OsState):(startT W O).abs=Aa W O:=by
 kernel_rfl
def keptAt (P:Program) (W:World) (x:Shared):Bool:=staticsOk Àl (boot_heap W.params) x.H&&namesBound P x.H&&gensDone x&&laidKept (boot_heap W.params) x.H
def looksAt (P Q:Program) (lo:List Str) (Xt:Shared->Bool) {α:Type} (Yf:Shared->α) (W:World) (x:Shared):=
 (keptAt P W x,openSeen Q lo Àl Xt true x,Yf x)
def abM{P:Program}{W:World}{N m:Nat}{q:Option Value}{O:OsState}{z:Shared}(j:((boot_heap W.params).isNs mainGlobals,(boot_heap W.params).O,(boot_heap W.params).nsMap mainGlobals "__annotations__")=(true,m,q))(run:topRun treeTable P W m q N (Aa W O) Èm=Α z) (kept:keptAt P W z=true):topFrom treeTable P W N (Aa W O)=Α z:=by
 let F:(boot_heap W.params).isNs mainGlobals=true:=cb Prod.fst j;let J:(boot_heap W.params).O=m:=cb (λx=>x.2.1) j;let M:(boot_heap W.params).nsMap mainGlobals "__annotations__"=q:=cb (λx=>x.2.2) j;subst J;subst M;let g:((Aa W O).H.isNs mainGlobals&&(Aa W O).gens.size==0)=true:=by
  show((boot_heap W.params).isNs mainGlobals&&true)=true;rw[F];rfl
 ext topFrom;rw[g];show(topRun treeTable P W (boot_heap W.params).O ((boot_heap W.params).nsMap mainGlobals "__annotations__") N (Aa W O) Èm).bind _=Α z;rw[run];show(match keptAt P W z with|true=>some z|false=>none)=Α z;rw[kept]
def abN{P Q:Program}{lo:List Str}{Xt:Shared->Bool}{α:Type}{Yf:Shared->α}{Ya:World->α}{N:Nat}{m:Nat}{q:Option Value}{M:Nat}(e:opening P=plainProg P.main.scope.names) (hN:Nat.ble 600 N=true) (f:∀s,fenceModules? P s=Α s)(j:∀W:World,((boot_heap W.params).isNs mainGlobals,(boot_heap W.params).O,(boot_heap W.params).nsMap mainGlobals "__annotations__")=(true,m,q))(le:Nat.ble M N=true)(fin:∀(W:World)(O:OsState),(runT treeTable P W m q M (startT W O) Èm).M (λs=>looksAt P Q lo Xt Yf W s.abs)=Α (true,openGood Q lo,Ya W)):LeftO P Q lo Xt Yf Ya N:=by
 intro W;let((h,gs,d,k,O),o1,o2):=u4.mp (boot_open e hN f W);cases o2;let(z,r1,F):=u4.mp (fin W O);let J:=abK _ _ _ _ r1;rw[abL] at J;let U:=topRun_mono (N-M) _ _ _ _ J;let hM:M+(N-M)=N:=Nat.add_sub_cancel' (Nat.le_of_ble_eq_true le);rw[hM] at U;let Y:keptAt P W z.abs=true:=cb Prod.fst F;let Z:(openSeen Q lo Àl Xt true z.abs,Yf z.abs)=(openGood Q lo,Ya W):=cb Prod.snd F;let t:topFrom treeTable P W N ⟨boot_heap W.params,Array.mk [],boot_drawn,boot_toks,O⟩=Α z.abs:=abM (j W) U Y;ext openEnds;rw[o1];show Option.map _ (topFrom treeTable P W N ⟨boot_heap W.params,Array.mk [],boot_drawn,boot_toks,O⟩)=_;rw[t];exact cb some Z
lay_quick OH.runT
def abO(W:World):((boot_heap W.params).isNs mainGlobals,(boot_heap W.params).O,(boot_heap W.params).nsMap mainGlobals "__annotations__")=(true,11,some (.ref 6)):=by
 kernel_rfl
def abP{P Q:Program}{lo:List Str}{Xt:Shared->Bool}{α:Type}{Yf:Shared->α}{Ya:World->α}{N:Nat}(e:opening P=plainProg P.main.scope.names) (j:Nat.ble 600 N=true) (f:∀s,fenceModules? P s=Α s)(fin:∀(W:World)(O:OsState),(PySem.W.Fast.tw1264388230241321415 PySem.W.Fast.tw14364793385576792824 P W 11 (some (.ref 6)) N (startT W O) Èm).M (λs=>looksAt P Q lo Xt Yf W s.abs)=Α (true,openGood Q lo,Ya W)):LeftO P Q lo Xt Yf Ya N:=
 abN e j f abO (Nat.ble_eq_true_of_le (bC N)) λW O=>by
  rw[PySem.W.Fast.te1264388230241321415,PySem.W.Fast.te14364793385576792824];exact fin W O
end OH
namespace L2
open PySem PySem.Spec PyProof.Rows
def inClass(s:Stmt)(j:Nat):Stmt:=match s with
 |.ClassDef _ _ _ pz _ _ _ _ _ _ _=>pz.D j (.Pass ⟨0,0,0,0⟩)
 |_=>.Pass ⟨0,0,0,0⟩
def ve(s:Stmt):Arguments:=match s with
 |.FunctionDef _ a _ _ _ _ _ _ _ _=>a
 |_=>{posonlyargs:=[],args:=[],vararg:=Β,kwonlyargs:=[],kw_defaults:=[],kwarg:=Β,defaults:=[]}
def pA(s:Stmt):List Stmt:=match s with
 |.FunctionDef _ _ b _ _ _ _ _ _ _=>b
 |_=>[]
def bc(s:Stmt):Scope:=match s with
 |.FunctionDef _ _ _ _ _ _ sc _ _ _=>sc
 |_=>{kind:=.function,names:=[],isGenerator:=false,isCoroutine:=false}
end L2
namespace HD
open PySem PySem.Spec PyProof.Rows L2
def top(i:Nat):Stmt:=PySem.Challenge.pw_halfseendesk_s06_ask.main.body.getD i (.Pass ⟨0,0,0,0⟩)
@[reducible]def kf(n q:Str)(st:Stmt)(m c:Value):Obj:=⟨.type "function",none,.func (PySem.W.fnOf n q (ve st) Çe Âj .none .none .none m none c .none),#[]⟩
@[reducible]def ke(P:Params)(x:Str)(t:Nat)(v:Value):DictEntry:=⟨PyData.keyHash P x,.str x t,v⟩
@[reducible]def kc(n q:Str)(t:Nat)(l c:Int)(r:Nat)(x y:Value)(e:Nat)(d:Nat):Obj:=⟨.type "code",none,.fields #[.str n t,.str q (t+1),.str "/claim/cut.py" (t+2),.int l 0,.int c 0,.int 0 0,.int 0 0,.int 3 0,.ref r,.bool true,.int 181 0,.ref (r+1),.none,x,y,.ref e,.int d 0,.int l 0,.str "/claim/cut.py" (d+1)],#[]⟩
@[reducible]def kd(n:Str)(t:Nat)(l c:Int)(r:Nat)(x y:Value)(e:Nat)(d:Nat):Obj:=kc n n t l c r x y e d
@[reducible]def km(t:Nat):Str:=if t=187 then "halfseendesk.looks" else if t=214 then "halfseendesk.texts" else if t=292 then "halfseendesk.lockers" else if t=470 then "halfseendesk.platetexts" else if t=712 then "halfseendesk.sights" else if t=796 then "halfseendesk.asking" else if t=984 then "halfseendesk.displays" else if t=1092 then "halfseendesk.books" else if t=1232 then "halfseendesk.readings" else "halfseendesk.plates"
@[reducible]def kg(n:Str)(i t r:Nat):Obj:=kf n n (top i) (.str (km t) t) ϣ
@[reducible]def kr(P:Params)(x:Str)(t r:Nat):DictEntry:=ke P x t ϣ
@[reducible]def ki(P:Params)(x:Str)(v:Int)(t:Nat):DictEntry:=ke P x (t+1) (.int v t)
@[reducible]def kx(P:Params)(a m:Nat)(l:Int)(e r f:Nat):Obj:=⟨.type "dict",none,.dict #[ke P "__module__" a (.str (km m) m),ke P "__firstlineno__" (a+4) (.int l (a+3)),kr P "__init__" e r,kr P "__static_attributes__" f (r+1),kr P "__dict__" (f+2) (r+4),kr P "__weakref__" (f+4) (r+5),ke P "__doc__" (f+5) .none] 4,#[]⟩
@[reducible]def ky(P:Params)(a m:Nat)(l:Int)(r:Nat):Obj:=⟨.type "dict",none,.dict #[ke P "__module__" a (.str (km m) m),ke P "__firstlineno__" (a+4) (.int l (a+3)),kr P "__static_attributes__" (a+5) r,kr P "__weakref__" (a+7) (r+3),ke P "__doc__" (a+8) .none] 3,#[]⟩
@[reducible]def kt(n:Str)(r s t:Nat):Obj:=⟨.type "type",none,.cls ⟨n,[.type "object"],[.ref r,.type "object"],s,n,true,[],[],false,none,false⟩,#[none,none,some (.str n t),some (.str n (t+8)),some (.builtin "object.__new__"),some (.bool true)]⟩
@[reducible]def ku(n:Str)(r s x t:Nat):Obj:=⟨.type "type",none,.cls ⟨n,[.type "Exception"],[.ref r,.type "Exception",.type "BaseException",.type "object"],s,n,true,[],[],false,none,false⟩,#[some ŧ,none,some (.str n t),some (.str n (t+8)),some (.builtin "Exception.__new__"),some (.bool true)]⟩
@[reducible]def kj(q:Str)(i t r:Nat):Obj:=kf "__init__" q (inClass (top i) 0) (.str (km t) t) ϣ
@[reducible]def kh(q:Str)(t:Nat)(l c:Int)(r:Nat)(x y:Value)(e:Nat)(d:Nat):Obj:=kc "__init__" q t l c r x y e d
@[reducible]def kv(n:Str)(t:Nat)(l c:Int)(r d:Nat):Obj:=kd n t l c r (.ref (r+2)) (.ref (r+3)) (r+4) d
@[reducible]def kn(n:Str)(t:Nat)(l c:Int)(r d:Nat):Obj:=kh n t l c r (.ref (r+2)) (.ref (r+3)) (r+4) d
@[reducible]def kw(n:Str)(t:Nat)(l c:Int)(r d:Nat):Obj:=kd n t l c r .none .none (r+2) d
local macro_rules(kind:=Lean.Parser.Term.tuple)|x=>if x[1][0].isOfKind Lean.numLitKind then pure (x.setArg 1 (x[1].setArg 0 (MP_.mN `rawNatLit #[Lean.mkAtom "nat_lit",x[1][0]]))) else Lean.Macro.throwUnsupported
def kK (P:Params):PySem.W.Frag:=
 (3,⟨(.type "dict"),none,(.dict #[ke P "__name__" 165 (.str "halfseendesk.plates" 1323),ke P "__doc__" 166 .none,ke P "__package__" 167 .none,ke P "__loader__" 168 (.builtin "__main__.__loader__#opaque"),ke P "__spec__" 169 .none,kr P "__annotations__" 170 6,kr P "__builtins__" 171 4,ke P "__file__" 173 (.str "/claim/cut.py" 172),ke P "__cached__" 174 .none,kr P "SHAPES" 192 15,ki P "FRONT" 0 193,ki P "BEHIND" 1 195,ki P "CELLS" 16 197,ki P "ROW" 4 199,kr P "cell_behind" 207 22,kr P "cells_seen" 213 27,ki P "MOST_BYTES" 65536 216,ki P "LINE_END" 10 218,ki P "BLANK" 32 220,ke P "COLOUR_SIGNS" 223 (.str "0123456789abcdef" 222),ke P "NAME_SIGNS" 225 (.str "ABCDEFGHIJKLMNOPQRSTUVWXYZ0123456789" 224),ki P "LONGEST_NAME" 8 226,kr P "spelled" 233 32,kr P "cut" 243 39,kr P "whole_lines" 252 46,kr P "place_among" 262 53,kr P "places_in" 268 58,kr P "read_colours" 275 65,kr P "is_name" 282 72,kr P "name_behind" 291 79,ki P "SIGN" 0 294,ki P "SAME" 1 296,kr P "ROLES" 301 80,kr P "WORDS_OF_ROLES" 305 81,ki P "MOST_COPIES" 8 306,ki P "MOST_SAME" 4 308,ki P "MOST_SIGNS" 48 310,ki P "DIGIT_ZERO" 48 312,kr P "NoLocker" 333 91,kr P "Kind" 372 111,kr P "Locker" 403 132,kr P "read_locker" 409 141,kr P "read_name" 416 148,kr P "read_digit" 424 155,kr P "read_kind" 438 162,kr P "are_in_order" 444 687,kr P "are_in_order_lockers" 445 167,kr P "may_follow" 453 174,kr P "are_different" 459 179,kr P "has_twice" 465 184,ki P "MOST_HOISTS" 4 466,ki P "MOST_FLAGS" 8 468,kr P "SIDES" 475 185,ki P "UNKNOWN_SIDE" 2 476,kr P "HOIST_LINES" 482 186,kr P "SEEN_SHAPES" 487 187,ke P "SEEN_SIGNS" 489 (.str "0123456789abcdef?" 488),ki P "UNSEEN_SHAPE" 3 490,ki P "UNSEEN_CELL" 16 492,ki P "SIDE_LINE" 0 494,ki P "HOIST_LINE" 1 496,ki P "SHAPE_LINE" 2 498,ki P "CELLS_LINE" 3 500,ki P "NO_SUCH_LINE" 1 502,ki P "WRONG_PLACE" 2 504,kr P "NoPlate" 536 204,kr P "Sighting" 567 224,kr P "Glimpse" 600 245,kr P "Plate" 633 266,kr P "read_plate" 646 277,kr P "read_line" 656 284,kr P "read_side" 666 291,kr P "read_row" 673 298,kr P "may_stand" 681 305,kr P "lacks_flags" 688 312,kr P "lacks_cells" 695 319,kr P "has_whole_hoists" 702 326,kr P "put" 711 333,kr P "sighting_of" 722 340,kr P "View" 753 357,kr P "view_of" 759 366,kr P "kinds_along" 765 371,kr P "kinds_that_look_so" 771 376,kr P "may_be" 777 381,kr P "fits" 783 386,kr P "hoist_fits" 789 391,kr P "fits_at" 795 396,ki P "MOST_FLAGS_ASKED" 12 798,ki P "MOST_READINGS_ASKED" 64 800,kr P "CutOff" 821 406,kr P "NoReading" 841 419,kr P "TooMuchToAsk" 861 432,kr P "NeverSettled" 881 445,kr P "Appearance" 912 465,kr P "fewest_flags" 918 474,kr P "bits_of_flags" 924 479,kr P "appearances_of" 936 486,kr P "flags_seen" 942 491,kr P "differences_among" 954 498,kr P "difference" 960 503,kr P "choices_of" 966 508,kr P "settles" 975 515,kr P "how_many" 983 522,kr P "Plan" 1018 539,kr P "display_told" 1024 548,kr P "copies_lacking" 1030 553,kr P "sames_along" 1036 558,kr P "bits_of_sames" 1042 563,kr P "places_of" 1055 570,kr P "plan_of" 1061 575,kr P "places_outside" 1067 580,kr P "copies_in" 1073 585,kr P "hoist_told" 1079 590,kr P "flag_told" 1085 595,kr P "hang" 1091 600,ki P "TITLE_LINES" 2 1094,ki P "MOST_ENTRIES" 2048 1096,ki P "LONGEST_MEANING" 64 1098,ki P "FULL_STOP" 46 1100,ki P "LAST_PRINTED" 126 1102,kr P "NoBook" 1123 610,kr P "Entry" 1154 630,kr P "Book" 1185 651,kr P "read_book" 1191 660,kr P "numbers_of_signs" 1197 665,kr P "read_entry" 1206 672,kr P "read_signs" 1212 677,kr P "read_meaning" 1218 682,kr P "are_in_order_books" 1225 687,kr P "can_be_shown" 1231 692,ki P "MOST_IN_DOUBT" 1024 1234,kr P "TooMuchInDoubt" 1255 702,kr P "Reading" 1288 722,kr P "readings_of" 1294 731,kr P "entries_in_doubt" 1300 736,kr P "product" 1309 743,kr P "all_rows" 1315 748,kr P "sides_of" 1322 755,kr P "Finding" 1359 772,kr P "ask" 1368 783,kr P "ask_told" 1376 790,kr P "answered" 1387 797,kr P "found" 1399 804] 143),#[]⟩)::
 (15,⟨(.type "tuple"),none,(.seq #[(.str "square" 189),(.str "tails" 190),(.str "long" 191)] 0),#[]⟩)::
 (21,kv "cell_behind" 201 7 1 16 205)::
 (22,kg "cell_behind" 6 187 21)::
 (26,kw "cells_seen" 208 9 3 23 211)::
 (27,kg "cells_seen" 7 187 26)::
 (31,kw "spelled" 228 20 1 28 231)::
 (32,kg "spelled" 15 214 31)::
 (38,kv "cut" 234 22 2 33 241)::
 (39,kg "cut" 16 214 38)::
 (45,kv "whole_lines" 244 30 1 40 250)::
 (46,kg "whole_lines" 17 214 45)::
 (52,kv "place_among" 253 34 2 47 260)::
 (53,kg "place_among" 18 214 52)::
 (57,kw "places_in" 263 39 2 54 266)::
 (58,kg "places_in" 19 214 57)::
 (64,kv "read_colours" 269 44 1 59 273)::
 (65,kg "read_colours" 20 214 64)::
 (71,kv "is_name" 276 48 1 66 280)::
 (72,kg "is_name" 21 214 71)::
 (78,kv "name_behind" 283 50 2 73 289)::
 (79,kg "name_behind" 22 214 78)::
 (80,⟨(.type "tuple"),none,(.seq #[(.str "sign" 298),(.str "same" 299),(.str "answer" 300)] 0),#[]⟩)::
 (81,⟨(.type "tuple"),none,(.seq #[(.int 5 302),(.int 5 303),(.int 4 304)] 0),#[]⟩)::
 (90,ky P 321 292 64 89)::
 (91,ku "NoLocker" 91 90 82 314)::
 (107,kn "Kind.__init__" 346 68 7 102 356)::
 (108,kj "Kind.__init__" 33 292 107)::
 (110,kx P 341 292 66 358 108 365)::
 (111,kt "Kind" 111 110 334)::
 (128,kn "Locker.__init__" 385 77 3 123 391)::
 (129,kj "Locker.__init__" 34 292 128)::
 (131,kx P 380 292 75 393 129 396)::
 (132,kt "Locker" 132 131 373)::
 (140,kw "read_locker" 404 80 1 137 407)::
 (141,kg "read_locker" 35 292 140)::
 (147,kv "read_name" 410 89 1 142 414)::
 (148,kg "read_name" 36 292 147)::
 (154,kv "read_digit" 417 93 2 149 422)::
 (155,kg "read_digit" 37 292 154)::
 (161,kv "read_kind" 425 97 1 156 436)::
 (162,kg "read_kind" 38 292 161)::
 (166,kw "are_in_order" 439 110 1 163 442)::
 (167,kg "are_in_order" 39 292 166)::
 (173,kv "may_follow" 446 116 2 168 451)::
 (174,kg "may_follow" 41 292 173)::
 (178,kw "are_different" 454 120 1 175 457)::
 (179,kg "are_different" 42 292 178)::
 (183,kw "has_twice" 460 124 1 180 463)::
 (184,kg "has_twice" 43 292 183)::
 (185,⟨(.type "tuple"),none,(.seq #[(.str "front" 472),(.str "behind" 473),(.str "unknown" 474)] 0),#[]⟩)::
 (186,⟨(.type "tuple"),none,(.seq #[(.str "hoist" 478),(.str "hoist above" 479),(.str "hoist below" 480),(.str "hoist above below" 481)] 0),#[]⟩)::
 (187,⟨(.type "tuple"),none,(.seq #[(.str "square" 483),(.str "tails" 484),(.str "long" 485),(.str "shape?" 486)] 0),#[]⟩)::
 (200,kn "NoPlate.__init__" 518 144 3 195 524)::
 (201,kj "NoPlate.__init__" 60 470 200)::
 (203,⟨(.type "dict"),none,(.dict #[ke P "__module__" 513 (.str "halfseendesk.platetexts" 470),ke P "__firstlineno__" 517 (.int 142 516),ke P "__init__" 526 (.ref 201),ke P "__static_attributes__" 529 (.ref 202),ke P "__weakref__" 531 (.ref 205),ke P "__doc__" 532 .none] 3),#[]⟩)::
 (204,ku "NoPlate" 204 203 188 506)::
 (220,kn "Sighting.__init__" 549 150 3 215 555)::
 (221,kj "Sighting.__init__" 61 470 220)::
 (223,kx P 544 470 148 557 221 560)::
 (224,kt "Sighting" 224 223 537)::
 (241,kn "Glimpse.__init__" 580 155 4 236 587)::
 (242,kj "Glimpse.__init__" 62 470 241)::
 (244,kx P 575 470 153 589 242 593)::
 (245,kt "Glimpse" 245 244 568)::
 (262,kn "Plate.__init__" 613 161 4 257 620)::
 (263,kj "Plate.__init__" 63 470 262)::
 (265,kx P 608 470 159 622 263 626)::
 (266,kt "Plate" 266 265 601)::
 (276,kv "read_plate" 634 165 1 271 644)::
 (277,kg "read_plate" 64 470 276)::
 (283,kv "read_line" 647 181 1 278 654)::
 (284,kg "read_line" 65 470 283)::
 (290,kv "read_side" 657 187 1 285 664)::
 (291,kg "read_side" 66 470 290)::
 (297,kv "read_row" 667 196 1 292 671)::
 (298,kg "read_row" 67 470 297)::
 (304,kv "may_stand" 674 200 2 299 679)::
 (305,kg "may_stand" 68 470 304)::
 (311,kv "lacks_flags" 682 208 1 306 686)::
 (312,kg "lacks_flags" 69 470 311)::
 (318,kv "lacks_cells" 689 210 1 313 693)::
 (319,kg "lacks_cells" 70 470 318)::
 (325,kv "has_whole_hoists" 696 214 1 320 700)::
 (326,kg "has_whole_hoists" 71 470 325)::
 (332,kv "put" 703 216 3 327 709)::
 (333,kg "put" 72 470 332)::
 (339,kv "sighting_of" 714 227 3 334 720)::
 (340,kg "sighting_of" 74 712 339)::
 (353,kn "View.__init__" 735 231 3 348 741)::
 (354,kj "View.__init__" 75 712 353)::
 (356,kx P 730 712 229 743 354 746)::
 (357,kt "View" 357 356 723)::
 (365,kw "view_of" 754 234 3 362 757)::
 (366,kg "view_of" 76 712 365)::
 (370,kw "kinds_along" 760 237 2 367 763)::
 (371,kg "kinds_along" 77 712 370)::
 (375,kw "kinds_that_look_so" 766 239 2 372 769)::
 (376,kg "kinds_that_look_so" 78 712 375)::
 (380,kw "may_be" 772 241 2 377 775)::
 (381,kg "may_be" 79 712 380)::
 (385,kw "fits" 778 245 3 382 781)::
 (386,kg "fits" 80 712 385)::
 (390,kw "hoist_fits" 784 247 3 387 787)::
 (391,kg "hoist_fits" 81 712 390)::
 (395,kw "fits_at" 790 252 3 392 793)::
 (396,kg "fits_at" 82 712 395)::
 (405,ky P 809 796 257 404)::
 (406,ku "CutOff" 406 405 397 802)::
 (418,ky P 829 796 259 417)::
 (419,ku "NoReading" 419 418 410 822)::
 (431,ky P 849 796 261 430)::
 (432,ku "TooMuchToAsk" 432 431 423 842)::
 (444,ky P 869 796 263 443)::
 (445,ku "NeverSettled" 445 444 436 862)::
 (461,kn "Appearance.__init__" 894 267 3 456 900)::
 (462,kj "Appearance.__init__" 90 796 461)::
 (464,kx P 889 796 265 902 462 905)::
 (465,kt "Appearance" 465 464 882)::
 (473,kw "fewest_flags" 913 270 3 470 916)::
 (474,kg "fewest_flags" 91 796 473)::
 (478,kw "bits_of_flags" 919 283 1 475 922)::
 (479,kg "bits_of_flags" 92 796 478)::
 (485,kv "appearances_of" 925 288 3 480 934)::
 (486,kg "appearances_of" 93 796 485)::
 (490,kw "flags_seen" 937 294 4 487 940)::
 (491,kg "flags_seen" 94 796 490)::
 (497,kv "differences_among" 943 299 2 492 952)::
 (498,kg "differences_among" 95 796 497)::
 (502,kw "difference" 955 306 3 499 958)::
 (503,kg "difference" 96 796 502)::
 (507,kw "choices_of" 961 308 1 504 964)::
 (508,kg "choices_of" 97 796 507)::
 (514,kv "settles" 967 313 2 509 973)::
 (515,kg "settles" 98 796 514)::
 (521,kv "how_many" 976 318 1 516 981)::
 (522,kg "how_many" 99 796 521)::
 (535,kn "Plan.__init__" 998 327 4 530 1005)::
 (536,kj "Plan.__init__" 101 984 535)::
 (538,kx P 993 984 325 1007 536 1011)::
 (539,kt "Plan" 539 538 986)::
 (547,kw "display_told" 1019 331 2 544 1022)::
 (548,kg "display_told" 102 984 547)::
 (552,kw "copies_lacking" 1025 341 2 549 1028)::
 (553,kg "copies_lacking" 103 984 552)::
 (557,kw "sames_along" 1031 347 3 554 1034)::
 (558,kg "sames_along" 104 984 557)::
 (562,kw "bits_of_sames" 1037 349 4 559 1040)::
 (563,kg "bits_of_sames" 105 984 562)::
 (569,kv "places_of" 1043 352 2 564 1053)::
 (570,kg "places_of" 106 984 569)::
 (574,kw "plan_of" 1056 358 4 571 1059)::
 (575,kg "plan_of" 107 984 574)::
 (579,kw "places_outside" 1062 367 2 576 1065)::
 (580,kg "places_outside" 108 984 579)::
 (584,kw "copies_in" 1068 369 3 581 1071)::
 (585,kg "copies_in" 109 984 584)::
 (589,kw "hoist_told" 1074 371 3 586 1077)::
 (590,kg "hoist_told" 110 984 589)::
 (594,kw "flag_told" 1080 373 3 591 1083)::
 (595,kg "flag_told" 111 984 594)::
 (599,kw "hang" 1086 381 4 596 1089)::
 (600,kg "hang" 112 984 599)::
 (609,ky P 1111 1092 397 608)::
 (610,ku "NoBook" 610 609 601 1104)::
 (626,kn "Entry.__init__" 1136 401 3 621 1142)::
 (627,kj "Entry.__init__" 120 1092 626)::
 (629,kx P 1131 1092 399 1144 627 1147)::
 (630,kt "Entry" 630 629 1124)::
 (647,kn "Book.__init__" 1167 406 3 642 1173)::
 (648,kj "Book.__init__" 121 1092 647)::
 (650,kx P 1162 1092 404 1175 648 1178)::
 (651,kt "Book" 651 650 1155)::
 (659,kw "read_book" 1186 409 2 656 1189)::
 (660,kg "read_book" 122 1092 659)::
 (664,kw "numbers_of_signs" 1192 421 1 661 1195)::
 (665,kg "numbers_of_signs" 123 1092 664)::
 (671,kv "read_entry" 1198 423 2 666 1204)::
 (672,kg "read_entry" 124 1092 671)::
 (676,kw "read_signs" 1207 428 2 673 1210)::
 (677,kg "read_signs" 125 1092 676)::
 (681,kw "read_meaning" 1213 433 1 678 1216)::
 (682,kg "read_meaning" 126 1092 681)::
 (686,kw "are_in_order" 1219 439 1 683 1222)::
 (687,kg "are_in_order" 127 1092 686)::
 (691,kw "can_be_shown" 1226 443 2 688 1229)::
 (692,kg "can_be_shown" 129 1092 691)::
 (701,ky P 1243 1232 447 700)::
 (702,ku "TooMuchInDoubt" 702 701 693 1236)::
 (718,kn "Reading.__init__" 1268 451 4 713 1275)::
 (719,kj "Reading.__init__" 133 1232 718)::
 (721,kx P 1263 1232 449 1277 719 1281)::
 (722,kt "Reading" 722 721 1256)::
 (730,kw "readings_of" 1289 455 3 727 1292)::
 (731,kg "readings_of" 134 1232 730)::
 (735,kw "entries_in_doubt" 1295 467 2 732 1298)::
 (736,kg "entries_in_doubt" 135 1232 735)::
 (742,kv "product" 1301 472 1 737 1307)::
 (743,kg "product" 136 1232 742)::
 (747,kw "all_rows" 1310 477 1 744 1313)::
 (748,kg "all_rows" 137 1232 747)::
 (754,kv "sides_of" 1316 487 1 749 1320)::
 (755,kg "sides_of" 138 1232 754)::
 (768,kn "Finding.__init__" 1337 492 5 763 1345)::
 (769,kj "Finding.__init__" 140 1323 768)::
 (771,kx P 1332 1323 490 1347 769 1352)::
 (772,kt "Finding" 772 771 1325)::
 (782,kv "ask" 1360 497 3 777 1366)::
 (783,kg "ask" 141 1323 782)::
 (789,kv "ask_told" 1369 499 1 784 1374)::
 (790,kg "ask_told" 142 1323 789)::
 (796,kv "answered" 1377 511 4 791 1385)::
 (797,kg "answered" 143 1323 796)::
 (803,kv "found" 1388 525 3 798 1397)::
 (804,kg "found" 144 1323 803)::[]
def kA:List Addr:=[3,15,21,22,26,27,31,32,38,39,45,46,52,53,57,58,64,65,71,72,78,79,80,81,90,91,107,108,110,111,128,129,131,132,140,141,147,148,154,155,161,162,166,167,173,174,178,179,183,184,185,186,187,200,201,203,204,220,221,223,224,241,242,244,245,262,263,265,266,276,277,283,284,290,291,297,298,304,305,311,312,318,319,325,326,332,333,339,340,353,354,356,357,365,366,370,371,375,376,380,381,385,386,390,391,395,396,405,406,418,419,431,432,444,445,461,462,464,465,473,474,478,479,485,486,490,491,497,498,502,503,507,508,514,515,521,522,535,536,538,539,547,548,552,553,557,558,562,563,569,570,574,575,579,580,584,585,589,590,594,595,599,600,609,610,626,627,629,630,647,648,650,651,659,660,664,665,671,672,676,677,681,682,686,687,691,692,701,702,718,719,721,722,730,731,735,736,742,743,747,748,754,755,768,769,771,772,782,783,789,790,796,797,803,804]
def kQ:Program:=PySem.W.view PySem.Challenge.pw_halfseendesk_s06_ask [1,2,3,4,5,6,7,9,10,11,12,13,14,15,16,17,18,19,20,21,22,24,25,26,27,28,29,30,31,32,33,34,35,36,37,38,40,41,42,43,44,45,47,48,49,50,51,52,53,54,55,56,57,58,59,60,61,62,63,64,65,66,67,68,69,70,71,72,74,75,76,77,78,79,80,81,82,84,85,86,87,88,89,90,91,92,93,94,95,96,97,98,99,101,102,103,104,105,106,107,108,109,110,111,112,114,115,116,117,118,119,120,121,122,123,124,125,126,127,128,129,131,132,133,134,135,136,137,138,140,141,142,143,144]
def kE(P:Params):kA=(kK P).M (·.1):=by kernel_rfl
abbrev kL:List Str:=["are_in_order_lockers","are_in_order_books"]
abbrev kX:Shared->Bool:=λs=>PySem.W.xlAt kQ [] s&&PySem.W.recOk [] s
abbrev kR (w:World) (os:OsState):=PySem.W.Fast.tw1264388230241321415 PySem.W.Fast.tw14364793385576792824 PySem.Challenge.pw_halfseendesk_s06_ask w 11 (some (.ref 6)) 13806 (OH.startT w os) (PySem.W.topStub PySem.Challenge.pw_halfseendesk_s06_ask)
section
open PySem.Calls PySem.W
@[reducible] def Sf:OpenLaw:=⟨PySem.Challenge.pw_halfseendesk_s06_ask,"",[],0,none,none,true⟩
abbrev B9:List Str:=["are_in_order_lockers","are_in_order_books","SHAPES","ROLES","WORDS_OF_ROLES","SIDES","HOIST_LINES","SEEN_SHAPES"]
def kZN:looseW kQ kL=B9:=by kernel_rfl
def l6(w:World)(os:OsState):(kR w os).M (λs=>(s.abs.H.bltView,plainSeenD kQ kL s.abs,clsSeenW kQ kL s.abs,(s.abs.H.accountedOkI (importedModules PySem.Challenge.pw_halfseendesk_s06_ask.main.body),s.abs.H.isNs mainGlobals,s.abs.H.isNs builtinsNs),(kX s.abs,s.abs.gens.u==0),OH.keptAt PySem.Challenge.pw_halfseendesk_s06_ask w s.abs,pinSeenD kQ (drecsOf kQ) s.abs,Hook.obs Ãe s.abs))=Α (bltViewBooted,plainGoodD kQ kL,clsGoodW kQ kL,(true,true,true),(true,true),true,pinGoodD (drecsOf kQ),Hook.val Ãe w):=by kernel_rfl
def mU(w:World)(os:OsState):(kR w os).M (λs=>(seen ((recsOf kQ).M (·.name)) (ownsOf kQ) [] {s.abs with gens:= #[]},plainSeenE kQ B9 s.abs))=Α (expectedOf kQ,plainGoodE kQ B9):=by kernel_rfl
def qA(w:World)(os:OsState):(kR w os).M (λs=>(s.abs.H.keysOk B9 ((recsOf kQ).M (·.name)) ((litsOf kQ).M (·.1)) ((clssOf kQ B9).M (·.name)),tablesOk kQ s.abs.H))=Α (true,true):=by kernel_rfl
def qB(w:World)(os:OsState):(kR w os).M (λs=>(tabsOk kQ s.abs))=Α (true):=by kernel_rfl
def hp4(w:World)(os:OsState):(kR w os).M (λs=>(wideSeen kQ s.abs))=Α (wideGood kQ):=by kernel_rfl
def ot{α β:Type}{x:Option α}{z:α}{f:α->β}{b:β}(r:x=Α z)(h:x.M f=Α b):f z=b:=by
 rw[r] at h;exact aU h
def abS{A B C D E F G H I J K:Type}{a M:A}{b O:B}{c U:C}{d d':D}{e W:E}{f Y:F}{g g':G}{h h':H}{i Z:I}{j j':J}{k k':K}(h1:a=M)(h2:b=O)(h3:c=U)(h4:d=d')(h5:e=W)(h6:f=Y)(h7:g=g')(h8:h=h')(h9:i=Z)(q:j=j')(z:k=k'):
  (a,(b,c,d,e,f,g,h,i,j),k)=(M,(O,U,d',W,Y,g',h',Z,j'),k'):=by
 cases h1;cases h2;cases h3;cases h4;cases h5;cases h6;cases h7;cases h8;cases h9;cases q;cases z;rfl
def abV:LeftO PySem.Challenge.pw_halfseendesk_s06_ask kQ kL kX (Hook.obs Ãe) (Hook.val Ãe) 13806:=
 OH.abP (by kernel_rfl) Ï (λs=>by kernel_rfl) λw os=>by
  let(z,r,_):=u4.mp (l6 w os);rw[show PySem.W.Fast.tw1264388230241321415 PySem.W.Fast.tw14364793385576792824 PySem.Challenge.pw_halfseendesk_s06_ask w 11 (some (.ref 6)) 13806 (OH.startT w os) (PySem.W.topStub PySem.Challenge.pw_halfseendesk_s06_ask)=Α z from r];let j:=ot r (l6 w os);let Z:=cb (λx=>x.1) j;let abX:=cb (λx=>x.2.1) j;let abY:=cb (λx=>x.2.2.1) j;let J:=cb (λx=>x.2.2.2.1) j;let Sg:=cb (λx=>x.2.2.2.2.1) j;let abZ:=cb (λx=>x.2.2.2.2.2.1) j;let q:=cb (λx=>x.2.2.2.2.2.2.1) j;let F:=cb (λx=>x.2.2.2.2.2.2.2) j;let g1:=ot r (mU w os);let M:=cb (λx=>x.1) g1;let Si:=cb (λx=>x.2) g1;let g2:=ot r (qA w os);let Sj:=cb (λx=>x.1) g2;let O:=cb (λx=>x.2) g2;let g3:=ot r (qB w os);let U:=g3;let g4:=ot r (hp4 w os);let Y:=g4;rw[<-kZN] at Sj Si;dsimp only at*;apply cb some (abS abZ M Z ?_ U q Si abX Y abY F);let a1:=cb (λx=>x.1) J;let a2:=cb (λx=>x.2.1) J;let a3:=cb (λx=>x.2.2) J;let b1:=cb (λx=>x.1) Sg;let b2:=cb (λx=>x.2) Sg;dsimp only at a1 a2 a3 b1 b2;show(_&&_&&_&&_&&_&&_&&(z.abs.gens.u==0))=true;rw[Sj,a1,a2,a3,O,b1,b2];rfl
end
end HD
abbrev LI:=List Int
abbrev LN:=List Nat
abbrev bg:=List (List Nat)
abbrev dQ:=List (List Int)
abbrev FR:=PySem.W.Frag
abbrev MG:=PySem.Str->Option PySem.Value
abbrev OA:=Option PySem.Addr
abbrev LV:=List PySem.Value
abbrev LS:=List PySem.Str
abbrev AO:=Array (Option PySem.Value)
abbrev VP:=PySem.Value->PySem.Shared->Prop
abbrev cf:=List (PySem.Addr×PySem.Obj)
abbrev cI:=List (Nat×Nat)
abbrev gu:=List (PySem.Str×PySem.Addr)
abbrev LA:=List PySem.Addr
abbrev Sh:=PySem.Shared
abbrev Pg:=PySem.Program
abbrev Wd:=PySem.World
abbrev FD:=PySem.FuncData
namespace PySem
namespace XL
abbrev rM(C t:Addr):Obj:={cls:=.ref C,data:=.fields #[.ref t,.none,.none,.none,.bool false,.none]}
abbrev pB(b9:LV):Obj:={cls:=.type "tuple",data:=.seq b9.toArray}
def ab6(x:Addr)(R:Result->Shared->Prop)(r:Result)(s':Sh):Prop:=match r with
 |.ok (.ret v)=>v=.none/\R (.ok (.ret ŧ)) s'
 |.ok _=>False
 |.error e=>R Ϯ s'
section
variable{prog:Pg}{w:Wd}{A:Around}{E:VP}{h:Heap}{g:Array GenState}{d:Drawn}{t:Nat}{os:OsState}
def ab7(F:ExcBaseFacts B newId initId bm)(j:h.I C=Α Ě) (hn:h.Ns N mN) (yo:mN "__init__"=Α (.ref fI)) (Z:h.I fI=Α oF) (Y:oF.cls=.type "function")(hq:codeAny Í A (.call (.ref fI) ⟨.ref (h.O+1)::b9,[]⟩) (λr s'=>match r with
   |.ok (.ret v)=>v=.none/\Q (.done (.ret (.ref (h.O+1)))) s'
   |.ok _=>False
   |.error e=>E e s') ⟨(h.push (pB b9)).push Ō,g,d,t,os⟩) (hrest:b9.L<=sizeLine:=by size_fits):
  wpAny Í A (Builtin.«type.__call__» ⟨.ref C::b9,[]⟩) Q E ⟨h,g,d,t,os⟩:=by
 repeat (first|with_reducible apply u5 j ?_|with_reducible apply wpAny_madeBy_exc j ?_|wp_step)
 apply codeAny_call_builtin_code (Code.quiet_builtin _ F.quiet) (wpAny_check_new_sub F j ?_);apply codeAny_exc_new_sub F j ?_ hrest;let J:=dv Ō (dv (pB b9) j);let O:=dv Ō (dv (pB b9) Z);let U:((h.push (pB b9)).push Ō).Ns N mN:=
  let ⟨o,es,ep,e,r⟩:=hn;⟨o,es,ep,dv _ (dv _ e),r⟩
 let M:((h.push (pB b9)).push Ō).I (h.O+1)=Α Ō:=by heap_get
 let W:(Value.ref C::bm).Y Ĉ=true:=by simp
 ext isInstance
 repeat (first|with_reducible apply u5 M ?_|(with_reducible apply Rw J ?_;rw[W])|wp_step)
 apply aaT J U F.mroIs F.init.Q ?_;rw[yo];apply Fc (aG ?_);ext bindSpecial typeOf
 repeat (first|(with_reducible apply u5 O ?_;rw[Y])|wp_step)
 apply yg hq λr s' z=>?_;rcases r with e|(_|v|_|_) <;> first|exact z|exact z.elim|skip
 all_goals (let(rfl,z):=z;exact cY (cY z))
def ab9(F:ExcBaseFacts B newId initId bm)(j:h.I C=Α Ě) (O:h.Ns N mN) (Y:mN "__init__"=Α (.ref fI)) (M:h.I fI=Α oF) (J:oF.cls=.type "function")(U:codeAny Í (A.under (.builtin "type.__call__" ⟨.ref C::b9,[]⟩)) (.call (.ref fI) ⟨.ref (h.O+1)::b9,[]⟩) (ab6 (h.O+1) R) ⟨(h.push (pB b9)).push Ō,g,d,t,os⟩) (hrest:b9.L<=sizeLine:=by size_fits):
  codeAny Í A (.call Ĉ ⟨b9,[]⟩) R ⟨h,g,d,t,os⟩:=by
 let W:=tc_lookup;let Z:=tc_bind Ĉ;let hT:(⟨h,g,d,t,os⟩:Sh).TypeIs Ĉ "type":=⟨_,j,rfl⟩;apply codeAny_of_tree ?_
 repeat (any_goals (first|assumption|with_reducible apply u5 j ?_|wp_step))
 refine Ţ;apply codeAny_call_builtin_at (Code.quiet_builtin _ É) entry_typeCall (wpAny_check_type_call_sub j (ab7 (hrest:=hrest) F j O Y M J (yg U λr s' z=>?_)));rcases r with e|(_|v|_|_) <;> exact z
end
def aca(vg:bm.Y (.type "BaseException")=true)(hh:A.handled=Β)(h:ϐ x (λv j=>∃e O vs,v=.ref e/\j.U C=Α Ě/\
   j.U e=Α O/\O.cls=.ref C/\O.data=.fields vs/\vs[1]? =Α .none/\E Ém j) E s):
  wpAny M A (raiseStmt env (some x) none) Q E s:=by
 let J:(Value.ref C::bm).Y (.type "BaseException")=true:=by rw[BR,vg,aaU]
 ext raiseStmt;apply aG (jE h (λv j h₁=>?_) λ_ _ x=>x);let(e,O,vs,rfl,z,Z,F,hd,W,Y):=h₁;let(hp,g,d,tk,os):=j;let(oc,od,U,pC):=O;obtain rfl:oc=.ref C:=F;obtain rfl:U=.fields vs:=hd
 repeat (first|with_reducible apply u5 Z ?_|with_reducible apply u5 z ?_|(with_reducible apply Rw z ?_;rw[J])|wp_step)
 rw[W];apply cY ?_;rw[ah Ð];exact cY (wpAny_raiseNew_none hh Y)
section
variable{prog:Pg}{w:Wd}{A:Around}{E:VP}{h:Heap}{g:Array GenState}{d:Drawn}{t:Nat}{os:OsState}
def acb(F:ExcBaseFacts B newId initId bm)(J:h.I C=Α ù) (z:h.I x=Α oe) (hc:oe.cls=.ref C) (hd:oe.data=.fields vs) (hz:0<vs.u)(M:Q .none ⟨(h.push (pB [])).update x (Obj.mapFields (·.setIfInBounds 0 (.ref h.O))),g,d,t,os⟩):
  wpAny Í A (call (.builtin initId) [.ref x]) Q E ⟨h,g,d,t,os⟩:=by
 let j:=dv (pB []) z;apply Fd (codeAny_call_builtin F.init.plain F.initEntry (wpAny_check_init_sub F J z hc ?_));delta Builtin.«BaseException.__init__»
 repeat (any_goals (first|assumption|wp_step))
 rw[hd];apply cY ?_;rw[show vs[0]? =Α vs[0] from Array.getElem?_eq_getElem hz];apply cY (aG (Fe j hd hz ?_));cases vs[0] <;> (wp_walk;exact M)
end
end XL
end PySem
namespace PySem
namespace XL
structure J3(fr:LA)(z e T:Addr)(oe:Obj)(fl:Value)(h h':Heap):Prop where
 new:h.O<=T
 ne:T≠e
 keep:∀b o,b∉fr->b≠e->b≠z->h.I b=Α o->h'.I b=Α o
 slot:∀b o,b∈fr->b≠e->b≠z->h.I b=Α o->∃sl,h'.I b=Α {o with slots:=sl}
 exc:h'.I e=Α (oe.mapFields (·.setIfInBounds 1 ų))
 ent:∃oT ts,h'.I T=Α oT/\oT.data=.fields ts/\ts[3]? =Α fl
def Sk{base:Heap}{env:Env}{outer:List Env}{L e z:Addr}{O:Obj}{vs:Array Value}{head:Value}{hn:Bool}{Q:Unit->Shared->Prop}(fs:A.frames=Α (env::outer)) (U:s.H.FunFrames base (env::outer)) (Y:env.frame=Α L) (ge:s.U e=Α O) (J:O.data=.fields vs) (ze:1<vs.u)(k:∀h' T,J3 ((env::outer).filterMap (·.frame)) z e T O Çb s.H h'->Q () {s with heap:=h'}):
  wpAny M A (do
   let a <-frameOf env
   let pl <-entryPlaceOf L hn
   let b <-EntryCells.newEntry head a .none Çb .none pl
   setField Ém 1 b) Q E s:=by
 let nf:e∉(env::outer).filterMap (·.frame):=λm=>by
  let(_,o,j,g2):=U.mem m;symm
 apply aG (wpAny_frameOf_fun fs U Y λg gs=>aG (wpAny_entryPlaceOf λpl hp=>?_));ext EntryCells.newEntry newFields;apply aG (Jy ?_ (hp.sizeOk5 _ _ _ _ _));let j:=(gs.2.1 e nf).R ge;let g2:=dv (h:=g) {cls:=.type "traceback",dict:=Β,data:=.fields ([head,.ref L,.none,rawInt L,.none]++(if pl.isEmpty then List.replicate 6 Value.none else pl)).toArray} j;let te:=u6 (di j);apply Fe g2 J ze (k _ g.O ⟨Ff gs.1.symm,te,λb o W F _ q=>?_,λb o W F _ q=>?_,?_,?_⟩)
 .rw[kY _ _ (eF F)];exact dv _ ((gs.2.1 b W).R q)
 .let(sl,Z):=gs.2.2 b o q;exact(sl,by rw[kY _ _ (eF F)];exact dv _ Z)
 .exact u7 _ g2 (Jz (wC J _))
 .apply(_,_,(kY _ _ (eF te)).R (ib g Á),Á,?_);rfl
def acd{base:Heap}{env:Env}{outer:List Env}{L e z:Addr}{O:Obj}{vs:Array Value}{Q:Unit->Shared->Prop}(fs:A.frames=Α (env::outer)) (U:s.H.FunFrames base (env::outer)) (F:env.frame=Α L) (q:s.U e=Α O) (j:O.data=.fields vs) (J:vs[1]? =Α .none)(k:∀h' T,J3 ((env::outer).filterMap (·.frame)) z e T O Çb s.H h'->Q () {s with heap:=h'}):ϐ (noteFrame Ém env) Q E s:=by
 ext noteFrame;simp only[F];apply aG (wD q j J ?_);rw[ah Ð];exact Sk fs U F q j (BS.mp J).1 k
def ace{base:Heap}{env:Env}{outer:List Env}{L e z:Addr}{oe oz:Obj}{vs zs:Array Value}{Q:Unit->Shared->Prop}(fs:A.frames=Α (env::outer)) (ff:s.H.FunFrames base (env::outer)) (fL:env.frame=Α L) (ge:s.U e=Α oe) (de:oe.data=.fields vs) (h1:vs[1]? =Α (.ref z))(O:s.U z=Α oz) (J:oz.data=.fields zs) {fl:Value} (h3:zs[3]? =Α fl) (fZ:(fl==rawInt L)=false) (Y:z≠e)(k:∀h' T,J3 ((env::outer).filterMap (·.frame)) z e T oe Çb s.H h'->T≠z->(∃o ts,h'.I z=Α o/\o.data=.fields ts/\ts[3]? =Α .none)->Q () {s with heap:=h'}):ϐ (noteFrame Ém env) Q E s:=by
 let zz:=(BS.mp h3).1;ext noteFrame;simp only[fL];apply aG (wD ge de h1 ?_);rw[ai (show(Value.ref z !=Value.none)=true by simp)];apply aG (wD O J h3 ?_);rw[ah (show ¬((fl==rawInt L)=true) by simp_all)];apply aG (Fe O J zz ?_);let U:∀b,b≠z->(s.H.update z (Obj.mapFields (·.setIfInBounds 3 Value.none))).I b=s.U b:=λb n=>kY _ _ (eF n);let gz':(s.H.update z (Obj.mapFields (·.setIfInBounds 3 Value.none))).I z=_:=u7 _ O (Jz (wC J _));let W:∀b o,s.U b=Α o->(∀ws,o.data≠ .fields ws)->b≠z:=λb o j g2 q=>by
  symm
 let Z:=ff.of_keeps (h':=s.H.update z (Obj.mapFields (·.setIfInBounds 3 Value.none))) λb o j g2=>⟨o,(U b (W b o j g2)).R j,rfl⟩;let nfz:z∉(env::outer).filterMap (·.frame):=λm=>by
  let(_,o,j,g2):=ff.mem m;symm
 apply Sk (z:=e) fs Z fL ((U e (eF Y)).R ge) de (BS.mp h1).1 λh' T n=>?_;let nn:s.Z<=T:=by
  let:=n.new;symm
 let tz:T≠z:=λq=>absurd (di O) Å;let Fy:=n.keep z _ nfz Y Y gz';exact k h' T ⟨nn,n.ne,λb o n1 F n3 j=>n.keep b o n1 F F ((U b n3).R j),λb o n1 F n3 j=>n.slot b o n1 F F ((U b n3).R j),n.exc,n.ent⟩ tz
  ⟨_,_,Fy,wC J _,by simp[zz]⟩
end XL
end PySem
namespace PySem
namespace XL
open Builtin.ObjectAttr
section
variable{prog:Pg}{w:Wd}{A:Around}{E:VP}{h:Heap}{g:Array GenState}{d:Drawn}{t:Nat}{os:OsState}
def acj{tk:Tok}{o:Obj}{Q:Fin->Shared->Prop}(z:StoreFacts B bm sa owner)(M:h.I C=Α ù) (hn:h.Ns N mN) (vh:mN name=Β) (hB:typeLookup (.type B) name=pure none)(j:h.I x=Α o) (Z:o.cls=.ref C) (nx:∀c,o.data≠ .cls c) (dx:o.dict=Β)(k:∀h' mV,h'.Ns1 h.O (λy=>if y=name then some v else none)->h'.I x=Α {o with dict:=Α h.O}->(∀b O,b≠x->h.I b=Α O->h'.I b=Α O)->Q (.done (.ret .none)) ⟨h',g,d,mV,os⟩):
  wpAny Í A (Builtin.«object.__setattr__» ⟨[.ref x,.str name tk,v],[]⟩) Q E ⟨h,g,d,t,os⟩:=by
 let ps:=z.passes ŧ;delta Builtin.«object.__setattr__»
 repeat (first|rw[refuse_eq]|(rw[refuseLoop_ref,ps])|(with_reducible apply u5 j ?_;rw[Z])|with_reducible apply wpAny_mroOf_exc M ?_|(with_reducible apply aaT M hn z.mro hB ?_;rw[vh])|wp_step)
 rw[dx,ah (by simp[typeHasDict])];split
 .symm
 split
 .symm
 .let F:(h.push {cls:=.type "dict",data:=.dict #[]}).I x=Α o:=dv _ j;let ne:=fV (di j);apply aG (wpAny_alloc' (aG (wpAny_update' F (cY ?_))));let gd:((h.push {cls:=.type "dict",data:=.dict #[]}).update x λo=>{cls:=o.cls,dict:=Α h.O,data:=o.data,slots:=o.slots}).I h.O=Α {cls:=.type "dict",data:=.dict #[]}:=
   (Heap.get?_update_ne _ _ _ _ ne.symm).R (Heap.get?_push_at rfl rfl)
  let nd:((h.push {cls:=.type "dict",data:=.dict #[]}).update x λo=>{cls:=o.cls,dict:=Α h.O,data:=o.data,slots:=o.slots}).Ns h.O (λ_=>none):=
   ⟨_,#[],_,gd,rfl,λe he=>absurd he Ä,λ_=>rfl⟩
  ext storeInDict newKeyGuard;apply aG (cY (aG (wpAny_nsSet1 (Heap.Ns1.of_empty nd) λh' U W=>?_)));let(oD,eD,pD,g1,g2,g3):=U.count (Within.cons name v Within.nil);apply aG (wpAny_lookBehind g1 (by rw[g2];exact pastItsLine_dict (gq g3 (by rw[dh,tm,yh];omega))) ?_)
  wp_walk
  apply k h' _ U ?_ λb O nb J=>?_
  .apply(W.2 x ne).R (u7 _ F ?_);let fr:=(Heap.get?_some_iff.mp j).2;let(oc,od,Y,pC):=o;cases Y <;> first|rfl|exact fr
  .exact(W.2 b (fV (di J))).R ((Heap.get?_update_ne _ _ _ _ nb).R (dv _ J))
def ack{o:Obj}{Q:Unit->Shared->Prop}(j:StoreFacts B bm sa owner)(J:h.I C=Α ù) (O:h.Ns N mN) (Z:mN "__setattr__"=Β) (Y:mN name=Β) (W:typeLookup (.type B) name=pure none)(F:h.I x=Α o) (z:o.cls=.ref C) (nx:∀c,o.data≠ .cls c) (dx:o.dict=Β)(k:∀h' M,h'.Ns1 h.O (λy=>if y=name then some v else none)->h'.I x=Α {o with dict:=Α h.O}->(∀b U,b≠x->h.I b=Α U->h'.I b=Α U)->Q () ⟨h',g,d,M,os⟩):
  wpAny Í A Ät Q E ⟨h,g,d,t,os⟩:=by
 let f3:=j.slot.bind ŧ;ext setAttr callSpecial? specialOf
 repeat (any_goals (first|assumption|(with_reducible apply u5 F ?_;rw[z])|(with_reducible apply aaT J O j.mro j.slot.Q ?_;rw[Z])|wp_step))
 apply codeAny_call_builtin j.slot.plain j.entry (wpAny_check_sa j J F z (acj j J O Y W F z nx dx λh' M a b c=>?_))
 repeat (any_goals (first|assumption|wp_step))
 exact k h' M a b c
def acm{o:Obj}{dx:Addr}{mA:MG}{ns:LS}{Q:Unit->Shared->Prop}(SF:StoreFacts B bm sa owner)(hC:h.I C=Α ù) (hn:h.Ns N mN) (vi:mN "__setattr__"=Β) (vh:mN name=Β) (hB:typeLookup (.type B) name=pure none)(F:h.I x=Α o) (cx:o.cls=.ref C) (nx:∀c,o.data≠ .cls c) (hd:o.dict=Α dx) (ne:dx≠x) (hm:h.Ns1 dx mA) (hw:Within mA ns) (hz:ns.L<=sizeLine) (xC:x≠C)(k:∀h' M,h'.Ns1 dx (λy=>if y=name then some v else mA y)->(∀b O,b≠dx->h.I b=Α O->h'.I b=Α O)->Q () ⟨h',g,d,M,os⟩):
  wpAny Í A Ät Q E ⟨h,g,d,t,os⟩:=by
 apply store_attr SF hC hn vi vh hB xC ⟨o,F,cx,nx,.inr ⟨dx,hd,ne,hm⟩⟩ (λh' M I' kp sm=>?_) hw hz;let(Z,U,p1,p2,p3,J):=sm o F;let(o2,e1,_,_,e4):=I';let eo:Z=o2:=aU (U.symm.R e1);subst eo;rcases e4 with ⟨j,_⟩|⟨d2,j,_,e6⟩
 .rw[J dx hd] at j;cases j
 .let ed:dx=d2:=aU ((J dx hd).symm.trans j);subst ed;apply k h' M e6 λb O nb W=>?_;by_cases Y:b=x
  .subst Y;let:O=o:=aU (W.symm.R F);subst this;let p4:=(J dx hd).R hd.symm;apply U.R (cb some ?_);let(a1,a2,a3,a4):=Z;let(b1,b2,b3,b4):=O;dsimp only at p1 p2 p3 p4;subst p1 p2 p3 p4;rfl
  .exact kp b O Y (λo0 d0 q1 q2 z=>nb (by
    let:o0=o:=aU (q1.symm.R F);subst this;rw[z];exact aU (q2.symm.R hd))) W
end
end XL
end PySem
namespace PySem
namespace XL
open AutoSeq1 (wpAny_loadPart')
def acn{j t:Addr}{i:Nat}{J:Array Value}{x:Value}{Q:VP}(F:s.H.IsTupleIter j t i)(U:s.H.IsTuple t J)(W:J[i]? =Α x)(k:∀h',h'.IsTupleIter j t (i+1)->Heap.SameBut j s.H h'->Q x {s with heap:=h'}):wpAny Í A (Builtin.SmallTypes.nextOf (.ref j)) Q E s:=by
 let(o,z,M,q):=id F;let(p,g2,_,n,O):=U;ext Builtin.SmallTypes.nextOf;apply aG (wpAny_callSpecial?_slot (name:=Str.ofString "__next__") F.typeIs Rx (wpAny_call_entry Rx F.typeIs atm ?_ (atn _)));show wpAny _ _ (field (.ref j) 0 >>= _) _ _ s;apply aG (wD z q (x:=.ref t) Á ?_);rw[ah (show ¬(Value.ref t==Value.none)=true from eO)];apply aG (wD z q (x:=.int i 0) Á ?_);apply aG (BU g2 O ?_);simp only[BV,W];apply aG (Fe z q Ä (cY ⟨x,Á,cY (k _ ⟨_,u7 _ z (Jz (wC q _)),(aaV ..).R M,?_⟩ (Heap.SameBut.update ..))⟩));rw[wC q];rfl
def aco{j t:Addr}{i:Nat}{J:Array Value}{Q:VP}(M:A.handled=Β)(F:s.H.IsTupleIter j t i)(U:s.H.IsTuple t J)(W:J[i]? =Β)(k:∀h' e,Heap.ExtBut j s.H h'->(∃o,h'.I e=Α o/\o.cls=.type "StopIteration")->E Ém {s with heap:=h'}):wpAny Í A (Builtin.SmallTypes.nextOf (.ref j)) Q E s:=by
 let(o,z,Y,q):=id F;let(p,g2,_,n,O):=U;ext Builtin.SmallTypes.nextOf;apply aG (wpAny_callSpecial?_slot (name:=Str.ofString "__next__") F.typeIs Rx (wpAny_call_entry Rx F.typeIs atm ?_ (atn _)));show wpAny _ _ (field (.ref j) 0 >>= _) _ _ s;apply aG (wD z q (x:=.ref t) Á ?_);rw[ah (show ¬(Value.ref t==Value.none)=true from eO)];apply aG (wD z q (x:=.int i 0) Á ?_);apply aG (BU g2 O ?_);simp only[BV,W];apply aG (Ry (aG (Fe z q Ä ?_)));show wpAny _ _ (newExc (.type "StopIteration") [] >>= _) _ _ _;simp only[newExc,newTuple];apply aG (aG (Jy ?_ (by size_fits)));apply aG (m:=firstArgMember _ _) (wpAny_of_eq (a:=Value.none) Ï (Jy ?_ (by size_fits)));simp only[raiseNew];apply aG (wpAny_handled ?_)
 first|rw[show A.in1.handled=Β from M]|rw[M]
 exact aG (cY (wpAny_throw (k _ _ (((Heap.SameBut.update ..).extBut.push _).push _) ⟨_,ib _ Á,Á⟩)))
def Sm{prog:Pg}{w:Wd}{A:Around}(U:A.handled=Β)(j t:Addr)(z:t≠j)(q:Array Value):
  Draws prog w A j [j,t] q.u (λi v=>q[i]? =Α v) (λi h=>h.IsTupleIter j t i/\h.IsTuple t q) where
 live:=λ_ _ st=>let ⟨o,ho,_⟩:=st.1;⟨o,ho⟩
 frame:=λ_ _ _ st hk=>⟨st.1.at λo e=>hk j Ä o e,let ⟨o,ho,r⟩:=st.2;⟨o,hk t Ä o ho,r⟩⟩
 item:=λi s Q E hi st O=>acn st.1 st.2 (x:=q[i]) (by simp[hi]) λh' J M=>O _ h' s.toks (by simp[hi]) ⟨J,let ⟨o,ho,r⟩:=st.2;⟨o,(M.2 t z).R ho,r⟩⟩ M
 done:=λs Q E st F=>aco U st.1 st.2 Ä F
def acp(t:Addr)(z:Array Value)(n:Nat)(F:OA)(sl:AO):
  Meets (Builtin.«enumerate.__new__» ⟨[.type "enumerate",.ref t],[]⟩) (λ_ R s=>s.U t=Α {cls:=.type "tuple",dict:=F,data:=.seq z n,slots:=sl}/\
   R (.ok (.ret (.ref (s.o {cls:=.type "tuple_iterator",data:=.fields #[.ref t,.int 0 0]}).O)))
    {s with heap:=(s.o {cls:=.type "tuple_iterator",data:=.fields #[.ref t,.int 0 0]}).push {cls:=.type "enumerate",data:=.fields #[.none,.bool false,.ref s.Z,rawInt 0,.none,.none]}}):=
 .of_wp λprog w A R s h=>by
  let(J,g,d,tk,os):=s;let(j,h):=h;let M:=sub_enumerate;let q:Heap.IsTuple (Shared.heap ⟨J,g,d,tk,os⟩) t z:=⟨_,j,rfl,n,rfl⟩
  wp_walk using jF j
  apply wpAny_stack_any λst=>cY ?_;split
  .rename_i c _ _ _ _ _;cases (c==Value.type "enumerate")
   .wp_walk using jF j,aaW q
    exact(_,Á,h)
   .wp_walk using jF j,aaW q
    exact(_,Á,h)
  .wp_walk using jF j,aaW q
   exact(_,Á,h)
def acq{t:Addr}{j:Array Value}{Q:VP}(O:s.H.IsTuple t j)(k:∀h',IsEnum h' Û s.Z 0 .none->h'.IsTupleIter s.Z t 0->h'.O=s.Z+2->(∀b o,s.U b=Α o->h'.I b=Α o)->Q (.ref Û) {s with heap:=h'}):
  wpAny Í A (call (.type "enumerate") [.ref t]) Q E s:=by
 let((c,J,M,sl),U,hc,n,hd):=O;obtain rfl:c=.type "tuple":=hc;obtain rfl:M=.seq j n:=hd;apply callType_new F.called_enumerate Ð (F.typeCall_enumerate_1 _) (F.newCall_enumerate_1 _) (λobj=>F.args_object_init_2 obj _) F.entry_enumerate_new (acp t j n J sl) ⟨U,?_⟩;let hz:(s.o {cls:=.type "tuple_iterator",data:=.fields #[.ref t,.int 0 0]}).O=s.Z+1:=qx ..;show _/\_;rw[hz];let z:IsEnum ((s.o {cls:=.type "tuple_iterator",data:=.fields #[.ref t,.int 0 0]}).push {cls:=.type "enumerate",data:=.fields #[.none,.bool false,.ref s.Z,rawInt 0,.none,.none]}) Û s.Z 0 .none:=by
  let q:=ib (s.o {cls:=.type "tuple_iterator",data:=.fields #[.ref t,.int 0 0]}) (o:={cls:=.type "enumerate",data:=.fields #[.none,.bool false,.ref s.Z,rawInt 0,.none,.none]}) rfl;rw[hz] at q;exact q
 exact(⟨_,z,Á⟩,k _ z ⟨_,dv _ (ib _ Á),Á,Á⟩ (by rw[qx,hz]) λb o y=>dv _ (dv _ y))
end XL
end PySem
namespace L2
open PySem PySem.Spec PyProof.Rows
abbrev Key:=Sum Int Str
abbrev eN:=List Key
def rN:Key->Value->Bool
 |.inl k,v=>Value.isInt k v
 |.inr x,v=>Value.isStrOf x v
def acr(w:Wd):Key->Int
 |.inl k=>hashInt k
 |.inr x=>hashStr w x
theorem tG:∀{k:Key}{v:Value},rN k v=true->(∃i t,k=Sum.inl i/\v=Value.int i t)\/(∃x t,k=Sum.inr x/\v=Value.str x t)
 |.inl i,v,h=>by
  let(t,e):=Value.isInt_shape (k:=i) (v:=v) h;exact .inl ⟨i,t,Á,e⟩
 |.inr x,v,h=>by
  let(t,e):=Value.isStrOf_shape (x:=x) (v:=v) h;exact .inr ⟨x,t,Á,e⟩
def acs(i:Int)(t:Tok):rN (.inl i) Âl=true:=by simp[rN,Value.isInt]
def acu(x:Str)(t:Tok):rN (.inr x) (.str x t)=true:=by simp[rN,Value.isStrOf]
def acv(a b:Int):decide ((Sum.inl a:Key)=Sum.inl b)=(a==b):=by
 grind
def acw(a b:Str):decide ((Sum.inr a:Key)=Sum.inr b)=decide (a=b):=by
 simp
def acx(a:Int)(b:Str):decide ((Sum.inl a:Key)=Sum.inr b)=false:=gD (λq=>nomatch q)
def acy(a:Str)(b:Int):decide ((Sum.inr a:Key)=Sum.inl b)=false:=gD (λq=>nomatch q)
def fA(prog:Pg)(w:Wd):PySem.KeyKind prog w Key where
 is:=rN
 hash:=acr w
 inj:=λv a b F z=>by
  rcases tG F with ⟨i,t,rfl,rfl⟩|⟨x,t,rfl,rfl⟩
  .rcases tG z with ⟨j,u,rfl,e⟩|⟨y,u,rfl,e⟩
   .injection e with e1 _;rw[e1]
   .exact nomatch e
  .rcases tG z with ⟨j,u,rfl,e⟩|⟨y,u,rfl,e⟩
   .exact nomatch e
   .injection e with e1 _;rw[e1]
 byValue:=λk v h=>by
  rcases tG h with ⟨i,t,rfl,rfl⟩|⟨x,t,rfl,rfl⟩ <;> rfl
 pyHash:=λq h=>by
  rcases tG q with ⟨i,t,rfl,rfl⟩|⟨x,t,rfl,rfl⟩
  .exact wpAny_pyHash_int h
  .exact wpAny_pyHash_str h
 eqBool:=λJ q h=>by
  rcases tG J with ⟨i,t,rfl,rfl⟩|⟨x,t,rfl,rfl⟩
  .rcases tG q with ⟨j,u,rfl,rfl⟩|⟨y,u,rfl,rfl⟩
   .rw[acv] at h;exact wpAny_eqBool_int h
   .rw[acx] at h;exact SeqAt.EqAt.int_str i t y u _ _ _ _ h
  .rcases tG q with ⟨j,u,rfl,rfl⟩|⟨y,u,rfl,rfl⟩
   .rw[acy] at h;exact SeqAt.EqAt.str_int x t j u _ _ _ _ h
   .rw[acw] at h;exact wpAny_eqBool_str h
 «strs»:=λk x t v h=>by
  rcases tG h with ⟨i,u,rfl,e⟩|⟨y,u,rfl,e⟩
  .exact nomatch e
  .injection e with e1 _;subst e1;cases v <;> rfl
def acz(prog:Pg)(w:Wd)(i:Int)(t:Tok):(fA prog w).is (.inl i) Âl=true:=acs i t
def acA(prog:Pg)(w:Wd)(x:Str)(t:Tok):(fA prog w).is (.inr x) (.str x t)=true:=acu x t
inductive V where
 |aP|bl (b:Bool)|int (i:Int)|str (x:Str)|jK (b:Array UInt8)|Cc (b:UInt64)|ref (a:Addr)|ty (n:String)
 deriving DecidableEq
abbrev az:=List V
def RelV:V->Value->Prop
 |.aP,u=>u=Value.none
 |.bl b,u=>u=Value.bool b
 |.int i,u=>∃t,u=Value.int i t
 |.str x,u=>∃t,u=Value.str x t
 |.jK b,u=>∃t,u=Value.bytes b t
 |.Cc b,u=>∃t,u=Value.float b t
 |.ref a,u=>u=Value.ref a
 |.ty n,u=>u=Value.type n
abbrev bq:az->LV->Prop:=Paired RelV
def bq.length{xs:az}{U:LV}(r:bq xs U):xs.L=U.L:=Paired.length r
theorem bq.get:∀{xs:az}{U:LV}{i:Nat}{x:V},bq xs U->xs[i]? =Α x->∃u,U[i]? =Α u/\RelV x u:=by
 intro xs U i x h;induction h generalizing i with
 |nil=>intro e;simp at e
 |cons r t j=>
  intro e;cases i with
  |zero=>simp at e;subst e;exact(_,Á,r)
  |succ i=>exact j e
theorem bq.append:∀{xs ys:az}{U W:LV},bq xs U->bq ys W->bq (xs++ys) (U++W):=by
 intro xs ys U W j;induction j with
 |nil=>exact @λs=>s
 |cons r t q=>
  intro s;exact .cons r (q s)
theorem bq.take:∀{xs:az}{U:LV}(n:Nat),bq xs U->bq (xs.take n) (U.take n):=by
 intro xs U n h;induction h generalizing n with
 |nil=>cases n <;> exact .nil
 |cons r t j=>
  cases n with
  |zero=>exact .nil
  |succ n=>exact .cons r (j n)
theorem bq.drop:∀{xs:az}{U:LV}(n:Nat),bq xs U->bq (xs.drop n) (U.drop n):=by
 intro xs U n h;induction h generalizing n with
 |nil=>cases n <;> exact .nil
 |cons r t j=>
  cases n with
  |zero=>exact .cons r t
  |succ n=>exact j n
def k9:Option V->Option Value->Prop
 |some v,some u=>RelV v u
 |none,none=>True
 |_,_=>False
def KV{κ:Type}:List (κ×V)->List (κ×Value)->Prop:=Paired λ(p:κ×V)(q:κ×Value)=>p.1=q.1/\RelV p.2 q.2
def kV:Key->V
 |.inl i=>.int i
 |.inr x=>.str x
inductive HO where
 |lst (xs:az)
 |tup (xs:az)
 |dK (kvs:List (Key×V))|dT (kvs:List (eN×V))
 |set (S:Int->Bool) (n:Nat)
 |ins (C dx:Addr) (fs:List (Str×V))
 |own (x:Addr)
 |xd (fs:List (Str×V))
 |met (f x:Addr)
 |tH (lo hi:Int)
 |cQ (o:Obj) (u:HO)
 |j6 (ps:Array Value)
 |ext (φ:Heap->Prop)
abbrev Hp:=Addr->Option HO
def upd(H:Hp)(a:Addr)(o:HO):Hp:=λb=>if b=a then some o else H b
def au{H:Hp}{a:Addr}{o:HO}:ŭ o a=Α o:=by ext upd;rw[ai rfl]
def aA{H:Hp}{a b:Addr}{o:HO}(h:b≠a):ŭ o b=H b:=by ext upd;rw[ah h]
def Sn{H:Hp}{a b:Addr}{o u:HO}(h:H a=Α o)(h':H b=Α u)(d:o≠u):a≠b:=by
 af
def eS{H:Hp}{a b:Addr}{o:HO}(h:H a=Α o)(h':H b=Β):a≠b:=by
 af
section
variable(P:Pg)(w:Wd)
def gv(H:Hp)(h:Heap)(a:Addr):HO->Prop
 |.lst xs=>xs.L<=sizeLine/\∃(j:LV)(n:Nat),bq xs j/\h.I a=Α {cls:=.type "list",data:=.seq j.toArray n}
 |.tup xs=>xs.L<=sizeLine/\∃j:LV,bq xs j/\IsTup h a j.toArray
 |.dK kvs=>kvs.L<=sizeLine/\(a==sysModules)=false/\∃vs,KV kvs vs/\h.DictOf Ãg a vs
 |.dT kvs=>kvs.L<=sizeLine/\(a==sysModules)=false/\∃xs:List (eN×Addr×Value),
   Paired (λ(p:eN×V)(q:eN×Addr×Value)=>p.1=q.1/\H q.2.1=Α (.tup (p.1.M kV))/\RelV p.2 q.2.2) kvs xs/\
   ∃o es ep,h.I a=Α o/\o.ExactDict/\o.data=.dict es ep/\es.toList=xs.M (entryOfKey Èd)/\(xs.M (·.1)).Nodup
 |.set S n=>h.SetOf (intKind P w) a S n
 |.ins C dx fs=>H dx=Α (.own a)/\fs.L<=1000/\dx≠a/\h.I a=Α Ãk/\
   ∃mA,h.Ns1 dx mA/\(∀f,k9 Át (mA f))/\PySem.Within mA (fs.M (·.1))
 |.own _=>∃o,h.I a=Α o
 |.xd fs=>∃mA,h.Ns1 a mA/\∀f,k9 Át (mA f)
 |.tH lo hi=>∃t u v,h.I a=Α {cls:=.type "range",data:=.fields #[.int lo t,.int hi u,.int 1 v]}
 |.cQ o u=>h.I a=Α o/\gv H h a u
 |.j6 ps=>h.I a=Α {cls:=.none,data:=.fields ps}
 |.met f x=>h.I a=Α (PySem.W.methodObj ď ŧ)
 |.ext φ=>φ h/\(∃o,h.I a=Α o)/\∀z h2:Heap,φ z->(∀o,z.I a=Α o->h2.I a=Α o)->φ h2
def fc(H:Hp)(h:Heap):Prop:=∀a o,H a=Α o->Áj o
end
theorem gv.lt(x:Áj o):a<h.O:=by
 cases o with
 |lst xs=>let(_,_,_,_,e):=x;exact di e
 |tup xs=>let(_,_,_,p):=x;exact p.lt
 |dK kvs=>let(_,_,_,_,o,_,_,e,_):=x;exact di e
 |dT kvs=>let(_,_,_,_,o,_,_,e,_):=x;exact di e
 |set S n=>let(o,_,_,_,e,_):=x;exact di e
 |ins C dx fs=>let(_,_,_,e,_):=x;exact di e
 |own y=>let(_,e):=x;exact di e
 |xd fs=>let(_,(_,_,_,e,_),_):=x;exact di e
 |tH lo hi=>let(_,_,_,e):=x;exact di e
 |cQ O u=>let(e,_):=x;exact di e
 |j6 ps=>exact di (show h.I a=Α _ from x)
 |met f y=>exact di (show h.I a=Α _ from x)
 |ext φ=>let(_,(_,e),_):=x;exact di e
theorem Paired.ot{α β:Type}{F G:α->β->Prop}:∀{l₁:List α}{l₂:List β},Paired F l₁ l₂->(∀a b,F a b->G a b)->Paired G l₁ l₂:=by
 intro l₁ l₂ j;induction j with
 |nil=>exact @λ_=>.nil
 |cons r t q=>
  intro f;exact .cons (f _ _ r) (q f)
theorem gv.rO(x:Áj o)(k:∀b u,(b=a\/H b=Α (.own a))->h.I b=Α u->h'.I b=Α u)(J:∀b,H b=Α (.own a)->H' b=Α (.own a)) (M:∀b xs,H b=Α Ào->H' b=Α Ào):gv P w H' h' a o:=by
 induction o with
 |lst xs=>let(z,j,n,r,e):=x;exact(z,j,n,r,k _ _ ĝ e)
 |tup xs=>let(z,j,r,O,e,c):=x;exact(z,j,r,O,k _ _ ĝ e,c)
 |dK kvs=>let(z,y,vs,r,O,es,ep,e,c):=x;exact(z,y,vs,r,O,es,ep,k _ _ ĝ e,c)
 |dT kvs=>
  let(z,y,xs,r,O,es,ep,e,c):=x;exact(z,y,xs,Paired.ot r λp q z=>⟨z.1,M _ _ z.2.1,z.2.2⟩,O,es,ep,k _ _ ĝ e,c)
 |set S n=>let(O,es,ep,t,e,c):=x;exact(O,es,ep,t,k _ _ ĝ e,c)
 |ins C dx fs=>
  let(d,z,ne,e,mA,(od,es,ep,F,c),r):=x;exact(J _ d,z,ne,k _ _ ĝ e,mA,⟨od,es,ep,k _ _ (.inr d) F,c⟩,r)
 |own y=>let(O,e):=x;exact(O,k _ _ ĝ e)
 |xd fs=>let(mA,(od,es,ep,e,c),r):=x;exact(mA,⟨od,es,ep,k _ _ ĝ e,c⟩,r)
 |tH lo hi=>let(t,u,v,e):=x;exact(t,u,v,k _ _ ĝ e)
 |cQ O u U=>let(e,q):=x;exact(k _ _ ĝ e,U q)
 |j6 ps=>
  let e:h.I a=Α {cls:=.none,data:=.fields ps}:=x;show h'.I a=Α {cls:=.none,data:=.fields ps};symm
 |met f y=>
  let e:h.I a=Α (PySem.W.methodObj ď (.ref y)):=x;show h'.I a=Α (PySem.W.methodObj ď (.ref y));symm
 |ext φ=>let(p,(o,e),st):=x;exact(st _ _ p λo q=>k _ _ ĝ q,⟨o,k _ _ ĝ e⟩,st)
def fc.lt(x:ķ h)(e:H a=Α o):a<h.O:=(x a o e).lt
theorem fc.fresh(x:ķ h)(e:h.O<=a):H a=Β:=by
 cases q:H a with
 |none=>rfl
 |some u=>exact absurd (j4 (x.lt q) e) (nr _)
def fc.kept(x:ķ h)(k:∀b u,h.I b=Α u->h'.I b=Α u):ķ h':=λa o e=>
 (x a o e).rO (λb u _ q=>k b u q) (λ_ q=>q) λ_ _ q=>q
def fc.laid(x:ķ h)(k:∀b u,h.I b=Α u->h'.I b=Α u)(z:h.O<=a)(new:gv P w (ŭ o) h' a o):fc P w (ŭ o) h':=λb u e=>by
 let hn:=x.fresh z;by_cases j:b=a
 .subst j;rw[au] at e;cases e;exact new
 .rw[aA j] at e;exact(x b u e).rO (λc v _ q=>k c v q) (λc q=>by rw[aA Åb];exact q) λc xs q=>by rw[aA Åb];exact q
def Rd(H:Hp)(a:Addr)(u:HO):Prop:=H a=Α u\/∃o,H a=Α Éq
def Rd.ok(r:Rd H a u)(x:ķ h):Áj u:=by
 rcases r with r|⟨o,r⟩
 .exact x a u r
 .let(_,q):=x a _ r;exact q
def vj:Option HO->Prop
 |some (.lst _)=>True
 |some (.dK _)=>True
 |some (.dT _)=>True
 |some (.set _ _)=>True
 |some (.ins _ _ _)=>True
 |some (.ext _)=>True
 |_=>False
def fc.write(ok:ķ h)(M:vj (H x))(Y:e=x\/H e=Α Åu)(k:∀b u,b≠e->h.I b=Α u->h'.I b=Α u)(U:∃u,h'.I e=Α u)(new:gv P w (upd H x o') h' x o'):fc P w (upd H x o') h':=λb u q=>by
 let j:∀c y,H c=Α (.own y)->c≠x:=λc y r z=>by subst z;rw[r] at M;exact M
 let F:∀c xs,H c=Α Ào->c≠x:=λc xs r z=>by subst z;rw[r] at M;exact M
 by_cases J:b=x
 .subst J;rw[au] at q;cases q;exact new
 .rw[aA J] at q;by_cases W:b=e
  .let O:H b=Α Åu:=by
    symm
   rw[q] at O;cases O;let(v,Z):=U;exact(v,by simp_all)
  .apply(ok b u q).rO (λc v hc r=>k c v ?_ r) (λc r=>by rw[aA (j c b r)];exact r) λc xs r=>by rw[aA (F c xs r)];exact r
   grind
structure Un(fs ex:LA)(H H':Hp)(h h':Heap):Prop where
 keep:∀b o,h.I b=Α o->H b=Β->b∉fs->b∉ex->h'.I b=Α o
 slot:∀b o,h.I b=Α o->H b=Β->b∈fs->b∉ex->∃sl,h'.I b=Α {o with slots:=sl}
 free:∀b o,h.I b=Α o->H b=Β->b∉ex->H' b=Β
 there:∀b o,h.I b=Α o->b∉ex->∃o',h'.I b=Α o'
 vk:∀b xs,H b=Α Ào->H' b=Α Ào
 rP:∀b o u,H b=Α Éq->H' b=Α Éq
 vm:∀b ps,H b=Α (.j6 ps)->∃mz,H' b=Α (.j6 (ps++mz))
def Un.any(u:Un fs ex H H1 h h1){b:Addr}{O:Obj}(q:h.I b=Α O)(n:H b=Β)(z:b∉ex):∃sl,h1.I b=Α {O with slots:=sl}:=by
 by_cases j:b∈fs
 .exact u.slot b O q n j z
 .exact(O.slots,u.keep b O q n j z)
def Un.kept(k:∀b u,h.I b=Α u->h'.I b=Α u):Un fs ex H H h h':=
 ⟨λb O q _ _ _=>k b O q,λb O q _ _ _=>⟨O.slots,k b O q⟩,λ_ _ _ n _=>n,λb O q _=>⟨O,k b O q⟩,λ_ _ q=>q,λ_ _ _ q=>q,λ_ ps q=>⟨#[],by rw[q];simp⟩⟩
def Un.refl:Un fs ex H H h h:=Un.kept λ_ _ q=>q
def Un.laid(k:∀b u,h.I b=Α u->h'.I b=Α u)(j:h.O<=a)(hn:H a=Β):Un fs ex H (ŭ o) h h' where
 keep:=λb u q _ _ _=>k b u q
 slot:=λb u q _ _ _=>⟨u.slots,k b u q⟩
 free:=λb u q n _=>by rw[aA (fV (j4 (di q) j))];exact n
 there:=λb u q _=>⟨u,k b u q⟩
 vk:=λb xs q=>by rw[aA Åb];exact q
 rP:=λb u xs q=>by rw[aA Åb];exact q
 vm:=λb ps q=>⟨#[],by rw[aA Åb,q];simp⟩
def Un.write(M:vj (H x))(U:e=x\/H e=Α Åu)(k:∀b u,b≠e->h.I b=Α u->h'.I b=Α u)(O:∃u,h'.I e=Α u):Un fs ex H (upd H x o) h h':=by
 let J:∀b,H b=Β->b≠x:=λb n z=>by subst z;rw[n] at M;exact M
 let F:∀b,H b=Β->b≠e:=λb n z=>by
  symm
 let j:∀b u,H b=Α u->¬vj Éf->b≠x:=λb u q nm z=>by subst z;rw[q] at M;exact nm M
 apply⟨λb u q n _ _=>k b u (F b n) q,λb u q n _ _=>⟨u.slots,k b u (F b n) q⟩,λb u q n _=>by rw[aA (J b n)];exact n,λb u q _=>?_,
  λb xs q=>by rw[aA (j b _ q λz=>z)];exact q,λb u xs q=>by rw[aA (j b _ q λz=>z)];exact q,λb ps q=>⟨#[],by rw[aA (j b _ q λz=>z),q];simp⟩⟩
 grind
def Fz(h:Heap)(H:Hp):LA:=(List.range h.O).J λa=>(H a).isSome
def vo(h:Heap)(H:Hp):Heap:=PySem.W.hideAll h (Fz h H)
def acD(h:Heap)(H:Hp):(vo h H).O=h.O:=PySem.W.hideAll_size _ _
def acE(e:h.I b=Α o)(n:H b=Β):(vo h H).I b=Α o:=
 PySem.W.hideAll_get _ e λj=>by
  let q:(H b).isSome=true:=(iA.mp j).2;rw[n] at q;simp at q
def acF(e:(vo h H).I b=Α o):h.I b=Α o/\H b=Β:=by
 let j:h.I b=Α o:=PySem.W.of_hideAll (Fz h H) e;apply(j,?_);cases q:H b with
 |none=>rfl
 |some x=>
  let F:b∈Fz h H:=iA.mpr ⟨u9.mpr (di j),by simp[q]⟩;let z:(vo h H).I b=Β:=PySem.W.hideAll_none (Fz h H) F;symm
structure Mod(K:FR)(mg:MG)(base:Heap):Prop where
 wK:K.In base
 glob:base.Ns mainGlobals mg
 blt:∃mb,base.Ns builtinsNs mb/\∀x:Str,x≠"__name__"->mb x=bootBuiltins x
 nolimit:base.NoLimit
structure Cx where
 prog:Program
 w:World
 K:FR
 mg:Str->Option Value
 base:Heap
 A:Around
 N:LS
 jL:Shared
 yp:Hp
 env:Env
 outer:List Env
 stack:List Env
 ex:LA
 fn:Str->Bool
 calm:Bool
 pn:cf
 xe:VP
def pE(l:List Env):LA:=l.filterMap (·.frame)
abbrev Cx.fs(X:Cx):LA:=pE X.outer
def yq(j:Scope)(x:Str):Prop:=j.names.Q x=Α .local\/j.names.Q x=Α .cell\/j.names.Q x=Α .free
def Loc(j:Scope)(x:Str):Prop:=j.names.Q x=Α .local\/j.names.Q x=Α .cell
def Look(env:Env)(h:Heap)(m:MG)(x:Str)(u:Value):Prop:=
 (env.kindOf x=Α .local/\m x=Α u)\/((env.kindOf x=Α .cell\/env.kindOf x=Α .free)/\∃c,env.cells.Q x=Α c/\h.IsCell c Éf)
structure Cx.Ok(X:Cx):Prop where
 mod:Mod X.K X.mg X.base
 kind:X.env.scope.kind=.function
 glob:X.env.globals=mainGlobals
 blt:X.env.builtins=builtinsNs
 above:X.jL.Z<=X.env.locals
 inj:∀x y c,X.env.cells.Q x=Α c->X.env.cells.Q y=Α c->x=y
 has:∀x,(X.env.kindOf x=Α .cell\/X.env.kindOf x=Α .free)->∃c,X.env.cells.Q x=Α c
 Ad:∀x c,X.fn x=true->X.env.cells.Q x=Α c->X.jL.Z<=c
 hd:X.calm=true->X.A.handled=Β
 frames:X.A.frames=Α X.stack
 Cf:X.stack=X.outer\/(X.stack=X.env::X.outer/\X.env.frame=Α X.env.locals)
 Cg:∀b∈X.ex,b≠X.env.locals/\∀x c,X.env.cells.Q x=Α c->c≠b
 bs:∀b o,X.base.I b=Α o->X.jL.U b=Α o/\X.yp b=Β
 rQ:X.base.O<=X.jL.Z
 Ae:∀b o,X.base.I b=Α o->b∉X.ex
 Af:∀b∈X.ex,b∉X.fs
 pF:X.jL.H.FunFrames X.base X.outer
 wL:∀b∈X.fs,X.yp b=Β
structure Inv(X:Cx)(pins:cf)(σ:List (Option V))(H:Hp)(s:Sh):Prop where
 ok:X.Ok
 os:s.os=X.jL.os
 bare:AllBare s.gens
 base:Un X.fs X.ex X.yp H X.jL.H s.H
 loc:∃m,s.H.Ns X.env.locals m/\∀(i:Nat)(x:Str)(v:V),X.N[i]? =Α x->σ[i]? =Α Åo->yq X.env.scope x->∃u,RelV v u/\Look X.env s.H m x u
 cell:∀x c,X.env.cells.Q x=Α c->∃v,s.H.IsCell c v
 free:H X.env.locals=Β
 ny:∀x c,X.env.cells.Q x=Α c->H c=Β
 pin:∀p∈X.pn++pins,s.U p.1=Α p.2/\H p.1=Β/\p.1≠X.env.locals/\p.1∉X.fs/\∀v,p.2.data≠ .cell v
 aE:Àg H s.H
 len:σ.L=X.N.L
section
variable{X:Cx}{pins:cf}{σ:List (Option V)}{H H':Hp}{s:Sh}{h':Heap}
def Cx.Ok.acG(ok:X.Ok)(e:X.base.I b=Α o):b∉X.fs:=λj=>by
 let:=(ok.pF.mem j).1;symm
def Inv.bs(I:Ã H s):∀b o,X.base.I b=Α o->s.U b=Α o/\H b=Β:=λb o e=>
 ⟨I.base.keep b o (I.ok.bs b o e).1 (I.ok.bs b o e).2 (I.ok.acG e) (I.ok.Ae b o e),I.base.free b o (I.ok.bs b o e).1 (I.ok.bs b o e).2 (I.ok.Ae b o e)⟩
def Inv.bk(I:Ã H s):∀b o,X.base.I b=Α o->s.U b=Α o:=λb o e=>(I.bs b o e).1
def Inv.mod(I:Ã H s):Mod X.K X.mg X.base:=I.ok.mod
def Inv.gE(I:Ã H s):X.K.In s.H:=I.ok.mod.wK.keeps I.bk
def Inv.fr(I:Ã H s):∃m,Fr X.base X.env.locals s.H m:=
 let ⟨m,hn,_⟩:=I.loc
 ⟨m,hn,I.bk,gq I.ok.rQ I.ok.above⟩
def Inv.lt(I:Ã H s):X.env.locals<s.Z:=let ⟨_,hn,_⟩:=I.loc;hn.lt
def Inv.sz(I:Ã H s):X.jL.Z<=s.Z:=gq I.ok.above (tp I.lt)
def Inv.acH(I:Ã H s)(h:s.Z<=a):a∉X.fs:=λj=>by
 let(_,o,q,_):=I.ok.pF.mem j;exact absurd (j4 (di q) (gq I.sz h)) (nr _)
def Inv.yr(I:Ã H s):∀x c,X.env.cells.Q x=Α c->c≠X.env.locals:=λx c e z=>by
 let(v,o,j,hd):=I.cell x c e;let(m,(O,es,ep,q,J,_),_):=I.loc;symm
def Inv.pF(I:Ã H s):s.H.FunFrames X.base X.outer:=by
 let all:∀(l:List Env),(∀b∈pE l,b∈X.fs)->X.jL.H.FunFrames X.base l->s.H.FunFrames X.base l:=by
  intro l;induction l with
  |nil=>intro _ _;trivial
  |cons env r U=>
   intro hs J;let(hk,(L,o,F,M,O,hd),hr):=J;let j:L∈X.fs:=hs L (by ext pE;rw[BW,F];exact eP);let(sl,e):=I.base.slot L o O (I.ok.wL L j) j λz=>I.ok.Af L z j;exact(hk,⟨L,_,F,M,e,hd⟩,U (λb q=>hs b (by ext pE;rw[BW,F];exact aL _ q)) hr)
 exact all X.outer (λ_ q=>q) I.ok.pF
def Inv.stack(I:Ã H s):s.H.FunFrames X.base X.stack:=by
 rcases I.ok.Cf with e|⟨e,j⟩
 .rw[e];exact I.pF
 .rw[e];let(m,q,_):=I.loc;apply .cons (by rw[I.ok.kind];decide) j q ?_ I.pF;exact Rz (gq I.ok.rQ I.ok.above)
def Inv.J5(I:Ã H s):∀b∈pE X.stack,b∈X.env.locals::X.fs:=λb j=>by
 rcases I.ok.Cf with e|⟨e,q⟩
 .symm
 .rw[e] at j;delta pE at j;rw[BW,q] at j;exact j
def Inv.FA(I:Ã H s):∀b∈pE X.stack,H b=Β:=λb j=>by
 rcases a9.mp (I.J5 b j) with e|j
 .rw[e];exact I.free
 .let(_,o,q,_):=I.ok.pF.mem j;exact I.base.free b o q (I.ok.wL b j) λz=>I.ok.Af b z j
def Inv.step{g':Array GenState}{t':Nat}{d':Drawn}{ch:LA}(I:Ã H s)(M:∀b∈ch,(b∈X.ex\/X.jL.Z<=b)/\b≠X.env.locals/\(∀x c,X.env.cells.Q x=Α c->c≠b)/\∀p∈X.pn++pins,p.1≠b)(keep:∀b o,b≠X.env.locals->b∉X.fs->b∉ch->s.U b=Α o->H b=Β->h'.I b=Α o)(slot:∀b o,b≠X.env.locals->b∈X.fs->b∉ch->s.U b=Α o->H b=Β->∃sl,h'.I b=Α {o with slots:=sl}) (free:∀b o,b∉ch->s.U b=Α o->H b=Β->H' b=Β)(there:∀b o,b∉ch->s.U b=Α o->∃O,h'.I b=Α O)(vk:∀b xs,H b=Α Ào->H' b=Α Ào) (rP:∀b o u,H b=Α Éq->H' b=Α Éq) (vm:∀b ps,H b=Α (.j6 ps)->∃mz,H' b=Α (.j6 (ps++mz)))(ns:∀m,s.H.Ns X.env.locals m->h'.Ns X.env.locals m) (aE:Àg H' h') (hg:AllBare g'):
  Inv X pins σ H' {s with heap:=h',gens:=g',drawn:=d',toks:=t'}:=by
 let Y:∀b o,X.jL.U b=Α o->b≠X.env.locals:=λb o e=>fV Ϻ;let U:∀b o,X.jL.U b=Α o->b∉X.ex->b∉ch:=λb o e hx hb=>by
  rcases(M b hb).1 with z|z
  .symm
  .exact absurd (j4 (di e) z) (nr _)
 let W:∀x c,X.env.cells.Q x=Α c->∀v,s.H.IsCell c v->h'.IsCell c v:=λx c e v ⟨o,F,hd⟩=>by
  let J:c∉ch:=λz=>(M c z).2.2.1 x c e rfl;by_cases hc:c∈X.fs
  .let(sl,q):=slot c o (I.yr x c e) hc J F Çw;exact(_,q,hd)
  .exact(o,keep c o (I.yr x c e) hc J F Çw,hd)
 apply(I.ok,I.os,hg,⟨λb o e n hb hx=>?_,λb o e n hb hx=>?_,λb o e n hx=>?_,λb o e hx=>?_,λb xs e=>vk b xs (I.base.vk b xs e),λb o xs e=>rP b o xs (I.base.rP b o xs e),λb ps e=>?_⟩,?_,λx c e=>?_,?_,λx c e=>?_,λp hp=>?_,aE,I.len)
 .exact keep b o (Y b o e) hb (U b o e hx) Ái Ϭ
 .let(sl,j):=I.base.slot b o e n hb hx;let(sl',Z):=slot b _ (Y b o e) hb (U b o e hx) j Ϭ;symm
 .let(O,j):=I.base.there b o e hx;exact free b O (U b o e hx) j Ϭ
 .let(O,j):=I.base.there b o e hx;symm
 .let(m1,j):=I.base.vm b ps e;grind
 .let(m,hn,hl):=I.loc;apply(m,ns m hn,λi x v j Z e3=>?_);let(u,r,l):=hl i x v j Z e3;apply(u,r,?_);rcases l with l|⟨k,c,e,z⟩
  .exact .inl l
  .exact .inr ⟨k,c,e,W x c e _ z⟩
 .let(v,z):=I.cell x c e;grind
 .let(m,(o,_,_,F,_),_):=I.loc;exact free _ o (λz=>(M _ z).2.1 Á) F I.free
 .let(v,o,F,hd):=I.cell x c e;exact free c o (λz=>(M c z).2.2.1 x c e Á) F Çw
 .let(e,n,ne,nf,d):=I.pin p hp;let J:p.1∉ch:=λz=>(M p.1 z).2.2.2 p hp rfl;exact(keep p.1 p.2 ne nf J e n,free p.1 p.2 J e n,ne,nf,d)
def Inv.un{t':Nat}(I:Ã H s)(u:Un X.fs [] H H' s.H h')(aE:Àg H' h'):Ã H' {s with heap:=h',toks:=t'}:=by
 let(m,(o,es,ep,q,r),_):=id I.loc;let(sl,F):=u.any q I.free Ä;exact I.step (g':=s.gens) (d':=s.drawn) (ch:=[]) (λ_ z=>nomatch z) (λb o _ j _ e n=>u.keep b o e n j Ä) (λb o _ j _ e n=>u.slot b o e n j Ä) (λb o _ e n=>u.free b o e n Ä) (λb o _ e=>u.there b o e Ä) u.vk u.rP u.vm (λY J=>by
  let(Z,M,W,O,U):=J;rw[q] at O;cases O;exact(_,M,W,F,U)) aE I.bare
def Inv.call{g':Array GenState}{t':Nat}{d':Drawn}{ch:LA}(I:Ã H s)(u:Un (pE X.stack) ch H H' s.H h')(aE:Àg H' h')(M:AllBare g')(F:∀b∈ch,(b∈X.ex\/X.jL.Z<=b)/\b≠X.env.locals/\(∀x c,X.env.cells.Q x=Α c->c≠b)/\∀p∈X.pn++pins,p.1≠b):
  Inv X pins σ H' {s with heap:=h',gens:=g',drawn:=d',toks:=t'}:=by
 let(m,(o,es,ep,q,r),_):=id I.loc;let(sl,j):=u.any q I.free λz=>(F _ z).2.1 rfl;exact I.step (ch:=ch) F (λb o j J hc e n=>u.keep b o e n (λz=>(a9.mp (I.J5 b z)).elim j J) hc) (λb o _ _ hc e n=>u.any e n hc) (λb o hc e n=>u.free b o e n hc) (λb o hc e=>u.there b o e hc) u.vk u.rP u.vm (λm' U=>by
  let(o',W,Z,O,Y):=U;rw[q] at O;cases O;exact(_,W,Z,j,Y)) aE M
def Inv.turned{t':Nat}{j:Addr}(I:Ã H s)(k:∀b o,b≠j->s.U b=Α o->h'.I b=Α o)(U:H j=Β)(F:j≠X.env.locals)(J:j∈X.ex\/X.jL.Z<=j) (h2:∀x c,X.env.cells.Q x=Α c->c≠j) (M:∀p∈X.pn++pins,p.1≠j):Ã H {s with heap:=h',toks:=t'}:=by
 let W:∀b u,H b=Α u->b≠j:=λb u e z=>by rw[z,U] at e;cases e
 refine I.step (g':=s.gens) (d':=s.drawn) (ch:=[j]) ē (λb o _ _ hc e _=>k b o (λz=>hc (by simp[z])) e) (λb o _ _ hc e _=>⟨o.slots,k b o (λz=>hc (by simp[z])) e⟩) (λ_ _ _ _ n=>n)
  (λb o hc e=>⟨o,k b o (λz=>hc (by simp[z])) e⟩) (λ_ _ e=>e) (λ_ _ _ e=>e) (λb ps e=>⟨#[],by rw[e];simp⟩) (λm O=>?_) (λb u e=>?_) I.bare
 .let e:b=j:=by simpa using hb
  subst e;exact(J,F,h2,M)
 .let(o,es,ep,Y,r):=O;exact(o,es,ep,k _ o (eF F) Y,r)
 .refine(I.aE b u e).rO Ân (λ_ q=>q) λ_ _ q=>q;rcases hc with z|z
  .rw[z];exact W b u e
  .exact W c _ z
def Inv.tok(I:Ã H s)(t:Nat):Ã H {s with toks:=t}:=I.un (h':=s.H) (t':=t) Un.refl I.aE
def Inv.kept{t':Nat}(I:Ã H s)(k:∀b u,s.U b=Α u->h'.I b=Α u):Ã H {s with heap:=h',toks:=t'}:=I.un (Un.kept k) (I.aE.kept k)
def Inv.laid{a:Addr}{o:HO}{t':Nat}(I:Ã H s)(k:∀b u,s.U b=Α u->h'.I b=Α u)(j:s.Z<=a)(new:Àf (ŭ o) h' a o):
  Inv X pins σ (ŭ o) {s with heap:=h',toks:=t'}:=I.un (Un.laid k j (I.aE.fresh j)) (I.aE.laid k j new)
def Inv.write{x e:Addr}{o:HO}{t':Nat}(I:Ã H s)(M:vj (H x))(q:e=x\/H e=Α Åu)(k:∀b u,b≠e->s.U b=Α u->h'.I b=Α u)(j:∃u,h'.I e=Α u)(new:Àf (upd H x o) h' x o):Ã (upd H x o) {s with heap:=h',toks:=t'}:=I.un (Un.write M q k j) (I.aE.write M q k j new)
def Inv.weak(I:Ã H s)(F:σ'.L=σ.L)(w:∀(i:Nat)v,σ'[i]? =Α Åo->σ[i]? =Α Åo):Inv X pins σ' H s:=
 ⟨I.ok,I.os,I.bare,I.base,let ⟨m,hn,J7⟩:=I.loc;⟨m,hn,λi x v j q z=>J7 i x v j (w i v q) z⟩,I.cell,I.free,I.ny,I.pin,I.aE,F.R I.len⟩
def Inv.J8(I:Ã H s)(h:∀p∈acI,s.U p.1=Α p.2/\H p.1=Β/\p.1≠X.env.locals/\p.1∉X.fs/\∀v,p.2.data≠ .cell v):Inv X acI σ H s:=
 ⟨I.ok,I.os,I.bare,I.base,I.loc,I.cell,I.free,I.ny,λp j=>(fw.mp j).elim (λz=>I.pin p (wH _ z)) (h p),I.aE,I.len⟩
def J9{N:LS}(F:N.Nodup){i j:Nat}{x:Str}(a:N[i]? =Α x)(b:N[j]? =Α x):i=j:=by
 let(J,q):=bp.mp a;let(h2,z):=bp.mp b;exact(aaX F).mp (q.R z.symm)
def Sq{E:VP}{Q:Unit->Shared->Prop}(I:Ã H s)(hN:X.N.Nodup)(hi:X.N[i]? =Α x)(hx:Loc X.env.scope x)(r:RelV v u)(h:∀s',Inv X pins ń H s'->(∃a,Heap.SameBut a s.H s'.H/\(a=X.env.locals\/X.env.cells.Q x=Α a))->Q () s') (hf:X.fn x=true\/X.env.scope.names.Q x=Α .local:=by first|exact .inl Á|exact .inr Á|assumption):ϐ (storeName X.env x u) Q E s:=by
 let(m,hn,hl):=id I.loc;let Ca:(X.env.scope.kind== .class||(X.env.scope.kind== .module&&X.env.locals !=X.env.globals))=false:=by rw[I.ok.kind];rfl
 let W:i<σ.L:=by rw[I.len];exact(bp.mp hi).1
 let yr:=I.yr;let U:∀{a:Addr}{h':Heap},(∃o,s.U a=Α o/\H a=Β)->Heap.SameBut a s.H h'->Àg H h':=λ{a h'}ha hs b ob e=>by
  let(_,_,FB):=ha;apply(I.aE b ob e).rO (λc w' hc q=>(hs.2 c ?_).R q) (λ_ q=>q) λ_ _ q=>q
  af
 rcases hx with hk|hk
 .apply wpAny_storeName_local hk hn (λh' Sr hs=>?_) Ca;let(oL,_,_,hoL,_):=id hn;apply h _ ⟨I.ok,I.os,I.bare,⟨λb o e n hb hx=>?_,λb o e n hb hx=>?_,I.base.free,λb o e hx=>?_,I.base.vk,I.base.rP,I.base.vm⟩,⟨_,Sr,λj y v' F J Z=>?_⟩,λy c e=>?_,I.free,I.ny,λp hp=>?_,U ⟨oL,hoL,I.free⟩ hs,by simpa using I.len⟩ ⟨_,hs,.inl Á⟩
  .exact(hs.2 b (fV Ϻ)).R Ái
  .let(sl,F):=I.base.slot b o e n hb hx;exact(sl,(hs.2 b (fV Ϻ)).R F)
  .let(o',F):=I.base.there b o e hx;exact(o',(hs.2 b (fV Ϻ)).R F)
  .by_cases O:j=i
   .subst O;rw[hi] at F;cases F;rw[aaY W] at J;cases J;exact(u,r,.inl ⟨hk,by simp⟩)
   .rw[aaZ (eF O)] at J;let(u',r',q):=hl j y v' F J Z;apply(u',r',?_);rcases q with ⟨k,e⟩|⟨k,c,e,z⟩
    .apply .inl ⟨k,?_⟩;let:y≠x:=λe=>O (J9 hN F (e▸ hi));symm
    .exact .inr ⟨k,c,e,z.sameBut hs (yr y c e)⟩
  .let(w',z):=I.cell y c e;exact(w',z.sameBut hs (yr y c e))
  .let(e,n,ne,nf,d):=I.pin p hp;exact((hs.2 p.1 ne).R e,n,ne,nf,d)
 .let Ka:X.fn x=true:=by
   symm
  let(c,hc):=I.ok.has x (.inl hk);let(w',z):=I.cell x c hc;apply wpAny_storeName_cell I.ok.kind hk hc z (λh' Ck hs=>?_);let(oc,hoc,aup):=id z;apply h {s with heap:=h'} ⟨I.ok,I.os,I.bare,⟨λb o e n hb hx=>?_,λb o e n hb hx=>?_,I.base.free,λb o e hx=>?_,I.base.vk,I.base.rP,I.base.vm⟩,⟨m,hn.sameBut hs (eF (yr x c hc)),λj y v' F J Z=>?_⟩,λy Y e=>?_,I.free,I.ny,λp hp=>?_,U ⟨oc,hoc,I.ny x c hc⟩ hs,À I.len⟩ ⟨c,hs,.inr hc⟩
  .exact(hs.2 b ϝ).R Ái
  .let(sl,F):=I.base.slot b o e n hb hx;exact(sl,(hs.2 b ϝ).R F)
  .let(o',F):=I.base.there b o e hx;exact(o',(hs.2 b ϝ).R F)
  .by_cases O:j=i
   .subst O;rw[hi] at F;cases F;rw[aaY W] at J;cases J;exact(u,r,.inr ⟨.inl hk,c,hc,Ck⟩)
   .rw[aaZ (eF O)] at J;let(u',r',q):=hl j y v' F J Z;apply(u',r',?_);rcases q with q|⟨k,Y,e,z'⟩
    .exact .inl q
    .apply .inr ⟨k,Y,e,z'.sameBut hs ?_⟩;rintro rfl;exact O (J9 hN F (I.ok.inj _ _ _ e hc▸ hi))
  .by_cases jM:Y=c
   .grind
   .let(w2,z2):=I.cell y Y e;exact(w2,z2.sameBut hs jM)
  .let(e,n,ne,nf,d):=I.pin p hp;apply((hs.2 p.1 ?_).R e,n,ne,nf,d);grind
def FC(I:Ã H s)(q:X.N.Nodup)(hi:X.N[i]? =Α x)(F:Loc X.env.scope x)(r:RelV v u)(h:∀s',Inv X pins ń H s'->Q () s') (z:X.fn x=true\/X.env.scope.names.Q x=Α .local:=by first|exact .inl Á|exact .inr Á|assumption):ϐ (storeName X.env x u) Q E s:=
 Sq I q hi F r (λs' j _=>h s' j) z
def Inv.wN{s':Sh}{ch:LA}(I:Ã H s)(q:s'.os=s.os)(u:Un (pE X.stack) ch H H' s.H s'.H)(aE:Àg H' s'.H)(j:AllBare s'.gens)(z:∀b∈ch,(b∈X.ex\/X.jL.Z<=b)/\b≠X.env.locals/\(∀x c,X.env.cells.Q x=Α c->c≠b)/\∀p∈X.pn++pins,p.1≠b):Ã H' s':=by
 let(h',g',d',t',O):=s';let e:O=s.os:=q;subst e;exact I.call (g':=g') (t':=t') (d':=d') u aE j z
end
abbrev XK:=Value->OA->Hp->Prop
abbrev St:=List (Option V)
abbrev VK:=V->Hp->Prop
abbrev TE:=St->Hp->VK->Prop
abbrev TT:=St->Hp->(Bool->Hp->Prop)->Prop
abbrev TA:=St->Hp->(az->Hp->Prop)->Prop
structure Ends where
 nx:St->Hp->Prop
 rt:VK
 bk:St->Hp->Prop:=λ_ _=>False
 ct:St->Hp->Prop:=λ_ _=>False
abbrev TS:=Ends->St->Hp->Prop
inductive EP(X:Cx)(pins:cf)(σ:St)(Q:VK)(u:Value)(s':Sh):Prop
 |mk (v:V) (H':Hp) (_:Ã H' s') (_:RelV v u) (_:Q v H')
inductive TP(X:Cx)(pins:cf)(σ:St)(Q:Bool->Hp->Prop)(b:Bool)(s':Sh):Prop
 |mk (H':Hp) (_:Ã H' s') (_:Q b H')
inductive AP(X:Cx)(pins:cf)(σ:St)(Q:az->Hp->Prop)(us:LV)(s':Sh):Prop
 |mk (vs:az) (H':Hp) (_:Ã H' s') (_:bq vs us) (_:Q vs H')
inductive WP(X:Cx)(pins:cf)(Q:St->Hp->Prop)(s':Sh):Prop
 |mk (σ':St) (H':Hp) (_:ϳ s') (_:Q σ' H')
def SP(X:Cx)(pins:cf)(D:Ends)(f:Flow)(s':Sh):Prop:=
 match f with
 |.next=>WP X pins D.nx s'
 |.brk=>WP X pins D.bk s'
 |.cont=>WP X pins D.ct s'
 |.ret u=>∃v σ' H',ϳ s'/\RelV v u/\D.rt v H'
def PE(X:Cx)(e:Expr)(t:TE):Prop:=
 ∀(pins:cf)(s:Sh)(σ:St)(H:Hp)(Q:VK),Ã H s->t σ H Q->wpAny È X.A Àm (ô Q) X.xe s
def PT(X:Cx)(e:Expr)(t:TT):Prop:=
 ∀(pins:cf)(s:Sh)(σ:St)(H:Hp)(Q:Bool->Hp->Prop),Ã H s->t σ H Q->wpAny È X.A (isTrue e X.env Àm) Ãj X.xe s
def PW(X:Cx)(e:Expr)(t:TT):Prop:=
 ∀(whole:Sem Value)(pins:cf)(s:Sh)(σ:St)(H:Hp)(Q:Bool->Hp->Prop),Ã H s->t σ H Q->wpAny È X.A (isTrue e X.env whole) Ãj X.xe s
def PW.pt(h:PW X e t):PT X e t:=h _
def PA(X:Cx)(es:List Expr)(t:TA):Prop:=
 ∀(pos:Pos)(pins:cf)(s:Sh)(σ:St)(H:Hp)(Q:az->Hp->Prop),Ã H s->t σ H Q->wpAny È X.A (spliced (backTo pos û)) (AP X pins σ Q) X.xe s
def PS(X:Cx)(st:Stmt)(t:TS):Prop:=
 ∀(pins:cf)(s:Sh)(σ:St)(H:Hp)(D:Ends),Ã H s->t D σ H->wpAny È X.A (exec st X.env) Æe X.xe s
def l7(X:Cx)(st:List Stmt)(t:TS):Prop:=
 ∀(pins:cf)(s:Sh)(σ:St)(H:Hp)(D:Ends),Ã H s->t D σ H->wpAny È X.A (execs st X.env) Æe X.xe s
def aQ{α:Type}{t:Sem α}{Q q:α->Shared->Prop}{M:Model}{A:Around}{E:VP}{s:Sh}(h:ϐ t Q E s)(j:∀a s,Q a s->q a s):ϐ t q E s:=jE h j λ_ _ x=>x
inductive ay(i:Nat)(σ:St)(H:Hp)(Q:VK):Prop
 |mk (v:_) (_:σ[i]? =Α Åo) (_:Q v H)
def tC(v:V):TE:=λ_ H Q=>Q v H
def Ss(j:X.N[i]? =Α x)(M:yq X.env.scope x)(hd:(x==("__debug__":Str))=false:=by decide)(O:(x==("__classdict__":Str))=false:=by decide):PE X Àc (ay i):=by
 show Ú;let(v,e,h):=h;let(m,J,q):=I.loc;let(u,r,l):=q i x v j e M;let fin:ô Q u s:=⟨v,H,I,r,h⟩;rcases l with ⟨hk,z⟩|⟨hk,c,hc,F⟩
 .exact wpAny_Name (wpAny_loadName_local I.ok.kind hk J z fin) hd
 .rcases hk with hk|hk
  .exact wpAny_Name (wpAny_loadName_cell I.ok.kind hk hc F fin) hd
  .exact wpAny_Name (wpAny_loadName_free I.ok.kind hk hc F fin O) hd
def bf{i j pos}:PE X (.Constant Ãm j pos) (tC Ãm):=λ_ _ _ H _ I h=>wpAny_Constant_int ⟨.int i,H,I.tok _,⟨_,rfl⟩,h⟩
def vp{b j pos}:PE X (.Constant (.bool b) j pos) (tC (.bl b)):=λ_ _ _ H _ I h=>Constant_bool ⟨.bl b,H,I,rfl,h⟩
def rR{j pos}:PE X (.Constant .none j pos) (tC .aP):=λ_ _ _ H _ I h=>Constant_none ⟨.aP,H,I,rfl,h⟩
def FF{x j pos}:PE X (.Constant Çy j pos) (tC Çy):=λ_ _ _ H _ I h=>Calls.Constant_str ⟨.str x,H,I.tok _,⟨_,rfl⟩,h⟩
def Gl(X:Cx)(x:Str):Prop:=X.env.kindOf x=Α .globalImplicit
def yt(I:Ã H s)(j:Gl X x)(q:X.mg x=Α u)(h:Q u s)(hd:(x==("__debug__":Str))=false:=by decide):wpAny È X.A (eval Àc X.env) Q E s:=
 att I.ok.kind j (Calls.loadGlobal_global (by rw[I.ok.glob];exact I.mod.glob.keeps I.bk) q h) hd
def wO{E:VP}{pins:cf}{s:Sh}{σ:St}{H:Hp}{x:Str}{u:Value}{pos:Pos}{Q:VP}(I:Ã H s)(q:Gl X x)(z:X.mg x=Β)(J:bootBuiltins x=Α u)(h:Q u s)(F:x≠"__name__":=by decide) (hd:(x==("__debug__":Str))=false:=by decide):wpAny È X.A (eval Àc X.env) Q E s:=by
 let(M,j,h2):=I.mod.blt;exact att I.ok.kind q (Calls.loadGlobal_builtin (by rw[I.ok.glob];exact I.mod.glob.keeps I.bk) z (by rw[I.ok.blt];exact j.keeps I.bk) ((h2 x F).R J) h) hd
def vq(j:Gl X x)(q:X.mg x=Α u)(r:RelV v u)(hd:(x==("__debug__":Str))=false:=by decide):PE X Àc (tC v):=
 λ_ _ _ H _ I h=>yt I j q ⟨v,H,I,r,h⟩ hd
def PC(X:Cx)(op:CmpOp)(a b:Expr)(t:TE):Prop:=
 ∀(pins:cf)(s:Sh)(σ:St)(H:Hp)(Q:VK),Ã H s->t σ H Q->
  wpAny È X.A (eval a X.env) (λv j=>wpAny È X.A (eval b X.env) (λu q=>wpAny È X.A (compareOp op v u) (ô Q) X.xe q) X.xe j) X.xe s
def Su(b:Expr)(h:op≠ .In)(h2:op≠ .NotIn):behindInMarks op b=false:=by
 let j:(op==CmpOp.In)=false:=by cases op <;> first|rfl|exact absurd Á h
 let q:(op==CmpOp.NotIn)=false:=by cases op <;> first|rfl|exact absurd Á h2
 cases b <;> simp[behindInMarks,j,q]
def acL(ta:TE):TE:=λσ H Q=>ta σ H λx H1=>Q (.bl (decide (x=.aP))) H1
def Sv(ta:TE):TE:=λσ H Q=>ta σ H λx H1=>Q (.bl (!decide (x=.aP))) H1
theorem RelV.Sw(r:RelV x v):(v==Value.none)=decide (x=.aP):=by
 cases x with
 |aP=>cases r;rfl
 |bl _=>cases r;rfl
 |int _=>let(t,rfl):=r;rfl
 |str _=>let(t,rfl):=r;rfl
 |jK _=>let(t,rfl):=r;rfl
 |Cc _=>let(t,rfl):=r;rfl
 |ref _=>cases r;rfl
 |ty _=>cases r;rfl
def rS{j mG}(z:ϲ ta):PC X .Is a (.Constant .none j mG) (acL ta):=by
 show Ú;apply aQ (z pins s σ H _ I h) λv M ⟨x,H1,q,J,F⟩=>?_;exact Constant_none (is_none_gen ⟨.bl _,H1,q,by rw[J.Sw];rfl,F⟩)
def Kb{j mG}(z:ϲ ta):PC X .IsNot a (.Constant .none j mG) (Sv ta):=by
 show Ú;apply aQ (z pins s σ H _ I h) λv M ⟨x,H1,q,J,F⟩=>?_;exact Constant_none (isnot_none_gen ⟨.bl _,H1,q,by rw[J.Sw];rfl,F⟩)
inductive Ag(x:V)(q:Bool->Prop):Prop
 |mk (c:Bool) (_:x=.bl c) (_:q c)
def tB(t:TE):TT:=λσ H Q=>t σ H λx H1=>Ag x λc=>Q c H1
def Sx(h:PC X op a b t)(j:behindInMarks op b=false:=by first|exact Su _ Ð (by decide)|rfl):PE X ϡ t:=λpins s σ H Q I hw=>wpAny_Compare1 Ãf j
def pI(h:PC X op a b t)(j:behindInMarks op b=false:=by first|exact Su _ Ð (by decide)|rfl):PT X ϡ (tB t):=by
 intro pins s σ H Q I F;apply wpAny_isTrue_Compare1 (aQ (h pins s σ H _ I F) λv O j=>aQ j λu U h2=>aQ h2 λc W ⟨x,H1,z,M,J⟩=>?_) j;let(d,rfl,q):=J;cases M;exact tq ⟨H1,z,q⟩
def ji(h:ϥ t)(z:∀whole,isTrue e X.env whole=(do let v <-whole;standAt e.pos;holding [v] (truthy v)):=by intro _;rfl):PT X e (tB t):=by
 intro pins s σ H Q I F;apply isTrue_plain (aQ (h pins s σ H _ I F) λv O ⟨x,H1,j,M,J⟩=>?_) (z _);let(d,rfl,q):=J;cases M;exact tq ⟨H1,j,q⟩
def FG(t u:TT):TT:=λσ H Q=>t σ H λc H1=>if c=true then u σ H1 Q else Q false H1
def Kc(t u:TT):TT:=λσ H Q=>t σ H λc H1=>if c=true then Q true H1 else u σ H1 Q
def acM(t:TT):TT:=λσ H Q=>t σ H λc H1=>Q (!c) H1
theorem pw_and1(j:PT X a tA):PW X (.BoolOp .And [a] pos) tA:=by
 intro W pins s σ H Q I h;apply isTrue_and (aQ (j pins s σ H Q I h) λc q e=>?_);cases c with
 |true=>exact isTrue_and_nil e
 |false=>exact e
theorem pw_or1(j:PT X a tA):PW X (.BoolOp .Or [a] pos) tA:=by
 intro W pins s σ H Q I h;apply isTrue_or (aQ (j pins s σ H Q I h) λc q e=>?_);cases c with
 |false=>exact isTrue_or_nil e
 |true=>exact e
theorem pw_and(z:PT X a tA)(F:PW X (.BoolOp .And (b::b9) pos) tB'):PW X (.BoolOp .And (a::b::b9) pos) (FG tA tB'):=by
 intro W pins s σ H Q I h;apply isTrue_and (aQ (z pins s σ H _ I h) λc J ⟨H1,j,q⟩=>?_);cases c with
 |true=>exact F W pins J σ H1 Q j q
 |false=>exact(H1,j,q)
theorem pw_or(z:PT X a tA)(F:PW X (.BoolOp .Or (b::b9) pos) tB'):PW X (.BoolOp .Or (a::b::b9) pos) (Kc tA tB'):=by
 intro W pins s σ H Q I h;apply isTrue_or (aQ (z pins s σ H _ I h) λc J ⟨H1,j,q⟩=>?_);cases c with
 |true=>exact(H1,j,q)
 |false=>exact F W pins J σ H1 Q j q
def qC(z:PT X a tA):PT X (.UnaryOp .Not a pos) (acM tA):=by
 show Ú;exact isTrue_not (aQ (z pins s σ H (λc H1=>Q (!c) H1) I h) λ_ _ ⟨H1,j,q⟩=>⟨H1,j,q⟩)
def Kd(ta tb:TE):TE:=λσ H Q=>ta σ H λx H1=>Ag x λc=>if c=true then tb σ H1 Q else Q (.bl false) H1
def FH(ta tb:TE):TE:=λσ H Q=>ta σ H λx H1=>Ag x λc=>if c=true then Q (.bl true) H1 else tb σ H1 Q
def acN(ta:TE):TE:=λσ H Q=>ta σ H λx H1=>Ag x λc=>Q (.bl (!c)) H1
def rT{op}(h:ϲ t):PE X (.BoolOp op [a] pos) t:=λpins s σ H Q I hw=>BoolOp_one Ãf
def vt(z:ϲ ta)(F:PE X (.BoolOp .And (b::b9) pos) tb):PE X (.BoolOp .And (a::b::b9) pos) (Kd ta tb):=by
 show Ú;apply BoolOp_and (aQ (z pins s σ H _ I h) λv M ⟨x,H1,j,J,q⟩=>?_);let(c,rfl,q):=q;cases J;apply tq ?_;cases c with
 |true=>exact F pins M σ H1 Q j q
 |false=>exact(.bl false,H1,j,Á,q)
def Ke(z:ϲ ta)(F:PE X (.BoolOp .Or (b::b9) pos) tb):PE X (.BoolOp .Or (a::b::b9) pos) (FH ta tb):=by
 show Ú;apply BoolOp_or (aQ (z pins s σ H _ I h) λv M ⟨x,H1,j,J,q⟩=>?_);let(c,rfl,q):=q;cases J;apply tq ?_;cases c with
 |false=>exact F pins M σ H1 Q j q
 |true=>exact(.bl true,H1,j,Á,q)
def Cm(z:ϲ ta):PE X (.UnaryOp .Not a pos) (acN ta):=by
 show Ú;apply UnaryOp_ (aQ (z pins s σ H _ I h) λv J ⟨x,H1,j,F,q⟩=>?_);let(c,rfl,q):=q;cases F;exact not_of (tq ⟨.bl (!c),H1,j,Á,q⟩)
def yu(t:TT)(ta tb:TE):TE:=λσ H Q=>t σ H λc H1=>if c=true then ta σ H1 Q else tb σ H1 Q
theorem tJ(hc:PT X c tA)(F:ϲ ta)(J:PE X b tb):PE X (.IfExp c a b pos) (yu tA ta tb):=by
 show Ú;apply wpAny_IfExp (aQ (hc pins s σ H _ I h) λd z ⟨H1,j,q⟩=>?_);cases d with
 |true=>exact F pins z σ H1 Q j q
 |false=>exact J pins z σ H1 Q j q
def aa(K:FR)(H:Hp)(a:Addr)(xs:az):Prop:=
 Rd H a Àp\/
  ∃(o:Obj)(j:Array Value)(n:Nat),K.Q a=Α o/\o.cls=.type "list"/\o.dict=Β/\o.data=.seq j n/\j.u<=sizeLine/\bq xs j.toList
def bx(K:FR)(H:Hp)(a:Addr)(xs:az):Prop:=
 Rd H a Ào\/
  ∃(o:Obj)(j:Array Value)(n:Nat),K.Q a=Α o/\o.cls=.type "tuple"/\o.data=.seq j n/\j.u<=sizeLine/\bq xs j.toList
def acO:Value->Option V
 |.none=>some .aP
 |.bool b=>some (.bl b)
 |.int i _=>some Ãm
 |.str x _=>some Çy
 |.bytes b _=>some (.jK b)
 |.float b _=>some (.Cc b)
 |.ref a=>some ħ
 |.type n=>some (.ty n)
 |_=>none
theorem RelV.abs(r:RelV x u):acO u=Α x:=by
 cases x with
 |aP=>cases r;rfl
 |bl _=>cases r;rfl
 |int _=>let(t,rfl):=r;rfl
 |str _=>let(t,rfl):=r;rfl
 |jK _=>let(t,rfl):=r;rfl
 |Cc _=>let(t,rfl):=r;rfl
 |ref _=>cases r;rfl
 |ty _=>cases r;rfl
def RelV.inj(r:RelV x u)(q:RelV y u):x=y:=aU (r.abs.symm.R q.abs)
theorem bq.inj:∀{xs ys:az}{U:LV},bq xs U->bq ys U->xs=ys:=by
 intro xs ys U h;induction h generalizing ys with
 |nil=>intro h';cases h';rfl
 |cons r t j=>
  intro h';cases h' with
  |cons q t'=>rw[r.inj q,j t']
section
variable{X:Cx}{pins:cf}{σ:St}{H:Hp}{s:Sh}{a:Addr}{xs ys:az}
def aa.of{K:FR}(h:H a=Α Àp):ä a xs:=.inl (.inl h)
def bx.of{K:FR}(h:H a=Α Ào):š a xs:=.inl (.inl h)
def Inv.list(I:Ã H s)(h:Ák a xs):∃j:LV,bq xs j/\PlainL s.H a j.toArray/\xs.L<=sizeLine:=by
 rcases h with h|⟨o,j,n,hk,hc,hd,hs,hz,r⟩
 .let(z,j,n,r,e):=h.ok I.aE;exact(j,r,⟨_,n,e,Á,Á,Á⟩,z)
 .apply(j.toList,r,⟨o,n,I.gE a o hk,hc,hd,by assumption⟩,?_);let e:=r.L;symm
def Inv.tuple(I:Ã H s)(h:bx X.K H a xs):∃j:LV,bq xs j/\IsTup s.H a j.toArray/\xs.L<=sizeLine:=by
 rcases h with h|⟨o,j,n,hk,hc,hs,hz,r⟩
 .let(z,j,r,p):=h.ok I.aE;exact(j,r,p,z)
 .apply(j.toList,r,⟨o,I.gE a o hk,hc,n,À hs⟩,?_);let e:=r.L;simp only[yi] at e;symm
def Inv.Co(I:Ã H s)(h:Ák a xs)(h':Ák a ys):xs=ys:=by
 let(q,r,(o,n,e,_,_,d),_):=I.list h;let(its',z,(O,F,j,_,_,d'),_):=I.list h';rw[e] at j;cases j;rw[d] at d';injection d' with d1 _;let:q=its':=by simpa using cb Array.toList d1
 subst this;exact r.inj z
def Inv.Sy(I:Ã H s)(h:bx X.K H a xs)(h':bx X.K H a ys):xs=ys:=by
 let(q,r,(o,e,_,n,d),_):=I.tuple h;let(its',z,(O,j,_,F,d'),_):=I.tuple h';rw[e] at j;cases j;rw[d] at d';injection d' with d1 _;let:q=its':=by simpa using cb Array.toList d1
 subst this;exact r.inj z
end
abbrev Cx.i6(X:Cx)(E:VP):Cx:={X with xe:=E}
abbrev Cx.yw(X:Cx):Cx:=X.i6 λ_ _=>False
def Cx.Ok.i6{X:Cx}(ok:X.Ok)(E:VP):(X.i6 E).Ok:=
 ⟨ok.mod,ok.kind,ok.glob,ok.blt,ok.above,ok.inj,ok.has,ok.Ad,ok.hd,ok.frames,ok.Cf,ok.Cg,ok.bs,ok.rQ,ok.Ae,ok.Af,ok.pF,ok.wL⟩
def Cx.Ok.nE{X:Cx}{E:VP}(ok:(X.i6 E).Ok):X.Ok:=
 ⟨ok.mod,ok.kind,ok.glob,ok.blt,ok.above,ok.inj,ok.has,ok.Ad,ok.hd,ok.frames,ok.Cf,ok.Cg,ok.bs,ok.rQ,ok.Ae,ok.Af,ok.pF,ok.wL⟩
section
variable{X:Cx}{pins:cf}{σ:St}{H:Hp}{s:Sh}{E:VP}
def Inv.i6(I:Ã H s)(E:VP):Inv (X.i6 E) pins σ H s:=⟨I.ok.i6 E,I.os,I.bare,I.base,I.loc,I.cell,I.free,I.ny,I.pin,I.aE,I.len⟩
def Inv.nE(I:Inv (X.i6 E) pins σ H s):Ã H s:=⟨I.ok.nE,I.os,I.bare,I.base,I.loc,I.cell,I.free,I.ny,I.pin,I.aE,I.len⟩
theorem SP.nE(h:SP (X.i6 E) pins D f s'):SP X pins D f s':=by
 cases f with
 |next=>let(σ',H',I,q):=h;exact(σ',H',I.nE,q)
 |brk=>let(σ',H',I,q):=h;exact(σ',H',I.nE,q)
 |cont=>let(σ',H',I,q):=h;exact(σ',H',I.nE,q)
 |ret u=>let(v,σ',H',I,r,q):=h;exact(v,σ',H',I.nE,r,q)
def l7.yw{st:List Stmt}{t:TS}(h:l7 X.yw st t):l7 X st t:=λpins s σ H D I j=>
 jE (h pins s σ H D (I.i6 _) j) (λ_ _ q=>q.nE) λ_ _ z=>False.elim z
end
section
variable{X:Cx}{st:Stmt}{b9:List Stmt}{t u:TS}{e:Expr}{te:TE}{pos:Pos}
def Sz:TS:=λD σ H=>D.nx σ H
def Kf(t u:TS):TS:=λD σ H=>t {D with nx:=u D} σ H
def dX:l7 X [] Sz:=λ_ _ σ H _ I h=>Fg ⟨σ,H,I,h⟩
def aD(z:PS X st t)(h2:l7 X b9 u):l7 X (st::b9) (Kf t u):=by
 intro pins s σ H D I h;apply aa2 (aQ (z pins s σ H {D with nx:=u D} I h) λf F q=>?_);cases f with
 |next=>
  let(σ',H',j,q):=q;exact h2 pins F σ' H' D j q
 |ret v=>exact q
 |brk=>exact q
 |cont=>exact q
theorem aB(j:PS X st t):l7 X [st] t:=by
 intro pins s σ H D I h;apply aa2 (aQ (j pins s σ H D I h) λf z q=>?_);cases f with
 |next=>exact Fg q
 |ret v=>exact q
 |brk=>exact q
 |cont=>exact q
def Inv.quiet(I:Ã H s):interactive X.env=false:=by simp[interactive,I.ok.kind]
def acP(te:TE):TS:=λD σ H=>te σ H λ_ H1=>D.nx σ H1
def pJ(q:ϥ te)(hs:swapsWith e none pos.line X.env=pure false:=by rfl):PS X (.Expr e pos) (acP te):=by
 intro pins s σ H D I h;exact wpAny_Expr_any (aQ (q pins s σ H _ I h) λv J ⟨x,H1,j,F,z⟩=>⟨σ,H1,j,z⟩) I.quiet hs
def Cp(te:TE):TS:=λD σ H=>te σ H D.rt
def aX(q:ϥ te):PS X (.Return (some e) pos) (Cp te):=by
 intro pins s σ H D I h;exact wpAny_Return_some (aQ (q pins s σ H _ I h) λv J ⟨x,H1,j,F,z⟩=>⟨x,σ,H1,j,F,z⟩)
def acQ(c:TT)(t u:TS):TS:=λD σ H=>c σ H λb H1=>if b=true then t D σ H1 else u D σ H1
theorem dm(hc:PT X c tc)(F:l7 X a t)(J:l7 X b u):PS X (.If c a b pos) (acQ tc t u):=by
 intro pins s σ H D I h;apply wpAny_If (aQ (hc pins s σ H _ I h) λd z ⟨H1,j,q⟩=>?_);cases d with
 |true=>exact F pins z σ H1 D j q
 |false=>exact J pins z σ H1 D j q
end
abbrev TG:=V->St->Hp->(St->Hp->Prop)->Prop
abbrev Cq:=az->St->Hp->(St->Hp->Prop)->Prop
def PG(X:Cx)(F:Expr)(t:TG):Prop:=
 ∀(pins:cf)(s:Sh)(σ:St)(H:Hp)(v:V)(u:Value)(Q:St->Hp->Prop),Ã H s->RelV v u->t v σ H Q->
  wpAny È X.A (assign F X.env u) (λ_ s'=>WP X pins Q s') X.xe s
def FI(X:Cx)(ts:List Expr)(t:Cq):Prop:=
 ∀(pins:cf)(s:Sh)(σ:St)(H:Hp)(vs:az)(U:LV)(Q:St->Hp->Prop),Ã H s->bq vs U->t vs σ H Q->
  wpAny È X.A (assignInOrder ((assignEach ts X.env).M (·.2)) U) (λ_ s'=>WP X pins Q s') X.xe s
abbrev SA:=V->V->Hp->VK->Prop
def PIp(X:Cx)(op:Operator)(t:SA):Prop:=
 ∀(pins:cf)(s:Sh)(σ:St)(H:Hp)(x y:V)(v u:Value)(Q:VK),Ã H s->RelV x v->RelV y u->t x y H Q->
  wpAny È X.A (inplaceOp op v u) (ô Q) X.xe s
def qD(i:Nat):TG:=λv σ H Q=>Q ń H
def c6(i:Nat)(q:X.N.Nodup)(hi:X.N[i]? =Α x:=by rfl)(F:Loc X.env.scope x:=by first|exact .inl Á|exact .inr Á)(z:X.fn x=true\/X.env.scope.names.Q x=Α .local:=by first|exact .inl Á|exact .inr Á|assumption):PG X Àc (qD i):=by
 intro pins s σ H v u Q I r h;exact wpAny_assign_Name (FC I q hi F r (λs' j=>⟨_,H,j,h⟩) z)
def SB:Cq:=λvs σ H Q=>vs=[]/\Q σ H
inductive Kg(t:TG)(u:Cq)(vs:az)(σ:St)(H:Hp)(Q:St->Hp->Prop):Prop
 |mk (v r:_) (_:vs=v::r) (_:t v σ H λσ' H'=>u r σ' H' Q)
def acS:FI X [] SB:=by
 intro pins s σ H vs U Q I r h;let(e,h):=h;subst e;cases r;exact assignInOrder_nil ⟨σ,H,I,h⟩
def SC(z:PG X e t)(h2:FI X es u)(hs:(assignEach (e::es) X.env).M (·.2)=assign e X.env::(assignEach es X.env).M (·.2):=by rfl):FI X (e::es) (Kg t u):=by
 intro pins s σ H vs U Q I r h;let(v,O,q,h):=h;subst q;cases r with
 |cons r J=>
  rw[hs];apply assignInOrder_cons (aQ (z pins s σ H _ _ _ I r h) λ_ M ⟨σ1,H1,j,F⟩=>?_);exact h2 pins M σ1 H1 _ _ Q j J F
inductive SD(K:FR)(n:Nat)(t:Cq)(v:V)(σ:St)(H:Hp)(Q:St->Hp->Prop):Prop
 |mk (a xs:_) (_:v=.ref a) (_:š a xs) (_:xs.L=n) (_:t xs σ H Q)
def acT{es:List Expr}{k:Nat}{t:Cq}{n:Nat}(hc:X.calm=true)(h:FI X es t)(J:(assignEach es X.env).L=n:=by rfl) (W:(assignEach es X.env).findIdx? (·.1)=Β:=by rfl):PG X (.Tuple es k pos) (SD X.K n t):=by
 intro pins s σ H v u Q I r j;let(a,xs,z,M,F,j):=j;subst z;cases r;let(Z,Y,O,hz):=I.tuple M;apply assign_Tuple_tuple ă O (by simp[J,<-F,Y.length]) W λh' U=>?_;let q:Ã H {s with heap:=h'}:=I.kept (t':=s.toks) λb o e=>U b o Èq e;exact h pins _ σ H xs _ Q q (by assumption) j
abbrev g2(K:FR)(i j:Nat):TG:=SD K 2 (Kg (qD i) (Kg (qD j) SB))
def iB{k:Nat}{p q:Pos}(i j:Nat)(z:X.N.Nodup)(hc:X.calm=true:=by rfl)(hi:X.N[i]? =Α x:=by rfl)(M:X.N[j]? =Α y:=by rfl)(O:Loc X.env.scope x:=by first|exact .inl Á|exact .inr Á)(U:Loc X.env.scope y:=by first|exact .inl Á|exact .inr Á)(F:X.fn x=true\/X.env.scope.names.Q x=Α .local:=by first|exact .inr Á|exact .inl Á) (J:X.fn y=true\/X.env.scope.names.Q y=Α .local:=by first|exact .inr Á|exact .inl Á):PG X (.Tuple [.Name x p,.Name y q] k pos) (g2 X.K i j):=
 acT hc (SC (c6 i z hi O F) (SC (c6 j z M U J) acS))
def Ah(te:TE)(g:TG):TS:=λD σ H=>te σ H λx H1=>g x σ H1 D.nx
def cg(i:Nat)(z:X.N.Nodup)(F:ϥ te)(hi:X.N[i]? =Α x:=by rfl)(M:Loc X.env.scope x:=by first|exact .inl Á|exact .inr Á)(hs:swapsWith e (some (.Name x mG)) pos.line X.env=pure false:=by rfl)(J:X.fn x=true\/X.env.scope.names.Q x=Α .local:=by first|exact .inl Á|exact .inr Á|assumption):
  PS X (.Assign [.Name x mG] e pos) (Ah te (qD i)):=by
 intro pins s σ H D I h;apply wpAny_Assign_Name (aQ (F pins s σ H _ I h) λv W ⟨y,H1,j,U,O⟩=>?_) hs;exact FC j z hi M U (λY q=>⟨_,H1,q,O⟩) J
def acU(i:Nat)(te:TE)(q:SA):TS:=λD σ H=>∃x,σ[i]? =Α (some x)/\te σ H λy H1=>q x y H1 λz j=>D.nx (σ.set i (some z)) j
def SE(Y:X.N.Nodup)(hi:X.N[i]? =Α x)(j:Loc X.env.scope x)(Z:ϥ te)(ho:PIp X op ti)(hf:X.fn x=true\/X.env.scope.names.Q x=Α .local:=by first|exact .inl Á|exact .inr Á|assumption):
  PS X (.AugAssign (.Name x mG) op e pos) (acU i te ti):=by
 intro pins s σ H D I h;let(v,W,h):=h;let(m,hn,hl):=I.loc;let q:yq X.env.scope x:=by rcases j with k|k;exact .inl k;exact .inr (.inl k)
 let(u,r,l):=hl i x v hi W q;apply wpAny_AugAssign_Name ?_;let go:wpAny È X.A Àm (λw s₂=>wpAny È X.A (inplaceOp op u w) (λr s₃=>wpAny È X.A (storeName X.env x r) (λ_=>SP X pins D .next) X.xe s₃) X.xe s₂) X.xe s:=by
  apply aQ (Z pins s σ H _ I h) λw s1 ⟨y,H1,M,r1,q1⟩=>?_;apply aQ (ho pins s1 σ H1 v y u w _ M r r1 q1) λz s2 ⟨zv,J,O,r2,q2⟩=>?_;exact FC O Y hi j r2 (λs3 U=>⟨_,J,U,q2⟩) hf
 rcases l with ⟨hk,hm⟩|⟨hk,c,hc,F⟩
 .exact wpAny_loadName_local I.ok.kind hk hn hm go
 .rcases hk with hk|hk
  .exact wpAny_loadName_cell I.ok.kind hk hc F go
  .rcases j with k|k
   .let:X.env.scope.names.Q x=Α .free:=hk;symm
   .let:X.env.scope.names.Q x=Α .free:=hk;symm
def acW(c:TT)(tb:TS):TS:=λD σ H=>∃W:Nat->St->Hp->Prop,(∃m,W m σ H)/\∀m σ H,W m σ H->
 c σ H λb H1=>if b=true then ∃N:St->Hp->Prop,(∀σ' H',N σ' H'->∃M,M<m/\W M σ' H')/\tb {D with nx:=N,ct:=N,bk:=D.nx} σ H1 else D.nx σ H1
def SG{c:Expr}{pz:List Stmt}{tc:TT}{tb:TS}(hp:PassesOwn È X.A X.env X.xe)(hc:PT X c tc)(hb:l7 X pz tb):PS X (.While c pz [] pos) (acW tc tb):=by
 intro pins s σ H D I h;let(W,(m0,w0),turn):=h;apply wpAny_While (codeAny_whileLoop (λn s'=>∃σ' H',ϳ s'/\W n σ' H') ?_ m0 ⟨σ,H,I,w0⟩);rintro n s1 ⟨σ1,H1,I1,w1⟩;apply BX hp (aQ (hc pins s1 σ1 H1 _ I1 (turn n σ1 H1 w1)) λb s2 ⟨Y,Z,q⟩=>?_);cases b with
 |true=>
  let(N,hN,q):=q;rw[ai rfl];apply BX hp (aQ (hb pins s2 σ1 Y _ Z q) λf s3 z=>?_);cases f with
  |next=>
   let(σ3,j,F,O):=z;let(M,J,U):=hN σ3 j O;exact(M,J,σ3,j,F,U)
  |cont=>
   let(σ3,j,F,O):=z;let(M,J,U):=hN σ3 j O;exact(M,J,σ3,j,F,U)
  |brk=>exact z
  |ret v=>exact z
 |false=>
  rw[ah eO];exact Fg ⟨σ1,Y,Z,q⟩
structure It where
 go:Nat->Hp->Prop
 ox:Nat->Hp->V->Hp->Prop
 stop:Nat->Hp->Prop
def nF(X:Cx)(pins:cf)(H:Hp)(b:Addr):Prop:=
 H b=Β/\b≠X.env.locals/\b∉X.fs/\(b∈X.ex\/X.jL.Z<=b)/\(∀x c,X.env.cells.Q x=Α c->c≠b)/\∀p∈X.pn++pins,p.1≠b
def Inv.wQ(I:Ã H s)(j:s.Z<=b)(F:H' b=Β):ň H' b:=by
 apply(F,u6 (j4 I.lt j),I.acH j,.inr (gq I.sz j),λx c e z=>?_,λp J z=>?_)
 .let(v,q):=I.cell x c e;exact absurd (j4 q.lt Å) (nr _)
 .exact absurd (j4 (di (I.pin p J).1) Å) (nr _)
structure Turn(P:Pg)(w:Wd)(K:FR)(tg:Expr)(J:It)(fp:LA)(it:Addr)(tn:Nat->Heap->Prop):Prop where
 mem:it∈fp
 obj:∀i h,tn i h->∀b∈fp,∃o,h.I b=Α o/\∀v,o.data≠ .cell v
 keep:∀i h h',tn i h->(∀b∈fp,∀o,h.I b=Α o->h'.I b=Α o)->tn i h'
 item:∀(X:Cx),X.prog=P->X.w=w->X.K=K->X.calm=true->∀(i:Nat)(pins:cf)(s:Sh)(σ:St)(H:Hp)(E:VP),Ã H s->(∀b∈fp,ň H b)->tn i s.H->J.go i H->
  wpAny Âe X.A (pyNext Ãq) (λr s1=>∃u,r=Α u/\
   wpAny Âe X.A (letOwnedTupleGo tg Ãq u) (λ_ s2=>∃x H',Ã H' s2/\RelV x u/\J.ox i H x H'/\tn (i+1) s2.H/\∀b∈fp,H' b=Β) E s1) E s
 done:∀(X:Cx),X.prog=P->X.w=w->X.K=K->X.calm=true->∀(i:Nat)(pins:cf)(s:Sh)(σ:St)(H:Hp)(E:VP),Ã H s->(∀b∈fp,ň H b)->tn i s.H->J.stop i H->
  wpAny Âe X.A (pyNext Ãq) (λr s1=>r=Β/\Ã H s1) E s
 self:∀(A:Around)(i:Nat)(s:Sh)(Q:VP)(E:VP),tn i s.H->Q Ãq s->wpAny Âe A (pyIter Ãq) Q E s
abbrev TI:=St->Hp->(It->Hp->Prop)->Prop
def Cr(X:Cx)(pins:cf)(σ:St)(tg:Expr)(R:It->Hp->Prop)(z:Value)(q:Sh):Prop:=
 ∃(j:Addr)(fp:LA)(tn:Nat->Heap->Prop)(J:It)(H':Hp),z=.ref j/\Ã H' q/\Turn X.prog X.w X.K tg J fp j tn/\tn 0 q.H/\(∀b∈fp,ň H' b)/\R J H'
def PI(X:Cx)(tg iter:Expr)(W:TI):Prop:=
 ∀(pins:cf)(s:Sh)(σ:St)(H:Hp)(R:It->Hp->Prop),Ã H s->W σ H R->
  wpAny È X.A (eval iter X.env) (λv j=>wpAny È X.A (pyIter v) Åj X.xe j) X.xe s
def FJ(z:s.U it=Α o)(hc:o.cls=.type n)(hd:o.data=.fields vs)(q:["enumerate","zip","dict_itemiterator","dict_reverseitemiterator","odict_iterator","itertools.zip_longest","itertools.pairwise"].Y n=false) (j:Q () s):ϐ (letOwnedTupleGo tg Ãq u) Q E s:=by
 ext letOwnedTupleGo;cases tg <;> first
  |exact cY j
  |(cases u <;> first
    |exact cY j
    |(apply aG (wpAny_load z ?_)
      rw[hc,hd];show wpAny M A (if (["enumerate","zip","dict_itemiterator","dict_reverseitemiterator","odict_iterator","itertools.zip_longest","itertools.pairwise"].Y n&&vs[0]? ==Α (rawInt _))=true then _ else _) Q E s;rw[ah (by intro h;rw[q,mJ] at h;cases h)];exact cY j))
def wR(K:FR)(a:Addr):It:=
 ⟨λi H=>∃xs x,ä a xs/\xs[i]? =Α x,λi H x H'=>H'=H/\∀xs,ä a xs->xs[i]? =Α x,λi H=>∃xs,ä a xs/\xs.L<=i⟩
def yx(lo:Int)(n:Nat):It:=⟨λi _=>i<n,λi H x H'=>H'=H/\x=.int (lo+i),λi _=>n<=i⟩
def acX{P:Pg}{w:Wd}{K:FR}{tg:Expr}(a it:Addr):Turn P w K tg (wR K a) [it] it (λi h=>h.IsListIter it a i) where
 mem:=by simp
 obj:=λi h st b hb=>by
  let e:b=it:=À hb
  subst e;let(o,e,c,d):=st;exact(o,e,λv z=>by rw[d] at z;cases z)
 keep:=λi h h' st k=>st.at λo e=>k it Ä o e
 item:=by
  show Ô;subst hP hw hK;let(xs,x,j,q):=hg;let(O,F,p,hz):=I.list j;let(u,U,Y):=F.get q;show ì;apply wpAny_pyNext_list_item st p.isList (x:=u) (À U) λh' J Z=>?_;let M:Ã H {s with heap:=h'}:=I.turned (t':=s.toks) (λb o hb e=>(Z.2 b hb).R e) f0 f1 f3 f4 f5;let(o,e,c,d):=id J;exact(u,Á,FJ (s:={s with heap:=h'}) e c d Ð ⟨x,H,M,Y,⟨Á,λys W=>by rw[I.Co W j];exact q⟩,J,λb hb=>(hf b hb).1⟩)
 done:=by
  show Ô;subst hP hw hK;let(xs,j,q):=hg;let(O,F,p,hz):=I.list j;show ì;let hl:=F.L;exact wpAny_pyNext_list_end ă st p.isList (by simp;symm) λh' eb=>⟨Á,I.turned (t':=s.toks) ϙ f0 f1 f3 f4 f5⟩
 self:=λ_ _ _ _ _ st h=>wpAny_pyIter_listiter st h
def acY{P:Pg}{w:Wd}{K:FR}{tg:Expr}(it:Addr)(lo:Int)(n:Nat):Turn P w K tg (yx lo n) [it] it (λi h=>IsRangeIter h it (lo+(i:Nat)*1) ((n:Int)-(i:Nat)) 1) where
 mem:=by simp
 obj:=λi h st b hb=>by
  let e:b=it:=À hb
  subst e;exact⟨_,st,λv z=>by
   let Z:Data.fields _=Data.cell v:=z;cases Z⟩
 keep:=λi h h' st k=>k it Ä _ st
 item:=by
  show Ô;subst hP hw hK;show ì;let W:=Walks.range (prog:=X.prog) (w:=X.w) ă it lo 1 n;apply W.item i s _ _ hg st λv h' tk F j J=>?_;let(t,rfl):=F;let q:Ã H {s with heap:=h',toks:=tk}:=I.turned (λb o hb e=>J b o (À hb) e) f0 f1 f3 f4 f5;apply⟨_,Á,FJ (s:={s with heap:=h',toks:=tk}) (n:="range_iterator") j Á Á Ð ⟨.int (lo+i),H,q,⟨t,?_⟩,⟨Á,Á⟩,j,λb hb=>(hf b hb).1⟩⟩;rw[Int.mul_one]
 done:=by
  show Ô;subst hP hw hK;show ì;exact wpAny_pyNext_range_end ă st (by let:n<=i:=hg;af) λh' eb=>⟨Á,I.turned (t':=s.toks) ϙ f0 f1 f3 f4 f5⟩
 self:=λ_ _ _ _ _ st h=>wpAny_pyIter_rangeiter st h
def acZ(K:FR)(tl:TE):TI:=λσ H R=>tl σ H λx H1=>∃a,x=.ref a/\(∃xs,aa K H1 a xs)/\R (wR K a) H1
def dY{l:Expr}{tl:TE}(F:PE X l tl):PI X tg l (acZ X.K tl):=by
 intro pins s σ H R I h;apply aQ (F pins s σ H _ I h) λv j ⟨x,H1,I1,O,M⟩=>?_;let(a,e,(xs,J),q):=M;subst e;cases O;let(U,W,p,hz):=I1.list J;apply RA p.isList ?_;apply(j.Z,[j.Z],_,_,H1,Á,I1.kept (t':=j.toks) λb o e=>dv _ e,acX a _,⟨_,ib _ Á,Á,Á⟩,λb z=>?_,q);let e:b=j.Z:=À z
 subst e;exact I1.wQ (bC _) Äg
def SH{pins:cf}{σ:St}{H:Hp}{s:Sh}{R:It->Hp->Prop}{E:VP}{lo hi:Int}{t u v:Tok}{tk:Nat}(I:Ã H s)(F: -(2^62)<=lo)(h2:lo<2^62)(J: -(2^62)<=hi)(M:hi<2^62)(q:R (yx lo (hi-lo).toNat) H):wpAny È X.A (pyIter ú) Åj E {s with heap:=s.o {cls:=.type "range",data:=.fields #[.int lo t,.int hi u,.int 1 v]},toks:=tk}:=by
 apply wpAny_pyIter_range (IsRange.new ..) (small_one F h2 J M) ?_;let I1:Ã H {s with heap:=s.o {cls:=.type "range",data:=.fields #[.int lo t,.int hi u,.int 1 v]},toks:=tk}:=I.kept λb o e=>dv _ e;refine⟨(s.o {cls:=.type "range",data:=.fields #[.int lo t,.int hi u,.int 1 v]}).O,[(s.o {cls:=.type "range",data:=.fields #[.int lo t,.int hi u,.int 1 v]}).O],_,_,H,Á,
  I1.kept (t':=tk) λb o e=>dv _ e,acY _ lo (hi-lo).toNat,?_,λb O=>?_,q⟩
 .let j:lo+((0:Nat):Int)*1=lo:=by simp
  let z:(((hi-lo).toNat:Nat):Int)-((0:Nat):Int)=Builtin.Range.rangeSize lo hi 1:=by rw[rangeSize_one];split <;> grind
  show IsRangeIter _ _ (lo+((0:Nat):Int)*1) ((((hi-lo).toNat:Nat):Int)-((0:Nat):Int)) 1;rw[j,z];exact ib _ Á
 .let e:b=(s.o {cls:=.type "range",data:=.fields #[.int lo t,.int hi u,.int 1 v]}).O:=by simpa using O
  subst e;exact I1.wQ (bC _) Äg
def ac0(ta:TA):TI:=λσ H R=>ta σ H λvs H1=>∃j:Int,vs=[.int j]/\ -(2^62)<=j/\j<2^62/\R (yx 0 j.toNat) H1
def ac1(ta:TA):TI:=λσ H R=>ta σ H λvs H1=>∃i j:Int,vs=[.int i,.int j]/\(-(2^62)<=i/\i<2^62/\ -(2^62)<=j/\j<2^62)/\R (yx i (j-i).toNat) H1
def FK{a:Expr}{ta:TA}{p pos:Pos}(hg:Gl X "range")(hm:X.mg "range"=Β)(J:PA X [a] ta)(hs:starEach [a] X.env=[(false,eval a X.env)]:=by rfl):PI X tg (.Call (.Name "range" p) [a] [] pos) (ac0 ta):=by
 intro pins s σ H R I h;apply Call_ (Àq boot_range (Fh (aQ (J pos pins s σ H _ I h) λY W ⟨vs,H1,F,O,z⟩=>?_) hs Á));let(j,e,z,M,q):=z;subst e;cases O with
 |cons r U=>
  cases U;let(t,rfl):=r;exact call_range_1 (SH F Å Å z M Å)
def ac2(hg:Gl X "range")(hm:X.mg "range"=Β)(M:PA X [a,b] ta)(hs:starEach [a,b] X.env=[(false,eval a X.env),(false,eval b X.env)]:=by rfl)(Y:starEach [b] X.env=[(false,eval b X.env)]:=by rfl):
  PI X tg (.Call (.Name "range" p) [a,b] [] pos) (ac1 ta):=by
 intro pins s σ H R I h;apply Call_ (Àq boot_range (Fh (aQ (M pos pins s σ H _ I h) λus s1 ⟨vs,H1,J,r1,z⟩=>?_) Å (by rw[Y];rfl)));let(i,j,e,(z,O,U,W),q):=z;subst e;cases r1 with
 |cons r F=>
  cases F with
  |cons Z F=>
   cases F;let(t,rfl):=r;let(t',rfl):=Z;exact call_range_2 (SH J z O U W q)
def ac3(q:TI)(g:TG)(tb:TS):TS:=λD σ H=>q σ H λJ H1=>∃W:Nat->Nat->St->Hp->Prop,(∃m,W 0 m σ H1)/\∀i m σ H,W i m σ H->
 (J.stop i H/\D.nx σ H)\/(J.go i H/\∃N:St->Hp->Prop,(∀σ' H',N σ' H'->∃M,M<m/\W (i+1) M σ' H')/\∀x H',J.ox i H x H'->g x σ H' λσ2 j=>tb {D with nx:=N,ct:=N,bk:=D.nx} σ2 j)
def Cu(fp:LA)(h:Heap):cf:=fp.filterMap λb=>(h.I b).M λo=>(b,o)
def Ki(j:b∈fp)(e:h.I b=Α o):(b,o)∈Cu fp h:=JA.mpr ⟨b,j,by rw[e];rfl⟩
def ac4(j:p∈Cu fp h):p.1∈fp/\h.I p.1=Α p.2:=by
 let(b,z,e):=JA.mp j;cases q:h.I b with
 |none=>symm
 |some o=>
  grind
def Inv.pinned(I:Ã H s)(O:∀b∈fp,ň H b)(U:∀b∈fp,∃o,s.U b=Α o/\∀v,o.data≠ .cell v):Inv X (pins++Cu fp s.H) σ H s:=
 I.J8 λp W=>(fw.mp W).elim (λz=>I.pin p (rH _ z)) λz=>by
  let(q,e):=ac4 z;let(F,J,M,_):=O p.1 q;let(o,j,d):=U p.1 q;rw[e] at j;cases j;exact(e,F,J,M,d)
def Inv.FL(I:Inv X (pins++pl) σ H s):Ã H s:=I.J8 λp j=>I.pin p (rH _ (wH _ j))
def i7(M:PassesOwn È X.A X.env X.xe)(hc:X.calm=true)(hi:PI X tg iter wi)(hg:PG X tg g)(z:l7 X pz tb)(hs:∀x,foldedSetIterable iter X.env x=pure x:=by intro _;rfl):PS X (.For tg iter pz [] pos) (ac3 wi g tb):=by
 intro pins s σ H D I h;apply wpAny_For (aQ (hi pins s σ H _ I h) λv s1 h1=>aQ h1 λKh s2 h2=>?_) hs;let(it,fp,tn,J,H2,e,I2,T,FM,f2,W,(m0,w0),turn):=h2;subst e;let yy:∀{H':Hp},(∀b∈fp,H' b=Β)->∀b∈fp,ň H' b:=λhn b z=>⟨hn b z,(f2 b z).2⟩;apply codeAny_forLoop_any (λn s'=>∃i σ' H',ϳ s'/\tn i s'.H/\(∀b∈fp,H' b=Β)/\W i n σ' H') ?_ m0 ⟨0,σ,H2,I2,FM,λb z=>(f2 b z).1,w0⟩;rintro n s3 ⟨i,σ3,U,I3,FO,SJ,w3⟩;rcases turn i n σ3 U w3 with ⟨stop,qn⟩|⟨go,N,hN,step⟩
 .apply BX M (aQ (T.done X Á Á Á hc i pins s3 σ3 U X.xe I3 (yy SJ) FO stop) λr s4 ⟨hr,I4⟩=>?_);subst hr;exact Fg ⟨σ3,U,I4,qn⟩
 .apply BX M (aQ (T.item X Á Á Á hc i pins s3 σ3 U X.xe I3 (yy SJ) FO go) λr s4 ⟨u,hr,h4⟩=>?_);subst hr;apply BX M (aQ h4 λ_ s5 ⟨x,H5,I5,r5,y5,Y,fr5⟩=>?_);let Z:=I5.pinned (yy fr5) (T.obj _ _ Y);apply BX M (aQ (hg _ s5 σ3 H5 x u _ Z r5 (step x H5 y5)) λ_ s6 ⟨σ6,H6,I6,q6⟩=>?_);apply BX M (aQ (z _ s6 σ6 H6 _ I6 q6) λf s7 F=>?_);let again:∀{σ7:St}{j:Hp},Inv X (pins++Cu fp s5.H) σ7 j s7->N σ7 j->∃m,m<n/\∃i σ' H',ϳ s7/\tn i s7.H/\(∀b∈fp,H' b=Β)/\W i m σ' H':=λ{σ7 j}q O=>by
   let(m',hm,w7):=hN σ7 j O;apply(m',hm,i+1,σ7,j,q.FL,T.keep _ _ _ Y λb z o e=>(q.pin (b,o) (rH _ (rH _ (Ki z e)))).1,λb z=>?_,w7);let(o,e,d):=T.obj _ _ Y b z;exact(q.pin (b,o) (rH _ (rH _ (Ki z e)))).2.1
  cases f with
  |next=>let(σ7,j,q,O):=F;exact again q O
  |cont=>let(σ7,j,q,O):=F;exact again q O
  |brk=>let(σ7,j,q,F):=F;exact(σ7,j,q.FL,F)
  |ret v=>let(x7,σ7,j,q,r7,F):=F;exact(x7,σ7,j,q.FL,r7,F)
def pK{K:FR}{a:Addr}{xs:az}{g:TG}{tb:TS}{D:Ends}{σ:St}{H:Hp}(Pv:Nat->St->Hp->Prop)(h0:Pv 0 σ H)(F:∀i σ H,i<=xs.L->Pv i σ H->ä a xs)(hs:∀i x σ H,xs[i]? =Α x->Pv i σ H->g x σ H λσ2 j=>tb {D with nx:=Pv (i+1),ct:=Pv (i+1),bk:=D.nx} σ2 j) (hd:∀σ H,Pv xs.L σ H->D.nx σ H):
  ∃W:Nat->Nat->St->Hp->Prop,(∃m,W 0 m σ H)/\∀i m σ H,W i m σ H->
   ((wR K a).stop i H/\D.nx σ H)\/((wR K a).go i H/\∃N:St->Hp->Prop,(∀σ' H',N σ' H'->∃M,M<m/\W (i+1) M σ' H')/\∀x H',(wR K a).ox i H x H'->g x σ H' λσ2 j=>tb {D with nx:=N,ct:=N,bk:=D.nx} σ2 j):=by
 refine ï;rintro i m σ H ⟨rfl,hi,p⟩;let q:=F i σ H hi p;by_cases z:i<xs.L
 .apply .inr ⟨⟨xs,xs[i],q,by simp[z]⟩,Pv (i+1),λσ' H' J=>⟨xs.L-(i+1),by grind,rfl,z,J⟩,λx H' y=>?_⟩;let(e,y):=y;subst e;exact hs i x σ _ (y xs q) p
 .let e:i=xs.L:=by af
  subst e;exact .inl ⟨⟨xs,q,bC _⟩,hd σ H p⟩
abbrev R2:=V->V->Hp->VK->Prop
def fj(X:Cx)(f:Value->Value->Sem Value)(r:R2):Prop:=
 ∀(pins:cf)(s:Sh)(σ:St)(H:Hp)(x y:V)(v u:Value)(Q:VK),Ã H s->RelV x v->RelV y u->r x y H Q->
  wpAny È X.A (f v u) (ô Q) X.xe s
def FP(X:Cx)(f:Value->Sem Value)(r:V->Hp->VK->Prop):Prop:=
 ∀(pins:cf)(s:Sh)(σ:St)(H:Hp)(x:V)(v:Value)(Q:VK),Ã H s->RelV x v->r x H Q->
  wpAny È X.A (f v) (ô Q) X.xe s
def lg(X:Cx)(f:Value)(r:az->Hp->VK->Prop):Prop:=
 ∀(pins:cf)(s:Sh)(σ:St)(H:Hp)(xs:az)(U:LV)(Q:VK),Ã H s->bq xs U->r xs H Q->
  wpAny È X.A (call f U) (ô Q) X.xe s
def ac7(X:Cx)(r:V->Hp->(Bool->Hp->Prop)->Prop):Prop:=
 ∀(pins:cf)(s:Sh)(σ:St)(H:Hp)(x:V)(v:Value)(Q:Bool->Hp->Prop),Ã H s->RelV x v->r x H Q->
  wpAny È X.A (truthy v) Ãj X.xe s
def bU(r:R2)(ta tb:TE):TE:=λσ H Q=>ta σ H λx H1=>tb σ H1 λy j=>r x y j Q
def FQ(r:V->Hp->VK->Prop)(ta:TE):TE:=λσ H Q=>ta σ H λx H1=>r x H1 Q
inductive rI(C:Int->Int->Prop)(g:Int->Int->V)(x:V)(y:V)(H:Hp)(Q:VK):Prop
 |mk (i j:_) (_:x=.int i) (_:y=.int j) (_:C i j) (_:Q Äz H)
inductive gG(g:Int->Int->V)(x:V)(y:V)(H:Hp)(Q:VK):Prop
 |mk (i j:_) (_:x=.int i) (_:y=.int j) (_:Q Äz H)
inductive rU(g:Int->V)(x:V)(H:Hp)(Q:VK):Prop
 |mk (i:_) (_:x=.int i) (_:Q (g i) H)
def Kj(J:ϲ ta)(M:PE X b tb){pins:cf}{s:Sh}{σ:St}{H:Hp}{R:V->V->Hp->Prop}(I:Ã H s)(h:ta σ H λx H1=>tb σ H1 λy j=>R x y j) {Q:VP} {f:Value->Value->Sem Value}(O:∀v u q x y j,Ã j q->RelV x v->RelV y u->R x y j->wpAny È X.A (f v u) Q X.xe q):
  wpAny È X.A (eval a X.env) (λv s₁=>wpAny È X.A (eval b X.env) (λu s₂=>wpAny È X.A (f v u) Q X.xe s₂) X.xe s₁) X.xe s:=by
 apply aQ (J pins s σ H _ I h) λv s1 ⟨x,H1,z,Y,U⟩=>?_;apply aQ (M pins s1 σ H1 _ z U) λu q ⟨y,j,F,Z,W⟩=>?_;exact O v u q x y j F Y Z W
def eA{op:Operator}{r:R2}(M:fj X (binaryOp op) r)(F:ϲ ta)(J:PE X b tb):PE X (.BinOp a op b pos) Çq:=by
 show Ú;exact wpAny_BinOp (Kj F J I h λv u W x y j z O U q=>M pins W σ j x y v u Q z O U q)
def iV(z:FP X (unaryOp op) r)(q:ϲ ta):PE X (.UnaryOp op a pos) (FQ r ta):=by
 show Ú;exact UnaryOp_ (aQ (q pins s σ H _ I h) λv M ⟨x,H1,j,J,F⟩=>z pins M σ H1 x v Q j J F)
def Cv{f:Value->Value->Sem Value}{C:Int->Int->Prop}{g:Int->Int->Int}(rule:∀(i j:Int)(t u:Tok)(s:Sh)(Q:VP)(E:VP),C i j->Q (.int Äz s.toks) {s with toks:=s.toks+1}->wpAny È X.A (f Âl (.int j u)) Q E s):
  fj X f (rI C λi j=>.int Äz):=by
 show ð;let(i,j,rfl,rfl,hc,q):=h;let(t,rfl):=rx;let(t',rfl):=ry;exact rule i j t t' s _ _ hc ⟨.int Äz,H,I.tok _,⟨_,Á⟩,q⟩
def FS{f:Value->Value->Sem Value}{g:Int->Int->Int}(rule:∀(i j:Int)(t u:Tok)(s:Sh)(Q:VP)(E:VP),Q (.int Äz s.toks) {s with toks:=s.toks+1}->wpAny È X.A (f Âl (.int j u)) Q E s):
  fj X f (gG λi j=>.int Äz):=by
 show ð;let(i,j,rfl,rfl,q):=h;let(t,rfl):=rx;let(t',rfl):=ry;exact rule i j t t' s _ _ ⟨.int Äz,H,I.tok _,⟨_,Á⟩,q⟩
def Kk{f:Value->Value->Sem Value}{g:Int->Int->Bool}(rule:∀(i j:Int)(t u:Tok)(s:Sh)(Q:VP)(E:VP),Q (.bool Äz) s->wpAny È X.A (f Âl (.int j u)) Q E s):
  fj X f (gG λi j=>.bl Äz):=by
 show ð;let(i,j,rfl,rfl,q):=h;let(t,rfl):=rx;let(t',rfl):=ry;exact rule i j t t' s _ _ ⟨.bl Äz,H,I,Á,q⟩
def ac8(i j:Int):Prop:=0<j/\j<1073741824
def Kl(i j:Int):Prop:=0<=j/\j<=1000000/\i.natAbs<2^64
def FT(i j:Int):Prop:=(-(2^64)<i/\i<2^64)\/(-(2^64)<j/\j<2^64)
def FT.ok(h:FT i j):IntMulOk i j:=by
 rcases h with ⟨q,h2⟩|⟨q,h2⟩
 .exact .of_left (intBits_le_64 q h2)
 .exact .of_right (intBits_le_64 q h2)
def ac9(k:Nat):(0:Int)<=2^k:=by
 grind
def pL:fj X (binaryOp .Add) (gG λi j=>.int (i+j)):=FS λ_ _ _ _ _ _ _ q=>add_int q
def rW:fj X (binaryOp .Sub) (gG λi j=>.int (i-j)):=FS λ_ _ _ _ _ _ _ q=>sub_int q
def SK:fj X (binaryOp .Mult) (rI FT λi j=>.int (i*j)):=Cv λ_ _ _ _ _ _ _ hc q=>mul_int q hc.ok
def ada:fj X (binaryOp .FloorDiv) (rI ac8 λi j=>.int (i/j)):=Cv λi j _ _ _ _ _ hc q=>by
 let z:(0:Int)<j:=hc.1;let h2:j<1073741824:=hc.2;exact floordiv_int Ù (by grind) (.inl (PyProof.noPylong_small (by omega)))
def Km:fj X (binaryOp .Mod) (rI (λ_ j=>0<j) λi j=>.int (i%j)):=Cv λi j _ _ _ _ _ hc q=>by
 let z:(0:Int)<j:=hc;exact mod_int' Ù (by rw[Int.fmod_eq_emod_of_nonneg i Ù];exact q)
def FU:fj X (binaryOp .LShift) (rI Kl λi j=>.int (i*2^j.toNat)):=Cv λ_ _ _ _ _ _ _ hc q=>lshift_int_small hc.1 hc.2.1 hc.2.2 q
def Ko:fj X (binaryOp .RShift) (rI (λ_ j=>0<=j) λi j=>.int (i/2^j.toNat)):=Cv λi j _ _ _ _ _ hc q=>
 rshift_int hc (by rw[Int.fdiv_eq_ediv_of_nonneg i (ac9 _)];exact q)
def yz:fj X (binaryOp .BitAnd) (gG λi j=>.int ś):=FS λ_ _ _ _ _ _ _ q=>and_int q
def SL:fj X (inplaceOp .Add) (gG λi j=>.int (i+j)):=FS λ_ _ _ _ _ _ _ q=>iadd_int q
def SM{f:Value->Sem Value}{g:Int->Int}(rule:∀(i:Int)(t:Tok)(s:Sh)(Q:VP)(E:VP),Q (.int (g i) s.toks) {s with toks:=s.toks+1}->wpAny È X.A (f Âl) Q E s):
  FP X f (rU λi=>.int (g i)):=by
 intro pins s σ H x v Q I j h;let(i,rfl,q):=h;let(t,rfl):=j;exact rule i t s _ _ ⟨.int (g i),H,I.tok _,⟨_,Á⟩,q⟩
def jk:FP X (unaryOp .USub) (rU λi=>.int (-i)):=SM λ_ _ _ _ _ q=>neg_int q
def SN:FP X (unaryOp .Invert) (rU λi=>.int Ås):=SM λ_ _ _ _ _ q=>invert_int q
def SO:V->V->Bool
 |.aP,.aP=>true|.aP,.int _=>true|.int _,.aP=>true|.aP,.bl _=>true|.bl _,.aP=>true|.aP,.str _=>true|.str _,.aP=>true
 |.int _,.int _=>true|.bl _,.bl _=>true|.str _,.str _=>true|.jK _,.jK _=>true
 |.int _,.str _=>true|.str _,.int _=>true|.bl _,.str _=>true|.str _,.bl _=>true
 |_,_=>false
def pN:R2:=λx y H Q=>SO x y=true/\Q (.bl (decide (x=y))) H
def rNe:R2:=λx y H Q=>SO x y=true/\Q (.bl (!decide (x=y))) H
def nG:decide (V.int i=V.int j)=(i==j):=by
 grind
def SQ:decide (V.bl i=V.bl j)=(i==j):=by
 grind
def SR:decide (V.str i=V.str j)=(i==j):=by
 grind
def SS:decide (V.jK i=V.jK j)=(i.toList==j.toList):=by
 rw[qy];simp
def gS(I:Ã H s)(q:Q (.bl k) H)(e:k=k'):ô Q (.bool k') s:=by
 subst e;exact(.bl k,H,I,Á,q)
def iC:fj X Áz pN:=by
 show ð;let(hs,q):=h;cases x with
 |aP=>
  cases rx;cases y with
  |aP=>cases ry;exact PySem.EqNone.eq_none_none ċ
  |bl j=>cases ry;exact PySem.EqNone.eq_none_bool ċ
  |int j=>let(t',rfl):=ry;exact PySem.EqNone.eq_none_int ċ
  |str j=>let(t',rfl):=ry;exact PySem.EqNone.eq_none_str ċ
  |_=>exact absurd (show false=true from hs) eO
 |bl i=>
  cases rx;cases y with
  |aP=>cases ry;exact PySem.EqNone.eq_bool_none ċ
  |bl j=>cases ry;exact eq_bool (gS I q SQ)
  |str j=>let(t',rfl):=ry;exact PySem.EqMixed.eq_bool_str ċ
  |_=>exact absurd (show false=true from hs) eO
 |int i=>
  let(t,rfl):=rx;cases y with
  |aP=>cases ry;exact PySem.EqNone.eq_int_none ċ
  |int j=>let(t',rfl):=ry;exact eq_int (gS I q nG)
  |str j=>let(t',rfl):=ry;exact PySem.EqMixed.eq_int_str ċ
  |_=>exact absurd (show false=true from hs) eO
 |str i=>
  let(t,rfl):=rx;cases y with
  |aP=>cases ry;exact PySem.EqNone.eq_str_none ċ
  |bl j=>cases ry;exact PySem.EqMixed.eq_str_bool ċ
  |int j=>let(t',rfl):=ry;exact PySem.EqMixed.eq_str_int ċ
  |str j=>let(t',rfl):=ry;exact eq_str (gS I q SR)
  |_=>exact absurd (show false=true from hs) eO
 |jK i=>
  let(t,rfl):=rx;cases y with
  |jK j=>let(t',rfl):=ry;exact PySem.W.eq_bytes (gS I q SS)
  |_=>exact absurd (show false=true from hs) eO
 |_=>cases y <;> exact absurd (show false=true from hs) eO
def wU:fj X Âi rNe:=by
 show ð;let(hs,q):=h;cases x with
 |aP=>
  cases rx;cases y with
  |aP=>cases ry;exact PySem.EqNone.ne_none_none ċ
  |bl j=>cases ry;exact PySem.EqNone.ne_none_bool ċ
  |int j=>let(t',rfl):=ry;exact PySem.EqNone.ne_none_int ċ
  |str j=>let(t',rfl):=ry;exact PySem.EqNone.ne_none_str ċ
  |_=>exact absurd (show false=true from hs) eO
 |bl i=>
  cases rx;cases y with
  |aP=>cases ry;exact PySem.EqNone.ne_bool_none ċ
  |bl j=>cases ry;exact ne_bool (gS I q (cb not SQ))
  |str j=>let(t',rfl):=ry;exact PySem.EqMixed.ne_bool_str ċ
  |_=>exact absurd (show false=true from hs) eO
 |int i=>
  let(t,rfl):=rx;cases y with
  |aP=>cases ry;exact PySem.EqNone.ne_int_none ċ
  |int j=>let(t',rfl):=ry;exact ne_int (gS I q (cb not nG))
  |str j=>let(t',rfl):=ry;exact PySem.EqMixed.ne_int_str ċ
  |_=>exact absurd (show false=true from hs) eO
 |str i=>
  let(t,rfl):=rx;cases y with
  |aP=>cases ry;exact PySem.EqNone.ne_str_none ċ
  |bl j=>cases ry;exact PySem.EqMixed.ne_str_bool ċ
  |int j=>let(t',rfl):=ry;exact PySem.EqMixed.ne_str_int ċ
  |str j=>let(t',rfl):=ry;exact ne_str (gS I q (cb not SR))
  |_=>exact absurd (show false=true from hs) eO
 |jK i=>
  let(t,rfl):=rx;cases y with
  |jK j=>let(t',rfl):=ry;exact PySem.W.ne_bytes (gS I q (cb not SS))
  |_=>exact absurd (show false=true from hs) eO
 |_=>cases y <;> exact absurd (show false=true from hs) eO
def yA:fj X Èh (gG λi j=>.bl (decide (i<j))):=Kk λ_ _ _ _ _ _ _ q=>lt_int q
def yB:fj X (compareOp .LtE) (gG λi j=>.bl (decide (i<=j))):=Kk λ_ _ _ _ _ _ _ q=>le_int q
def rX:fj X (compareOp .Gt) (gG λi j=>.bl (decide (j<i))):=Kk λ_ _ _ _ _ _ _ q=>gt_int q
def bV(b:Expr)(h:op≠ .In:=by decide)(h2:op≠ .NotIn:=by decide):behindInMarks op b=false:=by
 let j:(op==CmpOp.In)=false:=by cases op <;> first|rfl|exact absurd Á h
 let q:(op==CmpOp.NotIn)=false:=by cases op <;> first|rfl|exact absurd Á h2
 cases b <;> simp[behindInMarks,j,q]
def j8{op:CmpOp}{r:R2}(O:fj X Åf r)(F:ϲ ta)(J:PE X b tb)(M:behindInMarks op b=false):PE X ϡ Çq:=by
 show Ú;exact wpAny_Compare1 (Kj F J I h λv u Y x y j z U W q=>O pins Y σ j x y v u Q z U W q) M
def mY(t:TE):TT:=λσ H Q=>t σ H λx H'=>Ag x λk=>Q k H'
def cy(Y:fj X Åf r)(O:ϲ ta)(U:PE X b tb)(W:behindInMarks op b=false):PT X ϡ (mY Çq):=by
 show Ú;refine wpAny_isTrue_Compare1 (aQ (O pins s σ H _ I h) λv s1 ⟨x,H1,F,r1,Z⟩=>aQ (U pins s1 σ H1 _ F Z) λu s2 ⟨y,j,J,r2,q2⟩=>
  aQ (Y pins s2 σ j x y v u _ J r1 r2 q2) λc s3 ⟨z,q,M,r3,k,e,q3⟩=>?_) W
 subst e;cases r3;exact tq ⟨q,M,q3⟩
def Kq(r J:R2)(ta tb M:TE):TE:=λσ H Q=>ta σ H λx H1=>tb σ H1 λy q=>r x y q λz j=>Ag z λk=>
 (if k=true then M σ j λW F=>J y W F Q else Q (.bl false) j)
theorem SU(ho:fj X Åf r)(ou:fj X (compareOp op') r')(Z:ϲ ta)(hb:PE X b tb)(hc:PE X c tc)(hm:lastMarks [op,op'] [b,c]=false:=by with_unfolding_all rfl):PE X (.Compare a [op,op'] [b,c] pos) (Kq r r' ta tb tc):=by
 show Ú;refine Compare_chain (aQ (Z pins s σ H _ I h) λv s1 ⟨x,H1,U,r1,q1⟩=>chain_link (aQ (hb pins s1 σ H1 _ U q1) λu s2 ⟨y,M,W,J,q2⟩=>
  aQ (ho pins s2 σ M x y v u _ W r1 J q2) λd s3 ⟨z,j,q,r3,k,e,F⟩=>?_)) hm
 subst e;cases r3;apply tq ?_;cases k with
 |false=>exact ite_ff ⟨.bl false,j,q,Á,F⟩
 |true=>exact ite_tt (chain_last (aQ (hc pins s3 σ j _ q F) λw' s4 ⟨z',O,Y,r4,q4⟩=>ou pins s4 σ O y z' u w' Q Y J r4 q4))
theorem ade(ho:fj X Åf r)(ou:fj X (compareOp op') r')(ha:ϲ ta)(hb:PE X b tb)(hc:PE X c tc)(hm:lastMarks [op,op'] [b,c]=false:=by with_unfolding_all rfl):PT X (.Compare a [op,op'] [b,c] pos) (mY (Kq r r' ta tb tc)):=by
 show Ú;refine isTrue_chain (aQ (ha pins s σ H _ I h) λv s1 ⟨x,H1,W,r1,q1⟩=>test_link (aQ (hb pins s1 σ H1 _ W q1) λu s2 ⟨y,M,Y,J,q2⟩=>
  aQ (ho pins s2 σ M x y v u _ Y r1 J q2) λd s3 ⟨z,j,q,r3,k,e,F⟩=>?_)) hm
 subst e;cases r3;apply tq ?_;cases k with
 |false=>
  let(k',e',q'):=F;cases e';exact ite_ff ⟨j,q,q'⟩
 |true=>
  apply ite_tt (test_last (aQ (hc pins s3 σ j _ q F) λw' s4 ⟨z',O,Z,r4,q4⟩=>aQ (ou pins s4 σ O y z' u w' _ Z J r4 q4) λd' s5 ⟨z2,U,I5,r5,k2,e2,q5⟩=>?_));subst e2;cases r5;exact tq ⟨U,I5,q5⟩
def Kr(K:FR)(x:V)(H:Hp)(k:Bool):Prop:=
 match x with
 |.aP=>k=false
 |.bl b=>k=b
 |.int i=>k=(i !=0)
 |.str y=>y.L<=sizeLine/\k=((y.L:Int)!=0)
 |.jK y=>y.u<=sizeLine/\k=((y.u:Int)!=0)
 |.ref p=>(∃xs,ä p xs/\k=!xs.isEmpty)\/(∃xs,š p xs/\k=!xs.isEmpty)\/∃kvs,H p=Α đ/\k=!kvs.isEmpty
 |_=>False
def adf(r:KV kvs vs):(!vs.isEmpty)=!kvs.isEmpty:=by
 cases r <;> rfl
def SV(r:bq xs ak):(!ak.toArray.isEmpty)=!xs.isEmpty:=by
 cases r <;> simp
def FV:(sizeLine:Nat)<2^63:=by rw[yh];decide
def adg:ac7 X (λx H Q=>∃k,Kr X.K x H k/\Q k H):=by
 intro pins s σ H x v Q I z h;let(k,e,q):=h;let Y:=FV;let hs:sizeLine=16777216:=yh;cases x with
 |aP=>
  cases z;let j:k=false:=e;subst j;exact truthy_none ⟨H,I,q⟩
 |bl b=>
  cases z;let j:k=b:=e;subst j;exact tq ⟨H,I,q⟩
 |int i=>
  let(t,rfl):=z;let j:k=(i !=0):=e;subst j;exact PySem.P.truthy_int ⟨H,I,q⟩
 |str y=>
  let(t,rfl):=z;obtain⟨U,j⟩:y.L<=sizeLine/\k=((y.L:Int)!=0):=e;subst j;exact PySem.P.truthy_str Ù ⟨H,I.tok _,q⟩
 |jK y=>
  let(t,rfl):=z;obtain⟨U,j⟩:y.u<=sizeLine/\k=((y.u:Int)!=0):=e;subst j;exact PySem.W.truthy_bytes Ù ⟨H,I.tok _,q⟩
 |ref p=>
  cases z;let j:(∃xs,Ák p xs/\k=!xs.isEmpty)\/(∃xs,bx X.K H p xs/\k=!xs.isEmpty)\/∃kvs,H p=Α đ/\k=!kvs.isEmpty:=e;rcases j with ⟨xs,F,j⟩|⟨xs,F,j⟩|⟨kvs,F,j⟩
  .subst j;let(M,r,pl,hz):=I.list F;let J:=r.L;exact wpAny_truthy_list pl.isList (by grind) ⟨H,I.tok _,by rw[SV r];exact q⟩
  .subst j;let(M,r,pl,hz):=I.tuple F;let J:=r.L;exact truthy_tuple pl (by grind) ⟨H,I.tok _,by rw[SV r];exact q⟩
  .subst j;obtain⟨hz,O,vs,r,m⟩:kvs.L<=sizeLine/\(p==sysModules)=false/\∃vs,KV kvs vs/\s.H.DictOf Č p vs:=I.aE p _ F;let J:kvs.L=vs.L:=Paired.length r;exact wpAny_truthy_dict O m Ù ⟨H,I.tok _,by rw[adf r];exact q⟩
 |_=>exact(show False from e).elim
def Aj(q:ϲ ta)(z:∀whole,isTrue a X.env whole=(do let v <-whole;standAt a.pos;holding [v] (truthy v))):
  PT X a (λσ H Q=>ta σ H λx H'=>∃k,Kr X.K x H' k/\Q k H'):=by
 show Ú;exact isTrue_plain (aQ (q pins s σ H _ I h) λv M ⟨x,H1,j,J,F⟩=>adg pins M σ H1 x v Q j J F) (z _)
theorem vals1{x:V}{U:LV}(r:bq [x] U):∃u,U=[u]/\RelV x u:=by
 cases r with
 |cons j q=>cases q;exact(_,Á,j)
theorem vals2(r:bq [x,y] us):∃u W,us=[u,W]/\RelV x u/\RelV y W:=by
 cases r with
 |cons j q=>
  cases q with
  |cons z F=>cases F;exact(_,_,Á,j,z)
def Ks(hc:X.calm=true):lg X (.builtin "max") (λxs H Q=>∃i j,xs=[.int i,.int j]/\Q (.int (if j>i then j else i)) H):=by
 intro pins s σ H xs U Q I r h;let(i,j,rfl,q):=h;let(u,W,rfl,(t,rfl),(t',rfl)):=vals2 r;apply max_two_ints ă λh' tk k=>⟨_,H,I.kept k,?_,q⟩;by_cases z:j>i
 .rw[ai z,ai z];exact(_,Á)
 .rw[ah z,ah z];exact(_,Á)
def adh:lg X (.builtin "ord") (λxs H Q=>∃x,xs=[.str x]/\x.L=1/\Q (.int (x.cps.D 0 0:Nat)) H):=by
 intro pins s σ H xs U Q I r h;let(x,rfl,hz,q):=h;let(u,rfl,t,rfl):=vals1 r;exact ord_of_one hz ⟨.int _,H,I.tok _,⟨_,Á⟩,q⟩
structure Ak(h:Heap)(x dx C:Addr)(mA:MG):Prop where
 obj:h.I x=Α Ãk
 ns:h.Ns1 dx mA
 ne:dx≠x
def adi{h:Heap}{dx:Addr}{mA:MG}(n:h.Ns1 dx mA):∃od,h.I dx=Α od/\∀name,PySem.W.lookIn name od=Α (mA name):=by
 let(o,es,ep,J,hd,hk,_,F):=n;apply(o,J,λname=>?_);let e:=F name;delta nsFind findBy at e;rw[<-Array.find?_toList] at e;ext PySem.W.lookIn;rw[hd];dsimp only;split
 .symm
 .rename_i q;rw[q] at e;let a:es.toList.any (·.refKey)=false:=by
   rw[List.any_eq_false];intro y M;let(z,t,j):=hk y (Array.mem_toList_iff.mp M);simp[DictEntry.refKey,j]
  symm
def Ak.look(I:Ak h x dx C mA):∃od,PySem.W.InstAt h x Ãk C (some od)/\∀name,PySem.W.lookIn name od=Α (mA name):=
 let ⟨od,ho,hl⟩:=adi I.ns
 ⟨od,⟨I.obj,rfl,rfl,ho⟩,hl⟩
section
variable{prog:Pg}{w:Wd}{A:Around}{E:VP}{s:Sh}{K:FR}{x dx C f:Addr}{mA:MG}{name:Str}{v:Value}
def get_map{j:Bool}{Q:VP}(X:K.In s.H)(I:Ak s.H x dx C mA)(F:PySem.W.plainGet K C name=true)(M:PySem.W.hasDictIn K C=true)(z:PySem.W.findIn K Ĉ name=Α none) (U:mA name=Α v) (q:PySem.W.handedIn v=true) (h:Q v {s with toks:=s.toks+1}):
  wpAny Í A (getAttr ŧ name j) Q E s:=by
 let(od,J,O):=I.look;exact PySem.W.get_value X J (PySem.W.plainGet_of F).1 (PySem.W.findObj_own M z Á Å) q h
def adj{ns:LS}{Q:Unit->Shared->Prop}(X:K.In s.H)(I:Ak s.H x dx C mA)(hs:PySem.W.findIn K Ĉ "__setattr__"=Α (some (.builtin "object.__setattr__"))) (Z:PySem.W.plainOver K C=true) (ht:PySem.W.takerIn K C name=Α none) (Y:PySem.W.hasDictIn K C=true)(hw:PySem.Within mA ns) (hsz:ns.L<=sizeLine)(h:∀h',Ak h' x dx C (λy=>if y=name then some v else mA y)->Heap.SameBut dx s.H h'->Q () {s with heap:=h',toks:=s.toks+2}):
  wpAny Í A Ät Q E s:=by
 let(od,J,hl):=I.look;apply PySem.W.set_plain X J hs (PySem.W.osa_open (s:={s with toks:=s.toks+1}) (r:=Β) X J Z ht λb=>?_);let(cd,hc,j7):=PySem.W.any_some Y;let hx:s.U x=Α ⟨.ref C,some dx,.plain,#[]⟩:=I.obj;apply aG (cY (aG (aG (wpAny_loadPart hx (aG (PySem.W.Looks.here (s:={s with toks:=s.toks+1}) (PySem.W.looks_clsIn X hc) ?_))))));rw[j7];apply cY (a:=Α dx) (aG (cY (aG ?_)));apply wpAny_nsSet1 (s:={s with toks:=s.toks+1}) I.ns λh' F M=>?_;let(oD,U,O,z,q,j):=F.count (PySem.Within.cons name v hw);apply aG (wpAny_lookBehind z (by rw[q];exact pastItsLine_dict (gq j (by rw[dh];symm))) ?_);exact cY (h _ ⟨(M.2 _ (eF I.ne)).R I.obj,F,I.ne⟩ M)
def adn{R:Result->Shared->Prop}{vs:LV}{kw:List (Str×Value)}(X:K.In s.H)(q:PySem.W.makesIn K C=true)(hi:PySem.W.findIn K Ĉ "__init__"=Α Âr) (j:PySem.W.typeIn K ď=Α (.type "function"))(h:codeAny Í (A.under (.builtin "type.__call__" ⟨.ref C::vs,kw⟩)) (.call ď ⟨.ref Û::vs,kw⟩) (PySem.W.InitBack Û R) {s with heap:=(s.o PySem.W.emptyDict).push Ł}):
  codeAny Í A (.call Ĉ ⟨vs,kw⟩) R s:=by
 let(z,g,d,t,os):=s;exact PySem.W.make_core (PySem.W.makes_of X q) (PySem.W.looks_findIn X hi) (λself=>PySem.W.bind_fn X self j) ĝ h
end
def iF(f:Str)(v:V):List (Str×V)->List (Str×V)
 |[]=>[(f,v)]
 |(g,x)::r=>if g=f then (g,v)::r else (g,x)::iF f v r
theorem Kw(f g:Str)(v:V):∀fs:List (Str×V),(iF f v fs).Q g=if g=f then some v else fs.Q g:=by
 intro fs;induction fs with
 |nil=>
  show List.lookup g [(f,v)]=_;by_cases h:g=f
  .let j:(g==f)=true:=zT.mpr h;simp only[List.lookup,j,ai h]
  .let j:(g==f)=false:=yj.mpr h;simp only[List.lookup,j,ah h]
 |cons q r z=>
  let(k,x):=q;let z:=z;rw[show iF f v ((k,x)::r)=(if k=f then (k,v)::r else (k,x)::iF f v r) from rfl];by_cases hk:k=f
  .rw[ai hk];by_cases h:g=k
   .let j:(g==k)=true:=zT.mpr h;simp only[List.lookup,j,ai (h.trans hk)]
   .let j:(g==k)=false:=yj.mpr h;simp only[List.lookup,j,ah (λe:g=f=>h (e.trans hk.symm))]
  .rw[ah hk];by_cases h:g=k
   .let j:(g==k)=true:=zT.mpr h;simp only[List.lookup,j,ah (λe:g=f=>hk (h.symm.trans e))]
   .let j:(g==k)=false:=yj.mpr h;simp only[List.lookup,j];exact z
theorem Cw(f:Str)(v:V):∀fs:List (Str×V),f∈(iF f v fs).M (·.1)/\∀g,g∈fs.M (·.1)->g∈(iF f v fs).M (·.1):=by
 intro fs;induction fs with
 |nil=>exact(by simp[iF],λg h=>by simp at h)
 |cons j r F=>
  let(k,x):=j;let(q,z):=F;rw[show iF f v ((k,x)::r)=(if k=f then (k,v)::r else (k,x)::iF f v r) from rfl];by_cases hk:k=f
  .rw[ai hk];subst hk;exact(by simp,λg h=>by simpa using h)
  .rw[ah hk];apply(?_,λg h=>?_)
   .rw[a8];exact aL _ q
   .rw[a8] at h⊢;rcases a9.mp h with e|e
    .exact a9.mpr (.inl e)
    .exact aL _ (z g e)
theorem Kx(f:Str)(v:V):∀fs:List (Str×V),(iF f v fs).L<=fs.L+1:=by
 intro fs;induction fs with
 |nil=>
  simp[iF]
 |cons j r q=>
  let(k,x):=j;let q:=q;rw[show iF f v ((k,x)::r)=(if k=f then (k,v)::r else (k,x)::iF f v r) from rfl];by_cases hk:k=f
  .rw[ai hk,dh,dh];symm
  .rw[ah hk,dh,dh];symm
theorem k9.some_of(r:k9 Åo o):∃u,o=Α u/\RelV v u:=by
 cases o with
 |none=>exact(show False from r).elim
 |some u=>exact(u,Á,r)
theorem ado(r:RelV v u):PySem.W.handedIn u=true:=by
 cases v with
 |aP=>cases (show u=Value.none from r);rfl
 |bl b=>cases (show u=Value.bool b from r);rfl
 |int i=>let(t,e):=(show ∃t,u=Value.int i t from r);cases e;rfl
 |str x=>let(t,e):=(show ∃t,u=Value.str x t from r);cases e;rfl
 |jK b=>let(t,e):=(show ∃t,u=Value.bytes b t from r);cases e;rfl
 |Cc b=>let(t,e):=(show ∃t,u=Value.float b t from r);cases e;rfl
 |ref a=>cases (show u=Value.ref a from r);rfl
 |ty n=>cases (show u=Value.type n from r);rfl
section
variable{P:Pg}{w:Wd}{H H':Hp}{h h':Heap}{a C dx:Addr}{fs Am:List (Str×V)}
def SW(aE:ķ h)(e:H a=Α Ϡ):∃mA,Ak h a dx C mA/\(∀f,k9 Át (mA f))/\PySem.Within mA (fs.M (·.1))/\fs.L<=1000/\H dx=Α (.own a):=by
 let(d,z,ne,O,mA,n,r,q):=(show gv P w H h a Ϡ from aE a _ e);exact(mA,⟨O,n,ne⟩,r,q,z,d)
end
structure l8(K:FR)(C:Addr):Prop where
 pg:PySem.W.plainGet K C Str.empty=true
 hd:PySem.W.hasDictIn K C=true
 po:PySem.W.plainOver K C=true
 sa:PySem.W.findIn K Ĉ "__setattr__"=Α (some (.builtin "object.__setattr__"))
def l8.get{K:FR}{C:Addr}(c:l8 K C)(f:Str):PySem.W.plainGet K C f=true:=c.pg
def g8(K:FR)(C:Addr)(f:Str):Prop:=PySem.W.findIn K Ĉ f=Α none
def g8.adp{K:FR}{C:Addr}{f:Str}(n:ϱ f):PySem.W.takerIn K C f=Α none:=by
 ext PySem.W.takerIn;rw[show PySem.W.findIn K Ĉ f=Α none from n];rfl
section
variable{X:Cx}{pins:cf}{σ:St}{H:Hp}{s:Sh}{a C dx:Addr}{fs:List (Str×V)}{f:Str}{v:V}{A:Around}{E:VP}
def adq{b:Bool}{Q:VP}(I:Ã H s)(e:H a=Α Ϡ)(c:l8 X.K C)(n:g8 X.K C f)(l:fs.Q f=Α v)(h:∀u s',Ã H s'->RelV v u->Q u s'):wpAny È A (getAttr ħ f b) Q E s:=by
 let(mA,O,r,_,_,_):=SW I.aE e;let(u,q,j):=k9.some_of (v:=v) (o:=mA f) (by grind);exact get_map I.gE O (c.get f) c.hd n q (ado j) (h u _ (I.tok _) j)
def ads{y:V}{u:Value}{Q:Unit->Shared->Prop}(I:Ã H s)(e:H a=Α Ϡ)(c:l8 X.K C)(n:g8 X.K C f)(Z:fs.L<1000)(U:RelV y u)(h:∀s',Ã (ŭ (.ins C dx (iF f y fs))) s'->Q () s'):wpAny È A (setAttr ħ f u) Q E s:=by
 let(mA,O,r,W,_,F):=SW I.aE e;let hz:(fs.M (·.1)).L<=sizeLine:=by rw[ao,yh];af
 apply adj I.gE O c.sa c.po n.adp c.hd W hz λh' j Y=>h _ ?_;let hd:∃o,h'.I dx=Α o:=let ⟨o,_,_,e',_⟩:=j.ns;⟨o,e'⟩;apply I.write (x:=a) (e:=dx) (by rw[e];exact True.intro) (.inr F) (λb q J z=>(Y.2 b J).R z) hd ?_;apply(by rw[aA O.ne];exact F,?_,O.ne,j.obj,_,j.ns,λg=>?_,λg M=>?_)
 .let:=Kx f y fs;af
 .show k9 ((iF f y fs).Q g) (if g=f then some u else mA g);rw[Kw];by_cases q:g=f
  .rw[ai q,ai q];exact U
  .symm
 .by_cases q:g=f
  .rw[q];exact(Cw f y fs).1
  .apply(Cw f y fs).2 g (W g λz=>M ?_);symm
def Inv.made(I:Ã H s):Ã (upd (ĕ (.own Û)) Û (.ins C s.Z [])) {s with heap:=(s.o PySem.W.emptyDict).push Ł}:=by
 let j:(s.o PySem.W.emptyDict).I s.Z=Α PySem.W.emptyDict:=ib s.H rfl;let F:((s.o PySem.W.emptyDict).push Ł).I Û=Α Ł:=by
  let:=ib (s.o PySem.W.emptyDict) (o:=PySem.W.instObj C s.Z) rfl;symm
 let J:(s.o PySem.W.emptyDict).Ns s.Z (λ_=>none):=⟨PySem.W.emptyDict,#[],_,j,rfl,(λe M=>absurd M Ä),λ_=>rfl⟩;let z:=I.laid (a:=s.Z) (o:=.own Û) (h':=s.o PySem.W.emptyDict) (t':=s.toks) (λb u q=>dv _ q) (bC _) ⟨_,j⟩;apply z.laid (a:=s.Z+1) (o:=.ins C s.Z []) (t':=s.toks) (λb u q=>dv _ q) (Ff (qx _ _)) ?_;let ne:s.Z≠s.Z+1:=fV (RB _);refine⟨by rw[aA ne,au],dj _,ne,F,λ_=>none,(Heap.Ns1.of_empty J).at λo q=>dv _ q,λ_=>True.intro,λy O=>absurd rfl O⟩
def adt(j:attributeBase e f env (eval e env)=eval e env)(h:wpAny Í A (eval e env) (λo q=>wpAny Í A (getAttr o f true) Q E q) E s):wpAny Í A (eval (.Attribute e f pos) env) Q E s:=
 Attribute_any_ h (by rw[arm_eval_Attribute,j])
end
def fk(K:FR)(ta:TE)(f:Str):TE:=λσ H Q=>ta σ H λx H1=>∃a C dx fs v,x=.ref a/\H1 a=Α Ϡ/\l8 K C/\ϱ f/\fs.Q f=Α v/\Q v H1
def FW(K:FR)(ta q:TE)(f:Str):TS:=λD σ H=>q σ H λy H1=>ta σ H1 λx j=>∃a C dx fs,x=.ref a/\j a=Α Ϡ/\l8 K C/\ϱ f/\fs.L<1000/\
 D.nx σ (upd j a (.ins C dx (iF f y fs)))
def aY(M:ϥ ta)(J:attributeBase e f X.env Àm=eval e X.env):PE X (.Attribute e f pos) (fk X.K ta f):=by
 show Ú;apply adt J (aQ (M pins s σ H _ I h) λu W ⟨x,H1,j,U,a,C,dx,fs,v,ex,F,c,n,l,q⟩=>?_);subst ex;obtain rfl:u=Value.ref a:=U;exact adq j F c n l λZ Y z O=>⟨v,H1,z,O,q⟩
def fm(M:PE X o ta)(O:PE X jB tv)(hs:swapsWith jB (some (.Attribute o f mG)) pos.line X.env=pure false):PS X (.Assign [.Attribute o f mG] jB pos) (FW X.K ta tv f):=by
 intro pins s σ H D I h;apply aa4 (aQ (O pins s σ H _ I h) λu s1 ⟨y,H1,j,Z,q⟩=>aQ (M pins s1 σ H1 _ j q) λU s2 ⟨x,H2,z,Y,a,C,dx,fs,ex,J,c,n,l,W⟩=>?_) hs;subst ex;obtain rfl:U=Value.ref a:=Y;exact ads z J c n l Z λs3 F=>⟨σ,_,F,W⟩
def adu:R2:=gG λi j=>.int (i+j)
section
variable{X:Cx}{pins:cf}{σ:St}{H:Hp}{s:Sh}{A:Around}{E:VP}{Q:VP}{c:Value}{b:Bool}
end
structure eT(k:Nat)(A:Around):Prop where
 hd:A.handled=Β
 dp:A.depth+3*k+5<recursionLimit
 un:A.units+16*k+200<cLine
def eT.mono(r:eT k A)(h:j<=k):eT j A:=⟨r.hd,by let:=r.dp;af,by let:=r.un;af⟩
def eT.deeper(r:eT (k+1) A)(env:Env):eT k (A.deeper env):=
 ⟨r.hd,by let:=r.dp;show A.depth+1+3*k+5<_;af,by let:=r.un;show A.units+3+16*k+200<_;af⟩
def adv{A:Around}{C:Addr}{U:LV}{kw:List (Str×Value)}:(A.under (.builtin "type.__call__" ⟨.ref C::U,kw⟩)).depth=A.depth+1:=by
 rfl
def adw{A:Around}{C:Addr}{U:LV}{kw:List (Str×Value)}:(A.under (.builtin "type.__call__" ⟨.ref C::U,kw⟩)).units=A.units+1:=by
 rfl
def eT.make(r:eT (k+1) A)(C:Addr)(U:LV)(kw:List (Str×Value)):eT k (A.under (.builtin "type.__call__" ⟨.ref C::U,kw⟩)):=
 ⟨r.hd,by let:=r.dp;rw[adv];af,by let:=r.un;rw[adw];af⟩
def eT.depth(r:eT k A):A.depth<recursionLimit:=by let:=r.dp;af
def eT.units(r:eT k A):A.units+64<cLine:=by let:=r.un;af
def eT.adx(r:eT k A):A.units<cLine:=by let:=r.un;af
def du:TA:=λ_ H Q=>Q [] H
def ba(ta:TE)(q:TA):TA:=λσ H Q=>ta σ H λx H1=>q σ H1 λxs j=>Q (x::xs) j
def ag:PA X [] du:=λ_ _ _ _ H Q I h=>RC ⟨[],H,I,.nil,h⟩
def ae(F:ϥ te)(hr:PA X es t)(hs:starEach (e::es) X.env=(false,eval e X.env)::starEach es X.env:=by rfl):PA X (e::es) (ba te t):=by
 intro pos pins s σ H Q I h;rw[hs];show wpAny _ _ (spliced ((false,eval e X.env)::backTo pos û)) _ _ s;apply Fi (aQ (F pins s σ H _ I h) λu W ⟨x,H1,q,O,J⟩=>?_);exact aQ (hr pos pins W σ H1 _ q J) λZ Y ⟨xs,j,z,U,M⟩=>⟨x::xs,j,z,.cons O U,M⟩
def vw(t:TA):TE:=λσ H Q=>t σ H λxs H1=>xs.L<=sizeLine/\∀p,H1 p=Β->Q Ĝ (upd H1 p Ào)
def An(t:TA):TE:=λσ H Q=>t σ H λxs H1=>xs.L<=sizeLine/\∀p,H1 p=Β->Q Ĝ (upd H1 p Àp)
def rY{x1}(h:PA X es t):PE X (.Tuple es x1 pos) (vw t):=by
 intro pins s σ H Q I M;apply wpAny_Tuple_spliced (aQ (h pos pins s σ H _ I M) λU j ⟨xs,H1,F,r,z,q⟩=>⟨by rw[<-r.L];exact z,?_⟩);let J:H1 j.Z=Β:=F.aE.fresh (bC _);apply(.ref j.Z,upd H1 j.Z Ào,F.laid (t':=j.toks) (λb u e=>dv _ e) (bC _) ?_,Á,q _ J);exact(z,U,r,⟨_,ib _ Á,Á,_,Á⟩)
def dw(h:PA X es t):PE X (.List es pos) (An t):=by
 intro pins s σ H Q I M;apply wpAny_List_spliced (aQ (h pos pins s σ H _ I M) λU j ⟨xs,H1,F,r,z,q⟩=>⟨by rw[<-r.L];exact z,?_⟩);let J:H1 j.Z=Β:=F.aE.fresh (bC _);apply(.ref j.Z,upd H1 j.Z Àp,F.laid (t':=j.toks) (λb u e=>dv _ e) (bC _) ?_,Á,q _ J);exact(z,U,0,r,ib _ Á)
abbrev Sp:=az->Hp->VK->XK->Prop
abbrev oy:=List Env->Hp->Shared->XK->VP
structure yC(P:Pg)(w:Wd)(K:FR)(mg:MG)(base:Heap)(A:Around)(outer:List Env)(s:Sh)(H:Hp):Prop where
 frames:A.frames=Α outer
 mod:Mod K mg base
 bs:∀b o,base.I b=Α o->s.U b=Α o/\H b=Β
 rQ:base.O<=s.Z
 pF:s.H.FunFrames base outer
 wL:∀b∈pE outer,H b=Β
 aE:ķ s.H
 bare:AllBare s.gens
def CE(outer:List Env)(P:Pg)(w:Wd)(H:Hp)(s:Sh)(Q:VK)(u:Value)(s':Sh):Prop:=
 ∃v H',s'.os=s.os/\AllBare s'.gens/\Un (pE outer) [] H H' s.H s'.H/\fc P w H' s'.H/\RelV v u/\Q v H'
def CR(CX:oy)(outer:List Env)(P:Pg)(w:Wd)(H:Hp)(s:Sh)(Q:VK)(E:XK)(r:Result)(s':Sh):Prop:=
 match r with
 |.ok (.ret u)=>CE outer P w H s Q u s'
 |.ok _=>False
 |.error e=>CX outer H s E e s'
structure a0(P:Pg)(w:Wd)(K:FR)(mg:MG)(base:Heap)(CX:oy)(k:Nat)(f:Addr)(fd:FD)(ps:LS)(sp:Sp):Prop where
 len:∀vs H Q E,sp vs H Q E->vs.L=ps.L
 run:∀(A:Around)(outer:List Env)(s:Sh)(H:Hp)(args:Args)(us:LV)(vs:az)(Q:VK)(E:XK),eT k A->Ág H->BindsTo s fd args Às->bq vs us->sp vs H Q E->
  codeAny Âe A (.call ď args) (CR CX outer P w H s Q E) s
def yC.make{P:Pg}{w:Wd}{K:FR}{mg:MG}{base:Heap}{A:Around}{outer:List Env}{s:Sh}{H:Hp}(e:Ág H)(C:Addr)(U:LV)(kw:List (Str×Value)):
  yC P w K mg base (A.under (.builtin "type.__call__" ⟨.ref C::U,kw⟩)) outer s H:=⟨by first|exact e.frames|(simpa [Around.under,Code.envs,Code.isFrame,pushEnvs] using e.frames),e.mod,e.bs,e.rQ,e.pF,e.wL,e.aE,e.bare⟩
section
variable{X:Cx}{pins:cf}{σ:St}{H:Hp}{s s':Sh}
def Inv.Cy(I:Ã H s):yC X.prog X.w X.K X.mg X.base X.A X.stack s H:=
 ⟨I.ok.frames,I.ok.mod,I.bs,gq I.ok.rQ I.sz,I.stack,I.FA,I.aE,I.bare⟩
def Inv.after(I:Ã H s)(h:CE X.stack X.prog X.w H s Q u s'):ô Q u s':=by
 let(v,H',os,bare,un,aE,r,q):=h;let(j,g,d,t,O):=s';obtain rfl:O=s.os:=os;exact(v,H',I.call (h':=j) (g':=g) (d':=d) (t':=t) (ch:=[]) un aE bare ļ,r,q)
end
def g9(sp:Sp)(j:az)(E:XK)(t:TA):TE:=λσ H Q=>t σ H λvs H1=>sp (vs++j) H1 Q E
def SX(C:Addr)(sp:Sp)(J:az)(E:XK)(t:TA):TE:=λσ H Q=>t σ H λvs H1=>∀x dx,H1 x=Β->H1 dx=Β->dx≠x->
 sp (.ref x::(vs++J)) (upd (upd H1 dx Åu) x Âx) (λv j=>v=.aP/\Q ŧ j) E
def Binds(K:FR)(fd:FD)(ps:LS)(j:LV):Prop:=
 ∀(s:Sh)(U:LV),K.In s.H->(U++j).L=ps.L->BindsTo s fd ⟨U,[]⟩ (ps.zip (U++j))
def Binds.all{K:FR}{fd:FD}{ps:LS}(h:∀us:LV,us.L=ps.L->bindArgs fd ⟨us,[]⟩=pure Às):Binds K fd ps []:=λs us _ j=>by
 rw[jG] at j⊢;exact .of_eq (h us j)
def vx(CX:oy)(X:Cx)(E:XK):Prop:=∀(pins:cf)(σ:St)(H:Hp)(s:Sh)(e:Value)(s':Sh),Ã H s->CX X.stack H s E e s'->X.xe e s'
def adz(F:ý CX k f fd ps sp)(hr:eT k X.A)(z:ŉ ds)(hd:bq jl ds)(M:vx CX X E)(I:Ã H s) (r:bq vs us) (h:sp (vs++jl) H Q E):wpAny È X.A (call ď us) (ô Q) X.xe s:=by
 let q:bq (vs++jl) (us++ds):=r.append hd;let J:(us++ds).L=ps.L:=by rw[<-q.L];exact F.len _ _ _ _ h
 apply Fd (yg (F.run X.A X.stack s H ⟨us,[]⟩ (us++ds) (vs++jl) Q E hr I.Cy (z s us I.gE J) q h) λr s' j=>?_);cases r with
 |error e=>exact M pins σ H s e s' I j
 |ok fl=>
  cases fl with
  |ret u=>exact I.after j
  |next=>exact False.elim j
  |brk=>exact False.elim j
  |cont=>exact False.elim j
def nI(F:ý CX k f fd ps sp)(hr:eT k X.A)(O:Gl X x)(U:X.mg x=Α ď)(hk:PySem.W.keepIn X.K ď=true)(J:ŉ ds)(hd:bq jl ds)(Y:vx CX X E)(z:PA X (e::es) t) (Z:(x==("__debug__":Str))=false:=by decide) (M:starEach (e::es) X.env=(false,eval e X.env)::starEach es X.env:=by rfl) (j:(backTo pos û).any (·.1)=false:=by rfl):
  PE X (.Call Ϗ (e::es) [] pos) (g9 sp jl E t):=by
 show Ú;apply zU (yt I O U ?_ Z);refine PySem.W.callWith_K (h₀:=X.base) I.ok.mod.wK hk (aQ (z pos pins s σ H _ I h) λus s1 ⟨vs,H1,I1,r,q⟩=>Äj) M j;exact adz F hr J hd Y I1 r q
structure Mk(K:FR)(C f:Addr):Prop where
 makes:PySem.W.makesIn K C=true
 init:PySem.W.findIn K Ĉ "__init__"=Α Âr
 fn:PySem.W.isFn K ď=true
 kp:PySem.W.keepIn K Ĉ=true
def adA{pins:cf}{σ:St}{H:Hp}{s:Sh}{Q:VK}{U:LV}{vs:az}(M:Mk X.K C f)(F:ý CX k f fd ps sp)(hr:eT (k+1) X.A)(Z:ŉ ds)(hd:bq jl ds)(hx:vx CX X E) (I:Ã H s) (r:bq vs U)(h:∀x dx,H x=Β->H dx=Β->dx≠x->sp (.ref x::(vs++jl)) (upd (upd H dx Åu) x Âx) (λv O=>v=.aP/\Q ŧ O) E):
  wpAny È X.A (call Ĉ U) (ô Q) X.xe s:=by
 let z:=h Û s.Z (I.aE.fresh (Fj _)) ġ (fV (RB _));let q:=Inv.made (C:=C) I;let J:bq (V.ref Û::(vs++jl)) (Value.ref Û::(U++ds)):=.cons rfl (r.append hd);let hl:(Value.ref Û::U++ds).L=ps.L:=by
  let e:=J.L;rw[F.len _ _ _ _ z] at e;symm
 refine Fd (adn (f:=f) I.gE M.makes M.init (zT.mp M.fn) (yg (F.run _ X.stack _ _ ⟨Value.ref Û::U,[]⟩ (Value.ref Û::(U++ds)) _ _ E (hr.make C U [])
  (q.Cy.make C U []) (Z _ (Value.ref Û::U) q.gE hl) J z) λr s' j=>?_))
 cases r with
 |error e=>exact hx pins σ _ _ e s' q j
 |ok fl=>
  cases fl with
  |ret u=>
   let(v,H',W,rv,Y,q3):=q.after j;subst Y;exact(rv,⟨V.ref Û,H',W,Á,q3⟩)
  |next=>exact False.elim j
  |brk=>exact False.elim j
  |cont=>exact False.elim j
def adB(M:Mk X.K C f)(F:ý CX k f fd ps sp)(hr:eT (k+1) X.A)(U:Gl X x)(Y:X.mg x=Α Ĉ)(J:ŉ ds)(hd:bq jl ds)(Z:vx CX X E)(z:PA X (e::es) t) (j9:(x==("__debug__":Str))=false:=by decide) (O:starEach (e::es) X.env=(false,eval e X.env)::starEach es X.env:=by rfl) (j:(backTo pos û).any (·.1)=false:=by rfl):
  PE X (.Call Ϗ (e::es) [] pos) (SX C sp jl E t):=by
 show Ú;apply zU (yt I U Y ?_ j9);refine PySem.W.callWith_K (h₀:=X.base) I.ok.mod.wK M.kp (aQ (z pos pins s σ H _ I h) λus s1 ⟨vs,H1,I1,r,q⟩=>Äj) O j;exact adA M F hr J hd Z I1 r q
structure bG(N P:LS)(sc:Scope):Prop where
 kind:sc.kind=.function
 co:sc.isCoroutine=false
 gen:sc.isGenerator=false
 nd:N.Nodup
 pre:N.take P.L=P
 par:∀x∈P,sc.names.Q x=Α .local\/sc.names.Q x=Α .cell
 adC:∀y∈sc.names,y.2≠ .free
theorem adD{kindOf:Str->Option NameKind}{x:Str}{binds:List (Str×Value)}:∀{m:MG},(∀v,(x,v)∉binds)->bindL kindOf binds m x=m x:=by
 induction binds with
 |nil=>exact @λ_ _=>Á
 |cons j r z=>
  let(n,v):=j;intro m h;ext bindL;rw[z λw q=>h w (aL _ q)];split
  .let:x≠n:=by rintro rfl;exact h v eP
   simp[this]
  .rfl
theorem adE{kindOf:Str->Option NameKind}{x:Str}{binds:List (Str×Value)}:∀{m:MG},(∀v,(x,v)∉binds)->bindC kindOf binds m x=m x:=by
 induction binds with
 |nil=>exact @λ_ _=>Á
 |cons j r z=>
  let(n,v):=j;intro m h;ext bindC;rw[z λw q=>h w (aL _ q)];split
  .rfl
  .let:x≠n:=by rintro rfl;exact h v eP
   simp[this]
def adF{kindOf:Str->Option NameKind}{x:Str}{v:Value}{P:LS}:∀{vs:LV}{i:Nat}{m:MG},P.Nodup->P[i]? =Α x->vs[i]? =Α v->kindOf x=Α .local->
  bindL kindOf (P.zip vs) m x=Α v:=by
 induction P with
 |nil=>intro _ _ _ _ h;simp at h
 |cons p P z=>
  intro vs i m nd j h2 hk;cases vs with
  |nil=>simp at h2
  |cons w vs=>
   show bindL kindOf ((p,w)::P.zip vs) m x=_;ext bindL;cases i with
   |zero=>
    simp at j h2;subst j;subst h2;rw[adD λv q=>(kZ.mp nd).1 (JB q).1,ai hk];simp
   |succ i=>exact z (kZ.mp nd).2 j h2 hk
def adG{kindOf:Str->Option NameKind}{x:Str}{v:Value}{P:LS}:∀{vs:LV}{i:Nat}{m:MG},P.Nodup->P[i]? =Α x->vs[i]? =Α v->kindOf x≠some .local->
  bindC kindOf (P.zip vs) m x=Α v:=by
 induction P with
 |nil=>intro _ _ _ _ h;simp at h
 |cons p P z=>
  intro vs i m nd j h2 hk;cases vs with
  |nil=>simp at h2
  |cons w vs=>
   show bindC kindOf ((p,w)::P.zip vs) m x=_;ext bindC;cases i with
   |zero=>
    simp at j h2;subst j;subst h2;rw[adE λv q=>(kZ.mp nd).1 (JB q).1,ah hk];simp
   |succ i=>exact z (kZ.mp nd).2 j h2 hk
def start(N:LS)(vs:az):St:=vs.M some++List.replicate (N.L-vs.L) none
def oA(CX:oy)(P:Pg)(w:Wd)(K:FR)(mg:MG)(base:Heap)(N:LS)(d9:Str)(scope:Scope)(f:Addr)(cd:Value)(A:Around)(outer:List Env)(s:Sh)(H:Hp)(E:XK):Cx where
 prog:=P
 w:=w
 K:=K
 mg:=mg
 base:=base
 A:=A.deeper Ž
 N:=N
 jL:=s
 yp:=H
 env:=envOfC d9 scope s.Z f cd
 outer:=outer
 stack:=envOfC d9 scope s.Z f cd::outer
 ex:=[]
 calm:=true
 fn:=λ_=>true
 pn:=[]
 xe:=λe s'=>wpAny Âe (A.deeper Ž) (leaving Ž e) (λ_ j=>CX outer H s E e j) (λq j=>CX outer H s E q j) s'
def SY{j:Scope}{n:Nat}{x:Str}(h:j.names.Q x=Α .cell):∃c,(cellsFrom n j.names []).Q x=Α c:=by
 let q:=PySem.W.cellsFrom_some j.names n [] (.inl h);exact JC.mp q
def adH{CX:oy}{P:Pg}{w:Wd}{K:FR}{mg:MG}{base:Heap}{N ps:LS}{d9:Str}{j:Scope}{f:Addr}{O:Value}{A:Around}{outer:List Env}{s s1:Sh}{H:Hp}{E:XK}{us:LV}{vs:az}(S:bG N ps j) (hd:A.handled=Β) (F:Ág H) (hl:vs.L=ps.L) (r:bq vs us)(x:InCallC s s.Z (bindL (envOfC d9 j s.Z f O).kindOf Às λ_=>none) (cellsFrom Û j.names []) (bindC (envOfC d9 j s.Z f O).kindOf Às λ_=>none) s1):
  Inv (Ķ j f O A outer s H E) [] Âq H s1:=by
 let dZ:ps.L<=N.L:=by let:=cb List.length S.pre;rw[iS] at this;af
 let(U,tk,rfl,hk):=x.done;let W:∀b:Addr,b∉(Ķ j f O A outer s H E).ex:=λb z=>absurd (show b∈([]:LA) from z) Ä;apply⟨⟨F.mod,S.kind,Á,Á,bC _,λy z c U h2=>?_,λy J=>?_,λy c _ h=>?_,λ_=>hd,Around.frames_deeper F.frames,.inr ⟨Á,Á⟩,λb z=>absurd z (W b),F.bs,F.rQ,λb _ _=>W b,λb z=>absurd z (W b),F.pF,F.wL⟩,
  rfl,F.bare,Un.kept hk,⟨_,x.toInCall.ns,λi y v U h2 h3=>?_⟩,λy c h=>⟨_,x.cell y c h⟩,F.aE.fresh (bC _),λy c h=>?_,λp M=>absurd (show p∈([]:cf) from M) Ä,F.aE.kept hk,?_⟩
 .exact name_of_addr x.apart (PySem.mem_of_lookup U) (PySem.mem_of_lookup h2)
 .let J:j.names.Q y=Α .cell\/j.names.Q y=Α .free:=J;rcases J with J|J
  .exact SY J
  .exact absurd Á (S.adC _ (PySem.mem_of_lookup J))
 .exact tp (x.above y c (PySem.mem_of_lookup h))
 .let hi:i<vs.L:=by
   delta start at h2;by_cases hi:i<vs.L
   .exact hi
   .rw[RD (À hi)] at h2;rw[List.getElem?_replicate] at h2;split at h2 <;> cases h2
  let ha:vs[i]? =Α v:=by
   delta start at h2;rw[Fk (À hi),bA] at h2;cases e:vs[i]? with
   |none=>rw[e] at h2;cases h2
   |some a=>rw[e] at h2;cases h2;rfl
  let(u,Z,rv):=r.get ha;let M:ps[i]? =Α y:=by
   rw[<-S.pre,aa5 Å];exact U
  let Y:ps.Nodup:=by rw[<-S.pre];exact S.nd.sublist (List.take_sublist _ _)
  apply(u,rv,?_);rcases S.par y (bo M) with k|k
  .exact .inl ⟨k,adF Y M Z k⟩
  .let(c,e):=SY (n:=s.Z+1) k;apply .inr ⟨.inl k,c,e,?_⟩;let q:=x.cell y c e;rw[adG Y M Z (by show j.names.Q y≠_;rw[k];decide)] at q;exact q
 .exact F.aE.fresh (tp (x.above y c (PySem.mem_of_lookup h)))
 .ext start;show _=N.L;rw[j5,ao,List.length_replicate];symm
def S2{CX:oy}{P:Pg}{w:Wd}{K:FR}{mg:MG}{base:Heap}{k:Nat}{f:Addr}{name d9:Str}{j:Arguments}{O:List Stmt}{scope:Scope}{dV kV jC pm aK ct oc:Value}{Z od:OA}{pC:AO} {N ps:LS} {sp:Sp} (lk:K.Q f=Α ⟨oc,od,.func (PySem.W.fnOf name d9 j O scope dV kV jC pm Z aK ct),pC⟩) (nB:PySem.W.codeIn K aK d9=true) (S:bG N ps scope)(len:∀vs H Q E,sp vs H Q E->vs.L=ps.L)(CD:∀(A:Around)(outer:List Env)(s:Sh)(H:Hp)(vs:az)(Q:VK)(E:XK),eT k (A.deeper (envOfC d9 scope s.Z f aK))->sp vs H Q E->
   ∃t,l7 Ài O t/\t {nx:=λ_ H'=>Q .aP H',rt:=Q} Âq H):
  a0 P w K mg base CX (k+1) f (PySem.W.fnOf name d9 j O scope dV kV jC pm Z aK ct) ps sp:=by
 apply(len,λA outer s H args us vs Q E hr z hb r mZ=>?_);let hl:=len _ _ _ _ mZ;let Y:K.In s.H:=z.mod.wK.keeps λb o e=>(z.bs b o e).1;let M:s.H.NoLimit:=z.mod.nolimit.keeps λb o e=>(z.bs b o e).1;let F:∀y∈ps.zip us,scope.names.Q y.1=Α .local\/(scope.names.Q y.1=Α .cell/\((cellsFrom Û scope.names []).Q y.1).isSome=true):=λ⟨n,v⟩ hy=>by
  rcases S.par n (JB hy).1 with q|q
  .symm
  .exact .inr ⟨q,PySem.W.cellsFrom_some _ _ _ (.inl q)⟩
 apply codeAny_call_function hr.depth (Y _ _ lk) Á S.co S.gen Á (PySem.W.codeRec_of Y nB) (hb _ _ _ _ ?_);apply wpAny_newFunctionEnv_cells S.kind F λenv he s1 x=>?_;subst he;apply(M.keeps x.toInCall.keep,codeAny_func ?_);let(t,ht,hq):=CD A outer s H vs Q E (hr.deeper _) mZ;let I:Inv Ài [] Âq H s1:=adH S hr.hd z hl r x;apply jE (ht [] s1 Âq H _ I hq) (λfl s' hs=>?_) λe s' hs=>hs;let fin:∀{σ':St}{H':Hp}{v:V}{u:Value},Inv Ài [] σ' H' s'->RelV v u->Q v H'->CE outer P w H s Q u s':=
  λ{σ' H' v u}J U q=>⟨v,H',J.os,J.bare,J.base,J.aE,U,q⟩
 cases fl with
 |ret u=>
  let(v,σ',H',J,U,q):=hs;exact fin J U q
 |next=>
  let(σ',H',J,q):=hs;exact fin (v:=V.aP) (u:=Value.none) J Á q
 |brk=>
  let(_,_,_,q):=hs;symm
 |cont=>
  let(_,_,_,q):=hs;symm
section
variable{X:Cx}{x:Str}{p pos:Pos}{e:Expr}{es:List Expr}{t:TA}{id T:String}{r:az->Hp->VK->Prop}
def rZ(r:az->Hp->VK->Prop)(t:TA):TE:=λσ H Q=>t σ H λvs H1=>r vs H1 Q
def c9(hc:lg X ϖ r)(hg:Gl X x)(hm:X.mg x=Β)(M:bootBuiltins x=Α ϖ)(z:PA X (e::es) t)(J:x≠"__name__":=by decide)(O:(x==("__debug__":Str))=false:=by decide)(F:starEach (e::es) X.env=(false,eval e X.env)::starEach es X.env:=by rfl) (q:(backTo pos û).any (·.1)=false:=by rfl):PE X (.Call Ϗ (e::es) [] pos) (rZ r t):=by
 show Ú;apply zU (Àq M ?_ J O);exact atA (aQ (z pos pins s σ H _ I h) λZ Y ⟨vs,H1,j,W,U⟩=>hc pins Y σ H1 vs Z Q j W U) F q
def vy(hc:lg X (.type T) r)(hg:Gl X x)(hm:X.mg x=Β)(M:bootBuiltins x=Α (.type T))(z:PA X (e::es) t)(J:x≠"__name__":=by decide)(O:(x==("__debug__":Str))=false:=by decide)(F:starEach (e::es) X.env=(false,eval e X.env)::starEach es X.env:=by rfl) (q:(backTo pos û).any (·.1)=false:=by rfl):PE X (.Call Ϗ (e::es) [] pos) (rZ r t):=by
 show Ú;apply zU (Àq M ?_ J O);exact Fh (aQ (z pos pins s σ H _ I h) λZ Y ⟨vs,H1,j,W,U⟩=>hc pins Y σ H1 vs Z Q j W U) F q
end
end L2
namespace HT
open PySem PyProof.Rows
def lexLt:LI->LI->Bool
 |[],[]=>false
 |[],_::_=>true
 |_::_,[]=>false
 |x::xs,y::ys=>if x=y then lexLt xs ys else decide (x<y)
def vz(x y:Int)(xs ys:LI):lexLt (x::xs) (y::ys)=if x=y then lexLt xs ys else decide (x<y):=rfl
def S3:lexLt [] []=false:=rfl
def S4(y:Int)(ys:LI):lexLt [] (y::ys)=true:=rfl
def S5(x:Int)(xs:LI):lexLt (x::xs) []=false:=rfl
def S6(A:Around)(s:Sh)(a:Int)(t:Tok)(c:Int)(u:Tok):∃e,SeqAt.EqAt A s (.int a t) (.int c u) e/\(e=true↔a=c):=
 ⟨(a==c),SeqAt.EqAt.int_int a t c u,by simp⟩
def Ky(A:Around)(s:Sh)(a:Int)(t:Tok)(c:Int)(u:Tok)(prog:Pg)(w:Wd)(E:VP)(Q:VP)(h:Q (.bool (decide (a<c))) s):
  wpAny Í A (richCompare .Lt (.int a t) (.int c u)) Q E s:=
 (PyProof.Rows.lt_int h:wpAny Í A (compareOp .Lt (.int a t) (.int c u)) Q E s)
section
open PySem.SeqAt
open PySem.AutoSeq1 (wpAny_loadPart')
open PySem.MeetsSeq PySem.MeetsSeq2 PySem.MeetsSeq3
def adJ(l b:Addr)(items z:Array Value)(n n2:Nat)(dd nJ:OA)(sl oB:AO)(ns ms:LI)(hi:IntsAre items.toList ns)(hj:IntsAre z.toList ms):
  Meets (Builtin.«tuple.__lt__» ⟨[.ref l,.ref b],[]⟩)
   (λ_ R s=>s.U l=Α {cls:=.type "tuple",dict:=dd,data:=.seq items n,slots:=sl}/\s.U b=Α {cls:=.type "tuple",dict:=nJ,data:=.seq z n2,slots:=oB}/\
    R (.ok (.ret ώ)) s):=
 .of_wp λprog w A R s h=>by
  let(W,g,d,tk,os):=s;let(hl,hb,h):=h;let f2:=atD;let z1:items.u=ns.L:=by rw[<-hi.L];simp
  let z2:z.u=ms.L:=by rw[<-hj.L];simp
  wp_walk using jF hl,jF hb,wpAny_forIn_list _ (λb9 b s'=>b.1=Β/\s'=⟨W,g,d,tk,os⟩/\∃(vs Z:LV)(J F:LI),b9=vs.zip Z/\
   IntsAre vs J/\IntsAre Z F/\J.L+z.u=F.L+items.u/\R (.ok (.ret (.bool (lexLt J F)))) ⟨W,g,d,tk,os⟩) _
  case turn=>
   rintro⟨y,x⟩ b9 b s' ⟨qF,rfl,vs,Z,J,F,hz,Ao,Y,M,j⟩;cases Ao with
   |nil=>rw[List.zip_nil_left] at hz;cases hz
   |cons a t O=>
    cases Y with
    |nil=>rw[List.zip_nil_right] at hz;cases hz
    |cons c u U=>
     rw[zV] at hz;injection hz with hyx hrest;injection hyx with hy hx;subst hy hx;rw[vz] at j;simp only[dh] at M;let(e,he,CH):=S6 A.in1 ⟨W,g,d,tk,os⟩ a t c u;apply aG (he prog w _ _ ?_);cases e with
     |true=>
      rw[ai (CH.mp rfl)] at j
      wp_walk
      exact(Á,Á,_,_,_,_,hrest,O,U,by af,j)
     |false=>
      rw[ah (λq=>absurd (CH.mpr q) eO)] at j;let r6:=Ky A.in1 ⟨W,g,d,tk,os⟩ a t c u prog w
      wp_walk using r6
      exact(_,Á,À j)
  case fin=>
   rintro⟨b1,b2⟩ s' ⟨qF,rfl,vs,Z,J,F,hz,Ao,Y,M,j⟩;simp only at qF;subst qF;let hv:lexLt J F=decide (items.u<z.u):=by
    cases Ao with
    |nil=>
     cases Y with
     |nil=>
      simp only[tm] at M;rw[S3];exact(gD (by omega)).symm
     |cons c u hw=>
      simp only[tm,dh] at M;rw[S4];exact(eQ (by omega)).symm
    |cons a t hv=>
     cases Y with
     |nil=>
      simp only[tm,dh] at M;rw[S5];exact(gD (by omega)).symm
     |cons c u hw=>
      rw[zV] at hz;cases hz
   rw[hv] at j
   wp_walk
   exact(_,Á,by simpa [Builtin.Tuple.tupleCompareSizes] using j)
  case h=>
   exact(Á,Á,items.toList,z.toList,ns,ms,Á,hi,hj,by omega,h)
end
def S7(U:IsTup s.H l items)(M:IsTup s.H b iI)(hi:IntsAre items.toList ns)(O:IntsAre iI.toList ms)(W:A.units<cLine) (h:Q ώ s):wpAny Í A (compareOp .Lt Âa (.ref b)) Q E s:=by
 let((cls,dd,data,sl),q,hc,n,hd):=id U;let((S8,Z,data2,oB),J,z,Y,j):=id M;simp only at hc hd z j;subst hc hd z j;exact RE (op:=.Lt) ⟨_,q,Á⟩ ⟨_,J,Á⟩ PySem.F.slot_tuple_lt PySem.F.entry_tuple_lt (PySem.F.args_tuple_lt_2 _ _) (adJ l b items iI n Y dd Z sl oB ns ms hi O)
  ⟨q,J,show Value.bool (lexLt ns ms)≠Value.notImplemented/\Q ώ s from⟨(λx=>nomatch x),h⟩⟩ W
def nN(n d:Nat):Option Int->Nat
 |none=>d
 |some v=>if v<0 then (v+(n:Int)).toNat else min v.toNat n
def S9(n d:Nat):nN n d none=d:=rfl
def Ta(n d k:Nat):nN n d (some (k:Int))=min k n:=by
 rfl
end HT
namespace L2
open PySem PySem.Spec PyProof.Rows
abbrev TO:=St->Hp->(Option Int->Hp->Prop)->Prop
def PO(X:Cx)(e:Option Expr)(t:TO):Prop:=
 ∀(pins:cf)(s:Sh)(σ:St)(H:Hp)(Q:Option Int->Hp->Prop),Ã H s->t σ H Q->
  wpAny È X.A (evalPart e X.env) (λu s'=>∃o H',Ã H' s'/\IsPart u o/\Q o H') X.xe s
def Tb:TO:=λ_ H Q=>Q none H
def Tc(t:TE):TO:=λσ H Q=>t σ H λx H1=>∃i,x=.int i/\Q (some i) H1
theorem intsAre_of{ns:LI}:∀{U:LV},bq Ŭ U->IntsAre U ns:=by
 induction ns with
 |nil=>intro U r;rw[mO] at r;cases r;exact .nil
 |cons n ns j=>
  intro U r;rw[a8] at r;cases r with
  |cons q z=>
   let(t,e):=q;subst e;exact .cons n t (j z)
section
variable{X:Cx}{e:Expr}{te:TE}{lo hi:Option Expr}{tl th:TO}{pos p2:Pos}
def wV:PO X none Tb:=by
 show Ú;rw[evalPart_none];exact cY ⟨none,H,I,.none,h⟩
def wW(h:ϥ te):PO X (some e) (Tc te):=by
 intro pins s σ H Q I z;rw[evalPart_some];apply aQ (h pins s σ H _ I z) λu M ⟨x,H1,j,J,F⟩=>?_;let(i,rfl,q):=F;let(t,rfl):=J;exact(some i,H1,j,.int i t,q)
def Td(X:Cx)(r:V->Option Int->Option Int->Hp->VK->Prop):Prop:=
 ∀(pins:cf)(s:Sh)(σ:St)(H:Hp)(x:V)(v j q:Value)(lo hi:Option Int)(sl:Addr)(Q:VK),Ã H s->RelV x v->s.H.IsSliceOf sl j q .none->IsPart j lo->IsPart q hi->r x lo hi H Q->
  ∃T id,typeLookup (.type T) "__getitem__"=pure (some ϖ)/\s.TypeIs v T/\wpAny È X.A (getItem v (.ref sl)) (ô Q) X.xe s
def Te(r:V->Option Int->Option Int->Hp->VK->Prop)(te:TE)(tl th:TO):TE:=λσ H Q=>te σ H λx H1=>tl σ H1 λl j=>th σ j λu q=>r x l u q Q
def wX(hr:Td X r)(he:ϥ te)(hl:PO X lo tl)(hu:PO X hi th):PE X (.Subscript e (.Slice lo hi none p2) pos) (Te r te tl th):=by
 show Ú;apply Subscript_ (aQ (he pins s σ H _ I h) λv s1 ⟨x,H1,O,r1,q1⟩=>?_);apply wpAny_Slice (aQ (hl pins s1 σ H1 _ O q1) λz s2 ⟨l,M,U,pl,q2⟩=>aQ (hu pins s2 σ M _ U q2) λF j ⟨u,J,W,pu,q3⟩=>?_);rw[evalPart_none];apply cY ?_;let Y:Ã J {j with heap:=j.o {cls:=.type "slice",data:=.fields #[z,F,.none]}}:=W.kept (t':=j.toks) λb ob q=>dv _ q;let(T,id,Z,ht,hg):=hr pins {j with heap:=j.o {cls:=.type "slice",data:=.fields #[z,F,.none]}} σ J x v z F l u j.Z Q Y r1 (Heap.IsSliceOf.new ..) pl pu q3;show wpAny È X.A (subscriptTail e (.Slice lo hi none p2) v (.ref j.Z)) (ô Q) X.xe {j with heap:=j.o {cls:=.type "slice",data:=.fields #[z,F,.none]}};exact tail_any (ops:=[.ref j.Z,v]) ht Z hg Ï
def pO(xs:az)(lo hi:Option Int):az:=(xs.drop (HT.nN xs.L 0 lo)).take (HT.nN xs.L xs.L hi-HT.nN xs.L 0 lo)
def adK(xs:az)(lo hi:Option Int):(pO xs lo hi).L<=xs.L:=by
 ext pO;rw[iS,aa7]
 af
inductive Tf(K:FR)(x:V)(y:V)(H:Hp)(Q:VK):Prop
 |mk (a b ns ms:_) (_:x=.ref a) (_:y=.ref b) (_:š a Ŭ) (_:š b (ms.M V.int)) (_:Q (.bl Ϣ) H)
def adL(J:X.A.units<cLine):fj X Èh (Tf X.K):=by
 show ð;let(a,b,ns,ms,rfl,rfl,z,F,q):=h;cases rx;cases ry;let(j,Y,W,_):=I.tuple z;let(U,Z,p2,_):=I.tuple F;let M:IntsAre j.toArray.toList ns:=intsAre_of Y;let O:IntsAre U.toArray.toList ms:=intsAre_of Z;exact HT.S7 W p2 M O J ⟨.bl Ϣ,H,I,Á,q⟩
end
def tO(n:Nat)(i:Int):Option Nat:=if 0<=i then (if i<n then some i.toNat else none) else if-(n:Int)<=i then some (i+n).toNat else none
def qG{α:Type}(xs:List α)(i:Int):Option α:=(tO xs.L i).bind λj=>xs[j]?
def adM(h:tO n i=Α j):seqIndex? i n=Α j/\j<n/\ -(n:Int)<=i/\i<n:=by
 delta tO at h;by_cases z:0<=i
 .rw[ai z] at h;by_cases q:i<n
  .rw[ai q] at h;let e:i.toNat=j:=aU h;exact(by rw[seqIndex_of z q,e],by af,by af,q)
  .symm
 .rw[ah z] at h;by_cases q: -(n:Int)<=i
  .rw[ai q] at h;let e:(i+n).toNat=j:=aU h;exact(by rw[seqIndex_neg Å q,e],by af,q,by af)
  .symm
theorem Tg(h:qG xs i=Α v):∃j,seqIndex? i xs.L=Α j/\xs[j]? =Α v/\j<xs.L/\ -(xs.L:Int)<=i/\i<xs.L:=by
 delta qG at h;cases e:tO xs.L i with
 |none=>symm
 |some j=>
  rw[e] at h;let(q,h2,z,F):=adM e;symm
def f7{α:Type}{xs:List α}{j:Nat}{v:α}(h:xs[j]? =Α v):qG xs (j:Int)=Α v:=by
 let q:j<xs.L:=(bp.mp h).1;let e:tO xs.L (j:Int)=Α j:=by
  ext tO;symm
 ext qG;rw[e];exact h
def wY(xs:List α)(v:α):qG (xs++[v]) (-1)=Α v:=by
 let j:(xs++[v]).L=xs.L+1:=by simp
 let e:tO (xs++[v]).L (-1)=Α xs.L:=by
  ext tO;grind
 ext qG;symm
def adN(b:Expr):Prop:=∀o i,subscripted b false o i=operate [o,i] (getItem o i)
def Kz(X:Cx)(r:R2):Prop:=
 ∀(j W:Expr)(pins:cf)(s:Sh)(σ:St)(H:Hp)(x y:V)(v u:Value)(Q:VK),Ã H s->RelV x v->RelV y u->r x y H Q->
  subscripted W false v u=operate [v,u] (getItem v u)->wpAny È X.A (subscriptTail j W v u) (ô Q) X.xe s
def KA(X:Cx)(id:String)(r:V->az->Hp->VK->Prop):Prop:=
 ∀(pins:cf)(s:Sh)(σ:St)(H:Hp)(x:V)(xs:az)(v:Value)(U:LV)(Q:VK),Ã H s->RelV x v->bq xs U->r x xs H Q->
  wpAny È X.A (call ϖ (v::U)) (ô Q) X.xe s
section
variable{X:Cx}{a b:Expr}{ta tb:TE}{pos:Pos}
def cK(hr:Kz X r)(F:ϲ ta)(J:PE X b tb)(hs:adN b):PE X (.Subscript a b pos) Çq:=by
 show Ú;exact Subscript_ (Kj F J I h λv u U x y j z M O q=>hr a b pins U σ j x y v u Q z M O q (hs _ _))
inductive ic(K:FR)(x:V)(y:V)(H:Hp)(Q:VK):Prop
 |mk (p xs i v:_) (_:x=.ref p) (_:y=.int i) (_:ä p xs) (_:qG xs i=Α v) (_:Q v H)
inductive adO(K:FR)(x:V)(y:V)(H:Hp)(Q:VK):Prop
 |mk (p xs i v:_) (_:x=.ref p) (_:y=.int i) (_:š p xs) (_:qG xs i=Α v) (_:Q v H)
def dc:Kz X (ic X.K):=by
 intro jB wz pins s σ H x y v u Q I rx ry h hs;let(p,xs,i,z,rfl,rfl,hq,Z,q):=h;cases rx;let(t,rfl):=ry;let(O,r,pl,hz):=I.list hq;let(j,J,h2,h3,W,Y):=Tg Z;let(w,U,jm):=r.get h2;let hl:=r.L;let hn:=FV;let fin:ô Q w s:=⟨z,H,I,jm,q⟩;by_cases F:0<=i
 .let M:i.toNat=j:=by
   rw[seqIndex_of F Y] at J;symm
  exact item_listR pl.isList F Ù Å fin hs
 .let M:(i+(O.toArray.u:Int)).toNat=j:=by
   rw[seqIndex_neg Å W] at J;symm
  exact subscriptTail_builtinR (x:=w) pl.isList.typeIs slot_list_getitem.Q
   (wpAny_getItem_list_neg (Q:=λr s'=>r=w/\ô Q r s') pl.isList (by omega) (by rw[va] <;> simp_all) Ù (by rw[M];simpa using U) ⟨rfl,fin⟩) hs
def Ap:Kz X (adO X.K):=by
 intro jB wz pins s σ H x y v u Q I Y Z h hs;let(p,xs,i,z,rfl,rfl,U,M,q):=h;cases Y;let(t,rfl):=Z;let(ak,r,pl,hz):=I.tuple U;let(j,J,h2,h3,h4,h5):=Tg M;let(w,F,W):=r.get h2;let O:=r.L;let hn:=FV;let fin:ô Q w s:=⟨z,H,I,W,q⟩;exact subscriptTail_builtinR (x:=w) pl.typeIs slot_tuple_getitem.Q
  (getItem_tuple (j:=j) (Q:=λr s'=>r=w/\ô Q r s') pl Ù Ù (by rw[va,<-O];exact J) (À F) ⟨rfl,fin⟩) hs
def adP(lo hi:Option Int)(n:Nat):(sliceBounds lo hi none n).1=((HT.nN n 0 lo:Nat):Int)/\(sliceBounds lo hi none n).2.1=((HT.nN n n hi:Nat):Int)/\(sliceBounds lo hi none n).2.2=1:=by
 apply(?_,?_,Á)
 .cases lo with
  |none=>rfl
  |some i=>
   simp only[sliceBounds,HT.nN,Option.getD_none,show(1:Int)>0 by decide,Fl];grind
 .cases hi with
  |none=>rfl
  |some i=>
   simp only[sliceBounds,HT.nN,Option.getD_none,show(1:Int)>0 by decide,Fl];grind
def adQ(j:LV)(lo hi:Option Int):slicePick j.toArray lo hi none=((j.drop (HT.nN j.L 0 lo)).take (HT.nN j.L j.L hi-HT.nN j.L 0 lo)).toArray:=by
 let(q,h2,z):=adP lo hi j.toArray.u;ext slicePick;rw[q,h2,z];simp only[sliceRange_one,pick_run,va] <;> rfl
inductive Th(K:FR)(x:V)(lo:Option Int)(hi:Option Int)(H:Hp)(Q:VK):Prop
 |mk (a xs:_) (_:x=.ref a) (_:ä a xs) (_:∀p,H p=Β->Q Ĝ (upd H p (.lst (pO xs lo hi))))
def wZ:Td X (Th X.K):=by
 intro pins s σ H x v W Y lo hi sl Q I M hs pl J h;let(a,xs,rfl,F,q):=h;cases M;let(O,r,j,hz):=I.list F;let z:=r.L;apply⟨"list",_,slot_list_getitem.Q,j.isList.typeIs,?_⟩;apply wpAny_getItem_list_slice j.isList hs pl J .none Ä ?_ Å;rw[adQ,<-z];apply(.ref s.Z,_,I.laid (t':=s.toks) (o:=.lst (pO xs lo hi)) (λb U q=>dv _ q) (bC _) ?_,Á,q _ ġ);exact(gq (adK xs lo hi) hz,_,0,(r.drop (HT.nN xs.L 0 lo)).take (HT.nN xs.L xs.L hi-HT.nN xs.L 0 lo),ib _ Á)
def m3:V->Bool
 |.aP=>true
 |.bl _=>true
 |.int _=>true
 |.str _=>true
 |_=>false
def qH:V->V->Bool
 |.aP,.aP=>true
 |.bl a,.bl b=>a==b
 |.bl a,.int b=>(if a then 1 else 0)==b
 |.int a,.bl b=>a==(if b then 1 else 0)
 |.int a,.int b=>a==b
 |.str a,.str b=>a==b
 |_,_=>false
theorem adR(q:RelV y u)(j:RelV x v)(z:m3 y=true)(F:m3 x=true):SeqAt.EqAt A s u v (qH y x):=by
 cases y with
 |aP=>
  cases q;cases x with
  |aP=>cases j;exact SeqAt.EqAt.same _
  |bl b=>cases j;exact SeqAt.EqAt.none_bool b
  |int b=>let(t,rfl):=j;exact SeqAt.EqAt.none_int b t
  |str b=>let(t,rfl):=j;exact SeqAt.EqAt.none_str b t
  |_=>exact absurd (show false=true from F) eO
 |bl a=>
  cases q;cases x with
  |aP=>cases j;exact SeqAt.EqAt.bool_none a
  |bl b=>cases j;exact SeqAt.EqAt.bool_bool a b
  |int b=>let(t,rfl):=j;exact SeqAt.EqAt.bool_int a b t
  |str b=>let(t,rfl):=j;exact SeqAt.EqAt.bool_str a b t
  |_=>exact absurd (show false=true from F) eO
 |int a=>
  let(t',rfl):=q;cases x with
  |aP=>cases j;exact SeqAt.EqAt.int_none a t'
  |bl b=>cases j;exact SeqAt.EqAt.int_bool a t' b
  |int b=>let(t,rfl):=j;exact SeqAt.EqAt.int_int a t' b t
  |str b=>let(t,rfl):=j;exact SeqAt.EqAt.int_str a t' b t
  |_=>exact absurd (show false=true from F) eO
 |str a=>
  let(t',rfl):=q;cases x with
  |aP=>cases j;exact SeqAt.EqAt.str_none a t'
  |bl b=>cases j;exact SeqAt.EqAt.str_bool a t' b
  |int b=>let(t,rfl):=j;exact SeqAt.EqAt.str_int a t' b t
  |str b=>let(t,rfl):=j;exact SeqAt.EqAt.str_str a t' b t
  |_=>exact absurd (show false=true from F) eO
 |_=>exact absurd (show false=true from z) eO
def m4(x:V)(u:Value):Bool:=match u with
 |.none=>qH .aP x
 |.bool b=>qH (.bl b) x
 |.int i _=>qH Ãm x
 |.str z _=>qH (.str z) x
 |_=>false
theorem FX{x y:V}{u:Value}(r:RelV y u)(f:m3 y=true):m4 x u=qH y x:=by
 cases y with
 |aP=>cases r;rfl
 |bl b=>cases r;rfl
 |int i=>let(t,rfl):=r;rfl
 |str z=>let(t,rfl):=r;rfl
 |_=>exact absurd (show false=true from f) eO
theorem FY{x:V}:∀{xs:az}{U:LV},bq xs U->xs.all m3=true->U.any Çf=xs.any λy=>qH y x:=by
 intro xs U h;induction h with
 |nil=>exact λ_=>Á
 |cons r t j=>
  intro f;rw[tu,jH] at f;rw[vb,vb,FX r f.1,j f.2]
theorem CI{A:Around}{s:Sh}{x:V}{v:Value}(z:RelV x v)(F:m3 x=true):∀{xs:az}{U:LV},bq xs U->xs.all m3=true->∀u∈U,SeqAt.EqAt A s u v (m4 x u):=by
 intro xs U h;induction h with
 |nil=>intro _ u j;cases j
 |cons r t q=>
  intro f J j;rw[tu,jH] at f;rcases a9.mp j with rfl|j
  .rw[FX r f.1];exact adR r z f.1 F
  .exact q f.2 J j
def w6(x:V)(xs:az):Bool:=xs.any λy=>qH y x
inductive FZ(K:FR)(neg:Bool)(x:V)(y:V)(H:Hp)(Q:VK):Prop
 |mk (p xs:_) (_:y=.ref p) (_:(ä p xs\/bx K H p xs)) (_:m3 x=true) (_:xs.all m3=true) (_:Q (.bl (if neg then !w6 x xs else w6 x xs)) H)
def KB:fj X (compareOp .In) (FZ X.K false):=by
 show ð;let(p,xs,rfl,z,fx,fs,q):=h;cases ry;rcases z with z|z
 .let(j,r,pl,hz):=I.list z;apply SeqAt.in_listAt Çf pl.isList Ű ⟨.bl _,H,I,Á,?_⟩;rw[show j.toArray.any Çf=j.any Çf by simp,FY r fs];exact q
 .let(j,r,pl,hz):=I.tuple z;apply SeqAt.in_tupleAt Çf pl Ű ⟨.bl _,H,I,Á,?_⟩;rw[show j.toArray.any Çf=j.any Çf by simp,FY r fs];exact q
def adS:fj X (compareOp .NotIn) (FZ X.K true):=by
 show ð;let(p,xs,rfl,z,fx,fs,q):=h;cases ry;rcases z with z|z
 .let(j,r,pl,hz):=I.list z;apply SeqAt.notIn_listAt Çf pl.isList Ű ⟨.bl _,H,I,Á,?_⟩;rw[show j.toArray.any Çf=j.any Çf by simp,FY r fs];exact q
 .let(j,r,pl,hz):=I.tuple z;apply SeqAt.notIn_tupleAt Çf pl Ű ⟨.bl _,H,I,Á,?_⟩;rw[show j.toArray.any Çf=j.any Çf by simp,FY r fs];exact q
def gw:lg X (.builtin "len") (λxs H Q=>∃p ys,xs=[.ref p]/\(Ák p ys\/bx X.K H p ys)/\Q (.int ys.L) H):=by
 intro pins s σ H xs U Q I r h;let(p,ys,rfl,j,q):=h;let(u,rfl,M):=vals1 r;cases M;let O:=FV;rcases j with j|j
 .let(F,z,pl,hz):=I.list j;let J:=z.L;exact Calls.call_len_list pl.isList (by grind) ⟨.int ys.L,H,I.tok _,⟨s.toks+1,by simp_all⟩,q⟩
 .let(F,z,pl,hz):=I.tuple j;let J:=z.L;exact len_tuple pl (by grind) ⟨.int ys.L,H,I.tok _,⟨s.toks+1,by simp_all⟩,q⟩
def Ti:lg X (.type "list") (λxs H Q=>∃p ys,xs=[.ref p]/\(Ák p ys\/bx X.K H p ys)/\∀l,H l=Β->Q Âa (ϑ Âw)):=by
 intro pins s σ H xs Y Q I r h;let(p,ys,rfl,J,q):=h;let(u,rfl,W):=vals1 r;cases W;let fin:∀(j:LV),bq ys j->ys.L<=sizeLine->∀(h':Heap)(z:Nat),(∀b O,s.U b=Α O->h'.I b=Α O)->
   h'.I s.Z=Α {cls:=.type "list",dict:=Β,data:=.seq j.toArray z,slots:= #[]}->ô Q ú {s with heap:=h'}:=λj F hz h' z kp e=>
  ⟨.ref s.Z,_,I.laid (t':=s.toks) kp (bC _) (show gv X.prog X.w _ h' _ Âw from⟨hz,j,z,F,e⟩),rfl,q _ ġ⟩
 rcases J with J|J
 .let(j,F,pl,hz):=I.list J;let U:=F.L;let(o,M,hc,n,hd):=pl.isList;exact call_list_seq p ĝ M hc hd (λh' z kp e=>fin j F hz h' z kp e) Å
 .let(j,F,pl,hz):=I.tuple J;let U:=F.L;let(o,M,hc,n,hd):=pl;exact call_list_seq p Ép M hc hd (λh' z kp e=>fin j F hz h' z kp e) Å
def Tj:lg X (.type "tuple") (λxs H Q=>∃p ys,xs=[.ref p]/\((Ák p ys/\∀l,H l=Β->Q Âa (ϑ Æq))\/(bx X.K H p ys/\Q Ĝ H))):=by
 intro pins s σ H xs U Q I r h;let(p,ys,rfl,h):=h;let(u,rfl,M):=vals1 r;cases M;rcases h with ⟨z,q⟩|⟨z,q⟩
 .let(j,F,pl,hz):=I.list z;let O:=F.L;apply call_tuple_list pl.isList (λh' kp=>?_) Å;let I1:Ã H {s with heap:=h'}:=I.kept (t':=s.toks) kp;let J:Ã (upd H h'.O Æq) {s with heap:=h'.push {cls:=.type "tuple",data:=.seq j.toArray}}:=
   I1.laid (t':=s.toks) Æf (bC _) (show gv X.prog X.w _ _ _ Æq from⟨hz,j,F,IsTup.new _ _⟩)
  exact(.ref h'.O,_,J,Á,q _ Äg)
 .let(j,F,pl,hz):=I.tuple z;exact call_tuple_same pl ⟨.ref p,H,I,Á,q⟩
def KC(K:FR)(T:String)(x:V)(H:Hp):Prop:=match x with
 |.str _=>T="str"
 |.int _=>T="int"
 |.ref p=>(T="list"/\∃xs,ä p xs)\/(T="tuple"/\∃o,K.Q p=Α o/\o.cls=.type "tuple"/\o.dict=Β)\/
   (T="dict"/\((∃kvs,H p=Α đ)\/∃kvs,H p=Α Ãr))\/(T="set"/\∃S n,H p=Α (.set S n))
 |_=>False
def To(I:Ã H s)(r:RelV x v)(j:KC X.K T x H):
  s.TypeIs v T/\∀a,v=.ref a->∃O,s.U a=Α O/\O.dict=Β:=by
 cases x with
 |str z=>
  let(t,rfl):=r;cases (show T="str" from j);exact(typeIs_str s z t,λ_ e=>nomatch e)
 |int i=>
  let(t,rfl):=r;cases (show T="int" from j);exact(typeIs_int s i t,λ_ e=>nomatch e)
 |ref p=>
  cases r;rcases j with ⟨rfl,xs,F⟩|⟨rfl,o,hk,hc,hd⟩|⟨rfl,hk⟩|⟨rfl,S,n,hk⟩
  .let(J,_,pl,_):=I.list F;apply(pl.isList.typeIs,λa e=>?_);cases e;let(o,n,e,c,hd,_):=pl;symm
  .apply(⟨o,I.gE p o hk,hc⟩,λa e=>?_);cases e;exact(o,I.gE _ o hk,hd)
  .let z:∃o,s.U p=Α o/\o.ExactDict:=by
    rcases hk with ⟨kvs,hk⟩|⟨kvs,hk⟩
    .let(_,_,_,_,o,_,_,e,ex,_):=I.aE p _ hk;symm
    .let(_,_,_,_,o,_,_,e,ex,_):=I.aE p _ hk;symm
   let(o,e,ex):=z;apply(⟨o,e,ex.1⟩,λa q=>?_);cases q;exact(o,e,ex.2.1)
  .let(o,_,_,_,e,ex,_):=I.aE p _ hk;apply(⟨o,e,ex.1⟩,λa q=>?_);cases q;exact(o,e,ex.2.1)
 |_=>exact False.elim j
def adT(K:FR)(T:String)(r:V->az->Hp->VK->Prop)(to:TE):TE:=λσ H Q=>to σ H λx H1=>KC K T x H1/\r x [] H1 Q
def Tp(K:FR)(T:String)(r:V->az->Hp->VK->Prop)(to:TE)(t:TA):TE:=λσ H Q=>to σ H λx H1=>KC K T x H1/\t σ H1 λxs j=>r x xs j Q
variable{o e:Expr}{es:List Expr}{to:TE}{t:TA}{name:Str}{jg gH:Pos}{T id:String}{r:V->az->Hp->VK->Prop}
def Tq(M:PlainAttrs T)(slot:Slot T name id)(W:typeOf ϖ=pure (.type "method_descriptor"))(F:KA X id r)(J:PE X o to)(Z:attributeBase o name X.env Åa=eval o X.env:=by rfl) (yD:(jg.endLine==gH.line)=true:=by rfl):PE X (.Call (.Attribute o name jg) [] [] gH) (adT X.K T r to):=by
 show Ú;apply wpAny_Call_method0_late Z yD (aQ (J pins s σ H _ I h) λv U ⟨x,H1,j,q,Y,O⟩=>?_);let(z,h2):=To j q Y;exact(T,id,M,slot,W,z,h2,JD Á (PySem.evalArgs_none (F pins U σ H1 x [] v [] Q j q .nil O)))
def pP(pa:PlainAttrs T)(slot:Slot T name id)(tP:typeOf ϖ=pure (.type "method_descriptor"))(Y:KA X id r)(Z:PE X o to)(W:PA X (e::es) t)(vg:attributeBase o name X.env Åa=eval o X.env:=by rfl)(F:((backTo gH (starEach (e::es) X.env)).all (λx=>!x.1)&&(backToKw gH Ϲ).all (λx=>x.1.isSome)
   &&decide ((e::es).L+([]:List Keyword).L+(if ([]:List Keyword).isEmpty then 0 else 1)<30))=true:=by rfl)
  (yD:(jg.endLine==gH.line)=true:=by rfl) (hs:starEach (e::es) X.env=(false,eval e X.env)::starEach es X.env:=by rfl) (O:(backTo gH û).any (·.1)=false:=by rfl):
  PE X (.Call (.Attribute o name jg) (e::es) [] gH) (Tp X.K T r to t):=by
 show Ú;apply wpAny_Call_method_late vg F yD Á (aQ (Z pins s σ H _ I h) λv s1 ⟨x,H1,j,z,ty,q1⟩=>?_);let(U,h2):=To j z ty;apply(T,id,pa,slot,tP,U,h2,?_);let q:=W gH pins s1 σ H1 _ j q1;rw[hs] at q⊢;apply JD (by assumption) (RF ?_);exact aQ q λus s2 ⟨vs,J,M,r2,q2⟩=>Y pins s2 σ J x vs v us Q M z r2 q2
end
def KD(X:Cx)(id:String)(r:V->az->Hp->VK->Prop):Prop:=
 ∀(pins:cf)(s:Sh)(σ:St)(H:Hp)(x:V)(xs:az)(v:Value)(U:LV)(Q:VK),Ã H s->RelV x v->bq xs U->r x xs H Q->
  wpAny È X.A (call ϖ (v::U)) (ô Q) X.xe s
theorem bq.one:∀{x:V}{U:LV},bq [x] U->∃u,U=[u]/\RelV x u:=by
 intro x U h;cases h with
 |cons r t=>cases t;exact(_,Á,r)
def bq.zero:∀{U:LV},bq [] U->U=[]:=by
 intro U h;cases h;rfl
theorem bq.dropLast(h:bq xs us):bq xs.dropLast us.dropLast:=by
 induction h with
 |nil=>exact .nil
 |cons r t j=>
  cases t with
  |nil=>exact .nil
  |cons q t'=>exact .cons r j
def adU(l:List α):l.eraseIdx (l.L-1)=l.dropLast:=by
 simp
section
variable{X:Cx}{pins:cf}{σ:St}{H:Hp}{s:Sh}{l b:Addr}{xs ys zs:az}
def Inv.KF{j its':LV}{n:Nat}{f:Array Value->Array Value}{t':Nat}(I:Ã H s)(z:H l=Α Àp)(e:s.U l=Α {cls:=.type "list",data:=.seq j.toArray n}) (J:f j.toArray=its'.toArray) (O:bq ys its') (hz:ys.L<=sizeLine):
  Inv X pins σ (ϑ Âw) {s with heap:=s.H.update l (Obj.mapSeq f),toks:=t'}:=by
 let q:=PySem.IsL.update e f;rw[J] at q;apply I.write (x:=l) (e:=l) (by rw[z];exact trivial) ĝ (λU u F M=>(kY s.H (Obj.mapSeq f) (eF F)).R M) ⟨_,q⟩ ?_;exact(hz,its',_,O,q)
def Inv.adV{j:LV}{t':Nat}(I:Ã H s)(z:bq ys j)(hz:ys.L<=sizeLine):
  Inv X pins σ (ĕ Âw) {s with heap:=s.o {cls:=.type "list",data:=.seq j.toArray},toks:=t'}:=
 I.laid (λ_ _ q=>dv _ q) (bC _) ⟨hz,j,0,z,ib _ rfl⟩
def Inv.fresh(I:Ã H s):H s.Z=Β:=I.aE.fresh (bC _)
def Inv.Ar(I:Ã H s)(q:H l=Α Àp):xs.L<=sizeLine/\∃(j:LV)(n:Nat),bq xs j/\xs.L=j.L/\s.U l=Α {cls:=.type "list",data:=.seq j.toArray n}:=by
 let(z,j,n,r,e):=I.aE l _ q;exact(z,j,n,r,r.L,e)
def adW{n:Nat}(h:n<=sizeLine):Builtin.List.listTooLong n=false:=by
 ext Builtin.List.listTooLong;symm
end
inductive adX(x:V)(vs:az)(H:Hp)(Q:VK):Prop
 |mk (l xs y:_) (_:x=.ref l) (_:vs=[y]) (_:H l=Α Àp) (_:xs.L<sizeLine) (_:Q .aP (ϑ (.lst (xs++[y]))))
def yE:KD X "list.append" adX:=by
 intro pins s σ H x vs v Y Q I U O h;let(l,xs,y,rfl,rfl,J,hz,q):=h;cases U;let(u,rfl,M):=O.one;let(z,j,n,r,W,e):=I.Ar J;apply JE F.slot_list_append ⟨_,e,Á⟩ F.entry_list_append (F.args_list_append_2 _ _) (PySem.list_append l j.toArray n u Å) ⟨e,?_⟩;apply(.aP,_,I.KF (its':=j++[u]) J e Ä (r.append (.cons M .nil)) ?_,Á,q);grind
inductive adY(x:V)(vs:az)(H:Hp)(Q:VK):Prop
 |mk (l b xs zs:_) (_:x=.ref l) (_:vs=[.ref b]) (_:H l=Α Àp) (_:H b=Α (.lst zs)) (_:xs.L+zs.L<=sizeLine) (_:Q .aP (ϑ (.lst (xs++zs))))
def F1:KD X "list.extend" adY:=by
 intro pins s σ H x vs v us Q I rx rv h;let(l,b,xs,zs,rfl,rfl,M,W,hz,q):=h;cases rx;let(u,rfl,ru):=rv.one;cases ru;let(z,j,n,r,hl,e):=I.Ar M;let(z2,O,Y,Z,jN,U):=I.Ar W;let hsz:j.toArray.u+O.toArray.u<=sizeLine:=by rw[va,va];symm
 let J:¬(!j.toArray.isEmpty&&Builtin.List.listTooLong (j.toArray.u+O.toArray.u))=true:=by
  rw[adW hsz,zW];simp
 refine JE F.slot_list_extend ⟨_,e,Á⟩ F.entry_list_extend (F.args_list_extend_2 _ _)
  (AutoSeq1.list_extend_list_list_0 l j.toArray n b O.toArray Y J (by rw[va];symm) Ù) ⟨e,U,?_⟩
 apply(.aP,_,I.KF (its':=j++O) M e Ä (r.append Z) ?_,Á,q);symm
inductive ad0(x:V)(vs:az)(H:Hp)(Q:VK):Prop
 |mk (l xs y:_) (_:x=.ref l) (_:vs=[]) (_:H l=Α Àp) (_:xs[xs.L-1]? =Α y) (_:Q y (ϑ (.lst xs.dropLast)))
def Tr:KD X "list.pop" ad0:=by
 intro pins s σ H x vs v us Q I rx rv h;let(l,xs,y,rfl,rfl,M,Y,q):=h;cases rx;let J:=rv.zero;subst J;let(z,j,n,r,U,e):=I.Ar M;let(u,W,Z):=r.get Y;let O:j.toArray[j.toArray.u-1]? =Α u:=by
  show j.toArray[j.L-1]? =Α u;rw[<-aa8,<-U];exact W
 apply JE F.slot_list_pop ⟨_,e,Á⟩ F.entry_list_pop (F.args_list_pop_1 _) (MeetsSeq.list_pop_last l j.toArray n u O (by rw[va];symm)) ⟨e,?_⟩;apply(y,_,I.KF (its':=j.dropLast) M e ?_ r.dropLast ?_,Z,q)
 .show j.toArray.eraseIdxIfInBounds (j.toArray.u-1)=j.dropLast.toArray;rw[va,List.eraseIdxIfInBounds_toArray,adU]
 .rw[aa9];grind
inductive Ts(x:V)(y:V)(H:Hp)(Q:VK):Prop
 |mk (l b xs zs:_) (_:x=.ref l) (_:y=.ref b) (_:H l=Α Àp) (_:H b=Α (.lst zs)) (_:xs.L+zs.L<=sizeLine) (_:∀p,H p=Β->Q Ĝ (upd H p (.lst (xs++zs))))
def Tv:fj X (binaryOp .Add) Ts:=by
 show ð;let(l,b,xs,zs,rfl,rfl,U,M,hz,q):=h;cases rx;cases ry;let(z,j,n,r,Y,e):=I.Ar U;let(z2,O,n2,W,Z,F):=I.Ar M;apply PySem.P.add_list e F ?_ Å;let J:j.toArray++O.toArray=(j++O).toArray:=by simp
 rw[J];exact(.ref _,_,I.adV (t':=s.toks) (r.append W) Å,Á,q _ I.fresh)
theorem bq.ints{ns:LI}:∀{U:LV},bq Ŭ U->IntsAre U ns:=by
 induction ns with
 |nil=>
  intro U h;rw[mO] at h;cases h;exact IntsAre.nil
 |cons n ns j=>
  intro U h;rw[a8] at h;cases h with
  |cons r t=>
   let(k,rfl):=r;exact IntsAre.cons n k (j t)
theorem bq.Tw{bs:List Bool}:∀{U:LV},bq (bs.M V.bl) U->U=bs.M Value.bool:=by
 induction bs with
 |nil=>
  intro U h;rw[mO] at h;cases h;rfl
 |cons b bs j=>
  intro U h;rw[a8] at h;cases h with
  |cons r t=>
   cases r;rw[j t,a8]
theorem bq.As{a:Addr}{U:LV}(r:bq [V.ref a] U):U=[Value.ref a]:=by
 cases r with
 |cons r t=>
  cases t;cases r;rfl
def ad2(z:A.handled=Β)(j:s.H.IsList l ak.toArray)(hi:IntsAre ak ns)(h:∀h' tk t',(∀b o,s.U b=Α o->h'.I b=Α o)->Q (.int ns.sum t') {s with heap:=h',toks:=tk}):wpAny Í A (call (.builtin "sum") [.ref l]) Q E s:=by
 let(xs,e):=hi.allInts.items;let q:numsOf (intItems xs).toList=ns:=by rw[<-e];exact hi.numsOf
 rw[nums_intItems] at q;rw[e] at j;apply PySem.sum_intListG z j λh' tk t' hk=>?_;let:=h h' tk t' hk;rw[preSum_eq,JF Ä,q];exact this
def ad3(O:A.handled=Β)(q:s.H.IsList l ak.toArray)(hi:IntsAre ak ns)(F:0<ns.L)(h:∀h' tk M t',(∀b o,s.U b=Α o->h'.I b=Α o)->M∈ns->(∀a,a∈ns->M<=a)->Q (.int M t') {s with heap:=h',toks:=tk}):wpAny Í A (call (.builtin "min") [.ref l]) Q E s:=by
 let(xs,e):=hi.allInts.items;let z:numsOf (intItems xs).toList=ns:=by rw[<-e];exact hi.numsOf
 rw[nums_intItems] at z;subst z;rw[e] at q;let hsz:0<xs.u:=À F
 apply PySem.min_intList O q hsz λv h' tk W hk=>?_;let(t,rfl):=intItems_at W;let(Y,h2):=argBest_lt (numAt xs) (xs.u-1);apply h h' tk _ t hk ?_ λa J=>?_
 .rw[numAt_eq];exact PySem.getD_mem (by rw[ao,yi];omega)
 .let(j,U,rfl):=mem_getD J;rw[ao,yi] at U;rw[<-numAt_eq];exact h2 j (by omega)
inductive ad4(K:FR)(vs:az)(H:Hp)(Q:VK):Prop
 |mk (a:Addr) (ns:LI) (_:vs=[V.ref a]) (_:ä a Ŭ) (_:Q (.int ns.sum) H)
def ad5(K:FR):az->Hp->VK->Prop:=λvs H Q=>∃(a:Addr)(ns:LI),vs=[V.ref a]/\ä a Ŭ/\0<ns.L/\∀m,m∈ns->(∀y,y∈ns->m<=y)->Q (.int m) H
def KG(hc:X.calm=true):lg X (.builtin "sum") (ad4 X.K):=by
 intro pins s σ H vs U Q I r h;let(a,ns,rfl,hs,q):=h;let(F,z,j,_):=I.list hs;rw[bq.As r];exact ad2 ă j.isList z.ints λh' tk t' hk=>⟨.int _,H,I.kept hk,⟨_,Á⟩,q⟩
def Tx(hc:X.calm=true):lg X (.builtin "min") (ad5 X.K):=by
 intro pins s σ H vs U Q I r h;let(a,ns,rfl,hs,j,q):=h;let(M,J,F,_):=I.list hs;rw[bq.As r];exact ad3 ă F.isList J.ints j λh' tk m t' hk z h2=>⟨.int _,H,I.kept hk,⟨_,Á⟩,q m z h2⟩
inductive Tz(K:FR)(x:V)(xs:az)(H:Hp)(Q:VK):Prop
 |mk (a:Addr) (ys:az) (y:V) (j:Nat) (z:V) (_:x=V.ref a) (_:xs=[y]) (_:ä a ys) (_:m3 y=true) (_:ys.all m3=true) (_:ys[j]? =Α z) (_:qH z y=true) (_:(∀(m:Nat)(z':V),m<j->ys[m]? =Α z'->qH z' y=false)) (_:Q (.int (j:Nat)) H)
def TF{ys:az}(f:ys.all m3=true){j:Nat}{z:V}(h:ys[j]? =Α z):m3 z=true:=jI.mp f z (bo h)
def TJ:KA X "list.index" (Tz X.K):=by
 intro pins s σ H x xs v us Q I rx rxs h;let(a,ys,y,j,z,rfl,rfl,hs,fy,U,hz,hzj,CM,q):=h;cases rx;cases rxs with
 |cons ry rt=>
  rename_i uy ut;cases rt;let(J,M,((cls,dd,data,sl),n,ho,hc,hdn,hd),b7):=I.list hs;simp only at hc hd;subst hc hd;let(u,hu,ru):=M.get hz;let(oE,Y):=bp.mp hu;let KI:=M.L;let hj:j<J.toArray.u:=À oE
  let pQ:=yh;refine JE PySem.F.slot_list_index ⟨_,ho,Á⟩ PySem.F.entry_list_index (PySem.F.args_list_index_2 _ _)
   (SeqAt.list_indexAt a J.toArray n dd sl uy (m4 y) j hj Ù ?_ ?_) ⟨ho,λu' F2=>CI ry fy M U u' (À F2),?_⟩
  .let W:J.toArray[j]=u:=by simpa using Y
   rw[W,FX ru (TF U hz)];exact hzj
  .intro m hm hmj;let CO:m<J.L:=by simpa using hm
   let hmy:m<ys.L:=by simp_all
   let O:ys[m]? =Α ys[m]:=cJ hmy;let(u2,KJ,KL):=M.get O;let(_,Z):=bp.mp KJ;let W:J.toArray[m]=u2:=À Z
   rw[W,FX KL (TF U O)];exact CM m _ hmj O
  .exact(.int (j:Nat),H,I.tok _,⟨_,Á⟩,q)
def TQ{prog:Pg}{w:Wd}{A:Around}{E:VP}{s:Sh}{l:Addr}{items:Array Value}{Q:VP}(q:s.H.IsList l items)(h:∀j:Sh,j={s with heap:=s.o {cls:=.type "list_iterator",data:=.fields #[.ref l,.int 0 0]}}->
   (j.H.IsListIter s.Z l 0/\j.H.IsList l items)->l≠s.Z->Q ú j):wpAny Í A (pyIter Âa) Q E s:=by
 let z:l<s.Z:=by let(_,e,_):=q;exact di e
 exact RA q (h _ Á ⟨⟨_,ib _ Á,Á,Á⟩,q.push _⟩ (fV z))
def TU{prog:Pg}{w:Wd}{A:Around}{bs:List Bool}{j:LV}(e:j=bs.M Value.bool):
  TruthOf prog w A (λi v=>j.toArray[i]? =Α v) Ãb:=λi v s Q E O M=>by
 let q:j[i]? =Α v:=À O
 rw[e,bA] at q;let(b,F,rfl):=u4.mp q;let J:bs.D i false=b:=by rw[ik,F] <;> rfl
 let z:Q (bs.D i false) s:=M;rw[J] at z;exact tq z
theorem any_range:∀bs:List Bool,(List.range bs.L).any Ãb=bs.any id:=by
 intro bs;induction bs with
 |nil=>exact Á
 |cons b bs j=>
  rw[dh,zX,vb,JG,vb,<-j]
  all_goals rfl
theorem all_range:∀bs:List Bool,(List.range bs.L).all Ãb=bs.all id:=by
 intro bs;induction bs with
 |nil=>exact Á
 |cons b bs j=>
  rw[dh,zX,tu,rJ,tu,<-j]
  all_goals rfl
inductive aec(K:FR)(vs:az)(H:Hp)(Q:VK):Prop
 |mk (a:Addr) (bs:List Bool) (_:vs=[V.ref a]) (_:ä a (bs.M V.bl)) (_:Q (.bl (bs.any id)) H)
inductive aed(K:FR)(vs:az)(H:Hp)(Q:VK):Prop
 |mk (a:Addr) (bs:List Bool) (_:vs=[V.ref a]) (_:ä a (bs.M V.bl)) (_:Q (.bl (bs.all id)) H)
def KM(hc:X.calm=true):lg X (.builtin "any") (aec X.K):=by
 intro pins s σ H vs us Q I r h;let(a,bs,rfl,hs,q):=h;let(M,Y,W,_):=I.list hs;rw[bq.As r];let z:=Y.Tw;apply call_any_walk (TQ W.isList λZ U st J=>?_);subst U;apply(_,_,_,_,_,_,_,Á,Walks.list (A:=X.A.in1) ă _ a J M.toArray,st,TU z,λh' tk hk=>?_);apply(.bl _,H,I.kept λb o j=>hk b o (λF=>?_) (dv _ j),?_,q)
 .rcases a9.mp F with O|F
  .exact absurd (O▸ di j) (nr _)
  .symm
 .show Value.bool _=Value.bool _;rw[<-any_range,z,va,ao]
def w8(hc:X.calm=true):lg X (.builtin "all") (aed X.K):=by
 intro pins s σ H vs us Q I r h;let(a,bs,rfl,hs,q):=h;let(M,Y,W,_):=I.list hs;rw[bq.As r];let z:=Y.Tw;apply call_all_walk (TQ W.isList λZ U st J=>?_);subst U;apply(_,_,_,_,_,_,_,Á,Walks.list (A:=X.A.in1) ă _ a J M.toArray,st,TU z,λh' tk hk=>?_);apply(.bl _,H,I.kept λb o j=>hk b o (λF=>?_) (dv _ j),?_,q)
 .rcases a9.mp F with O|F
  .exact absurd (O▸ di j) (nr _)
  .symm
 .show Value.bool _=Value.bool _;rw[<-all_range,z,va,ao]
mutual
inductive Dp(K:FR)(H:Hp):V->PyData->Prop
 |aP:Ál .aP .none
 |bl (b:Bool):Ál (.bl b) (.bool b)
 |int (i:Int):Ál Ãm Ãm
 |str (x:Str):Ál Çy Çy
 |lst {a:Addr} {xs:az} {ds:List PyData}:ä a xs->jn K H xs ds->Ál ħ (.list ds)
 |tup {a:Addr} {xs:az} {ds:List PyData}:š a xs->jn K H xs ds->Ál ħ (.tuple ds)
inductive jn(K:FR)(H:Hp):az->List PyData->Prop
 |nil:jn K H [] []
 |cons {v:V} {vs:az} {d:PyData} {ds:List PyData}:Ál v d->jn K H vs ds->jn K H (v::vs) (d::ds)
end
section
variable{X:Cx}{pins:cf}{σ:St}{H:Hp}{s:Sh}
def Dp.reads(I:Ã H s)(d:PyData)(v:V)(u:Value)(h:Dp X.K H v d):RelV v u->∃as,Reads s.H u d as:=
 Dp.rec (motive_1:=λv d _=>∀u,RelV v u->∃as,Reads s.H u d as) (motive_2:=λvs J _=>∀U,bq vs U->∃as,ReadsAll s.H U J as)
  (λu r=>by cases r;exact(_,Reads.none)) (λb u r=>by cases r;exact(_,Reads.bool b)) (λi u r=>by let(t,rfl):=r;exact(_,Reads.int i t)) (λx u r=>by let(t,rfl):=r;exact(_,Reads.str x t))
  (λhs _ z u r=>by
   cases r;let(j,F,(o,n,q,hc,_,hd),_):=I.list hs;let(as,hr):=z j F;exact(_,Reads.list q hc hd hr))
  (λhs _ z u r=>by
   cases r;let(j,F,(o,q,hc,n,hd),_):=I.tuple hs;let(as,hr):=z j F;exact(_,Reads.tuple q hc hd hr))
  (λU r=>by cases r;exact(_,ReadsAll.nil))
  (λ_ _ M O U r=>by
   cases r with
   |cons Z r2=>
    let(as,W):=M _ Z;let(bs,Y):=O _ r2;exact(_,ReadsAll.cons W Y)) h u
end
def aee(K:FR):R2:=λx y H Q=>∃d e,Ál x d/\Ál y e/\SeqAt.shaped d=true/\SeqAt.shaped e=true/\Q (.bl (PyData.eqv d e)) H
def TX(K:FR):R2:=λx y H Q=>∃d e,Ál x d/\Ál y e/\SeqAt.shaped d=true/\SeqAt.shaped e=true/\Q (.bl (!PyData.eqv d e)) H
def TY(z:X.A.units+64<cLine):fj X Áz (aee X.K):=by
 show ð;let(d,e,hd,j,sd,M,q):=h;let(as,F):=Dp.reads I d x v hd rx;let(bs,J):=Dp.reads I e y u j ry;exact SeqAt.compareEq_shaped F J sd M z ⟨.bl _,H,I,Á,q⟩
def F3(z:X.A.units+64<cLine):fj X Âi (TX X.K):=by
 show ð;let(d,e,hd,j,sd,M,q):=h;let(as,F):=Dp.reads I d x v hd rx;let(bs,J):=Dp.reads I e y u j ry;exact SeqAt.compareNe_shaped F J sd M z ⟨.bl _,H,I,Á,q⟩
end L2
namespace L2
open PySem PySem.Spec PyProof.Rows
abbrev TZ(h:Heap)(c:Addr)(v:Option Value):Prop:=h.IsCell c v
def aef(j q:Scope):Scope:=
 {j with names:=j.names.M λ(n,k)=>if (k== .free&&q.kind== .function&&q.names.Q n==Α .cell) then (n,.cell) else (n,k)}
def jo(cells:gu):List (Str×NameKind)->gu->gu
 |[],acc=>acc
 |(n,k)::r,acc=>if k== .free then jo cells r ((n,(cells.Q n).D 0)::acc) else jo cells r acc
def aeg(env:Env)(f:Str×NameKind->gu->Sem (ForInStep gu))(F:∀n k c,f (n,k) c=if k== .free then (do let a <-cellOf env n;pure (.yield ((n,a)::c))) else pure (.yield c)):
  ∀(names:List (Str×NameKind))(acc:gu),(∀y∈names,y.2=.free->∃c,env.cells.Q y.1=Α c)->forIn names acc f=pure (jo env.cells names acc):=by
 intro names;induction names with
 |nil=>
  intro acc _;rw[List.forIn_nil];rfl
 |cons q r j=>
  let(n,k):=q;intro acc h;rw[List.forIn_cons,F];let j:=λacc=>j acc λy J=>h y (aL _ J);ext jo;by_cases hk:(k==NameKind.free)=true
  .rw[ai hk,ai hk];let(c,hc):=h (n,k) eP (À hk);let e:cellOf env n=pure c:=by ext cellOf;rw[hc]
   rw[e];let z:(env.cells.Q n).D 0=c:=by rw[hc];rfl
   rw[z];exact j _
  .rw[ah hk,ah hk];exact j _
def aeh(h:∀y∈scope.names,y.2=.free->∃c,env.cells.Q y.1=Α c):closureFor scope env=pure (jo env.cells scope.names []):=by
 simp only[closureFor];rw[aeg env _ (λn k c=>rfl) scope.names [] h];rfl
theorem mem_lookup{α:Type}{l:List (Str×α)}:∀{n:Str}{c:α},(n,c)∈l->∃j,l.Q n=Α j:=by
 induction l with
 |nil=>intro n c h;cases h
 |cons p r q=>
  intro n c h;let(k,v):=p;rw[yk];cases hb:n==k with
  |true=>exact(_,Á)
  |false=>
   rcases a9.mp h with e|h
   .cases e;simp at hb
   .exact q h
theorem T3{cells:gu}{names:List (Str×NameKind)}:∀{acc:gu}{n:Str}{c:Addr},(n,c)∈jo cells names acc->(n,c)∈acc\/((n,.free)∈names/\c=(cells.Q n).D 0):=by
 induction names with
 |nil=>exact @λ_ _ _ h=>.inl h
 |cons q r z=>
  let(m,k):=q;intro acc n c h;delta jo at h;split at h
  .rename_i hk;let hk:k=.free:=by simpa using hk
   rcases z h with h|⟨j,h2⟩
   .rcases a9.mp h with e|h
    .cases e;exact .inr ⟨hk▸ eP,Á⟩
    .exact .inl h
   .exact .inr ⟨aL _ j,h2⟩
  .rcases z h with h|⟨j,h2⟩
   .exact .inl h
   .exact .inr ⟨aL _ j,h2⟩
theorem aei{cells:gu}{names:List (Str×NameKind)}:∀{acc:gu}{p:Str×Addr},p∈acc->p∈jo cells names acc:=by
 induction names with
 |nil=>exact @λ_ _ h=>h
 |cons j r q=>
  let(m,k):=j;intro acc p h;ext jo;split
  .exact q (aL _ h)
  .exact q h
theorem aej{cells:gu}{names:List (Str×NameKind)}:∀{acc:gu}{n:Str},(n,.free)∈names->(n,(cells.Q n).D 0)∈jo cells names acc:=by
 induction names with
 |nil=>intro acc n h;cases h
 |cons p r j=>
  intro acc n h;ext jo;rcases a9.mp h with e|h
  .cases e;exact aei eP
  .split
   .exact j h
   .exact j h
def KN{names:List (Str×NameKind)}:∀{h:Heap}{acc:gu}{x:Str}{c:Addr},(x,c)∈cellsFrom h.O names acc->
  (x,c)∈acc\/((x,.cell)∈names/\h.O<=c/\TZ (pushCells h names) c none):=by
 induction names with
 |nil=>exact @λ_ _ _ _ h=>.inl h
 |cons F r J=>
  let(n,k):=F;intro h acc x c j;delta cellsFrom at j;ext pushCells;split at j
  .rename_i hk;rw[ai hk];let hk:k=.cell:=by simpa using hk
   rw[<-qx h {cls:=.type "cell",data:=.cell none}] at j;rcases J j with j|⟨q,h2,z⟩
   .rcases a9.mp j with e|j
    .cases e;exact .inr ⟨hk▸ eP,bC _,_,RG r _ _ _ (ib _ Á),Á⟩
    .exact .inl j
   .rw[qx] at h2;exact .inr ⟨aL _ q,RH h2,z⟩
  .rename_i hk;rw[ah hk];rcases J j with j|⟨q,h2,z⟩
   .exact .inl j
   .exact .inr ⟨aL _ q,h2,z⟩
theorem T4{names:List (Str×NameKind)}:∀{n:Nat}{acc:gu}{p:Str×Addr},p∈acc->p∈cellsFrom n names acc:=by
 induction names with
 |nil=>exact @λ_ _ _ h=>h
 |cons j r q=>
  let(m,k):=j;intro n acc p h;ext cellsFrom;split
  .exact q (aL _ h)
  .exact q h
theorem aek{names:List (Str×NameKind)}:∀{n:Nat}{acc:gu}{x:Str},(x,.cell)∈names->∃c,(x,c)∈cellsFrom n names acc:=by
 induction names with
 |nil=>intro n acc x h;cases h
 |cons p r j=>
  intro n acc x h;ext cellsFrom;rcases a9.mp h with e|h
  .cases e;exact(n,T4 eP)
  .split
   .exact j h
   .exact j h
def ael{names:List (Str×NameKind)}:∀{h:Heap}{acc:gu}{x y:Str}{c:Addr},(∀p∈acc,p.2<h.O)->(∀x y c,(x,c)∈acc->(y,c)∈acc->x=y)->
  (x,c)∈cellsFrom h.O names acc->(y,c)∈cellsFrom h.O names acc->x=y:=by
 induction names with
 |nil=>exact @λ_ _ _ _ _ _ hi j h2=>hi _ _ _ j h2
 |cons z r M=>
  let(n,k):=z;intro h acc x y c q hi j h2;delta cellsFrom at j h2;split at j
  .rename_i hk;rw[ai hk] at h2;rw[<-qx h {cls:=.type "cell",data:=.cell none}] at j h2;apply M (h:=h.push _) (λp F=>?_) (λx y c a b=>?_) j h2
   .rw[qx];rcases a9.mp F with rfl|F
    .exact RB _
    .exact Fm (q p F)
   .rcases a9.mp a with e|a <;> rcases a9.mp b with J|b
    .cases e;cases J;rfl
    .cases e;exact absurd (q _ b) (nr _)
    .cases J;exact absurd (q _ a) (nr _)
    .exact hi _ _ _ a b
  .rename_i hk;rw[ah hk] at h2;exact M q hi j h2
def aem{M:Model}{A:Around}{E:VP}{s:Sh}{j:Scope}{globals:Addr}{J:gu}{O:Str}{q:OA}{code:Value}{z:Env}{F:Addr}{Q:Env->Shared->Prop}(h:Q (newEnv j s.Z globals (cellsFrom Û j.names J) O q code (some z) F) {s with heap:=pushCells (s.o {cls:=.type "dict",data:=.dict #[]}) j.names}):
  wpAny M A (newFunctionEnv j globals J [] O q code (some z) F) Q E s:=by
 simp only[newFunctionEnv,atG,Fl];apply aG (wpAny_alloc ?_);apply aG (wpAny_layCells _ (λn k c=>Á) j.names J _ _ ?_);rw[show({s with heap:=s.o {cls:=.type "dict",data:=.dict #[]}}:Sh).Z=s.Z+1 from qx ..];rw[List.forIn_nil];exact aG (cY (cY h))
def T5{j:Scope}{names:List (Str×NameKind)}:∀{x:Str}{k:NameKind},
  (names.M λ(n,k)=>if (k==NameKind.free&&j.kind== .function&&j.names.Q n==Α .cell) then (n,NameKind.cell) else (n,k)).Q x=Α k->
  ∃J,names.Q x=Α J/\(k=J\/(J=.free/\k=.cell)):=by
 induction names with
 |nil=>
  intro _ _ h;simp at h
 |cons F r z=>
  let(n,q):=F;intro x k h;let z:=@z x k;let h':List.lookup x ((if (q==NameKind.free&&j.kind== .function&&j.names.Q n==Α .cell)=true then (n,NameKind.cell) else (n,q))::(r.M _))=Α k:=h;cases hx:x==n with
  |true=>
   simp only[yk,hx];by_cases hc:(q==NameKind.free&&j.kind== .function&&j.names.Q n==Α .cell)=true
   .rw[ai hc] at h';simp only[yk,hx] at h';cases h';simp only[jH,zT] at hc;exact(q,Á,.inr ⟨hc.1.1,Á⟩)
   .rw[ah hc] at h';simp only[yk,hx] at h';cases h';exact(_,Á,.inl Á)
  |false=>
   simp only[yk,hx];by_cases hc:(q==NameKind.free&&j.kind== .function&&j.names.Q n==Α .cell)=true
   .rw[ai hc] at h';simp only[yk,hx] at h';exact z h'
   .rw[ah hc] at h';simp only[yk,hx] at h';exact z h'
structure yF(N:LS)(sc scope:Scope)(own:List (Str×Nat)):Prop where
 kind:scope.kind=.function
 uniq:∀y∈scope.names,scope.names.Q y.1=Α y.2
 ix:∀p∈own,N[p.2]? =Α p.1
 free:∀y∈scope.names,y.2=.free->sc.names.Q y.1=Α .cell\/sc.names.Q y.1=Α .free
 own:∀y∈scope.names,y.2=.local\/y.2=.cell->y.1∈own.M (·.1)\/y.1∉N
def wipe(σ:St):LN->St
 |[]=>σ
 |v::vs=>(wipe σ vs).set v none
theorem T6(σ:St):∀vs:LN,(wipe σ vs).L=σ.L:=by
 intro vs;induction vs with
 |nil=>exact Á
 |cons v vs j=>
  ext wipe;rw[List.length_set,j]
theorem T7{σ:St}{i:Nat}{x:V}{vs:LN}:ľ[i]? =Α (some x)->σ[i]? =Α (some x)/\i∉vs:=by
 induction vs with
 |nil=>exact @λh=>⟨h,by simp⟩
 |cons v vs z=>
  intro h;delta wipe at h;by_cases hi:v=i
  .subst hi;by_cases j:v<(wipe σ vs).L
   .rw[aaY j] at h;cases h
   .rw[yl (À j)] at h;cases h
  .rw[aaZ hi] at h;let(q,h2):=z h;exact(q,by simp only[a9,not_or];exact(λe=>hi e.symm,h2))
abbrev Cx.gU(X:Cx)(s:Sh)(H:Hp)(j:Scope)(F:Env)(fp:LA):Cx:={X with jL:=s,yp:=H,env:=F,outer:=X.stack,ex:=fp,fn:=λx=>j.names.Q x==Α .cell,pn:=[],xe:=λ_ _=>False}
section
variable{X:Cx}{pins:cf}{σ:St}{H:Hp}{s:Sh}
def aen{scope:Scope}{own:List (Str×Nat)}{fp:LA}(I:Ã H s)(ok:ĵ own)(hN:X.N.Nodup)(w9:∀b∈fp,ň H b/\b<s.Z):
  Inv (X.gU s H scope (compEnvC scope (cellsFrom Û scope.names (Ŷ [])) s.Z X.env) fp) [] (wipe σ (own.M (·.2))) H {s with heap:=pushCells (s.o {cls:=.type "dict",data:=.dict #[]}) scope.names}:=by
 let FB:∀y∈scope.names,y.2=.free->∃c,X.env.cells.Q y.1=Α c:=λy U e=>by
  rcases ok.free y U e with k|k
  .exact I.ok.has _ (.inl k)
  .exact I.ok.has _ (.inr k)
 generalize hcenv:compEnvC scope (cellsFrom Û scope.names (Ŷ [])) s.Z X.env=F;let kp:∀b o,s.U b=Α o->(pushCells (s.o {cls:=.type "dict",data:=.dict #[]}) scope.names).I b=Α o:=λb o e=>RG _ _ _ _ (dv _ e);let hL:F.locals=s.Z:=by rw[<-hcenv];rfl
 let gJ:F.cells=cellsFrom Û scope.names (Ŷ []):=by rw[<-hcenv];rfl
 let KO:F.scope=aef scope X.env.scope:=by rw[<-hcenv];rfl
 rw[<-qx s.H {cls:=.type "dict",data:=.dict #[]}] at gJ;let cm:∀{y c},(y,c)∈jo X.env.cells scope.names []->X.env.cells.Q y=Α c/\c<s.Z:=λ{y c}M=>by
  rcases T3 M with M|⟨j,rfl⟩
  .cases M
  .let(c,hc):=FB _ j rfl;rw[hc];let(w,z):=I.cell _ _ hc;exact(Á,z.lt)
 let mem:∀{y c},F.cells.Q y=Α c->(X.env.cells.Q y=Α c/\c<s.Z)\/(s.Z+1<=c/\TZ (pushCells (s.o {cls:=.type "dict",data:=.dict #[]}) scope.names) c none):=λ{y c}e=>by
  rw[gJ] at e;rcases KN ϴ with M|⟨_,h2,h3⟩
  .exact .inl (cm M)
  .rw[qx] at h2;exact .inr ⟨h2,h3⟩
 let look:∀{y},scope.names.Q y=Α .free->∃c,F.cells.Q y=Α c/\X.env.cells.Q y=Α c:=λ{y}hl=>by
  let U:(y,NameKind.free)∈scope.names:=PySem.mem_of_lookup hl;let(c',J):=mem_lookup (T4 (names:=scope.names) (n:=(s.o {cls:=.type "dict",data:=.dict #[]}).O) (aej (cells:=X.env.cells) (acc:=[]) U));rw[<-gJ] at J;apply(c',J,?_);rw[gJ] at J;rcases KN (PySem.mem_of_lookup J) with M|⟨j,_,_⟩
  .exact(cm M).1
  .let:=ok.uniq _ j;rw[hl] at this;cases this
 let okB:(X.gU s H scope F fp).Ok:=by
  refine⟨I.ok.mod,by show F.scope.kind=_;rw[KO];exact ok.kind,by show F.globals=_;rw[<-hcenv];exact I.ok.glob,by show F.builtins=_;rw[<-hcenv];exact I.ok.blt,by show s.Z<=F.locals;rw[hL];exact bC _,
   λy z c W Y=>?_,λy U=>?_,λy c z e=>?_,I.ok.hd,I.ok.frames,.inl rfl,λb Z=>⟨?_,λy c e z=>?_⟩,I.bs,gq I.ok.rQ I.sz,λb o e Z=>?_,λb Z z=>?_,I.stack,I.FA⟩
  .let W:F.cells.Q y=Α c:=W;let Y:F.cells.Q z=Α c:=Y;rw[gJ] at W Y;apply ael (λp hp=>?_) (λy z c a b=>I.ok.inj y z c (cm a).1 (cm b).1) (PySem.mem_of_lookup W) (PySem.mem_of_lookup Y);rw[qx];exact Fm (cm (y:=p.1) (c:=p.2) hp).2
  .show ∃c,F.cells.Q y=Α c;let ia:∀k,F.kindOf y=Α k->(k=.cell\/k=.free)->∃c,F.cells.Q y=Α c:=λk hk l9=>by
    delta Env.kindOf at hk;rw[KO] at hk;let(k',e,r):=T5 hk;let:k'=.cell\/k'=.free:=by
     rcases r with rfl|⟨rfl,_⟩
     .exact l9
     .exact .inr Á
    rcases this with rfl|rfl
    .let(c,M):=aek (n:=(s.o {cls:=.type "dict",data:=.dict #[]}).O) (acc:=Ŷ []) ϴ;let(c',J):=mem_lookup M;exact(c',by rw[gJ];exact J)
    .let(c,j,_):=look e;exact(c,j)
   rcases U with U|U
   .exact ia _ U ĝ
   .exact ia _ U Ép
  .let z:(scope.names.Q y==Α NameKind.cell)=true:=z;let z:scope.names.Q y=Α .cell:=by simpa using z
   let e:F.cells.Q y=Α c:=e;rw[gJ] at e;rcases KN ϴ with M|⟨_,h2,_⟩
   .rcases T3 M with M|⟨j,_⟩
    .cases M
    .let q:=ok.uniq _ j;rw[z] at q;cases q
   .rw[qx] at h2;exact RH h2
  .show b≠F.locals;rw[hL];exact fV (w9 b Z).2
  .let e:F.cells.Q y=Α c:=e;rcases mem e with ⟨j,_⟩|⟨j,_⟩
   .exact(w9 b Z).1.2.2.2.2.1 y c j z
   .let h2:s.Z+1<=b:=by rw[<-z];exact j
    exact absurd (j4 (w9 b Z).2 (RH h2)) (nr _)
  .rcases(w9 b Z).1.2.2.2.1 with z|z
   .exact I.ok.Ae b o e z
   .exact absurd (j4 (di e) (gq I.ok.rQ z)) (nr _)
  .rcases a9.mp (I.J5 b z) with z|z
   .exact(w9 b Z).1.2.1 z
   .exact(w9 b Z).1.2.2.1 z
 apply(okB,Á,I.bare,Un.kept kp,⟨λ_=>none,?_,λi y av W Y O=>?_⟩,λy c e=>?_,?_,λy c e=>?_,λp hp=>?_,I.aE.kept kp,by rw[T6];exact I.len)
 .show Heap.Ns _ F.locals _;rw[hL];exact Heap.Ns.keeps (Heap.Ns.new ..) λb o e=>RG _ _ _ _ e
 .let(Y,aN):=T7 Y;let qI:scope.names.Q y=Α .free/\(F.kindOf y=Α .cell\/F.kindOf y=Α .free):=by
   let ia:∀k,F.scope.names.Q y=Α k->k=.local\/k=.cell\/k=.free->scope.names.Q y=Α .free/\(F.kindOf y=Α .cell\/F.kindOf y=Α .free):=λk hk l9=>by
    let T8:=hk;rw[KO] at hk;let(k',e,r):=T5 hk;let no:¬(k'=.local\/k'=.cell):=λhh=>by
     rcases ok.own _ ϴ hh with J|J
     .let(p,hp,hpy):=bH.mp J;let O:=ok.ix p hp;let:p.1=y:=hpy;rw[this] at O;exact aN (bH.mpr ⟨p,hp,J9 hN O W⟩)
     .exact J (bo W)
    rcases r with rfl|⟨rfl,rfl⟩
    .rcases l9 with rfl|rfl|rfl
     .exact absurd ĝ no
     .exact absurd Ép no
     .exact(e,.inr T8)
    .exact(e,.inl T8)
   let O:yq F.scope y:=O;rcases O with O|O|O
   .exact ia _ O ĝ
   .exact ia _ O (.inr ĝ)
   .exact ia _ O (.inr Ép)
  let(m,hn,hl):=I.loc;let aeq:yq X.env.scope y:=(ok.free _ (PySem.mem_of_lookup qI.1) rfl).elim (λk=>.inr (.inl k)) (λk=>.inr (.inr k));let(w,r,q):=hl i y av W Y aeq;apply(w,r,.inr ⟨qI.2,?_⟩);let(c,j,h2):=look qI.1;rcases q with ⟨k,_⟩|⟨_,c',J,z⟩
  .let k:X.env.scope.names.Q y=Α .local:=k;rcases ok.free _ (PySem.mem_of_lookup qI.1) rfl with k'|k' <;> rw[show X.env.scope.names.Q y=_ from k'] at k <;> cases k
  .rw[h2] at J;cases J;exact(c,j,z.keeps kp)
 .let e:F.cells.Q y=Α c:=e;rcases mem e with ⟨j,_⟩|⟨_,z⟩
  .let(w,z):=I.cell y c j;exact(w,z.keeps kp)
  .exact(_,z)
 .show H F.locals=Β;rw[hL];exact I.aE.fresh (bC _)
 .let e:F.cells.Q y=Α c:=e;rcases mem e with ⟨j,_⟩|⟨j,_⟩
  .exact I.ny y c j
  .exact I.aE.fresh (RH j)
 .exact absurd (show p∈([]:cf)++[] from hp) Ä
def aer(I:Ã H s)(j:H D=Α Àp)(hz:xs.L<sizeLine)(r:RelV y v)(h:∀s',Ã (upd H D (.lst (xs++[y]))) s'->Q .none s'):wpAny È X.A (call (.builtin "list.append") [.ref D,v]) Q E s:=by
 let(U,F,n,z,e):=I.aE D _ j;let W:=z.L;apply append_at (hsz:=by simp_all) e λh' M O=>?_;apply h {s with heap:=h'} (I.write (t':=s.toks) (by rw[j];trivial) ĝ (λb u J q=>(M.2 b J).R q) ⟨_,O⟩ ⟨by grind,F++[v],n+1,z.append (.cons r .nil),?_⟩);symm
def yG(X:Cx)(j:List Expr)(t:TT):Prop:=
 ∀(pins:cf)(s:Sh)(σ:St)(H:Hp)(Q:Bool->Hp->Prop),Ã H s->t σ H Q->
  wpAny È X.A (forIn j true λc r=>if r=true then do let ok <-isTrue c X.env (eval c X.env);pure (ForInStep.yield ok) else pure (ForInStep.yield r)) Ãj X.xe s
def CU:TT:=λ_ H Q=>Q true H
def eI:yG X [] CU:=λ_ _ _ H _ I h=>wpAny_tests_nil ⟨H,I,h⟩
def oG(h:PT X c t):yG X [c] t:=λpins s σ H Q I hw=>wpAny_tests_one Ãf
end
def CW(h:ϐ t Q Äo s)(j:∀a s,Q a s->Q' a s):ϐ t Q' E s:=jE h j λ_ _ z=>False.elim z
def aes(I:Nat->Shared->Prop)(turn:∀n s,I n s->wpAny Í A (pyNext it) (λr z=>match r with
   |none=>R (.ok .next) z
   |some v=>wpAny Í A (letOwnedTupleGo Fb it v) (λ_ j=>wpAny Í A (assign Fb env v) (λ_ O=>
     wpAny Í A (forIn j3 true λc r=>if r=true then do let ok <-isTrue c env (eval c env);pure (ForInStep.yield ok) else pure (ForInStep.yield r)) (λok F=>
      if ok=true then wpAny Í A (eval lX env) (λx U=>
       wpAny Í A (call (.builtin "list.append") [acc,x]) (λ_ W=>∃m,m<n/\I m W) (notedBy Í A env λe s'=>R Ϯ s') U) (notedBy Í A env λe s'=>R Ϯ s') F
      else ∃m,m<n/\I m F) (notedBy Í A env λe s'=>R Ϯ s') O) (notedBy Í A env λe s'=>R Ϯ s') j) (notedBy Í A env λe s'=>R Ϯ s') z) (notedBy Í A env λe s'=>R Ϯ s') s)
  (n:Nat) (h:I n s):
  codeAny Í A (.compLoop (.ListComp lX [⟨Fb,iter,j3,0⟩] scope pos) 0 it acc env) R s:=by
 apply codeAny_loop Á I (λn s Y=>?_) n h;show wpAny _ A ((compTurn (.ListComp lX [⟨Fb,iter,j3,0⟩] scope pos) 0 it acc env).onRaise (λx=>do noteFrame x env;theTreesLotGoes x)) _ _ s;apply wpAny_noted ?_;rw[compTurn_list];apply aG (RI (aG (jE (turn n s Y) (λr z J=>?_) λ_ _ h'=>h')));cases r with
 |none=>exact cY J
 |some v=>
  apply aG (jE J (λ_ j q=>?_) λ_ _ h'=>h');apply aG (jE q (λ_ O Z=>aG (jE Z (λok F M=>?_) λ_ _ h'=>h')) λ_ _ h'=>h');cases ok with
  |false=>exact cY ⟨Á,M⟩
  |true=>
   exact aG (aG (jE M (λx U h₄=>aG (jE h₄ (λ_ W h₅=>cY (cY ⟨Á,h₅⟩)) λ_ _ h'=>h')) λ_ _ h'=>h'))
inductive lj(D:Addr)(N:Hp->Prop)(y:V)(H:Hp):Prop
 |mk (acc:az) (_:H D=Α (.lst acc)) (_:acc.L<sizeLine) (_:N (upd H D (.lst (acc++[y]))))
def CY(z:TI)(g:TG)(tt:TT)(te:TE)(vs:LN):TE:=λσ H Q=>z σ H λJ H1=>∀D,H1 D=Β->∃W:Nat->Nat->Hp->Prop,(∃m,W 0 m Đ)/\∀i m H,W i m H->
 (J.stop i H/\Q ϔ H)\/(J.go i H/\∃Nx:Hp->Prop,(∀H',Nx H'->∃M,M<m/\W (i+1) M H')/\∀x H',J.ox i H x H'->g x ľ H' λσ2 q=>wipe σ2 vs=wipe σ vs/\tt σ2 q λb j=>
  if b=true then te σ2 j Æn else Nx j)
def T9{Ex:VP}{Eb:Cx->VP}(hc:X.calm=true) (hN:X.N.Nodup) (I:Ã H s) (hi:PI (X.i6 Ex) tg iter wi) (ok:ĵ own)(hg:∀(s:Sh)(H:Hp)(C:Addr)(cl:gu)(fp:LA),PG Ò tg g) (ht:∀(s:Sh)(H:Hp)(C:Addr)(cl:gu)(fp:LA),yG Ò j3 tt)(he:∀(s:Sh)(H:Hp)(C:Addr)(cl:gu)(fp:LA),PE ((X.gU s H scope Áh fp).i6 (Eb Ò)) lX te) (hs:∀x,foldedSetIterable iter X.env x=pure x)(h:CY wi g tt te (own.M (·.2)) σ H Q)(hRR:∀D C s' m H',Ã H' s'->Q ϔ H'->s'.H.Ns C m->ň H' C->compPost È X.A Ex use Qf ϔ C (.ok .next) s')(hX:∀s3 H3 cl fp D e s',Ã H3 s3->(∀b∈fp,ň H3 b/\b<s3.Z)->Eb (X.gU s3 H3 scope Ĭ fp) e s'->notedBy È X.A Ĭ (λe=>compPost È X.A Ex use Qf ϔ s3.Z Ϯ) e s'):
  wpAny È X.A (comprehension â scope X.env mG (newList []) false (eval iter X.env) use) Qf Ex s:=by
 let FB:∀y∈scope.names,y.2=.free->∃c,X.env.cells.Q y.1=Α c:=λy hy e=>by
  rcases ok.free y hy e with k|k
  .exact I.ok.has _ (.inl k)
  .exact I.ok.has _ (.inr k)
 refine wpAny_comprehension_free (use:=use) Á hs (aeh FB) ok.kind (λy hy e=>by rw[ok.uniq y hy,e])
  (aQ (hi pins s σ H _ (I.i6 _) h) λxv s1 hx=>aQ hx λKh s2 h2=>?_)
 let(it,fp,tn,J,H2,e,I2,T,FM,f2,q):=h2;let I2:=I2.nE;subst e;apply Jy (aem ?_) (by show 0<=sizeLine;decide);generalize hD:s2.Z=D;let hDn:H2 D=Β:=I2.aE.fresh (Ff hD);let(W,(m0,w0),turn):=q D hDn;generalize KP:({s2 with heap:=s2.o {cls:=.type "list",data:=.seq ([]:LV).toArray}}:Sh)=s3;let I3:Ã Ám s3:=by
  rw[<-KP];apply I2.laid (t':=s2.toks) Æf (Ff hD) ⟨dj _,[],0,.nil,?_⟩;rw[<-hD];exact ib _ Á
 let h3:s3.H=s2.o {cls:=.type "list",data:=.seq ([]:LV).toArray}:=by rw[<-KP]
 let sz:∀b∈fp,b<s2.Z:=λb F=>by
  let(o,e,_):=T.obj _ _ FM b F;exact di e
 let M:∀b∈fp,ň Ám b/\b<s3.Z:=λb F=>by
  let bQ:=sz b F;apply(⟨?_,(f2 b F).2⟩,by rw[h3,qx];exact Fm bQ);rw[aA (by grind)];exact(f2 b F).1
 let FO:tn 0 s3.H:=T.keep _ _ _ FM λb _ o e=>by rw[h3];exact dv _ e
 let I4:=aen I3 ok hN M;let pg:=hg s3 Ám s3.Z ê fp;let pt:=ht s3 Ám s3.Z ê fp;let pe:=he s3 Ám s3.Z ê fp;show codeAny _ _ (.compStart â 0 Ãq ϔ (compEnvC scope ê s3.Z X.env)) (compPost È X.A Ex use Qf ϔ s3.Z) {s3 with heap:=pushCells (s3.o {cls:=.type "dict",data:=.dict #[]}) scope.names};let Ua:∀b∈fp,(Ám) b=Β:=λb F=>(M b F).1.1;generalize ma:compEnvC scope ê s3.Z X.env=ce at I4 pg pt pe⊢;let cL:ce.locals=s3.Z:=by subst ma;rfl
 generalize hH3:upd H2 D ã=H3 at I3 I4 pg pt pe w0 Ua M;generalize hs4:({s3 with heap:=pushCells (s3.o {cls:=.type "dict",data:=.dict #[]}) scope.names}:Sh)=s4 at I4⊢;let Ub:tn 0 s4.H:=T.keep _ _ _ FO λb _ o e=>by rw[<-hs4];exact RG _ _ _ _ (dv _ e)
 let yy:∀{σ':St}{H':Hp}{s':Sh},Inv ĥ [] σ' H' s'->(∀b∈fp,H' b=Β)->∀b∈fp,nF ĥ [] H' b:=λ{σ' H' s'}U Z b F=>
  ⟨Z b F,(U.ok.Cg b F).1,U.ok.Af b F,.inl F,λx c e=>(U.ok.Cg b F).2 x c e,λp hp=>absurd (show p∈([]:cf)++[] from hp) Ä⟩
 let aaR:codeAny È X.A (.compLoop â 0 Ãq ϔ ce) (compPost È X.A Ex use Qf ϔ s3.Z) s4:=by
  apply aes (λn s'=>∃i H',Inv ĥ [] (wipe σ (own.M (·.2))) H' s'/\tn i s'.H/\(∀b∈fp,H' b=Β)/\W i n H') ?_ m0 ⟨0,H3,I4,Ub,Ua,w0⟩;rintro n s5 ⟨i,O,I5,Ai,n5,w5⟩;rcases turn i n O w5 with ⟨stop,qq⟩|⟨go,Nx,hNx,step⟩
  .let td:=T.done ĥ rfl rfl rfl hc i [] s5 _ O Äo I5 (yy I5 n5) Ai stop;apply CW td λr s6 ⟨hr,Y⟩=>?_;subst hr;let I7:Ã O s6:=I3.wN (ch:=fp) Y.os Y.base Y.aE Y.bare λb F=>⟨(M b F).1.2.2.2.1,(M b F).1.2.1,(M b F).1.2.2.2.2.1,(M b F).1.2.2.2.2.2⟩;let nC:O s3.Z=Β:=by
    let z:O ce.locals=Β:=Y.free;rw[cL] at z;exact z
   let(m,Z,_):=Y.loc;let Z:s6.H.Ns ce.locals m:=Z;rw[cL] at Z;exact hRR D s3.Z s6 m O I7 qq Z (I3.wQ (bC _) nC)
  .let ti:=T.item ĥ rfl rfl rfl hc i [] s5 _ O Äo I5 (yy I5 n5) Ai go;apply CW ti λr s6 ⟨u,hr,h6⟩=>?_;subst hr;apply CW h6 λ_ s7 ⟨x,H7,I7,r7,y7,KQ,n7⟩=>?_;let I7':=I7.pinned (yy I7 n7) (T.obj _ _ KQ);apply CW (pg _ s7 _ H7 x u _ I7' r7 (step x H7 y7)) λ_ s8 ⟨σ8,H8,I8,F4,q8⟩=>?_;apply CW (pt _ s8 σ8 H8 _ I8 q8) λb s9 ⟨H9,I9,q9⟩=>?_;let fin:∀{s':Sh}{H':Hp},Inv ĥ ([]++Cu fp s7.H) σ8 H' s'->Nx H'->∃m,m<n/\∃i H',Inv ĥ [] (wipe σ (own.M (·.2))) H' s'/\tn i s'.H/\(∀b∈fp,H' b=Β)/\W i m H':=λ{s' H'}U nx=>by
    let(m',hm,w'):=hNx H' nx;let Uc:∀b∈fp,∀o,s7.U b=Α o->s'.U b=Α o/\H' b=Β:=λb F o e=>
     let z:=U.pin (b,o) (rH _ (rH _ (Ki F e)))
     ⟨z.1,z.2.1⟩
    let hl:(wipe σ (own.M (·.2))).L=σ8.L:=by rw[<-F4,T6]
    apply(m',hm,i+1,H',(U.FL (pins:=[])).weak hl (λj v e=>?_),T.keep _ _ _ KQ λb F o e=>(Uc b F o e).1,λb F=>?_,w')
    .rw[<-F4] at e;exact(T7 e).1
    .let(o,e,_):=T.obj _ _ KQ b F;exact(Uc b F o e).2
   cases b with
   |false=>
    simp only[RJ,RK] at q9⊢;exact fin I9 q9
   |true=>
    simp only[Fl] at q9⊢;exact jE (pe _ s9 σ8 H9 _ (I9.i6 _) q9) (λz md ⟨yv,F5,I10,r10,acc,aez,aeA,nx⟩=>aer (X:=X.gU s3 H3 scope ce fp) I10.nE aez aeA r10 λmf xb=>fin xb nx) λe md hz=>ma▸ hX s3 H3 _ fp D e md I3 M (ma▸ hz)
 exact codeAny_compStart_list aaR (T.self X.A 0 _ _ _ Ub aaR)
def eB(hc:X.calm=true)(W:X.N.Nodup)(hi:PI X tg iter wi)(ok:ĵ own)(hg:∀(s:Sh)(H:Hp)(C:Addr)(cl:gu)(fp:LA),PG Ò tg g) (ht:∀(s:Sh)(H:Hp)(C:Addr)(cl:gu)(fp:LA),yG Ò j3 tt)(Z:∀(s:Sh)(H:Hp)(C:Addr)(cl:gu)(fp:LA),PE Ò lX te) (hs:∀x,foldedSetIterable iter X.env x=pure x:=by intro _;rfl):
  PE X â (CY wi g tt te (own.M (·.2))):=by
 show Ú;rw[eval_ListComp];apply T9 (Ex:=X.xe) (Eb:=λ_ _ _=>False) hc W I hi ok hg ht Z hs h (λD C s' m H' j q hn f=>⟨m,hn,λqJ sb=>?_⟩) λ_ _ _ _ _ _ _ _ _ z=>z.elim;let(F,J,f2,M,O,U):=f;exact(.ref D,H',j.turned (t':=s'.toks) (λb o Y e=>(sb.2 b Y).R e) F J M O U,Á,q)
def Ud{Ex:VP}{Eb:Cx->VP}(hc:X.calm=true)(F:X.N.Nodup)(hy:X.N[i]? =Α y)(J:X.env.scope.names.Q y=Α .local)(M:swapsWith â (some (.Name y py)) xc.line X.env=pure true) (hi:PI (X.i6 Ex) tg iter wi) (ok:ĵ own)(hg:∀(s:Sh)(H:Hp)(C:Addr)(cl:gu)(fp:LA),PG Ò tg g) (ht:∀(s:Sh)(H:Hp)(C:Addr)(cl:gu)(fp:LA),yG Ò j3 tt)(he:∀(s:Sh)(H:Hp)(C:Addr)(cl:gu)(fp:LA),PE ((X.gU s H scope Áh fp).i6 (Eb Ò)) lX te) (hs:∀x,foldedSetIterable iter X.env x=pure x) (hX:∀{use:Option (Value->Sem Unit)}{Qf:VP}pins σ s3 H3 cl fp D e s',Ã H3 s3->(∀b∈fp,ň H3 b/\b<s3.Z)->Eb (X.gU s3 H3 scope Ĭ fp) e s'->notedBy È X.A Ĭ (λe=>compPost È X.A Ex use Qf ϔ s3.Z Ϯ) e s'):
  PS (X.i6 Ex) (.Assign [.Name y py] â xc) (Ah (CY wi g tt te (own.M (·.2))) (qD i)):=by
 intro pins s σ H D I h;rw[exec_Assign_Name_used _ _ _ _ M];apply aG (RI (aG ?_));let h:=h;apply aG (aQ (T9 (X:=X) (Eb:=Eb) (Qf:=λ_ s'=>SP (X.i6 Ex) pins D .next s') hc F I.nE hi ok hg ht he hs h (λL C s' m H' O q hn f=>?_) (hX pins σ)) λ_ s' hq=>cY (cY hq));apply wpAny_assign_Name (Sq (v:=V.ref L) O F hy (.inl J) Á (λs2 U ⟨a,sb,ha⟩=>?_) (.inr J));let(W,Y,f2,Z,f4,f5):=f;let j:C≠a:=by
  grind
 apply(m,hn.sameBut sb j,λh3 z=>?_);exact(_,H',(U.turned (t':=s2.toks) (λb o hb e=>(z.2 b hb).R e) W Y Z f4 f5).i6 _,q)
def tU(hc:X.calm=true)(q:X.N.Nodup)(O:X.N[i]? =Α y)(U:X.env.scope.names.Q y=Α .local)(j:swapsWith â (some (.Name y py)) xc.line X.env=pure true) (hi:PI X tg iter wi) (ok:ĵ own)(J:∀(s:Sh)(H:Hp)(C:Addr)(cl:gu)(fp:LA),PG Ò tg g) (M:∀(s:Sh)(H:Hp)(C:Addr)(cl:gu)(fp:LA),yG Ò j3 tt)(F:∀(s:Sh)(H:Hp)(C:Addr)(cl:gu)(fp:LA),PE Ò lX te) (hs:∀x,foldedSetIterable iter X.env x=pure x:=by intro _;rfl):
  PS X (.Assign [.Name y py] â xc) (Ah (CY wi g tt te (own.M (·.2))) (qD i)):=by
 exact Ud (Ex:=X.xe) (Eb:=λ_ _ _=>False) hc q O U j hi ok J M F hs λ_ _ _ _ _ _ _ _ _ _ _ z=>z.elim
def C0{lo:Int}{n:Nat}{g:TG}{tt:TT}{te:TE}{vs:LN}{σ:St}{H1:Hp}{D:Addr}{Qd:Hp->Prop}(j:Nat->Hp->Prop)(J:j 0 Đ)(hs:∀i H,i<n->j i H->g (.int (lo+i)) ľ H λσ2 z=>wipe σ2 vs=wipe σ vs/\tt σ2 z λb q=>
   if b=true then te σ2 q (lj D (j (i+1))) else j (i+1) q) (hd:∀H,j n H->Qd H):
  ∃W:Nat->Nat->Hp->Prop,(∃m,W 0 m Đ)/\∀i m H,W i m H->
   ((yx lo n).stop i H/\Qd H)\/((yx lo n).go i H/\∃Nx:Hp->Prop,(∀H',Nx H'->∃M,M<m/\W (i+1) M H')/\∀x H',(yx lo n).ox i H x H'->g x ľ H' λσ2 z=>wipe σ2 vs=wipe σ vs/\tt σ2 z λb q=>
    if b=true then te σ2 q Æn else Nx q):=by
 apply(λi m H=>m=n-i/\i<=n/\j i H,⟨n,by simp,dj _,J⟩,?_);rintro i m H ⟨rfl,hi,p⟩;by_cases F:i<n
 .apply .inr ⟨F,j (i+1),λH' O=>⟨n-(i+1),by omega,rfl,F,O⟩,λx H' y=>?_⟩;let(e,y):=y;symm
 .let e:i=n:=by omega
  subst e;exact .inl ⟨bC _,hd H p⟩
def fW{K:FR}{a:Addr}{xs:az}{g:TG}{tt:TT}{te:TE}{vs:LN}{σ:St}{H1:Hp}{D:Addr}{Qd:Hp->Prop}(j:Nat->Hp->Prop)(O:j 0 Đ)(U:∀i H,i<=xs.L->j i H->ä a xs)(hs:∀i x H,xs[i]? =Α x->j i H->g x ľ H λσ2 F=>wipe σ2 vs=wipe σ vs/\tt σ2 F λb z=>
   if b=true then te σ2 z (lj D (j (i+1))) else j (i+1) z) (hd:∀H,j xs.L H->Qd H):
  ∃W:Nat->Nat->Hp->Prop,(∃m,W 0 m Đ)/\∀i m H,W i m H->
   ((wR K a).stop i H/\Qd H)\/((wR K a).go i H/\∃Nx:Hp->Prop,(∀H',Nx H'->∃M,M<m/\W (i+1) M H')/\∀x H',(wR K a).ox i H x H'->g x ľ H' λσ2 F=>wipe σ2 vs=wipe σ vs/\tt σ2 F λb z=>
    if b=true then te σ2 z Æn else Nx z):=by
 apply(λi m H=>m=xs.L-i/\i<=xs.L/\j i H,⟨xs.L,by simp,dj _,O⟩,?_);rintro i m H ⟨rfl,hi,p⟩;let q:=U i H hi p;by_cases J:i<xs.L
 .apply .inr ⟨⟨xs,xs[i],q,by simp[J]⟩,j (i+1),λH' Y=>⟨xs.L-(i+1),by omega,rfl,J,Y⟩,λx H' y=>?_⟩;let(e,y):=y;subst e;exact hs i x _ (y xs q) p
 .let e:i=xs.L:=by omega
  subst e;exact .inl ⟨⟨xs,q,bC _⟩,hd H p⟩
def Ue(N:LS)(q j:Scope)(own:List (Str×Nat)):Bool:=
 (match j.kind with|.function=>true|_=>false)&&(j.names.all λy=>decide (j.names.Q y.1=Α y.2))&&(own.all λp=>decide (N[p.2]? =Α p.1))&&
  (j.names.all λy=>match y.2 with
   |.free=>(match q.names.Q y.1 with|some .cell=>true|some .free=>true|_=>false)
   |.local=>decide (y.1∈own.M (·.1))||decide (y.1∉N)
   |.cell=>decide (y.1∈own.M (·.1))||decide (y.1∉N)
   |_=>true)
def cZ{N:LS}{M j:Scope}{own:List (Str×Nat)}(h:Ue N M j own=true):yF N M j own:=by
 delta Ue at h;simp only[jH,jI,lZ] at h;let(((F,h2),O),J):=h;apply(?_,h2,O,λy z e=>?_,λy z e=>?_)
 .split at F
  .assumption
  .cases F
 .let q:=J y z;simp only[e] at q;split at q <;> first|exact .inl (by assumption)|exact .inr (by assumption)|cases q
 .let q:=J y z;rcases e with e|e <;> (simp only[e,Bool.or_eq_true,lZ] at q;exact q)
section
variable{κ:Type}[DecidableEq κ]
def gK(kvs:List (κ×V))(k:κ):Option V:=(kvs.find? λkv=>decide (kv.1=k)).M (·.2)
def putK(kvs:List (κ×V))(k:κ)(v:V):List (κ×V):=
 if (kvs.any λkv=>decide (kv.1=k))=true then kvs.M (λkv=>if kv.1=k then (kv.1,v) else kv) else kvs++[(k,v)]
def sf{p:κ×V}{r:List (κ×V)}{k:κ}(e:p.1=k):gK (p::r) k=Α p.2:=by simp[gK,l5,e]
def si{p:κ×V}{r:List (κ×V)}{k:κ}(e:¬p.1=k):gK (p::r) k=gK r k:=by simp[gK,l5,e]
theorem KR(k:κ):∀kvs:List (κ×V),(kvs.any λkv=>decide (kv.1=k))=(gK kvs k).isSome:=by
 intro kvs;induction kvs with
 |nil=>exact Á
 |cons p r j=>
  rw[vb];by_cases e:p.1=k
  .simp only[sf e,eQ e,Bool.true_or,atG]
  .rw[si e,gD e,RL];exact j
theorem aeD(k j:κ)(y:V):∀kvs:List (κ×V),gK (kvs.M λkv=>if kv.1=k then (kv.1,y) else kv) j=(gK kvs j).M λx=>if j=k then y else x:=by
 intro kvs;induction kvs with
 |nil=>exact Á
 |cons p r q=>
  let q:=q;rw[a8];by_cases h:p.1=k
  .rw[ai h];by_cases e:p.1=j
   .rw[sf (p:=(p.1,y)) e,sf e,JH,ai (e.symm.R h)]
   .rw[si (p:=(p.1,y)) e,si e,q]
  .rw[ah h];by_cases e:p.1=j
   .rw[sf (p:=p) e,sf e,JH,ah (λz=>h Èr)]
   .rw[si (p:=p) e,si e,q]
theorem aeE(k j:κ)(y:V):∀kvs:List (κ×V),gK kvs k=Β->gK (kvs++[(k,y)]) j=if j=k then some y else gK kvs j:=by
 intro kvs;induction kvs with
 |nil=>
  intro _;by_cases e:k=j
  .rw[ai e.symm];exact sf (p:=(k,y)) e
  .rw[ah (λz=>e z.symm)];exact si (p:=(k,y)) e
 |cons p r F=>
  intro q;rw[List.cons_append];let hk:¬p.1=k:=λz=>by rw[sf z] at q;cases q
  rw[si hk] at q;let F:=F q;by_cases e:p.1=j
  .rw[sf e,sf e,ah (λz=>hk Èr)]
  .rw[si e,si e,F]
def aeF(kvs:List (κ×V))(k j:κ)(y:V):gK (Ŕ y) j=if j=k then some y else gK kvs j:=by
 ext putK;by_cases a:(kvs.any λkv=>decide (kv.1=k))=true
 .rw[ai a,aeD];rw[KR] at a;by_cases e:j=k
  .let(x,q):=JC.mp a;symm
  .symm
 .rw[ah a];apply aeE k j y kvs ?_;rw[KR] at a;symm
def C5(kvs:List (κ×V))(k:κ)(v:V):(Ŕ v).L<=kvs.L+1:=by
 ext putK;grind
theorem k9.KS(r:k9 o u):o.isSome=u.isSome:=by
 cases o with
 |none=>cases u with
  |none=>rfl
  |some _=>exact(show False from r).elim
 |some _=>cases u with
  |none=>exact(show False from r).elim
  |some _=>rfl
theorem k9.getD(r:k9 o u)(j:RelV d d'):RelV (o.D d) (u.D d'):=by
 cases o with
 |none=>cases u with
  |none=>exact j
  |some _=>exact(show False from r).elim
 |some _=>cases u with
  |none=>exact(show False from r).elim
  |some _=>exact r
theorem KV.val{kvs:List (κ×V)}{vs:List (κ×Value)}(r:KV kvs vs)(k:κ):k9 (gK kvs k) (valueAt vs k):=by
 delta KV at r;induction r with
 |nil=>exact True.intro
 | @cons p q ps qs h t ih=>
  let(F,h2):=h;by_cases e:p.1=k
  .let j:q.1=k:=F.symm.R e;let b:valueAt (q::qs) k=Α q.2:=by simp[valueAt,l5,j]
   rw[sf e,b];exact h2
  .let j:¬q.1=k:=λz=>e (F.R z);let b:valueAt (q::qs) k=valueAt qs k:=by simp[valueAt,l5,j]
   rw[si e,b];exact ih
theorem KV.any(r:KV kvs vs)(k:κ):(kvs.any λkv=>decide (kv.1=k))=vs.any λkv=>decide (kv.1=k):=by
 delta KV at r;induction r with
 |nil=>rfl
 |cons h t j=>symm
def KV.KU(r:KV kvs vs)(k:κ)(j:RelV y u):
  KV (kvs.M λkv=>if kv.1=k then (kv.1,y) else kv) (vs.M λkv=>if kv.1=k then (kv.1,u) else kv):=by
 delta KV at r⊢;induction r with
 |nil=>exact .nil
 | @cons p q ps qs h t ih=>
  rw[a8,a8];apply .cons ?_ ih
  af
def KV.put(r:KV kvs vs)(k:κ)(j:RelV y u):KV (Ŕ y) (stored vs k u):=by
 ext putK stored;rw[r.any k];by_cases e:(vs.any λkv=>decide (kv.1=k))=true
 .rw[ai e,ai e];exact r.KU k j
 .rw[ah e,ah e];exact Paired.snoc r ⟨Á,j⟩
def KV.length{kvs:List (κ×V)}{vs:List (κ×Value)}(r:KV kvs vs):kvs.L=vs.L:=Paired.length r
end
theorem xf(r:RelV (kV k) u):(fA P w).is k u=true:=by
 cases k with
 |inl i=>let(t,e):=(show ∃t,u=Value.int i t from r);subst e;exact acz P w i t
 |inr x=>let(t,e):=(show ∃t,u=Value.str x t from r);subst e;exact acA P w x t
theorem aeG{P:Pg}{w:Wd}{ks:eN}:∀{U:LV},bq (ks.M kV) U->ItemsAre Ãg ks U:=by
 induction ks with
 |nil=>
  intro _ r;rw[mO] at r;cases r;exact .nil
 |cons k ks j=>
  intro _ r;rw[a8] at r;cases r with
  |cons h t=>exact .cons (xf h) (j t)
abbrev KT(H:Hp):List (eN×V)->List (eN×Addr×Value)->Prop:=Paired λp q=>p.1=q.1/\H q.2.1=Α (.tup (p.1.M kV))/\RelV p.2 q.2.2
theorem KT.val{H:Hp}{kvs:List (eN×V)}{xs:List (eN×Addr×Value)}(r:KT H kvs xs)(k:eN):k9 (gK kvs k) ((atKey xs k).M (·.2)):=by
 induction r with
 |nil=>exact True.intro
 | @cons p q ps qs h t ih=>
  let(F,_,h2):=h;by_cases e:p.1=k
  .let j:q.1=k:=F.symm.R e;let b:atKey (q::qs) k=Α q.2:=by simp[atKey,l5,j]
   rw[sf e,b];exact h2
  .let j:¬q.1=k:=λz=>e (F.R z);let b:atKey (q::qs) k=atKey qs k:=by simp[atKey,l5,j]
   rw[si e,b];exact ih
def KT.KU{H:Hp}{kvs:List (eN×V)}{xs:List (eN×Addr×Value)}(r:KT H kvs xs)(k:eN){y:V}{u:Value}(J:RelV y u):
  KT H (kvs.M λkv=>if kv.1=k then (kv.1,y) else kv) (xs.M (putAt k u)):=by
 induction r with
 |nil=>exact .nil
 | @cons p q ps qs h t ih=>
  rw[a8,a8];apply .cons ?_ ih;let(j,h2,F):=h;ext putAt;by_cases e:p.1=k
  .rw[ai e,ai (j.symm.R e)];exact(j,h2,J)
  .rw[ah e,ah (λz=>e (j.R z))];exact(j,h2,F)
def KT.put(r:KT H kvs xs)(k:eN)(z:H b=Α Âz)(j:RelV y u):
  KT H (Ŕ y) (storedH xs k b u):=by
 let e:(kvs.any λkv=>decide (kv.1=k))=(atKey xs k).isSome:=by
  rw[KR,(r.val k).KS,Fn]
 ext putK storedH;rw[e];by_cases q:(atKey xs k).isSome=true
 .rw[ai q,ai q];exact r.KU k j
 .rw[ah q,ah q];exact Paired.snoc r ⟨Á,z,j⟩
def KT.keeps(r:KT H kvs xs)(j:∀b ys,H b=Α Æq->H' b=Α Æq):KT H' kvs xs:=
 Paired.ot r λ_ _ z=>⟨z.1,j _ _ z.2.1,z.2.2⟩
def Ug(ok:ķ h)(e:Rd H a u):Áj u:=e.ok ok
def yH(ok:ķ h)(e:Rd H a đ):kvs.L<=sizeLine/\(a==sysModules)=false/\∃vs,KV kvs vs/\h.DictOf Ãg a vs:=
 show gv P w H h a đ from Ug ok e
def C6(ok:ķ h)(e:H a=Α đ):kvs.L<=sizeLine/\(a==sysModules)=false/\∃vs,KV kvs vs/\h.DictOf Ãg a vs:=yH ok (.inl e)
def yI{ks:eN}(ok:ķ h)(e:H a=Α (.tup (ks.M kV))):(tupleKind Ãg).is h ks a:=by
 let(_,j,r,o,q,h2,n,z):=(show gv P w H h a (.tup (ks.M kV)) from ok a _ e);exact(o,j.toArray,n,q,h2,z,by simpa using aeG r)
def yJ{kvs:List (eN×V)}(ok:ķ h)(e:Rd H a Ãr):kvs.L<=sizeLine/\(a==sysModules)=false/\
  ∃xs,KT H kvs xs/\h.DictOfH Èd a xs:=by
 let(z,y,xs,r,o,es,ep,F,h2,J,M,O):=(show gv P w H h a Ãr from Ug ok e);apply(z,y,xs,r,o,es,ep,F,h2,J,M,λx j=>?_,O);let all:∀{l:List (eN×V)}{m:List (eN×Addr×Value)},KT H l m->∀x∈m,(tupleKind Ãg).is h x.1 x.2.1:=by
  intro l m q;induction q with
  |nil=>intro x j;exact nomatch j
  | @cons p q ps qs hq t ih=>
   intro x j;rcases a9.mp j with e|j
   .subst e;exact yI ok (by rw[<-hq.1];exact hq.2.1)
   .exact ih x j
 exact all r x j
def aeH(ok:ķ h)(e:H a=Α Ãr):kvs.L<=sizeLine/\(a==sysModules)=false/\
  ∃xs,KT H kvs xs/\h.DictOfH Èd a xs:=yJ ok (.inl e)
def lp(H:Hp)(a:Addr)(y:V)(r:Option V):Prop:=
 (∃kvs k,Rd H a đ/\y=kV k/\r=gK kvs k)\/∃kvs k b,Rd H a Ãr/\y=.ref b/\H b=Α Âz/\r=gK kvs k
def xg(H:Hp)(a:Addr)(y v:V)(H':Hp):Prop:=
 (∃kvs k,H a=Α đ/\y=kV k/\kvs.L<sizeLine/\H'=upd H a (.dK (Ŕ v)))\/
 ∃kvs k b,H a=Α Ãr/\y=.ref b/\H b=Α Âz/\kvs.L<sizeLine/\H'=upd H a (.dT (Ŕ v))
def lp.k{H:Hp}{a:Addr}{kvs:List (Key×V)}{k:Key}(e:H a=Α đ):lp H a (kV k) (gK kvs k):=.inl ⟨kvs,k,.inl e,rfl,rfl⟩
def lp.t{H:Hp}{a b:Addr}{kvs:List (eN×V)}{k:eN}(e:H a=Α Ãr)(j:H b=Α Âz):lp H a (.ref b) (gK kvs k):=.inr ⟨kvs,k,b,.inl e,rfl,j,rfl⟩
def xg.k{H:Hp}{a:Addr}{kvs:List (Key×V)}{k:Key}{v:V}(e:H a=Α đ)(j:kvs.L<sizeLine):xg H a (kV k) v (ŭ (.dK (Ŕ v))):=.inl ⟨kvs,k,e,rfl,j,rfl⟩
section
variable{X:Cx}{pins:cf}{σ:St}{H:Hp}{s:Sh}{a:Addr}{y v:V}{u r:Value}{o:Option V}{A:Around}{E:VP}
def Inv.big(I:Ã H s):sysModules<s.Z:=by
 let h:mainGlobals<s.Z:=(I.mod.glob.keeps I.bk).lt;exact JI Ð h
def aeI(Y:A.units+1<cLine)(I:Ã H s)(g:lp H a y Åo)(M:RelV y u)(h:∀W s',Ã H s'->RelV v W->Q W s'):
  wpAny È A (getItem ħ u) Q E s:=by
 rcases g with ⟨kvs,k,e,j,l⟩|⟨kvs,k,b,e,j,O,l⟩
 .subst j;let(z,hd,vs,F,dd):=yH I.aE e;let(W,q,J):=k9.some_of (v:=v) (o:=valueAt vs k) (by rw[l];exact F.val k);exact wpAny_getItem_of (xf M) dd.mapOf q (h W _ (I.tok _) J)
 .subst j;cases (show u=Value.ref b from M);let(z,hd,xs,F,dd):=yJ I.aE e;let(W,q,J):=k9.some_of (v:=v) (o:=(atKey xs k).M (·.2)) (by rw[l];exact F.val k);let(p,U,qA):=u4.mp q;apply wpAny_getItem_heap (Fo Y) (yI I.aE O) dd U ?_;rw[qA];exact h W _ (I.tok _) J
def aeJ(O:A.units+1<cLine)(I:Ã H s)(g:lp H a y o)(J:RelV y u)(h:∀s',Ã H s'->Q (.bool (!o.isSome)) s'):
  wpAny È A (compareOp .NotIn u ħ) Q E s:=by
 rcases g with ⟨kvs,k,e,j,l⟩|⟨kvs,k,b,e,j,M,l⟩
 .subst j;let(z,hd,vs,F,dd):=yH I.aE e;apply wpAny_notIn_of (xf J) hd dd.mapOf ?_;rw[<-(F.val k).KS,<-l];exact h _ (I.tok _)
 .subst j;cases (show u=Value.ref b from J);let(z,hd,xs,F,dd):=yJ I.aE e;apply wpAny_notIn_heap (Fo O) (yI I.aE M) hd dd ?_;let q:=(F.val k).KS;rw[Fn] at q;rw[<-q,<-l];exact h _ (I.tok _)
def KW{h':Heap}{t':Nat}{O:HO}(I:Ã H s)(M:vj (H a))(hs:Heap.SameBut a s.H h')(F:∃q,h'.I a=Α q)(new:Àf (ŭ O) h' a O):
  Inv X pins σ (ŭ O) {s with heap:=h',toks:=t'}:=
 I.write (x:=a) (e:=a) M (.inl rfl) (λb q j z=>(hs.2 b j).R z) F new
def Uh(z:kvs.L<=sizeLine)(hd:(a==sysModules)=false)(F:KV kvs vs)(dd:h'.DictOf Ãg a vs):
  gv P w H' h' a đ:=⟨z,hd,vs,F,dd⟩
def aeK{H':Hp}{Q:Unit->Shared->Prop}(hu:A.units+1<cLine)(I:Ã H s)(g:xg H a y v H')(ry:RelV y u)(Z:RelV v r)(h:∀s',Ã H' s'->Q () s'):
  wpAny È A (setItem ħ u r) Q E s:=by
 rcases g with ⟨kvs,k,e,O,l,M⟩|⟨kvs,k,b,e,O,W,l,M⟩
 .subst O M;let(z,hd,vs,F,dd):=C6 I.aE e;let hz:vs.L<=sizeLine:=by rw[<-F.L];exact z
  let U:(Ŕ v).L<=sizeLine:=by let:=C5 kvs k v;af
  apply wpAny_setItem_pairs (hsz:=hz) (xf ry) dd λh' J hs=>h _ ?_;let he:∃q,h'.I a=Α q:=let ⟨q,_,_,j,_⟩:=J;⟨q,j⟩;exact KW I (by rw[e];exact True.intro) hs he (Uh U hd (F.put k Z) J)
 .subst O M;cases (show u=Value.ref b from ry);let(z,hd,xs,F,dd):=aeH I.aE e;let hz:xs.L<=sizeLine:=by rw[<-Paired.length F];exact z
  let U:(Ŕ v).L<=sizeLine:=by let:=C5 kvs k v;af
  apply wpAny_setItem_heap (hsz:=hz) (Fo hu) (yI I.aE W) dd λh' J hs=>h _ ?_;let(q,es,ep,j,h2,h3,h4,_,h5):=J;apply KW I (by rw[e];exact True.intro) hs ⟨q,j⟩ ⟨U,hd,_,(F.put k W Z).keeps λc ys Y=>?_,q,es,ep,j,h2,h3,h4,h5⟩;rw[aA (Sn Y e (λz=>nomatch z))];exact Y
end
section
variable{X:Cx}{pins:cf}{σ:St}{H:Hp}{s:Sh}{a:Addr}{kvs:List (Key×V)}{k:Key}{u:Value}{A:Around}{E:VP}
end
def Ui(i:Expr):Prop:=∀O iv,subscripted i false O iv=operate [O,iv] (getItem O iv)
def aeL{prog:Pg}{w:Wd}{A:Around}{E:VP}{s:Sh}{env:Env}{J W:Expr}{pos:Pos}{T id:String}{Q:VP}(O:typeLookup (.type T) "__getitem__"=pure (some ϖ)) (hs:Ui W)(h:wpAny Í A (eval J env) (λo F=>wpAny Í A (eval W env) (λi j=>j.TypeIs o T/\wpAny Í A (getItem o i) Q E j) E F) E s):
  wpAny Í A (eval (.Subscript J W pos) env) Q E s:=by
 apply Subscript_ (jE h (λo F U=>jE U (λi j q=>?_) λ_ _ x=>x) λ_ _ x=>x);let(z,q):=q;ext subscriptTail;apply aG ?_;rw[getitemInPython_of_ne z.not_modules];apply aG (wpAny_specialOf z O ?_);let fin:wpAny Í A (subscripted W false o i) (λr M=>wpAny Í A (letTemporaryGo J o r >>= λ_=>pure r) Q E M) E j:=by
  rw[hs o i];exact wpAny_operating (jE q (λr M Y=>aG (wpAny_letTemporaryGo (cY Y))) λ_ _ x=>x)
 first
  |exact cY (aG fin)
  |exact aG (cY (aG fin))
  |exact aG fin
def aeM(I:Ã H s)(g:lp H a y o):s.TypeIs ħ "dict":=by
 rcases g with ⟨kvs,k,e,_,_⟩|⟨kvs,k,b,e,_,_,_⟩
 .let(_,_,vs,_,dd):=yH I.aE e;exact dd.typeIs
 .let(_,_,xs,_,dd):=yJ I.aE e;exact dd.typeIs
def Uj(td q:TE):TE:=λσ H Q=>td σ H λx H1=>q σ H1 λy j=>∃a v,x=.ref a/\lp j a y Åo/\Q v j
def aeN(q td:TE):TE:=λσ H Q=>q σ H λy H1=>td σ H1 λx j=>∃a o,x=.ref a/\lp j a y o/\Q (.bl (!o.isSome)) j
def aeO(td J F:TE):TS:=λD σ H=>F σ H λv H1=>td σ H1 λx q=>J σ q λy z=>∃a j,x=.ref a/\xg z a y v j/\D.nx σ j
def Uk(O:X.A.units+1<cLine)(M:PE X o td)(hi:PE X i ty)(hs:Ui i):PE X (.Subscript o i pos) (Uj td ty):=by
 show Ú;apply aeL PySem.F.slot_dict_getitem.lookup hs (aQ (M pins s σ H _ I h) λu s1 ⟨x,H1,z,Z,W⟩=>aQ (hi pins s1 σ H1 _ z W) λiv s2 ⟨y,q,j,ry,a,v,ex,g,Y⟩=>?_);subst ex;obtain rfl:u=Value.ref a:=Z;exact(aeM j g,aeI O j g ry λw' s3 J U=>⟨v,q,J,U,Y⟩)
def aeP(M:X.A.units+1<cLine)(hi:PE X i ty)(J:PE X o td):PC X .NotIn i o (aeN ty td):=by
 show Ú;apply aQ (hi pins s σ H _ I h) λiv s1 ⟨y,H1,q,Z,U⟩=>aQ (J pins s1 σ H1 _ q U) λu s2 ⟨x,j,z,Y,a,O,ex,g,W⟩=>?_;subst ex;obtain rfl:u=Value.ref a:=Y;exact aeJ M z g Z λs3 F=>⟨.bl (!O.isSome),j,F,Á,W⟩
def F6(U:X.A.units+1<cLine)(O:PE X o td)(hi:PE X i ty)(W:PE X jB tv)(hs:swapsWith jB (some (.Subscript o i mG)) pos.line X.env=pure false):
  PS X (.Assign [.Subscript o i mG] jB pos) (aeO td ty tv):=by
 intro pins s σ H D I h;apply wpAny_Assign_Subscript (aQ (W pins s σ H _ I h) λr s1 ⟨v,H1,z,rv,Y⟩=>aQ (O pins s1 σ H1 _ z Y) λu s2 ⟨x,j,F,rx,Z⟩=>aQ (hi pins s2 σ j _ F Z) λiv s3 ⟨y,H3,J,ry,a,q,ex,g,q3⟩=>?_) hs;subst ex;obtain rfl:u=Value.ref a:=rx;exact aeK U J g ry rv λs4 M=>⟨σ,q,M,q3⟩
def aeQ{P:Pg}{w:Wd}{H:Hp}(h:Heap)(j:sysModules<h.O):gv P w H (h.push {cls:=.type "dict",data:=.dict #[]}) h.O Ϥ:=
 ⟨dj _,yj.mpr (eF (fV j)),[],.nil,abb h⟩
def aeR:TE:=λ_ H Q=>∀p,H p=Β->Q Ĝ (upd H p Ϥ)
def C7:PE X (.Dict [] [] pos) aeR:=λpins s σ H Q I h=>
 wpAny_Dict_empty ⟨.ref s.Z,_,I.laid (a:=s.Z) (o:=.dK []) (t':=s.toks) (λ_ _ q=>dv _ q) (bC _) (aeQ s.H I.big),rfl,h _ ġ⟩
def vB(kvs M:List (Key×V)):List (Key×V):=M.foldl (λacc kv=>putK acc kv.1 kv.2) kvs
theorem KV.merge:∀{M:List (Key×V)}{rs:List (Key×Value)}{kvs:List (Key×V)}{vs:List (Key×Value)},KV M rs->KV kvs vs->KV (vB kvs M) (merged vs rs):=by
 intro M rs kvs vs r;delta KV at r;induction r generalizing kvs vs with
 |nil=>intro q;exact q
 | @cons p q ps qs h t ih=>
  intro j;let e:KV (putK kvs p.1 p.2) (stored vs q.1 q.2):=by
   let:=j.put p.1 h.2;symm
  exact ih e
theorem aeS:∀(M kvs:List (Key×V)),(vB kvs M).L<=kvs.L+M.L:=by
 intro M;induction M with
 |nil=>
  intro kvs;show kvs.L<=kvs.L+0;symm
 |cons p r j=>
  intro kvs;let q:=j (putK kvs p.1 p.2);let h2:=C5 kvs p.1 p.2;show(vB (putK kvs p.1 p.2) r).L<=_;rw[dh];af
structure M1(X:Cx)(o:Expr)(m:Str)(jg:Pos)(e:Expr)(gH:Pos):Prop where
 base:attributeBase o m X.env Åa=eval o X.env
 c7:((backTo gH (starEach [e] X.env)).all (λx=>!x.1)&&(backToKw gH Ϲ).all (λx=>x.1.isSome)
  &&decide (([e]:List Expr).L+([]:List Keyword).L+(if ([]:List Keyword).isEmpty then 0 else 1)<30))=true
 line:(jg.endLine==gH.line)=true
 trees:backTo gH (starEach [e] X.env)=[(false,eval e X.env)]
structure M2(X:Cx)(o:Expr)(m:Str)(jg:Pos)(e f:Expr)(gH:Pos):Prop where
 base:attributeBase o m X.env Åa=eval o X.env
 c7:((backTo gH (starEach [e,f] X.env)).all (λx=>!x.1)&&(backToKw gH Ϲ).all (λx=>x.1.isSome)
  &&decide (([e,f]:List Expr).L+([]:List Keyword).L+(if ([]:List Keyword).isEmpty then 0 else 1)<30))=true
 line:(jg.endLine==gH.line)=true
 trees:backTo gH (starEach [e,f] X.env)=[(false,eval e X.env),(false,eval f X.env)]
def F7(H:Hp)(a:Addr):Prop:=(∃kvs,Rd H a đ)\/∃kvs,Rd H a Ãr
def KY(I:Ã H s)(d:F7 H a):
  s.TypeIs ħ "dict"/\(∀b,Value.ref a=.ref b->∃O,s.U b=Α O/\O.dict=Β)/\(a==sysModules)=false:=by
 rcases d with ⟨kvs,e⟩|⟨kvs,e⟩
 .let(_,hd,vs,_,dd):=yH I.aE e;apply(dd.typeIs,λb q=>?_,hd);cases q;let(O,_,_,j,h2,_):=dd;exact(O,j,h2.2.1)
 .let(_,hd,xs,_,dd):=yJ I.aE e;apply(dd.typeIs,λb q=>?_,hd);cases q;let(O,_,_,j,h2,_):=dd;exact(O,j,h2.2.1)
section
variable{X:Cx}{pins:cf}{σ:St}{H:Hp}{s:Sh}{a:Addr}{y d:V}{u r:Value}{o:Option V}{A:Around}{E:VP}
def aeT(O:A.units+1<cLine)(I:Ã H s)(g:lp H a y o)(J:RelV y u)(h:∀W s',Ã H s'->RelV (o.D .aP) W->Q W s'):
  wpAny È A (call (.builtin "dict.get") [.ref a,u]) Q E s:=by
 rcases g with ⟨kvs,k,e,j,l⟩|⟨kvs,k,b,e,j,M,l⟩
 .subst j;let(z,hd,vs,q,dd):=yH I.aE e;apply Fp PySem.F.slot_dict_get dd.typeIs PySem.F.entry_dict_get (PySem.F.args_dict_get_2 _ _) (meets_dict_get Č a (xf J) hd) ⟨_,dd.mapOf,h _ _ (I.tok _) ?_⟩;rw[l];exact(q.val k).D Á
 .subst j;cases (show u=Value.ref b from J);let(z,hd,xs,q,dd):=yJ I.aE e;apply Fp PySem.F.slot_dict_get dd.typeIs PySem.F.entry_dict_get (PySem.F.args_dict_get_2 _ _) (meetsH_dict_get Ée a b hd) ⟨Fo O,k,xs,yI I.aE M,dd,h _ _ (I.tok _) ?_⟩;rw[l];exact(q.val k).D Á
def aeU(U:A.units+1<cLine)(I:Ã H s)(g:lp H a y o)(M:RelV y u)(J:RelV d r)(h:∀W s',Ã H s'->RelV (o.D d) W->Q W s'):
  wpAny È A (call (.builtin "dict.get") [.ref a,u,r]) Q E s:=by
 rcases g with ⟨kvs,k,e,j,l⟩|⟨kvs,k,b,e,j,O,l⟩
 .subst j;let(z,hd,vs,q,dd):=yH I.aE e;apply Fp PySem.F.slot_dict_get dd.typeIs PySem.F.entry_dict_get (PySem.F.args_dict_get_3 _ _ _) (meets_dict_get_default Č a (xf M) hd r) ⟨_,dd.mapOf,h _ _ (I.tok _) ?_⟩;rw[l];exact(q.val k).D J
 .subst j;cases (show u=Value.ref b from M);let(z,hd,xs,q,dd):=yJ I.aE e;apply Fp PySem.F.slot_dict_get dd.typeIs PySem.F.entry_dict_get (PySem.F.args_dict_get_3 _ _ _) (meetsH_dict_get_default Ée a b hd r) ⟨Fo U,k,xs,yI I.aE O,dd,h _ _ (I.tok _) ?_⟩;rw[l];exact(q.val k).D J
end
def Ul(td q:TE):TE:=λσ H Q=>td σ H λx H1=>∃a,x=.ref a/\F7 H1 a/\q σ H1 λy j=>∃o,lp j a y o/\Q (o.D .aP) j
def aeV(td J F:TE):TE:=λσ H Q=>td σ H λx H1=>∃a,x=.ref a/\F7 H1 a/\J σ H1 λy q=>F σ q λz j=>∃o,lp j a y o/\Q (o.D z) j
def aeW(U:X.A.units+1<cLine)(O:PE X o td)(M:ϥ ty)(m:M1 X o "get" jg e gH):PE X (.Call (.Attribute o "get" jg) [e] [] gH) (Ul td ty):=by
 show Ú;apply JJ m.base m.c7 m.line PySem.F.plainAttrs_dict PySem.F.slot_dict_get PySem.F.type_dict_get (aQ (O pins s σ H _ I h) λu s1 ⟨x,H1,j,rx,a,ex,d,Y⟩=>?_);subst ex;obtain rfl:u=Value.ref a:=rx;let(t1,t2,_):=KY j d;refine Èx;rw[m.trees];apply JD Á (RF (Fi (aQ (M pins s1 σ H1 _ j Y) λiv s2 ⟨y,q,z,ry,ov,g,Z⟩=>RC ?_)));exact aeT U z g ry λw' s3 J W=>⟨_,q,J,W,Z⟩
def aeX(hu:X.A.units+1<cLine)(Z:PE X o td)(W:ϥ ty)(Y:PE X f tx)(m:M2 X o "get" jg e f gH):PE X (.Call (.Attribute o "get" jg) [e,f] [] gH) (aeV td ty tx):=by
 show Ú;apply JJ m.base m.c7 m.line PySem.F.plainAttrs_dict PySem.F.slot_dict_get PySem.F.type_dict_get (aQ (Z pins s σ H _ I h) λu s1 ⟨x,H1,j,rx,a,ex,d,q1⟩=>?_);subst ex;obtain rfl:u=Value.ref a:=rx;let(t1,t2,_):=KY j d;refine Èx;rw[m.trees];refine JD Á (RF (Fi (aQ (W pins s1 σ H1 _ j q1) λiv s2 ⟨y,q,M,ry,q2⟩=>
  Fi (aQ (Y pins s2 σ q _ M q2) λfv s3 ⟨z,J,O,rz,ov,g,q3⟩=>RC ?_))))
 exact aeU hu O g ry rz λw' s4 U jm=>⟨_,J,U,jm,q3⟩
section
variable{X:Cx}{pins:cf}{σ:St}{H:Hp}{s:Sh}{a:Addr}{kvs:List (Key×V)}{A:Around}{E:VP}
end
section
variable{X:Cx}{pins:cf}{σ:St}{H:Hp}{s:Sh}{a:Addr}{y:V}{u:Value}{A:Around}{E:VP}
end
def aeY:typeLookup (.type "list") "keys"=pure none:=am_miss_of_fast (by first|decide+kernel|rfl)
def Um:entryFor table "dict.update.loop"=Α Builtin.«dict.update.loop»:=entryFor_of_tree (by kernel_rfl)
def C8:plainId "dict.update.loop"=true:=by decide+kernel
def aeZ{s:Sh}{a:Addr}{o:Obj}{xs:Array Value}{k:Nat}{Q:Option Value->Shared->Prop}(M:s.U a=Α o)(hc:o.cls=.type "list")(W:o.data=.seq xs k)(hd:o.dict=Β)(Z:A.handled=Β)(h:∀h' tk,(∀b U,s.U b=Α U->h'.I b=Α U)->Q none {s with heap:=h',toks:=tk}):wpAny Í A (getAttr? ħ "keys") Q E s:=by
 let(c,Ac,Y,sl):=o;simp only at hc W hd;subst hc W hd;let(hp,g,d,tk,os):=s;let J:∀O,(⟨hp,g,d,O,os⟩:Sh).TypeIs ħ "list":=λ_=>⟨_,M,rfl⟩;let j:=aeY;let q:(["__module__","__name__","__qualname__","__doc__","__annotations__"]:LS).Y "keys"=false:=by decide+kernel
 let hsz:("keys":Str).L+100<=sizeLine:=by first|size_fits|decide+kernel
 let f1:=sub_AttributeError;let f3:=PySem.F.slot_list_getattribute.lookup;let f4:=PySem.F.slot_list_getattribute.bind ħ;let f5:=am_list_getattr_none;ext getAttr? getAttrBy? getAttrBy
 repeat (any_goals (first|assumption|exact J _|((with_reducible show wpAny _ _ (call (Value.builtin "list.__getattribute__") _ _) _ _ _);apply JE PySem.F.slot_list_getattribute (J _) am_entry_list_getattribute (PySem.F.args_list_getattribute_2 _ _) (meets_getattribute_miss_list a xs k sl "keys" _ j q hsz) ⟨M,Z,λh' O e z=>?_⟩)|wp_step))
 let(t',u',he):=z.there;show wpAny _ _ (getattributeRaised _ _ _ _ _ _ _) _ _ _;ext getattributeRaised
 repeat (any_goals (first|assumption|wp_step))
 all_goals first|exact h _ _ z.keeps|(dsimp only;repeat (any_goals (first|assumption|exact h _ _ z.keeps|wp_step)))
theorem ae2{α:Type}{R:Result->Shared->Prop}{S I l:Addr}{items:Array Value}{res:Value}{DD:Heap->List α->Prop}{G:Heap->α->Value->Value->Prop}{st:List α->α->List α}(hh:A.handled=Β)(KZ:l≠I)(O:S<I)(hSl:S≠l)(dk:∀h h' acc,DD h acc->(∀b o,b<=S->h.I b=Α o->h'.I b=Α o)->DD h' acc) (gk:∀h h' q u y,G h q u y->(∀b o,b<S->h.I b=Α o->h'.I b=Α o)->G h' q u y)(ds:∀(s:Sh)acc q u y(Q:Unit->Shared->Prop)E,G s.H q u y->DD s.H acc->acc.L<=sizeLine->(∀h' tk,DD h' (st acc q)->Heap.SameBut S s.H h'->Q () {s with heap:=h',toks:=tk})->wpAny Í A.in1 (dictSet S u y) Q E s)(sl:∀acc q,(st acc q).L<=acc.L+1):
  ∀(b9:List α)(i:Nat)(acc:List α)(ix:Int)(t:Tok)(s:Sh),items.u=i+b9.L->acc.L+b9.L<=sizeLine->
   (∀(j:Nat)(q:α),b9[j]? =Α q->∃(b:Addr)(u y:Value),items[i+j]? =Α (.ref b)/\b<S/\IsTup s.H b #[u,y]/\G s.H q u y)->
   s.H.IsListIter I l i->s.H.IsList l items->DD s.H acc->
   (∀h' tk,DD h' (b9.foldl st acc)->(∀b o,b≠S->b≠I->s.U b=Α o->h'.I b=Α o)->R (.ok (.ret res)) {s with heap:=h',toks:=tk})->
   codeAny Í A (.builtin "dict.update.loop" ⟨[.ref S,.ref I,.int ix t,res],[]⟩) R s:=by
 intro b9;induction b9 with
 |nil=>
  intro i acc ix t s hsz F8 ht iR U hm hR;apply BY Um ?_;rw[BZ C8 _];apply aG (wpAny_pyNext_list_end (A:=A.in1) hh iR U (by first|exact atH (Ff hsz)|(simp at hsz;simp;omega)) λh' he=>?_);exact aG (cY (cY (hR h' s.toks (dk _ _ _ hm λb o F e=>he b o (fV (qz F O)) e) λb o _ F e=>he b o F e)))
 |cons q b9 ih=>
  intro i acc ix t s hsz F8 ht iR U hm hR;let(b,u,y,F,hbS,Y,hk):=ht 0 q rfl;rw[dh] at hsz F8;apply BY Um ?_;rw[BZ C8 _];apply aG (wpAny_pyNext_list_item (x:=.ref b) iR U (À F) λh1 F9 J=>?_);let k1:∀b o,b<=S->s.U b=Α o->h1.I b=Α o:=λb o F e=>J.extBut b o (fV (qz F O)) e;let(o,ho,hc,n,hd):=Y.extBut J.extBut (fV (JI hbS O));apply aG (Fc ?_);apply aG (JK ?_);ext Builtin.Dict.pairItems;apply aG (RM (T:="tuple") ⟨o,ho,hc⟩ ?_);rw[ai (by first|decide|rfl|simp)];apply aG (BU ho hd (cY ?_));apply Fc (ds _ _ _ _ _ _ _ (gk _ _ _ _ _ hk λb o F e=>k1 b o (tp F) e) (dk _ _ _ hm k1) Ù λh2 tk2 xi M=>?_);let z:=sl acc q;refine cY ⟨vc C8 _,ih (i+1) (st acc q) (ix+1) 0 _ (show items.u=i+1+b9.L by grind) Ù Èy (F9.at λo' e=>M.extBut I o' (u6 O) e) ((U.extBut J.extBut KZ).extBut M.extBut (eF hSl)) xi λh' tk j7 k=>hR h' tk j7 λc oc h3 h4 e=>k c oc h3 h4 (M.extBut c oc h3 (J.extBut c oc h4 e))⟩;let(b',u',y',qF,W,Z,l9):=ht (j+1) q' (À e);exact(b',u',y',by rw[show i+1+j=i+(j+1) by af];exact qF,W,(Z.extBut J.extBut (fV (JI W O))).extBut M.extBut (fV W),gk _ _ _ _ _ l9 λb o F e=>M.extBut b o (fV F) (k1 b o (tp F) e))
def Uo{s:Sh}{l:Addr}{O:Obj}{items:Array Value}{n:Nat}{α:Type}{prs:List α}{Q:VP}{DD:Heap->List α->Prop}{G:Heap->α->Value->Value->Prop}{st:List α->α->List α}(hh:A.handled=Β)(W:s.U l=Α O)(hc:O.cls=.type "list")(hd:O.dict=Β)(vC:O.data=.seq items n) (hsz:items.u=prs.L) (F8:prs.L<=sizeLine)(d0:DD (s.o {cls:=.type "dict",data:=.dict #[]}) [])(dk:∀h h' acc,DD h acc->(∀b o,b<=s.Z->h.I b=Α o->h'.I b=Α o)->DD h' acc) (gk:∀h h' q u y,G h q u y->(∀b o,b<s.Z->h.I b=Α o->h'.I b=Α o)->G h' q u y)(ds:∀(M:Sh)acc q u y(Q:Unit->Shared->Prop)E,G M.H q u y->DD M.H acc->acc.L<=sizeLine->(∀h' tk,DD h' (st acc q)->Heap.SameBut s.Z M.H h'->Q () {M with heap:=h',toks:=tk})->wpAny Í A.in1.in1 (dictSet s.Z u y) Q E M)(sl:∀acc q,(st acc q).L<=acc.L+1)(ht:∀(j:Nat)(q:α),prs[j]? =Α q->∃(b:Addr)(u y:Value),items[j]? =Α (.ref b)/\IsTup s.H b #[u,y]/\G s.H q u y)(h:∀h' tk,DD h' (prs.foldl st [])->(∀b o,s.U b=Α o->h'.I b=Α o)->Q ú {s with heap:=h',toks:=tk}):
  wpAny Í A (call (.type "dict") [.ref l]) Q E s:=by
 apply callType_codes (Q₁:=λobj s₁=>obj=.ref s.Z/\s₁={s with heap:=s.o {cls:=.type "dict",data:=.dict #[]}}) PySem.F.kt_called_dict (PySem.F.kt_typeCall_dict_1 _) PySem.F.entry_dict_init (kt_code_dict_new _ ⟨Á,Á⟩) ?_;rintro obj s₁ ⟨rfl,rfl⟩;let Uq:(s.o {cls:=.type "dict",data:=.dict #[]}).DictOf Åp s.Z []:=abb s.H;let k0:∀b o,s.U b=Α o->(s.o {cls:=.type "dict",data:=.dict #[]}).I b=Α o:=λb o e=>dv _ e;apply(Uq.typeIs,PySem.F.args_dict_init_2 _ _,?_);delta Builtin.«dict.__init__»;apply aG ?_;ext Builtin.Dict.selfAndRest;apply aG (wpAny_notOrdered_dict Uq.typeIs ?_);show wpAny _ _ (pure (s.Z,[Value.ref l])) _ _ _;apply cY ?_;show wpAny _ _ (Builtin.Dict.updateFrom "dict.__init__" s.Z Âa [] .none) _ _ _;ext Builtin.Dict.updateFrom;apply aG (RM (T:="list") ⟨O,k0 _ _ W,hc⟩ ?_);rw[ai Ï];apply aG (aeZ (k0 _ _ W) hc vC hd hh λJ tk1 U=>?_);rw[ai (show(none:Option Value).isNone=true from rfl)];apply aG (Ry ?_);let e9:J.IsList l items:=⟨O,U _ _ (k0 _ _ W),hc,n,vC⟩;let vE:s.Z<J.O:=by
  let e:(s.o {cls:=.type "dict",data:=.dict #[]}).I s.Z=Α {cls:=.type "dict",data:=.dict #[]}:=ib _ rfl;exact di (U _ _ e)
 apply aG (RA e9 ?_);let k2:∀b o,J.I b=Α o->(J.push {cls:=.type "list_iterator",data:=.fields #[.ref l,.int 0 0]}).I b=Α o:=λb o e=>dv _ e;let bQ:l<s.Z:=di W;let Y:=JI bQ vE;let Z:∀b o,s.U b=Α o->(J.push {cls:=.type "list_iterator",data:=.fields #[.ref l,.int 0 0]}).I b=Α o:=λb o e=>k2 _ _ (U _ _ (k0 _ _ e));let ia:=ae2 (prog:=prog) (w:=w) (A:=A.in1) (R:=wants (λr s₂=>r=.none/\Q ú s₂) E) (S:=s.Z) (I:=J.O) (l:=l) (items:=items) (res:=Value.none) hh
  (fV Y) vE (u6 bQ) dk gk ds sl prs 0 [] 0 0
  {s with heap:=J.push {cls:=.type "list_iterator",data:=.fields #[.ref l,.int 0 0]},toks:=tk1} (by rw[hsz,vd]) (by rw[tm,vd];exact F8)
  (λj q e=>by
   let(b,u,y,e1,e2,e3):=ht j q e;exact(b,u,y,by rw[vd];exact e1,e2.lt,e2.keeps λc o z=>Z _ _ z,gk _ _ _ _ _ e3 λc o _ z=>Z _ _ z))
  ⟨_,ib _ rfl,rfl,rfl⟩ (e9.at λo e=>k2 _ _ e) (dk _ _ _ d0 λb o _ e=>k2 _ _ (U _ _ e))
  (λh' tk j7 k=>⟨rfl,h h' tk j7 λb o e=>k b o Èq (fV (JI (di e) vE)) (Z _ _ e)⟩)
 first
  |exact cY ⟨vc C8 _,ia⟩
  |exact aG (cY (cY ⟨vc C8 _,ia⟩))
def ae9{pins:cf}{σ:St}{H:Hp}{s:Sh}(I:Ã H s):∀{ps:LA}{kvs:List (Key×V)},Paired (λp kv=>bx X.K H p [kV kv.1,kv.2]) ps kvs->
  ∃prs:List (Key×Value),KV kvs prs/\prs.L=ps.L/\∀(j:Nat)(q:Key×Value),prs[j]? =Α q->∃(b:Addr)(u:Value),ps[j]? =Α b/\IsTup s.H b #[u,q.2]/\rN q.1 u=true:=by
 intro ps kvs U;induction U with
 |nil=>exact([],.nil,Á,λj q e=>by simp at e)
 | @cons p kv ps kvs h t ih=>
  let(prs,r,W,Y):=ih;let(ak,rv,Z,_):=I.tuple h;let(u,y,O,ru,ry):=vals2 rv;subst O;apply((kv.1,y)::prs,.cons ⟨Á,ry⟩ r,by rw[dh,dh,W],λj q e=>?_);cases j with
  |zero=>
   let z:(kv.1,y)=q:=aU e;subst z;exact(p,u,Á,Z,xf (P:=X.prog) (w:=X.w) ru)
  |succ j=>
   let(b,u',F,J,M):=Y j q (À e);exact(b,u',À F,J,M)
theorem Ur{ps:LA}:∀{U:LV},bq Àk U->U=ps.M Value.ref:=by
 induction ps with
 |nil=>
  intro U r;rw[mO] at r;cases r;rfl
 |cons p ps j=>
  intro U r;rw[a8] at r;cases r with
  |cons h t=>
   cases h;rw[a8,<-j t]
def afa(J:X.calm=true):lg X (.type "dict") (λxs H Q=>∃(a:Addr)(ps:LA)(kvs:List (Key×V)),xs=[.ref a]/\Ák a Àk/\Paired (λp kv=>bx X.K H p [kV kv.1,kv.2]) ps kvs/\
  ∀p,H p=Β->Q Ĝ (upd H p Æk)):=by
 intro pins s σ H xs us Q I r q;let(a,ps,kvs,ex,hq,hp,q):=q;subst ex;let(u,Y,rx):=vals1 r;subst Y;cases rx;let(ak,rv,pl,hz):=I.list hq;let W:=Ur rv;subst W;rw[ao] at hz;let(prs,F,z,ip):=ae9 I hp;let(o,n,ho,hc,hd,vC):=pl;apply Uo (prs:=prs) (DD:=λh=>h.DictOf Č s.Z) (G:=λ_ q u y=>y=q.2/\rN q.1 u=true) (st:=λa q=>stored a q.1 q.2) (I.ok.hd J) ho hc hd vC (by simp[z]) Å (abb s.H) (λ_ _ _ d k=>d.at λo e=>k _ o (bC _) e) (λ_ _ _ _ _ g _=>g) (λ_ _ _ _ _ _ _ g d hz k=>g.1▸ wpAny_dictSet_pairs (knd:=fA X.prog X.w) g.2 d (λh'=>k h' _) hz) (λa q=>stored_length_le a q.1 q.2) Èy λh' tk j7 k=>?_
 .let(b,u,e1,O,U):=ip j q' e;exact(b,u,_,by simp_all,O,rfl,U)
 .let Z:(s.Z==sysModules)=false:=yj.mpr (u6 I.big);let M:(vB [] kvs).L<=sizeLine:=by
   apply gq (aeS kvs []) ?_;rw[tm,vd,F.L,z];omega
  exact(.ref s.Z,ĕ Æk,I.laid (t':=tk) k (bC _) (show gv X.prog X.w _ _ _ Æk from⟨M,Z,merged [] prs,KV.merge F .nil,j7⟩),Á,q _ ġ)
section
variable{X:Cx}{pins:cf}{σ:St}{H:Hp}{s:Sh}{h':Heap}
def Inv.afb{t':Nat}{ch:LA}(I:Ã H s)(k:∀b o,b∉ch->s.U b=Α o->h'.I b=Α o)(j:∀b∈ch,ň H b):Ã H {s with heap:=h',toks:=t'}:=by
 let W:∀b u,H b=Α u->b∉ch:=λb u e z=>by
  let q:=(j b z).1;symm
 refine I.step (g':=s.gens) (d':=s.drawn) (ch:=ch) (λb F=>⟨(j b F).2.2.2.1,(j b F).2.1,(j b F).2.2.2.2.1,(j b F).2.2.2.2.2⟩) (λb o _ _ hc e _=>k b o hc e) (λb o _ _ hc e _=>⟨o.slots,k b o hc e⟩)
  (λ_ _ _ _ n=>n) (λb o hc e=>⟨o,k b o hc e⟩) (λ_ _ e=>e) (λ_ _ _ e=>e) (λb ps e=>⟨#[],by rw[e];simp⟩) (λm J=>?_) (λb u e=>?_) I.bare
 .let(o,es,ep,M,r):=J;exact(o,es,ep,k _ o (λz=>(j _ z).2.1 Á) M,r)
 .refine(I.aE b u e).rO Ân (λ_ q=>q) λ_ _ q=>q;rcases hc with z|z
  .rw[z];exact W b u e
  .exact W c _ z
def Inv.afc{t':Nat}{ch:LA}{T:Addr}{O:HO}(I:Ã H s)(k:∀b o,b∉ch->s.U b=Α o->h'.I b=Α o)(F:∀b∈ch,ň H b)(J:s.Z<=T)(new:Àf (upd H T O) h' T O):Ã (upd H T O) {s with heap:=h',toks:=t'}:=by
 let hn:H T=Β:=I.aE.fresh J;let W:∀b u,H b=Α u->b∉ch:=λb u e z=>by
  let q:=(F b z).1;symm
 refine I.step (g':=s.gens) (d':=s.drawn) (ch:=ch) (λb j=>⟨(F b j).2.2.2.1,(F b j).2.1,(F b j).2.2.2.2.1,(F b j).2.2.2.2.2⟩) (λb o _ _ hc e _=>k b o hc e) (λb o _ _ hc e _=>⟨o.slots,k b o hc e⟩)
  (λb o _ e n=>?_) (λb o hc e=>⟨o,k b o hc e⟩) (λb xs e=>?_) (λb o u e=>?_) (λb ps e=>⟨#[],?_⟩) (λm M=>?_) (λb u e=>?_) I.bare
 .rw[aA (fV (j4 (di e) J))];exact n
 .rw[aA (eS e hn)];exact e
 .rw[aA (eS e hn)];exact e
 .rw[aA (eS e hn),e];simp
 .let(o,es,ep,U,r):=M;exact(o,es,ep,k _ o (λz=>(F _ z).2.1 Á) U,r)
 .by_cases j:b=T
  .subst j;rw[au] at e;cases e;exact new
  .rw[aA j] at e;refine(I.aE b u e).rO Ân (λc q=>by rw[aA Åb];exact q) λc xs q=>by rw[aA Åb];exact q
   rcases hc with z|z
   .rw[z];exact W b u e
   .exact W c _ z
def Inv.lock(I:Ã H s)(h:H d=Α u)(M:vj Éf):∃od,Ã Æz s:=by
 let x:=I.aE d u h;let ex:∃od,s.U d=Α od:=by
  cases u with
  |lst xs=>let(_,_,_,_,e):=x;exact(_,e)
  |dK kvs=>let(_,_,_,_,o,_,_,e,_):=x;exact(o,e)
  |dT kvs=>let(_,_,_,_,o,_,_,e,_):=x;exact(o,e)
  |set S n=>let(o,_,_,_,e,_):=x;exact(o,e)
  |ins C dx fs=>let(_,_,_,e,_):=x;exact(_,e)
  |ext φ=>let(_,(_,e),_):=x;exact(_,e)
  |_=>exact False.elim M
 let(od,e):=ex;let new:Àf Æz s.H d ϕ:=by
  apply(e,x.rO (λb v _ q=>q) (λb q=>?_) λb xs q=>?_)
  .rw[aA (λz=>by rw[z,h] at q;cases q;exact M)];exact q
  .rw[aA (λz=>by rw[z,h] at q;cases q;exact M)];exact q
 exact(od,I.write (x:=d) (e:=d) (t':=s.toks) (h':=s.H) Å ĝ (λb v _ q=>q) ⟨od,e⟩ new)
def Inv.Da(I:Ã H s)(h:H d=Α u)(M:vj Éf):∀O U,X.yp d≠some (.cQ O U):=λO U e=>by
 let q:=I.base.rP d O U e;rw[h] at q;cases q;exact M
def Inv.unlock(I:Ã H s)(h:H d=Α ϕ)(W:∀O U,X.yp d≠some (.cQ O U)):Ã (upd H d u) s:=by
 let j:∀b o,H b=Α o->(∀O U,o≠ .cQ O U)->b≠d:=λb o e M z=>by
  grind
 let neN:∀b,H b=Β->b≠d:=λb e z=>by rw[z,h] at e;cases e
 apply(I.ok,I.os,I.bare,⟨I.base.keep,I.base.slot,λb o e n hx=>?_,I.base.there,λb xs e=>?_,λb o x e=>?_,λb ps e=>?_⟩,I.loc,I.cell,?_,λx c e=>?_,λp J=>?_,λb o e=>?_,I.len)
 .rw[aA (neN b Ϭ)];exact I.base.free b o e n hx
 .let q:=I.base.vk b xs e;rw[aA (j b _ q (λ_ _ z=>nomatch z))];exact q
 .let q:=I.base.rP b o x e;rw[aA (λz=>by simp_all)];exact q
 .let(m,q):=I.base.vm b ps e;exact(m,by rw[aA (j b _ q (λ_ _ z=>nomatch z))];exact q)
 .rw[aA (neN _ I.free)];exact I.free
 .rw[aA (neN c Çw)];exact I.ny x c e
 .let(e,n,r):=I.pin p J;exact(e,by rw[aA (neN _ n)];exact n,r)
 .by_cases F:b=d
  .rw[F,au] at e;cases e;rw[F];let(_,x):=I.aE d _ h;exact x.rO (λc v _ q=>q) (λc q=>by rw[aA (j c _ q (λ_ _ z=>nomatch z))];exact q) λc xs q=>by rw[aA (j c _ q (λ_ _ z=>nomatch z))];exact q
  .rw[aA F] at e;exact(I.aE b o e).rO (λc v _ q=>q) (λc q=>by rw[aA (j c _ q (λ_ _ z=>nomatch z))];exact q) λc xs q=>by rw[aA (j c _ q (λ_ _ z=>nomatch z))];exact q
end
def afd(t:TS):TS:=λD σ H=>∃d u,H d=Α u/\vj Éf/\∀od,t ⟨λσ' H'=>H' d=Α ϕ/\D.nx σ' Äa,λv H'=>H' d=Α ϕ/\D.rt v Äa,λσ' H'=>H' d=Α ϕ/\D.bk σ' Äa,λσ' H'=>H' d=Α ϕ/\D.ct σ' Äa⟩ σ Æz
def afe(t:TE):TE:=λσ H Q=>∃d u,H d=Α u/\vj Éf/\∀od,t σ Æz λv H'=>H' d=Α ϕ/\Q v Äa
def Us{st:Stmt}{t:TS}(h:PS X st t):PS X st (afd t):=by
 intro pins s σ H D I z;let(d,u,hd,mu,z):=z;let(od,F):=I.lock hd mu;apply aQ (h pins s σ _ _ F (z od)) λf J q=>?_;cases f with
 |next=>let(σ',H',j,e,q):=q;exact(σ',_,j.unlock e Äh,q)
 |brk=>let(σ',H',j,e,q):=q;exact(σ',_,j.unlock e Äh,q)
 |cont=>let(σ',H',j,e,q):=q;exact(σ',_,j.unlock e Äh,q)
 |ret v=>let(x,σ',H',j,r,e,q):=q;exact(x,σ',_,j.unlock e Äh,r,q)
def aff(h:ϥ t):ϥ (afe t):=by
 intro pins s σ H Q I j;let(d,u,hd,mu,j):=j;let(od,z):=I.lock hd mu;apply aQ (h pins s σ _ _ z (j od)) λv M ⟨x,H1,F,r,J,q⟩=>?_;exact(x,_,F.unlock J Äh,r,q)
def Gb{tg:Expr}{pins:cf}{σ:St}{H:Hp}{s:Sh}{R:It->Hp->Prop}{J:It}{tn:Nat->Heap->Prop}{tk:Nat}(I:Ã H s)(o:Obj)(T:Turn X.prog X.w X.K tg J [s.Z] s.Z tn) (st:tn 0 (s.o o)) (q:R J H):Cr X pins σ tg R ú {s with heap:=s.o o,toks:=tk}:=by
 apply(s.Z,[s.Z],tn,J,H,Á,I.kept λb O e=>dv _ e,T,st,λb j=>?_,q);let e:b=s.Z:=À j
 subst e;exact I.wQ (bC _) ġ
def Dc(x:Str):It:=⟨λi _=>i<x.cps.u,λi H v H'=>H'=H/\∃c,x.cps[i]? =Α c/\v=.str ⟨#[c]⟩,λi _=>x.cps.u<=i⟩
def Ut{P:Pg}{w:Wd}{K:FR}{tg:Expr}(it:Addr)(x:Str)(t:Tok)(j:String)(q:j="str_ascii_iterator"\/j="str_iterator"):
  Turn P w K tg (Dc x) [it] it (λi h=>h.IsStrIter it j x t i) where
 mem:=by simp
 obj:=λi h st b hb=>by
  let e:b=it:=À hb
  subst e;let(o,e,c,d):=st;exact(o,e,λv z=>by rw[d] at z;cases z)
 keep:=λi h h' st k=>let ⟨o,ho,r⟩:=st;⟨o,k it Ä o ho,r⟩
 item:=by
  show Ô;subst hP hw hK;show ì;let W:Walks X.prog X.w X.A it [it] [it] x.cps.u (SignAt x) (λi h=>h.IsStrIter it j x t i):=by
   rcases q with e|e
   .rw[e];exact Walks.strAscii ă it x t
   .rw[e];exact Walks.strWide ă it x t
  let M:["enumerate","zip","dict_itemiterator","dict_reverseitemiterator","odict_iterator","itertools.zip_longest","itertools.pairwise"].Y j=false:=by
   rcases q with e|e
   .rw[e];decide
   .rw[e];decide
  apply W.item i s _ _ hg st λv h' tk Y J Z=>?_;let(c,u,pR,rfl):=Y;let O:Ã H {s with heap:=h',toks:=tk}:=I.turned (λb o hb e=>Z b o (À hb) e) f0 f1 f3 f4 f5;let(oi,e,U,dd):=id J;exact(_,Á,FJ (s:={s with heap:=h',toks:=tk}) e U dd M ⟨.str ⟨#[c]⟩,H,O,⟨u,Á⟩,⟨Á,c,pR,Á⟩,J,λb hb=>(hf b hb).1⟩)
 done:=by
  show Ô;subst hP hw hK;show ì;let F:x.cps[i]? =Β:=atH hg;rcases q with e|e
  .rw[e] at st;exact wpAny_pyNext_ascii_end ă st F λh' eb=>⟨Á,I.turned (t':=s.toks) ϙ f0 f1 f3 f4 f5⟩
  .rw[e] at st;exact wpAny_pyNext_wide_end ă st F λh' eb=>⟨Á,I.turned (t':=s.toks) ϙ f0 f1 f3 f4 f5⟩
 self:=λA i s Q E st h=>by
  rcases q with e|e
  .rw[e] at st;exact wpAny_pyIter_striter_ascii st h
  .rw[e] at st;exact wpAny_pyIter_striter_wide st h
def afg(te:TE):TI:=λσ H R=>te σ H λv H1=>∃x,v=.str x/\R (Dc x) H1
def afh{X:Cx}{tg e:Expr}{te:TE}(F:ϥ te):PI X tg e (afg te):=by
 intro pins s σ H R I h;apply aQ (F pins s σ H _ I h) λv z ⟨y,H1,j,J,x,ex,q⟩=>?_;subst ex;let(t,rfl):=J;cases ha:x.cps.all (· <128)
 .exact wpAny_pyIter_wide ha (Gb (tk:=z.toks) j _ (Ut _ x t "str_iterator" Ép) ⟨_,ib _ Á,Á,Á⟩ q)
 .exact wpAny_pyIter_ascii ha (Gb (tk:=z.toks) j _ (Ut _ x t "str_ascii_iterator" ĝ) ⟨_,ib _ Á,Á,Á⟩ q)
theorem K2{κ:Type}{kvs:List (κ×V)}{vs:List (κ×Value)}(h:KV kvs vs):∀{i:Nat}{k:κ}{v:V},kvs[i]? =Α (k,v)->∃u,vs[i]? =Α (k,u)/\RelV v u:=by
 delta KV at h;induction h with
 |nil=>intro i k v e;simp at e
 | @cons a b l₁ l₂ r t ih=>
  intro i k v e;cases i with
  |zero=>
   simp only[atL,Option.some.injEq] at e;subst e;apply(b.2,?_,r.2);simp only[atL];exact cb some (Prod.ext r.1.symm Á)
  |succ j=>
   simp only[atN] at e⊢;exact ih e
def Uu(h:rN k u=true):RelV (kV k) u:=by
 rcases tG h with ⟨i,t,rfl,rfl⟩|⟨x,t,rfl,rfl⟩
 .exact(t,Á)
 .exact(t,Á)
section
variable{X:Cx}{pins:cf}{σ:St}{H:Hp}{s:Sh}{d:Addr}{o:Obj}
def Inv.Av(I:Ã H s)(h:H d=Α ϯ):
  (d==sysModules)=false/\s.U d=Α o/\o.ExactDict/\∃(es:Array DictEntry)(ep:Nat)(vs:List (Key×Value)),o.data=.dict es ep/\es.u=kvs.L/\KV kvs vs/\s.H.DictAt Č d vs ep:=by
 let(hd,z,hs,vs,kv,O,es,ep,j,q,M,r):=I.aE d _ h;rw[hd] at j;cases j;apply(hs,hd,q,es,ep,vs,M,?_,kv,o,es,hd,q,M,r);let F:=r.2.1.L;let J:kvs.L=vs.L:=Paired.length kv;symm
end
def Dd(d:Addr)(o:Obj)(kvs:List (Key×V)):It:=
 ⟨λi H=>H d=Α ϯ/\i<kvs.L,λi H x H'=>H'=H/\∃k,kvs[i]? =Α (k,x),λi H=>H d=Α ϯ/\kvs.L<=i⟩
def xj(d:Addr)(o:Obj)(kvs:List (Key×V)):It:=
 ⟨λi H=>H d=Α ϯ/\i<kvs.L,λi H x H'=>∃T k v,kvs[i]? =Α (k,v)/\x=.ref T/\H T=Β/\H'=upd H T Èi,λi H=>H d=Α ϯ/\kvs.L<=i⟩
def Gc{o:Obj}{es j:Array DictEntry}{ep q:Nat}(h:o.data=.dict es ep)(h':o.data=.dict j q):j=es/\q=ep:=by
 symm
section
variable{P:Pg}{w:Wd}{K:FR}{tg:Expr}{d:Addr}{o:Obj}{es:Array DictEntry}{ep:Nat}
def afi{kvs:List (Key×V)}(it:Addr)(J:o.data=.dict es ep):Turn P w K tg (Dd d o kvs) [it] it (λi h=>h.IsValIter it d i kvs.L ep) where
 mem:=by simp
 obj:=λi h st b j=>by
  let e:b=it:=À j
  subst e;let(O,e,c,dd):=st;exact(O,e,λv z=>by rw[dd] at z;cases z)
 keep:=λi h h' st k=>st.at λO e=>k it Ä O e
 item:=by
  show Ô;subst hP hw hK;let(hd,hi):=hg;show ì;let(hs,Z,hx,pH,tI,vs,M,hsz,kv,F):=I.Av hd;let(rfl,rfl):=Gc J M;obtain⟨⟨k,v⟩,U⟩:∃p,kvs[i]? =Α p:=⟨kvs[i],cJ hi⟩;let(u,hu,ru):=K2 kv U;let q:kvs.L=vs.L:=Paired.length kv;rw[q] at st;apply wpAny_pyNext_values_item st F hu λh' W sb=>?_;let I1:Ã H {s with heap:=h'}:=I.turned (t':=s.toks) (λb Y j e=>(sb.2 b j).R e) f0 f1 f3 f4 f5;let(O,e,c,dd):=id W;apply(u,Á,FJ (s:={s with heap:=h'}) e c dd Ð ⟨v,H,I1,ru,⟨Á,k,U⟩,?_,λb j=>(hf b j).1⟩);show h'.IsValIter it d (i+1) kvs.L _;rw[q];exact W
 done:=by
  show Ô;subst hP hw hK;let(hd,hi):=hg;show ì;let(hs,Z,hx,pH,tI,vs,M,hsz,kv,F):=I.Av hd;let(rfl,rfl):=Gc J M;let q:kvs.L=vs.L:=Paired.length kv;rw[q] at st;exact wpAny_pyNext_values_end ă st F (yl Å) λh' eb=>⟨Á,I.turned (t':=s.toks) (λb Y j e=>eb b Y j e) f0 f1 f3 f4 f5⟩
 self:=λA i s Q E st h=>wpAny_pyIter_valiter st h
def Gd{X:Cx}{fp:LA}(st:∀b∈fp,∃o,s.U b=Α o/\∀v,o.data≠ .cell v)(z:∀b∈fp,ň H b){q:Heap}{t':Nat}{x y:V}{u v:Value}(k:∀b o,b∉fp->s.U b=Α o->q.I b=Α o)(I:Ã H s)(F:q.I s.Z=Α {cls:=.type "tuple",data:=.seq #[u,v]}) (J:RelV x u) (M:RelV y v):Ã (ĕ Çx) {s with heap:=q,toks:=t'}/\∀b∈fp,(ĕ Çx) b=Β:=
 ⟨I.afc k z (bC _) ⟨by show 2<=sizeLine;decide,[u,v],.cons J (.cons M .nil),_,F,rfl,_,rfl⟩,λb j=>by
  let(o,e,_):=st b j;rw[aA Èq];exact(z b j).1⟩
def Uv(st:∃ok O,IsItemIter h it d i n ep ok O):∀b∈[it],∃o,h.I b=Α o/\∀v,o.data≠ .cell v:=λb j=>by
 obtain rfl:b=it:=À j
 let(ok,O,e):=st;exact(_,e,λv z=>nomatch z)
def afj{kvs:List (Key×V)}{oq:List Expr}{kk:Nat}{nO:Pos}(it:Addr)(Y:o.data=.dict es ep):
  Turn P w K Ĵ (xj d o kvs) [it] it (λi h=>∃ok q,IsItemIter h it d i kvs.L ep ok q) where
 mem:=by simp
 obj:=λi h=>Uv
 keep:=λi h h' st k=>let ⟨ok,q,e⟩:=st;⟨ok,q,k it Ä _ e⟩
 item:=by
  show Ô;subst hP hw hK;let(hd,hi):=hg;let(hs,Df,hx,pH,tI,vs,U,hsz,kv,J):=I.Av hd;let(rfl,rfl):=Gc Y U;obtain⟨⟨k,v⟩,Z⟩:∃p,kvs[i]? =Α p:=⟨kvs[i],cJ hi⟩;let(u,hu,ru):=K2 kv Z;let F:kvs.L=vs.L:=Paired.length kv;let O:=Uv st;let(ok,q,j):=st;rw[F] at j;let bQ:it<s.Z:=di j;apply wpAny_pyNext_items_item j J hu λM h' Ku ho hT hz hk=>?_;apply(_,Á,wpAny_letOwnedTupleGo_items (s:={s with heap:=h'}) ho λqJ jO sb=>?_);let vF:qJ.I s.Z=Α {cls:=.type "tuple",data:=.seq #[M,u]}:=(sb.2 _ (u6 bQ)).R hT;let ⟨I1,n1⟩:=Gd (t':=s.toks) O hf (λb O z e=>(sb.2 b (À z)).R (hk b O (À z) e)) I vF (Uu (show rN k M=true from Ku)) ru;exact(.ref s.Z,_,I1,Á,⟨_,k,v,Z,Á,I.aE.fresh (bC _),Á⟩,⟨M,u,by rw[F];exact jO⟩,n1)
 done:=by
  show Ô;subst hP hw hK;let(hd,hi):=hg;show ì;let(hs,Df,hx,pH,tI,vs,U,hsz,kv,J):=I.Av hd;let(rfl,rfl):=Gc Y U;let F:kvs.L=vs.L:=Paired.length kv;let(ok,q,j):=st;rw[F] at j;exact wpAny_pyNext_items_end ă j J (yl (by omega)) λh' eb=>⟨Á,I.turned (t':=s.toks) (λb O z e=>eb b O z e) f0 f1 f3 f4 f5⟩
 self:=λA i s Q E st h=>let ⟨_,_,e⟩:=st;PySem.W.kcp_self e h
end
def afk(td:TE):TI:=λσ H R=>td σ H λx H1=>∃d o kvs,x=.ref d/\H1 d=Α ϯ/\R (Dd d o kvs) H1
def afl(td:TE):TI:=λσ H R=>td σ H λx H1=>∃d o kvs,x=.ref d/\H1 d=Α ϯ/\R (xj d o kvs) H1
section
variable{X:Cx}{tg e:Expr}{td:TE}{jg gH:Pos}
def afm(O:ϥ td)(Y:attributeBase e "values" X.env Àm=eval e X.env:=by rfl)(Z:(jg.endLine==gH.line)=true:=by rfl):PI X tg (.Call (.Attribute e "values" jg) [] [] gH) (afk td):=by
 intro pins s σ H R I h;apply JJ (T:="dict") (id:="dict.values") Y Á Z F.plainAttrs_dict F.slot_dict_values F.type_dict_values (aQ (O pins s σ H _ I h) λu j ⟨x,H1,J,W,d,o,kvs,ex,hd,q⟩=>?_);subst ex;obtain rfl:u=Value.ref d:=W;let(hs,Df,hx,es,ep,vs,U,hsz,kv,z):=J.Av hd;let hl:kvs.L=vs.L:=Paired.length kv;apply(z.dictOf.typeIs,z.dictOf.mapOf.noDict,?_);let M:Ã H1 {j with heap:=j.o {cls:=.type "dict_values",data:=.fields #[.ref d]}}:=J.kept (t':=j.toks) λb ob q=>dv _ q;let fin:wpAny È X.A (pyIter (.ref j.Z)) Åj X.xe {j with heap:=j.o {cls:=.type "dict_values",data:=.fields #[.ref d]}}:=by
  apply wpAny_pyIter_values (d:=d) (knd:=fA X.prog X.w) ⟨_,ib _ Á,Á,Á⟩ (z.push _) (Gb (tk:=j.toks) M _ (afi _ U) ⟨_,ib _ Á,Á,?_⟩ q);symm
 show wpAny _ _ (callWith gH (.builtin "dict.values") [.ref d] [] []) _ X.xe j;exact method_meetsIn F.slot_dict_values F.entry_dict_values Á (PySem.evalArgs_none ⟨Á,z.dictOf.typeIs,F.args_dict_values_1 _,_,meets_dict_values Č d hs,⟨vs,z.dictOf⟩,fin⟩)
def Uw{oq:List Expr}{kk:Nat}{nO:Pos}(O:ϥ td)(Z:attributeBase e "items" X.env Àm=eval e X.env:=by rfl)(yD:(jg.endLine==gH.line)=true:=by rfl):
  PI X Ĵ (.Call (.Attribute e "items" jg) [] [] gH) (afl td):=by
 intro pins s σ H R I h;apply JJ (T:="dict") (id:="dict.items") Z Á yD F.plainAttrs_dict F.slot_dict_items F.type_dict_items (aQ (O pins s σ H _ I h) λu j ⟨x,H1,J,Y,d,o,kvs,ex,hd,q⟩=>?_);subst ex;obtain rfl:u=Value.ref d:=Y;let(hs,Df,hx,es,ep,vs,W,hsz,kv,z):=J.Av hd;let U:kvs.L=vs.L:=Paired.length kv;apply(z.dictOf.typeIs,z.dictOf.mapOf.noDict,?_);let M:Ã H1 {j with heap:=j.o {cls:=.type "dict_items",data:=.fields #[.ref d]}}:=J.kept (t':=j.toks) λb ob q=>dv _ q;let fin:wpAny È X.A (pyIter (.ref j.Z)) (Cr X pins σ Ĵ R) X.xe {j with heap:=j.o {cls:=.type "dict_items",data:=.fields #[.ref d]}}:=by
  apply wpAny_pyIter_items (d:=d) (knd:=fA X.prog X.w) ⟨_,ib _ Á,Á,Á⟩ (z.push _) (Gb (tk:=j.toks) M _ (afj _ W) ⟨.none,.none,?_⟩ q);rw[U];exact ib _ Á
 show wpAny _ _ (callWith gH (.builtin "dict.items") [.ref d] [] []) _ X.xe j;exact method_meetsIn F.slot_dict_items F.entry_dict_items Á (PySem.evalArgs_none ⟨Á,z.dictOf.typeIs,F.args_dict_items_1 _,_,meets_dict_items Č d hs,⟨vs,z.dictOf⟩,fin⟩)
end
def xk(K:FR)(a:Addr):It:=
 ⟨λi H=>∃(xs:az)(x:V),ä a xs/\xs[i]? =Α x,λi H v H'=>∃T x,v=.ref T/\H T=Β/\H'=upd H T (.tup [.int (i:Nat),x])/\∀xs,ä a xs->xs[i]? =Α x,λi H=>∃xs:az,ä a xs/\xs.L<=i⟩
def Ge{e j:Addr}{Z:Prop}(st:(∃J,IsEnum h e j c J)/\(∃o,h.I j=Α o/\o.cls=C/\o.data=.fields vs)/\Z):∀b∈[e,j],∃o,h.I b=Α o/\∀v,o.data≠ .cell v:=λb F=>by
 let((J,M),(o,O,hc,hd),_):=st;let z:b=e\/b=j:=À F
 rcases z with rfl|rfl
 .exact(_,M,λv q=>nomatch q)
 .exact(o,O,λv q=>by rw[hd] at q;cases q)
def afn{P:Pg}{w:Wd}{K:FR}{oq:List Expr}{kk:Nat}{nO:Pos}(a e it:Addr):
  Turn P w K Ĵ (xk K a) [e,it] e (λi h=>(∃J,IsEnum h e it ((i:Nat):Int) J)/\h.IsListIter it a i/\e≠it) where
 mem:=by simp
 obj:=λi h=>Ge
 keep:=λi h h' st k=>let ⟨⟨J,j⟩,hi,aN⟩:=st;⟨⟨J,k e Ä _ j⟩,hi.at λo q=>k it Ä o q,aN⟩
 item:=by
  show Ô;subst hP hw hK;let W:=Ge st;let((J,j),U,aN):=st;let(xs,x,M,O):=hg;let(ak,Y,p,hz):=I.list M;let(u,hu,ru):=Y.get O;let K3:e<s.Z:=di j;apply wpAny_pyNext_enum_item j U p.isList (x:=u) (À hu) aN λh' ho J4 hT hsz hk=>?_;apply(_,Á,atR (s:={s with heap:=h',toks:=s.toks+1}) ho λqJ jO Z=>?_);let vF:qJ.I s.Z=Α {cls:=.type "tuple",data:=.seq #[.int i s.toks,u]}:=(Z.2 _ (u6 K3)).R hT;let ⟨I1,n1⟩:=Gd (x:=.int (i:Nat)) (t':=s.toks+1) W hf (λb W F q=>(Z.2 b (λz=>F (by simp[z]))).R (hk b W (λz=>F (by simp[z])) (λz=>F (by simp[z])) q)) I vF ⟨_,rfl⟩ ru;exact(.ref s.Z,_,I1,Á,⟨_,x,Á,I.aE.fresh (bC _),Á,λys hy=>by rw[I.Co hy M];exact O⟩,⟨⟨u,by rw[show((i+1:Nat):Int)=(i:Int)+1 by rfl];exact jO⟩,J4.at λo q=>(Z.2 it Æc).R q,aN⟩,n1)
 done:=by
  show Ô;subst hP hw hK;let((J,j),U,aN):=st;let(xs,M,O):=hg;let(ak,Y,p,hz):=I.list M;show ì;let hl:=Y.L;exact wpAny_pyNext_enum_end ă j U p.isList (by simp;omega) λh' eb=>⟨Á,I.turned (t':=s.toks) (λb o F q=>eb b o F q) f0 f1 f3 f4 f5⟩
 self:=λA i s Q E st h=>let ⟨⟨_,j⟩,_⟩:=st;RN j h
def afo(K:FR)(ta:TA):TI:=λσ H R=>ta σ H λvs H1=>∃a xs,vs=[.ref a]/\aa K H1 a xs/\R (xk K a) H1
def jP(hg:Gl X "enumerate")(hm:X.mg "enumerate"=Β)(J:PA X [e] ta)(hs:starEach [e] X.env=[(false,eval e X.env)]:=by rfl):
  PI X Ĵ (.Call (.Name "enumerate" p) [e] [] pos) (afo X.K ta):=by
 intro pins s σ H R I h;apply Call_ (Àq boot_enumerate (Fh (aQ (J pos pins s σ H _ I h) λus j ⟨vs,H1,I1,Z,Y⟩=>?_) hs Á));let(a,xs,ex,O,q):=Y;subst ex;cases Z with
 |cons r rr=>
  cases rr;cases r;let(ak,rv,W,hz):=I1.list O;apply call_enumerate_list W.isList λh' z U hsz hk=>RN z ?_;let F:Ã H1 {j with heap:=h'}:=I1.kept (t':=j.toks) hk;apply(j.Z+1,[j.Z+1,j.Z],_,_,H1,Á,F,afn a (j.Z+1) j.Z,⟨⟨.none,z⟩,U,Nat.succ_ne_self _⟩,λb M=>?_,q);let e':b=j.Z+1\/b=j.Z:=À M
  let lY:j.Z<=b:=by
   grind
  exact I1.wQ lY Çv
def afp:bootBuiltins "zip"=Α (.type "zip"):=by decide+kernel
def Dh(K:FR)(a b:Addr):It:=
 ⟨λi H=>∃(xs ys:az)(x y:V),ä a xs/\ä b ys/\xs[i]? =Α x/\ys[i]? =Α y,
  λi H v H'=>∃T x y,v=.ref T/\H T=Β/\H'=upd H T Çx/\(∀xs,ä a xs->xs[i]? =Α x)/\∀ys,ä b ys->ys[i]? =Α y,
  λi H=>∃xs ys:az,ä a xs/\ä b ys/\(xs.L<=i\/ys.L<=i)⟩
def Ux{z TI TO j F:Addr}(st:IsZip h z TI TO .none/\IsPair h TI (.ref j) (.ref F)/\(∃x y,IsPair h TO x y)/\h.IsListIter j a i/\h.IsListIter F b i):∀b∈[z,TI,TO,j,F],∃o,h.I b=Α o/\∀v,o.data≠ .cell v:=λc hc=>by
 let(hz,tW,(x,y,vG),(Y,U,_,J),(Z,W,_,M)):=st;let O:c=z\/c=TI\/c=TO\/c=j\/c=F:=À hc
 rcases O with rfl|rfl|rfl|rfl|rfl
 .exact(_,hz,λv q=>nomatch q)
 .exact(_,tW,λv q=>nomatch q)
 .exact(_,vG,λv q=>nomatch q)
 .exact(Y,U,λv q=>by rw[J] at q;cases q)
 .exact(Z,W,λv q=>by rw[M] at q;cases q)
def afq{P:Pg}{w:Wd}{K:FR}{oq:List Expr}{kk:Nat}{nO:Pos}{a b z TI TO J M:Addr}(D:ZipApart z TI TO J M a b):
  Turn P w K Ĵ (Dh K a b) [z,TI,TO,J,M] z (λi h=>IsZip h z TI TO .none/\IsPair h TI (.ref J) (.ref M)/\(∃x y,IsPair h TO x y)/\h.IsListIter J a i/\h.IsListIter M b i) where
 mem:=by simp
 obj:=λi h=>Ux
 keep:=λi h h' st k=>by
  let(hz,U,(x,y,Y),W,h2):=st;exact(k z Ä _ hz,k TI Ä _ U,⟨x,y,k TO Ä _ Y⟩,W.at λo q=>k J Ä o q,h2.at λo q=>k M Ä o q)
 item:=by
  show Ô;subst hP hw hK;let ob:=Ux st;let(hz,U,(x0,y0,Y),W,h2):=st;let(xs,ys,x,y,Z,Ax,hx,hy):=hg;let(ak,rv,p,_):=I.list Z;let(oC,Ay,p2,_):=I.list Ax;let(u,hu,ru):=rv.get hx;let(u2,KJ,KL):=Ay.get hy;let sj:z<s.Z:=di hz;apply wpAny_pyNext_zip_item D hz U Y W h2 p.isList p2.isList (x:=u) (y:=u2) (À hu) (À KJ) λh' z' TO' K4 h2' hT hsz hk=>?_;apply(_,Á,wpAny_letOwnedTupleGo_zip (s:={s with heap:=h'}) z' λqJ z'' O=>?_);let vF:qJ.I s.Z=Α {cls:=.type "tuple",data:=.seq #[u,u2]}:=(O.2 _ (u6 sj)).R hT;let ⟨I1,n1⟩:=Gd (t':=s.toks) ob hf (λc o F q=>(O.2 c (λj=>F (by simp[j]))).R (hk c o (λj=>F (by simp[j])) (λj=>F (by simp[j])) (λj=>F (by simp[j])) (λj=>F (by simp[j])) q)) I vF ru KL;exact(.ref s.Z,_,I1,Á,⟨_,x,y,Á,I.aE.fresh (bC _),Á,λl hl=>by rw[I.Co hl Z];exact hx,λl hl=>by rw[I.Co hl Ax];exact hy⟩,⟨z'',(O.2 _ D.TIz).R (hk _ _ D.TIz D.TITO D.TIi1 D.TIi2 U),⟨u,u2,(O.2 _ D.TOz).R TO'⟩,K4.at λo q=>(O.2 _ D.i1z).R q,h2'.at λo q=>(O.2 _ D.i2z).R q⟩,n1)
 done:=by
  show Ô;subst hP hw hK;let(hz,U,(x0,y0,Y),W,h2):=st;let(xs,ys,Z,Ax,afu):=hg;let(ak,rv,p,_):=I.list Z;let(oC,Ay,p2,_):=I.list Ax;let l1:=rv.L;let l2:=Ay.L;let he:ak.toArray[i]? =Β\/oC.toArray[i]? =Β:=by
   rcases afu with q|q
   .exact .inl (by simp;symm)
   .exact .inr (by simp;symm)
  exact wpAny_pyNext_zip_end ă D hz U Y W h2 p.isList p2.isList he λh' hk=>⟨Á,I.afb (t':=s.toks) (ch:=[z,TI,TO,J,M]) (λc o F q=>
   hk c o (λj=>F (by simp[j])) (λj=>F (by simp[j])) (λj=>F (by simp[j])) (λj=>F (by simp[j])) q) hf⟩
 self:=λA i s Q E st h=>wpAny_pyIter_zip st.1 h
def afv(K:FR)(ta:TA):TI:=λσ H R=>ta σ H λvs H1=>∃a b xs ys,vs=[.ref a,.ref b]/\aa K H1 a xs/\aa K H1 b ys/\R (Dh K a b) H1
def Uy{X:Cx}{e z:Expr}{ta:TA}{p pos nO:Pos}{oq:List Expr}{kk:Nat}(hg:Gl X "zip")(hm:X.mg "zip"=Β)(ha:PA X [e,z] ta)(hs:starEach [e,z] X.env=(false,eval e X.env)::starEach [z] X.env:=by rfl) (Y:(backTo pos (starEach [z] X.env)).any (·.1)=false:=by rfl):
  PI X Ĵ (.Call (.Name "zip" p) [e,z] [] pos) (afv X.K ta):=by
 intro pins s σ H R I h;apply Call_ (Àq afp (Fh (aQ (ha pos pins s σ H _ I h) λus j ⟨vs,H1,I1,r1,q1⟩=>?_) hs Y));let(a,b,xs,ys,ex,M,O,q):=q1;subst ex;cases r1 with
 |cons r F=>
  cases F with
  |cons r' F=>
   cases F;cases r;cases r';let(ak,rv,J,_):=I1.list M;let(oC,Ay,p2,_):=I1.list O;let la:a<j.Z:=J.lt;let lb:b<j.Z:=p2.lt;apply call_zip_2 J.isList p2.isList λh' hz tW vG Z h2 hsz hk=>wpAny_pyIter_zip hz ?_;let U:Ã H1 {j with heap:=h'}:=I1.kept (t':=j.toks) hk;apply(j.Z+4,[j.Z+4,j.Z+2,j.Z+3,j.Z,j.Z+1],_,_,H1,Á,U,afq (PySem.W.ktu_apart j.Z a b la lb),⟨hz,tW,⟨_,_,vG⟩,Z,h2⟩,λc qK=>?_,q);let e':c=j.Z+4\/c=j.Z+2\/c=j.Z+3\/c=j.Z\/c=j.Z+1:=À qK
   let lY:j.Z<=c:=by
    grind
   exact I1.wQ lY Çv
end L2
namespace Bits
open PySem PyProof.Rows
end Bits
namespace TL
open PySem PySem.Builtin PySem.Builtin.Str PySem.StrLaws
end TL
namespace L2
open PySem PySem.Spec PyProof.Rows
section
variable{X:Cx}{pins:cf}{σ:St}{H:Hp}{s:Sh}{Q:VK}
end
end L2
namespace Att
open PySem PySem.W PySem.Calls PyProof.Rows
end Att
namespace L2
open PySem PySem.Spec PyProof.Rows
abbrev aF:oy:=λ_ _ _ _ _ _=>False
abbrev E0:XK:=λ_ _ _=>False
def tX:vx aF X E0:=λ_ _ _ _ _ _ _ h=>h.elim
structure bu(K:FR)(x d9:Str)(st:Stmt)(f:Addr)(fd:FD):Prop where
 ex:∃(oc:Value)(od:OA)(kV jC pm:Value)(an:OA)(aK ct:Value)(pC:AO),
  fd=PySem.W.fnOf x d9 (ve st) Çe Âj .none kV jC pm an aK ct/\K.Q f=Α ⟨oc,od,.func fd,pC⟩/\PySem.W.codeIn K aK d9=true
 kp:PySem.W.keepIn K ď=true
section
variable{P:Pg}{w:Wd}{K:FR}{mg:MG}{base:Heap}
def bu.ok{x z:Str}{st:Stmt}{f:Addr}{fd:FD}{N ps:LS}{k:Nat}{sp:Sp}(F:bu K x z st f fd)(S:bG N ps Âj)(J:∀(j:Value)(A:Around)(outer:List Env)(s:Sh)(H:Hp)(vs:az)(Q:VK)(E:XK),eT k (A.deeper (envOfC z Âj s.Z f j))->sp vs H Q E->
   ∃t,l7 (oA aF P w K mg base N z Âj f j A outer s H E).yw Çe t/\t {nx:=λ_ H'=>Q .aP H',rt:=Q} Âq H) (len:∀vs H Q E,sp vs H Q E->vs.L=ps.L:=by intro _ _ _ _ h;first|(cases h;subst_vars;rfl)|(repeat first|(let(rfl,_):=h;rfl)|let(_,h):=h)):Ë (k+1) f fd ps sp:=by
 let(Y,od,kV,W,pm,U,j,ct,Z,rfl,lk,O):=F.ex;apply S2 lk O S len λA outer s H vs Q E hr M=>?_;let(t,h,q):=J j A outer s H vs Q E hr M;exact(t,h.yw,q)
def bu.binds{x d9:Str}{st:Stmt}{f:Addr}{fd:FD}{ps:LS}(F:bu K x d9 st f fd)(h:∀(kV jC pm:Value)(an:OA)(aK ct:Value)(us:LV),us.L=ps.L->bindArgs Ġ ⟨us,[]⟩=pure Às):Binds K fd ps []:=by
 let(O,od,kV,jC,pm,an,aK,ct,q,rfl,lk,j):=F.ex;exact .all (h kV jC pm an aK ct)
def nP{x d9:Str}{st:Stmt}{f:Addr}{O:Value}{od an:OA}{j:AO}{kV jC pm aK ct:Value}(l:K.Q f=Α ⟨O,od,.func Ġ,j⟩)(c:PySem.W.codeIn K aK d9=true) (k:PySem.W.keepIn K ď=true):bu K x d9 st f Ġ:=⟨⟨O,od,kV,jC,pm,an,aK,ct,j,rfl,l,c⟩,k⟩
end
def xl(hr:eT k A):A.units+1<cLine:=qz (abc (by decide:1<=64) _) hr.units
def pv(i:Nat)(j:X.N[i]? =Α x:=by rfl)(q:yq X.env.scope x:=by first|exact Or.inl Á|exact Or.inr (Or.inl Á)|exact Or.inr (Or.inr Á))(hd:(x==("__debug__":Str))=false:=by decide)(z:(x==("__classdict__":Str))=false:=by decide):PE X Àc (ay i):=Ss j q hd z
def oH{A B:Prop}(h:B):if false=true then A else B:=by
 symm
def lr{A B:Prop}(h:A):if true=true then A else B:=by
 symm
def a7{c A B:Prop}[Decidable c](j:c->A)(h2:¬c->B):if c then A else B:=by
 symm
def aj(H H':Hp):Prop:=∀b o,H b=Α o->H' b=Α o
def aj.refl(H:Hp):aj H H:=λ_ _ h=>h
def aj.trans(a:aj H H1)(b:aj H1 H2):aj H H2:=λc o h=>b c o (a c o h)
theorem aj.free(e:aj H H')(h:H' l=Option.none):H l=Option.none:=by
 cases q:H l with
 |none=>rfl
 |some o=>
  rw[e l o q] at h;cases h
def aj.seq{K:FR}{H H':Hp}{a:Addr}{xs:az}(e:aj H H')(h:ä a xs):aa K H' a xs:=by
 rcases h with (h|⟨o,h⟩)|h
 .exact .inl (.inl (e _ _ h))
 .exact .inl (.inr ⟨o,e _ _ h⟩)
 .exact .inr h
section
variable{κ:Type}[DecidableEq κ]
theorem K5{l:List κ}:∀{k:κ},l.Nodup->¬k∈l->(l++[k]).Nodup:=by
 induction l with
 |nil=>
  intro k _ _;simp
 |cons a r z=>
  intro k h hk;let(j,h2):=kZ.mp h;show(a::(r++[k])).Nodup;apply kZ.mpr ⟨λm=>?_,z h2 λm=>hk (a9.mpr (Or.inr m))⟩;rcases fw.mp m with q|q
  .exact j q
  .exact hk (a9.mpr (Or.inl (iT.mp q).symm))
end
def aj.made(nx:H x=Option.none)(nd:H dx=Option.none)(k:∀b o,(upd (upd H dx Åu) x Âx) b=Α o->b≠x->H1 b=Α o):aj H H1:=λb o e=>
 k b o (by rw[aA (eS e nx),aA (eS e nd)];exact e) (eS e nx)
end L2
namespace L2
open PySem PySem.Spec PyProof.Rows PySem.XL
def one(x:Addr)(P:Obj->Prop):HO:=.ext λh=>∃o,h.I x=Α o/\P o
def tY(e:h.I x=Α o)(p:P o):gv Pr w H h x (one x P):=
 ⟨⟨o,e,p⟩,⟨o,e⟩,λ_ _ ⟨o,e,p⟩ k=>⟨o,k o e,p⟩⟩
def qL(aE:fc Pr w H h)(e:H x=Α (one x P)):∃o,h.I x=Α o/\P o:=(aE x _ e).1
def K6(C:Addr)(od:OA)(j:Value)(o:Obj):Prop:=o.cls=.ref C/\o.dict=od/\∃vs,o.data=.fields vs/\vs[1]? =Α j
def exc(C:Addr)(od:OA)(j:Value)(x:Addr):HO:=one x (K6 C od j)
def Uz(fl:Value)(o:Obj):Prop:=∃ts,o.data=.fields ts/\ts[3]? =Α fl
def ent(fl:Value)(T:Addr):HO:=one T (Uz fl)
def vH(d:Addr)(fs:List (Str×V)):HO:=.ext λh=>∃mA,h.Ns1 d mA/\(∀f,k9 Át (mA f))/\Within mA (fs.M (·.1))/\fs.L<=1000
def UA(n:h.Ns1 d mA)(r:∀f,k9 Át (mA f))(W:Within mA (fs.M (·.1)))(l:fs.L<=1000):gv Pr w H h d (vH d fs):=by
 apply(⟨mA,n,r,W,l⟩,?_,λj h2 ⟨m,n,r⟩ k=>⟨m,n.at k,r⟩);let(o,_,_,e,_):=n;symm
def afw(aE:fc Pr w H h)(e:H d=Α (vH d fs)):∃mA,h.Ns1 d mA/\(∀f,k9 Át (mA f))/\Within mA (fs.M (·.1))/\fs.L<=1000:=(aE d _ e).1
abbrev vI:LV:=[.type "Exception",.type "BaseException",.type "object"]
inductive UB(K:FR)(C N:Addr):Prop
 |mk (od:OA) (nm qn:Str) (bs sub:LV) (sn:LS) (ab:Bool) (col:Option Bool) (e0 e1 e2 e3 e5:Option Value) (_:K.Q C=Α ⟨.type "type",od,.cls ⟨nm,bs,.ref C::vI,N,qn,true,sn,sub,ab,col,false⟩,#[e0,e1,e2,e3,some (.builtin "Exception.__new__"),e5]⟩) (_:PySem.W.nsOkIn K N=true)
structure XC(K:FR)(C N:Addr):Prop where
 cl:UB K C N
 ga:PySem.W.nsIn K N "__getattribute__"=Α none
 gt:PySem.W.nsIn K N "__getattr__"=Α none
 sa:PySem.W.nsIn K N "__setattr__"=Α none
structure Gf(K:FR)(N:Addr)(f:Str):Prop where
 own:PySem.W.nsIn K N f=Α none
 base:typeLookup (.type "Exception") f=pure none
def afx{K:FR}{h:Heap}{N:Addr}{mg:MG}{n:Str}{v:Value}(X:K.In h)(G:h.Ns N mg)(e:PySem.W.nsIn K N n=Α Åo):mg n=Α v:=by
 let(o,es,ep,z,hd,_,j):=G;delta PySem.W.nsIn at e;split at e
 .rename_i c d M J sl q;let:=X _ _ q;rw[z] at this;cases this;cases hd;split at e
  .rename_i y F;rw[<-j];ext nsFind findBy;symm
  .symm
 .cases e
def XC.obj{K:FR}{C N:Addr}(c:XC K C N):∃nm q bs sn sub ab col dd k0 k1 k2 k3 k5,∀h:Heap,K.In h->h.I C=Α (excClassObj nm q C N bs vI true sn sub ab col dd k0 k1 k2 k3 k5 "Exception.__new__")/\h.Ns N (h.nsMap N)/\
  h.nsMap N "__getattribute__"=Β/\h.nsMap N "__getattr__"=Β/\h.nsMap N "__setattr__"=Β:=by
 let(dd,nm,z,bs,sub,sn,ab,col,k0,k1,k2,k3,k5,j,aE):=c.cl;exact(nm,z,bs,sn,sub,ab,col,dd,k0,k1,k2,k3,k5,λh X=>⟨X _ _ j,.of_isNs (PySem.W.isNs_of_in X aE),PySem.W.nsMap_none_of_in X aE c.ga,PySem.W.nsMap_none_of_in X aE c.gt,PySem.W.nsMap_none_of_in X aE c.sa⟩)
def UC(p:K6 C od tv o)(T:Addr):K6 C od ų (o.mapFields (·.setIfInBounds 1 ų)):=by
 let(F,h2,vs,j,J):=p;let z:=(BS.mp J).1;apply((aaV _ _).R F,?_,_,wC j _,by simp[z]);let(c,d,q,sl):=o;cases q <;> first|exact h2|cases j
def Gg(S:LA)(aE:ķ h)(same:∀b,b∉S->H2 b=H b)(J:∀b,b∈S->H b=Β\/∃φ,H b=Α (.ext φ)) (new:∀b,b∈S->∀u,H2 b=Α u->gv P w H2 h2 b u)(keep:∀b o u,H b=Α u->b∉S->h.I b=Α o->h2.I b=Α o):fc P w H2 h2:=λb u q=>by
 by_cases j:b∈S
 .symm
 .rw[same b j] at q;let F:∀c v,H c=Α v->(∀φ,v≠ .ext φ)->c∉S:=λc v e ne z=>by
   grind
  apply(aE b u q).rO (λc v hc g=>?_) (λc e=>?_) λc xs e=>?_
  .grind
  .symm
  .symm
def Gh{fs:LA}{H J:Hp}{h h2:Heap}(S:LA)(same:∀b,b∉S->J b=H b)(U:∀b,b∈S->(H b=Β/\h.I b=Β)\/∃φ,H b=Α (.ext φ))(keep:∀b o,b∉S->b∉fs->h.I b=Α o->h2.I b=Α o) (slot:∀b o,b∉S->b∈fs->h.I b=Α o->∃sl,h2.I b=Α {o with slots:=sl})(there:∀b,b∈S->∀o,h.I b=Α o->∃O,h2.I b=Α O):Un fs [] H J h h2:=by
 let q:∀b o,h.I b=Α o->H b=Β->b∉S:=λb o e n z=>by
  grind
 let j:∀c v,H c=Α v->(∀φ,v≠ .ext φ)->c∉S:=λc v e ne z=>by
  grind
 apply⟨λb o e n F _=>keep b o (q b o e n) F e,λb o e n F _=>slot b o (q b o e n) F e,λb o e n _=>by rw[same b (q b o e n)];exact n,λb o e _=>?_,
  λb xs e=>by rw[same b (j b _ e (λφ z=>by cases z))];exact e,λb o u e=>by rw[same b (j b _ e (λφ z=>by cases z))];exact e,λb ps e=>⟨#[],by rw[same b (j b _ e (λφ z=>by cases z)),e];simp⟩⟩
 by_cases M:b∈S
 .symm
 .grind
def Kp(a:Addr)(H0 H:Hp):Prop:=∀b o,H0 b=Α o->b≠a->H b=Α o
def K8(H0:Hp)(a C:Addr)(od:OA)(H:Hp):Prop:=∃j,H a=Α (exc C od j a)/\Kp a H0 H/\(j=.none\/∃T fl,j=.ref T/\T≠a/\H0 T=Β/\H T=Α (ent fl T))
def sk(fl:Value)(H0:Hp)(a C:Addr)(od:OA)(H:Hp):Prop:=∃T,H a=Α Èg/\Kp a H0 H/\T≠a/\H0 T=Β/\H T=Α (ent fl T)
def sk.at_(f:sk fl H0 a C od H):K8 H0 a C od H:=
 let ⟨T,h1,h2,h3,h4,h5⟩:=f
 ⟨_,h1,h2,.inr ⟨T,fl,rfl,h3,h4,h5⟩⟩
def afy(h:e.frame=e'.frame):noteFrame x e=noteFrame x e':=by
 ext noteFrame PySem.frameOf;rw[h]
def t7{x:Addr}{P:Obj->Prop}{H:Hp}(e:H x=Α (one x P)):∃φ,H x=Α (.ext φ):=⟨_,e⟩
section
variable{X:Cx}{pins:cf}{σ:St}{H H0:Hp}{s:Sh}{A:Around}{E:VP}{a C:Addr}{od:OA}
def Gi{Q:Unit->Shared->Prop}{env en:Env}{outer:List Env}{L:Addr}(rV:X.stack=env::outer)(U:env.frame=Α L)(yK:en.frame=Α L)(hA:A.frames=Α X.stack)(I:Ã H s)(f:K8 H0 a C od H)(k:∀s' H',Ã H' s'->sk Çb H0 a C od H'->Q () s'):wpAny È A (noteFrame ħ en) Q E s:=by
 rw[afy (yK.R U.symm)];let(tv,j,kp,f):=f;let(o,ge,pe):=qL I.aE j;let(q1,q2,vs,q3,q4):=id pe;let ff:s.H.FunFrames X.base (env::outer):=by rw[<-rV];exact I.stack
 let Am:A.frames=Α (env::outer):=by rw[<-rV];exact hA
 let UD:pE X.stack=(env::outer).filterMap (·.frame):=by rw[rV];rfl
 rcases f with rfl|⟨T0,fl,rfl,h1,h2,F⟩
 .apply acd (z:=a) Am ff U ge q3 q4 λh' T n=>?_;rw[<-UD] at n;let M:=I.aE.fresh n.new;let gT:=Rz n.new;let Y:=UC pe T;let J:∀b,b∉[a,T]->(Ŵ) b=H b:=λb nb=>by
   let:b≠a/\b≠T:=À nb
   rw[aA this.2,aA this.1]
  let O:(Ŵ) T=Α ű:=au;let q:(Ŵ) a=Α Èg:=by rw[aA (eF n.ne),au]
  let(oT,ts,t1,t2,t3):=n.ent;let yL:H0 T=Β:=by
   cases e:H0 T with
   |none=>rfl
   |some u=>rw[kp T u e n.ne] at M;cases M
  apply k {s with heap:=h'} Ŵ (I.wN (s':={s with heap:=h'}) (ch:=[]) Á (Gh [a,T] J ē Ť Ť λb hb o g=>?_) (Gg [a,T] I.aE J ē Àd λb o u hb nb g=>?_) I.bare ļ)
   ⟨T,q,λb o e nb=>?_,n.ne,yL,O⟩
  .let:b=a\/b=T:=by simpa using hb
   rcases this with rfl|rfl
   .exact .inr (t7 j)
   .symm
  .let:b≠a/\b≠T:=by simpa using nb
   exact n.keep b o nf this.1 this.1 g
  .let:b≠a/\b≠T:=by simpa using nb
   exact n.slot b o nf this.1 this.1 g
  .let:b=a\/b=T:=by simpa using hb
   rcases this with rfl|rfl
   .exact(_,n.exc)
   .symm
  .let:b=a\/b=T:=by simpa using hb
   rcases this with rfl|rfl
   .exact .inr (t7 j)
   .symm
  .let:b=a\/b=T:=by simpa using hb
   rcases this with rfl|rfl
   .rw[q] at hu;cases hu;exact tY n.exc Y
   .rw[O] at hu;cases hu;exact tY t1 ⟨ts,t2,t3⟩
  .let:b≠a/\b≠T:=by simpa using nb
   exact n.keep b o (λz=>by rw[I.FA b z] at hb;cases hb) this.1 this.1 g
  .rw[aA (λz=>by simp_all),aA nb];exact kp b o e nb
 .cases W:(fl==rawInt L) with
  |false=>
   let(oz,gz,zs,Z,z3):=qL I.aE F;apply ace Am ff U ge q3 q4 gz Z z3 W h1 λh' T n tz kz=>?_;rw[<-UD] at n;let M:=I.aE.fresh n.new;let gT:=Rz n.new;let Y:=UC pe T;let J:∀b,b∉[a,T,T0]->(ç) b=H b:=λb nb=>by
    let:b≠a/\b≠T/\b≠T0:=À nb
    rw[aA this.2.1,aA this.1,aA this.2.2]
   let O:(ç) T=Α ű:=au;let q:(ç) a=Α Èg:=by rw[aA (eF n.ne),au]
   let hT0:(ç) T0=Α (ent .none T0):=by rw[aA (eF tz),aA h1];exact au
   let(oT,ts,t1,t2,t3):=n.ent;let(oz',zs',z1',z2',z3'):=kz;let yL:H0 T=Β:=by
    cases e:H0 T with
    |none=>rfl
    |some u=>rw[kp T u e n.ne] at M;cases M
   apply k {s with heap:=h'} ç (I.wN (s':={s with heap:=h'}) (ch:=[]) Á (Gh [a,T,T0] J ē Ť Ť λb hb o g=>?_) (Gg [a,T,T0] I.aE J ē Àd λb o u hb nb g=>?_) I.bare ļ)
    ⟨T,q,λb o e nb=>?_,n.ne,yL,O⟩
   .let:b=a\/b=T\/b=T0:=by simpa using hb
    rcases this with rfl|rfl|rfl
    .exact .inr (t7 j)
    .symm
    .exact .inr (t7 F)
   .let:b≠a/\b≠T/\b≠T0:=by simpa using nb
    exact n.keep b o nf this.1 this.2.2 g
   .let:b≠a/\b≠T/\b≠T0:=by simpa using nb
    exact n.slot b o nf this.1 this.2.2 g
   .let:b=a\/b=T\/b=T0:=by simpa using hb
    rcases this with rfl|rfl|rfl
    .exact(_,n.exc)
    .symm
    .symm
   .let:b=a\/b=T\/b=T0:=by simpa using hb
    rcases this with rfl|rfl|rfl
    .exact .inr (t7 j)
    .symm
    .exact .inr (t7 F)
   .let:b=a\/b=T\/b=T0:=by simpa using hb
    rcases this with rfl|rfl|rfl
    .rw[q] at hu;cases hu;exact tY n.exc Y
    .rw[O] at hu;cases hu;exact tY t1 ⟨ts,t2,t3⟩
    .rw[hT0] at hu;cases hu;exact tY z1' ⟨zs',z2',z3'⟩
   .let:b≠a/\b≠T/\b≠T0:=by simpa using nb
    exact n.keep b o (λz=>by rw[I.FA b z] at hb;cases hb) this.1 this.2.2 g
   .rw[aA (λz=>by simp_all),aA nb,aA (λz=>by simp_all)];exact kp b o e nb
  |true=>
   let W:=eq_of_beq W;subst W;let(oz,gz,zs,Z,z3):=qL I.aE F;exact wpAny_noteFrame_inFlight U ge q3 q4 gz Z z3 (k s H I ⟨T0,j,kp,h1,h2,F⟩)
def Dj{Q:Unit->Shared->Prop}{fl:Value}(fr:OA)(I:Ã H s)(f:sk fl H0 a C od H)(k:∀s' H',Ã H' s'->sk (fr.elim .none λf=>rawInt f) H0 a C od H'->Q () s'):wpAny È A (setFlight ħ fr) Q E s:=by
 let(T,U,kp,aN,Y,q):=f;let(o,W,q1,q2,vs,q3,q4):=qL I.aE U;let(oz,M,zs,j,z3):=qL I.aE q;let Z:3<zs.u:=(BS.mp z3).1;ext setFlight;apply aG (wD W q3 q4 ?_);rw[ai (show(Value.ref T !=Value.none)=true by simp)];apply Fe M j Z ?_;let F:∀b,b≠T->(s.H.update T (Obj.mapFields (·.setIfInBounds 3 (fr.elim .none λf=>rawInt f)))).I b=s.U b:=λb n=>kY _ _ (eF n);let J:(s.H.update T (Obj.mapFields (·.setIfInBounds 3 (fr.elim .none λf=>rawInt f)))).I T=_:=u7 _ M (Jz (wC j _));let pT:Uz (fr.elim .none λf=>rawInt f) (oz.mapFields (·.setIfInBounds 3 (fr.elim .none λf=>rawInt f))):=⟨_,wC j _,by simp[Z]⟩;let O:∀b,b∉[T]->(upd H T (ent (fr.elim .none λf=>rawInt f) T)) b=H b:=λb nb=>by
  let:b≠T:=À nb
  rw[aA this]
 apply k {s with heap:=s.H.update T (Obj.mapFields (·.setIfInBounds 3 (fr.elim .none λf=>rawInt f)))} (upd H T (ent (fr.elim .none λf=>rawInt f) T)) (I.wN (s':={s with heap:=s.H.update T (Obj.mapFields (·.setIfInBounds 3 (fr.elim .none λf=>rawInt f)))}) (ch:=[]) Á (Gh [T] O ē Ť Ť λb hb o g=>?_) (Gg [T] I.aE O ē Àd λb o u hb nb g=>?_) I.bare ļ)
   ⟨T,?_,λb o e nb=>?_,aN,Y,au⟩
 .let:b=T:=by simpa using hb
  subst this;exact .inr (t7 q)
 .let:b≠T:=by simpa using nb
  exact(F b this).R g
 .let:b≠T:=by simpa using nb
  exact(o.slots,(F b this).R g)
 .let:b=T:=by simpa using hb
  subst this;exact(_,J)
 .let:b=T:=by simpa using hb
  subst this;exact .inr (t7 q)
 .let:b=T:=by simpa using hb
  subst this;rw[au] at hu;cases hu;exact tY J pT
 .let:b≠T:=by simpa using nb
  exact(F b this).R g
 .rw[aA Æc];exact U
 .rw[aA (λz=>by rw[z,Y] at e;cases e)];exact kp b o e nb
end
def gy(P:Pg)(w:Wd):oy:=λouter H s E e s'=>∃a C od H0 H',e=.ref a/\s'.os=s.os/\AllBare s'.gens/\Un (pE outer) [] H H' s.H s'.H/\fc P w H' s'.H/\sk .none H0 a C od H'/\(∀d,od=Α d->d≠a)/\E Ĉ od H0
def Az(X:Cx)(E:XK)(e:Value)(s:Sh):Prop:=∃a C od H0 H σ,e=.ref a/\Inv X [] σ H s/\K8 H0 a C od H/\(∀d,od=Α d->d≠a)/\E Ĉ od H0
abbrev Cx.yM(X:Cx)(E:XK):Cx:=X.i6 (Az X E)
def Cx.Gk(X:Cx):Prop:=X.stack=X.env::X.outer/\X.env.frame=Α X.env.locals
def Inv.La(I:Ã H s):Inv X [] σ H s:=I.J8 λp j=>absurd j Ä
def so{X:Cx}{E:XK}:vx (gy X.prog X.w) (X.yM E) E:=λpins σ H s e s' I h=>by
 let(a,C,od,H0,H',j,q,F,J,M,O,U,W):=h;exact(a,C,od,H0,H',σ,j,(I.nE.wN (ch:=[]) q J M F ļ).La,O.at_,U,W)
def UE(O:X.Gk):PassesOwn È X.A X.env (Az X E):=λe s h=>by
 let(a,C,od,H0,H,σ,rfl,I,f,J,M):=h;apply Gi O.1 O.2 O.2 I.ok.frames I f λs' H' j F=>?_;let(T,W,_):=id F;let(o,U,q1,q2,vs,Z,q4):=qL j.aE W;apply aG (wD U Z q4 ?_);rw[ah (show ¬(Value.ref T==Value.none)=true from eO)];apply Dj X.env.frame j F λCz Y q z=>?_;exact(a,C,od,H0,Y,σ,Á,q,z.at_,J,M)
def yN{CX:oy}{P:Pg}{w:Wd}{K:FR}{mg:MG}{base:Heap}{N:LS}{d9:Str}{j:Scope}{f:Addr}{q:Value}{A:Around}{outer:List Env}{s:Sh}{H:Hp}{E:XK}:
  (Ķ j f q A outer s H E).Gk:=⟨rfl,rfl⟩
def afE{P:Pg}{w:Wd}{K:FR}{mg:MG}{base:Heap}{N:LS}{F:Str}{j:Scope}{f:Addr}{z:Value}{A:Around}{outer:List Env}{s:Sh}{H:Hp}{E:XK}{e:Value}{J:Sh}(h:Az (oA Ē P w K mg base N F j f z A outer s H E) E e J):(oA Ē P w K mg base N F j f z A outer s H E).xe e J:=by
 let(a,C,od,H0,H1,σ,rfl,I,f,U,W):=h;show wpAny _ _ (leaving _ _) _ _ J;ext leaving;apply aG (Gi (X:=oA Ē P w K mg base N F j _ z A outer s H E) yN.1 yN.2 yN.2 I.ok.frames I f λs' H' M Y=>?_);apply Dj (X:=oA Ē P w K mg base N F j _ z A outer s H E) none M Y λCz Z q O=>?_;exact(a,C,od,H0,Z,Á,q.os,q.bare,q.base,q.aE,O,U,W)
def bu.qM{P:Pg}{w:Wd}{K:FR}{mg:MG}{base:Heap}{x J:Str}{st:Stmt}{f:Addr}{fd:FD}{N ps:LS}{k:Nat}{sp:Sp}(F:bu K x J st f fd)(S:bG N ps Âj)(M:∀(j:Value)(A:Around)(outer:List Env)(s:Sh)(H:Hp)(vs:az)(Q:VK)(E:XK),eT k (A.deeper (envOfC J Âj s.Z f j))->sp vs H Q E->
   ∃t,l7 ((oA Ē P w K mg base N J Âj f j A outer s H E).yM E) Çe t/\t {nx:=λ_ H'=>Q .aP H',rt:=Q} Âq H) (len:∀vs H Q E,sp vs H Q E->vs.L=ps.L:=by intro _ _ _ _ h;first|(cases h;subst_vars;rfl)|(repeat first|(let(rfl,_):=h;rfl)|let(_,h):=h)):Ģ Ē (k+1) f fd ps sp:=by
 let(oc,od,kV,jC,pm,Z,j,ct,pC,rfl,lk,W):=F.ex;apply S2 lk W S len λA outer s H vs Q E hr U=>?_;let(t,h,q):=M j A outer s H vs Q E hr U;exact(t,λpins Y σ H1 D I O=>jE (h pins Y σ H1 D (I.i6 _) O) (λ_ _ q=>q.nE) λe s2 z=>afE z,q)
def afF(E:XK)(C:Addr)(te:TE):TS:=λ_ σ H=>te σ H λv H1=>∃a od,v=.ref a/\H1 a=Α (exc C od .none a)/\(∀d,od=Α d->d≠a)/\E Ĉ od H1
def i8{X:Cx}{E:XK}{e:Expr}{te:TE}{C N:Addr}{pos:Pos}(O:X.A.handled=Β)(c:XC X.K C N)(M:PE (X.yM E) e te):PS (X.yM E) (.Raise (some e) none pos) (afF E C te):=by
 intro pins s σ H D I h;let(nm,q,bs,sn,sub,ab,col,dd,k0,k1,k2,k3,k5,cls):=c.obj;rw[arm_exec_Raise];refine aG (RI (aca (C:=C) (nm:=nm) (q:=q) (N:=N) (bs:=bs) (bm:=vI) (hdct:=true) (sn:=sn) (sub:=sub) (ab:=ab) (col:=col) (dd:=dd) (k0:=k0) (k1:=k1) (k2:=k2) (k3:=k3) (k5:=k5) (newId:="Exception.__new__") Ð O
  (aG (aQ (M pins s σ H _ I h) λu s1 ⟨v,H1,j,Z,a,od,F,z,hd,xr⟩=>aG (RI (cY ?_))))))
 subst F;obtain rfl:u=Value.ref a:=Z;let(o,J,U,q2,vs,W,Y):=qL j.aE z;exact(a,o,vs,Á,(cls _ j.gE).1,J,U,W,Y,a,C,od,H1,H1,σ,Á,j.nE.La,⟨.none,z,λb o e _=>e,.inl Á⟩,hd,xr)
def Inv.Gm{X:Cx}{pins:cf}{σ:St}{H q:Hp}{s:Sh}{h2:Heap}{t2:Nat}(S:LA)(I:Ã H s)(same:∀b,b∉S->q b=H b)(J:∀b,b∈S->(H b=Β/\s.U b=Β)\/∃φ,H b=Α (.ext φ)) (new:∀b,b∈S->∀u,q b=Α u->Àf q h2 b u)(keep:∀b o,b∉S->s.U b=Α o->h2.I b=Α o) (there:∀b,b∈S->∀o,s.U b=Α o->∃O,h2.I b=Α O):Ã q {s with heap:=h2,toks:=t2}:=
 I.wN (s':={s with heap:=h2,toks:=t2}) (ch:=[]) rfl (Gh S same J (λb o j _ g=>keep b o j g) (λb o j _ g=>⟨o.slots,keep b o j g⟩) there)
  (Gg S I.aE same (λb F=>(J b F).imp (·.1) id) new λb o u _ j g=>keep b o j g) I.bare ļ
def Lc{K:FR}{C N:Addr}(c:XC K C N):PySem.W.nsOkIn K N=true:=by
 let(_,_,_,_,_,_,_,_,_,_,_,_,_,_,h):=c.cl;exact h
def afG{K:FR}{h:Heap}{f:Addr}(XK:K.In h)(j:PySem.W.isFn K ď=true):∃o,h.I f=Α o/\o.cls=.type "function":=by
 let e:=zT.mp j;delta PySem.W.typeIn at e;cases q:K.Q f with
 |none=>
  symm
 |some o=>
  simp only[q] at e;exact(o,XK _ _ q,aU e)
def afH(C:Addr)(sp:Sp)(J:az)(E:XK)(t:TA):TE:=λσ H Q=>t σ H λvs H1=>vs.L<=sizeLine/\∀x,H1 x=Β->
 sp (.ref x::(vs++J)) (upd H1 x Ś) (λv j=>v=.aP/\Q ŧ j) E
def afI{pins:cf}{σ:St}{H:Hp}{s:Sh}{Q:VK}{U:LV}{vs:az}(c:XC X.K C N)(mI:PySem.W.nsIn X.K N "__init__"=Α Âr)(fn:PySem.W.isFn X.K ď=true)(F:ý CX k f fd ps sp)(hr:eT (k+1) X.A)(hb:ŉ ds)(hd:bq jl ds)(hx:vx CX X E) (I:Ã H s) (r:bq vs U) (qN:vs.L<=sizeLine)(h:∀x,H x=Β->sp (.ref x::(vs++jl)) (upd H x Ś) (λv H2=>v=.aP/\Q ŧ H2) E):
  wpAny È X.A (call Ĉ U) (ô Q) X.xe s:=by
 let(nm,q,bs,sn,sub,ab,col,dd,k0,k1,k2,k3,k5,cls):=c.obj;let(c1,O,_):=cls s.H I.gE;let(oF,gF,cF):=afG I.gE fn;let yo:=afx I.gE O mI;let Y:=h Û (I.aE.fresh (Fj _));let g2:((s.o (pB U)).push Ãa).I Û=Α Ãa:=by
  let z:=ib (s.o (pB U)) (o:=rM C s.Z) rfl;symm
 let J:Ã (upd H Û (exc C none .none Û)) {s with heap:=(s.o (pB U)).push Ãa}:=
  I.laid (t':=s.toks) (λb u q=>dv _ (dv _ q)) (Fj _) (tY g2 ⟨rfl,rfl,_,rfl,rfl⟩)
 let Z:bq (V.ref Û::(vs++jl)) (Value.ref Û::(U++ds)):=.cons rfl (r.append hd);let hl:(Value.ref Û::U++ds).L=ps.L:=by
  let e:=Z.L;rw[F.len _ _ _ _ Y] at e;symm
 let(M,g,d,tk,os):=s;refine Fd (ab9 PySem.F.excBase_Exception c1 O yo gF cF (yg (F.run _ X.stack _ _ ⟨Value.ref (M.O+1)::U,[]⟩ (Value.ref (M.O+1)::(U++ds)) _ _ E (hr.make C U [])
  (J.Cy.make C U []) (hb _ (Value.ref (M.O+1)::U) J.gE hl) Z Y) λr s' j=>?_) (by rw[<-r.L];exact qN))
 cases r with
 |error e=>exact hx pins σ _ _ e s' J j
 |ok fl=>
  cases fl with
  |ret u=>
   let(v,H',I3,rv,ev,q3):=J.after j;subst ev;exact(rv,⟨V.ref (M.O+1),H',I3,Á,q3⟩)
  |next=>exact False.elim j
  |brk=>exact False.elim j
  |cont=>exact False.elim j
def Gn(c:XC X.K C N)(mI:PySem.W.nsIn X.K N "__init__"=Α Âr)(fn:PySem.W.isFn X.K ď=true)(kp:PySem.W.keepIn X.K Ĉ=true)(F:ý CX k f fd ps sp)(hr:eT (k+1) X.A)(O:Gl X x)(U:X.mg x=Α Ĉ)(J:ŉ ds)(hd:bq jl ds)(Y:vx CX X E)(z:PA X (e::es) t) (Z:(x==("__debug__":Str))=false:=by decide) (M:starEach (e::es) X.env=(false,eval e X.env)::starEach es X.env:=by rfl) (j:(backTo pos û).any (·.1)=false:=by rfl):
  PE X (.Call Ϗ (e::es) [] pos) (afH C sp jl E t):=by
 show Ú;apply zU (yt I O U ?_ Z);refine PySem.W.callWith_K (h₀:=X.base) I.ok.mod.wK kp (aQ (z pos pins s σ H _ I h) λus s1 ⟨vs,H1,I1,r,q⟩=>Äj) M j;exact afI c mI fn F hr J hd Y I1 r q.1 q.2
def afJ(K:FR)(t:TA):TE:=λσ H Q=>t σ H λvs H1=>∃a C N od j,vs=[.ref a]/\H1 a=Α (exc C od j a)/\XC K C N/\Q .aP H1
def afK{pl:Sem Bool}(hg:Gl X "Exception")(hm:X.mg "Exception"=Β)(hf:PySem.W.findCls X.K (.type "Exception") (.type "type") "__init__"=Α (.val (.builtin "Exception.__init__")))(ha:PA X (e::es) t)(tP:typeOf (.type "Exception")=pure (.type "type")) (rV:Manifest.isStub "Exception"=false) (M:bootBuiltins "Exception"=Α (.type "Exception"))(he:starEach (e::es) X.env=(false,eval e X.env)::starEach es X.env:=by rfl) (dZ:(backTo pos û).any (·.1)=false:=by rfl)(ht:eval (.Call (.Attribute (.Name "Exception" p) "__init__" jg) (e::es) [] pos) X.env=(do
   let Y <-eval (.Name "Exception" p) X.env
   standAt jg.atName
   let (f,first) <-holding [Y] (getMethod Y "__init__" pl)
   callWith pos f first (backTo pos (starEach (e::es) X.env)) (backToKw pos Ϲ)):=by rfl):
  PE X (.Call (.Attribute (.Name "Exception" p) "__init__" jg) (e::es) [] pos) (afJ X.K t):=by
 show Ú;apply PySem.W.methodCall_KW (pl:=pl) (Àq M ?_) ht;let(m,F):=I.fr;apply PySem.W.method_type F I.ok.mod.wK tP rV hf Ï ?_;apply atA (aQ (ha pos pins _ σ H _ (I.tok _) h) λus s1 ⟨vs,H1,J,r1,a,C,N,od,tv,ev,z,c,q⟩=>?_) he dZ;subst ev;let(u,rfl,ru):=vals1 r1;cases ru;let(nm,qn,bs,sn,sub,ab,col,dd,k0,k1,k2,k3,k5,cls):=c.obj;let(c1,c2,_):=cls s1.H J.gE;let(o,U,Z,q2,AB,j,q4):=qL J.aE z;let zz:=(BS.mp q4).1;let(O,g,d,tk,os):=s1;apply acb PySem.F.excBase_Exception c1 U Z j Ù ?_;let gp:=dv (h:=O) (pB []) U;let gx:((O.push (pB [])).update a (Obj.mapFields (·.setIfInBounds 0 (.ref O.O)))).I a=_:=u7 _ gp (Jz (wC j _));apply(.aP,H1,J.Gm (t2:=tk) [a] (λb _=>Á) ē Àd Æv λb hb o g=>?_,Á,q)
 .let:b=a:=by simpa using hb
  subst this;exact .inr (t7 z)
 .let:b=a:=by simpa using hb
  subst this;rw[z] at hu;cases hu;apply tY gx ⟨(aaV _ _).R Z,?_,_,wC j _,?_⟩
  .let(cc,cd,dt,sl):=o;cases dt <;> first|exact q2|cases j
  .symm
 .let:b≠a:=by simpa using nb
  rw[kY _ _ (eF this)];exact dv _ g
 .symm
def afM(K:FR)(ta q:TE)(g:Str):TS:=λD σ H=>q σ H λy H1=>ta σ H1 λv j=>∃a C N te,v=.ref a/\j a=Α (exc C none te a)/\XC K C N/\Gf K N g/\
 ∀d,j d=Β->d≠a->D.nx σ (upd (upd j a (exc C (some d) te a)) d (vH d (iF g y [])))
def afN{g:Str}{O:Expr}{mG:Pos}(ha:PE X o ta)(hv:PE X O tv)(hs:swapsWith O (some (.Attribute o g mG)) pos.line X.env=pure false):PS X (.Assign [.Attribute o g mG] O pos) (afM X.K ta tv g):=by
 intro pins s σ H D I h;apply aa4 (aQ (hv pins s σ H _ I h) λu s1 ⟨y,H1,I1,ry,q⟩=>aQ (ha pins s1 σ H1 _ I1 q) λov U ⟨x,Y,J,rx,a,C,N,te,ex,ea,c,n,q2⟩=>?_) hs;subst ex;obtain rfl:ov=Value.ref a:=rx;let(nm,qn,bs,sn,sub,ab,col,dd,k0,k1,k2,k3,k5,cls):=c.obj;let(c1,c2,c3,c4,c5):=cls U.H J.gE;let(o,ge,p1,p2,AB,p3,p4):=qL J.aE ea;let vh:U.H.nsMap N g=Β:=PySem.W.nsMap_none_of_in J.gE (Lc c) n.own;let(j,gg,dr,tk,os):=U;apply ack PySem.F.store_Exception c1 c2 c5 vh n.base ge p1 (λc z=>(by rw[p3] at z;cases z)) p2 λh' mV w1 w2 w3=>?_;let dn:Y j.O=Β:=J.aE.fresh (bC _);let Z:j.O≠a:=u6 (di ge);let e1:(upd (upd Y a (exc C (some j.O) te a)) j.O (vH j.O (iF g y []))) a=Α (exc C (some j.O) te a):=by rw[aA (eF Z),au]
 apply(σ,_,J.Gm (h2:=h') (t2:=mV) [a,j.O] (λb nb=>?_) ē (λb hb u' M=>?_) Æv (λb hb o g=>?_),q2 j.O dn Z)
 .let:b≠a/\b≠j.O:=by simpa using nb
  rw[aA this.2,aA this.1]
 .let:b=a\/b=j.O:=by simpa using hb
  rcases this with rfl|rfl
  .exact .inr (t7 ea)
  .exact .inl ⟨dn,Rz (bC _)⟩
 .let:b=a\/b=j.O:=by simpa using hb
  rcases this with rfl|rfl
  .rw[e1] at M;cases M;exact tY w2 ⟨p1,Á,AB,p3,p4⟩
  .rw[au] at M;cases M;apply UA w1 (λf=>?_) (λz hz=>?_) (by show 1<=1000;decide)
   .rw[Kw];by_cases e:f=g
    .rw[ai e,ai e];exact ry
    .rw[ah e,ah e];exact True.intro
   .by_cases e:z=g
    .rw[e];exact(Cw g y []).1
    .rw[ah e] at hz;exact absurd Á hz
 .let:b≠a/\b≠j.O:=by simpa using nb
  exact w3 b o this.1 g
 .let:b=a\/b=j.O:=by simpa using hb
  rcases this with rfl|rfl
  .exact(_,w2)
  .exact absurd (di g) (nr _)
def afO(K:FR)(ta q:TE)(g:Str):TS:=λD σ H=>q σ H λy H1=>ta σ H1 λv j=>∃a C N d te fs,v=.ref a/\j a=Α (exc C (some d) te a)/\d≠a/\j d=Α (vH d fs)/\fs.L<1000/\XC K C N/\Gf K N g/\
 D.nx σ (upd j d (vH d (iF g y fs)))
def afP{g:Str}{J:Expr}{U:Pos}(ha:PE X o ta)(hv:PE X J tv)(hs:swapsWith J (some (.Attribute o g U)) pos.line X.env=pure false):PS X (.Assign [.Attribute o g U] J pos) (afO X.K ta tv g):=by
 intro pins s σ H D I h;apply aa4 (aQ (hv pins s σ H _ I h) λu s1 ⟨y,H1,I1,ry,q⟩=>aQ (ha pins s1 σ H1 _ I1 q) λov Y ⟨x,H2,j,rx,a,C,N,d,te,fs,ex,ea,ne,M,fl,c,n,q2⟩=>?_) hs;subst ex;obtain rfl:ov=Value.ref a:=rx;let(nm,qn,bs,sn,sub,ab,col,dd,k0,k1,k2,k3,k5,cls):=c.obj;let(c1,c2,c3,c4,c5):=cls Y.H j.gE;let(o,ge,p1,p2,AB,p3,p4):=qL j.aE ea;let(mA,nA,rA,Z,lA):=afw j.aE M;let vh:=PySem.W.nsMap_none_of_in j.gE (Lc c) n.own;let aC:a≠C:=λz=>by
  grind
 let(hh,gg,dr,tk,os):=Y;let lz:(fs.M (·.1)).L<=sizeLine:=by rw[ao,yh];af
 apply acm PySem.F.store_Exception c1 c2 c5 vh n.base ge p1 (λc z=>Å) p2 ne nA Z lz aC λh' mV w1 w3=>?_;apply(σ,_,j.Gm (h2:=h') (t2:=mV) [d] (λb nb=>?_) ē (λb hb u' O=>?_) Æv (λb hb o g=>?_),q2)
 .let:b≠d:=by simpa using nb
  rw[aA this]
 .let:b=d:=by simpa using hb
  subst this;exact .inr ⟨_,M⟩
 .let:b=d:=by simpa using hb
  subst this;rw[au] at O;cases O;apply UA w1 (λf=>?_) (λz hz=>?_) (gq (Kx g y fs) fl)
  .rw[Kw];by_cases e:f=g
   .rw[ai e,ai e];exact ry
   .symm
  .by_cases e:z=g
   .rw[e];exact(Cw g y fs).1
   .rw[ah e] at hz;exact(Cw g y fs).2 z (Z z hz)
 .symm
 .let:b=d:=by simpa using hb
  subst this;let(o',_,_,e',_):=w1;symm
abbrev Cx.sr(X:Cx)(a:Addr):Cx:={X with A:=X.A.mark (some ħ),calm:=false,xe:=λ_ _=>False}
def Cx.Ok.sr{X:Cx}(ok:X.Ok)(a:Addr):(X.sr a).Ok:=
 ⟨ok.mod,ok.kind,ok.glob,ok.blt,ok.above,ok.inj,ok.has,ok.Ad,λh=>(by cases h),ok.frames,ok.Cf,ok.Cg,ok.bs,ok.rQ,ok.Ae,ok.Af,ok.pF,ok.wL⟩
def Inv.sr{X:Cx}{pins:cf}{σ:St}{H:Hp}{s:Sh}(I:Ã H s)(a:Addr):Inv (X.sr a) pins σ H s:=⟨I.ok.sr a,I.os,I.bare,I.base,I.loc,I.cell,I.free,I.ny,I.pin,I.aE,I.len⟩
def Inv.AC(ok:X.Ok)(I:Inv (X.sr a) pins σ H s):Ã H s:=⟨ok,I.os,I.bare,I.base,I.loc,I.cell,I.free,I.ny,I.pin,I.aE,I.len⟩
def afQ{M:Model}{A:Around}{E:VP}{nm q Z q':Str}{C N C1 N1:Addr}{bs UG:LV}{hdct j:Bool}{sn UH:LS}{sub UI:LV}{ab UJ:Bool}{col UK:Option Bool}{dd tV:OA}{k0 k1 k2 k3 k5 UL UM UN UO UP:Option Value}{newId z:String}{h:Heap} {g:Array GenState} {d:Drawn} {t:Nat} {os:OsState} {e:Addr} {O:Obj} {Q:Bool->Shared->Prop}(F:h.I C=Α (excClassObj nm q C N bs vI hdct sn sub ab col dd k0 k1 k2 k3 k5 newId)) (U:h.I C1=Α (excClassObj Z q' C1 N1 UG vI j UH UI UJ UK tV UL UM UN UO UP z))(he:h.I e=Α O) (J:O.cls=.ref C) (ne:C≠C1)(hq:Q false ⟨h,g,d,t,os⟩):ϐ (excMatches Ém (.ref C1)) Q E ⟨h,g,d,t,os⟩:=by
 let Y:(Value.ref C1::vI).Y (.type "BaseException")=true:=by rw[BR,show vI.Y (.type "BaseException")=true by decide,aaU]
 let W:(Value.ref C::vI).Y (.ref C1)=false:=by
  grind
 let f:=tc_notTuple;ext excMatches
 repeat (first|(with_reducible apply u5 he ?_;rw[J])|with_reducible apply u5 U ?_|with_reducible apply u5 F ?_|(with_reducible apply Rw U ?_;rw[Y])|(with_reducible apply Rw F ?_;rw[W])|wp_step)
 exact hq
abbrev TH:=Hp->Addr->Addr->OA->TS
def PH(X:Cx)(j:List ExceptHandler)(th:TH):Prop:=
 ∀(pins:cf)(s:Sh)(σ:St)(H H0:Hp)(a C N:Addr)(od:OA)(D:Ends),Ã H s->XC X.K C N->sk .none H0 a C od H->th H0 a C od D σ H->
  wpAny È X.A (handleBy ħ X.env j) Æe X.xe s
def afT:TH:=λ_ _ _ _ _ _ _=>False
def UR:PH X [] afT:=λ_ _ _ _ _ _ _ _ _ _ _ _ _ h=>h.elim
def afU(C1:Addr)(ts:TS)(th:TH):TH:=λH0 a C od D σ H=>(C=C1->∀H',sk .none H0 a C od H'->ts D σ H')/\(C≠C1->th H0 a C od D σ H)
theorem SP.AC(ok:X.Ok)(h:SP (X.sr a) pins D f s'):SP X pins D f s':=by
 cases f with
 |next=>let(σ',H',I,q):=h;exact(σ',H',I.AC ok,q)
 |brk=>let(σ',H',I,q):=h;exact(σ',H',I.AC ok,q)
 |cont=>let(σ',H',I,q):=h;exact(σ',H',I.AC ok,q)
 |ret u=>let(v,σ',H',I,r,q):=h;exact(v,σ',H',I.AC ok,r,q)
section
variable{X:Cx}{C1 N1:Addr}{x:Str}{p pos:Pos}{b0:Stmt}{US:List Stmt}{b9:List ExceptHandler}{ts:TS}{th:TH}
def xn(U:XC X.K C1 N1)(hg:Gl X x)(hm:X.mg x=Α (.ref C1))(hs:∀a,l7 (X.sr a) (b0::US) ts)(hr:PH X b9 th)(j9:(x==("__debug__":Str))=false:=by decide):
  PH X (.ExceptHandler (some Ϗ) none (b0::US) pos::b9) (afU C1 ts th):=by
 intro pins s σ H H0 a C N od D I c f h;apply wpAny_handleBy_cons (codeAny_handlers_test (yt (X:=X.sr a) (I.sr a) hg hm ?_ j9)) (by intro q;cases q);let(nm,qn,bs,sn,sub,ab,col,dd,k0,k1,k2,k3,k5,cls):=c.obj;let(UF,qn',UG,UH,UI,UJ,UK,tV,UL,UM,UN,UO,UP,j):=U.obj;let(J,_):=cls s.H I.gE;let(W,_):=j s.H I.gE;let(T,Z,kp,ne,yL,hT):=id f;let(o,M,O,q2,AB,q3,q4):=qL I.aE Z;by_cases e:C=C1
 .subst e;let(hh,g,d,tk,os):=s;apply wpAny_excMatches_sub_self J M O Ð ?_;apply codeAny_handlers_suite ?_;apply Dj (X:=X) none I f λs' H' F Y=>?_;refine jE (hs a pins s' σ H' D (F.sr a) (h.1 Á H' Y)) (λfl s2 q=>q.AC F.ok) λ_ _ z=>False.elim z
 .let(hh,g,d,tk,os):=s;apply afQ J W M O e ?_;exact hr pins _ σ H H0 a C N od D I c f (h.2 e)
end
def UT(X:Cx)(j:List Stmt)(tb:XK->TS):Prop:=
 ∀(pins:cf)(s:Sh)(σ:St)(H:Hp)(D:Ends)(E:XK),Ã H s->tb E D σ H->wpAny È X.A (execs j X.env) Æe
  (λe s'=>∃a C od H0 H',e=.ref a/\Ã H' s'/\sk .none H0 a C od H'/\(∀d,od=Α d->d≠a)/\E Ĉ od H0) s
def afW(K:FR)(th:TH)(D:Ends)(σ:St):XK:=λj od H0=>∃C N,j=.ref C/\XC K C N/\∀a H',(∀d,od=Α d->d≠a)->sk .none H0 a C od H'->th H0 a C od D σ H'
def afX(K:FR)(tb:XK->TS)(th:TH):TS:=λD σ H=>tb (afW K th D σ) D σ H
def UU(O:X.Gk)(hb:UT X pz tb)(hh:PH X (Z::hs) th):PS X (.Try pz (Z::hs) [] [] pos) (afX X.K tb th):=by
 intro pins s σ H D I h;apply wpAny_Try_except (jE (hb pins s σ H D _ I h) (λf s1 q=>?_) λe s1 q=>?_)
 .cases f with
  |next=>exact Fg q
  |brk=>exact q
  |cont=>exact q
  |ret v=>exact q
 .let(a,C,od,H0,H1,rfl,z,W,hd,C',N,U,c,hk):=q;cases U;apply Gi O.1 O.2 O.2 z.ok.frames z W.at_ λs2 H2 J Y=>?_;apply Dj none J Y λs3 j M F=>?_;exact hh pins s3 σ j H0 a C N od D M c F (hk a j hd F)
def UV(hN:X.N.Nodup)(hi:X.N[i]? =Α x)(hx:Loc X.env.scope x)(F:ý (gy X.prog X.w) k f fd ps sp)(hr:eT k X.A)(hg:Gl X g)(hm:X.mg g=Α ď)(hk:PySem.W.keepIn X.K ď=true)(hb:ŉ [])(ha:PA X.yw (e::es) t)(hs:swapsWith (.Call (.Name g p) (e::es) [] pos) (some (.Name x px)) xc.line X.env=pure false:=by rfl) (hf:X.fn x=true\/X.env.scope.names.Q x=Α .local:=by first|exact .inl Á|exact .inr Á|assumption)(j9:(g==("__debug__":Str))=false:=by decide) (he:starEach (e::es) X.env=(false,eval e X.env)::starEach es X.env:=by rfl) (Y:(backTo pos û).any (·.1)=false:=by rfl):
  UT X [.Assign [.Name x px] (.Call (.Name g p) (e::es) [] pos) xc] (λE=>Ah (g9 sp [] E t) (qD i)):=by
 intro pins s σ H D E I h;let ia:wpAny È X.A (eval (.Call (.Name g p) (e::es) [] pos) X.env) (ô λv H1=>D.nx ń H1) (λe s'=>∃a C od H0 H',e=.ref a/\Ã H' s'/\sk .none H0 a C od H'/\(∀d,od=Α d->d≠a)/\E Ĉ od H0) s:=by
  apply zU (yt I hg hm ?_ j9);refine PySem.W.callWith_K (h₀:=X.base) I.ok.mod.wK hk (jE (ha pos pins s σ H _ (I.i6 _) h) (λU J ⟨vs,H1,I1,r,q⟩=>Äj) λ_ _ z=>False.elim z) he Y;let I1:=I1.nE;let q:sp (vs++[]) H1 (λv H1=>D.nx ń H1) E:=q;rw[jG] at q;let hl:U.L=ps.L:=by rw[<-r.L];exact F.len _ _ _ _ q
  let M:=hb J U I1.gE Å;rw[jG] at M;apply Fd (yg (F.run X.A X.stack J H1 ⟨U,[]⟩ U vs _ E hr I1.Cy M r q) λr s' j=>?_);cases r with
  |error e=>
   let(a,C,od,H0,H',Z,e2,e3,e4,e5,e6,e7,e8):=j;exact(a,C,od,H0,H',Z,I1.wN (ch:=[]) e2 e4 e5 e3 ļ,e6,e7,e8)
  |ok fl=>
   cases fl with
   |ret u=>exact I1.after j
   |next=>exact False.elim j
   |brk=>exact False.elim j
   |cont=>exact False.elim j
 apply aa2 (wpAny_Assign_Name (jE ia (λv J ⟨y,H1,I1,r1,q1⟩=>?_) λ_ _ z=>z) hs);exact FC I1 hN hi hx r1 (λs2 O=>Fg ⟨_,H1,O,q1⟩) hf
def Dl(K:FR)(a:Addr):It:=
 ⟨λi H=>∃(xs:az)(x:V),š a xs/\xs[i]? =Α x,λi H v H'=>∃T x,v=.ref T/\H T=Β/\H'=upd H T (.tup [.int (i:Nat),x])/\∀xs,š a xs->xs[i]? =Α x,λi H=>∃xs:az,š a xs/\xs.L=i⟩
def Ld(x:IsTup h a ak):h.IsTuple a ak:=x
def afY{P:Pg}{w:Wd}{K:FR}{oq:List Expr}{kk:Nat}{nO:Pos}(a e it:Addr):
  Turn P w K Ĵ (Dl K a) [e,it] e (λi h=>(∃J,IsEnum h e it ((i:Nat):Int) J)/\h.IsTupleIter it a i/\e≠it/\a≠it/\a≠e) where
 mem:=by simp
 obj:=λi h=>Ge
 keep:=λi h h' st k=>let ⟨⟨J,j⟩,hi,aN⟩:=st;⟨⟨J,k e Ä _ j⟩,hi.at λo q=>k it Ä o q,aN⟩
 item:=by
  show Ô;subst hP hw hK;let ob:=Ge st;let((J,j),iR,aN,M,W):=st;let(xs,x,U,Z):=hg;let(O,rv,p,hz):=I.tuple U;let(u,hu,ru):=rv.get Z;let K3:=di j;let Y:X.A.in1.handled=Β:=I.ok.hd hc;apply wpAny_pyNext_enum_itemD (Sm Y it a M O.toArray) j ⟨iR,Ld p⟩ (by simpa using (bp.mp hu).1) aN (by simp;exact(aN,eF W)) λy h' tk hy ho jj hT hsz hk=>?_;let ey:y=u:=by
   let q:=hu.symm.R (À hy);exact(aU q).symm
  subst ey;apply(_,Á,atR (s:={s with heap:=h',toks:=tk+1}) ho λqJ jO sb=>?_);let vF:qJ.I s.Z=Α {cls:=.type "tuple",data:=.seq #[.int i tk,y]}:=(sb.2 _ (u6 K3)).R hT;let ⟨I1,n1⟩:=Gd (x:=.int (i:Nat)) (t':=tk+1) ob hf (λb ob F q=>(sb.2 b (λz=>F (by simp[z]))).R (hk b ob (λz=>F (by simp[z])) (λz=>F (by simp[z])) q)) I vF ⟨_,rfl⟩ ru;exact(.ref s.Z,_,I1,Á,⟨_,x,Á,I.aE.fresh (bC _),Á,λys hy=>by rw[I.Sy hy U];exact Z⟩,⟨⟨y,by rw[show((i+1:Nat):Int)=(i:Int)+1 by rfl];exact jO⟩,jj.1.at λo q=>(sb.2 it Æc).R q,aN,M,W⟩,n1)
 done:=by
  show Ô;subst hP hw hK;let((J,j),iR,aN,M,W):=st;let(xs,U,Z):=hg;let(O,rv,p,hz):=I.tuple U;show ì;let hl:=rv.L;let Y:X.A.in1.handled=Β:=I.ok.hd hc;let en:i=O.toArray.u:=by
   rw[va];symm
  subst en;exact wpAny_pyNext_enum_endD (Sm Y it a M O.toArray) j ⟨iR,Ld p⟩ λh' eb=>⟨Á,I.turned (t':=s.toks) (λb o F q=>eb b o F q) f0 f1 f3 f4 f5⟩
 self:=λA i s Q E st h=>let ⟨⟨_,j⟩,_⟩:=st;RN j h
def afZ(K:FR)(ta:TA):TI:=λσ H R=>ta σ H λvs H1=>∃a xs,vs=[.ref a]/\bx K H1 a xs/\R (Dl K a) H1
def UW{X:Cx}{e:Expr}{ta:TA}{p pos nO:Pos}{oq:List Expr}{kk:Nat}(hg:Gl X "enumerate")(hm:X.mg "enumerate"=Β)(O:PA X [e] ta)(hs:starEach [e] X.env=[(false,eval e X.env)]:=by rfl):
  PI X Ĵ (.Call (.Name "enumerate" p) [e] [] pos) (afZ X.K ta):=by
 intro pins s σ H R I h;apply Call_ (Àq boot_enumerate (Fh (aQ (O pos pins s σ H _ I h) λus j ⟨vs,H1,I1,r1,Z⟩=>?_) hs Á));let(a,xs,ex,W,q):=Z;subst ex;cases r1 with
 |cons r rr=>
  cases rr;cases r;let(ak,rv,F,hz):=I1.tuple W;let J:=F.lt;apply acq (Ld F) λh' z Y hsz hk=>RN z ?_;let M:Ã H1 {j with heap:=h'}:=I1.kept (t':=j.toks) hk;apply(j.Z+1,[j.Z+1,j.Z],_,_,H1,Á,M,afY a (j.Z+1) j.Z,⟨⟨.none,z⟩,Y,Nat.succ_ne_self _,fV J,fV (Fm J)⟩,λb U=>?_,q);let e':b=j.Z+1\/b=j.Z:=À U
  let lY:j.Z<=b:=by
   grind
  exact I1.wQ lY Çv
def Lf{K:FR}{a:Addr}{xs:az}{g:TG}{tb:TS}{D:Ends}{σ:St}{H:Hp}(Pv:Nat->St->Hp->Prop)(h0:Pv 0 σ H)(Z:∀i σ H,i<=xs.L->Pv i σ H->ä a xs)(hs:∀i x T σ H,xs[i]? =Α x->Pv i σ H->H T=Β->g ų σ (upd H T (.tup [.int (i:Nat),x])) λσ2 j=>tb {D with nx:=Pv (i+1),ct:=Pv (i+1),bk:=D.nx} σ2 j) (hd:∀σ H,Pv xs.L σ H->D.nx σ H):
  ∃W:Nat->Nat->St->Hp->Prop,(∃m,W 0 m σ H)/\∀i m σ H,W i m σ H->
   ((xk K a).stop i H/\D.nx σ H)\/((xk K a).go i H/\∃N:St->Hp->Prop,(∀σ' H',N σ' H'->∃M,M<m/\W (i+1) M σ' H')/\∀x H',(xk K a).ox i H x H'->g x σ H' λσ2 j=>tb {D with nx:=N,ct:=N,bk:=D.nx} σ2 j):=by
 refine ï;rintro i m σ H ⟨rfl,hi,p⟩;let q:=Z i σ H hi p;by_cases F:i<xs.L
 .apply .inr ⟨⟨xs,xs[i],q,by simp[F]⟩,Pv (i+1),λσ' H' p'=>⟨xs.L-(i+1),by grind,rfl,F,p'⟩,λx H' y=>?_⟩;let(T,z,J,O,U,Y):=y;subst J U;exact hs i z T σ _ (Y xs q) p O
 .let e:i=xs.L:=by af
  subst e;exact .inl ⟨⟨xs,q,bC _⟩,hd σ H p⟩
def UX{K:FR}{a:Addr}{xs:az}{g:TG}{tb:TS}{D:Ends}{σ:St}{H:Hp}(Pv:Nat->St->Hp->Prop)(h0:Pv 0 σ H)(Z:∀i σ H,i<=xs.L->Pv i σ H->š a xs)(hs:∀i x T σ H,xs[i]? =Α x->Pv i σ H->H T=Β->g ų σ (upd H T (.tup [.int (i:Nat),x])) λσ2 j=>tb {D with nx:=Pv (i+1),ct:=Pv (i+1),bk:=D.nx} σ2 j) (hd:∀σ H,Pv xs.L σ H->D.nx σ H):
  ∃W:Nat->Nat->St->Hp->Prop,(∃m,W 0 m σ H)/\∀i m σ H,W i m σ H->
   ((Dl K a).stop i H/\D.nx σ H)\/((Dl K a).go i H/\∃N:St->Hp->Prop,(∀σ' H',N σ' H'->∃M,M<m/\W (i+1) M σ' H')/\∀x H',(Dl K a).ox i H x H'->g x σ H' λσ2 j=>tb {D with nx:=N,ct:=N,bk:=D.nx} σ2 j):=by
 refine ï;rintro i m σ H ⟨rfl,hi,p⟩;let q:=Z i σ H hi p;by_cases F:i<xs.L
 .apply .inr ⟨⟨xs,xs[i],q,by simp[F]⟩,Pv (i+1),λσ' H' p'=>⟨xs.L-(i+1),by omega,rfl,F,p'⟩,λx H' y=>?_⟩;let(T,z,J,O,U,Y):=y;subst J U;exact hs i z T σ _ (Y xs q) p O
 .let e:i=xs.L:=by omega
  subst e;exact .inl ⟨⟨xs,q,Á⟩,hd σ H p⟩
def af0{x:Str}{g:TG}{tt:TT}{te:TE}{vs:LN}{σ:St}{H1:Hp}{D:Addr}{Qd:Hp->Prop}(j:Nat->Hp->Prop)(O:j 0 Đ)(hs:∀i c H,x.cps[i]? =Α c->j i H->g (.str ⟨#[c]⟩) ľ H λσ2 F=>wipe σ2 vs=wipe σ vs/\tt σ2 F λb z=>
   if b=true then te σ2 z (lj D (j (i+1))) else j (i+1) z) (hd:∀H,j x.cps.u H->Qd H):
  ∃W:Nat->Nat->Hp->Prop,(∃m,W 0 m Đ)/\∀i m H,W i m H->
   ((Dc x).stop i H/\Qd H)\/((Dc x).go i H/\∃Nx:Hp->Prop,(∀H',Nx H'->∃M,M<m/\W (i+1) M H')/\∀y H',(Dc x).ox i H y H'->g y ľ H' λσ2 F=>wipe σ2 vs=wipe σ vs/\tt σ2 F λb z=>
    if b=true then te σ2 z Æn else Nx z):=by
 apply(λi m H=>m=x.cps.u-i/\i<=x.cps.u/\j i H,⟨x.cps.u,by simp,dj _,O⟩,?_);rintro i m H ⟨rfl,hi,p⟩;by_cases J:i<x.cps.u
 .apply .inr ⟨J,j (i+1),λH' U=>⟨x.cps.u-(i+1),by grind,rfl,J,U⟩,λy H' q=>?_⟩;let(e,c,Y,Z):=q;symm
 .let e:i=x.cps.u:=by af
  subst e;exact .inl ⟨bC _,hd H p⟩
section
variable{X:Cx}
def UY{E:XK}{i:Nat}{y:Str}{py:Pos}{lX tg iter:Expr}{j3:List Expr}{scope:Scope}{own:List (Str×Nat)}{pos xc:Pos}{wi:TI}{g:TG}{tt:TT}{te:TE}(hc:X.calm=true)(ow:X.Gk)(hN:X.N.Nodup)(hy:X.N[i]? =Α y)(tQ:X.env.scope.names.Q y=Α .local)(CZ:swapsWith â (some (.Name y py)) xc.line X.env=pure true) (hi:PI (X.yM E) tg iter wi) (ok:ĵ own)(hg:∀(s:Sh)(H:Hp)(C:Addr)(cl:gu)(fp:LA),PG Ò tg g) (ht:∀(s:Sh)(H:Hp)(C:Addr)(cl:gu)(fp:LA),yG Ò j3 tt)(he:∀(s:Sh)(H:Hp)(C:Addr)(cl:gu)(fp:LA),PE ((X.gU s H scope Áh fp).yM E) lX te) (hs:∀x,foldedSetIterable iter X.env x=pure x:=by intro _;rfl):
  PS (X.yM E) (.Assign [.Name y py] â xc) (Ah (CY wi g tt te (own.M (·.2))) (qD i)):=by
 apply Ud (Ex:=Az X E) (Eb:=λB=>Az B E) hc hN hy tQ CZ hi ok hg ht he hs λ{use Qf}pins σ j H3 cl fp D e md I3 O hz=>?_;generalize ma:compEnvC scope cl j.Z X.env=ce at hz;let cL:ce.locals=j.Z:=by subst ma;rfl
 let(xa,xC,od,H0,Hx,σx,rfl,Ix,fx,gV,hE):=hz;apply Gi (X:=X.gU j H3 scope ce fp) (en:=ce) ow.1 ow.2 (by rw[<-ma];exact ow.2) I3.ok.frames Ix fx λM J F UZ=>?_;let(m,W,_):=id F.loc;let W:=W;rw[cL] at W;let nC:J j.Z=Β:=by
  let z:=F.free;rw[cL] at z;exact z
 let ia:∃m,M.H.Ns j.Z m/\∀h',Heap.SameBut j.Z M.H h'->∀U:Env,U.locals=j.Z->wpAny È X.A (passOn "comprehension.variables-let-go" (.ref xa) U:Sem Value) Äo (Az X E) {M with heap:=h'}:=by
  apply(m,W,λh' sb U _=>?_);let Z:Ã J M:=I3.wN (ch:=fp) F.os F.base F.aE F.bare λb q=>⟨(O b q).1.2.2.2.1,(O b q).1.2.1,(O b q).1.2.2.2.2.1,(O b q).1.2.2.2.2.2⟩;let(g0,g1,g2,g3,g4,g5):=I3.wQ (H':=J) (bC _) nC;let U0:Ã J {M with heap:=h',toks:=M.toks}:=Z.turned (t':=M.toks) (λb o q e=>(sb.2 b q).R e) g0 g1 g3 g4 g5;let(T',Dk,_):=id UZ;let(o',ge',q1',q2',AB,q3',q4'):=qL U0.aE Dk;ext PySem.passOn;apply aG (wD ge' q3' q4' ?_);rw[ah (show ¬(Value.ref T'==Value.none)=true from eO)];apply aG (Dj U.frame U0 UZ λmh Y I14 f14=>wpAny_throw ?_);exact(xa,xC,od,H0,Y,σ,Á,I14.La,f14.at_,gV,hE)
 cases use <;> exact ia
end
end L2
namespace L2
open PySem PySem.Spec PyProof.Rows
theorem xo:∀xs ys:LI,PyData.eqvAll ϧ (ys.M PyData.int)=decide (xs=ys)
 |[],[]=>by simp[PyData.eqvAll]
 |[],y::ys=>by simp[PyData.eqvAll]
 |x::xs,[]=>by simp[PyData.eqvAll]
 |x::xs,y::ys=>by
  simp only[a8,PyData.eqvAll,PyData.eqv,xo xs ys];by_cases h:x=y
  .subst h;simp
  .simp[h]
theorem Lg:∀xs:LI,PyData.canLayAll0 ϧ=true:=by
 intro xs;induction xs with
 |nil=>exact Á
 |cons x xs j=>
  simp only[a8,PyData.canLayAll0,PyData.canLay0,j,JL]
theorem Lh:∀xs:LI,PyData.depthAll ϧ<=1:=by
 intro xs;induction xs with
 |nil=>
  simp[PyData.depthAll]
 |cons x xs j=>
  let:=j;simp only[a8,PyData.depthAll,PyData.depth];assumption
def shaped_ints(xs:LI):SeqAt.shaped (.list ϧ)=true:=by
 ext SeqAt.shaped;rw[jH,lZ];apply(Lg xs,?_);let:=Lh xs;simp only[PyData.depth]
 af
theorem qO{K:FR}{H:Hp}:∀xs:LI,jn K H Éb ϧ:=by
 intro xs;induction xs with
 |nil=>exact .nil
 |cons x xs j=>
  exact .cons (.int x) j
inductive af8(K:FR)(x:V)(y:V)(H:Hp)(Q:VK):Prop
 |mk (a b:Addr) (xs ys:LI) (_:x=.ref a) (_:y=.ref b) (_:ä a Éb) (_:ä b (ys.M V.int)) (_:Q (.bl (decide (xs=ys))) H)
inductive af9(K:FR)(x:V)(y:V)(H:Hp)(Q:VK):Prop
 |mk (a b:Addr) (xs ys:LI) (_:x=.ref a) (_:y=.ref b) (_:ä a Éb) (_:ä b (ys.M V.int)) (_:Q (.bl (!decide (xs=ys))) H)
def aga(J:X.A.units+64<cLine):fj X Áz (af8 X.K):=by
 intro pins s σ H x y v u Q I M O ⟨a,b,xs,ys,j,z,F,h2,q⟩;subst j z;apply TY J pins s σ H _ _ v u Q I M O ⟨_,_,.lst F (qO xs),.lst h2 (qO ys),shaped_ints _,shaped_ints _,?_⟩;show Q (.bl (PyData.eqvAll _ _)) H;rw[xo];exact q
def Li(J:X.A.units+64<cLine):fj X Âi (af9 X.K):=by
 intro pins s σ H x y v u Q I M O ⟨a,b,xs,ys,j,z,F,h2,q⟩;subst j z;apply F3 J pins s σ H _ _ v u Q I M O ⟨_,_,.lst F (qO xs),.lst h2 (qO ys),shaped_ints _,shaped_ints _,?_⟩;show Q (.bl (!PyData.eqvAll _ _)) H;rw[xo];exact q
inductive U1(K:FR)(x:V)(y:V)(H:Hp)(Q:VK):Prop
 |mk (a b xs:_) (_:x=.ref a) (_:y=.ref b) (_:ä a xs) (_:ä b []) (_:Q (.bl xs.isEmpty) H)
inductive agb(K:FR)(x:V)(y:V)(H:Hp)(Q:VK):Prop
 |mk (a b xs:_) (_:x=.ref a) (_:y=.ref b) (_:ä a xs) (_:ä b []) (_:Q (.bl (!xs.isEmpty)) H)
def U2(r:bq xs ak)(j:bq [] its')(h:xs≠[]):(ak.toArray.u !=its'.toArray.u)=true:=by
 cases j;let:=r.L;grind
def vJ(hu:X.A.units+64<cLine):fj X Áz (U1 X.K):=by
 intro pins s σ H x y v u Q I F J ⟨a,b,xs,Y,Z,j,h2,q⟩;subst Y Z;by_cases z:xs=[]
 .subst z;apply TY hu pins s σ H _ _ v u Q I F J ⟨_,_,.lst j .nil,.lst h2 .nil,by rfl,by rfl,?_⟩;exact q
 .cases F;cases J;let(ak,r1,(o1,n1,g1,M,_,U),_):=I.list j;let(its',r2,(o2,n2,g2,O,_,W),_):=I.list h2;apply SeqAt.eq_list_lengthsAt ⟨o1,g1,M,n1,U⟩ ⟨o2,g2,O,n2,W⟩ (U2 r1 r2 z) Ù ⟨.bl false,H,I,Á,?_⟩;grind
def Do(hu:X.A.units+64<cLine):fj X Âi (agb X.K):=by
 intro pins s σ H x y v u Q I Y Z ⟨a,b,xs,e1,e2,U,h2,q⟩;subst e1 e2;by_cases W:xs=[]
 .subst W;apply F3 hu pins s σ H _ _ v u Q I Y Z ⟨_,_,.lst U .nil,.lst h2 .nil,by rfl,by rfl,?_⟩;exact q
 .cases Y;cases Z;let(ak,r1,(o1,n1,O,j,_,J),_):=I.list U;let(its',r2,(o2,n2,g2,z,_,M),_):=I.list h2;let(cls,dd,data,sl):=o1;let(S8,nJ,data2,oB):=o2;simp only at j J z M;subst j J z M;refine RE (op:=.NotEq) ⟨_,O,Á⟩ ⟨_,g2,Á⟩ F.slot_list_ne F.entry_list_ne (F.args_list_ne_2 _ _) (SeqAt.list_ne_lengthsAt a b ak.toArray its'.toArray n1 n2 dd nJ sl oB (U2 r1 r2 W))
   ⟨O,g2,(λx=>nomatch x),⟨.bl true,H,I,rfl,?_⟩⟩ (by omega)
  grind
end L2
namespace L2
open PySem PySem.Spec PyProof.Rows PySem.XL
theorem agc(x:Áj o):∃O,h.I a=Α O:=by
 cases o with
 |lst xs=>let(_,_,_,_,e):=x;exact(_,e)
 |tup xs=>let(_,_,_,O,e,_):=x;exact(O,e)
 |dK kvs=>let(_,_,_,_,o,_,_,e,_):=x;exact(o,e)
 |dT kvs=>let(_,_,_,_,o,_,_,e,_):=x;exact(o,e)
 |set S n=>let(o,_,_,_,e,_):=x;exact(o,e)
 |ins C dx fs=>let(_,_,_,e,_):=x;exact(_,e)
 |own y=>let(O,e):=x;exact(O,e)
 |xd fs=>let(_,(O,_,_,e,_),_):=x;exact(O,e)
 |tH lo hi=>let(_,_,_,e):=x;exact(_,e)
 |cQ O u=>let(e,_):=x;exact(O,e)
 |j6 ps=>exact(_,x)
 |met f y=>exact(_,x)
 |ext φ=>let(_,(O,e),_):=x;exact(O,e)
def agd(C:Addr):TE:=λ_ H Q=>∀x,H x=Β->Q ŧ (upd H x Ś)
def lu(c:XC X.K C N)(mI:PySem.W.nsIn X.K N "__init__"=Α none)(kp:PySem.W.keepIn X.K Ĉ=true)(Z:Gl X x)(hm:X.mg x=Α Ĉ)(j9:(x==("__debug__":Str))=false:=by decide):
  PE X (.Call Ϗ [] [] pos) (agd C):=by
 show Ú;apply zU (yt I Z hm ?_ j9);apply PySem.W.callWith_K0 I.gE kp ?_;let(nm,q,bs,sn,sub,ab,col,dd,k0,k1,k2,k3,k5,cls):=c.obj;let(O,U,_):=cls s.H I.gE;let yo:=PySem.W.nsMap_none_of_in I.gE (Lc c) mI;let j:=I;let(hh,g,d,tk,os):=s;apply wpAny_call_exc_sub PySem.F.excBase_Exception O U yo (λh' e M=>?_) Ä;let(t,Y,_):=M.there;let ne:H e=Β:=by
  cases z:H e with
  |none=>rfl
  |some u=>
   let(o,eo):=agc (j.aE e u z);let nn:=M.new;symm
 apply(.ref e,_,j.Gm (h2:=h') (t2:=tk) [e] (λb J=>?_) ē Àd (λb o J g=>M.keeps b o g) (λb hb o g=>⟨_,M.keeps b o g⟩),Á,h e ne)
 .let:b≠e:=by simpa using J
  rw[aA this]
 .let:b=e:=by simpa using hb
  subst this;exact .inl ⟨ne,M.new⟩
 .let:b=e:=by simpa using hb
  subst this;rw[au] at hu;cases hu;exact tY Y ⟨Á,Á,_,Á,Á⟩
def Dp.inj{pins:cf}{σ:St}{H:Hp}{s:Sh}(I:Ã H s){d d':PyData}{v:V}(h:Dp X.K H v d):Dp X.K H v d'->d=d':=by
 let no:∀{a xs ys},Ák a xs->bx X.K H a ys->False:=λq j=>by
  let(_,_,(o1,n1,Z,O,_,_),_):=I.list q;let(_,_,(o2,g2,J,_,_),_):=I.tuple j;rw[Z] at g2;cases g2;rw[O] at J;exact absurd J É
 refine Dp.rec (motive_1:=λv d _=>∀d',Dp X.K H v d'->d=d') (motive_2:=λvs Y _=>∀U,jn X.K H vs U->Y=U)
  (λd' h=>by cases h;rfl) (λb d' h=>by cases h;rfl) (λi d' h=>by cases h;rfl) (λx d' h=>by cases h;rfl) (λq M F d' h=>?_) (λq M F d' h=>?_) (λd' h=>by cases h;rfl) (λ_ _ i1 i2 d' h=>?_) h d'
 .cases h with
  |lst j z=>
   let e:=I.Co q j;subst e;rw[F _ z]
  |tup j z=>exact(no q j).elim
 .cases h with
  |tup j z=>
   let e:=I.Sy q j;subst e;rw[F _ z]
  |lst j z=>exact(no j q).elim
 .cases h with
  |cons W r2=>rw[i1 _ W,i2 _ r2]
def dataOf:List (Value×PyData)->Value->PyData
 |[],_=>.none
 |(u,d)::r,x=>if u=x then d else dataOf r x
inductive U4(K:FR)(x:V)(y:V)(H:Hp)(Q:VK):Prop
 |mk (p:Addr) (xs:az) (ds:List PyData) (dx:PyData) (_:y=.ref p) (_:ä p xs) (_:jn K H xs ds) (_:Ál x dx) (_:(∀d∈ds,SeqAt.shaped d=true)) (_:SeqAt.shaped dx=true) (_:Q (.bl (ds.any λd=>PyData.eqv d dx)) H)
def U5{pins:cf}{σ:St}{H:Hp}{s:Sh}(I:Ã H s){xs:az}:∀{j:List PyData}{U:LV},jn X.K H xs j->bq xs U->
  ∀(i:Nat)(u:Value)(d:PyData),U[i]? =Α u->j[i]? =Α d->dataOf (U.zip j) u=d/\∃v,Dp X.K H v d/\RelV v u:=by
 induction xs with
 |nil=>
  intro j U hd q i u d h _;cases q;simp at h
 |cons x xs Y=>
  intro j U hd q i u d F h2;cases hd with
  | @cons _ _ e j d1 r1=>
  cases q with
  | @cons _ w _ U v1 r2=>
  show(if w=u then e else dataOf (U.zip j) u)=d/\_;cases i with
  |zero=>
   let O:=aU F;let W:=aU h2;subst O W;exact(ai Á,x,d1,v1)
  |succ i=>
   let(Z,v,J,M):=Y r1 r2 i u d F h2;apply(?_,v,J,M);by_cases z:w=u
   .subst z;rw[ai rfl];let:x=v:=v1.inj M;subst this;exact Dp.inj I d1 J
   .rw[ah z];exact Z
theorem U6{K:FR}{H:Hp}{xs:az}:∀{j:List PyData},jn K H xs j->xs.L=j.L:=by
 induction xs with
 |nil=>intro j h;cases h;rfl
 |cons x xs q=>
  intro j h;cases h with
  |cons _ r=>rw[dh,dh,q r]
theorem age{α β:Type}{f:α->Bool}{g:β->Bool}{xs:List α}:∀{ys:List β},xs.L=ys.L->(∀(i:Nat)x y,xs[i]? =Α x->ys[i]? =Α y->f x=g y)->xs.any f=ys.any g:=by
 induction xs with
 |nil=>
  intro ys h _;cases ys with
  |nil=>rfl
  |cons _ _=>simp at h
 |cons x xs q=>
  intro ys h k;cases ys with
  |nil=>simp at h
  |cons y ys=>rw[vb,vb,k 0 x y rfl rfl,q (À h) λi a b j h2=>k (i+1) a b j h2]
def Lj(hu:X.A.units+128<cLine):fj X (compareOp .In) (U4 X.K):=by
 intro pins s σ H x y v u Q I rx ry ⟨p,xs,ds,dx,F,hs,hd,O,sd,sx,q⟩;subst F;cases ry;let(ak,r,pl,hz):=I.list hs;let(as,z):=Dp.reads I dx x v O rx;let J:ak.L=ds.L:=by rw[<-r.L,U6 hd]
 apply SeqAt.in_listAt ţ pl.isList (λw M=>?_) ⟨.bl _,H,I,Á,?_⟩
 .let(i,hi,e):=nt (show w∈ak by simpa using M);let j:ak[i]? =Α w:=by rw[cJ hi,e]
  let h2:ds[i]? =Α ds[i]:=cJ (by omega);let(U,v',W,Y):=U5 I hd r i w _ j h2;rw[U];let(bs,Z):=Dp.reads I _ v' w W Y;let sh:=sd _ (bo h2);apply SeqAt.eqAt_reads _ dx X.A.in1 s w v bs as Z z (RO sh) (RO sx) ?_;let:=SeqAt.depth_of_shaped sh;show X.A.units+1+_<_
  af
 .rw[show ak.toArray.any ţ=ak.any ţ by simp];rw[age (g:=λd=>PyData.eqv d dx) J λi a b j h2=>by rw[(U5 I hd r i a b j h2).1]];exact q
end L2
namespace L2
open PySem PySem.Spec PyProof.Rows
def aZ{K:FR}{H:Hp}{a C dx:Addr}{fs:List (Str×V)}{f:Str}{v:V}{Q:V->Prop}(h:H a=Α Ϡ)(c:l8 K C)(n:ϱ f)(l:fs.Q f=Α v)(q:Q v):∃F j z Am J,V.ref a=.ref F/\H F=Α (.ins j z Am)/\l8 K j/\g8 K j f/\Am.Q f=Α J/\Q J:=⟨a,C,dx,fs,v,rfl,h,c,n,l,q⟩
def cj{N P:LS}{j:Scope}(k:j.kind=.function:=by rfl)(h:j.isCoroutine=false/\j.isGenerator=false/\N.Nodup/\N.take P.L=P/\(∀x∈P,j.names.Q x=Α .local\/j.names.Q x=Α .cell)/\∀y∈j.names,y.2≠ .free:=by decide+kernel):bG N P j:=⟨k,h.1,h.2.1,h.2.2.1,h.2.2.2.1,h.2.2.2.2.1,h.2.2.2.2.2⟩
abbrev jq:=List (Addr×HO)
def aV(H:Hp)(ns:jq):Prop:=∀x∈ns,H x.1=Α x.2
def aV.same(h:aV H ns)(s:aj H H'):aV H' ns:=λx j=>s _ _ (h x j)
def aV.upd(h:aV H ns)(n:∀x∈ns,x.1≠D):aV Èk ns:=λx j=>by rw[aA (n x j)];exact h x j
def aV.nil:aV H []:=λx j=>absurd j Ä
def Lk(Z:Nat->V->jq->Prop)(H:Hp)(ys:az):Prop:=∀i y,ys[i]? =Α y->∃ns,Z i y ns/\aV H ns
def AD(D:Addr)(Z:Nat->V->jq->Prop)(H:Hp)(ys:az):Prop:=∀i y,ys[i]? =Α y->∃ns,Z i y ns/\aV H ns/\∀x∈ns,x.1≠D
def AD.fill(h:AD D Z H ys):Lk Z H ys:=λi y e=>let ⟨ns,a,b,_⟩:=h i y e;⟨ns,a,b⟩
def AD.snoc{D:Addr}{Z:Nat->V->jq->Prop}{H j:Hp}{ys:az}{y:V}{o:HO}{ns:jq}(h:AD D Z H ys)(s:aj H j)(z:Z ys.L y ns)(l:aV j ns)(n:∀x∈ns,x.1≠D):AD D Z (upd j D o) (ys++[y]):=λi v e=>by
 by_cases hi:i<ys.L
 .rw[Fk hi] at e;let(F,a,b,c):=h i v e;exact(F,a,(b.E s).upd c,c)
 .rw[RD Å] at e;let q:i-ys.L=0:=by
   cases z:i-ys.L with
   |zero=>rfl
   |succ k=>rw[z] at e;simp at e
  rw[q] at e;let:y=v:=À e
  subst this;let:i=ys.L:=by grind
  subst this;exact(ns,z,l.upd n,n)
def su(s:aj H H1)(h:H p=Β):aj H (L2.upd H1 p o):=λb u e=>by rw[aA (eS e h)];exact s b u e
section
variable{K:FR}{g:TG}{tt:TT}{te:TE}{vs:LN}{σ:St}{H1:Hp}{D:Addr}{Qd:Hp->Prop}
def cz(H1:Hp)(D:Addr)(Z:Nat->V->jq->Prop)(i:Nat)(H:Hp):Prop:=∃ys,aj H1 H/\H D=Α Âw/\ys.L=i/\AD D Z H ys
def cz.zero(j:H1 D=Β):cz H1 D Z 0 Đ:=⟨[],su (λ_ _ e=>e) j,au,rfl,λi y e=>by simp at e⟩
def cz.step(j:H1 D=Β)(hi:i<1000000)(f:cz H1 D Z i H)(s:aj H H4)(z:Z i y ns)(l:aV H4 ns)(n:∀x∈ns,x.1≠D):
  lj D (cz H1 D Z (i+1)) y H4:=by
 let(ys,F,hd,q,fd):=f;subst q;refine⟨ys,s _ _ hd,j4 hi (by rw[yh];decide),ys++[y],su (F.R s) j,au,by simp,fd.snoc s z l n⟩
def cz.same(f:cz H1 D Z i H):aj H1 H:=let ⟨_,s,_⟩:=f;s
def cz.has(f:cz H1 D Z i H):H D≠none:=let ⟨_,_,e,_⟩:=f;by rw[e];simp
def cz.end(f:cz H1 D Z i H):∃ys,aj H1 H/\H D=Α Âw/\ys.L=i/\Lk Z H ys:=let ⟨ys,a,b,c,d⟩:=f;⟨ys,a,b,c,d.fill⟩
def mi{a:Addr}{xs:az}(j:Nat->Hp->Prop)(h0:j 0 Đ)(hl:∀i H,i<=xs.L->j i H->ä a xs)(hs:∀i x T H,xs[i]? =Α x->j i H->H T=Β->g ų ľ (upd H T (.tup [.int (i:Nat),x])) λσ2 J=>wipe σ2 vs=wipe σ vs/\tt σ2 J λb F=>
   if b=true then te σ2 F (lj D (j (i+1))) else j (i+1) F) (hd:∀H,j xs.L H->Qd H):
  ∃W:Nat->Nat->Hp->Prop,(∃m,W 0 m Đ)/\∀i m H,W i m H->
   ((xk K a).stop i H/\Qd H)\/((xk K a).go i H/\∃Nx:Hp->Prop,(∀H',Nx H'->∃O,O<m/\W (i+1) O H')/\∀x H',(xk K a).ox i H x H'->g x ľ H' λσ2 J=>wipe σ2 vs=wipe σ vs/\tt σ2 J λb F=>
    if b=true then te σ2 F Æn else Nx F):=by
 apply(λi m H=>m=xs.L-i/\i<=xs.L/\j i H,⟨xs.L,by simp,dj _,h0⟩,?_);rintro i m H ⟨rfl,hi,p⟩;let q:=hl i H hi p;by_cases M:i<xs.L
 .apply .inr ⟨⟨xs,xs[i],q,by simp[M]⟩,j (i+1),λH' p'=>⟨xs.L-(i+1),by grind,rfl,M,p'⟩,λx H' y=>?_⟩;let(T,z,U,Y,Z,e4):=y;subst U Z;exact hs i z T _ (e4 xs q) p Y
 .let e:i=xs.L:=by af
  subst e;exact .inl ⟨⟨xs,q,bC _⟩,hd H p⟩
end
def and_val{z tB:TT}{σ:St}{H:Hp}{Q:Bool->Hp->Prop}(j q:Bool)(F:∀K:Bool->Hp->Prop,K j H->z σ H K)(J:j=true->∀K:Bool->Hp->Prop,K q H->tB σ H K)(h:Q (j&&q) H):FG z tB σ H Q:=
 F _ (by
  cases j with
  |false=>exact h
  |true=>exact J Á _ h)
def or_val{z tB:TT}{σ:St}{H:Hp}{Q:Bool->Hp->Prop}(j q:Bool)(F:∀K:Bool->Hp->Prop,K j H->z σ H K)(J:j=false->∀K:Bool->Hp->Prop,K q H->tB σ H K)(h:Q (j||q) H):Kc z tB σ H Q:=
 F _ (by
  cases j with
  |true=>exact h
  |false=>exact J Á _ h)
def Ll{z tB:TE}{σ:St}{H:Hp}{Q:VK}(j q:Bool)(F:∀K:VK,K (.bl j) H->z σ H K)(J:j=false->∀K:VK,K (.bl q) H->tB σ H K)(h:Q (.bl (j||q)) H):FH z tB σ H Q:=
 F _ ⟨j,rfl,by
  cases j with
  |true=>exact h
  |false=>exact J Á _ h⟩
def Gs(c:Bool)(v:V)(q:∀K:Bool->Hp->Prop,K c H->tA σ H K)(j:c=true->∀K:VK,K v H->ta σ H K)(h2:c=false->∀K:VK,K v H->tb σ H K)(h:Q v H):yu tA ta tb σ H Q:=
 q _ (by
  cases c with
  |true=>exact j Á _ h
  |false=>exact h2 Á _ h)
def U7{D}(c:Bool)(v:V)(q:∀K:Bool->Hp->Prop,K c H->tA σ H K)(j:c=true->∀K:VK,K v H->ta σ H K)(h2:c=false->∀K:VK,K v H->tb σ H K)(h:D.nx ń H):Ah (yu tA ta tb) (qD i) D σ H:=
 Gs c v q j h2 h
def U8{i:Nat}{v:V}{σ:St}{H:Hp}{t u:TS}{D}(h:t {D with nx:=u D} ń H):qD i v σ H (Kf t u D):=h
section
variable{K:FR}{g:TG}{tt:TT}{te:TE}{vs:LN}{σ:St}{H1:Hp}{D:Addr}{Qd:Hp->Prop}
def agg(j:Nat->Hp->Prop)(O:j 0 Đ)(U:∀i H,i<=kvs.L->j i H->H d=Α ϯ)(hs:∀i k v T H,kvs[i]? =Α (k,v)->j i H->H T=Β->g ų ľ (upd H T Èi) λσ2 F=>wipe σ2 vs=wipe σ vs/\tt σ2 F λb z=>
   if b=true then te σ2 z (lj D (j (i+1))) else j (i+1) z) (hd:∀H,j kvs.L H->Qd H):
  ∃W:Nat->Nat->Hp->Prop,(∃m,W 0 m Đ)/\∀i m H,W i m H->
   ((xj d o kvs).stop i H/\Qd H)\/((xj d o kvs).go i H/\∃Nx:Hp->Prop,(∀H',Nx H'->∃M,M<m/\W (i+1) M H')/\∀x H',(xj d o kvs).ox i H x H'->g x ľ H' λσ2 F=>wipe σ2 vs=wipe σ vs/\tt σ2 F λb z=>
    if b=true then te σ2 z Æn else Nx z):=by
 apply(λi m H=>m=kvs.L-i/\i<=kvs.L/\j i H,⟨kvs.L,by simp,dj _,O⟩,?_);rintro i m H ⟨rfl,hi,p⟩;let q:=U i H hi p;by_cases J:i<kvs.L
 .apply .inr ⟨⟨q,J⟩,j (i+1),λH' Y=>⟨kvs.L-(i+1),by grind,rfl,J,Y⟩,λx H' y=>?_⟩;let(T,k,v,Z,e2,e3,e4):=y;symm
 .let e:i=kvs.L:=by af
  subst e;exact .inl ⟨⟨q,bC _⟩,hd H p⟩
end
section
variable{K:FR}{g:TG}{tb:TS}{D:Ends}{σ:St}{H:Hp}
def agh{d:Addr}{o:Obj}{kvs:List (Key×V)}(j:Nat->St->Hp->Prop)(J:j 0 σ H)(O:∀i σ H,i<=kvs.L->j i σ H->H d=Α ϯ)(hs:∀i k v T σ H,kvs[i]? =Α (k,v)->j i σ H->H T=Β->g ų σ (upd H T Èi) λσ2 z=>tb {D with nx:=j (i+1),ct:=j (i+1),bk:=D.nx} σ2 z) (hd:∀σ H,j kvs.L σ H->D.nx σ H):
  ∃W:Nat->Nat->St->Hp->Prop,(∃m,W 0 m σ H)/\∀i m σ H,W i m σ H->
   ((xj d o kvs).stop i H/\D.nx σ H)\/((xj d o kvs).go i H/\∃N:St->Hp->Prop,(∀σ' H',N σ' H'->∃M,M<m/\W (i+1) M σ' H')/\∀x H',(xj d o kvs).ox i H x H'->g x σ H' λσ2 z=>tb {D with nx:=N,ct:=N,bk:=D.nx} σ2 z):=by
 apply(λi m σ H=>m=kvs.L-i/\i<=kvs.L/\j i σ H,⟨kvs.L,by simp,dj _,J⟩,?_);rintro i m σ H ⟨rfl,hi,p⟩;let q:=O i σ H hi p;by_cases F:i<kvs.L
 .apply .inr ⟨⟨q,F⟩,j (i+1),λσ' H' U=>⟨kvs.L-(i+1),by omega,rfl,F,U⟩,λx H' y=>?_⟩;let(T,k,v,Y,Z,e3,e4):=y;symm
 .let e:i=kvs.L:=by omega
  subst e;exact .inl ⟨⟨q,bC _⟩,hd σ H p⟩
def agi{d:Addr}{o:Obj}{kvs:List (Key×V)}(j:Nat->St->Hp->Prop)(J:j 0 σ H)(O:∀i σ H,i<=kvs.L->j i σ H->H d=Α ϯ)(hs:∀i k v σ H,kvs[i]? =Α (k,v)->j i σ H->g v σ H λσ2 z=>tb {D with nx:=j (i+1),ct:=j (i+1),bk:=D.nx} σ2 z) (hd:∀σ H,j kvs.L σ H->D.nx σ H):
  ∃W:Nat->Nat->St->Hp->Prop,(∃m,W 0 m σ H)/\∀i m σ H,W i m σ H->
   ((Dd d o kvs).stop i H/\D.nx σ H)\/((Dd d o kvs).go i H/\∃N:St->Hp->Prop,(∀σ' H',N σ' H'->∃M,M<m/\W (i+1) M σ' H')/\∀x H',(Dd d o kvs).ox i H x H'->g x σ H' λσ2 z=>tb {D with nx:=N,ct:=N,bk:=D.nx} σ2 z):=by
 apply(λi m σ H=>m=kvs.L-i/\i<=kvs.L/\j i σ H,⟨kvs.L,by simp,dj _,J⟩,?_);rintro i m σ H ⟨rfl,hi,p⟩;let q:=O i σ H hi p;by_cases F:i<kvs.L
 .apply .inr ⟨⟨q,F⟩,j (i+1),λσ' H' U=>⟨kvs.L-(i+1),by omega,rfl,F,U⟩,λx H' y=>?_⟩;let(Y,k,Z):=y;symm
 .let e:i=kvs.L:=by omega
  subst e;exact .inl ⟨⟨q,bC _⟩,hd σ H p⟩
def U9{a b:Addr}{xs ys:az}(J:xs.L=ys.L)(Pv:Nat->St->Hp->Prop)(h0:Pv 0 σ H)(hl:∀i σ H,i<=xs.L->Pv i σ H->ä a xs/\ä b ys)(hs:∀i x y T σ H,xs[i]? =Α x->ys[i]? =Α y->Pv i σ H->H T=Β->g ų σ (upd H T Çx) λσ2 j=>tb {D with nx:=Pv (i+1),ct:=Pv (i+1),bk:=D.nx} σ2 j) (hd:∀σ H,Pv xs.L σ H->D.nx σ H):
  ∃W:Nat->Nat->St->Hp->Prop,(∃m,W 0 m σ H)/\∀i m σ H,W i m σ H->
   ((Dh K a b).stop i H/\D.nx σ H)\/((Dh K a b).go i H/\∃N:St->Hp->Prop,(∀σ' H',N σ' H'->∃M,M<m/\W (i+1) M σ' H')/\∀x H',(Dh K a b).ox i H x H'->g x σ H' λσ2 j=>tb {D with nx:=N,ct:=N,bk:=D.nx} σ2 j):=by
 refine ï;rintro i m σ H ⟨rfl,hi,p⟩;let(z,F):=hl i σ H hi p;by_cases q:i<xs.L
 .apply .inr ⟨⟨xs,ys,xs[i],ys[i],z,F,by simp[q],by simp[<-J,q]⟩,Pv (i+1),λσ' H' p'=>⟨xs.L-(i+1),by grind,rfl,q,p'⟩,λx H' y=>?_⟩;let(T,x1,y1,O,U,Y,Z,e5):=y;subst O Y;exact hs i x1 y1 T σ _ (Z xs z) (e5 ys F) p U
 .let e:i=xs.L:=by af
  subst e;exact .inl ⟨⟨xs,ys,z,F,.inl (bC _)⟩,hd σ H p⟩
end
section
variable{β:Type}(g:β->V)
def bX(t:List (Nat×β)):List (Key×V):=t.M λp=>((Sum.inl ((p.1:Nat):Int):Key),g p.2)
def cu(t:List (Nat×β))(s:Nat):Option β:=(t.find? λp=>decide (p.1=s)).M (·.2)
def eU(t:List (Nat×β))(s:Nat)(v:β):List (Nat×β):=if (t.any λp=>decide (p.1=s))=true then t.M (λp=>if p.1=s then (p.1,v) else p) else t++[(s,v)]
def Va(a b:Nat):decide ((Sum.inl ((a:Nat):Int):Key)=Sum.inl ((b:Nat):Int))=decide (a=b):=by
 grind
theorem AE(t:List (Nat×β)):∀(s:Nat),gK (bX g t) (Sum.inl ((s:Nat):Int))=(cu t s).M g:=by
 induction t with
 |nil=>exact @λs=>Á
 |cons p t j=>
  intro s;let j:=j s;delta bX cu gK at j⊢;rw[a8,l5,l5];rw[Va];cases decide (p.1=s) with
  |true=>rfl
  |false=>exact j
def agj(t:List (Nat×β))(s:Nat):((bX g t).any λkv=>decide (kv.1=Sum.inl ((s:Nat):Int)))=t.any λp=>decide (p.1=s):=by
 ext bX;rw[JG];congr 1;funext p;exact Va p.1 s
def Dq(t:List (Nat×β))(s:Nat)(v:β):putK (bX g t) (Sum.inl ((s:Nat):Int)) (g v)=bX g (eU t s v):=by
 ext putK eU;rw[agj];split
 .ext bX;rw[ck,ck];apply iU λp _=>?_
  af
 .ext bX;simp
def yO(t:List (Nat×β)):(bX g t).L=t.L:=by ext bX;rw[ao]
theorem Lm{t:List (Nat×β)}{i:Nat}{k:Key}{v:V}(h:(bX g t)[i]? =Α (k,v)):∃s b,t[i]? =Α (s,b)/\k=Sum.inl ((s:Nat):Int)/\v=g b:=by
 delta bX at h;rw[bA] at h;cases e:t[i]? with
 |none=>rw[e] at h;cases h
 |some p=>
  rw[e] at h;let h:=aU h;apply(p.1,p.2,Á,?_,?_)
  .exact(cb Prod.fst h).symm
  .exact(cb Prod.snd h).symm
theorem qP(t:List (Nat×β))(s:Nat):(t.any λp=>decide (p.1=s))=(cu t s).isSome:=by
 induction t with
 |nil=>rfl
 |cons p t j=>
  delta cu at j⊢;rw[vb,l5];cases e:decide (p.1=s) with
  |true=>rfl
  |false=>rw[RL];exact j
theorem Gu(s j:Nat)(v:β):∀t:List (Nat×β),cu (t.M λp=>if p.1=s then (p.1,v) else p) j=(cu t j).M λx=>if j=s then v else x:=by
 intro t;induction t with
 |nil=>exact Á
 |cons p t q=>
  let q:=q;delta cu at q⊢;rw[a8,l5,l5];let z:(if p.1=s then (p.1,v) else p).1=p.1:=by split <;> rfl
  rw[z];cases e:decide (p.1=j) with
  |false=>exact q
  |true=>
   let e:=mQ e;show some ((if p.1=s then (p.1,v) else p).2)=Α (if j=s then v else p.2);rw[<-e];by_cases h:p.1=s
   .rw[ai h,ai h]
   .rw[ah h,ah h]
theorem agk(t:List (Nat×β))(s j:Nat)(v:β)(h:cu t s=Β):cu (t++[(s,v)]) j=if j=s then some v else cu t j:=by
 induction t with
 |nil=>
  show((([(s,v)]:List (Nat×β)).find? λp=>decide (p.1=j)).M (·.2))=_;rw[l5];by_cases e:s=j
  .dsimp only;rw[eQ e,ai e.symm];rfl
  .dsimp only;rw[gD e,ah λz=>e z.symm];rfl
 |cons p t F=>
  delta cu at F h⊢;rw[l5] at h;rw[List.cons_append,l5,l5];cases es:decide (p.1=s) with
  |true=>rw[es] at h;cases h
  |false=>
   rw[es] at h;cases q:decide (p.1=j) with
   |false=>exact F h
   |true=>
    let q:=mQ q;let es:=atV es;rw[ah λz=>es (q.R z)]
theorem Gv(t:List (Nat×β))(s j:Nat)(v:β):cu (eU t s v) j=if j=s then some v else cu t j:=by
 ext eU;rw[qP];cases e:cu t s with
 |none=>
  exact agk t s j v e
 |some x=>
  rw[ai (show(some x).isSome=true from rfl),Gu];by_cases h:j=s
  .symm
  .symm
def Vb(t:List (Nat×β))(s:Nat)(v:β):(eU t s v).L<=t.L+1:=by
 ext eU;grind
def Vc(t:List (Nat×β))(s:Nat)(v:β):(eU t s v).M (·.1)=if (cu t s).isSome=true then t.M (·.1) else t.M (·.1)++[s]:=by
 ext eU;rw[qP];split
 .rw[ck];apply iU λp _=>?_
  af
 .simp
def agl{t:List (Nat×β)}{s:Nat}(h:cu t s=Β):s∉t.M (·.1):=by
 intro m;let(p,j,e):=bH.mp m;let q:(t.any λp=>decide (p.1=s))=true:=tw.mpr ⟨p,j,eQ e⟩;rw[qP,h] at q;cases q
theorem Gw{t:List (Nat×β)}{s:Nat}{v:β}(h:(t.M (·.1)).Nodup):((eU t s v).M (·.1)).Nodup:=by
 rw[Vc];cases e:cu t s with
 |some x=>exact h
 |none=>exact K5 h (agl e)
theorem AF{t:List (Nat×β)}(h:(t.M (·.1)).Nodup){s:Nat}{v:β}(q:(s,v)∈t):cu t s=Α v:=by
 induction t with
 |nil=>symm
 |cons p t j=>
  rw[a8,kZ] at h;delta cu at j⊢;grind
def yP(h:cu t s=Α v):(s,v)∈t:=by
 delta cu at h;let(p,j,e):=u4.mp h;grind
theorem agm(g:β->V):∀(t j:List (Nat×β)),((j++t).M (·.1)).Nodup->vB (bX g j) (bX g t)=bX g (j++t):=by
 intro t;induction t with
 |nil=>
  intro j _;rw[jG];rfl
 |cons p t q=>
  intro j h;let h2:p.1∉j.M (·.1):=by
   rw[bI,a8] at h;let:=(RP.mp h).2.2;exact λm=>this _ m _ eP Á
  let e:cu j p.1=Β:=by
   cases e:cu j p.1 with
   |none=>rfl
   |some x=>exact absurd (bH.mpr ⟨_,yP e,Á⟩) h2
  let q:=q (j++[p]) (by rw[rK];exact h);let ep:putK (bX g j) (Sum.inl ((p.1:Nat):Int)) (g p.2)=bX g (j++[p]):=by
   rw[Dq];ext eU;rw[qP,e];rfl
  show vB (putK (bX g j) (Sum.inl ((p.1:Nat):Int)) (g p.2)) (bX g t)=_;rw[ep,q,rK];rfl
end
section
variable{X:Cx}{pins:cf}{σ:St}{H:Hp}{s:Sh}{a:Addr}{kvs:List (Key×V)}{k:Key}{d:V}{u r:Value}{A:Around}{E:VP}
def agn(I:Ã H s)(e:H a=Α đ)(hl:kvs.L<sizeLine)(ry:RelV (kV k) u)(rd:RelV d r)(O:∀v,gK kvs k=Α v->∀W s',Ã H s'->RelV v W->Q W s')(h2:gK kvs k=Β->∀s',Ã (ŭ (.dK (Ŕ d))) s'->Q r s'):wpAny È A (call (.builtin "dict.setdefault") [.ref a,u,r]) Q E s:=by
 let(z,hd,vs,J,dd):=C6 I.aE e;let hz:vs.L<=sizeLine:=by rw[<-J.L];exact z
 let jN:(Ŕ d).L<=sizeLine:=by let:=C5 kvs k d;af
 apply Fp PySem.F.slot_dict_setdefault dd.typeIs PySem.F.entry_dict_setdefault (PySem.F.args_dict_setdefault_3 _ _ _) (kt_meets_setdefault Č a (xf ry) hd r) ⟨vs,dd,hz,λv Z=>?_,λY h' M hs=>?_⟩
 .let q:=J.val k;rw[Z] at q;cases j:gK kvs k with
  |none=>rw[j] at q;exact q.elim
  |some y=>
   rw[j] at q;exact O y j v _ (I.tok _) q
 .let q:=J.val k;rw[Y] at q;let j:gK kvs k=Β:=by
   cases j:gK kvs k with
   |none=>rfl
   |some y=>rw[j] at q;exact q.elim
  apply h2 j _ ?_;let U:∃q,h'.I a=Α q:=let ⟨q,_,_,hq,_⟩:=M;⟨q,hq⟩;exact KW I (by rw[e];exact True.intro) hs U (Uh jN hd (J.put k rd) M)
end
def ago(td J F:TE):TE:=λσ H Q=>td σ H λx H1=>∃a,x=.ref a/\F7 H1 a/\J σ H1 λy q=>F σ q λz j=>∃kvs k,j a=Α đ/\y=kV k/\kvs.L<sizeLine/\(∀v,gK kvs k=Α v->Q v j)/\(gK kvs k=Β->Q z (upd j a (.dK (Ŕ z))))
def agp(ho:PE X o td)(he:ϥ ty)(hf:PE X f tx)(m:M2 X o "setdefault" jg e f gH):PE X (.Call (.Attribute o "setdefault" jg) [e,f] [] gH) (ago td ty tx):=by
 show Ú;apply JJ m.base m.c7 m.line PySem.F.plainAttrs_dict PySem.F.slot_dict_setdefault PySem.F.type_dict_setdefault (aQ (ho pins s σ H _ I h) λu s1 ⟨x,H1,q,rx,a,ex,d,q1⟩=>?_);subst ex;obtain rfl:u=Value.ref a:=rx;let(t1,t2,_):=KY q d;refine Èx;rw[m.trees];refine JD Á (RF (Fi (aQ (he pins s1 σ H1 _ q q1) λiv s2 ⟨y,M,U,ry,q2⟩=>
  Fi (aQ (hf pins s2 σ M _ U q2) λfv s3 ⟨z,O,W,J,kvs,k,Y,ey,hl,q3,q4⟩=>RC ?_))))
 subst ey;exact agn W Y hl ry J (λv Z w' s4 j jm=>⟨_,O,j,jm,q3 v Z⟩) λen s4 j=>⟨_,_,j,J,q4 en⟩
section
variable{prog:Pg}{w:Wd}{Kt:Type}[DecidableEq Kt]
def agq(knd:KeyKind prog w Kt)(a b:Addr)(U:(a==sysModules)=false)(W:(b==sysModules)=false):
  MeetsIn prog w (Builtin.«dict.__eq__» ⟨[.ref a,.ref b],[]⟩) (λ_ R s=>∃vs:List (Kt×Value),s.H.DictOf knd a vs/\s.H.DictOf knd b []/\R (.ok (.ret (.bool vs.isEmpty))) s):=
 .of_wp λA R s ⟨vs,F,J,h⟩=>by
  show wpAny _ _ (Builtin.Dict.dictSlotArgs "__eq__" ⟨[.ref a,.ref b],[]⟩ >>= _) _ _ s;apply aG ?_;ext Builtin.Dict.dictSlotArgs;apply aG (wpAny_notOrdered_dict F.typeIs ?_);show wpAny _ _ (pure (Value.ref a,Value.ref b)) _ _ s;apply cY ?_;apply aG (wpAny_isInstance (b:=true) J.typeIs Ï ?_);show wpAny _ _ (Builtin.Dict.samePairs "dict.__eq__" a b >>= _) _ _ s;let(o,es,ep,q,g2,z,g4,O,g6):=F;let(o2,j,Vd,k1,k2,k3,k4,k5,k6):=J;let Y:es.u=vs.L:=by
   let:=O.L
   rwa [yi] at this
  let Z:j.u=0:=by
   let:=k5.L
   rwa [yi] at this
  apply aG ?_;ext Builtin.Dict.samePairs;ext Builtin.Dict.showsAll;rw[ah (by rw[U];exact eO),ah (by rw[W];exact eO)];apply aG (cY (aG (cY (aG (wpAny_dictEntries q z ?_)))));dsimp only;apply aG (wpAny_dictEntries k1 k3 ?_);rw[Y,Z];cases vs with
  |nil=>
   rw[ah Ä];let fin:wpAny Í A.in1 (pure true) (λa s'=>wpAny Í A.in1 (ret (Value.bool (a==true))) (λfin s'=>∃v,fin=Fin.done (Flow.ret v)/\R (Except.ok (Flow.ret v)) s') (λe s'=>R (Except.error e) s') s') (λe s'=>R (Except.error e) s') s:=cY (cY ⟨_,rfl,h⟩);apply aG (wpAny_dictEpoch q z ?_);rw[show(([]:List (Kt×Value)).L)=0 from rfl];let M:∀(f:Nat->Option Bool×Unit->Sem (ForInStep (Option Bool×Unit))),(forIn [:0] ((none,()):Option Bool×Unit) f:Sem _)=pure (none,()):=λf=>by
    simp
   rw[M];exact aG (cY fin)
  |cons p r=>
   rw[ai Ä];exact aG (Ry (cY (cY ⟨_,Á,h⟩)))
end
inductive ags(x:V)(y:V)(H:Hp)(Q:VK):Prop
 |mk (a b kvs:_) (_:x=.ref a) (_:y=.ref b) (_:H a=Α đ) (_:H b=Α Ϥ) (_:Q (.bl kvs.isEmpty) H)
def agt(hu:X.A.units+64<cLine):fj X Áz ags:=by
 intro pins s σ H x y v u Q I rx ry ⟨a,b,kvs,U,W,h1,h2,q⟩;subst U W;cases rx;cases ry;let(z,hd,vs,Z,dd):=C6 I.aE h1;let(z2,O,vs2,j,M):=C6 I.aE h2;cases j;let Y:vs.isEmpty=kvs.isEmpty:=by cases Z <;> rfl
 show wpAny È X.A (richCompare .Eq ħ (.ref b)) _ _ s;let J:s.TypeIs ħ "dict":=dd.typeIs;let hc:wpAny È X.A (call (.builtin "dict.__eq__") [.ref a,.ref b]) (λv s'=>v≠ .notImplemented/\(ô Q v s')) X.xe s:=
  Fp PySem.F.slot_dict_eq J PySem.F.entry_dict_eq (PySem.F.args_dict_eq_2 _ _) (agq Č a b hd O) ⟨vs,dd,M,(λz=>(by cases z)),.bl vs.isEmpty,H,I,rfl,by rw[Y];exact q⟩
 exact wpAny_richCompare_same_room J M.typeIs PySem.F.slot_dict_eq hc Ù
theorem agw{α β:Type}{R:α->β->Prop}{q:List α}:∀{j:List β},q.L=j.L->(∀(i:Nat)(a:α)(b:β),q[i]? =Α a->j[i]? =Α b->R a b)->Paired R q j:=by
 induction q with
 |nil=>
  intro j z _;cases j with
  |nil=>exact .nil
  |cons _ _=>cases z
 |cons a q J=>
  intro j z h;cases j with
  |nil=>cases z
  |cons b j=>exact .cons (h 0 a b Á Á) (J (À z) λi x y F h2=>h (i+1) x y F h2)
def agx:lg X (.type "range") (λxs H Q=>∃n:Nat,xs=[.int ((n:Nat):Int)]/\∀p,H p=Β->Q Ĝ (upd H p (.tH 0 n))):=by
 intro pins s σ H xs U Q I r h;let(n,rfl,q):=h;let(u,rfl,j):=vals1 r;let(t,rfl):=j;apply call_range_1 ?_;exact(.ref s.Z,_,I.laid Æf (bC _) (show gv X.prog X.w _ _ _ (.tH 0 ((n:Nat):Int)) from⟨_,_,_,ib _ rfl⟩),Á,q _ ġ)
def agy(hc:X.calm=true):lg X (.type "list") (λxs H Q=>∃(p:Addr)(n:Nat),xs=[.ref p]/\H p=Α (.tH 0 ((n:Nat):Int))/\n<=1000000/\∀l,H l=Β->Q Âa (ϑ (.lst ((List.range n).M λi=>V.int ((i:Nat):Int))))):=by
 intro pins s σ H xs us Q I r h;let(p,n,rfl,W,hn,q):=h;let(u,rfl,rx):=vals1 r;cases rx;let(t,u,v,e):=(I.aE p _ W);apply call_list_range (n:=n) ă e (small_one Ð Ð Å Ù) (by rw[rangeSize_one];split <;> simp_all) Ù λh' tk O M hk U F=>?_;let Z:bq ((List.range n).M λi=>V.int ((i:Nat):Int)) O.toList:=by
  apply agw (by rw[ao,il,yi,F.1]) λi a b z h2=>?_;rw[aa8] at h2;let(t',Y):=F.2 i b h2;rw[bA] at z;cases er:Él[i]? with
  |none=>symm
  |some j=>
   rw[er] at z;let(e1,J):=bp.mp er;rw[abd] at J;subst J;cases z;subst Y;apply(t',?_);simp
 apply(.ref s.Z,_,I.laid (t':=tk) hk (bC _) (show gv X.prog X.w _ h' _ (.lst ((List.range n).M λi=>V.int ((i:Nat):Int))) from⟨?_,O.toList,M,Z,U⟩),Á,q _ ġ);rw[ao,il,yh]
 af
abbrev qQ:=eN×Addr×Value
def Ln(acc b9:List qQ):List qQ:=b9.foldl (λa q=>storedH a q.1 q.2.1 q.2.2) acc
section
variable{prog:Pg}{w:Wd}
def Ve{h h':Heap}{k:eN}{a:Addr}(i:(tupleKind Åp).is h k a)(e:∀o,h.I a=Α o->h'.I a=Α o):(tupleKind Åp).is h' k a:=by
 let(o,j,n,q,h2,z,F):=i;exact(o,j,n,e o q,h2,z,F)
def agz{h h':Heap}{S:Addr}{xs:List qQ}(d:h.DictOfH (tupleKind Åp) S xs)(e:∀o,h.I S=Α o->h'.I S=Α o)(U:∀x∈xs,∀o,h.I x.2.1=Α o->h'.I x.2.1=Α o):h'.DictOfH (tupleKind Åp) S xs:=by
 let(o,es,ep,q,z,F,J,M,O):=d;exact(o,es,ep,e o q,z,F,J,λx j=>Ve (M x j) (U x j),O)
def agA{xs:List qQ}{k:eN}{a:Addr}{v:Value}{x:qQ}(h:x∈storedH xs k a v):x.2.1=a\/∃y∈xs,x.2.1=y.2.1:=by
 delta storedH at h;split at h
 .let(y,j,e):=bH.mp h;apply .inr ⟨y,j,?_⟩;delta putAt at e;split at e <;> rw[<-e]
 .rcases fw.mp h with h|h
  .exact .inr ⟨x,h,Á⟩
  .let:x=(k,a,v):=by simpa using h
   exact .inl (by rw[this])
def agB(xs:List qQ)(k:eN)(a:Addr)(v:Value):(storedH xs k a v).L<=xs.L+1:=by
 ext storedH;grind
end
def sv(kvs:List (eN×V))(ts:List (eN×Addr×V)):List (eN×V):=ts.foldl (λacc t=>putK acc t.1 t.2.2) kvs
theorem agC(ts:List (eN×Addr×V)):∀(kvs:List (eN×V)),(sv kvs ts).L<=kvs.L+ts.L:=by
 induction ts with
 |nil=>exact @λkvs=>bC _
 |cons t ts j=>
  intro kvs;let q:=j (putK kvs t.1 t.2.2);let h2:=C5 kvs t.1 t.2.2;show(sv (putK kvs t.1 t.2.2) ts).L<=_;rw[dh]
  af
theorem agD{H:Hp}:∀{ts:List (eN×Addr×V)}{prs:List qQ}{kvs:List (eN×V)}{xs:List qQ},Paired (λ(t:eN×Addr×V)(q:qQ)=>t.1=q.1/\t.2.1=q.2.1/\H t.2.1=Α (.tup (t.1.M kV))/\RelV t.2.2 q.2.2) ts prs->KT H kvs xs->KT H (sv kvs ts) (Ln xs prs):=by
 intro ts prs kvs xs j;induction j generalizing kvs xs with
 |nil=>exact λk=>k
 | @cons t q ts prs h r ih=>
  intro k;let(z,h2,F,J):=h;apply ih (kvs:=putK kvs t.1 t.2.2) (xs:=storedH xs q.1 q.2.1 q.2.2) ?_;rw[<-z,<-h2];exact k.put t.1 F J
section
variable{X:Cx}
def agE(hu:X.A.units+3<cLine)(K1:X.calm=true):lg X (.type "dict") (λxs H Q=>∃(a:Addr)(ps:LA)(ts:List (eN×Addr×V)),xs=[.ref a]/\Ák a Àk/\Paired (λp(t:eN×Addr×V)=>H p=Α (.tup [.ref t.2.1,t.2.2])/\H t.2.1=Α (.tup (t.1.M kV))) ps ts/\
  ∀p,H p=Β->Q Ĝ (upd H p Èb)):=by
 intro pins s σ H xs us Q I r q;let(a,ps,ts,ex,hq,O,q):=q;subst ex;let(u,eu,rx):=vals1 r;subst eu;cases rx;let(ak,W,pl,hz):=I.list hq;let J:=Ur W;subst J;rw[ao] at hz;let z:∀{ps:LA}{ts:List (eN×Addr×V)},Paired (λp(t:eN×Addr×V)=>H p=Α (.tup [.ref t.2.1,t.2.2])/\H t.2.1=Α (.tup (t.1.M kV))) ps ts->
   ∃prs:List qQ,Paired (λ(t:eN×Addr×V)(q:qQ)=>t.1=q.1/\t.2.1=q.2.1/\H t.2.1=Α (.tup (t.1.M kV))/\RelV t.2.2 q.2.2) ts prs/\prs.L=ps.L/\∀(j:Nat)(q:qQ),prs[j]? =Α q->∃b:Addr,ps[j]? =Α b/\IsTup s.H b #[.ref q.2.1,q.2.2]/\(tupleKind Č).is s.H q.1 q.2.1:=by
  intro ps ts O;induction O with
  |nil=>exact([],.nil,Á,λj q e=>by simp at e)
  | @cons p t ps ts h _ ih=>
   let(prs,r1,r2,r3):=ih;let(_,ak,W,ob,o1,o2,n,o3):=(I.aE p _ h.1);let(u,y,J,ru,ry):=vals2 W;subst J;cases ru;apply((t.1,t.2.1,y)::prs,.cons ⟨Á,Á,h.2,ry⟩ r1,by rw[dh,dh,r2],λj q e=>?_);cases j with
   |zero=>
    let e':=aU e;subst e';exact(p,Á,⟨ob,o1,o2,n,o3⟩,yI I.aE h.2)
   |succ j=>
    let(b,Y,F):=r3 j q (À e);exact(b,À Y,F)
 let(prs,fG,hl,ip):=z O;let(o,n,ho,hc,hd,vC):=pl;refine Uo (prs:=prs) (DD:=λh acc=>h.DictOfH Ée s.Z acc/\∀x∈acc,x.2.1<s.Z) (G:=λh q u y=>u=.ref q.2.1/\y=q.2.2/\q.2.1<s.Z/\(tupleKind Č).is h q.1 q.2.1) (st:=λa q=>storedH a q.1 q.2.1 q.2.2) (I.ok.hd K1) ho hc hd vC (by simp[hl]) Å ⟨Heap.DictOfH.new s.H,by simp⟩ (λ_ _ _ d k=>⟨agz d.1 (λo e=>k _ o (bC _) e) λx U o e=>k _ o (tp (d.2 x U)) e,d.2⟩) (λ_ _ _ _ _ g k=>⟨g.1,g.2.1,g.2.2.1,Ve g.2.2.2 λo e=>k _ o g.2.2.1 e⟩)
  (λ_ acc q _ _ _ _ g d hz k=>by
   let(rfl,rfl,g1,g2):=g;apply wpAny_dictSet_heap (knd:=tupleKind Č) (Fo (qz (show X.A.units+1+1<=X.A.units+3 by simp_all) hu)) g2 d.1 (λh' M=>k h' _ ⟨M,λx U=>?_⟩) hz;rcases agA U with e|⟨y,hy,e⟩
   .rw[e];exact g1
   .rw[e];exact d.2 y hy) (λa q=>agB a q.1 q.2.1 q.2.2) Èy λh' tk j7 k=>?_
 .let(b,Y,F,Z):=ip j q' e;exact(b,_,_,by simp_all,F,rfl,rfl,by let(o,_,_,g,_):=Z;exact di g,Z)
 .let M:=yj.mpr (u6 I.big);let b7:(sv [] ts).L<=sizeLine:=by
   apply gq (agC ts []) ?_;rw[tm,vd,Paired.length fG,hl];omega
  let qI:=I.aE.fresh (bC _);let((q2,es,ep,ua,g2,g3,g4,g5,g6),_):=j7;let kt:KT (ĕ Èb) (sv [] ts) (Ln [] prs):=(agD fG (kvs:=[]) (xs:=[]) .nil).keeps λb ys e=>by
   rw[aA (eS e qI)];omega
  exact(.ref s.Z,ĕ Èb,I.laid (t':=tk) k (bC _) (⟨b7,M,Ln [] prs,kt,q2,es,ep,ua,g2,g3,g4,g6⟩),Á,q _ qI)
end
end L2
namespace HT
open PySem PyProof.Rows
section
open PySem.SeqAt
open PySem.AutoSeq1 (wpAny_loadPart')
open PySem.MeetsSeq PySem.MeetsSeq2 PySem.MeetsSeq3
def Vf{items:Array Value}{i:Nat}{v:Value}{r:LV}(h:items.toList.drop i=v::r):items[i]? =Α v/\items.toList.drop (i+1)=r:=by
 let j:(items.toList.drop i)[0]? =Α v:=by rw[h];rfl
 rw[abe,RQ,aa8] at j;apply(j,?_);let:(items.toList.drop i).drop 1=r:=by rw[h];rfl
 rw[List.drop_drop] at this;exact this
theorem agG(l b:Addr)(items j:Array Value)(n n2:Nat)(dd nJ:OA)(sl oB:AO)(k:Nat):∀(i:Nat)(ns ms:LI),IntsAre (items.toList.drop i) ns->IntsAre (j.toList.drop i) ms->ns.L=k->i<=items.u->i<=j.u->
  Meets (Builtin.«list.__eq__.loop» ⟨[.ref l,.ref b,rawInt i,rawInt 0],[]⟩)
   (λ_ R s=>s.U l=Α {cls:=.type "list",dict:=dd,data:=.seq items n,slots:=sl}/\s.U b=Α {cls:=.type "list",dict:=nJ,data:=.seq j n2,slots:=oB}/\
    R (.ok (.ret ώ)) s):=by
 induction k with
 |zero=>
  intro i ns ms hi O hk h1 h2 prog w A R s h;let(Y,g,d,tk,os):=s;let(z,q,h):=h;let W:ns=[]:=RR.mp hk;subst W;let J:=hi.L;let F:=O.L;rw[aa7,yi] at J F;simp only[tm] at J;let M:items[((i:Nat):Int).toNat]? =Β:=by simp;af
  wp_walk using jF z,jF q
  rw[M]
  wp_walk using jF z,jF q
  show R (.ok (.ret (.bool (decide (items.u<j.u))))) _;let e:lexLt [] ms=decide (items.u<j.u):=by
   cases ms with
   |nil=>
    rw[S3];simp only[tm] at F;exact(gD Ù).symm
   |cons c ms=>
    rw[S4];simp only[dh] at F;exact(eQ (by grind)).symm
  rw[<-e];exact h
 |succ k ih=>
  intro i ns ms hi O hk h1 h2 prog w A R s h;let(Y,g,d,tk,os):=s;let(z,q,h):=h;let J:=hi.L;let F:=O.L;rw[aa7,yi] at J F;generalize ed1:items.toList.drop i=d1 at hi;generalize ed2:j.toList.drop i=d2 at O;cases hi with
  |nil=>cases hk
  | @cons a t AB tK hi'=>
   let(Z,g2):=Vf ed1;let M:items[((i:Nat):Int).toNat]? =Α (.int a t):=À Z
   cases O with
   |nil=>
    let U:j[((i:Nat):Int).toNat]? =Β:=by simp only[tm] at F;simp;symm
    wp_walk using jF z,jF q
    rw[M,U]
    wp_walk using jF z,jF q
    show R (.ok (.ret (.bool (decide (items.u<j.u))))) _;rw[S5] at h;simp only[tm,dh] at J F;rw[gD Ù];exact h
   | @cons c u ws' nM Gx=>
    let(g3,g4):=Vf ed2;let U:j[((i:Nat):Int).toNat]? =Α (.int c u):=À g3
    let hc:((i:Int)+1)=((i+1:Nat):Int):=by push_cast;rfl
    let z1:i<items.u:=by simp only[dh] at J;af
    let z2:i<j.u:=by simp only[dh] at F;af
    rw[vz] at h
    wp_walk using jF z,jF q
    rw[M,U];apply aG (EqGives.int a c t u prog w _ _ _ _ ?_);cases qF:(a==c) with
    |true=>
     rw[ai (À qF)] at h
     wp_walk
     rw[hc];exact⟨vc plain_eq_loop _,BY entry_eq_loop (by
      rw[BZ plain_eq_loop _];exact ih (i+1) tK nM (by rw[g2];exact hi') (by rw[g4];exact Gx) (À hk) z1 z2 prog w A R _ ⟨z,q,h⟩)⟩
    |false=>
     rw[ah (À qF)] at h
     wp_walk using jF z,jF q
     rw[M,U];let r6:=Ky A.in1 ⟨Y,g,d,tk,os⟩ a t c u prog w
     wp_walk using r6
     exact h
def agI(l b:Addr)(items j:Array Value)(n F:Nat)(dd J:OA)(sl O:AO)(ns ms:LI)(hi:IntsAre items.toList ns)(M:IntsAre j.toList ms):
  Meets (Builtin.«list.__lt__» ⟨[.ref l,.ref b],[]⟩)
   (λ_ R s=>s.U l=Α {cls:=.type "list",dict:=dd,data:=.seq items n,slots:=sl}/\s.U b=Α {cls:=.type "list",dict:=J,data:=.seq j F,slots:=O}/\
    R (.ok (.ret ώ)) s):=by
 intro prog w A R s h;let(W,g,d,tk,os):=s;let(z,q,h):=h;let U:=AutoSeq1.sub_list_list
 wp_walk using jF z,jF q
 exact⟨vc plain_eq_loop _,BY entry_eq_loop (by
  rw[BZ plain_eq_loop _];exact agG l b items j n F dd J sl O _ 0 ns ms hi M Á (dj _) (dj _) prog w A R _ ⟨z,q,h⟩)⟩
end
end HT
namespace HT
open PySem PyProof.Rows
section
open PySem.SeqAt
open PySem.AutoSeq1 (wpAny_loadPart')
open PySem.MeetsSeq PySem.MeetsSeq2 PySem.MeetsSeq3
def agJ(l b la lb:Addr)(n n2:Nat)(dd nJ:OA)(sl oB:AO)(a c:Int)(t u:Tok)(e r:Bool)(W:e=true->r=false):
  Meets (Builtin.«tuple.__lt__» ⟨[.ref l,.ref b],[]⟩)
   (λA R s=>s.U l=Α {cls:=.type "tuple",dict:=dd,data:=.seq #[.int a t,.ref la] n,slots:=sl}/\s.U b=Α {cls:=.type "tuple",dict:=nJ,data:=.seq #[.int c u,.ref lb] n2,slots:=oB}/\
    EqAt A.in1 s Åm Ål e/\(∀(prog:Pg)(w:Wd)(E:VP)(Q:VP),Q (.bool r) s->wpAny Í A.in1 (richCompare .Lt Åm Ål) Q E s)/\
    R (.ok (.ret (.bool (if a=c then r else decide (a<c))))) s):=
 .of_wp λprog w A R s h=>by
  let(z,g,d,tk,os):=s;let(hl,hb,U,Y,h):=h;let f2:=atD
  wp_walk using jF hl,jF hb,wpAny_forIn_list _ (λb9 b s'=>b.1=Β/\s'=⟨z,g,d,tk,os⟩/\(b9=[(Value.int a t,Value.int c u),(Value.ref la,Value.ref lb)]\/(b9=[(Value.ref la,Value.ref lb)]/\a=c)\/(b9=[]/\a=c/\e=true))) _
  case turn=>
   rintro⟨y,x⟩ b9 b s' ⟨F,rfl,hz⟩;rcases hz with hz|⟨hz,j⟩|⟨hz,_⟩
   .injection hz with hyx hrest;injection hyx with hy hx;subst hy hx;let(Z,O,M):=S6 A.in1 ⟨z,g,d,tk,os⟩ a t c u;apply aG (O prog w _ _ ?_);cases Z with
    |true=>
     wp_walk
     exact(Á,Á,.inr (.inl ⟨hrest,M.mp Á⟩))
    |false=>
     rw[ah (λq=>absurd (M.mpr q) eO)] at h;let J:=Ky A.in1 ⟨z,g,d,tk,os⟩ a t c u prog w
     wp_walk using J
     exact(_,Á,À h)
   .injection hz with hyx hrest;injection hyx with hy hx;subst hy hx;apply aG (U prog w _ _ ?_);cases e with
    |true=>
     wp_walk
     exact(Á,Á,.inr (.inr ⟨hrest,j,Á⟩))
    |false=>
     rw[ai j] at h;let J:=Y prog w
     wp_walk using J
     exact(_,Á,À h)
   .cases hz
  case fin=>
   rintro⟨b1,b2⟩ s' ⟨F,rfl,hz⟩;simp only at F;subst F;rcases hz with hz|⟨hz,j⟩|⟨hz,j,he⟩
   .cases hz
   .cases hz
   .rw[ai j,W he] at h
    wp_walk
    exact(_,Á,by simpa [Builtin.Tuple.tupleCompareSizes] using h)
  case h=>
   exact(Á,Á,.inl Á)
end
end HT
namespace L2
open PySem PySem.Spec PyProof.Rows
inductive Vg(K:FR)(x:V)(y:V)(H:Hp)(Q:VK):Prop
 |mk (p q la lb:Addr) (a c:Int) (ns ms:LI) (_:x=.ref p) (_:y=.ref q) (_:š p [.int a,.ref la]) (_:š q [.int c,.ref lb]) (_:ä la Ŭ) (_:ä lb (ms.M V.int)) (_:Q (.bl (if a=c then HT.lexLt ns ms else decide (a<c))) H)
theorem agK:∀ns:LI,HT.lexLt ns ns=false:=by
 intro ns;induction ns with
 |nil=>exact Á
 |cons x ns j=>
  rw[HT.vz,ai rfl];exact j
theorem Vh{ns:LI}:∀{U:LV},bq Ŭ U->IntsAre U ns:=by
 induction ns with
 |nil=>
  intro _ r;cases r;exact .nil
 |cons n ns j=>
  intro _ r;cases r with
  |cons h t=>
   let(tk,rfl):=h;exact .cons n tk (j t)
def agL(hu:X.A.units+128<cLine):fj X Èh (Vg X.K):=by
 intro pins s σ H x y v u Q I rx ry ⟨p,q,la,lb,a,c,ns,ms,e1,e2,hp,hq,h1,h2,k⟩;subst e1 e2;cases rx;cases ry;let(ak,rv,(o,ho,hc,n,hd),_):=I.tuple hp;let(oC,Ay,(o2,r9,lh,n2,dg),_):=I.tuple hq;let(u1,u2,ei,r1,r2):=vals2 rv;let(w1,w2,z,r3,r4):=vals2 Ay;subst ei z;let(t,rfl):=r1;let(t2,rfl):=r3;cases r2;cases r4;let(J,O,(p1,m1,g1,c1,d1,f1),_):=I.list h1;let(M,U,(p2,m2,g2,c2,d2,f2),_):=I.list h2;let i1:=Vh O;let i2:=Vh U;let(cls,Ac,data,sl):=o;let(S8,j,data2,oB):=o2;let(auA,auB,data3,W):=p1;let(auC,auD,auE,Y):=p2;simp only at hc hd lh dg c1 d1 f1 c2 d2 f2;subst hc hd lh dg c1 d1 f1 c2 d2 f2;let(as,ra):=Dp.reads I (.list (ns.M PyData.int)) Åm Åm (.lst h1 (qO ns)) rfl;let(bs,rb):=Dp.reads I (.list Äw) Ål Ål (.lst h2 (qO ms)) rfl;let Z:SeqAt.EqAt X.A.in1 s Åm Ål (PyData.eqvAll (ns.M PyData.int) Äw):=by
  apply SeqAt.eqAt_reads _ (.list Äw) X.A.in1 s Åm Ål as bs ra rb (RO (shaped_ints ns)) (RO (shaped_ints ms)) ?_;let:=SeqAt.depth_of_shaped (shaped_ints ns);grind
 rw[xo] at Z;let bQ:∀(prog:Pg)(w:Wd)(E:VP)(Q:VP),Q (.bool Ϣ) s->wpAny Í X.A.in1 (richCompare .Lt Åm Ål) Q E s:=λprog w E Q h=>
  RE (op:=.Lt) ⟨_,g1,rfl⟩ ⟨_,g2,rfl⟩ PySem.F.slot_list_lt PySem.F.entry_list_lt (PySem.F.args_list_lt_2 _ _) (HT.agI la lb J.toArray M.toArray m1 m2 none none W Y ns ms (by simpa using i1) (by simpa using i2))
   ⟨g1,g2,show Value.bool Ϣ≠Value.notImplemented/\Q (.bool Ϣ) s from⟨(λx=>nomatch x),h⟩⟩ (by show X.A.units+1<cLine;af)
 let Lo:decide (ns=ms)=true->HT.lexLt ns ms=false:=λe=>by
  let:ns=ms:=mQ e;rw[this];exact agK ms
 exact RE (op:=.Lt) ⟨_,ho,Á⟩ ⟨_,r9,Á⟩ PySem.F.slot_tuple_lt PySem.F.entry_tuple_lt (PySem.F.args_tuple_lt_2 _ _) (HT.agJ p q la lb n n2 Ac j sl oB a c t t2 (decide (ns=ms)) Ϣ Lo)
  ⟨ho,r9,Z,bQ,(λx=>nomatch x),.bl _,H,I,rfl,k⟩ Ù
end L2
namespace L2
open PySem PySem.Spec PyProof.Rows
def Lp(K:FR)(c T:Addr):Prop:=∀h:Heap,K.In h->PySem.W.CodeHd h c T
def Dt(mg:MG)(base:Heap):Prop:=∃bm O,mg "__builtins__"=Α (.ref bm)/\bm≠builtinsNs/\base.I bm=Α O/\O.cls=.type "module"/\O.dict=Α builtinsNs/\O.data=.plain
section
variable{X:Cx}{x:Str}{i:Nat}{p pos:Pos}{e:Expr}{es:List Expr}{t:TA}{k:Nat}{f:Addr}{fd:FD}{ps:LS}{sp:Sp}
def agU(i:Nat)(f:Addr)(sp:Sp)(t:TA):TE:=λσ H Q=>σ[i]? =Α Âr/\t σ H λvs H1=>sp vs H1 Q E0
def agV(F:ý aF k f fd ps sp)(hr:eT k X.A)(hk:PySem.W.keepIn X.K ď=true)(hb:ŉ [])(hN:X.N[i]? =Α x)(hv:yq X.env.scope x)(ha:PA X (e::es) t)(hd:(x==("__debug__":Str))=false:=by decide)(nB:(x==("__classdict__":Str))=false:=by decide)(he:starEach (e::es) X.env=(false,eval e X.env)::starEach es X.env:=by rfl) (dZ:(backTo pos û).any (·.1)=false:=by rfl):PE X (.Call Ϗ (e::es) [] pos) (agU i f sp t):=by
 show Ú;let(hf,h):=h;let lv:=Ss (X:=X) (pos:=p) hN hv hd nB pins s σ H (λv H1=>v=.ref f/\H1=H) I ⟨_,hf,rfl,rfl⟩;apply zU (jE lv (λu s1 ⟨v,H1,Y,rv,ev,eh⟩=>?_) λ_ _ z=>z);subst ev eh;cases rv;apply PySem.W.callWith_K (h₀:=X.base) Y.ok.mod.wK hk (aQ (ha pos pins s1 σ H1 _ Y h) λU M ⟨vs,O,j,r,q⟩=>⟨j.gE,?_⟩) he dZ;let hl:(U++[]).L=ps.L:=by rw[jG,<-r.L];exact F.len _ _ _ _ q
 let Z:=hb M U j.gE hl;rw[jG] at Z;apply Fd (yg (F.run X.A X.stack M O ⟨U,[]⟩ U vs _ E0 hr j.Cy Z r q) λr s' J=>?_);cases r with
 |error e=>exact tX pins σ O M e s' j J
 |ok fl=>
  cases fl with
  |ret u=>exact j.after J
  |next=>exact False.elim J
  |brk=>exact False.elim J
  |cont=>exact False.elim J
end
end L2
namespace PySem
namespace XL
open AutoSeq1 (wpAny_loadPart')
section
variable{prog:Pg}{w:Wd}{A:Around}{E:VP}{s:Sh}{d S:Addr}{K:Type}[DecidableEq K]{knd:KeyKind prog w K}{kvs:List (K×Value)}{ep:Nat}
def agW{Q:Bool->Shared->Prop}(j:s.TypeIs Áf "dict")(h:Q false s):wpAny Í A (Builtin.List.listLengthHint Áf) Q E s:=by
 ext Builtin.List.listLengthHint;apply aG (wpAny_specialOf j F.slot_dict_len.Q ?_);generalize hid:("dict.__len__":String)=q
 wp_delta
 rw[show splitId q=Α ("dict","__len__") from by subst hid;decide+kernel];subst hid;apply aG (wpAny_isInstance (T:="dict") (b:=true) j (by rw[isSubtype_type];kernel_rfl) ?_);refine abf (λz=>absurd z Ð) Èz;refine abf Èz (λz=>absurd É z);apply aG (RM j ?_);exact cY h
def agX{R:Result->Shared->Prop}(hh:A.handled=Β)(hd:(d==sysModules)=false)(O:s.H.DictAt knd d kvs ep)(b7:kvs.L<=sizeLine)(res:Value)(c0:Nat)(M:s.U S=Α {cls:=.type "list",data:=.seq #[] c0})(hR:∀h' tk U j,(∀b o,b≠S->s.U b=Α o->h'.I b=Α o)->h'.I S=Α {cls:=.type "list",dict:=Β,data:=.seq U j,slots:= #[]}->
   ItemsOf (λi v=>∃k x,kvs[i]? =Α (k,x)/\knd.is k v=true) U kvs.L->R (.ok (.ret res)) {s with heap:=h',toks:=tk}):
  wpAny Í A.in1 (Builtin.List.listExtendWith (.ref S) Áf res)
   (λfin s'=>match fin with|.done f=>R (.ok f) s'|.again j=>j.quiet=true/\codeAny Í A j R s') (λe s'=>R Ϯ s') s:=by
 let hT:=O.dictOf.typeIs;let J:S≠d:=λe=>by
  let(o,ho,hc):=hT;rw[e] at M;rw[M] at ho;cases ho;exact absurd (show Value.type "list"=Value.type "dict" from hc) Ð
 let vD:S≠s.Z:=fV (di M);let hdI:d≠s.Z:=fV O.lt_size;let W:=(Walks.dictKeys (knd:=knd) (A:=A.in1) hh s.Z d hdI kvs ep).toS;let ia:∀(h:Heap)(Z tk:Nat),h.IsKeyIter s.Z d 0 kvs.L ep->h.DictAt knd d kvs ep->(∀b o,b≠S->s.U b=Α o->h.I b=Α o)->
   h.I S=Α {cls:=.type "list",data:=.seq #[] Z}->codeAny Í A (.builtin "list.extend.loop" ⟨[.ref S,.ref s.Z,res],[]⟩) R {s with heap:=h,toks:=tk}:=by
  intro h Z tk iR m5 hk z;apply codeAny_extend_loopS W b7 S (by simp[vD,J]) res kvs.L 0 _ #[] Z Á (dj _) ⟨iR,m5⟩ z (ItemsOf.nil _) λs' U j AI Lq AG=>?_;rw[Moved.eq_with AI];apply hR s'.H s'.toks U j (λb o q e=>AI.H b o (λie=>?_) (hk b o q e)) Lq AG;rcases a9.mp ie with e'|ie
  .exact q e'
  .exact absurd (di e) (by rw[iT.mp ie];exact nr _)
 ext Builtin.List.listExtendWith;apply aG (RM hT ?_);let h1:Builtin.List.listSameRef (.ref S) Áf=false:=by simp[Builtin.List.listSameRef,J]
 let h2:(Value.type "dict"==Value.type "list")=false:=by decide
 let h3:(Value.type "dict"==Value.type "tuple")=false:=by decide
 simp only[h1,h2,h3,abg,RJ,RK];apply aG (wpAny_pyIter_dict (knd:=knd) hd O ?_);let Y:=O.push {cls:=.type "dict_keyiterator",data:=.fields #[.ref d,.int 0 0,.int kvs.L 0,.int ep 0]};let F9:(s.o {cls:=.type "dict_keyiterator",data:=.fields #[.ref d,.int 0 0,.int kvs.L 0,.int ep 0]}).IsKeyIter s.Z d 0 kvs.L ep:=⟨_,ib _ rfl,rfl,rfl⟩;let z:=dv {cls:=.type "dict_keyiterator",data:=.fields #[.ref d,.int 0 0,.int kvs.L 0,.int ep 0]} M;apply aG (Fc (agW (s:={s with heap:=s.o {cls:=.type "dict_keyiterator",data:=.fields #[.ref d,.int 0 0,.int kvs.L 0,.int ep 0]}}) (Heap.DictOf.typeIs (knd:=knd) Y.dictOf) ?_));refine abf Èz (λ_=>cY ⟨vc F.plain_extend_loop _,ia _ c0 s.toks F9 Y (λb o _ e=>dv _ e) z⟩);apply aG (Ry ?_);apply aG ?_;show wpAny _ _ (updateSeq S (·.push .none) >>= λ_=>updateSeq S (·.pop)) _ _ _;apply aG (Fq z Á ?_);let GA:=u7 (Obj.mapSeq (·.push Value.none)) z rfl;apply Fq (hz:=by seq_fits) GA Á ?_;let hS3:=u7 (Obj.mapSeq (·.pop)) GA rfl;apply cY ⟨vc F.plain_extend_loop _,ia _ _ _ (F9.at λo e=>?_) (Y.at' λo e=>?_) (λb o q e=>?_) hS3⟩
 .exact(kY _ _ vD).R ((kY _ _ vD).R e)
 .exact(kY _ _ J).R ((kY _ _ J).R e)
 .exact(kY _ _ (eF q)).R ((kY _ _ (eF q)).R (dv _ e))
def ag0{Q:VP}(hh:A.handled=Β)(hd:(d==sysModules)=false)(z:s.H.DictAt knd d kvs ep)(b7:kvs.L<=sizeLine)(hQ:∀h' tk O q,(∀b o,s.U b=Α o->h'.I b=Α o)->h'.I s.Z=Α {cls:=.type "list",dict:=Β,data:=.seq O q,slots:= #[]}->
   ItemsOf (λi v=>∃k x,kvs[i]? =Α (k,x)/\knd.is k v=true) O kvs.L->Q ú {s with heap:=h',toks:=tk}):
  wpAny Í A (call (.type "list") [.ref d]) Q E s:=by
 refine callType_codes (Q₁:=λobj J=>obj=.ref s.Z/\J={s with heap:=s.o {cls:=.type "list",data:=.seq #[]}}) F.called_list (F.typeCall_list_1 _) F.entry_list_init
  (code_list_new _ ⟨rfl,rfl⟩) λobj J h₁=>?_
 let(rfl,rfl):=h₁;let j:(s.o {cls:=.type "list",data:=.seq #[]}).I s.Z=Α {cls:=.type "list",data:=.seq #[]}:=ib _ rfl;let U:=z.push {cls:=.type "list",data:=.seq #[]};apply(⟨_,j,Á⟩,F.args_list_init_2 _ _,?_);show wpAny _ _ (do let jD <-Builtin.List.listItems ú;Builtin.List.listUpdate ú (λ_=> #[]);letGo jD.toList.reverse;Builtin.List.listExtendWith ú Áf .none) _ _ _;apply aG ?_;ext Builtin.List.listItems;apply aG (BU j Á (cY ?_));show wpAny _ _ (updateSeq s.Z (λ_=> #[]) >>= λ_=>letGo (#[]:Array Value).toList.reverse >>= λ_=>Builtin.List.listExtendWith ú Áf .none) _ _ _;apply aG (Fq j Á ?_);let W:=u7 (Obj.mapSeq (λ_=>(#[]:Array Value))) j rfl;let Z:d≠s.Z:=fV z.lt_size;apply aG (JN ?_);apply agX (A:=A.in1) hh hd (U.at' λo e=>(kY _ _ Z.symm).R e) b7 .none _ W λh' tk O q hk Y M=>?_;exact(Á,hQ h' tk O q (λb o e=>hk b o Èq ((kY _ _ (fV (di e)).symm).R (dv _ e))) Y M)
end
end XL
end PySem
namespace L2
open PySem PySem.Spec PyProof.Rows
theorem ag1{xs:az}{U:LV}(j:xs.L=U.L)(h:∀(i:Nat)x u,xs[i]? =Α x->U[i]? =Α u->RelV x u):bq xs U:=by
 induction xs generalizing U with
 |nil=>
  cases U with
  |nil=>exact .nil
  |cons _ _=>cases j
 |cons x xs z=>
  cases U with
  |nil=>cases j
  |cons u U=>exact .cons (h 0 x u Á Á) (z (À j) λi a b q h2=>h (i+1) a b q h2)
def ag2{X:Cx}(hc:X.calm=true):lg X (.type "list") (λxs H Q=>∃d kvs,xs=[V.ref d]/\H d=Α đ/\∀l,H l=Β->Q Âa (ϑ (.lst (kvs.M λp=>kV p.1)))):=by
 intro pins s σ H vs us Q I r h;let(d,kvs,rfl,hd,q):=h;let(O,j,vs,kv,F):=C6 I.aE hd;let J:kvs.L=vs.L:=Paired.length kv;let(ep,F):=F.dictAt;rw[bq.As r];apply XL.ag0 ă j F (by rw[<-J];exact O) λh' tk oJ Y hk hS W=>?_;apply(.ref s.Z,ĕ (.lst (kvs.M λp=>kV p.1)),I.laid (t':=tk) hk (bC _) ⟨by rw[ao];exact O,oJ.toList,Y,?_,hS⟩,Á,q _ ġ);apply ag1 (by let h9:=W.1;rw[ao,J];simp[h9]) λi x u M h2=>?_;let(k,z,Z,h4):=W.2 i u (by rw[<-h2];simp);rw[bA] at M;let(p,hp,rfl):=u4.mp M;let(k',v'):=p;let(u',U,ru):=K2 kv hp;rw[Z] at U;cases U;exact Uu (show rN k u=true from h4)
end L2
namespace PySem
namespace XL
section
variable{prog:Pg}{w:Wd}{A:Around}{E:VP}{R:Result->Shared->Prop}{I S:Addr}{fp wr:LA}{G:Array GenState->Array GenState->Prop}{n:Nat}{P:Nat->Value->Prop}{St:Nat->Shared->Prop}{bt:Nat->Nat->Bool}
def Vi(prog:Pg)(w:Wd)(A:Around)(P:Nat->Value->Prop)(St:Nat->Shared->Prop)(bt:Nat->Nat->Bool):Prop:=
 ∀k i j u v(s:Sh)(Q:VP)(E:VP),St k s->P i u->P j v->Q (.bool (bt i j)) s->wpAny Í A (richCompare .Lt u v) Q E s
def ag4(W:WalksS prog w A.in1 I fp wr G n P St)(hc:Vi prog w A.in1 P St bt)(hS:S∉fp):
  ∀(k j:Nat)(s:Sh)(b:Value)(c:Nat),n-(j+1)=k->j+1<=n->St (j+1) s->P Ék b->s.U S=Α {cls:=.type "list",dict:=Β,data:=.seq #[b,b] c,slots:= #[]}->
  (∀v s',P (argBest bt (n-1)) v->Moved (S::wr) G s s'->R (.ok (.ret v)) s')->codeAny Í A (.builtin "min.loop" ⟨[.ref I,.none,.ref S],[]⟩) R s:=by
 let h1:S∉wr:=λh=>hS (W.sub _ h);let h2:∀b∈wr,b∈S::wr:=λb z=>aL _ z;let nm:(toString "min"++toString ".loop":String)="min.loop":=by decide
 let h3:∀{b:Addr},b∉S::wr->S≠b:=λz h=>z (by rw[h];exact eP);intro k;induction k with
 |zero=>
  intro j s b c hk hj st z hs M;let e:j+1=n:=by grind
  apply BY abh ?_;rw[BZ B0 _];apply aG (BU hs Á ?_);apply aG (JK (W.done s _ _ (e▸ st) λs' F=>?_));apply aG ?_;apply Fq (F.H S _ h1 hs) Á (aG (JN (cY ?_)));exact M b _ (by rw[<-e];exact z) ((F.mono h2).then_heap (tk:=s'.toks) (bC _) λx o J q=>(kY _ _ (h3 J)).R q)
 |succ k ih=>
  intro j s b c hk hj st z hs M;let U:j+1<n:=by omega
  apply BY abh ?_;rw[BZ B0 _];apply aG (BU hs Á ?_);apply aG (JK (W.item (j+1) s _ _ U st λv s' hP Y F=>?_));let Z:=F.H S _ h1 hs;show wpAny _ A.in1 (tryCatch (holding [v,v] (richCompare .Lt v b >>= _)) _ >>= _) _ _ _;apply aG (JK (Fc (aG (hc _ (j+1) Ék v b _ _ _ Y hP z ?_))));apply aG (Fc (tq ?_));apply aG (JN (cY ?_));cases q:bt (j+1) Ék with
  |true=>
   simp only[Fl];apply aG ?_;apply Fq Z Á (aG (JN ?_));rw[nm];apply cY ⟨vc B0 _,ih (j+1) _ v _ (by grind) U (W.frame _ s' _ s'.toks Y (bC _) λx J o e=>?_) (by simp only[argBest,q,Fl];exact hP) (u7 _ Z Á) λv' s2 O xi=>?_⟩
   .exact(kY _ _ (λh:S=x=>hS (by rw[h];exact J))).R e
   .exact M v' s2 O (Moved.trans W.gtrans ((F.mono h2).then_heap (by first|exact bC _|exact Fj _|omega) λx o J e=>(kY _ _ (h3 J)).R e) xi)
  |false=>
   simp only[RJ,RK];apply aG (JN ?_);rw[nm];exact cY ⟨vc B0 _,ih (j+1) _ b c (by omega) U Y (by simp only[argBest,q,RJ,RK];exact z) Z λv' s2 O xi=>M v' s2 O (Moved.trans W.gtrans (F.mono h2) xi)⟩
def ag5{x:Value}{s:Sh}{Q:VP}(h:wpAny Í A.in1 (pyIter x) (λO j=>∃I fp wr G n P St bt,O=.ref I/\WalksS prog w A.in1 I fp wr G n P St/\St 0 j/\(∀b∈fp,b<j.Z)/\0<n/\Vi prog w A.in1 P St bt/\
   ∀v s',P (argBest bt (n-1)) v->Moved wr G j s'->Q v s') E s):wpAny Í A (call (.builtin "min") [x]) Q E s:=by
 let nm:(toString "min"++toString ".loop":String)="min.loop":=by decide
 apply call_function_tree F.kind_min F.plain_min F.entry_min (F.args_min1 _) ?_;apply aG (wpAny_of_eq (show Builtin.Builtins.bindParams "min" ["key","default"] 0 ⟨[],[]⟩=pure [none,none] from rfl) ?_);apply aG (cY ?_);apply aG (jE h (λO j h2=>?_) λ_ _ e=>e);let(I,fp,wr,G,n,P,St,bt,rfl,W,st,w9,M,hc,hQ):=h2;apply aG (Jy ?_);let J:j.Z∉fp:=λz=>nr _ (w9 _ z);let Z:j.Z∉wr:=λh=>J (W.sub _ h);let h3:∀{b:Addr},b∉j.Z::wr->j.Z≠b:=λq h=>q (by rw[h];exact eP);rw[nm];apply cY ⟨vc B0 _,?_⟩;let st:=W.frame 0 j (j.o {cls:=.type "list",data:=.seq #[]}) j.toks st (bC _) λb _ o e=>dv _ e;apply BY abh ?_;rw[BZ B0 _];apply aG (BU (ib _ Á) Á ?_);apply aG (JK (W.item 0 _ _ _ M st λv s' hP jj z=>?_));let U:=z.H j.Z _ Z (ib _ rfl);show wpAny _ A.in1 (updateSeq j.Z (λ_=> #[v,v]) >>= _) _ _ _;apply aG ?_;apply Fq U Á ?_;rw[nm];apply cY ⟨vc B0 _,ag4 W hc J _ 0 _ v _ Á M (W.frame _ s' _ s'.toks jj (bC _) λb q o e=>?_) hP (u7 _ U Á) λv' s3 Y yQ=>?_⟩
 .exact(kY _ _ (λh=>J (by rw[h];exact q))).R e
 .refine hQ v' s3 Y (Moved.drop_new (tk:=j.toks) (Moved.trans W.gtrans ((z.mono λb q=>aL _ q).then_heap (by first|exact bC _|exact Fj _|omega) λb o q e=>(kY _ _ (h3 q)).R e) yQ) (bC _))
end
end XL
end PySem
namespace L2
open PySem PySem.Spec PyProof.Rows
abbrev mj(c:Nat×Nat):Int:=((c.1*2^64+c.2:Nat):Int)
def ag6{a b:Nat×Nat}(z:a.2<2^64)(F:b.2<2^64):HT.lexLt [((a.1:Nat):Int),((a.2:Nat):Int)] [((b.1:Nat):Int),((b.2:Nat):Int)]=decide (mj a<mj b):=by
 let(j,J):=a;let(q,M):=b;dsimp only at z F;rw[qy,lZ];ext mj;simp only[HT.lexLt];by_cases h:j=q
 .subst h;simp
  try af
 .let h':¬((j:Int)=(q:Int)):=by af
  simp[h,h']
  af
def ag7(K:FR):az->Hp->VK->Prop:=λvs H Q=>∃(a:Addr)(ps:LA)(cs:cI),vs=[V.ref a]/\ä a Àk/\ps.L=cs.L/\(∀(i:Nat)p c,ps[i]? =Α p->cs[i]? =Α c->š p [.int ((c.1:Nat):Int),.int ((c.2:Nat):Int)]/\c.2<2^64)/\0<ps.L/\
 ∀(i:Nat)p c,ps[i]? =Α p->cs[i]? =Α c->(∀d∈cs,mj c<=mj d)->Q Ĝ H
def ag8{X:Cx}(hc:X.calm=true)(hu:X.A.units+1<cLine):lg X (.builtin "min") (ag7 X.K):=by
 intro pins s σ H vs us Q I r h;let(a,ps,cs,rfl,hs,hl,ht,aN,q):=h;let(M,rv,pl,_):=I.list hs;let iR:∀(i:Nat)v,M[i]? =Α v->∃p,ps[i]? =Α p/\v=.ref p:=λi v e=>by
  let b7:=rv.L;rw[ao] at b7;let dq:=(bp.mp e).1;apply(ps[i]' Å,cJ _,?_);let(u,F2,ru):=rv.get (i:=i) (x:=V.ref (ps[i]'(by omega))) (by rw[bA,cJ (by omega)];rfl);rw[e] at F2;cases F2;cases ru;rfl
 let hsz:M.toArray.u=ps.L:=by
  let b7:=rv.L;rw[ao] at b7;simp[b7]
 rw[bq.As r];let tup:∀(i:Nat)p c,ps[i]? =Α p->cs[i]? =Α c->∃o,s.U p=Α o/\∀h:Heap,h.I p=Α o->∃js,IsTup h p js/\IntsAre js.toList [((c.1:Nat):Int),((c.2:Nat):Int)]:=λi p c h1 h2=>by
  let(js,r1,(o,Z,gJ,n,hd),_):=I.tuple (ht i p c h1 h2).1;exact(o,Z,λh e=>⟨js.toArray,⟨o,e,gJ,n,hd⟩,intsAre_of (ns:=[((c.1:Nat):Int),((c.2:Nat):Int)]) r1⟩)
 let bQ:a<s.Z:=by let(_,_,e,_):=pl;exact di e
 let KZ:a≠s.Z:=fV bQ;let Vj:∀p∈ps,p<s.Z:=λp F=>by
  let(i,hi,rfl):=nt F;let(o,Z,_):=tup i ps[i] (cs[i]' Ù) (cJ hi) (cJ (by omega));exact di Z
 apply XL.ag5 (RA pl.isList ?_);let Y:=Walks.list (prog:=X.prog) (w:=X.w) (A:=X.A.in1) ă s.Z a KZ M.toArray;let W:Walks X.prog X.w X.A.in1 s.Z ([s.Z,a]++ps) [s.Z] M.toArray.u (λi v=>M.toArray[i]? =Α v) (λi h=>(h.IsListIter s.Z a i/\h.IsList a M.toArray)/\∀p∈ps,∀o,s.U p=Α o->h.I p=Α o):=
  ⟨λb J=>wH _ (Y.sub b J),λi h h' st hk=>⟨Y.frame i h h' st.1 λb J=>hk b (wH _ J),λp F o e=>hk p (rH _ F) o (st.2 p F o e)⟩,
   λi s' Q E hi st O=>Y.item i s' Q E hi st.1 λv h' tk hP jj hk=>O v h' tk hP ⟨jj,λp F o e=>hk p o (λz=>by let:=Vj p F;rw[iT.mp z] at this;exact nr _ this) (st.2 p F o e)⟩ hk,
   λs' Q E st O=>Y.done s' Q E st.1 O,λi s' Q E st O=>Y.self i s' Q E st.1 O⟩
 apply(_,_,_,_,_,_,_,λi j=>decide (mj (cs.D i (0,0))<mj (cs.D j (0,0))),Á,W.toS,⟨⟨⟨_,ib _ Á,Á,Á⟩,pl.isList.push _⟩,λp _ o e=>dv _ e⟩,λb J=>?_,by rw[hsz];exact aN,?_,λv s' hP hm=>?_)
 .show b<(s.o _).O;rw[qx];rcases fw.mp J with J|J
  .simp only[a9,k7,k8] at J;rcases J with J|J
   .rw[J];exact RB _
   .rw[J];exact Fm bQ
  .exact Fm (Vj b J)
 .intro k i j u v s2 Q2 E2 st h1 h2 O;let(p,F,rfl):=iR i u (À h1);let(p',oK,rfl):=iR j v (À h2);let U:cs[i]? =Α (cs[i]'(by let:=(bp.mp F).1;symm)):=cJ _;let e2:cs[j]? =Α (cs[j]'(by let:=(bp.mp oK).1;omega)):=cJ _;let(o,Z,f1):=tup i p _ F U;let(o',ou,f2):=tup j p' _ oK e2;let(js,t1,i1):=f1 s2.H (st.2 p (bo F) o Z);let(js',t2,i2):=f2 s2.H (st.2 p' (bo oK) o' ou);apply HT.S7 (A:=X.A.in1) t1 t2 i1 i2 hu ?_;rw[ag6 (ht i p _ F U).2 (ht j p' _ oK e2).2];dsimp only at O;rw[ik,ik,U,e2] at O;exact O
 .let(Vk,AJ):=argBest_lt (λi=>mj (cs.D i (0,0))) (M.toArray.u-1);let(p,F,rfl):=iR _ v (À hP);let dq:=(bp.mp F).1;let U:cs[argBest (λi j=>decide (mj (cs.D i (0,0))<mj (cs.D j (0,0)))) (M.toArray.u-1)]? =Α (cs[argBest (λi j=>decide (mj (cs.D i (0,0))<mj (cs.D j (0,0)))) (M.toArray.u-1)]' Å):=cJ _;rw[Moved.eq_with hm];apply(.ref p,H,I.kept (t':=s'.toks) λb o e=>hm.H b o (λz=>?_) (dv _ e),Á,q _ p _ F U λd hd=>?_)
  .let:=di e;rw[iT.mp z] at this;exact nr _ this
  .let(j,hj,rfl):=nt hd;let:=AJ j Ù;rw[ik,ik,U,cJ hj] at this;exact this
end L2
namespace L2
open PySem PySem.Spec PyProof.Rows
def AK(i j:Int):Int:=if j>i then j else i
def ag9(hc:X.calm=true):lg X (.builtin "max") (λxs H Q=>∃i j k,xs=[.int i,.int j,.int k]/\Q (.int (AK (AK i j) k)) H):=by
 intro pins s σ H xs W Q I r h;let(i,j,k,rfl,q):=h;cases r with
 |cons F r=>cases r with
  |cons J r=>cases r with
   |cons M r=>
    cases r;let(O,rfl):=F;let(t2,rfl):=J;let(U,rfl):=M;apply max_three_ints ă λh' tk kp=>⟨_,H,I.kept kp,?_,q⟩;ext AK;by_cases z:j>i
    .rw[ai z,ai z];by_cases h2:k>j
     .rw[ai h2,ai h2];exact(_,Á)
     .rw[ah h2,ah h2];exact(_,Á)
    .rw[ah z,ah z];by_cases h2:k>i
     .rw[ai h2,ai h2];exact(_,Á)
     .rw[ah h2,ah h2];exact(_,Á)
end L2
namespace L2
open PySem PySem.Spec PyProof.Rows
open PySem.W (WData Codec OpenSpec Well WellAll ReadsW ReadsAllW)
mutual
inductive Dw(K:FR)(H:Hp):V->WData->Prop
 |aP:Dw K H .aP .none
 |bl (b:Bool):Dw K H (.bl b) (.bool b)
 |int (i:Int):Dw K H Ãm Ãm
 |str (x:Str):Dw K H Çy Çy
 |jK (b:Array UInt8):Dw K H (.jK b) (.bytes b.toList)
 |lst {a:Addr} {xs:az} {ds:List WData}:ä a xs->nQ K H xs ds->Dw K H ħ (.list ds)
 |tup {a:Addr} {xs:az} {ds:List WData}:š a xs->nQ K H xs ds->Dw K H ħ (.tuple ds)
inductive nQ(K:FR)(H:Hp):az->List WData->Prop
 |nil:nQ K H [] []
 |cons {v:V} {vs:az} {d:WData} {ds:List WData}:Dw K H v d->nQ K H vs ds->nQ K H (v::vs) (d::ds)
end
theorem Vl{K:FR}{H:Hp}:∀ns:LI,nQ K H Ŭ (ns.M WData.int):=by
 intro ns;induction ns with
 |nil=>exact .nil
 |cons n r j=>
  exact .cons (.int n) j
theorem Lr{K:FR}{H:Hp}(ns:LI):∀(xs:az),nQ K H xs (ns.M WData.int)->xs=ns.M V.int:=by
 induction ns with
 |nil=>
  intro xs h;cases h;rfl
 |cons n r q=>
  intro xs h;cases h with
  |cons j h2=>
   cases j;rw[q _ h2] <;> rfl
section
variable{P:Pg}{w:Wd}{K:FR}{H:Hp}{h:Heap}{R:PySem.W.WRecords}{cl:Str->OA}
def aha{a:Addr}{xs:az}(aE:ķ h)(F:K.In h)(q:ä a xs):∃(j:LV)(o:Obj)(n:Nat),bq xs j/\h.I a=Α o/\o.cls=.type "list"/\o.data=.seq j.toArray n:=by
 rcases q with q|⟨o,j,n,e,hc,_,hd,_,z⟩
 .let(_,j,n,z,e):=(q.ok aE);symm
 .exact(j.toList,o,n,z,F _ _ e,hc,by simp[hd])
def ahb{a:Addr}{xs:az}(aE:ķ h)(F:K.In h)(q:š a xs):∃(j:LV)(o:Obj)(n:Nat),bq xs j/\h.I a=Α o/\o.cls=.type "tuple"/\o.data=.seq j.toArray n:=by
 rcases q with q|⟨o,j,n,e,hc,hd,_,z⟩
 .let(_,j,z,o,e,hc,n,hd):=(q.ok aE);symm
 .exact(j.toList,o,n,z,F _ _ e,hc,by simp[hd])
def Dw.reads(aE:ķ h)(J:K.In h)(d:WData)(v:V)(u:Value)(x:Dw K H v d):RelV v u->∃as,ReadsW R cl h u d as:=
 Dw.rec (motive_1:=λv d _=>∀u,RelV v u->∃as,ReadsW R cl h u d as) (motive_2:=λvs M _=>∀U,bq vs U->∃as,ReadsAllW R cl h U M as)
  (λu r=>by cases r;exact(_,ReadsW.none)) (λb u r=>by cases r;exact(_,ReadsW.bool b)) (λi u r=>by let(t,rfl):=r;exact(_,ReadsW.int i t)) (λx u r=>by let(t,rfl):=r;exact(_,ReadsW.str x t))
  (λb u r=>by let(t,rfl):=r;exact(_,ReadsW.bytes _ t))
  (λhs _ z u r=>by
   cases r;let(j,o,n,F,q,hc,hd):=aha aE J hs;let(as,hr):=z j F;exact(_,ReadsW.list q hc hd hr))
  (λhs _ z u r=>by
   cases r;let(j,o,n,F,q,hc,hd):=ahb aE J hs;let(as,hr):=z j F;exact(_,ReadsW.tuple q hc hd hr))
  (λU r=>by cases r;exact(_,ReadsAllW.nil))
  (λ_ _ O W U r=>by
   cases r with
   |cons r1 r2=>
    let(as,Y):=O _ r1;let(bs,Z):=W _ r2;exact(_,ReadsAllW.cons Y Z)) x u
end
mutual
def sy:WData->Bool
 |.none=>true
 |.bool _=>true
 |.int _=>true
 |.str _=>true
 |.bytes _=>true
 |.list xs=>qR xs
 |.tuple xs=>qR xs
 |_=>false
def qR:List WData->Bool
 |[]=>true
 |x::r=>sy x&&qR r
end
theorem ahc{α:Type}{f:α->WData}(h:∀a,sy (f a)=true):∀l:List α,qR (l.M f)=true:=by
 intro l;induction l with
 |nil=>exact Á
 |cons x r j=>
  show(sy (f x)&&qR (r.M f))=true;rw[h x,j] <;> rfl
theorem xp:∀(c:Codec)(a:c.denote),sy (c.enc a)=true
 |.unit,_=>rfl
 |.bool,_=>rfl
 |.int _ _,_=>rfl
 |.nat _ _,_=>rfl
 |.u8,_=>rfl
 |.bytes _ _,_=>rfl
 |.text _ _ _ _,_=>rfl
 |.list _ _ c,a=>ahc (λx=>xp c x) a
 |.pair c d,a=>by
  show(sy (c.enc a.1)&&(sy (d.enc a.2)&&true))=true;rw[xp c a.1,xp d a.2] <;> rfl
 |.triple c d e,a=>by
  show(sy (c.enc a.1)&&(sy (d.enc a.2.1)&&(sy (e.enc a.2.2)&&true)))=true;rw[xp c a.1,xp d a.2.1,xp e a.2.2] <;> rfl
 |.option c,none=>rfl
 |.option c,some x=>xp c x
theorem ahd(cs:List Codec):∀(a:Codec.denoteAll cs),qR (Codec.encAll cs a)=true:=by
 induction cs with
 |nil=>exact @λ_=>Á
 |cons c cs j=>
  intro a;show(sy (c.enc a.1)&&qR (Codec.encAll cs a.2))=true;rw[xp c a.1,j a.2] <;> rfl
theorem Vm{xs:List WData}:∀{d:WData},d∈xs->d.weight<=WData.weightAll xs:=by
 induction xs with
 |nil=>exact @λd h=>absurd h Ä
 |cons x r j=>
  intro d h;show d.weight<=x.weight+1+WData.weightAll r;rcases a9.mp h with e|m
  .rw[e]
   af
  .let z:=j m
   af
def toV:Value->V
 |.none=>.aP
 |.bool b=>.bl b
 |.int i _=>.int i
 |.str x _=>.str x
 |.bytes b _=>.jK b
 |.ref a=>.ref a
 |_=>.aP
def kq(A:LA):Value->Prop
 |.none=>True
 |.bool _=>True
 |.int _ _=>True
 |.str _ _=>True
 |.bytes _ _=>True
 |.ref a=>a∈A
 |_=>False
theorem kq.mono{A B:LA}(h:∀a∈A,a∈B):∀{u:Value},kq A u->kq B u:=λ{u}x=>by
 cases u with
 |ref a=>exact h a x
 |none=>trivial
 |bool b=>trivial
 |int i t=>trivial
 |str s t=>trivial
 |bytes b t=>trivial
 |_=>exact False.elim x
theorem ahe{A:LA}{u:Value}(x:kq A u):RelV (toV u) u:=by
 cases u with
 |ref a=>rfl
 |none=>rfl
 |bool b=>rfl
 |int i t=>exact(t,Á)
 |str s t=>exact(t,Á)
 |bytes b t=>exact(t,Á)
 |_=>exact False.elim x
theorem Dx{A:LA}{vs:LV}:(∀u∈vs,kq A u)->bq ź vs:=by
 induction vs with
 |nil=>exact @λ_=>.nil
 |cons u r q=>
  intro h;exact .cons (ahe (h u (eP ..))) (q λx j=>h x (aL _ j))
def pV(h:Heap)(A:LA)(a:Addr):Prop:=∃vs:LV,vs.L<=sizeLine/\(∀u∈vs,kq A u)/\
 (h.I a=Α {cls:=.type "list",data:=.seq vs.toArray}\/h.I a=Α {cls:=.type "tuple",data:=.seq vs.toArray})
def pV.mono{h:Heap}{A B:LA}{a:Addr}(k:∀a∈A,a∈B)(x:pV h A a):pV h B a:=by
 let(vs,j,h2,q):=x;exact(vs,j,λu z=>(h2 u z).mono k,q)
theorem Ls{P:Params}{h:Heap}{vs:LV}:∀{j:List WData},WellAll P h vs j->vs.L=j.L:=by
 induction vs with
 |nil=>intro j h;cases h;rfl
 |cons v vs q=>
  intro j h;cases h with
  |cons _ b=>
   show _+1=_+1;rw[q b]
theorem Vn{P:Params}{h:Heap}{v:Value}{j:List WData}(x:Well P h v (.list j)):∃(a:Addr)(vs:LV),v=.ref a/\h.I a=Α {cls:=.type "list",data:=.seq vs.toArray}/\WellAll P h vs j:=by
 cases x with
 |list q J=>symm
theorem Vo{P:Params}{h:Heap}{v:Value}{j:List WData}(x:Well P h v (.tuple j)):∃(a:Addr)(vs:LV),v=.ref a/\h.I a=Α {cls:=.type "tuple",data:=.seq vs.toArray}/\WellAll P h vs j:=by
 cases x with
 |tuple q J=>symm
theorem Vp{P:Params}{h:Heap}{U:LV}{d:WData}{j:List WData}(x:WellAll P h U (d::j)):∃(v:Value)(vs:LV),U=v::vs/\Well P h v d/\WellAll P h vs j:=by
 cases x with
 |cons a b=>grind
def ahf{n:Nat}(h:n<=1048576):n<=sizeLine:=gq h Ð
section
variable{P:Params}{h:Heap}
def Vq{M:WData->Prop}(n:M .none)(b:∀b,M (.bool b))(i:∀i,M Ãm)(s:∀s,M (.str s))(y:∀b,M (.bytes b))(l:∀xs,(∀d∈xs,M d)->M (.list xs))(t:∀xs,(∀d∈xs,M d)->M (.tuple xs)):∀j,qR j=true->∀d∈j,M d:=
 WData.rec_1 (motive_1:=λd=>sy d=true->M d) (motive_2:=λj=>qR j=true->∀d∈j,M d) (motive_3:=λ_=>True) (motive_4:=λ_=>True) (motive_5:=λ_=>True) (motive_6:=λ_=>True)
  (λ_=>n) (λx _=>b x) (λx _=>i x) (λx _=>s x) (λxs z p=>l xs (z p)) (λxs z p=>t xs (z p)) Àh (λ_ p=>Bool.noConfusion p) (λx _=>y x) (λ_ p=>Bool.noConfusion p) Àh Àh (λ_ _ _ p=>Bool.noConfusion p)
  (λ_ d m=>by cases m) (λx xs F J p d m=>by
   let q:=tF.mp p;cases m with
   |head=>exact F q.1
   |tail _ m=>exact J q.2 d m) trivial Ãz trivial Ãz Ãz (λ_ _ _=>trivial)
theorem Lu:∀j:List WData,(∀d∈j,∀v,Well P h v d->d.weight<=1048576->∃A:LA,kq A v/\∀a∈A,pV h A a)->∀vs:LV,WellAll P h vs j->(∀d∈j,d.weight<=1048576)->∃A:LA,(∀u∈vs,kq A u)/\∀a∈A,pV h A a:=by
 intro j;induction j with
 |nil=>
  intro _ vs x _;cases x;exact([],λu m=>absurd m Ä,λa m=>absurd m Ä)
 |cons d j Y=>
  intro one vs x z;let(v,vs,rfl,Z,x2):=Vp x;let(A,J,M):=one d eP v Z (z d eP);let(B,O,U):=Y (λe F=>one e (aL _ F)) vs x2 λe F=>z e (aL _ F);let kA:∀b∈A,b∈A++B:=λb q=>fw.mpr (.inl q);let kB:∀b∈B,b∈A++B:=λb q=>fw.mpr (.inr q);apply(A++B,λu W=>?_,λb q=>?_)
  .rcases a9.mp W with e|m
   .rw[e];exact J.mono kA
   .exact(O u m).mono kB
  .rcases fw.mp q with m|m
   .exact(M b m).mono kA
   .exact(U b m).mono kB
def ahg(j:List WData)(vs:LV)(x:WellAll P h vs j)(p:qR j=true)(z:∀d∈j,d.weight<=1048576):∃A:LA,(∀u∈vs,kq A u)/\∀a∈A,pV h A a:=by
 let F:∀v,kq [] v->∃A:LA,kq A v/\∀a∈A,pV h A a:=λv o=>⟨[],o,λa m=>absurd m Ä⟩;let U:∀(a:Addr)(vs:LV)(j:List WData),vs.L=j.L->WData.weightAll j<=1048576->(h.I a=Α {cls:=.type "list",data:=.seq vs.toArray}\/h.I a=Α {cls:=.type "tuple",data:=.seq vs.toArray})->(∃A:LA,(∀u∈vs,kq A u)/\∀a∈A,pV h A a)->∃A:LA,kq A ħ/\∀a∈A,pV h A a:=by
  intro a vs j e z q h0;let(A,h1,h2):=h0;let k:∀b∈A,b∈a::A:=λb M=>aL _ M;apply(a::A,eP ..,λb M=>?_);rcases a9.mp M with Y|m
  .rw[Y];exact(vs,ahf (by rw[e];exact gq (PySem.W.length_le_weightAllW j) z),λu hu=>(h1 u hu).mono k,q)
  .exact(h2 b m).mono k
 apply Lu j (Vq (λv x _=>?_) Ãv Ãv Ãv Ãv (λxs O v x z=>?_) (λxs O v x z=>?_) j p) vs x z
 .cases x;exact F _ trivial
 .cases x;exact F _ trivial
 .cases x;exact F _ trivial
 .cases x;exact F _ trivial
 .cases x;exact F _ trivial
 .let(a,vs,rfl,q,J):=Vn x;let Z:=z;exact U a vs xs (Ls J) Z (.inl q) (Lu xs O vs J λd hd=>gq (Vm hd) Z)
 .let(a,vs,rfl,q,J):=Vo x;let Z:=z;exact U a vs xs (Ls J) Z (.inr q) (Lu xs O vs J λd hd=>gq (Vm hd) Z)
end
def GC(o:Obj):Option HO:=match o.data with
 |.seq vs _=>if (o.cls==Value.type "list")=true then some (.cQ o (.lst (vs.toList.M toV))) else some (.cQ o (.tup (vs.toList.M toV)))
 |_=>none
def jr(K:FR)(h:Heap)(A:LA):Hp:=λb=>if b∈A then (if (K.Q b).isNone=true then (h.I b).bind GC else none) else none
def Vr(vs:LV):GC {cls:=.type "list",data:=.seq vs.toArray}=Α (.cQ {cls:=.type "list",data:=.seq vs.toArray} (.lst ź)):=by
 rfl
def Vs(vs:LV):GC {cls:=.type "tuple",data:=.seq vs.toArray}=Α (.cQ {cls:=.type "tuple",data:=.seq vs.toArray} (.tup ź)):=by
 rfl
section
variable{P:Pg}{w:Wd}{K:FR}{h:Heap}{A:LA}
def GG{b:Addr}{o:Obj}(j:b∈A)(hk:K.Q b=Β)(e:h.I b=Α o):jr K h A b=GC o:=by
 ext jr;grind
def ahh{b:Addr}{u:HO}(q:jr K h A b=Α u):b∈A/\K.Q b=Β:=by
 delta jr at q;by_cases j:b∈A
 .rw[ai j] at q;cases hk:K.Q b with
  |none=>symm
  |some o=>
   symm
 .symm
def GH(z:∀a∈A,pV h A a){b:Addr}{u:HO}(q:jr K h A b=Α u):K.Q b=Β/\∃vs:LV,vs.L<=sizeLine/\(∀u∈vs,kq A u)/\
  ((h.I b=Α {cls:=.type "list",data:=.seq vs.toArray}/\u=.cQ {cls:=.type "list",data:=.seq vs.toArray} (.lst ź))\/
   (h.I b=Α {cls:=.type "tuple",data:=.seq vs.toArray}/\u=.cQ {cls:=.type "tuple",data:=.seq vs.toArray} (.tup ź))):=by
 let(j,hk):=ahh q;let(vs,F,h2,J):=z b j;apply(hk,vs,F,h2,?_);rcases J with e|e
 .rw[GG j hk e,Vr] at q;exact .inl ⟨e,(aU q).symm⟩
 .rw[GG j hk e,Vs] at q;exact .inr ⟨e,(aU q).symm⟩
def ahi(z:K.In h)(F:∀a∈A,pV h A a){a:Addr}{vs:LV}(q:a∈A)(e:h.I a=Α {cls:=.type "list",data:=.seq vs.toArray}):(∀u∈vs,kq A u)/\aa K (jr K h A) a ź:=by
 let(U,M,h2,O):=F a q;let J:U=vs:=by
  symm
 subst J;apply(h2,?_);cases hk:K.Q a with
 |none=>exact .inl (.inr ⟨_,by rw[GG q hk e,Vr]⟩)
 |some o=>
  let j:=z a o hk;rw[e] at j;obtain rfl:=aU j;exact .inr ⟨_,U.toArray,_,hk,Á,Á,Á,by assumption,by simpa using Dx h2⟩
def ahj(z:K.In h)(F:∀a∈A,pV h A a){a:Addr}{vs:LV}(q:a∈A)(e:h.I a=Α {cls:=.type "tuple",data:=.seq vs.toArray}):(∀u∈vs,kq A u)/\bx K (jr K h A) a ź:=by
 let(U,M,h2,O):=F a q;let J:U=vs:=by
  symm
 subst J;apply(h2,?_);cases hk:K.Q a with
 |none=>exact .inl (.inr ⟨_,by rw[GG q hk e,Vs]⟩)
 |some o=>
  let j:=z a o hk;rw[e] at j;obtain rfl:=aU j;exact .inr ⟨_,U.toArray,_,hk,Á,Á,by assumption,by simpa using Dx h2⟩
theorem Lv{q:Params}{B:Hp}:∀j:List WData,(∀d∈j,∀v,Well q h v d->kq A v->Dw K B (toV v) d)->∀vs:LV,WellAll q h vs j->(∀u∈vs,kq A u)->nQ K B ź j:=by
 intro j;induction j with
 |nil=>
  intro _ vs x _;cases x;exact .nil
 |cons d j J=>
  intro one vs x z;let(v,vs,rfl,M,O):=Vp x;exact .cons (one d eP v M (z _ eP)) (J (λe F=>one e (aL _ F)) vs O λu m=>z u (aL _ m))
def ahk{W:Params}(O:K.In h)(U:∀a∈A,pV h A a)(j:List WData)(vs:LV)(x:WellAll W h vs j)(p:qR j=true)(q:∀u∈vs,kq A u):nQ K (jr K h A) ź j:=by
 apply Lv j (Vq (λv x _=>?_) (λb v x _=>?_) (λi v x _=>?_) (λs v x _=>?_) (λb v x _=>?_) (λxs J v x q=>?_) (λxs J v x q=>?_) j p) vs x q
 .cases x;exact .aP
 .cases x;exact .bl b
 .cases x;exact .int i
 .cases x;exact .str s
 .cases x;let z:=Dw.jK (K:=K) (H:=jr K h A) b.toArray;exact z
 .let(a,vs,rfl,F,M):=Vn x;let(h2,hs):=ahi O U q F;exact .lst hs (Lv xs J _ M h2)
 .let(a,vs,rfl,F,M):=Vo x;let(h2,hs):=ahj O U q F;exact .tup hs (Lv xs J _ M h2)
end
def ahl{j:List WData}(h:WData.layableAll j=true):∀d∈j,d.weight<=1048576:=λd hd=>
 (PySem.W.layableW_iff.mp (jI.mp h d hd)).2.2
theorem ahm(cs:List Codec):∀(a:Codec.denoteAll cs),(Codec.encAll cs a).L=cs.L:=by
 induction cs with
 |nil=>exact @λ_=>Á
 |cons c cs j=>
  intro a;show(Codec.encAll cs a.2).L+1=cs.L+1;rw[j a.2]
section
variable{K:FR}{H H':Hp}
def ahn(s:aj H H')(h:š a xs):bx K H' a xs:=by
 rcases h with (h|⟨o,h⟩)|h
 .exact .inl (.inl (s _ _ h))
 .exact .inl (.inr ⟨o,s _ _ h⟩)
 .exact .inr h
def aho(s:aj H H')(j:List WData)(vs:az)(x:nQ K H vs j):nQ K H' vs j:=
 nQ.rec (motive_1:=λv d _=>Dw K H' v d) (motive_2:=λvs j _=>nQ K H' vs j) .aP .bl .int .str .jK (λh _ r=>.lst (s.seq h) r) (λh _ r=>.tup (ahn s h) r) .nil (λ_ _ h r=>.cons h r) x
end
def ahp{P:Pg}{w:Wd}{K:FR}{mg mb:MG}{CX:oy}{k:Nat}{fa:Addr}{fd:FD}{ps:LS}{sp:Sp}{s₁:Sh}{U:LV}{J:List WData}{R:PySem.W.WRecords}{cl:Str->OA}{d0:WData}{c T:Addr}(KX:K.In s₁.H) (vi:s₁.H.Ns mainGlobals mg) (M:s₁.H.Ns builtinsNs mb) (hbb:∀x:Str,x≠"__name__"->mb x=bootBuiltins x) (ahr:s₁.H.NoLimit) (hg:s₁.gens= #[])(Dy:WellAll w.params s₁.H U J) (dZ:qR J=true) (hwt:∀d∈J,d.weight<=1048576) (hr:eT k callerA) (hT:s₁.H.TableAt c T #[]) (Vt:K.Q T=Β) (xq:Dt mg s₁.H)(F:∀base:Heap,K.In base->base.Ns mainGlobals mg->Dt mg base->Ģ CX k fa fd ps sp) (aht:∀(s:Sh)(us:LV),us.L=ps.L->BindsTo s fd ⟨us,[]⟩ Às) (b7:J.L=ps.L)(mZ:∀(H:Hp)(xs:az),H T=Α (.j6 #[])->nQ K H xs J->sp xs H (λv H'=>Dw K H' v d0) λ_ _ _=>False)(Lw:∀H e s',CX [] H s₁ (λ_ _ _=>False) e s'->False):
  codeAny Âe callerA (.call (.ref fa) ⟨U,[]⟩) (λr s'=>∃u as,r=.ok (.ret u)/\ReadsW R cl s'.H u d0 as/\OldK s₁.H s'.H/\s'.os=s₁.os/\AllBare s'.gens) s₁:=by
 let(A,ho,O):=ahg J U Dy dZ hwt;let Ly:s₁.U T=Α {cls:=.none,data:=.fields #[]}:=hT.2;let CC:∀{b:Addr}{o:Obj},s₁.U b=Α o->(∀vs n,o.data≠ .seq vs n)->ī A b=Β:=λ{b o}e d=>by
  cases q:ī A b with
  |none=>rfl
  |some u=>
   obtain⟨_,vs,_,_,⟨e2,_⟩|⟨e2,_⟩⟩:=GH O q
   .grind
   .grind
 let aT:=CC Ly λvs n z=>by cases z
 let sm:aj (ī A) (upd (ī A) T (.j6 #[])):=λb o e=>by
  rw[aA (eS e aT)];exact e
 let hS:=aho sm _ _ (ahk KX O J U Dy dZ ho);let hV:=Dx ho;let Y:upd (ī A) T (.j6 #[]) T=Α (.j6 #[]):=au;let hN:∀b,b≠T->upd (ī A) T (.j6 #[]) b=jr K s₁.H A b:=λb M=>aA M;let hO:∀b u,b≠T->upd (ī A) T (.j6 #[]) b=Α u->∃o u',u=.cQ o u':=λb u M e=>by
  rw[hN b M] at e;obtain⟨_,vs,_,_,⟨_,e⟩|⟨_,e⟩⟩:=GH O e
  .symm
  .symm
 let aE:fc P w (upd (ī A) T (.j6 #[])) s₁.H:=λb u q=>by
  by_cases j:b=T
  .subst j;rw[Y] at q;cases q;exact Ly
  .rw[hN b j] at q;obtain⟨_,vs,h1,h2,⟨e,rfl⟩|⟨e,rfl⟩⟩:=GH O q
   .exact(e,by simp_all,vs,_,Dx h2,e)
   .exact(e,by simp_all,vs,Dx h2,_,e,rfl,_,rfl)
 let hK:∀b u,upd (ī A) T (.j6 #[]) b=Α u->K.Q b=Β:=λb u q=>by
  by_cases j:b=T
  .grind
  .rw[hN b j] at q;exact(GH O q).1
 let Lz:∀{b:Addr}{o:Obj},s₁.U b=Α o->(∀vs n,o.data≠ .seq vs n)->(∀vs,o.data≠ .fields vs)->upd (ī A) T (.j6 #[]) b=Β:=λ{b o}e d1 d2=>by
  grind
 generalize upd (ī A) T (.j6 #[])=H at hS Y hO aE hK Lz;let LB:∀{b:Addr}{o:Obj},s₁.U b=Α o->H b=Β->(vo s₁.H H).I b=Α o:=λe n=>acE e n;let Z:∀{b:Addr}{m:MG},s₁.H.Ns b m->(vo s₁.H H).Ns b m:=λ{b m} ⟨o,es,ep,e,d,r⟩=>⟨o,es,ep,LB e (Lz e (λvs n z=>by simp_all) λvs z=>by simp_all),d,r⟩;let nK:∀b o,K.Q b=Α o->H b=Β:=λb o e=>by
  cases q:H b with
  |none=>rfl
  |some u=>
   grind
 let Vu:=λb o e=>LB (KX b o e) (nK b o e);let hM:Mod K mg Æx:=⟨Vu,Z vi,⟨mb,Z M,hbb⟩,let ⟨mc,h1,h2⟩:=ahr;⟨mc,Z h1,h2⟩⟩;let hBm:Dt mg Æx:=by
  let(bm,ob,b1,b2,b3,b4,b5,b6):=xq;exact(bm,ob,b1,b2,LB b3 (Lz b3 (λvs n z=>by simp_all) λvs z=>by simp_all),b4,b5,b6)
 let e0:yC P w K mg Æx callerA [] s₁ H:=⟨rfl,hM,λb o e=>acF e,Ff (acD _ _),trivial,λb M=>absurd (show b∈([]:LA) from M) Ä,aE,.of_eq hg⟩;let hl:U.L=ps.L:=by rw[Ls Dy];exact b7
 apply yg ((F _ Vu (Z vi) hBm).run callerA [] s₁ H ⟨U,[]⟩ U (U.M toV) _ _ hr e0 (aht s₁ U hl) hV (mZ H _ Y hS)) λr s' x=>?_;cases r with
 |error e=>exact(Lw H e s' x).elim
 |ok fl=>
  cases fl with
  |next=>exact False.elim x
  |brk=>exact False.elim x
  |cont=>exact False.elim x
  |ret u=>
   let(v,H',os,bare,un,LC,r',q):=x;let kept:=λb o j e=>by
    cases q2:H b with
    |none=>exact un.keep b o e q2 (by intro z;exact absurd (show b∈([]:LA) from z) Ä) Ä
    |some u2=>
     let(ob,u3,rfl):=hO b u2 j q2;let z2:=un.rP b ob _ q2;let(e1,_):=aE b _ q2;let(e2,_):=LC b _ z2;symm
   let KX':=λb o e=>kept b o (λz=>by simp_all) (KX b o e);let(as,nR):=Dw.reads (R:=R) (cl:=cl) LC KX' d0 v u q r';let(mz,e1):=un.vm T #[] Y;let e2:s'.U T=Α {cls:=.none,data:=.fields (#[]++mz)}:=LC T _ e1;apply(u,as,Á,nR,⟨λb o e=>?_,λb o e=>?_⟩,os,bare)
   .by_cases j:b=T
    .subst j;rw[Ly] at e;cases e;exact .inr (.inl ⟨hT.isCodeTable,Á,#[],mz,Á,e2⟩)
    .exact .inl (kept b o j e)
   .grind
def ahw{r:OpenSpec}{k:Nat}{q:Pg}{loose:LS}{XP:MG->Heap->Prop}{YP:Wd->Heap->Prop}{d:DefRec}{K:Params->FR}{CX:oy}{ps:LS}{sp:FR->Addr->Sp}(M:r.wellSaid=true) (LD:d.params.defaults=[]) (b7:r.args.L=ps.L) (hr:eT k callerA)(hY:∀(w:Wd)(h:Heap),YP w h->(K w.params).In h) (O:((recsOf q).any λd'=>d'.name==d.name)=true)(F:∀(w:Wd)(mg:MG)(j:Addr)(h:Heap),YP w h->(K w.params).In h->h.Ns mainGlobals mg->mg d.name=Α (.ref j)->
   ∃(fd:FD)(o:Obj)(c T:Addr),(K w.params).Q j=Α o/\o.data=.func fd/\fd.code=.ref c/\Lp Çu c T/\(K w.params).Q T=Β/\(∀(s:Sh)(us:LV),us.L=ps.L->BindsTo s fd ⟨us,[]⟩ Às)/\
    ∀base:Heap,(K w.params).In base->base.Ns mainGlobals mg->Dt mg base->a0 r.prog w Çu mg base CX k j fd ps (sp Çu T))
  (mZ:∀(K:FR)(T:Addr)(H:Hp)(xs:az)(a:Codec.denoteAll r.args),H T=Α (.j6 #[])->Codec.withinAll r.args a=true->Codec.app r.args r.asked a=true->nQ K H xs (Codec.encAll r.args a)->
   sp K T xs H (λv H'=>Dw K H' v (r.ret.enc (Codec.app r.args r.f a))) λ_ _ _=>False)
  (Lw:∀(H:Hp)(s:Sh)(e:Value)(s':Sh),CX [] H s (λ_ _ _=>False) e s'->False):
  PySem.W.WalkOS q loose XP YP r d [] (λf vs=>PySem.call f vs):=by
 intro w jL s₁ mg mb G Y j o pm cd jC dV kV ho hd nB hD GO hg args uY as Vv U nR Dy hlo;let(a,e1,e2):=PySem.W.os_pre_some Vv;let(e3,vA):=Codec.encAll_of_decAll r.args args a e1;subst e3;let J:=hY w _ Y;let(fd,o',c,T,k1,k2,k3,hC,Vt,hb,hF):=F w mg j _ Y J G.T.g GO;let(d',j7,hn):=tw.mp O;let hn:=zT.mp hn;let(a',o2,fd',c',P',t1,t2,t3,t4,t5,t6):=G.T.tab d' j7;rw[hn,GO] at t1;cases t1;rw[J _ _ k1] at t2;cases t2;rw[k2] at t3;cases t3;rw[k3] at t4;cases t4;let hPT:P'=T:=by
  let((ob,vs,f1,f2,f3,f4),_):=t6;let(ob2,vs2,_,_,_,_,_,_,_,g1,g2,g3,g4,_):=hC _ J;symm
 subst hPT;refine PySem.W.enter_call (yg (ahp (R:=[]) (cl:=classAt jL.H) (d0:=r.ret.enc (Codec.app r.args r.f a)) J G.T.g G.T.b G.T.builtins G.T.nolimit hg Dy (ahd _ _) (ahl U) hr t6 Vt G.T.bmain hF hb (by rw[ahm];exact b7)
  (λH xs hO hS=>mZ Çu P' H xs a hO vA e2 hS) λH e s'=>Lw H s₁ e s') λr' s' hq=>?_)
 let(u,Z,rfl,h1,h2,h3,h4):=hq;exact(.inl ⟨u,_,Z,Á,λ_=>Á,h1,(OpenSpec.post_iff M vA _ _).mpr Á,λz=>Bool.noConfusion z⟩,h2,h3,h4)
def ahC{K:FR}{c T:Addr}{od:OA}{sl:AO}{W Y Z v3 v4 v5 v6 v8 yR j q F J M:Value}{fl U:Int}{O tt:Tok}{b:Bool}{x:Str}{ts:Tok}(l:K.Q c=Α ⟨.type "code",od,.fields #[W,Y,Z,v3,v4,v5,v6,.int fl O,v8,.bool b,.int U tt,.ref T,yR,j,q,F,J,M,.str x ts],sl⟩) (ne:(c==T)=false):Lp K c T:=λh X=>
 ⟨_,_,_,_,_,_,_,_,_,X _ _ l,rfl,rfl,rfl,rfl,rfl,rfl,rfl,rfl,λz=>by rw[z] at ne;simp at ne⟩
end L2
namespace JM
open Flags
def aO(m:Int):LI->dQ
 |[]=>[[]]
 |x::r=>if x=m then []::aO m r else match aO m r with
  |[]=>[[x]]
  |w::l=>(x::w)::l
def xt(m:Int)(ps:dQ)(x:Int):dQ:=
 if x=m then ps++[[]] else ps.dropLast++[ps.getLastD []++[x]]
theorem m6(m:Int):∀l,aO m l≠[]:=by
 intro l;induction l with
 |nil=>
  simp[aO]
 |cons x r j=>
  ext aO;split
  .simp
  .split <;> simp
def LL(m x:Int)(w:LI)(l:dQ)(h:l≠[]):xt m (w::l) x=w::xt m l x:=by
 ext xt;split
 .rfl
 .cases l with
  |nil=>symm
  |cons a l=>rfl
theorem ahD(m x:Int):∀l,aO m (l++[x])=xt m (aO m l) x:=by
 intro l;induction l with
 |nil=>
  by_cases h:x=m <;> simp[aO,xt,h]
 |cons y r j=>
  let j:=j;let q:=m6 m r;show aO m (y::(r++[x]))=_;ext aO;split
  .rw[j,LL _ _ _ _ q]
  .rw[j];cases e:aO m r with
   |nil=>exact absurd e q
   |cons w l=>
    cases l with
    |nil=>by_cases z:x=m <;> simp[xt,z]
    |cons a l=>
     rw[LL m x w (a::l) Ä];rw[LL m x (y::w) (a::l) Ä]
def ml:LI:=[48,49,50,51,52,53,54,55,56,57,97,98,99,100,101,102]
def qS:LI:=ml++[63]
def kC:LI:=[115,101,101,110]
def vL:dQ:=[[102,114,111,110,116],[98,101,104,105,110,100],[117,110,107,110,111,119,110]]
def iJ:dQ:=[[104,111,105,115,116],[104,111,105,115,116,32,97,98,111,118,101],[104,111,105,115,116,32,98,101,108,111,119],[104,111,105,115,116,32,97,98,111,118,101,32,98,101,108,111,119]]
def iK:dQ:=[[115,113,117,97,114,101],[116,97,105,108,115],[108,111,110,103],[115,104,97,112,101,63]]
def B(n:Int):UInt8:=UInt8.ofNat n.toNat
def br(l:LI):Prop:=∀x∈l,0<=x/\x<=255
def LM(h:0<=x/\x<=255):(B x).toNat=x.toNat:=by
 ext B;rw[UInt8.toNat_ofNat']
 af
def Vw(j:0<=x/\x<=255)(q:0<=y/\y<=255)(e:B x=B y):x=y:=by
 let:=cb UInt8.toNat e;rw[LM j,LM q] at this;grind
theorem xu:∀{a b:LI},br a->br b->a.M B=b.M B->a=b
 |[],[],_,_,_=>rfl
 |[],_::_,_,_,e=>by simp at e
 |_::_,[],_,_,e=>by simp at e
 |x::a,y::b,ha,hb,e=>by
  simp only[a8,List.cons.injEq] at e;rw[Vw (ha x eP) (hb y eP) e.1,xu (λz hz=>ha z (aL _ hz)) (λz hz=>hb z (aL _ hz)) e.2]
theorem yS(m:Int)(F:0<=m/\m<=255):∀l,br l->cutAt (B m) Ľ=(aO m l).M ë:=by
 intro l;induction l with
 |nil=>exact @λ_=>Á
 |cons x r j=>
  intro h;let J:=h x eP;let j:=j λz hz=>h z (aL _ hz);show(if B x=B m then []::cutAt (B m) (r.M B) else match cutAt (B m) (r.M B) with
   |[]=>[[B x]]
   |w::l=>(B x::w)::l)=(aO m (x::r)).M ë
  ext aO;by_cases e:x=m
  .rw[ai e,ai (by rw[e]),j];rfl
  .rw[ah e,ah λq=>e (Vw J F q),j];cases aO m r with
   |nil=>rfl
   |cons w l=>rfl
theorem qT(m:Int):∀{l},br l->∀w∈aO m l,br w:=by
 intro l;induction l with
 |nil=>
  intro _ w j;simp[aO] at j;subst j;intro z hz;cases hz
 |cons x r q=>
  intro h w j;let q:=q λz hz=>h z (aL _ hz);delta aO at j;split at j
  .rcases a9.mp j with rfl|j
   .intro z hz;cases hz
   .exact q w j
  .cases e:aO m r with
   |nil=>exact absurd e (m6 m r)
   |cons a l=>
    rw[e] at j q;rcases a9.mp j with rfl|j
    .intro z hz;rcases a9.mp hz with rfl|hz
     .exact h _ eP
     .exact q a eP z hz
    .exact q w (aL _ j)
theorem ahE(m:Int){l:LI}:m∉l->aO m l=[l]:=by
 induction l with
 |nil=>exact @λ_=>Á
 |cons x r z=>
  intro h;let j:¬x=m:=λe=>h (by rw[e];exact eP);let h2:=z λq=>h (aL _ q);ext aO;rw[ah j,h2]
theorem Vx(m:Int)(r:LI){l:LI}:m∉l->aO m (l++m::r)=l::aO m r:=by
 induction l with
 |nil=>
  intro _;show aO m (m::r)=_;ext aO;rw[ai rfl];split <;> rfl
 |cons x l z=>
  intro h;let j:¬x=m:=λe=>h (by rw[e];exact eP);let h2:=z λq=>h (aL _ q);show(if x=m then []::aO m (l++m::r) else match aO m (l++m::r) with
   |[]=>[[x]]
   |w::l=>(x::w)::l)=_
  rw[ah j,h2]
def glue(m:Int):dQ->LI
 |[]=>[]
 |[w]=>w
 |w::r=>w++m::glue m r
theorem ahF(m:Int)(w:LI)(h:r≠[]):glue m (w::r)=w++m::glue m r:=by
 cases r with
 |nil=>symm
 |cons a r=>rfl
theorem ahG(m:Int):∀l,glue m (aO m l)=l:=by
 intro l;induction l with
 |nil=>exact Á
 |cons x r j=>
  let j:=j;let q:=m6 m r;ext aO;split
  .rename_i e;rw[ahF m [] q,j,e];rfl
  .cases e:aO m r with
   |nil=>exact absurd e q
   |cons w l=>
    rw[e] at j;cases l with
    |nil=>
     show x::w=x::r;rw[show w=r from j]
    |cons a l=>
     rw[<-j];rfl
def xw(c:LI):Bool:=c.L==16&&c.all ml.Y
def GQ(h:l.all (λx=>decide (0<=x)&&decide (x<=255))=true):br l:=λx j=>by
 symm
def ahH(h:0<=x/\x<=255):(hexValue (B x)).isSome=ml.Y x:=by
 let e:=(by decide+kernel:∀n<256,(hexValue (B (n:Nat))).isSome=ml.Y ((n:Nat):Int)) x.toNat Ù
 rwa [Int.toNat_of_nonneg h.1] at e
theorem mapM_some(f:α->Option β):∀l:List α,(l.mapM f).isSome=l.all (λx=>(f x).isSome):=by
 intro l;induction l with
 |nil=>exact Á
 |cons x r j=>
  let j:=j;rw[JO,tu,<-j];cases f x with
  |none=>rfl
  |some y=>
   cases r.mapM f with
   |none=>rfl
   |some z=>rfl
def LO(h:br l)(e:∀x,0<=x/\x<=255->f x=g x):l.all f=l.all g:=by
 rw[qy,jI,jI];exact(λq x j=>by rw[<-e x (h x j)];exact q x j,λq x j=>by rw[e x (h x j)];exact q x j)
def Vy(h:br c):(lookIn Æp).isSome=xw c:=by
 ext lookIn xw;rw[ao];by_cases e:c.L=16
 .rw[ah (λq=>q e),Fn,mapM_some,rJ];rw[show c.all ((λx=>(hexValue x).isSome)∘B)=c.all ml.Y from LO h (λx j=>ahH j),e];rfl
 .symm
def preOf(b:LI):LI:=kC++32::(b++[32])
def ahI{b:LI}(h:br b):br (preOf b):=λx j=>by
 delta preOf at j;rcases fw.mp j with q|q
 .exact GQ (l:=kC) Ð x q
 .rcases a9.mp q with q|q
  .subst q;decide
  .rcases fw.mp q with q|q
   .exact h x q
   .let:x=32:=by simpa using q
    subst this;decide
def ahJ(q:br w)(Y:br b):
  ((ascii "seen"++32::(b.M B++[32])).isPrefixOf Ĳ &&(lookIn ((w.M B).drop (6+(b.M B).L))).isSome)=true↔ ∃c,w=kC++32::(b++32::c)/\xw c=true:=by
 let M:ascii "seen"++32::(b.M B++[32])=(preOf b).M B:=by
  ext preOf;rw[bI,a8,bI];rfl
 let el:(preOf b).L=6+b.L:=by
  ext preOf;rw[j5,dh,j5];show 4+(b.L+1+1)=_
  af
 rw[M,jH,List.isPrefixOf_iff_prefix,ao,<-RS];constructor
 .rintro⟨⟨t,Z⟩,F⟩;let hd:br (w.drop (6+b.L)):=λx j=>q x (abj j);rw[Vy hd] at F;apply(w.drop (6+b.L),?_,F);let W:(w.take (6+b.L)).M B=(preOf b).M B:=by
   let:=cb (List.take (6+b.L)) Z;rw[<-abl] at this;grind
  let h2:=xu (λx j=>q x (zY j)) (ahI Y) W;let z:=RT (6+b.L) w;rw[h2] at z;apply z.symm.R ?_;ext preOf;simp
 .rintro⟨c,rfl,hc⟩;let O:kC++32::(b++32::c)=preOf b++c:=by
   ext preOf;simp
  rw[O] at q⊢;let J:=λx j=>q x (rH _ j);let U:(preOf b++c).drop (6+b.L)=c:=by
   symm
  rw[U,Vy J];symm
def eJ(s:Nat):LI:=vL.D s []
def Vz:∀s∈[0,1,2],sideWord s=(eJ s).M B/\br (eJ s)/\vL.Y (eJ s)=true:=by
 intro s hs;let:s=0\/s=1\/s=2:=À hs
 rcases this with rfl|rfl|rfl <;> exact(by decide,GQ Ð,by decide)
def pS(l:Bytes)(s:Nat):Bool:=(ascii "seen"++32::(sideWord s++[32])).isPrefixOf l&&(lookIn (l.drop (6+(sideWord s).L))).isSome
def VA(q:br w)(hs:s∈[0,1,2]):pS Ĳ s=true↔ ∃c,w=kC++32::(eJ s++32::c)/\xw c=true:=by
 let(e,j,_):=Vz s hs;ext pS;rw[e];exact ahJ q j
def VB{w:LI}(z:br w){l:dQ}(q:∀x∈l,br x):w.M B∈l.M ë↔w∈l:=by
 rw[bH];constructor
 .rintro⟨x,j,e⟩;rw[<-xu (q x j) z e];exact j
 .grind
def fH(l:Bytes):Option (Bool×Bool):=[(false,false),(true,false),(false,true),(true,true)].find? λ(x:Bool×Bool)=>(Glimpse.lines ⟨x.1,x.2,[]⟩).head?==Α l
def fF(l:Bytes):Option Nat:=[0,1,2,3].find? λ(s:Nat)=>shapeSeen s==l
def VC(l:dQ)(h:l.all (λw=>w.all (λx=>decide (0<=x)&&decide (x<=255)))=true):∀x∈l,br x:=λx j=>GQ (jI.mp h x j)
def ahK{w:LI}(z:br w):(fH Ĳ).isSome=iJ.Y w:=by
 let e:iJ.M ë=[(false,false),(true,false),(false,true),(true,true)].M (λ(x:Bool×Bool)=>((Glimpse.lines ⟨x.1,x.2,[]⟩).head?).D []):=by decide
 let q:∀x∈[(false,false),(true,false),(false,true),(true,true)],(Glimpse.lines ⟨x.1,x.2,[]⟩).head?=Α (((Glimpse.lines ⟨x.1,x.2,[]⟩).head?).D []):=by decide
 rw[qy];ext fH;rw[List.find?_isSome];rw[show(iJ.Y w=true↔w∈iJ) from by simp,<-VB z (VC iJ Ð),e,bH];constructor
 .rintro⟨x,j,h⟩;apply(x,j,?_);rw[eq_of_beq h];rfl
 .rintro⟨x,j,h⟩;apply(x,j,?_);rw[q x j,h];exact abm _
def ahL{w:LI}(j:br w):(fF Ĳ).isSome=iK.Y w:=by
 let e:iK.M ë=[0,1,2,3].M shapeSeen:=by decide
 rw[qy];ext fF;rw[List.find?_isSome];rw[show(iK.Y w=true↔w∈iK) from by simp,<-VB j (VC iK Ð),e,bH];simp
def ahM(l:Bytes):plateLine l=match [0,1,2].find? (pS l) with
  |some s=>(lookIn (l.drop (6+(sideWord s).L))).M λ(x:Nat)=>.seen s x
  |none=>match fH l with
   |some x=>some (.hoist x.1 x.2)
   |none=>match fF l with
    |some s=>some (.flag s)
    |none=>if l.L=4 then (l.mapM cellIn).M .cells else none:=rfl
def LQ{p:LI}(h:br p):PlateNeutral.text? p=Α Áq:=by
 ext PlateNeutral.text?;rw[ai ?_]
 .rfl
 .ext NeutralIO.bytes;rw[jI];intro x j;let:=h x j;symm
end JM
namespace HD
open PySem PySem.Spec PyProof.Rows L2
abbrev LR:Stmt:=top 6
abbrev LU:Stmt:=top 7
abbrev LW:Stmt:=top 15
abbrev LX:Stmt:=top 16
abbrev LY:Stmt:=top 17
abbrev LZ:Stmt:=top 18
abbrev L6:Stmt:=top 19
abbrev L7:Stmt:=top 20
abbrev L9:Stmt:=top 21
abbrev Ma:Stmt:=top 22
abbrev ahN:Stmt:=inClass (top 33) 0
abbrev ahO:Stmt:=inClass (top 34) 0
abbrev Mb:Stmt:=top 35
abbrev Mc:Stmt:=top 36
abbrev Md:Stmt:=top 37
abbrev Me:Stmt:=top 38
abbrev Mf:Stmt:=top 39
abbrev Mg:Stmt:=top 41
abbrev Mh:Stmt:=top 42
abbrev Mi:Stmt:=top 43
abbrev Mj:Stmt:=inClass (top 60) 0
abbrev ahP:Stmt:=inClass (top 61) 0
abbrev ahQ:Stmt:=inClass (top 62) 0
abbrev ahR:Stmt:=inClass (top 63) 0
abbrev Ml:Stmt:=top 64
abbrev Mm:Stmt:=top 65
abbrev Mn:Stmt:=top 66
abbrev Mo:Stmt:=top 67
abbrev Mp:Stmt:=top 68
abbrev Mq:Stmt:=top 69
abbrev Mr:Stmt:=top 70
abbrev Ms:Stmt:=top 71
abbrev Mt:Stmt:=top 72
abbrev Mu:Stmt:=top 74
abbrev ahS:Stmt:=inClass (top 75) 0
abbrev Mv:Stmt:=top 76
abbrev Mw:Stmt:=top 77
abbrev Mx:Stmt:=top 78
abbrev My:Stmt:=top 79
abbrev Mz:Stmt:=top 80
abbrev MA:Stmt:=top 81
abbrev MB:Stmt:=top 82
abbrev ahT:Stmt:=inClass (top 90) 0
abbrev MC:Stmt:=top 91
abbrev MD:Stmt:=top 92
abbrev ME:Stmt:=top 93
abbrev MF:Stmt:=top 94
abbrev MH:Stmt:=top 95
abbrev MI:Stmt:=top 96
abbrev MJ:Stmt:=top 97
abbrev MK:Stmt:=top 98
abbrev ML:Stmt:=top 99
abbrev ahU:Stmt:=inClass (top 101) 0
abbrev MM:Stmt:=top 102
abbrev MN:Stmt:=top 103
abbrev MO:Stmt:=top 104
abbrev MP:Stmt:=top 105
abbrev MQ:Stmt:=top 106
abbrev MR:Stmt:=top 107
abbrev MS:Stmt:=top 108
abbrev MT:Stmt:=top 109
abbrev MU:Stmt:=top 110
abbrev MV:Stmt:=top 111
abbrev MW:Stmt:=top 112
abbrev ahV:Stmt:=inClass (top 120) 0
abbrev ahW:Stmt:=inClass (top 121) 0
abbrev MX:Stmt:=top 122
abbrev MY:Stmt:=top 123
abbrev MZ:Stmt:=top 124
abbrev M0:Stmt:=top 125
abbrev M3:Stmt:=top 126
abbrev M4:Stmt:=top 127
abbrev M5:Stmt:=top 129
abbrev ahX:Stmt:=inClass (top 133) 0
abbrev M6:Stmt:=top 134
abbrev M7:Stmt:=top 135
abbrev M8:Stmt:=top 136
abbrev M9:Stmt:=top 137
abbrev Na:Stmt:=top 138
abbrev ahY:Stmt:=inClass (top 140) 0
abbrev AL:Stmt:=top 141
abbrev Nb:Stmt:=top 142
abbrev Nc:Stmt:=top 143
abbrev Nf:Stmt:=top 144
abbrev ahZ:Str:="are_in_order_lockers"
end HD
namespace HD
open PySem PySem.Spec PyProof.Rows L2
open PySem.W (Codec)
def m7(H H':Hp)(p:Addr)(o:HO):Prop:=aj H H'/\H p=Β/\H' p=Α o
def aI{H:Hp}{p:Addr}{o:HO}(h:H p=Β):aj H (upd H p o):=λb u e=>by rw[aA (eS e h)];exact e
def fe{H H1:Hp}{p:Addr}{o:HO}(s:aj H H1)(h:H p=Β):aj H (upd H1 p o):=λb u e=>by rw[aA (eS e h)];exact s b u e
def codes(x:Str):LI:=x.cps.toList.M λn=>((n:Nat):Int)
abbrev iv(l:LI):az:=l.M V.int
def VD(l:LI)(z:Int):iv (l++[z])=iv l++[.int z]:=by
 simp
def eK{A B:Hp->Prop}(h:A H):CU σ H (λb j=>if b=true then A j else B j):=by
 ext CU;symm
def take_snoc{α:Type}{l:List α}{i:Nat}{x:α}(h:l[i]? =Α x):l.take (i+1)=l.take i++[x]:=by
 rw[List.take_succ,h];rfl
def gc{n:Nat}(h:n<=1000000):n<sizeLine:=qz h (by rw[yh];decide)
inductive Dz(vs:az)(H:Hp)(Q:VK)(E':XK):Prop
 |mk (x:Str) (_:vs=[.str x]) (_:x.cps.u<=100000) (_:∀H' p,Ů p (.lst (iv ũ))->Q Ĝ H')
section
variable{P:Pg}{w:Wd}{K:FR}{mg:MG}{base:Heap}
def Ng:bG ["written","sign"] ["written"] (bc LW):=î
def ah0{f:Addr}{fd:FD}(F:bu K "spelled" "spelled" LW f fd)(j:mg "ord"=Β):Ë 1 f fd ["written"] Dz:=by
 refine F.ok Ng Â;let(x,rfl,O,k):=h;refine⟨_,aB (aX (eB (own:=[("sign",1)]) Á Ng.nd (afh Ö) Ê (λ_ _ _ _ _=>c6 1 Ng.nd) Ñ
  (λ_ _ _ _ _=>c9 adh Ï j boot_ord Ĺ))),?_⟩
 apply(_,Á,x,Á,λD q=>af0 (λi H'=>aj H H'/\H' D=Α (.lst (iv ((codes x).take i)))) ⟨aI q,au⟩ (λi c H' hc ⟨z,hd⟩=>⟨Á,eK ?_⟩) (λH' ⟨z,hd⟩=>?_))
 .let M:=(BS.mp hc).1;let J:ũ[i]? =Α (c:Int):=by
   ext codes;symm
  apply(_,Á,_,Á,Á,_,hd,?_,fe z q,?_)
  .rw[ao,iS];exact qz (Nat.min_le_left _ _) (gc Ù)
  .rw[au,take_snoc J,VD];rfl
 .apply k H' D ⟨z,q,?_⟩;rw[hd];let:(codes x).L=x.cps.u:=by ext codes;rw[ao,yi]
  grind
abbrev eV(H:Hp)(j:LA)(L:dQ):Prop:=Paired (λq l=>H q=Α Œ) j L
inductive xx(K:FR)(vs:az)(H:Hp)(Q:VK)(E':XK):Prop
 |mk (a:Addr) (m:Int) (ns:LI) (_:vs=[.ref a,.int m]) (_:ä a (iv ns)) (_:ns.L<=100000) (_:∀H' p qs,Ů p Ĕ->eV H' qs (JM.aO m ns)->qs.Nodup->p∉qs->(∀q∈qs,H q=Β)->Q Ĝ H')
def eV.same(h:eV H qs L)(s:aj H H'):eV H' qs L:=Paired.ot h λq l e=>s _ _ e
def eV.len(h:eV H qs L):qs.L=L.L:=Paired.length h
theorem eV.upd(h:eV H qs L)(n:p∉qs):eV (upd H p o) qs L:=by
 induction h with
 |nil=>exact .nil
 |cons r t j=>exact .cons (by rw[aA (λz=>n (by rw[z];exact eP))];exact r) (j λz=>n (aL _ z))
theorem eV.mem(h:eV H qs L):∀q∈qs,∃l∈L,H q=Α Œ:=by
 induction h with
 |nil=>intro q h;cases h
 |cons r t z=>
  intro q h;rcases a9.mp h with rfl|h
  .exact(_,eP,r)
  .let(l,j,e):=z q h;exact(l,aL _ j,e)
theorem eV.snoc(e:H q=Α Œ)(h:eV H qs L):eV H (qs++[q]) (L++[l]):=by
 induction h with
 |nil=>exact .cons e .nil
 |cons r t j=>exact .cons r j
theorem eV.last(h:eV H qs L):L≠[]->∃j q,qs=j++[q]/\eV H j L.dropLast/\H q=Α (.lst (iv (L.getLastD []))):=by
 induction h with
 |nil=>exact λh=>absurd Á h
 |cons r t z=>
  intro _;cases t with
  |nil=>exact([],_,Á,.nil,r)
  |cons M t=>
   let(j,F,e,t',J):=z Ä;exact(_::j,F,by rw[e];rfl,.cons r t',J)
def Nh:bG ["text","mark","parts","byte"] ["text","mark"] (bc LX):=î
theorem GT(m:Int):∀l:LI,(JM.aO m l).L<=l.L+1:=by
 intro l;induction l with
 |nil=>
  simp[JM.aO]
 |cons x r j=>
  let j:=j;ext JM.aO;split
  .simp only[dh];symm
  .split
   .simp
   .rename_i w l e;rw[e] at j;simp only[dh] at j⊢
    af
theorem yT(m:Int)(l:LI):∀(w:LI),w∈JM.aO m l->w.L<=l.L:=by
 induction l with
 |nil=>
  intro w h;simp[JM.aO] at h;simp[h]
 |cons x r j=>
  intro w h;let j:=j;delta JM.aO at h;split at h
  .rcases a9.mp h with rfl|h
   .simp
   .let:=j w h;simp only[dh];af
  .cases e:JM.aO m r with
   |nil=>exact absurd e (JM.m6 m r)
   |cons W l=>
    rw[e] at h j;rcases a9.mp h with rfl|h
    .let:=j W eP;simp only[dh];symm
    .let:=j w (aL _ h);simp only[dh];af
inductive CtI(a p:Addr)(m:Int)(ns:LI)(H:Hp)(i:Nat)(σ:L2.St)(H':Hp):Prop
 |mk (v:Option V) (qs:LA) (_:σ=[some ħ,some (.int m),some Ĝ,v]) (_:aj H H') (_:H' p=Α Ĕ) (_:eV H' qs (JM.aO m Èn)) (_:qs.Nodup) (_:p∉qs) (_:∀q∈qs,H q=Β)
def ah3{f:Addr}{fd:FD}(F:bu K "cut" "cut" LX f fd):Ë 1 f fd ["text","mark"] (xx K):=by
 refine F.ok Nh Â;let(a,m,ns,rfl,hS,hl,k):=h;refine⟨_,aD (cg 2 Nh.nd (dw Åh))
  (aD (Į Åe (c6 3 Nh.nd)
   (aB (dm (cy iC ö á (bV _))
    (aB (pJ (Ü å Åh)))
    (aB (pJ (Ü (cK dc å Âg Õ) ĳ))))))
  Çr),?_⟩
 apply(dj _,λq0 Z=>⟨(by show 1<=sizeLine;decide),λp hp=>?_⟩);let l6:=(aI Z).free hp;let pq:p≠q0:=λz=>by rw[z,au] at hp;cases hp
 refine⟨_,Á,a,Á,⟨_,(fe (aI Z) l6).seq hS⟩,pK (K:=K) (a:=a) (xs:=iv ns) (CtI a p m ns H)
  ⟨none,[q0],rfl,fe (aI Z) l6,au,.cons (by rw[aA (eF pq)];exact au) .nil,by simp,À pq,À Z⟩ (λi σ H' _ h=>(by let(_,_,_,J):=h;exact J.seq hS)) ?_ ?_⟩
 .rintro i y σ H' hi ⟨v,Y,rfl,J,j,h2,U,M,W⟩;obtain⟨z,hz,rfl⟩:∃z,ns[i]? =Α z/\y=V.int z:=by
   rw[bA] at hi;cases e:ns[i]? with
   |none=>rw[e] at hi;cases hi
   |some z=>rw[e] at hi;exact(z,Á,(aU hi).symm)
  let dq:=(bp.mp hz).1;let et:=take_snoc hz;let ec:=JM.ahD m z Èn;let lq:Y.L<=i+1:=by
   rw[h2.len];apply gq (GT m _) ?_;rw[iS]
   af
  refine⟨_,Á,_,Á,Á,_,Á,a7 Î Î⟩
  .simp at hc;apply(_,Á,.inl ⟨Á,_,aa.of j⟩,dj _,λq O=>⟨p,_,_,Á,Á,(by rw[aA (eS j O)];exact j),(by rw[ao];exact gc Ù),?_⟩);let GU:=J.free O;let VE:q∉Y:=λhm=>by
    let(l,_,r):=eV.mem h2 q hm;rw[r] at O;cases O
   apply(_,Y++[q],Á,fe (fe J GU) l6,?_,?_,?_,?_,?_)
   .rw[au,bI];rfl
   .rw[et,ec];ext JM.xt;rw[ai hc];exact eV.upd (eV.snoc (l:=[]) au (eV.upd h2 VE)) (λz=>by
     rcases fw.mp z with z|z
     .exact M z
     .exact eS j O (À z))
   .exact K5 U VE
   .intro z;rcases fw.mp z with z|z
    .exact M z
    .exact eS j O (À z)
   .intro q' z;rcases fw.mp z with z|z
    .exact W q' z
    .rw[show q'=q by simpa using z];exact GU
  .simp at hc;let(hJ,q,rfl,t',r'):=eV.last h2 (JM.m6 m _);let nqs:=λz=>by
    let:=(RP.mp U).2.2 q z q Ä;exact this Á
   apply(_,Á,_,Á,p,_,_,V.ref q,Á,Á,aa.of j,?_,.inl ⟨Á,_,aa.of r'⟩,_,Á,q,_,_,Á,Á,r',?_,?_)
   .rw[bI];exact wY _ _
   .rw[ao];let:((JM.aO m Èn).getLastD []).L<=(ns.take i).L:=by
     apply yT m _ _ ?_;rw[List.getLastD_eq_getLast?];cases e:(JM.aO m Èn).getLast? with
     |none=>exact absurd (atZ.mp e) (JM.m6 m _)
     |some l=>exact Fs e
    rw[iS] at this;exact gc Ù
   .let np:p≠q:=λz=>M (by rw[z];simp);apply(_,hJ++[q],Á,fe J (W q Ä),by rw[aA np];exact j,?_,U,M,W);rw[et,ec];ext JM.xt;rw[ah hc];apply eV.snoc ?_ (eV.upd t' nqs);rw[au];exact cb (λz=>some (HO.lst z)) (VD _ _).symm
 .rintro σ H' ⟨v,Y,rfl,J,j,h2,U,M,W⟩;rw[ao,i5] at h2;exact(_,Á,k H' p Y ⟨J,l6,j⟩ h2 U M W)
end
def oI:Option Nat->V
 |some i=>.int (i:Nat)
 |none=>.aP
def bW(q:dQ)(part:LI):Option Nat:=q.findIdx? λw=>decide (w=part)
inductive GV(K:FR)(vs:az)(H:Hp)(Q:VK)(E':XK):Prop
 |mk (aw ap:Addr) (qw:LS) (part:LI) (_:vs=[.ref aw,.ref ap]) (_:š aw (qw.M V.str)) (_:(∀x∈qw,x.cps.u<=100000)) (_:ä ap Ão) (_:∀H',aj H H'->Q (oI (bW (qw.M codes) part)) H')
def find_none{α:Type}{p:α->Bool}{l:List α}(h:∀x∈l,p x=false):l.findIdx? p=Β:=by
 symm
theorem ah5{α:Type}{p:α->Bool}{l:List α}:∀{i:Nat}{x:α},l[i]? =Α x->(∀y∈l.take i,p y=false)->p x=true->l.findIdx? p=Α i:=by
 induction l with
 |nil=>intro i x h _ _;simp at h
 |cons a l F=>
  intro i x h j q;rw[abn];cases i with
  |zero=>
   let e:=aU h;subst e;rw[q];rfl
  |succ i=>
   rw[j a Ä,F (i:=i) (x:=x) h (λy z=>j y (by rw[RU];exact aL _ z)) q];rfl
def aj.tup{K:FR}{H H':Hp}{a:Addr}{xs:az}(e:aj H H')(h:š a xs):bx K H' a xs:=by
 rcases h with (h|⟨o,h⟩)|h
 .exact .inl (.inl (e _ _ h))
 .exact .inl (.inr ⟨o,e _ _ h⟩)
 .exact .inr h
section
variable{P:Pg}{w:Wd}{K:FR}{mg:MG}{base:Heap}
def VF:bG ["words","part","place","word"] ["words","part"] (bc LZ):=î
def ah6{f O:Addr}{fd yU:FD}(F:bu K "place_among" "place_among" LZ f fd)(tE:mg "enumerate"=Β)(GS:Ë 1 O yU ["written"] Dz)(mS:mg "spelled"=Α (.ref O))(kS:PySem.W.keepIn K (.ref O)=true)(bS:Binds K yU ["written"] []):
  a0 P w K mg base aF 2 f fd ["words","part"] (GV K):=by
 refine F.ok VF Â;let(M,ap,J,part,rfl,hW,hw,hP,k):=h;refine⟨_,aD (i7 jJ Á (UW Ï tE õ) (iB 2 3 VF.nd)
   (aB (dm (cy (aga hr.units) (nI GS hr rfl mS kS bS .nil tX ĳ) á (bV _)) Çr dX)))
  ϋ,?_⟩
 refine⟨_,Á,M,_,Á,hW,UX (K:=K) (a:=M) (xs:=J.M V.str) (λi σ H'=>∃Z v3:Option V,σ=[some (.ref M),some Én,Z,v3]/\aj H H'/\∀y∈(J.M codes).take i,decide (y=part)=false)
  ⟨none,none,rfl,aj.refl H,by simp⟩ (λi σ H' _ ⟨_,_,_,j,_⟩=>aj.tup j hW) ?_ ?_⟩
 .rintro i y T σ H' hi ⟨Z,v3,rfl,j,z⟩ hT;obtain⟨x,hx,rfl⟩:∃x,J[i]? =Α x/\y=V.str x:=by
   grind
  let s2:=fe (o:=.tup [.int (i:Nat),.str x]) j (j.free hT);apply(T,_,Á,bx.of au,Á,_,_,Á,_,_,Á,Á,_,Á,x,Á,hw x (bo hx),λH2 p hN=>?_);let Y:=s2.R hN.1;let pR:(J.M codes)[i]? =Α ũ:=by rw[bA,hx];rfl
  refine⟨_,Á,p,ap,codes x,part,Á,Á,aa.of hN.2.2,Y.seq hP,_,Á,a7 Î Î⟩
  .refine Ę;let e:=ah5 pR z hc;let q:=k H2 Y;delta bW at q;rw[e] at q;exact q
  .apply(_,_,Á,Y,λy U=>?_);rw[take_snoc pR] at U;grind
 .rintro σ H' ⟨Z,v3,rfl,j,z⟩;let q:=k H' j;rw[ao] at z;delta bW at q;rw[find_none (λy U=>z y (by rw[<-ao (f:=codes),i5];exact U))] at q;exact q
def kG(signs part:LI):Option LI:=if part.all (λb=>signs.Y b)=true then some (part.M λb=>((signs.idxOf b:Nat):Int)) else none
inductive GW(K:FR)(vs:az)(H:Hp)(Q:VK)(E':XK):Prop
 |mk (x:Str) (ap:Addr) (part:LI) (_:vs=[.str x,.ref ap]) (_:x.cps.u<=100000) (_:ä ap Ão) (_:part.L<=100000) (_:(kG ũ part=Β->∀H',aj H H'->Q .aP H')) (_:∀l,kG ũ part=Α l->∀H' p,Ů p Œ->Q Ĝ H')
theorem Ni(b:Int):∀l:LI,w6 (.int b) (iv l)=l.Y b:=by
 intro l;induction l with
 |nil=>exact Á
 |cons x l j=>
  let j:=j;delta w6 iv at j⊢;rw[a8,vb,j,BR];congr 1;show(x==b)=(b==x);by_cases h:x=b
  .subst h;rfl
  .let h2:¬b=x:=λz=>h z.symm;rw[yj.mpr h,yj.mpr h2]
theorem DB:∀l:LI,(iv l).all m3=true:=by
 intro l;induction l with
 |nil=>exact Á
 |cons x l j=>
  show(m3 (.int x)&&(iv l).all m3)=true;rw[j];rfl
theorem ub{l:LI}{i:Nat}{y:V}(h:(iv l)[i]? =Α y):∃z,l[i]? =Α z/\y=V.int z:=by
 delta iv at h;rw[bA] at h;cases e:l[i]? with
 |none=>rw[e] at h;cases h
 |some z=>rw[e] at h;exact(z,Á,(aU h).symm)
def ah7(l:List Bool)(b:Bool):(l++[b]).M V.bl=l.M V.bl++[.bl b]:=by
 simp
def VG{l:LI}{b:Int}(h:l.Y b=true):∃j z,l.idxOf b=j/\(iv l)[j]? =Α z/\qH z (.int b)=true/\∀(m:Nat)(Z:V),m<j->(iv l)[m]? =Α Z->qH Z (.int b)=false:=by
 let M:b∈l:=À h
 let J:l.idxOf b<l.L:=List.idxOf_lt_length_of_mem M;apply(_,.int b,Á,?_,?_,λm Z q hz=>?_)
 .ext iv;rw[bA,cJ J,List.getElem_idxOf];rfl
 .show(b==b)=true;exact abm b
 .let(z,F,rfl):=ub hz;show(z==b)=false;let:=List.not_of_lt_findIdx (p:=(· ==b)) (xs:=l) (i:=m) q;let(O,e):=bp.mp F;rw[e] at this;simpa using this
def AM:bG ["signs","part","known","byte"] ["signs","part"] (bc L6):=î
def ah8{f Y:Addr}{fd yU:FD}(F:bu K "places_in" "places_in" L6 f fd)(tA:mg "all"=Β)(GS:Ë 1 Y yU ["written"] Dz)(mS:mg "spelled"=Α (.ref Y))(kS:PySem.W.keepIn K (.ref Y)=true)(bS:Binds K yU ["written"] []):
  a0 P w K mg base aF 2 f fd ["signs","part"] (GW K):=by
 refine F.ok AM Â;let(x,J,part,rfl,hx,M,hl,k0,k1):=h;refine⟨_,aD (cg 2 AM.nd (nI GS hr Á mS kS bS .nil tX õ))
  (aD (dm (qC (ji (c9 (w8 rfl) Ï tA zZ (ae (eB (own:=[("byte",3)]) (te:=bU (FZ K false) Ŀ ř) rfl AM.nd Åd Ê (λ_ _ _ _ _=>c6 3 AM.nd) Ñ
     (λ_ _ _ _ _=>j8 KB ö å (by with_unfolding_all rfl))) ag)))) ϋ dX)
  (aB (aX (eB (own:=[("byte",3)]) (te:=Tp K "list" (Tz K) ř Âk) rfl AM.nd Åd Ê (λ_ _ _ _ _=>c6 3 AM.nd) Ñ
     (λ_ _ _ _ _=>pP PySem.F.plainAttrs_list PySem.F.slot_list_index PySem.F.type_list_index TJ å ĳ))))),?_⟩
 apply(_,Á,x,Á,hx,λH1 pk Z=>?_);let s1:=Z.1;refine⟨_,Á,J,Á,⟨_,s1.seq M⟩,λD hD=>fW (K:=K) (a:=J) (xs:=iv part) (λi H'=>aj H1 H'/\H' D=Α (.lst (((part.take i).M λb=>(codes x).Y b).M V.bl))) ⟨aI hD,au⟩
  (λi H' _ ⟨s2,_⟩=>(s1.R s2).seq M) (λi y H' hi ⟨s2,hd⟩=>?_) (λH' ⟨s2,hd⟩=>?_)⟩
 .let(z,hz,rfl):=ub hi;let dq:=(bp.mp hz).1;apply(Á,eK ⟨_,Á,_,Á,pk,_,Á,.inl (aa.of (s2 _ _ Z.2.2)),Á,DB _,_,hd,?_,fe s2 hD,?_⟩)
  .rw[ao,ao,iS];exact gc (by grind)
  .rw[au,take_snoc hz,bI];show some (HO.lst (_++[V.bl (w6 (.int z) (iv ũ))]))=Α (HO.lst ((_++[_]).M V.bl));rw[ah7,Ni]
 .rw[show(iv part).L=part.L by simp,i5] at hd;apply(D,_,Á,aa.of hd,_,Á,?_);let ea:(part.M λb=>(codes x).Y b).all id=part.all λb=>(codes x).Y b:=by
   simp
  rw[ea];refine a7 Î Î
  .simp at hc;apply k0 ?_ H' Áo;ext kG;symm
  .let hc:part.all (λb=>(codes x).Y b)=true:=by simpa using hc
   let e1:kG ũ part=Α (part.M λb=>(((codes x).idxOf b:Nat):Int)):=by
    ext kG;symm
   refine⟨_,Á,J,Á,⟨_,(s1.R s2).seq M⟩,λD2 U=>fW (K:=K) (a:=J) (xs:=iv part) (λi q=>aj H' q/\q D2=Α (.lst (iv ((part.take i).M λb=>(((codes x).idxOf b:Nat):Int))))) ⟨aI U,au⟩
    (λi q _ ⟨s3,_⟩=>((s1.R s2).R s3).seq M) (λi y q hi ⟨s3,O⟩=>?_) (λq ⟨s3,O⟩=>?_)⟩
   .let(z,hz,rfl):=ub hi;let dq:=(bp.mp hz).1;let(j,zz,ej,hj,Nk,DC):=VG (jI.mp hc z (bo hz));let hk:=(ğ) _ _ Z.2.2;apply(Á,eK ⟨_,Á,.inl ⟨Á,_,aa.of hk⟩,_,Á,pk,_,_,j,zz,Á,Á,aa.of hk,Á,DB _,hj,Nk,DC,_,O,?_,fe s3 U,?_⟩)
    .ext iv;rw[ao,ao,iS];exact gc (by grind)
    .rw[au,take_snoc hz,bI,<-ej];simp
   .rw[show(iv part).L=part.L by simp,i5] at O;exact k1 _ e1 q D2 ⟨(s1.R s2).R s3,(s1.R s2).free U,O⟩
def iG(part:LI):Option LI:=if part.L=16 then kG JM.ml part else none
inductive Nl(K:FR)(vs:az)(H:Hp)(Q:VK)(E':XK):Prop
 |mk (ap:Addr) (part:LI) (_:vs=[.ref ap]) (_:ä ap Ão) (_:part.L<=100000) (_:(iG part=Β->∀H',aj H H'->Q .aP H')) (_:∀l,iG part=Α l->∀H' p,Ů p Œ->Q Ĝ H')
def ah9:bG ["part"] ["part"] (bc L7):=î
def dy(l:LI):(iv l).L=l.L:=by ext iv;rw[ao]
def aia(F:bu K "read_colours" "read_colours" L7 f fd)(tL:mg "len"=Β)(mC:mg "COLOUR_SIGNS"=Α uC)(rC:RelV (.str "0123456789abcdef") uC)(J:Ë 2 fP Nm ["signs","part"] (GW K)) (Z:mg "places_in"=Α (.ref fP)) (Y:PySem.W.keepIn K (.ref fP)=true) (M:Binds K Nm ["signs","part"] []):
  a0 P w K mg base aF 3 f fd ["part"] (Nl K):=by
 refine F.ok ah9 Â;let(j,part,rfl,q,U,k0,k1):=h;refine⟨_,aD (dm (cy wU č bf (bV _)) ϋ dX)
  (aB (aX (nI J hr rfl Z Y M .nil tX (ae (vq Ï mC rC) õ)))),?_⟩
 refine⟨_,Á,j,_,Á,.inl q,Á,_,Á,a7 Î Î⟩
 .let hc:¬part.L=16:=by
   grind
  apply k0 ?_ H ſ;ext iG;symm
 .let hc:part.L=16:=by
   grind
  let e:iG part=kG (codes "0123456789abcdef") part:=by
   ext iG;rw[ai hc];rfl
  exact(_,Á,_,j,part,Á,by decide,q,U,λz H' s1=>k0 Èr H' s1,λl z H' p O=>k1 l Èr H' p O)
end
def Dn(P:Pg)(w:Wd)(K:FR)(mg:MG)(base:Heap)(CX:oy)(k:Nat)(x:Str)(ps:LS)(sp:Sp):Prop:=
 ∃f fd,Ģ CX k f fd ps sp/\mg x=Α ď/\PySem.W.keepIn K ď=true/\L2.Binds K fd ps []
def Cn(mg:MG)(x:Str)(v:V):Prop:=∃u,mg x=Α u/\RelV v u
def Tn(K:FR)(mg:MG)(x:Str)(xs:az):Prop:=∃a,mg x=Α ħ/\∀H,š a xs
def LstAt(H H':Hp):Option LI->V->Prop
 |none,v=>v=.aP
 |some l,v=>∃c,v=.ref c/\H c=Β/\H' c=Α Œ
section
variable{X:Cx}
def bz{CX:oy}{k m:Nat}{x:Str}{ps:LS}{sp:Sp}{e:Expr}{es:List Expr}{t:TA}{p pos:Pos}{E:XK}(d:Dn X.prog X.w X.K X.mg X.base CX k x ps sp)(q:PA X (e::es) t)(hr:eT m X.A:=by assumption)(J:vx CX X E:=by exact tX)(hk:k<=m:=by decide)(F:Gl X x:=by rfl)(M:(x==("__debug__":Str))=false:=by decide)(z:starEach (e::es) X.env=(false,eval e X.env)::starEach es X.env:=by rfl)(j:(backTo pos û).any (·.1)=false:=by rfl):PE X (.Call Ϗ (e::es) [] pos) (g9 sp [] E t):=
 let ⟨_,_,g,a,b,c⟩:=d
 nI g (hr.mono hk) F a b c .nil J q M z j
def cw{x:Str}{v:V}{pos:Pos}(c:Cn X.mg x v)(j:Gl X x:=by rfl)(hd:(x==("__debug__":Str))=false:=by decide):PE X Àc (tC v):=let ⟨_,m,r⟩:=c;vq j m r hd
end
structure eC where
 a:Addr
 dx:Addr
 l:Addr
 shape:Nat
 cells:LI
structure cA where
 a:Addr
 dx:Addr
 l:Addr
 above:Bool
 below:Bool
 flags:List eC
structure d7 where
 a:Addr
 dx:Addr
 cl:Addr
 gl:Addr
 side:Nat
 classes:LI
 aq:List cA
structure Cs where
 S:Addr
 G:Addr
 P:Addr
abbrev Nd:=Addr×HO
def xy(s:eC):List (Str×V):=[("shape",.int (s.shape:Nat)),("cells",.ref s.l)]
def qU(g:cA):List (Str×V):=[("above",.bl g.above),("below",.bl g.below),("flags",.ref g.l)]
def nU(p:d7):List (Str×V):=[("side",.int (p.side:Nat)),("classes",.ref p.cl),("glimpses",.ref p.gl)]
def gW(C:Cs)(s:eC):List Nd:=[(s.a,.ins C.S s.dx (xy s)),(s.l,.lst (iv s.cells))]
def gX(C:Cs)(g:cA):List Nd:=(g.a,.ins C.G g.dx (qU g))::(g.l,.lst (g.flags.M λs=>V.ref s.a))::g.flags.flatMap (gW C)
def eZ(C:Cs)(p:d7):List Nd:=(p.a,.ins C.P p.dx (nU p))::(p.cl,.lst Ř)::(p.gl,.lst (p.aq.M λg=>V.ref g.a))::p.aq.flatMap Æh
def Lies(H:Hp)(ns:List Nd):Prop:=∀x∈ns,H x.1=Α x.2
def Lies.same{H H':Hp}{ns:List Nd}(h:Lies H ns)(s:aj H H'):Lies H' ns:=λx j=>s _ _ (h x j)
structure iW where
 above:Bool
 below:Bool
 flags:List (Nat×LI)
structure eW where
 side:Nat
 classes:LI
 aq:List iW
def eC.m(s:eC):Nat×LI:=(s.shape,s.cells)
def cA.m(g:cA):iW:=⟨g.above,g.below,g.flags.M eC.m⟩
def d7.m(p:d7):eW:=⟨p.side,p.classes,p.aq.M cA.m⟩
section
variable{C:Cs}{H:Hp}{p:d7}
def Lies.pl(h:Lies H Áx):H p.a=Α (.ins C.P p.dx (nU p)):=h (p.a,_) (by ext eZ;simp)
def Lies.cl(h:Lies H Áx):H p.cl=Α (.lst Ř):=h (p.cl,_) (by ext eZ;simp)
def Lies.gl(h:Lies H Áx):H p.gl=Α (.lst (p.aq.M λg=>V.ref g.a)):=h (p.gl,_) (by ext eZ;simp)
def Lies.sub(h:Lies H Áx){g:cA}(j:g∈p.aq):Lies H Çi:=λx q=>h x (by
 ext eZ;exact aL _ (aL _ (aL _ (jh.mpr ⟨g,j,q⟩))))
def Lies.ga{g:cA}(h:Lies H Çi):H g.a=Α (.ins C.G g.dx (qU g)):=h (g.a,_) (by ext gX;simp)
def Lies.fl{g:cA}(h:Lies H Çi):H g.l=Α (.lst (g.flags.M λs=>V.ref s.a)):=h (g.l,_) (by ext gX;simp)
def Lies.AN{g:cA}(h:Lies H Çi){s:eC}(hs:s∈g.flags):Lies H (gW C s):=λx j=>h x (by
 ext gX;exact aL _ (aL _ (jh.mpr ⟨s,hs,j⟩)))
def Lies.sa{s:eC}(h:Lies H (gW C s)):H s.a=Α (.ins C.S s.dx (xy s)):=h (s.a,_) (by ext gW;simp)
def Lies.sl{s:eC}(h:Lies H (gW C s)):H s.l=Α (.lst (iv s.cells)):=h (s.l,_) (by ext gW;simp)
end
def gM{f:Str}{v:V}{r:List (Str×V)}:((f,v)::r).Q f=Α v:=by
 rw[yk,abm]
def fq{f g:Str}{v:V}{r:List (Str×V)}(h:(f==g)=false):((g,v)::r).Q f=r.Q f:=by
 rw[yk,h]
def VH(p:d7):(nU p).Q ("side":Str)=Α (.int (p.side:Nat)):=gM
def GX(p:d7):(nU p).Q ("classes":Str)=Α (.ref p.cl):=(fq É).R gM
def m8(p:d7):(nU p).Q ("glimpses":Str)=Α (.ref p.gl):=(fq É).R ((fq É).R gM)
def Nn(g:cA):(qU g).Q ("above":Str)=Α (.bl g.above):=gM
def Np(g:cA):(qU g).Q ("below":Str)=Α (.bl g.below):=(fq É).R gM
def vM(g:cA):(qU g).Q ("flags":Str)=Α (.ref g.l):=(fq É).R ((fq É).R gM)
def GY(s:eC):(xy s).Q ("shape":Str)=Α (.int (s.shape:Nat)):=gM
def DE(s:eC):(xy s).Q ("cells":Str)=Α (.ref s.l):=(fq É).R gM
structure ly(K:FR)(C:Cs):Prop where
 cS:l8 K C.S
 cG:l8 K C.G
 cP:l8 K C.P
 yV:g8 K C.S "shape"
 DF:g8 K C.S "cells"
 Nq:g8 K C.G "above"
 Nr:g8 K C.G "below"
 vN:g8 K C.G "flags"
 Nt:g8 K C.P "side"
 DG:g8 K C.P "classes"
 m9:g8 K C.P "glimpses"
theorem qV{α:Type}(l:List α):l=[]\/∃r x,l=r++[x]:=by
 cases e:l.getLast? with
 |none=>exact .inl (atZ.mp e)
 |some x=>
  right;let(r,hr):=List.getLast?_eq_some_iff.mp e;exact(r,x,hr)
inductive GZ(C:Addr)(ns:LS)(vs:az)(H:Hp)(Q:VK)(E':XK):Prop
 |mk (x dx:Addr) (as:az) (_:vs=.ref x::as) (_:as.L=ns.L) (_:H x=Α Âx) (_:∀H',H' x=Α (.ins C dx (ns.zip as))->(∀b o,H b=Α o->b≠x->H' b=Α o)->Q .aP H')
def nV(P:Pg)(w:Wd)(K:FR)(mg:MG)(base:Heap)(x:Str)(C:Addr)(ns:LS):Prop:=
 ∃f fd,Mk K C f/\Ë 1 f fd ("self"::ns) (GZ C ns)/\mg x=Α Ĉ/\L2.Binds K fd ("self"::ns) []
def aib{f g:Str}{v x:V}{r:List (Str×V)}(h:¬g=f):iF f v ((g,x)::r)=(g,x)::iF f v r:=by
 show(if g=f then (g,v)::r else (g,x)::iF f v r)=_;rw[ah h]
section
variable{P:Pg}{w:Wd}{K:FR}{mg:MG}{base:Heap}{C:Cs}
end
def ite_yes{c A B:Prop}[Decidable c](hc:c)(h:A):if decide c=true then A else B:=by
 rw[ai (eQ hc)];exact h
def ite_no{c A B:Prop}[Decidable c](hc:¬c)(h:B):if decide c=true then A else B:=by
 rw[ah (À hc)];exact h
section
variable{X:Cx}
def pW{m:Nat}{x:Str}{C:Addr}{ns:LS}{e:Expr}{es:List Expr}{t:TA}{p pos:Pos}(d:nV X.prog X.w X.K X.mg X.base x C ns)(hr:eT m X.A)(q:PA X (e::es) t)(hk:2<=m:=by decide)(F:Gl X x:=by rfl)(J:(x==("__debug__":Str))=false:=by decide)(z:starEach (e::es) X.env=(false,eval e X.env)::starEach es X.env:=by rfl)(j:(backTo pos û).any (·.1)=false:=by rfl):PE X (.Call Ϗ (e::es) [] pos) (SX C (GZ C ns) [] E0 t):=
 let ⟨_,_,M,g,a,c⟩:=d
 adB M g (hr.mono hk) F a c .nil tX q J z j
end
end HD
namespace HD
open PySem PySem.Spec PyProof.Rows L2
theorem aic{f:Str}{v:V}{fs:List (Str×V)}:(∀x∈fs.M (·.1),¬x=f)->iF f v fs=fs++[(f,v)]:=by
 induction fs with
 |nil=>exact @λ_=>Á
 |cons j r z=>
  let(g,x):=j;intro h;rw[aib (h g Ä),z λy q=>h y (aL _ q)];rfl
def G0(K:FR):Nat->LS->TS
 |_,[]=>Sz
 |k,[n]=>FW K Ų (ay k) n
 |k,n::ns=>Kf (FW K Ų (ay k) n) (G0 K (k+1) ns)
theorem VI{K:FR}{C x dx:Addr}(c:l8 K C){σ:L2.St}(J:σ[0]? =Α (some (V.ref x))){D:Ends}:∀(ns:LS)(as:az)(done:List (Str×V))(k:Nat)(H:Hp),as.L=ns.L->(∀(i:Nat)a,as[i]? =Α a->σ[k+i]? =Α (some a))->H x=Α (.ins C dx done)->done.L+ns.L<=1000->
  (∀n∈ns,n∉done.M (·.1))->ns.Nodup->(∀n∈ns,ϱ n)->(∀H',H' x=Α (.ins C dx (done++ns.zip as))->(∀b o,H b=Α o->b≠x->H' b=Α o)->D.nx σ H')->G0 K k ns D σ H
 |[],as,done,k,H,hl,ha,hx,hs,hf,hd,hn,q=>by
  obtain rfl:as=[]:=À hl
  exact q H (À hx) λb o e _=>e
 |n::ns,a::as,done,k,H,hl,ha,hx,hs,hf,hd,hn,q=>by
  rw[dh] at hs;let(W,O):=kZ.mp hd;let U:iF n a done=done++[(n,a)]:=aic λy z e=>hf n Ä (by rw[<-e];exact z);let step:∀F:Ends,F.nx σ (upd H x (.ins C dx (done++[(n,a)])))->FW K Ų (ay k) n F σ H:=λF h=>by
   apply(a,ha 0 a Á,_,J,x,C,dx,done,Á,hx,c,hn n Ä,by af,?_);rw[U];exact h
  let b9:∀H',H' x=Α (.ins C dx ((done++[(n,a)])++ns.zip as))->(∀b o,upd H x (.ins C dx (done++[(n,a)])) b=Α o->b≠x->H' b=Α o)->D.nx σ H':=λH' Y h2=>by
   apply q H' (by rw[Y,rK];rfl) λb o e M=>h2 b o ?_ M;rw[aA M];exact e
  cases ns with
  |nil=>
   obtain rfl:as=[]:=À hl
   exact step D (b9 _ (by rw[au];simp) λb o e _=>e)
  |cons m ms=>
   apply step _ (VI c J (m::ms) as (done++[(n,a)]) (k+1) _ (À hl) (λi b e=>?_) au (by simp at hs⊢;af) (λy z j=>?_) O (λy z=>hn y (aL _ z)) b9)
   .rw[show k+1+i=k+(i+1) by af];exact ha (i+1) b e
   .rw[bI] at j;rcases fw.mp j with j|j
    .exact hf y (aL _ z) j
    .obtain rfl:y=n:=by simpa using j
     exact W z
def aid{P:Pg}{w:Wd}{K:FR}{mg:MG}{base:Heap}{C:Addr}{ns:LS}{q:Str}{st:Stmt}{f:Addr}{fd:FD}(F:bu K "__init__" q st f fd)(c:l8 K C)(n:∀n∈ns,ϱ n)(S:bG ("self"::ns) ("self"::ns) Âj)(hs:ns.L<=1000)(d:∀aK A outer s H E,l7 (oA aF P w K mg base ("self"::ns) q Âj f aK A outer s H E).yw Çe (G0 K 1 ns)):Ë 1 f fd ("self"::ns) (GZ C ns):=by
 refine F.ok S (len:=λvs H Q E h=>(by let(x,dx,as,rfl,j,_):=h;exact cb (· +1) j)) Â;let(x,dx,as,rfl,j,z,k):=h;apply(_,d aK A outer s H E,VI c (by ext L2.start;rfl) ns as [] 1 H j (λi a e=>?_) z (À hs) Ä (kZ.mp S.nd).2 n λH' h2 J=>k H' h2 J);ext L2.start;let hi:=(bp.mp e).1;rw[Fk (by simp;af),bA,show 1+i=i+1 by af,atN,e];rfl
end HD
namespace HD
open PySem PySem.Spec PyProof.Rows L2
open PySem.W (Codec)
def lD(line:LI):Option LI:=if line.L=4 then kG JM.qS line else none
inductive VJ(K:FR)(vs:az)(H:Hp)(Q:VK)(E':XK):Prop
 |mk (ap:Addr) (line:LI) (_:vs=[.ref ap]) (_:ä ap Æo) (_:line.L<=100000) (_:∀H' v,aj H H'->LstAt H H' (lD line) v->Q v H')
section
variable{P:Pg}{w:Wd}{K:FR}{mg:MG}{base:Heap}
def aie:bG ["line"] ["line"] (bc Mo):=cj
def aif(F:bu K "read_row" "read_row" Mo f fd)(tL:mg "len"=Β)(M:Cn mg "ROW" (.int 4))(cS:Cn mg "SEEN_SIGNS" (.str "0123456789abcdef?"))(O:Ç 2 "places_in" ["signs","part"] (GW K)):Ë 3 f fd ["line"] (VJ K):=by
 refine F.ok aie Â;let(q,part,rfl,J,U,k):=h;refine⟨_,aD (dm (cy wU č (cw M) (bV _)) ϋ dX)
  (aB (aX (bz (hr:=hr) O (ae Çm õ)))),?_⟩
 refine⟨_,Á,q,_,Á,.inl J,Á,_,Á,a7 Î Î⟩
 .let hc:¬part.L=4:=by
   grind
  apply k H .aP ſ ?_;ext lD;rw[ah hc];rfl
 .let hc:part.L=4:=by
   grind
  let e:lD part=kG (codes "0123456789abcdef?") part:=by
   ext lD;rw[ai hc];rfl
  exact(_,Á,_,q,part,Á,by decide,J,U,λz H' W=>k H' _ W (by rw[e,z];rfl),λl z H' p j=>k H' _ j.1 (by rw[e,z];exact(p,rfl,j.2.1,j.2.2)))
def eJ(line:LI):Option (Nat×LI):=match JM.aO 32 line with
 |[a,b,c]=>if a=JM.kC then (match bW JM.vL b,iG c with
  |some s,some l=>some (s,l)
  |_,_=>none) else none
 |_=>none
def AQ(H H':Hp):Option (Nat×LI)->V->Prop
 |none,v=>v=.aP
 |some (s,l),v=>∃t c,v=.ref t/\H t=Β/\H c=Β/\H' t=Α (.tup [.int (s:Nat),.ref c])/\H' c=Α Œ
inductive VL(K:FR)(vs:az)(H:Hp)(Q:VK)(E':XK):Prop
 |mk (ap:Addr) (line:LI) (_:vs=[.ref ap]) (_:ä ap Æo) (_:line.L<=100000) (_:∀H' v,aj H H'->AQ H H' (eJ line) v->Q v H')
def G1:bG ["line","words","side","classes"] ["line"] (bc Mn):=cj
def yW:LS:=["front","behind","unknown"]
def aih(F:bu K "read_side" "read_side" Mn f fd)(tL:mg "len"=Β)(cB:Cn mg "BLANK" Æs)(cS:Tn K mg "SIDES" (yW.M V.str))(dC:Ç 1 "cut" ["text","mark"] (xx K)) (dS:Ç 1 "spelled" ["written"] Dz) (dA:Ç 2 "place_among" ["words","part"] (GV K)) (dR:Ç 3 "read_colours" ["part"] (Nl K)):
  a0 P w K mg base aF 4 f fd ["line"] (VL K):=by
 let(aS,mS,hS):=cS;refine F.ok G1 Â;let(ap,line,rfl,hP,hl,k):=h;let qW:eT 1 _:=hr.mono Ð;let uc:eT 2 _:=hr.mono Ð;refine⟨_,aD (cg 1 G1.nd (bz (hr:=qW) dC (ae Ö Ϸ)))
  (aD (dm (PW.pt (pw_or (cy wU Ă bf (bV _))
    (pw_or1 (cy (Li hr.units) (cK dc á bf Õ) (bz (hr:=qW) dS (ae FF ag)) (bV _))))) ϋ dX)
  (aD (cg 2 G1.nd (bz (hr:=uc) dA (ae (vq (v:=.ref aS) Ï mS rfl) Ş)))
  (aD (cg 3 G1.nd (bz (hr:=hr) dR Ş))
  (aD (dm (PW.pt (pw_or Çd (pw_or1 (pI (rS ö))))) ϋ dX)
  (aB (aX (rY (ae å ĳ)))))))),?_⟩
 apply(_,Á,ap,32,line,Á,hP,hl,λH1 p qs U j nd np hf=>?_);let b7:((qs.M V.ref).L:Int)=((JM.aO 32 line).L:Nat):=by rw[ao,j.len]
 let s1:=U.1;refine⟨_,Á,p,_,Á,.inl (aa.of U.2.2),Á,_,Á,a7 Î Î⟩
 .apply k H1 .aP s1 ?_;let:eJ line=Β:=by
   ext eJ;grind
  rw[this];rfl
 .let h3:(JM.aO 32 line).L=3:=by
   grind
  obtain⟨a,b,c,O⟩:∃a b c,JM.aO 32 line=[a,b,c]:=by
   match JM.aO 32 line,h3 with
   |[a,b,c],_=>exact(a,b,c,Á)
  rw[O] at j;let Nu:∀w∈[a,b,c],w.L<=100000:=λw hw=>gq (yT 32 line w Å) hl;obtain⟨qa,qb,qc,rfl⟩:∃x y z,qs=[x,y,z]:=by
   let:=j.len
   match qs,this with
   |[x,y,z],_=>exact(x,y,z,Á)
  cases j with
  |cons ha j=>
   cases j with
   |cons hb j=>
    cases j with
    |cons jM j=>
     apply⟨_,Á,p,_,0,V.ref qa,Á,Á,aa.of U.2.2,Á,"seen",Á,by decide,λH2 p2 q=>?_⟩;let M:=s1.R q.1;refine⟨qa,p2,a,codes "seen",Á,Á,aa.of (q.1 _ _ ha),aa.of q.2.2,_,Á,a7 ģ ģ⟩
     .apply k H2 .aP M ?_;let:eJ line=Β:=by
       ext eJ;rw[O];show(if a=JM.kC then _ else none)=Β;simp at hd;rw[ah (λz=>hd (z.R rfl))]
      rw[this];rfl
     .simp at hd;apply(_,Á,p,_,1,V.ref qb,Á,Á,aa.of (q.1 _ _ U.2.2),Á,aS,qb,yW,b,Á,hS H2,by decide,aa.of (q.1 _ _ hb),λH3 J=>?_);apply(_,Á,p,_,2,V.ref qc,Á,Á,aa.of (J _ _ (q.1 _ _ U.2.2)),Á,qc,c,Á,aa.of (J _ _ (q.1 _ _ jM)),Nu c Ä,λz Z W=>?_,λl z Z p4 Y=>?_)
      .
       let en:eJ line=Β:=by
        ext eJ;rw[O];show(if a=JM.kC then _ else none)=Β;rw[ai (show a=JM.kC from hd),z];cases bW JM.vL b <;> rfl
       apply(_,Á,_,Á,a7 Èz (λ_=>⟨_,Á,_,Á,lr ?_⟩))
       .exact k Z .aP ((M.R J).R W) (by rw[en];rfl)
       .exact k Z .aP ((M.R J).R W) (by rw[en];rfl)
      .let W:=Y.1;apply(_,Á,_,Á,a7 Æu (λhn=>⟨_,Á,_,Á,oH ?_⟩))
       .simp at hn;let en:eJ line=Β:=by
         ext eJ;rw[O];show(if a=JM.kC then _ else none)=Β;rw[ai (show a=JM.kC from hd),show JM.vL=yW.M codes from rfl];cases e:bW Éa b with
         |none=>rfl
         |some i=>rw[e] at hn;cases hn
        exact k Z .aP ((M.R J).R W) (by rw[en];rfl)
       .simp at hn;obtain⟨i,ei⟩:∃i,bW Éa b=Α i:=by
         cases e:bW Éa b with
         |none=>rw[e] at hn;exact absurd Á hn
         |some i=>simp
        let en:eJ line=Α (i,l):=by
         ext eJ;rw[O];show(if a=JM.kC then _ else none)=_;rw[ai (show a=JM.kC from hd),z,show JM.vL=yW.M codes from rfl,ei]
        apply(_,Á,_,Á,(by show 2<=sizeLine;decide),λt ht=>?_);let s5:=(M.R J).R W;apply k _ (.ref t) (fe s5 (s5.free ht)) ?_;rw[en];apply(t,p4,Á,s5.free ht,(M.R J).free Y.2.1,?_,?_)
        .rw[au,ei];rfl
        .rw[aA (eS Y.2.2 ht)];exact Y.2.2
end
inductive Told where
 |side (s:Nat) (l:LI)
 |hoist (k:Nat)
 |shape (k:Nat)
 |row (l:LI)
def Told.sort:Told->Nat
 |.side _ _=>0
 |.hoist _=>1
 |.shape _=>2
 |.row _=>3
def lE(line:LI):Option Told:=match eJ line with
 |some x=>some (.side x.1 x.2)
 |none=>match bW JM.iJ line with
  |some k=>some (.hoist k)
  |none=>match bW JM.iK line with
   |some k=>some (.shape k)
   |none=>(lD line).M .row
def AR(H H':Hp):Told->V->Prop
 |.side s l,v=>∃t c,v=.ref t/\H c=Β/\H' t=Α (.tup [.int (s:Nat),.ref c])/\H' c=Α Œ
 |.hoist k,v=>v=.int (k:Nat)
 |.shape k,v=>v=.int (k:Nat)
 |.row l,v=>∃c,v=.ref c/\H c=Β/\H' c=Α Œ
def aii(H H':Hp):Option Told->V->Prop
 |none,v=>v=.aP
 |some t,v=>∃q y,v=.ref q/\H q=Β/\H' q=Α (.tup [.int (t.sort:Nat),y])/\AR H H' t y
inductive VM(K:FR)(vs:az)(H:Hp)(Q:VK)(E':XK):Prop
 |mk (ap:Addr) (line:LI) (_:vs=[.ref ap]) (_:ä ap Æo) (_:line.L<=100000) (_:∀H' v,aj H H'->aii H H' (lE line) v->Q v H')
def VN:LS:=["hoist","hoist above","hoist below","hoist above below"]
def VO:LS:=["square","tails","long","shape?"]
theorem AR.same(h:AR H H1 t v)(s:aj H1 H2):AR H H2 t v:=by
 cases t with
 |side a l=>let(t,c,j,h2,q,z):=h;exact(t,c,j,h2,s _ _ q,s _ _ z)
 |hoist k=>exact h
 |shape k=>exact h
 |row l=>let(c,j,h2,q):=h;exact(c,j,h2,s _ _ q)
def aij(F:AQ H H' (eJ line) v0)(J:LstAt H H' (lD line) v3)(q:[v0,oI ņ,oI Ņ,v3][i]? =Α x) (O:x≠ .aP) (hb:∀j y,j<i->[v0,oI ņ,oI Ņ,v3][j]? =Α y->y=.aP):
  ∃t,lE line=Α t/\t.sort=i/\AR H H' t x:=by
 let U:v0=.aP->eJ line=Β:=λz=>by
  cases e:eJ line with
  |none=>rfl
  |some p=>
   rw[e] at F;let(t,c,M,_):=F;symm
 let W:∀o:Option Nat,oI o=.aP->o=Β:=λo z=>by
  cases o with
  |none=>rfl
  |some k=>cases z
 match i,q with
 |0,q=>
  let ex:=aU q;subst ex;cases e:eJ line with
  |none=>rw[e] at F;exact absurd F O
  |some p=>
   rw[e] at F;let(t,c,M,h2,J,Y,h5):=F;refine⟨.side p.1 p.2,by ext lE;rw[e],rfl,t,c,M,J,Y,h5⟩
 |1,q=>
  let ex:=aU q;let Z:=U Çh;cases e:bW JM.iJ line with
  |none=>rw[e] at ex;exact absurd ex.symm O
  |some k=>
   rw[e] at ex;exact(.hoist k,by ext lE;rw[Z,e],rfl,ex.symm)
 |2,q=>
  let ex:=aU q;let Z:=U Çh;let z1:=W _ (hb 1 _ Å rfl);cases e:bW JM.iK line with
  |none=>rw[e] at ex;exact absurd ex.symm O
  |some k=>
   rw[e] at ex;exact(.shape k,by ext lE;rw[Z,z1,e],rfl,ex.symm)
 |3,q=>
  let ex:=aU q;subst ex;let Z:=U Çh;let z1:=W _ (hb 1 _ Å rfl);let z2:=W _ (hb 2 _ Å rfl);cases e:lD line with
  |none=>rw[e] at J;exact absurd J O
  |some l=>
   rw[e] at J;let(c,M,h2,Y):=J;exact(.row l,by ext lE;rw[Z,z1,z2,e];rfl,rfl,c,M,h2,Y)
 |i+4,q=>simp at q
def aik(z:AQ H H' (eJ line) v0)(F:LstAt H H' (lD line) v3)(q:∀j y,j<4->[v0,oI ņ,oI Ņ,v3][j]? =Α y->y=.aP):lE line=Β:=by
 let O:=q 0 v0 Å rfl;let Z:=q 1 _ Å rfl;let J:=q 2 _ Å rfl;let U:=q 3 v3 Å rfl;ext lE;cases e:eJ line with
 |some p=>
  rw[e] at z;let(t,c,M,_):=z;symm
 |none=>
  cases e1:bW JM.iJ line with
  |some k=>rw[e1] at Z;cases Z
  |none=>
   cases e2:bW JM.iK line with
   |some k=>rw[e2] at J;cases J
   |none=>
    cases e3:lD line with
    |some l=>
     rw[e3] at F;let(c,M,_):=F;symm
    |none=>rfl
theorem AQ.same(h:AQ H H1 o v)(j:aj H0 H)(s:aj H1 H2):AQ H0 H2 o v:=by
 cases o with
 |none=>exact h
 |some p=>let(t,c,q,h2,z,F,J):=h;exact(t,c,q,j.free h2,j.free z,s _ _ F,s _ _ J)
theorem LstAt.same(h:LstAt H H1 o v)(z:aj H0 H)(s:aj H1 H2):LstAt H0 H2 o v:=by
 cases o with
 |none=>exact h
 |some p=>let(c,j,h2,q):=h;exact(c,j,z.free h2,s _ _ q)
section
variable{P:Pg}{w:Wd}{K:FR}{mg:MG}{base:Heap}
def Nv:bG ["line","readings","sort","told"] ["line"] (bc Mm):=cj
def ail(F:bu K "read_line" "read_line" Mm f fd)(tE:mg "enumerate"=Β)(cH:Tn K mg "HOIST_LINES" (VN.M V.str))(cS:Tn K mg "SEEN_SHAPES" (VO.M V.str))(dS:Ç 4 "read_side" ["line"] (VL K)) (dA:Ç 2 "place_among" ["words","part"] (GV K)) (dR:Ç 3 "read_row" ["line"] (VJ K)):
  a0 P w K mg base aF 5 f fd ["line"] (VM K):=by
 let(aH,mH,hH):=cH;let(aS,mS,hS):=cS;refine F.ok Nv Â;let(ap,line,rfl,U,hl,k):=h;let uc:eT 2 _:=hr.mono Ð;let Nw:eT 3 _:=hr.mono Ð;refine⟨_,aD (cg 1 Nv.nd (rY (ae (bz (hr:=hr) dS õ)
   (ae (bz (hr:=uc) dA (ae (vq (v:=.ref aH) Ï mH rfl) õ))
   (ae (bz (hr:=uc) dA (ae (vq (v:=.ref aS) Ï mS rfl) õ))
   (ae (bz (hr:=Nw) dR õ) ag))))))
  (aD (Į (UW Ï tE Ĺ) (iB 2 3 Nv.nd)
   (aB (dm (pI (Kb ö)) (aB (aX (rY (ae å ĳ)))) dX)))
  ϋ),?_⟩
 apply(_,Á,ap,line,Á,U,hl,λH1 M s1 h0=>?_);apply(_,Á,aH,ap,VN,line,Á,hH H1,by decide,s1.seq U,λH2 s2=>?_);let fC:=s1.R s2;apply(_,Á,aS,ap,VO,line,Á,hS H2,by decide,fC.seq U,λH3 s3=>?_);let W:=fC.R s3;apply(_,Á,ap,line,Á,W.seq U,hl,λZ O s4 h3=>?_);let mh:=W.R s4;apply((by show 4<=sizeLine;decide),λtt VQ=>?_);let s5:=fe (o:=.tup [M,oI ņ,oI Ņ,O]) mh (mh.free VQ);let sl:∀{H':Hp},aj (upd Z tt (.tup [M,oI ņ,oI Ņ,O])) H'->aj Z H':=λz=>(aI VQ).R z;refine⟨_,Á,tt,[M,oI ņ,oI Ņ,O],Á,bx.of au,UX (K:=K) (a:=tt) (xs:=[M,oI ņ,oI Ņ,O])
  (λi σ H'=>∃u2 u3:Option V,σ=[some Én,some (.ref tt),u2,u3]/\aj (upd Z tt (.tup [M,oI ņ,oI Ņ,O])) H'/\∀j y,j<i->[M,oI ņ,oI Ņ,O][j]? =Α y->y=.aP)
  ⟨none,none,rfl,aj.refl _,λj y hj _=>absurd hj Å⟩ (λi σ H' _ ⟨_,_,_,J,_⟩=>aj.tup J (bx.of au)) ?_ ?_⟩
 .rintro i x T σ H' hi ⟨u2,u3,rfl,J,hb⟩ hT;let Y:=fe (o:=.tup [.int (i:Nat),x]) J (J.free hT);refine⟨T,_,Á,bx.of au,Á,_,_,Á,_,_,Á,Á,_,Á,_,Á,a7 Î Î⟩
  .simp at hc;apply(_,Á,_,Á,(by show 2<=sizeLine;decide),λq hq=>?_);let s8:=fe (o:=.tup [.int (i:Nat),x]) Y (Y.free hq);let s9:=s5.R s8;let(t,et,es,ta):=aij (h0.E ſ (((s2.R s3).R s4).R (sl s8))) (h3.E W (sl s8)) hi hc hb;apply k _ Åt s9 ?_;rw[et];apply(q,x,Á,(s5.R Y).free hq,?_,ta);rw[au,es]
  .simp at hc;apply(_,_,Á,Y,λj y hj hy=>?_);grind
 .rintro σ H' ⟨u2,u3,rfl,J,hb⟩;let en:=aik (h0.E ſ (((s2.R s3).R s4).R (sl J))) (h3.E W (sl J)) hb;exact k H' .aP (s5.R J) (by rw[en];rfl)
end
def mq(m:eW):Bool:=match m.aq.getLast? with
 |some g=>g.flags.isEmpty
 |none=>false
def kH(m:eW):Bool:=match m.aq.getLast? with
 |some g=>(match g.flags.getLast? with
  |some s=>decide (s.2.L<16)
  |none=>false)
 |none=>false
def qX(m:eW):Bool:=!m.aq.isEmpty&&(!mq m&& !kH m)
def eE(m:eW)(k:Nat):Bool:=
 if (m.classes.isEmpty||decide (k=0))=true then m.classes.isEmpty&&decide (k=0)
 else if (decide (k=3)||kH m)=true then decide (k=3)&&kH m
 else if decide (k=1)=true then decide (m.aq.L<4)&& !mq m
 else match m.aq.getLast? with
  |some g=>decide (g.flags.L<8)
  |none=>false
inductive qY(C:Cs)(b:eW->Bool)(vs:az)(H:Hp)(Q:VK)(E':XK):Prop
 |mk (p:d7) (_:vs=[.ref p.a]) (_:Lies H Áx) (_:∀H',aj H H'->Q (.bl (b p.m)) H')
def qY.len:∀vs H Q E,qY C b vs H Q E->vs.L=(["plate"]:LS).L:=λvs H Q E h=>by
 let(p,rfl,_):=h;rfl
def aim(h:m.aq=[]):mq m=false:=by ext mq;rw[h];rfl
def VR{p:d7}{gs:List cA}{g:cA}(h:p.aq=gs++[g]):mq p.m=g.flags.isEmpty:=by
 ext mq d7.m;rw[h,bI,a8,mO,B1,JP];show(g.flags.M eC.m).isEmpty=_;simp
def ain(h:m.aq=[]):kH m=false:=by ext kH;rw[h];rfl
def aio{p:d7}{gs:List cA}{g:cA}(h:p.aq=gs++[g])(j:g.flags=[]):kH p.m=false:=by
 ext kH d7.m;rw[h,bI,a8,mO,B1,JP];show(match (g.flags.M eC.m).getLast? with
  |some s=>decide (s.2.L<16)
  |none=>false)=_
 symm
def aip{p:d7}{gs:List cA}{g:cA}{ss:List eC}{s:eC}(h:p.aq=gs++[g])(j:g.flags=ss++[s]):kH p.m=decide (s.cells.L<16):=by
 ext kH d7.m;rw[h,bI,a8,mO,B1,JP];show(match (g.flags.M eC.m).getLast? with
  |some s=>decide (s.2.L<16)
  |none=>false)=_
 rw[j,bI,a8,mO,B1,JP];rfl
section
variable{P:Pg}{w:Wd}{K:FR}{mg:MG}{base:Heap}{C:Cs}
def aiq:bG ["plate"] ["plate"] (bc Mq):=cj
def air(F:bu K "lacks_flags" "lacks_flags" Mq f fd)(T:ly K C):Ë 1 f fd ["plate"] (qY C mq):=by
 refine F.ok aiq Â;let(p,rfl,L,k):=h;refine⟨_,aB (aX (vt (j8 Ãl ĺ Ĩ (bV _))
  (rT (j8 ť ĭ Ĩ (bV _))))),?_⟩
 apply(_,Á,ů Äx ⟨dj _,λe1 W=>?_⟩);let j:aj H Åy:=aI W;apply(p.gl,e1,_,Á,Á,aa.of (j _ _ L.gl),aa.of au,_,Á,?_);rcases qV p.aq with e|⟨gs,g,e⟩
 .rw[e];apply oH ?_;let q:=k _ j;rw[aim (by ext d7.m;rw[e];rfl)] at q;exact q
 .let M:g∈p.aq:=by rw[e];simp
  let z:=L.E j;let ne:(!(p.aq.M λg=>V.ref g.a).isEmpty)=true:=by rw[e,bI];simp
  rw[ne];apply lr ⟨_,Á,aZ z.pl T.cP T.m9 Äx ⟨_,Á,p.gl,_,_,V.ref g.a,Á,Á,aa.of z.gl,?_,aZ ((z.sub M).ga) T.cG T.vN (vM g) ⟨dj _,λU Y=>?_⟩⟩⟩
  .rw[e,bI];exact wY _ _
  .let O:=fe (o:=.lst []) j (j.free Y);let J:=L.E O;apply(g.l,U,_,Á,Á,aa.of (J.sub M).fl,aa.of au,?_);let q:=k _ O;rw[VR e] at q;symm
def ait:bG ["plate"] ["plate"] (bc Mr):=cj
def aiu(F:bu K "lacks_cells" "lacks_cells" Mr f fd)(T:ly K C)(tL:mg "len"=Β)(cC:Cn mg "CELLS" (.int 16))(dF:Ç 1 "lacks_flags" ["plate"] (qY C mq)):
  a0 P w K mg base aF 2 f fd ["plate"] (qY C kH):=by
 refine F.ok ait Â;let(p,rfl,L,k):=h;refine⟨_,aD (dm (PW.pt (pw_or (cy ť ĺ Ĩ (bV _)) (pw_or1 (ji (bz dF õ))))) ϫ dX)
  (aB (aX (j8 yA (c9 gw Ï tL PySem.boot_len (ae (aY (cK dc ĭ Âg Õ) rfl) ag)) (cw cC) (bV _)))),?_⟩
 apply(_,Á,ů Äx ⟨dj _,λe1 n1=>?_⟩);let U:aj H Åy:=aI n1;let Y:=L.E U;apply(p.gl,e1,_,Á,Á,aa.of Y.gl,aa.of au,_,Á,?_);rcases qV p.aq with e|⟨gs,g,e⟩
 .rw[e];apply lr ?_;let q:=k _ U;rw[ain (by ext d7.m;rw[e];rfl)] at q;exact q
 .let M:g∈p.aq:=by rw[e];simp
  let ne:(p.aq.M λg=>V.ref g.a).isEmpty=false:=by rw[e,bI];simp
  rw[ne];refine oH ⟨_,Á,p,Á,Y,λZ s2=>Ę⟩;let W:=U.R s2;let J:=L.E W;rw[VR e];rcases qV g.flags with j|⟨ss,sg,j⟩
  .rw[j];apply lr ?_;let q:=k _ W;rw[aio e j] at q;exact q
  .let hs:sg∈g.flags:=by rw[j];simp
   let O:g.flags.isEmpty=false:=by rw[j];simp
   rw[O];apply oH ⟨_,Á,aZ J.pl T.cP T.m9 Äx ⟨_,Á,p.gl,_,_,V.ref g.a,Á,Á,aa.of J.gl,?_,aZ ((J.sub M).ga) T.cG T.vN (vM g) ⟨_,Á,g.l,_,_,V.ref sg.a,Á,Á,aa.of (J.sub M).fl,?_,aZ (((J.sub M).AN hs).sa) T.cS T.DF (DE sg) ⟨sg.l,_,Á,.inl (aa.of ((J.sub M).AN hs).sl),_,_,Á,Á,?_⟩⟩⟩⟩
   .rw[e,bI];exact wY _ _
   .rw[j,bI];exact wY _ _
   .let q:=k _ W;rw[aip e j] at q;show Q (V.bl (decide ((((iv sg.cells).L:Nat):Int)<16))) Z;rw[dy,show decide (((sg.cells.L:Nat):Int)<16)=decide (sg.cells.L<16) by
     by_cases z:sg.cells.L<16
     .rw[eQ z,eQ Ù]
     .rw[gD z,gD (by omega)]]
    exact q
def aiv:bG ["plate"] ["plate"] (bc Ms):=cj
def aiw(F:bu K "has_whole_hoists" "has_whole_hoists" Ms f fd)(T:ly K C)(J:Ç 1 "lacks_flags" ["plate"] (qY C mq))(z:Ç 2 "lacks_cells" ["plate"] (qY C kH)):
  a0 P w K mg base aF 3 f fd ["plate"] (qY C qX):=by
 refine F.ok aiv Â;let(p,rfl,L,k):=h;refine⟨_,aB (aX (vt (j8 Ãl ĺ Ĩ (bV _))
  (vt (Cm (bz J õ)) (rT (Cm (bz z õ)))))),?_⟩
 apply(_,Á,ů Äx ⟨dj _,λe1 M=>?_⟩);let s1:aj H Åy:=aI M;let j:=L.E s1;apply(p.gl,e1,_,Á,Á,aa.of j.gl,aa.of au,_,Á,?_);let Y:p.m.aq.isEmpty=p.aq.isEmpty:=by ext d7.m;cases p.aq <;> rfl
 rw[show(p.aq.M λg=>V.ref g.a).isEmpty=p.aq.isEmpty by simp];refine a7 Î Î
 .refine⟨_,Á,p,Á,j,λU s2=>⟨_,Á,_,Á,a7 ģ ģ⟩⟩
  .refine⟨_,Á,p,Á,j.E s2,λW O=>Ę⟩;let q:=k _ ((s1.R s2).R O);delta qX at q
   af
  .let q:=k _ Áo;delta qX at q;symm
 .let q:=k _ s1;delta qX at q;symm
inductive VS(C:Cs)(vs:az)(H:Hp)(Q:VK)(E':XK):Prop
 |mk (p:d7) (n:Nat) (_:vs=[.ref p.a,.int (n:Nat)]) (_:Lies H Áx) (_:∀H',aj H H'->Q (.bl (eE p.m n)) H')
def aix:bG ["plate","sort"] ["plate","sort"] (bc Mp):=cj
def G3(a b:Nat):decide (V.int (a:Nat)=V.int (b:Nat))=decide (a=b):=by
 grind
def dec_lt(a b:Nat):decide (((a:Nat):Int)<((b:Nat):Int))=decide (a<b):=by
 simp
def aiy(F:bu K "may_stand" "may_stand" Mp f fd)(T:ly K C)(tL:mg "len"=Β)(c0:Cn mg "SIDE_LINE" œ)(c1:Cn mg "HOIST_LINE" Ŝ)(c3:Cn mg "CELLS_LINE" (.int 3))(cH:Cn mg "MOST_HOISTS" (.int 4))(cF:Cn mg "MOST_FLAGS" Éo)(dF:Ç 1 "lacks_flags" ["plate"] (qY C mq)) (dC:Ç 2 "lacks_cells" ["plate"] (qY C kH)):
  a0 P w K mg base aF 3 f fd ["plate","sort"] (VS C):=by
 refine F.ok aix Â;let(p,n,rfl,L,k):=h;refine⟨_,aD (dm (PW.pt (pw_or (cy ť ĺ Ĩ (bV _)) (pw_or1 (cy iC á (cw c0) (bV _)))))
   (aB (aX (vt (j8 ť ÿ Ĩ (bV _)) (rT (j8 iC á (cw c0) (bV _)))))) dX)
  (aD (dm (PW.pt (pw_or (cy iC á (cw c3) (bV _)) (pw_or1 (ji (bz dC õ)))))
   (aB (aX (vt (j8 iC á (cw c3) (bV _)) (rT (bz dC õ))))) dX)
  (aD (dm (cy iC á (cw c1) (bV _))
   (aB (aX (vt (j8 yA (c9 gw Ï tL PySem.boot_len Ãi) (cw cH) (bV _)) (rT (Cm (bz dF õ)))))) dX)
  (aB (aX (vt (j8 Ãl ÿ Ĩ (bV _)) (rT (j8 yA (c9 gw Ï tL PySem.boot_len (ae ĭ ag)) (cw cF) (bV _)))))))),?_⟩
 let ec:p.m.classes.isEmpty=(iv p.classes).isEmpty:=by ext d7.m iv;cases p.classes <;> rfl
 apply(_,Á,aZ L.pl T.cP T.DG (GX p) ⟨dj _,λe1 n1=>?_⟩);let s1:aj H Åy:=aI n1;let Z:=L.E s1;apply(p.cl,e1,_,Á,Á,aa.of Z.cl,aa.of au,_,Á,?_);rw[<-ec];let first:∀H1,aj H H1->(p.m.classes.isEmpty||decide (n=0))=true->Cp (Kd (bU (U1 K) (fk K Ų "classes") (An du)) (bU pN ž Är)) {nx:=λ_ H'=>Q .aP H',rt:=Q} [some ϭ,some (.int (n:Nat))] H1:=λH1 z hc=>by
  let M1:=L.E z;apply(_,Á,aZ M1.pl T.cP T.DG (GX p) ⟨dj _,λe2 n2=>?_⟩);let t2:=fe (o:=.lst []) z (z.free n2);apply(p.cl,e2,_,Á,Á,aa.of (L.E t2).cl,aa.of au,_,Á,?_);rw[<-ec];let q:=k _ t2;delta eE at q;rw[ai hc] at q;refine a7 ģ ģ
  .apply(_,Á,Á,?_);symm
  .symm
 refine a7 (λhc=>first _ s1 Å) Î;let hc:p.m.classes.isEmpty=false:=À hc
 refine ŷ;rw[show V.int 0=V.int ((0:Nat):Int) from rfl,G3];refine a7 (λhd=>first _ s1 Å) ģ;let hd:decide (n=0)=false:=À hd
 let M:∀H1,aj H H1->(decide (n=3)||kH p.m)=true->Cp (Kd (bU pN ž (tC (.int 3))) (g9 (qY C kH) [] E0 (ba Ų du))) {nx:=λ_ H'=>Q .aP H',rt:=Q} [some ϭ,some (.int (n:Nat))] H1:=λH1 z h2=>by
  refine ŷ;rw[show V.int 3=V.int ((3:Nat):Int) from rfl,G3];apply a7 (λj=>⟨_,Á,p,Á,L.E z,λH2 t2=>?_⟩) (λj=>?_)
  .let q:=k _ (z.R t2);delta eE at q;symm
  .simp at j;let q:=k _ z;delta eE at q;symm
 refine ŷ;rw[show V.int 3=V.int ((3:Nat):Int) from rfl,G3];apply a7 (λj=>M _ s1 Å) (λj=>⟨_,Á,p,Á,Z,λH2 s2=>⟨_,Á,a7 (λW=>M _ Áo Å) (λW=>?_)⟩⟩);let j:decide (n=3)=false:=À j
 simp at W;let U:=s1.R s2;let b9:∀H',aj H H'->Q (.bl (if decide (n=1)=true then decide (p.m.aq.L<4)&& !mq p.m else match p.m.aq.getLast? with
  |some g=>decide (g.flags.L<8)
  |none=>false)) H':=λH' t=>by
  let q:=k _ t;delta eE at q;rw[hc,hd,Bool.or_self,ah eO,j,W,Bool.or_self,ah eO] at q;exact q
 let O:=L.E U;refine ŷ;rw[show V.int 1=V.int ((1:Nat):Int) from rfl,G3];refine a7 ū ū
 .apply(_,Á,aZ O.pl T.cP T.m9 Äx ⟨p.gl,_,Á,.inl (aa.of O.gl),_,_,Á,Á,_,Á,?_⟩);let e4:decide ((((p.aq.M λg=>V.ref g.a).L:Nat):Int)<4)=decide (p.m.aq.L<4):=by
   rw[show(4:Int)=((4:Nat):Int) from rfl,dec_lt];ext d7.m;simp
  rw[e4];apply a7 (λh5=>⟨_,Á,p,Á,O,λH3 s4=>Ę⟩) (λh5=>?_)
  .let q:=b9 _ (U.R s4);symm
  .symm
 .apply(_,Á,aZ O.pl T.cP T.m9 Äx ⟨dj _,λe5 n5=>?_⟩);let Y:=fe (o:=.lst []) U (U.free n5);let J:=L.E Y;apply(p.gl,e5,_,Á,Á,aa.of J.gl,aa.of au,_,Á,?_);rcases qV p.aq with e|⟨gs,g,e⟩
  .rw[e];apply oH ?_;let q:=b9 _ Y;rw[ah h1,show p.m.aq=[] by ext d7.m;rw[e];rfl] at q;symm
  .let hg:g∈p.aq:=by rw[e];simp
   let ne:(!(p.aq.M λg=>V.ref g.a).isEmpty)=true:=by rw[e,bI];simp
   rw[ne];apply lr ⟨_,Á,aZ J.pl T.cP T.m9 Äx ⟨_,Á,p.gl,_,_,V.ref g.a,Á,Á,aa.of J.gl,?_,aZ ((J.sub hg).ga) T.cG T.vN (vM g) ⟨g.l,_,Á,.inl (aa.of (J.sub hg).fl),_,_,Á,Á,?_⟩⟩⟩
   .rw[e,bI];exact wY _ _
   .let q:=b9 _ Y;let eg:p.m.aq.getLast?=Α g.m:=by
     ext d7.m;symm
    rw[ah h1,eg] at q;show Q (V.bl (decide ((((g.flags.M λs=>V.ref s.a).L:Nat):Int)<((8:Nat):Int)))) _;rw[dec_lt,ao];let e6:g.m.flags.L=g.flags.L:=by ext cA.m;simp only[ao]
    symm
end
def sA(m:eW):Told->eW
 |.side s l=>⟨s,l,m.aq⟩
 |.hoist k=>⟨m.side,m.classes,m.aq++[⟨decide (k%2=1),decide (k/2=1),[]⟩]⟩
 |.shape k=>⟨m.side,m.classes,m.aq.dropLast++(m.aq.getLast?.M λg=>(⟨g.above,g.below,g.flags++[(k,[])]⟩:iW)).toList⟩
 |.row l=>⟨m.side,m.classes,m.aq.dropLast++(m.aq.getLast?.M λg=>(⟨g.above,g.below,g.flags.dropLast++(g.flags.getLast?.M λs=>(s.1,s.2++l)).toList⟩:iW)).toList⟩
structure Rep(C:Cs)(H:Hp)(p:d7):Prop where
 lies:Lies H Áx
 nd:((eZ C p).M (·.1)).Nodup
def VT(h:eE m 1=true):m.aq.L<4:=by
 delta eE at h;symm
def aiz{m:eW}(h:eE m 2=true):∃g,m.aq.getLast?=Α g/\g.flags.L<8:=by
 delta eE at h;split at h
 .simp at h
 .split at h
  .simp at h
  .split at h
   .rename_i z;exact absurd z Ð
   .split at h
    .rename_i g e;exact(g,e,À h)
    .cases h
def aiA{m:eW}(h:eE m 3=true):∃g s,m.aq.getLast?=Α g/\g.flags.getLast?=Α s/\s.2.L<16:=by
 delta eE at h;split at h
 .simp at h
 .split at h
  .simp at h;delta kH at h;split at h
   .rename_i g e;split at h
    .rename_i s j;exact(g,s,e,j,À h)
    .cases h
   .cases h
  .rename_i q h2;exact absurd Ä h2
def Ny{α β:Type}{f:α->β}{l:List α}{y:β}(h:(l.M f).getLast?=Α y):∃r x,l=r++[x]/\f x=y:=by
 rcases qV l with e|⟨r,x,e⟩
 .rw[e] at h;cases h
 .apply(r,x,e,?_);rw[e,bI,a8,mO,B1,JP] at h;exact aU h
inductive VU(C:Cs)(vs:az)(H:Hp)(Q:VK)(E':XK):Prop
 |mk (p:d7) (t:Told) (v:V) (H0:Hp) (_:vs=[.ref p.a,.int (t.sort:Nat),v]) (_:Rep C H p) (_:aj H0 H) (_:Lies H0 Áx) (_:AR H0 H t v) (_:(∀l,t=.row l->l.L=4)) (_:eE p.m t.sort=true) (_:∀H' p',p'.a=p.a->p'.m=sA p.m t->Rep C H' p'->(∀b o,H b=Α o->b∉(eZ C p).M (·.1)->H' b=Α o)->(∀b,b∈(eZ C p').M (·.1)->b∈(eZ C p).M (·.1)\/H0 b=Β)->Q .aP H')
def aiB(h:Lies H ns)(j:b∈ns.M (·.1)):∃o,H b=Α o:=by
 let(x,q,rfl):=bH.mp j;exact(_,h x q)
def DH(h:Lies H ns)(j:H b=Β):b∉ns.M (·.1):=λz=>by
 let(o,e):=aiB h z;symm
def Nz(L:Lies H (A++(b,o)::B))(nd:((A++(b,o)::B).M (·.1)).Nodup)(keep:∀c u,H c=Α u->c≠b->H2 c=Α u)(O:H2 b=Α o')(q:Lies H2 N):
  Lies H2 (A++(b,o')::(B++N)):=λx j=>by
 rw[bI,a8] at nd;let(U,F,J):=RP.mp nd;let(M,W):=kZ.mp F;rcases fw.mp j with j|j
 .exact keep _ _ (L x (wH _ j)) (J x.1 (bH.mpr ⟨x,j,Á⟩) b eP)
 .rcases a9.mp j with rfl|j
  .omega
  .rcases fw.mp j with j|j
   .exact keep _ _ (L x (rH _ (aL _ j))) λz=>M (by grind)
   .exact q x j
def NA{A B N:List Nd}{b:Addr}{o O:HO}(nd:((A++(b,o)::B).M (·.1)).Nodup)(j:(N.M (·.1)).Nodup)(hd:∀c,c∈N.M (·.1)->c∉(A++(b,o)::B).M (·.1)):((A++(b,O)::(B++N)).M (·.1)).Nodup:=by
 let e:(A++(b,O)::(B++N)).M (·.1)=(A++(b,o)::B).M (·.1)++N.M (·.1):=by simp
 rw[e];exact RP.mpr ⟨nd,j,λx q y F z=>hd y F (by rw[<-z];exact q)⟩
def NC{A B N:List Nd}{b:Addr}{o O:HO}{c:Addr}(h:c∈(A++(b,O)::(B++N)).M (·.1)):c∈(A++(b,o)::B).M (·.1)\/c∈N.M (·.1):=by
 grind
def VV{gs:List cA}{g g':cA}(h:g.a=g'.a):((gs++[g]).M λg=>V.ref g.a)=(gs++[g']).M λg=>V.ref g.a:=by
 symm
def aiC{ss:List eC}{s s':eC}(h:s.a=s'.a):((ss++[s]).M λs=>V.ref s.a)=(ss++[s']).M λs=>V.ref s.a:=by
 symm
section
variable{P:Pg}{w:Wd}{K:FR}{mg:MG}{base:Heap}{C:Cs}
def aiD:bG ["plate","sort","told"] ["plate","sort","told"] (bc Mt):=cj
def aiE(k:Nat):decide (V.int (((k:Nat):Int)%2)=V.int 1)=decide (k%2=1):=by
 grind
def aiF(k:Nat):decide (V.int (((k:Nat):Int)/2)=V.int 1)=decide (k/2=1):=by
 grind
def aiG{f:Addr}{fd:FD}(F:bu K "put" "put" Mt f fd)(T:ly K C)(c0:Cn mg "SIDE_LINE" œ)(c1:Cn mg "HOIST_LINE" Ŝ)(c2:Cn mg "SHAPE_LINE" (.int 2))(dG:Ā "Glimpse" C.G ["above","below","flags"]) (dS:Ā "Sighting" C.S ["shape","cells"]):Ë 3 f fd ["plate","sort","told"] (VU C):=by
 refine F.ok aiD Â;let(p,t,v,H0,rfl,R,s0,L0,ta,h4,W,k):=h;refine⟨_,aB (dm (cy iC á (cw c0) (bV _))
   (aD (fm Ö (cK Ap å bf Õ) rfl) (aB (fm Ö (cK Ap å bf Õ) rfl)))
  (aB (dm (cy iC á (cw c1) (bV _))
   (aB (pJ (Ü ÿ (ae (pW dG hr
    (ae (j8 iC (eA Km å bf) bf (bV _)) (ae (j8 iC (eA ada å bf) bf (bV _)) Åh))) ag))))
  (aB (dm (cy iC á (cw c2) (bV _))
   (aB (pJ (Ü ĭ (ae (pW dS hr
    (ae å Åh)) ag))))
   (aB (pJ (ó (aY (cK dc ĭ Âg Õ) rfl) ł)))))))),?_⟩
 let L:=R.lies;cases t with
 |side sd l=>
  let(tt,c,rfl,G4,ht,hc):=ta;refine ϵ;apply(_,Á,tt,_,0,_,Á,Á,bx.of ht,Á,_,Á,p.a,C.P,p.dx,_,Á,L.pl,T.cP,T.Nt,(by show 3<1000;decide),?_);let nta:=Sn ht L.pl Ä;apply(_,Á,tt,_,1,_,Á,Á,bx.of (by rw[aA nta];exact ht),Á,_,Á,p.a,C.P,p.dx,_,Á,au,T.cP,T.DG,?_,?_)
  .exact qz (Kx _ _ _) (by show 4<1000;decide)
  .let VW:=DH L0 G4;let AS:p.a∈(eZ C p).M (·.1):=by ext eZ;simp
   let G5:c≠p.a:=λz=>VW Å;let nd:=R.nd;let VX:=(kZ.mp nd);let ND:=(kZ.mp VX.2);let sub:∀b,b∈((p.gl,HO.lst (p.aq.M λg=>V.ref g.a))::p.aq.flatMap Æh).M (·.1)->b∈(eZ C p).M (·.1):=λb hb=>aL _ (aL _ hb);apply k _ {p with cl:=c,side:=sd,classes:=l} Á Á ⟨λx hx=>?_,?_⟩ Ãc ē
   .let hx:x∈(p.a,HO.ins C.P p.dx (nU {p with cl:=c,side:=sd,classes:=l}))::(c,HO.lst (iv l))::((p.gl,HO.lst (p.aq.M λg=>V.ref g.a))::p.aq.flatMap Æh):=hx;rcases a9.mp hx with rfl|hx
    .rw[au];rfl
    .rcases a9.mp hx with rfl|hx
     .rw[aA G5,aA G5];omega
     .let lG:x.1≠p.a:=λz=>VX.1 (by grind);rw[aA lG,aA lG];exact L x (aL _ (aL _ hx))
   .apply kZ.mpr ⟨λz=>?_,kZ.mpr ⟨λz=>VW (sub c z),ND.2⟩⟩;grind
   .rw[aA (λz=>nb Å),aA (λz=>nb Å)];omega
   .rcases a9.mp hb with z|z
    .symm
    .grind
 |hoist n=>
  obtain rfl:v=V.int (n:Nat):=ta;let O:=VT W;refine⟨_,Á,Á,_,Á,ite_no (show ¬V.int ((1:Nat):Int)=V.int 0 by decide) ϵ⟩;apply(_,Á,ů Äx ⟨.inl ⟨Á,_,aa.of L.gl⟩,_,Á,_,_,Á,Á,Å,Á,_,Á,_,_,Á,Á,⟨by decide,by decide⟩,Á,dj _,λl U=>?_⟩);intro x dx hx gV aN;refine⟨x,dx,_,Á,Á,au,λH2 h2 k2=>Ţ⟩;let s1:aj H (ϑ ã):=aI U;let Z:=aj.made hx gV k2;let Y:=s1.R Z;let hlx:l≠x:=λz=>by rw[<-z,au] at hx;cases hx
  let jN:=Z _ _ au;apply(p.gl,_,_,Á,Á,Y _ _ L.gl,?_,?_)
  .rw[ao];delta d7.m at O;simp only[ao] at O;exact gc Ù
  .let j:eZ C p=[(p.a,.ins C.P p.dx (nU p)),(p.cl,.lst Ř)]++(p.gl,.lst (p.aq.M λg=>V.ref g.a))::p.aq.flatMap Æh:=rfl;let q:eZ C {p with aq:=p.aq++[⟨x,dx,l,decide (n%2=1),decide (n/2=1),[]⟩]}=[(p.a,.ins C.P p.dx (nU p)),(p.cl,.lst Ř)]++(p.gl,.lst ((p.aq++[(⟨x,dx,l,decide (n%2=1),decide (n/2=1),[]⟩:cA)]).M λg=>V.ref g.a))::(p.aq.flatMap Æh++[(x,.ins C.G dx (qU ⟨x,dx,l,decide (n%2=1),decide (n/2=1),[]⟩)),(l,.lst [])]):=by
    show(p.a,HO.ins C.P p.dx (nU p))::(p.cl,HO.lst Ř)::(p.gl,_)::(p.aq++[_]).flatMap Æh=_;rw[wI];rfl
   let NF:=DH L Ça;let NG:=DH L U;let G6:p.gl∈(eZ C p).M (·.1):=by ext eZ;simp
   let NH:x≠p.gl:=λz=>NF Å;let AU:l≠p.gl:=λz=>NG Å;apply k _ {p with aq:=p.aq++[⟨x,dx,l,decide (n%2=1),decide (n/2=1),[]⟩]} Á ?_ Ϧ Ãc ē
   .ext d7.m sA;rw[bI];rfl
   .rw[q];apply Nz (H:=H) (by assumption) (by rw[<-j];exact R.nd) (λc u e hc=>by rw[aA hc];exact Y _ _ e) ?_ Âm
    .rw[au,bI];rfl
    .rcases a9.mp hy with rfl|hy;rotate_left;obtain rfl:=iT.mp hy;rotate_left
     .rw[aA NH,h2];apply cb (λz=>some (HO.ins C.G dx z)) ?_;rw[aiE,aiF];rfl
     .rw[aA AU];omega
   .rw[q];apply NA (by rw[<-j];exact R.nd) (by grind) (λc hc=>?_);grind
   .rw[aA (λz=>nb Å)];exact Y _ _ e
   .rw[q] at hb;rcases NC hb with hb|hb
    .exact .inl hb
    .simp at hb;rcases hb with rfl|rfl
     .exact .inr (s0.free Ça)
     .exact .inr (s0.free U)
 |shape n=>
  obtain rfl:v=V.int (n:Nat):=ta;let(gm,eg,O):=aiz W;let(gs,g,M,rfl):=Ny eg;let J:g∈p.aq:=by rw[M];simp
  refine⟨_,Á,Á,_,Á,ite_no (show ¬V.int ((2:Nat):Int)=V.int 0 by decide) ⟨_,Á,Á,_,Á,ite_no (show ¬V.int ((2:Nat):Int)=V.int 1 by decide) ϵ⟩⟩;apply(_,Á,ů Äx ⟨_,Á,p.gl,_,_,V.ref g.a,Á,Á,aa.of L.gl,?_,aZ ((L.sub J).ga) T.cG T.vN (vM g) ⟨.inl ⟨Á,_,aa.of (L.sub J).fl⟩,_,Á,dj _,λl U=>?_⟩⟩)
  .rw[M,bI];exact wY _ _
  intro x dx hx gV aN;refine⟨x,dx,_,Á,Á,au,λH2 h2 k2=>Ţ⟩;let s1:aj H (ϑ ã):=aI U;let Z:=aj.made hx gV k2;let Y:=s1.R Z;let hlx:l≠x:=λz=>by rw[<-z,au] at hx;cases hx
  let jN:=Z _ _ au;apply(g.l,_,_,Á,Á,Y _ _ (L.sub J).fl,?_,?_)
  .rw[ao];delta cA.m at O;simp only[ao] at O;exact gc Ù
  .let j:eZ C p=((p.a,.ins C.P p.dx (nU p))::(p.cl,.lst Ř)::(p.gl,.lst (p.aq.M λg=>V.ref g.a))::(gs.flatMap Æh++[(g.a,.ins C.G g.dx (qU g))]))++(g.l,.lst (g.flags.M λs=>V.ref s.a))::g.flags.flatMap (gW C):=by
    ext eZ;rw[show p.aq.flatMap Æh=gs.flatMap Æh++gX C g by simp_all];ext gX;simp
   let q:eZ C {p with aq:=gs++[{g with flags:=g.flags++[⟨x,dx,l,n,[]⟩]}]}=((p.a,.ins C.P p.dx (nU p))::(p.cl,.lst Ř)::(p.gl,.lst (p.aq.M λg=>V.ref g.a))::(gs.flatMap Æh++[(g.a,.ins C.G g.dx (qU g))]))++(g.l,.lst ((g.flags++[(⟨x,dx,l,n,[]⟩:eC)]).M λs=>V.ref s.a))::(g.flags.flatMap (gW C)++[(x,.ins C.S dx (xy ⟨x,dx,l,n,[]⟩)),(l,.lst [])]):=by
    ext eZ;rw[wI,M,VV (gs:=gs) (g:=g) (g':={g with flags:=g.flags++[⟨x,dx,l,n,[]⟩]}) rfl];simp[gX,wI,nU,qU,gW,iv]
   let NF:=DH L Ça;let NG:=DH L U;let G6:g.l∈(eZ C p).M (·.1):=by rw[j];simp
   let NH:x≠g.l:=λz=>NF Å;let AU:l≠g.l:=λz=>NG Å;apply k _ {p with aq:=gs++[{g with flags:=g.flags++[⟨x,dx,l,n,[]⟩]}]} Á ?_ Ϧ Ãc ē
   .ext d7.m sA;simp[cA.m,eC.m,M,B1]
   .rw[q];apply Nz (H:=H) (by rw[<-j];exact L) (by rw[<-j];exact R.nd) (λc u e hc=>by rw[aA hc];exact Y _ _ e) ?_ Âm
    .rw[au,bI];rfl
    .rcases a9.mp hy with rfl|hy;rotate_left;obtain rfl:=iT.mp hy;rotate_left
     .rw[aA NH,h2];rfl
     .rw[aA AU];omega
   .rw[q];apply NA (by rw[<-j];exact R.nd) (by grind) (λc hc=>?_);simp at hc;rw[<-j];rcases hc with rfl|rfl
    .omega
    .omega
   .rw[aA (λz=>nb (by rw[z];exact G6))];exact Y _ _ e
   .rw[q] at hb;rcases NC hb with hb|hb
    .exact .inl (by rw[j];exact hb)
    .simp at hb;rcases hb with rfl|rfl
     .exact .inr (s0.free Ça)
     .exact .inr (s0.free U)
 |row l=>
  let(c,rfl,G4,hc):=ta;let(gm,sm,eg,es,O):=aiA W;let(gs,g,M,rfl):=Ny (show(p.aq.M cA.m).getLast?=Α gm from eg);let(ss,sg,G7,rfl):=Ny (show(g.flags.M eC.m).getLast?=Α sm from es);let J:g∈p.aq:=by rw[M];simp
  let hs:sg∈g.flags:=by rw[G7];simp
  let DI:=h4 l rfl;apply(_,Á,Á,_,Á,ite_no (show ¬V.int ((3:Nat):Int)=V.int 0 by decide) ⟨_,Á,Á,_,Á,ite_no (show ¬V.int ((3:Nat):Int)=V.int 1 by decide) ⟨_,Á,Á,_,Á,ite_no (show ¬V.int ((3:Nat):Int)=V.int 2 by decide) ?_⟩⟩);apply(_,Á,ů Äx ⟨_,Á,p.gl,_,_,V.ref g.a,Á,Á,aa.of L.gl,?_,aZ ((L.sub J).ga) T.cG T.vN (vM g) ⟨_,Á,g.l,_,_,V.ref sg.a,Á,Á,aa.of (L.sub J).fl,?_,aZ (((L.sub J).AN hs).sa) T.cS T.DF (DE sg) ⟨.inl ⟨Á,_,aa.of ((L.sub J).AN hs).sl⟩,_,Á,sg.l,c,_,_,Á,Á,((L.sub J).AN hs).sl,hc,?_,?_⟩⟩⟩)
  .rw[M,bI];exact wY _ _
  .rw[G7,bI];exact wY _ _
  .let:sg.cells.L<16:=O;rw[dy,dy,DI];exact tp (gc Ù)
  .let j:eZ C p=((p.a,.ins C.P p.dx (nU p))::(p.cl,.lst Ř)::(p.gl,.lst (p.aq.M λg=>V.ref g.a))::(gs.flatMap Æh++((g.a,.ins C.G g.dx (qU g))::(g.l,.lst (g.flags.M λs=>V.ref s.a))::(ss.flatMap (gW C)++[(sg.a,.ins C.S sg.dx (xy sg))]))))++(sg.l,.lst (iv sg.cells))::[]:=by
    ext eZ;rw[show p.aq.flatMap Æh=gs.flatMap Æh++gX C g by simp_all];ext gX;rw[show g.flags.flatMap (gW C)=ss.flatMap (gW C)++gW C sg by simp_all];simp[gW]
   let q:eZ C {p with aq:=gs++[{g with flags:=ss++[{sg with cells:=sg.cells++l}]}]}=((p.a,.ins C.P p.dx (nU p))::(p.cl,.lst Ř)::(p.gl,.lst (p.aq.M λg=>V.ref g.a))::(gs.flatMap Æh++((g.a,.ins C.G g.dx (qU g))::(g.l,.lst (g.flags.M λs=>V.ref s.a))::(ss.flatMap (gW C)++[(sg.a,.ins C.S sg.dx (xy sg))]))))++(sg.l,.lst (iv (sg.cells++l)))::([]++[]):=by
    ext eZ;dsimp only;rw[wI,M,VV (gs:=gs) (g:=g) (g':={g with flags:=ss++[{sg with cells:=sg.cells++l}]}) rfl,G7,aiC (ss:=ss) (s:=sg) (s':={sg with cells:=sg.cells++l}) rfl];simp[gX,wI,nU,qU,gW,xy]
   let G6:sg.l∈(eZ C p).M (·.1):=by rw[j];simp
   apply k _ {p with aq:=gs++[{g with flags:=ss++[{sg with cells:=sg.cells++l}]}]} Á ?_ Ϧ Ãc ē
   .ext d7.m sA;dsimp only;simp[cA.m,eC.m,M,G7,B1]
   .rw[q];apply Nz (H:=H) (by rw[<-j];exact L) (by rw[<-j];exact R.nd) (λc u e hc=>by rw[aA hc];exact e) ?_ (λy hy=>absurd hy Ä);rw[au];simp
   .rw[q];exact NA (by rw[<-j];exact R.nd) Ä Ä
   .rw[aA (λz=>nb (by rw[z];exact G6))];omega
   .rw[q] at hb;rcases NC hb with hb|hb
    .exact .inl (by rw[j];exact hb)
    .exact absurd hb Ä
end
def NI(k l:Nat):List (Str×V):=[("kind",.int (k:Nat)),("line",.int (l:Nat))]
structure G8(K:FR)(mg:MG)(C N:Addr):Prop where
 c:XC K C N
 aiJ:Gf K N "kind"
 aiK:Gf K N "line"
 mC:mg "NoPlate"=Α Ĉ
 keep:PySem.W.keepIn K Ĉ=true
inductive NJ(C:Addr)(vs:az)(H:Hp)(Q:VK)(E':XK):Prop
 |mk (x:Addr) (k l:Nat) (_:vs=[.ref x,.int (k:Nat),.int (l:Nat)]) (_:H x=Α Ś) (_:∀H' d,H' x=Α (exc C (some d) .none x)->d≠x->H' d=Α (vH d (NI k l))->(∀b o,H b=Α o->b≠x->H' b=Α o)->Q .aP H')
def VY(P:Pg)(w:Wd)(K:FR)(mg:MG)(base:Heap)(C N:Addr):Prop:=
 ∃f fd,G8 K mg C N/\PySem.W.nsIn K N "__init__"=Α Âr/\PySem.W.isFn K ď=true/\Ë 1 f fd ["self","kind","line"] (NJ C)/\L2.Binds K fd ["self","kind","line"] []
section
variable{P:Pg}{w:Wd}{K:FR}{mg:MG}{base:Heap}{C:Cs}{CN N:Addr}
def aiL:typeOf (.type "Exception")=pure (.type "type"):=by rfl
def aiM:bG ["self","kind","line"] ["self","kind","line"] (bc Mj):=cj
def aiN(F:bu K "__init__" "NoPlate.__init__" Mj f fd)(T:G8 K mg CN N)(M:mg "Exception"=Β)(J:PySem.W.findCls K (.type "Exception") (.type "type") "__init__"=Α (.val (.builtin "Exception.__init__"))):
  a0 P w K mg base aF 1 f fd ["self","kind","line"] (NJ CN):=by
 refine F.ok aiM Â;let(x,n,l,rfl,q,k):=h;apply(_,aD (pJ (afK Ï M J õ aiL É É)) (aD (afN Ö á Á) (aB (afP Ö å Á))),?_);apply(_,Á,x,CN,N,_,_,Á,q,T.c,_,Á,_,Á,x,CN,N,_,Á,q,T.c,T.aiJ,λd hd aN=>?_);apply(_,Á,_,Á,x,CN,N,d,_,_,Á,(by rw[aA Æc];exact au),aN,au,(by show 1<1000;decide),T.c,T.aiK,?_);apply k _ d (by rw[aA Æc,aA Æc];exact au) aN ?_ λb o e z=>?_
 .rw[au];rfl
 .let j:=eS e hd;rw[aA j,aA j,aA z];exact e
def nX:Nat->eW->dQ->Except (Nat×Nat) eW
 |_,m,[]=>.ok m
 |i,m,w::r=>match lE w with
  |none=>.error (1,i)
  |some t=>if eE m t.sort=true then nX (i+1) (sA m t) r else .error (2,i)
def iq(j:LI):Except (Nat×Nat) eW:=match nX 0 ⟨0,[],[]⟩ (JM.aO 10 j).dropLast with
 |.error e=>.error e
 |.ok m=>if j=[]\/(JM.aO 10 j).getLastD []≠[] then .error (1,(JM.aO 10 j).dropLast.length) else if qX m=true then .ok m else .error (2,(JM.aO 10 j).dropLast.length)
inductive V0(K:FR)(C:Cs)(CN:Addr)(vs:az)(H:Hp)(Q:VK)(E:XK):Prop
 |mk (ap:Addr) (bZ:LI) (_:vs=[.ref ap]) (_:ä ap (iv bZ)) (_:bZ.L<=66000) (_:(∀m,iq bZ=.ok m->∀H' p,aj H H'->Lies H' Áx->p.m=m->Q ϭ H')) (_:∀e,iq bZ=.error e->∀H' d,aj H H'->H' d=Α (vH d (NI e.1 e.2))->E (.ref CN) (some d) H')
def V1{w l:LI}(h:lD w=Α l):l.L=4:=by
 delta lD at h;split at h
 .rename_i e;delta kG at h;grind
 .cases h
def aiO{w l:LI}(h:lE w=Α (.row l)):l.L=4:=by
 delta lE at h;split at h
 .cases h
 .split at h
  .symm
  .split at h
   .symm
   .cases e:lD w with
    |none=>symm
    |some j=>
     rw[e] at h;let z:=aU h;injection z with z;subst z;exact V1 e
def drop_cons{α:Type}{l:List α}{i:Nat}{x:α}(h:l[i]? =Α x):l.drop i=x::l.drop (i+1):=by
 let(j,e):=bp.mp h;rw[List.drop_eq_getElem_cons j,e]
theorem eV.get{H:Hp}:∀{j:LA}{L:dQ}{i:Nat}{q:Addr},eV H j L->j[i]? =Α q->∃l,L[i]? =Α l/\H q=Α Œ:=by
 intro j L i q z;induction z generalizing i with
 |nil=>intro h;simp at h
 |cons r t F=>
  intro h;cases i with
  |zero=>
   let e:=aU h;subst e;exact(_,Á,r)
  |succ i=>exact F h
def AV:bG ["text","lines","rest","plate","number","line","told"] ["text"] (bc Ml):=cj
inductive RpI(C:Cs)(ap pl qr x:Addr)(Hb:Hp)(L:dQ)(i:Nat)(σ:L2.St)(H':Hp):Prop
 |mk (p:d7) (v4 v5 v6:Option V) (_:σ=[some Én,some (.ref pl),some (.ref qr),some ŧ,v4,v5,v6]) (_:aj Hb H') (_:Rep C H' p) (_:p.a=x) (_:(∀b,b∈(eZ C p).M (·.1)->Hb b=Β)) (_:nX 0 ⟨0,[],[]⟩ L=nX i p.m (L.drop i))
def aiQ{f:Addr}{fd:FD}(F:bu K "read_plate" "read_plate" Ml f fd)(T:ly K C)(tL:mg "len"=Β)(tE:mg "enumerate"=Β)(cL:Cn mg "LINE_END" (.int 10))(cN:Cn mg "NO_SUCH_LINE" Ŝ)(cW:Cn mg "WRONG_PLACE" (.int 2))(dC:Ç 1 "cut" ["text","mark"] (xx K)) (dP:Ā "Plate" C.P ["side","classes","glimpses"]) (dN:VY P w K mg base CN N) (dR:Ç 5 "read_line" ["line"] (VM K)) (dM:Ç 3 "may_stand" ["plate","sort"] (VS C))(dU:Ç 3 "put" ["plate","sort","told"] (VU C)) (dW:Ç 3 "has_whole_hoists" ["plate"] (qY C qX)):Ģ Ē 6 f fd ["text"] (V0 K C CN):=by
 let(fN,V2,TN,iN,G9,GN,bN):=dN;refine F.qM AV Â;let(ap,j,rfl,hT,hl,k1,k2):=h;let uc:eT 2 _:=hr.mono Ð;refine⟨_,aD (cg 1 AV.nd (bz (hr:=hr) dC (ae Ö (ae (cw cL) ag))))
  (aD (cg 2 AV.nd (Tq PySem.F.plainAttrs_list PySem.F.slot_list_pop PySem.F.type_list_pop Tr á))
  (aD (cg 3 AV.nd (pW dP hr (ae bf (ae Ĩ Åh))))
  (aD (i7 (UE yN) rfl (jP Ï tE Ĺ) (iB 4 5 AV.nd)
   (aD (cg 6 AV.nd (bz (hr:=hr) dR ŀ))
   (aD (dm (pI (rS Ϫ)) (aB (i8 hr.hd TN.c (ĸ bN .nil tX (ae (cw cN) ŝ)))) dX)
   (aD (dm (qC (ji (bz (hr:=hr) dM (ae ö (ae Ço ag))))) (aB (i8 hr.hd TN.c (ĸ bN .nil tX (ae (cw cW) ŝ)))) dX)
   (aB (pJ (bz (hr:=hr) dU (ae ö (ae Ço (ae Ço ag))))))))))
  (aD (dm (PW.pt (pw_or (cy ť Ö Ĩ (bV _)) (pw_or1 (cy Ãl å Ĩ (bV _)))))
   (aB (i8 hr.hd TN.c (ĸ bN .nil tX (ae (cw cN) (ae Ă ag))))) dX)
  (aD (dm (qC (ji (bz (hr:=hr) dW ĳ)))
   (aB (i8 hr.hd TN.c (ĸ bN .nil tX (ae (cw cW) (ae Ă ag))))) dX)
  (aB (aX ö))))))),?_⟩
 apply(_,Á,ap,10,j,Á,hT,gq hl Ð,λH1 pl qs hN hp nd np hf=>?_);let(hJ,qr,rfl,oK,oN):=eV.last hp (JM.m6 10 j);let s1:=hN.1;apply(_,Á,.inl ⟨Á,_,aa.of hN.2.2⟩,pl,_,V.ref qr,Á,Á,hN.2.2,?_,?_)
 .simp
 let eL:(((hJ++[qr]).M V.ref).dropLast)=hJ.M V.ref:=by rw[bI];simp
 rw[eL];let NK:=λz=>np (wH _ z);let NL:qr≠pl:=λz=>np Å;generalize hL:(JM.aO 10 j).dropLast=L at oK;generalize hRest:(JM.aO 10 j).getLastD []=O at oN;let sb:aj H ŗ:=fe s1 hN.2.1;let AW:eV ŗ hJ L:=eV.upd oK NK;let rb:(ŗ) qr=Α (.lst (iv O)):=by rw[aA NL];exact oN
 let lb:(ŗ) pl=Α Ą:=au;generalize ŗ=Hb at sb AW rb lb;let auJ:L.L<=66000:=by
  rw[<-hL,aa9];let:=GT 10 j;omega
 let V3:=AW.len;let aiR:∀w∈L,w.L<=100000:=λw M=>by
  let:=yT 10 j w (by rw[<-hL] at M;exact B3 _ M)
  af
 let U:iq j=match nX 0 ⟨0,[],[]⟩ L with
   |.error e=>.error e
   |.ok m=>if j=[]\/O≠[] then .error (1,L.L) else if qX m=true then .ok m else .error (2,L.L):=by
  ext iq;rw[hL,hRest]
 let DJ:∀(kk ll:Nat)(Hx:Hp),iq j=.error (kk,ll)->aj H Hx->([V.int (kk:Nat),V.int (ll:Nat)]:az).L<=sizeLine/\∀x,Hx x=Β->
   NJ CN (V.ref x::([V.int (kk:Nat),V.int (ll:Nat)]++[])) (upd Hx x (exc CN none .none x)) (λv H2=>v=.aP/\∃a od,V.ref x=V.ref a/\H2 a=Α (exc CN od .none a)/\(∀d,od=Α d->d≠a)/\E (.ref CN) od H2) E0:=λkk ll Hx e J=>
  ⟨(by show 2<=sizeLine;decide),λx Y=>⟨x,kk,ll,rfl,au,λH5 d h1 aN h2 kp=>⟨rfl,x,some d,rfl,h1,λd' e'=>(by cases e';exact aN),k2 _ e H5 d (λb o eb=>kp b o (by rw[aA (eS (J _ _ eb) Y)];exact J _ _ eb) (eS (J _ _ eb) Y)) h2⟩⟩⟩
 apply(dj _,λZ e9=>⟨dj _,λl2 jN=>?_⟩);intro x dx Y gV V4;refine⟨x,dx,_,Á,Á,au,λH4 h4 k4=>Ţ⟩;let t1:aj Hb (upd Hb Z ã):=aI e9;let t2:aj Hb (upd (upd Hb Z ã) l2 ã):=fe t1 (t1.free jN);let t4:=aj.made Y gV k4;let t5:=t2.R t4;let V5:Z≠l2:=λz=>by rw[<-z,au] at jN;cases jN
 let nx2:l2≠x:=λz=>by rw[<-z,au] at Y;cases Y
 let nx1:Z≠x:=λz=>by rw[<-z,aA V5,au] at Y;cases Y
 let R0:Rep C H4 ⟨x,dx,Z,l2,0,[],[]⟩:=by
  apply(λy hy=>?_,?_)
  .let hy:=hy;rcases a9.mp hy with rfl|hy
   .exact h4
   .rcases a9.mp hy with rfl|hy
    .exact t4 _ _ (by rw[aA V5];exact au)
    .obtain rfl:=iT.mp hy;exact t4 _ _ au
  .show([x,Z,l2]:LA).Nodup;grind
 let F0:∀b,b∈(eZ C ⟨x,dx,Z,l2,0,[],[]⟩).M (·.1)->Hb b=Β:=λb hb=>by
  let hb:b=x\/b=Z\/b=l2:=by simpa [eZ] using hb
  rcases hb with rfl|rfl|rfl
  .exact t2.free Y
  .omega
  .exact t1.free jN
 refine⟨_,Á,pl,_,Á,aa.of (t5 _ _ lb),Lf (K:=K) (a:=pl) (xs:=hJ.M V.ref)
  (RpI C ap pl qr x Hb L)
  ⟨⟨x,dx,Z,l2,0,[],[]⟩,none,none,none,rfl,t5,R0,rfl,F0,rfl⟩ (λi σ H' _ h=>(by let(_,_,_,_,_,J):=h;exact aa.of (J _ _ lb))) ?_ ?_⟩
 .rintro i y TT σ H' hi ⟨p,v4,v5,v6,rfl,J,R,AS,qI,ud⟩ xm;obtain⟨q,hq,rfl⟩:∃q,hJ[i]? =Α q/\y=V.ref q:=by
   grind
  let(wd,M,hqw):=eV.get AW hq;let sT:=fe (o:=.tup [.int (i:Nat),.ref q]) J (J.free xm);let V6:aj H' (upd H' TT (.tup [.int (i:Nat),.ref q])):=aI xm;rw[drop_cons M] at ud;apply(TT,_,Á,bx.of au,Á,_,_,Á,_,_,Á,Á,_,Á,q,wd,Á,aa.of (sT _ _ hqw),aiR wd (bo M),λH3 v s3 Hc=>?_);let V7:=sT.R s3;let s3H:=sb.R V7;cases AX:lE wd with
  |none=>
   rw[AX] at Hc;obtain rfl:v=.aP:=Hc;let W:iq j=.error (1,i):=by
    rw[U,ud];ext nX;symm
   exact(_,Á,_,Á,ite_yes Á ⟨_,Á,DJ 1 i H3 W s3H⟩)
  |some t=>
   rw[AX] at Hc;let(q2,y2,rfl,ua,NM,ta):=Hc;let L3:=R.lies.E (V6.R s3);refine⟨_,Á,_,Á,ite_no Ä ⟨_,Á,_,Á,q2,_,0,_,Á,Á,bx.of NM,Á,p,t.sort,Å,L3,λH5 s5=>Ę⟩⟩;let V8:=V7.R s5;let s5H:=sb.R V8;apply a7 (λhm=>?_) (λhm=>?_)
   .simp at hm;let W:iq j=.error (2,i):=by
     rw[U,ud];ext nX;symm
    exact(_,Á,DJ 2 i H5 W s5H)
   .simp at hm;let R5:Rep C H5 p:=⟨L3.E s5,R.nd⟩;refine⟨_,Á,_,Á,q2,_,0,_,Á,Á,bx.of (s5 _ _ NM),Á,_,Á,q2,_,1,_,Á,Á,bx.of (s5 _ _ NM),Á,p,t,y2,upd H' TT (.tup [.int (i:Nat),.ref q]),(by rw[AS];rfl),R5,s3.R s5,R.lies.E V6,ta.E s5,
     λl e=>aiO (by rw[AX,e]),hm,λH6 p' e1 e2 R6 kf kn=>?_⟩
    apply(p',_,_,_,Á,λb o eb=>kf b o (V8 _ _ eb) (λz=>by grind),R6,e1.R AS,λb hb=>?_,?_)
    .rcases kn b hb with z|z
     .grind
     .exact sT.free z
    .rw[ud,e2];rw[show nX i p.m (wd::L.drop (i+1))=(match lE wd with
      |none=>.error (1,i)
      |some t=>if eE p.m t.sort=true then nX (i+1) (sA p.m t) (L.drop (i+1)) else .error (2,i)) from rfl,AX]
     symm
 .rintro σ H' ⟨p,v4,v5,v6,rfl,J,R,AS,qI,ud⟩;let sH:=sb.R J;rw[ao,V3,List.drop_length] at ud;let ud:nX 0 ⟨0,[],[]⟩ L=.ok p.m:=ud;rw[ud] at U;dsimp only at U;let NQ:(((hJ.M V.ref).L:Nat):Int)=((L.L:Nat):Int):=by rw[ao,V3]
  apply(_,Á,dj _,λe1 n1=>?_);let Hd:=fe (o:=.lst []) sH (sH.free n1);let NR:=fe (o:=.lst []) J (J.free n1);refine⟨ap,e1,_,Á,Á,Hd.seq hT,aa.of au,_,Á,a7 Î Î⟩
  .let hc:j=[]:=by
    symm
   let W:iq j=.error (1,L.L):=by rw[U,ai (.inl hc)]
   apply(_,Á,pl,_,Á,.inl (aa.of (NR _ _ lb)),?_);rw[NQ];exact DJ 1 L.L _ W Hd
  .let hc:¬j=[]:=λz=>hc Å;apply(_,Á,dj _,λe2 n2=>?_);let NS:=fe (o:=.lst []) Hd (Hd.free n2);let NU:=fe (o:=.lst []) NR (NR.free n2);refine⟨qr,e2,_,Á,Á,aa.of (NU _ _ rb),aa.of au,_,Á,a7 ģ ģ⟩
   .let hd:O≠[]:=λz=>by rw[z] at hd;exact absurd hd Ð
    let W:iq j=.error (1,L.L):=by rw[U,ai (.inr hd)]
    apply(_,Á,pl,_,Á,.inl (aa.of (NU _ _ lb)),?_);rw[NQ];exact DJ 1 L.L _ W NS
   .let hd:O=[]:=by
     symm
    let CM:¬(j=[]\/O≠[]):=λz=>z.elim hc (λz=>z hd);rw[ah CM] at U;let Lx:Lies _ Áx:=(R.lies.E (aI (o:=.lst []) n1)).E (aI (o:=.lst []) n2);refine⟨_,Á,p,Å,Lx,λH3 s3=>Ę⟩;apply a7 (λM=>?_) (λM=>?_)
    .simp at M;let W:iq j=.error (2,L.L):=by rw[U,M];rfl
     apply(_,Á,pl,_,Á,.inl (aa.of (s3 _ _ (NU _ _ lb))),?_);rw[NQ];exact DJ 2 L.L _ W (NS.R s3)
    .simp at M;rw[ai M] at U;refine Ę;let q:=k1 p.m U H3 p (NS.R s3) (Lx.E s3) rfl;symm
end
def AY:Str:="ABCDEFGHIJKLMNOPQRSTUVWXYZ0123456789"
def iX(part:LI):Bool:=decide (1<=part.L)&&(decide (part.L<=8)&&part.all λb=>(codes AY).Y b)
inductive NV(K:FR)(vs:az)(H:Hp)(Q:VK)(E':XK):Prop
 |mk (ap:Addr) (part:LI) (_:vs=[.ref ap]) (_:ä ap Ão) (_:part.L<=100000) (_:∀H',aj H H'->Q (.bl (iX part)) H')
section
variable{P:Pg}{w:Wd}{K:FR}{mg:MG}{base:Heap}
def aiV:bG ["part"] ["part"] (bc L9):=cj
def aiW(F:bu K "is_name" "is_name" L9 f fd)(tL:mg "len"=Β)(M:Cn mg "LONGEST_NAME" Éo)(O:Cn mg "NAME_SIGNS" (.str AY))(U:Ç 2 "places_in" ["signs","part"] (GW K)):Ë 3 f fd ["part"] (NV K):=by
 refine F.ok aiV Â;let(j,part,rfl,J,hl,k):=h;refine⟨_,aB (aX (vt (SU yB yB bf č (cw M))
  (rT (Sx (Kb (bz (hr:=hr) U (ae (cw O) õ))))))),?_⟩
 let W:decide ((1:Int)<=(((iv part).L:Nat):Int))=decide (1<=part.L):=by
  grind
 let Y:decide ((((iv part).L:Nat):Int)<=8)=decide (part.L<=8):=by
  grind
 let q:=k;delta iX at q;apply(_,Á,j,_,Á,.inl J,_,_,Á,Á,_,Á,?_);rw[W];refine a7 Î Î
 .apply(_,_,Á,Á,_,Á,?_);rw[Y];refine a7 ģ ģ
  .rw[hc,hd,nu,nu] at q;apply(_,Á,AY,j,part,Á,by decide,J,hl,λz H' s1=>?_,λl z H' p Z=>?_)
   .let q:=q _ s1;delta kG at z
    af
   .let q:=q _ Z.1;delta kG at z
    af
  .let hd:decide (part.L<=8)=false:=by simpa using hd
   rw[hd,mJ,zW] at q;exact q _ ſ
 .let hc:decide (1<=part.L)=false:=by simpa using hc
  rw[hc,mJ] at q;exact(_,Á,q _ ſ)
def fO(t:LI)(line:LI):Option LI:=match JM.aO 32 line with
 |[a,b]=>if a=t/\iX b=true then some b else none
 |_=>none
inductive NW(K:FR)(vs:az)(H:Hp)(Q:VK)(E':XK):Prop
 |mk (x:Str) (ap:Addr) (line:LI) (_:vs=[.str x,.ref ap]) (_:x.cps.u<=100000) (_:ä ap Æo) (_:line.L<=100000) (_:∀H' v,aj H H'->LstAt H H' (fO ũ line) v->Q v H')
theorem aiX(h:l.L=2):∃a b,l=[a,b]:=by
 match l,h with
 |[a,b],_=>exact(a,b,Á)
def V9:bG ["title","line","words"] ["title","line"] (bc Ma):=cj
def aiY(F:bu K "name_behind" "name_behind" Ma f fd)(tL:mg "len"=Β)(cB:Cn mg "BLANK" Æs)(dC:Ç 1 "cut" ["text","mark"] (xx K)) (dS:Ç 1 "spelled" ["written"] Dz) (dN:Ç 3 "is_name" ["part"] (NV K)):
  a0 P w K mg base aF 4 f fd ["title","line"] (NW K):=by
 refine F.ok V9 Â;let(x,ap,line,rfl,hx,hP,Z,k):=h;let qW:eT 1 _:=hr.mono Ð;refine⟨_,aD (cg 2 V9.nd (bz (hr:=qW) dC (ae á Ϸ)))
  (aD (dm (PW.pt (pw_or (cy wU ā bf (bV _))
    (pw_or (cy (Li hr.units) Ád (bz (hr:=qW) dS õ) (bV _))
    (pw_or1 (qC (ji (bz (hr:=hr) dN (ae Ád ag)))))))) ϋ dX)
  (aB (aX Ád))),?_⟩
 apply(_,Á,ap,32,line,Á,hP,Z,λH1 p O M j nd np hf=>?_);let b7:((O.M V.ref).L:Int)=((JM.aO 32 line).L:Nat):=by rw[ao,j.len]
 let s1:=M.1;refine⟨_,Á,p,_,Á,.inl (aa.of M.2.2),Á,_,Á,a7 Î Î⟩
 .apply k H1 .aP s1 ?_;let:fO ũ line=Β:=by
   ext fO;grind
  rw[this];rfl
 .let h2:(JM.aO 32 line).L=2:=by
   grind
  let(a,b,W):=aiX h2;rw[W] at j;let en:fO ũ line=if a=codes x/\iX b=true then some b else none:=by ext fO;rw[W]
  let Nu:∀w∈[a,b],w.L<=100000:=λw hw=>gq (yT 32 line w Å) Z;obtain⟨qa,J,rfl⟩:∃x y,O=[x,y]:=by
   let:=j.len
   match O,this with
   |[x,y],_=>exact(x,y,Á)
  cases j with
  |cons ha j=>
   cases j with
   |cons Y j=>
    apply(_,Á,p,_,0,V.ref qa,Á,Á,aa.of M.2.2,Á,_,Á,x,Á,hx,λH2 p2 q=>?_);let s2:=s1.R q.1;refine⟨qa,p2,a,codes x,Á,Á,aa.of (q.1 _ _ ha),aa.of q.2.2,_,Á,a7 ģ ģ⟩
    .apply k H2 .aP s2 ?_;simp at hd;rw[en,ah (λz=>hd z.1)];rfl
    .simp at hd;refine⟨_,Á,p,_,1,V.ref J,Á,Á,aa.of (q.1 _ _ M.2.2),Á,J,b,Á,aa.of (q.1 _ _ Y),Nu b Ä,λU s3=>Ę⟩;refine a7 Æu Æu
     .let hn:¬iX b=true:=by simpa using hn
      apply k U .aP ğ ?_;rw[en,ah (λz=>hn z.2)];rfl
     .simp at hn;apply(_,Á,p,_,1,V.ref J,Á,Á,aa.of (s3 _ _ (q.1 _ _ M.2.2)),Á,?_);apply k U (.ref J) ğ ?_;rw[en,ai ⟨hd,hn⟩];exact(J,Á,hf J Ä,s3 _ _ (q.1 _ _ Y))
def kI(j:LI):Option dQ:=if (JM.aO 10 j).getLastD []=[] then some (JM.aO 10 j).dropLast else none
def aiZ(H H':Hp):Option dQ->V->Prop
 |none,v=>v=.aP
 |some L,v=>∃p qs,v=.ref p/\H p=Β/\H' p=Α Ĕ/\eV H' qs L/\(∀q∈qs,H q=Β)
inductive NX(K:FR)(vs:az)(H:Hp)(Q:VK)(E':XK):Prop
 |mk (ap:Addr) (bZ:LI) (_:vs=[.ref ap]) (_:ä ap (iv bZ)) (_:bZ.L<=100000) (_:∀H' v,aj H H'->aiZ H H' (kI bZ) v->Q v H')
def NY:bG ["text","lines","rest"] ["text"] (bc LY):=cj
def ai0(F:bu K "whole_lines" "whole_lines" LY f fd)(cL:Cn mg "LINE_END" (.int 10))(dC:Ç 1 "cut" ["text","mark"] (xx K)):
  a0 P w K mg base aF 2 f fd ["text"] (NX K):=by
 refine F.ok NY Â;let(ap,j,rfl,hP,hl,k):=h;refine⟨_,aD (cg 1 NY.nd (bz (hr:=hr) dC (ae Ö (ae (cw cL) ag))))
  (aD (cg 2 NY.nd (Tq PySem.F.plainAttrs_list PySem.F.slot_list_pop PySem.F.type_list_pop Tr á))
  (aB (aX (tJ (cy ť å Ĩ (bV _)) á rR)))),?_⟩
 apply(_,Á,ap,10,j,Á,hP,hl,λH1 pl qs J hp nd np hf=>?_);let(hJ,M,rfl,oK,oN):=eV.last hp (JM.m6 10 j);let s1:=J.1;apply(_,Á,.inl ⟨Á,_,aa.of J.2.2⟩,pl,_,V.ref M,Á,Á,J.2.2,?_,?_)
 .simp
 let eL:(((hJ++[M]).M V.ref).dropLast)=hJ.M V.ref:=by rw[bI];simp
 rw[eL];let NK:=λz=>np (wH _ z);let NL:M≠pl:=λz=>np Å;let U:aj H ŗ:=fe s1 J.2.1;let W:=eV.upd (o:=.lst (hJ.M V.ref)) oK NK;let rb:(ŗ) M=Α (.lst (iv ((JM.aO 10 j).getLastD []))):=by rw[aA NL];exact oN
 let lb:(ŗ) pl=Α Ą:=au;generalize ŗ=Y at U W rb lb;apply(_,Á,dj _,λZ n1=>?_);let s2:=fe (o:=.lst []) U (U.free n1);let O:aj Y (upd Y Z ã):=aI n1;refine⟨M,Z,_,Á,Á,aa.of (O _ _ rb),aa.of au,_,Á,a7 Î Î⟩
 .let hc:(JM.aO 10 j).getLastD []=[]:=by simpa using hc
  apply(_,Á,k _ _ s2 ?_);ext kI;rw[ai hc];exact(pl,hJ,Á,J.2.1,O _ _ lb,W.E O,λq hq=>hf q (wH _ hq))
 .let hc:¬(JM.aO 10 j).getLastD []=[]:=by simpa using hc
  apply k _ _ s2 ?_;ext kI;rw[ah hc];rfl
end
structure ir where
 role:Nat
 name:LI
 lH:Int
 copies:Int
 shape:Nat
 look:LI
abbrev aJ:=List ir
structure ax where
 a:Addr
 dx:Addr
 nm:Addr
 lk:Addr
 m:ir
def xA(k:ax):List (Str×V):=[("role",.int (k.m.role:Nat)),("name",.ref k.nm),("which",.int k.m.lH),("copies",.int k.m.copies),("shape",.int (k.m.shape:Nat)),("look",.ref k.lk)]
def lI(C:Addr)(k:ax):jq:=[(k.a,.ins C k.dx (xA k)),(k.nm,.lst (iv k.m.name)),(k.lk,.lst (iv k.m.look))]
def xB(k:ax):(xA k).Q ("role":Str)=Α (.int (k.m.role:Nat)):=gM
def Wa(k:ax):(xA k).Q ("name":Str)=Α (.ref k.nm):=(fq É).R gM
def N0(k:ax):(xA k).Q ("which":Str)=Α (.int k.m.lH):=(fq É).R ((fq É).R gM)
def N5(k:ax):(xA k).Q ("copies":Str)=Α (.int k.m.copies):=(fq É).R ((fq É).R ((fq É).R gM))
def Wb(k:ax):(xA k).Q ("shape":Str)=Α (.int (k.m.shape:Nat)):=(fq É).R ((fq É).R ((fq É).R ((fq É).R gM)))
def Wc(k:ax):(xA k).Q ("look":Str)=Α (.ref k.lk):=(fq É).R ((fq É).R ((fq É).R ((fq É).R ((fq É).R gM))))
structure vP where
 a:Addr
 dx:Addr
 nm:Addr
 kl:Addr
 name:LI
 kinds:List ax
def He(l:vP):List (Str×V):=[("name",.ref l.nm),("kinds",.ref l.kl)]
def AZ(C:Addr)(ks:List ax):jq:=ks.flatMap (lI C)
def ai1(l:vP):(He l).Q ("name":Str)=Α (.ref l.nm):=gM
def DK(l:vP):(He l).Q ("kinds":Str)=Α (.ref l.kl):=(fq É).R gM
structure ue(K:FR)(C:Addr):Prop where
 c:l8 K C
 xE:ϱ "role"
 nName:ϱ "name"
 N6:ϱ "which"
 N7:ϱ "copies"
 yV:ϱ "shape"
 We:ϱ "look"
structure LkT(K:FR)(C:Addr):Prop where
 c:l8 K C
 nName:ϱ "name"
 auM:ϱ "kinds"
structure iu(K:FR)(mg:MG)(x:Str)(C N:Addr):Prop where
 c:XC K C N
 lJ:PySem.W.nsIn K N "__init__"=Α none
 mC:mg x=Α Ĉ
 keep:PySem.W.keepIn K Ĉ=true
section
variable{P:Pg}{w:Wd}{K:FR}{mg:MG}{base:Heap}{C CN N:Addr}
abbrev No(E:XK)(C:Addr)(H:Hp):Prop:=∀H',aj H H'->E Ĉ none H'
def No.go(h:No E C H)(s:aj H H1):No E C H1:=λj q=>h j (s.R q)
def gf(h:No E C H):∀x,H x=Β->∃(a:Addr)(od:OA),V.ref x=V.ref a/\upd H x Ś a=Α (exc C od .none a)/\(∀d,od=Α d->d≠a)/\E Ĉ od (upd H x Ś):=
 λx j=>⟨x,none,rfl,au,λd z=>(by cases z),h _ (aI j)⟩
inductive N8(K:FR)(CN:Addr)(vs:az)(H:Hp)(Q:VK)(E:XK):Prop
 |mk (ap:Addr) (part:LI) (_:vs=[.ref ap]) (_:ä ap Ão) (_:part.L<=100000) (_:(iX part=true->∀H',aj H H'->Q Én H')) (_:(iX part=false->No E CN H))
def ai3:bG ["word"] ["word"] (bc Mc):=cj
def ai4(F:bu K "read_name" "read_name" Mc f fd)(X:Ğ "NoLocker" CN N)(z:Ç 3 "is_name" ["part"] (NV K)):
  a0 P w K mg base Ē 4 f fd ["word"] (N8 K CN):=by
 refine F.qM ai3 Â;let(q,part,rfl,J,M,k1,k2):=h;apply(_,aD (dm (qC (ji (bz z õ))) ő dX) (aB (aX Ö)),?_);refine⟨_,Á,q,part,Á,J,M,λH1 j=>⟨_,Á,a7 Î Î⟩⟩
 .exact gf ((k2 Å).go j)
 .exact(_,Á,k1 Å H1 j)
def iM(w:LI)(M:Int):Option Int:=match w with
 |[d]=>if d<49\/d>48+M then none else some (d-48)
 |_=>none
inductive N9(K:FR)(CN:Addr)(vs:az)(H:Hp)(Q:VK)(E:XK):Prop
 |mk (ap:Addr) (part:LI) (most:Int) (_:vs=[.ref ap,.int most]) (_:ä ap Ão) (_:part.L<=100000) (_:(∀d,iM part most=Α d->∀H',aj H H'->Q (.int d) H')) (_:(iM part most=Β->No E CN H))
def ai5:bG ["word","most"] ["word","most"] (bc Md):=cj
def ai6(F:bu K "read_digit" "read_digit" Md f fd)(tL:mg "len"=Β)(X:Ğ "NoLocker" CN N)(J:Cn mg "DIGIT_ZERO" (.int 48)):
  a0 P w K mg base Ē 1 f fd ["word","most"] (N9 K CN):=by
 refine F.qM ai5 Â;let(j,part,M,rfl,z,U,k1,k2):=h;refine⟨_,aD (dm (PW.pt (pw_or (cy wU č bf (bV _))
   (pw_or (cy yA Çn (eA pL (cw J) bf) (bV _)) (pw_or1 (cy rX Çn (eA pL (cw J) á) (bV _))))))
   (Ý) dX) (aB (aX (eA rW Çn (cw J)))),?_⟩
 refine⟨_,Á,j,_,Á,.inl z,Á,_,Á,a7 Î Î⟩
 .let e:iM part M=Β:=by
   ext iM;grind
  exact gf (k2 e)
 .obtain⟨d,rfl⟩:∃d,part=[d]:=by
   match part with
   |[d]=>exact(d,Á)
   |[]=>exact absurd (by simp[iv]) hc
   |a::b::r=>
    exfalso;apply hc;simp only[iv,ao,dh,Bool.not_eq_true',JQ];intro q;injection q with q
    af
  let O:iM [d] M=if d<49\/d>48+M then none else some (d-48):=rfl;refine⟨_,Á,j,_,0,V.int d,Á,Á,z,Á,_,_,Á,Á,_,_,Á,Á,_,Á,a7 ū ū⟩
  .simp at h1;exact gf (k2 Å)
  .simp at h1;refine⟨_,Á,j,_,0,V.int d,Á,Á,z,Á,_,Á,_,_,Á,Á,_,_,Á,Á,_,Á,a7 Àw Àw⟩
   .simp at h2;exact gf (k2 Å)
   .simp at h2;exact(_,Á,j,_,0,V.int d,Á,Á,z,Á,_,_,Á,Á,(k1 _ Å H ſ))
end
def xF{C:Addr}{ns:LS}{as:az}{H1:Hp}{Q:VK}{E:XK}(O:as.L=ns.L)(h:∀x dx H',H1 x=Β->H1 dx=Β->dx≠x->H' x=Α (.ins C dx (ns.zip as))->aj H1 H'->Q ŧ H'):
  ∀x dx,H1 x=Β->H1 dx=Β->dx≠x->GZ C ns (.ref x::(as++[])) (upd (upd H1 dx Åu) x Âx) (λv z=>v=.aP/\Q ŧ z) E:=λx dx q hd F=>
 ⟨x,dx,as,by rw[jG],O,au,λH' J M=>⟨rfl,h x dx H' q hd F J λb o j=>M b o (by rw[aA (eS j q),aA (eS j hd)];exact j) (eS j q)⟩⟩
theorem eV.at{H:Hp}{qs:LA}{L:dQ}(h:eV H qs L){j:Nat}(z:j<L.L):∃q,q∈qs/\Äu[j]? =Α Åt/\H q=Α (.lst (iv (L.D j []))):=by
 induction h generalizing j with
 |nil=>exact absurd z Ä
 |cons r t F=>
  cases j with
  |zero=>exact(_,by simp,rfl,r)
  |succ j=>
   let(q,a,b,c):=F (j:=j) (À z);exact(q,aL _ a,b,c)
def Oa{α:Type}{xs:List α}{k:Nat}{v:α}(hk:0<k)(h:xs[xs.L-k]? =Α v)(j:k<=xs.L):qG xs (-(k:Int))=Α v:=by
 let e:tO xs.L (-(k:Int))=Α (xs.L-k):=by
  ext tO;grind
 ext qG;symm
def vQ:LS:=["sign","same","answer"]
def kJ:LS:=["square","tails","long"]
def nc(r:Nat)(w:LI):Option LI:=if r=0 then (if iX w=true then some w else none) else some []
def sC(r:Nat)(w:LI):Option Int:=if r=1 then iM w 4 else some 0
def sD(r:Nat):Option LI->Option Int->Option Int->Option Nat->Option LI->Option ir
 |some n,some h,some c,some s,some l=>some ⟨r,n,h,c,s,l⟩
 |_,_,_,_,_=>none
def pX(ws:dQ):Option ir:=match bW Ϛ Àj with
 |none=>none
 |some r=>if ws.L=(if r=2 then 4 else 5) then sD r (nc r Ŗ) (sC r Ŗ) (iM (ws.D (ws.L-3) []) 8) (bW Ć (ws.D (ws.L-2) [])) (iG (ws.D (ws.L-1) [])) else none
def iY(line:LI):Option ir:=pX (JM.aO 32 line)
def Hf{b c d e}:sD r none b c d e=Β:=by cases b <;> cases c <;> cases d <;> cases e <;> rfl
def Hg{a c d e}:sD r a none c d e=Β:=by cases a <;> cases c <;> cases d <;> cases e <;> rfl
def Ob{a b d e}:sD r a b none d e=Β:=by cases a <;> cases b <;> cases d <;> cases e <;> rfl
def Hh{a b c e}:sD r a b c none e=Β:=by cases a <;> cases b <;> cases c <;> cases e <;> rfl
def Hi{a b c d}:sD r a b c d none=Β:=by cases a <;> cases b <;> cases c <;> cases d <;> rfl
def A0{q:dQ}{part:LI}{r:Nat}(h:bW q part=Α r):r<q.L:=by
 delta bW at h;let(j,_):=RV.mp h;exact j
inductive Oc(K:FR)(CK CN:Addr)(vs:az)(H:Hp)(Q:VK)(E:XK):Prop
 |mk (ap:Addr) (line:LI) (_:vs=[.ref ap]) (_:ä ap Æo) (_:line.L<=100000) (_:(∀m,iY line=Α m->∀H' k,aj H H'->k.m=m->aV H' (lI CK k)->(∀x∈lI CK k,H x.1=Β)->Q (.ref k.a) H')) (_:(iY line=Β->No E CN H))
section
variable{P:Pg}{w:Wd}{K:FR}{mg:MG}{base:Heap}{CK CN N:Addr}
def xG:bG ["line","words","role","name","which","copies","shape","look"] ["line"] (bc Me):=cj
def ai7(h2:σ[2]? =Α (some (.int (r:Nat))))(J:σ[1]? =Α (some Ĝ))(O:ä p xs)(q:xs[1]? =Α (.ref q1))(F:H q1=Α (.lst (iv w1)))(U:w1.L<=100000)(no:nc r w1=Β->No E CN H) (yes:∀n,nc r w1=Α n->∀z a,aj H z->z a=Α (.lst (iv n))->(a=q1\/H a=Β)->Q ħ z):
  yu (mY (bU pN ř Är)) (g9 (N8 K CN) [] E (ba (bU Ũ ž Äq) du)) (An du) σ H Q:=by
 refine⟨_,h2,Á,_,Á,a7 Î Î⟩
 .let e:r=0:=by
   symm
  delta nc at no yes;rw[ai e] at no;apply(_,J,p,xs,1,.ref q1,Á,Á,O,f7 (j:=1) q,q1,w1,Á,aa.of F,U,λM H' s'=>?_,λM=>no Å);apply yes w1 ?_ H' q1 s' (s' _ _ F) ĝ;symm
 .let e:¬r=0:=by
   symm
  exact(dj _,λx q=>(yes [] (by ext nc;rw[ah e]) _ x (aI q) au (.inr q)))
def ai8{K:FR}{CN:Addr}{E:XK}{σ:L2.St}{H:Hp}{Q:VK}{p:Addr}{xs:az}{r:Nat}{q:Addr}{w1:LI}(h2:σ[2]? =Α (some (.int (r:Nat))))(J:σ[1]? =Α (some Ĝ))(O:ä p xs)(Y:xs[1]? =Α (.ref q))(U:H q=Α (.lst (iv w1)))(W:w1.L<=100000)(no:sC r w1=Β->No E CN H) (yes:∀n,sC r w1=Α n->∀F,aj H F->Q (.int n) F):
  yu (mY (bU pN ř Äq)) (g9 (N9 K CN) [] E (ba (bU Ũ ž Äq) (ba (tC (.int 4)) du))) Är σ H Q:=by
 refine⟨_,h2,Á,_,Á,a7 Î Î⟩
 .let e:r=1:=by
   let:V.int (r:Nat)=V.int 1:=À hc
   injection this with this
   af
  delta sC at no yes;rw[ai e] at no yes;exact(_,J,p,xs,1,.ref q,Á,Á,O,f7 (j:=1) Y,q,w1,4,Á,aa.of U,W,λd hd H' s'=>yes d hd H' s',λM=>no M)
 .let e:¬r=1:=by
   intro z;apply hc;rw[z];simp
  exact yes 0 (by ext sC;rw[ah e]) H ſ
def ai9{f:Addr}{fd:FD}(F:bu K "read_kind" "read_kind" Me f fd)(tL:mg "len"=Β)(X:Ğ "NoLocker" CN N)(cB:Cn mg "BLANK" Æs)(cR:Tn K mg "ROLES" (vQ.M V.str))(cW:Tn K mg "WORDS_OF_ROLES" [.int 5,.int 5,.int 4])(cS:Cn mg "SIGN" œ) (cSa:Cn mg "SAME" Ŝ) (cMS:Cn mg "MOST_SAME" (.int 4)) (cMC:Cn mg "MOST_COPIES" Éo) (cSh:Tn K mg "SHAPES" (kJ.M V.str))(dC:Ç 1 "cut" ["text","mark"] (xx K)) (dA:Ç 2 "place_among" ["words","part"] (GV K)) (dN:Ċ Ē 4 "read_name" ["word"] (N8 K CN)) (dD:Ċ Ē 1 "read_digit" ["word","most"] (N9 K CN))(dR:Ç 3 "read_colours" ["part"] (Nl K)) (dK:Ā "Kind" CK ["role","name","which","copies","shape","look"]):Ģ Ē 5 f fd ["line"] (Oc K CK CN):=by
 let(aR,mR,hR):=cR;let(aW,mW,hW):=cW;let(Wf,mSh,hSh):=cSh;let(fN,V2,GN,mN,kN,bN):=dN;let(fD,fdD,GD,mD,kD,bD):=dD;refine F.qM xG Â;let(ap,line,rfl,hP,hl,k1,k2):=h;let qW:eT 1 _:=hr.mono Ð;refine⟨_,aD (cg 1 xG.nd (bz (hr:=hr) dC (ae Ö Ϸ)))
  (aD (cg 2 xG.nd (bz (hr:=hr) dA (ae (vq (v:=.ref aR) Ï mR rfl) Ş)))
  (aD (dm (PW.pt (pw_or Çd (pw_or1 (cy wU Ă (cK Ap (vq (v:=.ref aW) Ï mW rfl) å Õ) (bV _)))))
   (Ý) dX)
  (aD (cg 3 xG.nd (tJ (cy iC å Çm (bV _)) (nI GN hr rfl mN kN bN .nil so Ş) Ĩ))
  (aD (cg 4 xG.nd (tJ (cy iC å (cw cSa) (bV _)) (nI GD qW rfl mD kD bD .nil so (ae (cK dc á bf Õ) (ae (cw cMS) ag))) bf))
  (aD (cg 5 xG.nd (nI GD qW rfl mD kD bD .nil so (ae Æi (ae (cw cMC) ag))))
  (aD (cg 6 xG.nd (bz (hr:=hr) dA (ae (vq (v:=.ref Wf) Ï mSh rfl) (ae Æi ag))))
  (aD (cg 7 xG.nd (bz (hr:=hr) dR (ae Æi ag)))
  (aD (dm (PW.pt (pw_or (pI (rS Ϫ)) (pw_or1 (pI (rS Èe))))) Ý dX)
  (aB (aX (pW dK hr (ae å (ae ö (ae ę (ae Ãd (ae Ϫ Âu)))))))))))))))),?_⟩
 apply(_,Á,ap,32,line,Á,hP,hl,λH1 p qs W Z nd np hf=>?_);let s1:=W.1;let hws:=λw hw=>gq (yT 32 line w hw) hl;let ek:iY line=pX (JM.aO 32 line):=rfl;let aN:=JM.m6 32 line;generalize JM.aO 32 line=ws at Z hws ek aN;let b7:(qs.M V.ref).L=ws.L:=by rw[ao,Z.len]
 let U:∀j,(ws.D j []).L<=100000:=λj=>by
  grind
 let(q0,DA,uf,hh0):=Z.at (j:=0) (by grind);apply(_,Á,p,_,0,_,Á,Á,aa.of W.2.2,f7 (j:=0) uf,aR,q0,vQ,ws.D 0 [],Á,hR H1,by decide,aa.of hh0,λH2 s2=>?_);let q:=s1.R s2;refine⟨_,Á,_,Á,a7 Î Î⟩
 .let hc:oI (bW Ϛ Àj)=V.aP:=by simpa using hc
  let e:iY line=Β:=by
   rw[ek];ext pX;cases z:bW Ϛ Àj with
   |none=>rfl
   |some i=>rw[z] at hc;cases hc
  exact gf ((k2 e).go q)
 .let hc:¬oI (bW Ϛ Àj)=V.aP:=by simpa using hc
  obtain⟨r,er⟩:∃r,bW Ϛ Àj=Α r:=by
   cases z:bW Ϛ Àj with
   |none=>rw[z] at hc;exact absurd Á hc
   |some i=>simp
  let aji:=A0 er;rw[er];let Y:iY line=if ws.L=(if r=2 then 4 else 5) then sD r (nc r Ŗ) (sC r Ŗ) (iM (ws.D (ws.L-3) []) 8) (bW Ć (ws.D (ws.L-2) [])) (iG (ws.D (ws.L-1) [])) else none:=by
   rw[ek];ext pX;symm
  let eat:qG [V.int 5,V.int 5,V.int 4] (r:Int)=Α (.int ((if r=2 then 4 else 5:Nat):Int)):=by
   match r,aji with
   |0,_=>rfl
   |1,_=>rfl
   |2,_=>rfl
  refine⟨_,Á,p,_,Á,.inl (aa.of (s2 _ _ W.2.2)),_,Á,aW,_,(r:Int),_,Á,Á,hW H2,eat,Á,_,Á,a7 ģ ģ⟩
  .let hd:¬ws.L=(if r=2 then 4 else 5):=by
    grind
   exact gf ((k2 Å).go q)
  .let hd:ws.L=(if r=2 then 4 else 5):=by
    grind
   rw[ai hd] at Y;let h4:4<=ws.L:=by rw[hd];split <;> decide
   let qA:=Z.E s2;let J:=s2 _ _ W.2.2;let(q1,DL,A1,Wg):=qA.at (j:=1) Ù;let(q5,hq5,hx5,hh5):=qA.at (j:=ws.L-3) (by grind);let(q6,hq6,Wh,hh6):=qA.at (j:=ws.L-2) (by omega);let(q7,hq7,hx7,hh7):=qA.at (j:=ws.L-1) (by omega);apply ai7 (r:=r) (w1:=ws.D 1 []) Á Á (aa.of J) A1 Wg (U 1) (λz=>(k2 (by rw[Y,z,Hf])).go q) λnm enm H3 an M hn3 han=>?_;apply ai8 (r:=r) (w1:=ws.D 1 []) Á Á (aa.of (M _ _ J)) A1 (M _ _ Wg) (U 1) (λz=>(k2 (by rw[Y,z,Hg])).go (q.R M)) λwh ewh H4 s4=>?_;let mh:=(q.R M).R s4;let Od:=M.R s4;apply(_,Á,_,Á,p,_,_,_,Á,Á,aa.of (Od _ _ J),Oa (k:=3) Ð Å Ù,q5,ws.D (ws.L-3) [],8,Á,aa.of (Od _ _ hh5),U _,λcp ecp H5 s5=>?_,λz=>(k2 (by rw[Y,z,Ob])).go mh);let ug:=mh.R s5;let Oe:=Od.R s5;apply(_,Á,_,Á,p,_,_,_,Á,Á,aa.of (Oe _ _ J),Oa (k:=2) Ð Å Ù,Wf,q6,kJ,ws.D (ws.L-2) [],Á,hSh H5,by decide,aa.of (Oe _ _ hh6),λH6 s6=>?_);let yY:=ug.R s6;let Wi:=Oe.R s6;apply(_,Á,_,Á,p,_,_,_,Á,Á,aa.of (Wi _ _ J),Oa (k:=1) Ð Å Ù,q7,ws.D (ws.L-1) [],Á,aa.of (Wi _ _ hh7),U _,λz H7 O=>?_,λlk elk H7 al Of=>?_)
   .let no:=(k2 (by rw[Y,z,Hi])).go (yY.R O);exact(_,Á,_,Á,a7 (λ_=>gf no) (λ_=>⟨_,Á,_,Á,lr (gf no)⟩))
   .let O:=Of.1;apply(_,Á,_,Á,a7 (λhs=>?_) (λhs=>⟨_,Á,_,Á,oH ?_⟩))
    .let hs:oI (bW Ć (ws.D (ws.L-2) []))=V.aP:=by simpa using hs
     let z:bW Ć (ws.D (ws.L-2) [])=Β:=by
      cases z:bW Ć (ws.D (ws.L-2) []) with
      |none=>rfl
      |some i=>rw[z] at hs;cases hs
     exact gf ((k2 (by rw[Y,z,Hh])).go (yY.R O))
    .let hs:¬oI (bW Ć (ws.D (ws.L-2) []))=V.aP:=by simpa using hs
     obtain⟨sh,Wj⟩:∃i,bW Ć (ws.D (ws.L-2) [])=Α i:=by
      cases z:bW Ć (ws.D (ws.L-2) []) with
      |none=>rw[z] at hs;exact absurd Á hs
      |some i=>simp
     rw[Wj];apply(_,Á,_,Á,_,Á,_,Á,_,Á,_,Á,xF Á λx dx H8 hx gV aN e8 s8=>?_);let vR:=yY.R O;let DM:iY line=Α ⟨r,nm,wh,cp,sh,lk⟩:=by rw[Y,enm,ewh,ecp,Wj,elk];rfl
     apply k1 _ DM H8 ⟨x,dx,an,al,⟨r,nm,wh,cp,sh,lk⟩⟩ (vR.R s8) Á Âm λy hy=>?_
     .simp only[lI,a9,k7,k8] at hy;rcases hy with rfl|rfl|rfl
      .exact e8
      .exact s8 _ _ (O _ _ (s6 _ _ (s5 _ _ (s4 _ _ hn3))))
      .exact s8 _ _ Of.2.2
     .simp only[lI,a9,k7,k8] at hy;rcases hy with rfl|rfl|rfl
      .exact vR.free hx
      .rcases han with rfl|z
       .symm
       .exact q.free z
      .exact yY.free Of.2.1
end
def Wk{K:FR}{H H':Hp}(s:aj H H'){vs:az}{j:List PyData}(x:jn K H vs j):jn K H' vs j:=
 jn.rec (motive_1:=λv d _=>Dp K H' v d) (motive_2:=λvs j _=>jn K H' vs j) .aP .bl .int .str (λh _ r=>.lst (s.seq h) r) (λh _ r=>.tup (aj.tup s h) r) .nil (λ_ _ h r=>.cons h r) x
def ajt{K:FR}{H H':Hp}(s:aj H H'){v:V}{d:PyData}(x:Ál v d):Dp K H' v d:=by
 cases Wk s (.cons x .nil);assumption
theorem aju{K:FR}{H:Hp}{vs:az}:∀{j:List PyData}(n:Nat),jn K H vs j->jn K H (vs.take n) (j.take n):=by
 induction vs with
 |nil=>intro j n h;cases h;cases n <;> exact .nil
 |cons v vs q=>
  intro j n h;cases h with
  |cons h r=>cases n with
   |zero=>exact .nil
   |succ n=>exact .cons h (q n r)
theorem ajv{K:FR}{H:Hp}{vs:az}:∀{j:List PyData}{i:Nat}{v:V},jn K H vs j->vs[i]? =Α v->∃d,j[i]? =Α d/\Ál v d:=by
 induction vs with
 |nil=>intro j i v _ e;simp at e
 |cons v vs z=>
  intro j i v h e;cases h with
  |cons h r=>cases i with
   |zero=>
    let:=aU e;subst this;exact(_,Á,h)
   |succ i=>have q:=z (i:=i) r e;exact q
def Og(xs:az){i:Nat}(h:i<=xs.L):pO xs none (some (i:Int))=xs.take i:=by
 ext pO;rw[HT.S9,HT.Ta,abo,Nat.sub_zero,RW h]
def DN(xs:az)(h:i<=xs.L):pO xs (some (i:Int)) none=xs.drop i:=by
 ext pO;rw[HT.S9,HT.Ta,RW h];exact JF Ä
def uh{α:Type}{ys:az}{L:List α}{g:α->V}(j:ys.L=L.L)(h:∀(i:Nat)(y:V)(x:α),ys[i]? =Α y->L[i]? =Α x->y=g x):ys=L.M g:=by
 apply ym;grind
def yZ{n i:Nat}{x:Nat}(h:Él[i]? =Α x):x=i:=by
 let(j,h2):=bp.mp h;rw[abd] at h2;exact h2.symm
def y4(j:List PyData)(i:Nat):Bool:=(j.take i).any λd=>PyData.eqv d (j.D i .none)
def pY(j:List PyData):Bool:=(List.range j.L).any (y4 j)
inductive Wl(K:FR)(vs:az)(H:Hp)(Q:VK)(E':XK):Prop
 |mk (p:Addr) (xs:az) (ds:List PyData) (_:vs=[.ref p]) (_:ä p xs) (_:jn K H xs ds) (_:(∀d∈ds,SeqAt.shaped d=true)) (_:xs.L<=100000) (_:∀H',aj H H'->Q (.bl (pY ds)) H')
section
variable{P:Pg}{w:Wd}{K:FR}{mg:MG}{base:Heap}{CK CN N:Addr}
def Oh:bG ["things","place","thing"] ["things"] (bc Mi):=cj
def ajw{f:Addr}{fd:FD}(F:bu K "has_twice" "has_twice" Mi f fd)(tA:mg "any"=Β)(tE:mg "enumerate"=Β):Ë 1 f fd ["things"] (Wl K):=by
 refine F.ok Oh Â;let(p,xs,j,rfl,M,hd,O,hl,k):=h;let hu:A.units+3+128<cLine:=by let:=hr.un;exact qz Ä this
 refine⟨_,aB (aX (c9 (KM Á) Ï tA boot_any (ae (eB (own:=[("place",1),("thing",2)]) (g:=g2 K 1 2) (te:=bU (U4 K) ř (Te (Th K) Ų Tb (Tc ž))) Á Oh.nd Ás Ê
  (λ_ _ _ _ _=>iB 1 2 Oh.nd) Ñ
  (λ_ _ _ _ _=>j8 (Lj hu) å (wX wZ Ö wV (wW á)) (by with_unfolding_all rfl))) ag))),?_⟩
 apply(_,Á,p,xs,Á,M,λD hD=>mi (K:=K) (a:=p) (xs:=xs) (cz H D λi y ns=>ns=[]/\y=.bl (y4 j i)) Ď (λi H' _ f=>f.E.seq M) (λi x T H' hi f hT=>?_) þ)
 .let dq:=(bp.mp hi).1;apply(T,_,Á,bx.of au,Á,_,_,Á,_,_,Á,Á,Á,eK ?_);let s1:aj H' (upd H' T (.tup [.int (i:Nat),x])):=aI hT;let s2:=f.E.R s1;apply(_,Á,_,Á,_,Á,_,Á,p,xs,Á,s2.seq M,λc hc=>?_);let s3:=aI (o:=.lst (pO xs none (some (i:Int)))) hc;let(d,J,U):=ajv hd hi;apply(c,_,j.take i,d,Á,aa.of au,?_,ajt ğ U,λd hd=>O d (zY hd),O d (bo J),?_)
  .let z:=Wk ğ (aju i hd);rw[Og xs (by omega)] at z⊢;omega
  .refine f.step hD Ù Åz Ţ aV.nil Ä;ext y4;symm
 .let(ys,s1,J,W,fl):=f.end;let Y:ys=((List.range j.L).M (y4 j)).M V.bl:=by
   rw[ck];apply uh (by rw[W,il,U6 hd]) λi y x Z h2=>?_;let(ns,(_,e),_):=fl i y Z;grind
  apply(D,(List.range j.L).M (y4 j),Á,?_,?_)
  .rw[<-Y];exact aa.of J
  .let q:=k H' s1;delta pY at q;symm
def iZ(a b:ir):Bool:=if a.role=0/\b.role=0 then true else HT.lexLt [(a.role:Nat),a.lH] [(b.role:Nat),b.lH]
inductive Oi(CK:Addr)(vs:az)(H:Hp)(Q:VK)(E':XK):Prop
 |mk (a b:ax) (_:vs=[.ref a.a,.ref b.a]) (_:aV H (lI CK a)) (_:aV H (lI CK b)) (_:∀H',aj H H'->Q (.bl (iZ a.m b.m)) H')
def jR(h:aV H (lI C k)):H k.a=Α (.ins C k.dx (xA k)):=h (k.a,_) (by simp[lI])
def Wm(h:aV H (lI C k)):H k.nm=Α (.lst (iv k.m.name)):=h (k.nm,_) (by simp[lI])
def Wn(h:aV H (lI C k)):H k.lk=Α (.lst (iv k.m.look)):=h (k.lk,_) (by simp[lI])
def nG(n m:Nat):decide (V.int (n:Nat)=V.int (m:Nat))=decide (n=m):=by
 grind
def ajx:bG ["before","kind"] ["before","kind"] (bc Mg):=cj
def ajy(F:bu K "may_follow" "may_follow" Mg f fd)(T:ue K CK)(cS:Cn mg "SIGN" œ):Ë 1 f fd ["before","kind"] (Oi CK):=by
 refine F.ok ajx Â;let(a,b,rfl,j,J,k):=h;refine⟨_,aD (dm (PW.pt (pw_and (cy iC ĺ Çm (bV _)) (pw_and1 (cy iC Åi Çm (bV _))))) ϫ dX)
  (aB (aX (j8 (adL hr.adx) (rY (ae ÿ Ãi)) (rY (ae Ň (ae Ň ag))) (bV _)))),?_⟩
 let b9:¬(a.m.role=0/\b.m.role=0)->Cp (bU (Tf K) (vw (ba (fk K Ų "role") (ba (fk K Ų "which") du))) (vw (ba (fk K ž "role") (ba (fk K ž "which") du)))) {nx:=λ_ H'=>Q .aP H',rt:=Q} [some (.ref a.a),some Çz] H:=λO=>by
  apply(_,Á,aZ (jR j) T.c T.xE (xB a) ⟨_,Á,aZ (jR j) T.c T.N6 (N0 a) ⟨(by show 2<=sizeLine;decide),λM h1=>?_⟩⟩);let s1:=aI (o:=.tup [.int (a.m.role:Nat),.int a.m.lH]) h1;apply(_,Á,aZ (s1 _ _ (jR J)) T.c T.xE (xB b) ⟨_,Á,aZ (s1 _ _ (jR J)) T.c T.N6 (N0 b) ⟨(by show 2<=sizeLine;decide),λt2 h2=>?_⟩⟩);let s2:=aI (o:=.tup [.int (b.m.role:Nat),.int b.m.lH]) h2;apply(M,t2,[(a.m.role:Nat),a.m.lH],[(b.m.role:Nat),b.m.lH],Á,Á,bx.of (s2 _ _ au),bx.of au,?_);let q:=k _ Áo;delta iZ at q
  af
 refine⟨_,Á,aZ (jR j) T.c T.xE (xB a) Ļ⟩;rw[show V.int 0=V.int ((0:Nat):Int) from rfl,nG];refine a7 ū ū
 .simp at h1;refine⟨_,Á,aZ (jR J) T.c T.xE (xB b) Ļ⟩;rw[nG];refine a7 Àw Àw
  .simp at h2;let q:=k H ſ;delta iZ at q;rw[ai ⟨h1,h2⟩] at q;exact q
  .simp at h2;exact b9 λz=>h2 z.2
 .simp at h1;exact b9 λz=>h1 z.1
end
def nZ{C:Addr}{H:Hp}{ks:List ax}(h:aV H (AZ C ks)){k:ax}(hk:k∈ks):aV H (lI C k):=λx j=>h x (jh.mpr ⟨k,hk,j⟩)
def ajz(h:∀k∈ks,aV H (lI C k)):aV H (AZ C ks):=λx j=>by
 let(k,hk,j):=jh.mp j;exact h k hk x j
theorem Hl{l:List ax}{i:Nat}{y:V}(h:(l.M λk=>V.ref k.a)[i]? =Α y):∃z,l[i]? =Α z/\y=V.ref z.a:=by
 rw[bA] at h;cases e:l[i]? with
 |none=>rw[e] at h;cases h
 |some z=>rw[e] at h;exact(z,Á,(aU h).symm)
def isSign(m:ir):Bool:=decide (m.role=0)
def oO(ms:aJ):Bool:=if (ms.J isSign).L<1\/(ms.J isSign).L>48 then false else (ms.zip (ms.drop 1)).all λp=>iZ p.1 p.2
inductive Hm(CK:Addr)(b:aJ->Bool)(vs:az)(H:Hp)(Q:VK)(E':XK):Prop
 |mk (p:Addr) (ks:List ax) (_:vs=[.ref p]) (_:H p=Α (.lst (ks.M λk=>V.ref k.a))) (_:aV H (AZ CK ks)) (_:ks.L<=100000) (_:∀H',aj H H'->Q (.bl (b Ì)) H')
def A2{α:Type}{p:α->Bool}{l:List α}{i:Nat}{x:α}(h:l[i]? =Α x):(l.take (i+1)).J p=(l.take i).J p++(if p x=true then [x] else []):=by
 rw[take_snoc h,Ft];congr 1;by_cases z:p x=true
 .rw[ai z];simp[z]
 .rw[ah z];simp[z]
section
variable{P:Pg}{w:Wd}{K:FR}{mg:MG}{base:Heap}{CK CL CN N:Addr}
def A3:bG ["kinds","signs","kind","place"] ["kinds"] (bc Mf):=cj
def ajA{f:Addr}{fd:FD}(F:bu K "are_in_order" "are_in_order" Mf f fd)(T:ue K CK)(tL:mg "len"=Β)(tA:mg "all"=Β)(tE:mg "enumerate"=Β)(cS:Cn mg "SIGN" œ)(cM:Cn mg "MOST_SIGNS" (.int 48))(dF:Ç 1 "may_follow" ["before","kind"] (Oi CK)):Ë 2 f fd ["kinds"] (Hm CK oO):=by
 refine F.ok A3 Â;let(p,ks,rfl,M,hk,hl,k):=h;refine⟨_,aD (cg 1 A3.nd (c9 gw Ï tL PySem.boot_len (ae (eB (own:=[("kind",2)]) (tt:=mY (bU pN (fk K ř "role") Är)) (te:=ay 2) Á A3.nd Åe Ê
   (λ_ _ _ _ _=>c6 2 A3.nd) (λ_ _ _ _ _=>oG (cy iC Àt Çm (bV _))) Äp) ag)))
  (aD (dm (PW.pt (pw_or (cy yA á bf (bV _)) (pw_or1 (cy rX á (cw cM) (bV _))))) ϫ dX)
  (aB (aX (c9 (w8 rfl) Ï tA zZ (ae (eB (own:=[("place",3),("kind",2)]) (g:=g2 K 3 2) (te:=g9 (Oi CK) [] E0 (ba (bU Ũ Ų Ŀ) (ba ř du))) rfl A3.nd
   (jP Ï tE (ae (wX wZ Ö (wW bf) wV) ag)) Ê
   (λ_ _ _ _ _=>iB 3 2 A3.nd) Ñ
   (λ_ _ _ _ _=>bz dF (ae (cK dc Ö ö Õ) ł))) ag))))),?_⟩
 let J:oO Ì=if (ks.J λk=>isSign k.m).L<1\/(ks.J λk=>isSign k.m).L>48 then false else ((ks.M ax.m).zip ((ks.M ax.m).drop 1)).all λp=>iZ p.1 p.2:=by
  ext oO;rw[wJ,ao];rfl
 refine⟨_,Á,p,Á,⟨_,aa.of M⟩,λD Z=>fW (K:=K) (a:=p) (xs:=ks.M λk=>V.ref k.a) (λi H'=>aj H H'/\H' D=Α (.lst (((ks.take i).J λk=>isSign k.m).M λk=>V.ref k.a))) ⟨aI Z,au⟩
  (λi H' _ ⟨j,_⟩=>aa.of (j _ _ M)) (λi y H' hi ⟨j,hd⟩=>?_) (λH' ⟨j,hd⟩=>?_)⟩
 .let(z,hz,rfl):=Hl hi;let dq:=(bp.mp hz).1;let y6:=(nZ hk (bo hz)).E j;refine⟨Á,_,Á,aZ (jR y6) T.c T.xE (xB z) Ļ⟩;rw[show V.int 0=V.int ((0:Nat):Int) from rfl,nG];let Y:=A2 (p:=λk:ax=>isSign k.m) hz;refine a7 Î Î
  .apply(_,Á,_,hd,?_,fe j Z,?_)
   .rw[ao];let:=B4 (λk:ax=>isSign k.m) (ks.take i);rw[iS] at this;exact gc Ù
   .rw[au,Y,ai (show isSign z.m=true from hc),bI];rfl
  .apply(j,?_);rw[Y,ah (show ¬isSign z.m=true from hc),jG];omega
 .rw[ao,i5] at hd;apply(D,_,Á,.inl (aa.of hd),?_);rw[ao];generalize (ks.J λk=>isSign k.m).L=n at J;refine⟨_,Á,_,_,Á,Á,_,Á,a7 ū ū⟩
  .let h1:n<1:=by
    grind
   let q:=k H' j;rw[J,ai (Or.inl h1)] at q;exact q
  .let h1:¬n<1:=by
    grind
   refine⟨_,Á,_,_,Á,Á,_,Á,a7 Àw Àw⟩
   .let h2:n>48:=by
     af
    let q:=k H' j;rw[J,ai (Or.inr h2)] at q;exact q
   .let h2:¬n>48:=by
     af
    rw[ah (λz=>z.elim h1 h2)] at J;apply(_,Á,_,Á,p,_,Á,aa.of (j _ _ M),λc hc=>?_);let ex:pO (ks.M λk=>V.ref k.a) (some 1) none=(ks.drop 1).M λk=>V.ref k.a:=by
     by_cases hz:1<=ks.L
     .rw[show(1:Int)=((1:Nat):Int) from rfl,DN _ Å,RS]
     .let:ks=[]:=by
       symm
      rw[this];rfl
    rw[ex];let s2:=j.R (aI (o:=.lst ((ks.drop 1).M λk=>V.ref k.a)) hc);let O:(upd H' c (.lst ((ks.drop 1).M λk=>V.ref k.a))) c=Α (.lst ((ks.drop 1).M λk=>V.ref k.a)):=au;generalize upd H' c (.lst ((ks.drop 1).M λk=>V.ref k.a))=H2 at s2 O;apply(c,_,Á,aa.of O,λW cq=>mi (K:=K) (a:=c) (xs:=(ks.drop 1).M λk=>V.ref k.a) (cz H2 W λi y ns=>ns=[]/\∃a b,ks[i]? =Α a/\ks[i+1]? =Α b/\y=.bl (iZ a.m b.m)) Ác (λi H3 _ f=>aa.of (f.E _ _ O)) (λi y Tt H3 hi f hT=>?_) Àx)
    .let(b,hb,rfl):=Hl hi;rw[abe] at hb;let hb:ks[i+1]? =Α b:=by rw[<-hb];congr 1;af
     let hib:=(bp.mp hb).1;obtain⟨a,ha⟩:∃a,ks[i]? =Α a:=⟨_,cJ Ù⟩;let s3:aj H3 (upd H3 Tt (.tup [.int (i:Nat),.ref b.a])):=aI hT;let U:=(s2.R f.E).R s3;refine à;exact(_,Á,_,Á,p,_,(i:Int),.ref a.a,Á,Á,aa.of (U _ _ M),f7 Å,_,Á,a,b,Á,(nZ hk (bo ha)).E U,(nZ hk Èt).E U,λH5 s5=>(f.step cq Ù (s3.R s5) ⟨Á,a,b,ha,hb,Á⟩ aV.nil Ä))
    .let(ys,s3,iL,A4,fl):=f.end;let hz:((ks.M ax.m).zip ((ks.M ax.m).drop 1)).L=ys.L:=by
      symm
     let ey:ys=(((ks.M ax.m).zip ((ks.M ax.m).drop 1)).M λp=>iZ p.1 p.2).M V.bl:=by
      rw[ck];apply uh hz.symm λi y x h1 h2=>?_;let(ns,(_,a,b,ea,eb,e),_):=fl i y h1;grind
     apply(W,_,Á,by rw[<-ey];exact aa.of iL,?_);let q:=k H3 ğ;symm
end
theorem y8{β:Type}{v:β->V}{nd:β->jq}{H:Hp}{ys:az}:∀{R:Nat->β->Prop},Lk (λi y ns=>∃b,R i b/\y=v b/\ns=nd b) H ys->∃bs:List β,ys=bs.M v/\(∀(i:Nat)(b:β),bs[i]? =Α b->R i b)/\∀b∈bs,aV H (nd b):=by
 induction ys with
 |nil=>exact @λR _=>⟨[],Á,λi b h=>by simp at h,by simp⟩
 |cons y ys q=>
  intro R h;let(ns,(b,r,e,en),l):=h 0 y rfl;let(bs,j,J,F):=q (R:=λi b=>R (i+1) b) λi z hz=>h (i+1) z hz;apply(b::bs,by rw[j,e];rfl,λi c hc=>?_,λc hc=>?_)
  .cases i with
   |zero=>
    let:=aU hc;subst this;exact r
   |succ i=>exact J i c hc
  .rcases a9.mp hc with rfl|hc
   .rw[<-en];exact l
   .exact F c hc
theorem Wo{α:Type}{K:FR}{H:Hp}{v:α->V}{d:α->PyData}{l:List α}:(∀x∈l,Ál (v x) (d x))->jn K H (l.M v) (l.M d):=by
 induction l with
 |nil=>exact @λ_=>.nil
 |cons x l q=>
  intro h;exact .cons (h x Ä) (q λy j=>h y (aL _ j))
def xH(m:ir):PyData:=.list (m.name.M PyData.int)
def sE(m:ir):PyData:=.tuple [.int (m.shape:Nat),.list (m.look.M PyData.int)]
def pZ(ms:aJ):Bool:=!pY ((ms.J isSign).M xH)&& !pY Èo
def ajC(m:ir):SeqAt.shaped (sE m)=true:=by
 ext SeqAt.shaped sE;rw[jH,lZ];refine Ϧ
 .simp only[PyData.canLay0,PyData.canLayAll0,Lg,JL]
 .let:=Lh m.look;simp only[PyData.depth,PyData.depthAll]
  af
section
variable{P:Pg}{w:Wd}{K:FR}{mg:MG}{base:Heap}{CK CL CN N:Addr}
def DO:bG ["kinds","names","faces","kind"] ["kinds"] (bc Mh):=cj
def ajD{f:Addr}{fd:FD}(F:bu K "are_different" "are_different" Mh f fd)(T:ue K CK)(cS:Cn mg "SIGN" œ)(dT:Ç 1 "has_twice" ["things"] (Wl K)):Ë 2 f fd ["kinds"] (Hm CK pZ):=by
 refine F.ok DO Â;let(p,ks,rfl,W,hk,hl,k):=h;refine⟨_,aD (tU (i:=1) (own:=[("kind",3)]) (tt:=mY (bU pN (fk K Ŀ "role") Är)) (te:=fk K Ŀ "name") Á DO.nd Á Á Ï Åe Ê
   (λ_ _ _ _ _=>c6 3 DO.nd) (λ_ _ _ _ _=>oG (cy iC Ãp Çm (bV _))) (λ_ _ _ _ _=>aY ö rfl))
  (aD (tU (i:=2) (own:=[("kind",3)]) (te:=vw (ba (fk K Ŀ "shape") (ba (fk K Ŀ "look") du))) rfl DO.nd rfl rfl Ï Åe Ê
   (λ_ _ _ _ _=>c6 3 DO.nd) Ñ (λ_ _ _ _ _=>rY (ae Ãp (ae Ãp ag))))
  (aB (aX (vt (Cm (bz dT Ĺ)) (rT (Cm (bz dT ł))))))),?_⟩
 refine⟨_,Á,p,Á,⟨_,aa.of W⟩,λD hD=>fW (K:=K) (a:=p) (xs:=ks.M λk=>V.ref k.a) (λi H'=>aj H H'/\H' D=Α (.lst (((ks.take i).J λk=>isSign k.m).M λk=>V.ref k.nm))) ⟨aI hD,au⟩
  (λi H' _ ⟨j,_⟩=>aa.of (j _ _ W)) (λi y H' hi ⟨j,hd⟩=>?_) (λH' ⟨j,hd⟩=>?_)⟩
 .let(z,hz,rfl):=Hl hi;let dq:=(bp.mp hz).1;let Y:=(nZ hk (bo hz)).E j;refine⟨Á,_,Á,aZ (jR Y) T.c T.xE (xB z) Ļ⟩;rw[show V.int 0=V.int ((0:Nat):Int) from rfl,nG];let et:=A2 (p:=λk:ax=>isSign k.m) hz;refine a7 Î Î
  .apply(_,Á,aZ (jR Y) T.c T.nName (Wa z) ⟨_,hd,?_,fe j hD,?_⟩)
   .rw[ao];let:=B4 (λk:ax=>isSign k.m) (ks.take i);rw[iS] at this;exact gc Ù
   .rw[au,et,ai (show isSign z.m=true from hc),bI];rfl
  .apply(j,?_);rw[et,ah (show ¬isSign z.m=true from hc),jG];omega
 .rw[ao,i5] at hd;refine⟨_,Á,p,Á,⟨_,aa.of (j _ _ W)⟩,λZ cq=>fW (K:=K) (a:=p) (xs:=ks.M λk=>V.ref k.a) (cz H' Z λi y ns=>∃b:Addr×ax,ks[i]? =Α b.2/\y=.ref b.1/\ns=[(b.1,.tup [.int (b.2.m.shape:Nat),.ref b.2.lk])]) Ác
   (λi H2 _ f=>aa.of (f.E _ _ (j _ _ W))) (λi y H2 hi f=>?_) Æw⟩
  .let(z,hz,rfl):=Hl hi;let dq:=(bp.mp hz).1;let Y:=(nZ hk (bo hz)).E (j.R f.E);apply(Á,eK ⟨_,Á,aZ (jR Y) T.c T.yV (Wb z) ⟨_,Á,aZ (jR Y) T.c T.We (Wc z) ⟨(by show 2<=sizeLine;decide),λt ht=>?_⟩⟩⟩);apply f.step cq Ù (aI ht) ⟨(t,z),hz,Á,Á⟩ ϩ λx hx=>?_
   .let:x=(t,_):=iT.mp hx;subst this;exact au
   .let:x=(t,_):=iT.mp hx;subst this;exact λe=>f.has Å
  .let(ys,s2,dg,jN,fl):=f.end;rw[ao] at jN;let(bs,e1,r1,l1):=y8 (v:=λb:Addr×ax=>V.ref b.1) (nd:=λb:Addr×ax=>[(b.1,.tup [.int (b.2.m.shape:Nat),.ref b.2.lk])]) (R:=λi b=>ks[i]? =Α b.2) fl;let O:=j.R s2;let eb:bs.M (·.2)=ks:=by
    apply ym;grind
   let ia:∀{M:Hp},aj H2 M->jn K M ys ((ks.M ax.m).M sE):=λ{M}J=>by
    rw[e1,<-eb,ck,ck];apply Wo λb U=>?_;let ui:b.2∈ks:=by rw[<-eb];exact z4 U
    refine .tup (bx.of (J _ _ (l1 b U (b.1,_) (iT.mpr Á)))) (.cons (.int _) (.cons (.lst (aa.of (J _ _ (O _ _ (Wn (nZ hk ui))))) (qO _)) .nil))
   let ef:(ks.M ax.m).J isSign=(ks.J λk=>isSign k.m).M ax.m:=by
    rw[wJ];rfl
   apply(_,Á,D,_,((ks.J λk=>isSign k.m).M ax.m).M xH,Á,aa.of (s2 _ _ hd),?_,?_,?_,λM J=>⟨_,Á,_,Á,?_⟩)
   .rw[ck];exact Wo λb U=>(.lst (aa.of (O _ _ (Wm (nZ hk ((iA.mp U).1))))) (qO _))
   .intro d hd;let(m,_,rfl):=bH.mp hd;exact shaped_ints _
   .grind
   .let q:=k;delta pZ at q;rw[ef] at q;refine a7 Î Î
    .rw[hc] at q;apply(_,Á,Z,_,(ks.M ax.m).M sE,Á,aa.of (J _ _ dg),ia J,λd hd=>?_,by simp_all,λH4 s4=>⟨_,rfl,q H4 ((O.R J).R s4)⟩);let(m,_,rfl):=bH.mp hd;exact ajC m
    .let hc:(!pY (((ks.J λk=>isSign k.m).M ax.m).M xH))=false:=by simpa using hc
     rw[hc,mJ] at q;exact q M (O.R J)
end
def hZ:dQ->Option aJ
 |[]=>some []
 |l::r=>match iY l,hZ r with
  |some m,some ms=>some (m::ms)
  |_,_=>none
theorem Wp{r:dQ}:∀{l:LI},l∈r->iY l=Β->hZ r=Β:=by
 induction r with
 |nil=>intro l h;cases h
 |cons x r j=>
  intro l h e;ext hZ;rcases a9.mp h with rfl|h
  .rw[e]
  .rw[j h e];cases iY x <;> rfl
theorem ajE{r:dQ}:∀{ms:aJ},ms.L=r.L->(∀(i:Nat)l m,r[i]? =Α l->ms[i]? =Α m->iY l=Α m)->hZ r=Α ms:=by
 induction r with
 |nil=>
  intro ms h _;cases ms with
  |nil=>rfl
  |cons _ _=>cases h
 |cons l r q=>
  intro ms h k;cases ms with
  |nil=>cases h
  |cons m ms=>
   ext hZ;rw[k 0 l m rfl rfl,q (ms:=ms) (À h) λi l m j h2=>k (i+1) l m j h2]
def A5(n:Option LI)(ks:Option aJ):Option (LI×aJ):=match n,ks with
 |some n,some ms=>if (oO ms&&pZ ms)=true then some (n,ms) else none
 |_,_=>none
def gO(j:LI):Option (LI×aJ):=match kI j with
 |some (l::r)=>A5 (fO (codes "locker") l) (hZ r)
 |_=>none
def DP:A5 n none=Β:=by cases n <;> rfl
def DQ:A5 none ks=Β:=by cases ks <;> rfl
def uj(CL CK:Addr)(l:vP):jq:=(l.a,.ins CL l.dx (He l))::(l.nm,.lst (iv l.name))::(l.kl,.lst (l.kinds.M λk=>V.ref k.a))::AZ CK l.kinds
inductive Wq(K:FR)(CL CK CN:Addr)(vs:az)(H:Hp)(Q:VK)(E:XK):Prop
 |mk (ap:Addr) (bZ:LI) (_:vs=[.ref ap]) (_:ä ap (iv bZ)) (_:bZ.L<=66000) (_:(∀x,gO bZ=Α x->∀H' l,aj H H'->l.name=x.1->l.kinds.M ax.m=x.2->aV H' Äb->l.kinds.L<=66000->Q (.ref l.a) H')) (_:(gO bZ=Β->No E CN H))
section
variable{P:Pg}{w:Wd}{K:FR}{mg:MG}{base:Heap}{CK CL CN N:Addr}
def DR:bG ["text","lines","name","kinds","line"] ["text"] (bc Mb):=cj
def ajF{f:Addr}{fd:FD}(F:bu K "read_locker" "read_locker" Mb f fd)(X:Ğ "NoLocker" CN N)(dW:Ç 2 "whole_lines" ["text"] (NX K)) (dN:Ç 4 "name_behind" ["title","line"] (NW K)) (dK:Ċ Ē 5 "read_kind" ["line"] (Oc K CK CN))(dO:Ç 2 ahZ ["kinds"] (Hm CK oO)) (dD:Ç 2 "are_different" ["kinds"] (Hm CK pZ)) (dL:Ā "Locker" CL ["name","kinds"]):
  a0 P w K mg base Ē 6 f fd ["text"] (Wq K CL CK CN):=by
 let(fK,fdK,GK,mK,kK,bK):=dK;refine F.qM DR Â;let(ap,z,rfl,hP,hl,k1,k2):=h;refine⟨_,aD (cg 1 DR.nd (bz dW õ))
  (aD (dm (PW.pt (pw_or (pI (rS á)) (pw_or1 (cy ť á Ĩ (bV _))))) Ý dX)
  (aD (cg 2 DR.nd (bz dN (ae FF Ş)))
  (aD (UY (i:=3) (own:=[("line",4)]) (g:=qD 4) (tt:=CU) (te:=g9 (Oc K CK CN) [] E (ba Ãt du)) rfl yN DR.nd rfl rfl Ï (dY (wX wZ á (wW bf) wV)) Ê
   (λ_ _ _ _ _=>c6 4 DR.nd) Ñ (λ_ _ _ _ _=>nI GK hr rfl mK kK bK .nil so ŝ))
  (aD (dm (PW.pt (pw_or Çd (pw_or (qC (ji (bz dO ĳ))) (pw_or1 (qC (ji (bz dD ĳ)))))))
   (Ý) dX)
  (aB (aX (pW dL hr (ae å ĳ)))))))),?_⟩
 apply(_,Á,ap,z,Á,hP,by af,λH1 v s1 W=>?_);let Oj:∀L,kI z=Α L->L.L<=66000/\∀w∈L,w.L<=100000:=λL e=>by
  delta kI at e;split at e
  .let e:=aU e;subst e;apply(?_,λw hw=>?_)
   .rw[aa9];let:=GT 10 z;omega
   .let:=yT 10 z w (B3 _ hw)
    af
  .symm
 let el:gO z=match kI z with
   |some (l::r)=>A5 (fO (codes "locker") l) (hZ r)
   |_=>none:=rfl
 cases ew:kI z with
 |none=>
  rw[ew] at W el;let W:=W;subst W;exact(_,Á,_,Á,lr (gf ((k2 el).go s1)))
 |some L=>
  let(hL1,nY):=Oj L ew;rw[ew] at W el;let(p,qs,rfl,l6,hp,qZ,fr):=W;apply(_,Á,_,Á,oH ⟨_,Á,dj _,λO n1=>?_⟩);let s2:=aI (o:=.lst []) n1;let oK:=s2 _ _ hp;let Ol:=qZ.E s2;let fC:=s1.R s2;let Gy:(upd H1 O ã) O=Α ã:=au;generalize upd H1 O ã=H2 at s2 oK Ol fC Gy;refine⟨p,O,_,Á,Á,aa.of oK,aa.of Gy,_,Á,a7 Î Î⟩
  .let hq:qs=[]:=by
    symm
   subst hq;cases Ol;exact gf ((k2 el).go fC)
  .cases Ol with
   |nil=>symm
   | @cons q l qs r hq wB=>
    let wB:eV H2 qs r:=wB;let el:gO z=A5 (fO (codes "locker") l) (hZ r):=el;let oN:r.L<=66000:=by simp only[dh] at hL1;af
    let uk:=wB.len;apply⟨_,Á,p,_,0,V.ref q,Á,Á,aa.of oK,f7 (j:=0) Á,"locker",q,l,Á,by decide,aa.of hq,nY l Ä,λH3 vn s3 U=>?_⟩;let lF:=fC.R s3;apply(_,Á,_,Á,p,_,Á,aa.of (s3 _ _ oK),λc hc=>?_);rw[show pO ((q::qs).M V.ref) (some 1) none=qs.M V.ref from(DN _ (i:=1) Ä).R rfl];let s4:=aI (o:=.lst Äu) hc;let jM:(upd H3 c Ĕ) c=Α Ĕ:=au;generalize upd H3 c Ĕ=H4 at s4 jM;let mh:=lF.R s4;let ajH:=wB.E (s3.R s4);refine⟨c,Á,⟨_,aa.of jM⟩,λD hD=>fW (K:=K) (a:=c) (xs:=qs.M V.ref) (cz H4 D λi y ns=>∃b:ax,(∀l,r[i]? =Α l->iY l=Α b.m)/\y=.ref b.a/\ns=lI CK b) Ď
     (λi H5 _ f=>aa.of (f.E _ _ jM)) (λi y H5 hi f=>?_) (λH5 f=>?_)⟩
    .rw[bA] at hi;cases eq:qs[i]? with
     |none=>symm
     |some qi=>
      rw[eq] at hi;let ey:=aU hi;subst ey;let dq:=(bp.mp eq).1;let(q',_,M,h'):=ajH.at (j:=i) Å;rw[bA,eq] at M;let M:=aU M;injection M with M;subst M;let r6:r[i]? =Α (r.D i []):=by
       symm
      let n0:=bo r6;apply(Á,eK ⟨_,Á,qi,r.D i [],Á,aa.of (f.E _ _ h'),nY _ (aL _ n0),λm em H6 kd J ek hkd qI=>?_,λen=>?_⟩)
      .apply f.step hD Ù J ⟨kd,λl hl=>?_,Á,Á⟩ hkd λx hx e=>f.has (by grind);symm
      .exact(k2 (by rw[el,Wp n0 en,DP])).go (mh.R f.E)
    .let(ys,s5,um,Wr,fl):=f.end;rw[ao] at Wr;let(ks,O,r1,l1):=y8 (v:=λb:ax=>V.ref b.a) (nd:=lI CK) (R:=λi b=>∀l,r[i]? =Α l->iY l=Α b.m) fl;subst O;rw[ao] at Wr;let Om:hZ r=Α Ì:=ajE Å λi l m h1 h2=>by
      grind
     rw[Om] at el;let ug:=mh.R s5;let On:=ajz l1;cases en:fO (codes "locker") l with
     |none=>
      rw[en,DQ] at el;rw[en] at U;let U:=U;subst U;exact(_,Á,_,Á,lr (gf ((k2 el).go ug)))
     |some nm=>
      rw[en] at U el;let(an,rfl,Ho,nH):=U;let el:gO z=if (oO Ì &&pZ Ì)=true then some (nm,ks.M ax.m) else none:=el;apply(_,Á,_,Á,oH ⟨_,Á,D,ks,Á,um,On,by af,λH6 J=>⟨_,rfl,a7 (λY=>?_) (λY=>?_)⟩⟩)
      .simp at Y;rw[Y,mJ,ah Ð] at el;exact gf ((k2 el).go (ug.R J))
      .simp at Y;refine⟨_,Á,D,ks,Á,J _ _ um,On.E J,by omega,λH7 s7=>⟨_,rfl,a7 ģ ģ⟩⟩
       .simp at hd;rw[hd,zW,ah Ð] at el;exact gf ((k2 el).go ((ug.R J).R s7))
       .simp at hd;rw[Y,hd,JL,ai rfl] at el;let Z:=J.R s7;apply(_,Á,_,Á,xF Á λx dx H8 hx gV aN e8 s8=>?_);refine k1 _ el H8 ⟨x,dx,an,D,nm,ks⟩ ((ug.R Z).R s8) Á Á Âm Å;simp only[uj,a9] at hy;rcases hy with rfl|rfl|rfl|hy
        .exact e8
        .exact s8 _ _ (Z _ _ (s5 _ _ (s4 _ _ nH)))
        .exact s8 _ _ (Z _ _ um)
        .exact(On.E (Z.R s8)) y hy
end
end HD
namespace HD
open PySem PySem.Spec PyProof.Rows L2
def getD_map{α β:Type}{f:α->β}{l:List α}{i:Nat}{a:α}{d:β}(h:l[i]? =Α a):(l.M f).D i d=f a:=by
 symm
def getD_at{α:Type}{l:List α}{i:Nat}{a d:α}(h:l[i]? =Α a):l.D i d=a:=by
 symm
def gh(look:LI):Prop:=look.L=16/\∀x∈look,0<=x/\x<16
def getD_mem{l:LI}{i:Nat}(h:i<l.L):l.D i 0∈l:=by
 symm
def ajJ{signs part l:LI}(h:kG signs part=Α l):l.L=part.L/\∀x∈l,0<=x/\x<signs.L:=by
 delta kG at h;grind
def ajK(h:iY line=Α m):m.shape<3/\gh m.look:=by
 delta iY pX at h;split at h
 .cases h
 .rename_i r O;by_cases F:(JM.aO 32 line).L=(if r=2 then 4 else 5)
  .rw[ai F] at h;generalize nc r _=j at h;generalize sC r _=q at h;generalize iM _ 8=z at h;cases e4:bW Ć ((JM.aO 32 line).D ((JM.aO 32 line).L-2) []) with
   |none=>rw[e4,Hh] at h;cases h
   |some sh=>
    rw[e4] at h;cases e5:iG ((JM.aO 32 line).D ((JM.aO 32 line).L-1) []) with
    |none=>rw[e5,Hi] at h;cases h
    |some lk=>
     rw[e5] at h
     match j,q,z,h with
     |some n,some w,some c,h=>
      let:=aU h;subst this;apply(A0 e4,?_);delta iG at e5;split at e5
      .rename_i M;let(J,p2):=ajJ e5;exact(J.R M,p2)
      .cases e5
  .symm
end HD
namespace HD
open PySem JM
def DS{p:Int->Bool}(h:((List.range 256).all λn=>p ((n:Nat):Int))=true)(j:0<=x/\x<=255):p x=true:=by
 let:=jI.mp h x.toNat (u9.mpr Ù);grind
def eqB(j:br a)(q:br ũ)(e:(codes x).M B=Flags.ascii s):(a.M B=Flags.ascii s)↔a=codes x:=by
 rw[<-e];exact(λz=>xu j q z,λz=>by rw[z])
def vS(h:(codes x).all (λx=>decide (0<=x)&&decide (x<=255))=true):br ũ:=GQ h
def hexVal(h:0<=x/\x<=255):Flags.hexValue (B x)=if ml.Y x=true then some (ml.idxOf x) else none:=by
 let:=DS (p:=λx=>decide (Flags.hexValue (B x)=if ml.Y x=true then some (ml.idxOf x) else none)) É h;symm
def ajL(h:0<=x/\x<=255):Flags.isSign (B x)=(codes AY).Y x:=by
 let:=DS (p:=λx=>decide (Flags.isSign (B x)=(codes AY).Y x)) É h;symm
theorem ajM{l:LI}:br l->(l.M B).mapM Flags.hexValue=if l.all Ãy=true then some (l.M λb=>ml.idxOf b) else none:=by
 induction l with
 |nil=>exact @λ_=>Á
 |cons x r q=>
  intro h;let q:=q λz hz=>h z (aL _ hz);rw[a8,JO,hexVal (h x eP),q,tu];by_cases j:ml.Y x=true
  .rw[ai j,j,nu];by_cases h2:r.all Ãy=true
   .rw[ai h2,ai h2];rfl
   .rw[ah h2,ah h2];rfl
  .rw[ah j];let j:ml.Y x=false:=by simpa using j
   rw[j,mJ,ah eO];rfl
def c8(l:LI):Nat:=Flags.lookOf λi=>(l.D i 0).toNat
def Ws{l:LI}(h:br l):Flags.lookIn Ľ=(iG l).M c8:=by
 ext Flags.lookIn iG;rw[ao];by_cases e:l.L=16
 .rw[ah (λq=>q e),ai e,ajM h];ext kG;by_cases h2:l.all Ãy=true
  .rw[ai h2,ai h2];apply cb (λf=>some (Flags.lookOf f)) (funext λi=>?_);rw[ik,ik,bA,bA];cases l[i]? with
   |none=>rfl
   |some x=>rfl
  .rw[ah h2,ah h2];rfl
 .rw[ai e,ah e];rfl
def Hr(h:br l):Flags.isName Ľ=iX l:=by
 ext Flags.isName iX;rw[ao,rJ,show l.all (Flags.isSign∘B)=l.all λb=>(codes AY).Y b from LO h λx j=>ajL j]
theorem digit_eq(h:br l)(M:Nat):Flags.digitOf M Ľ=(iM l (M:Int)).M Int.toNat:=by
 ext Flags.digitOf iM
 match l,h with
 |[],_=>rfl
 |[d],h=>
  let hd:=h d eP;show(if 49<=(B d).toNat/\(B d).toNat<=48+M then some ((B d).toNat-48) else none)=Option.map Int.toNat (if d<49\/d>48+(M:Int) then none else some (d-48));rw[LM hd];by_cases c:d<49\/d>48+(M:Int)
  .rw[ai c,ah Ù];rfl
  .rw[ah c,ai Å];congr 1;grind
 |a::b::r,_=>rfl
def Wt(a b c w:LI):bW [a,b,c] w=if a=w then some 0 else if b=w then some 1 else if c=w then some 2 else none:=by
 ext bW;grind
def ajN(h:br w):Flags.shapeOf Ĳ=bW Ć w:=by
 ext Flags.shapeOf;show _=bW [codes "square",codes "tails",codes "long"] w;rw[Wt];let j:=eqB (a:=w) (x:="square") (s:="square") h Æy É;let q:=eqB (a:=w) (x:="tails") (s:="tails") h Æy É;let z:=eqB (a:=w) (x:="long") (s:="long") h Æy É;grind
def rg(m:ir):Flags.Role:=if m.role=0 then .sign (m.name.M B) else if m.role=1 then .same m.lH.toNat else .answer
def bO(m:ir):Flags.Kind:=⟨rg m,m.copies.toNat,m.shape,c8 m.look⟩
def Oo(hc:br c)(hs:br s)(j:br l)(R:Flags.Role)(q:∀a b d,rg ⟨r,n,wh,a,b,d⟩=R):
  Flags.kindOf R Æp (s.M B) Ľ=(sD r (some n) (some wh) (iM c 8) (bW Ć s) (iG l)).M bO:=by
 ext Flags.kindOf;rw[show Flags.digitOf 8 Æp=(iM c 8).M Int.toNat from digit_eq hc 8,ajN hs,Ws j];cases e1:iM c 8 with
 |none=>rfl
 |some a=>
  cases e2:bW Ć s with
  |none=>rfl
  |some b=>
   cases e3:iG l with
   |none=>rfl
   |some d=>
    show some _=Α (bO ⟨r,n,wh,a,b,d⟩);ext bO;symm
def ajO{line:LI}(h:br line):Flags.kindIn (line.M B)=(iY line).M bO:=by
 ext Flags.kindIn iY;rw[show Flags.cutAt 32 (line.M B)=(aO 32 line).M ë from yS 32 Ð line h];let q:=qT 32 (l:=line) h;generalize aO 32 line=ws at q;let rm:∀w:LI,bW Ϛ w=if codes "sign"=w then some 0 else if codes "same"=w then some 1 else if codes "answer"=w then some 2 else none:=λw=>Wt _ _ _ w;let d1:¬codes "sign"=codes "same":=by decide+kernel
 let d2:¬codes "sign"=codes "answer":=by decide+kernel
 let d3:¬codes "same"=codes "answer":=by decide+kernel
 let short:∀v:dQ,v.L≠4->v.L≠5->pX v=Β:=λv h4 h5=>by
  ext pX;split
  .rfl
  .rename_i r _;rw[ah];by_cases z:r=2
   .rw[ai z];exact h4
   .rw[ah z];exact h5
 match ws,q with
 |[],_=>rw[short [] Ð Ð];rfl
 |[a],_=>rw[short [a] Ä Ä];rfl
 |[a,b],_=>rw[short [a,b] Ä Ä];rfl
 |[a,b,c],_=>rw[short [a,b,c] Ä Ä];rfl
 |[a,c,s,l],q=>
  let U:=q a Ä;let ea:=eqB (a:=a) (x:="answer") (s:="answer") U Æy É;show(if a.M B=Flags.ascii "answer" then Flags.kindOf .answer Æp (s.M B) Ľ else none)=_;let Y:pX [a,c,s,l]=if codes "answer"=a then sD 2 (some []) (some 0) (iM c 8) (bW Ć s) (iG l) else none:=by
   ext pX;rw[show([a,c,s,l]:dQ).D 0 []=a from rfl,rm a];by_cases F:codes "sign"=a
   .rw[ai F,ah (λz=>d2 (F.R z.symm))];rfl
   .rw[ah F];by_cases J:codes "same"=a
    .rw[ai J,ah (λz=>d3 (J.R z.symm))];rfl
    .rw[ah J];by_cases M:codes "answer"=a
     .rw[ai M,ai M];rfl
     .rw[ah M,ah M]
  rw[Y];by_cases M:a=codes "answer"
  .rw[ai (ea.mpr M),ai M.symm];exact Oo (q c Ä) (q s Ä) (q l Ä) .answer λ_ _ _=>Á
  .rw[ah (λz=>M (ea.mp z)),ah (λz:codes "answer"=a=>M z.symm)];rfl
 |[a,n,c,s,l],q=>
  let U:=q a Ä;let hn:=q n Ä;let Z:=eqB (a:=a) (x:="sign") (s:="sign") U Æy É;let W:=eqB (a:=a) (x:="same") (s:="same") U Æy É;show(if a.M B=Flags.ascii "sign"/\Flags.isName Ég=true then Flags.kindOf (.sign Ég) Æp (s.M B) Ľ else if a.M B=Flags.ascii "same" then (Flags.digitOf 4 Ég).bind (λ(j:Nat)=>Flags.kindOf (.same j) Æp (s.M B) Ľ) else none)=_;let Y:pX [a,n,c,s,l]=if codes "sign"=a then sD 0 (nc 0 n) (some 0) (iM c 8) (bW Ć s) (iG l) else if codes "same"=a then sD 1 (some []) (iM n 4) (iM c 8) (bW Ć s) (iG l) else none:=by
   ext pX;rw[show([a,n,c,s,l]:dQ).D 0 []=a from rfl,rm a];by_cases F:codes "sign"=a
   .rw[ai F,ai F];rfl
   .rw[ah F,ah F];by_cases J:codes "same"=a
    .rw[ai J,ai J];rfl
    .rw[ah J,ah J];by_cases M:codes "answer"=a
     .rw[ai M];rfl
     .rw[ah M]
  rw[Y,Hr hn];by_cases F:a=codes "sign"
  .rw[ai F.symm];by_cases O:iX n=true
   .rw[ai ⟨Z.mpr F,O⟩,show nc 0 n=Α n by ext nc;rw[ai rfl,ai O]];exact Oo (q c Ä) (q s Ä) (q l Ä) (.sign Ég) λ_ _ _=>Á
   .rw[ah (λz=>O z.2),ah (λz=>d1 (F.symm.R (W.mp z))),show nc 0 n=Β by ext nc;rw[ai rfl,ah O],Hf];rfl
  .rw[ah (λz:_/\_=>F (Z.mp z.1)),ah (λz:codes "sign"=a=>F z.symm)];by_cases J:a=codes "same"
   .rw[ai (W.mpr J),ai J.symm,show Flags.digitOf 4 Ég=(iM n 4).M Int.toNat from digit_eq hn 4];cases e:iM n 4 with
    |none=>rw[Hg];rfl
    |some j=>
     exact Oo (q c Ä) (q s Ä) (q l Ä) (.same j.toNat) λ_ _ _=>Á
   .rw[ah (λz=>J (W.mp z)),ah (λz:codes "same"=a=>J z.symm)];rfl
 |a::b::c::d::e::g::r,_=>rw[short _ Ä Ä];rfl
def oP:LN->Nat
 |[]=>0
 |d::r=>d%16+16*oP r
theorem ajP(x:Nat):∀l:LN,oP (l++[x])=oP l+16^l.L*(x%16):=by
 intro l;induction l with
 |nil=>
  simp[oP]
 |cons d r j=>
  show d%16+16*oP (r++[x])=d%16+16*oP r+16^(r.L+1)*(x%16);rw[j,Nat.mul_add,z5,<-Nat.mul_assoc,Nat.mul_comm 16 (16^r.L)]
  af
theorem ajQ(f:Nat->Nat):∀n,((List.range n).M λi=>f i%16*16^i).sum=oP ((List.range n).M f):=by
 intro n;induction n with
 |zero=>exact Á
 |succ n j=>
  rw[JR,bI,bI,Fu,j];show _+(f n%16*16^n+0)=oP (_++[f n]);rw[ajP,ao,il,Nat.mul_comm (16^n)];rfl
theorem Wu:∀(i:Nat)(l:LN),oP l/16^i%16=l.D i 0%16
 |i,[]=>by simp[oP]
 |0,d::r=>by
  show(d%16+16*oP r)/16^0%16=d%16;rw[Nat.pow_zero,Nat.div_one];symm
 |i+1,d::r=>by
  show(d%16+16*oP r)/16^(i+1)%16=r.D i 0%16;rw[Nat.pow_succ',<-Nat.div_div_eq_div_mul,show(d%16+16*oP r)/16=oP r by af];exact Wu i r
def DT(f:Nat->Nat)(h:i<16):Flags.cell (Flags.lookOf f) i=f i%16:=by
 ext Flags.cell Flags.lookOf;rw[ajQ,Wu,ik,bA,RX h];rfl
def DU(h:gh l)(hi:i<16):Flags.cell (c8 l) i=(l.D i 0).toNat:=by
 ext c8;rw[DT _ hi];let(j,q):=h.2 _ (getD_mem (l:=l) (i:=i) (by rw[h.1];exact hi));symm
def ajR{a b:LI}(j:gh a)(q:gh b)(e:c8 a=c8 b):a=b:=by
 apply ym;intro i;by_cases hi:i<16
 .let z:=DU j hi;let h2:=DU q hi;rw[e,h2] at z;let ga:=j.2 _ (getD_mem (l:=a) (i:=i) (by rw[j.1];exact hi));let F:=q.2 _ (getD_mem (l:=b) (i:=i) (by rw[q.1];exact hi));let:a.D i 0=b.D i 0:=by grind
  rw[ik,ik,cJ (by rw[j.1];exact hi),cJ (by rw[q.1];exact hi)] at this;rw[cJ (by rw[j.1];exact hi),cJ (by rw[q.1];exact hi)];exact cb some this
 .rw[yl (by rw[j.1];symm),yl (by rw[q.1];omega)]
structure Kv(m:ir):Prop where
 role:m.role<3
 Wv:m.role≠1->m.lH=0
 DV:m.role=1->1<=m.lH/\m.lH<=4
 nm:br m.name
 lk:gh m.look
 sh:m.shape<3
 cp:1<=m.copies/\m.copies<=8
def Ww(h:iM w most=Α d):1<=d/\d<=most:=by
 delta iM at h;grind
def Wx{line:LI}(U:br line){m:ir}(h:iY line=Α m):Kv m:=by
 let(M,W):=ajK h;delta iY pX at h;let F:=qT 32 (l:=line) U;generalize aO 32 line=ws at h F;split at h
 .cases h
 .rename_i r O;let hr:r<3:=A0 O;by_cases J:ws.L=(if r=2 then 4 else 5)
  .rw[ai J] at h;let j:br Ŗ:=by
    rw[ik];cases e:ws[1]? with
    |none=>exact λx q=>absurd q Ä
    |some w=>exact F w (bo e)
   cases e1:nc r Ŗ with
   |none=>rw[e1,Hf] at h;cases h
   |some n=>
    cases e2:sC r Ŗ with
    |none=>rw[e2,Hg] at h;cases h
    |some Y=>
     cases e3:iM (ws.D (ws.L-3) []) 8 with
     |none=>rw[e3,Ob] at h;cases h
     |some c=>
      cases e4:bW Ć (ws.D (ws.L-2) []) with
      |none=>rw[e4,Hh] at h;cases h
      |some sh=>
       cases e5:iG (ws.D (ws.L-1) []) with
       |none=>rw[e5,Hi] at h;cases h
       |some lk=>
        rw[e1,e2,e3,e4,e5] at h;let:=aU h;subst this;apply(hr,λz=>?_,λz=>?_,?_,W,M,Ww e3)
        .delta sC at e2;rw[ah z] at e2;exact(aU e2).symm
        .delta sC at e2;rw[ai z] at e2;exact Ww e2
        .delta nc at e1;split at e1
         .split at e1
          .rw[<-aU e1];exact j
          .cases e1
         .rw[<-aU e1];exact λx q=>absurd q Ä
  .rw[ah J] at h;cases h
theorem Oq{r:dQ}:∀{ms:aJ},(∀l∈r,br l)->hZ r=Α ms->∀m∈ms,Kv m:=by
 induction r with
 |nil=>
  intro ms _ h m j;let:=aU h;subst this;exact absurd j Ä
 |cons l r F=>
  intro ms q h m j;delta hZ at h;cases e1:iY l with
  |none=>rw[e1] at h;cases hZ r <;> cases h
  |some k=>
   rw[e1] at h;cases e2:hZ r with
   |none=>rw[e2] at h;cases h
   |some ks=>
    rw[e2] at h;let:=aU h;subst this;rcases a9.mp j with rfl|j
    .exact Wx (q l Ä) e1
    .exact F (λz hz=>q z (aL _ hz)) e2 m j
def uo(kp:Kv p)(kx:Kv x)(h:x.role=0):iZ p x=true↔p.role=0:=by
 ext iZ;by_cases c:p.role=0/\x.role=0
 .symm
 .rw[ah c,HT.vz];symm
def xI(kp:Kv p)(kx:Kv x)(h:x.role=1):iZ p x=true↔p.role=0\/(p.role=1/\p.lH<x.lH):=by
 ext iZ;rw[ah (λz=>by simp_all),HT.vz];by_cases c:((p.role:Nat):Int)=((x.role:Nat):Int)
 .rw[ai c,HT.vz];by_cases d:p.lH=x.lH
  .rw[ai d];constructor
   .intro z;cases z
   .af
  .af
 .grind
def Hs{p x:ir}(kp:Kv p)(kx:Kv x)(h:x.role=2):iZ p x=true↔ ¬p.role=2:=by
 ext iZ;let j:=kx.Wv Å;rw[ah (λz=>by simp_all),HT.vz];by_cases c:((p.role:Nat):Int)=((x.role:Nat):Int)
 .let h2:=kp.Wv Ù;rw[ai c,HT.vz,ai (by rw[j,h2])];constructor
  .intro z;cases z
  .intro z;af
 .rw[ah c,lZ];let:=kp.role
  af
def ajT{a b c:ir}(F:Kv a)(z:Kv b)(kc:Kv c)(j:iZ a b=true)(h2:iZ b c=true):iZ a c=true:=by
 let U:=z.role;let hc:=kc.role;let J:b.role=0\/b.role=1\/b.role=2:=by af
 let q:c.role=0\/c.role=1\/c.role=2:=by af
 rcases q with q|q|q
 .rw[uo z kc q] at h2;rw[uo F z h2] at j;rw[uo F kc q];exact j
 .rw[xI z kc q] at h2;rw[xI F kc q];rcases h2 with h2|⟨h2,M⟩
  .rw[uo F z h2] at j;exact .inl j
  .rw[xI F z h2] at j;rcases j with j|⟨j,O⟩
   .exact .inl j
   .exact .inr ⟨j,by af⟩
 .rw[Hs z kc q] at h2;rw[Hs F kc q];rcases J with J|J|J
  .rw[uo F z J] at j;symm
  .rw[xI F z J] at j
   af
  .exact absurd J h2
theorem Os:∀{ms:aJ},(∀m∈ms,Kv m)->(((ms.zip (ms.drop 1)).all λp=>iZ p.1 p.2)=true↔ms.Pairwise λp x=>iZ p x=true)
 |[],_=>by simp
 |[a],_=>by simp
 |a::b::r,h=>by
  let J:=Os (ms:=b::r) λm F=>h m (aL _ F);let z:(a::b::r).zip ((a::b::r).drop 1)=(a,b)::(b::r).zip ((b::r).drop 1):=rfl;rw[z,tu,jH,J,JS (a:=a)];constructor
  .rintro⟨j,h2⟩;apply(λy q=>?_,h2);rcases a9.mp q with rfl|q
   .exact j
   .exact ajT (h a Ä) (h b Ä) (h y (by simp[q])) j ((JS.mp h2).1 y q)
  .rintro⟨j,h2⟩;exact(j b Ä,h2)
theorem pw_place{α:Type}{R:α->α->Prop}{l:List α}:l.Pairwise R↔ ∀(i:Nat)x,l[i]? =Α x->∀p∈l.take i,R p x:=by
 induction l with
 |nil=>
  simp
 |cons a r F=>
  rw[JS,F];constructor
  .rintro⟨z,h2⟩ i x q p j;cases i with
   |zero=>simp at j
   |succ i=>
    rw[RU] at j;rcases a9.mp j with rfl|j
    .exact z x (bo q)
    .exact h2 i x q p j
  .intro h;apply(λx q=>?_,λi x q p j=>h (i+1) x q p (by rw[RU];exact aL _ j));let(i,hi,e):=nt q;exact h (i+1) x (by show r[i]? =Α x;rw[cJ hi,e]) a (by rw[RU];simp)
def Ot{j:List PyData}:pY j=false↔j.Pairwise λd e=>PyData.eqv d e=false:=by
 rw[pw_place];ext pY;rw[List.any_eq_false];constructor
 .intro h i x q p z;let hi:=(bp.mp q).1;let:=h i (u9.mpr hi);delta y4 at this;symm
 .intro h i hi;let hi:=u9.mp hi;obtain⟨x,q⟩:∃x,j[i]? =Α x:=⟨_,cJ hi⟩;let:=h i x q;ext y4;symm
def Ou(a b:ir):PyData.eqv (xH a) (xH b)=decide (a.name=b.name):=L2.xo _ _
def Wy(a b:ir):PyData.eqv (sE a) (sE b)=(decide (a.shape=b.shape)&&decide (a.look=b.look)):=by
 ext sE;simp only[PyData.eqv,PyData.eqvAll,L2.xo,RY];grind
def Wz(p x:ir):Prop:=p.role=0/\x.role=0/\p.name=x.name
def Ht(p x:ir):Prop:=p.shape=x.shape/\p.look=x.look
def y9(ps:aJ)(x:ir):Prop:=(∀p∈ps,iZ p x=true/\¬Wz p x/\¬Ht p x)/\(x.role=0->ps.L<48)
def four{A B C D:Bool}{w x y z:Nat}:(if A=true then some w else if B=true then some x else if C=true then some y else if D=true then some z else none)=Β↔A=false/\B=false/\C=false/\D=false:=by
 grind
def za(m:ir):(bO m).isSign=decide (m.role=0):=by
 ext bO Flags.Kind.isSign rg;grind
def zb(h:m.role=0):(bO m).role=.sign (m.name.M B):=by show rg m=_;ext rg;rw[ai h]
def A6(h:m.role=1):(bO m).role=.same m.lH.toNat:=by show rg m=_;ext rg;rw[ah Å,ai h]
def Hu(k:Kv m)(h:m.role=2):(bO m).role=.answer:=by show rg m=_;ext rg;rw[ah Å,ah Å]
def A7{ps:aJ}{f:Flags.Kind->Bool}:((ps.M bO).any f=false)↔ ∀p∈ps,f (bO p)=false:=by
 simp
def A8(kp:Kv p)(kx:Kv x):((bO p).shape==(bO x).shape&&(bO p).look==(bO x).look)=false↔ ¬Ht p x:=by
 show(p.shape==x.shape&&c8 p.look==c8 x.look)=false↔_;ext Ht;by_cases h:p.shape=x.shape
 .by_cases h2:p.look=x.look
  .symm
  .let j:=λz=>h2 (ajR kp.lk kx.lk z);symm
 .simp[h]
def WA{ps:aJ}{x:ir}(kp:∀p∈ps,Kv p)(kx:Kv x):Flags.wrongBehind (ps.M bO) (bO x)=Β↔y9 ps x:=by
 ext Flags.wrongBehind;rw[four,A7];let hr:=kx.role;let j:x.role=0\/x.role=1\/x.role=2:=by af
 rcases j with j|j|j
 .rw[zb j,za,A7,A7,ao,eQ j,nu];ext y9;constructor
  .rintro⟨q,h2,M,J⟩;apply(λp hp=>⟨?_,λz=>?_,(A8 Ŏ kx).mp (J p hp)⟩,λ_=>?_)
   .rw[uo Ŏ kx j];let:=q p hp;rw[za] at this;symm
   .let:=h2 p hp;rw[zb z.1,z.2.2] at this;symm
   .let:¬Flags.SIGNS<=ps.L:=by simpa using M
    let e:Flags.SIGNS=48:=rfl;symm
  .rintro⟨q,h2⟩;apply(λp hp=>?_,λp hp=>?_,?_,λp hp=>(A8 Ŏ kx).mpr (q p hp).2.2)
   .let:=(uo Ŏ kx j).mp (q p hp).1;rw[za,this];rfl
   .let O:=(uo Ŏ kx j).mp (q p hp).1;rw[zb O];let U:=(q p hp).2.1;rw[yj];intro z;injection z with z;exact U ⟨O,j,xu (kp p hp).nm kx.nm z⟩
   .let:=h2 j;let e:Flags.SIGNS=48:=rfl;symm
 .rw[A6 j,za,A7,A7,gD (by omega),mJ];ext y9;let W:=kx.DV j;constructor
  .rintro⟨q,h2,M,J⟩;apply(λp hp=>⟨?_,λz=>?_,(A8 Ŏ kx).mp (J p hp)⟩,λz=>?_)
   .rw[xI Ŏ kx j];let qB:=(kp p hp).role;let F:p.role=0\/p.role=1\/p.role=2:=by af
    rcases F with F|F|F
    .exact .inl F
    .apply .inr ⟨F,?_⟩;let:=h2 p hp;rw[A6 F] at this;let:=atV this;let:=(kp p hp).DV F
     af
    .let:=q p hp;rw[Hu Ŏ F] at this;simp at this
   .let:=z.2.1
    af
   .omega
  .rintro⟨q,h2⟩;apply(λp hp=>?_,λp hp=>?_,Á,λp hp=>(A8 Ŏ kx).mpr (q p hp).2.2)
   .rcases(xI Ŏ kx j).mp (q p hp).1 with z|z
    .rw[zb z];rfl
    .rw[A6 z.1];rfl
   .rcases(xI Ŏ kx j).mp (q p hp).1 with z|z
    .rw[zb z]
    .rw[A6 z.1];let:=(kp p hp).DV z.1;exact gD (by grind)
 .rw[Hu kx j,za,A7,gD (by omega:¬x.role=0),mJ];ext y9;constructor
  .rintro⟨q,h2,M,J⟩;apply(λp hp=>⟨?_,λz=>?_,(A8 Ŏ kx).mp (J p hp)⟩,λz=>?_)
   .rw[Hs Ŏ kx j];intro F;let:=q p hp;rw[Hu Ŏ F] at this;simp at this
   .let:=z.2.1
    af
   .omega
  .rintro⟨q,h2⟩;apply(λp hp=>?_,Á,Á,λp hp=>(A8 Ŏ kx).mpr (q p hp).2.2);let z:=(Hs Ŏ kx j).mp (q p hp).1;let qB:=(kp p hp).role;let F:p.role=0\/p.role=1:=by af
   rcases F with F|F
   .rw[zb F];rfl
   .rw[A6 F];rfl
def zc:aJ->aJ->Prop
 |_,[]=>True
 |past,x::r=>y9 past x/\zc (past++[x]) r
def zd(ms:aJ):Prop:=∃m∈ms,m.role=0
def WB:((ms.M bO).all λ(k:Flags.Kind)=>!k.isSign)=true↔ ¬zd ms:=by
 rw[rJ,jI];ext zd;constructor
 .rintro h ⟨m,j,e⟩;let:=h m j;simp only[abp,za,e] at this;symm
 .intro h m j;let:¬m.role=0:=λe=>h ⟨m,j,e⟩;simp only[abp,za];symm
def ajU(j:aJ)(ls:dQ)(z:LI):Prop:=z=[]/\∃ms,hZ ls=Α ms/\zc j ms/\zd (j++ms)
def ajV(ls:dQ):∀(z:LI)(i:Nat)(past:aJ),(∀l∈ls,br l)->(∀p∈past,Kv p)->
  (∀ms,z=[]->hZ ls=Α ms->zc past ms->zd (past++ms)->Flags.judgeLines i ō ((ls++[z]).M ë)=.ok ((past++ms).M bO))/\(¬ajU past ls z->∃e,Flags.judgeLines i ō ((ls++[z]).M ë)=.error e):=by
 induction ls with
 |nil=>
  intro z i past _ kp;let e:Flags.judgeLines i ō (([]++[z]:dQ).M ë)=if z.M B≠[]\/((past.M bO).all λ(k:Flags.Kind)=>!k.isSign)=true then .error (1,i) else .ok ō:=rfl;rw[e];constructor
  .intro ms hz hk _ hs;let:=aU hk;subst this;rw[jG] at hs⊢;rw[ah];rintro (h|h)
   .exact h (by rw[hz];rfl)
   .exact(WB.mp h) hs
  .intro h;rw[ai]
   .exact(_,Á)
   .by_cases hz:z=[]
    .right;rw[WB];intro hs;exact h ⟨hz,[],Á,trivial,by rw[jG];exact hs⟩
    .left;intro q;exact hz (RZ.mp q)
 |cons w r ih=>
  intro z i past M kp;obtain⟨y,Z,er⟩:∃y Z,(r++[z]).M ë=y::Z:=by
   cases r with
   |nil=>exact(_,_,Á)
   |cons a b=>exact(_,_,Á)
  let e:Flags.judgeLines i ō (((w::r)++[z]).M ë)=match Flags.kindIn Ĳ with
    |none=>.error (1,i)
    |some x=>match Flags.wrongBehind ō x with
     |some e=>.error (e,i)
     |none=>Flags.judgeLines (i+1) (past.M bO++[x]) ((r++[z]).M ë):=by
   show Flags.judgeLines i ō (w.M B::(r++[z]).M ë)=_;rw[er];rfl
  rw[e,ajO (M w Ä)];let vT:=λl hl=>M l (aL _ hl);cases ek:iY w with
  |none=>
   apply(λms _ hk=>?_,λ_=>⟨_,Á⟩);rw[Wp (l:=w) Ä ek] at hk;cases hk
  |some x=>
   let kx:=Wx (M w Ä) ek;let O:∀p∈past++[x],Kv p:=λp F=>by
    rcases fw.mp F with F|F
    .exact kp p F
    .rw[iT.mp F];exact kx
   let(W,Y):=ih z (i+1) (past++[x]) vT O;rw[bI] at W Y;let Om:∀ms,hZ (w::r)=Α ms->∃j,hZ r=Α j/\ms=x::j:=λms hk=>by
    delta hZ at hk;rw[ek] at hk;cases e2:hZ r with
    |none=>rw[e2] at hk;cases hk
    |some ks=>
     rw[e2] at hk;exact(ks,Á,(aU hk).symm)
   show(∀ms,z=[]->_->_->_->(match Flags.wrongBehind ō (bO x) with
     |some e=>.error (e,i)
     |none=>Flags.judgeLines (i+1) (past.M bO++[bO x]) ((r++[z]).M ë):Except Flags.Fault (List Flags.Kind))=_)/\(_->∃e,(match Flags.wrongBehind ō (bO x) with
     |some e=>.error (e,i)
     |none=>Flags.judgeLines (i+1) (past.M bO++[bO x]) ((r++[z]).M ë):Except Flags.Fault (List Flags.Kind))=_)
   constructor
   .intro ms hz hk hs J;let(j,U,rfl):=Om ms hk;rw[(WA kp kx).mpr hs.1];let:=W j hz U hs.2 (by rw[rK];exact J);apply this.R ?_;rw[rK];rfl
   .intro h;cases ew:Flags.wrongBehind ō (bO x) with
    |some e=>exact(_,Á)
    |none=>
     apply Y λg=>h ?_;let(hz,j,U,mX,J):=g;apply(hz,x::j,?_,⟨(WA kp kx).mp ew,mX⟩,by rw[rK] at J;exact J);ext hZ;rw[ek,U]
theorem ajX:∀{ms j:aJ},zc j ms↔ ∀(i:Nat)x,ms[i]? =Α x->y9 (j++ms.take i) x:=by
 intro ms;induction ms with
 |nil=>
  intro j;simp[zc]
 |cons a r F=>
  intro j;show y9 j a/\zc (j++[a]) r↔_;rw[F];constructor
  .rintro⟨z,h2⟩ i x q;cases i with
   |zero=>
    let:=aU q;subst this;simpa using z
   |succ i=>
    let:=h2 i x q;rw[rK] at this;exact this
  .intro h;apply(by simpa using h 0 a rfl,λi x q=>?_);let:=h (i+1) x q;rw[rK];exact this
theorem ajY{ms:aJ}:(∀m∈ms,Kv m)->(ms.Pairwise λp x=>iZ p x=true)->0<(ms.J isSign).L->∃x,ms[(ms.J isSign).L-1]? =Α x/\x.role=0:=by
 induction ms with
 |nil=>
  intro _ _ h;simp at h
 |cons a r O=>
  intro kv M h;let(W,p2):=JS.mp M;let kr:=λm J=>kv m (aL _ J);by_cases q:a.role=0
  .let z:(a::r).J isSign=a::r.J isSign:=by
    rw[rL,ai (show isSign a=true by ext isSign;simpa using q)]
   rw[z,dh,Nat.add_sub_cancel];by_cases hz:0<(r.J isSign).L
   .let(x,j,U):=O kr p2 hz;apply(x,?_,U);obtain⟨k,F⟩:∃k,(r.J isSign).L=k+1:=⟨(r.J isSign).L-1,by af⟩;rw[F] at j⊢;exact j
   .rw[show(r.J isSign).L=0 by af];exact(a,Á,q)
  .exfalso;let:(a::r).J isSign=[]:=by
    rw[at0];intro x j hs;let U:x.role=0:=by delta isSign at hs;simpa using hs
    rcases a9.mp j with rfl|j
    .exact q U
    .exact q ((uo (kv a Ä) (kr x j) U).mp (W x j))
   rw[this] at h;simp at h
def ajZ{ms:aJ}(kv:∀m∈ms,Kv m)(z:ms.Pairwise λp x=>iZ p x=true){i:Nat}{x:ir}(j:ms[i]? =Α x)(q:x.role=0):i+1<=(ms.J isSign).L:=by
 let hi:=(bp.mp j).1;let J:∀p∈ms.take (i+1),isSign p=true:=λp M=>by
  rw[take_snoc j] at M;ext isSign;rw[lZ];rcases fw.mp M with M|M
  .exact(uo (kv p (zY M)) (kv x (bo j)) q).mp (pw_place.mp z i x j p M)
  .symm
 let F:((ms.take (i+1)).J isSign).L=i+1:=by
  rw[List.filter_eq_self.mpr J,iS]
  af
 let O:ms.J isSign=(ms.take (i+1)).J isSign++(ms.drop (i+1)).J isSign:=by
  rw[<-Ft,RT]
 symm
def WE{ms:aJ}(kv:∀m∈ms,Kv m):(oO ms&&pZ ms)=true↔zc [] ms/\zd ms:=by
 let Z:=Os kv;rw[ajX,jH];ext oO pZ;rw[jH];let tn:((!pY ((ms.J isSign).M xH))=true)↔ms.Pairwise λp x=>¬Wz p x:=by
  rw[show((!pY ((ms.J isSign).M xH))=true)↔pY ((ms.J isSign).M xH)=false by simp,Ot,JT,at1];constructor
  .intro h;apply h.imp λ{a b}F z=>?_;let:=F (by ext isSign;simpa using z.1) (by ext isSign;simpa using z.2.1);rw[Ou,z.2.2] at this;simp at this
  .intro h;apply h.imp λ{a b}F U W=>?_;rw[Ou,JQ];exact λz=>F ⟨by delta isSign at U;simpa using U,by delta isSign at W;simpa using W,z⟩
 let tf:((!pY Èo)=true)↔ms.Pairwise λp x=>¬Ht p x:=by
  rw[show((!pY Èo)=true)↔pY Èo=false by simp,Ot,JT];constructor
  .intro h;apply h.imp λ{a b}F z=>?_;rw[Wy,z.1,z.2] at F;simp at F
  .intro h;apply h.imp λ{a b}F=>?_;rw[Wy,Bool.and_eq_false_iff];by_cases c:a.shape=b.shape
   .right;rw[JQ];exact λz=>F ⟨c,z⟩
   .left;rw[JQ];exact c
 rw[tn,tf];let Y:1<=(ms.J isSign).L↔zd ms:=by
  ext zd;constructor
  .intro h;obtain⟨x,j⟩:∃x,x∈ms.J isSign:=by
    cases e:ms.J isSign with
    |nil=>rw[e] at h;simp at h
    |cons x r=>exact(x,by simp)
   exact(x,(iA.mp j).1,by let:=(iA.mp j).2;delta isSign at this;simpa using this)
  .rintro⟨m,hm,O⟩;let:m∈ms.J isSign:=iA.mpr ⟨hm,by ext isSign;simpa using O⟩;exact List.length_pos_of_mem this
 constructor
 .rintro⟨q,h2,h3⟩;split at q
  .cases q
  .rename_i hc;let J:=Z.mp q;apply(λi x j=>⟨λp M=>?_,λO=>?_⟩,Y.mp Ù)
   .rw[z6] at M;exact(pw_place.mp J i x j p M,pw_place.mp h2 i x j p M,pw_place.mp h3 i x j p M)
   .let:=ajZ kv J j O;rw[z6,iS];grind
 .rintro⟨q,h2⟩;let J:ms.Pairwise λp x=>iZ p x=true:=pw_place.mpr λi x j p M=>((q i x j).1 p (by rw[z6];exact M)).1;apply(?_,pw_place.mpr λi x j p M=>((q i x j).1 p (by rw[z6];exact M)).2.1,pw_place.mpr λi x j p M=>((q i x j).1 p (by rw[z6];exact M)).2.2);let n1:=Y.mpr h2;rw[ah,Z]
  .exact J
  .rintro (z|z)
   .af
   .let(x,j,uf):=ajY kv J (by assumption);let:=(q _ x j).2 uf;let hl:=(bp.mp j).1;rw[z6,iS] at this;grind
def aj0(h:br l):Flags.nameIn Ľ=(fO (codes "locker") l).M λn=>n.M B:=by
 ext Flags.nameIn fO;rw[show Flags.cutAt 32 Ľ=(aO 32 l).M ë from yS 32 Ð l h];let j:=qT 32 (l:=l) h;generalize aO 32 l=W at j
 match W,j with
 |[],_=>rfl
 |[a],_=>rfl
 |[a,b],j=>
  let q:=eqB (a:=a) (x:="locker") (s:="locker") (j a Ä) Æy É;show(if a.M B=Flags.ascii "locker"/\Flags.isName Ϟ=true then some Ϟ else none)=Option.map _ (if a=codes "locker"/\iX b=true then some b else none);rw[Hr (j b Ä)];by_cases c:a=codes "locker"/\iX b=true
  .rw[ai c,ai ⟨q.mpr c.1,c.2⟩];rfl
  .rw[ah c,ah (λz:_/\_=>c ⟨q.mp z.1,z.2⟩)];rfl
 |a::b::c::r,_=>rfl
def aj1(h:br t):(∀x,gO t=Α x->Flags.judge Án=.ok ⟨x.1.M B,x.2.M bO⟩)/\(gO t=Β->∃e,Flags.judge Án=.error e):=by
 let p7:Flags.cutAt 10 Án=(aO 10 t).M ë:=yS 10 Ð t h;let M:=qT 10 (l:=t) h;obtain⟨ls,z,ew⟩:∃ls z,aO 10 t=ls++[z]:=by
  rcases qV (aO 10 t) with e|⟨r,x,e⟩
  .exact absurd e (m6 10 t)
  .symm
 let hw:kI t=if z=[] then some ls else none:=by
  ext kI;symm
 rw[ew] at p7 M;cases ls with
 |nil=>
  let J:gO t=Β:=by
   ext gO;symm
  let F:Flags.judge Án=.error (1,0):=by
   ext Flags.judge;symm
  symm
 |cons w r=>
  let F4:=M w Ä;let U:∀l∈r,br l:=λl J=>M l (by simp[J]);obtain⟨y,Z,er⟩:∃y Z,(r++[z]).M ë=y::Z:=by
   cases r with
   |nil=>simp
   |cons a b=>simp
  let F:∀n,Flags.nameIn Ĳ=Α n->Flags.judge Án=(Flags.judgeLines 1 [] ((r++[z]).M ë)).M λ(l:List Flags.Kind)=>(⟨n,l⟩:Flags.Locker):=λn q=>by
   ext Flags.judge;symm
  let O:Flags.nameIn Ĳ=Β->Flags.judge Án=.error (1,0):=λq=>by
   ext Flags.judge;symm
  let J:gO t=if z=[] then A5 (fO (codes "locker") w) (hZ r) else none:=by
   ext gO;grind
  rw[J];let q:=aj0 F4;let(W,Y):=ajV r z 1 [] U Ä;simp only[mO,z6] at W Y;cases en:fO (codes "locker") w with
  |none=>
   rw[en] at q;apply(λx j=>?_,λ_=>⟨(1,0),O q⟩);rw[DQ] at j;symm
  |some n=>
   rw[en] at q;let F:=F _ q;rw[F];constructor
   .intro x j;split at j
    .rename_i hz;cases ek:hZ r with
     |none=>rw[ek,DP] at j;cases j
     |some ms=>
      rw[ek] at j;let j:(if (oO ms&&pZ ms)=true then some (n,ms) else none)=Α x:=j;split at j
      .rename_i ho;let:=aU j;subst this;let(o1,o2):=(WE (Oq U ek)).mp ho;rw[W ms hz ek o1 o2];rfl
      .symm
    .symm
   .intro j;let(e,ee):=Y λg=>by
     let(hz,ms,hk,hs,lK):=g;rw[ai hz,hk] at j;let j:(if (oO ms&&pZ ms)=true then some (n,ms) else none)=Β:=j;rw[ai ((WE (Oq U hk)).mpr ⟨hs,by assumption⟩)] at j;symm
    exact(e,by rw[ee];rfl)
def i9(c:Int):Option Nat:=if c=16 then none else some c.toNat
def DW:Told->Flags.PlateLine
 |.side s l=>.seen s (c8 l)
 |.hoist k=>.hoist (decide (k%2=1)) (decide (k/2=1))
 |.shape k=>.flag k
 |.row l=>.cells (l.M i9)
def aj3(h:0<=x/\x<=255):Flags.cellIn (B x)=if qS.Y x=true then some (i9 ((qS.idxOf x:Nat):Int)) else none:=by
 let:=DS (p:=λx=>decide (Flags.cellIn (B x)=if qS.Y x=true then some (i9 ((qS.idxOf x:Nat):Int)) else none)) É h;symm
theorem aj4{l:LI}:br l->(l.M B).mapM Flags.cellIn=if l.all Ãx=true then some (l.M λb=>i9 ((qS.idxOf b:Nat):Int)) else none:=by
 induction l with
 |nil=>exact @λ_=>Á
 |cons x r q=>
  intro h;let q:=q λz hz=>h z (aL _ hz);rw[a8,JO,aj3 (h x eP),q,tu];by_cases j:qS.Y x=true
  .rw[ai j,j,nu];by_cases h2:r.all Ãx=true
   .rw[ai h2,ai h2];rfl
   .rw[ah h2,ah h2];rfl
  .rw[ah j];let j:qS.Y x=false:=by simpa using j
   rw[j,mJ,ah eO];rfl
def aj5{w:LI}(j:br w):(if (w.M B).L=4 then ((w.M B).mapM Flags.cellIn).M Flags.PlateLine.cells else none)=(lD w).M λl=>DW (.row l):=by
 ext lD;rw[ao];by_cases h:w.L=4
 .rw[ai h,ai h,aj4 j];ext kG;by_cases h2:w.all Ãx=true
  .rw[ai h2,ai h2];show some (Flags.PlateLine.cells _)=Α (Flags.PlateLine.cells _);rw[ck];rfl
  .rw[ah h2,ah h2];rfl
 .rw[ah h,ah h];rfl
def WG(h:ws.Y w=false):bW ws w=Β:=by
 ext bW;grind
def aj6(j:br w):fH Ĳ=(bW iJ w).M λk=>(decide (k%2=1),decide (k/2=1)):=by
 let hs:=ahK j;by_cases h:iJ.Y w=true
 .let h':w∈iJ:=by simpa using h
  simp only[iJ,a9,k7,k8] at h';rcases h' with rfl|rfl|rfl|rfl <;> decide+kernel
 .let h:iJ.Y w=false:=by simpa using h
  rw[WG h];symm
def aj7(j:br w):fF Ĳ=bW iK w:=by
 let hs:=ahL j;by_cases h:iK.Y w=true
 .let h':w∈iK:=by simpa using h
  simp only[iK,a9,k7,k8] at h';rcases h' with rfl|rfl|rfl|rfl <;> decide+kernel
 .let h:iK.Y w=false:=by simpa using h
  rw[WG h];symm
def aj8(h:xw c=true):(32:Int)∉c:=λj=>by
 delta xw at h;let:=jI.mp (tF.mp h).2 32 j;exact absurd this Ð
def WH:xw c=(iG c).isSome:=by
 ext xw iG kG;grind
def aj9(hs:s∈[0,1,2]):(32:Int)∉JM.eJ s:=by
 let:s=0\/s=1\/s=2:=À hs
 rcases this with rfl|rfl|rfl <;> decide+kernel
def aka(hs:s∈[0,1,2])(hc:(32:Int)∉c):aO 32 (kC++32::(JM.eJ s++32::c))=[kC,JM.eJ s,c]:=by
 rw[Vx 32 _ (show(32:Int)∉kC by decide),Vx 32 _ (aj9 hs),ahE 32 hc]
def akb(hs:s∈[0,1,2]):bW vL (JM.eJ s)=Α s:=by
 let:s=0\/s=1\/s=2:=À hs
 rcases this with rfl|rfl|rfl <;> decide+kernel
def akc(h:bW ws w=Α i):ws[i]? =Α w:=by
 delta bW at h;let(j,h2,_):=RV.mp h;symm
def akd(J:br w):(match [0,1,2].find? (pS Ĳ) with
  |some s=>(Flags.lookIn ((w.M B).drop (6+(Flags.sideWord s).L))).M λ(x:Nat)=>Flags.PlateLine.seen s x
  |none=>none)=(HD.eJ w).M (λx=>DW (.side x.1 x.2))/\([0,1,2].find? (pS Ĳ)=Β↔HD.eJ w=Β):=by
 let up:∀s∈[0,1,2],pS Ĳ s=true->∃c l,w=kC++32::(JM.eJ s++32::c)/\iG c=Α l/\HD.eJ w=Α (s,l):=λs hs U=>by
  let(c,e,hc):=(VA J hs).mp U;let F:=aj8 hc;rw[WH] at hc;let(l,j):=JC.mp hc;apply(c,l,e,j,?_);ext HD.eJ;rw[e,aka hs F];dsimp only;rw[ai rfl,akb hs,j]
 cases ef:[0,1,2].find? (pS Ĳ) with
 |some s=>
  let hs:=List.mem_of_find?_eq_some ef;let(c,l,e,j,es):=up s hs (List.find?_some ef);apply(?_,⟨λz=>(by cases z),λz=>Å⟩);rw[es];show Option.map _ _=Α (Flags.PlateLine.seen s (c8 l));let(q,_,_):=Vz s hs;let ed:(w.M B).drop (6+(Flags.sideWord s).L)=c.M B:=by
   rw[q,ao,<-RS];congr 1;let O:w=preOf (JM.eJ s)++c:=by
    rw[e];ext preOf;simp
   let el:(preOf (JM.eJ s)).L=6+(JM.eJ s).L:=by
    ext preOf;simp[kC]
    af
   grind
  let Y:br c:=λx hx=>J x Å;rw[ed,Ws Y,j];rfl
 |none=>
  let hn:HD.eJ w=Β:=by
   cases es:HD.eJ w with
   |none=>rfl
   |some x=>
    exfalso;delta HD.eJ at es;split at es
    .rename_i a b c ec;split at es
     .rename_i Z;cases O:bW vL b with
      |none=>symm
      |some s=>
       cases q:iG c with
       |none=>symm
       |some l=>
        let hb:=akc O;let KP:s<3:=(bp.mp hb).1;let hs:s∈[0,1,2]:=by
         grind
        let W:b=JM.eJ s:=by
         ext JM.eJ;symm
        let M:w=kC++32::(JM.eJ s++32::c):=by
         let g:=ahG 32 w;rw[ec,Z,W] at g;exact g.symm
        let U:=(VA J hs).mpr ⟨c,M,by rw[WH,q];rfl⟩;grind
     .symm
    .symm
  symm
def akg{w:LI}(j:br w):Flags.plateLine Ĳ=(lE w).M DW:=by
 rw[ahM,aj6 j,aj7 j,aj5 j];let(q,z):=akd j;ext lE;cases ef:[0,1,2].find? (pS Ĳ) with
 |some s=>
  rw[ef] at q z;dsimp only at q⊢;cases es:HD.eJ w with
  |none=>exact absurd (z.mpr es) Ä
  |some x=>
   rw[es] at q;exact q
 |none=>
  rw[z.mp ef];dsimp only;cases e1:bW iJ w with
  |some k=>rfl
  |none=>
   cases e2:bW iK w with
   |some k=>rfl
   |none=>
    show(lD w).M _=_;cases lD w <;> rfl
def iD(s:Nat×LI):Flags.Seen:=Flags.seenOf s.1 (s.2.M i9)
def i0(g:iW):Flags.Glimpse:=⟨g.above,g.below,g.flags.M iD⟩
def fY(m:eW):Flags.Plate:=⟨c8 m.classes,m.side,m.aq.M i0⟩
inductive Open:eW->Flags.PlateState->Prop
 |vU {m:eW} {s:Flags.PlateState}:s.flag=Β->s.hoists=m.aq.M i0->(∀g∈m.aq,∀f∈g.flags,f.2.L=16)->Open m s
 |opened {m:eW} {s:Flags.PlateState} (gs:List iW) (a b:Bool) (fs:List (Nat×LI)) (k:Nat) (cs:LI):m.aq=gs++[⟨a,b,fs++[(k,cs)]⟩]->s.flag=Α (k,cs.M i9)->s.hoists=gs.M i0++[⟨a,b,fs.M iD⟩]->
   cs.L<16->cs.L%4=0->(∀g∈gs,∀f∈g.flags,f.2.L=16)->(∀f∈fs,f.2.L=16)->Open m s
structure A9(m:eW)(s:Flags.PlateState):Prop where
 head:s.head=if m.classes=[] then none else some (m.side,c8 m.classes)
 op:Open m s
 hd:m.classes=[]->m.aq=[]
theorem Hw{m:eW}(h:∀g∈m.aq,∀f∈g.flags,f.2.L=16):kH m=false:=by
 ext kH;cases e:m.aq.getLast? with
 |none=>rfl
 |some g=>
  dsimp only;cases e2:g.flags.getLast? with
  |none=>rfl
  |some f=>
   dsimp only;rw[h g (Fs e) f (Fs e2)];rfl
def akh(l:List α)(x:α):(l++[x]).getLast?=Α x:=by simp
def Hy(h:m.aq=gs++[⟨a,b,fs++[(k,cs)]⟩])(j:cs.L<16):kH m=true:=by
 ext kH;symm
def Ov(f:α->β)(l:List α):(l.M f).getLast?=l.getLast?.M f:=by
 simp
theorem WI(s:Flags.Seen)(g:Flags.Glimpse):∀l:List Flags.Glimpse,Flags.putFlag s (l++[g])=l++[{g with flags:=g.flags++[s]}]
 |[]=>rfl
 |[x]=>rfl
 |x::y::r=>by
  show x::Flags.putFlag s (y::r++[g])=_;rw[WI s g (y::r)];rfl
def WJ:Told->Prop
 |.side _ l=>l.L=16
 |.row l=>l.L=4
 |_=>True
def aki{m:eW}{s:Flags.PlateState}(r:A9 m s){t:Told}(ht:WJ t):
  (eE m t.sort=true->∃s',s.line (DW t)=Α s'/\A9 (sA m t) s')/\(eE m t.sort=false->s.line (DW t)=Β):=by
 let(M,Z,hd):=r;let akj:m.classes≠[]->s.head.isSome=true:=λhc=>by rw[M,ah hc];rfl
 let akk:m.classes=[]->s.head=Β:=λhc=>by rw[M,ai hc]
 let emp:m.classes.isEmpty=true↔m.classes=[]:=by simp
 let Y:m.classes.isEmpty=false↔m.classes≠[]:=by simp
 let opn:m.classes=[]->s.flag=Β/\s.hoists=[]:=λhc=>by
  let J:=hd hc;cases Z with
  |vU j h2 _=>symm
  |opened gs a b fs k cs j=>symm
 let e4:Flags.MOST=4:=rfl;let e8:Flags.LONG=8:=rfl;cases t with
 |side sd l=>
  show(eE m 0=true->_)/\(eE m 0=false->_);let q:eE m 0=m.classes.isEmpty:=by ext eE;simp
  rw[q];show(_->∃s',(if s.head=Β then some {s with head:=Α (sd,c8 l)} else none)=Α s'/\_)/\(_->(if s.head=Β then some {s with head:=Α (sd,c8 l)} else none)=Β);constructor
  .intro h;let hc:=emp.mp h;let(o1,o2):=opn hc;apply(_,ai (akk hc),?_);let hl:l≠[]:=λz=>by
    let M:l.L=16:=ht;symm
   apply(?_,.vU o1 (by show s.hoists=m.aq.M i0;rw[o2,hd hc];rfl) (λg J=>by rw[show(sA m (.side sd l)).aq=m.aq from rfl,hd hc] at J;simp at J),λz=>absurd z hl);show some (sd,c8 l)=if l=[] then none else some (sd,c8 l);symm
  .symm
 |hoist k=>
  show(eE m 1=true->∃s',(if s.head.isSome=true/\s.flag=Β/\s.hoists.L<Flags.MOST/\(match s.hoists.getLast? with
   |some g=>!g.flags.isEmpty
   |none=>true)=true then some {s with hoists:=s.hoists++[(⟨decide (k%2=1),decide (k/2=1),[]⟩:Flags.Glimpse)]} else none)=Α s'/\_)/\(eE m 1=false->(if s.head.isSome=true/\s.flag=Β/\s.hoists.L<Flags.MOST/\(match s.hoists.getLast? with
   |some g=>!g.flags.isEmpty
   |none=>true)=true then some {s with hoists:=s.hoists++[(⟨decide (k%2=1),decide (k/2=1),[]⟩:Flags.Glimpse)]} else none)=Β)
  by_cases hc:m.classes=[]
  .let q:eE m 1=false:=by ext eE;simp[hc]
   symm
  .let W:=Y.mpr hc;cases Z with
   |opened gs a b fs O cs j h2 F U h5 h6 h7=>
    let q:eE m 1=false:=by ext eE;simp[W,Hy j U]
    symm
   |vU j h2 F=>
    let q:eE m 1=(decide (m.aq.L<4)&& !mq m):=by ext eE;simp[W,Hw F]
    let el:(match s.hoists.getLast? with
     |some g=>!g.flags.isEmpty
     |none=>true)=!mq m:=by
     ext mq;rw[h2,Ov];cases m.aq.getLast? with
     |none=>rfl
     |some g=>
      show(!(g.flags.M iD).isEmpty)=!g.flags.isEmpty;cases g.flags <;> rfl
    rw[q,el];let akm:(s.head.isSome=true/\s.flag=Β/\s.hoists.L<Flags.MOST/\(!mq m)=true)↔(decide (m.aq.L<4)&& !mq m)=true:=by
     symm
    constructor
    .intro h;apply(_,ai (akm.mpr h),?_);apply(?_,.vU j ?_ ?_,λz=>absurd z hc)
     .show s.head=if m.classes=[] then none else some (m.side,c8 m.classes);omega
     .show s.hoists++_=(m.aq++[_]).M i0;rw[h2,bI];rfl
     .intro g J;rcases fw.mp J with J|J
      .grind
      .symm
    .symm
 |shape k=>
  show(eE m 2=true->∃s',(if s.head.isSome=true/\s.flag=Β/\(match s.hoists.getLast? with
   |some g=>decide (g.flags.L<Flags.LONG)
   |none=>false)=true then some {s with flag:=Α (k,[])} else none)=Α s'/\_)/\(eE m 2=false->(if s.head.isSome=true/\s.flag=Β/\(match s.hoists.getLast? with
   |some g=>decide (g.flags.L<Flags.LONG)
   |none=>false)=true then some {s with flag:=Α (k,[])} else none)=Β)
  by_cases hc:m.classes=[]
  .let q:eE m 2=false:=by ext eE;simp[hc]
   symm
  .let W:=Y.mpr hc;cases Z with
   |opened gs a b fs O cs j h2 F U h5 h6 h7=>
    let q:eE m 2=false:=by ext eE;simp[W,Hy j U]
    symm
   |vU j h2 F=>
    let q:eE m 2=(match m.aq.getLast? with
     |some g=>decide (g.flags.L<8)
     |none=>false):=by
     ext eE;rw[W,Hw F];rfl
    let el:(match s.hoists.getLast? with
     |some g=>decide (g.flags.L<Flags.LONG)
     |none=>false)=(match m.aq.getLast? with
     |some g=>decide (g.flags.L<8)
     |none=>false):=by
     rw[h2,Ov];cases m.aq.getLast? with
     |none=>rfl
     |some g=>
      show decide ((g.flags.M iD).L<8)=decide (g.flags.L<8);rw[ao]
    rw[q,el];constructor
    .intro h;apply(_,ai ⟨akj hc,j,h⟩,?_);rcases qV m.aq with e|⟨gs,g,e⟩
     .symm
     .apply(M,.opened gs g.above g.below g.flags k [] ?_ Á ?_ Ð Ð ?_ ?_,λz=>absurd z hc)
      .show m.aq.dropLast++(m.aq.getLast?.M _).toList=_;symm
      .rw[h2,e,bI];rfl
      .grind
      .grind
    .symm
 |row l=>
  let DI:l.L=4:=ht;show(eE m 3=true->∃s',(match s.flag with
   |some (k,mm)=>if (mm++l.M i9).L=16 then some {s with hoists:=Flags.putFlag (Flags.seenOf k (mm++l.M i9)) s.hoists,flag:=Β} else some {s with flag:=Α (k,mm++l.M i9)}
   |none=>none)=Α s'/\_)/\(eE m 3=false->(match s.flag with
   |some (k,mm)=>if (mm++l.M i9).L=16 then some {s with hoists:=Flags.putFlag (Flags.seenOf k (mm++l.M i9)) s.hoists,flag:=Β} else some {s with flag:=Α (k,mm++l.M i9)}
   |none=>none)=Β)
  cases Z with
  |vU j h2 F=>
   let q:eE m 3=false:=by
    ext eE;by_cases hc:m.classes=[]
    .symm
    .simp[Y.mpr hc,Hw F]
   symm
  |opened gs a b fs O cs j h2 F U h5 h6 h7=>
   let hc:m.classes≠[]:=λz=>by let:=hd z;rw[j] at this;simp at this
   let q:eE m 3=true:=by ext eE;simp[Y.mpr hc,Hy j U]
   rw[q,h2];apply(λ_=>?_,λz=>(by cases z));dsimp only;let ep:(sA m (.row l)).aq=gs++[⟨a,b,fs++[(O,cs++l)]⟩]:=by
    show m.aq.dropLast++(m.aq.getLast?.M _).toList=_;symm
   let ec:cs.M i9++l.M i9=(cs++l).M i9:=by rw[bI]
   rw[ec,ao,j5,DI];by_cases sG:cs.L+4=16
   .rw[ai sG];apply(_,Á,M,.vU Á ?_ ?_,λz=>absurd z hc)
    .let eg:i0 ⟨a,b,fs++[(O,cs++l)]⟩=⟨a,b,fs.M iD++[Flags.seenOf O ((cs++l).M i9)]⟩:=by
      ext i0;rw[bI];rfl
     rw[F,WI,ep,bI (f:=i0),a8,mO,eg]
    .grind
   .rw[ah sG];apply(_,Á,M,.opened gs a b fs O (cs++l) ep Á F ?_ ?_ h6 h7,λz=>absurd z hc)
    .grind
    .symm
end HD
namespace HD
open PySem PySem.Spec PyProof.Rows L2
open PySem.W (Codec)
abbrev nv(l:LN):LI:=l.M λn=>((n:Nat):Int)
def eX:ir:=⟨0,[],0,0,0,[]⟩
def jt{l:LN}{i:Nat}{y:V}(h:Èp[i]? =Α y):∃z,l[i]? =Α z/\y=V.int (z:Nat):=by
 let(z,hz,e):=ub h;rw[bA] at hz;cases q:l[i]? with
 |none=>rw[q] at hz;cases hz
 |some n=>
  rw[q] at hz;let:=aU hz;subst this;exact(n,Á,e)
def gQ(l:LN):(nv l).L=l.L:=by ext nv;rw[ao]
def Ba(h:aV H Äb):H l.a=Α (.ins CL l.dx (He l)):=h (l.a,_) (by simp[uj])
def akn(h:aV H Äb):H l.kl=Α (.lst (l.kinds.M λk=>V.ref k.a)):=h (l.kl,_) (by simp[uj])
def ako(h:aV H Äb):aV H (AZ CK l.kinds):=λx j=>h x (by ext uj;exact aL _ (aL _ (aL _ j)))
def WK{α:Type}{l:List α}(h:l.L=1):∃a,l=[a]:=List.length_eq_one_iff.mp h
def WL{α:Type}{l:List α}(h:l.L=2):∃a b,l=[a,b]:=by
 let(a,l,rfl):=abq h;let(b,rfl):=WK (abr h);exact(a,b,Á)
def WM{α:Type}{l:List α}(h:l.L=3):∃a b c,l=[a,b,c]:=by
 let(a,l,rfl):=abq h;let(b,c,rfl):=WL (abr h);exact(a,b,c,Á)
def akp{α:Type}{l:List α}(h:l.L=4):∃a b c d,l=[a,b,c,d]:=by
 let(a,l,rfl):=abq h;let(b,c,d,rfl):=WM (abr h);exact(a,b,c,d,Á)
def ju(K:FR)(C:Addr)(fs:LS):Prop:=l8 K C/\∀f∈fs,ϱ f
def sI(c:Nat):Nat:=c-c%4+4-1-c%4
inductive Ow(vs:az)(H:Hp)(Q:VK)(E':XK):Prop
 |mk (c:Nat) (_:vs=[.int (c:Nat)]) (_:Q (.int (sI c:Nat)) H)
def oQ(look classes:LI)(side:Nat):LI:=if side=1 then (List.range 16).M (λc=>classes.D (look.D (sI c) 0).toNat 0) else look.M λx=>classes.D x.toNat 0
inductive WN(K:FR)(vs:az)(H:Hp)(Q:VK)(E':XK):Prop
 |mk (al ac:Addr) (look classes:LI) (side:Nat) (_:vs=[.ref al,.ref ac,.int (side:Nat)]) (_:ä al (iv look)) (_:gh look) (_:ä ac (iv classes)) (_:classes.L=16) (_:∀H' p,Ů p (.lst (iv (Àu side)))->Q Ĝ H')
def WO{D:Addr}{ys:az}{H:Hp}{α:Type}{L:List α}{g:α->Int}(hd:H D=Α Âw)(e:ys=L.M λx=>V.int (g x)):H D=Α (.lst (iv (L.M g))):=by
 symm
def zf{l:LI}{i:Nat}(h:i<l.L):(iv l)[i]? =Α (.int (l.D i 0)):=by
 symm
section
variable{P:Pg}{w:Wd}{K:FR}{mg:MG}{base:Heap}{CK CL CS N CV:Addr}{C:Cs}
def akq:bG ["cell"] ["cell"] (bc LR):=cj
def akr(F:bu K "cell_behind" "cell_behind" LR f fd)(j:Cn mg "ROW" (.int 4)):Ë 1 f fd ["cell"] Ow:=by
 refine F.ok akq Â;let(c,rfl,k):=h;apply(_,aB (aX (eA rW (eA rW (eA pL (eA rW Ö (eA Km Ö (cw j))) (cw j)) bf) (eA Km Ö (cw j)))),?_);apply(_,Á,_,Á,_,_,Á,Á,Å,_,_,Á,Á,_,_,Á,Á,_,_,Á,Á,_,Á,_,_,Á,Á,(by omega),_,_,Á,Á,?_);let e:((c:Int)-(c:Int)%4+4-1-(c:Int)%4)=((sI c:Nat):Int):=by ext sI;af
 symm
def WQ{c:Nat}(h:c<16):sI c<16:=by ext sI;omega
def DX:bG ["look","classes","side","cell","colour"] ["look","classes","side"] (bc LU):=cj
def aks{f:Addr}{fd:FD}(F:bu K "cells_seen" "cells_seen" LU f fd)(tR:mg "range"=Β)(cB:Cn mg "BEHIND" Ŝ)(cC:Cn mg "CELLS" (.int 16))(dB:Ç 1 "cell_behind" ["cell"] Ow):Ë 2 f fd ["look","classes","side"] (WN K):=by
 refine F.ok DX Â;let(M,ac,look,classes,side,rfl,Z,j,hC,WR,k):=h;refine⟨_,aD (dm (cy iC å (cw cB) (bV _)) (aB (aX (eB (own:=[("cell",3)]) (te:=bU Ũ ž (bU Ũ Ų (g9 Ow [] E0 Âk))) Á DX.nd (FK Ï tR (ae (cw cC) ag)) Ê
   (λ_ _ _ _ _=>c6 3 DX.nd) Ñ (λ_ _ _ _ _=>cK dc á (cK dc Ö (bz dB ĳ) Õ) Õ)))) dX)
  (aB (aX (eB (own:=[("colour",4)]) (te:=bU Ũ ž Ãt) rfl DX.nd Åe Ê
   (λ_ _ _ _ _=>c6 4 DX.nd) Ñ (λ_ _ _ _ _=>cK dc á ę Õ)))),?_⟩
 let q:=k;delta oQ at q;refine ŷ;rw[show V.int 1=V.int ((1:Nat):Int) from rfl,nG];let WS:∀x,0<=x->x<16->qG (iv classes) x=Α (.int (classes.D x.toNat 0)):=λx h0 J=>by
  obtain⟨n,rfl⟩:∃n:Nat,x=(n:Int):=⟨x.toNat,by af⟩;exact f7 (zf Ù)
 refine a7 Î Î
 .simp at hc;rw[ai hc] at q;refine⟨16,Á,by decide,by decide,λD hD=>C0 (lo:=0) (n:=16) (cz H D λi y ns=>ns=[]/\y=.int (classes.D (look.D (sI i) 0).toNat 0)) Ď Ây þ⟩
  .let hb:=WQ hi;let(W,Y):=j.2 _ (getD_mem (l:=look) (i:=sI i) (by rw[j.1];exact hb));apply(Á,eK ⟨_,Á,_,Á,_,Á,i,?_,?_⟩)
   .simp
   .exact(M,_,_,.int (look.D (sI i) 0),Á,Á,f.E.seq Z,f7 (zf (by rw[j.1];exact hb)),ac,_,_,_,Á,Á,f.E.seq hC,WS _ W Y,(f.step hD Ù Ĥ ⟨Á,Á⟩ aV.nil Ä))
  .let(ys,s1,U,O,fl):=f.end;apply q H' D ⟨s1,hD,WO U (uh (by assumption) λi y x J h2=>?_)⟩;let(ns,(_,e),_):=fl i y J;grind
 .simp at hc;rw[ah hc] at q;refine⟨_,Á,M,Á,⟨_,Z⟩,λD hD=>fW (K:=K) (a:=M) (xs:=iv look) (cz H D λi y ns=>ns=[]/\∃x,look[i]? =Α x/\y=.int (classes.D x.toNat 0)) Ď (λi H' _ f=>f.E.seq Z) ą þ⟩
  .let(z,hz,rfl):=ub hi;let dq:=(bp.mp hz).1;let sG:=j.1;let(W,Y):=j.2 z (bo hz);exact(Á,eK ⟨_,Á,_,Á,ac,_,_,_,Á,Á,f.E.seq hC,WS z W Y,(f.step hD Ù Ĥ ⟨Á,z,hz,Á⟩ aV.nil Ä)⟩)
  .let(ys,s1,U,O,fl):=f.end;rw[dy] at O;apply q H' D ⟨s1,hD,WO U (uh O λi y x J h2=>?_)⟩;let(ns,(_,z,e1,e),_):=fl i y J;symm
inductive DY(K:FR)(C:Cs)(CK:Addr)(vs:az)(H:Hp)(Q:VK)(E':XK):Prop
 |mk (k:ax) (ac:Addr) (classes:LI) (side:Nat) (_:vs=[.ref k.a,.ref ac,.int (side:Nat)]) (_:aV H (lI CK k)) (_:gh k.m.look) (_:ä ac (iv classes)) (_:classes.L=16) (_:∀H' s,aj H H'->s.shape=k.m.shape->s.cells=oQ k.m.look classes side->aV H' (gW C s)->(∀x∈gW C s,H x.1=Β)->Q (.ref s.a) H')
def akt:bG ["kind","classes","side"] ["kind","classes","side"] (bc Mu):=cj
def aku(F:bu K "sighting_of" "sighting_of" Mu f fd)(T:ue K CK)(U:Ā "Sighting" C.S ["shape","cells"])(O:Ç 2 "cells_seen" ["look","classes","side"] (WN K)):
  a0 P w K mg base aF 3 f fd ["kind","classes","side"] År:=by
 refine F.ok akt Â;let(z,M,classes,side,rfl,hz,rh,Z,W,k):=h;apply(_,aB (aX (pW U hr (ae ĺ (ae (bz O (ae ĺ (ae á ł))) ag)))),?_);apply(_,Á,aZ (jR hz) T.c T.yV (Wb z) ⟨_,Á,aZ (jR hz) T.c T.We (Wc z) ⟨_,Á,_,Á,z.lk,M,z.m.look,classes,side,Á,aa.of (Wn hz),rh,Z,W,λH1 pc j=>?_⟩⟩);apply xF Á λx dx J hx gV aN Y q=>?_;apply k J ⟨x,dx,pc,z.m.shape,_⟩ (j.1.R q) Á Á Âm λy hy=>?_
 .simp only[gW,a9,k7,k8] at hy;rcases hy with rfl|rfl
  .exact Y
  .exact q _ _ j.2.2
 .simp only[gW,a9,k7,k8] at hy;rcases hy with rfl|rfl
  .exact j.1.free hx
  .exact j.2.1
end
def HA{D:Addr}{ys:az}{H:Hp}{n:Nat}{b:Nat->Bool}(hd:H D=Α Âw)(q:ys.L=n)(h:∀(i:Nat)(y:V),ys[i]? =Α y->y=.bl (b i)):H D=Α (.lst (((List.range n).M b).M V.bl)):=by
 let e:ys=(List.range n).M (V.bl∘b):=uh (by rw[q,il]) λi y x j h2=>by
  rw[h i y j,yZ h2];rfl
 rw[hd,ck,e]
def xJ(h w:LI)(i:Nat):Bool:=decide (h.D i 0=16)||decide (h.D i 0=w.D i 0)
def xK(h w:Nat×LI):Bool:=if h.1≠3/\h.1≠w.1 then false else (List.range h.2.L).all (xJ h.2 w.2)
inductive Ox(C:Cs)(vs:az)(H:Hp)(Q:VK)(E':XK):Prop
 |mk (a b:eC) (_:vs=[.ref a.a,.ref b.a]) (_:Lies H (gW C a)) (_:Lies H (gW C b)) (_:a.cells.L<=b.cells.L) (_:a.cells.L<=100) (_:∀H',aj H H'->Q (.bl (xK a.m b.m)) H')
section
variable{P:Pg}{w:Wd}{K:FR}{mg:MG}{base:Heap}{CK CL CS N CV:Addr}{C:Cs}
def Oy:bG ["half","whole","cell","seen"] ["half","whole"] (bc My):=cj
def akv{f:Addr}{fd:FD}(F:bu K "may_be" "may_be" My f fd)(T:ly K C)(tA:mg "all"=Β)(tE:mg "enumerate"=Β)(W:Cn mg "UNSEEN_SHAPE" (.int 3))(Y:Cn mg "UNSEEN_CELL" (.int 16)):
  a0 P w K mg base aF 1 f fd ["half","whole"] (Ox C):=by
 refine F.ok Oy Â;let(a,b,rfl,j,q,hl,jN,k):=h;refine⟨_,aD (dm (PW.pt (pw_and (cy wU ĺ (cw W) (bV _)) (pw_and1 (cy wU ĺ Åi (bV _))))) ϫ dX)
  (aB (aX (c9 (w8 rfl) Ï tA zZ (ae (eB (own:=[("cell",2),("seen",3)]) (g:=g2 K 2 3) (te:=FH (bU pN Ŀ (tC (.int 16))) (bU pN Ŀ (bU Ũ (fk K ž "cells") ř))) rfl Oy.nd
   (Éi) Ê
   (λ_ _ _ _ _=>iB 2 3 Oy.nd) Ñ
   (λ_ _ _ _ _=>Ke (j8 iC ö (cw Y) (bV _)) (rT (j8 iC ö (cK dc Ň å Õ) (bV _))))) ag)))),?_⟩
 let Z:xK a.m b.m=if a.shape≠3/\a.shape≠b.shape then false else (List.range a.cells.L).all (xJ a.cells b.cells):=rfl;rw[Z] at k;refine and_val (!decide (a.shape=3)) (!decide (a.shape=b.shape)) (λK h=>⟨_,Á,aZ j.sa T.cS T.yV (GY a) Ļ⟩) (λ_ K h=>⟨_,Á,aZ j.sa T.cS T.yV (GY a) ⟨_,Á,aZ q.sa T.cS T.yV (GY b) Ļ⟩⟩) (a7 Î Î)
 .rw[show V.int 3=V.int ((3:Nat):Int) from rfl,nG];exact h
 .rw[nG];exact h
 .rw[ai Å] at k;exact k H ſ
 .rw[ah (by grind)] at k;let O:=j.sl;refine⟨_,Á,aZ j.sa T.cS T.DF (DE a) ⟨a.l,_,Á,aa.of O,λD hD=>mi (K:=K) (a:=a.l) (xs:=iv a.cells) (cz H D λi y ns=>ns=[]/\y=.bl (xJ a.cells b.cells i)) Ď (λi H' _ f=>aa.of (f.E _ _ O)) ŕ þ⟩⟩
  .let(z,hz,rfl):=ub hi;let dq:=(bp.mp hz).1;let J:aj H' (Ϩ (.tup [.int (i:Nat),.int z])):=aI hT;let U:=f.E.R J;refine à;apply Ll (decide (z=16)) (decide (z=b.cells.D i 0)) (λK h=>⟨_,Á,Á,?_⟩) (λ_ K h=>⟨_,Á,_,Á,aZ (U _ _ q.sa) T.cS T.DF (DE b) ⟨_,Á,b.l,_,_,.int (b.cells.D i 0),Á,Á,aa.of (U _ _ q.sl),f7 (zf Ù),Á,?_⟩⟩) ?_
   .symm
   .symm
   .refine f.step hD Ù J Ţ aV.nil Ä;ext xJ;symm
  .let(ys,J,fX,M,fl):=f.end;rw[dy] at M;apply(D,(List.range a.cells.L).M (xJ a.cells b.cells),Á,aa.of (HA fX M λi y e=>?_),?_)
   .let(ns,(_,e),_):=fl i y e;omega
   .symm
end
structure df where
 a:Addr
 ns:LN
structure cE where
 a:Addr
 ls:List df
def lsN(x:df):jq:=[(x.a,.lst (iv (nv x.ns)))]
def fb(y:cE):jq:=(y.a,.lst (y.ls.M λx=>V.ref x.a))::y.ls.flatMap lsN
def cE.m(y:cE):bg:=y.ls.M df.ns
def ja(H:Hp)(ns:jq):Prop:=∀x∈ns,H x.1=Β
def DZ(h:aV H (lsN x)):H x.a=Α ό:=h (x.a,_) (by simp[lsN])
def jv(h:aV H Çl):H y.a=Α (.lst (y.ls.M λx=>V.ref x.a)):=h (y.a,_) (by simp[fb])
def ng(h:aV H Çl)(j:x∈y.ls):H x.a=Α ό:=DZ λz hz=>h z (by ext fb;exact aL _ (jh.mpr ⟨x,j,hz⟩))
def WT{H:Hp}{a:Addr}{ls:List df}(h:H a=Α (.lst (ls.M λx=>V.ref x.a)))(h2:∀x∈ls,aV H (lsN x)):aV H (fb ⟨a,ls⟩):=λz hz=>by
 rcases a9.mp hz with rfl|hz
 .exact h
 .let(x,j,hz):=jh.mp hz;exact h2 x j z hz
def D0{H:Hp}{a:Addr}{ls:List df}(h:H a=Β)(h2:∀x∈ls,ja H (lsN x)):ja H (fb ⟨a,ls⟩):=λz hz=>by
 rcases a9.mp hz with rfl|hz
 .exact h
 .let(x,j,hz):=jh.mp hz;exact h2 x j z hz
theorem gR{α:Type}{a:α->Addr}{l:List α}{i:Nat}{y:V}(h:(l.M λk=>V.ref (a k))[i]? =Α y):∃z,l[i]? =Α z/\y=V.ref (a z):=by
 rw[bA] at h;cases e:l[i]? with
 |none=>rw[e] at h;cases h
 |some z=>rw[e] at h;exact(z,Á,(aU h).symm)
def Oz{α β:Type}{bs:List α}{m:α->β}{l:List β}(j:bs.L=l.L)(h:∀(i:Nat)(b:α)(x:β),bs[i]? =Α b->l[i]? =Α x->m b=x):bs.M m=l:=by
 apply ym;grind
def D1(i:Nat):(List.range (i+1)).J p=(List.range i).J p++(if p i=true then [i] else []):=by
 rw[JR,Ft];grind
def akw(i:Nat):((List.range i).J p).L<=i:=by
 grind
def nh(H1:Hp)(D:Addr)(p:Nat->Bool)(i:Nat)(H:Hp):Prop:=aj H1 H/\H D=Α (.lst (iv (nv ((List.range i).J p))))
def nh.zero{H1:Hp}{D:Addr}{p:Nat->Bool}(j:H1 D=Β):nh H1 D p 0 Đ:=⟨aI j,au⟩
def nh.yes(j:H1 D=Β)(hi:i<1000000)(f:nh H1 D p i H)(s:aj H H4)(h:p i=true):lj D (nh H1 D p (i+1)) (V.int (i:Nat)) H4:=by
 apply(_,s _ _ f.2,?_,fe (f.1.R s) j,?_)
 .rw[dy,gQ];let:=akw (p:=p) i;exact gc Ù
 .rw[au,D1,ai h];simp
def nh.no(f:nh H1 D p i H)(s:aj H H4)(h:¬p i=true):nh H1 D p (i+1) H4:=by
 apply(f.1.R s,?_);rw[D1,ah h,jG];exact s _ _ f.2
def jS(H:Hp)(D:Addr)(g:Nat->LN):Nat->Hp->Prop:=cz H D λi y ns=>∃b:df,(b.ns=g i/\ja H (lsN b))/\y=.ref b.a/\ns=lsN b
def jS.step{H H' q:Hp}{D r:Addr}{g:Nat->LN}{i:Nat}(z:H D=Β)(hi:i<1000000)(f:jS H D g i H')(s:aj H' q)(hr:H' r=Β)(e:q r=Α (.lst (iv (nv (g i))))):
  lj D (jS H D g (i+1)) (V.ref r) q:=
 cz.step z hi f s (ns:=lsN ⟨r,g i⟩) ⟨⟨r,g i⟩,⟨rfl,λx j=>by
  simp only[lsN,a9,k7,k8] at j;subst j;exact f.E.free hr⟩,rfl,rfl⟩ (λx j=>by
  simp only[lsN,a9,k7,k8] at j;subst j;exact e) (λx j e=>by
  simp only[lsN,a9,k7,k8] at j;subst j;exact f.has (by rw[<-e];exact hr))
def jS.end{H H':Hp}{D:Addr}{g:Nat->LN}{n:Nat}(O:H D=Β)(f:jS H D g n H'):∃y:cE,y.a=D/\aj H H'/\y.m=(List.range n).M g/\aV H' Çl/\ja H Çl:=by
 let(ys,Y,J,q,fl):=cz.end f;let(bs,F,z,W):=y8 (v:=λb:df=>V.ref b.a) (nd:=lsN) (R:=λi b=>b.ns=g i/\ja H (lsN b)) fl;subst F;rw[ao] at q;apply(⟨D,bs⟩,Á,Y,?_,WT J W,D0 O λb U=>?_)
 .apply Oz (by rw[ao,il];exact q) λi b x M h2=>?_;rw[bA] at h2;cases e:Él[i]? with
  |none=>rw[e] at h2;cases h2
  |some j=>
   rw[e] at h2;cases h2;rw[yZ e];exact(z i b M).1
 .let(i,hi,e):=nt U;exact(z i b (by rw[cJ hi,e])).2
theorem vV{α β:Type}{l:List α}{g:α->β}{d:α}:(List.range l.L).M (λi=>g (l.D i d))=l.M g:=by
 apply Oz (by rw[il,ao]) λi b x j h2=>?_;rw[bA] at h2;cases e:l[i]? with
 |none=>rw[e] at h2;cases h2
 |some z=>
  rw[e] at h2;cases h2;rw[yZ j,getD_at e]
def uq(ls:List (Nat×LI))(h:Nat×LI):LN:=(List.range ls.L).J λi=>xK h (ls.D i (0,[]))
def zg(ls:List (Nat×LI))(g:iW):bg:=g.flags.M (uq ls)
def Bb(C:Cs)(H:Hp)(p:Addr)(ls:List eC):Prop:=H p=Α (.lst (ls.M λl=>V.ref l.a))/\(∀l∈ls,Lies H (gW C l))/\∀l∈ls,l.cells.L=16
def Bb.same{C:Cs}{H H':Hp}{p:Addr}{ls:List eC}(h:Bb C H p ls)(s:aj H H'):Bb C H' p ls:=⟨s _ _ h.1,λl j=>(h.2.1 l j).E s,h.2.2⟩
inductive OB(C:Cs)(vs:az)(H:Hp)(Q:VK)(E':XK):Prop
 |mk (p:Addr) (ls:List eC) (h:eC) (_:vs=[.ref p,.ref h.a]) (_:Bb C H p ls) (_:ls.L<=100000) (_:Lies H (gW C h)) (_:h.cells.L=16) (_:∀H' r,Ů r (.lst (iv (nv (uq Æb h.m))))->Q ϣ H')
inductive OC(C:Cs)(vs:az)(H:Hp)(Q:VK)(E':XK):Prop
 |mk (p:Addr) (ls:List eC) (g:cA) (_:vs=[.ref p,.ref g.a]) (_:Bb C H p ls) (_:ls.L<=100000) (_:Lies H Çi) (_:g.flags.L<=100) (_:(∀s∈g.flags,s.cells.L=16)) (_:∀H' y,aj H H'->cE.m y=zg Æb g.m->aV H' Çl->ja H Çl->Q Áe H')
section
variable{P:Pg}{w:Wd}{K:FR}{mg:MG}{base:Heap}{CK CL CS N CV:Addr}{C:Cs}
def OD:bG ["looks","half","number","whole"] ["looks","half"] (bc Mx):=cj
def akx{f:Addr}{fd:FD}(F:bu K "kinds_that_look_so" "kinds_that_look_so" Mx f fd)(tE:mg "enumerate"=Β)(W:Ç 1 "may_be" ["half","whole"] (Ox C)):Ë 2 f fd ["looks","half"] (OB C):=by
 refine F.ok OD Â;let(p,ls,z,rfl,j,hl,hz,q,k):=h;refine⟨_,aB (aX (eB (own:=[("number",2),("whole",3)]) (g:=g2 K 2 3) (tt:=tB (g9 (Ox C) [] E0 (ba ž Âk))) (te:=ay 2) Á OD.nd
   (Ás) Ê
   (λ_ _ _ _ _=>iB 2 3 OD.nd)
   (λ_ _ _ _ _=>oG (ji (bz W (ae á ĳ)))) Äp)),?_⟩
 refine⟨_,Á,p,_,Á,aa.of j.1,λD M=>mi (K:=K) (a:=p) (xs:=ls.M λl=>V.ref l.a) (nh H D λi=>xK z.m ((ls.M eC.m).D i (0,[]))) (nh.zero M) (λi H' _ f=>aa.of (f.1 _ _ j.1)) ŕ þ⟩
 .let(l,J,rfl):=gR hi;let O:=bo J;let Z:=(bp.mp J).1;let s1:aj H' (Ϩ (.tup [.int (i:Nat),.ref l.a])):=aI hT;let U:=f.1.R s1;refine è;apply(_,Á,_,Á,z,l,Á,hz.E U,(j.2.1 l O).E U,by rw[q,j.2.2 l O];exact bC _,by simp_all,λY s3=>⟨_,rfl,?_⟩);let e:xK z.m ((ls.M eC.m).D i (0,[]))=xK z.m l.m:=by rw[getD_map J]
  refine a7 Î Î
  .exact(_,Á,f.yes M Ù Åz (e.R hc))
  .exact f.no Åz Å
 .let e:=f.2;rw[ao] at e;apply k H' D ⟨f.1,M,?_⟩;ext uq;symm
def OE:bG ["looks","glimpse","flag"] ["looks","glimpse"] (bc Mw):=cj
def akz{f:Addr}{fd:FD}(F:bu K "kinds_along" "kinds_along" Mw f fd)(T:ly K C)(U:Ç 2 "kinds_that_look_so" ["looks","half"] (OB C)):Ë 3 f fd ["looks","glimpse"] (OC C):=by
 refine F.ok OE Â;let(p,ls,g,rfl,Z,Y,z,n8,j,k):=h;let M:=z.fl;refine⟨_,aB (aX (eB (own:=[("flag",2)]) (te:=g9 (OB C) [] E0 (ba Ų (ba ř du))) Á OE.nd (dY Åi) Ê
   (λ_ _ _ _ _=>c6 2 OE.nd) Ñ (λ_ _ _ _ _=>bz U (ae Ö ł)))),?_⟩
 refine⟨_,Á,aZ z.ga T.cG T.vN (vM g) ⟨g.l,Á,⟨_,aa.of M⟩,λD hD=>fW (K:=K) (a:=g.l) (xs:=g.flags.M λs=>V.ref s.a) (jS H D λi=>uq Æb ((g.flags.M eC.m).D i (0,[]))) Ď (λi H' _ f=>aa.of (f.E _ _ M)) ą þ⟩⟩
 .let(sg,q,rfl):=gR hi;let O:=bo q;let dq:=(bp.mp q).1;exact(Á,eK ⟨_,Á,_,Á,p,ls,sg,Á,Z.E f.E,Y,(z.AN O).E f.E,j sg O,λH3 r J=>(jS.step hD Ù f J.1 J.2.1 (by rw[getD_map q];exact J.2.2))⟩)
 .let(y,rfl,s1,W,l1,fr):=jS.end hD f;apply k H' y s1 ?_ l1 fr;rw[W,ao];let:=vV (l:=g.flags.M eC.m) (g:=uq Æb) (d:=(0,[]));rw[ao] at this;exact this
end
def jT{β:Type}(nd:β->jq)(ad:β->Addr)(R:Nat->β->Prop)(H:Hp)(D:Addr):Nat->Hp->Prop:=cz H D λi y ns=>∃b:β,(R i b/\ja H (nd b))/\y=.ref (ad b)/\ns=nd b
def jT.step{β:Type}{nd:β->jq}{ad:β->Addr}{R:Nat->β->Prop}{H H' j:Hp}{D:Addr}{i:Nat}(z:H D=Β)(hi:i<1000000)(f:jT nd ad R H D i H')(s:aj H' j)(b:β)(r:R i b)(l:aV j (nd b))(fr:ja H' (nd b)):
  lj D (jT nd ad R H D (i+1)) (V.ref (ad b)) j:=
 cz.step z hi f s (ns:=nd b) ⟨b,⟨r,λx q=>f.E.free (fr x q)⟩,rfl,rfl⟩ l (λx q e=>f.has (by rw[<-e];exact fr x q))
def jT.end{β:Type}{nd:β->jq}{ad:β->Addr}{R:Nat->β->Prop}{H H':Hp}{D:Addr}{n:Nat}(f:jT nd ad R H D n H'):∃bs:List β,bs.L=n/\aj H H'/\H' D=Α (.lst (bs.M λb=>V.ref (ad b)))/\(∀(i:Nat)(b:β),bs[i]? =Α b->R i b)/\(∀b∈bs,aV H' (nd b))/\∀b∈bs,ja H (nd b):=by
 let(ys,O,F,j,fl):=cz.end f;let(bs,z,q,M):=y8 (v:=λb:β=>V.ref (ad b)) (nd:=nd) (R:=λi b=>R i b/\ja H (nd b)) fl;subst z;rw[ao] at j;apply(bs,j,O,F,λi b e=>(q i b e).1,M,λb J=>?_);let(i,hi,e):=nt J;exact(q i b (by rw[cJ hi,e])).2
def ja.back(h:ja H' ns)(s:aj H H'):ja H ns:=λx j=>s.free (h x j)
def Bc{α β γ:Type}{bs:List β}{l:List α}{m:β->γ}{g:α->γ}(q:bs.L=l.L)(h:∀(i:Nat)(b:β)(x:α),bs[i]? =Α b->l[i]? =Α x->m b=g x):bs.M m=l.M g:=
 Oz (by rw[ao];exact q) λi b y j h2=>by
  rw[bA] at h2;cases e:l[i]? with
  |none=>rw[e] at h2;cases h2
  |some x=>
   rw[e] at h2;cases h2;exact h i b x j e
structure vW where
 a:Addr
 dx:Addr
 gl:Addr
 side:Nat
 gs:List cE
def HB(v:vW):List (Str×V):=[("side",.int (v.side:Nat)),("glimpses",.ref v.gl)]
def rj(CV:Addr)(v:vW):jq:=(v.a,.ins CV v.dx (HB v))::(v.gl,.lst (v.gs.M λg=>V.ref g.a))::v.gs.flatMap fb
def akB(v:vW):(HB v).Q ("side":Str)=Α (.int (v.side:Nat)):=gM
def akC(v:vW):(HB v).Q ("glimpses":Str)=Α (.ref v.gl):=(fq É).R gM
def WU(h:aV H Æl):H v.a=Α (.ins CV v.dx (HB v)):=h (v.a,_) (by simp[rj])
def akD(h:aV H Æl):H v.gl=Α (.lst (v.gs.M λg=>V.ref g.a)):=h (v.gl,_) (by simp[rj])
def akE(h:aV H Æl)(j:g∈v.gs):aV H (fb g):=λx q=>h x (by
 ext rj;exact aL _ (aL _ (jh.mpr ⟨g,j,q⟩)))
def jU(classes:LI)(side:Nat)(k:ir):Nat×LI:=(k.shape,oQ k.look classes side)
def sJ(ms:aJ)(classes:LI)(side:Nat)(gs:List iW):List bg:=gs.M (zg (ms.M (jU classes side)))
structure rk(C:Cs)(H:Hp)(p:d7):Prop where
 l:Lies H Áx
 xM:p.classes.L=16
 c7:p.aq.L<=100
 flags:∀g∈p.aq,g.flags.L<=100
 cells:∀g∈p.aq,∀s∈g.flags,s.cells.L=16
def rk.same{C:Cs}{H H':Hp}{p:d7}(h:rk C H p)(s:aj H H'):rk C H' p:=⟨h.l.E s,h.xM,h.c7,h.flags,h.cells⟩
structure ni(CK:Addr)(H:Hp)(pk:Addr)(ks:List ax):Prop where
 a:H pk=Α (.lst (ks.M λk=>V.ref k.a))
 l:aV H (AZ CK ks)
 c7:ks.L<=100000
 look:∀k∈ks,gh k.m.look
def ni.same{CK:Addr}{H H':Hp}{pk:Addr}{ks:List ax}(h:Ń ks)(s:aj H H'):ni CK H' pk ks:=⟨s _ _ h.a,h.l.E s,h.c7,h.look⟩
inductive OF(C:Cs)(CK CV:Addr)(vs:az)(H:Hp)(Q:VK)(E':XK):Prop
 |mk (pk:Addr) (ks:List ax) (p:d7) (side:Nat) (_:vs=[.ref pk,.ref p.a,.int (side:Nat)]) (_:Ń ks) (_:rk C H p) (_:∀H' v,aj H H'->v.side=side->v.gs.M cE.m=sJ Ì p.classes side ò->aV H' Æl->ja H Æl->Q (.ref v.a) H')
section
variable{P:Pg}{w:Wd}{K:FR}{mg:MG}{base:Heap}{CK CL CS N CV:Addr}{C:Cs}
def Bd:bG ["kinds","plate","side","looks","kind","glimpse"] ["kinds","plate","side"] (bc Mv):=cj
def akF{look classes:LI}{side:Nat}(h:gh look):(Àu side).L=16:=by
 ext oQ;split
 .rfl
 .rw[ao,h.1]
def akG{f:Addr}{fd:FD}(F:bu K "view_of" "view_of" Mv f fd)(T:ly K C)(dV:Ā "View" CV ["side","glimpses"])(dS:Ç 3 "sighting_of" ["kind","classes","side"] År)(dA:Ç 3 "kinds_along" ["looks","glimpse"] (OC C)):
  a0 P w K mg base aF 4 f fd ["kinds","plate","side"] (OF C CK CV):=by
 refine F.ok Bd Â;let(pk,ks,p,side,rfl,hk,M,k):=h;refine⟨_,aD (cg 3 Bd.nd (eB (own:=[("kind",4)]) (te:=g9 År [] E0 (ba Ãt (ba (fk K ž "classes") (ba ř du)))) Á Bd.nd Åe Ê
   (λ_ _ _ _ _=>c6 4 Bd.nd) Ñ (λ_ _ _ _ _=>bz dS (ae ę (ae Ň ł)))))
  (aB (aX (pW dV hr (ae å (ae (eB (own:=[("glimpse",5)]) (te:=g9 (OC C) [] E0 (ba Ŀ Åg)) rfl Bd.nd (dY Ň) Ê
   (λ_ _ _ _ _=>c6 5 Bd.nd) Ñ (λ_ _ _ _ _=>bz dA (ae ö ŀ))) ag))))),?_⟩
 refine⟨_,Á,pk,Á,⟨_,aa.of hk.a⟩,λD hD=>fW (K:=K) (a:=pk) (xs:=ks.M λk=>V.ref k.a) (jT (gW C) eC.a (λi b=>∀k,ks[i]? =Α k->b.m=jU p.classes side k.m/\b.cells.L=16) H D) Ď (λi H' _ f=>aa.of (f.E _ _ hk.a)) ą þ⟩
 .let(z,j,rfl):=gR hi;let J:=bo j;let dq:=(bp.mp j).1;let hf:=hk.c7;apply(Á,eK ⟨_,Á,_,Á,aZ (f.E _ _ M.l.pl) T.cP T.DG (GX p) ⟨_,Á,z,p.cl,p.classes,side,Á,(nZ hk.l J).E f.E,hk.look z J,aa.of (f.E _ _ M.l.cl),M.xM,λU sg s3 e1 e2 ls fr=>?_⟩⟩);apply jT.step hD Ù f s3 sg (λk' Z=>?_) ls fr;rw[j] at Z;cases Z;apply(?_,by rw[e2];exact akF (hk.look z J));ext eC.m jU;symm
 .let(bs,iP,O,fX,r1,l1,fr1):=jT.end f;rw[ao] at iP;let W:Bb C H' D bs:=⟨fX,λb q=>l1 b q,λb q=>by
   let(i,hi,e):=nt q;exact(r1 i b (by grind) ks[i] (cJ (by omega))).2⟩
  let em:bs.M eC.m=(ks.M ax.m).M (jU p.classes side):=by
   rw[ck];exact Bc iP λi b x j h2=>(r1 i b j x h2).1
  let mU:=M.E O;let hf:=hk.c7;apply(_,Á,_,Á,aZ mU.l.pl T.cP T.m9 Äx ⟨p.gl,Á,⟨_,aa.of mU.l.gl⟩,λD2 cq=>fW (K:=K) (a:=p.gl) (xs:=p.aq.M λg=>V.ref g.a) (jT fb cE.a (λi b=>∀g,p.aq[i]? =Α g->b.m=zg (bs.M eC.m) g.m) H' D2) Ác (λi H2 _ f=>aa.of (f.E _ _ mU.l.gl)) (λi y H2 hi f=>?_) Æw⟩)
  .let(g,j,rfl):=gR hi;let J:=bo j;let dq:=(bp.mp j).1;let OG:=M.c7;apply(Á,eK ⟨_,Á,_,Á,D,bs,g,Á,W.E f.E,by simp_all,(mU.l.sub J).E f.E,M.flags g J,M.cells g J,λU y s3 e1 ls fr=>?_⟩);apply jT.step cq Ù f s3 y (λk' Z=>?_) ls fr;symm
  .let(gs,n8,s2,dg,r2,l2,Y):=jT.end f;rw[ao] at n8;apply xF Á λx dx U hx gV aN e3 s3=>?_;apply k U ⟨x,dx,D2,side,gs⟩ (O.R ğ) Á ?_ Âm λy hy=>?_
   .ext sJ;rw[ck,<-em];exact Bc n8 λi b x j h2=>r2 i b j x h2
   .simp only[rj,a9] at hy;rcases hy with rfl|rfl|hy
    .exact e3
    .exact s3 _ _ dg
    .let(b,q,hy):=jh.mp hy;exact s3 _ _ (l2 b q y hy)
   .simp only[rj,a9] at hy;rcases hy with rfl|rfl|hy
    .exact(O.R s2).free hx
    .exact O.free cq
    .let(b,q,hy):=jh.mp hy;exact O.free (Y b q y hy)
end
def in_nums(x:Nat)(l:LN):w6 (.int (x:Nat)) Èp=l.Y x:=by
 rw[Ni];grind
def HC(h:i<l.L):Èp[i]? =Α (.int ((l.D i 0:Nat):Int)):=by
 symm
def ig(y:cE):y.m.L=y.ls.L:=by ext cE.m;rw[ao]
def D4{y:cE}{i:Nat}{x:df}(h:y.ls[i]? =Α x):y.m.D i []=x.ns:=by ext cE.m;rw[getD_map h]
def zh(U:Nat)(h:LN)(seen:bg):Bool:=(List.range seen.L).all λi=>(seen.D i []).Y (h.D (U+i) 0)
inductive OI(vs:az)(H:Hp)(Q:VK)(E':XK):Prop
 |mk (uZ:Nat) (h:df) (y:cE) (_:vs=[.int (uZ:Nat),.ref h.a,.ref y.a]) (_:aV H (lsN h)) (_:aV H Çl) (_:uZ+y.ls.L<=h.ns.L) (_:y.ls.L<=100) (_:∀H',aj H H'->Q (.bl (zh uZ h.ns y.m)) H')
section
variable{P:Pg}{w:Wd}{K:FR}{mg:MG}{base:Heap}{CK CL CS N CV:Addr}{C:Cs}
def OJ:bG ["place","hoist","kinds_seen","number","kinds"] ["place","hoist","kinds_seen"] (bc MB):=cj
def akJ{f:Addr}{fd:FD}(F:bu K "fits_at" "fits_at" MB f fd)(tA:mg "all"=Β)(tE:mg "enumerate"=Β):Ë 1 f fd ["place","hoist","kinds_seen"] OI:=by
 refine F.ok OJ Â;let(U,h,y,rfl,Z,M,lY,Aq,k):=h;refine⟨_,aB (aX (c9 (w8 Á) Ï tA zZ (ae (eB (own:=[("number",3),("kinds",4)]) (g:=g2 K 3 4) (te:=bU (FZ K false) (bU Ũ ž (bU adu Ų Ŀ)) Ãt) Á OJ.nd
   (jP Ï tE ł) Ê
   (λ_ _ _ _ _=>iB 3 4 OJ.nd) Ñ
   (λ_ _ _ _ _=>j8 KB (cK dc á (eA pL Ö ö) Õ) ę (by with_unfolding_all rfl))) ag))),?_⟩
 refine⟨_,Á,y.a,_,Á,aa.of (jv M),λD hD=>mi (K:=K) (a:=y.a) (xs:=y.ls.M λx=>V.ref x.a) (cz H D λi v ns=>ns=[]/\v=.bl ((y.m.D i []).Y (h.ns.D (U+i) 0))) Ď (λi H' _ f=>aa.of (f.E _ _ (jv M))) ŕ þ⟩
 .let(l,J,rfl):=gR hi;let hm:=bo J;let dq:=(bp.mp J).1;let z:aj H' (Ϩ (.tup [.int (i:Nat),.ref l.a])):=aI hT;let W:=f.E.R z;refine à;apply(_,Á,_,Á,_,Á,_,_,Á,Á,h.a,_,_,.int ((h.ns.D (U+i) 0:Nat):Int),Á,Á,aa.of (W _ _ (DZ Z)),f7 (j:=U+i) (HC Ù),_,Á,l.a,_,Á,.inl (aa.of (W _ _ (ng M hm))),Á,DB _,?_);refine f.step hD Ù z Ţ aV.nil Ä;rw[D4 J,<-in_nums];rfl
 .let(ys,z,Y,O,fl):=f.end;rw[ao] at O;apply(D,(List.range y.ls.L).M λi=>(y.m.D i []).Y (h.ns.D (U+i) 0),Á,aa.of (HA Y O λi v e=>?_),?_)
  .let(ns,(_,e),_):=fl i v e;omega
  .let q:=k H' z;delta zh at q;rw[ig] at q;symm
def oR(below:Bool)(u:Nat):Nat:=if below=true then 0 else u
def ur(above:Bool)(u:Nat):Nat:=if above=true then u else 0
def OK(a b:Bool)(u:Nat)(h:LN)(seen:bg):Bool:=(List.range (ur a u+1-oR b u)).any λi=>zh (oR b u+i) h seen
def vX(h:LN)(g:iW)(seen:bg):Bool:=OK g.above g.below (h.L-g.flags.L) h seen
inductive OL(C:Cs)(vs:az)(H:Hp)(Q:VK)(E':XK):Prop
 |mk (h:df) (g:cA) (y:cE) (_:vs=[.ref h.a,.ref g.a,.ref y.a]) (_:aV H (lsN h)) (_:Lies H Çi) (_:aV H Çl) (_:y.ls.L=g.flags.L) (_:g.flags.L<=h.ns.L) (_:h.ns.L<=100) (_:∀H',aj H H'->Q (.bl (vX h.ns g.m y.m)) H')
def Be:bG ["hoist","glimpse","kinds_seen","unseen","first","last","place"] ["hoist","glimpse","kinds_seen"] (bc MA):=cj
def akK(F:bu K "hoist_fits" "hoist_fits" MA f fd)(T:ly K C)(tL:mg "len"=Β)(tA:mg "any"=Β)(tR:mg "range"=Β)(W:Ç 1 "fits_at" ["place","hoist","kinds_seen"] OI):Ë 2 f fd ["hoist","glimpse","kinds_seen"] (OL C):=by
 refine F.ok Be Â;let(h,g,y,rfl,M,J,hy,tQ,lY,Aq,k):=h;refine⟨_,aD (cg 3 Be.nd (eA rW č (c9 gw Ï tL PySem.boot_len (ae Åi ag))))
  (aD (cg 4 Be.nd (tJ (ji Ň) bf ö))
  (aD (cg 5 Be.nd (tJ (ji Ň) ö bf))
  (aB (aX (c9 (KM rfl) Ï tA boot_any (ae (eB (own:=[("place",6)]) (te:=g9 OI [] E0 (ba (ay 6) (ba Ų (ba ř du)))) rfl Be.nd (ac2 Ï tR (ae ę (ae (eA pL Ãd bf) ag))) Ê
   (λ_ _ _ _ _=>c6 6 Be.nd) Ñ (λ_ _ _ _ _=>bz W (ae Ϫ (ae Ö ł)))) ag)))))),?_⟩
 let Z:((h.ns.L:Nat):Int)-((g.flags.L:Nat):Int)=((h.ns.L-g.flags.L:Nat):Int):=by grind
 apply(_,Á,h.a,_,Á,.inl (aa.of (DZ M)),_,Á,aZ J.ga T.cG T.vN (vM g) ⟨g.l,_,Á,.inl (aa.of J.fl),_,_,Á,Á,?_⟩);dsimp only;rw[dy,gQ,ao,Z];let k:=k;delta vX at k;rw[show g.m.flags.L=g.flags.L by ext cA.m;rw[ao],show g.m.above=g.above from rfl,show g.m.below=g.below from rfl] at k;generalize hu:h.ns.L-g.flags.L=u at k;delta OK at k;apply Gs g.below (.int ((oR g.below u:Nat):Int)) (λK q=>⟨_,Á,aZ J.ga T.cG T.Nr (Np g) ⟨_,Á,q⟩⟩) ϸ (λe K q=>Ę) ?_
 .rw[e] at q;exact q
 .rw[e] at q;exact q
 .dsimp only;apply U8 (U7 g.above (.int ((ur g.above u:Nat):Int)) (λK q=>⟨_,Á,aZ J.ga T.cG T.Nq (Nn g) ⟨_,Á,q⟩⟩) (λe K q=>Ę) ϸ ?_)
  .rw[e] at q;exact q
  .rw[e] at q;exact q
  .let O:oR g.below u<=u:=by ext oR;split <;> simp_all
   let U:ur g.above u<=u:=by ext ur;split <;> simp_all
   generalize oR g.below u=j at O k;generalize ur g.above u=z at U k;apply(_,Á,_,Á,_,_,Á,Á,(j:Int),((z:Int)+1),Á,⟨by simp_all,by af,by af,by af⟩,λD hD=>?_);rw[show(((z:Nat):Int)+1-(j:Nat)).toNat=z+1-j by simp_all];refine C0 (lo:=(j:Int)) (n:=z+1-j) (cz H D λi v ns=>ns=[]/\v=.bl (zh (j+i) h.ns y.m)) Ď Ây þ
   .apply(Á,eK ⟨_,Á,_,Á,_,Á,j+i,h,y,?_,aV.E M f.E,aV.E hy f.E,by omega,by af,λH3 s3=>?_⟩)
    .rfl
    .exact f.step hD (by omega) s3 ⟨Á,Á⟩ aV.nil Ä
   .let(ys,s1,fX,Y,fl):=f.end;apply(D,(List.range (z+1-j)).M λi=>zh (j+i) h.ns y.m,Á,aa.of (HA fX Y λi v e=>?_),?_)
    .let(ns,(_,e),_):=fl i v e;omega
    .symm
def oS:bg->List iW->List bg->Bool
 |h::hs,g::gs,s::ss=>vX h g s&&oS hs gs ss
 |_,_,_=>true
inductive OM(C:Cs)(CV:Addr)(vs:az)(H:Hp)(Q:VK)(E':XK):Prop
 |mk (y:cE) (p:d7) (v:vW) (_:vs=[.ref y.a,.ref p.a,.ref v.a]) (_:aV H Çl) (_:rk C H p) (_:aV H Æl) (_:y.ls.L=p.aq.L) (_:v.gs.L=p.aq.L) (_:(∀(i:Nat)(h:df)(g:cA)(s:cE),y.ls[i]? =Α h->p.aq[i]? =Α g->v.gs[i]? =Α s->s.ls.L=g.flags.L/\g.flags.L<=h.ns.L/\h.ns.L<=100)) (_:∀H',aj H H'->Q (.bl (oS y.m ò ϶)) H')
theorem akL(hs:bg):∀(gs:List iW)(ss:List bg),hs.L=gs.L->ss.L=gs.L->oS hs gs ss=(List.range hs.L).all λi=>vX (hs.D i []) (gs.D i ⟨false,false,[]⟩) (ss.D i []):=by
 induction hs with
 |nil=>
  intro gs ss j h2;cases gs with
  |nil=>cases ss with
   |nil=>rfl
   |cons _ _=>cases h2
  |cons _ _=>cases j
 |cons h hs q=>
  intro gs ss j h2;cases gs with
  |nil=>cases j
  |cons g gs=>cases ss with
   |nil=>cases h2
   |cons s ss=>
    let q:=q gs ss (À j) (À h2);ext oS;rw[q,dh,zX,tu,rJ];rfl
def ON:bG ["hoists","plate","view","j","hoist"] ["hoists","plate","view"] (bc Mz):=cj
def akM{f:Addr}{fd:FD}(F:bu K "fits" "fits" Mz f fd)(T:ly K C)(W:ju K CV ["side","glimpses"])(tA:mg "all"=Β)(tE:mg "enumerate"=Β)(dF:Ç 2 "hoist_fits" ["hoist","glimpse","kinds_seen"] (OL C)):Ë 3 f fd ["hoists","plate","view"] (OM C CV):=by
 refine F.ok ON Â;let(y,p,v,rfl,U,M,O,e9,jN,aE,k):=h;refine⟨_,aB (aX (c9 (w8 Á) Ï tA zZ (ae (eB (own:=[("j",3),("hoist",4)]) (g:=g2 K 3 4) (te:=g9 (OL C) [] E0 (ba Ãt (ba (bU Ũ (fk K ž "glimpses") Ŀ) (ba (bU Ũ (fk K ř "glimpses") Ŀ) du)))) Á ON.nd
   (Ás) Ê
   (λ_ _ _ _ _=>iB 3 4 ON.nd) Ñ
   (λ_ _ _ _ _=>bz dF (ae ę (ae (cK dc Ň ö Õ) (ae (cK dc Àt ö Õ) ag))))) ag))),?_⟩
 let Aq:=M.c7;rw[akL _ _ _ (by rw[ig,ao];exact e9) Å,ig] at k;refine⟨_,Á,y.a,_,Á,aa.of (jv U),λD hD=>mi (K:=K) (a:=y.a) (xs:=y.ls.M λx=>V.ref x.a) (cz H D λi u ns=>ns=[]/\u=.bl (vX Èc ((p.aq.M cA.m).D i ⟨false,false,[]⟩) ((v.gs.M cE.m).D i []))) Ď (λi H' _ f=>aa.of (f.E _ _ (jv U))) ŕ þ⟩
 .let(l,q,rfl):=gR hi;let hm:=bo q;let dq:=(bp.mp q).1;let s1:aj H' (Ϩ (.tup [.int (i:Nat),.ref l.a])):=aI hT;let j:=f.E.R s1;obtain⟨g,J⟩:∃g,p.aq[i]? =Α g:=⟨_,cJ Å⟩;obtain⟨z,hz⟩:∃z,v.gs[i]? =Α z:=⟨_,cJ Å⟩;let(o1,o2,o3):=aE i l g z q J hz;let HE:=bo J;let Z:=bo hz;refine à;refine⟨_,Á,_,Á,aZ (j _ _ M.l.pl) T.cP T.m9 Äx ⟨_,Á,p.gl,_,_,.ref g.a,Á,Á,aa.of (j _ _ M.l.gl),f7 (by rw[bA,J];rfl),
   _,rfl,aZ (j _ _ (WU O)) W.1 (W.2 _ Ä) (akC v) ⟨_,rfl,v.gl,_,_,.ref z.a,rfl,rfl,aa.of (j _ _ (akD O)),f7 (by rw[bA,hz];rfl),l,g,z,rfl,λx hx=>?_,(M.l.sub HE).E j,(akE O Z).E j,o1,o2,o3,λH3 s3=>?_⟩⟩⟩
  .exact j _ _ (U x (by ext fb;exact aL _ (jh.mpr ⟨l,hm,hx⟩)))
  .refine f.step hD Ù Åz Ţ aV.nil Ä;rw[D4 q,getD_map J,getD_map hz]
 .let(ys,s1,fX,Y,fl):=f.end;rw[ao] at Y;apply(D,_,Á,aa.of (HA (b:=λi=>vX Èc ((p.aq.M cA.m).D i ⟨false,false,[]⟩) ((v.gs.M cE.m).D i [])) fX Y λi v e=>?_),?_)
  .let(ns,(_,e),_):=fl i v e;omega
  .symm
end
def p9(p:Nat->Bool)(g:Nat->Int)(n:Nat):LI:=((List.range n).J p).M g
def nj(H1:Hp)(D:Addr)(p:Nat->Bool)(g:Nat->Int)(i:Nat)(H:Hp):Prop:=aj H1 H/\H D=Α (.lst (iv (p9 p g i)))
def nj.zero(j:H1 D=Β):nj H1 D p g 0 Đ:=⟨aI j,au⟩
def akN(p:Nat->Bool)(g:Nat->Int)(i:Nat):(p9 p g i).L<=i:=by
 ext p9;grind
def nj.yes(j:H1 D=Β)(hi:i<1000000)(f:nj H1 D p g i H)(s:aj H H4)(h:p i=true)(q:v=V.int (g i)):lj D (nj H1 D p g (i+1)) v H4:=by
 subst q;apply(_,s _ _ f.2,?_,fe (f.1.R s) j,?_)
 .rw[dy];let:=akN p g i;exact gc Ù
 .ext p9;rw[au,D1,ai h,bI];simp
def nj.no(f:nj H1 D p g i H)(s:aj H H4)(h:¬p i=true):nj H1 D p g (i+1) H4:=by
 apply(f.1.R s,?_);ext p9;rw[D1,ah h,jG];exact s _ _ f.2
def fg(H1:Hp)(D:Addr)(g:Nat->Int)(i:Nat)(H:Hp):Prop:=aj H1 H/\H D=Α (.lst (iv ((List.range i).M g)))
def fg.zero(j:H1 D=Β):fg H1 D g 0 Đ:=⟨aI j,au⟩
def fg.step(j:H1 D=Β)(hi:i<1000000)(f:fg H1 D g i H)(s:aj H H4)(q:v=V.int (g i)):lj D (fg H1 D g (i+1)) v H4:=by
 subst q;apply(_,s _ _ f.2,?_,fe (f.1.R s) j,?_)
 .rw[dy,ao,il];exact gc Ù
 .rw[au,JR,bI];simp
def mv(ms:aJ)(s:Nat):Int:=(ms.D s eX).lH
def Bf(ms:aJ)(sames row:LN)(above b:Nat):Bool:=decide (mv ms ŋ<=(above:Int))&&decide (row.D ((mv ms ŋ).toNat-1) 0=row.D above 0)
def HF(ms:aJ)(sames row:LN)(above:Nat):Int:=(p9 (Bf ms sames row above) (λb=>2^b) sames.L).sum
structure D7(ms:aJ)(sames:LN):Prop where
 c7:sames.L<=1000
 lt:∀s∈sames,s<ms.L
 pos:∀s∈sames,1<=mv ms s
inductive OO(CK:Addr)(vs:az)(H:Hp)(Q:VK)(E':XK):Prop
 |mk (pk ps pr:Addr) (ks:List ax) (sames row:LN) (above:Nat) (_:vs=[.ref pk,.ref ps,.ref pr,.int (above:Nat)]) (_:Ń ks) (_:H ps=Α Àb) (_:D7 Ì sames) (_:H pr=Α Äi) (_:above<row.L) (_:∀H',aj H H'->Q (.int (HF Ì sames row above)) H')
section
variable{P:Pg}{w:Wd}{K:FR}{mg:MG}{base:Heap}{CK CL CS N CV:Addr}{C:Cs}
def Ea:bG ["kinds","sames","row","above","whiches","number","bit","which"] ["kinds","sames","row","above"] (bc MP):=cj
def boot_sum:bootBuiltins "sum"=Α (.builtin "sum"):=by decide+kernel
def akO(F:bu K "bits_of_sames" "bits_of_sames" MP f fd)(T:ue K CK)(tS:mg "sum"=Β)(tE:mg "enumerate"=Β):Ë 1 f fd ["kinds","sames","row","above"] (OO CK):=by
 refine F.ok Ea Â;let(pk,ps,pr,ks,sames,row,above,rfl,hk,lL,J,ip,lx,k):=h;refine⟨_,aD (tU (i:=4) (own:=[("number",5)]) (te:=fk K (bU Ũ Ų (ay 5)) "which") Á Ea.nd Á Á Ï Åd Ê
   (λ_ _ _ _ _=>c6 5 Ea.nd) Ñ (λ_ _ _ _ _=>aY (cK dc Ö Ãd Õ) rfl))
  (aB (aX (c9 (KG rfl) Ï tS boot_sum (ae (eB (own:=[("bit",6),("which",7)]) (g:=g2 K 6 7) (tt:=FG (mY (bU (gG λi j=>.bl (decide (i<=j))) Æj Ŀ)) (mY (bU pN (bU Ũ ř (bU (gG λi j=>.int (i-j)) Æj Äq)) (bU Ũ ř Ŀ)))) (te:=bU (rI Kl λi j=>.int (i*2^j.toNat)) Äq (ay 6)) rfl Ea.nd
   (jP Ï tE ŝ) Ê
   (λ_ _ _ _ _=>iB 6 7 Ea.nd)
   (λ_ _ _ _ _=>oG (PW.pt (pw_and (cy yB Èe ö (bV _)) (pw_and1 (cy iC (cK dc å (eA rW Èe bf) Õ) (cK dc å ö Õ) (bV _))))))
   (λ_ _ _ _ _=>eA FU bf Ϫ)) ag)))),?_⟩
 refine⟨_,Á,ps,Á,⟨_,aa.of lL⟩,λD hD=>fW (K:=K) (a:=ps) (xs:=iv (nv sames)) (fg H D λi=>mv Ì Ŋ) Áa (λi H' _ f=>aa.of (f.1 _ _ lL)) ą þ⟩
 .let(z,hz,rfl):=jt hi;let dq:=(bp.mp hz).1;let D5:=bo hz;let Y:=J.lt z D5;let WW:=J.c7;rw[ao] at Y;obtain⟨b,hb⟩:∃b,ks[z]? =Α b:=⟨_,cJ Y⟩;apply(Á,eK ⟨_,Á,_,Á,pk,_,_,.ref b.a,Á,Á,aa.of (f.1 _ _ hk.a),f7 Å,aZ (jR ((nZ hk.l Èt).E f.1)) T.c T.N6 (N0 b) ?_⟩);apply fg.step hD Ù f Ĥ ?_;ext mv;symm
 .let hd:=f.2;let s1:=f.1;rw[dy,gQ] at hd;apply(_,Á,D,_,Á,aa.of hd,λU Z=>mi (K:=K) (a:=D) (xs:=iv ((List.range sames.L).M λi=>mv Ì Ŋ)) (nj H' U (Bf Ì sames row above) (λb=>2^b)) (nj.zero Z) (λi H2 _ f=>aa.of (f.1 _ _ hd)) (λi x Tt H2 hi f2 hT=>?_) Åw)
  .let(z,hz,rfl):=ub hi;rw[bA] at hz;cases er:(List.range sames.L)[i]? with
   |none=>symm
   |some j=>
    rw[er] at hz;let dq:=(bp.mp er).1;rw[il] at dq;cases yZ er;let hz:mv Ì Ŋ=z:=aU hz;subst hz;let WW:=J.c7;let WX:=J.pos Ŋ Å;let M:aj H2 (Ū (.tup [.int (i:Nat),.int (mv Ì Ŋ)])):=aI hT;let O:=(s1.R f2.1).R M;refine è;let eb:Bf Ì sames row above i=(decide (mv Ì Ŋ<=(above:Int))&&decide (row.D ((mv Ì Ŋ).toNat-1) 0=row.D above 0)):=rfl;generalize mv Ì Ŋ=W at WX eb M O;apply and_val (decide (W<=(above:Int))) (decide (row.D (W.toNat-1) 0=row.D above 0)) (λK q=>⟨_,Á,_,Á,_,_,Á,Á,_,Á,q⟩) (λhc K q=>?_) (a7 Î Î)
    .let lY:=mQ hc;apply(_,Á,_,Á,_,_,Á,Á,pr,_,_,.int ((row.D (W.toNat-1) 0:Nat):Int),Á,Á,aa.of (O _ _ ip),?_,_,Á,_,Á,pr,_,_,.int ((row.D above 0:Nat):Int),Á,Á,aa.of (O _ _ ip),f7 (HC lx),Á,_,Á,?_)
     .rw[show W-1=((W.toNat-1:Nat):Int) by af];exact f7 (HC Ù)
     .rw[nG];omega
    .apply(_,Á,_,_,Á,Á,⟨by simp_all,by af,by decide⟩,?_);apply f2.yes Z Ù M (eb.R hc) ?_;simp
    .exact f2.no M Å
  .let e:=f2.2;rw[dy,ao,il] at e;exact(U,_,Á,aa.of e,k H2 (s1.R f2.1))
end
def Ec(K:FR)(t:TE):TT:=λσ H Q=>t σ H λx H'=>∃k,Kr K x H' k/\Q k H'
def uu(ms:aJ)(sames row:LN)(above:Nat):Nat:=(((List.range sames.L).J (Bf ms sames row above)).M (2^ ·)).sum
theorem akP(l:LN):(nv l).sum=((l.sum:Nat):Int):=by
 induction l with
 |nil=>rfl
 |cons a l j=>
  symm
def akQ(ms:aJ)(sames row:LN)(above:Nat):HF ms sames row above=((uu ms sames row above:Nat):Int):=by
 ext HF uu p9;rw[<-akP];ext nv;rw[ck];congr 1
def rl(ms:aJ)(sames row:LN):LN:=(List.range row.L).M (uu ms sames row)
inductive OP(CK:Addr)(vs:az)(H:Hp)(Q:VK)(E':XK):Prop
 |mk (pk ps pr:Addr) (ks:List ax) (sames row:LN) (_:vs=[.ref pk,.ref ps,.ref pr]) (_:Ń ks) (_:H ps=Α Àb) (_:D7 Ì sames) (_:H pr=Α Äi) (_:row.L<=1000) (_:∀H' p,Ů p (.lst (iv (nv (rl Ì sames row))))->Q Ĝ H')
def iw(g b:Nat):Bool:=Builtin.bitAnd (b:Int) (Builtin.bitNot (g:Int))!=0
def sL(g:Nat)(j:LN):Nat:=(j.J (iw g)).L
inductive OQ(K:FR)(vs:az)(H:Hp)(Q:VK)(E':XK):Prop
 |mk (g:Nat) (pp:Addr) (places:LN) (_:vs=[.int (g:Nat),.ref pp]) (_:ä pp (iv (nv places))) (_:places.L<=1000) (_:∀H',aj H H'->Q (.int ((sL g places:Nat):Int)) H')
def zi(g b:Nat):Bool:=Builtin.bitAnd ((g:Int)/2^b) 1!=0
def sM(ms:aJ)(sames:LN)(g:Nat):Int:=(p9 (zi g) (λb=>(ms.D ŋ eX).copies) sames.L).sum
inductive OR(CK:Addr)(vs:az)(H:Hp)(Q:VK)(E':XK):Prop
 |mk (g:Nat) (pk ps:Addr) (ks:List ax) (sames:LN) (_:vs=[.int (g:Nat),.ref pk,.ref ps]) (_:Ń ks) (_:H ps=Α Àb) (_:D7 Ì sames) (_:∀H',aj H H'->Q (.int (sM Ì sames g)) H')
section
variable{P:Pg}{w:Wd}{K:FR}{mg:MG}{base:Heap}{CK CL CS N CV:Addr}{C:Cs}
def OS:bG ["kinds","sames","row","above"] ["kinds","sames","row"] (bc MO):=cj
def akR(F:bu K "sames_along" "sames_along" MO f fd)(tL:mg "len"=Β)(W:mg "range"=Β)(z:Ç 1 "bits_of_sames" ["kinds","sames","row","above"] (OO CK)):Ë 2 f fd ["kinds","sames","row"] (OP CK):=by
 refine F.ok OS Â;let(O,ps,q,ks,sames,row,rfl,hk,M,J,j,Y,k):=h;refine⟨_,aB (aX (eB (own:=[("above",3)]) (te:=g9 (OO CK) [] E0 (ba Ų (ba ž (ba ř Âk)))) Á OS.nd (FK Ï W (ae ā ag)) Ê
  (λ_ _ _ _ _=>c6 3 OS.nd) Ñ (λ_ _ _ _ _=>bz z (ae Ö (ae á (ae å ĳ)))))),?_⟩
 apply(_,Á,q,_,Á,.inl (aa.of j),(row.L:Int),by simp,by simp_all,by af,λD hD=>?_);rw[BV];refine C0 (lo:=0) (n:=row.L) (fg H D λi=>HF Ì sames row i) Áa Ây þ
 .apply(Á,eK ⟨_,Á,_,Á,_,Á,_,Á,O,ps,q,ks,sames,row,i,?_,hk.E f.1,f.1 _ _ M,J,f.1 _ _ j,hi,λZ U=>?_⟩)
  .simp
  .exact fg.step hD Ù f U Á
 .apply k H' D ⟨f.1,hD,?_⟩;rw[f.2];ext rl nv;rw[ck];congr 3;exact iU λi _=>akQ _ _ _ i
def OT:bG ["group","places","bits"] ["group","places"] (bc MS):=cj
def akS(F:bu K "places_outside" "places_outside" MS f fd)(O:mg "len"=Β):Ë 1 f fd ["group","places"] (OQ K):=by
 refine F.ok OT Â;let(g,J,places,rfl,Z,U,k):=h;refine⟨_,aB (aX (c9 gw Ï O PySem.boot_len (ae (eB (own:=[("bits",2)]) (tt:=Ec K (bU (gG λi j=>.int ś) ř (FQ (rU λi=>.int Ås) Ų))) (te:=ay 2) Á OT.nd Åd Ê
  (λ_ _ _ _ _=>c6 2 OT.nd) (λ_ _ _ _ _=>oG (Aj (eA yz å (iV SN Ö)) Än)) Äp) ag))),?_⟩
 refine⟨_,Á,J,Á,⟨_,Z⟩,λD q=>fW (K:=K) (a:=J) (xs:=iv (nv places)) (nj H D (λi=>iw g Æg) (λi=>((places.D i 0:Nat):Int))) (nj.zero q) (λi H' _ f=>f.1.seq Z) ą þ⟩
 .let(z,hz,rfl):=jt hi;let W:=(bp.mp hz).1;refine⟨Á,_,Á,_,Á,_,Á,_,_,Á,Á,_,Á,a7 Î Î⟩
  .exact(_,Á,f.yes q (by omega) Ĥ (by rw[getD_at hz];exact hc) Å)
  .exact f.no Ĥ (by rw[getD_at hz];exact hc)
 .let e:=f.2;rw[dy,gQ] at e;apply(D,_,Á,.inl (aa.of e),?_);let el:(iv (p9 (λi=>iw g Æg) (λi=>((places.D i 0:Nat):Int)) places.L)).L=sL g places:=by
   rw[dy];ext p9 sL;rw[ao];let M:((List.range places.L).J λi=>iw g Æg).L=(((List.range places.L).M λi=>places.D i 0).J (iw g)).L:=by
    rw[wJ,ao];rfl
   rw[M];let h2:=vV (l:=places) (g:=λx=>x) (d:=0);symm
  rw[el];exact k H' f.1
def OU:bG ["group","kinds","sames","bit","number"] ["group","kinds","sames"] (bc MT):=cj
def akT(F:bu K "copies_in" "copies_in" MT f fd)(T:ue K CK)(tS:mg "sum"=Β)(tE:mg "enumerate"=Β):Ë 1 f fd ["group","kinds","sames"] (OR CK):=by
 refine F.ok OU Â;let(g,Z,ps,ks,sames,rfl,hk,U,M,k):=h;refine⟨_,aB (aX (c9 (KG Á) Ï tS boot_sum (ae (eB (own:=[("bit",3),("number",4)]) (g:=g2 K 3 4) (tt:=Ec K (bU (gG λi j=>.int ś) (bU (rI (λ_ j=>0<=j) λi j=>.int (i/2^j.toNat)) Ų Ŀ) Äq)) (te:=fk K (bU Ũ ž Ãt) "copies") Á OU.nd
  (jP Ï tE ł) Ê
  (λ_ _ _ _ _=>iB 3 4 OU.nd)
  (λ_ _ _ _ _=>oG (Aj (eA yz (eA Ko Ö ö) bf) Än)) (λ_ _ _ _ _=>aY (cK dc á ę Õ) rfl)) ag))),?_⟩
 refine⟨_,Á,ps,_,Á,aa.of U,λD O=>mi (K:=K) (a:=ps) (xs:=iv (nv sames)) (nj H D (zi g) (λb=>((ks.M ax.m).D ŋ eX).copies)) (nj.zero O) (λi H' _ f=>aa.of (f.1 _ _ U)) ŕ þ⟩
 .let(z,hz,rfl):=jt hi;let dq:=(bp.mp hz).1;let Y:=bo hz;let J:=M.lt z Y;let WW:=M.c7;rw[ao] at J;obtain⟨b,hb⟩:∃b,ks[z]? =Α b:=⟨_,cJ J⟩;let q:aj H' (Ϩ (.tup [.int (i:Nat),.int (z:Nat)])):=aI hT;let W:=f.1.R q;refine è;refine⟨_,Á,_,Á,_,_,Á,Á,R1 i,_,_,Á,Á,_,Á,a7 Î Î⟩
  .exact(_,Á,_,Á,Z,_,_,.ref b.a,Á,Á,aa.of (W _ _ hk.a),f7 Å,aZ (jR ((nZ hk.l Èt).E W)) T.c T.N7 (N5 b) (f.yes O Ù q hc Å))
  .exact f.no q hc
 .let e:=f.2;rw[dy,gQ] at e;exact(D,_,Á,aa.of e,k H' f.1)
end
def gI(n:Nat):V:=.int (n:Nat)
def oneMore(t:cI)(s:Nat):cI:=eU t s ((cu t s).D 0+1)
def gY(F:LN):cI:=F.foldl oneMore []
def Ee(l:LN)(s:Nat):gY (l++[s])=oneMore (gY l) s:=by
 ext gY;simp
def snoc_ind{α:Type}{P:List α->Prop}(j:P [])(hs:∀l a,P l->P (l++[a]))(l:List α):P l:=by
 let h:∀m:List α,P m.reverse:=λm=>by
  induction m with
  |nil=>exact j
  |cons a m q=>symm
 let:=h l.reverse;symm
def OV(l:LN):(gY l).L<=l.L:=by
 refine snoc_ind (P:=λl=>(gY l).L<=l.L) (bC _) Äl l;rw[Ee,j5];let:=Vb (gY l) s ((cu (gY l) s).D 0+1);ext oneMore;grind
def HG(l:LN):((gY l).M (·.1)).Nodup:=by
 refine snoc_ind (P:=λl=>((gY l).M (·.1)).Nodup) z7 Äl l;rw[Ee];exact Gw ih
def WY(l:LN)(s:Nat):(cu (gY l) s).D 0=l.count s:=by
 refine snoc_ind (P:=λl=>(cu (gY l) s).D 0=l.count s) Á Ϙ l;rw[Ee];ext oneMore;rw[Gv,List.count_append];by_cases h:s=x
 .subst h;rw[ai rfl,ih,List.count_singleton_self];rfl
 .rw[ah h,ih,List.count_eq_zero_of_not_mem (l:=[x]) (À h)];rfl
def WZ(l:LN)(s:Nat):(cu (gY l) s).isSome=l.Y s:=by
 refine snoc_ind (P:=λl=>(cu (gY l) s).isSome=l.Y s) Á Ϙ l;rw[Ee];ext oneMore;rw[Gv];by_cases h:s=x
 .subst h;rw[ai rfl];simp
 .rw[ah h,ih];simp[h]
def W1(h:p∈gY l):p.1∈l:=by
 let j:=AF (HG l) (s:=p.1) (v:=p.2) h;let h2:=WZ l p.1;symm
def uv(ms:aJ)(s:Nat):Int:=(ms.D s eX).copies
def qd(ms:aJ)(p:Nat×Nat):Option (Nat×Int):=if (p.2:Int)>uv ms p.1 then some (p.1,(p.2:Int)-uv ms p.1) else none
def jV(ms:aJ)(F:LN):List (Nat×Int):=(gY F).filterMap (qd ms)
theorem HH(ms:aJ):∀t:cI,((t.filterMap (qd ms)).M (·.1)).Sublist (t.M (·.1)):=by
 intro t;induction t with
 |nil=>exact abt _
 |cons p t j=>
  let j:=j;rw[BW,a8];let q:qd ms p=Β\/∃z,qd ms p=Α (p.1,z):=by
   ext qd;split
   .exact .inr ⟨_,Á⟩
   .exact .inl Á
  rcases q with e|⟨z,e⟩
  .rw[e];exact List.Sublist.cons _ j
  .rw[e];exact List.Sublist.cons₂ _ j
structure OW(H:Hp)(y:cE)(n:Nat):Prop where
 l:aV H Çl
 c7:y.ls.L<=1000
 short:∀x∈y.ls,x.ns.L<=1000
 lt:∀x∈y.ls,∀s∈x.ns,s<n
inductive W2(CK:Addr)(vs:az)(H:Hp)(Q:VK)(E':XK):Prop
 |mk (pk:Addr) (ks:List ax) (y:cE) (_:vs=[.ref pk,.ref y.a]) (_:Ń ks) (_:OW H y ks.L) (_:∀H' p,Ů p (.dK (bX V.int Äy))->Q Ĝ H')
section
variable{P:Pg}{w:Wd}{K:FR}{mg:MG}{base:Heap}{CK CL CS N CV CP:Addr}{C:Cs}
def W3:bootBuiltins "dict"=Α (.type "dict"):=by decide+kernel
def Bg:bG ["kinds","rows","used","row","sign","times"] ["kinds","rows"] (bc MN):=cj
def akU(F:bu K "copies_lacking" "copies_lacking" MN f fd)(T:ue K CK)(tD:mg "dict"=Β):Ë 1 f fd ["kinds","rows"] (W2 CK):=by
 refine F.ok Bg Â;let(pk,ks,y,rfl,hk,Z,k):=h;refine⟨_,aD (cg 2 Bg.nd C7)
  (aD (Į Åd (c6 3 Bg.nd) (aB (Į (dY ö) (c6 4 Bg.nd)
   (aB (F6 Èj å ę (eA pL (aeX Èj å ę bf ⟨rfl,rfl,rfl,rfl⟩) bf) rfl)))))
  (aB (aX (vy (afa rfl) Ï tD W3 (ae (aff (eB (own:=[("sign",4),("times",5)]) (g:=g2 K 4 5) (tt:=mY (bU (gG λi j=>.bl (decide (j<i))) (ay 5) (fk K (bU Ũ Ų Ãt) "copies")))
   (te:=vw (ba Ãt (ba (bU (gG λi j=>.int (i-j)) (ay 5) (fk K (bU Ũ Ų Ãt) "copies")) du))) rfl Bg.nd (Uw å) Ê
   (λ_ _ _ _ _=>iB 4 5 Bg.nd)
   (λ_ _ _ _ _=>oG (cy rX Ãd (aY (cK dc Ö ę Õ) rfl) (bV _)))
   (λ_ _ _ _ _=>rY (ae ę (ae (eA rW Ãd (aY (cK dc Ö ę Õ) rfl)) ag))))) ag))))),?_⟩
 intro d hd;let uw:aj H (upd H d Ϥ):=aI hd;let W4:∀i,(y.ls.take i |>.map df.ns).flatten.length<=1000000:=λi=>by
  let M:∀(l:List df),(∀x∈l,x.ns.L<=1000)->(l.M df.ns).flatten.length<=1000*l.L:=by
   intro l;induction l with
   |nil=>simp
   |cons a l ih=>
    grind
  let h2:=M (y.ls.take i) λx hx=>Z.short x (zY hx);let h3:=Z.c7;grind
 refine⟨_,Á,y.a,Á,⟨_,aa.of (uw _ _ (jv Z.l))⟩,pK (K:=K) (a:=y.a) (xs:=y.ls.M λx=>V.ref x.a) (λi σ H'=>∃v3 Y,σ=[some Ær,some Áe,some Áf,v3,Y,none]/\aj H H'/\H' d=Α (.dK (bX gI (gY (y.ls.take i |>.map df.ns).flatten))))
  ⟨none,none,rfl,uw,au⟩ (λi σ H' _ ⟨_,_,_,s1,_⟩=>aa.of (s1 _ _ (jv Z.l))) ?_ ?_⟩
 .rintro i x σ H' hi ⟨v3,Y,rfl,s1,vY⟩;let(r,M,rfl):=gR hi;let hm:=bo M;let et:=take_snoc M;let HI:=ng Z.l hm;let W:=W4 (i+1);rw[et,bI,at3] at W;let W:((y.ls.take i |>.map df.ns).flatten++r.ns).L<=1000000:=by simpa using W
  refine⟨_,Á,r.a,Á,⟨_,aa.of (s1 _ _ HI)⟩,pK (K:=K) (a:=r.a) (xs:=iv (nv r.ns)) (λj σ H'=>∃Y,σ=[some Ær,some Áe,some Áf,some (.ref r.a),Y,none]/\aj H H'/\H' d=Α (.dK (bX gI (gY ((y.ls.take i |>.map df.ns).flatten++r.ns.take j)))))
   ⟨Y,rfl,s1,by rw[List.take_zero,jG];exact vY⟩ (λj σ H' _ ⟨_,_,J,_⟩=>aa.of (J _ _ HI)) ?_ ?_⟩
  .rintro j x σ H2 hj ⟨Y,rfl,J,U⟩;let(z,hz,rfl):=jt hj;let oE:=(bp.mp hz).1;let ux:=take_snoc hz;generalize hF:(y.ls.take i |>.map df.ns).flatten=F0 at U W⊢;let gJ:=OV (F0++r.ns.take j);rw[j5,iS] at gJ;rw[j5] at W;generalize hT:gY (F0++r.ns.take j)=O at U gJ;apply(_,Á,d,Á,.inl ⟨_,.inl U⟩,_,Á,(cu O z).M gI,?_,((cu O z).D 0:Nat),1,?_,Á,_,Á,_,Á,d,_,Á,xg.k (k:=Sum.inl ((z:Nat):Int)) U (by rw[yO];exact gc Ù),?_)
   .let q:=lp.k (k:=(Sum.inl ((z:Nat):Int):Key)) U;rw[AE] at q;exact q
   .cases cu O z <;> rfl
   .apply(_,Á,su J hd,?_);rw[au,ux,<-rK,Ee,hT];ext oneMore;rw[<-Dq];rfl
  .symm
 .rintro σ H' ⟨v3,Y,rfl,s1,vY⟩;rw[ao,i5] at vY;let ef:(y.ls.M df.ns).flatten=y.m.flatten:=rfl;rw[ef] at vY;let hmu:=True.intro;apply(d,_,vY,hmu,λod=>?_);let sl:aj H (upd H' d Èw):=su s1 hd;let nk:(upd H' d Èw) d=Α Èw:=au;generalize upd H' d Èw=H1 at sl nk;let gJ:=OV y.m.flatten;let W:=W4 y.ls.L;rw[i5,ef] at W;let bQ:∀p∈gY y.m.flatten,p.1<ks.L:=λp hp=>by
   let M:=W1 hp;let(l,hl,h2):=R3.mp M;delta cE.m at hl;let(x,hx,rfl):=bH.mp hl;exact Z.lt x hx _ h2
  let Ef:=HG y.m.flatten;let OX:jV Ì y.m.flatten=(gY y.m.flatten).filterMap (qd Ì):=rfl;generalize gY y.m.flatten=O at nk gJ bQ Ef OX;refine⟨_,Á,d,od,_,Á,nk,λD hD=>agg (d:=d) (o:=od) (kvs:=bX gI O) (λi H2=>∃ps:LA,aj H1 H2/\H2 D=Α (.lst Àk)/\ps.L<=i/\Paired (λp kv=>H2 p=Α (.tup [kV kv.1,kv.2])) ps (bX V.int ((O.take i).filterMap (qd Ì))))
   ⟨[],aI hD,au,bC _,.nil⟩ (λi H2 _ ⟨_,J,_⟩=>J _ _ nk) ?_ ?_⟩
  .rintro i kk vv Tt H2 hi ⟨ps,J,cq,dZ,ip⟩ hT;let(sg,n,M,rfl,rfl):=Lm gI hi;let dq:=(bp.mp M).1;let et:=take_snoc M;let pQ:=bQ _ (bo M);obtain⟨b,hb⟩:∃b,ks[sg]? =Α b:=⟨_,cJ pQ⟩;let xq:=bo hb;let s3:aj H2 (Ū (.tup [.int (sg:Nat),.int (n:Nat)])):=aI hT;let s4:=(sl.R J).R s3;let ec:uv Ì sg=b.m.copies:=by ext uv;rw[getD_map hb]
   refine è;refine⟨_,Á,_,Á,_,Á,pk,_,_,.ref b.a,Á,Á,aa.of (s4 _ _ hk.a),f7 Å,aZ (jR ((nZ hk.l xq).E s4)) T.c T.N7 (N5 b) ⟨_,_,Á,Á,_,Á,a7 Î Î⟩⟩
   .simp at hc;apply(_,Á,_,Á,_,Á,_,Á,pk,_,_,.ref b.a,Á,Á,aa.of (s4 _ _ hk.a),f7 Å,aZ (jR ((nZ hk.l xq).E s4)) T.c T.N7 (N5 b) ⟨_,_,Á,Á,(by show 2<=sizeLine;decide),λt ht=>?_⟩);let Eg:=s3.free ht;let s5:=s3.R (aI (o:=.tup [.int (sg:Nat),.int (((n:Nat):Int)-b.m.copies)]) ht);let OY:D≠t:=λz=>by rw[<-z,cq] at Eg;cases Eg
    apply(_,s5 _ _ cq,?_,ps++[t],?_,?_,?_,?_)
    .rw[ao];exact gc Ù
    .exact su (J.R s5) hD
    .rw[au,bI];rfl
    .symm
    .rw[et,abu];let e1:([(sg,n)]:cI).filterMap (qd Ì)=[(sg,((n:Nat):Int)-b.m.copies)]:=by
      rw[BW];ext qd;symm
     rw[e1];ext bX;rw[bI];apply Paired.snoc (Paired.ot ip λp kv e=>?_) ?_
     .rw[aA (λz=>by simp_all)];exact s5 _ _ e
     .rw[aA (eF OY)];exact au
   .simp at hc;apply(ps,J.R s3,s3 _ _ cq,Nat.le_succ_of_le dZ,?_);rw[et,abu];let e1:([(sg,n)]:cI).filterMap (qd Ì)=[]:=by
     rw[BW];ext qd;grind
    rw[e1,jG];exact Paired.ot ip λp kv e=>s3 _ _ e
  .rintro H2 ⟨ps,J,cq,dZ,ip⟩;rw[yO,i5] at ip;rw[<-OX] at ip;let U:=J _ _ nk;let hDd:D≠d:=λz=>by rw[z,nk] at hD;cases hD
   let s5:aj H (upd H2 d (.dK (bX gI O))):=su (sl.R J) hd;apply(U,D,ps,_,Á,aa.of (by rw[aA hDd];exact cq),Paired.ot ip λp kv e=>bx.of (by rw[aA (λz=>by rw[z,U] at e;cases e)];exact e),λp hp=>?_);let akX:((jV Ì y.m.flatten).M (·.1)).Nodup:=by
    rw[OX];exact at5 (HH _ O) Ef
   let em:=agm V.int Äy [] akX;rw[z6] at em;apply k _ p ⟨s5.R (aI hp),s5.free hp,?_⟩;rw[au];exact cb (λz=>some (HO.dK z)) em
end
def gL(x:df):V:=.ref x.a
def oneAt(t:List (Nat×LN))(p:Nat×Nat):List (Nat×LN):=eU t p.1 ((cu t p.1).D []++[p.2])
def jb(ps:cI):List (Nat×LN):=ps.foldl oneAt []
def Eh(l:cI)(p:Nat×Nat):jb (l++[p])=oneAt (jb l) p:=by
 ext jb;simp
def places_len(l:cI):(jb l).L<=l.L:=by
 refine snoc_ind (P:=λl=>(jb l).L<=l.L) (bC _) Äl l;rw[Eh,j5];let:=Vb (jb l) s.1 ((cu (jb l) s.1).D []++[s.2]);ext oneAt;grind
def W5(l:cI)(s:Nat):(cu (jb l) s).D []=(l.J λp=>decide (p.1=s)).M (·.2):=by
 refine snoc_ind (P:=λl=>(cu (jb l) s).D []=(l.J λp=>decide (p.1=s)).M (·.2)) Á Ϙ l;rw[Eh,Ft,bI,<-ih];ext oneAt;rw[Gv];by_cases h:s=x.1
 .rw[ai h,rL,ai (by simp[h]),h];rfl
 .rw[ah h,rL,ah (by simpa using λe=>h e.symm)];simp
def W6(l:cI){s:Nat}{x:LN}(h:cu (jb l) s=Α x):x.L<=l.L:=by
 let:=W5 l s;grind
def cont(p:Nat×df):Nat×LN:=(p.1,p.2.ns)
structure Ei(H0 H:Hp)(d:Addr)(t:List (Nat×df)):Prop where
 d:H d=Α (.dK (bX gL t))
 l:∀p∈t,H p.2.a=Α (.lst (iv (nv p.2.ns)))
 nd:(t.M λp=>p.2.a).Nodup
 fr:∀p∈t,H0 p.2.a=Β
theorem Bh(t:List (Nat×df))(s:Nat):cu Âp s=(cu t s).M df.ns:=by
 induction t with
 |nil=>rfl
 |cons p t j=>
  delta cu at j⊢;rw[a8,l5,l5,show(cont p).1=p.1 from rfl];cases decide (p.1=s) with
  |true=>rfl
  |false=>exact j
def W7(t:List (Nat×df))(s:Nat)(x:df):(eU t s x).M cont=eU Âp s x.ns:=by
 ext eU;rw[qP,qP,Bh,Fn];split
 .rw[ck,ck];apply iU λp _=>?_;show cont (if p.1=s then (p.1,x) else p)=if p.1=s then (p.1,x.ns) else cont p;split <;> rfl
 .rw[bI];rfl
def akY{t:List (Nat×df)}{s:Nat}{x y:df}(h:cu t s=Α x)(e:y.a=x.a)(j:(t.M (·.1)).Nodup):bX gL (eU t s y)=bX gL t:=by
 ext eU;rw[qP,h,ai (show(some x).isSome=true from rfl)];ext bX;rw[ck];apply iU λp q=>?_;show((Sum.inl (((if p.1=s then (p.1,y) else p).1:Nat):Int):Key),gL (if p.1=s then (p.1,y) else p).2)=(Sum.inl ((p.1:Nat):Int),gL p.2);by_cases c:p.1=s
 .rw[ai c];let:=AF j (s:=s) (v:=p.2) (by grind);rw[h] at this;cases this;ext gL;rw[e]
 .symm
def akZ{t:List (Nat×df)}{s:Nat}{x y:df}(h:cu t s=Α x)(e:y.a=x.a)(j:(t.M (·.1)).Nodup):((eU t s y).M λp=>p.2.a)=t.M λp=>p.2.a:=by
 ext eU;rw[qP,h,ai (show(some x).isSome=true from rfl),ck];apply iU λp q=>?_;show(if p.1=s then (p.1,y) else p).2.a=p.2.a;by_cases c:p.1=s
 .rw[ai c];let:=AF j (s:=s) (v:=p.2) (by grind);symm
 .symm
def zk{β:Type}{t:List (Nat×β)}{s:Nat}{v:β}{p:Nat×β}(h:p∈eU t s v):p=(s,v)\/(p∈t/\p.1≠s):=by
 delta eU at h;grind
def ak0{t:List (Nat×df)}(h:(t.M λp=>p.2.a).Nodup){p q:Nat×df}(F:p∈t)(J:q∈t)(O:p.1≠q.1):p.2.a≠q.2.a:=by
 intro e;let(i,hi,U):=nt F;let(j,Y,W):=nt J;let M:i=j:=by
  let z:(t.M λp=>p.2.a)[i]' Å=(t.M λp=>p.2.a)[j]' Å:=by
   symm
  exact(aaX h).mp z
 symm
def Bj{α:Type}{l:List α}{i:Nat}{a:α}(h:l[i]? =Α a):l.drop i=a::l.drop (i+1):=by
 let(j,h2):=bp.mp h;rw[<-h2];simp
def fu(rows j:bg):cI:=(rows.zip j).flatMap λp=>p.1.zip p.2
inductive W8(vs:az)(H:Hp)(Q:VK)(E':XK):Prop
 |mk (y z:cE) (_:vs=[.ref y.a,.ref z.a]) (_:aV H Çl) (_:aV H (fb z)) (_:y.ls.L=z.ls.L) (_:(∀(i:Nat)(a b:df),y.ls[i]? =Α a->z.ls[i]? =Α b->a.ns.L=b.ns.L)) (_:(fu y.m z.m).L<=100000) (_:∀H' p t,aj H H'->H p=Β->Ei H H' p t->t.M cont=jb Çj->Q Ĝ H')
section
variable{P:Pg}{w:Wd}{K:FR}{mg:MG}{base:Heap}{CK CL CS N CV CP:Addr}{C:Cs}
def HJ:bG ["rows","stands","places","row","bits","sign","here"] ["rows","stands"] (bc MQ):=cj
inductive PcI(y z:cE)(d:Addr)(H:Hp)(i:Nat)(σ:L2.St)(H':Hp):Prop
 |mk (v3 v4 v5 v6 t:_) (_:σ=[some Áe,some Åk,some Áf,v3,v4,v5,v6]) (_:aj H H') (_:Ei H H' d t) (_:(t.M (·.1)).Nodup) (_:t.M cont=jb (fu Ÿ Ày))
inductive PcJ(y z:cE)(d:Addr)(H:Hp)(a b:df)(i:Nat)(j:Nat)(σ:L2.St)(H':Hp):Prop
 |mk (v5 v6 t:_) (_:σ=[some Áe,some Åk,some Áf,some (.ref a.a),some Çz,v5,v6]) (_:aj H H') (_:Ei H H' d t) (_:(t.M (·.1)).Nodup) (_:t.M cont=jb (fu Ÿ Ày++(a.ns.take j).zip Æd))
def ak3{f:Addr}{fd:FD}(F:bu K "places_of" "places_of" MQ f fd)(tZ:mg "zip"=Β):Ë 1 f fd ["rows","stands"] W8:=by
 refine F.ok HJ Â;let(y,z,rfl,hy,hz,b7,ak4,Aq,k):=h;refine⟨_,aD (cg 2 HJ.nd C7)
  (aD (Į (Uy Ï tZ (ae Ö Ĺ)) (iB 3 4 HJ.nd)
   (aB (Į (Uy Ï tZ (ae ö ŝ)) (iB 5 6 HJ.nd)
    (aB (pJ (Ü (agp å Ãd Ĩ ⟨rfl,rfl,rfl,rfl⟩) (ae Ϫ ag)))))))
  Çr),?_⟩
 intro d hd;let uw:aj H (upd H d Ϥ):=aI hd;let rn:=jv hy;let uz:=jv hz;refine⟨_,Á,_,Á,y.a,z.a,_,_,Á,aa.of (uw _ _ rn),aa.of (uw _ _ uz),U9 (K:=K) (a:=y.a) (b:=z.a) (xs:=y.ls.M λx=>V.ref x.a) (ys:=z.ls.M λx=>V.ref x.a) (by rw[ao,ao];exact b7)
  (PcI y z d H)
  ⟨none,none,none,none,[],rfl,uw,⟨au,by simp,z7,by simp⟩,z7,rfl⟩ (λi σ H' _ h=>(by let(_,_,_,_,_,_,s1):=h;exact(aa.of (s1 _ _ rn),aa.of (s1 _ _ uz)))) ?_ ?_⟩
 .rintro i x1 x2 T1 σ H' hi hj ⟨v3,v4,v5,v6,t,rfl,s1,tb,hn,et⟩ hT1;let(a,ha,rfl):=gR hi;let(b,hb,rfl):=gR hj;let t9:=ng hy (bo ha);let iP:=ng hz Èt;let lx:=ak4 i a b ha hb;let W9:y.m[i]? =Α a.ns:=by ext cE.m;rw[bA,ha];rfl
  let Xa:z.m[i]? =Α b.ns:=by ext cE.m;rw[bA,hb];rfl
  let eta:=take_snoc W9;let etb:=take_snoc Xa;let s2:aj H' (upd H' T1 (.tup [.ref a.a,.ref b.a])):=aI hT1;let Xb:Ei H (upd H' T1 (.tup [.ref a.a,.ref b.a])) d t:=⟨s2 _ _ tb.d,λp J=>s2 _ _ (tb.l p J),tb.nd,tb.fr⟩;let bQ:(y.m.take i).L=(z.m.take i).L:=by rw[iS,iS,ig,ig,b7]
  apply(T1,_,Á,bx.of au,Á,_,_,Á,_,_,Á,Á,?_);let s3:=s1.R s2;generalize upd H' T1 (.tup [.ref a.a,.ref b.a])=Hx at s3 Xb;let Vv:∀j,(fu Ÿ Ày++(a.ns.take j).zip Æd).L<=100000:=λj=>by
   let e1:fu y.m z.m=fu Ÿ Ày++(a.ns.zip b.ns++fu (y.m.drop (i+1)) (z.m.drop (i+1))):=by
    let ey:y.m=y.m.take i++(a.ns::y.m.drop (i+1)):=by
     rw[<-Bj W9];simp
    let ez:z.m=z.m.take i++(b.ns::z.m.drop (i+1)):=by
     rw[<-Bj Xa];simp
    ext fu
    conv=>lhs;rw[ey,ez,abv bQ,zV,wI,z8]
   grind
  refine⟨_,Á,_,Á,a.a,b.a,_,_,Á,aa.of (s3 _ _ t9),aa.of (s3 _ _ iP),U9 (K:=K) (a:=a.a) (b:=b.a) (xs:=iv (nv a.ns)) (ys:=iv (nv b.ns)) (by rw[dy,dy,gQ,gQ];exact lx)
   (PcJ y z d H a b i)
   ⟨v5,v6,t,rfl,s3,Xb,hn,by rw[et];simp⟩ (λj σ H' _ h=>(by let(_,_,_,_,s4):=h;exact(aa.of (s4 _ _ t9),aa.of (s4 _ _ iP)))) ?_ ?_⟩
  .rintro j x1 x2 T2 σ H2 AH DC ⟨v5',v6',t2,rfl,s4,Z,nH,Y⟩ vF;let(sg,lK,rfl):=jt AH;let(bt,Xc,rfl):=jt DC;let e1:=take_snoc lK;let e2:=take_snoc Xc;let oE:=(bp.mp lK).1;let s5:aj H2 (upd H2 T2 (.tup [.int (sg:Nat),.int (bt:Nat)])):=aI vF;let s6:=s4.R s5;let M:Ei H (upd H2 T2 (.tup [.int (sg:Nat),.int (bt:Nat)])) d t2:=⟨s5 _ _ Z.d,λp J=>s5 _ _ (Z.l p J),Z.nd,Z.fr⟩;let Xd:jb (fu Ÿ Ày++(a.ns.take (j+1)).zip (b.ns.take (j+1)))=oneAt (jb (fu Ÿ Ày++(a.ns.take j).zip Æd)) (sg,bt):=by
    rw[e1,e2,abv Å,<-rK,<-Eh];rfl
   let Bl:t2.L<=100000:=by
    let h1:(t2.M cont).L<=(fu Ÿ Ày++(a.ns.take j).zip Æd).L:=by
     rw[Y];exact places_len _
    grind
   apply(T2,_,Á,bx.of au,Á,_,_,Á,_,_,Á,Á,?_);generalize upd H2 T2 (.tup [.int (sg:Nat),.int (bt:Nat)])=H3 at s6 M;apply(_,Á,d,Á,.inl ⟨_,.inl M.d⟩,_,Á,dj _,λq O=>⟨_,Sum.inl ((sg:Nat):Int),(aI O) _ _ M.d,Á,(by rw[yO];exact gc Ù),λv hv=>?_,λhv=>?_⟩)
   .rw[AE] at hv;let(x,U,rfl):=u4.mp hv;let gZ:=yP U;let oU:=M.l _ gZ;let W:aj H3 (upd H3 q ã):=aI O;let hxq:=eS oU O;let V4:x.a≠d:=λe=>by rw[e,M.d] at oU;cases oU
    let hxb:x.ns.L<=1000000:=by
     let h1:=Bh t2 sg;rw[U,Y] at h1;let h2:=W6 _ h1;grind
    apply(.inl ⟨Á,_,aa.of (W _ _ oU)⟩,_,Á,x.a,_,_,Á,Á,W _ _ oU,(by rw[dy,gQ];exact gc (by omega)),?_);apply(_,_,eU t2 sg ⟨x.a,x.ns++[bt]⟩,Á,su (s6.R W) (M.fr _ gZ),⟨?_,λp J=>?_,?_,λp J=>?_⟩,Gw nH,?_)
    .rw[aA (eF V4),akY (y:=⟨x.a,x.ns++[bt]⟩) U rfl nH];exact W _ _ M.d
    .rcases zk J with rfl|⟨J,aN⟩
     .rw[au];simp
     .rw[aA (ak0 M.nd J gZ aN)];exact W _ _ (M.l p J)
    .rw[akZ (y:=⟨x.a,x.ns++[bt]⟩) U rfl nH];exact M.nd
    .rcases zk J with rfl|⟨J,aN⟩
     .exact M.fr (sg,x) gZ
     .exact M.fr p J
    .rw[W7,Y,Xd];ext oneAt;rw[<-Y,Bh,U];rfl
   .rw[AE] at hv;let U:cu t2 sg=Β:=by
     symm
    let W:aj H3 (upd H3 q ã):=aI O;let Xe:q≠d:=λe=>by rw[e,M.d] at O;cases O
    let GU:=s6.free O;let DL:(upd (upd H3 q ã) d (.dK (putK (bX gL t2) (Sum.inl ((sg:Nat):Int)) Åt))) q=Α ã:=by rw[aA Xe];exact au
    apply(.inl ⟨Á,_,aa.of DL⟩,_,Á,q,_,_,Á,Á,DL,(by show 0<sizeLine;exact gc Å),?_);apply(_,_,eU t2 sg ⟨q,[bt]⟩,Á,su (su (s6.R W) hd) GU,⟨?_,λp J=>?_,?_,λp J=>?_⟩,Gw nH,?_)
    .rw[aA (eF Xe),au];exact cb (λz=>some (HO.dK z)) (Dq gL t2 sg ⟨q,[bt]⟩)
    .rcases zk J with rfl|⟨J,aN⟩
     .rw[au];rfl
     .let dZ:=M.l p J;rw[aA (eS dZ O),aA (λe=>by rw[e,M.d] at dZ;cases dZ)];exact W _ _ dZ
    .ext eU;rw[qP,U];show((t2++[(sg,(⟨q,[bt]⟩:df))]).M λp=>p.2.a).Nodup;rw[bI];apply K5 M.nd λm=>?_;let(p,J,e):=bH.mp m;let dZ:=M.l p J;symm
    .rcases zk J with rfl|⟨J,aN⟩
     .omega
     .exact M.fr p J
    .rw[W7,Y,Xd];ext oneAt;rw[<-Y,Bh,U];rfl
  .rintro σ H2 ⟨v5,v6,t2,rfl,s4,Z,nH,Y⟩;apply(_,_,_,_,t2,Á,s4,Z,nH,?_);rw[Y,eta,etb,dy,gQ,i5,JF (l:=b.ns) (i:=a.ns.L) Å];ext fu;rw[abv bQ,wI];simp
 .rintro σ H' ⟨v3,v4,v5,v6,t,rfl,s1,tb,hn,et⟩;rw[ao,JF (by rw[ig];exact bC _),JF (by rw[ig];symm)] at et;exact(_,Á,k H' d t s1 hd tb et)
end
structure uA where
 a:Addr
 zs:LI
structure g7 where
 a:Addr
 dx:Addr
 sm:Addr
 gp:Addr
 sp:Addr
 sames:LN
 eY:List (Nat×uA)
 gB:LI
def gA(x:uA):V:=.ref x.a
def ij(p:Nat×uA):Nat×LI:=(p.1,p.2.zs)
def vZ(p:g7):List (Str×V):=[("sames",.ref p.sm),("gaps",.ref p.gp),("spares",.ref p.sp)]
def Xf(p:g7):(vZ p).Q ("sames":Str)=Α (.ref p.sm):=gM
def OZ(p:g7):(vZ p).Q ("gaps":Str)=Α (.ref p.gp):=(fq É).R gM
def Xg(p:g7):(vZ p).Q ("spares":Str)=Α (.ref p.sp):=(fq É).R ((fq É).R gM)
structure qe(CP:Addr)(H:Hp)(p:g7):Prop where
 a:H p.a=Α (.ins CP p.dx (vZ p))
 sm:H p.sm=Α (.lst (iv (nv p.sames)))
 gp:H p.gp=Α (.dK (bX gA p.eY))
 gl:∀q∈p.eY,H q.2.a=Α (.lst (iv q.2.zs))
 sp:H p.sp=Α (.lst (iv p.gB))
def cV(z:Int):Int:=if z>0 then z else 0
def HK(G:Nat)(l:Int)(j:LN):LI:=(List.range G).M λg=>l-((sL g j:Nat):Int)
def oW(G:Nat)(lacks:List (Nat×Int))(j:List (Nat×LN)):List (Nat×LI):=lacks.M λp=>(p.1,HK G p.2 ((cu j p.1).D []))
def zl(G:Nat)(sp own:LI):LI:=(List.range G).M λg=>sp.D g 0-cV (own.D g 0)
def sN(G:Nat)(sp:LI)(eY:List (Nat×LI)):LI:=eY.foldl (λsp p=>zl G sp p.2) sp
def ak7(G:Nat)(sp own:LI):(zl G sp own).L=G:=by ext zl;rw[ao,il]
theorem Xh(G:Nat)(eY:List (Nat×LI)):∀(sp:LI),sp.L=G->(sN G sp eY).L=G:=by
 induction eY with
 |nil=>exact @λsp h=>h
 |cons p eY j=>
  intro sp h;exact j _ (ak7 G sp p.2)
def ak8(G:Nat)(sp:LI)(eY:List (Nat×LI))(p:Nat×LI):sN G sp (eY++[p])=zl G (sN G sp eY) p.2:=by
 ext sN;simp
def Xi(h:p∈oW G lacks HL):p.2.L=G:=by
 delta oW at h;let(q,_,rfl):=bH.mp h;ext HK;simp
inductive Xj(CK CP:Addr)(vs:az)(H:Hp)(Q:VK)(E':XK):Prop
 |mk (pk ps pl pp:Addr) (ks:List ax) (sames:LN) (lacks:List (Nat×Int)) (t:List (Nat×df)) (_:vs=[.ref pk,.ref ps,.ref pl,.ref pp]) (_:Ń ks) (_:H ps=Α Àb) (_:D7 Ì sames) (_:sames.L<=10) (_:H pl=Α í) (_:(lacks.M (·.1)).Nodup) (_:lacks.L<=1000) (_:H pp=Α (.dK (bX gL t))) (_:(∀p∈t,H p.2.a=Α (.lst (iv (nv p.2.ns))))) (_:(∀p∈t,p.2.ns.L<=1000)) (_:(∀p∈lacks,(cu t p.1).isSome=true)) (_:pp≠pl) (_:∀H' p,aj H H'->qe CP H' p->H p.a=Β->H p.gp=Β->p.a≠p.gp->p.sm=ps->p.sames=sames->p.eY.M ij=oW (2^sames.L) lacks Âp->p.gB=sN (2^sames.L) ((List.range (2^sames.L)).M (sM Ì sames)) Æa->Q ϭ H')
section
variable{P:Pg}{w:Wd}{K:FR}{mg:MG}{base:Heap}{CK CL CS N CV CP:Addr}{C:Cs}
def HM:bootBuiltins "list"=Α (.type "list"):=by decide+kernel
def HN:bootBuiltins "max"=Α (.builtin "max"):=by decide+kernel
def qf:bG ["kinds","sames","lacks","places","groups","gaps","sign","lack","group","spares","own"] ["kinds","sames","lacks","places"] (bc MR):=cj
inductive PnI(pk ps pl pp gl d:Addr)(B:Hp)(G:Nat)(lacks:List (Nat×Int))(t:List (Nat×df))(i:Nat)(σ:L2.St)(H':Hp):Prop
 |mk (v6 v7 tt:_) (_:σ=[some Ær,some (.ref ps),some (.ref pl),some (.ref pp),some (.ref gl),some Áf,v6,v7,none,none,none]) (_:aj B H') (_:H' d=Α İ) (_:(∀q∈tt,H' q.2.a=Α (.lst (iv q.2.zs)))) (_:(∀q∈tt,B q.2.a=Β)) (_:tt.M ij=oW G (lacks.take i) Âp)
def ala(F:bu K "plan_of" "plan_of" MR f fd)(TP:ju K CP ["sames","gaps","spares"])(tL:mg "len"=Β)(zm:mg "list"=Β)(tR:mg "range"=Β)(tM:mg "max"=Β)(dP:Ā "Plan" CP ["sames","gaps","spares"]) (dO:Ç 1 "places_outside" ["group","places"] (OQ K)) (dC:Ç 1 "copies_in" ["group","kinds","sames"] (OR CK)):Ë 3 f fd ["kinds","sames","lacks","places"] (Xj CK CP):=by
 refine F.ok qf Â;let(pk,ps,pl,pp,ks,sames,lacks,t,rfl,hk,lL,ft,alb,dZ,Bm,Xk,zj,Bl,Ej,iO,aN,k):=h;let hu:A.units+3+1<cLine:=qz Ä hr.un;refine⟨_,aD (cg 4 qf.nd (vy (agy Á) Ï zm HM (ae (vy agx Ï tR boot_range (ae (eA FU bf Ă) ag)) ag)))
  (aD (cg 5 qf.nd C7)
  (aD (Us (Į (Uw å) (iB 6 7 qf.nd)
   (aB (F6 Èj Ãd Ϫ (eB (own:=[("group",8)]) (te:=bU (gG λi j=>.int (i-j)) Æj (g9 (OQ K) [] E0 (ba (ay 8) (ba (Uj Ŀ (ay 6)) du)))) rfl qf.nd (dY ę) Ê
    (Âc) Ñ (λ_ _ _ _ _=>eA rW Èe (bz dO (ae (pv 8) (ae (Uk hu ö Ϫ Õ) ag))))) rfl))))
  (aD (cg 9 qf.nd (eB (own:=[("group",8)]) (te:=g9 (OR CK) [] E0 (ba (ay 8) (ba Ų (ba ž du)))) rfl qf.nd (dY ę) Ê
    (Âc) Ñ (λ_ _ _ _ _=>bz dC (ae (pv 8) (ae Ö Ĺ)))))
  (aD (Us (Į (afm Ãd) (c6 10 qf.nd)
   (aB (cg 9 qf.nd (eB (own:=[("group",8)]) (te:=bU (gG λi j=>.int (i-j)) (bU Ũ (ay 9) (ay 8)) (rZ (λxs H Q=>∃i j,xs=[.int i,.int j]/\Q (.int (if j>i then j else i)) H) (ba Är (ba (bU Ũ (ay 10) (ay 8)) du)))) rfl qf.nd (dY ę) Ê
    (Âc) Ñ (λ_ _ _ _ _=>eA rW (cK dc (pv 9) (pv 8) Õ) (c9 (Ks rfl) Ï tM HN (ae bf (ae (cK dc (pv 10) (pv 8) Õ) ag)))))))))
  (aB (aX (pW dP hr (ae á (ae Ãd (ae (pv 9) ag)))))))))),?_⟩
 let hG:2^sames.L<=1024:=yn Ð alb;let hG0:0<2^sames.L:=Nat.pow_pos Ð;apply(_,Á,ps,_,Á,.inl (aa.of lL),_,_,Á,Á,⟨by simp_all,by grind,by decide⟩,2^sames.L,?_,λr Bn=>⟨r,2^sames.L,Á,au,by af,λgl n8=>?_⟩)
 .simp
 generalize hGG:2^sames.L=G at hG hG0 n8⊢;let O:aj H (upd (upd H r (.tH 0 ((G:Nat):Int))) gl (.lst ((List.range G).M λi=>V.int ((i:Nat):Int)))):=(aI Bn).R (aI n8);let Ek:(upd (upd H r (.tH 0 ((G:Nat):Int))) gl (.lst ((List.range G).M λi=>V.int ((i:Nat):Int)))) gl=Α (.lst (iv Ár)):=by
  rw[au];simp
 generalize upd (upd H r (.tH 0 ((G:Nat):Int))) gl (.lst ((List.range G).M λi=>V.int ((i:Nat):Int)))=H0 at O Ek;intro d hd;let nk:d≠pl:=λe=>by rw[e,O _ _ dZ] at hd;cases hd
 let ald:(Åx) pl=Α í:=by rw[aA (eF nk)];exact O _ _ dZ
 apply(pl,_,ald,True.intro,λod=>?_);let Xl:(Âo) d=Β:=by rw[aA nk];exact hd
 let HP:(Âo) pl=Α ύ:=au;let El:∀b o,H0 b=Α o->b≠pl->(Âo) b=Α o:=λb o e J=>by rw[aA J];exact e
 let hB0:∀b,(Âo) b=Β->H0 b=Β:=λb e=>by
  by_cases J:b=pl
  .symm
  .rw[aA J] at e;exact e
 let HQ:aj Âo (upd Åx pl ύ):=λb o e=>by
  by_cases J:b=pl
  .subst J;rw[au] at e⊢;exact e
  .rw[aA J] at e⊢;rw[aA (eS e hd)];exact e
 let Xm:(upd Åx pl ύ) d=Α (.dK (bX gA [])):=by rw[aA nk];exact au
 generalize rV:upd Åx pl ύ=S1 at HQ Xm;generalize hB:upd H0 pl ύ=B at Xl HP El hB0 HQ;let bpp:=El _ _ (O _ _ zj) aN;let btl:=λp hp=>El _ _ (O _ _ (Bl p hp)) (λe=>by grind);let Xn:=El _ _ Ek (λe=>by rw[e,O _ _ dZ] at Ek;cases Ek);refine⟨_,Á,pl,od,_,Á,HQ _ _ HP,agh (d:=pl) (o:=od) (kvs:=bX V.int lacks) (PnI pk ps pl pp gl d B G lacks t)
  ⟨none,none,[],rfl,HQ,Xm,by simp,by simp,rfl⟩ (λi σ H' _ h=>(by let(_,_,_,_,Z):=h;exact Z _ _ HP)) ?_ ?_⟩
 .rintro i kk vv Tt σ H' hi ⟨v6,v7,tt,rfl,Z,vY,uk,hqf,rq⟩ hT;let(sg,l,Y,rfl,rfl):=Lm V.int hi;let dq:=(bp.mp Y).1;let et:=take_snoc Y;let ie:=bo Y;let(x,W):=JC.mp (iO _ ie);let W:=W;let gZ:=yP W;let s2:aj H' (Ϩ (.tup [kV (Sum.inl ((sg:Nat):Int)),V.int l])):=aI hT;let s3:=Z.R s2;apply(Tt,_,Á,bx.of au,Á,_,_,Á,_,_,Á,Á,?_);generalize hHx:Ϩ (.tup [kV (Sum.inl ((sg:Nat):Int)),V.int l])=Hx at s2 s3⊢;apply(_,Á,gl,Á,⟨_,aa.of (s3 _ _ Xn)⟩,λD hD=>fW (K:=K) (a:=gl) (xs:=iv Ár) (fg Hx D λg=>l-((sL g x.ns:Nat):Int)) Áa (λj H2 _ f=>aa.of (f.1 _ _ (s3 _ _ Xn))) (λj y H2 hj f=>?_) Æw)
  .let(z,hz,rfl):=jt hj;let sj:=(bp.mp hz).1;rw[il] at sj;cases yZ hz;let s4:=s3.R f.1;let uB:=lp.k (k:=(Sum.inl ((sg:Nat):Int):Key)) (s4 _ _ bpp);rw[AE,W] at uB;exact(Á,eK ⟨_,Á,_,Á,_,Á,_,Á,pp,_,Á,uB,j,x.a,x.ns,Á,aa.of (s4 _ _ (btl _ gZ)),Ej _ gZ,λH3 s5=>⟨_,_,Á,Á,(fg.step hD Ù f s5 Á)⟩⟩)
  .let dg:=f.2;rw[dy,gQ,il] at dg;let s4:=s2.R f.1;let hDB:=s3.free hD;let ali:=s4 _ _ vY;let htn:cu tt sg=Β:=by
    cases e:cu tt sg with
    |none=>rfl
    |some u=>
     let h2:=yP e;let h3:sg∈(tt.M ij).M (·.1):=bH.mpr ⟨ij (sg,u),bH.mpr ⟨_,h2,rfl⟩,rfl⟩;rw[rq] at h3;delta oW at h3;rw[ck] at h3;let(q,M,e2):=bH.mp h3;let e2:=e2;exfalso;let Ef:=Bm;let e3:lacks.M (·.1)=(lacks.take i).M (·.1)++sg::(lacks.drop (i+1)).M (·.1):=by
      conv=>lhs;rw[<-RT i lacks,Bj Y,bI,a8]
     grind
   let b7:tt.L<=1000:=by
    let:(tt.M ij).L=(oW G (lacks.take i) Âp).L:=by rw[rq]
    delta oW at this;grind
   apply(_,Á,_,Á,d,_,Á,xg.k (k:=Sum.inl ((sg:Nat):Int)) ali (by rw[yO];exact gc Ù),?_);let Xo:putK (bX gA tt) (Sum.inl ((sg:Nat):Int)) ϔ=bX gA (tt++[(sg,⟨D,(List.range G).M λg=>l-((sL g x.ns:Nat):Int)⟩)]):=by
    let:=Dq gA tt sg ⟨D,(List.range G).M λg=>l-((sL g x.ns:Nat):Int)⟩;delta eU at this;rw[qP,htn] at this;exact this
   apply(_,_,tt++[(sg,⟨D,(List.range G).M λg=>l-((sL g x.ns:Nat):Int)⟩)],Á,su (Z.R s4) Xl,?_,λq M=>?_,λq M=>?_,?_)
   .rw[au];symm
   .rcases fw.mp M with M|M
    .let h2:=s4 _ _ (uk q M);rw[aA (λe=>by simp_all)];omega
    .let:q=(sg,⟨D,(List.range G).M λg=>l-((sL g x.ns:Nat):Int)⟩):=by simpa using M
     subst this;rw[aA (λe=>by simp_all)];omega
   .grind
   .rw[et,bI,rq];ext oW;rw[bI];congr 1;show[ij _]=[(sg,HK G l ((cu Âp sg).D []))];rw[Bh,W];rfl
 .rintro σ H' ⟨v6,v7,tt,rfl,Z,vY,uk,hqf,rq⟩;rw[yO,i5] at rq;apply(Z _ _ HP,?_);let s5:aj H0 Éd:=λb o e=>by
   by_cases J:b=pl
   .subst J;rw[au];rw[O _ _ dZ] at e;omega
   .rw[aA J];exact Z _ _ (El _ _ e J)
  let Xp:(Éd) d=Α İ:=by rw[aA nk];exact vY
  let Xq:∀q∈tt,(Éd) q.2.a=Α (.lst (iv q.2.zs)):=λq M=>by
   let h2:=uk q M;rw[aA (λe=>by grind)];omega
  generalize upd H' pl í=H5 at s5 Xp Xq;let s6:=O.R s5;let hdH:=O.free hd;let O0:=s5 _ _ Ek;apply(_,Á,gl,Á,⟨_,aa.of O0⟩,λD hD=>fW (K:=K) (a:=gl) (xs:=iv Ár) (fg H5 D λg=>sM Ì sames g) Áa (λj H2 _ f=>aa.of (f.1 _ _ O0)) (λj y H2 hj f=>?_) Æw)
  .let(z,hz,rfl):=jt hj;let sj:=(bp.mp hz).1;rw[il] at sj;cases yZ hz;let s7:=s6.R f.1;exact(Á,eK ⟨_,Á,_,Á,_,Á,j,pk,ps,ks,sames,Á,hk.E s7,s7 _ _ lL,ft,λH3 s8=>(fg.step hD Ù f s8 Á)⟩)
  .let mZ:=f.2;let s7:=f.1;rw[dy,gQ,il] at mZ;let O1:=s7 _ _ Xp;let alm:=s7 _ _ O0;let Xr:=λq M=>s7 _ _ (Xq q M);let s8:=s6.R s7;let hDH:=s6.free hD;apply(d,_,O1,True.intro,λwa=>?_);let b1:(Éc) d=Α Åv:=au;let b2:∀b o,H2 b=Α o->b≠d->(Éc) b=Α o:=λb o e J=>by rw[aA J];exact e
   let b3:∀b o,H2 b=Α Èa->(Éc) b=Α Èa:=λb o e=>b2 b _ e (λz=>by simp_all);generalize upd H2 d Åv=B2 at b1 b2 b3;let aln:((List.range G).M λg=>sM Ì sames g).L=G:=by rw[ao,il]
   refine⟨_,Á,d,wa,_,Á,b1,agi (d:=d) (o:=wa) (kvs:=bX gA tt) (λi σ H'=>∃zS sp,σ=[some Ær,some (.ref ps),some (.ref pl),some (.ref pp),some (.ref gl),some Áf,v6,v7,none,some (.ref sp),zS]/\aj B2 H'/\H' sp=Α (.lst (iv (sN G ((List.range G).M λg=>sM Ì sames g) ((tt.M ij).take i)))))
    ⟨none,D,rfl,aj.refl B2,b3 _ _ mZ⟩ (λi σ H' _ ⟨_,_,_,U,_⟩=>U _ _ b1) ?_ ?_⟩
   .rintro i kk vv σ H' hi ⟨zS,sp,rfl,U,Bo⟩;let(sg,x,Y,rfl,rfl):=Lm gA hi;let ie:=bo Y;let oU:=U _ _ (b3 _ _ (Xr _ ie));let HR:(tt.M ij)[i]? =Α (sg,x.zs):=by rw[bA,Y];rfl
    let et:=take_snoc HR;let hxG:x.zs.L=G:=Xi (p:=(sg,x.zs)) (by rw[<-rq];exact bo HR);let hcG:=Xh G ((tt.M ij).take i) _ aln;let Xs:=U _ _ (b3 _ _ alm);rw[et,ak8];generalize sN G ((List.range G).M λg=>sM Ì sames g) ((tt.M ij).take i)=cur at Bo hcG;apply(_,Á,gl,Á,⟨_,aa.of Xs⟩,λD2 cq=>fW (K:=K) (a:=gl) (xs:=iv Ár) (fg H' D2 λg=>cur.D g 0-cV (x.zs.D g 0)) Çk (λj H3 _ f=>aa.of (f.1 _ _ Xs)) (λj y H3 hj f3=>?_) (λH3 f3=>?_))
    .let(z,hz,rfl):=jt hj;let sj:=(bp.mp hz).1;rw[il] at sj;cases yZ hz;exact(Á,eK ⟨_,Á,_,Á,sp,_,_,.int (cur.D j 0),Á,Á,aa.of (f3.1 _ _ Bo),f7 (zf Å),_,Á,_,Á,x.a,_,_,.int (x.zs.D j 0),Á,Á,aa.of (f3.1 _ _ oU),f7 (zf Å),_,_,Á,_,_,Á,Á,(fg.step cq Ù f3 (aj.refl H3) Á)⟩)
    .let e3:=f3.2;rw[dy,gQ,il] at e3;exact(_,D2,Á,U.R f3.1,e3)
   .rintro σ H' ⟨zS,sp,rfl,U,Bo⟩;rw[yO,<-ao (f:=ij),i5] at Bo;apply(U _ _ b1,?_);let md:aj H2 (upd H' d İ):=λb o e=>by
     by_cases J:b=d
     .subst J;rw[au];symm
     .rw[aA J];exact U _ _ (b2 _ _ e J)
    let Xu:(upd H' d İ) sp=Α (.lst (iv (sN G ((List.range G).M λg=>sM Ì sames g) (tt.M ij)))):=by
     rw[aA (λe=>by rw[e,U _ _ b1] at Bo;cases Bo)];omega
    let mf:=s8.R md;generalize upd H' d İ=H7 at md Xu mf;apply(_,Á,_,Á,_,Á,xF Á λx dx H8 W gV au2 e8 fC=>?_);apply k H8 ⟨x,dx,ps,d,sp,sames,tt,_⟩ (mf.R fC) ⟨e8,(mf.R fC) _ _ lL,(md.R fC) _ _ O1,λq M=>(md.R fC) _ _ (Xr q M),fC _ _ Xu⟩ (mf.free W) hdH ?_ Á Á Å (by rw[hGG];rfl);intro e;let e:x=d:=e;rw[e,md _ _ O1] at W;symm
end
def wb(g same:Nat):Bool:=Builtin.bitAnd (g:Int) (same:Int)!=0
def uD(same:Nat):Int:=if ((same:Nat):Int)!=0 then-1 else 0
def lO(b:Bool):Int:=if b=true then 1 else 0
def jc(before:LI)(bits same:Nat):LI:=(List.range before.L).M λg=>before.D g 0+uD same+lO (iw g bits)
def jW(before gB:LI)(bits same:Nat):LI:=(List.range gB.L).M λg=>gB.D g 0+cV (before.D g 0)-cV ((jc before bits same).D g 0)-lO (wb g same)
def wc(x y:Addr)(H H':Hp):Prop:=∀b o,H b=Α o->b≠x->b≠y->H' b=Α o
def wc.refl:wc x y H H:=λ_ _ e _ _=>e
def aj.x{x y:Addr}{H H':Hp}(s:aj H H'):wc x y H H':=λb o e _ _=>s b o e
def g7.own(p:g7):LA:=p.sm::p.sp::p.eY.M λq=>q.2.a
def uE(H:Hp)(p j:g7):Prop:=∀a∈j.own,a∈p.own\/H a=Β
inductive Xv(CP:Addr)(vs:az)(H:Hp)(Q:VK)(E':XK):Prop
 |mk (p:g7) (sg bits same:Nat) (x:uA) (_:vs=[.ref p.a,.int (sg:Nat),.int (bits:Nat),.int (same:Nat)]) (_:qe CP H p) (_:p.a≠p.gp) (_:cu p.eY sg=Α x) (_:x.zs.L=p.gB.L) (_:0<p.gB.L) (_:p.gB.L<=2000) (_:p.eY.L<=2000) (_:(p.eY.M (·.1)).Nodup) (_:((ϰ same).any (λz=>decide (z<0))=true->∀H',aj H H'->Q (.bl false) H')) (_:((ϰ same).any (λz=>decide (z<0))=false->∀H' p',qe CP H' p'->p'.a=p.a->p'.gp=p.gp->p'.sm=p.sm->p'.sames=p.sames->p'.eY.M ij=eU Æa sg (Ė same)->p'.gB=jW x.zs p.gB bits same->wc p.a p.gp H H'->uE H p p'->Q (.bl true) H'))
theorem O2(t:List (Nat×uA))(s:Nat):cu (t.M ij) s=(cu t s).M uA.zs:=by
 induction t with
 |nil=>rfl
 |cons p t j=>
  delta cu at j⊢;rw[a8,l5,l5,show(ij p).1=p.1 from rfl];cases decide (p.1=s) with
  |true=>rfl
  |false=>exact j
def alp(t:List (Nat×uA))(s:Nat)(x:uA):(eU t s x).M ij=eU (t.M ij) s x.zs:=by
 ext eU;rw[qP,qP,O2,Fn];split
 .rw[ck,ck];apply iU λp _=>?_;show ij (if p.1=s then (p.1,x) else p)=if p.1=s then (p.1,x.zs) else ij p;split <;> rfl
 .rw[bI];rfl
section
variable{P:Pg}{w:Wd}{K:FR}{mg:MG}{base:Heap}{CK CL CS N CV CP:Addr}{C:Cs}
def O3:bootBuiltins "min"=Α (.builtin "min"):=by decide+kernel
abbrev Xw:az->Hp->VK->Prop:=λxs H Q=>∃i j,xs=[.int i,.int j]/\Q (.int (if j>i then j else i)) H
def xN:bG ["plan","sign","bits","same","before","needs","gaps","group","gap","spares","spare"] ["plan","sign","bits","same"] (bc MW):=cj
def alq(F:bu K "hang" "hang" MW f fd)(TP:ju K CP ["sames","gaps","spares"])(tE:mg "enumerate"=Β)(tM:mg "max"=Β)(tN:mg "min"=Β):Ë 1 f fd ["plan","sign","bits","same"] (Xv CP):=by
 refine F.ok xN Â;let(p,sg,bits,same,x,rfl,J,HS,hx,oU,WX,pQ,n8,Ef,k1,k2):=h;refine⟨_,aD (cg 4 xN.nd (Uk Èj ĺ á (λ_ _=>Á)))
  (aD (cg 5 xN.nd (tJ (Aj ö Än) Âg bf))
  (aD (cg 6 xN.nd (eB (own:=[("group",7),("gap",8)]) (g:=g2 K 7 8)
   (te:=bU (gG λi j=>.int (i+j)) (bU (gG λi j=>.int (i+j)) (ay 8) (ay 5)) (yu (Ec K (bU (gG λi j=>.int ś) ř (FQ (rU λi=>.int Ås) Æj))) Äq Är)) rfl xN.nd
   (jP Ï tE ŝ) Ê
   (λ_ _ _ _ _=>iB 7 8 xN.nd) Ñ
   (λ_ _ _ _ _=>eA pL (eA pL (pv 8) Ãd) (tJ (Aj (eA yz å (iV SN Èe)) Än) bf bf))))
  (aD (tU (i:=9) (own:=[("group",7),("spare",10)]) (g:=g2 K 7 10)
   (te:=bU (gG λi j=>.int (i-j)) (bU (gG λi j=>.int (i-j)) (bU (gG λi j=>.int (i+j)) (ay 10) (rZ Xw (ba Är (ba (bU Ũ Ãt Æj) du)))) (rZ Xw (ba Är (ba (bU Ũ (ay 6) Æj) du)))) (yu (Ec K (bU (gG λi j=>.int ś) Æj Ŀ)) Äq Är)) rfl xN.nd rfl rfl Ï
   (Éi) Ê
   (λ_ _ _ _ _=>iB 7 10 xN.nd) Ñ
   (λ_ _ _ _ _=>eA rW (eA rW (eA pL (pv 10) (c9 (Ks rfl) Ï tM HN (ae bf (ae (cK dc ę Èe Õ) ag)))) (c9 (Ks rfl) Ï tM HN (ae bf (ae (cK dc Ϫ Èe Õ) ag)))) (tJ (Aj (eA yz Èe ö) Än) bf bf)))
  (aD (dm (cy yA (c9 (Tx rfl) Ï tN O3 (ae (pv 9) ag)) bf (bV _)) ϫ dX)
  (aD (F6 Èj ÿ á Ϫ rfl)
  (aD (fm Ö (pv 9) rfl)
  ϫ)))))),?_⟩
 let gZ:=yP hx;let lG:=J.gl _ gZ;let uB:=lp.k (k:=(Sum.inl ((sg:Nat):Int):Key)) J.gp;rw[AE,hx] at uB;apply(_,Á,aZ J.a TP.1 (TP.2 _ Ä) (OZ p) ⟨_,Á,p.gp,_,Á,uB,?_⟩);dsimp only;apply U8 (U7 (((same:Nat):Int)!=0) (.int (uD same)) (λK q=>⟨_,Á,_,Á,q⟩) (λe K q=>Ę) ϸ ?_)
 .delta uD at q;symm
 .delta uD at q;rw[ah Å] at q;exact q
 refine⟨_,Á,x.a,_,Á,aa.of lG,λD hD=>mi (K:=K) (a:=x.a) (xs:=iv x.zs) (fg H D λg=>x.zs.D g 0+uD same+lO (iw g bits)) Áa (λi H' _ f=>aa.of (f.1 _ _ lG)) Âb þ⟩
 .let(z,hz,rfl):=ub hi;let dq:=(bp.mp hz).1;let W:aj H' (Ϩ (.tup [.int (i:Nat),.int z])):=aI hT;refine à;apply(_,Á,_,Á,_,_,Á,Á,Gs (iw i bits) (.int (lO (iw i bits))) (λK q=>⟨_,Á,_,Á,_,Á,_,_,Á,Á,_,Á,q⟩) ϸ ϸ ⟨_,_,Á,Á,?_⟩)
  .rw[e] at q;exact q
  .rw[e] at q;exact q
  .apply fg.step hD Ù f W ?_;symm
 .let xO:=f.2;let W:=f.1;rw[dy] at xO;let xO:H' D=Α (.lst (iv (Ė same))):=xO;let au3:(Ė same).L=x.zs.L:=by ext jc;rw[ao,il]
  let alr:=W _ _ lG;let als:=W _ _ J.a;let Xx:=W _ _ J.sp;apply(_,Á,aZ als TP.1 (TP.2 _ Ä) (Xg p) ⟨p.sp,_,Á,aa.of Xx,λO cq=>mi (K:=K) (a:=p.sp) (xs:=iv p.gB) (fg H' O λg=>p.gB.D g 0+cV (x.zs.D g 0)-cV ((Ė same).D g 0)-lO (wb g same)) Çk (λi H2 _ f=>aa.of (f.1 _ _ Xx)) (λi v Tt H2 hi f2 hT=>?_) Åw⟩)
  .let(z,hz,rfl):=ub hi;let dq:=(bp.mp hz).1;let s2:aj H2 (Ū (.tup [.int (i:Nat),.int z])):=aI hT;let U:=f2.1.R s2;refine à;refine⟨_,Á,_,Á,_,Á,x.a,_,_,.int (x.zs.D i 0),Á,Á,aa.of (U _ _ alr),f7 (zf (by show i<x.zs.L;symm)),_,_,Á,_,_,Á,Á,
    _,rfl,_,rfl,D,_,_,.int ((Ė same).D i 0),rfl,rfl,aa.of (U _ _ xO),f7 (zf Å),_,_,rfl,_,_,rfl,rfl,
    Gs (wb i same) (.int (lO (wb i same))) (λK q=>⟨_,rfl,_,rfl,_,_,rfl,rfl,_,rfl,q⟩) ϸ ϸ ⟨_,_,rfl,rfl,?_⟩⟩
   .rw[e] at q;exact q
   .rw[e] at q;exact q
   .apply fg.step cq Ù f2 s2 ?_;rw[getD_at hz];rfl
  .let Y:=f2.2;let s2:=f2.1;rw[dy] at Y;let Y:H2 O=Α (.lst (iv (ϰ same))):=Y;let alu:(ϰ same).L=p.gB.L:=by ext jW;rw[ao,il]
   let U:=W.R s2;generalize jW x.zs p.gB bits same=M at Y alu k1 k2;refine⟨_,Á,O,M,Á,aa.of Y,by simp_all,λm hm lY=>⟨_,_,rfl,rfl,_,rfl,a7 Î Î⟩⟩
   .simp at hc;exact k1 (tw.mpr ⟨m,hm,eQ hc⟩) H2 U
   .simp at hc;let alv:M.any (λz=>decide (z<0))=false:=by
     grind
    let k3:=k2 alv;let Xy:=U _ _ J.a;let alw:=U _ _ J.gp;let au4:=s2 _ _ xO;let HU:=hD;let HV:=W.free cq;let au5:D≠p.gp:=λe=>by rw[e,J.gp] at HU;cases HU
    let au6:D≠p.a:=λe=>by rw[e,J.a] at HU;cases HU
    let au7:O≠p.gp:=λe=>by rw[e,J.gp] at HV;cases HV
    let au8:O≠p.a:=λe=>by rw[e,J.a] at HV;cases HV
    apply(_,Á,_,Á,aZ Xy TP.1 (TP.2 _ Ä) (OZ p) ⟨_,Á,p.gp,_,Á,xg.k (k:=Sum.inl ((sg:Nat):Int)) alw (by rw[yO];exact gc Ù),?_⟩);let Xo:putK (bX gA p.eY) (Sum.inl ((sg:Nat):Int)) ϔ=bX gA Áb:=Dq gA p.eY sg ⟨D,Ė same⟩;rw[Xo];apply(_,Á,_,Á,p.a,CP,p.dx,vZ p,Á,(by rw[aA HS];exact Xy),TP.1,TP.2 _ Ä,(by show 3<1000;decide),?_);let ef:iF ("spares":Str) (.ref O) (vZ p)=vZ ⟨p.a,p.dx,p.sm,p.gp,O,p.sames,eU p.eY sg ⟨D,Ė same⟩,M⟩:=by
     rfl
    rw[ef];let hx:∀b o,H2 b=Α o->b≠p.a->b≠p.gp->(upd (upd H2 p.gp (.dK (bX gA Áb))) p.a (.ins CP p.dx (vZ ⟨p.a,p.dx,p.sm,p.gp,O,p.sames,eU p.eY sg ⟨D,Ė same⟩,M⟩))) b=Α o:=λb o e h1 h2=>by
     rw[aA h1,aA h2];omega
    let oU:∀b o,H2 b=Α Èa->(upd (upd H2 p.gp (.dK (bX gA Áb))) p.a (.ins CP p.dx (vZ ⟨p.a,p.dx,p.sm,p.gp,O,p.sames,eU p.eY sg ⟨D,Ė same⟩,M⟩))) b=Α Èa:=λb o e=>hx b _ e (λz=>by simp_all) (λz=>by simp_all);apply k3 _ ⟨p.a,p.dx,p.sm,p.gp,O,p.sames,eU p.eY sg ⟨D,Ė same⟩,M⟩ ⟨au,oU _ _ (U _ _ J.sm),?_,λq hq=>?_,oU _ _ Y⟩ Á Á Á Á (alp _ _ _) Á (λb o e h1 h2=>hx b o (U _ _ e) h1 h2) (λa Z=>?_)
    .rw[aA (eF HS),au]
    .rcases zk hq with rfl|⟨hq,_⟩
     .symm
     .exact oU _ _ (U _ _ (J.gl q hq))
    .delta g7.own at Z⊢;rcases a9.mp Z with rfl|Z
     .simp
     .rcases a9.mp Z with rfl|Z
      .symm
      .let(q,hq,rfl):=bH.mp Z;rcases zk hq with rfl|⟨hq,_⟩
       .symm
       .grind
end
abbrev iE:=List (Nat×LI)×LI
def oX(l:LI):Bool:=!l.any λz=>decide (z<0)
def sO(st:iE)(sg bits same:Nat)(row:LI):iE:=(eU st.1 sg (jc row bits same),jW row st.2 bits same)
def we(sames:LN)(st:iE)(sg bits:Nat)(row:LI):LN->Option (Nat×iE)
 |[]=>none
 |b::r=>if oX (jW row st.2 bits (2^b))=true then some (sames.D b 0,sO st sg bits (2^b) row) else we sames st sg bits row r
def qg(n bits:Nat):LN:=(List.range n).J (zi bits)
def oY(sames:LN)(st:iE)(sg bits:Nat):Option (Nat×iE):=match cu st.1 sg with
 |none=>some (sg,st)
 |some row=>if oX (jW row st.2 bits 0)=true then some (sg,sO st sg bits 0 row) else we sames st sg bits row (qg sames.L bits)
def g7.st(p:g7):iE:=(p.eY.M ij,p.gB)
structure n9(CP:Addr)(H:Hp)(p:g7):Prop where
 ok:qe CP H p
 ne:p.a≠p.gp
 row:∀q∈p.eY,q.2.zs.L=p.gB.L
 pos:0<p.gB.L
 c7:p.gB.L<=2000
 Em:p.eY.L<=2000
 nd:(p.eY.M (·.1)).Nodup
 HW:p.sames.L<=10
def qe.same(h:qe CP H p)(s:aj H H'):qe CP H' p:=⟨s _ _ h.a,s _ _ h.sm,s _ _ h.gp,λq j=>s _ _ (h.gl q j),s _ _ h.sp⟩
def n9.same(h:n9 CP H p)(s:aj H H'):n9 CP H' p:=⟨h.ok.E s,h.ne,h.row,h.pos,h.c7,h.Em,h.nd,h.HW⟩
def O4(l:List (Nat×uA)):(l.M ij).M (·.1)=l.M (·.1):=by rw[ck];rfl
def Xz{CP:Addr}{H H':Hp}{p j:g7}{sg bits same:Nat}{x:uA}(g:n9 CP H p)(J:cu p.eY sg=Α x)(ok:qe CP H' j)(U:j.a=p.a)(W:j.gp=p.gp)(es:j.sames=p.sames)(F:j.eY.M ij=eU Æa sg (Ė same)) (O:j.gB=jW x.zs p.gB bits same):n9 CP H' j:=by
 let z:j.gB.L=p.gB.L:=by rw[O];ext jW;rw[ao,il]
 let hk:j.eY.M (·.1)=p.eY.M (·.1):=by
  rw[<-O4,F,Vc,O2,J,O4];rfl
 apply(ok,by rw[U,W];exact g.ne,λq Z=>?_,by rw[z];exact g.pos,by rw[z];exact g.c7,?_,by rw[hk];exact g.nd,by rw[es];exact g.HW)
 .let Y:ij q∈eU Æa sg (Ė same):=by rw[<-F];exact bH.mpr ⟨q,Z,Á⟩
  rcases zk Y with e|⟨h2,_⟩
  .let:q.2.zs=jc x.zs bits same:=cb Prod.snd e;rw[this,z,<-g.row _ (yP J)];ext jc;simp
  .let(M,ko,e):=bH.mp h2;let:q.2.zs=M.2.zs:=(cb Prod.snd e).symm;rw[this,z];exact g.row M ko
 .let:=cb List.length hk;rw[ao,ao] at this;rw[this];exact g.Em
inductive O5(CP:Addr)(vs:az)(H:Hp)(Q:VK)(E':XK):Prop
 |mk (p:g7) (sg bits:Nat) (r:Nat×iE) (_:vs=[.ref p.a,.int (sg:Nat),.int (bits:Nat)]) (_:n9 CP H p) (_:oY p.sames p.st sg bits=Α r) (_:∀H' p',n9 CP H' p'->p'.a=p.a->p'.gp=p.gp->p'.sames=p.sames->p'.st=r.2->wc p.a p.gp H H'->uE H p p'->Q (.int ((r.1:Nat):Int)) H')
section
variable{P:Pg}{w:Wd}{K:FR}{mg:MG}{base:Heap}{CK CL CS N CV CP:Addr}{C:Cs}
def En:bG ["plan","sign","bits","places","place","tried"] ["plan","sign","bits"] (bc MV):=cj
def alx{f:Addr}{fd:FD}(F:bu K "flag_told" "flag_told" MV f fd)(TP:ju K CP ["sames","gaps","spares"])(tL:mg "len"=Β)(tR:mg "range"=Β)(dH:Ç 1 "hang" ["plan","sign","bits","same"] (Xv CP)):Ë 2 f fd ["plan","sign","bits"] (O5 CP):=by
 refine F.ok En Â;let(p,sg,bits,r,rfl,J,O,k):=h;refine⟨_,aD (dm (PW.pt (pw_or (pI (aeP Èj á ĺ) (by with_unfolding_all rfl)) (pw_or1 (ji (bz dH (ae Ö (ae á (ae å (ae bf ag))))))))) Âv dX)
  (aD (tU (i:=3) (own:=[("place",4)]) (tt:=Ec K (bU (gG λi j=>.int ś) (bU (rI (λ_ j=>0<=j) λi j=>.int (i/2^j.toNat)) ř Ãt) Äq)) (te:=ay 4) rfl En.nd rfl rfl Ï (FK Ï tR (ae (c9 gw Ï tL PySem.boot_len Ãi) ag)) Ê
   (λ_ _ _ _ _=>c6 4 En.nd) (λ_ _ _ _ _=>oG (Aj (eA yz (eA Ko å ę) bf) Än)) (λ_ _ _ _ _=>pv 4))
  (aD (cg 5 En.nd bf)
  (aD (SG jJ (qC (ji (bz dH (ae Ö (ae á (ae å (ae (eA FU bf (cK dc ö Ãd Õ)) ag))))))) (aB (SE (i:=5) En.nd rfl Çs bf SL)))
  (aB (aX (cK dc ÿ (cK dc ö Ãd Õ) Õ)))))),?_⟩
 let uB:=lp.k (k:=(Sum.inl ((sg:Nat):Int):Key)) J.ok.gp;rw[AE] at uB;apply(_,Á,_,Á,aZ J.ok.a TP.1 (TP.2 _ Ä) (OZ p) ⟨p.gp,_,Á,uB,_,Á,?_⟩);let eg:=O2 p.eY sg;cases e:cu p.eY sg with
 |none=>
  rw[e] at eg;let ef:oY p.sames p.st sg bits=Α (sg,p.st):=by
   ext oY g7.st;symm
  rw[ef] at O;cases O;exact a7 (λ_=>lr ⟨_,Á,k H p J Á Á Á Á wc.refl λa ha=>.inl ha⟩) (λhc=>absurd Á hc)
 |some x=>
  rw[e] at eg;let gZ:=yP e;let Eo:=J.row _ gZ;let ef:oY p.sames p.st sg bits=if oX (ϰ 0)=true then some (sg,sO p.st sg bits 0 x.zs) else we p.sames p.st sg bits x.zs (qg p.sames.L bits):=by
   ext oY g7.st;symm
  rw[ef] at O;refine a7 (λhc=>absurd hc Ä) Èz;apply(_,Á,_,Á,_,Á,p,sg,bits,0,x,Á,J.ok,J.ne,e,Eo,J.pos,J.c7,J.Em,J.nd,λh H1 s1=>⟨_,Á,oH ?_⟩,λh H1 p1 Z U Er em1 W O6 O7 HX O8=>⟨_,Á,lr ?_⟩)
  .rw[ah (by ext oX;rw[h];decide)] at O;let mU:=J.E s1;let Aq:=J.HW;apply(_,Á,aZ mU.ok.a TP.1 (TP.2 _ Ä) (Xf p) ⟨p.sm,_,Á,.inl (aa.of mU.ok.sm),(p.sames.L:Int),by simp,by simp_all,by af,λD Y=>?_⟩);rw[BV];refine C0 (lo:=0) (n:=p.sames.L) (nh H1 D (zi bits)) (nh.zero Y) Ây þ
   .rw[R4];refine⟨Á,_,Á,_,Á,_,_,Á,Á,R1 i,_,_,Á,Á,_,Á,a7 Î Î⟩
    .exact(_,Á,f.yes Y Ù Ĥ hc)
    .exact f.no Ĥ hc
   .let xO:H' D=Α (.lst (iv (nv (qg p.sames.L bits)))):=f.2;let s2:=s1.R f.1;let bQ:∀b∈qg p.sames.L bits,b<p.sames.L:=λb hb=>by
     delta qg at hb;symm
    let hDa:D≠p.a:=λz=>by rw[z,mU.ok.a] at Y;cases Y
    let hDg:D≠p.gp:=λz=>by rw[z,mU.ok.gp] at Y;cases Y
    generalize qg p.sames.L bits=pl at xO bQ O;refine⟨λm σ H2=>∃j:Nat,σ=[some ϭ,some (.int (sg:Nat)),some (.int (bits:Nat)),some ϔ,none,some (.int (j:Nat))]/\m=pl.L-j/\aj H H2/\H2 D=Α (.lst (iv (nv pl)))/\we p.sames p.st sg bits x.zs (pl.drop j)=Α r,
     ⟨_,0,rfl,rfl,s2,xO,O⟩,?_⟩
    rintro m σ H2 ⟨j,rfl,rfl,s3,cq,M⟩;let oE:j<pl.L:=by
     cases Nat.lt_or_ge j pl.L with
     |inl h=>exact h
     |inr h=>rw[abw h] at M;cases M
    obtain⟨b,hb⟩:∃b,pl[j]? =Α b:=⟨_,cJ oE⟩;let iP:=bQ b Èt;rw[Bj hb] at M;let qA:=J.E s3;let HY:(iv (nv pl))[j]? =Α (.int ((b:Nat):Int)):=by
     symm
    apply(_,Á,_,Á,_,Á,_,Á,_,Á,D,_,_,.int ((b:Nat):Int),Á,Á,aa.of cq,f7 HY,_,_,Á,Á,⟨R1 b,by af,by decide⟩,p,sg,bits,2^b,x,?_,qA.ok,J.ne,e,Eo,J.pos,J.c7,J.Em,J.nd,λh H3 s4=>⟨_,Á,lr ?_⟩,λh H3 p1 Z U Er em1 W O6 O7 HX O8=>⟨_,Á,oH ?_⟩)
    .simp
    .delta we at M;rw[ah (by ext oX;rw[show p.st.2=p.gB from rfl,h];decide)] at M;apply(_,λσ' H' q=>⟨_,?_,q⟩,_,Á,_,_,Á,Á,j+1,Á,Á,s3.R s4,s4 _ _ cq,M);grind
    .delta we at M;rw[ai (by ext oX;rw[show p.st.2=p.gB from rfl,h];rfl)] at M;cases M;let sP:=HX _ _ cq hDa hDg;apply(_,Á,aZ (by rw[<-U];exact Z.a) TP.1 (TP.2 _ Ä) (Xf p1) ⟨_,Á,_,Á,D,_,_,.int ((b:Nat):Int),Á,Á,aa.of sP,f7 HY,p1.sm,_,_,.int ((p.sames.D b 0:Nat):Int),Á,Á,aa.of Z.sm,?_,?_⟩)
     .rw[W];exact f7 (HC iP)
     .apply k H3 p1 (Xz J e Z U Er W O6 O7) U Er W ?_ (λb o e1 h1 h2=>HX b o (s3 _ _ e1) h1 h2) (λa ha=>(O8 a ha).imp id λz=>s3.free z);ext g7.st sO;symm
  .rw[ai (by ext oX;rw[h];rfl)] at O;cases O;apply(_,Á,k H1 p1 (Xz J e Z U Er W O6 O7) U Er W ?_ HX O8);ext g7.st sO;symm
end
def o4(sames:LN):iE->cI->Option (LN×iE)
 |st,[]=>some ([],st)
 |st,p::r=>match oY sames st p.1 p.2 with
  |none=>none
  |some x=>match o4 sames x.2 r with
   |none=>none
   |some y=>some (x.1::y.1,y.2)
def uE.refl:uE H p p:=λ_ h=>.inl h
def Apart(D:Addr)(p:g7):Prop:=D≠p.a/\D≠p.gp/\D∉p.own
def alB(h:qe CP H p)(j:a∈p.own):∃l,H a=Α (.lst l):=by
 delta g7.own at j;rcases a9.mp j with rfl|j
 .exact(_,h.sm)
 .rcases a9.mp j with rfl|j
  .exact(_,h.sp)
  .let(q,z,rfl):=bH.mp j;exact(_,h.gl q z)
def apart_new(h:qe CP H p)(j:H D=Β):Apart D p:=by
 apply(λe=>?_,λe=>?_,λe=>?_)
 .rw[e,h.a] at j;cases j
 .rw[e,h.gp] at j;cases j
 .let(l,q):=alB h e;symm
def O9(h:Apart D p)(j:p'.a=p.a)(q:p'.gp=p.gp)(O:uE H p p')(z:H D≠none):Apart D p':=⟨by rw[j];exact h.1,by rw[q];exact h.2.1,λe=>(O D e).elim h.2.2 z⟩
def qe.upd(h:qe CP H p)(j:Apart D p):qe CP Èk p:=by
 let n:∀a∈p.own,a≠D:=λa F e=>j.2.2 Å;apply(?_,?_,?_,λq z=>?_,?_)
 .rw[aA (eF j.1)];exact h.a
 .rw[aA (n _ (by ext g7.own;simp))];exact h.sm
 .rw[aA (eF j.2.1)];exact h.gp
 .rw[aA (n _ (by ext g7.own;exact aL _ (aL _ (bH.mpr ⟨q,z,Á⟩))))];exact h.gl q z
 .rw[aA (n _ (by ext g7.own;simp))];exact h.sp
def n9.upd(h:n9 CP H p)(j:Apart D p):n9 CP Èk p:=⟨h.ok.upd j,h.ne,h.row,h.pos,h.c7,h.Em,h.nd,h.HW⟩
inductive Pa(CP:Addr)(vs:az)(H:Hp)(Q:VK)(E':XK):Prop
 |mk (p:g7) (x z:df) (r:LN×iE) (_:vs=[.ref p.a,.ref x.a,.ref z.a]) (_:n9 CP H p) (_:aV H (lsN x)) (_:aV H (lsN z)) (_:x.ns.L=z.ns.L) (_:x.ns.L<=1000) (_:o4 p.sames p.st (x.ns.zip z.ns)=Α r) (_:∀H' p' q,n9 CP H' p'->p'.a=p.a->p'.gp=p.gp->p'.sames=p.sames->p'.st=r.2->wc p.a p.gp H H'->uE H p p'->H q=Β->H' q=Α (.lst (iv (nv r.1)))->Apart q p'->Q Åt H')
section
variable{P:Pg}{w:Wd}{K:FR}{mg:MG}{base:Heap}{CK CL CS N CV CP:Addr}{C:Cs}
def Pb:bG ["plan","row","stands","place","sign"] ["plan","row","stands"] (bc MU):=cj
inductive HtI(CP D:Addr)(p:g7)(H:Hp)(x z:df)(r:LN×iE)(i:Nat)(H2:Hp):Prop
 |mk (p2:g7) (fs:LN) (r2:LN×iE) (_:wc p.a p.gp H H2) (_:n9 CP H2 p2) (_:p2.a=p.a) (_:p2.gp=p.gp) (_:p2.sames=p.sames) (_:uE H p p2) (_:Apart D p2) (_:H2 D=Α (.lst (iv (nv fs)))) (_:fs.L=i) (_:o4 p.sames p2.st ((x.ns.zip z.ns).drop i)=Α r2) (_:fs++r2.1=r.1) (_:r2.2=r.2)
def alD(F:bu K "hoist_told" "hoist_told" MU f fd)(tE:mg "enumerate"=Β)(dF:Ç 2 "flag_told" ["plan","sign","bits"] (O5 CP)):Ë 3 f fd ["plan","row","stands"] (Pa CP):=by
 refine F.ok Pb Â;let(p,x,z,r,rfl,M,hx,hz,hl,jN,hh,k):=h;let q:=DZ hx;let W:=DZ hz;refine⟨_,aB (aX (eB (own:=[("place",3),("sign",4)]) (g:=g2 K 3 4) (te:=g9 (O5 CP) [] E0 (ba Ų (ba Ãt (ba (bU Ũ ř Ŀ) du)))) Á Pb.nd
   (jP Ï tE Ĺ) Ê
   (λ_ _ _ _ _=>iB 3 4 Pb.nd) Ñ
   (λ_ _ _ _ _=>bz dF (ae Ö (ae ę (ae (cK dc å ö Õ) ag)))))),?_⟩
 let alE:x.a≠p.a:=λe=>by rw[e,M.ok.a] at q;cases q
 let alF:x.a≠p.gp:=λe=>by rw[e,M.ok.gp] at q;cases q
 let alG:z.a≠p.a:=λe=>by rw[e,M.ok.a] at W;cases W
 let alH:z.a≠p.gp:=λe=>by rw[e,M.ok.gp] at W;cases W
 apply(_,Á,x.a,_,Á,aa.of q,λD Y=>?_);let HZ:=eS q Y;let hzD:=eS W Y;let Es:=apart_new M.ok Y;refine mi (K:=K) (a:=x.a) (xs:=iv (nv x.ns)) (HtI CP D p H x z r)
  ⟨p,[],r,aj.x (aI Y),M.upd Es,rfl,rfl,rfl,uE.refl,Es,au,rfl,hh,rfl,rfl⟩ (λi H2 _ h=>(by let(p2,fs,r2,U):=h;exact aa.of (U _ _ q alE alF))) ?_ ?_
 .rintro i v Tt H2 hi ⟨p2,fs,r2,U,g2,ea,eg,es,ow,Z,cq,fZ,j,xP,Ia⟩ hT;let(sg,lK,rfl):=jt hi;let dq:=(bp.mp lK).1;obtain⟨bt,Xc⟩:∃bt,z.ns[i]? =Α bt:=⟨_,cJ Å⟩;let ip:(x.ns.zip z.ns)[i]? =Α (sg,bt):=by
   symm
  rw[Bj ip] at j;let O:aj H2 (Ū (.tup [.int (i:Nat),.int (sg:Nat)])):=aI hT;let HY:(iv (nv z.ns))[i]? =Α (.int ((bt:Nat):Int)):=by
   symm
  delta o4 at j;cases e1:oY p.sames p2.st sg bt with
  |none=>symm
  |some y1=>
   rw[e1] at j;dsimp only at j;cases e2:o4 p.sames y1.2 ((x.ns.zip z.ns).drop (i+1)) with
   |none=>symm
   |some y2=>
    rw[e2] at j;let j:=aU j;subst j;refine à;generalize hHx:Ū (.tup [.int (i:Nat),.int (sg:Nat)])=Hx at O;let g3:=g2.E O;apply(_,Á,_,Á,_,Á,_,Á,z.a,_,_,.int ((bt:Nat):Int),Á,Á,aa.of (O _ _ (U _ _ W alG alH)),f7 HY,p2,sg,bt,y1,by simp_all,g3,by simp_all,λH3 p3 g4 Br Bs Pc XA Bt Bu=>?_);let Et:=O _ _ cq;let sP:=Bt _ _ Et Z.1 Z.2.1;let Eu:=O9 Z Br Bs Bu Å;apply(_,sP,by rw[dy,gQ];exact gc Ù,p3,fs++[y1.1],y2,λb o e h1 h2=>?_,g4.upd Eu,Br.R ea,Bs.R eg,Pc.R es,λa ha=>?_,Eu,?_,by simp_all,by simp_all,by simp_all,Ia)
    .rw[aA (eS e Y)];exact Bt _ _ (O _ _ (U b o e h1 h2)) Å Å
    .rcases Bu a ha with h|h
     .exact ow a h
     .apply .inr ?_;cases e:H a with
      |none=>rfl
      |some o=>
       exfalso;let J:=O.free h;by_cases h1:a=p.a
       .rw[h1,<-ea,g2.ok.a] at J;cases J
       .by_cases h2:a=p.gp
        .rw[h2,<-eg,g2.ok.gp] at J;cases J
        .rw[U a o e h1 h2] at J;cases J
    .rw[au];simp
 .rintro H2 ⟨p2,fs,r2,U,g2,ea,eg,es,ow,Z,cq,fZ,j,xP,Ia⟩;rw[dy,gQ] at fZ j;rw[abw Å] at j;cases j;grind
end
def bj(ms:aJ):LN:=(List.range ms.L).J λi=>decide ((ms.D i eX).role=1)
def gC(ms:aJ)(rows:bg):bg:=rows.M (rl ms ı)
def Ew(ms:aJ)(rows:bg):List (Nat×LI):=oW (2^(bj ms).L) (jV ms rows.flatten) (jb ü)
def qh(ms:aJ)(rows:bg):iE:=(Ew ms rows,sN (2^(bj ms).L) ((List.range (2^(bj ms).L)).M (sM ms ı)) (Ew ms rows))
def oa(sames:LN):iE->List cI->Option (bg×iE)
 |st,[]=>some ([],st)
 |st,p::r=>match o4 sames st p with
  |none=>none
  |some x=>match oa sames x.2 r with
   |none=>none
   |some y=>some (x.1::y.1,y.2)
def og(rows j:bg):List cI:=(rows.zip j).M λp=>p.1.zip p.2
def o5(ms:aJ)(rows:bg):Option (Option bg):=
 if jV ms rows.flatten=[] then some (some rows) else if (qh ms rows).2.any (λz=>decide (z<0))=true then some none else (oa ı Çc Äc).M λx=>some x.1
structure xQ(ms:aJ):Prop where
 c7:(bj ms).L<=10
 pos:∀s∈bj ms,1<=mv ms s
inductive Ib(CK:Addr)(vs:az)(H:Hp)(Q:VK)(E':XK):Prop
 |mk (pk:Addr) (ks:List ax) (y:cE) (r:Option bg) (_:vs=[.ref pk,.ref y.a]) (_:Ń ks) (_:xQ Ì) (_:OW H y ks.L) (_:(y.m.flatten).L<=1000) (_:o5 Ì y.m=Α r) (_:(∀hs,r=Α hs->∀H' z,aj H H'->cE.m z=hs->aV H' (fb z)->ja H (fb z)->Q Åk H')) (_:(r=Β->∀H',aj H H'->Q .aP H'))
def alI(l:cI)(s:Nat):(cu (jb l) s).isSome=(l.M (·.1)).Y s:=by
 refine snoc_ind (P:=λl=>(cu (jb l) s).isSome=(l.M (·.1)).Y s) Á Ϙ l;rw[Eh,bI];ext oneAt;rw[Gv];by_cases h:s=x.1
 .rw[ai h];simp[h]
 .rw[ah h,ih];simp[h]
def alJ(l:cI):((jb l).M (·.1)).Nodup:=by
 refine snoc_ind (P:=λl=>((jb l).M (·.1)).Nodup) z7 Äl l;rw[Eh];exact Gw ih
theorem XD:∀(rows j:bg),rows.L=j.L->(∀(i:Nat)(a b:LN),rows[i]? =Α a->j[i]? =Α b->a.L=b.L)->(fu rows j).M (·.1)=rows.flatten:=by
 intro rows;induction rows with
 |nil=>
  intro j q _;cases j with
  |nil=>rfl
  |cons _ _=>cases q
 |cons a rows z=>
  intro j q h2;cases j with
  |nil=>cases q
  |cons b j=>
   let z:=z j (À q) λi x y F J=>h2 (i+1) x y F J;delta fu at z⊢;rw[zV,z8,bI,z,R7];congr 1;let:=h2 0 a b rfl rfl;exact List.map_fst_zip (by show a.L<=b.L;symm)
def XE(ms:aJ)(rows:bg):rows.L=(gC ms rows).L:=by ext gC;rw[ao]
def Pd(ms:aJ)(rows:bg):∀(i:Nat)(a b:LN),rows[i]? =Α a->ŏ[i]? =Α b->a.L=b.L:=λi a b j h2=>by
 delta gC at h2;rw[bA,j] at h2;cases h2;ext rl;simp
def alK(G:Nat)(lacks:List (Nat×Int))(j:List (Nat×LN)):(oW G lacks j).M (·.1)=lacks.M (·.1):=by
 ext oW;simp
def Pe(ms:aJ)(F:LN):((jV ms F).M (·.1)).Nodup:=at5 (HH ms (gY F)) (HG F)
def alL(ms:aJ)(F:LN):(jV ms F).L<=F.L:=by
 let j:=(HH ms (gY F)).length_le;let h2:=OV F;rw[ao,ao] at j;ext jV
 af
def XF(h:p∈jV ms flat):p.1∈flat:=by
 let j:p.1∈(jV ms flat).M (·.1):=bH.mpr ⟨p,h,rfl⟩;let h2:=(HH ms (gY flat)).subset j;let(q,z,e):=bH.mp h2;rw[<-e];exact W1 z
def alM(h:xQ ms):D7 ms ı:=⟨by let:=h.c7;af,λs hs=>by
 delta bj at hs;simpa using (iA.mp hs).1,h.pos⟩
section
variable{P:Pg}{w:Wd}{K:FR}{mg:MG}{base:Heap}{CK CL CS N CV CP:Addr}{C:Cs}
def qj:bG ["kinds","rows","lacks","row","sames","number","kind","stands","plan"] ["kinds","rows"] (bc MM):=cj
inductive DsI(CP D3:Addr)(p:g7)(H6:Hp)(y z:cE)(r0:bg×iE)(i:Nat)(H7:Hp):Prop
 |mk (p2:g7) (zs:List df) (r2:bg×iE) (_:wc p.a p.gp H6 H7) (_:n9 CP H7 p2) (_:p2.a=p.a) (_:p2.gp=p.gp) (_:p2.sames=p.sames) (_:uE H6 p p2) (_:Apart D3 p2) (_:H7 D3=Α (.lst (zs.M λx=>V.ref x.a))) (_:zs.L=i) (_:(∀x∈zs,H7 x.a=Α ό/\Apart x.a p2/\H6 x.a=Β/\x.a≠D3)) (_:oa p.sames p2.st ((og y.m z.m).drop i)=Α r2) (_:zs.M df.ns++r2.1=r0.1)
def alO(F:bu K "display_told" "display_told" MM f fd)(T:ue K CK)(TP:ju K CP ["sames","gaps","spares"])(zm:mg "list"=Β)(tE:mg "enumerate"=Β)(tN:mg "min"=Β)(cS:Cn mg "SAME" Ŝ)(dL:Ç 1 "copies_lacking" ["kinds","rows"] (W2 CK)) (dA:Ç 2 "sames_along" ["kinds","sames","row"] (OP CK)) (dP:Ç 1 "places_of" ["rows","stands"] W8)(dO:Ç 3 "plan_of" ["kinds","sames","lacks","places"] (Xj CK CP)) (dH:Ç 3 "hoist_told" ["plan","row","stands"] (Pa CP)):Ë 4 f fd ["kinds","rows"] (Ib CK):=by
 refine F.ok qj Â;let(pk,ks,y,r,rfl,hk,Ic,W,fZ,O,k1,k2):=h;refine⟨_,aD (cg 2 qj.nd (bz dL (ae Ö Ĺ)))
  (aD (dm (cy (agt hr.units) å C7 (bV _)) (aB (aX (eB (own:=[("row",3)]) (te:=rZ (λxs H Q=>∃p ys,xs=[.ref p]/\(ä p ys\/bx K H p ys)/\∀l,H l=Β->Q Âa (ϑ Âw)) Âk) rfl qj.nd Åd Ê
   (λ_ _ _ _ _=>c6 3 qj.nd) Ñ (λ_ _ _ _ _=>vy Ti Ï zm HM ĳ)))) dX)
  (aD (cg 4 qj.nd (eB (own:=[("number",5),("kind",6)]) (g:=g2 K 5 6) (tt:=mY (bU pN (fk K (ay 6) "role") Äq)) (te:=ay 5) rfl qj.nd
   (Ás) Ê
   (λ_ _ _ _ _=>iB 5 6 qj.nd)
   (λ_ _ _ _ _=>oG (cy iC (aY Ϫ rfl) Çm (bV _))) (λ_ _ _ _ _=>pv 5)))
  (aD (cg 7 qj.nd (eB (own:=[("row",3)]) (te:=g9 (OP CK) [] E0 (ba Ų (ba Ãt Âk))) rfl qj.nd Åd Ê
   (λ_ _ _ _ _=>c6 3 qj.nd) Ñ (λ_ _ _ _ _=>bz dA (ae Ö (ae ę ĳ)))))
  (aD (cg 8 qj.nd (bz dO (ae Ö (ae ę (ae å (ae (bz dP (ae á Âu)) ag))))))
  (aD (dm (cy yA (c9 (Tx rfl) Ï tN O3 (ae (aY (pv 8) rfl) ag)) bf (bV _)) ϋ dX)
  (aB (aX (eB (own:=[("number",5),("row",3)]) (g:=g2 K 5 3) (te:=g9 (Pa CP) [] E0 (ba (ay 8) (ba Ŀ (ba (bU Ũ Æj (ay 5)) du)))) rfl qj.nd
   (jP Ï tE Ĺ) Ê
   (λ_ _ _ _ _=>iB 5 3 qj.nd) Ñ
   (λ_ _ _ _ _=>bz dH (ae (pv 8) (ae ö (ae (cK dc Èe Ãd Õ) ag)))))))))))),?_⟩
 let rn:=jv W.l;let XG:=W.c7;apply(_,Á,_,Á,pk,ks,y,Á,hk,W,λH1 pl nL=>?_);let s1:=nL.1;let dZ:=nL.2.2;let alP:=O;delta o5 at O;let Bm:=Pe Ì y.m.flatten;let Xk:=alL Ì y.m.flatten;let rh:∀p∈jV Ì y.m.flatten,p.1∈y.m.flatten:=λp hp=>XF hp;let hG:Ew Ì y.m=oW (2^(bj Ì).L) Äy (jb (fu y.m (gC Ì y.m))):=rfl;generalize jV Ì y.m.flatten=lacks at dZ O Bm Xk rh hG;refine⟨_,Á,λe he=>⟨pl,e,_,Á,Á,(Èv) _ _ dZ,au,_,Á,a7 Î Î⟩⟩
 .let hc:lacks=[]:=by
   cases lacks with
   |nil=>rfl
   |cons a b=>exact absurd hc (by ext bX;simp)
  rw[ai hc] at O;let s2:aj H (upd H1 e Ϥ):=s1.R Èv;generalize upd H1 e Ϥ=H2 at s2;apply(_,Á,y.a,Á,⟨_,aa.of (s2 _ _ rn)⟩,λD hD=>fW (K:=K) (a:=y.a) (xs:=y.ls.M λx=>V.ref x.a) (jS H2 D λi=>y.m.D i []) Ď (λi H' _ f=>aa.of (f.E _ _ (s2 _ _ rn))) (λi v H' hi f=>?_) þ)
  .let(x,J,rfl):=gR hi;let Z:=bo J;let dq:=(bp.mp J).1;exact(Á,eK ⟨_,Á,x.a,_,Á,.inl (aa.of (f.E _ _ (s2 _ _ (ng W.l Z)))),λl hl=>(jS.step hD Ù f (aI hl) hl (by rw[au,D4 J]))⟩)
  .let(z,rfl,s3,em,l1,fr):=jS.end hD f;apply k1 _ (aU O).symm H' z ğ ?_ l1 (ja.back fr s2);rw[em,ao];let:=vV (l:=y.m) (g:=λx=>x) (d:=[]);rw[ig,abx] at this;exact this
 .let hc:¬lacks=[]:=λz=>hc (by rw[z];rfl);rw[ah hc] at O;let s2:aj H (upd H1 e Ϥ):=s1.R Èv;let XH:=(aI (o:=.dK []) he) _ _ dZ;generalize upd H1 e Ϥ=H2 at s2 XH;let ui:=hk.E s2;let hkf:=hk.c7;refine⟨_,Á,pk,_,Á,aa.of ui.a,λD hD=>mi (K:=K) (a:=pk) (xs:=ks.M λk=>V.ref k.a) (nh H2 D λi=>decide (((ks.M ax.m).D i eX).role=1)) (nh.zero hD) (λi H' _ f=>aa.of (f.1 _ _ ui.a)) Âb Àx⟩
  .let(b,hb,rfl):=gR hi;let dq:=(bp.mp hb).1;let s3:aj H' (Ϩ (.tup [.int (i:Nat),.ref b.a])):=aI hT;refine è;refine⟨_,Á,aZ (jR ((nZ ui.l Èt).E (f.1.R s3))) T.c T.xE (xB b) Ļ⟩;rw[show V.int 1=V.int ((1:Nat):Int) from rfl,nG];refine a7 Î Î
   .exact(_,Á,f.yes hD Ù s3 (by rw[getD_map hb];exact hc))
   .exact f.no s3 (by rw[getD_map hb];exact hc)
  .let ft:H3 D=Α (.lst (iv (nv (bj Ì)))):=by
    let:=f.2;rw[ao] at this;ext bj;rw[ao];exact this
   let s3:=s2.R f.1;let alR:=f.1 _ _ XH;let Ie:=hk.E s3;let XI:=alM Ic;apply(_,Á,y.a,Á,⟨_,aa.of (s3 _ _ rn)⟩,λD2 cq=>fW (K:=K) (a:=y.a) (xs:=y.ls.M λx=>V.ref x.a) (jS H3 D2 λi=>rl Ì (bj Ì) Èc) Ác (λi H' _ f=>aa.of (f.E _ _ (s3 _ _ rn))) (λi v H' hi f2=>?_) (λH4 f2=>?_))
   .let(x,J,rfl):=gR hi;let Z:=bo J;let dq:=(bp.mp J).1;exact(Á,eK ⟨_,Á,_,Á,_,Á,pk,D,x.a,ks,bj Ì,x.ns,Á,Ie.E f2.E,f2.E _ _ ft,XI,f2.E _ _ (s3 _ _ (ng W.l Z)),W.short x Z,λH5 q n5=>(jS.step cq Ù f2 n5.1 n5.2.1 (by rw[D4 J];exact n5.2.2))⟩)
   .let(z,rfl,s4,em,l4,fr4):=jS.end cq f2;let oh:z.m=gC Ì y.m:=by
     rw[em,ao];let:=vV (l:=y.m) (g:=rl Ì (bj Ì)) (d:=[]);rw[ig] at this;exact this
    let sj:y.ls.L=z.ls.L:=by rw[<-ig,<-ig,oh];exact XE _ _
    let XJ:∀(i:Nat)(a b:df),y.ls[i]? =Α a->z.ls[i]? =Α b->a.ns.L=b.ns.L:=λi a b U h2=>Pd Ì y.m i a.ns b.ns (by ext cE.m;rw[bA,U];rfl) (by rw[<-oh];ext cE.m;rw[bA,h2];rfl);let OG:=XD y.m z.m (by rw[ig,ig];exact sj) (by rw[oh];exact Pd _ _);let avb:(fu y.m z.m).L<=1000:=by
     let:=cb List.length OG;rw[ao] at this
     af
    let s5:=s3.R s4;let alS:=s4 _ _ ft;let XM:=s4 _ _ alR;apply(_,Á,_,Á,_,Á,_,Á,_,Á,y,z,Á,aV.E W.l s5,l4,sj,XJ,by af,λH5 pp t s6 zj tb et=>?_);let s7:=s5.R s6;let Ej:∀p∈t,p.2.ns.L<=1000:=λp hp=>by
     let(i,hi,ei):=nt hp;let U:cont p∈jb Çj:=by rw[<-et];exact bH.mpr ⟨p,hp,Á⟩
     let h2:=AF (alJ Çj) (s:=p.1) (v:=p.2.ns) U;let:=W6 _ h2
     af
    let iO:∀p∈lacks,(cu t p.1).isSome=true:=λp hp=>by
     let U:=Bh t p.1;rw[et] at U;let h2:=alI Çj p.1;rw[U,OG,Fn] at h2;rw[h2];simpa using rh p hp
    let alT:pp≠pl:=λe=>by rw[e,XM] at zj;cases zj
    apply(pk,D,pl,pp,ks,bj Ì,lacks,t,Á,hk.E s7,s6 _ _ alS,XI,Ic.c7,s6 _ _ XM,Bm,by af,tb.d,tb.l,Ej,iO,alT,λY p s8 ok AS HS aN avc lL Ig mZ=>?_);let s9:=s7.R s8;let XO:p.st=qh Ì y.m:=by
     ext g7.st qh;rw[mZ,Ig,hG,et,oh]
    let alU:p.gB.L=2^(bj Ì).L:=by
     rw[mZ];exact Xh _ _ _ (by rw[ao,il])
    let h2k:2^(bj Ì).L<=1024:=yn Ð Ic.c7;let h2p:0<2^(bj Ì).L:=Nat.pow_pos Ð;let n8:p.eY.L=lacks.L:=by
     let:=cb List.length Ig;delta oW at this;rw[ao,ao] at this;exact this
    let BQ:n9 CP Y p:=⟨ok,aN,λq M=>by rw[alU];exact Xi (p:=ij q) (by rw[<-Ig];exact bH.mpr ⟨q,M,rfl⟩),by af,by af,by af,by rw[<-O4,Ig,alK];exact Bm,by rw[lL];exact Ic.c7⟩;let Vd:p.gB=(qh Ì y.m).2:=cb Prod.snd XO;rw[<-Vd] at O;refine⟨_,Á,aZ ok.a TP.1 (TP.2 _ Ä) (Xg p) ⟨p.sp,p.gB,Á,aa.of ok.sp,by omega,λm hm lY=>⟨_,_,rfl,rfl,_,rfl,a7 Äk Äk⟩⟩⟩
    .simp at lh;rw[ai (tw.mpr ⟨m,hm,eQ lh⟩)] at O;exact k2 (aU O).symm Y s9
    .simp at lh;rw[ah (λe=>by
      let(z',Fy,h2):=tw.mp e;let:=mQ h2;let:=lY z' Fy
      af)] at O
     rw[<-XO,<-lL,<-oh] at O;let(r0,o6,er):=u4.mp O;let k3:=k1 r0.1 er.symm;clear O alP k1 k2;let Ih:=s9 _ _ rn;let XQ:=l4.E (s6.R s8);let alV:=jv XQ;let alW:=aV.E W.l s9;let Ii:∀b o,Y b=Α Èa->b≠p.a/\b≠p.gp:=λb o e=>⟨λz=>(by rw[z,ok.a] at e;cases e),λz=>(by rw[z,ok.gp] at e;cases e)⟩;apply(_,Á,y.a,_,Á,aa.of Ih,λD3 sP=>?_);let Es:=apart_new ok sP;refine mi (K:=K) (a:=y.a) (xs:=y.ls.M λx=>V.ref x.a) (DsI CP D3 p Y y z r0)
      ⟨p,[],r0,aj.x (aI sP),BQ.upd Es,rfl,rfl,rfl,uE.refl,Es,au,rfl,by simp,o6,rfl⟩ (λi H7 _ h=>(by let(p2,zs,r2,sx):=h;exact aa.of (sx _ _ Ih (Ii _ _ Ih).1 (Ii _ _ Ih).2))) ?_ ?_
     .rintro i v Tt H7 hi ⟨p2,zs,r2,sx,g2,ea,eg,es,ow,ap,Pf,Ph,zo,j,xP⟩ hT;let(x,J,rfl):=gR hi;let dq:=(bp.mp J).1;obtain⟨u,hu⟩:∃u,z.ls[i]? =Α u:=⟨_,cJ Å⟩;let Z:=bo J;let hum:=bo hu;let Wh:=ng alW Z;let hu6:=ng XQ hum;let ip:(og y.m z.m)[i]? =Α (x.ns.zip u.ns):=by
       ext og cE.m;rw[bA,(JU (i:=i) (l₁:=y.ls.M df.ns) (l₂:=z.ls.M df.ns) (z:=(x.ns,u.ns))).mpr ⟨by rw[bA,J];rfl,by rw[bA,hu];rfl⟩];rfl
      rw[Bj ip] at j;delta oa at j;cases e1:o4 p.sames p2.st (x.ns.zip u.ns) with
      |none=>rw[e1] at j;cases j
      |some y1=>
       rw[e1] at j;dsimp only at j;cases e2:oa p.sames y1.2 ((og y.m z.m).drop (i+1)) with
       |none=>rw[e2] at j;cases j
       |some y2=>
        rw[e2] at j;let j:=aU j;subst j;let t1:aj H7 (upd H7 Tt (.tup [.int (i:Nat),.ref x.a])):=aI hT;refine à;generalize hHx:upd H7 Tt (.tup [.int (i:Nat),.ref x.a])=Hx at t1;let kept:∀b o,Y b=Α Èa->Hx b=Α Èa:=λb o e=>t1 _ _ (sx _ _ e (Ii _ _ e).1 (Ii _ _ e).2);apply(_,Á,_,Á,_,Á,_,Á,z.a,_,_,.ref u.a,Á,Á,aa.of (kept _ _ alV),f7 (by rw[bA,hu];rfl),p2,x,u,y1,by rw[ea];rfl,g2.E t1,λq M=>?_,λq M=>?_,XJ i x u J hu,W.short x Z,by rw[es];exact e1,λH8 p3 q g3 Br Bs Pc XA Bt Bu uF alZ al0=>?_)
        .simp only[lsN,a9,k7,k8] at M;subst M;exact kept _ _ Wh
        .simp only[lsN,a9,k7,k8] at M;subst M;exact kept _ _ hu6
        .let Et:=t1 _ _ Pf;let Ij:=Bt _ _ Et ap.1 ap.2.1;let Eu:=O9 ap Br Bs Bu (by rw[Et];exact λz=>by cases z);let XR:q≠D3:=λe=>by rw[e,Et] at uF;cases uF
         let XS:∀a,Hx a=Β->Y a=Β:=λa h=>by
          cases e:Y a with
          |none=>rfl
          |some o=>
           exfalso;let hn:=t1.free h;by_cases U:a=p.a
           .rw[U,<-ea,g2.ok.a] at hn;cases hn
           .by_cases h2:a=p.gp
            .rw[h2,<-eg,g2.ok.gp] at hn;cases hn
            .rw[sx a o e U h2] at hn;cases hn
         apply(_,Ij,by rw[ao];exact gc Ù,p3,zs++[⟨q,y1.1⟩],y2,λb o e U h2=>?_,g3.upd Eu,Br.R ea,Bs.R eg,Pc.R es,λa ha=>?_,Eu,?_,by rw[j5,Ph];rfl,λw hw=>?_,by rw[XA];exact e2,?_)
         .rw[aA (eS e sP)];exact Bt _ _ (t1 _ _ (sx b o e U h2)) (by rw[ea];exact U) (by rw[eg];exact h2)
         .exact(Bu a ha).elim (ow a) λh=>.inr (XS a h)
         .rw[au,bI];rfl
         .rcases fw.mp hw with hw|hw
          .let(w1,w2,w3,w5):=zo w hw;let w4:=t1 _ _ w1;apply(?_,O9 w2 Br Bs Bu (by rw[w4];exact λz=>by cases z),w3,w5);rw[aA w5];exact Bt _ _ w4 w2.1 w2.2.1
          .let:w=⟨q,y1.1⟩:=by simpa using hw
           subst this;apply(?_,al0,XS _ uF,XR);rw[aA XR];exact alZ
         .rw[bI,rK];exact xP
     .rintro H7 ⟨p2,zs,r2,sx,g2,ea,eg,es,ow,ap,Pf,Ph,zo,j,xP⟩;rw[ao] at Ph j;rw[abw (by ext og;rw[ao,List.length_zip,ig];symm)] at j;cases j;rw[jG] at xP;let sF:=λb o e=>sx b o (s9 _ _ e) (λz=>(by rw[z,s7.free AS] at e;cases e)) (λz=>(by rw[z,s7.free HS] at e;cases e));apply k3 H7 ⟨D3,zs⟩ sF xP (WT Pf λx J q M=>?_) (D0 (s9.free sP) λx J q M=>?_)
      .simp only[lsN,a9,k7,k8] at M;subst M;exact(zo x J).1
      .simp only[lsN,a9,k7,k8] at M;subst M;exact s9.free (zo x J).2.2.1
end
def uG(part:LI):Bool:=!(decide (part.L>64)||(JM.aO 32 part).Y [])&&part.all λb=>decide (32<=b)&&decide (b<=126)
inductive XU(K:FR)(CB:Addr)(vs:az)(H:Hp)(Q:VK)(E:XK):Prop
 |mk (ap:Addr) (part:LI) (_:vs=[.ref ap]) (_:ä ap Ão) (_:part.L<=100000) (_:(uG part=true->∀H',aj H H'->Q Én H')) (_:(uG part=false->No E CB H))
theorem XW{K:FR}{H:Hp}:∀{qs:LA}{L:dQ},eV H qs L->jn K H Äu (L.M λl=>PyData.list (l.M PyData.int)):=by
 intro qs L j;induction j with
 |nil=>exact .nil
 |cons h t q=>
  exact .cons (.lst (aa.of h) (qO _)) q
theorem any_empty(L:dQ):((L.M λl=>PyData.list (l.M PyData.int)).any λd=>PyData.eqv d (.list []))=L.Y []:=by
 induction L with
 |nil=>rfl
 |cons l L j=>
  rw[a8,vb,j,BR];congr 1;cases l <;> rfl
section
variable{P:Pg}{w:Wd}{K:FR}{mg:MG}{base:Heap}{CK CL CS N CV CP CB:Addr}{C:Cs}
def Pi:bG ["part","byte"] ["part"] (bc M3):=cj
def al1{f:Addr}{fd:FD}(F:bu K "read_meaning" "read_meaning" M3 f fd)(tL:mg "len"=Β)(tA:mg "all"=Β)(X:Ğ "NoBook" CB N)(Y:Cn mg "LONGEST_MEANING" (.int 64))(cB:Cn mg "BLANK" Æs)(cP:Cn mg "LAST_PRINTED" (.int 126))(Z:Ç 1 "cut" ["text","mark"] (xx K)):Ģ Ē 2 f fd ["part"] (XU K CB):=by
 refine F.qM Pi Â;let(q,part,rfl,J,hl,k1,k2):=h;refine⟨_,aD (dm (PW.pt (pw_or (cy rX č (cw Y) (bV _)) (pw_or1 (cy (Lj (qz (abc Ð _) hr.un)) Ĩ (bz Z (ae Ö Ϸ)) (by with_unfolding_all rfl))))) ő dX)
  (aD (dm (qC (ji (c9 (w8 rfl) Ï tA zZ (ae (eB (own:=[("byte",1)]) (te:=Kq (gG λi j=>.bl (decide (i<=j))) (gG λi j=>.bl (decide (i<=j))) (tC Æs) ž (tC (.int 126))) rfl Pi.nd Åe Ê
   (λ_ _ _ _ _=>c6 1 Pi.nd) Ñ (λ_ _ _ _ _=>SU yB yB (cw cB) á (cw cP))) ag)))) Ý dX)
  (aB (aX Ö))),?_⟩
 let em:uG part=(!(decide (part.L>64)||(JM.aO 32 part).Y [])&&part.all λb=>decide (32<=b)&&decide (b<=126)):=rfl;refine⟨_,Á,q,_,Á,.inl J,_,_,Á,Á,_,Á,a7 Î Î⟩
 .let hc:part.L>64:=by
   grind
  apply lr (gf (k2 ?_));symm
 .let hc:¬part.L>64:=by
   grind
  apply(dj _,λl U=>⟨_,Á,q,32,part,Á,L2.aj.seq (aI U) J,hl,λW p qs nw qZ nd aN fr=>?_⟩);let s1:aj H (ϑ ã):=aI U;let s2:=s1.R nw.1;let jN:=nw.1 _ _ au;apply(p,_,_,.list [],Á,aa.of nw.2.2,XW qZ,.lst (aa.of jN) .nil,λd hd=>?_,Á,_,Á,?_)
  .let(x,_,rfl):=bH.mp hd;exact shaped_ints x
  rw[any_empty];refine a7 Äk Äk
  .apply gf ((k2 ?_).go s2);symm
  .let e1:uG part=part.all λb=>decide (32<=b)&&decide (b<=126):=by
    symm
   refine⟨_,Á,q,Á,⟨_,s2.seq J⟩,λD hD=>fW (K:=K) (a:=q) (xs:=iv part) (cz W D λi v ns=>ns=[]/\∀b,part[i]? =Α b->v=.bl (decide (32<=b)&&decide (b<=126))) Ď (λi H' _ f=>(s2.R f.E).seq J) ą þ⟩
   .let(z,hz,rfl):=ub hi;let dq:=(bp.mp hz).1;refine⟨Á,eK ⟨_,Á,_,_,Á,Á,_,Á,a7 ū ū⟩⟩
    .apply(_,_,Á,Á,?_);apply f.step hD Ù Ĥ ⟨Á,λb hb=>?_⟩ aV.nil Ä;symm
    .apply f.step hD (by omega) Ĥ ⟨Á,λb hb=>?_⟩ aV.nil Ä
     af
   .let(ys,s3,iL,O,fl):=f.end;rw[dy] at O;let ey:ys=(part.M λb=>decide (32<=b)&&decide (b<=126)).M V.bl:=by
     rw[ck];apply uh O λi y x h1 h2=>?_;let(ns,(_,e),_):=fl i y h1;symm
    apply(D,part.M λb=>decide (32<=b)&&decide (b<=126),Á,by rw[<-ey];exact aa.of iL,_,rfl,?_);rw[rJ];let e2:part.all (id∘ λb=>decide (32<=b)&&decide (b<=126))=uG part:=by rw[e1];rfl
    rw[e2];apply a7 (λM=>?_) (λM=>?_)
    .exact gf ((k2 Å).go ğ)
    .exact(_,Á,k1 Å H' ğ)
end
abbrev keyOf(name:LI):eN:=name.M Sum.inl
def XX(name:LI):iv name=(keyOf name).M kV:=by
 ext iv keyOf;rw[ck];rfl
theorem al3(h:keyOf a=keyOf b):a=b:=by
 induction a generalizing b with
 |nil=>
  symm
 |cons x a j=>
  cases b with
  |nil=>cases h
  |cons y b=>
   grind
def kO(ms:aJ)(i:Nat):Bool:=decide ((ms.D i eX).role=0)
def uH(ms:aJ)(n:Nat):List (LI×Nat):=((List.range n).J (kO ms)).M λj=>((ms.D j eX).name,j)
def kU(ms:aJ)(name:LI):Option Nat:=(uH ms ms.L).foldl (λacc p=>if p.1=name then some p.2 else acc) none
def zp(ms:aJ):List (eN×V):=(uH ms ms.L).foldl (λacc p=>putK acc (keyOf p.1) (V.int ((p.2:Nat):Int))) []
def al4(ms:aJ)(name:LI):gK (zp ms) (keyOf name)=(kU ms name).M λn=>V.int ((n:Nat):Int):=by
 ext zp kU;let gen:∀(l:List (LI×Nat))(kvs:List (eN×V))(acc:Option Nat),gK kvs (keyOf name)=acc.M (λn=>V.int ((n:Nat):Int))->
   gK (l.foldl (λacc p=>putK acc (keyOf p.1) (V.int ((p.2:Nat):Int))) kvs) (keyOf name)=(l.foldl (λacc p=>if p.1=name then some p.2 else acc) acc).M λn=>V.int ((n:Nat):Int):=by
  intro l;induction l with
  |nil=>intro kvs acc h;exact h
  |cons p l j=>
   intro kvs acc h;rw[Fv,Fv];apply j _ _ ?_;rw[aeF];by_cases e:p.1=name
   .rw[ai e,ai (by rw[e])];rfl
   .rw[ah e,ah (λz=>e (al3 z).symm)];exact h
 exact gen _ [] none Á
def XY(ms:aJ)(i:Nat):uH ms (i+1)=uH ms i++(if kO ms i=true then [((ms.D i eX).name,i)] else []):=by
 ext uH;rw[D1,bI];grind
inductive XZ(CK:Addr)(vs:az)(H:Hp)(Q:VK)(E':XK):Prop
 |mk (pk:Addr) (ks:List ax) (_:vs=[.ref pk]) (_:Ń ks) (_:∀H' p,Ů p (.dT (zp Ì))->Q Ĝ H')
section
variable{P:Pg}{w:Wd}{K:FR}{mg:MG}{base:Heap}{CK CL CS N CV CP CB:Addr}{C:Cs}
def Pj:bG ["kinds","number","kind"] ["kinds"] (bc MY):=cj
abbrev X0(K:FR):az->Hp->VK->Prop:=λxs H Q=>∃p ys,xs=[.ref p]/\((ä p ys/\∀l,H l=Β->Q Âa (ϑ Æq))\/(š p ys/\Q Ĝ H))
inductive NoI(D:Addr)(H:Hp)(ks:List ax)(i:Nat)(H2:Hp):Prop
 |mk (ps:LA) (ts:List (eN×Addr×V)) (_:aj H H2) (_:H2 D=Α (.lst Àk)) (_:ps.L<=i) (_:Paired (λp(t:eN×Addr×V)=>H2 p=Α (.tup [.ref t.2.1,t.2.2])/\H2 t.2.1=Α (.tup (t.1.M kV))) ps ts) (_:ts.M (λt=>(t.1,t.2.2))=(uH Ì i).M λp=>(keyOf p.1,V.int ((p.2:Nat):Int)))
def al6(F:bu K "numbers_of_signs" "numbers_of_signs" MY f fd)(T:ue K CK)(tD:mg "dict"=Β)(tT:mg "tuple"=Β)(tE:mg "enumerate"=Β)(cS:Cn mg "SIGN" œ):Ë 1 f fd ["kinds"] (XZ CK):=by
 refine F.ok Pj Â;let(pk,ks,rfl,hk,k):=h;let hkf:=hk.c7;refine⟨_,aB (aX (vy (agE (qz (abc Ð _) hr.un) Á) Ï tD W3 (ae (eB (own:=[("number",1),("kind",2)]) (g:=g2 K 1 2) (tt:=mY (bU pN (fk K ř "role") Är))
   (te:=vw (ba (rZ (X0 K) (ba (fk K ř "name") du)) (ba ž du))) rfl Pj.nd
   (Ás) Ê
   (λ_ _ _ _ _=>iB 1 2 Pj.nd)
   (λ_ _ _ _ _=>oG (cy iC Àt Çm (bV _)))
   (λ_ _ _ _ _=>rY (ae (vy Tj Ï tT boot_tuple Èu) Ĺ))) ag))),?_⟩
 refine⟨_,Á,pk,_,Á,aa.of hk.a,λD hD=>mi (K:=K) (a:=pk) (xs:=ks.M λk=>V.ref k.a) (NoI D H ks)
  ⟨[],[],aI hD,au,bC _,.nil,rfl⟩ (λi H2 _ h=>(by let(_,_,q):=h;exact aa.of (q _ _ hk.a))) ?_ ?_⟩
 .rintro i v Tt H2 hi ⟨ps,ts,q,J,dZ,W,M⟩ hT;let(b,hb,rfl):=gR hi;let dq:=(bp.mp hb).1;let j:aj H2 (Ū (.tup [.int (i:Nat),.ref b.a])):=aI hT;let s3:=q.R j;let U:=(nZ hk.l Èt).E s3;let Z:(ks.M ax.m).D i eX=b.m:=getD_map hb;refine è;refine⟨_,Á,aZ (jR U) T.c T.xE (xB b) Ļ⟩;rw[show V.int 0=V.int ((0:Nat):Int) from rfl,nG];generalize hHx:Ū (.tup [.int (i:Nat),.ref b.a])=Hx at j s3 U;refine a7 Î Î
  .apply(_,Á,aZ (jR U) T.c T.nName (Wa b) ⟨b.nm,_,Á,.inl ⟨aa.of (Wm U),λl hl=>⟨_,Á,(by show 2<=sizeLine;decide),λt O=>?_⟩⟩⟩);let s4:=aI (o:=.tup (iv b.m.name)) hl;let Y:=j.R (s4.R (aI (o:=.tup [.ref l,.int (i:Nat)]) O));let bQ:l≠t:=λz=>by rw[<-z,au] at O;cases O
   let Eg:=j.free (s4.free O);let hDl:l≠D:=λz=>by rw[z,j _ _ J] at hl;cases hl
   let OY:t≠D:=λz=>by rw[z,J] at Eg;cases Eg
   apply(_,Y _ _ J,by rw[ao];exact gc Ù,ps++[t],ts++[(keyOf b.m.name,l,V.int ((i:Nat):Int))],su (q.R Y) hD,?_,?_,?_,?_)
   .rw[au,bI];rfl
   .symm
   .refine Paired.snoc (Paired.ot W λp t' e=>Ϧ) Ϧ
    .rw[aA (λz=>by simp_all)];exact Y _ _ e.1
    .rw[aA (λz=>by simp_all)];exact Y _ _ e.2
    .rw[aA OY];exact au
    .rw[aA hDl,aA bQ,au,XX]
   .rw[bI,M,XY,ai (show kO Ì i=true by ext kO;rw[Z];exact hc),bI,Z];rfl
  .apply(ps,ts,q.R j,j _ _ J,Nat.le_succ_of_le dZ,Paired.ot W λp t e=>⟨j _ _ e.1,j _ _ e.2⟩,?_);rw[M,XY,ah (show ¬kO Ì i=true by ext kO;rw[Z];exact hc),jG]
 .rintro H2 ⟨ps,ts,q,J,dZ,W,M⟩;rw[ao] at M;apply(D,ps,ts,Á,aa.of J,W,λp hp=>?_);apply k _ p ⟨q.R (aI hp),q.free hp,?_⟩;rw[au];let em:sv [] ts=zp Ì:=by
   let e1:sv [] ts=(ts.M λt=>(t.1,t.2.2)).foldl (λacc p=>putK acc p.1 p.2) []:=by
    ext sv;rw[List.foldl_map]
   rw[e1,M,List.foldl_map];ext zp;simp
  rw[em]
end
def oV:Option Nat->V
 |none=>.aP
 |some n=>.int ((n:Nat):Int)
def ql(ms:aJ)(part:LI):List (Option Nat):=(JM.aO 46 part).M (kU ms)
def xR(ms:aJ)(part:LI):Option LN:=if (ql ms part).L>8\/(ql ms part).Y none=true then none else some ((ql ms part).M λo=>o.D 0)
inductive X5(K:FR)(CB:Addr)(vs:az)(H:Hp)(Q:VK)(E:XK):Prop
 |mk (ap pn:Addr) (ms:aJ) (part:LI) (_:vs=[.ref ap,.ref pn]) (_:ä ap Ão) (_:part.L<=100000) (_:H pn=Α (.dT (zp ms))) (_:(∀row,xR ms part=Α row->∀H' p,Ů p Äi->Q Ĝ H')) (_:(xR ms part=Β->No E CB H))
def al8(l:List (Option Nat)):(l.M oV).all m3=true:=by
 rw[rJ];exact jI.mpr λo _=>by cases o <;> rfl
theorem al9(l:List (Option Nat)):w6 .aP (l.M oV)=l.Y none:=by
 ext w6;rw[JG];induction l with
 |nil=>rfl
 |cons o l j=>
  rw[vb,BR,j];congr 1;cases o <;> rfl
section
variable{P:Pg}{w:Wd}{K:FR}{mg:MG}{base:Heap}{CK CL CS N CV CP CB:Addr}{C:Cs}
def Pk:bG ["part","numbers","row","name"] ["part","numbers"] (bc M0):=cj
def ama(F:bu K "read_signs" "read_signs" M0 f fd)(tL:mg "len"=Β)(tT:mg "tuple"=Β)(X:Ğ "NoBook" CB N)(cF:Cn mg "MOST_FLAGS" Éo)(cS:Cn mg "FULL_STOP" (.int 46))(dC:Ç 1 "cut" ["text","mark"] (xx K)):Ģ Ē 2 f fd ["part","numbers"] (X5 K CB):=by
 refine F.qM Pk Â;let(ap,pn,ms,part,rfl,hP,hl,Pl,k1,k2):=h;let hu:A.units+3+1<cLine:=qz Ä hr.un;refine⟨_,aD (tU (i:=2) (own:=[("name",3)]) (te:=Ul ž (rZ (X0 K) Âk)) Á Pk.nd Á Á Ï (dY (bz dC (ae Ö (ae Çm ag)))) Ê
   (λ_ _ _ _ _=>c6 3 Pk.nd) Ñ (λ_ _ _ _ _=>aeW hu á (vy Tj Ï tT boot_tuple ĳ) ⟨rfl,rfl,rfl,rfl⟩))
  (aD (dm (PW.pt (pw_or (cy rX ā (cw cF) (bV _)) (pw_or1 (cy KB rR å (by with_unfolding_all rfl))))) Ý dX)
  Çr),?_⟩
 refine⟨_,Á,ap,46,part,Á,hP,hl,λH1 p Z nw J nd aN fr=>⟨p,Á,⟨_,aa.of nw.2.2⟩,λD hD=>fW (K:=K) (a:=p) (xs:=Z.M V.ref) (cz H1 D λi v ns=>ns=[]/\∀x,(JM.aO 46 part)[i]? =Α x->v=oV (kU ms x)) Ď (λi H' _ f=>aa.of (f.E _ _ nw.2.2)) ą þ⟩⟩
 .rw[bA] at hi;cases eq:Z[i]? with
  |none=>symm
  |some q=>
   rw[eq] at hi;cases hi;let(x,hx,hq):=eV.get J eq;let dq:=(bp.mp eq).1;let gJ:=GT 46 part;let uk:=J.len;let O:=f.E _ _ (nw.1 _ _ Pl);apply(Á,eK ⟨_,Á,pn,Á,.inr ⟨_,.inl O⟩,_,Á,q,_,Á,.inl ⟨aa.of (f.E _ _ hq),λl Y=>⟨_,lp.t (k:=keyOf x) ((aI Y) _ _ O) (by rw[au,XX]),?_⟩⟩⟩);rw[al4];apply f.step hD Ù (aI Y) ⟨Á,λx' xh=>?_⟩ aV.nil Ä;rw[hx] at xh;cases xh;cases kU ms x <;> rfl
 .let(ys,s1,j,U,fl):=f.end;rw[ao,J.len] at U;let ey:ys=(ql ms part).M oV:=by
   ext ql;rw[ck];apply uh U λi y x h1 h2=>?_;let(ns,(_,e),_):=fl i y h1;symm
  subst ey;let M:=nw.1.R s1;let W:xR ms part=if (ql ms part).L>8\/(ql ms part).Y none=true then none else some ((ql ms part).M λo=>o.D 0):=rfl;generalize ql ms part=L at j W;refine⟨_,Á,D,_,Á,.inl (aa.of j),_,_,Á,Á,_,Á,a7 Î Î⟩
  .let hc:L.L>8:=by
    grind
   apply lr (gf ((k2 ?_).go M));symm
  .let hc:¬L.L>8:=by
    grind
   apply(_,Á,D,_,Á,.inl (aa.of j),Á,al8 L,_,Á,?_);rw[al9];refine a7 Äk Äk
   .apply gf ((k2 ?_).go M);symm
   .apply(_,Á,k1 _ (by rw[W,ah (λz=>z.elim hc lh)]) H' D ⟨M,nw.1.free hD,?_⟩);rw[j];congr 2;ext iv nv;rw[ck,ck];apply iU λo ho=>?_;cases o with
    |none=>symm
    |some n=>rfl
end
structure bJ where
 a:Addr
 dx:Addr
 rw:Addr
 mn:Addr
 row:LN
 Pn:LI
def Ik(e:bJ):List (Str×V):=[("row",.ref e.rw),("meaning",.ref e.mn)]
def qm(CE:Addr)(e:bJ):jq:=[(e.a,.ins CE e.dx (Ik e)),(e.rw,.lst Èf),(e.mn,.lst (iv e.Pn))]
def bJ.m(e:bJ):LN×LI:=(e.row,e.Pn)
def Ey(e:bJ):(Ik e).Q ("row":Str)=Α (.ref e.rw):=gM
def Ez{CE:Addr}{H:Hp}{e:bJ}(h:aV H Äv):H e.a=Α (.ins CE e.dx (Ik e)):=h (e.a,_) (by simp[qm])
def EA{CE:Addr}{H:Hp}{e:bJ}(h:aV H Äv):H e.rw=Α (.lst Èf):=h (e.rw,_) (by simp[qm])
def amb{CE:Addr}{H:Hp}{e:bJ}(j:H e.a=Α (.ins CE e.dx (Ik e)))(h2:H e.rw=Α (.lst Èf))(q:H e.mn=Α (.lst (iv e.Pn))):aV H Äv:=λz hz=>by
 simp only[qm,a9,k7,k8] at hz;rcases hz with rfl|rfl|rfl
 .exact j
 .exact h2
 .exact q
def amc{CE:Addr}{H:Hp}{e:bJ}(j:H e.a=Β)(h2:H e.rw=Β)(q:H e.mn=Β):ja H Äv:=λz hz=>by
 simp only[qm,a9,k7,k8] at hz;rcases hz with rfl|rfl|rfl
 .exact j
 .exact h2
 .exact q
def iQ(ms:aJ)(line:LI):Option (LN×LI):=if line.Y 32=true then
  match xR ms (line.take (line.idxOf 32)) with
  |none=>none
  |some row=>if uG (line.drop (line.idxOf 32+1))=true then some (row,line.drop (line.idxOf 32+1)) else none
 else none
inductive Po(K:FR)(CB CE:Addr)(vs:az)(H:Hp)(Q:VK)(E:XK):Prop
 |mk (ap pn:Addr) (ms:aJ) (line:LI) (_:vs=[.ref ap,.ref pn]) (_:ä ap Æo) (_:line.L<=100000) (_:H pn=Α (.dT (zp ms))) (_:(∀x,iQ ms line=Α x->∀H' e,aj H H'->bJ.m e=x->aV H' Äv->ja H Äv->Q (.ref e.a) H')) (_:(iQ ms line=Β->No E CB H))
section
variable{P:Pg}{w:Wd}{K:FR}{mg:MG}{base:Heap}{CK CL CS N CV CP CB CE fQ:Addr}{C:Cs}
def X7:bG ["line","numbers","end"] ["line","numbers"] (bc MZ):=cj
def amd{f:Addr}{fd:FD}(F:bu K "read_entry" "read_entry" MZ f fd)(X:Ğ "NoBook" CB N)(cB:Cn mg "BLANK" Æs)(dE:Ā "Entry" CE ["row","meaning"])(dS:Ċ Ē 2 "read_signs" ["part","numbers"] (X5 K CB)) (dM:Ċ Ē 2 "read_meaning" ["part"] (XU K CB)):Ģ Ē 3 f fd ["line","numbers"] (Po K CB CE):=by
 let(fS,yU,GS,mS,kS,bS):=dS;let(fM,fdM,GM,mM,kM,bM):=dM;refine F.qM X7 Â;let(W,pn,ms,line,rfl,M,hl,Pl,k1,k2):=h;refine⟨_,aD (dm (cy adS (cw cB) Ö (by with_unfolding_all rfl)) ő dX)
  (aD (cg 2 X7.nd (pP PySem.F.plainAttrs_list PySem.F.slot_list_index PySem.F.type_list_index TJ Ö Ϸ))
  (aB (aX (pW dE hr (ae (nI GS hr rfl mS kS bS .nil so (ae (wX wZ Ö wV (wW å)) Ĺ)) (ae (nI GM hr rfl mM kM bM .nil so (ae (wX wZ Ö (wW (eA pL å bf)) wV) ag)) ag)))))),?_⟩
 let q:iQ ms line=if line.Y 32=true then (match xR ms (line.take (line.idxOf 32)) with
  |none=>none
  |some row=>if uG (line.drop (line.idxOf 32+1))=true then some (row,line.drop (line.idxOf 32+1)) else none) else none:=rfl
 apply(_,Á,W,_,Á,.inl M,Á,DB _,_,Á,?_);rw[Ni];refine a7 Î Î
 .let hc:¬line.Y 32=true:=by simpa using hc
  exact gf (k2 Å)
 .let hc:line.Y 32=true:=by simpa using hc
  rw[ai hc] at q;let(j,zz,ej,hj,Nk,DC):=VG hc;let oE:j<line.L:=by
   grind
  apply(_,Á,.inl ⟨Á,_,M⟩,W,_,_,j,zz,Á,Á,M,Á,DB _,hj,Nk,DC,?_);let ej:line.idxOf 32=j:=by omega
  rw[ej] at q;apply(_,Á,_,Á,_,Á,W,_,Á,M,λJ HR=>?_);rw[Og _ (show j<=(iv line).L by grind),show(iv line).take j=iv (line.take j) by simp];let O:aj H (upd H J ϟ):=aI HR;let X8:(upd H J ϟ) J=Α ϟ:=au;generalize upd H J ϟ=H1 at O X8;apply(_,Á,J,pn,ms,line.take j,Á,aa.of X8,by grind,O _ _ Pl,λrow Z U p n2=>?_,λZ=>?_)
  .rw[Z] at q;dsimp only at q;let s2:=O.R n2.1;apply(_,Á,_,Á,_,_,Á,Á,_,Á,W,_,Á,s2.seq M,λz lh=>?_);rw[show((j:Int)+1)=((j+1:Nat):Int) from rfl,DN _ (show j+1<=(iv line).L by grind),show(iv line).drop (j+1)=iv (line.drop (j+1)) by simp];let s3:aj U (upd U z (.lst (iv (line.drop (j+1))))):=aI lh;let Y:(upd U z (.lst (iv (line.drop (j+1))))) z=Α (.lst (iv (line.drop (j+1)))):=au;generalize upd U z (.lst (iv (line.drop (j+1))))=H3 at s3 Y;apply(z,line.drop (j+1),Á,aa.of Y,by grind,λem H4 s4=>?_,λem=>?_)
   .rw[ai em] at q;apply xF Á λx dx H5 hx gV aN e5 s5=>?_;let s6:=s2.R (s3.R s4);refine k1 _ q H5 ⟨x,dx,p,z,row,line.drop (j+1)⟩ (s6.R s5) Á (amb e5 (s5 _ _ (s4 _ _ (s3 _ _ n2.2.2))) (s5 _ _ (s4 _ _ Y))) (amc (s6.free hx) (O.free n2.2.1) (s2.free lh))
   .rw[ah Å] at q;exact(k2 q).go ğ
  .rw[Z] at q;exact(k2 q).go O
end
def wg(r s:LN):Bool:=if ((r.L:Nat):Int)=((s.L:Nat):Int) then HT.lexLt (nv r) (nv s) else decide (((r.L:Nat):Int)<((s.L:Nat):Int))
def Bv(rows:bg):Bool:=(rows.zip (rows.drop 1)).all λp=>wg p.1 p.2
structure zq(CE:Addr)(H:Hp)(p:Addr)(es:List bJ):Prop where
 a:H p=Α (.lst (es.M λe=>V.ref e.a))
 l:∀e∈es,aV H Äv
 c7:es.L<=2048
def zq.same{CE:Addr}{H H':Hp}{p:Addr}{es:List bJ}(h:zq CE H p es)(s:aj H H'):zq CE H' p es:=⟨s _ _ h.a,λe j=>(h.l e j).E s,h.c7⟩
inductive X9(CE:Addr)(vs:az)(H:Hp)(Q:VK)(E':XK):Prop
 |mk (p:Addr) (es:List bJ) (_:vs=[.ref p]) (_:zq CE H p es) (_:∀H',aj H H'->Q (.bl (Bv Ãw)) H')
def EB(row:LN)(rw p:Addr):jq:=[(p,.tup [.int ((row.L:Nat):Int),.ref rw])]
section
variable{P:Pg}{w:Wd}{K:FR}{mg:MG}{base:Heap}{CK CL CS N CV CP CB CE fQ:Addr}{C:Cs}
def Bw:bG ["entries","places","entry","before","place"] ["entries"] (bc M4):=cj
def ame(F:bu K "are_in_order" "are_in_order" M4 f fd)(T:ju K CE ["row","meaning"])(tL:mg "len"=Β)(tA:mg "all"=Β)(tE:mg "enumerate"=Β):Ë 1 f fd ["entries"] (X9 CE):=by
 refine F.ok Bw Â;let(p,es,rfl,J,k):=h;let hu:A.units+3+128<cLine:=by let:=hr.un;exact qz Ä this
 refine⟨_,aD (cg 1 Bw.nd (eB (own:=[("entry",2)]) (te:=vw (ba (rZ (λxs H Q=>∃p ys,xs=[.ref p]/\(ä p ys\/bx K H p ys)/\Q (.int ((ys.L:Nat):Int)) H) (ba (fk K ř "row") du)) (ba (fk K ř "row") du))) Á Bw.nd Åe Ê
   (λ_ _ _ _ _=>c6 2 Bw.nd) Ñ (λ_ _ _ _ _=>rY (ae (c9 gw Ï tL PySem.boot_len Èu) Èu))))
  (aB (aX (c9 (w8 rfl) Ï tA zZ (ae (eB (own:=[("before",3),("place",4)]) (g:=g2 K 3 4) (te:=bU (Vg K) (bU Ũ ž Ŀ) Ãt) rfl Bw.nd
   (jP Ï tE (ae (wX wZ á (wW bf) wV) ag)) Ê
   (λ_ _ _ _ _=>iB 3 4 Bw.nd) Ñ
   (λ_ _ _ _ _=>j8 (agL hu) (cK dc á ö Õ) ę (bV _))) ag)))),?_⟩
 let hf:=J.c7;refine⟨_,Á,p,Á,⟨_,aa.of J.a⟩,λD hD=>fW (K:=K) (a:=p) (xs:=es.M λe=>V.ref e.a) (cz H D λi y ns=>∃b:bJ×Addr,es[i]? =Α b.1/\y=.ref b.2/\ns=EB b.1.row b.1.rw b.2) Ď (λi H' _ f=>aa.of (f.E _ _ J.a)) ą þ⟩
 .let(e,O,rfl):=gR hi;let dq:=(bp.mp O).1;let j:=(J.l e (bo O)).E f.E;apply(Á,eK ⟨_,Á,aZ (Ez j) T.1 (T.2 _ Ä) (Ey e) ⟨e.rw,_,Á,.inl (aa.of (EA j)),_,Á,aZ (Ez j) T.1 (T.2 _ Ä) (Ey e) ⟨(by show 2<=sizeLine;decide),λt ht=>?_⟩⟩⟩);apply f.step hD Ù (aI ht) ⟨(e,t),O,Á,Á⟩ ?_ ?_
  .intro z hz;simp only[EB,iT] at hz;subst hz;rw[au];simp
  .intro z hz;simp only[EB,iT] at hz;subst hz;let(ys,_,hd,_):=f.end
   af
 .let(ys,s1,hd,j,fl):=f.end;let(bs,rfl,r1,l1):=y8 (v:=λb:bJ×Addr=>V.ref b.2) (nd:=λb=>EB b.1.row b.1.rw b.2) (R:=λi b=>es[i]? =Α b.1) fl;rw[ao,ao] at j;let Y:∀(i:Nat)(b:bJ×Addr),bs[i]? =Α b->H' b.2=Α (.tup [.int ((b.1.row.L:Nat):Int),.ref b.1.rw])/\H' b.1.rw=Α (.lst (iv (nv b.1.row))):=λi b hb=>⟨l1 b Èt (b.2,.tup [.int ((b.1.row.L:Nat):Int),.ref b.1.rw]) (by simp[EB]),s1 _ _ (EA (J.l b.1 (bo (r1 i b hb))))⟩;let ebs:bs.M Prod.fst=es:=by
   apply ym;grind
  apply(_,Á,_,Á,D,_,Á,aa.of hd,λc hc=>?_);let ex:pO (bs.M λb=>V.ref b.2) (some 1) none=(bs.drop 1).M λb=>V.ref b.2:=by
   by_cases hz:1<=bs.L
   .rw[show(1:Int)=((1:Nat):Int) from rfl,DN _ Å,RS]
   .let:bs=[]:=by
     symm
    rw[this];rfl
  rw[ex];let s2:=aI (o:=.lst ((bs.drop 1).M λb=>V.ref b.2)) hc;let U:(upd H' c (.lst ((bs.drop 1).M λb=>V.ref b.2))) c=Α (.lst ((bs.drop 1).M λb=>V.ref b.2)):=au;generalize upd H' c (.lst ((bs.drop 1).M λb=>V.ref b.2))=H2 at s2 U;apply(c,_,Á,aa.of U,λZ cq=>mi (K:=K) (a:=c) (xs:=(bs.drop 1).M λb=>V.ref b.2) (cz H2 Z λi y ns=>ns=[]/\∃a b,bs[i]? =Α a/\bs[i+1]? =Α b/\y=.bl (wg a.1.row b.1.row)) Ác (λi H3 _ f=>aa.of (f.E _ _ U)) (λi y Tt H3 hi f hT=>?_) Àx)
  .let(b,hb,rfl):=gR hi;rw[abe] at hb;let hb:bs[i+1]? =Α b:=by rw[<-hb];congr 1;af
   let hib:=(bp.mp hb).1;obtain⟨a,ha⟩:∃a,bs[i]? =Α a:=⟨_,cJ Ù⟩;let s3:aj H3 (upd H3 Tt (.tup [.int (i:Nat),.ref b.2])):=aI hT;let M:=(s2.R f.E).R s3;let Yb:=Y i a ha;let W:=Y _ b hb;refine à;apply(_,Á,_,Á,D,_,(i:Int),.ref a.2,Á,Á,aa.of (M _ _ hd),f7 Å,_,Á,a.2,b.2,a.1.rw,b.1.rw,_,_,nv a.1.row,nv b.1.row,Á,Á,bx.of (M _ _ Yb.1),bx.of (M _ _ W.1),aa.of (M _ _ Yb.2),aa.of (M _ _ W.2),?_);exact f.step cq Ù s3 ⟨Á,a,b,ha,hb,Á⟩ aV.nil Ä
  .let(ys,s3,iL,A4,fl):=f.end;let hz:((es.M bJ.row).zip ((es.M bJ.row).drop 1)).L=ys.L:=by
    symm
   let ey:ys=(((es.M bJ.row).zip ((es.M bJ.row).drop 1)).M λp=>wg p.1 p.2).M V.bl:=by
    rw[ck];apply uh hz.symm λi y x h1 h2=>?_;let(ns,(_,a,b,ea,eb,e),_):=fl i y h1;grind
   apply(Z,_,Á,by rw[<-ey];exact aa.of iL,?_);let q:=k H3 (s1.R ğ);rw[rJ];exact q
end
def Bx(h:H y.a=Α (.lst (y.ls.M λx=>V.ref x.a)))(h2:∀x∈y.ls,H x.a=Α ό):aV H Çl:=λz hz=>by
 rcases a9.mp hz with rfl|hz
 .exact h
 .let(x,j,hz):=jh.mp hz;simp only[lsN,iT] at hz;symm
def lQ(ms:aJ)(row:LN):Bool:=match o5 ms [row] with
 |some (some _)=>true
 |_=>false
structure Il(ms:aJ)(rows:bg):Prop where
 short:∀r∈rows,r.L<=8
 lt:∀r∈rows,∀s∈r,s<ms.L
 sg:∀r∈rows,∀s∈r,kO ms s=true
inductive Yc(CK CE:Addr)(vs:az)(H:Hp)(Q:VK)(E':XK):Prop
 |mk (pk:Addr) (ks:List ax) (p:Addr) (es:List bJ) (_:vs=[.ref pk,.ref p]) (_:Ń ks) (_:xQ Ì) (_:zq CE H p es) (_:Il Ì Ãw) (_:(∀e∈es,o5 Ì [e.row]≠none)) (_:∀H',aj H H'->Q (.bl ((es.M bJ.row).all (lQ Ì))) H')
section
variable{P:Pg}{w:Wd}{K:FR}{mg:MG}{base:Heap}{CK CL CS N CV CP CB CE fQ:Addr}{C:Cs}
def Pq:bG ["kinds","entries","entry"] ["kinds","entries"] (bc M5):=cj
def amf(F:bu K "can_be_shown" "can_be_shown" M5 f fd)(T:ju K CE ["row","meaning"])(tA:mg "all"=Β)(dD:Ç 4 "display_told" ["kinds","rows"] (Ib CK)):Ë 5 f fd ["kinds","entries"] (Yc CK CE):=by
 refine F.ok Pq Â;let(pk,ks,p,es,rfl,hk,hm,J,W,hd,k):=h;refine⟨_,aB (aX (c9 (w8 Á) Ï tA zZ (ae (eB (own:=[("entry",2)]) (te:=Sv (g9 (Ib CK) [] E0 (ba Ų (ba (An (ba (fk K ř "row") du)) du)))) Á Pq.nd Åd Ê
   (λ_ _ _ _ _=>c6 2 Pq.nd) Ñ (λ_ _ _ _ _=>Sx (Kb (bz dD (ae Ö (ae (dw Èu) ag)))))) ag))),?_⟩
 let hf:=J.c7;refine⟨_,Á,p,Á,⟨_,aa.of J.a⟩,λD hD=>fW (K:=K) (a:=p) (xs:=es.M λe=>V.ref e.a) (cz H D λi y ns=>ns=[]/\∃e,es[i]? =Α e/\y=.bl (lQ Ì e.row)) Ď (λi H' _ f=>aa.of (f.E _ _ J.a)) ą þ⟩
 .let(e,q,rfl):=gR hi;let dq:=(bp.mp q).1;let M:=bo q;let j:=(J.l e M).E f.E;apply(Á,eK ⟨_,Á,_,Á,aZ (Ez j) T.1 (T.2 _ Ä) (Ey e) ⟨(by show 1<=sizeLine;decide),λl Z=>?_⟩⟩);let s1:aj H' (upd H' l (.lst [.ref e.rw])):=aI Z;let U:(upd H' l (.lst [.ref e.rw])) l=Α (.lst [.ref e.rw]):=au;generalize upd H' l (.lst [.ref e.rw])=H1 at s1 U;cases ed:o5 Ì [e.row] with
  |none=>symm
  |some r=>
   let hrw:=W.short e.row (bH.mpr ⟨e,M,rfl⟩);apply(pk,ks,⟨l,[⟨e.rw,e.row⟩]⟩,r,Á,(hk.E f.E).E s1,hm,⟨Bx U ϩ,Ä,ϩ,ϩ⟩,(by simp[cE.m];af),ed,λhs O Y z s2 ez lz fz=>?_,λO Y s2=>?_)
   .obtain rfl:x=_:=by simpa using hx
    exact s1 _ _ (EA j)
   .grind
   .obtain rfl:x=_:=by simpa using hx
    intro s hs;let:=W.lt e.row (bH.mpr ⟨e,M,rfl⟩) s hs;symm
   .exact f.step hD Ù Áo ⟨Á,e,q,by ext lQ;rw[ed,O];rfl⟩ aV.nil Ä
   .exact f.step hD (by omega) Áo ⟨Á,e,q,by ext lQ;rw[ed,O];rfl⟩ aV.nil Ä
 .let(ys,s1,fX,j,fl):=f.end;rw[ao] at j;let ey:ys=((es.M bJ.row).M (lQ Ì)).M V.bl:=by
   rw[ck,ck];apply uh j λi y x h1 h2=>?_;let(ns,(_,e,ee,rfl),_):=fl i y h1;symm
  apply(D,_,Á,by rw[<-ey];exact aa.of fX,?_);symm
end
def jw(ms:aJ):dQ->Option (List (LN×LI))
 |[]=>some []
 |l::r=>match iQ ms l,jw ms r with
  |some e,some es=>some (e::es)
  |_,_=>none
theorem amg{ms:aJ}{r:dQ}:∀{l:LI},l∈r->iQ ms l=Β->jw ms r=Β:=by
 induction r with
 |nil=>intro l h;cases h
 |cons x r j=>
  intro l h e;ext jw;rcases a9.mp h with rfl|h
  .rw[e]
  .rw[j h e];cases iQ ms x <;> rfl
theorem amh{ms:aJ}{r:dQ}:∀{es:List (LN×LI)},es.L=r.L->(∀(i:Nat)l e,r[i]? =Α l->es[i]? =Α e->iQ ms l=Α e)->jw ms r=Α es:=by
 induction r with
 |nil=>
  intro ms h _;cases ms with
  |nil=>rfl
  |cons _ _=>cases h
 |cons l r q=>
  intro es h k;cases es with
  |nil=>cases h
  |cons m es=>
   ext jw;rw[k 0 l m rfl rfl,q (es:=es) (À h) λi l m j h2=>k (i+1) l m j h2]
def Im(ms:aJ)(nm:LI):Option (List (LN×LI))->Option (LI×List (LN×LI))
 |some es=>if (Bv (es.M (·.1))&&(es.M (·.1)).all (lQ ms))=true then some (nm,es) else none
 |none=>none
def Pt(name:LI)(ms:aJ)(j q:Option LI)(r:dQ):Option (LI×List (LN×LI)):=match j with
 |none=>none
 |some nm=>if q=Α name then Im ms nm (jw ms r) else none
def book1(name:LI)(ms:aJ):Option dQ->Option (LI×List (LN×LI))
 |some (l::f::r)=>if r.L<=2048 then Pt name ms (fO (codes "book") l) (fO (codes "for") f) r else none
 |_=>none
def lR(name:LI)(ms:aJ)(j:LI):Option (LI×List (LN×LI)):=book1 name ms (kI j)
theorem ami(p:α->β->Prop)[∀x y,Decidable (p x y)](y:β)(f:α->Nat)(R:Nat->Prop)(l:List α):∀(acc:Option Nat),(∀x∈l,R (f x))->(∀m,acc=Α m->R m)->∀m,l.foldl (λacc x=>if p x y then some (f x) else acc) acc=Α m->R m:=by
 induction l with
 |nil=>exact @λacc _ h m e=>h m e
 |cons x l F=>
  intro acc q h m e;apply F _ (λz hz=>q z (aL _ hz)) (λM j=>?_) m e;dsimp only at j;split at j
  .cases j;exact q x Ä
  .exact h M j
def amj{ms:aJ}{name:LI}{n:Nat}(h:kU ms name=Α n):n<ms.L/\kO ms n=true:=by
 delta kU at h;refine ami (λ(p:LI×Nat)(nm:LI)=>p.1=nm) name (λp=>p.2) (λn=>n<ms.L/\kO ms n=true) (uH ms ms.L) none ϩ (λm e=>(by cases e)) n h;delta uH at hx;let(j,z,rfl):=bH.mp hx;let(q,h2):=iA.mp z;exact(À q,h2)
def amk{ms:aJ}{part:LI}{row:LN}(h:xR ms part=Α row):row.L<=8/\∀s∈row,s<ms.L/\kO ms s=true:=by
 delta xR at h;by_cases hc:(ql ms part).L>8\/(ql ms part).Y none=true
 .grind
 .rw[ah hc] at h;let h:=(aU h).symm;subst h;apply(?_,λs hs=>?_)
  .symm
  .let(o,j,rfl):=bH.mp hs;cases o with
   |none=>symm
   |some n=>
    delta ql at j;let(x,_,e):=bH.mp j;exact amj e
def Pu(h:iQ ms line=Α e):e.1.L<=8/\∀s∈e.1,s<ms.L/\kO ms s=true:=by
 delta iQ at h;split at h
 .split at h
  .symm
  .rename_i row j;split at h
   .let h:=(aU h).symm;subst h;exact amk j
   .symm
 .cases h
structure rD where
 a:Addr
 dx:Addr
 nm:Addr
 el:Addr
 name:LI
 es:List bJ
def Yd(b:rD):List (Str×V):=[("name",.ref b.nm),("entries",.ref b.el)]
def Ye(b:rD):(Yd b).Q ("entries":Str)=Α (.ref b.el):=(fq É).R gM
structure zr(fQ CE:Addr)(H:Hp)(b:rD):Prop where
 a:H b.a=Α (.ins fQ b.dx (Yd b))
 n:H b.nm=Α (.lst (iv b.name))
 e:zq CE H b.el b.es
def zr.same{fQ CE:Addr}{H H':Hp}{b:rD}(h:zr fQ CE H b)(s:aj H H'):zr fQ CE H' b:=⟨s _ _ h.a,s _ _ h.n,h.e.E s⟩
def rD.m(b:rD):LI×List (LN×LI):=(b.name,b.es.M bJ.m)
structure wj(CL CK:Addr)(H:Hp)(l:vP):Prop where
 lies:aV H Äb
 c7:l.kinds.L<=66000
 look:∀k∈l.kinds,gh k.m.look
 ms:xQ Ó
 sh:∀rows,(∀r∈rows,∀s∈r,kO Ó s=true)->o5 Ó rows≠none
def wj.same(h:wj CL CK H l)(s:aj H H'):wj CL CK H' l:=⟨h.lies.E s,h.c7,h.look,h.ms,h.sh⟩
def wj.ks(h:wj CL CK H l):ni CK H l.kl l.kinds:=⟨akn h.lies,ako h.lies,by let:=h.c7;af,h.look⟩
inductive Yg(K:FR)(CL CK CB CE fQ:Addr)(vs:az)(H:Hp)(Q:VK)(E:XK):Prop
 |mk (l:vP) (ap:Addr) (bZ:LI) (_:vs=[.ref l.a,.ref ap]) (_:wj CL CK H l) (_:ä ap (iv bZ)) (_:bZ.L<=66000) (_:(∀x,lR l.name Ó bZ=Α x->∀H' b,aj H H'->rD.m b=x->zr fQ CE H' b->Il Ó Þ->Q Çz H')) (_:(lR l.name Ó bZ=Β->No E CB H))
section
variable{P:Pg}{w:Wd}{K:FR}{mg:MG}{base:Heap}{CK CL CS N CV CP CB CE fQ:Addr}{C:Cs}
def By:bG ["locker","text","lines","name","numbers","entries","line"] ["locker","text"] (bc MX):=cj
def aml{f:Addr}{fd:FD}(F:bu K "read_book" "read_book" MX f fd)(X:Ğ "NoBook" CB N)(TL:ju K CL ["name","kinds"])(tL:mg "len"=Β)(cT:Cn mg "TITLE_LINES" (.int 2))(cM:Cn mg "MOST_ENTRIES" (.int 2048))(dW:Ç 2 "whole_lines" ["text"] (NX K)) (dN:Ç 4 "name_behind" ["title","line"] (NW K)) (dU:Ç 1 "numbers_of_signs" ["kinds"] (XZ CK)) (dE:Ċ Ē 3 "read_entry" ["line","numbers"] (Po K CB CE))(dO:Ç 1 "are_in_order_books" ["entries"] (X9 CE)) (dC:Ç 5 "can_be_shown" ["kinds","entries"] (Yc CK CE)) (dB:Ā "Book" fQ ["name","entries"]):
  a0 P w K mg base Ē 6 f fd ["locker","text"] (Yg K CL CK CB CE fQ):=by
 let(fE,fdE,GE,mE,kE,bE):=dE;refine F.qM By Â;let(l,ap,M,rfl,hL,hP,hl,k1,k2):=h;let Nw:eT 3 _:=hr.mono Ð;refine⟨_,aD (cg 2 By.nd (bz (hr:=hr) dW Ĺ))
  (aD (dm (PW.pt (pw_or Çd (pw_or1 (qC (ade yB yB (cw cT) ā (eA pL (cw cT) (cw cM))))))) Ý dX)
  (aD (cg 3 By.nd (bz (hr:=hr) dN (ae FF (ae Ád ag))))
  (aD (dm (PW.pt (pw_or (pI (rS ö)) (pw_or1 (cy (F3 hr.units) (bz (hr:=hr) dN (ae FF (ae Ád ag))) ÿ (bV _))))) Ý dX)
  (aD (cg 4 By.nd (bz (hr:=hr) dU Ãi))
  (aD (UY (i:=5) (own:=[("line",6)]) (g:=qD 6) (tt:=CU) (te:=g9 (Po K CB CE) [] E (ba (ay 6) (ba Ãt du))) rfl yN By.nd rfl rfl Ï (dY (wX wZ å (wW (cw cT)) wV)) Ê
   (λ_ _ _ _ _=>c6 6 By.nd) Ñ (λ_ _ _ _ _=>nI GE Nw rfl mE kE bE .nil so (ae Ϫ ŝ)))
  (aD (dm (PW.pt (pw_or (qC (ji (bz (hr:=hr) dO ŀ))) (pw_or1 (qC (ji (bz (hr:=hr) dC (ae ÿ ŀ)))))))
   (Ý) dX)
  (aB (aX (pW dB hr (ae ö ŀ)))))))))),?_⟩
 apply(_,Á,ap,M,Á,hP,by af,λH1 v s1 O=>?_);let Oj:∀L,kI M=Α L->∀w∈L,w.L<=100000:=λL e=>by
  delta kI at e;split at e
  .let e:=aU e;subst e;apply λw hw=>?_;let:=yT 10 M w (B3 _ hw)
   af
  .symm
 let el:lR l.name Ó M=book1 l.name Ó (kI M):=rfl;generalize lR l.name Ó M=bk at el k1 k2;cases ew:kI M with
 |none=>
  rw[ew] at O el;let O:=O;subst O;exact(_,Á,_,Á,lr (gf ((k2 el).go s1)))
 |some L=>
  let nY:=Oj L ew;rw[ew] at O el;let(p,qs,rfl,l6,hp,qZ,fr):=O;let uk:=qZ.len;apply(_,Á,_,Á,oH ⟨_,Á,p,_,Á,.inl (aa.of hp),?_⟩);rw[ao,uk];refine⟨_,_,Á,Á,_,Á,a7 ū ū⟩
  case' refine_2=>
   let h1:¬(2:Int)<=((L.L:Nat):Int):=À h1
   apply(_,Á,lr (gf ((k2 (el.R ?_)).go s1)))
   match L,h1 with
   |[],_=>rfl
   |[_],_=>rfl
   |a::b::c,h1=>exact absurd (by simp only[dh];af) h1
  simp at h1;obtain⟨la,lb,r,rfl⟩:∃a b c,L=a::b::c:=by
   match L,h1 with
   |[],h1=>exact absurd h1 Ä
   |[_],h1=>exact absurd h1 Ä
   |a::b::c,_=>exact(a,b,c,Á)
  cases qZ with
  | @cons q l0 qs0 r0 hq qZ=>
  cases qZ with
  | @cons q2 l2 qs r2 ua wB=>
  let wB:eV H1 qs r:=wB;let uk:=wB.len;refine⟨_,_,Á,Á,_,_,Á,Á,_,Á,a7 Àw Àw⟩
  .let h2:¬r.L<=2048:=by
    grind
   exact gf ((k2 (el.R (ah h2))).go s1)
  let h2:r.L<=2048:=by
   grind
  let el:=el.R (ai h2);apply⟨_,Á,p,_,0,V.ref q,Á,Á,aa.of hp,f7 (j:=0) Á,"book",q,la,Á,by decide,aa.of hq,nY la Ä,λH3 vn s3 Z=>?_⟩;let lF:=s1.R s3;generalize fO (codes "book") la=nb at Z el;cases nb with
  |none=>
   let Z:=Z;subst Z;exact(_,Á,_,Á,lr (gf ((k2 el).go lF)))
  |some nm=>
  let(an,rfl,Ho,nH):=Z;apply⟨_,Á,_,Á,oH ⟨_,Á,p,_,1,V.ref q2,Á,Á,aa.of (s3 _ _ hp),f7 (j:=1) Á,"for",q2,lb,Á,by decide,aa.of (s3 _ _ ua),nY lb Ä,λH4 vf s4 Y=>?_⟩⟩;let mh:=lF.R s4;let L4:=hL.E mh;apply(_,Á,aZ (Ba L4.lies) TL.1 (TL.2 _ Ä) (ai1 l) ?_);let Io:H4 l.nm=Α (.lst (iv l.name)):=L4.lies (l.nm,_) (by simp[uj]);generalize fO (codes "for") lb=nf at Y el;obtain⟨d,fX,dg,iL⟩:∃d,Dp K H4 vf d/\SeqAt.shaped d=true/\PyData.eqv d (.list (l.name.M PyData.int))=decide (nf=Α l.name):=by
   cases nf with
   |none=>
    let Y:=Y;subst Y;exact(_,.aP,Á,Á)
   |some x=>
    let(c,rfl,_,hc):=Y;apply(_,.lst (aa.of hc) (qO x),shaped_ints _,?_);show PyData.eqvAll _ _=_;rw[xo];simp
  apply(d,_,fX,.lst (aa.of Io) (qO _),dg,shaped_ints _,_,Á,?_);rw[iL];apply a7 (λW=>?_) (λW=>?_)
  .simp at W;exact gf ((k2 (el.R (ah W))).go mh)
  simp at W;let el:=el.R (ai W);apply(_,Á,aZ (Ba L4.lies) TL.1 (TL.2 _ Ä) (DK l) ⟨l.kl,l.kinds,Á,L4.ks,λH5 pn n5=>?_⟩);let ug:=mh.R n5.1;let hp5:=n5.1 _ _ (s4 _ _ (s3 _ _ hp));apply(_,Á,_,Á,p,_,Á,aa.of hp5,λc hc=>?_);rw[show pO ((q::q2::qs).M V.ref) (some 2) none=qs.M V.ref from(DN _ (i:=2) Ä).R rfl];let s6:=aI (o:=.lst Äu) hc;let jM:(upd H5 c Ĕ) c=Α Ĕ:=au;generalize upd H5 c Ĕ=H6 at s6 jM;let yY:=ug.R s6;let amn:=wB.E (((s3.R s4).R n5.1).R s6);let amo:=s6 _ _ n5.2.2;refine⟨c,Á,⟨_,aa.of jM⟩,λD hD=>fW (K:=K) (a:=c) (xs:=qs.M V.ref) (cz H6 D λi y ns=>∃b:bJ,(∀z,r[i]? =Α z->iQ Ó z=Α b.m)/\y=.ref b.a/\ns=qm CE b) Ď
     (λi H7 _ f=>aa.of (f.E _ _ jM)) (λi y H7 hi f=>?_) (λH7 f=>?_)⟩
  .rw[bA] at hi;cases eq:qs[i]? with
   |none=>symm
   |some qi=>
    rw[eq] at hi;let ey:=aU hi;subst ey;let dq:=(bp.mp eq).1;let(q',_,J,h'):=amn.at (j:=i) Å;rw[bA,eq] at J;let J:=aU J;injection J with J;subst J;let r6:r[i]? =Α (r.D i []):=by
     symm
    let n0:=bo r6;apply(Á,eK ⟨_,Á,_,Á,qi,pn,l.kinds.M ax.m,r.D i [],Á,aa.of (f.E _ _ h'),nY _ (aL _ (aL _ n0)),f.E _ _ amo,λm em H8 en U ek yK qI=>?_,λen=>?_⟩)
    .apply f.step hD Ù U ⟨en,λz hl=>?_,Á,Á⟩ yK λx hx e=>f.has (by rw[<-e];exact qI x hx);symm
    .exact(k2 (by rw[el,amg n0 en];rfl)).go (yY.R f.E)
  .let(ys,s7,xT,Yh,fl):=f.end;rw[ao] at Yh;let(es,e1,r1,l1):=y8 (v:=λb:bJ=>V.ref b.a) (nd:=qm CE) (R:=λi b=>∀z,r[i]? =Α z->iQ Ó z=Α b.m) fl;subst e1;rw[ao] at Yh;let Bn:∀(i:Nat)(b:bJ),es[i]? =Α b->∃z,iQ Ó z=Α b.m:=λi b hb=>by
    grind
   let ees:jw Ó r=Α (es.M bJ.m):=amh Å λi z m h1 h2=>by
    grind
   rw[ees] at el;let emr:(es.M bJ.m).M (·.1)=es.M bJ.row:=by
    rw[ck];rfl
   let el:bk=if (Bv Ãw &&(es.M bJ.row).all (lQ Ó))=true then some (nm,es.M bJ.m) else none:=by
    rw[<-emr];exact el
   let vR:=yY.R s7;let Pw:zq CE H7 D es:=⟨xT,l1,by simp_all⟩;let wk:Il Ó Ãw:=by
    apply(λrow Bz=>?_,λrow Bz s hs=>?_,λrow Bz s hs=>?_)
    all_goals
     let(b,hb,rfl):=bH.mp Bz;let(i,hi,e):=nt hb;let(z,J):=Bn i b (by rw[<-e];exact cJ hi);let:=Pu J
    .symm
    .symm
    .symm
   apply(_,Á,D,es,Á,Pw,λH8 U=>⟨_,Á,a7 (λho=>?_) (λho=>?_)⟩)
   .simp at ho;rw[ho,mJ,ah Ð] at el;exact gf ((k2 el).go (vR.R U))
   simp at ho;let Yi:=vR.R U;let L8:=hL.E Yi;refine⟨_,Á,aZ (Ba L8.lies) TL.1 (TL.2 _ Ä) (DK l) ⟨_,Á,l.kl,l.kinds,D,es,Á,L8.ks,L8.ms,Pw.E U,wk,λe he=>L8.sh [e.row] (λr hr s hs=>by
     obtain rfl:r=e.row:=À hr
     exact wk.sg _ (bH.mpr ⟨e,he,Á⟩) s hs),λH9 s9=>⟨_,rfl,a7 ģ ģ⟩⟩⟩
   .let hd:(es.M bJ.row).all (lQ Ó)=false:=by simpa using hd
    rw[hd,zW,ah Ð] at el;exact gf ((k2 el).go (Yi.R s9))
   let hd:(es.M bJ.row).all (lQ Ó)=true:=À hd
   rw[ho,hd,JL,ai rfl] at el;let xU:=U.R s9;exact(_,Á,_,Á,xF Á λx dx Ha hx gV aN ea sa=>(k1 _ el Ha ⟨x,dx,an,D,nm,es⟩ ((vR.R xU).R sa) Á ⟨ea,sa _ _ (xU _ _ (s7 _ _ (s6 _ _ (n5.1 _ _ (s4 _ _ nH))))),Pw.E (xU.R sa)⟩ wk))
end
def oj(rows:bg)(i:Nat):Nat:=(rows.D i []).L
def BA(rows:bg)(a b:Bool)(n:Nat)(i:Nat):Bool:=decide (oj rows i=n)||((a||b)&&decide (n<oj rows i))
def sQ(rows:bg)(g:iW):LN:=(List.range rows.L).J (BA rows g.above g.below g.flags.L)
inductive Px(C:Cs)(fQ CE:Addr)(vs:az)(H:Hp)(Q:VK)(E':XK):Prop
 |mk (b:rD) (g:cA) (_:vs=[.ref b.a,.ref g.a]) (_:zr fQ CE H b) (_:Lies H Çi) (_:∀H' p,Ů p (.lst (iv (nv (sQ Þ g.m))))->Q Ĝ H')
abbrev Yj(K:FR):az->Hp->VK->Prop:=λxs H Q=>∃p ys,xs=[.ref p]/\(ä p ys\/bx K H p ys)/\Q (.int ((ys.L:Nat):Int)) H
section
variable{P:Pg}{w:Wd}{K:FR}{mg:MG}{base:Heap}{CK CL CS N CV CP CB CE fQ:Addr}{C:Cs}
def zt:bG ["book","glimpse","seen","may_be_longer","lengths","entry","number","length"] ["book","glimpse"] (bc M7):=cj
def ams(F:bu K "entries_in_doubt" "entries_in_doubt" M7 f fd)(z:ly K C)(Y:ju K fQ ["name","entries"])(TE:ju K CE ["row","meaning"])(tL:mg "len"=Β)(tE:mg "enumerate"=Β):Ë 1 f fd ["book","glimpse"] (Px C fQ CE):=by
 refine F.ok zt Â;let(b,g,rfl,J,M,k):=h;refine⟨_,aD (cg 2 zt.nd (c9 gw Ï tL PySem.boot_len (ae Åi ag)))
  (aD (cg 3 zt.nd (Ke Ň (rT Ň)))
  (aD (tU (i:=4) (own:=[("entry",5)]) (te:=rZ (Yj K) (ba (fk K (ay 5) "row") du)) rfl zt.nd rfl rfl Ï (dY ÿ) Ê
   (λ_ _ _ _ _=>c6 5 zt.nd) Ñ (λ_ _ _ _ _=>c9 gw Ï tL PySem.boot_len (ae (aY Ãd rfl) ag)))
  (aB (aX (eB (own:=[("number",6),("length",7)]) (g:=g2 K 6 7) (tt:=Kc (mY (bU pN Æj ř)) (FG (tB Ŀ) (mY (bU (gG λi j=>.bl (decide (i>j))) Æj ř)))) (te:=ay 6) rfl zt.nd
   (jP Ï tE ŝ) Ê
   (λ_ _ _ _ _=>iB 6 7 zt.nd)
   (λ_ _ _ _ _=>oG (PW.pt (pw_or (cy iC Èe å (bV _)) (pw_or1 (PW.pt (pw_and (ji ö) (pw_and1 (cy rX Èe å (bV _))))))))) (λ_ _ _ _ _=>pv 6)))))),?_⟩
 let hf:=J.e.c7;apply(_,Á,aZ M.ga z.cG z.vN (vM g) ⟨g.l,_,Á,.inl (aa.of M.fl),?_⟩);dsimp only;rw[ao];apply Ll g.above g.below (λK q=>⟨_,Á,aZ M.ga z.cG z.Nq (Nn g) q⟩) (λ_ K q=>⟨_,Á,aZ M.ga z.cG z.Nr (Np g) q⟩) ?_;apply(_,Á,aZ J.a Y.1 (Y.2 _ Ä) (Ye b) ⟨b.el,Á,⟨_,aa.of J.e.a⟩,λD hD=>fW (K:=K) (a:=b.el) (xs:=b.es.M λe=>V.ref e.a) (fg H D λi=>((oj Þ i:Nat):Int)) Áa (λi H' _ f=>aa.of (f.1 _ _ J.e.a)) ą (λH1 f=>?_)⟩)
 .let(e,he,rfl):=gR hi;let Z:=(bp.mp he).1;let hl:=(J.e.l e (bo he)).E f.1;apply(Á,eK ⟨_,Á,aZ (Ez hl) TE.1 (TE.2 _ Ä) (Ey e) ⟨e.rw,_,Á,.inl (aa.of (EA hl)),?_⟩⟩);apply fg.step hD Ù f Ĥ ?_;ext oj;symm
 .let hd:=f.2;rw[ao] at hd;let s1:=f.1;refine⟨_,Á,D,_,Á,aa.of hd,λW O=>mi (K:=K) (a:=D) (xs:=iv ((List.range b.es.L).M λi=>((oj Þ i:Nat):Int))) (nh H1 W (BA Þ g.above g.below g.flags.L)) (nh.zero O) (λi H' _ f=>aa.of (f.1 _ _ hd)) Âb Àx⟩
  .let Z:=(bp.mp hi).1;rw[dy,ao,il] at Z;let ev:v=.int ((oj Þ i:Nat):Int):=by
    symm
   subst ev;let U:aj H' (Ϩ (.tup [.int (i:Nat),.int ((oj Þ i:Nat):Int)])):=aI hT;refine è;generalize upd H' Tt (.tup [.int (i:Nat),.int ((oj Þ i:Nat):Int)])=H4 at U;refine or_val (decide (oj Þ i=g.flags.L)) ((g.above||g.below)&&decide (g.flags.L<oj Þ i)) (λK q=>⟨_,Á,_,Á,Á,_,Á,by rw[nG];exact q⟩)
    (λ_ K q=>and_val (g.above||g.below) (decide (g.flags.L<oj Þ i)) (λK q=>⟨_,rfl,_,rfl,q⟩) (λ_ K q=>⟨_,rfl,_,rfl,_,_,rfl,rfl,_,rfl,?_⟩) q) (a7 Î Î)
   .symm
   .exact(_,Á,f.yes O (by omega) U hc)
   .exact f.no U hc
  .let h3:=f.2;rw[dy,ao,il] at h3;apply k H3 W ⟨s1.R f.1,s1.free O,?_⟩;rw[h3];ext sQ cA.m;simp
end
def iy(l:LN):Nat:=l.foldl (λa b=>a*b) 1
inductive Yk(vs:az)(H:Hp)(Q:VK)(E':XK):Prop
 |mk (p:Addr) (l:LN) (_:vs=[.ref p]) (_:H p=Α (.lst Èp)) (_:(∀n∈l,n<=100000)) (_:Q (.int ((iy l:Nat):Int)) H)
def uI(s:Nat):LN:=if s=2 then [0,1] else [s]
inductive Yl(C:Cs)(vs:az)(H:Hp)(Q:VK)(E':XK):Prop
 |mk (p:d7) (_:vs=[.ref p.a]) (_:Lies H Áx) (_:∀H' q,Ů q (.lst (iv (nv Èl)))->Q Åt H')
section
variable{P:Pg}{w:Wd}{K:FR}{mg:MG}{base:Heap}{CK CL CS N CV CP CB CE fQ:Addr}{C:Cs}
def Ip:bG ["numbers","whole","number"] ["numbers"] (bc M8):=cj
def amt(F:bu K "product" "product" M8 f fd):Ë 1 f fd ["numbers"] Yk:=by
 refine F.ok Ip Â;let(p,l,rfl,j,q,k):=h;refine⟨_,aD (cg 1 Ip.nd bf)
  (aD (Į Åe (c6 2 Ip.nd) (aB (cg 1 Ip.nd (eA SK á å))))
  Âv),?_⟩
 apply(_,Á,p,Á,⟨_,aa.of j⟩,pK (K:=K) (a:=p) (xs:=iv (nv l)) (λi σ H'=>∃v,σ=[some Ĝ,some (.int ((iy (l.take i):Nat):Int)),v]/\H'=H) ⟨none,Á,Á⟩ (λi σ H' _ ⟨_,_,e⟩=>by rw[e];exact aa.of j) ?_ ?_)
 .rintro i x σ H' hi ⟨v,rfl,rfl⟩;let(z,hz,rfl):=jt hi;let J:=q z (bo hz);apply(_,Á,_,Á,_,_,Á,Á,.inr ⟨by af,by af⟩,some (.int ((z:Nat):Int)),?_,Á);rw[take_snoc hz];ext iy;simp
 .rintro σ H' ⟨v,rfl,rfl⟩;refine Ę;symm
def amu:bG ["plate"] ["plate"] (bc Na):=cj
def amv(F:bu K "sides_of" "sides_of" Na f fd)(T:ly K C)(J:Cn mg "FRONT" œ)(cB:Cn mg "BEHIND" Ŝ)(M:Cn mg "UNKNOWN_SIDE" (.int 2)):Ë 1 f fd ["plate"] (Yl C):=by
 refine F.ok amu Â;let(p,rfl,z,k):=h;apply(_,aB (aX (tJ (cy iC ĺ (cw M) (bV _)) (dw (ae (cw J) Ϸ)) (dw (ae ĺ ag)))),?_);refine⟨_,Á,aZ z.pl T.cP T.Nt (VH p) Ļ⟩;rw[show V.int 2=V.int ((2:Nat):Int) from rfl,nG];let k:=k;delta uI at k;refine a7 Î Î
 .rw[ai Å] at k;exact(by show 2<=sizeLine;decide,λq j=>k _ q ⟨aI j,j,au⟩)
 .rw[ah Å] at k;exact(_,Á,aZ z.pl T.cP T.Nt (VH p) ⟨by show 1<=sizeLine;decide,λq j=>k _ q ⟨aI j,j,au⟩⟩)
end
def qo(rows:bg)(c:LN):bg:=rows.flatMap λrow=>c.M λn=>row++[n]
def mw(cs:bg):bg:=cs.foldl qo [[]]
def wm(cs:bg):bg:=if cs.Y []=true then [] else mw cs
theorem amw(l:LN)(a:Nat):l.foldl (λa b=>a*b) a=a*iy l:=by
 induction l generalizing a with
 |nil=>simp[iy]
 |cons x l j=>
  ext iy;grind
def Py(a b:LN):iy (a++b)=iy a*iy b:=by
 rw[<-amw];ext iy;simp
theorem amx(h:∀n∈l,1<=n):1<=iy l:=by
 induction l with
 |nil=>exact bC _
 |cons x l z=>
  let j:=h x Ä;let h2:=z λn q=>h n (aL _ q);show 1<=iy ([x]++l);rw[Py];let e:iy [x]=x:=Nat.one_mul x;rw[e];exact Nat.mul_pos j h2
theorem Pz(rows:bg)(c:LN):(qo rows c).L=rows.L*c.L:=by
 ext qo;induction rows with
 |nil=>simp
 |cons r rows j=>rw[z8,j5,j,ao,dh,Nat.succ_mul,aby]
def Iq(cs:bg)(c:LN):mw (cs++[c])=qo (mw cs) c:=by
 ext mw;simp
def Ym(cs:bg):(mw cs).L=iy (cs.M List.length):=by
 refine snoc_ind (P:=λcs=>(mw cs).L=iy (cs.M List.length)) Á Ϙ cs;rw[Iq,Pz,ih,bI,Py];congr 1;exact(Nat.one_mul _).symm
def amy(h:∀n∈l,1<=n)(i:Nat):iy (l.take i)<=iy l:=by
 let j:1<=iy (l.drop i):=amx λn q=>h n (abj q);let h2:iy l=iy (l.take i)*iy (l.drop i):=by rw[<-Py,RT]
 rw[h2];exact Nat.le_mul_of_pos_right _ j
theorem amz{H:Hp}{ls:List df}:(∀x∈ls,H x.a=Α ό)->eV H (ls.M df.a) (ls.M λx=>nv x.ns):=by
 induction ls with
 |nil=>exact @λ_=>.nil
 |cons x ls j=>
  intro h;exact .cons (h x Ä) (j λz hz=>h z (aL _ hz))
def PB(cs:bg):∀row∈mw cs,row.L=cs.L:=by
 apply snoc_ind (P:=λcs=>∀row∈mw cs,row.L=cs.L) (λrow h=>?_) (λl x j row h=>?_) cs
 .let:row=[]:=by simpa [mw] using h
  rw[this];rfl
 .rw[Iq] at h;delta qo at h;let(r,hr,h):=jh.mp h;let(n,_,rfl):=bH.mp h;rw[j5,j r hr,j5];rfl
inductive Yn(vs:az)(H:Hp)(Q:VK)(E':XK):Prop
 |mk (y:cE) (_:vs=[.ref y.a]) (_:aV H Çl) (_:y.ls.L<=100) (_:(∀x∈y.ls,x.ns.L<=100000)) (_:(y.m.Y []=false->iy Ź<=1024)) (_:∀H' z,aj H H'->cE.m z=wm y.m->aV H' (fb z)->ja H (fb z)->Q Åk H')
section
variable{P:Pg}{w:Wd}{K:FR}{mg:MG}{base:Heap}{CK CL CS N CV CP CB CE fQ:Addr}{C:Cs}
def xV:bG ["choices","rows","choice","longer","row","number"] ["choices"] (bc M9):=cj
inductive RwI(y:cE)(H:Hp)(i:Nat)(σ:L2.St)(H':Hp):Prop
 |mk (z:cE) (v2 v3 v4:Option V) (_:σ=[some Áe,some Åk,v2,v3,v4,none]) (_:aj H H') (_:aV H' (fb z)) (_:ja H (fb z)) (_:z.m=mw Ÿ)
inductive RwJ(y z:cE)(c:df)(g:Addr)(H3 H:Hp)(j:Nat)(σ:L2.St)(H':Hp):Prop
 |mk (v4:Option V) (ls:List df) (_:σ=[some Áe,some Åk,some (.ref c.a),some (.ref g),v4,none]) (_:aj H3 H') (_:aV H' (fb ⟨g,ls⟩)) (_:(∀x∈ls,x.a≠g)) (_:(∀x∈ls,ja H (lsN x))) (_:ls.M df.ns=qo (z.m.take j) c.ns)
def amC{f:Addr}{fd:FD}(F:bu K "all_rows" "all_rows" M9 f fd):Ë 1 f fd ["choices"] Yn:=by
 refine F.ok xV Â;let(y,rfl,hy,XG,tQ,ip,k):=h;let hu:A.units+3+128<cLine:=by let:=hr.un;exact qz Ä this
 refine⟨_,aD (dm (cy (Lj hu) Ĩ Ö (by with_unfolding_all rfl)) (aB (aX Ĩ)) dX)
  (aD (cg 1 xV.nd (dw Åh))
  (aD (Į Åe (c6 2 xV.nd) (aD (cg 3 xV.nd Ĩ)
   (aD (Į Åd (c6 4 xV.nd) (aB (pJ (ó ö (ae
    (eB (own:=[("number",5)]) (te:=bU Ts Ãt (An Åg)) rfl xV.nd (dY å) Ê
     (λ_ _ _ _ _=>c6 5 xV.nd) Ñ (λ_ _ _ _ _=>eA Tv ę (dw ŀ))) ag)))))
   (aB (cg 1 xV.nd ö)))))
  Âv)),?_⟩
 let rn:=jv hy;apply(dj _,λl qN=>?_);let J:aj H (ϑ ã):=aI qN;let jN:(ϑ ã) l=Α ã:=au;generalize upd H l ã=H1 at J jN;let amD:=amz λx hx=>J _ _ (ng hy hx);let amE:H1 y.a=Α (.lst ((y.ls.M df.a).M V.ref)):=by
  rw[ck];exact J _ _ rn
 apply(_,Á,y.a,_,_,.list [],Á,aa.of amE,XW amD,.lst (aa.of jN) .nil,λd hd=>?_,Á,_,Á,?_)
 .let(x,_,rfl):=bH.mp hd;exact shaped_ints x
 rw[any_empty];let ma:(y.ls.M λx=>nv x.ns).Y []=y.m.Y []:=by
  rw[qy,B5,B5];ext cE.m;simp
 rw[ma];refine a7 Î Î
 .apply(dj _,λp hp=>?_);apply k _ ⟨p,[]⟩ (J.R (aI hp)) ?_ (Bx au Ä) (D0 (J.free hp) Ä);ext wm;rw[ai hc];rfl
 let hc:y.m.Y []=false:=À hc
 let amF:=ip hc;let amG:∀n∈y.m.M List.length,1<=n:=λn hn=>by
  grind
 let Ed:∀i,(mw Ÿ).L<=1024:=λi=>by
  rw[Ym,abl];exact gq (amy amG i) amF
 let ek:wm y.m=mw y.m:=by ext wm;rw[ah (by assumption)]
 rw[ek] at k;apply(dj _,λe he=>⟨by show 1<=sizeLine;decide,λr o6=>?_⟩);let hre:r≠e:=λz=>by rw[z,au] at o6;cases o6
 let s2:aj H1 (upd (upd H1 e ã) r (.lst [.ref e])):=(aI he).R (aI o6);let Yo:aV (upd (upd H1 e ã) r (.lst [.ref e])) (fb ⟨r,[⟨e,[]⟩]⟩):=Bx au λx hx=>by
  obtain rfl:x=_:=À hx
  rw[aA hre.symm,au];rfl
 generalize upd (upd H1 e ã) r (.lst [.ref e])=H2 at s2 Yo;let fC:=J.R s2;refine⟨_,Á,y.a,Á,⟨_,aa.of (fC _ _ rn)⟩,pK (K:=K) (a:=y.a) (xs:=y.ls.M λx=>V.ref x.a) (RwI y H)
  ⟨⟨r,[⟨e,[]⟩]⟩,none,none,none,rfl,fC,Yo,D0 (J.free ((aI he).free o6)) ϩ,rfl⟩ (λi σ H' _ h=>(by let(_,_,_,_,_,M):=h;exact aa.of (M _ _ rn))) ?_ ?_⟩
 .obtain rfl:x=_:=by simpa using hx
  exact λw hw=>(by simp only[lsN,iT] at hw;subst hw;exact J.free he)
 .rintro i x σ U hi ⟨z,v2,v3,v4,rfl,M,hz,EC,Y⟩;let(c,pR,rfl):=gR hi;let qK:=bo pR;let G5:=M _ _ (ng hy qK);let gJ:=tQ c qK;let sR:y.m[i]? =Α c.ns:=by ext cE.m;rw[bA,pR];rfl
  let Yp:mw (y.m.take (i+1))=qo z.m c.ns:=by rw[take_snoc sR,Iq,Y]
  let CO:=Ed (i+1);rw[Yp] at CO;apply(dj _,λg PD=>?_);let s4:aj U (upd U g ã):=aI PD;let hgg:(upd U g ã) g=Α ã:=au;refine⟨_,Á,z.a,Á,⟨_,aa.of (s4 _ _ (jv hz))⟩,pK (K:=K) (a:=z.a) (xs:=z.ls.M λx=>V.ref x.a) (RwJ y z c g U H)
   ⟨v4,[],rfl,s4,Bx hgg Ä,by simp,by simp,by rw[List.take_zero];rfl⟩ (λj σ H' _ h=>(by let(_,_,_,O):=h;exact aa.of (O _ _ (jv hz)))) ?_ ?_⟩
  .rintro j x σ H4 hj ⟨v4,ls,rfl,O,Z,AU,Yq,Iu⟩;let(r,Yr,rfl):=gR hj;let n0:=bo Yr;let avj:r.ns.L<=1000:=by
    let W:r.ns∈z.m:=by ext cE.m;exact bH.mpr ⟨r,n0,Á⟩
    rw[Y] at W;let h2:=PB _ _ W;grind
   let HI:=O _ _ (ng hz n0);let Ys:=O _ _ G5;let Yt:=jv Z;apply(_,Á,.inl ⟨Á,_,aa.of Yt⟩,_,Á,c.a,Á,⟨_,aa.of Ys⟩,λD hD=>fW (K:=K) (a:=c.a) (xs:=iv (nv c.ns)) (jS H4 D λi=>r.ns++[c.ns.D i 0]) Ď (λi H' _ f=>aa.of (f.E _ _ Ys)) (λn v H' hi f=>?_) (λH5 f=>?_))
   .let(m,hm,rfl):=jt hi;let Bm:=(bp.mp hm).1;apply(Á,eK ⟨_,Á,_,Á,(by show 1<=sizeLine;decide),λq hq=>⟨r.a,q,_,_,Á,Á,(aI hq) _ _ (f.E _ _ HI),au,?_,λq2 ua=>?_⟩⟩)
    .rw[dy,gQ];exact tp (gc (by grind))
    .apply jS.step hD Ù f ((aI hq).R (aI ua)) ((aI hq).free ua) ?_;rw[au,getD_at hm];simp
   .let(d,hda,s6,Yu,nk,LD):=jS.end hD f;rw[dy,gQ] at Yu;let hg5:=s6 _ _ Yt;let uB:∀x∈d.ls,x.a≠g:=λx hx z=>by
     let W:=LD (x.a,_) (by ext fb;exact aL _ (jh.mpr ⟨x,hx,by simp[lsN];rfl⟩));symm
    let amL:d.m=c.ns.M λn=>r.ns++[n]:=by
     rw[Yu];exact vV (l:=c.ns) (g:=λn=>r.ns++[n]) (d:=0)
    let et:qo (z.m.take (j+1)) c.ns=ls.M df.ns++d.m:=by
     let e1:z.m[j]? =Α r.ns:=by ext cE.m;rw[bA,Yr];rfl
     rw[take_snoc e1,Iu,amL];ext qo;simp
    apply(g,D,_,_,Á,Á,hg5,(by rw[<-hda];exact jv nk),?_,_,ls++d.ls,Á,fe (O.R s6) PD,Bx ?_ ?_,?_,?_,?_)
    .let W:=cb List.length et;rw[j5,ao,ig] at W;let h2:(qo (z.m.take (j+1)) c.ns).L<=1024:=by
      rw[Pz];rw[Pz] at CO;apply gq (at6 _ ?_) CO;grind
     rw[ao,ao];exact tp (gc Ù)
    .rw[au,bI]
    .intro x hx;rcases fw.mp hx with hx|hx
     .rw[aA (AU x hx)];exact s6 _ _ (ng Z hx)
     .rw[aA (uB x hx)];exact ng nk hx
    .grind
    .intro x hx;rcases fw.mp hx with hx|hx
     .symm
     .exact λw hw=>(M.R O).free (LD w (by ext fb;exact aL _ (jh.mpr ⟨x,hx,hw⟩)))
    .rw[bI,et];rfl
  .rintro σ H4 ⟨v4,ls,rfl,O,Z,AU,Yq,Iu⟩;apply(_,Á,⟨g,ls⟩,_,_,_,Á,M.R O,Z,D0 (M.free PD) Yq,?_);rw[ao,<-ig,i5] at Iu;rw[Yp];exact Iu
 .rintro σ U ⟨z,v2,v3,v4,rfl,M,hz,EC,Y⟩;rw[ao,<-ig,i5] at Y;exact(_,Á,k U z M Y hz EC)
end
theorem amM(sames:LN)(l:cI):∀(st:iE)(x:LN×iE),o4 sames st l=Α x->x.1.L=l.L:=by
 induction l with
 |nil=>
  intro st x h;delta o4 at h;rw[<-aU h];rfl
 |cons p r j=>
  intro st x h;delta o4 at h;split at h
  .cases h
  .split at h
   .cases h
   .rename_i y e;rw[<-aU h];show y.1.L+1=r.L+1;rw[j _ _ e]
theorem Yv(sames:LN)(l:List cI):∀(st:iE)(x:bg×iE),oa sames st l=Α x->x.1.M List.length=l.M List.length:=by
 induction l with
 |nil=>
  intro st x h;delta oa at h;rw[<-aU h];rfl
 |cons p r q=>
  intro st x h;delta oa at h;split at h
  .cases h
  .rename_i z j;split at h
   .cases h
   .rename_i y e;rw[<-aU h,a8,a8,q _ _ e,amM sames p _ _ j]
def Yw{ms:aJ}{rows hs:bg}(h:o5 ms rows=Α (some hs)):hs.M List.length=rows.M List.length:=by
 delta o5 at h;split at h
 .symm
 .split at h
  .symm
  .cases e:oa ı Çc Äc with
   |none=>symm
   |some x=>
    rw[e] at h;let h:=aU (aU h);rw[<-h,Yv _ _ _ _ e];ext og gC;rw[ck];apply ym;intro i;rw[bA,bA,abz,bA];cases er:rows[i]? with
    |none=>symm
    |some r=>
     rw[JU.mpr (show rows[i]? =Α (r,r).1/\rows[i]? =Α (r,r).2 from⟨er,er⟩)];ext rl;simp
def amN(cs:bg):∀nums∈mw cs,∀(i n:Nat)(c:LN),nums[i]? =Α n->cs[i]? =Α c->n∈c:=by
 apply snoc_ind (P:=λcs=>∀nums∈mw cs,∀(i n:Nat)(c:LN),nums[i]? =Α n->cs[i]? =Α c->n∈c) (λnums h i n c j h2=>?_) (λl x J nums h i n c j h2=>?_) cs
 .simp at h2
 .rw[Iq] at h;delta qo at h;let(r,hr,h):=jh.mp h;let(m,F,rfl):=bH.mp h;let z:=PB l r hr;by_cases hi:i<l.L
  .rw[Fk Å] at j;rw[Fk hi] at h2;exact J r hr i n c j h2
  .rw[RD Å] at j;rw[RD Å] at h2;let q:i-l.L=0:=by
    let:=(bp.mp h2).1;simpa using this
   rw[z,q] at j;rw[q] at h2;cases j;cases h2;exact F
def amO{hs rows:bg}(e:hs.M List.length=rows.M List.length){i:Nat}{h r:LN}(j:hs[i]? =Α h)(h2:rows[i]? =Α r):h.L=r.L:=by
 let:=cb (λl=>l[i]?) e;simp only[bA,j,h2] at this;simpa using this
def sS{α:Type}(H1:Hp)(D:Addr)(l:List α)(q:α->Bool)(g:α->V)(i:Nat)(H:Hp):Prop:=aj H1 H/\H D=Α (.lst (((l.take i).J q).M g))
def sS.zero{α:Type}{H1:Hp}{D:Addr}{l:List α}{q:α->Bool}{g:α->V}(j:H1 D=Β):sS H1 D l q g 0 Đ:=⟨aI j,au⟩
def sS.yes{α:Type}{H1 H j:Hp}{D:Addr}{l:List α}{q:α->Bool}{g:α->V}{i:Nat}{x:α}{v:V}(z:H1 D=Β)(hi:i<1000000)(f:sS H1 D l q g i H)(s:aj H j)(J:l[i]? =Α x)(h:q x=true)(F:v=g x):lj D (sS H1 D l q g (i+1)) v j:=by
 subst F;apply(_,s _ _ f.2,?_,fe (f.1.R s) z,?_)
 .rw[ao];let:=B4 q (l.take i);rw[iS] at this;exact gc Ù
 .rw[au,A2 J,ai h,bI];rfl
def sS.no(f:sS H1 D l q g i H)(s:aj H H4)(j:l[i]? =Α x)(h:¬q x=true):sS H1 D l q g (i+1) H4:=by
 apply(f.1.R s,?_);rw[A2 j,ah h,jG];exact s _ _ f.2
theorem amP{α β:Type}{q:α->Option β}{l:List α}{i:Nat}{x:α}(h:l[i]? =Α x):(l.take (i+1)).filterMap q=(l.take i).filterMap q++(match q x with|some y=>[y]|none=>[]):=by
 rw[take_snoc h,abu];congr 1;cases e:q x with
 |none=>simp[e]
 |some y=>simp[e]
structure eM where
 a:Addr
 dx:Addr
 nums:df
 hs:cE
 sd:df
def BB(r:eM):List (Str×V):=[("entries",.ref r.nums.a),("hoists",.ref r.hs.a),("sides",.ref r.sd.a)]
def qp(CR:Addr)(r:eM):jq:=(r.a,.ins CR r.dx (BB r))::(lsN r.nums++(fb r.hs++lsN r.sd))
def Yx{CR:Addr}{r:eM}{p:Addr×HO->Prop}(q:p (r.a,.ins CR r.dx (BB r)))(h2:∀x∈lsN r.nums,p x)(z:∀x∈fb r.hs,p x)(F:∀x∈lsN r.sd,p x):∀x∈qp CR r,p x:=λx j=>by
 rcases a9.mp j with rfl|j
 .exact q
 .grind
def eM.m(r:eM):LN×bg×LN:=(r.nums.ns,r.hs.m,r.sd.ns)
abbrev Views:=List (Nat×List bg)
def mx(ms:aJ)(p:eW):Views:=(uI p.side).M λs=>(s,sJ ms p.classes s p.aq)
def sU(J:Views)(j:List iW)(hs:bg):LN:=(J.J λv=>oS hs j v.2).M (·.1)
def jX(rows:bg)(nums:LN):bg:=nums.M λn=>rows.D n []
def uJ(ms:aJ)(rows:bg)(j:List iW)(J:Views)(nums:LN):Option (LN×bg×LN):=match o5 ms (jX rows nums) with
 |some (some hs)=>if sU J j hs=[] then none else some (nums,hs,sU J j hs)
 |_=>none
def lS(rows:bg)(j:List iW):bg:=j.M (sQ rows)
def uK(rows:bg)(j:List iW):Nat:=iy ((lS rows j).M List.length)
def jd(ms:aJ)(rows:bg)(p:eW):List (LN×bg×LN):=(wm (lS rows p.aq)).filterMap (uJ ms rows p.aq (mx ms p))
def BC(CR:Addr)(H:Hp)(q:Addr)(rs:List eM):Prop:=H q=Α (.lst (rs.M λr=>V.ref r.a))/\∀r∈rs,aV H Æm
inductive Yy(C:Cs)(CL CK fQ CE CR CT:Addr)(vs:az)(H:Hp)(Q:VK)(E:XK):Prop
 |mk (l:vP) (b:rD) (p:d7) (_:vs=[.ref l.a,.ref b.a,.ref p.a]) (_:wj CL CK H l) (_:zr fQ CE H b) (_:rk C H p) (_:Il Ó Þ) (_:(uK Þ p.m.aq<=1024->∀H' q rs,aj H H'->rs.M eM.m=jd Ó Þ p.m->BC CR H' q rs->Q Åt H')) (_:(1024<uK Þ p.m.aq->No E CT H))
section
variable{P:Pg}{w:Wd}{K:FR}{mg:MG}{base:Heap}{CK CL CS N CV CP CB CE fQ CR CT:Addr}{C:Cs}
def om:bG ["locker","book","plate","choices","glimpse","choice","views","side","readings","numbers","hoists","number","sides","view"] ["locker","book","plate"] (bc M6):=cj
inductive Yz(CR:Addr)(l:vP)(b:rD)(p:d7)(y:cE)(D3 r:Addr)(H4:Hp)(z:cE)(i:Nat)(σ:L2.St)(H':Hp):Prop
 |mk (v9 zS yR:Option V) (rs:List eM) (_:σ=[some (.ref l.a),some Çz,some ϭ,some Áe,none,none,some (.ref D3),none,some ϣ,v9,zS,none,yR,none]) (_:aj H4 H') (_:aV H' (fb z)) (_:H' r=Α (.lst (rs.M λx=>V.ref x.a))) (_:(∀x∈rs,aV H' (qp CR x)/\∀y∈qp CR x,y.1≠r)) (_:rs.L<=i) (_:rs.M eM.m=(z.m.take i).filterMap (uJ Ó Þ ò ż))
def amQ{f:Addr}{fd:FD}(F:bu K "readings_of" "readings_of" M6 f fd)(X:Ğ "TooMuchInDoubt" CT N)(TC:ly K C)(TL:ju K CL ["name","kinds"])(TB:ju K fQ ["name","entries"])(TE:ju K CE ["row","meaning"])(TV:ju K CV ["side","glimpses"])(tL:mg "len"=Β)(cM:Cn mg "MOST_IN_DOUBT" (.int 1024))(dI:Ç 1 "entries_in_doubt" ["book","glimpse"] (Px C fQ CE)) (dP:Ç 1 "product" ["numbers"] Yk) (dV:Ç 4 "view_of" ["kinds","plate","side"] (OF C CK CV)) (dS:Ç 1 "sides_of" ["plate"] (Yl C))(dA:Ç 1 "all_rows" ["choices"] Yn) (dD:Ç 4 "display_told" ["kinds","rows"] (Ib CK)) (dF:Ç 3 "fits" ["hoists","plate","view"] (OM C CV)) (dR:Ā "Reading" CR ["entries","hoists","sides"]):
  a0 P w K mg base Ē 5 f fd ["locker","book","plate"] (Yy C CL CK fQ CE CR CT):=by
 refine F.qM om Â;let(l,b,p,rfl,hL,hB,hP,wk,k1,k2):=h;refine⟨_,aD (tU (i:=3) (own:=[("glimpse",4)]) (te:=g9 (Px C fQ CE) [] E0 (ba ž (ba Ãt du))) Á om.nd Á Á Ï (dY (aY å Á)) Ê
   (λ_ _ _ _ _=>c6 4 om.nd) Ñ (λ_ _ _ _ _=>bz dI (ae á ŝ)))
  (aD (dm (cy rX (bz dP (ae (eB (own:=[("choice",5)]) (te:=rZ (Yj K) Åg) rfl om.nd (dY ö) Ê
   (λ_ _ _ _ _=>c6 5 om.nd) Ñ (λ_ _ _ _ _=>c9 gw Ï tL PySem.boot_len ŀ)) ag)) (cw cM) (bV _)) Ý dX)
  (aD (tU (i:=6) (own:=[("side",7)]) (te:=g9 (OF C CK CV) [] E0 (ba (fk K Ų "kinds") (ba ř (ba Æj du)))) rfl om.nd rfl rfl Ï (dY (bz dS ł)) Ê
   (λ_ _ _ _ _=>c6 7 om.nd) Ñ (λ_ _ _ _ _=>bz dV (ae ÿ (ae å Âu))))
  (aD (cg 8 om.nd Ĩ)
  (aD (i7 (UE yN) rfl (dY (bz dA ĳ)) (c6 9 om.nd)
   (aD (cg 10 om.nd (bz dD (ae ÿ (ae (eB (own:=[("number",11)]) (te:=fk K (bU Ũ (fk K ž "entries") (ay 11)) "row") rfl om.nd (dY (pv 9)) Ê
    (λ_ _ _ _ _=>c6 11 om.nd) Ñ (λ_ _ _ _ _=>aY (cK dc Ň (pv 11) Õ) rfl)) ag))))
   (aD (cg 12 om.nd (tJ (pI (rS (pv 10))) Ĩ (eB (own:=[("view",13)]) (tt:=mY (g9 (OM C CV) [] E0 (ba (ay 10) (ba ř (ba (ay 13) du))))) (te:=fk K (ay 13) "side") rfl om.nd (dY Ϫ) Ê
    (λ_ _ _ _ _=>c6 13 om.nd) (λ_ _ _ _ _=>oG (ji (bz dF (ae (pv 10) (ae å (ae (pv 13) ag)))))) (λ_ _ _ _ _=>aY (pv 13) rfl))))
   (aB (dm (cy Ãl (pv 12) Ĩ (bV _)) (aB (pJ (Ü (pv 8) (ae (pW dR hr (ae (pv 9) (ae (pv 10) (ae (pv 12) ag)))) ag)))) dX)))))
  (aB (aX (pv 8))))))),?_⟩
 let YA:=hP.c7;apply(_,Á,aZ hP.l.pl TC.cP TC.m9 Äx ⟨p.gl,Á,⟨_,aa.of hP.l.gl⟩,λD hD=>fW (K:=K) (a:=p.gl) (xs:=p.aq.M λg=>V.ref g.a) (jS H D λi=>(lS Þ ò).D i []) Ď (λi H' _ f=>aa.of (f.E _ _ hP.l.gl)) (λi v H' hi f=>?_) (λH1 f=>?_)⟩)
 .let(g,hg,rfl):=gR hi;let dq:=(bp.mp hg).1;apply(Á,eK ⟨_,Á,_,Á,b,g,Á,hB.E f.E,(hP.l.sub (bo hg)).E f.E,λH3 q n=>jS.step hD Ù f n.1 n.2.1 ?_⟩);rw[n.2.2];ext lS;symm
 let(y,eya,s1,Z,hy,XG):=jS.end hD f;subst eya;rw[ao] at Z;let gJ:(lS Þ ò).L=p.aq.L:=by
  ext lS;simp
 let Z:y.m=lS Þ ò:=by
  rw[Z,<-gJ];let:=vV (l:=lS Þ ò) (g:=λx=>x) (d:=[]);symm
 let tQ:y.ls.L=p.aq.L:=by rw[<-ig,Z,gJ]
 let qK:∀c∈y.m,c.L<=2048:=λc hc=>by
  rw[Z] at hc;delta lS at hc;let(g,_,rfl):=bH.mp hc;ext sQ;let M:=B4 (BA Þ g.above g.below g.flags.L) (List.range (b.es.M bJ.row).L);rw[il,ao] at M;let:=hB.e.c7;grind
 apply(_,Á,y.a,Á,⟨_,aa.of (jv hy)⟩,λD2 cq=>fW (K:=K) (a:=y.a) (xs:=y.ls.M λx=>V.ref x.a) (fg H1 D2 λi=>(((y.m.D i []).L:Nat):Int)) Çk (λi H' _ f=>aa.of (f.1 _ _ (jv hy))) (λi v H' hi f2=>?_) Åw)
 .let(x,O,rfl):=gR hi;let dq:=(bp.mp O).1;apply(Á,eK ⟨_,Á,x.a,_,Á,.inl (aa.of (f2.1 _ _ (ng hy (bo O)))),fg.step cq Ù f2 Ĥ ?_⟩);rw[dy,gQ,D4 O]
 let s2:=s1.R f2.1;let dg:=f2.2;rw[ao,<-ig] at dg;let AX:(List.range y.m.L).M (λi=>(((y.m.D i []).L:Nat):Int))=nv Ź:=by
  ext nv;rw[ck];exact vV (l:=y.m) (g:=λc=>((c.L:Nat):Int)) (d:=[])
 rw[AX] at dg;let edd:uK Þ p.m.aq=iy Ź:=by
  rw[Z];rfl
 rw[edd] at k1 k2;apply(D2,_,Á,dg,λn hn=>?_,_,_,Á,Á,_,Á,a7 Î Î)
 .grind
 .let hc:1024<iy Ź:=by
   af
  exact gf ((k2 hc).go s2)
 let hc:iy Ź<=1024:=by
  af
 let k1:=k1 hc;let YB:=hP.E s2;let nY:=hL.E s2;apply(_,Á,p,Á,YB.l,λH3 q n3=>⟨q,Á,⟨_,aa.of n3.2.2⟩,λD3 sP=>fW (K:=K) (a:=q) (xs:=iv (nv Èl)) (jT (rj CV) vW.a (λi v=>∀s,Èl[i]? =Α s->v.side=s/\v.gs.M cE.m=sJ Ó p.classes s ò) H3 D3) (cz.zero sP) (λi H' _ f=>aa.of (f.E _ _ n3.2.2)) (λi v H' hi f3=>?_) (λH4 f3=>?_)⟩)
 .let(sd,uw,rfl):=jt hi;let dq:=(bp.mp uw).1;let pQ:(uI p.side).L<=2:=by
   ext uI;grind
  let s3:=n3.1.R f3.E;apply(Á,eK ⟨_,Á,aZ (Ba (nY.E s3).lies) TL.1 (TL.2 _ Ä) (DK l) ⟨_,Á,_,Á,l.kl,l.kinds,p,sd,Á,(nY.E s3).ks,YB.E s3,λH5 v s5 e1 e2 lv fv=>?_⟩⟩);apply jT.step sP Ù f3 s5 v (λs hs=>?_) lv fv;grind
 let(vs,KI,s3,amT,YC,hvL,hvF):=jT.end f3;rw[dy,gQ] at KI;let s4:=s2.R (n3.1.R s3);apply(dj _,λr o6=>?_);let s5:aj H4 (upd H4 r ã):=aI o6;let Bn:(upd H4 r ã) r=Α ã:=au;let avl:∀b o,H4 b=Α o->b≠r:=λb o e z=>by rw[z,o6] at e;cases e
 generalize upd H4 r ã=H5 at s5 Bn;let hy5:=(hy.E f2.1).E ((n3.1.R s3).R s5);apply(_,Á,y,Á,hy5,by af,λx O=>?_,λ_=>hc,λH6 z s6 oh hz EC=>?_)
 .let:=qK x.ns (by ext cE.m;exact bH.mpr ⟨x,O,Á⟩)
  af
 let uz:z.a≠r:=λe=>by
  let M:=EC (z.a,_) (eP ..)
  af
 let YD:∀x∈fb z,x.1≠r:=λx O e=>by
  let M:=EC x O
  af
 let s46:=s5.R s6;let hr6:=s6 _ _ Bn;let eR:jd Ó Þ p.m=z.m.filterMap (uJ Ó Þ ò ż):=by
  rw[oh,Z];rfl
 rw[eR] at k1;let avm:z.ls.L<=1024:=by
  rw[<-ig,oh];ext wm;split
  .simp
  .rw[Ym];omega
 refine⟨z.a,Á,⟨_,aa.of (jv hz)⟩,pK (K:=K) (a:=z.a) (xs:=z.ls.M λx=>V.ref x.a) (Yz CR l b p y D3 r H4 z)
  ⟨none,none,none,[],rfl,s46,hz,hr6,by simp,bC _,rfl⟩ (λi σ H' _ h=>(by let(_,_,_,_,_,_,h):=h;exact aa.of (jv h))) ?_ ?_⟩
 .rintro i v σ H7 hi ⟨v9,zS,yR,rs,rfl,s7,Iv,PF,zu,amY,Iw⟩;let(x,O,rfl):=gR hi;let gZ:=bo O;let dq:=(bp.mp O).1;let YE:x.ns∈z.m:=by ext cE.m;exact bH.mpr ⟨x,gZ,Á⟩
  let hzi:z.m[i]? =Α x.ns:=by ext cE.m;rw[bA,O];rfl
  let Eo:x.ns∈mw y.m:=by
   rw[oh] at YE;delta wm at YE;grind
  let oU:x.ns.L=p.aq.L:=by rw[PB _ _ Eo,Z,gJ]
  let lG:=ng Iv gZ;let YF:∀(j n:Nat)(g:cA),x.ns[j]? =Α n->p.aq[j]? =Α g->∃e,b.es[n]? =Α e/\g.flags.L<=e.row.L:=λj n g M h2=>by
   let h3:=amN y.m x.ns Eo j n (sQ Þ g.m) M (by rw[Z];ext lS;rw[bA,bA,h2];rfl);delta sQ at h3;let(h4,h5):=iA.mp h3;simp at h4;apply(b.es[n],cJ h4,?_);delta BA oj at h5;rw[getD_map (cJ h4)] at h5;let eg:g.m.flags.L=g.flags.L:=by ext cA.m;rw[ao]
   af
  let hes:∀n∈x.ns,∃e,b.es[n]? =Α e:=λn hn=>by
   let(j,hj,e):=nt hn;let(e',h',_):=YF j n p.aq[j] (by grind) (cJ (by omega));grind
  let Iy:=s4.R s7;let hL7:=hL.E Iy;let hB7:=hB.E Iy;let hP7:=hP.E Iy;apply(_,Á,aZ (Ba hL7.lies) TL.1 (TL.2 _ Ä) (DK l) ⟨_,Á,x.a,Á,⟨_,aa.of lG⟩,λD8 Ij=>fW (K:=K) (a:=x.a) (xs:=iv (nv x.ns)) (cz H7 D8 λi v ns=>∃e:bJ,(∀n,x.ns[i]? =Α n->b.es[n]? =Α e)/\v=.ref e.rw/\ns=[]) (cz.zero Ij) (λi H' _ f=>aa.of (f.E _ _ lG)) (λj v H' hi f8=>?_) (λH8 f8=>?_)⟩)
  .let(n,hn,rfl):=jt hi;let oE:=(bp.mp hn).1;let(e,he):=hes n (bo hn);let ED:=hB7.E f8.E;let lY:=ED.e.l e (bo he);apply(Á,eK ⟨_,Á,aZ ED.a TB.1 (TB.2 _ Ä) (Ye b) ⟨_,Á,b.el,_,(n:Int),.ref e.a,Á,Á,aa.of ED.e.a,f7 (by grind),aZ (Ez lY) TE.1 (TE.2 _ Ä) (Ey e) ?_⟩⟩);apply f8.step Ij Ù Ĥ ⟨e,λn' Sr=>?_,Á,Á⟩ aV.nil Ä;grind
  let(ys,s8,hd8,YG,fl):=f8.end;let(bs,rfl,r8,_):=y8 (v:=λe:bJ=>V.ref e.rw) (nd:=λ_=>[]) (R:=λi e=>∀n,x.ns[i]? =Α n->b.es[n]? =Α e) fl;rw[ao,dy,gQ] at YG;let Ce:∀(j:Nat)(e:bJ),bs[j]? =Α e->∃n,x.ns[j]? =Α n/\b.es[n]? =Α e:=λj e he=>by
   let M:=(bp.mp he).1;exact(x.ns[j]' Ù,cJ _,r8 j e he _ (cJ _))
  let xq:∀e∈bs,e∈b.es:=λe he=>by
   let(j,hj,rfl):=nt he;let(n,_,h2):=Ce j _ (cJ hj);grind
  let PJ:=Iy.R s8;let PK:=hL.E PJ;let ED:=hB.E PJ;let hP8:=hP.E PJ;let vT:=s8 _ _ PF;let e2m:(⟨D8,bs.M λe=>⟨e.rw,e.row⟩⟩:cE).m=jX Þ x.ns:=by
   ext cE.m jX;rw[ck];apply Bc YG λj e n M h2=>?_;grind
  let Bz:∀jm∈jX Þ x.ns,jm∈b.es.M bJ.row:=λjm h=>by
   rw[<-e2m] at h;delta cE.m at h;grind
  let hy2:OW H8 ⟨D8,bs.M λe=>⟨e.rw,e.row⟩⟩ l.kinds.L:=by
   apply(Bx (by rw[ck];exact hd8) λw J=>?_,by grind,λw J=>?_,λw J=>?_)
   all_goals let(e,he,rfl):=bH.mp J
   .exact EA (ED.e.l e (xq e he))
   .let:=wk.short e.row (bH.mpr ⟨e,xq e he,rfl⟩)
    af
   .intro s hs;let:=wk.lt e.row (bH.mpr ⟨e,xq e he,rfl⟩) s hs;grind
  let fZ:((⟨D8,bs.M λe=>⟨e.rw,e.row⟩⟩:cE).m.flatten).L<=1000:=by
   let M:∀(L:bg),(∀w∈L,w.L<=8)->L.flatten.L<=8*L.L:=by
    intro L;induction L with
    |nil=>simp
    |cons a L ih=>
     grind
   let h2:=M (⟨D8,bs.M λe=>⟨e.rw,e.row⟩⟩:cE).m λw J=>wk.short w (Bz w (by grind));rw[ig] at h2;grind
  let YH:=amP (q:=uJ Ó Þ ò ż) hzi;let U:uJ Ó Þ ò ż x.ns=match o5 Ó (jX Þ x.ns) with
   |some (some hs)=>if sU ż ò hs=[] then none else some (x.ns,hs,sU ż ò hs)
   |_=>none:=rfl
  generalize uJ Ó Þ ò ż x.ns=Gr at YH U;let skip:Gr=Β->∀(H':Hp)(YI YJ:Option V),aj H8 H'->Yz CR l b p y D3 r H4 z (i+1) [some (.ref l.a),some Çz,some ϭ,some Áe,none,none,some (.ref D3),none,some ϣ,some (.ref x.a),YI,none,YJ,none] H':=λen H' YI YJ s'=>by
   apply(_,_,_,rs,Á,(s7.R s8).R s',Iv.E (s8.R s'),s' _ _ vT,λw J=>⟨(zu w J).1.same (s8.R s'),(zu w J).2⟩,by af,?_);grind
  cases ed:o5 Ó (jX Þ x.ns) with
  |none=>exact absurd ed (PK.sh _ λjm hr s hs=>wk.sg jm (Bz jm hr) s hs)
  |some ro=>
  rw[ed] at U;apply(l.kl,l.kinds,_,ro,Á,PK.ks,PK.ms,hy2,fZ,by grind,λhs eh H9 zz s9 PL zo fzz=>?_,λeh H9 s9=>?_)
  .subst eh;let U:Gr=if sU ż ò hs=[] then none else some (x.ns,hs,sU ż ò hs):=U;let YK:∀w∈fb zz,w.1≠r:=λw J e=>by
    let M:=fzz w J
    af
   let hr9:=s9 _ _ vT;let evs:vs.M (λv=>(v.side,v.gs.M cE.m))=mx Ó p.m:=Bc KI λi v sd M h2=>by
    let(h3,h4):=YC i v M sd h2;rw[h3,h4];rfl
   let esf:sU ż ò hs=(vs.J λv=>oS hs ò ϶).M vW.side:=by
    rw[<-evs];ext sU;rw[wJ,ck];rfl
   rw[esf] at U;let YL:=λv hv=>(hvL v hv).E ((s7.R s8).R s9);let YM:=((s7.R s8).R s9) _ _ amT;let b7:=Yw ed;let hhl:hs.L=p.aq.L:=by
    let:=cb List.length b7;rw[ao,ao] at this;rw[this];ext jX;grind
   let anc:zz.ls.L=p.aq.L:=by rw[<-ig,PL,hhl]
   apply(_,Á,_,Á,oH ⟨_,Á,D3,Á,⟨_,aa.of YM⟩,λD9 Iz=>fW (K:=K) (a:=D3) (xs:=vs.M λv=>V.ref v.a) (sS H9 D9 vs (λv=>oS hs ò ϶) λv=>V.int (v.side:Nat)) (sS.zero Iz) (λi H' _ f=>aa.of (f.1 _ _ YM)) (λj v H' hi Y=>?_) (λF5 Y=>?_)⟩)
   .let(v,hv,rfl):=gR hi;let YN:=bo hv;let oE:=(bp.mp hv).1;let pQ:(uI p.side).L<=2:=by
     ext uI;grind
    obtain⟨sd,uw⟩:∃sd,Èl[j]? =Α sd:=⟨_,cJ Ù⟩;let Ao:=(YC j v hv sd uw).2;let ane:v.gs.L=p.aq.L:=by
     let:=cb List.length Ao;delta sJ at this;grind
    apply(Á,_,Á,_,Á,_,Á,zz,p,v,Á,zo.E Y.1,(hP8.E s9).E Y.1,(YL v YN).E Y.1,anc,ane,λm h g s M h2 h3=>?_,λH' s'=>Ę)
    .let e1:hs[m]? =Α h.ns:=by rw[<-PL];ext cE.m;rw[bA,M];rfl
     let CO:=(bp.mp h2).1;obtain⟨n,hn⟩:∃n,x.ns[m]? =Α n:=⟨_,cJ (by omega)⟩;let(e,he,hfe):=YF m n g hn h2;let e2:(jX Þ x.ns)[m]? =Α e.row:=by
      ext jX;grind
     let e3:=amO b7 e1 e2;let e4:=wk.short e.row (bH.mpr ⟨e,bo he,rfl⟩);apply(?_,by omega,by omega);let e5:϶[m]? =Α s.m:=by rw[bA,h3];rfl
     rw[Ao] at e5;delta sJ at e5;rw[bA,bA,h2] at e5;let e5:=aU e5;let e6:=cb List.length e5;delta zg cA.m at e6;rw[ao,ao,ig] at e6;omega
    .rw[PL];refine a7 Î Î
     .let Al:=(YL v YN).E (Y.1.R s');exact(_,Á,aZ (WU Al) TV.1 (TV.2 _ Ä) (akB v) (sS.yes Iz (by omega) Y s' hv hc Á))
     .exact Y.no s' hv hc
   .let md:=Y.1;let BD:=Y.2;rw[ao,i5] at BD;let BD:F5 D9=Α (.lst (iv (nv ((vs.J λv=>oS hs ò ϶).M vW.side)))):=by
     rw[BD];simp
    generalize ((vs.J λv=>oS hs ò ϶).M vW.side)=W at U BD;apply(_,Á,dj _,λe he=>⟨D9,e,_,Á,Á,aa.of ((Èv) _ _ BD),aa.of au,_,Á,a7 (λaN=>?_) (λaN=>?_)⟩)
    .let aN:¬W=[]:=λz=>by
      grind
     rw[ah aN] at U;let mf:aj H8 (upd F5 e ã):=(s9.R md).R Èv;let YO:=(aI (o:=.lst []) he) _ _ BD;let YQ:=(zo.E md).E (aI (o:=.lst []) he);generalize upd F5 e ã=Dm at mf YO YQ;let PM:=mf _ _ vT;apply(_,Á,.inl ⟨Á,_,aa.of PM⟩,_,Á,_,Á,_,Á,?_);intro a dx ha gV avp;refine⟨a,dx,[.ref x.a,.ref zz.a,.ref D9],Á,Á,au,λH12 e12 e2=>Ţ⟩;let fC:=λb o eb=>e2 b o (by rw[aA (eS eb ha),aA (eS eb gV)];exact eb) (eS eb ha);let anh:=fC _ _ PM;let YR:a≠r:=λz=>by rw[z,PM] at ha;cases ha
     let hDr:D9≠r:=λz=>by rw[z,hr9] at Iz;cases Iz
     let IA:=s8.R (mf.R fC);let avq:=IA _ _ lG;let YS:=λw J=>YD w (by ext fb;exact aL _ (jh.mpr ⟨x,gZ,J⟩));apply(r,_,_,Á,Á,anh,by rw[ao];exact gc (by omega),_,_,_,rs++[⟨a,dx,x,zz,⟨D9,W⟩⟩],rfl,fe (s7.R IA) o6,λw J=>?_,?_,λw J=>?_,by grind,?_)
     .rw[aA (YD w J)];exact(Iv.E IA) w J
     .rw[au,bI];rfl
     .rcases fw.mp J with J|J
      .exact(λq hq=>by rw[aA ((zu w J).2 q hq)];exact((zu w J).1.same IA) q hq,(zu w J).2)
      .obtain rfl:w=_:=by simpa using J
       refine⟨Yx (by show upd H12 r _ a=_;rw[aA YR];exact e12) Æt Æt Æt,Yx YR YS YK Æt⟩
       .rw[aA (YS q hq)];simp only[lsN,iT] at hq;grind
       .rw[aA (YK q hq)];exact(YQ.E fC) q hq
       .simp only[lsN,iT] at hq;subst hq;rw[aA hDr];exact fC _ _ YO
       .simp only[lsN,iT] at hq;grind
     .rw[YH,U,bI,Iw];show _++[(x.ns,zz.m,W)]=_;grind
    .let aN:W=[]:=by
      cases W with
      |nil=>rfl
      |cons a b=>grind
     rw[ai aN] at U;exact skip U _ _ _ ((s9.R md).R Èv)
  .subst eh;refine⟨_,Á,_,Á,lr ⟨dj _,λd hd=>⟨_,Á,dj _,λe he=>⟨d,e,_,Á,Á,aa.of ((Èv) _ _ au),aa.of au,_,Á,oH (skip U _ _ _ (s9.R ((aI hd).R Èv)))⟩⟩⟩⟩
 .rintro σ H7 ⟨v9,zS,yR,rs,rfl,s7,Iv,PF,zu,amY,Iw⟩;rw[ao,<-ig,i5] at Iw;exact(_,Á,k1 H7 r rs (s4.R s7) Iw ⟨PF,λx O=>(zu x O).1⟩)
end
structure IB(ms:aJ):Prop where
 look:∀k∈ms,gh k.look
 mo:xQ ms
 sh:∀rows,(∀r∈rows,∀s∈r,kO ms s=true)->o5 ms rows≠none
structure IC(m:eW):Prop where
 xM:m.classes.L=16
 c7:m.aq.L<=100
 flags:∀g∈m.aq,g.flags.L<=100
 cells:∀g∈m.aq,∀s∈g.flags,s.2.L=16
structure zw where
 a:Addr
 dx:Addr
 q:Addr
 l:vP
 b:rD
 p:d7
 rs:List eM
def ID(f:zw):List (Str×V):=[("locker",.ref f.l.a),("book",.ref f.b.a),("plate",.ref f.p.a),("readings",.ref f.q)]
def anj(f:zw):(ID f).Q ("readings":Str)=Α (.ref f.q):=(fq É).R ((fq É).R ((fq É).R gM))
structure Kn where
 C:Cs
 CL:Addr
 CK:Addr
 fQ:Addr
 CE:Addr
 CR:Addr
 CF:Addr
structure PN(k:Kn)(H:Hp)(f:zw):Prop where
 a:H f.a=Α (.ins k.CF f.dx (ID f))
 l:wj k.CL k.CK H f.l
 b:zr k.fQ k.CE H f.b
 p:rk k.C H f.p
 rs:BC k.CR H f.q f.rs
def BC.same{CR:Addr}{H H':Hp}{q:Addr}{rs:List eM}(h:BC CR H q rs)(s:aj H H'):BC CR H' q rs:=⟨s _ _ h.1,λr hr=>(h.2 r hr).E s⟩
structure YT(f:zw)(x:LI×aJ)(y:LI×List (LN×LI))(m:eW):Prop where
 n:f.l.name=x.1
 k:f.l.kinds.M ax.m=x.2
 b:f.b.m=y
 p:f.p.m=m
 r:f.rs.M eM.m=jd x.2 (y.2.M (·.1)) m
inductive YU(K:FR)(k:Kn)(CN CB o7 CT:Addr)(vs:az)(H:Hp)(Q:VK)(E:XK):Prop
 |mk (at_ ab ap:Addr) (t b p:LI) (_:vs=[.ref at_,.ref ab,.ref ap]) (_:ä at_ (iv t)) (_:ä ab (iv b)) (_:ä ap (iv p)) (_:t.L<=66000) (_:b.L<=66000) (_:p.L<=66000) (_:(∀x,gO t=Α x->IB x.2)) (_:(∀m,iq p=.ok m->IC m)) (_:(gO t=Β->No E CN H)) (_:∀x,gO t=Α x->(lR x.1 x.2 b=Β->No E CB H)/\∀y,lR x.1 x.2 b=Α y->(∀e,iq p=.error e->∀H' d,aj H H'->H' d=Α (vH d (NI e.1 e.2))->E (.ref o7) (some d) H')/\∀m,iq p=.ok m->(1024<uK (y.2.M (·.1)) m.aq->No E CT H)/\(uK (y.2.M (·.1)) m.aq<=1024->∀H' f,aj H H'->PN k H' f->YT f x y m->Q (.ref f.a) H'))
section
variable{P:Pg}{w:Wd}{K:FR}{mg:MG}{base:Heap}{CN CB o7 CT CF:Addr}{k:Kn}
def IE:bG ["t","b","p","locker","book","plate"] ["t","b","p"] (bc Nf):=cj
def ank(F:bu K "found" "found" Nf f fd)(dL:Ċ Ē 6 "read_locker" ["text"] (Wq K k.CL k.CK CN))(dB:Ċ Ē 6 "read_book" ["locker","text"] (Yg K k.CL k.CK CB k.CE k.fQ))(dP:Ċ Ē 6 "read_plate" ["text"] (V0 K k.C o7))(dR:Ċ Ē 5 "readings_of" ["locker","book","plate"] (Yy k.C k.CL k.CK k.fQ k.CE k.CR CT)) (dF:Ā "Finding" k.CF ["locker","book","plate","readings"]):Ģ Ē 7 f fd ["t","b","p"] (YU K k CN CB o7 CT):=by
 let(fL,fdL,GL,mL,kL,bL):=dL;let(fB,fdB,GB,mB,kB,bB):=dB;let(fP,Nm,GP,mP,kP,bP):=dP;let(fR,fdR,GR,mR,kR,bR):=dR;refine F.qM IE Â;let(at_,ab,ap,t,b,p,rfl,hT,hB,hP,lT,lB,lP,gL,gP,k1,k2):=h;let hr5:eT 5 _:=hr.mono Ð;refine⟨_,aD (cg 3 IE.nd (nI GL hr Á mL kL bL .nil so õ))
  (aD (cg 4 IE.nd (nI GB hr rfl mB kB bB .nil so (ae ö Ĺ)))
  (aD (cg 5 IE.nd (nI GP hr rfl mP kP bP .nil so ł))
  (aB (aX (pW dF hr (ae ö (ae ę (ae Ãd (ae (nI GR hr5 rfl mR kR bR .nil so (ae ö (ae ę ŀ))) ag))))))))),?_⟩
 apply(_,Á,at_,t,Á,hT,lT,λx ex H1 l s1 Z z hl lk=>?_,k1);let(k2,k3):=k2 x ex;let O:=gL x ex;let hL:wj k.CL k.CK H1 l:=by
  rw[<-z] at O;exact(hl,lk,λq hq=>O.look q.m (bH.mpr ⟨q,hq,Á⟩),O.mo,O.sh)
 apply(_,Á,_,Á,l,ab,b,Á,hL,s1.seq hB,lB,λy ey H2 bk s2 e3 hb rs=>?_,λen=>?_)
 .rw[Z,z] at ey;let(k3,k4):=k3 y ey;let fC:=s1.R s2;apply(_,Á,ap,p,Á,fC.seq hP,lP,λm em W pl j hp J=>?_,λe ee W d j hd=>k3 e ee W d (fC.R j) hd);let(k4,k5):=k4 m em;let gp:=gP m em;let lF:=fC.R j;let YV:rk k.C W pl:=by
   subst J;exact(hp,gp.xM,by let:=gp.c7;delta d7.m at this;rw[ao] at this;exact this,λg hg=>(by let:=gp.flags g.m (bH.mpr ⟨g,hg,rfl⟩);delta cA.m at this;rw[ao] at this;exact this),λg hg s hs=>gp.cells g.m (bH.mpr ⟨g,hg,rfl⟩) s.m (bH.mpr ⟨s,hs,rfl⟩))
  let Y:bk.es.M bJ.row=y.2.M (·.1):=by
   rw[<-e3];ext rD.m;rw[ck];rfl
  apply(_,Á,_,Á,_,Á,_,Á,_,Á,_,Á,l,bk,pl,Á,(hL.E s2).E j,hb.E j,YV,rs,λhd H4 q rds U e5 hr4=>?_,λhd=>?_)
  .rw[Y,J] at hd;rw[Y,z,J] at e5;apply xF Á λa dx H5 ha gV aN e6 M=>?_;refine k5 hd H5 ⟨a,dx,q,l,bk,pl,rds⟩ ((lF.R U).R M) ⟨e6,(((hL.E s2).E j).E U).E M,((hb.E j).E U).E M,(YV.E U).E M,hr4.E M⟩ ⟨Z,z,e3,J,e5⟩
  .rw[Y,J] at hd;exact(k4 hd).go lF
 .rw[Z,z] at en;exact(k2 en).go s1
end
def refusal(t b p:LI):Option Int:=if 65536<t.L\/65536<b.L\/65536<p.L then some (-2) else match gO t with
 |none=>some (-6)
 |some x=>match lR x.1 x.2 b with
  |none=>some (-9)
  |some y=>match iq p with
   |.error _=>some (-8)
   |.ok m=>if 1024<uK (y.2.M (·.1)) m.aq then some (-7) else none
def mx3(a b c:Nat):decide (AK (AK ((a:Nat):Int) ((b:Nat):Int)) ((c:Nat):Int)>65536)=decide (65536<a\/65536<b\/65536<c):=by
 rw[JV];ext AK;split <;> split <;> omega
inductive YW(K:FR)(k:Kn)(fT:Addr)(Jx:Sp)(vs:az)(H:Hp)(Q:VK)(E':XK):Prop
 |mk (at_ ab ap:Addr) (t b p:LI) (_:vs=[.ref at_,.ref ab,.ref ap,.ref fT]) (_:ä at_ (iv t)) (_:ä ab (iv b)) (_:ä ap (iv p)) (_:t.L<=66000) (_:b.L<=66000) (_:p.L<=66000) (_:(∀x,gO t=Α x->IB x.2)) (_:(∀m,iq p=.ok m->IC m)) (_:(∀z,ŵ p=Α z->∀H' r,H' r=Α (.lst [.int z])->Q ϣ H')) (_:(ŵ p=Β->∀x y m,gO t=Α x->lR x.1 x.2 b=Α y->iq p=.ok m->∀H' f,aj H H'->PN k H' f->YT f x y m->Jx [.ref f.a] H' Q E0))
abbrev uL(n:Int):TS:=Cp (An (ba (FQ (rU λi=>.int (-i)) (tC (.int n))) du))
section
variable{P:Pg}{w:Wd}{K:FR}{mg:MG}{base:Heap}{CN CB o7 CT CF N1 N2 N3 N4:Addr}{k:Kn}{fT:Addr}{PQ:FD}{Jx:Sp}
def YX:bG ["t","b","p","told","finding"] ["t","b","p","told"] (bc Nc):=cj
def anq(F:bu K "answered" "answered" Nc f fd)(Z:Ğ "NoLocker" CN N1)(Y:Ğ "NoBook" CB N2)(XP:G8 K mg o7 N3)(XT:Ğ "TooMuchInDoubt" CT N4)(nd:[CN,CB,o7,CT].Nodup)(tL:mg "len"=Β)(tM:mg "max"=Β)(cM:Cn mg "MOST_BYTES" (.int 65536))(dF:Ċ Ē 7 "found" ["t","b","p"] (YU K k CN CB o7 CT)) (L:Ë 7 fT PQ ["finding"] Jx) (kT:PySem.W.keepIn K (.ref fT)=true) (bT:Binds K PQ ["finding"] []):Ë 8 f fd ["t","b","p","told"] (YW K k fT Jx):=by
 let(fF,anr,GF,mF,kF,bF):=dF;refine F.ok YX Â;let(at_,ab,ap,t,b,p,rfl,hT,hB,hP,lT,lB,lP,gL,gP,k1,k2):=h;simp only[kZ,a9,k7,k8,not_or,not_false_eq_true,z7,and_true] at nd;let((n1,n2,n3),(n4,n5),n6):=nd;refine⟨_,aD (dm (cy rX (c9 (ag9 Á) Ï tM HN (ae č (ae Ă (ae ā ag)))) (cw cM) (bV _)) (aB (aX (dw (ae Âg ag)))) dX)
  (aD (UU ⟨rfl,rfl⟩ (UV (i:=4) YX.nd rfl Çs GF hr rfl mF kF bF (ae Ö (ae á ł)))
   (xn (ts:=uL 6) Z.c rfl Z.mC ñ
   (xn (ts:=uL 9) Y.c rfl Y.mC ñ
   (xn (ts:=uL 8) XP.c rfl XP.mC ñ
   (xn (ts:=uL 7) XT.c rfl XT.mC ñ UR)))))
  (aB (aX (agV (i:=3) L hr kT bT rfl Çs ŝ)))),?_⟩
 apply(_,Á,at_,_,Á,.inl hT,_,Á,ab,_,Á,.inl hB,_,Á,ap,_,Á,.inl hP,_,_,_,Á,_,_,Á,Á,_,Á,?_);rw[dy,dy,dy,mx3];let j:ŵ p=if 65536<t.L\/65536<b.L\/65536<p.L then some (-2) else match gO t with
  |none=>some (-6)
  |some x=>match lR x.1 x.2 b with
   |none=>some (-9)
   |some y=>match iq p with
    |.error _=>some (-8)
    |.ok m=>if 1024<uK (y.2.M (·.1)) m.aq then some (-7) else none:=rfl
 generalize refusal t b p=rf at j k1 k2;let U:∀(z n:Int),rf=Α z->z= -n->∀(D:Ends)(σ:L2.St)(H':Hp),(∀r pU,pU r=Α (.lst [.int z])->D.rt ϣ pU)->uL n D σ H':=λz n _ e2 D σ H' hD=>by
  subst e2;exact(_,Á,(by show 1<=sizeLine;decide),λr hr=>hD r _ au)
 refine a7 Î Î
 .let hc:65536<t.L\/65536<b.L\/65536<p.L:=by simpa using hc
  rw[ai hc] at j;exact U _ _ j Á _ _ _ λr H' e=>k1 _ j H' r e
 .let hc:¬(65536<t.L\/65536<b.L\/65536<p.L):=by simpa using hc
  rw[ah hc] at j;apply(_,Á,_,Á,_,Á,at_,ab,ap,t,b,p,Á,hT,hB,hP,lT,lB,lP,gL,gP,λen H1 q=>?_,λx ex=>⟨λen H1 q=>?_,λy J=>⟨λe ee H1 d q hd=>?_,λm em=>⟨λhd H1 q=>?_,λhd H1 fd q ok is=>?_⟩⟩⟩)
  .rw[en] at j;exact(CN,N1,Á,Z.c,λa M gV fl=>⟨λ_ O zx=>U _ _ j Á _ _ _ λr H' e=>k1 _ j H' r e,λz=>absurd Á z⟩)
  .rw[ex] at j;dsimp only at j;rw[en] at j;exact(CB,N2,Á,Y.c,λa M gV fl=>⟨λz=>absurd z.symm n1,λ_=>⟨λ_ O zx=>U _ _ j Á _ _ _ λr H' e=>k1 _ j H' r e,λz=>absurd Á z⟩⟩)
  .rw[ex] at j;dsimp only at j;rw[J] at j;dsimp only at j;rw[ee] at j;exact(o7,N3,Á,XP.c,λa M gV fl=>⟨λz=>absurd z.symm n2,λ_=>⟨λz=>absurd z.symm n4,λ_=>⟨λ_ O zx=>U _ _ j Á _ _ _ λr H' e=>k1 _ j H' r e,λz=>absurd Á z⟩⟩⟩)
  .rw[ex] at j;dsimp only at j;rw[J] at j;dsimp only at j;rw[em] at j;dsimp only at j;rw[ai hd] at j;exact(CT,N4,Á,XT.c,λa M gV fl=>⟨λz=>absurd z.symm n3,λ_=>⟨λz=>absurd z.symm n5,λ_=>⟨λz=>absurd z.symm n6,λ_=>⟨λ_ O zx=>U _ _ j Á _ _ _ λr H' e=>k1 _ j H' r e,λz=>absurd Á z⟩⟩⟩⟩)
  .rw[ex] at j;dsimp only at j;rw[J] at j;dsimp only at j;rw[em] at j;dsimp only at j;rw[ah Å] at j;exact(Á,_,Á,k2 j x y m ex J em H1 fd q ok is)
end
end HD
namespace HD
open PySem
def bitAnd_nn(a b:Nat):Builtin.bitAnd (a:Int) (b:Int)=((a&&& b:Nat):Int):=by
 rfl
def zy(g b:Nat):zi g b=g.testBit b:=by
 ext zi;let e:((g:Nat):Int)/2^b=((g/2^b:Nat):Int):=by
  rfl
 rw[e,show(1:Int)=((1:Nat):Int) from rfl,bitAnd_nn,Nat.testBit_eq_decide_div_mod_eq,at8];grind
def EE(g b:Nat):iw g b=false↔ ∀i,b.testBit i=true->g.testBit i=true:=by
 let q:iw g b=decide (b&&& g≠b):=by
  ext iw Builtin.bitAnd Builtin.bitNot;rw[eQ (R1 b),gD (by j:¬(0:Int)<= -((g:Nat):Int)-1)];dsimp only;rw[show-(-((g:Nat):Int)-1)-1=((g:Nat):Int) by j,BV,BV];let z:b&&& g<=b:=Nat.and_le_left;by_cases h:b&&& g=b
  .rw[h];simp
  .rw[eQ h];let:((b:Nat):Int)-((b&&& g:Nat):Int)≠0:=by j
   simpa using this
 rw[q,JQ,Decidable.not_not];apply(λh i hi=>?_,λh=>abA λi=>?_)
 .rw[<-h,z9,jH] at hi;exact hi.2
 .rw[z9];cases hb:b.testBit i with
  |false=>rfl
  |true=>rw[h i hb];rfl
def IF:iw g b=true↔ ∃i,b.testBit i=true/\g.testBit i=false:=by
 constructor
 .intro h;apply Fw λq=>?_;let:iw g b=false:=(EE g b).mpr λi hi=>by
   symm
  symm
 .rintro⟨i,j,h2⟩;cases e:iw g b with
  |true=>rfl
  |false=>
   rw[(EE g b).mp e i j] at h2;symm
theorem ans(g b:Nat):wb g (2^b)=g.testBit b:=by
 ext wb;rw[bitAnd_nn];cases e:g.testBit b with
 |true=>
  let h:g&&& 2^b≠0:=λz=>by
   let j:(g&&& 2^b).testBit b=true:=by rw[z9,e,at9];rfl
   symm
  symm
 |false=>
  let h:g&&& 2^b=0:=abA λi=>by
   grind
  symm
def ant(g:Nat):wb g 0=false:=by
 ext wb;rw[bitAnd_nn,Nat.and_zero];rfl
abbrev oZ(g b:Nat):Int:=lO (iw g b)
def uM(g b:Nat):oZ g b=0\/oZ g b=1:=by
 ext oZ lO;split <;> simp
theorem IG(hs:∀i,g.testBit i=true->h.testBit i=true):oZ h b<=oZ g b:=by
 ext oZ lO;cases e:iw h b with
 |false=>
  let:=uM g b;delta oZ lO at this;rw[ah eO]
  af
 |true=>
  let(i,j,h2):=IF.mp e;let:iw g b=true:=IF.mpr ⟨i,j,by
   cases e2:g.testBit i with
   |false=>rfl
   |true=>rw[hs i e2] at h2;cases h2⟩
  rw[this];exact JW _
def IH(a c:Nat):∀i,a.testBit i=true->(a|||c).testBit i=true:=λi h=>by rw[Nat.testBit_or,h];rfl
def YY(a c:Nat):∀i,c.testBit i=true->(a|||c).testBit i=true:=λi h=>by rw[Nat.testBit_or,h,aaU]
def YZ(a c:Nat):∀i,(a&&& c).testBit i=true->a.testBit i=true:=λi h=>by rw[z9,jH] at h;exact h.1
def anu(a c:Nat):∀i,(a&&& c).testBit i=true->c.testBit i=true:=λi h=>by rw[z9,jH] at h;exact h.2
def anv(a c b:Nat):oZ (a|||c) b+oZ (a&&& c) b<=oZ a b+oZ c b:=by
 let U:=IG (b:=b) (IH a c);let h2:=IG (b:=b) (YY a c);let W:=uM (a|||c) b;let Y:=uM (a&&& c) b;let J:=uM a b;let M:=uM c b;rcases J with j|j
 .rcases M with q|q
  .let F:iw a b=false:=by
    cases e:iw a b with
    |false=>rfl
    |true=>delta oZ lO at j;rw[e] at j;cases j
   let z:iw c b=false:=by
    cases e:iw c b with
    |false=>rfl
    |true=>delta oZ lO at q;rw[e] at q;cases q
   let O:iw (a&&& c) b=false:=(EE _ _).mpr λi hi=>by
    rw[z9,(EE _ _).mp F i hi,(EE _ _).mp z i hi];rfl
   grind
  .af
 .grind
def jx(l:cI)(s:Nat):Nat:=(l.J λp=>decide (p.1=s)).L
def kW(l:cI)(s g:Nat):Int:=((l.J λp=>decide (p.1=s)).M λp=>oZ g p.2).sum
def bw(lf:Nat->Int)(l:cI)(s g:Nat):Int:=(jx l s:Int)-lf s-kW l s g
def jy(n:Nat)(sm:Nat->Nat)(lf:Nat->Int)(g:Nat):Int:=((List.range n).M λb=>if g.testBit b=true then lf Äs else 0).sum
def je(lf:Nat->Int)(l:cI)(g:Nat)(D:LN):Int:=(D.M λs=>cV (ė g)).sum
def d8(n:Nat)(sm:Nat->Nat)(lf:Nat->Int)(l:cI)(D:LN)(g:Nat):Int:=jy n sm lf g-je lf l g D
theorem anw(hs:∀i,g.testBit i=true->h.testBit i=true)(l:cI)(s:Nat):kW l s h<=kW l s g:=by
 ext kW;generalize l.J (λp=>decide (p.1=s))=L;induction L with
 |nil=>simp
 |cons p L j=>
  let:=IG (b:=p.2) hs;grind
theorem anx(a c:Nat)(l:cI)(s:Nat):kW l s (a|||c)+kW l s (a&&& c)<=kW l s a+kW l s c:=by
 ext kW;generalize l.J (λp=>decide (p.1=s))=L;induction L with
 |nil=>simp
 |cons p L j=>
  let:=anv a c p.2;grind
theorem EF(l:cI)(s g:Nat):0<=kW l s g/\kW l s g<=jx l s:=by
 ext kW jx;generalize l.J (λp=>decide (p.1=s))=L;induction L with
 |nil=>exact(JW _,JW _)
 |cons p L j=>
  let:=uM g p.2;simp only[a8,gr,dh];omega
theorem anz(n:Nat)(sm:Nat->Nat)(lf:Nat->Int)(a c:Nat):jy n sm lf (a|||c)+jy n sm lf (a&&& c)=jy n sm lf a+jy n sm lf c:=by
 ext jy;generalize List.range n=L;induction L with
 |nil=>rfl
 |cons b L j=>
  let h:(if (a|||c).testBit b=true then lf Äs else 0)+(if (a&&& c).testBit b=true then lf Äs else 0)=(if a.testBit b=true then lf Äs else 0)+(if c.testBit b=true then lf Äs else 0):=by
   grind
  grind
def anA(h:x+y<=u+i)(j:x<=u)(h2:y<=u)(q:i<=x)(z:i<=y):cV x+cV y<=cV u+cV i:=by
 ext cV
 af
def BE(hs:∀i,g.testBit i=true->h.testBit i=true)(lf:Nat->Int)(l:cI)(s:Nat):ė g<=bw lf l s h:=by
 let:=anw hs l s;ext bw;symm
def Y0(a c:Nat)(lf:Nat->Int)(l:cI)(s:Nat):ė a+bw lf l s c<=bw lf l s (a|||c)+bw lf l s (a&&& c):=by
 let:=anx a c l s;ext bw
 af
def PR(a c:Nat)(lf:Nat->Int)(l:cI)(s:Nat):cV (ė a)+cV (ė c)<=cV (ė (a|||c))+cV (ė (a&&& c)):=
 anA (Y0 a c lf l s) (BE (IH a c) lf l s) (BE (YY a c) lf l s) (BE (YZ a c) lf l s) (BE (anu a c) lf l s)
theorem anB(a c:Nat)(lf:Nat->Int)(l:cI):∀D:LN,je lf l a D+je lf l c D<=je lf l (a|||c) D+je lf l (a&&& c) D:=by
 intro D;induction D with
 |nil=>exact JW _
 |cons s D q=>
  let j:=q;let h2:=PR a c lf l s;delta je at j⊢;simp only[a8,gr]
  af
theorem anC(a c:Nat)(lf:Nat->Int)(l:cI){s:Nat}{D:LN}:s∈D->(je lf l a D+je lf l c D)+(cV (ė (a|||c))+cV (ė (a&&& c))-cV (ė a)-cV (ė c))<=je lf l (a|||c) D+je lf l (a&&& c) D:=by
 induction D with
 |nil=>exact @λh=>absurd h Ä
 |cons x D q=>
  intro h;rcases a9.mp h with rfl|h
  .let j:=anB a c lf l D;delta je at j⊢;simp only[a8,gr]
   af
  .let j:=q h;let h2:=PR a c lf l x;delta je at j⊢;simp only[a8,gr]
   af
def anD{h b c:Nat}(j:h.testBit b=false)(h2:c.testBit b=true):h<h|||c:=by
 let q:h<=h|||c:=Nat.left_le_or;grind
def wo(lf:Nat->Int)(l:cI)(s b g:Nat):bw lf ((s,b)::l) s g=bw lf l s g+1-oZ g b:=by
 ext bw jx kW;grind
def BF(lf:Nat->Int)(l:cI)(b g:Nat)(h:s≠s'):bw lf ((s,b)::l) s' g=bw lf l s' g:=by
 ext bw jx kW;symm
def anE(n:Nat)(sm:Nat->Nat)(lf:Nat->Int)(l:cI){D:LN}{s:Nat}(hs:s∈D)(a c:Nat):d8 n sm lf l D (a|||c)+d8 n sm lf l D (a&&& c)+(cV (ė (a|||c))+cV (ė (a&&& c))-cV (ė a)-cV (ė c))<=d8 n sm lf l D a+d8 n sm lf l D c:=by
 let j:=anz n sm lf a c;let h2:=anC a c lf l hs;ext d8
 af
def PU(n:Nat)(sm:Nat->Nat)(lf:Nat->Int)(l:cI)(D:LN)(s B:Nat):Prop:=∀g,g<2^n->0<=d8 n sm lf l D g+cV (ė g)-cV (ė g+oZ g B)
def Y1(n:Nat)(sm:Nat->Nat)(lf:Nat->Int)(l:cI)(D:LN)(s B b:Nat):Prop:=∀g,g<2^n->0<=d8 n sm lf l D g+cV (ė g)-cV (ė g-1+oZ g B)-(if g.testBit b=true then 1 else 0)
def anF(n:Nat)(sm:Nat->Nat)(lf:Nat->Int)(r:cI){D:LN}{s B:Nat}(hs:s∈D)(h:∀g,g<2^n->0<=d8 n sm lf ß D g):
  PU n sm lf ß D s B\/∃b,B.testBit b=true/\Y1 n sm lf ß D s B b:=by
 apply Fw λhn=>?_;let Ho:=λz=>hn (Or.inl z);let nH:=λb hb z=>hn (Or.inr ⟨b,hb,z⟩);let ia:∀(m g:Nat),2^n-g<=m->g<2^n->oZ g B=1->d8 n sm lf ß D g=0->0<=bw lf ß s g->False:=by
  intro m;induction m with
  |zero=>omega
  |succ m ih=>
   intro g hm j Y h0 avu;let Z:iw g B=true:=by
    cases e:iw g B with
    |true=>rfl
    |false=>delta oZ lO at Y;rw[e] at Y;cases Y
   let(b,Vk,AJ):=IF.mp Z;let vi:=nH b Vk;delta Y1 at vi;let ⟨c,hc⟩:=aua.mp vi;let M:=Fw λz=>hc λy=>absurd y z;let hc:¬0<=d8 n sm lf ß D c+cV (bw lf ß s c)-cV (bw lf ß s c-1+oZ c B)-(if c.testBit b=true then 1 else 0):=λz=>hc λ_=>z;let W:=h c M;let hco:=uM c B;let Y2:c.testBit b=true:=by
    cases e:c.testBit b with
    |true=>rfl
    |false=>
     rw[e,ah eO] at hc;exfalso;apply hc;ext cV
     af
   rw[Y2,ai rfl] at hc;let U:=Nat.or_lt_two_pow j M;let O:=Nat.and_lt_two_pow g M;let hU:=h _ U;let hI:=h _ O;let q:=anE n sm lf ß hs g c;let J:=PR g c lf ß s;let hgU:=BE (IH g c) lf ß s;let F:=uM (g|||c) B;let hIo:=IG (b:=B) (YZ g c);let avy:=uM (g&&& c) B;let qW:=BE (IH g c) lf r s;let uc:=Y0 g c lf r s;let e1:=wo lf r s B g;let e2:=wo lf r s B c;let e3:=wo lf r s B (g|||c);let e4:=wo lf r s B (g&&& c);generalize hS0:d8 n sm lf ß D c=S0 at W hc q;generalize d8 n sm lf ß D (g&&& c)=SI at hI q;rw[h0] at q;let Y3:S0=0/\(oZ c B=1\/bw lf ß s c<=0):=by
    delta cV at hc
    af
   let(Y3,jM):=Y3;rcases F with F|F
   .exfalso;delta cV at q J;omega
   .let hSU:d8 n sm lf ß D (g|||c)=0:=by af
    let:=anD AJ Y2;grind
 delta PU at Ho;let ⟨g,j⟩:=aua.mp Ho;let n8:=Fw λz=>j λy=>absurd y z;let j:¬0<=d8 n sm lf ß D g+cV Éj-cV (bw lf ß s g+oZ g B):=λz=>j λ_=>z;let hgs:=h g n8;let ud:=uM g B;let hz:oZ g B=1/\d8 n sm lf ß D g=0/\0<=bw lf ß s g:=by
  delta cV at j;grind
 exact ia _ g (bC _) n8 hz.1 hz.2.1 hz.2.2
theorem anL(f:Nat->Int){a b:LN}(h:a.Perm b):(a.M f).sum=(b.M f).sum:=by
 induction h with
 |nil=>rfl
 |cons x _ q=>rw[a8,a8,gr,gr,q]
 |swap x y l=>
  simp only[a8,gr]
  af
 |trans _ _ j h2=>exact j.R h2
theorem PX(f:Nat->Int){D:LN}:(∀s∈D,f s=0)->(D.M f).sum=0:=by
 induction D with
 |nil=>exact @λ_=>Á
 |cons x D j=>
  intro h;rw[a8,gr,h x Ä,j λs hs=>h s (aL _ hs)];rfl
theorem anN(f:Nat->Int):∀{A D:LN},A.Nodup->D.Nodup->(∀s∈A,s∉D->f s=0)->(∀s∈D,s∉A->f s=0)->(A.M f).sum=(D.M f).sum:=by
 intro A;induction A with
 |nil=>exact @λD _ _ _ h=>(PX f λs hs=>h s hs Ä).symm
 |cons x A O=>
  intro D q F M h2;let(W,q):=kZ.mp q;by_cases J:x∈D
  .let U:=List.perm_cons_erase J;rw[anL f U,a8,a8,gr,gr];congr 1;apply O q (F.erase x) (λs hs j=>?_) (λs hs j=>?_)
   .exact M s (aL _ hs) λz=>j ((F.mem_erase_iff).mpr ⟨λe=>W (e▸ hs),z⟩)
   .let(Z,Y):=(F.mem_erase_iff).mp hs;exact h2 s Y λz=>(a9.mp z).elim Z j
  .rw[a8,gr,M x Ä J,R4];exact O q F (λs hs=>M s (aL _ hs)) λs hs j=>h2 s hs λz=>(a9.mp z).elim (λe=>J (e▸ hs)) j
theorem Y4:∀(n:Nat)(l:LN),l.L<=n->l.eraseDups.Nodup
 |0,l,h=>by
  let:l=[]:=RR.mp Å;rw[this];exact z7
 |n+1,[],_=>z7
 |n+1,a::l,h=>by
  rw[List.eraseDups_cons];apply kZ.mpr ⟨λz=>?_,Y4 n _ ?_⟩
  .let:=abB.mp z;simp at this
  .let:=B4 (λb=>!b==a) l;simp only[dh] at h
   af
def wq(q:Nat->Bool)(n:Nat):Nat:=(((List.range n).J q).M (2^ ·)).sum
def Y5(q:Nat->Bool)(n:Nat):wq q (n+1)=(if q n=true then 2^n else 0)+wq q n:=by
 ext wq;rw[JR,Ft,bI,Fu];grind
theorem PY(q:Nat->Bool):∀n,wq q n<2^n:=by
 intro n;induction n with
 |zero=>
  simp[wq]
 |succ n j=>
  rw[Y5];let:=j;let e:2^(n+1)=2^n+2^n:=by rw[z5];af
  split <;> omega
theorem Y6(q:Nat->Bool):∀n b,(wq q n).testBit b=(decide (b<n)&&q b):=by
 intro n;induction n with
 |zero=>
  intro b;simp[wq]
 |succ n z=>
  intro b;rw[Y5];let J:=PY q n;let z:=z b;by_cases h:q n=true
  .rw[ai h];by_cases j:b<n
   .rw[abC j,z,eQ j,eQ Ù]
   .by_cases F:b=n
    .subst F;rw[abD,B6 J,h,eQ Å];rfl
    .rw[gD Ù,mJ];apply B6 ?_;let M:2^(n+1)=2^n+2^n:=by rw[z5];af
     let O:2^(n+1)<=2^b:=yn Ð Ù;omega
  .rw[ah h,vd,z];by_cases j:b<n
   .rw[eQ j,eQ (by omega)]
   .by_cases F:b=n
    .subst F;let:q b=false:=by simpa using h
     rw[this,zW,zW]
    .rw[gD j,gD (by omega)]
theorem anO(q:Nat->Bool):∀l:LN,l.J q∈Flags.choices l:=by
 intro l;induction l with
 |nil=>
  simp[Flags.choices]
 |cons x l j=>
  let j:=j;ext Flags.choices;by_cases h:q x=true
  .rw[B7 h];exact rH _ (bH.mpr ⟨_,j,Á⟩)
  .rw[B8 h];exact wH _ j
def dJ(sames:LN)(p:Nat×Nat):Flags.Spot:=⟨p.1,(qg sames.L p.2).M λb=>sames.D b 0⟩
def bh(left:LN):Nat->Int:=λk=>((left.D k 0:Nat):Int)
def Y7(sames left:LN)(l:cI)(s:Nat):Flags.lacks left Çg s=jx l s-left.D s 0:=by
 ext Flags.lacks jx;rw[wJ,ao];congr 2
def anP(sames:LN)(l:cI)(s g:Nat)(y:LN)(Y:∀b,b<sames.L->g.testBit b=!y.Y ŋ)(J:∀p∈l,p.2<2^sames.L):
  (((l.M ø).J λp=>p.sign==s&&p.may.any λk=>y.Y k).L:Int)=kW l s g:=by
 rw[wJ,ao];ext kW;induction l with
 |nil=>rfl
 |cons p l j=>
  let j:=j λx U=>J x (aL _ U);let O:=J p Ä;let W:(dJ sames p).may.any (λk=>y.Y k)=iw g p.2:=by
   ext dJ;rw[JG,qy,tw,IF];ext qg;constructor
   .rintro⟨b,F,h⟩;let(q,h2):=iA.mp F;simp at q;apply(b,by rw[<-zy];exact h2,?_);symm
   .rintro⟨b,q,h2⟩;let F:b<sames.L:=by
     apply Nat.lt_of_not_le λz=>?_;let:p.2.testBit b=false:=B6 (j4 O (yn Ð z));symm
    apply(b,iA.mpr ⟨by simp_all,by rw[zy];exact q⟩,?_);symm
  by_cases hs:p.1=s
  .rw[B7 (l:=l) (p:=λp=>decide (p.1=s)) Å,a8,gr,<-j];let M:((dJ sames p).sign==s)=true:=by simpa [dJ] using hs
   cases eb:iw g p.2 with
   |true=>
    rw[B7 Å,dh];ext oZ lO;grind
   |false=>
    rw[B8 Å];ext oZ lO;symm
  .rw[B8 (l:=l) (p:=λp=>decide (p.1=s)) Å,<-j];let M:((dJ sames p).sign==s)=false:=by simpa [dJ] using hs
   symm
theorem sum_nat(f:Nat->Nat):∀l:LN,(((l.M f).sum:Nat):Int)=(l.M λs=>((f s:Nat):Int)).sum:=by
 intro l;induction l with
 |nil=>exact Á
 |cons x l j=>
  rw[a8,a8,gr,gr,Int.natCast_add,j]
theorem sum_add(f g h:Nat->Int){l:LN}:(∀s∈l,f s=g s+h s)->(l.M f).sum=(l.M g).sum+(l.M h).sum:=by
 induction l with
 |nil=>exact @λ_=>Á
 |cons x l j=>
  intro e;rw[a8,a8,a8,gr,gr,gr,e x Ä,j λs hs=>e s (aL _ hs)]
  af
def anQ(sames left:LN)(g:Nat)(y:LN)(M:∀b,b<sames.L->g.testBit b=!y.Y ŋ):
  ((((sames.J λk=>!y.Y k).M λk=>left.D k 0).sum:Nat):Int)=jy sames.L Ãs æ g:=by
 let gen:∀(L:LN)(o:Nat),(∀b,b<L.L->g.testBit (o+b)=!y.Y Çt)->((((L.J λk=>!y.Y k).M λk=>left.D k 0).sum:Nat):Int)=((List.range L.L).M λb=>if g.testBit (o+b)=true then bh left Çt else 0).sum:=by
  intro L;induction L with
  |nil=>intro o _;rfl
  |cons x L F=>
   intro o h;let q:=h 0 Ä;rw[RQ] at q;let q:g.testBit o=!y.Y x:=q;let F:=F (o+1) λb z=>by
    let:=h (b+1) (À z);rw[show o+1+b=o+(b+1) by af,this];rfl
   rw[dh,zX,a8,gr,ck];let J:(List.range L.L).M ((λb=>if g.testBit (o+b)=true then bh left ((x::L).D b 0) else 0)∘Nat.succ)=(List.range L.L).M λb=>if g.testBit (o+1+b)=true then bh left Çt else 0:=by
    apply iU;intro b _;show(if g.testBit (o+(b+1))=true then bh left Çt else 0)=_;rw[show o+(b+1)=o+1+b by af]
   rw[J,<-F,RQ];show _=(if g.testBit o=true then bh left x else 0)+_;rw[q];by_cases j:y.Y x=true
   .rw[j,B8 (by rw[j];decide)];simp
   .let j:y.Y x=false:=by simpa using j
    rw[j,B7 (by rw[j];rfl),a8,gr,Int.natCast_add];rfl
 let:=gen sames 0 λb z=>by rw[vd];exact M b z
 simp only[vd] at this;exact this
def zA(lf:Nat->Int)(l:cI)(D:LN):Prop:=∀s,s∉D->(jx l s:Int)<=lf s
def PZ(h:s∉l.M (·.1)):jx l s=0:=by
 ext jx;rw[RR,at0];grind
def Y8(sames left:LN)(l:cI)(y:LN)(g:Nat)(M:∀b,b<sames.L->g.testBit b=!y.Y ŋ)(Y:∀p∈l,p.2<2^sames.L){D:LN}(W:D.Nodup)(O:zA æ l D):
  ((((l.M ø).M λp=>p.sign).eraseDups.map (Flags.lacks left Çg)).sum<=((sames.J λk=>!y.Y k).M λk=>left.D k 0).sum+(((l.M ø).M λp=>p.sign).eraseDups.map λs=>min Àa (((l.M ø).J λp=>p.sign==s&&p.may.any λk=>y.Y k).L)).sum)↔
   0<=d8 sames.L Ãs æ l D g:=by
 let j:(l.M ø).M (λp=>p.sign)=l.M (·.1):=by
  rw[ck];rfl
 rw[j];let h1:=anQ sames left g y M;let h2:=sum_nat (Flags.lacks left Çg) (l.M (·.1)).eraseDups;let h3:=sum_nat (λs=>min Àa (((l.M ø).J λp=>p.sign==s&&p.may.any λk=>y.Y k).L)) (l.M (·.1)).eraseDups;let h4:=sum_add (λs=>((Flags.lacks left Çg s:Nat):Int)) (λs=>((min Àa (((l.M ø).J λp=>p.sign==s&&p.may.any λk=>y.Y k).L):Nat):Int)) (λs=>cV (bw æ l s g)) (l:=(l.M (·.1)).eraseDups) λs _=>by
  let F:=anP sames l s g y M Y;let U:=Y7 sames left l s;let J:=EF l s g;generalize ((l.M ø).J λp=>p.sign==s&&p.may.any λk=>y.Y k).L=o at F;rw[U];ext bw cV bh
  af
 let h5:=anN (λs=>cV (bw æ l s g)) (A:=(l.M (·.1)).eraseDups) (D:=D) (Y4 _ _ (bC _)) W (λs _ q=>?_) (λs _ q=>?_)
 .ext d8 je;omega
 .let F:=O s q;let J:=EF l s g;ext bw cV
  af
 .let Z:=PZ λz=>q (abB.mpr z);let J:=EF l s g;ext bw cV bh
  af
def Y9{L:Flags.Locker}{sames:LN}(hs:L.sameKinds=sames)(J:sames.Nodup)(left:LN)(l:cI)(z:∀p∈l,p.2<2^sames.L){D:LN}(q:D.Nodup)(j:zA æ l D):
  L.enough left Çg=true↔ ∀g,g<2^sames.L->0<=d8 sames.L Ãs æ l D g:=by
 ext Flags.Locker.enough;rw[hs,jI];constructor
 .intro h g M;let F:=h _ (anO (λk=>!g.testBit (sames.idxOf k)) sames);rw[lZ] at F;refine(Y8 sames left l _ g ē z q j).mp F;symm
 .intro h y _;rw[lZ];refine(Y8 sames left l y (wq (λb=>!y.Y ŋ) sames.L) ē z q j).mpr (h _ (PY _ _));rw[Y6,eQ hb,nu]
end HD
namespace HD
open PySem L2
def gi(n:Nat)(sm:Nat->Nat)(lf:Nat->Int)(l:cI)(D:LN):iE:=(D.M λs=>(s,(List.range (2^n)).M (bw lf l s)),(List.range (2^n)).M (d8 n sm lf l D))
def dec(lf:Nat->Int)(k:Nat):Nat->Int:=λj=>if j=k then lf j-1 else lf j
def Za(f:Nat->Int)(h:g<G):((List.range G).M f).D g 0=f g:=by
 symm
def qt{G:Nat}{f h:Nat->Int}(e:∀g,g<G->f g=h g):(List.range G).M f=(List.range G).M h:=by
 symm
def EG(f:Nat->Int)(G:Nat):oX ((List.range G).M f)=true↔ ∀g,g<G->0<=f g:=by
 ext oX;simp
theorem Gu(f:Nat->β)(s:Nat):∀D:LN,cu (D.M λx=>(x,f x)) s=if s∈D then some (f s) else none:=by
 intro D;induction D with
 |nil=>exact Á
 |cons x D j=>
  let j:=j;delta cu at j⊢;rw[a8];by_cases h:x=s
  .subst h;rw[List.find?_cons_of_pos Ä,ai Ä];rfl
  .rw[aub (À h),j];by_cases h2:s∈D
   .rw[ai h2,ai (aL _ h2)]
   .rw[ah h2,ah (λz=>(a9.mp z).elim (λe=>h e.symm) h2)]
def Zb{β:Type}(f:Nat->β){s:Nat}(v:β){D:LN}(h:s∈D):eU (D.M λx=>(x,f x)) s v=D.M λx=>(x,if x=s then v else f x):=by
 ext eU;let j:((D.M λx=>(x,f x)).any λp=>decide (p.1=s))=true:=by
  symm
 rw[ai j,ck];apply iU;grind
theorem IJ(f h:Nat->Int){s:Nat}{D:LN}:D.Nodup->s∈D->(∀x∈D,x≠s->h x=f x)->(D.M h).sum=(D.M f).sum-f s+h s:=by
 induction D with
 |nil=>exact @λ_ hs _=>absurd hs Ä
 |cons x D J=>
  intro nd hs e;let(F,nd):=kZ.mp nd;rw[a8,a8,gr,gr];by_cases q:x=s
  .subst q;let:(D.M h).sum=(D.M f).sum:=by
    congr 1;apply iU;intro y j;exact e y (aL _ j) λz=>F (z▸ j)
   rw[this]
   af
  .let M:=(a9.mp hs).elim (λz=>absurd z.symm q) id;rw[J nd M λy j=>e y (aL _ j),e x Ä q]
   af
def Zc{n:Nat}{sm:Nat->Nat}{lf:Nat->Int}{k:Nat}(h:∀b,b<n->sm b≠k)(g:Nat):jy n sm (dec lf k) g=jy n sm lf g:=by
 ext jy;congr 1;apply iU;intro b j;ext dec;symm
def anS{sm:Nat->Nat}{lf:Nat->Int}(q:b<n)(hi:∀a,a<n->sm a=sm b->a=b)(g:Nat):jy n sm Áy g=jy n sm lf g-(if g.testBit b=true then 1 else 0):=by
 ext jy;let:=IJ (λa=>if g.testBit a=true then lf (sm a) else 0) (λa=>if g.testBit a=true then dec lf Äs (sm a) else 0) (s:=b) (D:=List.range n) R8 Å λx z j=>by
  ext dec;grind
 rw[this];let e:dec lf Äs Äs=lf Äs-1:=by ext dec;rw[ai rfl]
 grind
def P0(lf:Nat->Int)(l:cI)(s g:Nat):bw Ãh l s g=bw lf l s g+1:=by
 ext bw dec;rw[ai rfl]
 af
def xW(lf:Nat->Int)(l:cI){s k:Nat}(h:s≠k)(g:Nat):bw (dec lf k) l s g=bw lf l s g:=by
 ext bw dec;rw[ah h]
section
variable{n:Nat}{sm:Nat->Nat}{lf:Nat->Int}{r:cI}{D:LN}{s B:Nat}
def Zd(j:s∈D)(nd:D.Nodup)(F:∀b,b<n->sm b≠s)(g:Nat):d8 n sm Ãh r D g=d8 n sm lf ß D g+cV Éj-cV (bw lf ß s g+oZ g B):=by
 ext d8;rw[Zc F];let:=IJ (λx=>cV (bw lf ß x g)) (λx=>cV (bw Ãh r x g)) nd j λx _ aN=>by
  rw[xW _ _ aN,BF _ _ _ _ Æc]
 ext je;rw[this,P0,wo];grind
def Ze{b:Nat}(j:b<n)(hi:∀a,a<n->sm a=sm b->a=b)(q:s∈D)(nd:D.Nodup)(Z:sm b∉D)(g:Nat):d8 n sm Áy r D g=d8 n sm lf ß D g+cV Éj-cV (bw lf ß s g-1+oZ g B)-(if g.testBit b=true then 1 else 0):=by
 ext d8;rw[anS j hi];let:=IJ (λx=>cV (bw lf ß x g)) (λx=>cV (bw Áy r x g)) nd q λx F aN=>by
  rw[xW _ _ (λz=>Z Å),BF _ _ _ _ Æc]
 ext je;rw[this,xW _ _ (λz=>Z Å),wo];grind
def Zf(q:s∉D)(F:∀b,b<n->sm b≠s)(g:Nat):d8 n sm Ãh r D g=d8 n sm lf ß D g:=by
 ext d8 je;rw[Zc F];congr 2;apply iU;intro x j;let aN:x≠s:=λz=>q (z▸ j);rw[xW _ _ aN,BF _ _ _ _ Æc]
def anT(j:s∉D)(F:∀b,b<n->sm b≠s):gi n sm lf ß D=gi n sm Ãh r D:=by
 ext gi;congr 1
 .apply iU;intro x q;let aN:x≠s:=λz=>j (z▸ q);congr 1;exact qt λg _=>by rw[xW _ _ aN,BF _ _ _ _ Æc]
 .exact qt λg _=>(Zf j F g).symm
def Zg:uD 0=0:=rfl
def Zh(b:Nat):uD (2^b)= -1:=by
 ext uD;let:0<2^b:=abE b;grind
def P1(f:Nat->Int)(G B same:Nat):jc ((List.range G).M f) B same=(List.range G).M λg=>f g+uD same+oZ g B:=by
 ext jc;symm
def Zi(f h:Nat->Int)(G B same:Nat):jW ((List.range G).M f) ((List.range G).M h) B same=(List.range G).M λg=>h g+cV (f g)-cV (f g+uD same+oZ g B)-lO (wb g same):=by
 ext jW;rw[ao,il,P1];symm
def Zj(j:s∈D)(nd:D.Nodup)(F:∀b,b<n->sm b≠s):jW ((List.range (2^n)).M Çp) (gi n sm lf ß D).2 B 0=(List.range (2^n)).M (d8 n sm Ãh r D):=by
 ext gi;rw[Zi];exact qt λg _=>by
  rw[Zd (B:=B) j nd F,Zg,ant,show lO false=0 from rfl,Int.add_zero,Int.sub_zero]
def P2(j:b<n)(hi:∀a,a<n->sm a=sm b->a=b)(q:s∈D)(nd:D.Nodup)(z:sm b∉D):jW ((List.range (2^n)).M Çp) (gi n sm lf ß D).2 B (2^b)=(List.range (2^n)).M (d8 n sm Áy r D):=by
 ext gi;rw[Zi];exact qt λg _=>by
  rw[Ze (B:=B) j hi q nd z,Zh,ans];rfl
def anU(j:s∈D)(nd:D.Nodup)(F:∀b,b<n->sm b≠s):sO (gi n sm lf ß D) s B 0 ((List.range (2^n)).M Çp)=gi n sm Ãh r D:=by
 ext sO;rw[Zj j nd F];ext gi;rw[Zb _ _ j,P1];congr 1;apply iU;intro x q;congr 1;by_cases h:x=s
 .rw[ai h,h];exact qt λg _=>by rw[P0,wo,Zg];symm
 .rw[ah h];exact qt λg _=>by rw[xW _ _ h,BF _ _ _ _ (eF h)]
def anV{b:Nat}(q:b<n)(hi:∀a,a<n->sm a=sm b->a=b)(j:s∈D)(nd:D.Nodup)(Z:sm b∉D):sO (gi n sm lf ß D) s B (2^b) ((List.range (2^n)).M Çp)=gi n sm Áy r D:=by
 ext sO;rw[P2 q hi j nd Z];ext gi;rw[Zb _ _ j,P1];congr 1;apply iU;intro x F;congr 1;let U:x≠sm b:=λz=>Z (z▸ F);by_cases h:x=s
 .rw[ai h,h];exact qt λg _=>by rw[xW _ _ (h▸ U),wo,Zh];af
 .rw[ah h];exact qt λg _=>by rw[xW _ _ U,BF _ _ _ _ (eF h)]
end
abbrev cO(sames:LN):Nat->Nat:=λb=>sames.D b 0
structure o8(sames left:LN)(l:cI)(D:LN):Prop where
 nd:D.Nodup
 BG:zA æ l D
 bits:∀p∈l,p.2<2^sames.L
 sgn:∀p∈l,∀b,b<sames.L->cO sames b≠p.1
 sd:∀b,b<sames.L->cO sames b∉D
 all:∀g,g<2^sames.L->0<=d8 sames.L ć æ l D g
def uO(h:0<left.D f 0):bh ě=dec æ f:=by
 let q:f<left.L:=by
  grind
 funext j;ext bh dec Flags.less1;grind
def IK(nd:sames.Nodup)(q:b<sames.L):∀a,a<sames.L->cO sames a=cO sames b->a=b:=λa j e=>by
 delta cO at e;rw[ik,ik,cJ j,cJ q] at e;exact(aaX nd).mp e
def cnt_cons(r:cI)(s B:Nat):jx ß s=jx r s+1:=by
 ext jx;simp
def IL(r:cI)(B:Nat)(h:s≠x):jx ß x=jx r x:=by
 ext jx;symm
def anW(n:Nat)(sm:Nat->Nat)(lf:Nat->Int):jy n sm lf 0=0:=by
 ext jy;exact PX _ λb _=>by rw[Nat.zero_testBit,ah eO]
def anY(q:b<n):jy n sm lf (2^b)=lf Äs:=by
 ext jy;let:=IJ (λ_=>(0:Int)) (λa=>if (2^b).testBit a=true then lf (sm a) else 0) (s:=b) (D:=List.range n) R8 Å λx z j=>by
  grind
 rw[this,PX _ λ_ _=>rfl,at9,ai rfl];symm
def P3(z:Int):0<=cV z:=by ext cV;split <;> af
theorem Zk(lf:Nat->Int)(l:cI)(g:Nat):∀D:LN,0<=je lf l g D:=by
 intro D;induction D with
 |nil=>exact JW _
 |cons s D q=>
  let j:=q;let h2:=P3 (ė g);delta je at j⊢;rw[a8,gr]
  af
theorem anZ(lf:Nat->Int)(l:cI)(g:Nat){s:Nat}{D:LN}:s∈D->cV (ė g)<=je lf l g D:=by
 induction D with
 |nil=>exact @λh=>absurd h Ä
 |cons x D z=>
  intro h;let j:=Zk lf l g D;let h2:=P3 (bw lf l x g);rcases a9.mp h with rfl|h
  .delta je at j⊢;rw[a8,gr]
   af
  .let q:=z h;delta je at j q⊢;rw[a8,gr]
   af
def an0{sm:Nat->Nat}(hs:s∈D)(h:0<=d8 n sm Åc r D 0):0<left.D s 0:=by
 apply auc λz=>?_;let j:=anZ Åc r 0 hs;let h2:=EF r s 0;let q:=P0 æ r s 0;delta d8 at h;rw[anW] at h;let F:bw æ r s 0=(jx r s:Int)-kW r s 0:=by ext bw bh;rw[z];rfl
 delta cV at j;omega
def an1(j:b<n)(h:0<=d8 n sm (dec æ Äs) r D (2^b)):0<left.D Äs 0:=by
 let q:=Zk (dec æ Äs) r (2^b) D;delta d8 at h;rw[anY j] at h;let:dec æ Äs Äs=((left.D Äs 0:Nat):Int)-1:=by ext dec bh;rw[ai rfl]
 af
section
variable{L:Flags.Locker}{sames left:LN}{r:cI}{D:LN}{s B:Nat}
def o8.sign(c:Àe ß D)(z:0<left.D s 0)(h:∀g,g<2^sames.L->0<=d8 sames.L ć Åc r D g):o8 sames (Flags.less1 left s) r D:=by
 apply(c.nd,λx F=>?_,λp j=>c.bits p (aL _ j),λp j=>c.sgn p (aL _ j),c.sd,by rw[uO z];exact h);rw[uO z];let:=c.BG x F;ext dec;by_cases q:x=s
 .subst q;rw[cnt_cons] at this;rw[ai rfl]
  af
 .rw[IL _ _ (eF q)] at this;rw[ah q];exact this
def o8.same(c:Àe ß D){b:Nat}(M:b<sames.L)(q:0<left.D į 0)(hs:s∈D)(h:∀g,g<2^sames.L->0<=d8 sames.L ć (dec æ į) r D g):o8 sames (Flags.less1 left į) r D:=by
 apply(c.nd,λx F=>?_,λp j=>c.bits p (aL _ j),λp j=>c.sgn p (aL _ j),c.sd,by rw[uO q];exact h);rw[uO q];let:=c.BG x F;let O:x≠s:=λz=>F (z▸ hs);rw[IL _ _ (eF O)] at this;ext dec;by_cases U:x=cO sames b
 .rw[ai U];let J:jx r x=0:=PZ λz=>by
   let(p,j,e):=bH.mp z;exact c.sgn p (aL _ j) b M (by rw[<-U];exact e.symm)
  rw[J];let:bh left x=((left.D į 0:Nat):Int):=by rw[U];rfl
  af
 .rw[ah U];exact this
def BH(q:L.sameKinds=sames)(nd:sames.Nodup)(c:Àe ß D)(j:0<left.D f 0)(hd:zA (dec æ f) r D):L.enough ě Âd=true↔ ∀g,g<2^sames.L->0<=d8 sames.L ć (dec æ f) r D g:=by
 let:=Y9 q nd ě r (λp z=>c.bits p (aL _ z)) c.nd (by rw[uO j];exact hd);rw[uO j] at this;exact this
def BI(L:Flags.Locker)(sames left:LN)(s B:Nat)(r:cI):Nat:=(((dJ sames (s,B)).sign::if 0<Flags.lacks left (((s,B)::r).M ø) (dJ sames (s,B)).sign then (dJ sames (s,B)).may else []).J λ(f:Nat)=>decide (0<left.D f 0)&&L.enough ě Âd).headD 0
def Zl(h:(decide (0<left.D s 0)&&L.enough (Flags.less1 left s) Âd)=true):BI L sames left s B r=s:=by
 ext BI;rw[rL,ai (show(decide (0<left.D (dJ sames (s,B)).sign 0)&&L.enough (Flags.less1 left (dJ sames (s,B)).sign) Âd)=true from h)];rfl
def an2:L.fill (((s,B)::r).M ø) left=BI L sames left s B r::L.fill Âd (Flags.less1 left (BI L sames left s B r)):=rfl
def an3(sames:LN)(st:iE)(s B:Nat)(row:LI)(P:Nat->Bool):∀bs:LN,(∀b∈bs,oX (jW row st.2 B (2^b))=P į)->(∃b∈bs,P į=true)->
  ∃b∈bs,we sames st s B row bs=Α (cO sames b,sO st s B (2^b) row)/\P į=true/\((bs.M ć).J P).headD 0=cO sames b:=by
 intro bs;induction bs with
 |nil=>
  intro _ h;let(b,U,_):=h;cases U
 |cons b bs ih=>
  intro F h;let q:=F b Ä;ext we;by_cases j:P į=true
  .rw[q,ai j];apply(b,by simp,rfl,j,?_);rw[a8,B7 j];rfl
  .rw[q,ah j];let(x,W,Z):=h;let xh:=(a9.mp W).elim (λz=>absurd (z▸ Z) j) id;let(y,Y,J,M,O):=ih (λz hz=>F z (aL _ hz)) ⟨x,xh,Z⟩;apply(y,aL _ Y,J,M,?_);rw[a8,B8 j];exact O
def an4(O:L.sameKinds=sames)(nd:sames.Nodup)(c:Àe ß D):
  ∃f,oY sames Ħ s B=Α (f,gi sames.L ć (bh ě) r D)/\o8 sames ě r D/\BI L sames left s B r=f:=by
 let U:=c.sgn (s,B) Ä;by_cases hs:s∈D
 .let Z:oY sames Ħ s B=if oX (jW ((List.range (2^sames.L)).M Ât) (gi sames.L ć æ ß D).2 B 0)=true then some (s,sO Ħ s B 0 ((List.range (2^sames.L)).M Ât))
    else we sames Ħ s B ((List.range (2^sames.L)).M Ât) (qg sames.L B):=by
   ext oY;let:cu (gi sames.L ć æ ß D).1 s=Α ((List.range (2^sames.L)).M Ât):=(Gu (λx=>(List.range (2^sames.L)).M (bw æ ß x)) s D).R (ai hs);rw[this]
  rw[Zj hs c.nd U,anU hs c.nd U] at Z;let Gp:zA Åc r D:=λx W=>by
   let:=c.BG x W;let qu:x≠s:=λz=>W (z▸ hs);rw[IL _ _ (eF qu)] at this;ext dec;symm
  by_cases aE:oX ((List.range (2^sames.L)).M (d8 sames.L ć Åc r D))=true
  .rw[ai aE] at Z;let aE:=(EG _ _).mp aE;let j:=an0 hs (aE 0 (abE _));apply(s,by rw[Z,uO j],c.sign j aE,Zl ?_);rw[eQ j,(BH O nd c j Gp).mpr aE];rfl
  .rw[ah aE] at Z;let aE:=λz=>aE ((EG _ _).mpr z);let Zn:¬PU sames.L ć æ ß D s B:=λz=>aE λg J=>by
    rw[Zd (B:=B) hs c.nd U];exact z g J
   let hex:=(anF _ _ _ r hs c.all).resolve_left Zn;let Hv:∀b∈qg sames.L B,b<sames.L/\B.testBit b=true:=λb q=>by
    delta qg at q;let(h1,h2):=iA.mp q;rw[zy] at h2;symm
   let P4:∀b,b<sames.L->0<left.D į 0->zA (dec æ į) r D:=λb q j x W=>by
    let:=c.BG x W;let qu:x≠s:=λz=>W (z▸ hs);rw[IL _ _ (eF qu)] at this;ext dec;by_cases uN:x=cO sames b
    .rw[ai uN];let e0:jx r x=0:=PZ λz=>by
      let(p,hp,e):=bH.mp z;exact c.sgn p (aL _ hp) b q Ù
     rw[e0];let:bh left x=((left.D į 0:Nat):Int):=by rw[uN];rfl
     omega
    .symm
   let hP:∀b,b<sames.L->oX (jW ((List.range (2^sames.L)).M Ât) (gi sames.L ć æ ß D).2 B (2^b))=(decide (0<left.D į 0)&&L.enough (Flags.less1 left į) Âd):=λb q=>by
    rw[P2 q (IK nd q) hs c.nd (c.sd b q),qy,EG,jH,lZ];constructor
    .intro h;let j:=an1 q (h (2^b) (Nat.pow_lt_pow_right Ð q));exact(j,(BH O nd c j (P4 b q j)).mpr h)
    .rintro⟨j,h⟩;exact(BH O nd c j (P4 b q j)).mp h
   let(b0,hb0,an6):=hex;let F:b0<sames.L:=by
    apply Nat.lt_of_not_le λz=>?_;let hB:=c.bits (s,B) Ä;let:B.testBit b0=false:=B6 (j4 hB (yn Ð z));symm
   let(b,q,e1,e2,e3):=an3 sames Ħ s B ((List.range (2^sames.L)).M Ât) (λf=>decide (0<left.D f 0)&&L.enough ě Âd) (qg sames.L B) (λb q=>hP b (Hv b q).1)
    ⟨b0,iA.mpr ⟨À F,by rw[zy];exact hb0⟩,by
     rw[<-hP b0 F,P2 F (IK nd F) hs c.nd (c.sd b0 F),EG];intro g J;rw[Ze (B:=B) F (IK nd F) hs c.nd (c.sd b0 F)];exact an6 g J⟩
   let Y:=(Hv b q).1;let e2:=e2;let M:=e2;rw[jH,lZ] at M;let jQ:=(BH O nd c M.1 (P4 b Y M.1)).mp M.2;apply(cO sames b,?_,c.E Y M.1 hs jQ,?_)
   .rw[Z,e1,anV Y (IK nd Y) hs c.nd (c.sd b Y),uO M.1]
   .let hnp:¬(decide (0<left.D (dJ sames (s,B)).sign 0)&&L.enough (Flags.less1 left (dJ sames (s,B)).sign) Âd)=true:=λz=>by
     let z:=z;rw[jH,lZ] at z;exact aE ((BH O nd c z.1 Gp).mp z.2)
    let an8:0<Flags.lacks left (((s,B)::r).M ø) (dJ sames (s,B)).sign:=by
     apply auc λz=>Zn λg J=>?_;let z:Flags.lacks left (((s,B)::r).M ø) s=0:=z;rw[Y7] at z;let h1:=EF r s g;let h2:=wo æ r s B g;let h3:=c.all g J;let h4:bw æ r s g+1<=0:=by
      rw[cnt_cons] at z;ext bw bh
      af
     let h5:=P3 (bw æ ß s g);rw[h2] at h5⊢;rw[show bw æ r s g+1-oZ g B+oZ g B=bw æ r s g+1 by simp_all];let h6:cV (bw æ r s g+1)=0:=by ext cV;rw[ah Å]
     af
    ext BI;rw[rL,ah hnp,ai an8];exact e3
 .let Z:oY sames Ħ s B=Α (s,gi sames.L ć æ ß D):=by
   ext oY;let:cu (gi sames.L ć æ ß D).1 s=Β:=(Gu (λx=>(List.range (2^sames.L)).M (bw æ ß x)) s D).R (ah hs);symm
  let j:0<left.D s 0:=by
   let:=c.BG s hs;rw[cnt_cons] at this;delta bh at this
   af
  let jQ:∀g,g<2^sames.L->0<=d8 sames.L ć Åc r D g:=λg J=>by
   rw[Zf (B:=B) hs U];exact c.all g J
  let cs:=c.sign j jQ;apply(s,by rw[Z,uO j,anT hs U],cs,Zl ?_);let hd:=cs.BG;rw[uO j] at hd;rw[eQ j,(BH O nd c j hd).mpr jQ];rfl
end
section
variable{L:Flags.Locker}{sames:LN}{D:LN}
def an9(W:L.sameKinds=sames)(nd:sames.Nodup)(l:cI):∀(b9:cI)(left:LN),Àe (l++b9) D->
  ∃fs z,o4 sames (gi sames.L ć æ (l++b9) D) l=Α (fs,gi sames.L ć (bh z) b9 D)/\o8 sames z b9 D/\L.fill ((l++b9).M ø) left=fs++L.fill (b9.M ø) z:=by
 induction l with
 |nil=>exact @λb9 left c=>⟨[],left,Á,c,Á⟩
 |cons q l Y=>
  let(s,B):=q;intro b9 left c;let(f,j,F,M):=an4 W nd (show o8 sames left ((s,B)::(l++b9)) D from c);let(fs,z,O,J,U):=Y b9 ě F;apply(f::fs,z,?_,J,?_)
  .ext o4;let j:oY sames (gi sames.L ć æ ((s,B)::l++b9) D) (s,B).1 (s,B).2=Α (f,gi sames.L ć (bh ě) (l++b9) D):=j;rw[j];dsimp only;rw[O]
  .let:=an2 (L:=L) (sames:=sames) (left:=left) (r:=l++b9) (s:=s) (B:=B);rw[M,U] at this;exact this
def aoa(M:L.sameKinds=sames)(nd:sames.Nodup)(ps:List cI):∀(left:LN),Àe ps.flatten D->
  ∃x,oa sames (gi sames.L ć æ ps.flatten D) ps=Α x/\L.fill (ps.flatten.M ø) left=x.1.flatten:=by
 induction ps with
 |nil=>exact @λleft c=>⟨_,Á,Á⟩
 |cons p ps O=>
  intro left c;let(fs,Z,q,j,z):=an9 M nd p ps.flatten left c;let(x,F,J):=O Z j;apply((fs::x.1,x.2),?_,?_)
  .ext oa;rw[R7,q];dsimp only;rw[F]
  .rw[R7,z,J];rfl
end
theorem aob:∀hs:bg,Flags.pieces Àz hs.flatten=hs:=by
 intro hs;induction hs with
 |nil=>exact Á
 |cons h hs j=>
  rw[a8,R7];ext Flags.pieces;rw[List.take_left,List.drop_left,j]
theorem AF{β:Type}{t:List (Nat×β)}(nd:(t.M (·.1)).Nodup){p:Nat×β}(h:p∈t):cu t p.1=Α p.2:=by
 induction t with
 |nil=>cases h
 |cons x t q=>
  let(j,nd):=kZ.mp nd;ext cu;rcases a9.mp h with rfl|h
  .simp
  .let:x.1≠p.1:=λz=>j Å;rw[aub Å];exact q nd h
theorem aoc(l:cI)(s g:Nat):((sL g ((l.J λp=>decide (p.1=s)).M (·.2)):Nat):Int)=kW l s g:=by
 ext sL kW;generalize l.J (λp=>decide (p.1=s))=M;induction M with
 |nil=>rfl
 |cons p M j=>
  rw[a8,a8,gr,<-j];ext oZ lO;grind
theorem Zo(l:cI)(s:Nat):jx l s=(l.M (·.1)).count s:=by
 ext jx;induction l with
 |nil=>rfl
 |cons p l j=>
  rw[a8,List.count_cons];by_cases h:p.1=s
  .rw[B7 (À h),dh,j];simp[h]
  .rw[B8 (À h),j];simp[h]
theorem aod(G:Nat)(h:Nat->Nat->Int)(D:LN):∀(f:Nat->Int),sN G ((List.range G).M f) (D.M λs=>(s,(List.range G).M (h s)))=(List.range G).M λg=>f g-(D.M λs=>cV (h s g)).sum:=by
 induction D with
 |nil=>exact @λf=>qt λg _=>by rw[mO,List.sum_nil];symm
 |cons s D q=>
  intro f;let e:zl G ((List.range G).M f) ((List.range G).M (h s))=(List.range G).M λg=>f g-cV (h s g):=by
   ext zl;exact qt λg j=>by rw[Za f j,Za _ j]
  rw[a8];show sN G (zl G ((List.range G).M f) ((List.range G).M (h s))) _=_;rw[e,q];exact qt λg _=>by rw[a8,gr];af
abbrev jY(ms:aJ):LN:=ms.M λm=>m.copies.toNat
theorem IM{ms:aJ}(hc:∀m∈ms,0<=m.copies)(s:Nat):uv ms s=bh (jY ms) s:=by
 ext uv bh jY;cases e:ms[s]? with
 |none=>
  rw[ik,ik,bA,e];rfl
 |some m=>
  rw[ik,ik,bA,e];let:=hc m (bo e);show m.copies=((m.copies.toNat:Nat):Int)
  af
theorem aoe(hc:∀m∈ms,0<=m.copies)(sames:LN)(g:Nat):sM ms sames g=jy sames.L ć Ő g:=by
 ext sM p9 jy;generalize List.range sames.L=M;induction M with
 |nil=>rfl
 |cons b M j=>
  let e:=IM hc į;delta uv at e;rw[a8,gr,<-j];by_cases h:zi g b=true
  .rw[B7 h,a8,gr,ai (by rw[<-zy];exact h),e]
  .rw[B8 h,ah (by rw[<-zy];exact h),R4]
def P5(rows j:bg):(og rows j).flatten=fu rows j:=by
 rfl
def o9(ms:aJ)(rows:bg):LN:=(jV ms rows.flatten).M (·.1)
def P6(ms:aJ)(rows:bg):(fu rows ŏ).M (·.1)=rows.flatten:=XD rows ŏ (XE ms rows) (Pd ms rows)
def aof(h:p∈jV ms flat):p.2=(flat.count p.1:Int)-uv ms p.1:=by
 delta jV at h;let(q,j,e):=JA.mp h;delta qd at e;split at e
 .let e:=(aU e).symm;subst e;let z:=AF (HG flat) j;let h2:=WY flat q.1;symm
 .cases e
def aog(hc:∀m∈ms,0<=m.copies)(h:s∉(jV ms flat).M (·.1)):(flat.count s:Int)<=uv ms s:=by
 by_cases hs:flat.Y s=true
 .let j:=WZ flat s;rw[hs] at j;let(n,F):=JC.mp j;let h2:=WY flat s;rw[F] at h2;let h2:=h2;let J:(s,n)∈gY flat:=by
   delta cu at F;cases e:(gY flat).find? λp=>decide (p.1=s) with
   |none=>symm
   |some q=>
    grind
  apply Int.not_lt.mp λz=>h ?_;apply bH.mpr ⟨(s,(n:Int)-uv ms s),?_,Á⟩;ext jV;apply JA.mpr ⟨(s,n),J,?_⟩;ext qd;symm
 .let:flat.count s=0:=List.count_eq_zero.mpr (λz=>hs Å);rw[this,IM hc];ext bh;symm
def P7(hc:∀m∈ms,0<=m.copies)(rows:bg):qh ms rows=gi (bj ms).L Ès Ő ü Ż:=by
 let q:Ew ms rows=(o9 ms rows).M λs=>(s,(List.range (2^(bj ms).L)).M (bw Ő ü s)):=by
  ext Ew oW o9;rw[ck];apply iU;intro p z;congr 1;ext HK;apply qt λg _=>?_;rw[W5,aoc,aof z,IM hc];ext bw;rw[Zo,P6]
 ext qh;rw[q];ext gi;congr 1;let j:(List.range (2^(bj ms).L)).M (sM ms ı)=(List.range (2^(bj ms).L)).M (jy (bj ms).L Ès Ő):=qt λg _=>aoe hc _ g;rw[j,aod];rfl
end HD
namespace HD
open PySem L2 JM
def IP{L:Flags.Locker}{ms:aJ}(hk:L.kinds=ms.M bO){i:Nat}(hi:i<ms.L):L.kinds[i]? =Α (bO ϛ):=by
 symm
def Zp{L:Flags.Locker}{ms:aJ}(hk:L.kinds=ms.M bO){i:Nat}(hi:i<ms.L):(L.kinds[i]?).M Flags.Kind.role=Α (rg ϛ):=by
 rw[IP hk hi];rfl
def P8{L:Flags.Locker}{ms:aJ}(hk:L.kinds=ms.M bO):L.sameKinds=bj ms:=by
 ext Flags.Locker.sameKinds bj;let z:L.kinds.L=ms.L:=by rw[hk,ao]
 rw[z];apply JX;intro i hi;let hi:i<ms.L:=À hi
 rw[Zp hk hi];ext rg;by_cases q:(ms.D i eX).role=0
 .rw[ai q,q];rfl
 .rw[ah q];by_cases j:(ms.D i eX).role=1
  .rw[ai j,j];rfl
  .rw[ah j,gD j]
def aoh{L:Flags.Locker}{ms:aJ}(hk:L.kinds=ms.M bO){s:Nat}(hs:s∈bj ms):L.points s=(mv ms s).toNat:=by
 delta bj at hs;let(j,h2):=iA.mp hs;simp at j;let h2:(ms.D s eX).role=1:=À h2
 ext Flags.Locker.points;rw[Zp hk j];ext rg;rw[ah Ù,ai h2];rfl
theorem aoi(P:Nat->Bool)(l:LN):l.J P=((List.range l.L).J λb=>P (l.D b 0)).M λb=>l.D b 0:=by
 induction l with
 |nil=>exact Á
 |cons x l j=>
  let j:=j;rw[dh,zX,rL,rL,wJ];let e:((λb=>P ((x::l).D b 0))∘Nat.succ)=λb=>P (l.D b 0):=rfl;rw[e];by_cases h:P x=true
  .rw[ai h,ai (show P ((x::l).D 0 0)=true from h),a8,ck,j];rfl
  .rw[ah h,ah (show ¬P ((x::l).D 0 0)=true from h),ck,j];rfl
def Zq(ms:aJ)(sames row:LN)(i:Nat):uu ms sames row i=wq (Bf ms sames row i) sames.L:=rfl
def aoj{L:Flags.Locker}{ms:aJ}(hk:L.kinds=ms.M bO)(mo:xQ ms)(row:LN)(i:Nat):
  dJ ı (row.D i 0,uu ms ı row i)=⟨row.D i 0,L.sameKinds.J λ(f:Nat)=>decide (L.points f<=i)&&row.D (L.points f-1) 0==row.D i 0⟩:=by
 ext dJ;dsimp only;congr 1;rw[P8 hk,aoi];congr 1;ext qg;apply JX;intro b j;let j:b<(bj ms).L:=À j
 let q:(bj ms).D b 0∈bj ms:=by
  rw[ik,cJ j];exact List.getElem_mem j
 rw[zy,Zq,Y6,eQ j,nu,aoh hk q];let F:=mo.pos _ q;ext Bf;let z:decide (mv ms ((bj ms).D b 0)<=(i:Int))=decide ((mv ms ((bj ms).D b 0)).toNat<=i):=by
  rw[JV];simp
 rw[z,Bool.beq_eq_decide_eq]
theorem Zr{L:Flags.Locker}{ms:aJ}(hk:L.kinds=ms.M bO)(mo:xQ ms):∀rows:bg,L.spots rows=(fu rows ŏ).M (dJ ı):=by
 intro rows;induction rows with
 |nil=>exact Á
 |cons r rows j=>
  let j:=j;delta Flags.Locker.spots fu gC at j⊢;rw[z8,j,a8,zV,z8,bI];congr 1;ext rl;let e:r=(List.range r.L).M λi=>r.D i 0:=by
   let:=vV (l:=r) (g:=λx=>x) (d:=0);rw[abx] at this;exact this.symm
  let q:r.zip ((List.range r.L).M (uu ms ı r))=(List.range r.L).M λi=>(r.D i 0,uu ms ı r i):=by
   apply ym;intro i;by_cases hi:i<r.L
   .rw[bA,RX hi,JU.mpr (show r[i]? =Α (r.D i 0,uu ms ı r i).1/\((List.range r.L).M (uu ms ı r))[i]? =Α (r.D i 0,uu ms ı r i).2 from Ϧ)]
    .rfl
    .rw[ik,cJ hi];rfl
    .rw[bA,RX hi];rfl
   .rw[yl (by rw[List.length_zip];grind),yl (by rw[ao,il];af)]
  rw[q,ck];apply iU;intro i _;exact(aoj hk mo r i).symm
def Zs(ms:aJ):(bj ms).Nodup:=List.Nodup.sublist abF R8
structure uP(ms:aJ):Prop where
 mo:xQ ms
 cp:∀m∈ms,0<=m.copies
def xY(ms:aJ)(rows:bg):Prop:=∀r∈rows,∀s∈r,kO ms s=true
def Zt(h:kO ms s=true):s∉bj ms:=λz=>by
 delta bj at z;let z:(ms.D s eX).role=1:=by simpa using (iA.mp z).2
 let h:(ms.D s eX).role=0:=by delta kO at h;simpa using h
 af
def Zu(ms:aJ)(rows:bg):∀p∈fu rows ŏ,p.2<2^(bj ms).L:=λp j=>by
 delta fu gC at j;let(q,J,j):=jh.mp j;let F:=(JB J).2;let(r,_,e):=bH.mp F;let h2:=(JB j).2;rw[<-e] at h2;delta rl at h2;let(i,_,z):=bH.mp h2;rw[<-z,Zq];exact PY _ _
def Zv(g:uP ms)(rows:bg):zA Ő ü Ż:=λs hs=>by
 rw[Zo,P6,<-IM g.cp];exact aog g.cp hs
def aok(g:uP ms)(sg:xY ms rows)(h:∀q,q<2^(bj ms).L->0<=d8 (bj ms).L Ès Ő ü Ż q):o8 ı (jY ms) ü Ż:=by
 let O:∀b,b<(bj ms).L->cO ı b∈bj ms:=λb j=>by
  symm
 let z:∀s∈rows.flatten,kO ms s=true:=λs hs=>by
  let(r,hr,hs):=R3.mp hs;exact sg r hr s hs
 apply(Pe _ _,Zv g rows,Zu ms rows,λp J b j e=>?_,λb j hz=>?_,h)
 .let F:p.1∈rows.flatten:=by rw[<-P6 ms rows];exact bH.mpr ⟨p,J,Á⟩
  exact Zt (z _ F) (e▸ O b j)
 .delta o9 at hz;let(q,M,e):=bH.mp hz;exact Zt (z _ (XF M)) Å
def IQ{L:Flags.Locker}{ms:aJ}(hk:L.kinds=ms.M bO)(g:uP ms)(rows:bg):L.enough L.allCopies (L.spots rows)=true↔ ∀q,q<2^(bj ms).L->0<=d8 (bj ms).L Ès Ő ü Ż q:=by
 rw[Zr hk g.mo,show L.allCopies=jY ms by ext Flags.Locker.allCopies jY;rw[hk,ck];rfl];exact Y9 (P8 hk) (Zs ms) _ _ (Zu ms rows) (Pe _ _) (Zv g rows)
def Zw(g:uP ms)(rows:bg):(qh ms rows).2.any (λz=>decide (z<0))=false↔ ∀q,q<2^(bj ms).L->0<=d8 (bj ms).L Ès Ő ü Ż q:=by
 rw[P7 g.cp];let:=EG (d8 (bj ms).L Ès Ő ü Ż) (2^(bj ms).L);rw[<-this];ext oX gi;simp
def P9{L:Flags.Locker}{ms:aJ}(hk:L.kinds=ms.M bO)(g:uP ms){rows:bg}(sg:xY ms rows):o5 ms rows=Α (if L.canShowAll rows=true then some (L.displayed rows) else none):=by
 let Y:(∀q,q<2^(bj ms).L->0<=d8 (bj ms).L Ès Ő ü Ż q)->∃x,oa ı Çc Äc=Α x/\x.1.M List.length=rows.M List.length/\L.displayed rows=x.1:=λh=>by
  let c:=aok g sg h;rw[<-P5] at c;let(x,j,F):=aoa (L:=L) (P8 hk) (Zs ms) Äc (jY ms) c;rw[P5,<-P7 g.cp] at j;rw[P5,<-Zr hk g.mo] at F;let J:x.1.M List.length=rows.M List.length:=by
   rw[Yv _ _ _ _ j];ext og gC;rw[ck];apply ym;intro i;rw[bA,bA,abz,bA];cases er:rows[i]? with
   |none=>symm
   |some r=>
    rw[JU.mpr (show rows[i]? =Α (r,r).1/\rows[i]? =Α (r,r).2 from⟨er,er⟩)];ext rl;simp
  apply(x,j,J,?_);let ee:=(IQ hk g rows).mpr h;ext Flags.Locker.displayed Flags.Locker.display;rw[ai ee,show L.allCopies=jY ms by ext Flags.Locker.allCopies jY;rw[hk,ck];rfl,F,<-J];exact aob x.1
 let O:L.canShowAll rows=L.enough L.allCopies (L.spots rows):=rfl;ext o5;by_cases J:jV ms rows.flatten=[]
 .rw[ai J];let U:o9 ms rows=[]:=by ext o9;rw[J];rfl
  let h:∀q,q<2^(bj ms).L->0<=d8 (bj ms).L Ès Ő ü Ż q:=λq _=>by
   rw[U];ext d8 je jy;rw[mO,List.sum_nil,Int.sub_zero];generalize List.range (bj ms).L=M;induction M with
   |nil=>simp
   |cons b M Z=>
    rw[a8,gr];let:(0:Int)<=if q.testBit b=true then bh (jY ms) (cO ı b) else 0:=by
     ext bh
     af
    omega
  let(x,j,_,F):=Y h;let en:oa ı Çc Äc=Α ((og rows ŏ).M (λp=>p.M (·.1)),qh ms rows):=by
   let h1:∀(l:cI)(st:iE),st.1=[]->o4 ı st l=Α (l.M (·.1),st):=by
    intro l;induction l with
    |nil=>intro st _;rfl
    |cons p l Z=>
     intro st rV;ext o4 oY;rw[rV,show cu ([]:List (Nat×LI)) p.1=Β from rfl];grind
   let h2:∀(ps:List cI)(st:iE),st.1=[]->oa ı st ps=Α (ps.M (λp=>p.M (·.1)),st):=by
    intro ps;induction ps with
    |nil=>intro st _;rfl
    |cons p ps Z=>
     intro st rV;ext oa;grind
   apply h2 _ _ ?_;rw[P7 g.cp,U];rfl
  let ex:x.1=rows:=by
   rw[en] at j;rw[<-aU j];ext og gC;rw[ck];apply ym;intro i;rw[bA,abz,bA];cases er:rows[i]? with
   |none=>symm
   |some r=>
    rw[JU.mpr (show rows[i]? =Α (r,r).1/\rows[i]? =Α (r,r).2 from⟨er,er⟩)];show some ((r.zip (rl ms ı r)).M (·.1))=Α r;rw[List.map_fst_zip (by ext rl;rw[ao,il];exact bC _)]
  rw[O,ai ((IQ hk g rows).mpr h),F,ex]
 .rw[ah J];by_cases W:(qh ms rows).2.any (λz=>decide (z<0))=true
  .rw[ai W,O,ah (λz=>?_)];let:=(Zw g rows).mpr ((IQ hk g rows).mp z);symm
  .rw[ah W];let h:=(Zw g rows).mp Å;let(x,j,_,F):=Y h;rw[j,O,ai ((IQ hk g rows).mpr h),F];rfl
structure sW(ms:aJ):Prop where
 kv:∀m∈ms,Kv m
 pw:ms.Pairwise λp x=>iZ p x=true
 nm:(ms.J isSign).Pairwise λa b=>a.name≠b.name
def IR(q:br t)(h:gO t=Α x):sW x.2:=by
 delta gO at h;split at h
 .rename_i l r e;cases e1:fO (codes "locker") l with
  |none=>rw[e1,DQ] at h;cases h
  |some n=>
   cases e2:hZ r with
   |none=>rw[e2,DP] at h;cases h
   |some ms=>
    rw[e1,e2] at h;let h:(if (oO ms&&pZ ms)=true then some (n,ms) else none)=Α x:=h;split at h
    .rename_i j;let:=aU h;subst this;let hr:=λw z=>by
      delta kI at e;split at e
      .let e:=aU e;let:w∈(aO 10 t).dropLast:=by rw[e];exact aL _ z
       exact qT 10 q w (B3 _ this)
      .symm
     let kv:=Oq hr e2;let(j,hd):=tF.mp j;apply(kv,?_,?_)
     .delta oO at j;split at j
      .symm
      .exact(Os kv).mp j
     .delta pZ at hd;let(hd,_):=tF.mp hd;simp at hd;let:=Ot.mp hd;rw[JT] at this;apply this.imp λ{a b}F e=>?_;rw[Ou,eQ e] at F;symm
    .symm
 .cases h
theorem Zx:∀{l:LI}{lo hi:Int},l.Pairwise (· < ·)->(∀x∈l,lo<=x/\x<=hi)->l≠[]->(l.L:Int)<=hi-lo+1
 |[],_,_,_,_,h=>absurd rfl h
 |[x],lo,hi,_,h,_=>by
  let:=h x Ä;simp only[abG]
  af
 |x::y::l,lo,hi,pw,h,_=>by
  let(j,h2):=JS.mp pw;let q:=h x Ä;let:=Zx (l:=y::l) (lo:=x+1) (hi:=hi) h2 (λz hz=>⟨by let:=j z hz;assumption,(h z (aL _ hz)).2⟩) Ä;rw[dh]
  af
def aol{ms:aJ}(f:sW ms):(bj ms).L<=4:=by
 by_cases O:bj ms=[]
 .rw[O];decide
 let F:∀i∈bj ms,i<ms.L/\(ms.D i eX).role=1:=λi hi=>by
  delta bj at hi;let(h1,h2):=iA.mp hi;exact(À h1,À h2)
 let M:∀i,i<ms.L->ms[i]? =Α ϛ:=λi hi=>by
  rw[ik,cJ hi];rfl
 let J:=λi hi=>bo (M i hi);let Z:(bj ms).Pairwise (· < ·):=by
  ext bj;exact List.Pairwise.sublist abF aud
 let hw:((bj ms).M (mv ms)).Pairwise (· < ·):=by
  rw[JT];apply List.Pairwise.imp_of_mem (λ{i j}hi hj Y=>?_) Z;let(q,U):=F i hi;let(W,j2):=F j hj;let hf:=(pw_place.mp f.pw) j _ (M j W) ϛ (by
   apply bo (i:=i) ?_;rw[aa5 Y,M i q])
  let:=(xI (f.kv _ (J i q)) (f.kv _ (J j W)) j2).mp hf;ext mv;rcases this with h|h
  .af
  .exact h.2
 let:=Zx (lo:=1) (hi:=4) hw (λz hz=>by
  let(i,hi,rfl):=bH.mp hz;let(q,U):=F i hi;exact(f.kv _ (J i q)).DV U) (À O)
 rw[ao] at this
 af
def EH(f:sW ms):uP ms:=by
 apply(⟨by let:=aol f;af,λs hs=>?_⟩,λm j=>by let:=(f.kv m j).cp;af);delta bj at hs;let(q,h2):=iA.mp hs;simp at q;simp at h2;let j:ms.D s eX∈ms:=by
  symm
 exact((f.kv _ j).DV h2).1
def aom(j:br t)(h:gO t=Α x):IB x.2:=by
 let f:=IR j h;let g:=EH f;apply(λk hk=>(f.kv k hk).lk,g.mo,λrows sg=>?_);rw[P9 (L:=⟨[],x.2.M bO⟩) rfl g sg];simp
def Zy(x:Str)(s:String)(F:br ũ)(hs:(codes x).M B=Flags.ascii s)(h:br l):Flags.wordName (Flags.ascii s) Ľ=(fO ũ l).M λn=>n.M B:=by
 ext Flags.wordName fO;rw[show Flags.cutAt 32 Ľ=(aO 32 l).M ë from yS 32 Ð l h];let j:=qT 32 (l:=l) h;generalize aO 32 l=W at j
 match W,j with
 |[],_=>rfl
 |[a],_=>rfl
 |[a,b],j=>
  let q:a.M B=Flags.ascii s↔a=codes x:=by
   rw[<-hs];exact(λe=>xu (j a Ä) F e,λe=>by rw[e])
  show(if a.M B=Flags.ascii s/\Flags.isName Ϟ=true then some Ϟ else none)=Option.map _ (if a=codes x/\iX b=true then some b else none);rw[Hr (j b Ä)];by_cases c:a=codes x/\iX b=true
  .rw[ai c,ai ⟨q.mpr c.1,c.2⟩];rfl
  .rw[ah c,ah (λz:_/\_=>c ⟨q.mp z.1,z.2⟩)];rfl
 |a::b::c::r,_=>rfl
def wF(l:LI):Bool:=!(aO 32 l).Y []
def wG(l:LI):Bool:=!((aO 32 l).drop 1).Y []
def Zz(x:Int)(r:LI):wF (x::r)=(decide (x≠32)&&wG r):=by
 ext wF wG;show(!(if x=32 then []::aO 32 r else match aO 32 r with|[]=>[[x]]|w::l=>(x::w)::l).Y [])=_;by_cases h:x=32
 .rw[ai h,gD (λz=>z h),mJ];simp
 .rw[ah h,eQ h,nu];cases e:aO 32 r with
  |nil=>exact absurd e (m6 32 r)
  |cons w l=>
   simp
def aon(y:Int)(r:LI):wG (y::r)=if y=32 then wF r else wG r:=by
 ext wF wG;show(!((if y=32 then []::aO 32 r else match aO 32 r with|[]=>[[y]]|w::l=>(y::w)::l).drop 1).Y [])=_;by_cases h:y=32
 .rw[ai h,ai h];rfl
 .rw[ah h,ah h];cases e:aO 32 r with
  |nil=>exact absurd e (m6 32 r)
  |cons w l=>rfl
def kB(l:List UInt8):Bool:=l.getLast? !=Α 32&&Flags.noTwoBlanks l
def EI(h:0<=x/\x<=255):(B x==32)=decide (x=32):=by
 let:=DS (p:=λx=>decide ((B x==32)=decide (x=32))) É h;symm
def ZA(x y:Int)(j:0<=x/\x<=255)(q:0<=y/\y<=255)(r:List UInt8):kB (B x::B y::r)=(!(decide (x=32)&&decide (y=32))&&kB (B y::r)):=by
 ext kB;rw[show Flags.noTwoBlanks (B x::B y::r)=(!(B x==32&&B y==32)&&Flags.noTwoBlanks (B y::r)) from rfl,EI j,EI q,List.getLast?_cons_cons];cases (decide (x=32)&&decide (y=32)) <;> cases ((B y::r).getLast? !=Α 32) <;> simp
def ZC(x:Int)(j:0<=x/\x<=255):kB [B x]=decide (x≠32):=by
 ext kB;rw[show Flags.noTwoBlanks [B x]=true from rfl,RY];let:=EI j;show(some (B x)!=Α 32)=_;by_cases h:x=32
 .rw[h];decide
 .rw[eQ h];rw[gD h] at this;let h2:B x≠32:=by simpa using this
  simpa using h2
theorem Qb:∀(n:Nat)(r:LI)(x:Int),r.L<=n->br (x::r)->x≠32->kB ((x::r).M B)=wG r
 |_,[],x,_,h,hx=>by
  rw[a8,mO,ZC x (h x Ä),eQ hx];rfl
 |0,y::r,x,hl,_,_=>absurd hl Ä
 |n+1,y::r,x,hl,h,hx=>by
  let F:=h x Ä;let q:=h y Ä;simp at hl;rw[a8,a8,ZA x y F q,gD hx,mJ,aon];by_cases j:y=32
  .rw[ai j];cases r with
   |nil=>
    rw[mO,ZC y q,gD (λz=>z j)];rfl
   |cons z r=>
    let J:=h z Ä;rw[a8,ZA y z q J,eQ j,nu,Zz];by_cases hz:z=32
    .rw[eQ hz,gD (λw=>w hz)];rfl
    .rw[gD hz,eQ hz,nu];exact Qb n r z (by simp only[dh] at hl;af) (λw M=>h w (aL _ (aL _ M))) hz
  .rw[ah j];exact Qb n r y hl (λw M=>h w (aL _ M)) j
def aoq{l:LI}(h:br l):Flags.isMeaning Ľ=uG l:=by
 let Y:uG l=(!(decide (l.L>64)||(aO 32 l).Y [])&&l.all λb=>decide (32<=b)&&decide (b<=126)):=rfl;let Z:(aO 32 l).Y []=!wF l:=by ext wF;rw[R9]
 rw[Y,Z];ext Flags.isMeaning;rw[ao,rJ];let W:l.all ((λ(c:UInt8)=>decide (32<=c.toNat)&&decide (c.toNat<=126))∘B)=l.all λb=>decide (32<=b)&&decide (b<=126):=LO h λx q=>by
  let:=DS (p:=λx=>decide ((decide (32<=(B x).toNat)&&decide ((B x).toNat<=126))=(decide (32<=x)&&decide (x<=126)))) É q;simpa using this
 rw[W];cases l with
 |nil=>rfl
 |cons x r=>
  rw[Zz];let hk:(((x::r).M B).head? !=Α 32)=decide (x≠32):=by
   let:=EI (h x Ä);show(some (B x)!=Α 32)=_;by_cases q:x=32
   .rw[q];decide
   .rw[eQ q];rw[gD q] at this;let h2:B x≠32:=by simpa using this
    simpa using h2
  let O:decide (1<=(x::r).L)=true:=eQ Ä;let U:decide ((x::r).L>64)=!decide ((x::r).L<=64):=by
   generalize (x::r).L=n;by_cases z:n<=64
   .rw[eQ z,gD Å];rfl
   .rw[gD z,eQ Å];rfl
  rw[hk,O,U,nu];let j:decide (x≠32)=true->kB ((x::r).M B)=wG r:=λq=>Qb r.L r x (bC _) h (mQ q);delta kB at j;generalize (((x::r).M B).getLast? !=Α 32)=F at j⊢;generalize Flags.noTwoBlanks ((x::r).M B)=p2 at j⊢;generalize (x::r).all (λb=>decide (32<=b)&&decide (b<=126))=J;generalize decide ((x::r).L<=64)=M;generalize wG r=p5 at j⊢;generalize decide (x≠32)=p6 at j⊢;cases p6
  .cases F <;> cases p2 <;> cases J <;> cases M <;> cases p5 <;> rfl
  .let j:=j rfl;subst j;cases F <;> cases p2 <;> cases J <;> cases M <;> rfl
def aor(h:iY line=Α m)(j:m.role=0):iX m.name=true:=by
 delta iY pX at h;generalize aO 32 line=ws at h;split at h
 .cases h
 .rename_i r z;by_cases q:ws.L=(if r=2 then 4 else 5)
  .rw[ai q] at h;cases e1:nc r Ŗ with
   |none=>rw[e1,Hf] at h;cases h
   |some n=>
    cases e2:sC r Ŗ with
    |none=>rw[e2,Hg] at h;cases h
    |some W=>
     cases e3:iM (ws.D (ws.L-3) []) 8 with
     |none=>rw[e3,Ob] at h;cases h
     |some c=>
      cases e4:bW Ć (ws.D (ws.L-2) []) with
      |none=>rw[e4,Hh] at h;cases h
      |some sh=>
       cases e5:iG (ws.D (ws.L-1) []) with
       |none=>rw[e5,Hi] at h;cases h
       |some lk=>
        rw[e1,e2,e3,e4,e5] at h;let:=aU h;subst this;let j:=j;delta nc at e1;grind
  .symm
theorem aos{r:dQ}:∀{ms:aJ},hZ r=Α ms->∀m∈ms,m.role=0->iX m.name=true:=by
 induction r with
 |nil=>
  intro ms h m j;let:=aU h;subst this;exact absurd j Ä
 |cons l r q=>
  intro ms h m j;delta hZ at h;cases e1:iY l with
  |none=>rw[e1] at h;cases hZ r <;> cases h
  |some k=>
   rw[e1] at h;cases e2:hZ r with
   |none=>rw[e2] at h;cases h
   |some ks=>
    rw[e2] at h;let:=aU h;subst this;rcases a9.mp j with rfl|j
    .exact aor e1
    .exact q e2 m j
def aot{t:LI}{x:LI×aJ}(h:gO t=Α x):∀m∈x.2,m.role=0->iX m.name=true:=by
 delta gO at h;split at h
 .rename_i l r e;cases e1:fO (codes "locker") l with
  |none=>rw[e1,DQ] at h;cases h
  |some n=>
   cases e2:hZ r with
   |none=>rw[e2,DP] at h;cases h
   |some ms=>
    rw[e1,e2] at h;let h:(if (oO ms&&pZ ms)=true then some (n,ms) else none)=Α x:=h;split at h
    .let:=aU h;subst this;exact aos e2
    .symm
 .cases h
def qv(name:LI)(m:ir):Bool:=decide (m.role=0)&&decide (m.name=name)
def aou{L:Flags.Locker}{ms:aJ}(hk:L.kinds=ms.M bO)(f:sW ms){name:LI}(J:br name):L.find Äd=ms.findIdx? (qv name):=by
 ext Flags.Locker.find;rw[hk,List.findIdx?_map];let:∀l:aJ,(∀m∈l,Kv m)->l.findIdx? ((λ(k:Flags.Kind)=>k.role== .sign Äd)∘bO)=l.findIdx? (qv name):=by
  intro l;induction l with
  |nil=>intro _;rfl
  |cons m l O=>
   intro kv;let km:=kv m Ä;let e:((λ(k:Flags.Kind)=>k.role== .sign Äd)∘bO) m=qv name m:=by
    show((bO m).role== .sign Äd)=_;ext qv;by_cases j:m.role=0
    .rw[zb j,eQ j,nu];by_cases q:m.name=name
     .rw[q,eQ rfl];simp
     .rw[gD q];let:m.name.M B≠name.M B:=λz=>q (xu km.nm J z);simpa using this
    .rw[gD j,mJ];by_cases F:m.role=1
     .rw[A6 F];rfl
     .let:=km.role;rw[Hu km Ù];rfl
   rw[abn,abn,e,O λx M=>kv x (aL _ M)]
 exact this ms f.kv
theorem aov(name:LI)(l:List (LI×Nat)):∀(acc:Option Nat),(∀p∈l,p.1≠name)->l.foldl (λacc p=>if p.1=name then some p.2 else acc) acc=acc:=by
 induction l with
 |nil=>exact @λacc _=>Á
 |cons p l z=>
  intro acc h;rw[Fv,ah (h p Ä)];exact z acc λq j=>h q (aL _ j)
theorem aow(name:LI)(k:Nat)(l:List (LI×Nat)):∀(acc:Option Nat),(∀p∈l,p.1=name->p.2=k)->((∃p∈l,p.1=name)\/acc=Α k)->l.foldl (λacc p=>if p.1=name then some p.2 else acc) acc=Α k:=by
 induction l with
 |nil=>exact @λacc _ h=>h.elim (λ⟨p,j,_⟩=>absurd j Ä) id
 |cons p l J=>
  intro acc F h2;rw[Fv];apply J _ (λq z=>F q (aL _ z)) ?_;by_cases j:p.1=name
  .rw[ai j,F p Ä j];exact Or.inr Á
  .rw[ah j];rcases h2 with ⟨q,z,e⟩|h2
   .rcases a9.mp z with rfl|z
    .exact absurd e j
    .exact Or.inl ⟨q,z,e⟩
   .exact Or.inr h2
def ZD(f:sW ms)(name:LI):kU ms name=ms.findIdx? (qv name):=by
 let U:∀i,i<ms.L->ms[i]? =Α ϛ:=λi hi=>by
  rw[ik,cJ hi];rfl
 let O:∀p,p∈uH ms ms.L↔ ∃j,j<ms.L/\(ms.D j eX).role=0/\p=((ms.D j eX).name,j):=λp=>by
  ext uH kO;simp only[bH,iA,u9,lZ];exact(λ⟨j,⟨q,h2⟩,e⟩=>⟨j,q,h2,e.symm⟩,λ⟨j,q,h2,e⟩=>⟨j,⟨q,h2⟩,e.symm⟩)
 let Z:∀i j,i<j->j<ms.L->qv name ϛ=true->qv name (ms.D j eX)=true->False:=λi j Bi F q h2=>by
  let J:=at1.mp f.nm;let:=(pw_place.mp J) j _ (U j F) ϛ (by
   apply bo (i:=i) ?_;rw[aa5 Bi,U i Ù])
  delta qv at q h2;let(a1,a2):=tF.mp q;let(b1,b2):=tF.mp h2;exact this a1 b1 ((mQ a2).R (mQ b2).symm)
 ext kU;cases e:ms.findIdx? (qv name) with
 |none=>
  rw[List.findIdx?_eq_none_iff] at e;apply aov name _ none λp J z=>?_;let(j,F,M,rfl):=(O p).mp J;let:=e _ (bo (U j F));delta qv at this;rw[eQ M,eQ z] at this;cases this
 |some k=>
  let(hk,q,_):=RV.mp e;let W:qv name (ms.D k eX)=true:=by
   rw[ik,cJ hk];exact q
  let ui:=tF.mp W;apply aow name k _ none (λp J z=>?_) (Or.inl ⟨((ms.D k eX).name,k),(O _).mpr ⟨k,hk,mQ ui.1,Á⟩,mQ ui.2⟩);let(j,F,M,rfl):=(O p).mp J;let Y:qv name (ms.D j eX)=true:=by
   ext qv;rw[eQ M,eQ z];rfl
  rcases abH j k with h|h|h
  .exact(Z j k h hk Y W).elim
  .exact h
  .exact(Z k j h F W Y).elim
def aox{L:Flags.Locker}{ms:aJ}(hk:L.kinds=ms.M bO)(f:sW ms){name:LI}(j:br name):L.find Äd=kU ms name:=(aou hk f j).R (ZD f name).symm
def aoy{ms:aJ}(f:sW ms)(q:∀m∈ms,m.role=0->iX m.name=true){name:LI}{k:Nat}(h:kU ms name=Α k):iX name=true:=by
 rw[ZD f] at h;let(hk,j,_):=RV.mp h;let j:=tF.mp j;let:=q _ (List.getElem_mem hk) (mQ j.1);rw[mQ j.2] at this;exact this
theorem aoz{l:LI}:br l->Flags.partAt 32 Ľ=if l.Y 32=true then some ((l.take (l.idxOf 32)).M B,(l.drop (l.idxOf 32+1)).M B) else none:=by
 induction l with
 |nil=>exact @λ_=>Á
 |cons x r q=>
  intro h;let q:=q λw M=>h w (aL _ M);let j:=EI (h x Ä);rw[a8];ext Flags.partAt;rw[List.idxOf_cons,BR];by_cases e:x=32
  .rw[ai (by rw[eQ e] at j;simpa using j),ai (by rw[e];rfl)];subst e;rfl
  .let J:¬B x=32:=by rw[gD e] at j;simpa using j
   let z:(x==32)=false:=À e
   let F:((32:Int)==x)=false:=by simpa using eF e
   rw[ah J,q,z,F,RL];by_cases hc:r.Y 32=true
   .rw[ai hc,ai hc];rfl
   .rw[ah hc,ah hc];rfl
theorem aoA{L:Flags.Locker}{ms:aJ}(hk:L.kinds=ms.M bO)(f:sW ms){ps:dQ}:(∀p∈ps,br p)->L.rowIn (ps.M ë)=if (ps.M (kU ms)).Y none=true then none else some ((ps.M (kU ms)).M λo=>o.D 0):=by
 induction ps with
 |nil=>exact @λ_=>Á
 |cons p ps j=>
  intro h;let j:=j λq F=>h q (aL _ F);delta Flags.Locker.rowIn at j⊢;rw[a8,JO,aox hk f (h p Ä),j,a8,BR];cases e:kU ms p with
  |none=>rfl
  |some k=>
   let z:((none:Option Nat)==Α k)=false:=rfl;rw[z,RL];by_cases hc:(ps.M (kU ms)).Y none=true
   .rw[ai hc,ai hc];rfl
   .rw[ah hc,ah hc];rfl
def entry_eq{L:Flags.Locker}{ms:aJ}(hk:L.kinds=ms.M bO)(f:sW ms)(hn:∀m∈ms,m.role=0->iX m.name=true){w:LI}(O:br w):
  ((Flags.entryIn Ĳ).bind λx=>(L.rowIn x.1).M λr=>(r,x.2))=(iQ ms w).M λe=>(e.1,e.2.M B):=by
 ext Flags.entryIn iQ;rw[aoz O];by_cases hc:w.Y 32=true
 .rw[ai hc,ai hc];let M:br (w.take (w.idxOf 32)):=λx U=>O x (zY U);let Z:br (w.drop (w.idxOf 32+1)):=λx U=>O x (abj U);generalize w.take (w.idxOf 32)=F at M;generalize w.drop (w.idxOf 32+1)=p2 at Z;rw[Fx];dsimp only;ext Flags.namesIn;rw[show Flags.cutAt 46 (F.M B)=(aO 46 F).M ë from yS 46 Ð F M,aoq Z];let W:=qT 46 (l:=F) M;let q:=aoA hk f W;ext xR ql;rw[ao];generalize aO 46 F=ps at W q;dsimp only;rw[ao];by_cases Y:ps.L<=8
  .by_cases j:(ps.M (kU ms)).Y none=true
   .rw[ai (Or.inr j)];rw[ai j] at q;dsimp only;split
    .rw[Fx];split
     .rw[Fx,q];rfl
     .rfl
    .rfl
   .let jQ:(ps.M ë).all Flags.isName=true:=by
     rw[rJ,jI];intro p hp;show Flags.isName Áq=true;rw[Hr (W p hp)];cases e:kU ms p with
     |none=>exact absurd (by rw[B5];exact bH.mpr ⟨p,hp,e⟩) j
     |some k=>exact aoy f hn e
    rw[ai (show ps.L<=Flags.LONG/\(ps.M ë).all Flags.isName=true from⟨Y,jQ⟩),ah (λz:ps.L>8\/(ps.M (kU ms)).Y none=true=>z.elim (λy=>by af) j),Fx];rw[ah j] at q;dsimp only;by_cases J:uG p2=true
    .rw[ai J,ai J,Fx,q];rfl
    .rw[ah J,ah J];rfl
  .rw[ah (λz:ps.L<=Flags.LONG/\(ps.M ë).all Flags.isName=true=>Y z.1),ai (show ps.L>8\/(ps.M (kU ms)).Y none=true from Or.inl Å)];rfl
 .rw[ah hc,ah hc];rfl
theorem ZF:∀r s:LN,r.L=s.L->HT.lexLt (nv r) (nv s)=Flags.before r s
 |[],[],_=>rfl
 |[],_::_,h=>by simp at h
 |_::_,[],h=>by simp at h
 |x::r,y::s,h=>by
  let j:=ZF r s (À h);show HT.lexLt (((x:Nat):Int)::nv r) (((y:Nat):Int)::nv s)=(decide (x<y)||(x==y&&Flags.before r s));rw[HT.vz,j];by_cases e:x=y
  .subst e;rw[ai rfl,gD Å];simp
  .rw[ah Ù,show(x==y)=false by simpa using e,mJ,abg,JV];symm
def aoB(r s:LN):wg r s=Flags.rowBefore r s:=by
 ext wg Flags.rowBefore;by_cases e:r.L=s.L
 .rw[ai Å,ZF r s e,gD Å,show(r.L==s.L)=true by simp_all];simp
 .grind
def aoC{L:Flags.Locker}{ms:aJ}(hk:L.kinds=ms.M bO)(g:uP ms){row:LN}(sg:∀s∈row,kO ms s=true):lQ ms row=L.canShow row:=by
 ext lQ;rw[P9 hk g (rows:=[row]) (λr hr=>by
  obtain rfl:r=row:=À hr
  exact sg),show L.canShowAll [row]=L.canShow row from rfl]
 cases L.canShow row <;> rfl
abbrev oo:=LN×LI
def ph(e:oo):Flags.Entry:=⟨e.1,e.2.M B⟩
def rE(j:List oo)(e:oo):Bool:=!(j.getLast?.any λp=>!wg p.1 e.1)
def uQ(ms:aJ):List oo->dQ->Option (List oo)
 |past,[]=>some past
 |past,w::r=>match iQ ms w with
  |none=>none
  |some e=>if (lQ ms e.1&&(rE past e&&decide (past.L<2048)))=true then uQ ms (past++[e]) r else none
def aoD{L:Flags.Locker}{ms:aJ}(hk:L.kinds=ms.M bO)(f:sW ms)(hn:∀m∈ms,m.role=0->iX m.name=true)(z:LI)(r:dQ):∀(i:Nat)(past:List oo),(∀w∈r,br w)->
  (∀es,(z=[]/\uQ ms past r=Α es)->L.judgeEntries i Áp ((r++[z]).M ë)=.ok (es.M ph))/\((¬z=[]\/uQ ms past r=Β)->∃e,L.judgeEntries i Áp ((r++[z]).M ë)=.error e):=by
 induction r with
 |nil=>
  intro i past _;let J:L.judgeEntries i Áp ((([]:dQ)++[z]).M ë)=if z.M B=[] then .ok Áp else .error (1,i):=rfl;rw[J];apply(λes h=>?_,λh=>?_)
  .rw[ai (by rw[h.1];rfl),show past=es from aU h.2]
  .rcases h with h|h
   .exact(_,ah (λq=>h (À q)))
   .cases h
 |cons w r ih=>
  intro i past W;let M:=W w Ä;let g:=EH f;obtain⟨y,O,U⟩:∃y O,(r++[z]).M ë=y::O:=by
   cases r with
   |nil=>exact(_,_,Á)
   |cons a b=>exact(_,_,Á)
  let J:L.judgeEntries i Áp (((w::r)++[z]).M ë)=match Flags.entryIn Ĳ with
    |none=>.error (1,i)
    |some (n,m)=>match L.entryRow Áp n with
     |.error k=>.error (k,i)
     |.ok row=>L.judgeEntries (i+1) (past.M ph++[⟨row,m⟩]) ((r++[z]).M ë):=by
   rw[show((w::r)++[z]).M ë=w.M B::y::O from cb (w.M B:: ·) U,U];rfl
  let j:=entry_eq hk f hn M;let eg:uQ ms past (w::r)=match iQ ms w with
   |none=>none
   |some e=>if (lQ ms e.1&&(rE past e&&decide (past.L<2048)))=true then uQ ms (past++[e]) r else none:=rfl
  rw[J,eg];cases e1:Flags.entryIn Ĳ with
  |none=>
   rw[e1] at j;let F:iQ ms w=Β:=by
    cases e:iQ ms w with
    |none=>rfl
    |some x=>rw[e] at j;cases j
   rw[F];exact(λes h=>(by cases h.2),λ_=>⟨_,Á⟩)
  |some x=>
   let(n,m):=x;rw[e1,Fx] at j;dsimp only at j⊢;ext Flags.Locker.entryRow;cases e3:L.rowIn n with
   |none=>
    rw[e3] at j;let F:iQ ms w=Β:=by
     cases e:iQ ms w with
     |none=>rfl
     |some x=>rw[e] at j;cases j
    rw[F];exact(λes h=>(by cases h.2),λ_=>⟨_,Á⟩)
   |some row=>
    rw[e3] at j;cases F:iQ ms w with
    |none=>rw[F] at j;cases j
    |some e=>
     rw[F] at j;let j:=aU j;let xP:=cb Prod.fst j;let Ia:=cb Prod.snd j;subst xP Ia;let lK:=(Pu F).2;let ec:=aoC hk g (row:=e.1) λs hs=>(lK s hs).2;let el:((past.M ph).getLast?.any λ(p:Flags.Entry)=>!Flags.rowBefore p.row e.1)=!rE past e:=by
      ext rE;rw[R9,List.getLast?_map];cases past.getLast? with
      |none=>rfl
      |some p=>
       show(!Flags.rowBefore p.1 e.1)=!wg p.1 e.1;rw[aoB]
     let em:(past.M ph).L=past.L:=ao ..;dsimp only;rw[<-ec,el,em];let(Z,j2):=ih (i+1) (past++[e]) λv hv=>W v (aL _ hv);rw[bI,show[e].M ph=[⟨e.1,e.2.M B⟩] from rfl] at Z j2;cases hcan:lQ ms e.1 with
     |false=>
      rw[ai (rfl:false=false),mJ,ah eO];exact(λes h=>(by cases h.2),λ_=>⟨_,Á⟩)
     |true=>
      rw[ah (by decide:¬(true=false)),nu];cases hnx:rE past e with
      |false=>
       rw[ai (by decide:(!false)=true),mJ,ah eO];exact(λes h=>(by cases h.2),λ_=>⟨_,Á⟩)
      |true=>
       rw[ah (by decide:¬(!true)=true),nu];by_cases Y:past.L<2048
       .rw[ah (show ¬Flags.ENTRIES<=past.L from λq=>by let:(2048:Nat)<=past.L:=q;af),eQ Y,ai rfl];exact(Z,j2)
       .rw[ai (show Flags.ENTRIES<=past.L from by show(2048:Nat)<=past.L;af),gD Y,ah eO];exact(λes h=>(by cases h.2),λ_=>⟨_,Á⟩)
def uR:List oo->List oo->Bool
 |_,[]=>true
 |past,e::es=>rE past e&&uR (past++[e]) es
def aoF(ms:aJ)(r:dQ):∀(j:List oo),uQ ms j r=match jw ms r with
  |none=>none
  |some es=>if (es.all (λe=>lQ ms e.1)&&(uR j es&&decide (j.L+es.L<=2048\/es=[])))=true then some (j++es) else none:=by
 induction r with
 |nil=>
  intro j;show some j=if _ then some (j++[]) else none;rw[jG,ai];simp[uR]
 |cons w r U=>
  intro j;ext uQ jw;cases e1:iQ ms w with
  |none=>
   cases jw ms r <;> rfl
  |some e=>
   dsimp only;rw[U (j++[e])];cases e2:jw ms r with
   |none=>
    split <;> rfl
   |some es=>
    dsimp only;rw[tu,show uR j (e::es)=(rE j e&&uR (j++[e]) es) from rfl,rK,show[e]++es=e::es from rfl,j5,show[e].L=1 from rfl,dh (a:=e) (as:=es)];let hd:(decide (j.L+(es.L+1)<=2048\/e::es=[]))=(decide (j.L<2048)&&decide (j.L+1+es.L<=2048\/es=[])):=by
     rw[qy,jH,lZ,lZ,lZ];constructor
     .rintro (h|h)
      .exact(by af,Or.inl Ù)
      .cases h
     .rintro⟨W,h2⟩;rcases h2 with h2|h2
      .exact Or.inl Ù
      .subst h2;exact Or.inl (by simp only[tm];assumption)
    rw[hd];generalize lQ ms e.1=q;generalize es.all (λe=>lQ ms e.1)=z;generalize rE j e=F;generalize uR (j++[e]) es=J;generalize decide (j.L<2048)=M;generalize decide (j.L+1+es.L<=2048\/es=[])=O;cases q <;> cases z <;> cases F <;> cases J <;> cases M <;> cases O <;> rfl
theorem aoG(es:List oo):∀(j:List oo)(p:oo),uR (j++[p]) es=((p::es).zip es).all λq=>wg q.1.1 q.2.1:=by
 induction es with
 |nil=>exact @λj p=>Á
 |cons e es z=>
  intro j p;let z:=z (j++[p]) e;show(rE (j++[p]) e&&uR (j++[p]++[e]) es)=_;rw[z,zV,tu];congr 1;ext rE;rw[List.getLast?_concat];show(!(!wg p.1 e.1))=_;rw[R9]
theorem aoH(es:List oo):uR [] es=Bv (es.M (·.1)):=by
 cases es with
 |nil=>rfl
 |cons e es=>
  show(rE [] e&&uR ([]++[e]) es)=_;rw[aoG];ext Bv;rw[show rE [] e=true from rfl,nu,a8,List.drop_succ_cons,abo,<-a8,List.zip_map,rJ];rfl
theorem aoI{ms:aJ}{r:dQ}:∀{es:List oo},jw ms r=Α es->es.L=r.L:=by
 induction r with
 |nil=>
  intro es h;rw[<-aU h];rfl
 |cons w r j=>
  intro es h;delta jw at h;cases e1:iQ ms w with
  |none=>rw[e1] at h;cases jw ms r <;> cases h
  |some e=>
   cases e2:jw ms r with
   |none=>rw[e1,e2] at h;cases h
   |some q=>
    rw[e1,e2] at h;rw[<-aU h,dh,dh,j e2]
theorem aoJ{ms:aJ}(nm:LI)(r:dQ):(if r.L<=2048 then Im ms nm (jw ms r) else none)=(uQ ms [] r).M λes=>(nm,es):=by
 rw[aoF];cases e:jw ms r with
 |none=>
  show(if r.L<=2048 then none else none)=Β;simp
 |some es=>
  let j:=aoI e;dsimp only;rw[aoH,show([]:List oo).L+es.L=es.L by simp,j];show(if r.L<=2048 then (if (Bv (es.M (·.1))&&(es.M (·.1)).all (lQ ms))=true then some (nm,es) else none) else none)=Option.map _ (if _ then some ([]++es) else none);grind
def aoK{L:Flags.Locker}{nm:LI}{ms:aJ}(hk:L.kinds=ms.M bO)(Io:L.name=nm.M B)(W:br nm)(f:sW ms)(hn:∀m∈ms,m.role=0->iX m.name=true){b:LI}(h:br b):
  (∀y,lR nm ms b=Α y->L.judgeBook Ϟ=.ok ⟨y.1.M B,y.2.M ph⟩)/\(lR nm ms b=Β->∃e,L.judgeBook Ϟ=.error e):=by
 let J:Flags.cutAt 10 Ϟ=(aO 10 b).M ë:=yS 10 Ð b h;let F:=qT 10 (l:=b) h;obtain⟨ls,z,ew⟩:∃ls z,aO 10 b=ls++[z]:=by
  rcases qV (aO 10 b) with e|⟨r,x,e⟩
  .exact absurd e (m6 10 b)
  .exact(r,x,e)
 let hw:kI b=if z=[] then some ls else none:=by
  ext kI;rw[ew,show(ls++[z]).getLastD []=z by simp,aue]
 rw[ew] at J F;ext lR;rw[hw]
 match ls,J,F with
 |[],J,F=>
  let hb:book1 nm ms (if z=[] then some [] else none)=Β:=by split <;> rfl
  rw[hb];apply(λy j=>(by cases j),λ_=>⟨(1,0),?_⟩);ext Flags.Locker.judgeBook;rw[J];rfl
 |[l],J,F=>
  let hb:book1 nm ms (if z=[] then some [l] else none)=Β:=by split <;> rfl
  rw[hb];apply(λy j=>(by cases j),λ_=>?_);ext Flags.Locker.judgeBook;rw[J];show ∃e,(match Flags.wordName (Flags.ascii "book") Ľ with
   |none=>(Except.error (1,0):Except Flags.Fault Flags.Book)
   |some n=>Except.error (1,1))=Except.error e
  cases Flags.wordName (Flags.ascii "book") Ľ with
  |none=>exact(_,Á)
  |some n=>exact(_,Á)
 |l::fo::r,J,F=>
  let U:=F l Ä;let ZG:=F fo Ä;let Z:∀w∈r,br w:=λw hw=>F w (by simp[hw]);let ej:L.judgeBook Ϟ=match (fO (codes "book") l).M (λn=>n.M B) with
    |none=>.error (1,0)
    |some n=>match (fO (codes "for") fo).M (λn=>n.M B) with
     |none=>.error (1,1)
     |some o=>if o≠L.name then .error (2,1) else (L.judgeEntries 2 [] ((r++[z]).M ë)).M λ(l:List Flags.Entry)=>(⟨n,l⟩:Flags.Book):=by
   rw[<-Zy "book" "book" Æy É U,<-Zy "for" "for" Æy É ZG];ext Flags.Locker.judgeBook;rw[J];let O:((r++[z]).M ë).isEmpty=false:=by
    cases r <;> rfl
   show(match Flags.wordName (Flags.ascii "book") Ľ with
    |none=>(Except.error (1,0):Except Flags.Fault Flags.Book)
    |some n=>if ((r++[z]).M (λ(w:LI)=>w.M B)).isEmpty=true then Except.error (1,1) else match Flags.wordName (Flags.ascii "for") (fo.M B) with
     |none=>Except.error (1,1)
     |some o=>if o≠L.name then Except.error (2,1) else (L.judgeEntries 2 [] ((r++[z]).M (λ(w:LI)=>w.M B))).M λ(l:List Flags.Entry)=>(⟨n,l⟩:Flags.Book))=_
   rw[O];cases Flags.wordName (Flags.ascii "book") Ľ with
   |none=>rfl
   |some n=>
    dsimp only;rw[ah eO]
  let eb:book1 nm ms (if z=[] then some (l::fo::r) else none)=if z=[] then (match fO (codes "book") l with
    |none=>none
    |some n=>if fO (codes "for") fo=Α nm then (uQ ms [] r).M λes=>(n,es) else none) else none:=by
   by_cases hz:z=[]
   .rw[ai hz,ai hz];show(if r.L<=2048 then Pt nm ms (fO (codes "book") l) (fO (codes "for") fo) r else none)=_;cases fO (codes "book") l with
    |none=>
     show(if r.L<=2048 then none else none)=Β;split <;> rfl
    |some n=>
     dsimp only;rw[<-aoJ];show(if r.L<=2048 then (if fO (codes "for") fo=Α nm then Im ms n (jw ms r) else none) else none)=_;split <;> split <;> rfl
   .rw[ah hz,ah hz];rfl
  rw[ej,eb];let(j1,j2):=aoD hk f hn z r 2 [] Z;rw[mO] at j1 j2;cases e1:fO (codes "book") l with
  |none=>
   apply(λy j=>?_,λ_=>⟨_,Á⟩);split at j <;> cases j
  |some n=>
   cases e2:fO (codes "for") fo with
   |none=>
    apply(λy j=>?_,λ_=>⟨_,Á⟩);split at j
    .dsimp only at j;rw[ah (by intro q;cases q)] at j;cases j
    .cases j
   |some o=>
    let Y:br o:=by
     delta fO at e2;split at e2
     .rename_i a c ec;split at e2
      .rw[<-aU e2];exact qT 32 ZG c (by rw[ec];simp)
      .cases e2
     .cases e2
    dsimp only[Option.map_some];by_cases ho:o=nm
    .subst ho;rw[ah (λq:o.M B≠L.name=>q Io.symm),ai rfl];by_cases hz:z=[]
     .rw[ai hz];cases eg:uQ ms [] r with
      |none=>
       let(e,M):=j2 (Or.inr eg);exact(λy j=>(by cases j),λ_=>⟨e,by rw[M];rfl⟩)
      |some es=>
       let M:=j1 es ⟨hz,eg⟩;apply(λy j=>?_,λj=>(by cases j));let j:(n,es)=y:=aU j;rw[<-j,M];rfl
     .rw[ah hz];let(e,M):=j2 (Or.inl hz);exact(λy j=>(by cases j),λ_=>⟨e,by rw[M];rfl⟩)
    .let O:o.M B≠L.name:=λq=>ho (xu Y W (q.R Io));rw[ai O,ah (λq:some o=Α nm=>ho (aU q))];apply(λy j=>?_,λ_=>⟨_,Á⟩);split at j <;> cases j
def uS(l:LI):Prop:=∀x∈l,0<=x/\x<=16
def Qg:Told->Prop
 |.side s l=>s<3/\gh l
 |.hoist k=>k<4
 |.shape k=>k<4
 |.row l=>l.L=4/\uS l
structure zE(m:eW):Prop where
 cl:m.classes=[]\/gh m.classes
 sd:m.side<3
 c7:m.aq.L<=4
 fl:∀g∈m.aq,g.flags.L<=8
 ce:∀g∈m.aq,∀f∈g.flags,f.1<4/\uS f.2
def ZH(h:kG signs part=Α l):l.L=part.L/\∀x∈l,0<=x/\x<signs.L:=by
 delta kG at h;grind
theorem aoP(h:lE w=Α t):Qg t:=by
 delta lE at h;cases j:eJ w with
 |some x=>
  rw[j] at h;let h:=(aU h).symm;subst h;delta HD.eJ at j;split at j
  .rename_i a b c J;split at j
   .cases e2:bW vL b with
    |none=>symm
    |some s=>
     cases e3:iG c with
     |none=>symm
     |some l=>
      rw[e2,e3] at j;let j:=(aU j).symm;subst j;apply(A0 e2,?_);delta iG at e3;split at e3
      .rename_i hc;let(F,p2):=ZH e3;let q:ml.L=16:=by decide+kernel
       rw[q] at p2;exact(F.R hc,p2)
      .symm
   .symm
  .symm
 |none=>
  rw[j] at h;cases e2:bW iJ w with
  |some k=>
   rw[e2] at h;let h:=(aU h).symm;subst h;exact A0 e2
  |none=>
   rw[e2] at h;cases e3:bW iK w with
   |some k=>
    rw[e3] at h;let h:=(aU h).symm;subst h;exact A0 e3
   |none=>
    rw[e3] at h;cases e4:lD w with
    |none=>symm
    |some l=>
     rw[e4] at h;let h:=(aU h).symm;subst h;apply(V1 e4,λx z=>?_);delta lD at e4;split at e4
     .let:=(ZH e4).2 x z;let q:qS.L=17:=by decide+kernel
      af
     .symm
theorem aoQ(h:Qg t):WJ t:=by
 cases t with
 |side s l=>exact h.2.1
 |hoist k=>trivial
 |shape k=>trivial
 |row l=>exact h.1
def aoR{m:eW}(v:zE m){t:Told}(g:Qg t)(h:eE m t.sort=true):zE (sA m t):=by
 let upd:∀(gs:List iW)(F:iW->iW),m.aq=gs->(∀x∈m.aq.getLast?,(F x).flags.length<=8/\∀f∈(F x).flags,f.1<4/\uS f.2)->zE ⟨m.side,m.classes,m.aq.dropLast++(m.aq.getLast?.M F).toList⟩:=λgs F _ U=>by
  let W:∀y∈m.aq.dropLast++(m.aq.getLast?.M F).toList,y∈m.aq\/∃x,m.aq.getLast?=Α x/\y=F x:=λy j=>by
   rcases fw.mp j with j|j
   .exact Or.inl (B3 _ j)
   .cases e:m.aq.getLast? with
    |none=>rw[e] at j;cases j
    |some x=>
     rw[e] at j;exact Or.inr ⟨x,Á,À j⟩
  apply(v.cl,v.sd,?_,λy j=>?_,λy j=>?_)
  .show(m.aq.dropLast++(m.aq.getLast?.M F).toList).L<=4;let:=v.c7;rcases qV m.aq with e|⟨r,x,e⟩
   .rw[e];simp
   .rw[e] at this⊢;simp at this⊢;exact this
  .rcases W y j with h|⟨x,J,rfl⟩
   .exact v.fl y h
   .exact(U x J).1
  .rcases W y j with h|⟨x,J,rfl⟩
   .exact v.ce y h
   .exact(U x J).2
 cases t with
 |side s l=>exact(Or.inr g.2,g.1,v.c7,v.fl,v.ce)
 |hoist k=>
  let Z:=VT h;apply(v.cl,v.sd,?_,λy j=>?_,λy j=>?_)
  .show(m.aq++[_]).L<=4;rw[j5];exact Z
  .rcases fw.mp j with j|j
   .exact v.fl y j
   .obtain rfl:y=_:=by simpa using j
    exact dj _
  .rcases fw.mp j with j|j
   .exact v.ce y j
   .obtain rfl:y=_:=by simpa using j
    intro f q;cases q
 |shape k=>
  apply upd _ _ Á λx J=>?_;let J:m.aq.getLast?=Α x:=J;let M:=Fs J;let h8:x.flags.L<8:=by
   let h:eE m 2=true:=h;delta eE at h;split at h
   .simp at h
   .split at h
    .simp at h
    .split at h
     .rename_i hq;exact absurd hq Ð
     .rw[J] at h;simpa using h
  apply(?_,λf q=>?_)
  .show(x.flags++[(k,[])]).L<=8;rw[j5];exact h8
  .rcases fw.mp q with q|q
   .exact v.ce x M f q
   .obtain rfl:f=_:=by simpa using q
    exact(g,λy j=>absurd j Ä)
 |row l=>
  apply upd _ _ Á λx J=>?_;let J:m.aq.getLast?=Α x:=J;let M:=Fs J;let O:=v.fl x M;let Y:=v.ce x M;apply(?_,λf q=>?_)
  .show(x.flags.dropLast++(x.flags.getLast?.M λs=>(s.1,s.2++l)).toList).L<=8;rcases qV x.flags with e|⟨r,y,e⟩
   .rw[e];simp
   .rw[e] at O⊢;simp at O⊢;exact O
  .rcases fw.mp q with q|q
   .exact Y f (B3 _ q)
   .cases e:x.flags.getLast? with
    |none=>rw[e] at q;cases q
    |some y=>
     rw[e] at q;obtain rfl:f=_:=À q
     let j:=Y y (Fs e);exact(j.1,λz hz=>(fw.mp hz).elim (j.2 z) (g.2 z))
def aoS{m:eW}{s:Flags.PlateState}(r:A9 m s):(qX m=true->s.over=Α ϗ/\m.classes≠[]/\∀g∈m.aq,∀f∈g.flags,f.2.L=16)/\(qX m=false->s.over=Β):=by
 let(W,Y,hd):=r;ext qX Flags.PlateState.over;cases Y with
 |vU q h2 F=>
  rw[Hw F,Bool.not_false,RY,q,h2,Ov];ext mq;cases e:m.aq.getLast? with
  |none=>
   let:m.aq=[]:=by
    rcases qV m.aq with j|⟨r,x,j⟩
    .exact j
    .rw[j,akh] at e;cases e
   rw[this];apply(λz=>(by cases z),λ_=>?_);cases s.head <;> rfl
  |some g=>
   let J:m.aq≠[]:=λz=>by rw[z] at e;cases e
   let hc:m.classes≠[]:=λz=>J (hd z);let M:m.aq.isEmpty=false:=À J
   rw[M,W,ah hc,Bool.not_false,nu];dsimp only[Option.map_some];let O:(i0 g).flags.isEmpty=g.flags.isEmpty:=by
    ext i0;dsimp only;cases g.flags <;> rfl
   rw[O];apply(λz=>⟨?_,hc,F⟩,λz=>?_)
   .let z:g.flags.isEmpty=false:=by simpa using z
    rw[z,ah eO];rfl
   .let z:g.flags.isEmpty=true:=by simpa using z
    rw[z,ai rfl]
 |opened gs a b fs k cs q h2 F U Z h6 h7=>
  rw[Hy q U,Bool.not_true,zW,zW,h2];apply(λz=>(by cases z),λ_=>?_);cases s.head <;> rfl
def go_eq(z:LI)(ls:dQ):∀(i:Nat)(m:eW)(s:Flags.PlateState),(∀w∈ls,br w)->A9 m s->zE m->
  (∀M,nX i m ls=.ok M->∃s',A9 M s'/\zE M/\Flags.plateLines i s ((ls++[z]).M ë)=Flags.plateLines (i+ls.L) s' [z.M B])/\(∀e,nX i m ls=.error e->∃J,Flags.plateLines i s ((ls++[z]).M ë)=.error J):=by
 induction ls with
 |nil=>
  intro i m s _ r v;exact⟨λM h=>by
   let h:m=M:=by injection h
   subst h;exact(s,r,v,Á),λe h=>(by cases h)⟩
 |cons w ls Y=>
  intro i m s F r v;obtain⟨y,j,q⟩:∃y j,(ls++[z]).M ë=y::j:=by
   cases ls with
   |nil=>exact(_,_,Á)
   |cons a b=>exact(_,_,Á)
  let U:Flags.plateLines i s (((w::ls)++[z]).M ë)=match Flags.plateLine Ĳ with
    |none=>.error (1,i)
    |some x=>match s.line x with
     |none=>.error (2,i)
     |some t=>Flags.plateLines (i+1) t ((ls++[z]).M ë):=by
   rw[show((w::ls)++[z]).M ë=w.M B::y::j from cb (w.M B:: ·) q,q];rfl
  rw[U,akg (F w Ä)];ext nX;cases e1:lE w with
  |none=>exact(λM h=>(by cases h),λe _=>⟨_,Á⟩)
  |some t=>
   let g:=aoP e1;let(s1,s2):=aki r (aoQ g);dsimp only[Option.map_some];cases hm:eE m t.sort with
   |false=>
    rw[ah eO,s2 hm];exact(λM h=>(by cases h),λe _=>⟨_,Á⟩)
   |true=>
    let(s',O,r2):=s1 hm;rw[ai rfl,O];let(Z,j2):=Y (i+1) (sA m t) s' (λx W=>F x (aL _ W)) r2 (aoR v g hm);apply(λM h=>?_,j2);let(s3,a,b,c):=Z M h;apply(s3,a,b,?_);rw[dh,show i+(ls.L+1)=i+1+ls.L by af];exact c
structure x3(m:eW):Prop where
 inv:zE m
 cl:gh m.classes
 xM:∀g∈m.aq,∀f∈g.flags,f.2.L=16
def ZI{p:LI}(h:br p):(∀m,iq p=.ok m->Flags.plateIn Áq=.ok ϗ/\x3 m)/\(∀e,iq p=.error e->∃U,Flags.plateIn Áq=.error U):=by
 let Z:Flags.cutAt 10 Áq=(aO 10 p).M ë:=yS 10 Ð p h;let W:=qT 10 (l:=p) h;obtain⟨ls,z,j⟩:∃ls z,aO 10 p=ls++[z]:=by
  rcases qV (aO 10 p) with e|⟨r,x,e⟩
  .exact absurd e (m6 10 p)
  .exact(r,x,e)
 let l6:p=[]->ls=[]/\z=[]:=λe=>by
  rw[e] at j;let j:[[]]=ls++[z]:=j;cases ls with
  |nil=>
   refine Ţ;simpa using j.symm
  |cons a b=>
   let:=cb List.length j;simp at this
 let mU:ls=[]->z=[]->p=[]:=λe1 e2=>by
  rw[e1,e2] at j;cases p with
  |nil=>rfl
  |cons x r=>
   let j:(if x=10 then []::aO 10 r else match aO 10 r with|[]=>[[x]]|w::l=>(x::w)::l)=[[]]:=j;by_cases Y:x=10
   .rw[ai Y] at j;injection j with _ j;exact absurd j (m6 10 r)
   .rw[ah Y] at j;cases e:aO 10 r with
    |nil=>exact absurd e (m6 10 r)
    |cons w l=>rw[e] at j;cases j
 rw[j] at Z W;let em:iq p=match nX 0 ⟨0,[],[]⟩ ls with
   |.error e=>.error e
   |.ok m=>if p=[]\/z≠[] then .error (1,ls.L) else if qX m=true then .ok m else .error (2,ls.L):=by
  ext iq;rw[j,aue,show(ls++[z]).getLastD []=z by simp]
  try rfl
 let ei:Flags.plateIn Áq=Flags.plateLines 0 ⟨none,[],none⟩ ((ls++[z]).M ë):=by
  ext Flags.plateIn;rw[Z]
 rw[em,ei];let r0:A9 ⟨0,[],[]⟩ ⟨none,[],none⟩:=⟨rfl,.vU rfl rfl (λg J=>absurd J Ä),λ_=>rfl⟩;let v0:zE ⟨0,[],[]⟩:=⟨Or.inl rfl,by decide,by decide,λg J=>absurd J Ä,λg J=>absurd J Ä⟩;let(j1,j2):=go_eq z ls 0 _ _ (λw M=>W w (by simp[M])) r0 v0;cases eg:nX 0 ⟨0,[],[]⟩ ls with
 |error e=>exact(λm F=>(by cases F),λ_ _=>j2 e eg)
 |ok m=>
  let(s',r',v',U):=j1 m eg;rw[U,vd];let el:Flags.plateLines ls.L s' [z.M B]=if z.M B≠[]\/ls.L=0 then .error (1,ls.L) else match s'.over with
    |some z=>.ok z
    |none=>.error (2,ls.L):=rfl
  rw[el];let(o1,o2):=aoS r';by_cases hc:p=[]\/z≠[]
  .let O:z.M B≠[]\/ls.L=0:=by
    rcases hc with hc|hc
    .exact Or.inr (by rw[(l6 hc).1];rfl)
    .exact Or.inl (λq=>hc (À q))
   dsimp only;rw[ai hc,ai O];exact(λm F=>(by cases F),λ_ _=>⟨_,Á⟩)
  .let O:¬(z.M B≠[]\/ls.L=0):=by
    rintro (q|q)
    .exact hc (Or.inr λe=>q (by rw[e];rfl))
    .apply hc ?_;by_cases hz:z=[]
     .exact Or.inl (mU (RR.mp q) hz)
     .exact Or.inr hz
   dsimp only;rw[ah hc,ah O];cases M:qX m with
   |true=>
    let(a,b,c):=o1 M;rw[ai rfl,a];apply(λm' F=>?_,λ_ F=>(by cases F));let F:m=m':=by injection F
    subst F;exact(Á,v',v'.cl.resolve_left b,c)
   |false=>
    rw[ah eO,o2 M];exact(λm F=>(by cases F),λ_ _=>⟨_,Á⟩)
def aoT(h:br p)(e:iq p=.ok m):IC m:=by
 let(_,f):=(ZI h).1 m e;exact(f.cl.1,by let:=f.inv.c7;af,λg j=>by let:=f.inv.fl g j;af,f.xM)
def ZJ(l i:Nat):Flags.cell l i<16:=Nat.mod_lt _ Ð
def EJ{classes look:LI}(hc:gh classes)(h:gh look){side:Nat}(hs:side=0\/side=1){i:Nat}(hi:i<16):(Àu side).D i 0=((Flags.cell (Flags.seenFrom ĉ side (c8 look)) i:Nat):Int):=by
 let J:∀j,j<16->0<=look.D j 0/\look.D j 0<16:=λj q=>h.2 _ (getD_mem (by rw[h.1];exact q));let z:∀j,j<16->classes.D j 0=((Flags.cell ĉ j:Nat):Int):=λj q=>by
  let:=hc.2 _ (getD_mem (l:=classes) (i:=j) (by rw[hc.1];exact q));rw[DU hc q];grind
 ext Flags.seenFrom Flags.inLight oQ;rw[DT _ hi,Nat.mod_eq_of_lt (ZJ _ _)];rcases hs with hs|hs
 .rw[ah Å,ai hs,ik,bA,DU h hi];let e:look[i]? =Α (look.D i 0):=by
   rw[ik,cJ (by rw[h.1];exact hi)];rfl
  rw[e];let:=J i hi;exact z _ Ù
 .rw[ai hs,ah Å,ik,bA,RX hi];ext Flags.behind;let F:=WQ hi;rw[DT _ hi,Nat.mod_eq_of_lt (ZJ _ _),show 4*(i/4)+(3-i%4)=sI i by ext sI;af,DU h F];let:=J _ F;exact z _ Å
theorem aoU(P:Nat->Bool):∀n,((List.range n).J P).foldl (λ(n i:Nat)=>n+2^i) 0<2^n/\∀i,i<n->(((List.range n).J P).foldl (λ(n i:Nat)=>n+2^i) 0).testBit i=P i:=by
 intro n;induction n with
 |zero=>exact(by show 0<1;decide,λi hi=>absurd hi (Nat.not_lt_zero _))
 |succ n z=>
  let(j,h2):=z;rw[JR,Ft,List.foldl_append];generalize ((List.range n).J P).foldl (λ(n i:Nat)=>n+2^i) 0=m at j h2;let F:2^(n+1)=2^n+2^n:=by rw[z5];af
  cases hp:P n with
  |false=>
   rw[rL,hp,ah eO];apply(by show m<_;omega,λi hi=>?_);rcases auh (Nat.lt_succ_iff.mp hi) with q|q
   .exact h2 i q
   .rw[q,hp];exact B6 j
  |true=>
   rw[rL,hp,ai rfl];apply(by show m+2^n<_;simp_all,λi hi=>?_);show(m+2^n).testBit i=_;rw[aby];rcases auh (Nat.lt_succ_iff.mp hi) with q|q
   .rw[abC q];exact h2 i q
   .rw[q,hp,abD,B6 j];rfl
def aoV(z:s.2.L=16)(hc:uS s.2)(hi:i<16):(iD s).cells.testBit i=!decide (s.2.D i 0=16)/\(¬s.2.D i 0=16->((Flags.cell (iD s).look i:Nat):Int)=s.2.D i 0):=by
 let j:(s.2.M i9).D i none=i9 (s.2.D i 0):=by
  symm
 let hr:=hc _ (getD_mem (l:=s.2) (i:=i) Å);apply(?_,λq=>?_)
 .show(((List.range 16).J λ(i:Nat)=>((s.2.M i9).D i none).isSome).foldl (λ(n i:Nat)=>n+2^i) 0).testBit i=_;rw[(aoU _ 16).2 i hi,j];ext i9;grind
 .show((Flags.cell (Flags.lookOf λ(i:Nat)=>((s.2.M i9).D i none).D 0) i:Nat):Int)=_;rw[DT _ hi,j];ext i9;grind
def aoW(hc:gh classes)(hk:gh k.look)(hd:d=0\/d=1)(j:s.2.L=16)(hs:uS s.2):
  xK s (jU classes d k)=(((iD s).shape==3||(iD s).shape==(bO k).shape)&&Flags.sameIn (iD s).cells (Flags.seenFrom ĉ d (bO k).look) (iD s).look):=by
 let z:((List.range s.2.L).all (xJ s.2 (oQ k.look classes d)))=Flags.sameIn (iD s).cells (Flags.seenFrom ĉ d (c8 k.look)) (iD s).look:=by
  rw[j];ext Flags.sameIn;rw[qy,jI,jI];apply forall_congr' λi=>forall_congr' λhi=>?_;simp at hi;let(q,J):=aoV j hs hi;rw[q,R9];ext xJ;rw[EJ hc hk hd hi];grind
 let F:xK s (jU classes d k)=if s.1≠3/\s.1≠k.shape then false else (List.range s.2.L).all (xJ s.2 (oQ k.look classes d)):=rfl;rw[F,z];show _=((s.1==3||s.1==k.shape)&&Flags.sameIn (iD s).cells (Flags.seenFrom ĉ d (c8 k.look)) (iD s).look)
 af
structure EK(L:Flags.Locker)(ms:aJ)(classes:LI)(d:Nat):Prop where
 hk:L.kinds=ms.M bO
 lk:∀k∈ms,gh k.look
 cl:gh classes
 d:d=0\/d=1
def aoX(v:Àv d)(z:s.2.L=16)(hs:uS s.2)(f:Nat):(uq Ŧ s).Y f=L.flagFits ĉ d f (iD s):=by
 ext Flags.Locker.flagFits;by_cases j:f<ms.L
 .rw[IP v.hk j];let q:ms.D f eX∈ms:=by
   symm
  show _=(((iD s).shape==3||(iD s).shape==(bO Ϝ).shape)&&Flags.sameIn (iD s).cells (Flags.seenFrom ĉ d (bO Ϝ).look) (iD s).look);rw[<-aoW v.cl (v.lk _ q) v.d z hs];let e:(ms.M (jU classes d)).D f (0,[])=jU classes d Ϝ:=by
   symm
  rw[qy,B5];ext uq;symm
 .let:L.kinds[f]? =Β:=by
   rw[v.hk,bA,yl Å];rfl
  rw[this,<-Bool.not_eq_true,B5];ext uq;grind
theorem ZK(v:Àv d):∀(fs:List (Nat×LI))(h:LN),(∀f∈fs,f.2.L=16/\uS f.2)->h.L=fs.L->L.flagsFit ĉ d h (fs.M iD)=(List.range fs.L).all λi=>((fs.M (uq Ŧ)).D i []).Y (h.D i 0)
 |[],[],_,_=>rfl
 |[],_::_,_,h=>by simp at h
 |_::_,[],_,h=>by simp at h
 |s::fs,f::h,hf,hl=>by
  let q:=ZK v fs h (λx j=>hf x (aL _ j)) (À hl);let hs:=hf s Ä;show(L.flagFits ĉ d f (iD s)&&L.flagsFit ĉ d h (fs.M iD))=_;rw[q,<-aoX v hs.1 hs.2,dh,zX,tu,rJ];rfl
def ZL(v:Àv d){fs:List (Nat×LI)}(j:∀f∈fs,f.2.L=16/\uS f.2){h:LN}{a:Nat}(q:a+fs.L<=h.L):zh a h (fs.M (uq Ŧ))=L.flagsFit ĉ d ((h.drop a).take fs.L) (fs.M iD):=by
 rw[ZK v fs _ j (by grind)];ext zh;grind
def aoY(v:Àv d){g:iW}(z:∀f∈g.flags,f.2.L=16/\uS f.2){h:LN}(Y:g.flags.L<=h.L):vX h g (zg Ŧ g)=L.fits ĉ d h (i0 g):=by
 ext vX OK Flags.Locker.fits zg;let el:(i0 g).flags.length=g.flags.L:=ao ..;rw[el,qy,tw,tw];show _↔ ∃x,x∈List.range (h.L+1)/\((x==0||g.above)&&((x+g.flags.L==h.L||(g.below&&decide (x+g.flags.L<=h.L)))&&L.flagsFit ĉ d ((h.drop x).take g.flags.L) (g.flags.M iD)))=true;constructor
 .rintro⟨i,hi,W⟩;simp at hi;generalize ex:oR g.below (h.L-g.flags.L)+i=x at W;let q:x<=ur g.above (h.L-g.flags.L):=by omega
  let U:oR g.below (h.L-g.flags.L)<=x:=by af
  let j:x+g.flags.L<=h.L:=by
   delta ur at q;grind
  apply(x,u9.mpr Ù,?_);rw[ZL v z j] at W;rw[W,RY,jH];constructor
  .delta ur at q;grind
  .delta oR at U;grind
 .rintro⟨x,q,W⟩;rw[jH,jH] at W;let(O,h2,F):=W;let j:x+g.flags.L<=h.L:=by
   af
  let M:x<=ur g.above (h.L-g.flags.L):=by
   ext ur;grind
  let J:oR g.below (h.L-g.flags.L)<=x:=by
   ext oR
   af
  apply(x-oR g.below (h.L-g.flags.L),u9.mpr (by grind),?_);rw[show oR g.below (h.L-g.flags.L)+(x-oR g.below (h.L-g.flags.L))=x by simp_all,ZL v z j];exact F
theorem ZM(v:Àv d):∀(hs:bg)(j:List iW),(∀g∈j,∀f∈g.flags,f.2.L=16/\uS f.2)->hs.L=j.L->(∀(i:Nat)h g,hs[i]? =Α h->j[i]? =Α g->g.flags.L<=h.L)->oS hs j (sJ ms classes d j)=L.allFit ĉ d hs (j.M i0)
 |[],[],_,_,_=>rfl
 |[],_::_,_,h,_=>by simp at h
 |_::_,[],_,h,_=>by simp at h
 |h::hs,g::j,hf,hl,hw=>by
  let F:=ZM v hs j (λx z=>hf x (aL _ z)) (À hl) (λi a b q h2=>hw (i+1) a b q h2);show(vX h g (zg Ŧ g)&&oS hs j (sJ ms classes d j))=(L.fits ĉ d h (i0 g)&&L.allFit ĉ d hs (j.M i0));rw[F,aoY v (hf g Ä) (hw 0 h g rfl rfl)]
theorem aoZ:∀(cs rows:bg),cs.foldl qo rows=rows.flatMap λr=>(Flags.rowsFrom cs).M (r++ ·):=by
 intro cs;induction cs with
 |nil=>
  intro rows;show rows=rows.flatMap λr=>[r++[]];induction rows with
  |nil=>rfl
  |cons a l j=>rw[z8,<-j,jG];rfl
 |cons c cs j=>
  intro rows;rw[Fv,j];ext qo;rw[List.flatMap_assoc];congr 1;funext r;rw[Sa];show _=(c.flatMap λ(x:Nat)=>(Flags.rowsFrom cs).M λ(y:LN)=>x::y).M (r++ ·);rw[Sb];congr 1;funext x;rw[ck];congr 1;funext y;simp
theorem ZN:∀(cs:bg),[]∈cs->Flags.rowsFrom cs=[]
 |c::cs,h=>by
  show(c.flatMap λ(x:Nat)=>(Flags.rowsFrom cs).M λ(y:LN)=>x::y)=[];rcases a9.mp h with h|h
  .rw[<-h];rfl
  .rw[ZN cs h];exact List.flatMap_eq_nil_iff.mpr λ_ _=>Á
def ZO(cs:bg):wm cs=Flags.rowsFrom cs:=by
 ext wm;split
 .rename_i h;rw[ZN cs (B5.mp h)]
 .ext mw;rw[aoZ];simp
theorem ZP(cs:bg):∀(x:LN),x∈Flags.rowsFrom cs->x.L=cs.L/\∀(i:Nat)n c,x[i]? =Α n->cs[i]? =Α c->n∈c:=by
 induction cs with
 |nil=>
  intro x h;let h:x∈[[]]:=h;simp at h;subst h;exact(Á,λi n c h=>(by simp at h))
 |cons c cs O=>
  intro x h;let h:=h;let(a,J,h):=jh.mp h;let(y,M,rfl):=bH.mp h;let(F,h2):=O y M;apply(by rw[dh,dh,F],λi n z j q=>?_);cases i with
  |zero=>
   simp at j;simp at q;rw[<-j,<-q];exact J
  |succ i=>exact h2 i n z (À j) (À q)
section
variable{L:Flags.Locker}{B:Flags.Book}{ms:aJ}{rows:bg}
def ao0(j:B.entries.M Flags.Entry.row=rows)(g:iW):sQ rows g=B.may (i0 g):=by
 ext sQ Flags.Book.may;let z:rows.L=B.entries.L:=by rw[<-j,ao]
 rw[z];apply JX;intro i hi;let hi:i<B.entries.L:=À hi
 let el:oj rows i=(B.entries[i]).row.length:=by
  ext oj;rw[<-j,ik,bA,cJ hi];rfl
 let q:(i0 g).flags.length=g.flags.L:=ao ..;rw[cJ hi];dsimp only;rw[q];ext BA;rw[el];show _=if (g.above||g.below)=true then _ else _;cases h:(g.above||g.below) with
 |true=>
  rw[ai rfl,nu,qy,Bool.or_eq_true,Sd,Sd,Sd];omega
 |false=>
  rw[ah eO,mJ,abg,qy,Sd,zT]
def ZQ(q:B.entries.M Flags.Entry.row=rows)(j:List iW):lS rows j=(j.M i0).M B.may:=by
 ext lS;rw[ck];apply iU;intro g _;exact ao0 q g
def ao1(j:B.entries.M Flags.Entry.row=rows)(m:eW):uK rows m.aq=B.inDoubt ϗ:=by
 ext uK iy Flags.Book.inDoubt;rw[ZQ j,ck];rfl
theorem ao2(q:B.entries.M Flags.Entry.row=rows)(x:LN):(∀n∈x,n<rows.L)->B.rowsOf x=Α Âf:=by
 induction x with
 |nil=>exact @λ_=>Á
 |cons n x j=>
  intro h;let j:=j λz hz=>h z (aL _ hz);let F:n<B.entries.L:=by
   let:=h n Ä;rw[<-q,ao] at this;exact this
  delta Flags.Book.rowsOf at j⊢;rw[JO,j,cJ F];ext jX;rw[a8,<-q];congr 2;rw[ik,bA,cJ F];rfl
def ZR(h:n∈sQ rows g):n<rows.L/\g.flags.L<=(rows.D n []).L:=by
 delta sQ at h;let(j,h2):=iA.mp h;apply(by simp_all,?_);delta BA oj at h2
 af
structure ao3(L:Flags.Locker)(B:Flags.Book)(ms:aJ)(rows:bg)(m:eW)(x:LN)(hs:bg)(ss:LN):Prop where
 r:uJ ms rows m.aq (mx ms m) x=if ss=[] then none else some (x,hs,ss)
 f:∀{β:Type}(f:Nat->bg->β),((Flags.sides (fY m).side).filterMap λ(d:Nat)=>(L.mayFrom B ϗ x d).M (f d))=ss.M λd=>f d hs
 a:∀d∈ss,(d=0\/d=1)/\L.allFit Àn d hs (m.aq.M i0)=true
 n:ss.L<=2
theorem ao4{β:Type}(g:Nat->Option β)(l:LN):∀(p:Nat->Bool)(f:Nat->β),(∀d∈l,g d=if p d=true then some (f d) else none)->l.filterMap g=(l.J p).M f:=by
 intro p f h;induction l with
 |nil=>rfl
 |cons d l j=>
  let q:=h d eP;let j:=j λy z=>h y (aL _ z);rw[BW,q,rL];cases p d
  .simpa using j
  .simpa using j
def ZS(hk:L.kinds=ms.M bO)(g:uP ms)(lk:∀k∈ms,gh k.look)(hb:B.entries.M Flags.Entry.row=rows)(sg:xY ms rows)(M:x3 m)(x:LN)(hx:x∈Flags.rowsFrom Éh):∃hs ss,ao3 L B ms rows m x hs ss:=by
  let(oU,gZ):=ZP _ _ hx;let gJ:(lS rows m.aq).L=m.aq.L:=ao ..;let jZ:∀(i:Nat)n,x[i]? =Α n->∃gl,m.aq[i]? =Α gl/\n∈sQ rows gl:=λi n e=>by
   let hi:i<m.aq.L:=by
    grind
   apply(_,cJ hi,gZ i n _ e ?_);ext lS;symm
  let bQ:∀n∈x,n<rows.L:=λn hn=>by
   let(i,hi,e):=nt hn;let(gl,_,h):=jZ i n (by grind);exact(ZR h).1
  let W:xY ms Âf:=λr hr=>by
   let(n,hn,rfl):=bH.mp hr;apply sg _ ?_;symm
  let hd:=P9 hk g W;let nk:=λhs h=>Yw (ms:=ms) (rows:=jX rows x) (hs:=hs) h;let q:∀d,L.mayFrom B ϗ x d=if L.canShowAll Âf=true/\L.allFit Àn d (L.displayed Âf) (m.aq.M i0)=true then some (L.displayed Âf) else none:=λd=>by
   ext Flags.Locker.mayFrom;rw[ao2 hb x bQ];rfl
  let O:∀d∈Flags.sides (fY m).side,d=0\/d=1:=λd q=>by
   let hs:=M.inv.sd;let q:d∈(if m.side=2 then [0,1] else [m.side]):=q;grind
  let qE:(Flags.sides (fY m).side).L<=2:=by
   show(if m.side=2 then [0,1] else [m.side]).L<=2;split
   .exact bC _
   .exact Fj _
  by_cases j:L.canShowAll Âf=true
  .rw[ai j] at hd;let U:=nk _ hd;let ht:=eq_true j;simp only[ht,true_and] at q;generalize L.displayed Âf=hs at U q hd;let wt:∀d,d=0\/d=1->oS hs m.aq Âs=L.allFit Àn d hs (m.aq.M i0):=λd hd=>by
    apply ZM ⟨hk,lk,M.cl,hd⟩ hs m.aq (λgl n8 f hf=>⟨M.xM gl n8 f hf,(M.inv.ce gl n8 f hf).2⟩) ?_ λi h gl J h2=>?_
    .let:=cb List.length U;rw[ao,ao] at this;delta jX at this;symm
    .let F:Àz[i]? =Α h.L:=by rw[bA,J];rfl
     rw[U,bA] at F;delta jX at F;rw[bA] at F;cases ex:x[i]? with
     |none=>symm
     |some n=>
      rw[ex] at F;let F:(rows.D n []).L=h.L:=À F
      let(gl',Y,Z):=jZ i n ex;rw[h2] at Y;rw[<-aU Y] at Z;let:=(ZR Z).2;symm
   let es:sU (mx ms m) m.aq hs=(Flags.sides (fY m).side).J λd=>oS hs m.aq Âs:=by
    ext sU mx;rw[wJ,ck];exact List.map_id _
   apply(hs,sU (mx ms m) m.aq hs,?_,λf=>?_,λd hd=>?_,?_)
   .ext uJ;rw[hd]
   .rw[es];apply ao4 _ _ _ _ λd hd=>?_;rw[q,<-wt d (O d hd)];cases oS hs m.aq Âs <;> rfl
   .rw[es] at hd;let(J,h2):=iA.mp hd;rw[<-wt d (O d J)];exact(O d J,h2)
   .rw[es];exact gq (B4 ..) qE
  .rw[ah j] at hd;apply([],[],?_,λf=>?_,λd hd=>(by cases hd),dj _)
   .ext uJ;rw[hd];rfl
   .apply aui.mpr λd _=>?_;rw[q,ah λz=>j z.1];rfl
def ZT(hk:L.kinds=ms.M bO)(g:uP ms)(lk:∀k∈ms,gh k.look)(j:B.entries.M Flags.Entry.row=rows)(sg:xY ms rows)(M:x3 m):(Àr m).M (·.1)=L.readings B ϗ:=by
 ext jd Flags.Locker.readings;let q:(fY m).hoists.map B.may=lS rows m.aq:=(ZQ j m.aq).symm;rw[q,ZO];let J:∀x∈Flags.rowsFrom Éh,(uJ ms rows m.aq (mx ms m) x).M (·.1)=if ((Flags.sides (fY m).side).any λ(d:Nat)=>(L.mayFrom B ϗ x d).isSome)=true then some x else none:=λx F=>by
  let(hs,ss,h):=ZS hk g lk j sg M x F;let h2:=h.f λd _=>d;let e:((Flags.sides (fY m).side).any λ(d:Nat)=>(L.mayFrom B ϗ x d).isSome)=true↔ss≠[]:=by
   rw[abx] at h2;rw[<-h2,Ne,aui,tw];simp[Option.isSome_iff_ne_none]
  rw[h.r];by_cases hz:ss=[]
  .rw[ai hz,ah λz=>e.mp z hz];rfl
  .rw[ah hz,ai (e.mpr hz)];rfl
 generalize Flags.rowsFrom Éh=X at J;induction X with
 |nil=>rfl
 |cons x X O=>
  grind
end
def IS(j:br t)(h:gO t=Α x):∀k∈x.2,gh k.look:=λk hk=>((IR j h).kv k hk).lk
def ao6(j:br line)(h:fO w line=Α n):br n:=by
 delta fO at h;split at h
 .rename_i a c q;split at h
  .rw[<-aU h];exact qT 32 j c Å
  .symm
 .cases h
def ao7(j:br t)(h:gO t=Α x):br x.1:=by
 delta gO at h;split at h
 .rename_i l r e;let q:br l:=by
   delta kI at e;split at e
   .let e:=aU e;let:l∈(aO 10 t).dropLast:=by rw[e];exact eP
    exact qT 10 j l (B3 _ this)
   .symm
  cases e1:fO (codes "locker") l with
  |none=>rw[e1,DQ] at h;cases h
  |some n=>
   cases e2:hZ r with
   |none=>rw[e2,DP] at h;cases h
   |some ms=>
    rw[e1,e2] at h;let h:(if (oO ms&&pZ ms)=true then some (n,ms) else none)=Α x:=h;split at h
    .rw[<-aU h];exact ao6 q e1
    .symm
 .cases h
theorem ao8{ms:aJ}{r:dQ}:∀{es:List (LN×LI)},jw ms r=Α es->xY ms (es.M (·.1)):=by
 induction r with
 |nil=>
  intro es h;rw[<-aU h];intro r hr;cases hr
 |cons l r j=>
  intro es h;delta jw at h;cases e1:iQ ms l with
  |none=>rw[e1] at h;cases h
  |some e=>
   cases e2:jw ms r with
   |none=>rw[e1,e2] at h;cases h
   |some q=>
    rw[e1,e2] at h;rw[<-aU h];intro row hr;rcases a9.mp hr with rfl|hr
    .exact λs hs=>((Pu e1).2 s hs).2
    .exact j e2 row hr
def Qi{nm:LI}{ms:aJ}{b:LI}{y:LI×List (LN×LI)}(h:lR nm ms b=Α y):xY ms (y.2.M (·.1)):=by
 delta lR book1 at h;split at h
 .split at h
  .delta Pt at h;split at h
   .symm
   .split at h
    .delta Im at h;split at h
     .rename_i es e;split at h
      .rw[<-aU h];exact ao8 e
      .symm
     .symm
    .symm
  .symm
 .cases h
def zF(x:LI×aJ):Flags.Locker:=⟨x.1.M B,x.2.M bO⟩
def zG(y:LI×List (LN×LI)):Flags.Book:=⟨y.1.M B,y.2.M ph⟩
def IT(y:LI×List (LN×LI)):(zG y).entries.map Flags.Entry.row=y.2.M (·.1):=by
 ext zG;rw[ck];rfl
def ao9(J:br t)(hb:br b)(hp:br p)(f:Flags.Locker->Flags.Book->Flags.Plate->bg->Flags.Reply):
  (∀z,ŵ p=Α z->FlagsK9.ofAll Án Ϟ Áq f=Flags.says z)/\
  (ŵ p=Β->∀x y m,gO t=Α x->lR x.1 x.2 b=Α y->iq p=.ok m->x3 m/\FlagsK9.ofAll Án Ϟ Áq f=f (zF x) (zG y) ϗ ((jd x.2 (y.2.M (·.1)) m).M (·.1))):=by
 ext refusal FlagsK9.ofAll;rw[ao,ao,ao];let h0:Flags.LOOKED=65536:=rfl;rw[h0];by_cases q:65536<t.L\/65536<b.L\/65536<p.L
 .rw[ai q,ai q];exact(λz hz=>by rw[<-aU hz];rfl,λh=>(by cases h))
 .rw[ah q,ah q];let(l1,l2):=aj1 J;cases el:gO t with
  |none=>
   let(e,j):=l2 el;rw[j];exact(λz hz=>by rw[<-aU hz];rfl,λh=>(by cases h))
  |some x=>
   rw[l1 x el];dsimp only;let lf:=IR J el;let(W,Y):=aoK (L:=zF x) (nm:=x.1) (ms:=x.2) rfl rfl (ao7 J el) lf (aot el) hb;cases eb:lR x.1 x.2 b with
   |none=>
    let(e,j):=Y eb;rw[show(⟨x.1.M B,x.2.M bO⟩:Flags.Locker)=zF x from rfl,j];exact(λz hz=>by rw[<-aU hz];rfl,λh=>(by cases h))
   |some y=>
    rw[show(⟨x.1.M B,x.2.M bO⟩:Flags.Locker)=zF x from rfl,W y eb];let(p1,p2):=ZI hp;cases ep:iq p with
    |error e=>
     let(e',j):=p2 e ep;rw[j];exact(λz hz=>by rw[<-aU hz];rfl,λh=>(by cases h))
    |ok m=>
     let(q1,U):=p1 m ep;rw[q1];dsimp only;let Z:=ao1 (IT y) m;rw[show(⟨y.1.M B,y.2.M ph⟩:Flags.Book)=zG y from rfl,<-Z,show Flags.DOUBT=1024 from rfl];by_cases hd:1024<uK (y.2.M (·.1)) m.aq
     .rw[ai hd,ai hd];exact(λz hz=>by rw[<-aU hz];rfl,λh=>(by cases h))
     .rw[ah hd,ah hd];apply(λz hz=>(by cases hz),λ_ x' y' m' M F O=>?_);let M:=aU M;subst M;rw[eb] at F;let F:=aU F;subst F;let O:m=m':=by injection O
      subst O;apply(U,?_);rw[ZT (L:=zF x) (B:=zG y) rfl (EH lf) (IS J el) (IT y) (Qi eb) U]
end HD
namespace HD
open PySem PySem.Spec PyProof.Rows L2
open PySem.W (Codec)
def sX:Nat->Nat->Nat
 |0,_=>0
 |k+1,n=>n%2+sX k (n/2)
theorem ZU:∀k,sX k 0=0
 |0=>rfl
 |k+1=>by
  ext sX;rw[ZU k]
@[irreducible] def uT (c:Nat):Nat:=sX 40 c
def ZV(c:Nat):uT c=sX 40 c:=by ext uT;rfl
def apa(c:Nat):Builtin.bitAnd ((c:Nat):Int) 1=((c%2:Nat):Int):=by
 rw[show(1:Int)=((1:Nat):Int) from rfl,bitAnd_nn,at8]
inductive Qj(vs:az)(H:Hp)(Q:VK)(E':XK):Prop
 |mk (c:Nat) (_:vs=[.int ((c:Nat):Int)]) (_:c<2^40) (_:∀H',aj H H'->Q (.int ((uT c:Nat):Int)) H')
section
variable{P:Pg}{w:Wd}{K:FR}{mg:MG}{base:Heap}{CA CR:Addr}
def IU:bG ["choice","ones"] ["choice"] (bc ML):=cj
def apb{f:Addr}{fd:FD}(F:bu K "how_many" "how_many" ML f fd):Ë 1 f fd ["choice"] Qj:=by
 refine F.ok IU Â;let(M,rfl,U,k):=h;refine⟨_,aD (cg 1 IU.nd bf)
  (aD (SG jJ (cy rX Ö bf (bV _)) (aD (SE (i:=1) IU.nd rfl Çs (eA yz Ö bf) SL) (aB (cg 0 IU.nd (eA Ko Ö bf)))))
  Âv),?_⟩
 refine⟨λm σ J=>∃j c o:Nat,σ=[some (.int ((c:Nat):Int)),some (.int ((o:Nat):Int))]/\m=c/\aj H J/\c<2^j/\o+sX j c=sX 40 M,
  ⟨_,40,M,0,rfl,rfl,aj.refl H,U,by simp_all⟩,?_⟩
 rintro m σ J ⟨j,c,o,rfl,rfl,O,hc,e⟩;apply(_,Á,_,_,Á,Á,_,Á,a7 (λz=>?_) (λz=>?_))
 .let z:0<m:=by let:=mQ z;omega
  cases j with
  |zero=>omega
  |succ j=>
   let e:o+(m%2+sX j (m/2))=sX 40 M:=e;apply(_,λσ' H' q=>⟨m/2,by omega,q⟩,_,Á,_,Á,_,_,Á,Á,_,_,Á,Á,_,Á,_,_,Á,Á,Ð,j,m/2,o+m%2,?_,Á,O,by rw[z5] at hc;omega,by omega);rw[apa];show[some (V.int (((m:Nat):Int)/2^1)),some (V.int (((o:Nat):Int)+((m%2:Nat):Int)))]=_;rw[show(((m:Nat):Int)/2^1)=((m/2:Nat):Int) by omega,show(((o:Nat):Int)+((m%2:Nat):Int))=((o+m%2:Nat):Int) by omega]
 .let z:m=0:=by simpa using z
  subst z;rw[ZU] at e;refine Ę;rw[RQ] at e;rw[e,<-ZV];exact k J O
def sY(c:Nat)(j:LN):Bool:=j.all λd=>decide (c&&& d≠0)
inductive Qk(vs:az)(H:Hp)(Q:VK)(E':XK):Prop
 |mk (c:Nat) (p:Addr) (ds:LN) (_:vs=[.int ((c:Nat):Int),.ref p]) (_:H p=Α (.lst (iv (nv ds)))) (_:∀H',aj H H'->Q (.bl (sY c ds)) H')
def ZW:bG ["choice","differences","flags"] ["choice","differences"] (bc MK):=cj
def apc{f:Addr}{fd:FD}(F:bu K "settles" "settles" MK f fd):Ë 1 f fd ["choice","differences"] Qk:=by
 refine F.ok ZW Â;let(c,p,q,rfl,W,k):=h;refine⟨_,aD (i7 jJ Á Åd (c6 2 ZW.nd) (aB (dm (cy iC (eA yz Ö å) bf (bV _)) ϫ dX)))
  ϫ,?_⟩
 refine⟨_,Á,p,Á,⟨_,aa.of W⟩,pK (K:=K) (a:=p) (xs:=iv (nv q)) (λi σ H'=>∃v:Option V,σ=[some (.int ((c:Nat):Int)),some Ĝ,v]/\aj H H'/\∀d∈q.take i,c&&& d≠0)
  ⟨none,rfl,aj.refl H,by simp⟩ (λi σ H' _ ⟨_,_,Z,_⟩=>aa.of (Z _ _ W)) ?_ ?_⟩
 .rintro i v σ M hi ⟨v2,rfl,J,hd⟩;let(d,U,rfl):=jt hi;apply(_,Á,_,Á,_,_,Á,Á,Á,_,Á,?_);rw[bitAnd_nn];refine a7 Î Î
  .let O:c&&& d=0:=by let:=mQ hc;simpa using this
   let:=k M J;rw[show sY c q=false by
    ext sY;rw[List.all_eq_false];exact(d,bo U,by simp[O])] at this
   exact this
  .let O:c&&& d≠0:=λz=>hc (by simp[z]);apply(_,Á,J,λy j=>?_);rw[take_snoc U] at j;rcases fw.mp j with j|j
   .exact hd y j
   .rw[iT.mp j];exact O
 .rintro σ M ⟨v2,rfl,J,hd⟩;let:=k M J;rw[dy,gQ,i5] at hd;rw[show sY c q=true by
   ext sY;rw[jI];exact λd Y=>eQ (hd d Y)] at this
  exact this
def gj(bits:LN):LN:=bits.foldl (λcs b=>cs++cs.M (· +b)) [0]
def Ql(l:LN)(b:Nat):gj (l++[b])=gj l++(gj l).M (· +b):=by
 ext gj;rw[List.foldl_append];rfl
def ZX(l:LN):(gj l).L=2^l.L:=by
 refine snoc_ind (P:=λl=>(gj l).L=2^l.L) Á Ϙ l;rw[Ql,j5,ao,ih,j5,abG,z5]
 af
inductive ZY(vs:az)(H:Hp)(Q:VK)(E':XK):Prop
 |mk (p:Addr) (bits:LN) (_:vs=[.ref p]) (_:H p=Α Ãu) (_:bits.L<=12) (_:∀H' r,Ů r (.lst (iv (nv (gj bits))))->Q ϣ H')
def BK:bG ["bits","choices","bit","choice"] ["bits"] (bc MJ):=cj
def apd{f:Addr}{fd:FD}(F:bu K "choices_of" "choices_of" MJ f fd):Ë 1 f fd ["bits"] ZY:=by
 refine F.ok BK Â;let(p,bits,rfl,U,hl,k):=h;refine⟨_,aD (cg 1 BK.nd (dw (ae bf ag)))
  (aD (Į Åe (c6 2 BK.nd) (aB (cg 1 BK.nd (eA Tv á
   (eB (own:=[("choice",3)]) (te:=bU (gG λi j=>.int (i+j)) Ŀ ř) rfl BK.nd Åd Ê (λ_ _ _ _ _=>c6 3 BK.nd) Ñ (λ_ _ _ _ _=>eA pL ö å))))))
  Âv),?_⟩
 apply((by show 1<=sizeLine;decide),λr O=>?_);refine⟨_,Á,p,Á,⟨_,aa.of ((aI O) _ _ U)⟩,pK (K:=K) (a:=p) (xs:=iv (nv bits)) (λi σ H'=>∃(v:Option V)(q:Addr),σ=[some Ĝ,some Åt,v,none]/\Ů q (.lst (iv (nv (gj ϓ)))))
  ⟨none,r,rfl,aI O,O,by rw[au];rfl⟩ (λi σ H' _ ⟨_,_,_,n⟩=>aa.of (n.1 _ _ U)) ?_ ?_⟩
 .rintro i v σ J hi ⟨Z,q,rfl,z⟩;let(b,M,rfl):=jt hi;let dq:=(bp.mp M).1;let b7:(gj ϓ).L<=4096:=by
   rw[ZX];refine gq (yn Ð (show(bits.take i).L<=12 by rw[iS];grind)) Ð
  refine⟨_,Á,_,Á,q,Á,⟨_,aa.of z.2.2⟩,λD hD=>fW (K:=K) (a:=q) (xs:=iv (nv (gj ϓ))) (fg J D λj=>(((gj ϓ).D j 0+b:Nat):Int)) Áa (λj H' _ f=>aa.of (f.1 _ _ z.2.2)) Äm Àx⟩
  .let(c,hc,rfl):=jt hj;let oE:=(bp.mp hc).1;apply(Á,eK ⟨_,Á,_,Á,_,_,Á,Á,fg.step hD Ù f Ĥ ?_⟩);rw[getD_at hc];rfl
  .let hd:=f.2;rw[dy,gQ] at hd;let e:(List.range (gj ϓ).L).M (λj=>(((gj ϓ).D j 0+b:Nat):Int))=nv ((gj ϓ).M (· +b)):=by
    ext nv;rw[ck];exact vV (l:=gj ϓ) (g:=λc=>((c+b:Nat):Int)) (d:=0)
   rw[e] at hd;apply(q,D,_,_,Á,Á,f.1 _ _ z.2.2,hd,?_,λY W=>⟨_,Y,Á,(z.1.R f.1).R (aI W),(z.1.R f.1).free W,?_⟩)
   .rw[dy,gQ,dy,gQ,ao];exact tp (gc Ù)
   .rw[au,take_snoc M,Ql];simp[nv]
 .rintro σ J ⟨Z,q,rfl,z⟩;rw[dy,gQ,i5] at z;exact(_,Á,k J q z)
end
structure rF where
 a:Addr
 c:Addr
 sh:Nat
 cells:LI
def wu(t:rF):jq:=[(t.a,.tup [.int ((t.sh:Nat):Int),.ref t.c]),(t.c,.lst (iv t.cells))]
def rF.m(t:rF):Nat×LI:=(t.sh,t.cells)
structure i4 where
 a:Addr
 dx:Addr
 en:df
 fl:Addr
 fs:List rF
def Qm(p:i4):List (Str×V):=[("entries",.ref p.en.a),("flags",.ref p.fl)]
def ZZ(p:i4):(Qm p).Q ("entries":Str)=Α (.ref p.en.a):=gM
def Z0(p:i4):(Qm p).Q ("flags":Str)=Α (.ref p.fl):=(fq É).R gM
structure rG(CA:Addr)(H:Hp)(p:i4):Prop where
 a:H p.a=Α (.ins CA p.dx (Qm p))
 en:H p.en.a=Α (.lst (iv (nv p.en.ns)))
 fl:H p.fl=Α (.lst (p.fs.M λt=>V.ref t.a))
 fs:∀t∈p.fs,aV H (wu t)
def rG.same{CA:Addr}{H H':Hp}{p:i4}(h:rG CA H p)(s:aj H H'):rG CA H' p:=⟨s _ _ h.a,s _ _ h.en,s _ _ h.fl,λt j=>(h.fs t j).E s⟩
abbrev Face:=Nat×LI
def i4.m(p:i4):LN×List Face:=(p.en.ns,p.fs.M rF.m)
def Qn(f g:List Face)(bits:LN):Int:=(p9 (λi=>!decide (f[i]? =g[i]?)) (λi=>((bits.D i 0:Nat):Int)) bits.L).sum
abbrev IV(t:Face):PyData:=.tuple [.int ((t.1:Nat):Int),.list (t.2.M PyData.int)]
def ape(t u:Face):PyData.eqv (IV t) (IV u)=decide (t=u):=by
 let(a,l):=t;let(b,m):=u;simp only[PyData.eqv,PyData.eqvAll,xo];by_cases j:a=b
 .subst j;by_cases h2:l=m
  .subst h2;simp
  .simp[h2]
 .let:¬((a:Int)=(b:Int)):=by af
  simp[j,this]
def Z1(t:Face):SeqAt.shaped (IV t)=true:=by
 ext SeqAt.shaped;rw[jH,lZ];let j:=Lg t.2;let h2:=Lh t.2;refine Ϧ
 .simp only[PyData.canLay0,PyData.canLayAll0,j,JL]
 .simp only[PyData.depth,PyData.depthAll]
  af
def Z2{K:FR}{H:Hp}{t:rF}(h:aV H (wu t)):Ál (.ref t.a) (IV t.m):=by
 let j:H t.a=Α (.tup [.int ((t.sh:Nat):Int),.ref t.c]):=h (t.a,_) (by simp[wu]);let h2:H t.c=Α (.lst (iv t.cells)):=h (t.c,_) (by simp[wu]);exact .tup (bx.of j) (.cons (.int _) (.cons (.lst (aa.of h2) (qO _)) .nil))
inductive Z3(CA:Addr)(vs:az)(H:Hp)(Q:VK)(E':XK):Prop
 |mk (p q:i4) (pb:Addr) (bits:LN) (_:vs=[.ref p.a,.ref q.a,.ref pb]) (_:rG CA H p) (_:rG CA H q) (_:H pb=Α Ãu) (_:bits.L<=1000) (_:bits.L<=p.fs.L) (_:bits.L<=q.fs.L) (_:∀H',aj H H'->Q (.int (Qn p.m.2 q.m.2 bits)) H')
section
variable{P:Pg}{w:Wd}{K:FR}{mg:MG}{base:Heap}{CA CR CK:Addr}{C:Cs}
def Qo:bG ["one","other","bits","place","bit"] ["one","other","bits"] (bc MI):=cj
def apf{f:Addr}{fd:FD}(F:bu K "difference" "difference" MI f fd)(T:ju K CA ["entries","flags"])(tS:mg "sum"=Β)(tE:mg "enumerate"=Β):Ë 1 f fd ["one","other","bits"] (Z3 CA):=by
 refine F.ok Qo Â;let(p,q,Z,bits,rfl,hp,hq,Y,hl,hlp,hlq,k):=h;refine⟨_,aB (aX (c9 (KG Á) Ï tS boot_sum (ae (eB (own:=[("place",3),("bit",4)]) (g:=g2 K 3 4) (tt:=mY (bU (TX K) (bU Ũ (fk K Ų "flags") Ŀ) (bU Ũ (fk K ž "flags") Ŀ))) (te:=ay 4) Á Qo.nd
   (jP Ï tE ł) Ê (λ_ _ _ _ _=>iB 3 4 Qo.nd)
   (λ_ _ _ _ _=>oG (cy (F3 hr.units) (cK dc ÿ ö Õ) (cK dc Ň ö Õ) (bV _))) (λ_ _ _ _ _=>pv 4)) ag))),?_⟩
 apply(_,Á,Z,_,Á,aa.of Y,λD W=>mi (K:=K) (a:=Z) (xs:=iv (nv bits)) (nj H D (λi=>!decide (p.m.2[i]? =q.m.2[i]?)) (λi=>((bits.D i 0:Nat):Int))) (nj.zero W) (λi H2 _ f=>aa.of (f.1 _ _ Y)) (λi x Tt H2 hi f2 hT=>?_) Åw)
 .let(z,hz,rfl):=jt hi;let dq:=(bp.mp hz).1;let M:aj H2 (Ū (.tup [.int (i:Nat),.int ((z:Nat):Int)])):=aI hT;let s3:=f2.1.R M;let qB:=hp.E s3;let U:=hq.E s3;let j:p.fs[i]? =Α p.fs[i]:=cJ (by omega);let J:q.fs[i]? =Α q.fs[i]:=cJ (by omega);refine è;apply(_,Á,aZ qB.a T.1 (T.2 _ Ä) (Z0 p) ⟨_,Á,p.fl,_,_,.ref p.fs[i].a,Á,Á,aa.of qB.fl,f7 (by rw[bA,j];rfl),_,Á,aZ U.a T.1 (T.2 _ Ä) (Z0 q) ⟨_,Á,q.fl,_,_,.ref q.fs[i].a,Á,Á,aa.of U.fl,f7 (by rw[bA,J];rfl),_,_,Z2 (qB.fs _ (bo j)),Z2 (U.fs _ (bo J)),Z1 _,Z1 _,_,Á,?_⟩⟩);rw[ape];let O:(!decide (p.m.2[i]? =q.m.2[i]?))=!decide (p.fs[i].m=q.fs[i].m):=by
   ext i4.m;rw[bA,bA,j,J];simp
  refine a7 Î Î
  .exact(_,Á,f2.yes W Ù M (O.R hc) (by rw[getD_at hz]))
  .exact f2.no M (by rw[O];exact hc)
 .let e:=f2.2;rw[dy,gQ] at e;exact(D,_,Á,aa.of e,k H2 f2.1)
end
def zH(j n:Nat):LN:=(List.range n).M λp=>2^(8*j+p)
def fU(M:LN):LN:=M.zipIdx.flatMap λx=>zH x.2 x.1
def Z4(l:LN)(n:Nat):fU (l++[n])=fU l++zH l.L n:=by
 ext fU;rw[auj,wI];simp
def Qp(l:LN):(fU l).L=l.sum:=by
 refine snoc_ind (P:=λl=>(fU l).L=l.sum) Á Ϙ l;rw[Z4,j5,ih,Fu];simp[zH]
theorem IW{l:LN}(h:∀x∈l,x<=100):l.sum<=100*l.L:=by
 induction l with
 |nil=>simp
 |cons x l q=>
  let z:=h x eP;let h2:=q λy j=>h y (aL _ j);rw[gr,dh]
  af
inductive Z5(C:Cs)(vs:az)(H:Hp)(Q:VK)(E':XK):Prop
 |mk (p:d7) (_:vs=[.ref p.a]) (_:rk C H p) (_:∀H' r,Ů r (.lst (iv (nv (fU (p.aq.M λg=>g.flags.L)))))->Q ϣ H')
section
variable{P:Pg}{w:Wd}{K:FR}{mg:MG}{base:Heap}{CA CR CK:Addr}{C:Cs}
def EL:bG ["plate","bits","j","glimpse","place"] ["plate"] (bc MD):=cj
def apg{f:Addr}{fd:FD}(F:bu K "bits_of_flags" "bits_of_flags" MD f fd)(T:ly K C)(tL:mg "len"=Β)(tR:mg "range"=Β)(tE:mg "enumerate"=Β)(cF:Cn mg "MOST_FLAGS" Éo):Ë 1 f fd ["plate"] (Z5 C):=by
 refine F.ok EL Â;let(p,rfl,z,k):=h;refine⟨_,aD (cg 1 EL.nd Ĩ)
  (aD (Į Éi (iB 2 3 EL.nd) (aB (pJ (ó á (ae
   (eB (own:=[("place",4)]) (te:=bU (rI Kl λi j=>.int (i*2^j.toNat)) Äq (bU (gG λi j=>.int (i+j)) (bU (rI FT λi j=>.int (i*j)) (tC Éo) ř) Ãt)) rfl EL.nd
    (FK Ï tR (ae (c9 gw Ï tL PySem.boot_len (ae Ãp ag)) ag)) Ê
    (λ_ _ _ _ _=>c6 4 EL.nd) Ñ (λ_ _ _ _ _=>eA FU bf (eA pL (eA SK (cw cF) å) ę))) ag)))))
  Âv),?_⟩
 apply(dj _,λD U=>?_);let s1:aj H (upd H D ã):=aI U;let mU:=z.E s1;let YA:=z.c7;refine⟨_,Á,aZ mU.l.pl T.cP T.m9 Äx ⟨p.gl,_,Á,aa.of mU.l.gl,Lf (K:=K) (a:=p.gl) (xs:=p.aq.M λg=>V.ref g.a) (λi σ H'=>∃Y Z:Option V,σ=[some ϭ,some ϔ,Y,Z,none]/\aj H H'/\H' D=Α (.lst (iv (nv (fU ((p.aq.M λg=>g.flags.L).take i))))))
  ⟨none,none,rfl,s1,au⟩ (λi σ H' _ ⟨_,_,_,M,_⟩=>aa.of (M _ _ z.l.gl)) ?_ ?_⟩⟩
 .rintro i x Tt σ H2 hi ⟨Y,Z,rfl,M,J⟩ hT;let(g,W,rfl):=gR hi;let dq:=(bp.mp W).1;let HE:=bo W;let n8:=z.flags g HE;let O:aj H2 (Ū (.tup [.int (i:Nat),.ref g.a])):=aI hT;let EM:(Ū (.tup [.int (i:Nat),.ref g.a])) Tt=Α (.tup [.int (i:Nat),.ref g.a]):=au;generalize upd H2 Tt (.tup [.int (i:Nat),.ref g.a])=H3 at O EM;let lF:=M.R O;let qB:=z.E lF;apply(Tt,_,Á,bx.of EM,Á,_,_,Á,_,_,Á,Á,?_);let EN:=qB.l.sub HE;apply(_,Á,.inl ⟨Á,_,aa.of (O _ _ J)⟩,_,Á,aZ (EN.ga) T.cG T.vN (vM g) ⟨g.l,_,Á,.inl (aa.of EN.fl),(g.flags.L:Int),by simp,by simp_all,by af,λD2 cq=>?_⟩);rw[BV];apply C0 (lo:=0) (n:=g.flags.L) (fg H3 D2 λq=>((2^(8*i+q):Nat):Int)) Çk (λq H' hq f=>?_) þ
  .rw[R4];apply(Á,eK ⟨_,Á,_,_,Á,Á,.inl ⟨by decide,by decide⟩,_,Á,_,_,Á,Á,_,_,Á,Á,⟨by af,by af,by decide⟩,?_⟩);apply fg.step cq Ù f Ĥ ?_;rw[show(8*((i:Nat):Int)+((q:Nat):Int)).toNat=8*i+q by rfl];simp
  .let hd:=f.2;let e:(List.range g.flags.L).M (λq=>((2^(8*i+q):Nat):Int))=nv (zH i g.flags.L):=by
    ext nv zH;rw[ck];rfl
   rw[e] at hd;let eg:(p.aq.M λg=>g.flags.L)[i]? =Α g.flags.L:=by rw[bA,W];rfl
   let iP:(fU ((p.aq.M λg=>g.flags.L).take i)).L<=10000:=by
    rw[Qp];apply gq (IW λx hx=>?_) ?_
    .let(g',IX,rfl):=bH.mp (zY hx);exact z.flags g' IX
    .rw[iS,ao];grind
   apply(D,D2,_,_,Á,Á,f.1 _ _ (O _ _ J),hd,?_,_,_,Á,fe (lF.R f.1) U,?_)
   .rw[dy,gQ,dy,gQ];simp only[zH,ao,il];exact tp (gc Ù)
   .rw[au,take_snoc eg,Z4,iS,ao,RW Ù];simp[nv]
 .rintro σ H2 ⟨Y,Z,rfl,M,J⟩;rw[ao,<-ao (f:=λg:cA=>g.flags.L),i5] at J;exact(_,Á,k H2 D ⟨M,U,J⟩)
end
def uU(ms:aJ)(classes:LI)(side:Nat)(fl:LN):List Face:=fl.M λf=>jU classes side Ϝ
structure EO(CR:Addr)(n:Nat)(H:Hp)(r:eM):Prop where
 l:aV H Æm
 lt:∀h∈r.hs.m,h.L<=100/\∀f∈h,f<n
 c7:r.hs.ls.L<=100
def Qq{CR:Addr}{H:Hp}{r:eM}(h:aV H Æm):H r.a=Α (.ins CR r.dx (BB r)):=h (r.a,_) (by simp[qp])
def Z6{CR:Addr}{H:Hp}{r:eM}(h:aV H Æm):aV H (fb r.hs):=λx j=>h x (by ext qp;exact aL _ (rH _ (wH _ j)))
def Z7{CR:Addr}{H:Hp}{r:eM}(h:aV H Æm):H r.sd.a=Α (.lst (iv (nv r.sd.ns))):=h (r.sd.a,_) (by simp[qp,lsN])
def aph{CR:Addr}{H:Hp}{r:eM}(h:aV H Æm):H r.nums.a=Α (.lst (iv (nv r.nums.ns))):=h (r.nums.a,_) (by simp[qp,lsN])
def EO.same{CR:Addr}{n:Nat}{H H':Hp}{r:eM}(h:EO CR n H r)(s:aj H H'):EO CR n H' r:=⟨h.l.E s,h.lt,h.c7⟩
def api(r:eM):(BB r).Q ("hoists":Str)=Α (.ref r.hs.a):=(fq É).R gM
def apj(r:eM):(BB r).Q ("sides":Str)=Α (.ref r.sd.a):=(fq É).R ((fq É).R gM)
def apk(r:eM):(BB r).Q ("entries":Str)=Α (.ref r.nums.a):=gM
structure apl(H H':Hp)(l:Addr)(fs:List rF):Prop where
 at_:H' l=Α (.lst (fs.M λt=>V.ref t.a))
 n:H l=Β
 lies:∀t∈fs,aV H' (wu t)
 nw:∀t∈fs,ja H (wu t)
inductive Z8(C:Cs)(CK CR:Addr)(vs:az)(H:Hp)(Q:VK)(E':XK):Prop
 |mk (pk:Addr) (ks:List ax) (p:d7) (r:eM) (side:Nat) (_:vs=[.ref pk,.ref p.a,.ref r.a,.int (side:Nat)]) (_:Ń ks) (_:rk C H p) (_:EO CR ks.L H r) (_:∀H' l fs,aj H H'->apl H H' l fs->fs.M rF.m=uU Ì p.classes side r.hs.m.flatten->Q Âa H')
section
variable{P:Pg}{w:Wd}{K:FR}{mg:MG}{base:Heap}{CA CR CK:Addr}{C:Cs}
def zI:bG ["kinds","plate","reading","side","seen","hoist","flag"] ["kinds","plate","reading","side"] (bc MF):=cj
inductive FsI(C:Cs)(pk:Addr)(ms:aJ)(p:d7)(r:eM)(side:Nat)(D:Addr)(H:Hp)(i:Nat)(σ:L2.St)(H':Hp):Prop
 |mk (v:Option V) (sg:List eC) (_:σ=[some Ær,some ϭ,some (.ref r.a),some (.int (side:Nat)),some ϔ,v,none]) (_:aj H H') (_:H' D=Α (.lst (sg.M λs=>V.ref s.a))) (_:∀s∈sg,Lies H' (gW C s)) (_:∀s∈sg,∀x∈gW C s,H x.1=Β/\x.1≠D) (_:sg.M eC.m=uU ms p.classes side (r.hs.m.take i).flatten)
def apn{f:Addr}{fd:FD}(F:bu K "flags_seen" "flags_seen" MF f fd)(T:ly K C)(TR:ju K CR ["entries","hoists","sides"])(dS:Ç 3 "sighting_of" ["kind","classes","side"] År):Ë 4 f fd ["kinds","plate","reading","side"] (Z8 C CK CR):=by
 refine F.ok zI Â;let(pk,ks,p,r,side,rfl,hk,hp,W,k):=h;refine⟨_,aD (cg 4 zI.nd Ĩ)
  (aD (Į (dY Àt) (c6 5 zI.nd) (aB (pJ (ó ę (ae
   (eB (own:=[("flag",6)]) (te:=g9 År [] E0 (ba (bU Ũ Ų (ay 6)) (ba (fk K ž "classes") Âk))) rfl zI.nd (dY Ãd) Ê
    (λ_ _ _ _ _=>c6 6 zI.nd) Ñ (λ_ _ _ _ _=>bz dS (ae (cK dc Ö Ϫ Õ) (ae Ň ĳ)))) ag)))))
  (aB (aX (eB (own:=[("flag",6)]) (te:=vw (ba (fk K (ay 6) "shape") (ba (fk K (ay 6) "cells") du))) rfl zI.nd (dY ę) Ê
   (λ_ _ _ _ _=>c6 6 zI.nd) Ñ (λ_ _ _ _ _=>rY (ae (aY Ϫ rfl) (ae (aY Ϫ rfl) ag))))))),?_⟩
 apply(dj _,λD hD=>?_);let s1:aj H (upd H D ã):=aI hD;let qW:=W.E s1;let Z9:=Z6 W.l;refine⟨_,Á,aZ (Qq qW.l) TR.1 (TR.2 _ Ä) (api r) ⟨r.hs.a,Á,⟨_,aa.of (jv (Z6 qW.l))⟩,pK (K:=K) (a:=r.hs.a) (xs:=r.hs.ls.M λx=>V.ref x.a) (FsI C pk Ì p r side D H)
  ⟨none,[],rfl,s1,au,by simp,by simp,rfl⟩ (λi σ H' _ h=>(by let(_,_,_,s2):=h;exact aa.of (s2 _ _ (jv Z9)))) ?_ ?_⟩⟩
 .rintro i v σ H2 hi ⟨v5,sg,rfl,s2,Y,pQ,IY,ft⟩;let(ho,Qr,rfl):=gR hi;let IZ:=bo Qr;let dq:=(bp.mp Qr).1;let ehm:r.hs.m[i]? =Α ho.ns:=by ext cE.m;rw[bA,Qr];rfl
  let(hol,hof):=W.lt _ (bo ehm);let r9:=s2 _ _ (ng Z9 IZ);let ui:=hk.E s2;let qA:=hp.E s2;refine⟨_,Á,.inl ⟨Á,_,aa.of Y⟩,_,Á,ho.a,Á,⟨_,aa.of r9⟩,λD2 cq=>fW (K:=K) (a:=ho.a) (xs:=iv (nv ho.ns)) (jT (gW C) eC.a (λj b=>∀q,ho.ns[j]? =Α q->b.m=jU p.classes side ((ks.M ax.m).D q eX)) H2 D2) Ác (λj H' _ f=>aa.of (f.E _ _ r9)) Äm Àx⟩
  .let(q,hq,rfl):=jt hj;let oE:=(bp.mp hq).1;let uk:=hof q (bo hq);let U:ks[q]? =Α ks[q]:=cJ uk;let Ie:=ui.E f.E;let qB:=qA.E f.E;apply(Á,eK ⟨_,Á,_,Á,pk,_,_,.ref ks[q].a,Á,Á,aa.of Ie.a,f7 (by rw[bA,U];rfl),_,Á,aZ qB.l.pl T.cP T.DG (GX p) ⟨_,Á,ks[q],p.cl,p.classes,side,Á,nZ Ie.l (bo U),hk.look _ (bo U),aa.of qB.l.cl,hp.xM,λH4 sg' s4 c1 c2 ls fr=>?_⟩⟩);apply jT.step cq Ù f s4 sg' (λq' ko=>?_) ls fr;rw[hq] at ko;rw[<-aU ko,ik,bA,U];ext eC.m jU;rw[c1,c2];rfl
  .let(bs,iP,s3,iL,r3,l3,f3):=jT.end f;rw[dy,gQ] at iP;let eb:bs.M eC.m=uU Ì p.classes side ho.ns:=Bc iP λj b q h1 h2=>r3 j b h1 q h2;let b7:sg.L<=10000:=by
    let:=cb List.length ft;rw[ao] at this;delta uU at this;rw[ao,Se] at this;rw[this];apply gq (IW λx hx=>?_) ?_
    .let(h',ER,rfl):=bH.mp hx;exact(W.lt h' (zY ER)).1
    .let:=W.c7;rw[ao,iS,ig];grind
   let hDb:∀b∈bs,∀x∈gW C b,H x.1=Β/\x.1≠D:=λb J x hx=>⟨s2.free (f3 b J x hx),λz=>by
    let:=f3 b J x hx;rw[z,Y] at this;cases this⟩
   apply(D,D2,_,_,Á,Á,s3 _ _ Y,iL,?_,_,sg++bs,Á,fe ğ hD,?_,?_,?_,?_)
   .rw[ao,ao];exact tp (gc Ù)
   .rw[au,bI]
   .intro b J x hx;rcases fw.mp J with J|J
    .rw[aA (IY b J x hx).2];exact s3 _ _ (pQ b J x hx)
    .rw[aA (hDb b J x hx).2];exact l3 b J x hx
   .intro b J;rcases fw.mp J with J|J
    .exact IY b J
    .exact hDb b J
   .rw[bI,ft,eb,take_snoc ehm];ext uU;simp
 .rintro σ H2 ⟨v5,sg,rfl,s2,Y,pQ,IY,ft⟩;rw[ao,<-ig,i5] at ft;refine⟨_,Á,D,Á,⟨_,aa.of Y⟩,λD2 cq=>fW (K:=K) (a:=D) (xs:=sg.M λs=>V.ref s.a) (jT (λt:rF=>[(t.a,.tup [.int ((t.sh:Nat):Int),.ref t.c])]) rF.a (λj t=>∀s,sg[j]? =Α s->t.c=s.l/\t.sh=s.shape/\t.cells=s.cells) H2 D2) Ác (λj H' _ f=>aa.of (f.E _ _ Y)) Äm Àx⟩
  .let(M,Z,rfl):=gR hj;let oE:=(bp.mp Z).1;let qN:=(pQ M (bo Z)).E f.E;let b7:sg.L<=10000:=by
    let:=cb List.length ft;rw[ao] at this;delta uU at this;rw[ao,Se] at this;rw[this];apply gq (IW λx hx=>?_) ?_
    .let(h',ER,rfl):=bH.mp hx;exact(W.lt h' ER).1
    .let:=W.c7;rw[ao,ig]
     af
   apply(Á,eK ⟨_,Á,aZ qN.sa T.cS T.yV (GY M) ⟨_,Á,aZ qN.sa T.cS T.DF (DE M) ⟨(by show 2<=sizeLine;decide),λt O=>?_⟩⟩⟩);apply jT.step cq Ù f (aI O) ⟨t,M.l,M.shape,M.cells⟩ (λs' mX=>?_) ϩ ϩ
   .rw[Z] at mX;cases mX;exact(Á,Á,Á)
   .rw[iT.mp hx];exact au
   .rw[iT.mp hx];exact O
  .let(ts,Bl,s3,iL,r3,l3,f3):=jT.end f;rw[ao] at Bl;let jZ:∀t∈ts,∃s∈sg,t.c=s.l/\t.sh=s.shape/\t.cells=s.cells:=λt O=>by
    let(j,hj,rfl):=nt O;let U:sg[j]? =Α (sg[j]' Ù):=cJ (by omega);exact(_,bo U,r3 j _ (cJ hj) _ U)
   apply k H3 D2 ts ğ ⟨iL,s2.free cq,λt O x hx=>?_,λt O x hx=>?_⟩ ?_
   .let(M,Z,c1,c2,c3):=jZ t O;simp only[wu,a9,k7,k8] at hx;rcases hx with rfl|rfl
    .exact l3 t O _ (iT.mpr Á)
    .show H3 t.c=Α (.lst (iv t.cells));rw[c1,c3];exact s3 _ _ (pQ M Z).sl
   .let(M,Z,c1,c2,c3):=jZ t O;simp only[wu,a9,k7,k8] at hx;rcases hx with rfl|rfl
    .exact s2.free (f3 t O _ (iT.mpr Á))
    .show H t.c=Β;rw[c1];exact(IY M Z (M.l,.lst (iv M.cells)) (by simp[gW])).1
   .rw[<-ft];apply Bc Bl λj t s h1 h2=>?_;let(_,c2,c3):=r3 j t h1 s h2;ext rF.m eC.m;rw[c2,c3]
end
abbrev wx:=LN×bg×LN
abbrev sZ:=LN×List Face
def tj(ms:aJ)(classes:LI)(r:wx)(j:LN):List sZ:=j.M λd=>(r.1,uU ms classes d r.2.1.flatten)
def j0(ms:aJ)(classes:LI)(rs:List wx):List sZ:=rs.flatMap λr=>tj ms classes r r.2.2
def Qs(D:Addr)(p:i4):Prop:=p.a≠D/\p.en.a≠D/\p.fl≠D/\∀t∈p.fs,∀x∈wu t,x.1≠D
def rG.upd{CA D:Addr}{H:Hp}{p:i4}{o:HO}(h:rG CA H p)(n:Qs D p):rG CA Èk p:=⟨by rw[aA n.1];exact h.a,by rw[aA n.2.1];exact h.en,by rw[aA n.2.2.1];exact h.fl,λt j=>(h.fs t j).upd (n.2.2.2 t j)⟩
inductive aac(C:Cs)(CK CR CA:Addr)(vs:az)(H:Hp)(Q:VK)(E':XK):Prop
 |mk (pk:Addr) (ks:List ax) (p:d7) (q:Addr) (rs:List eM) (_:vs=[.ref pk,.ref p.a,.ref q]) (_:Ń ks) (_:rk C H p) (_:H q=Α (.lst (rs.M λr=>V.ref r.a))) (_:∀r∈rs,EO CR ks.L H r) (_:rs.L<=1000) (_:∀r∈rs,r.sd.ns.L<=100) (_:∀H' l(fh:List i4),aj H H'->H l=Β->H' l=Α (.lst (fh.M λa=>V.ref a.a))->(∀a∈fh,rG CA H' a)->fh.M i4.m=j0 Ì p.classes ϒ->Q Âa H')
section
variable{P:Pg}{w:Wd}{K:FR}{mg:MG}{base:Heap}{CA CR CK:Addr}{C:Cs}
def Ja:bG ["kinds","plate","readings","appearances","reading","side"] ["kinds","plate","readings"] (bc ME):=cj
inductive ApI(CA pk:Addr)(p:d7)(q D:Addr)(H:Hp)(v4:Option V)(l:List sZ)(σ:L2.St)(H':Hp):Prop
 |mk (v5:Option V) (fh:List i4) (_:σ=[some Ær,some ϭ,some Åt,some ϔ,v4,v5]) (_:aj H H') (_:H' D=Α (.lst (fh.M λa=>V.ref a.a))) (_:∀a∈fh,rG CA H' a/\Qs D a) (_:fh.M i4.m=l)
def apr{f:Addr}{fd:FD}(F:bu K "appearances_of" "appearances_of" ME f fd)(TR:ju K CR ["entries","hoists","sides"])(dA:Ā "Appearance" CA ["entries","flags"])(dF:Ç 4 "flags_seen" ["kinds","plate","reading","side"] (Z8 C CK CR)):Ë 5 f fd ["kinds","plate","readings"] (aac C CK CR CA):=by
 refine F.ok Ja Â;let(pk,ks,p,q,rs,rfl,hk,hp,hq,xS,Ed,pQ,k):=h;refine⟨_,aD (cg 3 Ja.nd Ĩ)
  (aD (Į (dY å) (c6 4 Ja.nd) (aB (Į (dY (aY ę rfl)) (c6 5 Ja.nd) (aB (pJ (Ü ö (ae
   (pW dA hr (ae (aY ę rfl) (ae (bz dF (ae Ö (ae á (ae ę ŀ)))) ag))) ag)))))))
  (aB (aX ö))),?_⟩
 apply(dj _,λD hD=>?_);let s1:aj H (upd H D ã):=aI hD;refine⟨_,Á,q,Á,⟨_,aa.of (s1 _ _ hq)⟩,pK (K:=K) (a:=q) (xs:=rs.M λr=>V.ref r.a) (λi σ H'=>∃v4,ApI CA pk p q D H v4 (j0 Ì p.classes ((rs.M eM.m).take i)) σ H')
  ⟨none,none,[],rfl,s1,au,by simp,rfl⟩ (λi σ H' _ h=>(by let(_,_,_,_,W):=h;exact aa.of (W _ _ hq))) ?_ ?_⟩
 .rintro i v σ H2 hi ⟨v4,v5,fh,rfl,W,dg,x4,hm⟩;let(r,oN,rfl):=gR hi;let n0:=bo oN;let dq:=(bp.mp oN).1;let nR:=xS r n0;let Z:=nR.E W;let em:ϒ[i]? =Α r.m:=by rw[bA,oN];rfl
  let t9:(j0 Ì p.classes ((rs.M eM.m).take i)).L<=100000:=by
   ext j0;rw[auk];apply gq (IW λx U=>?_) ?_
   .let(m,AI,rfl):=bH.mp U;let(r',apt,rfl):=bH.mp (zY AI);ext tj;rw[ao];exact pQ r' apt
   .rw[ao,iS,ao];grind
  let fin:j0 Ì p.classes ((rs.M eM.m).take (i+1))=j0 Ì p.classes ((rs.M eM.m).take i)++tj Ì p.classes r.m r.m.2.2:=by
   rw[take_snoc em];ext j0;rw[wI];simp
  rw[fin];generalize j0 Ì p.classes ((rs.M eM.m).take i)=L0 at hm t9;let avH:=pQ r n0;let apu:=Z7 Z.l;refine⟨_,Á,aZ (Qq Z.l) TR.1 (TR.2 _ Ä) (apj r) ⟨r.sd.a,Á,⟨_,aa.of apu⟩,pK (K:=K) (a:=r.sd.a) (xs:=iv (nv r.sd.ns)) (λj σ H'=>ApI CA pk p q D H (some (.ref r.a)) (L0++tj Ì p.classes r.m (r.sd.ns.take j)) σ H')
   ⟨v5,fh,rfl,W,dg,x4,by rw[hm];simp[tj]⟩ (λj σ H' _ h=>(by let(_,_,_,M):=h;exact aa.of (M _ _ (Z7 nR.l)))) ?_ ?_⟩⟩
  .rintro j v σ H3 hj ⟨w5,Jb,rfl,M,O,Y,yQ⟩;let(d,hd,rfl):=jt hj;let oE:=(bp.mp hd).1;let aaf:=nR.E M;apply(_,Á,.inl ⟨Á,_,aa.of O⟩,_,Á,aZ (Qq aaf.l) TR.1 (TR.2 _ Ä) (apk r) ⟨_,Á,_,Á,_,Á,_,Á,pk,ks,p,r,d,Á,hk.E M,hp.E M,aaf,λH4 l fs s4 tf em4=>?_⟩);intro x dx U gV aN;refine⟨x,dx,[.ref r.nums.a,.ref l],Á,Á,au,λH5 e5 e2=>Ţ⟩;let s5:aj H4 H5:=λb o eb=>e2 b o (by rw[aA (eS eb U),aA (eS eb gV)];exact eb) (eS eb U);let Qt:=s4.R s5;let um:=Qt _ _ O;let xD:x≠D:=λz=>by rw[z,s4 _ _ O] at U;cases U
   let yK:H r.nums.a=Α (.lst (iv (nv r.nums.ns))):=aph nR.l;let nD:Qs D ⟨x,dx,r.nums,l,fs⟩:=by
    apply(xD,λz=>?_,λz=>?_,λt ht y hy z=>?_)
    .let z:r.nums.a=D:=z;rw[z,hD] at yK;cases yK
    .let z:l=D:=z;let:=tf.n;rw[z,O] at this;cases this
    .let:=tf.nw t ht y hy;rw[z,O] at this;cases this
   let ok5:rG CA H5 ⟨x,dx,r.nums,l,fs⟩:=⟨e5,s5 _ _ (s4 _ _ (M _ _ yK)),s5 _ _ tf.at_,λt ht=>(tf.lies t ht).E s5⟩;let b7:Jb.L<=200000:=by
    let h1:=cb List.length yQ;rw[ao,j5] at h1;delta tj at h1;rw[ao,iS] at h1;grind
   apply(D,_,_,Á,Á,um,by rw[ao];exact gc Ù,_,Jb++[⟨x,dx,r.nums,l,fs⟩],rfl,fe (M.R Qt) hD,?_,λa J=>?_,?_)
   .rw[au,bI];rfl
   .rcases fw.mp J with J|J
    .exact(((Y a J).1.same Qt).upd (Y a J).2,(Y a J).2)
    .rw[iT.mp J];exact(ok5.upd nD,nD)
   .rw[bI,yQ,take_snoc hd];ext tj;rw[bI,<-rK];show _++[(r.nums.ns,fs.M rF.m)]=_;rw[em4];rfl
  .rintro σ H3 ⟨w5,Jb,rfl,M,O,Y,yQ⟩;rw[dy,gQ,i5] at yQ;exact(_,w5,Jb,Á,M,O,Y,yQ)
 .rintro σ H2 ⟨v4,v5,fh,rfl,W,dg,x4,hm⟩;rw[ao,<-ao (f:=eM.m),i5] at hm;exact(_,Á,k H2 D fh W hD dg (λa J=>(x4 a J).1) hm)
end
def lV(f g:List Face)(bits:LN):Nat:=(((List.range bits.L).J λi=>!decide (f[i]? =g[i]?)).M λi=>bits.D i 0).sum
theorem apx(l:LN):(l.M λn=>((n:Nat):Int)).sum=((l.sum:Nat):Int):=by
 induction l with
 |nil=>rfl
 |cons x l j=>rw[a8,gr,j,gr];rfl
def apy{a b:LN}:nv a=nv b↔a=b:=by
 apply(λh=>?_,λh=>by rw[h]);let h2:=cb (List.map Int.toNat) h;delta nv at h2;simpa [ck,abI] using h2
def apz(f g:List Face)(bits:LN):Qn f g bits=((lV f g bits:Nat):Int):=by
 ext Qn lV p9;rw[<-apx,ck];rfl
abbrev dE(z:Nat):Key×V:=(Sum.inl ((z:Nat):Int),.bl true)
def zK(ks:LN)(z:Nat):LN:=if z∈ks then ks else ks++[z]
def apA(ks:LN)(z:Nat):putK (ks.M dE) (Sum.inl ((z:Nat):Int)) (.bl true)=(zK ks z).M dE:=by
 let j:((ks.M dE).any λkv=>decide (kv.1=(Sum.inl ((z:Nat):Int):Key)))=true↔z∈ks:=by
  rw[tw];apply(λ⟨p,J,e⟩=>?_,λh=>⟨dE z,z4 h,by simp⟩);let(y,F,rfl):=bH.mp J;let e:=mQ e;let e:((y:Nat):Int)=z:=À e
  rw[show z=y by af];exact F
 ext putK zK;by_cases h:z∈ks
 .rw[ai (j.mpr h),ai h,ck];apply iU λy F=>?_;show(if (Sum.inl ((y:Nat):Int):Key)=Sum.inl ((z:Nat):Int) then _ else _)=_;split <;> rfl
 .rw[ah (λq=>h (j.mp q)),ah h,bI];rfl
def apB{ks:LN}{z y:Nat}:y∈zK ks z↔y∈ks\/y=z:=by
 ext zK;split
 .exact(.inl,λh=>h.elim id λe=>by rw[e];assumption)
 .simp
def apC(ks:LN)(z:Nat):(zK ks z).L<=ks.L+1:=by
 ext zK;split
 .symm
 .simp
def zL(ms:List sZ)(bits:LN)(i j z:Nat):Prop:=∃a b x y,ms[a]? =Α x/\ms[b]? =Α y/\x.1≠y.1/\z=lV x.2 y.2 bits/\b<a/\(a<i\/(a=i/\b<j))
def apD{ms:List sZ}{bits:LN}{i z:Nat}:zL ms bits i i z↔zL ms bits (i+1) 0 z:=by
 refine⟨λ⟨a,b,x,y,j,h2,q,F,J,M⟩=>⟨a,b,x,y,j,h2,q,F,J,by af⟩,λ⟨a,b,x,y,j,h2,q,F,J,M⟩=>⟨a,b,x,y,j,h2,q,F,J,by grind⟩⟩
def aag{ms:List sZ}{bits:LN}{i j z:Nat}{x y:sZ}(U:ms[i]? =Α x)(W:ms[j]? =Α y)(hj:j<i):zL ms bits i (j+1) z↔zL ms bits i j z\/(x.1≠y.1/\z=lV x.2 y.2 bits):=by
 apply(λ⟨a,b,O,Y,J,h2,q,F,M,Z⟩=>?_,λh=>?_)
 .by_cases e:a=i/\b=j
  .let(rfl,rfl):=e;rw[U] at J;rw[W] at h2;cases J;cases h2;exact .inr ⟨q,F⟩
  .exact .inl ⟨a,b,O,Y,J,h2,q,F,M,by grind⟩
 .rcases h with ⟨a,b,O,Y,J,h2,q,F,M,Z⟩|⟨q,F⟩
  .exact(a,b,O,Y,J,h2,q,F,M,by grind)
  .exact(i,j,x,y,U,W,q,F,hj,.inr ⟨Á,by simp_all⟩)
inductive aah(CA:Addr)(vs:az)(H:Hp)(Q:VK)(E':XK):Prop
 |mk (l pb:Addr) (fh:List i4) (bits:LN) (_:vs=[.ref l,.ref pb]) (_:H l=Α (.lst (fh.M λa=>V.ref a.a))) (_:∀a∈fh,rG CA H a) (_:H pb=Α Ãu) (_:fh.L<=500) (_:bits.L<=1000) (_:∀a∈fh,bits.L<=a.fs.L) (_:∀H' r ds,Ů r (.lst (iv (nv ds)))->(∀z,z∈ds↔zL Áu bits fh.L 0 z)->Q ϣ H')
section
variable{P:Pg}{w:Wd}{K:FR}{mg:MG}{base:Heap}{CA CR CK:Addr}{C:Cs}
def Jc:bG ["appearances","bits","differences","number","one","other"] ["appearances","bits"] (bc MH):=cj
inductive DfI(l pb d:Addr)(ms:List sZ)(bits:LN)(H:Hp)(i j n:Nat)(v3 v4:Option V)(σ:L2.St)(H':Hp):Prop
 |mk (v5:Option V) (ks:LN) (_:σ=[some Âa,some (.ref pb),some Áf,v3,v4,v5]) (_:aj H H') (_:H' d=Α (.dK (ks.M dE))) (_:∀z,z∈ks↔zL ms bits i j z) (_:ks.L<=n)
def apE{f:Addr}{fd:FD}(F:bu K "differences_among" "differences_among" MH f fd)(T:ju K CA ["entries","flags"])(tE:mg "enumerate"=Β)(zm:mg "list"=Β)(dD:Ç 1 "difference" ["one","other","bits"] (Z3 CA)):Ë 2 f fd ["appearances","bits"] (aah CA):=by
 refine F.ok Jc Â;let(l,pb,fh,bits,rfl,hl,x4,hb,t9,iP,fZ,k):=h;refine⟨_,aD (cg 2 Jc.nd C7)
  (aD (Į Ás (iB 3 4 Jc.nd) (aB (Į (dY (wX wZ Ö wV (wW ö))) (c6 5 Jc.nd)
   (aB (dm (cy (Li hr.units) (aY ę rfl) (aY Ãd rfl) (bV _)) (aB (F6 Èj å (bz dD (ae ę (ae Ãd Ĺ))) vp rfl)) dX)))))
  (aB (aX (vy (ag2 rfl) Ï zm HM ł)))),?_⟩
 intro d hd;let s1:aj H (upd H d Ϥ):=aI hd;refine⟨_,Á,l,_,Á,aa.of (s1 _ _ hl),Lf (K:=K) (a:=l) (xs:=fh.M λa=>V.ref a.a) (λi σ H'=>∃v3 v4,DfI l pb d Áu bits H i 0 (i*500) v3 v4 σ H')
  ⟨none,none,none,[],rfl,s1,au,λz=>⟨λh=>(by cases h),λ⟨_,_,_,_,_,_,_,_,_,h⟩=>Å⟩,dj _⟩ (λi σ H' _ h=>(by let(_,_,_,_,_,M):=h;exact aa.of (M _ _ hl))) ?_ ?_⟩
 .rintro i x Tt σ H2 hi ⟨v3,v4,v5,ks,rfl,M,dg,hz,Z⟩ hT;let(one,ho,rfl):=gR hi;let dq:=(bp.mp ho).1;let IZ:=bo ho;let em:Áu[i]? =Α one.m:=by rw[bA,ho];rfl
  let s3:aj H2 (Ū (.tup [.int (i:Nat),.ref one.a])):=aI hT;let EM:(Ū (.tup [.int (i:Nat),.ref one.a])) Tt=Α (.tup [.int (i:Nat),.ref one.a]):=au;generalize upd H2 Tt (.tup [.int (i:Nat),.ref one.a])=H3 at s3 EM;apply(Tt,_,Á,bx.of EM,Á,_,_,Á,_,_,Á,Á,?_);let lF:=M.R s3;let A4:=lF _ _ hl;apply(_,Á,_,Á,_,Á,l,_,Á,aa.of A4,λc hc=>?_);rw[Og _ (by rw[ao];af),<-abl];let s4:aj H3 (upd H3 c (.lst ((fh.take i).M λa=>V.ref a.a))):=aI hc;let Qu:(upd H3 c (.lst ((fh.take i).M λa=>V.ref a.a))) c=Α (.lst ((fh.take i).M λa=>V.ref a.a)):=au;generalize upd H3 c (.lst ((fh.take i).M λa=>V.ref a.a))=H4 at s4 Qu;let mh:=lF.R s4;let hd4:=s4 _ _ (s3 _ _ dg);let nB:c≠d:=λz=>by rw[z,s3 _ _ dg] at hc;cases hc
  refine⟨c,Á,⟨_,aa.of Qu⟩,pK (K:=K) (a:=c) (xs:=(fh.take i).M λa=>V.ref a.a) (λj σ H'=>DfI l pb d Áu bits H i j (i*500+j) (some (.int (i:Nat))) (some (.ref one.a)) σ H'/\H' c=Α (.lst ((fh.take i).M λa=>V.ref a.a)))
   ⟨⟨v5,ks,rfl,mh,hd4,hz,Z⟩,Qu⟩ (λj σ H' _ h=>aa.of h.2) ?_ ?_⟩
  .rintro j v σ H5 hj ⟨⟨w5,O,rfl,J,um,x5,U⟩,Qv⟩;let(q,Qw,rfl):=gR hj;let oE:=(bp.mp Qw).1;rw[iS] at oE;let r9:fh[j]? =Α q:=by rw[List.getElem?_take] at Qw;split at Qw <;> simp_all
   let W:=bo r9;let Y:Áu[j]? =Α q.m:=by rw[bA,r9];rfl
   let h1:=(x4 one IZ).E J;let h2:=(x4 q W).E J;apply(_,Á,aZ h1.a T.1 (T.2 _ Ä) (ZZ one) ⟨_,Á,aZ h2.a T.1 (T.2 _ Ä) (ZZ q) ⟨one.en.a,q.en.a,nv one.en.ns,nv q.en.ns,Á,Á,aa.of h1.en,aa.of h2.en,_,Á,?_⟩⟩);let enq:decide (nv one.en.ns=nv q.en.ns)=decide (one.m.1=q.m.1):=by
    rw[JV];exact apy
   rw[enq];apply a7 (λhq=>?_) (λhq=>?_)
   .let aN:one.m.1≠q.m.1:=by simpa using hq
    apply(_,Á,_,Á,_,Á,_,Á,one,q,pb,bits,Á,h1,h2,J _ _ hb,iP,fZ one IZ,fZ q W,λH6 s6=>?_);rw[apz];let hd6:=s6 _ _ um;apply(d,_,Á,xg.k (k:=(Sum.inl ((lV one.m.2 q.m.2 bits:Nat):Int):Key)) hd6 (by rw[ao];exact gc (by let:i*500<=500*500:=at6 _ Ù;af)),⟨_,zK O (lV one.m.2 q.m.2 bits),Á,fe (J.R s6) hd,?_,λz=>?_,?_⟩,?_)
    .rw[au,apA]
    .rw[apB,x5,aag em Y Ù];exact(λh=>h.imp id λe=>⟨aN,e⟩,λh=>h.imp id λe=>e.2)
    .let:=apC O (lV one.m.2 q.m.2 bits)
     af
    .rw[aA nB];exact s6 _ _ Qv
   .let he:one.m.1=q.m.1:=by simpa using hq
    apply(⟨_,O,Á,J,um,λz=>?_,by af⟩,Qv);rw[x5,aag em Y (by omega)];exact(.inl,λh=>h.elim id λe=>absurd he e.1)
  .rintro σ H5 ⟨⟨w5,O,rfl,J,um,x5,U⟩,Qv⟩;rw[ao,iS,RW Ù] at x5 U;apply(_,_,w5,O,Á,J,um,λz=>(x5 z).R apD,?_);rw[Nat.add_mul]
   af
 .rintro σ H2 ⟨v3,v4,v5,ks,rfl,M,dg,hz,Z⟩;rw[ao] at hz;apply(_,Á,d,_,Á,dg,λr oN=>k _ r ks ⟨M.R (aI oN),M.free oN,?_⟩ hz);rw[au,ck];simp[nv];exact λ_ _=>Á
end
def jz(p:eW):Bool:=p.aq.any λg=>g.above||g.below
def eG(p:eW):LN:=p.aq.M λg=>g.flags.L
def uV(F:List sZ)(bits:LN)(c:Nat):Prop:=∀z,zL F bits F.L 0 z->c&&& z≠0
def x6(c:Nat):Nat×Nat:=(uT c,c)
structure EU(ms:aJ)(p:eW)(rs:List wx):Prop where
 len:jz p=false->∀r∈rs,(fU (eG p)).L<=r.2.1.flatten.L
 sd:∀r∈rs,r.2.2.L<=2
 hs:jz p=false->∀r∈rs,(∀h∈r.2.1,h.L<=100/\∀f∈h,f<ms.L)/\r.2.1.L<=100
 lt:∀c∈gj Âh,c<2^40
inductive aan(C:Cs)(CK CR CA C1 C2 C3 C4:Addr)(vs:az)(H:Hp)(Q:VK)(E:XK):Prop
 |mk (pk:Addr) (ks:List ax) (p:d7) (q:Addr) (rs:List eM) (_:vs=[.ref pk,.ref p.a,.ref q]) (_:Ń ks) (_:rk C H p) (_:BC CR H q rs) (_:EU Ì p.m ϒ)
  (_:jz p.m=true->No E C1 H) (_:jz p.m=false->rs=[]->No E C2 H) (_:jz p.m=false->rs≠[]->(12<(fU (eG p.m)).L\/64<rs.L)->No E C3 H)
  (_:jz p.m=false->rs≠[]->(fU (eG p.m)).L<=12->rs.L<=64->(∀c∈gj Áv,¬uV Äe Áv c)->No E C4 H)
  (_:jz p.m=false->rs≠[]->(fU (eG p.m)).L<=12->rs.L<=64->∀c∈gj Áv,uV Äe Áv c->(∀d∈gj Áv,uV Äe Áv d->mj (x6 c)<=mj (x6 d))->∀H' t,aj H H'->H' t=Α (.tup [.int ((uT c:Nat):Int),.int ((c:Nat):Int)])->Q (.ref t) H')
section
variable{P:Pg}{w:Wd}{K:FR}{mg:MG}{base:Heap}{CA CR CK C1 C2 C3 C4 N1 N2 N3 N4:Addr}{C:Cs}
def zM:bG ["kinds","plate","readings","glimpse","bits","differences","settling","choice"] ["kinds","plate","readings"] (bc MC):=cj
def apJ{f:Addr}{fd:FD}(F:bu K "fewest_flags" "fewest_flags" MC f fd)(X1:Ğ "CutOff" C1 N1)(X2:Ğ "NoReading" C2 N2)(X3:Ğ "TooMuchToAsk" C3 N3)(X4:Ğ "NeverSettled" C4 N4)(T:ly K C)(tA:mg "any"=Β)(tL:mg "len"=Β)(tM:mg "min"=Β)(cF:Cn mg "MOST_FLAGS_ASKED" (.int 12))(cR:Cn mg "MOST_READINGS_ASKED" (.int 64))(dB:Ç 1 "bits_of_flags" ["plate"] (Z5 C)) (dA:Ç 5 "appearances_of" ["kinds","plate","readings"] (aac C CK CR CA)) (dD:Ç 2 "differences_among" ["appearances","bits"] (aah CA)) (dC:Ç 1 "choices_of" ["bits"] ZY) (dS:Ç 1 "settles" ["choice","differences"] Qk) (dH:Ç 1 "how_many" ["choice"] Qj):
  a0 P w K mg base Ē 6 f fd ["kinds","plate","readings"] (aan C CK CR CA C1 C2 C3 C4):=by
 refine F.qM zM Â;let(pk,ks,p,q,rs,rfl,hk,Z,xS,ok,k1,k2,k3,k4,k5):=h;refine⟨_,aD (dm (ji (c9 (KM Á) Ï tA boot_any (ae (eB (own:=[("glimpse",3)]) (te:=FH (fk K Ŀ "above") (fk K Ŀ "below")) Á zM.nd (dY Åi) Ê
   (λ_ _ _ _ _=>c6 3 zM.nd) Ñ (λ_ _ _ _ _=>Ke Ãp (rT Ãp))) ag))) (aB (i8 hr.hd X1.c (lu X1.c X1.lJ X1.keep rfl X1.mC))) dX)
  (aD (dm (cy ť å Ĩ (bV _)) (aB (i8 hr.hd X2.c (lu X2.c X2.lJ X2.keep rfl X2.mC))) dX)
  (aD (cg 4 zM.nd (bz dB Ĺ))
  (aD (dm (PW.pt (pw_or (cy rX (c9 gw Ï tL PySem.boot_len ŝ) (cw cF) (bV _)) (pw_or1 (cy rX ā (cw cR) (bV _))))) (aB (i8 hr.hd X3.c (lu X3.c X3.lJ X3.keep rfl X3.mC))) dX)
  (aD (cg 5 zM.nd (bz dD (ae (bz dA (ae Ö (ae á ł))) ŝ)))
  (aD (tU (i:=6) (own:=[("choice",7)]) (tt:=mY (g9 Qk [] E0 (ba Æj Åg))) (te:=vw (ba (g9 Qj [] E0 (ba Æj du)) (ba Æj du))) rfl zM.nd rfl rfl Ï (dY (bz dC ŝ)) Ê
   (λ_ _ _ _ _=>c6 7 zM.nd) (λ_ _ _ _ _=>oG (ji (bz dS (ae Èe ŀ)))) (λ_ _ _ _ _=>rY (ae (bz dH Âu) Âu)))
  (aD (dm (cy ť Ϫ Ĩ (bV _)) (aB (i8 hr.hd X4.c (lu X4.c X4.lJ X4.keep rfl X4.mC))) dX)
  (aB (aX (c9 (ag8 rfl Èj) Ï tM O3 (ae Ϫ ag)))))))))),?_⟩
 let YA:=Z.c7;apply(_,Á,aZ Z.l.pl T.cP T.m9 Äx ⟨p.gl,Á,⟨_,aa.of Z.l.gl⟩,λD hD=>fW (K:=K) (a:=p.gl) (xs:=p.aq.M λg=>V.ref g.a) (cz H D λi y ns=>ns=[]/\∀g,p.aq[i]? =Α g->y=.bl (g.above||g.below)) Ď (λi H' _ f=>aa.of (f.E _ _ Z.l.gl)) ą (λH1 f=>?_)⟩)
 .let(g,hg,rfl):=gR hi;let dq:=(bp.mp hg).1;let EN:=(Z.l.sub (bo hg)).E f.E;apply(Á,eK (Ll g.above g.below (λK q=>⟨_,Á,aZ EN.ga T.cG T.Nq (Nn g) q⟩) (λ_ K q=>⟨_,Á,aZ EN.ga T.cG T.Nr (Np g) q⟩) ?_));apply f.step hD Ù Ĥ ⟨Á,λg' IX=>?_⟩ aV.nil Ä;rw[hg] at IX;cases IX;rfl
 let(ys,s1,fX,e9,fl):=f.end;rw[ao] at e9;let ey:ys=(p.aq.M λg=>g.above||g.below).M V.bl:=by
  rw[ck];apply uh e9 λi y g j h2=>?_;let(ns,(_,e),_):=fl i y j;exact e g h2
 subst ey;apply(D,_,Á,aa.of fX,?_);let ec:(p.aq.M λg=>g.above||g.below).any id=jz p.m:=by
  ext jz d7.m;simp[JG,cA.m,abI]
 refine Ę;rw[ec];refine a7 (λhc=>gf ((k1 hc).go s1)) Î;let hc:jz p.m=false:=À hc
 let DL:=s1 _ _ xS.1;apply(_,Á,dj _,λz hz=>⟨q,z,_,Á,Á,aa.of ((aI hz) _ _ DL),aa.of au,_,Á,a7 (λM=>?_) (λM=>?_)⟩)
 .let M:rs=[]:=by
   cases rs with
   |nil=>rfl
   |cons a b=>simp at M
  exact gf ((k2 hc M).go (s1.R (aI hz)))
 let M:rs≠[]:=λe=>by rw[e] at M;simp at M
 let s2:=s1.R (aI (o:=.lst []) hz);generalize upd H1 z ã=H2 at s2;let el:(p.aq.M λg=>g.flags.L)=eG p.m:=by
  ext eG d7.m;simp[ck,cA.m,abI]
 apply(_,Á,p,Á,Z.E s2,λH3 pb n3=>?_);rw[el] at n3;let s3:=s2.R n3.1;let k3:=k3 hc M;let k4:=k4 hc M;let k5:=k5 hc M;let okl:=ok.len hc;let Qx:=ok.lt;generalize fU (eG p.m)=bits at n3 k3 k4 k5 okl Qx;let uF:=s3 _ _ xS.1;let eb:(iv (nv bits)).L=bits.L:=by rw[dy,gQ]
 let er:(rs.M λr=>V.ref r.a).L=rs.L:=ao ..;apply(_,Á,pb,_,Á,.inl (aa.of n3.2.2),_,_,Á,Á,_,Á,a7 (λj=>lr (gf ((k3 (.inl ?_)).go s3))) (λj=>⟨_,Á,q,_,Á,.inl (aa.of uF),_,_,Á,Á,_,Á,a7 (λh2=>gf ((k3 (.inr ?_)).go s3)) Àw⟩))
 .let:=mQ j;rw[eb] at this;omega
 .let:=mQ h2;rw[er] at this;omega
 obtain⟨x8,BL⟩:bits.L<=12/\rs.L<=64:=by
  rw[lZ,eb] at j;rw[lZ,er] at h2
  af
 let k4:=k4 x8 BL;let k5:=k5 x8 BL;let n0:∀r∈rs,r.m∈rs.M eM.m:=λr hr=>z4 hr;apply(_,Á,_,Á,_,Á,pk,ks,p,q,rs,Á,hk.E s3,Z.E s3,uF,λr hr=>⟨(xS.2 r hr).E s3,λh hh=>?_,?_⟩,by af,λr hr=>?_,λH4 l fh s4 nl DI x4 em=>?_)
 .let:=(ok.hs hc r.m (n0 r hr)).1 h hh;rw[ao] at this;exact this
 .let:=(ok.hs hc r.m (n0 r hr)).2;rw[<-ig];exact this
 .let:=ok.sd r.m (n0 r hr);exact gq this Ð
 rw[<-em] at k4 k5;let t9:fh.L<=500:=by
  let j:=cb List.length em;rw[ao] at j;rw[j];ext j0;rw[auk];let h2:∀l:List wx,(∀r∈l,r.2.2.L<=2)->(l.M λr=>(tj Ì p.classes r r.2.2).L).sum<=2*l.L:=by
   intro l;induction l with
   |nil=>simp
   |cons x l ih=>
    intro h;let i1:=ih λy hy=>h y (aL _ hy);let i2:=h x eP;rw[a8,gr,dh];delta tj at i1⊢;rw[ao];grind
  let h3:=h2 ϒ ok.sd;rw[ao] at h3;grind
 let mh:=s3.R s4;let hb4:=s4 _ _ n3.2.2;apply(_,Á,l,pb,fh,bits,Á,DI,x4,hb4,t9,by af,λa ha=>?_,λH5 pd ds n5 x5=>?_)
 .let j:a.m∈j0 Ì p.classes ϒ:=by rw[<-em];exact z4 ha
  delta j0 tj at j;let(r,hr,h2):=jh.mp j;let(d,_,h3):=bH.mp h2;let h4:=cb (λx:sZ=>x.2.L) h3;let h5:=okl r hr;let h6:(uU Ì p.classes d r.2.1.flatten).L=a.fs.L:=by
   let:a.m.2.L=a.fs.L:=by ext i4.m;rw[ao]
   rw[<-this];exact h4
  delta uU at h6;rw[ao] at h6;symm
 let Qy:∀c,sY c ds=true↔uV Áu bits c:=λc=>by
  ext sY uV;rw[jI,ao];exact(λh z hz=>mQ (h z ((x5 z).mpr hz)),λh z hz=>eQ (h z ((x5 z).mp hz)))
 let ug:=mh.R n5.1;let gJ:(gj bits).L<=4096:=by
  rw[ZX];exact gq (yn Ð x8) Ð
 refine⟨_,Á,pb,bits,Á,n5.1 _ _ hb4,x8,λH6 pc n6=>⟨pc,Á,⟨_,aa.of n6.2.2⟩,λD6 hD6=>fW (K:=K) (a:=pc) (xs:=iv (nv (gj bits))) (λi H'=>∃ts:List (Addr×Nat),aj H6 H'/\H' D6=Α (.lst (ts.M λt=>V.ref t.1))/\(∀t∈ts,H' t.1=Α (.tup [.int ((uT t.2:Nat):Int),.int ((t.2:Nat):Int)])/\t.1≠D6)/\ts.M (·.2)=((gj bits).take i).J λc=>sY c ds)
  ⟨[],aI hD6,au,by simp,rfl⟩ (λi H' _ f=>(by let(_,s7,_):=f;exact aa.of (s7 _ _ n6.2.2))) ą (λH7 f=>?_)⟩⟩
 .let(c,pR,rfl):=jt hi;let(ts,s7,xT,Y,W):=f;let qK:=bo pR;let hpd:=s7 _ _ (n6.1 _ _ n5.2.2);let Bl:ts.L<=4096:=by
   let j:=cb List.length W;rw[ao] at j;let h2:=B4 (λc=>sY c ds) ((gj bits).take i);rw[iS] at h2
   af
  apply(Á,_,Á,_,Á,c,pd,ds,Á,hpd,λH8 U=>⟨_,Á,a7 (λhq=>?_) (λhq=>?_)⟩)
  .apply(_,Á,c,Á,Qx c qK,λH9 s9=>⟨_,Á,(by show 2<=sizeLine;decide),λt J=>?_⟩);let xU:=U.R s9;let tD:t≠D6:=λz=>by rw[z,xU _ _ xT] at J;cases J
   let md:aj H9 (upd H9 t (.tup [.int ((uT c:Nat):Int),.int ((c:Nat):Int)])):=aI J;apply(_,md _ _ (xU _ _ xT),by rw[ao];exact gc Ù,ts++[(t,c)],fe (s7.R (xU.R md)) hD6,by rw[au,bI];rfl,λx O=>?_,?_)
   .rcases fw.mp O with O|O
    .exact(by rw[aA (Y x O).2];exact md _ _ (xU _ _ (Y x O).1),(Y x O).2)
    .rw[iT.mp O];exact(by rw[aA tD];exact au,tD)
   .rw[A2 pR,ai hq,bI,W];rfl
  .apply(ts,s7.R U,U _ _ xT,λx O=>⟨U _ _ (Y x O).1,(Y x O).2⟩,?_);rw[A2 pR,ah hq,jG];exact W
 let(ts,s7,xT,Y,W):=f;rw[dy,gQ,i5] at W;let vR:=ug.R (n6.1.R s7);refine⟨_,Á,dj _,λz hz=>⟨D6,z,_,Á,Á,aa.of ((aI hz) _ _ xT),aa.of au,_,Á,a7 Æu Æu⟩⟩
 .apply gf ((k4 λc qK hP=>?_).go (vR.R (aI hz)));let Ej:ts=[]:=by
   cases ts with
   |nil=>rfl
   |cons a b=>simp at hn
  rw[Ej] at W;let:c∈(gj bits).J λc=>sY c ds:=iA.mpr ⟨qK,(Qy c).mpr hP⟩;rw[<-W] at this;cases this
 .let U:aj H7 (upd H7 z ã):=aI hz;generalize upd H7 z ã=H8 at U;let ie:∀t∈ts,t.2∈gj bits/\sY t.2 ds=true:=λt J=>iA.mp (by rw[<-W];exact z4 J);apply(_,Á,D6,ts.M (·.1),ts.M λt=>x6 t.2,Á,aa.of (by rw[ck];exact U _ _ xT),by simp,λi a c j h2=>?_,?_,λi a c j h2 h3=>?_)
  .rw[bA] at j h2;let(t,J,rfl):=u4.mp j;rw[J] at h2;cases h2;let BM:=bo J;exact(bx.of (U _ _ (Y t BM).1),j4 (Qx _ (ie t BM).1) Ð)
  .rw[ao];cases ts with
   |nil=>simp at hn
   |cons a b=>simp
  .rw[bA] at j h2;let(t,J,rfl):=u4.mp j;rw[J] at h2;cases h2;let BM:=bo J;apply k5 t.2 (ie t BM).1 ((Qy _).mp (ie t BM).2) (λd hd hP=>h3 (x6 d) ?_) _ _ (vR.R U) (U _ _ (Y t BM).1);let:d∈ts.M (·.2):=by rw[W];exact iA.mpr ⟨hd,(Qy d).mpr hP⟩
   let(u,hu,rfl):=bH.mp this;exact z4 (f:=λt:Addr×Nat=>x6 t.2) hu
end
inductive uW(ms:aJ)(p:eW)(rs:List wx):LI->Prop
 |cut (_:jz p=true):uW ms p rs [-3]
 |none (_:jz p=false) (_:rs=[]):uW ms p rs [-5]
 |aar (_:jz p=false) (_:rs≠[]) (_:12<(fU (eG p)).L\/64<rs.L):uW ms p rs [-7]
 |never (_:jz p=false) (_:rs≠[]) (_:(fU (eG p)).L<=12) (_:rs.L<=64) (_:∀c∈gj Âh,¬uV Äf Âh c):uW ms p rs [-10]
 |some (_:jz p=false) (_:rs≠[]) (_:(fU (eG p)).L<=12) (_:rs.L<=64) (c:Nat) (_:c∈gj Âh) (_:uV Äf Âh c) (_:∀d∈gj Âh,uV Äf Âh d->mj (x6 c)<=mj (x6 d)):uW ms p rs [((uT c:Nat):Int),((c:Nat):Int)]
inductive aas(k:Kn)(vs:az)(H:Hp)(Q:VK)(E':XK):Prop
 |mk (f:zw) (_:vs=[.ref f.a]) (_:PN k H f) (_:EU (f.l.kinds.M ax.m) f.p.m (f.rs.M eM.m)) (_:∀z,uW (f.l.kinds.M ax.m) f.p.m (f.rs.M eM.m) z->∀H' r,H' r=Α (.lst (iv z))->Q ϣ H')
def apL(f:zw):(ID f).Q ("locker":Str)=Α (.ref f.l.a):=gM
def apM(f:zw):(ID f).Q ("plate":Str)=Α (.ref f.p.a):=(fq É).R ((fq É).R gM)
section
variable{P:Pg}{w:Wd}{K:FR}{mg:MG}{base:Heap}{CA C1 C2 C3 C4 N1 N2 N3 N4:Addr}{k:Kn}
def aat:bG ["finding","fewest"] ["finding"] (bc Nb):=cj
def apN{f:Addr}{fd:FD}(F:bu K "ask_told" "ask_told" Nb f fd)(T:ju K k.CF ["locker","book","plate","readings"])(TL:ju K k.CL ["name","kinds"])(Z:Ğ "CutOff" C1 N1)(X2:Ğ "NoReading" C2 N2)(X3:Ğ "TooMuchToAsk" C3 N3)(X4:Ğ "NeverSettled" C4 N4)(nd:[C1,C2,C3,C4].Nodup)(zm:mg "list"=Β)(dF:Ċ Ē 6 "fewest_flags" ["kinds","plate","readings"] (aan k.C k.CK k.CR CA C1 C2 C3 C4)):Ë 7 f fd ["finding"] (aas k):=by
 let(fF,anr,GF,mF,kF,bF):=dF;refine F.ok aat Â;let(fd,rfl,J,ok,q):=h;simp only[kZ,a9,k7,k8,not_or,not_false_eq_true,z7,and_true] at nd;let((n1,n2,n3),(n4,n5),n6):=nd;refine⟨_,aD (UU ⟨Á,Á⟩ (UV (i:=1) aat.nd Á (Or.inl Á) GF hr Á mF kF bF (ae (aY ĺ Á) (ae ĺ (ae ĺ ag))))
   (xn (ts:=uL 3) Z.c rfl Z.mC ñ
   (xn (ts:=uL 5) X2.c rfl X2.mC ñ
   (xn (ts:=uL 7) X3.c rfl X3.mC ñ
   (xn (ts:=uL 10) X4.c rfl X4.mC ñ UR)))))
  (aB (aX (vy Ti Ï zm HM Ĺ))),?_⟩
 let U:∀(z n:Int),uW (fd.l.kinds.M ax.m) fd.p.m (fd.rs.M eM.m) [z]->z= -n->∀(D:Ends)(σ:L2.St)(H':Hp),D.rt=Q->uL n D σ H':=λz n e1 e2 D σ H' hD=>by
  subst e2;exact(_,Á,(by show 1<=sizeLine;decide),λr hr=>by rw[hD];exact q _ e1 _ r au)
 apply(_,Á,aZ J.a T.1 (T.2 _ Ä) (apL fd) (aZ (Ba J.l.lies) TL.1 (TL.2 _ Ä) (DK fd.l) ⟨_,Á,aZ J.a T.1 (T.2 _ Ä) (apM fd) ⟨_,Á,aZ J.a T.1 (T.2 _ Ä) (anj fd) ⟨fd.l.kl,fd.l.kinds,fd.p,fd.q,fd.rs,Á,J.l.ks,J.p,J.rs,ok,λhc H1 M=>?_,λhc j H1 M=>?_,λhc j hm H1 M=>?_,λhc j x8 O hn H1 M=>?_,λhc j x8 O c qK hs Qz H1 t M ht=>?_⟩⟩⟩))
 .exact(C1,N1,Á,Z.c,λa W gV fl=>⟨λ_ Y zx=>U _ _ (.cut hc) Á _ _ _ Á,λz=>absurd Á z⟩)
 .exact(C2,N2,Á,X2.c,λa W gV fl=>⟨λz=>absurd z.symm n1,λ_=>⟨λ_ Y zx=>U _ _ (.none hc (by rw[j];rfl)) Á _ _ _ Á,λz=>absurd Á z⟩⟩)
 .exact(C3,N3,Á,X3.c,λa W gV fl=>⟨λz=>absurd z.symm n2,λ_=>⟨λz=>absurd z.symm n4,λ_=>⟨λ_ Y zx=>U _ _ (.aar hc (À j) (by rw[ao];exact hm)) Á _ _ _ Á,λz=>absurd Á z⟩⟩⟩)
 .exact(C4,N4,Á,X4.c,λa W gV fl=>⟨λz=>absurd z.symm n3,λ_=>⟨λz=>absurd z.symm n5,λ_=>⟨λz=>absurd z.symm n6,λ_=>⟨λ_ Y zx=>U _ _ (.never hc (À j) x8 (by rw[ao];exact O) hn) Á _ _ _ Á,λz=>absurd Á z⟩⟩⟩⟩)
 .apply(_,Á,t,_,Á,.inr (bx.of ht),λr hr=>q _ (.some hc (À j) x8 (by rw[ao];exact O) c qK hs Qz) _ r ?_);rw[au];rfl
inductive QA(K:FR)(vs:az)(H:Hp)(Q:VK)(E':XK):Prop
 |mk (at_ ab ap:Addr) (t b p:LI) (_:vs=[.ref at_,.ref ab,.ref ap]) (_:ä at_ (iv t)) (_:ä ab (iv b)) (_:ä ap (iv p)) (_:t.L<=66000) (_:b.L<=66000) (_:p.L<=66000) (_:(∀x,gO t=Α x->IB x.2)) (_:(∀m,iq p=.ok m->IC m)) (_:(∀z,ŵ p=Α z->∀H' r,H' r=Α (.lst [.int z])->Q ϣ H')) (_:(ŵ p=Β->∀x y m,gO t=Α x->lR x.1 x.2 b=Α y->iq p=.ok m->EU x.2 m (jd x.2 (y.2.M (·.1)) m)/\∀z,uW x.2 m (jd x.2 (y.2.M (·.1)) m) z->∀H' r,H' r=Α (.lst (iv z))->Q ϣ H'))
def apO:bG ["t","b","p"] ["t","b","p"] (bc AL):=cj
def apP{f fT:Addr}{fd:FD}(F:bu K "ask" "ask" AL f fd)(mT:mg "ask_told"=Α (.ref fT))(M:Ç 8 "answered" ["t","b","p","told"] (YW K k fT (aas k))):Ë 9 f fd ["t","b","p"] (QA K):=by
 refine F.ok apO Â;let(at_,ab,J,t,b,p,rfl,Z,h2,h3,l1,l2,l3,Y,g2,k1,k2):=h;apply(_,aB (aX (bz M (ae Ö (ae á (ae å (ae (vq (v:=.ref fT) Ï mT Á) ag)))))),?_);apply(_,Á,_,Á,_,Á,at_,ab,J,t,b,p,Á,Z,h2,h3,l1,l2,l3,Y,g2,k1,λU x y m ex W O H' fd s' ok j=>?_);let(q1,q2):=k2 U x y m ex W O;apply(fd,Á,ok,?_,λz hz q r e=>q2 z ?_ q r e)
 .rw[j.k,j.p,j.r];exact q1
 .rw[j.k,j.p,j.r] at hz;exact hz
end
end HD
namespace HD
open PySem L2 JM
theorem EV{z:LN}:∀{m:LN},m∈Flags.choices z↔m.Sublist z:=by
 induction z with
 |nil=>
  intro m;ext Flags.choices;simp
 |cons x r q=>
  intro m;ext Flags.choices;rw[fw,bH,q,aul];refine or_congr Iff.rfl ⟨λ⟨a,j,h2⟩=>⟨a,h2.symm,q.mp j⟩,λ⟨a,j,h2⟩=>⟨a,q.mpr h2,j.symm⟩⟩
def apQ(bits:LN):∀c,c∈gj bits↔ ∃s:LN,s.Sublist bits/\s.sum=c:=by
 apply snoc_ind (P:=λbits=>∀c,c∈gj bits↔ ∃s:LN,s.Sublist bits/\s.sum=c) (λc=>?_) (λl b J c=>?_) bits
 .simp[gj,eq_comm]
 .rw[Ql,fw,bH,J];apply(λh=>?_,λ⟨s,j,h2⟩=>?_)
  .rcases h with ⟨s,j,h2⟩|⟨a,j,h2⟩
   .exact(s,j.R (List.sublist_append_left ..),h2)
   .let(s,q,z):=(J a).mp j;exact(s++[b],q.append (abt _),by rw[Fu,z,<-h2];simp)
  .let(M,O,rfl,q,z):=List.sublist_append_iff.mp j;rcases aul.mp z with F|⟨r,rfl,F⟩
   .rw[List.sublist_nil.mp F,jG] at h2;exact .inl ⟨M,q,h2⟩
   .rw[List.sublist_nil.mp F,Fu] at h2;exact .inr ⟨M.sum,(J _).mpr ⟨M,q,Á⟩,by rw[<-h2];simp⟩
def aau{q:LN}{c:Nat}:c∈gj (q.M (2^ ·))↔ ∃m∈Flags.choices q,c=Flags.numberOf m:=by
 rw[apQ];apply(λ⟨s,j,h2⟩=>?_,λ⟨m,j,h2⟩=>⟨m.M (2^ ·),(EV.mp j).M _,h2.symm⟩);let(m,z,rfl):=List.sublist_map_iff.mp j;exact(m,EV.mpr z,h2.symm)
abbrev Up(m:LN):Prop:=m.Pairwise (· < ·)
def apR(l:LN)(x:Nat):Flags.numberOf (l++[x])=2^x+Flags.numberOf l:=by
 ext Flags.numberOf;rw[bI,Fu];simp[aby]
def BN(m:LN):Up m->(∀n,(∀x∈m,x<n)->Flags.numberOf m<2^n)/\∀q,(Flags.numberOf m).testBit q=decide (q∈m):=by
 apply snoc_ind (P:=λm=>Up m->(∀n,(∀x∈m,x<n)->Flags.numberOf m<2^n)/\∀q,(Flags.numberOf m).testBit q=decide (q∈m)) (λ_=>⟨λn _=>?_,λq=>?_⟩) (λl x ih h=>?_) m
 .exact abE n
 .simp[Flags.numberOf]
 .let(O,_,h2):=aum.mp h;let F:∀y∈l,y<x:=λy Z=>h2 y Z x Ä;let(M,J):=ih O;let hb:=M x F;rw[apR];apply(λn Y=>?_,λq=>?_)
  .let:x+1<=n:=Y x Ä;let j:=yn (show 0<2 by decide) this;rw[z5] at j
   af
  .rcases abH q x with j|j|j
   .rw[abC j,J];simp[show q≠x by af]
   .subst j;rw[abD,J];let:q∉l:=λz=>nr _ (F q z);simp[this]
   .let U:2^x+Flags.numberOf l<2^q:=by
     let W:=yn (show 0<2 by decide) (show x+1<=q by assumption);rw[z5] at W;omega
    rw[B6 U];let:q∉l:=λz=>by let:=F q z;af
    simp[this,show q≠x by af]
def apS{m p:LN}(F:Up m)(J:Up p):Flags.numberOf m&&& Flags.numberOf p≠0↔ ∃q∈p,q∈m:=by
 let(_,a):=BN m F;let(_,b):=BN p J;apply(λh=>?_,λ⟨q,j,h2⟩ h=>?_)
 .apply Fw λn=>h (abA λi=>?_);rw[z9,a,b,Nat.zero_testBit];by_cases j:i∈m
  .let:i∉p:=λz=>n ⟨i,z,j⟩;simp[this]
  .simp[j]
 .let:(Flags.numberOf m&&& Flags.numberOf p).testBit q=true:=by
   rw[z9,a,b];simp[j,h2]
  rw[h] at this;simp at this
theorem apT(k:Nat):∀n,sX k n=((List.range k).J n.testBit).L:=by
 induction k with
 |zero=>exact λ_=>Á
 |succ k q=>
  intro n;ext sX;rw[q,zX,rL,wJ];let e:(n.testBit∘Nat.succ)=(n/2).testBit:=by
   funext i;show n.testBit (i+1)=_;rw[Nat.testBit_succ]
  rw[e];let j:n.testBit 0=decide (n%2=1):=Nat.testBit_zero ..;rw[j];rcases Nat.mod_two_eq_zero_or_one n with h|h
  .simp[h]
  .simp[h]
   af
def apU{m:LN}(j:Up m)(z:∀x∈m,x<40):uT (Flags.numberOf m)=m.L:=by
 rw[ZV,apT];apply List.Perm.length_eq ((List.perm_ext_iff_of_nodup ?_ ?_).mpr λq=>?_)
 .exact List.Pairwise.filter _ R8
 .exact j.imp λh=>fV h
 .rw[iA,(BN m j).2,u9];simp;exact z q
def wy(m b:LN):Prop:=m.L<b.L\/(m.L=b.L/\Flags.numberOf m<Flags.numberOf b)
def apV(f:Option LN->LN->Option LN)(W:f=λ(U:Option LN)(m:LN)=>match U with
  |none=>some m
  |some b=>if m.L<b.L\/(m.L=b.L/\Flags.numberOf m<Flags.numberOf b) then some m else some b) (l:bg):∀acc,(l.foldl f acc=Β->l=[]/\acc=Β)/\∀m,l.foldl f acc=Α m->(m∈l\/acc=Α m)/\(∀x∈l,¬wy x m)/\∀a,acc=Α a->¬wy a m:=by
 induction l with
 |nil=>
  intro acc;apply(λh=>⟨Á,h⟩,λm h=>⟨.inr h,λx Z=>(by cases Z),λa e=>?_⟩);let h:acc=Α m:=h;rw[h] at e;cases e;ext wy;symm
 |cons x l ih=>
  intro acc;let(J,M):=ih (f acc x);rw[Fv];cases acc with
  |none=>
   let e:f none x=Α x:=by rw[W]
   rw[e] at J M;apply(λh=>absurd (J (by rw[<-h,e])).2 Ä,λm h=>?_);let(j,O,F):=M m (by rw[<-h,e]);apply(.inl ?_,λy q=>?_,λa z=>(by cases z))
   .rcases j with j|j
    .exact aL _ j
    .rw[aU j];exact eP
   .rcases a9.mp q with rfl|q
    .exact F _ Á
    .exact O y q
  |some b=>
   by_cases Y:wy x b
   .let e:f (some b) x=Α x:=by rw[W];exact ai Y
    rw[e] at J M;apply(λh=>absurd (J (by rw[<-h,e])).2 Ä,λm h=>?_);let(j,O,F):=M m (by rw[<-h,e]);apply(.inl ?_,λy q=>?_,λa z=>?_)
    .rcases j with j|j
     .exact aL _ j
     .rw[aU j];exact eP
    .rcases a9.mp q with rfl|q
     .exact F _ Á
     .exact O y q
    .let:=F _ rfl;cases z;delta wy at*
     af
   .let e:f (some b) x=Α b:=by rw[W];exact ah Y
    rw[e] at J M;apply(λh=>absurd (J (by rw[<-h,e])).2 Ä,λm h=>?_);let(j,O,F):=M m (by rw[<-h,e]);apply(j.imp (aL _) id,λy q=>?_,F);rcases a9.mp q with rfl|q
    .let:=F _ rfl;delta wy at*;grind
    .exact O y q
def jA(M:LN):LN:=M.zipIdx.flatMap λx=>(List.range x.1).M λp=>8*x.2+p
def aav(l:LN)(n:Nat):jA (l++[n])=jA l++(List.range n).M λp=>8*l.L+p:=by
 ext jA;rw[auj,wI];simp
def EW(M:LN):fU M=(jA M).M (2^ ·):=by
 ext fU jA zH;rw[Sb];simp only[ck];rfl
def aaw(M:LN):(∀n∈M,n<=8)->Up (jA M)/\∀q∈jA M,q<8*M.L:=by
 apply snoc_ind (P:=λM=>(∀n∈M,n<=8)->Up (jA M)/\∀q∈jA M,q<8*M.L) (λ_=>⟨List.Pairwise.nil,λq h=>by cases h⟩) (λl n Y h=>?_) M;let(W,z):=Y λx U=>h x (by simp[U]);let Z:=h n Ä;rw[aav];apply(aum.mpr ⟨W,?_,λa F b J=>?_⟩,λq j=>?_)
 .apply JT.mpr (aud.imp λh=>?_);symm
 .let:=z a F;let(p,_,rfl):=bH.mp J
  af
 .rw[j5,abG];rcases fw.mp j with j|j
  .let:=z q j
   af
  .let(p,O,rfl):=bH.mp j;let:=u9.mp O
   af
def apW{α:Type}(F:Nat->α)(hs:bg):(∀h∈hs,h.L<=8)->(jA Àz).M (λq=>(hs[q/8]?).bind λh=>(h.M F)[q%8]?)=hs.flatten.M λf=>some (F f):=by
 apply snoc_ind (P:=λhs=>(∀h∈hs,h.L<=8)->(jA Àz).M (λq=>(hs[q/8]?).bind λh=>(h.M F)[q%8]?)=hs.flatten.M λf=>some (F f)) (λ_=>Á) (λl h W J=>?_) hs;let z:∀x∈l,x.L<=8:=λx j=>J x (by simp[j]);let h2:=J h Ä;rw[bI,a8,mO,aav,bI,at3,bI,<-W z];congr 1
 .apply iU λq U=>?_;let:=(aaw _ (λn O=>by let(x,j,rfl):=bH.mp O;exact z x j)).2 q U;rw[ao] at this;rw[Fk Ù]
 .rw[ck];apply List.ext_getElem Ä λi M Y=>?_;let hi:i<h.L:=by simpa using M
  simp only[List.getElem_map,abd,abp,ao];rw[show(8*l.L+i)/8=l.L by af,show(8*l.L+i)%8=i by af];simp[hi]
theorem apX(r:LN):Flags.before r r=false:=by
 induction r with
 |nil=>rfl
 |cons x r j=>
  show(decide (x<x)||(x==x&&Flags.before r r))=false;simp[j]
theorem apY(r:LN):∀s:LN,r.L=s.L->r≠s->Flags.before r s=true\/Flags.before s r=true:=by
 induction r with
 |nil=>
  intro s h n;cases s with
  |nil=>exact absurd Á n
  |cons=>cases h
 |cons x r q=>
  intro s h n;cases s with
  |nil=>cases h
  |cons y s=>
   show(decide (x<y)||(x==y&&Flags.before r s))=true\/(decide (y<x)||(y==x&&Flags.before s r))=true;rcases abH x y with j|j|j
   .simp[j]
   .subst j;let:=q s (À h) λe=>n (by rw[e]);simpa using this
   .simp[j]
def ya(j:LN)(a b:List (Option (Nat×Nat))):LN:=((j.zip (a.zip b)).J λ(q:Nat×Option (Nat×Nat)×Option (Nat×Nat))=>q.2.1!=q.2.2).M λ(q:Nat×Option (Nat×Nat)×Option (Nat×Nat))=>q.1
def apZ(x y:Face)(f g:List Face)(b:Nat)(bits:LN):lV (x::f) (y::g) (b::bits)=(if x=y then 0 else b)+lV f g bits:=by
 let e:((List.range bits.L).J ((λi=>!decide ((x::f)[i]? =(y::g)[i]?))∘Nat.succ))=(List.range bits.L).J λi=>!decide (f[i]? =g[i]?):=JX λi _=>Ä;ext lV;rw[dh,zX,rL,wJ,e];let j:((((List.range bits.L).J λi=>!decide (f[i]? =g[i]?)).M Nat.succ).M λi=>(b::bits).D i 0)=((List.range bits.L).J λi=>!decide (f[i]? =g[i]?)).M λi=>bits.D i 0:=by
  rw[ck];rfl
 by_cases h:x=y
 .rw[ah (by simp[h]),ai h,j,vd]
 .rw[ai (by simp[h]),ah h,a8,j,gr];rfl
def aax(f g:List Face)(bits:LN):lV f g bits=lV g f bits:=by
 ext lV;congr 2;apply JX λi _=>?_;rw[JV.mpr eq_comm]
theorem ap1(A B:Nat->Face)(C D:Nat->Option (Nat×Nat))(j:LN):∀u v:LN,u.L=j.L->v.L=j.L->(∀x∈u,∀y∈v,A x=B y↔C x=D y)->lV (u.M A) (v.M B) (j.M (2^ ·))=Flags.numberOf (ya j (u.M C) (v.M D)):=by
 induction j with
 |nil=>exact λ_ _ _ _ _=>Á
 |cons q j J=>
  intro u v M O h;cases u with
  |nil=>cases M
  |cons x u=>
   cases v with
   |nil=>cases O
   |cons y v=>
    let J:=J u v (À M) (À O) λa U b W=>h a (aL _ U) b (aL _ W);let F:=h x eP y eP;simp only[a8];rw[apZ,J];ext ya;rw[zV,zV,rL];by_cases e:A x=B y
    .rw[ai e,ah (by simpa using F.mp e),vd]
    .rw[ah e,ai (by simpa using λz=>e (F.mpr z))];ext Flags.numberOf;simp
def ap2(j:LN)(a b:List (Option (Nat×Nat))):(ya j a b).Sublist j:=by
 ext ya;let z:=(abF (l:=j.zip (a.zip b)) (p:=λ(q:Nat×Option (Nat×Nat)×Option (Nat×Nat))=>q.2.1!=q.2.2)).M λ(q:Nat×Option (Nat×Nat)×Option (Nat×Nat))=>q.1;apply z.R ?_;let h2:∀(l:LN)(c:List (Option (Nat×Nat)×Option (Nat×Nat))),((l.zip c).M λq=>q.1).Sublist l:=by
  intro l;induction l with
  |nil=>exact λc=>abt _
  |cons x l F=>
   intro c;cases c with
   |nil=>exact List.nil_sublist _
   |cons y c=>exact(F c).cons₂ x
 exact h2 _ _
def ap4{classes look J:LI}(hc:gh classes)(h:gh look)(h':gh J){d d':Nat}(hd:d=0\/d=1)(M:d'=0\/d'=1):Àu d=oQ J classes d'↔Flags.seenFrom ĉ d (c8 look)=Flags.seenFrom ĉ d' (c8 J):=by
 let O:∀g,Flags.lookOf g=((List.range 16).M λi=>Flags.cell (Flags.lookOf g) i*16^i).sum:=λg=>cb List.sum (iU λi hi=>by rw[DT _ (u9.mp hi)]);let j:∀{look:LI}{d:Nat},gh look->(Àu d).L=16:=λh=>by
  ext oQ;split
  .simp
  .rw[ao,h.1]
 apply(λe=>?_,λe=>List.ext_getElem (by rw[j h,j h']) λi q U=>?_)
 .let F:∀i<16,Flags.cell (Flags.seenFrom ĉ d (c8 look)) i=Flags.cell (Flags.seenFrom ĉ d' (c8 J)) i:=λi hi=>by
   let z:=EJ hc h hd hi;let h2:=EJ hc h' M hi;rw[e,h2] at z
   af
  delta Flags.seenFrom Flags.inLight at F⊢;apply(O _).R (Eq.R ?_ (O _).symm);exact cb List.sum (iU λi hi=>by rw[F i (u9.mp hi)])
 .rw[j h] at q;let z:=EJ hc h hd q;let h2:=EJ hc h' M q;rw[e,<-h2] at z;simpa [ik,j h,j h',q] using z
def Je(m:eW):Flags.flagsOf ϗ=jA (eG m):=by
 ext Flags.flagsOf jA eG;rw[show(fY m).hoists=m.aq.M i0 from rfl,List.zipIdx_map,List.zipIdx_map,Sa,Sa];congr 1;funext x;show(List.range (x.1.flags.M iD).L).M _=_;rw[ao];rfl
def aaz(m:eW):Flags.whole ϗ=!jz m:=by
 ext Flags.whole jz;rw[show(fY m).hoists=m.aq.M i0 from rfl,rJ,List.not_any_eq_all_not];congr 1;funext g;show(!g.above&& !g.below)=!(g.above||g.below);cases g.above <;> rfl
section
variable{L:Flags.Locker}{B:Flags.Book}{ms:aJ}{rows:bg}{m:eW}
theorem ap5{c d:Nat}(h:LN):∀s,L.flagsFit c d h s=true->∀f∈h,f<L.kinds.L:=by
 induction h with
 |nil=>exact λ_ _ f j=>by cases j
 |cons x h F=>
  intro s e f j;cases s with
  |nil=>cases e
  |cons y s=>
   let e:(L.flagFits c d x y&&L.flagsFit c d h s)=true:=e;let(q,z):=tF.mp e;rcases a9.mp j with rfl|j
   .apply Fw λn=>?_;delta Flags.Locker.flagFits at q;rw[yl Å] at q;cases q
   .exact F s z f j
theorem ap6{c d:Nat}(hs:bg):∀gs:List Flags.Glimpse,L.allFit c d hs gs=true->(∀g∈gs,(!g.above&& !g.below)=true)->hs.M List.length=gs.M (λg=>g.flags.L)/\∀h∈hs,∀f∈h,f<L.kinds.L:=by
 induction hs with
 |nil=>
  intro gs e _;cases gs with
  |nil=>exact(Á,λh W=>by cases W)
  |cons=>cases e
 |cons h hs ih=>
  intro gs e z;cases gs with
  |nil=>cases e
  |cons g gs=>
   let e:(L.fits c d h g&&L.allFit c d hs gs)=true:=e;let(F,M):=tF.mp e;let(Y,Z):=ih gs M λx j=>z x (aL _ j);let z:=z g eP;delta Flags.Locker.fits at F;let(a,_,q):=tw.mp F;let O:g.above=false:=by simp_all
   let U:g.below=false:=by simp_all
   rw[O,U] at q;simp at q;let(rfl,e4,J):=q;rw[abo,show g.flags.L=h.L by simp_all,i5] at J;apply(by rw[a8,a8,Y,show h.L=g.flags.L by simp_all],λx j=>?_);rcases a9.mp j with rfl|j
   .exact ap5 _ _ J
   .exact Z x j
structure EY(L:Flags.Locker)(B:Flags.Book)(ms:aJ)(m:eW)(r:wx):Prop where
 n:r.1.L=m.aq.L
 f:∀{β:Type}(f:Nat->bg->β),((Flags.sides (fY m).side).filterMap λ(d:Nat)=>(L.mayFrom B ϗ r.1 d).M (f d))=r.2.2.M λd=>f d r.2.1
 sd:r.2.2.L<=2
 d:∀d∈r.2.2,d=0\/d=1
 w:jz m=false->r.2.1.M List.length=eG m/\∀h∈r.2.1,∀f∈h,f<ms.L
def ap7(hk:L.kinds=ms.M bO)(g:uP ms)(lk:∀k∈ms,gh k.look)(O:B.entries.M Flags.Entry.row=rows)(sg:xY ms rows)(W:x3 m):∀r∈jd ms rows m,EY L B ms m r:=λr hr=>by
 let(x,q,e):=JA.mp hr;rw[ZO] at q;let(hs,ss,h):=ZS hk g lk O sg W x q;let j:=(ZP _ x q).1;let j:x.L=m.aq.L:=by
  rw[j];exact ao ..
 rw[h.r] at e;by_cases hz:ss=[]
 .rw[ai hz] at e;cases e
 .rw[ah hz] at e;rw[<-aU e];apply(j,h.f,h.n,λd hd=>(h.a d hd).1,λhc=>?_);cases ss with
  |nil=>exact absurd Á hz
  |cons d ss=>
   let M:=(h.a d eP).2;let F:=aaz m;rw[hc] at F;let(J,z):=ap6 hs _ M λg U=>jI.mp F g U;refine Ϧ
   .rw[show hs.M List.length=_ from J,ck];apply iU λg _=>?_;exact ao ..
   .rw[hk,ao] at z;exact z
def yb(L:Flags.Locker)(c d f:Nat):Nat×Nat:=match L.kinds[f]? with
 |some k=>(k.shape,Flags.seenFrom c d k.look)
 |none=>(0,0)
def zN(L:Flags.Locker)(ms:aJ)(cl:LI)(rs:List wx):List (LN×List Face×List (Option (Nat×Nat))):=rs.flatMap λr=>r.2.2.M λd=>(r.1,uU ms cl d r.2.1.flatten,r.2.1.flatten.M λf=>some Ån)
def ap8(cl:LI)(rs:List wx):j0 ms cl rs=(zN L ms cl rs).M λe=>(e.1,e.2.1):=by
 ext j0 zN tj;rw[Sb];simp only[ck];rfl
def ap9(hr:(Àr m).M (·.1)=L.readings B ϗ)(j:∀r∈jd ms rows m,EY L B ms m r)(hc:jz m=false)(q:∀n∈eG m,n<=8):L.ways B ϗ=(zN L ms m.classes (Àr m)).M λe=>(e.1,e.2.2):=by
 ext Flags.Locker.ways zN;rw[<-hr,Sa,Sb];let j:=j;generalize jd ms rows m=rs at j;induction rs with
 |nil=>rfl
 |cons r rs J=>
  rw[z8,z8,J λx F=>j x (aL _ F)];congr 1;let hr:=j r eP;rw[hr.f,ck];apply iU λd hd=>?_;let(w1,_):=hr.w hc;show(r.1,(Flags.flagsOf ϗ).M (L.lookAt Àn d r.2.1))=(r.1,r.2.1.flatten.M λf=>some (yb L Àn d f));rw[<-apW (yb L Àn d) r.2.1 λh z=>q _ (by rw[<-w1];exact z4 z),w1,Je];rfl
def aqa(hk:L.kinds=ms.M bO)(lk:∀k∈ms,gh k.look){cl:LI}(hc:gh cl){d d' f F:Nat}(hd:d=0\/d=1)(J:d'=0\/d'=1)(q:f<ms.L)(j:F<ms.L):jU cl d Ϝ=jU cl d' (ms.D F eX)↔some Ån=Α (yb L (c8 cl) d' F):=by
 let z:∀{f},f<ms.L->ms.D f eX∈ms:=λq=>by
  symm
 ext yb;rw[IP hk q,IP hk j];show(_,_)=(_,_)↔some ((bO _).shape,Flags.seenFrom _ d (bO _).look)=Α ((bO _).shape,Flags.seenFrom _ d' (bO _).look);rw[Option.some.injEq,Prod.mk.injEq,Prod.mk.injEq];exact and_congr Iff.rfl (ap4 hc (lk _ (z q)) (lk _ (z j)) hd J)
def aqb(hk:L.kinds=ms.M bO)(lk:∀k∈ms,gh k.look){cl:LI}(gJ:gh cl){rs:List wx}(O:∀r∈rs,EY L B ms m r)(hc:jz m=false):∀e∈zN L ms cl rs,∀j∈zN L ms cl rs,e.1.L=j.1.L/\lV e.2.1 j.2.1 (fU (eG m))=Flags.numberOf (ya Ãn e.2.2 j.2.2):=λe M j U=>by
 delta zN at M U;let(r,hr,h1):=jh.mp M;let(d,hd,rfl):=bH.mp h1;let(r',oN,Z):=jh.mp U;let(d',j7,rfl):=bH.mp Z;let R:=O r hr;let q:=O r' oN;let(w1,w2):=R.w hc;let(W,J):=q.w hc;let fl:∀{hs:bg},hs.M List.length=eG m->hs.flatten.L=(jA (eG m)).L:=λw=>by
  let:=Qp (eG m);rw[EW,ao] at this;rw[this,Se,w]
 apply(by rw[show r.1.L=_ from R.n];exact q.n.symm,?_);rw[EW];apply ap1 (λf=>jU cl d Ϝ) (λf=>jU cl d' Ϝ) (λf=>some Ån) (λf=>some (yb L (c8 cl) d' f)) _ _ _ (fl w1) (fl W) λx z y F=>?_;let(h,hh,z):=R3.mp z;let(h',Y,F):=R3.mp F;exact aqa hk lk gJ (R.d d hd) (q.d d' j7) (w2 h hh x z) (J h' Y y F)
def aqe{E:List (LN×List Face×List (Option (Nat×Nat)))}{Z p:LN}(up:Up Z)(hp:p∈Flags.choices Z)(h:∀e∈E,∀F∈E,e.1.L=F.1.L/\lV e.2.1 F.2.1 bits=Flags.numberOf (ya Z e.2.2 F.2.2))(hw:L.ways B z=E.M λe=>(e.1,e.2.2))(hq:Flags.flagsOf z=Z):uV (E.M λe=>(e.1,e.2.1)) bits Åq↔((L.parted B z).all λ(l:LN)=>l.any λ(q:Nat)=>p.Y q)=true:=by
 let hp:=up.sublist (EV.mp hp);let hu:∀a b,Up (ya Z a b):=λa b=>up.sublist (ap2 ..);let hc:∀l:LN,Up l->((l.any λ(q:Nat)=>p.Y q)=true↔Flags.numberOf p&&& Flags.numberOf l≠0):=λl hl=>by
  rw[apS hp hl,tw];simp only[B5]
 let hm:∀l,l∈L.parted B z↔ ∃e∈E,∃F∈E,Flags.before e.1 F.1=true/\ya Z e.2.2 F.2.2=l:=λl=>by
  ext Flags.Locker.parted;rw[hw,hq];simp only[abB,jh,bH,iA];apply(λh=>?_,λh=>?_)
  .let(_,(e,J,rfl),_,((F,M,rfl),U),h2):=h;exact(e,J,F,M,U,h2)
  .let(e,J,F,M,U,h2):=h;exact(_,⟨e,J,Á⟩,_,⟨⟨F,M,Á⟩,U⟩,h2)
 rw[jI];let Y:∀{i:Nat}{x},(E.M λe=>((e.1,e.2.1):sZ))[i]? =Α x↔ ∃e,E[i]? =Α e/\(e.1,e.2.1)=x:=λ{i x}=>by
  rw[bA];simp
 apply(λs l hl=>?_,λa y hy=>?_)
 .let(e,J,F,M,U,rfl):=(hm l).mp hl;apply(hc _ (hu ..)).mpr ?_;let hd:=(h e J F M).2;let aN:e.1≠F.1:=λz=>by
   rw[z,apX] at U;cases U
  let(i,hi,O):=nt J;let(j,hj,W):=nt M;let O:E[i]? =Α e:=by rw[cJ hi,O]
  let W:E[j]? =Α F:=by rw[cJ hj,W]
  rw[<-hd];let Bi:i≠j:=λz=>by
   rw[z,W] at O;cases O;exact aN Á
  rcases Nat.lt_or_gt_of_ne Bi with h2|h2
  .rw[aax];exact s _ ⟨j,i,_,_,Y.mpr ⟨_,W,Á⟩,Y.mpr ⟨_,O,Á⟩,λz=>aN z.symm,Á,h2,.inl (by rw[ao];exact hj)⟩
  .exact s _ ⟨i,j,_,_,Y.mpr ⟨_,O,Á⟩,Y.mpr ⟨_,W,Á⟩,aN,Á,h2,.inl (by rw[ao];exact hi)⟩
 .let(i,j,x,x',U,h2,aN,rfl,_,_):=hy;let(e,O,rfl):=Y.mp U;let(F,W,rfl):=Y.mp h2;let J:=bo O;let M:=bo W;let(h3,h4):=h e J F M;rcases apY e.1 F.1 h3 aN with h5|h5
  .show _&&& lV e.2.1 F.2.1 bits≠0;rw[h4];exact(hc _ (hu ..)).mp (a _ ((hm _).mpr ⟨e,J,F,M,h5,Á⟩))
  .show _&&& lV e.2.1 F.2.1 bits≠0;rw[aax,(h F M e J).2];exact(hc _ (hu ..)).mp (a _ ((hm _).mpr ⟨F,M,e,J,h5,Á⟩))
end
def Jf(L:Flags.Locker)(B:Flags.Book)(z:Flags.Plate)(l:bg):Flags.Reply:=if Flags.whole z=false then Flags.says (-3) else if l=[] then Flags.NONE else if Flags.FLAGS<(Flags.flagsOf z).L\/Flags.READINGS<l.L then FlagsK9.TOOMUCH else match L.fewest B z with
 |some m=>Flags.tells (m.L:Nat) [Flags.numberOf m]
 |none=>Flags.says (-10)
def aaB(r:Flags.Reply):LI:=r.ret::((r.nums.M λ(n:Nat)=>(n:Int))++r.bytes.M λ(b:UInt8)=>(b.toNat:Int))
def aaC{m:eW}(z:x3 m):(∀n∈eG m,n<=8)/\Up Ãn/\∀q∈jA (eG m),q<40:=by
 let j:∀n∈eG m,n<=8:=λn J=>by
  let(g,F,rfl):=bH.mp J;exact z.inv.fl g F
 let(U,O):=aaw _ j;apply(j,U,λq M=>?_);let W:=O q M;let h2:(eG m).L=m.aq.L:=ao ..;let Y:=z.inv.c7
 af
def Jg{j p:LN}(U:Up j)(F:∀q∈j,q<40)(z:p∈Flags.choices j):Up p/\(∀q∈p,q<40):=⟨U.sublist (EV.mp z),λq h=>F q ((EV.mp z).subset h)⟩
section
variable{L:Flags.Locker}{B:Flags.Book}{ms:aJ}{rows:bg}{m:eW}
def aqf(z:x3 m)(j:∀r∈jd ms rows m,EY L B ms m r):EU ms m (Àr m):=by
 let(F,U,W):=aaC z;apply(λhc r hr=>?_,λr hr=>(j r hr).sd,λhc r hr=>?_,λc h=>?_)
 .rw[Qp,Se,((j r hr).w hc).1];exact bC _
 .let(w1,Y):=(j r hr).w hc;apply(λh q=>⟨?_,Y h q⟩,?_)
  .let:=F h.L (by rw[<-w1];exact z4 q)
   af
  .let h2:=cb List.length w1;let Z:(eG m).L=m.aq.L:=ao ..;let h4:=z.inv.c7;rw[ao] at h2
   af
 .rw[EW] at h;let(p,J,rfl):=aau.mp h;let(M,O):=Jg U W J;exact(BN p M).1 40 O
def aqg(hr:(Àr m).M (·.1)=L.readings B ϗ)(hk:L.kinds=ms.M bO)(lk:∀k∈ms,gh k.look)(pf:x3 m)(hf:∀r∈jd ms rows m,EY L B ms m r)(h:uW ms m (Àr m) z):aaB (Jf L B ϗ ((Àr m).M (·.1)))=z:=by
 let(h8,U,u2):=aaC pf;let hl:(Flags.flagsOf ϗ).L=(fU (eG m)).L:=by rw[EW,Je,ao]
 ext Jf;rw[aaz,hl,ao,show Flags.FLAGS=12 from rfl,show Flags.READINGS=64 from rfl];let st:jz m=false->∀p∈Flags.choices Ãn,uV (j0 ms m.classes (Àr m)) (fU (eG m)) Åq↔((L.parted B ϗ).all λ(l:LN)=>l.any λ(q:Nat)=>p.Y q)=true:=λhc p Z=>by
  rw[ap8 (L:=L)];exact aqe U Z (aqb hk lk pf.cl hf hc) (ap9 hr hf hc h8) (Je m)
 obtain⟨F,Y,f1,f2⟩:∃F,F=(Flags.choices Ãn).J (λ(p:LN)=>(L.parted B ϗ).all λ(l:LN)=>l.any λ(q:Nat)=>p.Y q)/\(L.fewest B ϗ=Β->F=[]/\(none:Option LN)=Β)/\∀p,L.fewest B ϗ=Α p->(p∈F\/(none:Option LN)=Α p)/\(∀x∈F,¬wy x p)/\∀a,none=Α a->¬wy a p:=⟨_,rfl,by
  rw[<-Je];exact apV _ Á _ none⟩
 let pn:∀p∈Flags.choices Ãn,uT Åq=p.L:=λp Z=>by
  let(q1,q2):=Jg U u2 Z;exact apU q1 q2
 let mp:∀c,c∈gj (fU (eG m))↔ ∃p∈Flags.choices Ãn,c=Flags.numberOf p:=λc=>by
  rw[EW];exact aau
 cases h with
 |cut hc=>
  rw[hc];rfl
 |none hc J=>
  rw[hc,ah Ð,ai (by rw[J];rfl)];rfl
 |aar hc J h=>
  rw[hc,ah Ð,ah λz=>J (RZ.mp z),ai h];rfl
 |never hc J h1 h2 h=>
  rw[hc,ah Ð,ah λz=>J (RZ.mp z),ah Å];cases e:L.fewest B ϗ with
  |none=>rfl
  |some p=>
   let(M,_,_):=f2 p e;rw[Y] at M;let(g2,W):=iA.mp (M.resolve_right Ä);exact absurd ((st hc p g2).mpr W) (h _ ((mp _).mpr ⟨p,g2,Á⟩))
 |some hc J h1 h2 c hm hs Qz=>
  rw[hc,ah Ð,ah λz=>J (RZ.mp z),ah (by omega)];let(j,l6,rfl):=(mp _).mp hm;let O:j∈F:=by rw[Y];exact iA.mpr ⟨l6,(st hc j l6).mp hs⟩
  cases e:L.fewest B ϗ with
  |none=>
   rw[(f1 e).1] at O;cases O
  |some p=>
   let(M,g4,_):=f2 p e;rw[Y] at M;let(g2,W):=iA.mp (M.resolve_right Ä);let h5:=Qz _ ((mp _).mpr ⟨p,g2,rfl⟩) ((st hc p g2).mpr W);let h6:=g4 j O;delta wy at h6;delta mj x6 at h5;rw[pn p g2,pn j l6] at h5;rw[pn j l6];let(q1,q2):=Jg U u2 g2;let(q3,q4):=Jg U u2 l6;let b1:=(BN p q1).1 40 q2;let b2:=(BN j q3).1 40 q4;let:p.L=j.L/\Flags.numberOf p=Flags.numberOf j:=by af
   show[((p.L:Nat):Int),((Flags.numberOf p:Nat):Int)]=_;rw[this.1,this.2]
end
def aqh(j:br t)(U:br b)(Y:br p):
  (∀z,ŵ p=Α z->PyWqbada.ask t b p=[z])/\
  (ŵ p=Β->∀x y m,gO t=Α x->lR x.1 x.2 b=Α y->iq p=.ok m->EU x.2 m (jd x.2 (y.2.M (·.1)) m)/\∀z,uW x.2 m (jd x.2 (y.2.M (·.1)) m) z->PyWqbada.ask t b p=z):=by
 let J:PlateNeutral.callOf [[6],t,b,p]=Α (.ask Án Ϟ Áq):=by
  show(PlateNeutral.text? t >>= λa=>PlateNeutral.text? b >>= λc=>PlateNeutral.text? p >>= λd=>some (FlagsK9.Call.ask a c d))=_;rw[LQ j,LQ U,LQ Y];rfl
 let O:∀r,FlagsK9.ofAll Án Ϟ Áq Jf=r->PyWqbada.ask t b p=aaB r:=λr er=>by
  ext PyWqbada.ask PlateNeutral.f;rw[J,<-er];rfl
 let(Z,a2):=ao9 j U Y Jf;apply(λz hz=>?_,λh x y m q M e3=>?_)
 .rw[O _ (Z z hz)];rfl
 .let(F,e):=a2 h x y m q M e3;let lf:=IR j q;let hr:=ZT (L:=zF x) (B:=zG y) rfl (EH lf) (IS j q) (IT y) (Qi M) F;let W:=ap7 (L:=zF x) (B:=zG y) rfl (EH lf) (IS j q) (IT y) (Qi M) F;exact(aqf F W,λz hz=>(O _ e).R (aqg hr Á (IS j q) F W hz))
end HD
namespace HD
open PySem PySem.Spec PyProof.Rows L2
open PySem.W (Codec)
def yc{K:FR}{C N:Addr}{od Z:OA}{nm Y:Str}{bs sub:LV}{sn:LS}{ab:Bool}{col:Option Bool}{j q z F J:Option Value}{U:Value}{es:Array DictEntry}{ep:Nat}{sl:AO}(M:K.Q C=Α ⟨.type "type",od,.cls ⟨nm,bs,.ref C::vI,N,Y,true,sn,sub,ab,col,false⟩,#[j,q,z,F,some (.builtin "Exception.__new__"),J]⟩) (h2:K.Q N=Α ⟨U,Z,.dict es ep,sl⟩)(O:(es.all λe=>match e.key with|.str _ _=>true|_=>false)=true):UB K C N:=by
 apply(_,_,_,_,_,_,_,_,_,_,_,_,_,M,?_);ext PySem.W.nsOkIn;rw[h2];exact O
def QC{l:LI}(h:l.all Áw=true):JM.br l:=λx j=>by
 let q:=jI.mp h x j;exact Codec.inInt_iff.mp q
def aqj:typeLookup (.type "Exception") ("kind":Str)=pure none:=by rw[typeLookup_type,builtinLookup_eq_fast];kernel_rfl
def aqk:typeLookup (.type "Exception") ("line":Str)=pure none:=by rw[typeLookup_type,builtinLookup_eq_fast];kernel_rfl
section
variable{P:Pg}{w:Wd}{K:FR}{h base:Heap}{mg:MG}
def bY(K:FR)(g x:Str)(st:Stmt):Prop:=∃f fd,PySem.W.nsIn K mainGlobals g=Α Âr/\bu K x x st f fd
def ar1{R:LV->Prop}(h:∀a,R [a]):∀U,U.L=1->R U:=λU j=>by
 let(a,rfl):=WK j;exact h a
def ar2{R:LV->Prop}(h:∀a b,R [a,b]):∀U,U.L=2->R U:=λU j=>by
 let(a,b,rfl):=WL j;exact h a b
def Jh{R:LV->Prop}(h:∀a b c,R [a,b,c]):∀U,U.L=3->R U:=λU j=>by
 let(a,b,c,rfl):=WM j;exact h a b c
def Ji{R:LV->Prop}(h:∀a b c d,R [a,b,c,d]):∀U,U.L=4->R U:=λU j=>by
 let(a,b,c,d,rfl):=akp j;exact h a b c d
theorem Jj{R:LV->Prop}{n:Nat}(h:∀a U,U.L=n->R (a::U)):∀U,U.L=n+1->R U
 |a::U,hl=>h a U (À hl)
def bY.dn(P:Pg)(w:Wd)(base:Heap){CX:oy}{k:Nat}{g x:Str}{st:Stmt}{ps:LS}{sp:Sp}(D:bY K g x st)(X:K.In h)(G:h.Ns mainGlobals mg)(hk:∀f fd,bu K x x st f fd->Ģ CX k f fd ps sp)(z:∀(kV J M:Value)(q:OA)(j ct:Value)(us:LV),us.L=ps.L->bindArgs (PySem.W.fnOf x x (ve st) Çe Âj .none kV J M q j ct) ⟨us,[]⟩=pure Às:=by first|exact λ_ _ _ _ _ _=>ar1 λ_=>Á|exact λ_ _ _ _ _ _=>ar2 λ_ _=>Á|exact λ_ _ _ _ _ _=>Jh λ_ _ _=>Á|exact λ_ _ _ _ _ _=>Ji λ_ _ _ _=>Á):Ċ CX k g ps sp:=
 let ⟨f,fd,a,F⟩:=D
 ⟨f,fd,hk f fd F,PySem.W.mg_of X G a,F.kp,F.binds z⟩
structure lW(K:FR)(x qn:Str)(C:Addr)(st:Stmt)(fs:LS):Prop where
 a:PySem.W.nsIn K mainGlobals x=Α (some Ĉ)
 f:∃g fd,Mk K C g/\bu K "__init__" qn st g fd
 c:l8 K C
 n:(fs.all λf=>match PySem.W.findIn K Ĉ f with|some none=>true|_=>false)=true
def lW.no{x q:Str}{C:Addr}{st:Stmt}{fs:LS}(D:lW K x q C st fs){f:Str}(j:f∈fs):ϱ f:=by
 let:=jI.mp D.n f j;ext g8;split at this
 .assumption
 .cases this
def lW.t{x q:Str}{C:Addr}{st:Stmt}{fs:LS}(D:lW K x q C st fs):ju K C fs:=⟨D.c,λ_ j=>D.no j⟩
def lW.mk'(P:Pg)(w:Wd)(base:Heap){x q:Str}{C:Addr}{st:Stmt}{fs:LS}(D:lW K x q C st fs)(X:K.In h)(G:h.Ns mainGlobals mg)(d:∀f j A outer s H E,l7 (oA aF P w K mg base ("self"::fs) q Âj f j A outer s H E).yw Çe (G0 K 1 fs)) (S:bG ("self"::fs) ("self"::fs) Âj:=by exact cj Á É) (hs:fs.L<=1000:=by decide)(J:∀(kV M O:Value)(z:OA)(j ct:Value)(U:LV),U.L=("self"::fs:LS).L->bindArgs (PySem.W.fnOf "__init__" q (ve st) Çe Âj .none kV M O z j ct) ⟨U,[]⟩=pure (("self"::fs:LS).zip U):=by first|exact λ_ _ _ _ _ _=>Jh λ_ _ _=>Á|exact λ_ _ _ _ _ _=>Ji λ_ _ _ _=>Á|exact λ_ _ _ _ _ _=>Jj λ_=>Ji λ_ _ _ _=>Á|exact λ_ _ _ _ _ _=>Jj λ_=>Jj λ_=>Jj λ_=>Ji λ_ _ _ _=>Á):Ā x C fs:=
 let ⟨g,fd,m,F⟩:=D.f
 ⟨g,fd,m,aid F D.c (λ_ h=>D.no h) S hs (d g),PySem.W.mg_of X G D.a,F.binds J⟩
def Ci(K:FR)(x:Str)(i:Int):Prop:=∃t,PySem.W.nsIn K mainGlobals x=Α (some Âl)
def Ci.cn{x:Str}{i:Int}(c:Ci K x i)(X:K.In h)(G:h.Ns mainGlobals mg):Cn mg x Ãm:=let ⟨t,e⟩:=c;⟨_,PySem.W.mg_of X G e,⟨t,rfl⟩⟩
def Ct(K:FR)(x s:Str):Prop:=∃t,PySem.W.nsIn K mainGlobals x=Α (some (.str s t))
def Ct.cn{x s:Str}(c:Ct K x s)(X:K.In h)(G:h.Ns mainGlobals mg):Cn mg x (.str s):=let ⟨t,e⟩:=c;⟨_,PySem.W.mg_of X G e,⟨t,rfl⟩⟩
def Tu(K:FR)(x:Str)(vs:az):Prop:=∃a o U n s,PySem.W.nsIn K mainGlobals x=Α (some ħ)/\K.Q a=Α ⟨.type "tuple",o,.seq U n,s⟩/\U.u<=100/\bq vs U.toList
def Tu.tn{x:Str}{vs:az}(c:Tu K x vs)(X:K.In h)(G:h.Ns mainGlobals mg):Tn K mg x vs:=let ⟨_,_,_,_,_,e,l,z,v⟩:=c;⟨_,PySem.W.mg_of X G e,λ_=>.inr ⟨_,_,_,l,rfl,rfl,gq z Ð,v⟩⟩
def dfk{g x:Str}{st:Stmt}{f:Addr}{O kV J F j ct:Value}{od q:OA}{z:AO}(a:PySem.W.nsIn K mainGlobals g=Α Âr:=by k_is)(l:K.Q f=Α ⟨O,od,.func (PySem.W.fnOf x x (ve st) Çe Âj .none kV J F q j ct),z⟩:=by k_is)(c:PySem.W.codeIn K j x=true:=by k_is)(k:PySem.W.keepIn K ď=true:=by k_is):bY K g x st:=⟨f,_,a,nP l c k⟩
def gn{x:Str}{i:Int}{t:Tok}(e:PySem.W.nsIn K mainGlobals x=Α (some Âl):=by k_is):Ci K x i:=⟨t,e⟩
def Ab(K:FR)(x:Str):Prop:=PySem.W.nsIn K mainGlobals x=Α none
def pj{x:Str}(e:PySem.W.nsIn K mainGlobals x=Α none:=by k_is):Ab K x:=e
def Ab.z{x:Str}(c:Ab K x)(X:K.In h)(G:h.Ns mainGlobals mg):mg x=Β:=PySem.W.mg_none_of X G c
structure yd(K:FR)(x:Str)(C N:Addr):Prop where
 a:PySem.W.nsIn K mainGlobals x=Α (some Ĉ)
 c:XC K C N
 k:PySem.W.keepIn K Ĉ=true
end
def all_mk{P:Pg}{w:Wd}{K:FR}{h:Heap}{mg:MG}{fa:Addr}(X:K.In h)(G:h.Ns mainGlobals mg)(hfa:mg "ask"=Α (.ref fa)){CS CG CP CK CL CV CQ CE fQ CR CF CA CN NN CB NB CT NT C1 N1 C2 N2 C3 N3 C4 N4 o7 NP cM TM fM:Addr}{ocM kVM dcM pmM ctM:Value}{odM anM odC:OA}{slM slC:AO}{v0 v1 v2 v3 v4 v5 v6 v8 yR LF LG LH LJ LK:Value}{fl tx:Int}{tf tt ts:Tok}{bb:Bool}{xs:Str}(aqy:bY K "cell_behind" "cell_behind" LR)(aqz:bY K "cells_seen" "cells_seen" LU)(aqA:bY K "spelled" "spelled" LW)(aqB:bY K "cut" "cut" LX)(aqC:bY K "whole_lines" "whole_lines" LY)(aqD:bY K "place_among" "place_among" LZ)(aqE:bY K "places_in" "places_in" L6)(aqF:bY K "read_colours" "read_colours" L7)(aqG:bY K "is_name" "is_name" L9)(aqH:bY K "name_behind" "name_behind" Ma)(aqI:bY K "read_locker" "read_locker" Mb)(aqJ:bY K "read_name" "read_name" Mc)(aqK:bY K "read_digit" "read_digit" Md)(aqL:bY K "read_kind" "read_kind" Me)(aqM:bY K "are_in_order_lockers" "are_in_order" Mf)(aqN:bY K "may_follow" "may_follow" Mg)(aqO:bY K "are_different" "are_different" Mh)(aqP:bY K "has_twice" "has_twice" Mi)(aqQ:bY K "read_plate" "read_plate" Ml)(aqR:bY K "read_line" "read_line" Mm)(aqS:bY K "read_side" "read_side" Mn)(aqT:bY K "read_row" "read_row" Mo)(aqU:bY K "may_stand" "may_stand" Mp)(aqV:bY K "lacks_flags" "lacks_flags" Mq)(aqW:bY K "lacks_cells" "lacks_cells" Mr)(aqX:bY K "has_whole_hoists" "has_whole_hoists" Ms)(aqY:bY K "put" "put" Mt)(aqZ:bY K "sighting_of" "sighting_of" Mu)(aq0:bY K "view_of" "view_of" Mv)(aq1:bY K "kinds_along" "kinds_along" Mw)(aq2:bY K "kinds_that_look_so" "kinds_that_look_so" Mx)(aq3:bY K "may_be" "may_be" My)(aq4:bY K "fits" "fits" Mz)(aq5:bY K "hoist_fits" "hoist_fits" MA)(aq6:bY K "fits_at" "fits_at" MB)(aq7:bY K "display_told" "display_told" MM)(aq8:bY K "copies_lacking" "copies_lacking" MN)(aq9:bY K "sames_along" "sames_along" MO)(ara:bY K "bits_of_sames" "bits_of_sames" MP)(arb:bY K "places_of" "places_of" MQ)(arc:bY K "plan_of" "plan_of" MR)(ard:bY K "places_outside" "places_outside" MS)(arf:bY K "copies_in" "copies_in" MT)(arh:bY K "hoist_told" "hoist_told" MU)(ari:bY K "flag_told" "flag_told" MV)(arj:bY K "hang" "hang" MW)(ark:bY K "read_book" "read_book" MX)(arl:bY K "numbers_of_signs" "numbers_of_signs" MY)(arn:bY K "read_entry" "read_entry" MZ)(aro:bY K "read_signs" "read_signs" M0)(arp:bY K "read_meaning" "read_meaning" M3)(arq:bY K "are_in_order_books" "are_in_order" M4)(ars:bY K "can_be_shown" "can_be_shown" M5)(art:bY K "readings_of" "readings_of" M6)(aru:bY K "entries_in_doubt" "entries_in_doubt" M7)(arv:bY K "product" "product" M8)(arw:bY K "all_rows" "all_rows" M9)(arx:bY K "sides_of" "sides_of" Na)(ary:bY K "answered" "answered" Nc)(arz:bY K "found" "found" Nf)(arA:bY K "fewest_flags" "fewest_flags" MC)(arB:bY K "bits_of_flags" "bits_of_flags" MD)(arC:bY K "appearances_of" "appearances_of" ME)(arD:bY K "flags_seen" "flags_seen" MF)(arE:bY K "differences_among" "differences_among" MH)(arF:bY K "difference" "difference" MI)(arG:bY K "choices_of" "choices_of" MJ)(arH:bY K "settles" "settles" MK)(arI:bY K "how_many" "how_many" ML)(arJ:bY K "ask_told" "ask_told" Nb)(Jk:lW K "Sighting" "Sighting.__init__" CS ahP ["shape","cells"])(EZ:lW K "Glimpse" "Glimpse.__init__" CG ahQ ["above","below","flags"])(E1:lW K "Plate" "Plate.__init__" CP ahR ["side","classes","glimpses"])(Y:lW K "Kind" "Kind.__init__" CK ahN ["role","name","which","copies","shape","look"])(zO:lW K "Locker" "Locker.__init__" CL ahO ["name","kinds"])(QD:lW K "View" "View.__init__" CV ahS ["side","glimpses"])(E3:lW K "Plan" "Plan.__init__" CQ ahU ["sames","gaps","spares"])(E4:lW K "Entry" "Entry.__init__" CE ahV ["row","meaning"])(QE:lW K "Book" "Book.__init__" fQ ahW ["name","entries"])(QF:lW K "Reading" "Reading.__init__" CR ahX ["entries","hoists","sides"])(aaD:lW K "Finding" "Finding.__init__" CF ahY ["locker","book","plate","readings"])(QG:lW K "Appearance" "Appearance.__init__" CA ahT ["entries","flags"])(QH:yd K "NoLocker" CN NN)(arK:PySem.W.nsIn K NN "__init__"=Α none)(QI:yd K "NoBook" CB NB)(arL:PySem.W.nsIn K NB "__init__"=Α none)(QJ:yd K "TooMuchInDoubt" CT NT)(arM:PySem.W.nsIn K NT "__init__"=Α none)(QK:yd K "CutOff" C1 N1)(arN:PySem.W.nsIn K N1 "__init__"=Α none)(QL:yd K "NoReading" C2 N2)(arO:PySem.W.nsIn K N2 "__init__"=Α none)(QM:yd K "TooMuchToAsk" C3 N3)(arP:PySem.W.nsIn K N3 "__init__"=Α none)(QN:yd K "NeverSettled" C4 N4)(arQ:PySem.W.nsIn K N4 "__init__"=Α none)(QO:yd K "NoPlate" o7 NP)(y1:PySem.W.nsIn K NP "kind"=Α none)(y2:PySem.W.nsIn K NP "line"=Α none)(y3:∃f fd,PySem.W.nsIn K NP "__init__"=Α Âr/\PySem.W.isFn K ď=true/\bu K "__init__" "NoPlate.__init__" Mj f fd)(nz:PySem.W.findCls K (.type "Exception") (.type "type") "__init__"=Α (.val (.builtin "Exception.__init__")))(QP:Ci K "FRONT" 0)(Jl:Ci K "BEHIND" 1)(Jm:Ci K "CELLS" 16)(Jn:Ci K "ROW" 4)(QQ:Ci K "MOST_BYTES" 65536)(Jo:Ci K "LINE_END" 10)(zP:Ci K "BLANK" 32)(QR:Ci K "LONGEST_NAME" 8)(zQ:Ci K "SIGN" 0)(Jp:Ci K "SAME" 1)(QS:Ci K "MOST_COPIES" 8)(QT:Ci K "MOST_SAME" 4)(QU:Ci K "MOST_SIGNS" 48)(QV:Ci K "DIGIT_ZERO" 48)(QW:Ci K "MOST_HOISTS" 4)(E5:Ci K "MOST_FLAGS" 8)(QX:Ci K "UNKNOWN_SIDE" 2)(QY:Ci K "UNSEEN_SHAPE" 3)(QZ:Ci K "UNSEEN_CELL" 16)(Jq:Ci K "SIDE_LINE" 0)(Jr:Ci K "HOIST_LINE" 1)(Q0:Ci K "SHAPE_LINE" 2)(Q1:Ci K "CELLS_LINE" 3)(Q3:Ci K "NO_SUCH_LINE" 1)(Q4:Ci K "WRONG_PLACE" 2)(Q5:Ci K "TITLE_LINES" 2)(Q6:Ci K "MOST_ENTRIES" 2048)(Q7:Ci K "LONGEST_MEANING" 64)(Q8:Ci K "FULL_STOP" 46)(Q9:Ci K "LAST_PRINTED" 126)(Ra:Ci K "MOST_IN_DOUBT" 1024)(Rb:Ci K "MOST_FLAGS_ASKED" 12)(Rc:Ci K "MOST_READINGS_ASKED" 64)(Re:Ct K "COLOUR_SIGNS" "0123456789abcdef")(Rf:Ct K "NAME_SIGNS" "ABCDEFGHIJKLMNOPQRSTUVWXYZ0123456789")(Rg:Ct K "SEEN_SIGNS" "0123456789abcdef?")(Rh:Tu K "SHAPES" ((["square","tails","long"]:LS).M V.str))(Ri:Tu K "ROLES" ((["sign","same","answer"]:LS).M V.str))(Rj:Tu K "SIDES" ((["front","behind","unknown"]:LS).M V.str))(Rk:Tu K "HOIST_LINES" ((["hoist","hoist above","hoist below","hoist above below"]:LS).M V.str))(Rl:Tu K "SEEN_SHAPES" ((["square","tails","long","shape?"]:LS).M V.str))(Rm:Tu K "WORDS_OF_ROLES" [.int 5,.int 5,.int 4])(Rn:Ab K "ord")(J:Ab K "enumerate")(U:Ab K "all")(E6:Ab K "any")(j:Ab K "len")(O:Ab K "range")(E7:Ab K "sum")(Js:Ab K "dict")(Ro:Ab K "zip")(BO:Ab K "list")(E8:Ab K "max")(E9:Ab K "min")(Jt:Ab K "tuple")(Rp:Ab K "Exception")(aM:PySem.W.nsIn K mainGlobals "ask"=Α (some (.ref fM))) (lM:K.Q fM=Α ⟨ocM,odM,.func (PySem.W.fnOf "ask" "ask" (ve AL) (pA AL) (bc AL) .none kVM dcM pmM anM (.ref cM) ctM),slM⟩) (oM:PySem.W.codeIn K (.ref cM) "ask"=true) (kM:PySem.W.keepIn K (.ref fM)=true)(lC:K.Q cM=Α ⟨.type "code",odC,.fields #[v0,v1,v2,v3,v4,v5,v6,.int fl tf,v8,.bool bb,.int tx tt,.ref TM,yR,LF,LG,LH,LJ,LK,.str xs ts],slC⟩) (neM:(cM==TM)=false) (nT:K.Q TM=Β) (nd:[CN,CB,o7,CT].Nodup) (ND:[C1,C2,C3,C4].Nodup):
  ∃(fd:FD)(o:Obj)(c T:Addr),K.Q fa=Α o/\o.data=.func fd/\fd.code=.ref c/\Lp K c T/\K.Q T=Β/\(∀(s:Sh)(Z:LV),Z.L=(["t","b","p"]:LS).L->BindsTo s fd ⟨Z,[]⟩ ((["t","b","p"]:LS).zip Z))/\
   ∀base:Heap,K.In base->base.Ns mainGlobals mg->Dt mg base->Ë 9 fa fd ["t","b","p"] (QA K):=by
 let e:=hfa.symm.R (PySem.W.mg_of X G aM);cases e;let QP:=QP.cn X G;let Jl:=Jl.cn X G;let Jm:=Jm.cn X G;let Jn:=Jn.cn X G;let QQ:=QQ.cn X G;let Jo:=Jo.cn X G;let zP:=zP.cn X G;let QR:=QR.cn X G;let zQ:=zQ.cn X G;let Jp:=Jp.cn X G;let QS:=QS.cn X G;let QT:=QT.cn X G;let QU:=QU.cn X G;let QV:=QV.cn X G;let QW:=QW.cn X G;let E5:=E5.cn X G;let QX:=QX.cn X G;let QY:=QY.cn X G;let QZ:=QZ.cn X G;let Jq:=Jq.cn X G;let Jr:=Jr.cn X G;let Q0:=Q0.cn X G;let Q1:=Q1.cn X G;let Q3:=Q3.cn X G;let Q4:=Q4.cn X G;let Q5:=Q5.cn X G;let Q6:=Q6.cn X G;let Q7:=Q7.cn X G;let Q8:=Q8.cn X G;let Q9:=Q9.cn X G;let Ra:=Ra.cn X G;let Rb:=Rb.cn X G;let Rc:=Rc.cn X G;let Re:=Re.cn X G;let Rf:=Rf.cn X G;let Rg:=Rg.cn X G;let Rh:=Rh.tn X G;let Ri:=Ri.tn X G;let Rj:=Rj.tn X G;let Rk:=Rk.tn X G;let Rl:=Rl.tn X G;let Rm:=Rm.tn X G;let Rn:=Rn.z X G;let J:=J.z X G;let U:=U.z X G;let E6:=E6.z X G;let j:=j.z X G;let O:=O.z X G;let E7:=E7.z X G;let Js:=Js.z X G;let Ro:=Ro.z X G;let BO:=BO.z X G;let E8:=E8.z X G;let E9:=E9.z X G;let Jt:=Jt.z X G;let Rp:=Rp.z X G;let q:ly K ⟨CS,CG,CP⟩:=⟨Jk.c,EZ.c,E1.c,Jk.no Ä,Jk.no Ä,EZ.no Ä,EZ.no Ä,EZ.no Ä,E1.no Ä,E1.no Ä,E1.no Ä⟩;let M:ue K CK:=⟨Y.c,Y.no Ä,Y.no Ä,Y.no Ä,Y.no Ä,Y.no Ä,Y.no Ä⟩;let TL:LkT K CL:=⟨zO.c,zO.no Ä,zO.no Ä⟩;let XN:Ğ "NoLocker" CN NN:=⟨QH.c,arK,PySem.W.mg_of X G QH.a,QH.k⟩;let XB:Ğ "NoBook" CB NB:=⟨QI.c,arL,PySem.W.mg_of X G QI.a,QI.k⟩;let XT:Ğ "TooMuchInDoubt" CT NT:=⟨QJ.c,arM,PySem.W.mg_of X G QJ.a,QJ.k⟩;let XP:G8 K mg o7 NP:=⟨QO.c,⟨y1,aqj⟩,⟨y2,aqk⟩,PySem.W.mg_of X G QO.a,QO.k⟩;apply(_,_,cM,TM,lM,Á,Á,ahC lC neM,nT,λs Z hu=>.of_eq (Jh (R:=λZ=>bindArgs _ ⟨Z,[]⟩=pure (_:List (Str×Value))) (λ_ _ _=>Á) Z hu),λbase _ _ hb=>?_);let Rq:=aqA.dn P w base X G λf fd F=>ah0 F Rn;let zR:=aqB.dn P w base X G λf fd F=>ah3 F;let(fS,yU,GS,mS,kS,bS):=id Rq;let Rr:=aqD.dn P w base X G λf fd F=>ah6 F J GS mS kS bS;let Rt:=aqE.dn P w base X G λf fd F=>ah8 F U GS mS kS bS;let(fP,Nm,GP,mP,kP,bP):=id Rt;let(uC,mC,rC):=Re;let dCo:=aqF.dn P w base X G λf fd F=>aia F j mC rC GP mP kP bP;let dIN:=aqG.dn P w base X G λf fd F=>aiW F j QR Rf Rt;let dNB:=aqH.dn P w base X G λf fd F=>aiY F j zP zR Rq dIN;let dWL:=aqC.dn P w base X G λf fd F=>ai0 F Jo zR;let dMS:=Jk.mk' P w base X G λ_ _ _ _ _ _ _=>aD Ī (aB ĩ);let dMG:=EZ.mk' P w base X G λ_ _ _ _ _ _ _=>aD Ī ϊ;let dMP:=E1.mk' P w base X G λ_ _ _ _ _ _ _=>aD Ī ϊ;let dMK:=Y.mk' P w base X G λ_ _ _ _ _ _ _=>aD Ī (aD ĩ (aD (fm Ö ö rfl) (aD (fm Ö ę rfl) (aD (fm Ö Ãd rfl) (aB (fm Ö Ϫ rfl))))));let dML:=zO.mk' P w base X G λ_ _ _ _ _ _ _=>aD Ī (aB ĩ);let dMV:=QD.mk' P w base X G λ_ _ _ _ _ _ _=>aD Ī (aB ĩ);let dMQ:=E3.mk' P w base X G λ_ _ _ _ _ _ _=>aD Ī ϊ;let dME:=E4.mk' P w base X G λ_ _ _ _ _ _ _=>aD Ī (aB ĩ);let dMB:=QE.mk' P w base X G λ_ _ _ _ _ _ _=>aD Ī (aB ĩ);let dMR:=QF.mk' P w base X G λ_ _ _ _ _ _ _=>aD Ī ϊ;let dMF:=aaD.mk' P w base X G λ_ _ _ _ _ _ _=>aD Ī (aD ĩ (aD (fm Ö ö rfl) (aB (fm Ö ę rfl))));let dRN:=aqJ.dn P w base X G λf fd F=>ai4 F XN dIN;let dRD:=aqK.dn P w base X G λf fd F=>ai6 F j XN QV;let dRK:=aqL.dn P w base X G λf fd F=>ai9 F j XN zP Ri Rm zQ Jp QT QS Rh zR Rr dRN dRD dCo dMK;let dHT:=aqP.dn P w base X G λf fd F=>ajw F E6 J;let asb:=aqN.dn P w base X G λf fd F=>ajy F M zQ;let dOr:=aqM.dn P w base X G λf fd F=>ajA F M j U J zQ QU asb;let dDi:=aqO.dn P w base X G λf fd F=>ajD F M zQ dHT;let dRL:=aqI.dn P w base X G λf fd F=>ajF F XN dWL dNB dRK dOr dDi dML;let ash:=aqT.dn P w base X G λf fd F=>aif F j Jn Rg Rt;let asi:=aqS.dn P w base X G λf fd F=>aih F j zP Rj zR Rq Rr dCo;let asj:=aqR.dn P w base X G λf fd F=>ail F J Rk Rl asi Rr ash;let Ru:=aqV.dn P w base X G λf fd F=>air F q;let dLC:=aqW.dn P w base X G λf fd F=>aiu F q j Jm Ru;let dWh:=aqX.dn P w base X G λf fd F=>aiw F q Ru dLC;let asm:=aqU.dn P w base X G λf fd F=>aiy F q j Jq Jr Q1 QW E5 Ru dLC;let asn:=aqY.dn P w base X G λf fd F=>aiG F q Jq Jr Q0 dMG dMS;let(gN,V2,n1,n2,FN):=y3;let dNp:VY P w K mg base o7 NP:=⟨_,_,XP,n1,n2,aiN FN XP Rp nz,FN.binds λ_ _ _ _ _ _=>Jh λ_ _ _=>rfl⟩;let dRP:=aqQ.dn P w base X G λf fd F=>aiQ F q j J Jo Q3 Q4 zR dMP dNp asj asm asn dWh;let dBh:=aqy.dn P w base X G λf fd F=>akr F Jn;let dCS:=aqz.dn P w base X G λf fd F=>aks F O Jl Jm dBh;let dSO:=aqZ.dn P w base X G λf fd F=>aku (C:=⟨CS,CG,CP⟩) F M dMS dCS;let ass:=aq3.dn P w base X G λf fd F=>akv F q U J QY QZ;let dKS:=aq2.dn P w base X G λf fd F=>akx F J ass;let dKA:=aq1.dn P w base X G λf fd F=>akz F q dKS;let dVO:=aq0.dn P w base X G λf fd F=>akG F q dMV dSO dKA;let dFA:=aq6.dn P w base X G λf fd F=>akJ F U J;let dHF:=aq5.dn P w base X G λf fd F=>akK F q j E6 O dFA;let dFi:=aq4.dn P w base X G λf fd F=>akM F q QD.t U J dHF;let dBS:=ara.dn P w base X G λf fd F=>akO F M E7 J;let dSA:=aq9.dn P w base X G λf fd F=>akR F j O dBS;let dPO:=ard.dn P w base X G λf fd F=>akS F j;let dCI:=arf.dn P w base X G λf fd F=>akT F M E7 J;let dLa:=aq8.dn P w base X G λf fd F=>akU F M Js;let dPf:=arb.dn P w base X G λf fd F=>ak3 F Ro;let asG:=arc.dn P w base X G λf fd F=>ala F E3.t j BO O E8 dMQ dPO dCI;let dHa:=arj.dn P w base X G λf fd F=>alq F E3.t J E8 E9;let dFT:=ari.dn P w base X G λf fd F=>alx F E3.t j O dHa;let asJ:=arh.dn P w base X G λf fd F=>alD F J dFT;let dDT:=aq7.dn P w base X G λf fd F=>alO F M E3.t BO J E9 Jp dLa dSA dPf asG asJ;let dRM:=arp.dn P w base X G λf fd F=>al1 F j U XB Q7 zP Q9 zR;let dNu:=arl.dn P w base X G λf fd F=>al6 F M Js Jt J zQ;let asM:=aro.dn P w base X G λf fd F=>ama F j Jt XB E5 Q8 zR;let asN:=arn.dn P w base X G λf fd F=>amd F XB zP dME asM dRM;let dOB:=arq.dn P w base X G λf fd F=>ame F E4.t j U J;let dCB:=ars.dn P w base X G λf fd F=>amf F E4.t U dDT;let dRB:=ark.dn P w base X G λf fd F=>aml F XB zO.t j Q5 Q6 dWL dNB dNu asN dOB dCB dMB;let dED:=aru.dn P w base X G λf fd F=>ams F q QE.t E4.t j J;let dPr:=arv.dn P w base X G λf fd F=>amt F;let dSd:=arx.dn P w base X G λf fd F=>amv F q QP Jl QX;let dAR:=arw.dn P w base X G λf fd F=>amC F;let dRe:=art.dn P w base X G λf fd F=>amQ F XT q zO.t QE.t E4.t QD.t j Ra dED dPr dVO dSd dAR dDT dFi dMR;let dFo:=arz.dn P w base X G λf fd F=>ank (k:=⟨⟨CS,CG,CP⟩,CL,CK,fQ,CE,CR,CF⟩) F dRL dRB dRP dRe dMF;let X1:Ğ "CutOff" C1 N1:=⟨QK.c,arN,PySem.W.mg_of X G QK.a,QK.k⟩;let X2:Ğ "NoReading" C2 N2:=⟨QL.c,arO,PySem.W.mg_of X G QL.a,QL.k⟩;let X3:Ğ "TooMuchToAsk" C3 N3:=⟨QM.c,arP,PySem.W.mg_of X G QM.a,QM.k⟩;let X4:Ğ "NeverSettled" C4 N4:=⟨QN.c,arQ,PySem.W.mg_of X G QN.a,QN.k⟩;let dMA:=QG.mk' P w base X G λ_ _ _ _ _ _ _=>aD Ī (aB ĩ);let dHo:=arI.dn P w base X G λf fd F=>apb F;let dSe:=arH.dn P w base X G λf fd F=>apc F;let dCh:=arG.dn P w base X G λf fd F=>apd F;let dDf:=arF.dn P w base X G λf fd F=>apf F QG.t E7 J;let dBF:=arB.dn P w base X G λf fd F=>apg F q j O J E5;let dFS:=arD.dn P w base X G λf fd F=>apn F q QF.t dSO;let dAp:=arC.dn P w base X G λf fd F=>apr F QF.t dMA dFS;let dDs:=arE.dn P w base X G λf fd F=>apE F QG.t J BO dDf;let dFw:=arA.dn P w base X G λf fd F=>apJ F X1 X2 X3 X4 q E6 j E9 Rb Rc dBF dAp dDs dCh dSe dHo;let dNt:=arJ.dn P w base X G λf fd F=>apN (k:=⟨⟨CS,CG,CP⟩,CL,CK,fQ,CE,CR,CF⟩) F aaD.t zO.t X1 X2 X3 X4 ND BO dFw;let(fT,PQ,LT,mT,kT,bT):=dNt;let dAn:=ary.dn P w base X G λf fd F=>anq (k:=⟨⟨CS,CG,CP⟩,CL,CK,fQ,CE,CR,CF⟩) F XN XB XP XT nd j E8 QQ dFo LT kT bT;exact apP (nP (st:=AL) lM oM kM) mT dAn
end HD
section
open PySem.W (Codec)
open PySem PySem.W PyProof.Rows HD
set_option maxRecDepth 100000 in
set_option maxHeartbeats 0 in
theorem PySem.Challenge.cw_halfseendesk_s06_ask_holds : PySem.Challenge.rw_halfseendesk_s06_ask.Holds := by
 refine PySem.W.holds_os (q:=kQ) (loose:=kL) (Xt:=kX) (XP:=PySem.W.XL kQ []) (Yf:=PySem.W.Hook.obs ş) (Ya:=PySem.W.Hook.val ş) (YP:=PySem.W.Hook.says ş) (N:=13806) abV (PySem.W.Hook.of ş) (PySem.W.Hook.keeps ş) (λs e=>PySem.W.xl_of s (tF.mp e).1) PySem.W.XL.keeps Ï Ï Ï (λs e=>PySem.W.recFacts_of (tF.mp e).2) PySem.W.os_shapes É É ⟨Á,Á,Á,Á,Á,by decide+kernel⟩ ⟨[.list [],.list [],.list []],by decide+kernel,by decide+kernel⟩ ?hc;let g0:(Sf,kK)=(Sf,kK):=by
  k_fill
  rfl
 refine L2.ahw (r:=PySem.Challenge.rw_halfseendesk_s06_ask) (k:=9) (CX:=L2.aF) (ps:=["t","b","p"]) (sp:=λK _=>QA K) É Á Á ⟨Á,by decide,by decide⟩ (λw h Y=>PySem.W.kIn_of Y) (by kernel_rfl) ?F ?S (λ_ _ _ _ z=>z)
 case F=>
  intro w mg fa h Y KX G GO;exact all_mk KX G GO dfk dfk dfk dfk dfk dfk dfk dfk dfk dfk dfk dfk dfk dfk dfk dfk dfk dfk dfk dfk dfk dfk dfk dfk dfk dfk dfk dfk dfk dfk dfk dfk dfk dfk dfk dfk dfk dfk dfk dfk dfk dfk dfk dfk dfk dfk dfk dfk dfk dfk dfk dfk dfk dfk dfk dfk dfk dfk dfk dfk dfk dfk dfk dfk dfk dfk dfk dfk dfk dfk Æ Æ Æ Æ Æ Æ Æ Æ Æ Æ Æ Æ Ø (by k_is) Ø (by k_is) Ø (by k_is) Ø (by k_is) Ø (by k_is) Ø (by k_is) Ø (by k_is) Ø (by k_is) (by k_is) ⟨_,_,by k_is,by k_is,L2.nP (by k_is) (by k_is) (by k_is)⟩ (by k_is) gn gn gn gn gn gn gn gn gn gn gn gn gn gn gn gn gn gn gn gn gn gn gn gn gn gn gn gn gn gn gn gn gn ⟨_,by k_is⟩ ⟨_,by k_is⟩ ⟨_,by k_is⟩ é é é é é é pj pj pj pj pj pj pj pj pj pj pj pj pj pj
   (by k_is) (by k_is) (by k_is) (by k_is) (by k_is) Ï (by kernel_rfl) Ð Ð
 case S=>
  intro K T H xs a hT vA avI hx;let(t,b,p,u):=a;cases hx with
  |cons h1 h2=>
   cases h2 with
   |cons h3 h4=>
    cases h4 with
    |cons h5 h6=>
     cases h6;cases h1 with
     |lst s1 a1=>
      cases h3 with
      |lst s2 a2=>
       cases h5 with
       |lst s3 a3=>
        let e:=L2.Lr t _ a1;subst e;let e:=L2.Lr b _ a2;subst e;let e:=L2.Lr p _ a3;subst e;let q:((Codec.inLen 0 66000 t&&t.all Áw)&&((Codec.inLen 0 66000 b&&b.all Áw)&&((Codec.inLen 0 66000 p&&p.all Áw)&&true)))=true:=vA;simp only[jH] at q;let((q1,q2),(q3,q4),(q5,q6),_):=q;let t8:JM.br t:=QC q2;let b8:JM.br b:=QC q4;let p8:JM.br p:=QC q6;let(m1,m2):=aqh t8 b8 p8;apply(_,_,_,t,b,p,Á,s1,s2,s3,(abJ.mp q1).2,(abJ.mp q3).2,(abJ.mp q5).2,λx e=>aom t8 e,λm e=>aoT p8 e,λz hz H' r hr=>?_,λhz x y m e1 e2 e3=>⟨(m2 hz x y m e1 e2 e3).1,λz Nj H' r hr=>?_⟩)
        .show L2.Dw K H' _ (.list ((PyWqbada.ask t b p).M .int));rw[m1 z hz];exact .lst (L2.aa.of hr) (L2.Vl [z])
        .show L2.Dw K H' _ (.list ((PyWqbada.ask t b p).M .int));rw[(m2 hz x y m e1 e2 e3).2 z Nj];exact .lst (L2.aa.of hr) (L2.Vl _)
#print axioms PySem.Challenge.cw_halfseendesk_s06_ask_holds
end
